import PyProof.Rows.All
import Wide.All
import OpenK.AllK
import Wide.FinOn
import PyProof.EqAt
import PyProof.EqKinds
import PyProof.TupleCall
import KE.BitLaws
import KE.LcSums
import Open.SpecLaws
import KE.OsHead
import KE.OsGo
import PySem.Challenge.RW_halfrowsdesk_s03_is_kind
set_option Elab.async false
set_option linter.all false
set_option maxRecDepth 100000
namespace L2
open PySem PySem.Spec PyProof.Rows
abbrev Key := Sum Int Str
def keyIs : Key → Value → Bool
  | .inl k, v => Value.isInt k v
  | .inr x, v => Value.isStrOf x v
def keyH (w : World) : Key → Int
  | .inl k => hashInt k
  | .inr x => hashStr w x
theorem keyIs_shape : ∀ {k : Key} {v : Value}, keyIs k v = true → (∃ i t, k = Sum.inl i ∧ v = Value.int i t) ∨ (∃ x t, k = Sum.inr x ∧ v = Value.str x t)
  | .inl i, v, h => by
    obtain ⟨t, e⟩ := Value.isInt_shape (k := i) (v := v) h
    exact .inl ⟨i, t, rfl, e⟩
  | .inr x, v, h => by
    obtain ⟨t, e⟩ := Value.isStrOf_shape (x := x) (v := v) h
    exact .inr ⟨x, t, rfl, e⟩
theorem key_ll (a b : Int) : decide ((Sum.inl a : Key) = Sum.inl b) = (a == b) := by
  by_cases e : a = b
  · subst e; simp
  · have h : ¬ (Sum.inl a : Key) = Sum.inl b := fun q => e (Sum.inl.inj q)
    rw [decide_eq_false h]
    exact (beq_eq_false_iff_ne.mpr e).symm
theorem key_rr (a b : Str) : decide ((Sum.inr a : Key) = Sum.inr b) = decide (a = b) := by
  by_cases e : a = b
  · subst e; simp
  · have h : ¬ (Sum.inr a : Key) = Sum.inr b := fun q => e (Sum.inr.inj q)
    rw [decide_eq_false h, decide_eq_false e]
theorem key_lr (a : Int) (b : Str) : decide ((Sum.inl a : Key) = Sum.inr b) = false := decide_eq_false (fun q => nomatch q)
theorem key_rl (a : Str) (b : Int) : decide ((Sum.inr a : Key) = Sum.inl b) = false := decide_eq_false (fun q => nomatch q)
def mixKind (prog : Program) (w : World) : PySem.KeyKind prog w Key where
  is := keyIs
  hash := keyH w
  inj := fun v a b ha hb => by
    rcases keyIs_shape ha with ⟨i, t, rfl, rfl⟩ | ⟨x, t, rfl, rfl⟩
    · rcases keyIs_shape hb with ⟨j, u, rfl, e⟩ | ⟨y, u, rfl, e⟩
      · injection e with e1 _; rw [e1]
      · exact nomatch e
    · rcases keyIs_shape hb with ⟨j, u, rfl, e⟩ | ⟨y, u, rfl, e⟩
      · exact nomatch e
      · injection e with e1 _; rw [e1]
  byValue := fun k v h => by
    rcases keyIs_shape h with ⟨i, t, rfl, rfl⟩ | ⟨x, t, rfl, rfl⟩ <;> rfl
  pyHash := fun hv h => by
    rcases keyIs_shape hv with ⟨i, t, rfl, rfl⟩ | ⟨x, t, rfl, rfl⟩
    · exact wpAny_pyHash_int h
    · exact wpAny_pyHash_str h
  eqBool := fun hu hv h => by
    rcases keyIs_shape hu with ⟨i, t, rfl, rfl⟩ | ⟨x, t, rfl, rfl⟩
    · rcases keyIs_shape hv with ⟨j, u, rfl, rfl⟩ | ⟨y, u, rfl, rfl⟩
      · rw [key_ll] at h; exact wpAny_eqBool_int h
      · rw [key_lr] at h; exact SeqAt.EqAt.int_str i t y u _ _ _ _ h
    · rcases keyIs_shape hv with ⟨j, u, rfl, rfl⟩ | ⟨y, u, rfl, rfl⟩
      · rw [key_rl] at h; exact SeqAt.EqAt.str_int x t j u _ _ _ _ h
      · rw [key_rr] at h; exact wpAny_eqBool_str h
  «strs» := fun k x t v h => by
    rcases keyIs_shape h with ⟨i, u, rfl, e⟩ | ⟨y, u, rfl, e⟩
    · exact nomatch e
    · injection e with e1 _
      subst e1
      cases v <;> rfl
end L2
namespace L2
open PySem PySem.Spec PyProof.Rows
inductive V where
  | non | bl (b : Bool) | int (i : Int) | str (x : Str) | byt (b : Array UInt8) | flt (b : UInt64) | ref (a : Addr) | ty (n : String)
  deriving DecidableEq
def RelV : V → Value → Prop
  | .non, u => u = Value.none
  | .bl b, u => u = Value.bool b
  | .int i, u => ∃ t, u = Value.int i t
  | .str x, u => ∃ t, u = Value.str x t
  | .byt b, u => ∃ t, u = Value.bytes b t
  | .flt b, u => ∃ t, u = Value.float b t
  | .ref a, u => u = Value.ref a
  | .ty n, u => u = Value.type n
abbrev Vals : List V → List Value → Prop := Paired RelV
theorem Vals.length {xs : List V} {us : List Value} (r : Vals xs us) : xs.length = us.length := Paired.length r
theorem Vals.get : ∀ {xs : List V} {us : List Value} {i : Nat} {x : V}, Vals xs us → xs[i]? = some x → ∃ u, us[i]? = some u ∧ RelV x u
  | _, _, _, _, .nil, e => by simp at e
  | _, _, 0, _, .cons r _, e => by simp at e; subst e; exact ⟨_, rfl, r⟩
  | _, _, i + 1, x, .cons _ t, e => by
    obtain ⟨u, h1, h2⟩ := Vals.get (i := i) (x := x) t (by simpa using e)
    exact ⟨u, by simpa using h1, h2⟩
theorem Vals.set {x : V} {u : Value} (r : RelV x u) : ∀ {xs : List V} {us : List Value} (i : Nat), Vals xs us → Vals (xs.set i x) (us.set i u)
  | _, _, _, .nil => .nil
  | _, _, 0, .cons _ t => .cons r t
  | _, _, i + 1, .cons q t => .cons q (Vals.set r i t)
theorem Vals.append : ∀ {xs ys : List V} {us ws : List Value}, Vals xs us → Vals ys ws → Vals (xs ++ ys) (us ++ ws)
  | _, _, _, _, .nil, s => s
  | _, _, _, _, .cons r t, s => .cons r (Vals.append t s)
theorem Vals.take : ∀ {xs : List V} {us : List Value} (n : Nat), Vals xs us → Vals (xs.take n) (us.take n)
  | _, _, 0, _ => .nil
  | _, _, _ + 1, .nil => .nil
  | _, _, n + 1, .cons r t => .cons r (Vals.take n t)
theorem Vals.drop : ∀ {xs : List V} {us : List Value} (n : Nat), Vals xs us → Vals (xs.drop n) (us.drop n)
  | _, _, 0, r => r
  | _, _, _ + 1, .nil => .nil
  | _, _, n + 1, .cons _ t => Vals.drop n t
def RelO : Option V → Option Value → Prop
  | some v, some u => RelV v u
  | none, none => True
  | _, _ => False
def KV {κ : Type} : List (κ × V) → List (κ × Value) → Prop := Paired fun (p : κ × V) (q : κ × Value) => p.1 = q.1 ∧ RelV p.2 q.2
def kV : Key → V
  | .inl i => .int i
  | .inr x => .str x
inductive HO where
  /-- a list -/
  | lst (xs : List V)
  /-- a tuple (never changes) -/
  | tup (xs : List V)
  /-- a dict whose keys are ints and texts; one whose keys are tuples of ints and texts (the empty one is both) -/
  | dK (kvs : List (Key × V)) | dT (kvs : List (List Key × V))
  /-- a set of ints: its members, its size -/
  | set (S : Int → Bool) (n : Nat)
  /-- an instance of the class at C, its dict at dx, its attributes -/
  | ins (C dx : Addr) (fs : List (Str × V))
  /-- the dict of the instance at x -/
  | own (x : Addr)
  /-- the dict of an exception -/
  | xd (fs : List (Str × V))
  /-- a bound method, f of x -/
  | met (f x : Addr)
  /-- a range object lo, lo + 1, .. below hi -/
  | rng (lo hi : Int)
  /-- a thing that is known to the object (the script; a dict while a loop walks it): read, never written while it is so -/
  | frz (o : Obj) (u : HO)
  /-- a code object's table -/
  | tbl (ps : Array Value)
  /-- any other thing, by what is true of its one object (a def of one's own: SetO a S n := HO.ext fun h => ..) -/
  | ext (φ : Heap → Prop)
abbrev Hp := Addr → Option HO
def upd (H : Hp) (a : Addr) (o : HO) : Hp := fun b => if b = a then some o else H b
theorem upd_same {H : Hp} {a : Addr} {o : HO} : upd H a o a = some o := by unfold upd; rw [if_pos rfl]
theorem upd_ne {H : Hp} {a b : Addr} {o : HO} (h : b ≠ a) : upd H a o b = H b := by unfold upd; rw [if_neg h]
theorem ne_of_none {H : Hp} {a b : Addr} {o : HO} (h : H a = some o) (h' : H b = none) : a ≠ b := by
  intro e; subst e; rw [h] at h'; cases h'
section
variable (P : Program) (w : World)
def ObjOk (H : Hp) (h : Heap) (a : Addr) : HO → Prop
  | .lst xs => xs.length ≤ sizeLine ∧ ∃ (its : List Value) (n : Nat), Vals xs its ∧ h.get? a = some { cls := .type "list", data := .seq its.toArray n }
  | .tup xs => xs.length ≤ sizeLine ∧ ∃ its : List Value, Vals xs its ∧ IsTup h a its.toArray
  | .dK kvs => kvs.length ≤ sizeLine ∧ (a == sysModules) = false ∧ ∃ vs, KV kvs vs ∧ h.DictOf (mixKind P w) a vs
  | .dT kvs => kvs.length ≤ sizeLine ∧ (a == sysModules) = false ∧ ∃ xs : List (List Key × Addr × Value),
      Paired (fun (p : List Key × V) (q : List Key × Addr × Value) => p.1 = q.1 ∧ H q.2.1 = some (.tup (p.1.map kV)) ∧ RelV p.2 q.2.2) kvs xs ∧
      ∃ o es ep, h.get? a = some o ∧ o.ExactDict ∧ o.data = .dict es ep ∧ es.toList = xs.map (entryOfKey (tupleKind (mixKind P w))) ∧ (xs.map (·.1)).Nodup
  | .set S n => h.SetOf (intKind P w) a S n
  | .ins C dx fs => H dx = some (.own a) ∧ fs.length ≤ 1000 ∧ dx ≠ a ∧ h.get? a = some (PySem.W.instObj C dx) ∧
      ∃ mA, h.Ns1 dx mA ∧ (∀ f, RelO (fs.lookup f) (mA f)) ∧ PySem.Within mA (fs.map (·.1))
  | .own _ => ∃ o, h.get? a = some o
  | .xd fs => ∃ mA, h.Ns1 a mA ∧ ∀ f, RelO (fs.lookup f) (mA f)
  | .rng lo hi => ∃ t u v, h.get? a = some { cls := .type "range", data := .fields #[.int lo t, .int hi u, .int 1 v] }
  | .frz o u => h.get? a = some o ∧ ObjOk H h a u
  | .tbl ps => h.get? a = some { cls := .none, data := .fields ps }
  | .met f x => h.get? a = some (PySem.W.methodObj (.ref f) (.ref x))
  | .ext φ => φ h ∧ (∃ o, h.get? a = some o) ∧ ∀ h1 h2 : Heap, φ h1 → (∀ o, h1.get? a = some o → h2.get? a = some o) → φ h2
def HOk (H : Hp) (h : Heap) : Prop := ∀ a o, H a = some o → ObjOk P w H h a o
end
section
variable {P : Program} {w : World} {H H' : Hp} {h h' : Heap} {a : Addr} {o : HO}
theorem ObjOk.lt (x : ObjOk P w H h a o) : a < h.objs.size := by
  cases o with
  | lst xs => obtain ⟨_, _, _, _, e⟩ := x; exact Heap.lt_size e
  | tup xs => obtain ⟨_, _, _, p⟩ := x; exact p.lt
  | dK kvs => obtain ⟨_, _, _, _, o, _, _, e, _⟩ := x; exact Heap.lt_size e
  | dT kvs => obtain ⟨_, _, _, _, o, _, _, e, _⟩ := x; exact Heap.lt_size e
  | set S n => obtain ⟨o, _, _, _, e, _⟩ := x; exact Heap.lt_size e
  | ins C dx fs => obtain ⟨_, _, _, e, _⟩ := x; exact Heap.lt_size e
  | own y => obtain ⟨_, e⟩ := x; exact Heap.lt_size e
  | xd fs => obtain ⟨_, ⟨_, _, _, e, _⟩, _⟩ := x; exact Heap.lt_size e
  | rng lo hi => obtain ⟨_, _, _, e⟩ := x; exact Heap.lt_size e
  | frz ob u => obtain ⟨e, _⟩ := x; exact Heap.lt_size e
  | tbl ps => exact Heap.lt_size (show h.get? a = some _ from x)
  | met f y => exact Heap.lt_size (show h.get? a = some _ from x)
  | ext φ => obtain ⟨_, ⟨_, e⟩, _⟩ := x; exact Heap.lt_size e
theorem Paired.mapP {α β : Type} {F G : α → β → Prop} : ∀ {l₁ : List α} {l₂ : List β}, Paired F l₁ l₂ → (∀ a b, F a b → G a b) → Paired G l₁ l₂
  | _, _, .nil, _ => .nil
  | _, _, .cons r t, f => .cons (f _ _ r) (Paired.mapP t f)
theorem ObjOk.stay (x : ObjOk P w H h a o) (k : ∀ b u, (b = a ∨ H b = some (.own a)) → h.get? b = some u → h'.get? b = some u)
    (ho : ∀ b, H b = some (.own a) → H' b = some (.own a)) (ht : ∀ b xs, H b = some (.tup xs) → H' b = some (.tup xs)) : ObjOk P w H' h' a o := by
  induction o with
  | lst xs => obtain ⟨z, its, n, r, e⟩ := x; exact ⟨z, its, n, r, k _ _ (.inl rfl) e⟩
  | tup xs => obtain ⟨z, its, r, ob, e, c⟩ := x; exact ⟨z, its, r, ob, k _ _ (.inl rfl) e, c⟩
  | dK kvs => obtain ⟨z, y, vs, r, ob, es, ep, e, c⟩ := x; exact ⟨z, y, vs, r, ob, es, ep, k _ _ (.inl rfl) e, c⟩
  | dT kvs =>
    obtain ⟨z, y, xs, r, ob, es, ep, e, c⟩ := x
    exact ⟨z, y, xs, Paired.mapP r fun p q z => ⟨z.1, ht _ _ z.2.1, z.2.2⟩, ob, es, ep, k _ _ (.inl rfl) e, c⟩
  | set S n => obtain ⟨ob, es, ep, t, e, c⟩ := x; exact ⟨ob, es, ep, t, k _ _ (.inl rfl) e, c⟩
  | ins C dx fs =>
    obtain ⟨d, z, ne, e, mA, ⟨od, es, ep, e2, c⟩, r⟩ := x
    exact ⟨ho _ d, z, ne, k _ _ (.inl rfl) e, mA, ⟨od, es, ep, k _ _ (.inr d) e2, c⟩, r⟩
  | own y => obtain ⟨ob, e⟩ := x; exact ⟨ob, k _ _ (.inl rfl) e⟩
  | xd fs => obtain ⟨mA, ⟨od, es, ep, e, c⟩, r⟩ := x; exact ⟨mA, ⟨od, es, ep, k _ _ (.inl rfl) e, c⟩, r⟩
  | rng lo hi => obtain ⟨t, u, v, e⟩ := x; exact ⟨t, u, v, k _ _ (.inl rfl) e⟩
  | frz ob u ih => obtain ⟨e, q⟩ := x; exact ⟨k _ _ (.inl rfl) e, ih q⟩
  | tbl ps =>
    have e : h.get? a = some { cls := .none, data := .fields ps } := x
    show h'.get? a = some { cls := .none, data := .fields ps }
    exact k a _ (.inl rfl) e
  | met f y =>
    have e : h.get? a = some (PySem.W.methodObj (.ref f) (.ref y)) := x
    show h'.get? a = some (PySem.W.methodObj (.ref f) (.ref y))
    exact k a _ (.inl rfl) e
  | ext φ => obtain ⟨p, ⟨o, e⟩, st⟩ := x; exact ⟨st _ _ p fun o q => k _ _ (.inl rfl) q, ⟨o, k _ _ (.inl rfl) e⟩, st⟩
theorem HOk.lt (x : HOk P w H h) (e : H a = some o) : a < h.objs.size := (x a o e).lt
theorem HOk.fresh (x : HOk P w H h) (e : h.objs.size ≤ a) : H a = none := by
  cases q : H a with
  | none => rfl
  | some u => exact absurd (Nat.lt_of_lt_of_le (x.lt q) e) (Nat.lt_irrefl _)
theorem HOk.kept (x : HOk P w H h) (k : ∀ b u, h.get? b = some u → h'.get? b = some u) : HOk P w H h' := fun a o e =>
  (x a o e).stay (fun b u _ q => k b u q) (fun _ q => q) fun _ _ q => q
theorem HOk.laid (x : HOk P w H h) (k : ∀ b u, h.get? b = some u → h'.get? b = some u) (hp : h.objs.size ≤ a) (new : ObjOk P w (upd H a o) h' a o) : HOk P w (upd H a o) h' := fun b u e => by
  have hn := x.fresh hp
  by_cases hb : b = a
  · subst hb; rw [upd_same] at e; cases e; exact new
  · rw [upd_ne hb] at e
    exact (x b u e).stay (fun c v _ q => k c v q) (fun c q => by rw [upd_ne (ne_of_none q hn)]; exact q) fun c xs q => by rw [upd_ne (ne_of_none q hn)]; exact q
end
def Rd (H : Hp) (a : Addr) (u : HO) : Prop := H a = some u ∨ ∃ o, H a = some (.frz o u)
theorem Rd.of {H : Hp} {a : Addr} {u : HO} (h : H a = some u) : Rd H a u := .inl h
theorem Rd.ok {P : Program} {w : World} {H : Hp} {h : Heap} {a : Addr} {u : HO} (r : Rd H a u) (x : HOk P w H h) : ObjOk P w H h a u := by
  rcases r with r | ⟨o, r⟩
  · exact x a u r
  · obtain ⟨_, q⟩ := x a _ r
    exact q
section
variable {P : Program} {w : World} {H : Hp} {h h' : Heap} {x e : Addr} {o' : HO}
end
structure Un (fs ex : List Addr) (H H' : Hp) (h h' : Heap) : Prop where
  keep : ∀ b o, h.get? b = some o → H b = none → b ∉ fs → b ∉ ex → h'.get? b = some o
  slot : ∀ b o, h.get? b = some o → H b = none → b ∈ fs → b ∉ ex → ∃ sl, h'.get? b = some { o with slots := sl }
  free : ∀ b o, h.get? b = some o → H b = none → b ∉ ex → H' b = none
  there : ∀ b o, h.get? b = some o → b ∉ ex → ∃ o', h'.get? b = some o'
  tups : ∀ b xs, H b = some (.tup xs) → H' b = some (.tup xs)
  frzs : ∀ b o u, H b = some (.frz o u) → H' b = some (.frz o u)
  tbls : ∀ b ps, H b = some (.tbl ps) → ∃ more, H' b = some (.tbl (ps ++ more))
section
variable {fs fs' ex ex' : List Addr} {H H1 H2 : Hp} {h h1 h2 h' : Heap} {a x e : Addr} {o : HO}
theorem Un.any (u : Un fs ex H H1 h h1) {b : Addr} {ob : Obj} (q : h.get? b = some ob) (n : H b = none) (hx : b ∉ ex) : ∃ sl, h1.get? b = some { ob with slots := sl } := by
  by_cases hb : b ∈ fs
  · exact u.slot b ob q n hb hx
  · exact ⟨ob.slots, u.keep b ob q n hb hx⟩
theorem Un.trans (a : Un fs ex H H1 h h1) (b : Un fs ex H1 H2 h1 h2) : Un fs ex H H2 h h2 where
  keep := fun c ob q n hc hx => b.keep c ob (a.keep c ob q n hc hx) (a.free c ob q n hx) hc hx
  slot := fun c ob q n hc hx => by
    obtain ⟨sl, e1⟩ := a.slot c ob q n hc hx
    obtain ⟨sl', e2⟩ := b.slot c _ e1 (a.free c ob q n hx) hc hx
    exact ⟨sl', e2⟩
  free := fun c ob q n hx => by
    obtain ⟨o', e1⟩ := a.there c ob q hx
    exact b.free c o' e1 (a.free c ob q n hx) hx
  there := fun c ob q hx => by
    obtain ⟨o', e1⟩ := a.there c ob q hx
    exact b.there c o' e1 hx
  tups := fun c xs q => b.tups c xs (a.tups c xs q)
  frzs := fun c ob xs q => b.frzs c ob xs (a.frzs c ob xs q)
  tbls := fun c ps q => by
    obtain ⟨m1, e1⟩ := a.tbls c ps q
    obtain ⟨m2, e2⟩ := b.tbls c _ e1
    exact ⟨m1 ++ m2, by rw [e2, Array.append_assoc]⟩
theorem Un.kept (k : ∀ b u, h.get? b = some u → h'.get? b = some u) : Un fs ex H H h h' :=
  ⟨fun b ob q _ _ _ => k b ob q, fun b ob q _ _ _ => ⟨ob.slots, k b ob q⟩, fun _ _ _ n _ => n, fun b ob q _ => ⟨ob, k b ob q⟩, fun _ _ q => q, fun _ _ _ q => q, fun _ ps q => ⟨#[], by rw [q]; simp⟩⟩
theorem Un.refl : Un fs ex H H h h := Un.kept fun _ _ q => q
theorem Un.laid (k : ∀ b u, h.get? b = some u → h'.get? b = some u) (hp : h.objs.size ≤ a) (hn : H a = none) : Un fs ex H (upd H a o) h h' where
  keep := fun b u q _ _ _ => k b u q
  slot := fun b u q _ _ _ => ⟨u.slots, k b u q⟩
  free := fun b u q n _ => by rw [upd_ne (Nat.ne_of_lt (Nat.lt_of_lt_of_le (Heap.lt_size q) hp))]; exact n
  there := fun b u q _ => ⟨u, k b u q⟩
  tups := fun b xs q => by rw [upd_ne (ne_of_none q hn)]; exact q
  frzs := fun b u xs q => by rw [upd_ne (ne_of_none q hn)]; exact q
  tbls := fun b ps q => ⟨#[], by rw [upd_ne (ne_of_none q hn), q]; simp⟩
theorem Un.mono (u : Un fs ex H H1 h h1) (hs : ∀ b ∈ fs, b ∈ fs') (hx : ∀ b ∈ ex, b ∈ ex') : Un fs' ex' H H1 h h1 :=
  ⟨fun b ob q n hb he => u.keep b ob q n (fun z => hb (hs b z)) fun z => he (hx b z), fun _ _ q n _ he => u.any q n fun z => he (hx _ z), fun b ob q n he => u.free b ob q n fun z => he (hx b z), fun b ob q he => u.there b ob q fun z => he (hx b z), u.tups, u.frzs, u.tbls⟩
end
def trk (h : Heap) (H : Hp) : List Addr := (List.range h.objs.size).filter fun a => (H a).isSome
def hidT (h : Heap) (H : Hp) : Heap := PySem.W.hideAll h (trk h H)
theorem hidT_size (h : Heap) (H : Hp) : (hidT h H).objs.size = h.objs.size := PySem.W.hideAll_size _ _
theorem hidT_get {h : Heap} {H : Hp} {b : Addr} {o : Obj} (e : h.get? b = some o) (n : H b = none) : (hidT h H).get? b = some o :=
  PySem.W.hideAll_get _ e fun hm => by
    have q : (H b).isSome = true := (List.mem_filter.mp hm).2
    rw [n] at q; simp at q
theorem of_hidT {h : Heap} {H : Hp} {b : Addr} {o : Obj} (e : (hidT h H).get? b = some o) : h.get? b = some o ∧ H b = none := by
  have e' : h.get? b = some o := PySem.W.of_hideAll (trk h H) e
  refine ⟨e', ?_⟩
  cases q : H b with
  | none => rfl
  | some x =>
    have hm : b ∈ trk h H := List.mem_filter.mpr ⟨List.mem_range.mpr (Heap.lt_size e'), by simp [q]⟩
    have z : (hidT h H).get? b = none := PySem.W.hideAll_none (trk h H) hm
    rw [z] at e; cases e
def allNews (g h : Heap) (L : Addr) : List (Addr × Obj) := (List.range h.objs.size).filterMap fun a => if a = L ∨ (g.get? a).isSome = true then none else (h.get? a).map fun o => (a, o)
def rest (g h : Heap) (L d : Addr) : List (Addr × Obj) := (allNews g h L).filter fun p => decide (p.1 ≠ d)
end L2
namespace L2
open PySem PySem.Spec PyProof.Rows
structure Mod (K : PySem.W.Frag) (mg : Str → Option Value) (base : Heap) : Prop where
  kin : K.In base
  glob : base.Ns mainGlobals mg
  blt : ∃ mb, base.Ns builtinsNs mb ∧ ∀ x : Str, x ≠ "__name__" → mb x = bootBuiltins x
  nolimit : base.NoLimit
structure Cx where
  prog : Program
  w : World
  K : PySem.W.Frag
  mg : Str → Option Value
  base : Heap
  A : Around
  N : List Str
  s_0 : Shared
  H_0 : Hp
  env : Env
  outer : List Env
  stack : List Env
  ex : List Addr
  fn : Str → Bool
  calm : Bool
  pn : List (Addr × Obj)
  xe : Value → Shared → Prop
def frs (l : List Env) : List Addr := l.filterMap (·.frame)
abbrev Cx.fs (X : Cx) : List Addr := frs X.outer
def Vis (sc : Scope) (x : Str) : Prop := sc.names.lookup x = some .local ∨ sc.names.lookup x = some .cell ∨ sc.names.lookup x = some .free
def Loc (sc : Scope) (x : Str) : Prop := sc.names.lookup x = some .local ∨ sc.names.lookup x = some .cell
def Look (env : Env) (h : Heap) (m : Str → Option Value) (x : Str) (u : Value) : Prop :=
  (env.kindOf x = some .local ∧ m x = some u) ∨ ((env.kindOf x = some .cell ∨ env.kindOf x = some .free) ∧ ∃ c, env.cells.lookup x = some c ∧ h.IsCell c (some u))
structure Cx.Ok (X : Cx) : Prop where
  mod : Mod X.K X.mg X.base
  kind : X.env.scope.kind = .function
  glob : X.env.globals = mainGlobals
  blt : X.env.builtins = builtinsNs
  above : X.s_0.heap.objs.size ≤ X.env.locals
  inj : ∀ x y c, X.env.cells.lookup x = some c → X.env.cells.lookup y = some c → x = y
  has : ∀ x, (X.env.kindOf x = some .cell ∨ X.env.kindOf x = some .free) → ∃ c, X.env.cells.lookup x = some c
  cab : ∀ x c, X.fn x = true → X.env.cells.lookup x = some c → X.s_0.heap.objs.size ≤ c
  hd : X.calm = true → X.A.handled = none
  frames : X.A.frames = some X.stack
  stk : X.stack = X.outer ∨ (X.stack = X.env :: X.outer ∧ X.env.frame = some X.env.locals)
  exf : ∀ b ∈ X.ex, b ≠ X.env.locals ∧ ∀ x c, X.env.cells.lookup x = some c → c ≠ b
  bs : ∀ b o, X.base.get? b = some o → X.s_0.heap.get? b = some o ∧ X.H_0 b = none
  bsz : X.base.objs.size ≤ X.s_0.heap.objs.size
  noex : ∀ b o, X.base.get? b = some o → b ∉ X.ex
  exfs : ∀ b ∈ X.ex, b ∉ X.fs
  funs : X.s_0.heap.FunFrames X.base X.outer
  frf : ∀ b ∈ X.fs, X.H_0 b = none
structure Inv (X : Cx) (pins : List (Addr × Obj)) (σ : List (Option V)) (H : Hp) (s : Shared) : Prop where
  ok : X.Ok
  os : s.os = X.s_0.os
  bare : AllBare s.gens
  base : Un X.fs X.ex X.H_0 H X.s_0.heap s.heap
  loc : ∃ m, s.heap.Ns X.env.locals m ∧ ∀ (i : Nat) (x : Str) (v : V), X.N[i]? = some x → σ[i]? = some (some v) → Vis X.env.scope x → ∃ u, RelV v u ∧ Look X.env s.heap m x u
  cell : ∀ x c, X.env.cells.lookup x = some c → ∃ v, s.heap.IsCell c v
  free : H X.env.locals = none
  freeC : ∀ x c, X.env.cells.lookup x = some c → H c = none
  pin : ∀ p ∈ X.pn ++ pins, s.heap.get? p.1 = some p.2 ∧ H p.1 = none ∧ p.1 ≠ X.env.locals ∧ p.1 ∉ X.fs ∧ ∀ v, p.2.data ≠ .cell v
  hok : HOk X.prog X.w H s.heap
  len : σ.length = X.N.length
section
variable {X : Cx} {pins : List (Addr × Obj)} {σ : List (Option V)} {H H' : Hp} {s : Shared} {h' : Heap}
theorem Cx.Ok.nofr (ok : X.Ok) {b : Addr} {o : Obj} (e : X.base.get? b = some o) : b ∉ X.fs := fun hb => by
  have := (ok.funs.mem hb).1
  rw [e] at this; cases this
theorem Inv.bs (I : Inv X pins σ H s) : ∀ b o, X.base.get? b = some o → s.heap.get? b = some o ∧ H b = none := fun b o e =>
  ⟨I.base.keep b o (I.ok.bs b o e).1 (I.ok.bs b o e).2 (I.ok.nofr e) (I.ok.noex b o e), I.base.free b o (I.ok.bs b o e).1 (I.ok.bs b o e).2 (I.ok.noex b o e)⟩
theorem Inv.bk (I : Inv X pins σ H s) : ∀ b o, X.base.get? b = some o → s.heap.get? b = some o := fun b o e => (I.bs b o e).1
theorem Inv.mod (I : Inv X pins σ H s) : Mod X.K X.mg X.base := I.ok.mod
theorem Inv.kIn (I : Inv X pins σ H s) : X.K.In s.heap := I.ok.mod.kin.keeps I.bk
theorem Inv.nolimit (I : Inv X pins σ H s) : s.heap.NoLimit := I.ok.mod.nolimit.keeps I.bk
theorem Inv.lt (I : Inv X pins σ H s) : X.env.locals < s.heap.objs.size := let ⟨_, hn, _⟩ := I.loc; hn.lt
theorem Inv.sz (I : Inv X pins σ H s) : X.s_0.heap.objs.size ≤ s.heap.objs.size := Nat.le_trans I.ok.above (Nat.le_of_lt I.lt)
theorem Inv.nofs (I : Inv X pins σ H s) {a : Addr} (h : s.heap.objs.size ≤ a) : a ∉ X.fs := fun hb => by
  obtain ⟨_, o, ho, _⟩ := I.ok.funs.mem hb
  exact absurd (Nat.lt_of_lt_of_le (Heap.lt_size ho) (Nat.le_trans I.sz h)) (Nat.lt_irrefl _)
theorem Inv.cne (I : Inv X pins σ H s) : ∀ x c, X.env.cells.lookup x = some c → c ≠ X.env.locals := fun x c e z => by
  obtain ⟨v, o, ho, hd⟩ := I.cell x c e
  obtain ⟨m, ⟨o', es, ep, ho', hd', _⟩, _⟩ := I.loc
  rw [z, ho'] at ho; cases ho; rw [hd'] at hd; cases hd
theorem Inv.funs (I : Inv X pins σ H s) : s.heap.FunFrames X.base X.outer := by
  have all : ∀ (l : List Env), (∀ b ∈ frs l, b ∈ X.fs) → X.s_0.heap.FunFrames X.base l → s.heap.FunFrames X.base l := by
    intro l
    induction l with
    | nil => intro _ _; trivial
    | cons env r ih =>
      intro hs hl
      obtain ⟨hk, ⟨L, o, hf, hn, ho, hd⟩, hr⟩ := hl
      have hL : L ∈ X.fs := hs L (by unfold frs; rw [List.filterMap_cons, hf]; exact List.mem_cons_self)
      obtain ⟨sl, e⟩ := I.base.slot L o ho (I.ok.frf L hL) hL fun z => I.ok.exfs L z hL
      exact ⟨hk, ⟨L, _, hf, hn, e, hd⟩, ih (fun b hb => hs b (by unfold frs; rw [List.filterMap_cons, hf]; exact List.mem_cons_of_mem _ hb)) hr⟩
  exact all X.outer (fun _ hb => hb) I.ok.funs
theorem Inv.stack (I : Inv X pins σ H s) : s.heap.FunFrames X.base X.stack := by
  rcases I.ok.stk with e | ⟨e, hf⟩
  · rw [e]; exact I.funs
  · rw [e]
    obtain ⟨m, hn, _⟩ := I.loc
    refine .cons (by rw [I.ok.kind]; decide) hf hn ?_ I.funs
    exact Heap.get?_none_of_le (Nat.le_trans I.ok.bsz I.ok.above)
theorem Inv.stkSub (I : Inv X pins σ H s) : ∀ b ∈ frs X.stack, b ∈ X.env.locals :: X.fs := fun b hb => by
  rcases I.ok.stk with e | ⟨e, hf⟩
  · rw [e] at hb; exact List.mem_cons_of_mem _ hb
  · rw [e] at hb
    unfold frs at hb
    rw [List.filterMap_cons, hf] at hb
    exact hb
theorem Inv.stkFree (I : Inv X pins σ H s) : ∀ b ∈ frs X.stack, H b = none := fun b hb => by
  rcases List.mem_cons.mp (I.stkSub b hb) with e | hb
  · rw [e]; exact I.free
  · obtain ⟨_, o, ho, _⟩ := I.ok.funs.mem hb
    exact I.base.free b o ho (I.ok.frf b hb) fun z => I.ok.exfs b z hb
theorem Inv.step {g' : Array GenState} {t' : Nat} {d' : Drawn} {ch : List Addr} (I : Inv X pins σ H s)
    (hch : ∀ b ∈ ch, (b ∈ X.ex ∨ X.s_0.heap.objs.size ≤ b) ∧ b ≠ X.env.locals ∧ (∀ x c, X.env.cells.lookup x = some c → c ≠ b) ∧ ∀ p ∈ X.pn ++ pins, p.1 ≠ b)
    (keep : ∀ b o, b ≠ X.env.locals → b ∉ X.fs → b ∉ ch → s.heap.get? b = some o → H b = none → h'.get? b = some o)
    (slot : ∀ b o, b ≠ X.env.locals → b ∈ X.fs → b ∉ ch → s.heap.get? b = some o → H b = none → ∃ sl, h'.get? b = some { o with slots := sl }) (free : ∀ b o, b ∉ ch → s.heap.get? b = some o → H b = none → H' b = none)
    (there : ∀ b o, b ∉ ch → s.heap.get? b = some o → ∃ o', h'.get? b = some o')
    (tups : ∀ b xs, H b = some (.tup xs) → H' b = some (.tup xs)) (frzs : ∀ b o u, H b = some (.frz o u) → H' b = some (.frz o u)) (tbls : ∀ b ps, H b = some (.tbl ps) → ∃ more, H' b = some (.tbl (ps ++ more)))
    (ns : ∀ m, s.heap.Ns X.env.locals m → h'.Ns X.env.locals m) (hok : HOk X.prog X.w H' h') (hg : AllBare g') :
    Inv X pins σ H' { s with heap := h', gens := g', drawn := d', toks := t' } := by
  have neL : ∀ b o, X.s_0.heap.get? b = some o → b ≠ X.env.locals := fun b o e => Nat.ne_of_lt (Nat.lt_of_lt_of_le (Heap.lt_size e) I.ok.above)
  have neC : ∀ b o, X.s_0.heap.get? b = some o → b ∉ X.ex → b ∉ ch := fun b o e hx hb => by
    rcases (hch b hb).1 with z | z
    · exact hx z
    · exact absurd (Nat.lt_of_lt_of_le (Heap.lt_size e) z) (Nat.lt_irrefl _)
  have cellK : ∀ x c, X.env.cells.lookup x = some c → ∀ v, s.heap.IsCell c v → h'.IsCell c v := fun x c e v ⟨o, ho, hd⟩ => by
    have nch : c ∉ ch := fun z => (hch c z).2.2.1 x c e rfl
    by_cases hc : c ∈ X.fs
    · obtain ⟨sl, q⟩ := slot c o (I.cne x c e) hc nch ho (I.freeC x c e)
      exact ⟨_, q, hd⟩
    · exact ⟨o, keep c o (I.cne x c e) hc nch ho (I.freeC x c e), hd⟩
  refine ⟨I.ok, I.os, hg, ⟨fun b o e n hb hx => ?_, fun b o e n hb hx => ?_, fun b o e n hx => ?_, fun b o e hx => ?_, fun b xs e => tups b xs (I.base.tups b xs e), fun b o xs e => frzs b o xs (I.base.frzs b o xs e), fun b ps e => ?_⟩, ?_, fun x c e => ?_, ?_, fun x c e => ?_, fun p hp => ?_, hok, I.len⟩
  · exact keep b o (neL b o e) hb (neC b o e hx) (I.base.keep b o e n hb hx) (I.base.free b o e n hx)
  · obtain ⟨sl, e1⟩ := I.base.slot b o e n hb hx
    obtain ⟨sl', e2⟩ := slot b _ (neL b o e) hb (neC b o e hx) e1 (I.base.free b o e n hx)
    exact ⟨sl', e2⟩
  · obtain ⟨o', e1⟩ := I.base.there b o e hx
    exact free b o' (neC b o e hx) e1 (I.base.free b o e n hx)
  · obtain ⟨o', e1⟩ := I.base.there b o e hx
    exact there b o' (neC b o e hx) e1
  · obtain ⟨m1, e1⟩ := I.base.tbls b ps e
    obtain ⟨m2, e2⟩ := tbls b _ e1
    exact ⟨m1 ++ m2, by rw [e2, Array.append_assoc]⟩
  · obtain ⟨m, hn, hl⟩ := I.loc
    refine ⟨m, ns m hn, fun i x v e1 e2 e3 => ?_⟩
    obtain ⟨u, r, l⟩ := hl i x v e1 e2 e3
    refine ⟨u, r, ?_⟩
    rcases l with l | ⟨k, c, e, z⟩
    · exact .inl l
    · exact .inr ⟨k, c, e, cellK x c e _ z⟩
  · obtain ⟨v, z⟩ := I.cell x c e
    exact ⟨v, cellK x c e v z⟩
  · obtain ⟨m, ⟨o, _, _, ho, _⟩, _⟩ := I.loc
    exact free _ o (fun z => (hch _ z).2.1 rfl) ho I.free
  · obtain ⟨v, o, ho, hd⟩ := I.cell x c e
    exact free c o (fun z => (hch c z).2.2.1 x c e rfl) ho (I.freeC x c e)
  · obtain ⟨e, n, ne, nf, d⟩ := I.pin p hp
    have nch : p.1 ∉ ch := fun z => (hch p.1 z).2.2.2 p hp rfl
    exact ⟨keep p.1 p.2 ne nf nch e n, free p.1 p.2 nch e n, ne, nf, d⟩
theorem Inv.un {t' : Nat} (I : Inv X pins σ H s) (u : Un X.fs [] H H' s.heap h') (hok : HOk X.prog X.w H' h') : Inv X pins σ H' { s with heap := h', toks := t' } := by
  obtain ⟨m, ⟨o, es, ep, ho, r⟩, _⟩ := id I.loc
  obtain ⟨sl, hL⟩ := u.any ho I.free (by simp)
  exact I.step (g' := s.gens) (d' := s.drawn) (ch := []) (fun _ z => nomatch z) (fun b o _ hb _ e n => u.keep b o e n hb (by simp)) (fun b o _ hb _ e n => u.slot b o e n hb (by simp)) (fun b o _ e n => u.free b o e n (by simp)) (fun b o _ e => u.there b o e (by simp)) u.tups u.frzs u.tbls (fun m' hm => by
    obtain ⟨o', es', ep', ho', r'⟩ := hm
    rw [ho] at ho'; cases ho'
    exact ⟨_, es', ep', hL, r'⟩) hok I.bare
theorem Inv.call {g' : Array GenState} {t' : Nat} {d' : Drawn} {ch : List Addr} (I : Inv X pins σ H s) (u : Un (frs X.stack) ch H H' s.heap h') (hok : HOk X.prog X.w H' h') (hg : AllBare g')
    (hch : ∀ b ∈ ch, (b ∈ X.ex ∨ X.s_0.heap.objs.size ≤ b) ∧ b ≠ X.env.locals ∧ (∀ x c, X.env.cells.lookup x = some c → c ≠ b) ∧ ∀ p ∈ X.pn ++ pins, p.1 ≠ b) :
    Inv X pins σ H' { s with heap := h', gens := g', drawn := d', toks := t' } := by
  obtain ⟨m, ⟨o, es, ep, ho, r⟩, _⟩ := id I.loc
  obtain ⟨sl, hL⟩ := u.any ho I.free fun z => (hch _ z).2.1 rfl
  exact I.step (ch := ch) hch (fun b o hL hb hc e n => u.keep b o e n (fun z => (List.mem_cons.mp (I.stkSub b z)).elim hL hb) hc) (fun b o _ _ hc e n => u.any e n hc) (fun b o hc e n => u.free b o e n hc) (fun b o hc e => u.there b o e hc) u.tups u.frzs u.tbls (fun m' hm => by
    obtain ⟨o', es', ep', ho', r'⟩ := hm
    rw [ho] at ho'; cases ho'
    exact ⟨_, es', ep', hL, r'⟩) hok hg
theorem Inv.turned {t' : Nat} {it : Addr} (I : Inv X pins σ H s) (k : ∀ b o, b ≠ it → s.heap.get? b = some o → h'.get? b = some o) (hn : H it = none) (hL : it ≠ X.env.locals)
    (h1 : it ∈ X.ex ∨ X.s_0.heap.objs.size ≤ it) (h2 : ∀ x c, X.env.cells.lookup x = some c → c ≠ it) (h3 : ∀ p ∈ X.pn ++ pins, p.1 ≠ it) : Inv X pins σ H { s with heap := h', toks := t' } := by
  have nit : ∀ b u, H b = some u → b ≠ it := fun b u e z => by rw [z, hn] at e; cases e
  refine I.step (g' := s.gens) (d' := s.drawn) (ch := [it]) (fun b hb => ?_) (fun b o _ _ hc e _ => k b o (fun z => hc (by simp [z])) e) (fun b o _ _ hc e _ => ⟨o.slots, k b o (fun z => hc (by simp [z])) e⟩) (fun _ _ _ _ n => n)
    (fun b o hc e => ⟨o, k b o (fun z => hc (by simp [z])) e⟩) (fun _ _ e => e) (fun _ _ _ e => e) (fun b ps e => ⟨#[], by rw [e]; simp⟩) (fun m hm => ?_) (fun b u e => ?_) I.bare
  · have e : b = it := by simpa using hb
    subst e
    exact ⟨h1, hL, h2, h3⟩
  · obtain ⟨o, es, ep, ho, r⟩ := hm
    exact ⟨o, es, ep, k _ o (Ne.symm hL) ho, r⟩
  · refine (I.hok b u e).stay (fun c v hc q => k c v ?_ q) (fun _ q => q) fun _ _ q => q
    rcases hc with z | z
    · rw [z]; exact nit b u e
    · exact nit c _ z
theorem Inv.tok (I : Inv X pins σ H s) (t : Nat) : Inv X pins σ H { s with toks := t } := I.un (h' := s.heap) (t' := t) Un.refl I.hok
theorem Inv.kept {t' : Nat} (I : Inv X pins σ H s) (k : ∀ b u, s.heap.get? b = some u → h'.get? b = some u) : Inv X pins σ H { s with heap := h', toks := t' } := I.un (Un.kept k) (I.hok.kept k)
theorem Inv.laid {a : Addr} {o : HO} {t' : Nat} (I : Inv X pins σ H s) (k : ∀ b u, s.heap.get? b = some u → h'.get? b = some u) (hp : s.heap.objs.size ≤ a) (new : ObjOk X.prog X.w (upd H a o) h' a o) :
    Inv X pins σ (upd H a o) { s with heap := h', toks := t' } := I.un (Un.laid k hp (I.hok.fresh hp)) (I.hok.laid k hp new)
theorem Inv.pins_of {pins' : List (Addr × Obj)} (I : Inv X pins σ H s) (h : ∀ p ∈ pins', s.heap.get? p.1 = some p.2 ∧ H p.1 = none ∧ p.1 ≠ X.env.locals ∧ p.1 ∉ X.fs ∧ ∀ v, p.2.data ≠ .cell v) : Inv X pins' σ H s :=
  ⟨I.ok, I.os, I.bare, I.base, I.loc, I.cell, I.free, I.freeC, fun p hp => (List.mem_append.mp hp).elim (fun z => I.pin p (List.mem_append_left _ z)) (h p), I.hok, I.len⟩
theorem nodup_ix {N : List Str} (hN : N.Nodup) {i j : Nat} {x : Str} (a : N[i]? = some x) (b : N[j]? = some x) : i = j := by
  obtain ⟨h1, e1⟩ := List.getElem?_eq_some_iff.mp a
  obtain ⟨h2, e2⟩ := List.getElem?_eq_some_iff.mp b
  exact (List.getElem_inj hN).mp (e1.trans e2.symm)
theorem store_ok2 {M : Model} {A : Around} {E : Value → Shared → Prop} {i : Nat} {x : Str} {v : V} {u : Value} {Q : Unit → Shared → Prop} (I : Inv X pins σ H s) (hN : X.N.Nodup) (hi : X.N[i]? = some x) (hx : Loc X.env.scope x) (r : RelV v u)
    (h : ∀ s', Inv X pins (σ.set i (some v)) H s' → (∃ a, Heap.SameBut a s.heap s'.heap ∧ (a = X.env.locals ∨ X.env.cells.lookup x = some a)) → Q () s') (hf : X.fn x = true ∨ X.env.scope.names.lookup x = some .local := by first | exact .inl rfl | exact .inr rfl | assumption) : wpAny M A (storeName X.env x u) Q E s := by
  obtain ⟨m, hn, hl⟩ := id I.loc
  have hcls : (X.env.scope.kind == .class || (X.env.scope.kind == .module && X.env.locals != X.env.globals)) = false := by rw [I.ok.kind]; rfl
  have hiσ : i < σ.length := by rw [I.len]; exact (List.getElem?_eq_some_iff.mp hi).1
  have cne := I.cne
  have tracked : ∀ {a : Addr} {h' : Heap}, (∃ o, s.heap.get? a = some o ∧ H a = none) → Heap.SameBut a s.heap h' → HOk X.prog X.w H h' := fun {a h'} ha hs b ob e => by
    obtain ⟨_, _, hfree⟩ := ha
    refine (I.hok b ob e).stay (fun c w' hc q => (hs.2 c ?_).trans q) (fun _ q => q) fun _ _ q => q
    rintro rfl
    rcases hc with rfl | hc
    · rw [hfree] at e; cases e
    · rw [hfree] at hc; cases hc
  rcases hx with hk | hk
  · refine wpAny_storeName_local hk hn (fun h' hn' hs => ?_) hcls
    obtain ⟨oL, _, _, hoL, _⟩ := id hn
    refine h _ ⟨I.ok, I.os, I.bare, ⟨fun b o e n hb hx => ?_, fun b o e n hb hx => ?_, I.base.free, fun b o e hx => ?_, I.base.tups, I.base.frzs, I.base.tbls⟩, ⟨_, hn', fun j y v' e1 e2 e3 => ?_⟩, fun y c e => ?_, I.free, I.freeC, fun p hp => ?_, tracked ⟨oL, hoL, I.free⟩ hs, by simpa using I.len⟩ ⟨_, hs, .inl rfl⟩
    · exact (hs.2 b (Nat.ne_of_lt (Nat.lt_of_lt_of_le (Heap.lt_size e) I.ok.above))).trans (I.base.keep b o e n hb hx)
    · obtain ⟨sl, e1⟩ := I.base.slot b o e n hb hx
      exact ⟨sl, (hs.2 b (Nat.ne_of_lt (Nat.lt_of_lt_of_le (Heap.lt_size e) I.ok.above))).trans e1⟩
    · obtain ⟨o', e1⟩ := I.base.there b o e hx
      exact ⟨o', (hs.2 b (Nat.ne_of_lt (Nat.lt_of_lt_of_le (Heap.lt_size e) I.ok.above))).trans e1⟩
    · by_cases hj : j = i
      · subst hj
        rw [hi] at e1; cases e1
        rw [List.getElem?_set_self hiσ] at e2
        cases e2
        exact ⟨u, r, .inl ⟨hk, by simp⟩⟩
      · rw [List.getElem?_set_ne (Ne.symm hj)] at e2
        obtain ⟨u', r', q⟩ := hl j y v' e1 e2 e3
        refine ⟨u', r', ?_⟩
        rcases q with ⟨k, e⟩ | ⟨k, c, e, z⟩
        · refine .inl ⟨k, ?_⟩
          have : y ≠ x := fun e => hj (nodup_ix hN e1 (e ▸ hi))
          simp [this, e]
        · exact .inr ⟨k, c, e, z.sameBut hs (cne y c e)⟩
    · obtain ⟨w', z⟩ := I.cell y c e
      exact ⟨w', z.sameBut hs (cne y c e)⟩
    · obtain ⟨e, n, ne, nf, d⟩ := I.pin p hp
      exact ⟨(hs.2 p.1 ne).trans e, n, ne, nf, d⟩
  · have hfn : X.fn x = true := by
      rcases hf with z | z
      · exact z
      · rw [z] at hk; cases hk
    obtain ⟨c, hc⟩ := I.ok.has x (.inl hk)
    obtain ⟨w', z⟩ := I.cell x c hc
    refine wpAny_storeName_cell I.ok.kind hk hc z (fun h' hc' hs => ?_)
    obtain ⟨oc, hoc, hocd⟩ := id z
    refine h { s with heap := h' } ⟨I.ok, I.os, I.bare, ⟨fun b o e n hb hx => ?_, fun b o e n hb hx => ?_, I.base.free, fun b o e hx => ?_, I.base.tups, I.base.frzs, I.base.tbls⟩, ⟨m, hn.sameBut hs (Ne.symm (cne x c hc)), fun j y v' e1 e2 e3 => ?_⟩, fun y c' e => ?_, I.free, I.freeC, fun p hp => ?_, tracked ⟨oc, hoc, I.freeC x c hc⟩ hs, by simpa using I.len⟩ ⟨c, hs, .inr hc⟩
    · exact (hs.2 b (Nat.ne_of_lt (Nat.lt_of_lt_of_le (Heap.lt_size e) (I.ok.cab x c hfn hc)))).trans (I.base.keep b o e n hb hx)
    · obtain ⟨sl, e1⟩ := I.base.slot b o e n hb hx
      exact ⟨sl, (hs.2 b (Nat.ne_of_lt (Nat.lt_of_lt_of_le (Heap.lt_size e) (I.ok.cab x c hfn hc)))).trans e1⟩
    · obtain ⟨o', e1⟩ := I.base.there b o e hx
      exact ⟨o', (hs.2 b (Nat.ne_of_lt (Nat.lt_of_lt_of_le (Heap.lt_size e) (I.ok.cab x c hfn hc)))).trans e1⟩
    · by_cases hj : j = i
      · subst hj
        rw [hi] at e1; cases e1
        rw [List.getElem?_set_self hiσ] at e2
        cases e2
        exact ⟨u, r, .inr ⟨.inl hk, c, hc, hc'⟩⟩
      · rw [List.getElem?_set_ne (Ne.symm hj)] at e2
        obtain ⟨u', r', q⟩ := hl j y v' e1 e2 e3
        refine ⟨u', r', ?_⟩
        rcases q with q | ⟨k, c', e, z'⟩
        · exact .inl q
        · refine .inr ⟨k, c', e, z'.sameBut hs ?_⟩
          rintro rfl
          exact hj (nodup_ix hN e1 (I.ok.inj _ _ _ e hc ▸ hi))
    · by_cases hcc : c' = c
      · subst hcc; exact ⟨_, hc'⟩
      · obtain ⟨w2, z2⟩ := I.cell y c' e
        exact ⟨w2, z2.sameBut hs hcc⟩
    · obtain ⟨e, n, ne, nf, d⟩ := I.pin p hp
      refine ⟨(hs.2 p.1 ?_).trans e, n, ne, nf, d⟩
      intro q
      rw [q, hoc] at e
      have q' : oc = p.2 := Option.some.inj e
      exact d w' (by rw [← q']; exact hocd)
theorem store_ok {M : Model} {A : Around} {E : Value → Shared → Prop} {i : Nat} {x : Str} {v : V} {u : Value} {Q : Unit → Shared → Prop} (I : Inv X pins σ H s) (hN : X.N.Nodup) (hi : X.N[i]? = some x) (hx : Loc X.env.scope x) (r : RelV v u)
    (h : ∀ s', Inv X pins (σ.set i (some v)) H s' → Q () s') (hf : X.fn x = true ∨ X.env.scope.names.lookup x = some .local := by first | exact .inl rfl | exact .inr rfl | assumption) : wpAny M A (storeName X.env x u) Q E s :=
  store_ok2 I hN hi hx r (fun s' I' _ => h s' I') hf
end
abbrev XK := Value → Option Addr → Hp → Prop
abbrev St := List (Option V)
abbrev VK := V → Hp → Prop
abbrev TE := St → Hp → VK → Prop
abbrev TT := St → Hp → (Bool → Hp → Prop) → Prop
abbrev TA := St → Hp → (List V → Hp → Prop) → Prop
structure Ends where
  nx : St → Hp → Prop
  rt : VK
  bk : St → Hp → Prop := fun _ _ => False
  ct : St → Hp → Prop := fun _ _ => False
abbrev TS := Ends → St → Hp → Prop
def EP (X : Cx) (pins : List (Addr × Obj)) (σ : St) (Q : VK) (u : Value) (s' : Shared) : Prop := ∃ v H', Inv X pins σ H' s' ∧ RelV v u ∧ Q v H'
def TP (X : Cx) (pins : List (Addr × Obj)) (σ : St) (Q : Bool → Hp → Prop) (b : Bool) (s' : Shared) : Prop := ∃ H', Inv X pins σ H' s' ∧ Q b H'
def AP (X : Cx) (pins : List (Addr × Obj)) (σ : St) (Q : List V → Hp → Prop) (us : List Value) (s' : Shared) : Prop := ∃ vs H', Inv X pins σ H' s' ∧ Vals vs us ∧ Q vs H'
def SP (X : Cx) (pins : List (Addr × Obj)) (D : Ends) (f : Flow) (s' : Shared) : Prop :=
  match f with
  | .next => ∃ σ' H', Inv X pins σ' H' s' ∧ D.nx σ' H'
  | .brk => ∃ σ' H', Inv X pins σ' H' s' ∧ D.bk σ' H'
  | .cont => ∃ σ' H', Inv X pins σ' H' s' ∧ D.ct σ' H'
  | .ret u => ∃ v σ' H', Inv X pins σ' H' s' ∧ RelV v u ∧ D.rt v H'
def PE (X : Cx) (e : Expr) (t : TE) : Prop :=
  ∀ (pins : List (Addr × Obj)) (s : Shared) (σ : St) (H : Hp) (Q : VK), Inv X pins σ H s → t σ H Q → wpAny (model X.prog X.w) X.A (eval e X.env) (EP X pins σ Q) X.xe s
def PT (X : Cx) (e : Expr) (t : TT) : Prop :=
  ∀ (pins : List (Addr × Obj)) (s : Shared) (σ : St) (H : Hp) (Q : Bool → Hp → Prop), Inv X pins σ H s → t σ H Q → wpAny (model X.prog X.w) X.A (isTrue e X.env (eval e X.env)) (TP X pins σ Q) X.xe s
def PW (X : Cx) (e : Expr) (t : TT) : Prop :=
  ∀ (whole : Sem Value) (pins : List (Addr × Obj)) (s : Shared) (σ : St) (H : Hp) (Q : Bool → Hp → Prop), Inv X pins σ H s → t σ H Q → wpAny (model X.prog X.w) X.A (isTrue e X.env whole) (TP X pins σ Q) X.xe s
theorem PW.pt {X : Cx} {e : Expr} {t : TT} (h : PW X e t) : PT X e t := h _
def PA (X : Cx) (es : List Expr) (t : TA) : Prop :=
  ∀ (pos : Pos) (pins : List (Addr × Obj)) (s : Shared) (σ : St) (H : Hp) (Q : List V → Hp → Prop), Inv X pins σ H s → t σ H Q → wpAny (model X.prog X.w) X.A (spliced (backTo pos (starEach es X.env))) (AP X pins σ Q) X.xe s
def PS (X : Cx) (st : Stmt) (t : TS) : Prop :=
  ∀ (pins : List (Addr × Obj)) (s : Shared) (σ : St) (H : Hp) (D : Ends), Inv X pins σ H s → t D σ H → wpAny (model X.prog X.w) X.A (exec st X.env) (SP X pins D) X.xe s
def PSs (X : Cx) (st : List Stmt) (t : TS) : Prop :=
  ∀ (pins : List (Addr × Obj)) (s : Shared) (σ : St) (H : Hp) (D : Ends), Inv X pins σ H s → t D σ H → wpAny (model X.prog X.w) X.A (execs st X.env) (SP X pins D) X.xe s
theorem thn {α : Type} {t : Sem α} {Q Q' : α → Shared → Prop} {M : Model} {A : Around} {E : Value → Shared → Prop} {s : Shared} (h : wpAny M A t Q E s) (hQ : ∀ a s, Q a s → Q' a s) : wpAny M A t Q' E s := wpAny_mono h hQ fun _ _ x => x
end L2
namespace L2
open PySem PySem.Spec PyProof.Rows
section
variable {X : Cx}
theorem bin {a b : Expr} {ta tb : TE} (ha : PE X a ta) (hb : PE X b tb) {pins : List (Addr × Obj)} {s : Shared} {σ : St} {H : Hp} {R : V → V → Hp → Prop} (I : Inv X pins σ H s) (h : ta σ H fun x H1 => tb σ H1 fun y H2 => R x y H2)
    {α : Type} {Q : α → Shared → Prop} {f : Value → Value → Sem α}
    (hf : ∀ v u s2 x y H2, Inv X pins σ H2 s2 → RelV x v → RelV y u → R x y H2 → wpAny (model X.prog X.w) X.A (f v u) Q X.xe s2) :
    wpAny (model X.prog X.w) X.A (eval a X.env) (fun v s₁ => wpAny (model X.prog X.w) X.A (eval b X.env) (fun u s₂ => wpAny (model X.prog X.w) X.A (f v u) Q X.xe s₂) X.xe s₁) X.xe s := by
  refine thn (ha pins s σ H _ I h) fun v s1 ⟨x, H1, I1, r1, q1⟩ => ?_
  refine thn (hb pins s1 σ H1 _ I1 q1) fun u s2 ⟨y, H2, I2, r2, q2⟩ => ?_
  exact hf v u s2 x y H2 I2 r1 r2 q2
def tVar (i : Nat) : TE := fun σ H Q => ∃ v, σ[i]? = some (some v) ∧ Q v H
def tC (v : V) : TE := fun _ H Q => Q v H
theorem pe_var {i : Nat} {x : Str} {pos : Pos} (hN : X.N[i]? = some x) (hv : Vis X.env.scope x) (hd : (x == ("__debug__" : Str)) = false := by decide) (hcd : (x == ("__classdict__" : Str)) = false := by decide) : PE X (.Name x pos) (tVar i) := by
  intro pins s σ H Q I h
  obtain ⟨v, e, h⟩ := h
  obtain ⟨m, hn, hl⟩ := I.loc
  obtain ⟨u, r, l⟩ := hl i x v hN e hv
  have fin : EP X pins σ Q u s := ⟨v, H, I, r, h⟩
  rcases l with ⟨hk, hm⟩ | ⟨hk, c, hc, hcell⟩
  · exact wpAny_Name (wpAny_loadName_local I.ok.kind hk hn hm fin) hd
  · rcases hk with hk | hk
    · exact wpAny_Name (wpAny_loadName_cell I.ok.kind hk hc hcell fin) hd
    · exact wpAny_Name (wpAny_loadName_free I.ok.kind hk hc hcell fin hcd) hd
theorem pe_int {i j pos} : PE X (.Constant (.int i) j pos) (tC (.int i)) := fun _ _ _ H _ I h => wpAny_Constant_int ⟨.int i, H, I.tok _, ⟨_, rfl⟩, h⟩
theorem pe_bl {b j pos} : PE X (.Constant (.bool b) j pos) (tC (.bl b)) := fun _ _ _ H _ I h => Constant_bool ⟨.bl b, H, I, rfl, h⟩
theorem pe_non {j pos} : PE X (.Constant .none j pos) (tC .non) := fun _ _ _ H _ I h => Constant_none ⟨.non, H, I, rfl, h⟩
def Gl (X : Cx) (x : Str) : Prop := X.env.kindOf x = some .globalImplicit
theorem ld_glob {E : Value → Shared → Prop} {pins : List (Addr × Obj)} {s : Shared} {σ : St} {H : Hp} {x : Str} {u : Value} {pos : Pos} {Q : Value → Shared → Prop} (I : Inv X pins σ H s) (hg : Gl X x) (hm : X.mg x = some u) (h : Q u s)
    (hd : (x == ("__debug__" : Str)) = false := by decide) : wpAny (model X.prog X.w) X.A (eval (.Name x pos) X.env) Q E s :=
  Calls.Name_function_global I.ok.kind hg (Calls.loadGlobal_global (by rw [I.ok.glob]; exact I.mod.glob.keeps I.bk) hm h) hd
theorem ld_blt {E : Value → Shared → Prop} {pins : List (Addr × Obj)} {s : Shared} {σ : St} {H : Hp} {x : Str} {u : Value} {pos : Pos} {Q : Value → Shared → Prop} (I : Inv X pins σ H s) (hg : Gl X x) (hm : X.mg x = none) (hv : bootBuiltins x = some u) (h : Q u s)
    (hn : x ≠ "__name__" := by decide) (hd : (x == ("__debug__" : Str)) = false := by decide) : wpAny (model X.prog X.w) X.A (eval (.Name x pos) X.env) Q E s := by
  obtain ⟨mb, h1, h2⟩ := I.mod.blt
  exact Calls.Name_function_global I.ok.kind hg (Calls.loadGlobal_builtin (by rw [I.ok.glob]; exact I.mod.glob.keeps I.bk) hm (by rw [I.ok.blt]; exact h1.keeps I.bk) ((h2 x hn).trans hv) h) hd
theorem pe_glob {x : Str} {v : V} {u : Value} {pos : Pos} (hg : Gl X x) (hm : X.mg x = some u) (r : RelV v u) (hd : (x == ("__debug__" : Str)) = false := by decide) : PE X (.Name x pos) (tC v) :=
  fun _ _ _ H _ I h => ld_glob I hg hm ⟨v, H, I, r, h⟩ hd
def t2I (ta tb : TE) (k : Int → Int → Hp → Prop) : St → Hp → Prop := fun σ H => ta σ H fun x H1 => tb σ H1 fun y H2 => ∃ i j, x = .int i ∧ y = .int j ∧ k i j H2
variable {a b : Expr} {ta tb : TE} {pos : Pos}
def PC (X : Cx) (op : CmpOp) (a b : Expr) (t : TE) : Prop :=
  ∀ (pins : List (Addr × Obj)) (s : Shared) (σ : St) (H : Hp) (Q : VK), Inv X pins σ H s → t σ H Q →
    wpAny (model X.prog X.w) X.A (eval a X.env) (fun v s₁ => wpAny (model X.prog X.w) X.A (eval b X.env) (fun u s₂ => wpAny (model X.prog X.w) X.A (compareOp op v u) (EP X pins σ Q) X.xe s₂) X.xe s₁) X.xe s
theorem nobehind (b : Expr) {op : CmpOp} (h : op ≠ .In) (h2 : op ≠ .NotIn) : behindInMarks op b = false := by
  have e1 : (op == CmpOp.In) = false := by cases op <;> first | rfl | exact absurd rfl h
  have e2 : (op == CmpOp.NotIn) = false := by cases op <;> first | rfl | exact absurd rfl h2
  cases b <;> simp [behindInMarks, e1, e2]
def tCmp (p : Int → Int → Bool) (ta tb : TE) : TE := fun σ H Q => t2I ta tb (fun i j H2 => Q (.bl (p i j)) H2) σ H
abbrev tEqI : TE → TE → TE := tCmp fun i j => decide (i = j)
abbrev tNeI : TE → TE → TE := tCmp fun i j => !decide (i = j)
theorem pc_int {op : CmpOp} {p : Int → Int → Bool} (ha : PE X a ta) (hb : PE X b tb)
    (rule : ∀ (i j : Int) (t u : Tok) (Q : Value → Shared → Prop) (s : Shared), Q (.bool (p i j)) s → wpAny (model X.prog X.w) X.A (compareOp op (.int i t) (.int j u)) Q X.xe s) : PC X op a b (tCmp p ta tb) := by
  intro pins s σ H Q I h
  refine bin ha hb I h fun v u s2 x y H2 I2 rx ry q => ?_
  obtain ⟨i, j, rfl, rfl, q⟩ := q
  obtain ⟨t, rfl⟩ := rx
  obtain ⟨t', rfl⟩ := ry
  exact rule i j t t' _ s2 ⟨.bl _, H2, I2, rfl, q⟩
theorem pc_eqI (ha : PE X a ta) (hb : PE X b tb) : PC X .Eq a b (tEqI ta tb) := pc_int ha hb fun _ _ _ _ _ _ h => eq_int (by rw [Bool.beq_eq_decide_eq]; exact h)
theorem pc_neI (ha : PE X a ta) (hb : PE X b tb) : PC X .NotEq a b (tNeI ta tb) := pc_int ha hb fun _ _ _ _ _ _ h => ne_int (by rw [bne, Bool.beq_eq_decide_eq]; exact h)
def tNotN (ta : TE) : TE := fun σ H Q => ta σ H fun x H1 => Q (.bl (!decide (x = .non))) H1
theorem RelV.none_iff {x : V} {v : Value} (r : RelV x v) : (v == Value.none) = decide (x = .non) := by
  cases x with
  | non => cases r; rfl
  | bl _ => cases r; rfl
  | int _ => obtain ⟨t, rfl⟩ := r; rfl
  | str _ => obtain ⟨t, rfl⟩ := r; rfl
  | byt _ => obtain ⟨t, rfl⟩ := r; rfl
  | flt _ => obtain ⟨t, rfl⟩ := r; rfl
  | ref _ => cases r; rfl
  | ty _ => cases r; rfl
theorem pc_notN {j pos'} (ha : PE X a ta) : PC X .IsNot a (.Constant .none j pos') (tNotN ta) := by
  intro pins s σ H Q I h
  refine thn (ha pins s σ H _ I h) fun v s1 ⟨x, H1, I1, r1, q1⟩ => ?_
  exact Constant_none (isnot_none_gen ⟨.bl _, H1, I1, by rw [r1.none_iff]; rfl, q1⟩)
def tB (t : TE) : TT := fun σ H Q => t σ H fun x H1 => ∃ c, x = .bl c ∧ Q c H1
theorem pe_cmp {op : CmpOp} {t : TE} (h : PC X op a b t) (h1 : behindInMarks op b = false := by first | exact nobehind _ (by decide) (by decide) | rfl) : PE X (.Compare a [op] [b] pos) t := fun pins s σ H Q I hw => wpAny_Compare1 (h pins s σ H Q I hw) h1
theorem pt_cmp {op : CmpOp} {t : TE} (h : PC X op a b t) (h1 : behindInMarks op b = false := by first | exact nobehind _ (by decide) (by decide) | rfl) : PT X (.Compare a [op] [b] pos) (tB t) := by
  intro pins s σ H Q I hw
  refine wpAny_isTrue_Compare1 (thn (h pins s σ H _ I hw) fun v s1 h1 => thn h1 fun u s2 h2 => thn h2 fun c s3 ⟨x, H1, I1, r1, q1⟩ => ?_) h1
  obtain ⟨d, rfl, q⟩ := q1
  cases r1
  exact wpAny_truthy_bool ⟨H1, I1, q⟩
theorem pt_val {e : Expr} {t : TE} (h : PE X e t) (he : ∀ whole, isTrue e X.env whole = (do let v ← whole; standAt e.pos; holding [v] (truthy v)) := by intro _; rfl) : PT X e (tB t) := by
  intro pins s σ H Q I hw
  refine isTrue_plain (thn (h pins s σ H _ I hw) fun v s1 ⟨x, H1, I1, r1, q1⟩ => ?_) (he _)
  obtain ⟨d, rfl, q⟩ := q1
  cases r1
  exact wpAny_truthy_bool ⟨H1, I1, q⟩
variable {tA tB' : TT} {rest : List Expr}
def tAnd (t u : TT) : TT := fun σ H Q => t σ H fun c H1 => if c = true then u σ H1 Q else Q false H1
def tOr (t u : TT) : TT := fun σ H Q => t σ H fun c H1 => if c = true then Q true H1 else u σ H1 Q
def tNot (t : TT) : TT := fun σ H Q => t σ H fun c H1 => Q (!c) H1
theorem pw_and1 (ha : PT X a tA) : PW X (.BoolOp .And [a] pos) tA := by
  intro wh pins s σ H Q I h
  refine isTrue_and (thn (ha pins s σ H Q I h) fun c s1 e => ?_)
  cases c with
  | true => exact isTrue_and_nil e
  | false => exact e
theorem pw_or1 (ha : PT X a tA) : PW X (.BoolOp .Or [a] pos) tA := by
  intro wh pins s σ H Q I h
  refine isTrue_or (thn (ha pins s σ H Q I h) fun c s1 e => ?_)
  cases c with
  | false => exact isTrue_or_nil e
  | true => exact e
theorem pw_and (ha : PT X a tA) (hb : PW X (.BoolOp .And (b :: rest) pos) tB') : PW X (.BoolOp .And (a :: b :: rest) pos) (tAnd tA tB') := by
  intro wh pins s σ H Q I h
  refine isTrue_and (thn (ha pins s σ H _ I h) fun c s1 ⟨H1, I1, q1⟩ => ?_)
  cases c with
  | true => exact hb wh pins s1 σ H1 Q I1 q1
  | false => exact ⟨H1, I1, q1⟩
theorem pw_or (ha : PT X a tA) (hb : PW X (.BoolOp .Or (b :: rest) pos) tB') : PW X (.BoolOp .Or (a :: b :: rest) pos) (tOr tA tB') := by
  intro wh pins s σ H Q I h
  refine isTrue_or (thn (ha pins s σ H _ I h) fun c s1 ⟨H1, I1, q1⟩ => ?_)
  cases c with
  | true => exact ⟨H1, I1, q1⟩
  | false => exact hb wh pins s1 σ H1 Q I1 q1
theorem pt_not (ha : PT X a tA) : PT X (.UnaryOp .Not a pos) (tNot tA) := by
  intro pins s σ H Q I h
  exact isTrue_not (ha pins s σ H (fun c H1 => Q (!c) H1) I h)
def tAndV (ta tb : TE) : TE := fun σ H Q => ta σ H fun x H1 => ∃ c, x = .bl c ∧ if c = true then tb σ H1 Q else Q (.bl false) H1
def tOrV (ta tb : TE) : TE := fun σ H Q => ta σ H fun x H1 => ∃ c, x = .bl c ∧ if c = true then Q (.bl true) H1 else tb σ H1 Q
def tNotV (ta : TE) : TE := fun σ H Q => ta σ H fun x H1 => ∃ c, x = .bl c ∧ Q (.bl (!c)) H1
theorem pe_one {op} {t : TE} (h : PE X a t) : PE X (.BoolOp op [a] pos) t := fun pins s σ H Q I hw => BoolOp_one (h pins s σ H Q I hw)
theorem pe_and (ha : PE X a ta) (hb : PE X (.BoolOp .And (b :: rest) pos) tb) : PE X (.BoolOp .And (a :: b :: rest) pos) (tAndV ta tb) := by
  intro pins s σ H Q I h
  refine BoolOp_and (thn (ha pins s σ H _ I h) fun v s1 ⟨x, H1, I1, r1, q1⟩ => ?_)
  obtain ⟨c, rfl, q1⟩ := q1
  cases r1
  refine wpAny_truthy_bool ?_
  cases c with
  | true => exact hb pins s1 σ H1 Q I1 q1
  | false => exact ⟨.bl false, H1, I1, rfl, q1⟩
theorem pe_or (ha : PE X a ta) (hb : PE X (.BoolOp .Or (b :: rest) pos) tb) : PE X (.BoolOp .Or (a :: b :: rest) pos) (tOrV ta tb) := by
  intro pins s σ H Q I h
  refine BoolOp_or (thn (ha pins s σ H _ I h) fun v s1 ⟨x, H1, I1, r1, q1⟩ => ?_)
  obtain ⟨c, rfl, q1⟩ := q1
  cases r1
  refine wpAny_truthy_bool ?_
  cases c with
  | false => exact hb pins s1 σ H1 Q I1 q1
  | true => exact ⟨.bl true, H1, I1, rfl, q1⟩
theorem pe_not (ha : PE X a ta) : PE X (.UnaryOp .Not a pos) (tNotV ta) := by
  intro pins s σ H Q I h
  refine UnaryOp_ (thn (ha pins s σ H _ I h) fun v s1 ⟨x, H1, I1, r1, q1⟩ => ?_)
  obtain ⟨c, rfl, q1⟩ := q1
  cases r1
  exact not_of (wpAny_truthy_bool ⟨.bl (!c), H1, I1, rfl, q1⟩)
def tIf (t : TT) (ta tb : TE) : TE := fun σ H Q => t σ H fun c H1 => if c = true then ta σ H1 Q else tb σ H1 Q
theorem pe_ifExp {c : Expr} (hc : PT X c tA) (ha : PE X a ta) (hb : PE X b tb) : PE X (.IfExp c a b pos) (tIf tA ta tb) := by
  intro pins s σ H Q I h
  refine wpAny_IfExp (thn (hc pins s σ H _ I h) fun d s1 ⟨H1, I1, q1⟩ => ?_)
  cases d with
  | true => exact ha pins s1 σ H1 Q I1 q1
  | false => exact hb pins s1 σ H1 Q I1 q1
end
end L2
namespace L2
open PySem PySem.Spec PyProof.Rows
def SqL (K : PySem.W.Frag) (H : Hp) (a : Addr) (xs : List V) : Prop :=
  Rd H a (.lst xs) ∨
    ∃ (o : Obj) (its : Array Value) (n : Nat), K.lookup a = some o ∧ o.cls = .type "list" ∧ o.dict = none ∧ o.data = .seq its n ∧ its.size ≤ sizeLine ∧ Vals xs its.toList
def SqT (K : PySem.W.Frag) (H : Hp) (a : Addr) (xs : List V) : Prop :=
  Rd H a (.tup xs) ∨
    ∃ (o : Obj) (its : Array Value) (n : Nat), K.lookup a = some o ∧ o.cls = .type "tuple" ∧ o.data = .seq its n ∧ its.size ≤ sizeLine ∧ Vals xs its.toList
def absV : Value → Option V
  | .none => some .non
  | .bool b => some (.bl b)
  | .int i _ => some (.int i)
  | .str x _ => some (.str x)
  | .bytes b _ => some (.byt b)
  | .float b _ => some (.flt b)
  | .ref a => some (.ref a)
  | .type n => some (.ty n)
  | _ => none
theorem RelV.abs {x : V} {u : Value} (r : RelV x u) : absV u = some x := by
  cases x with
  | non => cases r; rfl
  | bl _ => cases r; rfl
  | int _ => obtain ⟨t, rfl⟩ := r; rfl
  | str _ => obtain ⟨t, rfl⟩ := r; rfl
  | byt _ => obtain ⟨t, rfl⟩ := r; rfl
  | flt _ => obtain ⟨t, rfl⟩ := r; rfl
  | ref _ => cases r; rfl
  | ty _ => cases r; rfl
theorem RelV.inj {x y : V} {u : Value} (r : RelV x u) (q : RelV y u) : x = y := Option.some.inj (r.abs.symm.trans q.abs)
theorem Vals.inj : ∀ {xs ys : List V} {us : List Value}, Vals xs us → Vals ys us → xs = ys
  | _, _, _, .nil, .nil => rfl
  | _, _, _, .cons r t, .cons r' t' => by rw [r.inj r', Vals.inj t t']
section
variable {X : Cx} {pins : List (Addr × Obj)} {σ : St} {H : Hp} {s : Shared} {a : Addr} {xs ys : List V}
theorem SqL.of {K : PySem.W.Frag} (h : H a = some (.lst xs)) : SqL K H a xs := .inl (.inl h)
theorem SqT.of {K : PySem.W.Frag} (h : H a = some (.tup xs)) : SqT K H a xs := .inl (.inl h)
theorem Inv.list (I : Inv X pins σ H s) (h : SqL X.K H a xs) : ∃ its : List Value, Vals xs its ∧ PlainL s.heap a its.toArray ∧ xs.length ≤ sizeLine := by
  rcases h with h | ⟨o, its, n, hk, hc, hd, hs, hz, r⟩
  · obtain ⟨z, its, n, r, e⟩ := h.ok I.hok
    exact ⟨its, r, ⟨_, n, e, rfl, rfl, rfl⟩, z⟩
  · refine ⟨its.toList, r, ⟨o, n, I.kIn a o hk, hc, hd, by simpa using hs⟩, ?_⟩
    have e := r.length
    simp only [Array.length_toList] at e
    omega
theorem Inv.tuple (I : Inv X pins σ H s) (h : SqT X.K H a xs) : ∃ its : List Value, Vals xs its ∧ IsTup s.heap a its.toArray ∧ xs.length ≤ sizeLine := by
  rcases h with h | ⟨o, its, n, hk, hc, hs, hz, r⟩
  · obtain ⟨z, its, r, p⟩ := h.ok I.hok
    exact ⟨its, r, p, z⟩
  · refine ⟨its.toList, r, ⟨o, I.kIn a o hk, hc, n, by simpa using hs⟩, ?_⟩
    have e := r.length
    simp only [Array.length_toList] at e
    omega
end
abbrev Cx.wish (X : Cx) (E : Value → Shared → Prop) : Cx := { X with xe := E }
abbrev Cx.nox (X : Cx) : Cx := X.wish fun _ _ => False
theorem Cx.Ok.wish {X : Cx} (ok : X.Ok) (E : Value → Shared → Prop) : (X.wish E).Ok :=
  ⟨ok.mod, ok.kind, ok.glob, ok.blt, ok.above, ok.inj, ok.has, ok.cab, ok.hd, ok.frames, ok.stk, ok.exf, ok.bs, ok.bsz, ok.noex, ok.exfs, ok.funs, ok.frf⟩
theorem Cx.Ok.unwish {X : Cx} {E : Value → Shared → Prop} (ok : (X.wish E).Ok) : X.Ok :=
  ⟨ok.mod, ok.kind, ok.glob, ok.blt, ok.above, ok.inj, ok.has, ok.cab, ok.hd, ok.frames, ok.stk, ok.exf, ok.bs, ok.bsz, ok.noex, ok.exfs, ok.funs, ok.frf⟩
section
variable {X : Cx} {pins : List (Addr × Obj)} {σ : St} {H : Hp} {s : Shared} {E : Value → Shared → Prop}
theorem Inv.wish (I : Inv X pins σ H s) (E : Value → Shared → Prop) : Inv (X.wish E) pins σ H s := ⟨I.ok.wish E, I.os, I.bare, I.base, I.loc, I.cell, I.free, I.freeC, I.pin, I.hok, I.len⟩
theorem Inv.unwish (I : Inv (X.wish E) pins σ H s) : Inv X pins σ H s := ⟨I.ok.unwish, I.os, I.bare, I.base, I.loc, I.cell, I.free, I.freeC, I.pin, I.hok, I.len⟩
theorem SP.unwish {D : Ends} {f : Flow} {s' : Shared} (h : SP (X.wish E) pins D f s') : SP X pins D f s' := by
  cases f with
  | next => obtain ⟨σ', H', I, q⟩ := h; exact ⟨σ', H', I.unwish, q⟩
  | brk => obtain ⟨σ', H', I, q⟩ := h; exact ⟨σ', H', I.unwish, q⟩
  | cont => obtain ⟨σ', H', I, q⟩ := h; exact ⟨σ', H', I.unwish, q⟩
  | ret u => obtain ⟨v, σ', H', I, r, q⟩ := h; exact ⟨v, σ', H', I.unwish, r, q⟩
theorem PE.nox {e : Expr} {t : TE} (h : PE X.nox e t) : PE X e t := fun pins s σ H Q I hw =>
  wpAny_mono (h pins s σ H Q (I.wish _) hw) (fun _ _ ⟨v, H', I', r, q⟩ => ⟨v, H', I'.unwish, r, q⟩) fun _ _ z => False.elim z
theorem PT.nox {e : Expr} {t : TT} (h : PT X.nox e t) : PT X e t := fun pins s σ H Q I hw =>
  wpAny_mono (h pins s σ H Q (I.wish _) hw) (fun _ _ ⟨H', I', q⟩ => ⟨H', I'.unwish, q⟩) fun _ _ z => False.elim z
theorem PSs.nox {st : List Stmt} {t : TS} (h : PSs X.nox st t) : PSs X st t := fun pins s σ H D I hw =>
  wpAny_mono (h pins s σ H D (I.wish _) hw) (fun _ _ q => q.unwish) fun _ _ z => False.elim z
end
section
variable {X : Cx} {st : Stmt} {rest : List Stmt} {t u : TS} {e : Expr} {te : TE} {pos : Pos}
def tNext : TS := fun D σ H => D.nx σ H
def tSeq (t u : TS) : TS := fun D σ H => t { D with nx := u D } σ H
theorem pss_nil : PSs X [] tNext := fun _ _ σ H _ I h => wpAny_execs_nil ⟨σ, H, I, h⟩
theorem pss_cons (h1 : PS X st t) (h2 : PSs X rest u) : PSs X (st :: rest) (tSeq t u) := by
  intro pins s σ H D I h
  refine wpAny_execs_cons (thn (h1 pins s σ H { D with nx := u D } I h) fun f s1 q => ?_)
  cases f with
  | next =>
    obtain ⟨σ', H', I', q⟩ := q
    exact h2 pins s1 σ' H' D I' q
  | ret v => exact q
  | brk => exact q
  | cont => exact q
theorem pss_one (h1 : PS X st t) : PSs X [st] t := by
  intro pins s σ H D I h
  refine wpAny_execs_cons (thn (h1 pins s σ H D I h) fun f s1 q => ?_)
  cases f with
  | next => exact wpAny_execs_nil q
  | ret v => exact q
  | brk => exact q
  | cont => exact q
def tRet (te : TE) : TS := fun D σ H => te σ H D.rt
theorem ps_ret (he : PE X e te) : PS X (.Return (some e) pos) (tRet te) := by
  intro pins s σ H D I h
  exact wpAny_Return_some (thn (he pins s σ H _ I h) fun v s1 ⟨x, H1, I1, r1, q1⟩ => ⟨x, σ, H1, I1, r1, q1⟩)
def tIfS (c : TT) (t u : TS) : TS := fun D σ H => c σ H fun b H1 => if b = true then t D σ H1 else u D σ H1
theorem ps_if {c : Expr} {a b : List Stmt} {tc : TT} (hc : PT X c tc) (ha : PSs X a t) (hb : PSs X b u) : PS X (.If c a b pos) (tIfS tc t u) := by
  intro pins s σ H D I h
  refine wpAny_If (thn (hc pins s σ H _ I h) fun d s1 ⟨H1, I1, q1⟩ => ?_)
  cases d with
  | true => exact ha pins s1 σ H1 D I1 q1
  | false => exact hb pins s1 σ H1 D I1 q1
end
abbrev TG := V → St → Hp → (St → Hp → Prop) → Prop
def PG (X : Cx) (target : Expr) (t : TG) : Prop :=
  ∀ (pins : List (Addr × Obj)) (s : Shared) (σ : St) (H : Hp) (v : V) (u : Value) (Q : St → Hp → Prop), Inv X pins σ H s → RelV v u → t v σ H Q →
    wpAny (model X.prog X.w) X.A (assign target X.env u) (fun _ s' => ∃ σ' H', Inv X pins σ' H' s' ∧ Q σ' H') X.xe s
section
variable {X : Cx} {pos : Pos}
def gName (i : Nat) : TG := fun v σ H Q => Q (σ.set i (some v)) H
theorem pg_name {i : Nat} {x : Str} (hN : X.N.Nodup) (hi : X.N[i]? = some x) (hx : Loc X.env.scope x) (hf : X.fn x = true ∨ X.env.scope.names.lookup x = some .local := by first | exact .inl rfl | exact .inr rfl | assumption) : PG X (.Name x pos) (gName i) := by
  intro pins s σ H v u Q I r h
  exact wpAny_assign_Name (store_ok I hN hi hx r (fun s' I' => ⟨_, H, I', h⟩) hf)
def tAsg (te : TE) (g : TG) : TS := fun D σ H => te σ H fun x H1 => g x σ H1 D.nx
theorem ps_set {i : Nat} {x : Str} {e : Expr} {te : TE} {pos' : Pos} (hN : X.N.Nodup) (hi : X.N[i]? = some x) (hx : Loc X.env.scope x) (he : PE X e te) (hs : swapsWith e (some (.Name x pos')) pos.line X.env = pure false := by rfl) (hf : X.fn x = true ∨ X.env.scope.names.lookup x = some .local := by first | exact .inl rfl | exact .inr rfl | assumption) :
    PS X (.Assign [.Name x pos'] e pos) (tAsg te (gName i)) := by
  intro pins s σ H D I h
  refine wpAny_Assign_Name (thn (he pins s σ H _ I h) fun v s1 ⟨y, H1, I1, r1, q1⟩ => ?_) hs
  exact store_ok I1 hN hi hx r1 (fun s2 I2 => ⟨_, H1, I2, q1⟩) hf
end
section
variable {X : Cx} {pos : Pos}
end
structure It where
  go : Nat → Hp → Prop
  yld : Nat → Hp → V → Hp → Prop
  stop : Nat → Hp → Prop
def FpOk (X : Cx) (pins : List (Addr × Obj)) (H : Hp) (b : Addr) : Prop :=
  H b = none ∧ b ≠ X.env.locals ∧ b ∉ X.fs ∧ (b ∈ X.ex ∨ X.s_0.heap.objs.size ≤ b) ∧ (∀ x c, X.env.cells.lookup x = some c → c ≠ b) ∧ ∀ p ∈ X.pn ++ pins, p.1 ≠ b
theorem Inv.fpOk {X : Cx} {pins : List (Addr × Obj)} {σ : St} {H H' : Hp} {s : Shared} {b : Addr} (I : Inv X pins σ H s) (hb : s.heap.objs.size ≤ b) (hn : H' b = none) : FpOk X pins H' b := by
  refine ⟨hn, Nat.ne_of_gt (Nat.lt_of_lt_of_le I.lt hb), I.nofs hb, .inr (Nat.le_trans I.sz hb), fun x c e z => ?_, fun p hp z => ?_⟩
  · obtain ⟨v, q⟩ := I.cell x c e
    exact absurd (Nat.lt_of_lt_of_le q.lt (by rw [z]; exact hb)) (Nat.lt_irrefl _)
  · exact absurd (Nat.lt_of_lt_of_le (Heap.lt_size (I.pin p hp).1) (by rw [z]; exact hb)) (Nat.lt_irrefl _)
structure Turn (P : Program) (w : World) (K : PySem.W.Frag) (tg : Expr) (J : It) (fp : List Addr) (it : Addr) (tn : Nat → Heap → Prop) : Prop where
  mem : it ∈ fp
  obj : ∀ i h, tn i h → ∀ b ∈ fp, ∃ o, h.get? b = some o ∧ ∀ v, o.data ≠ .cell v
  keep : ∀ i h h', tn i h → (∀ b ∈ fp, ∀ o, h.get? b = some o → h'.get? b = some o) → tn i h'
  item : ∀ (X : Cx), X.prog = P → X.w = w → X.K = K → X.calm = true → ∀ (i : Nat) (pins : List (Addr × Obj)) (s : Shared) (σ : St) (H : Hp) (E : Value → Shared → Prop), Inv X pins σ H s → (∀ b ∈ fp, FpOk X pins H b) → tn i s.heap → J.go i H →
    wpAny (model P w) X.A (pyNext (.ref it)) (fun r s1 => ∃ u, r = some u ∧
      wpAny (model P w) X.A (letOwnedTupleGo tg (.ref it) u) (fun _ s2 => ∃ x H', Inv X pins σ H' s2 ∧ RelV x u ∧ J.yld i H x H' ∧ tn (i + 1) s2.heap ∧ ∀ b ∈ fp, H' b = none) E s1) E s
  done : ∀ (X : Cx), X.prog = P → X.w = w → X.K = K → X.calm = true → ∀ (i : Nat) (pins : List (Addr × Obj)) (s : Shared) (σ : St) (H : Hp) (E : Value → Shared → Prop), Inv X pins σ H s → (∀ b ∈ fp, FpOk X pins H b) → tn i s.heap → J.stop i H →
    wpAny (model P w) X.A (pyNext (.ref it)) (fun r s1 => r = none ∧ Inv X pins σ H s1) E s
  self : ∀ (A : Around) (i : Nat) (s : Shared) (Q : Value → Shared → Prop) (E : Value → Shared → Prop), tn i s.heap → Q (.ref it) s → wpAny (model P w) A (pyIter (.ref it)) Q E s
abbrev TI := St → Hp → (It → Hp → Prop) → Prop
def PIE (X : Cx) (pins : List (Addr × Obj)) (σ : St) (tg : Expr) (R : It → Hp → Prop) (itv : Value) (s2 : Shared) : Prop :=
  ∃ (it : Addr) (fp : List Addr) (tn : Nat → Heap → Prop) (J : It) (H' : Hp), itv = .ref it ∧ Inv X pins σ H' s2 ∧ Turn X.prog X.w X.K tg J fp it tn ∧ tn 0 s2.heap ∧ (∀ b ∈ fp, FpOk X pins H' b) ∧ R J H'
def PI (X : Cx) (tg iter : Expr) (wi : TI) : Prop :=
  ∀ (pins : List (Addr × Obj)) (s : Shared) (σ : St) (H : Hp) (R : It → Hp → Prop), Inv X pins σ H s → wi σ H R →
    wpAny (model X.prog X.w) X.A (eval iter X.env) (fun v s1 => wpAny (model X.prog X.w) X.A (pyIter v) (PIE X pins σ tg R) X.xe s1) X.xe s
theorem go_of {M : Model} {A : Around} {E : Value → Shared → Prop} {s : Shared} {tg : Expr} {it : Addr} {u : Value} {o : Obj} {n : String} {vs : Array Value} {Q : Unit → Shared → Prop} (ho : s.heap.get? it = some o) (hc : o.cls = .type n) (hd : o.data = .fields vs)
    (hn : ["enumerate", "zip", "dict_itemiterator", "dict_reverseitemiterator", "odict_iterator", "itertools.zip_longest", "itertools.pairwise"].contains n = false) (hQ : Q () s) : wpAny M A (letOwnedTupleGo tg (.ref it) u) Q E s := by
  unfold letOwnedTupleGo
  cases tg <;> first
    | exact wpAny_pure hQ
    | (cases u <;> first
        | exact wpAny_pure hQ
        | (refine wpAny_bind (wpAny_load ho ?_)
           rw [hc, hd]
           show wpAny M A (if (["enumerate", "zip", "dict_itemiterator", "dict_reverseitemiterator", "odict_iterator", "itertools.zip_longest", "itertools.pairwise"].contains n && vs[0]? == some (rawInt _)) = true then _ else _) Q E s
           rw [if_neg (by intro h; rw [hn, Bool.false_and] at h; cases h)]
           exact wpAny_pure hQ))
def Itr (lo : Int) (n : Nat) : It := ⟨fun i _ => i < n, fun i H x H' => H' = H ∧ x = .int (lo + i), fun i _ => n ≤ i⟩
theorem turn_range {P : Program} {w : World} {K : PySem.W.Frag} {tg : Expr} (it : Addr) (lo : Int) (n : Nat) : Turn P w K tg (Itr lo n) [it] it (fun i h => IsRangeIter h it (lo + (i : Nat) * 1) ((n : Int) - (i : Nat)) 1) where
  mem := by simp
  obj := fun i h st b hb => by
    have e : b = it := by simpa using hb
    subst e
    exact ⟨_, st, fun v z => by
      have z' : Data.fields _ = Data.cell v := z
      cases z'⟩
  keep := fun i h h' st k => k it (by simp) _ st
  item := by
    intro X hP hw hK hc i pins s σ H E I hf st hg
    subst hP hw hK
    obtain ⟨f0, f1, f2, f3, f4, f5⟩ := hf it (by simp)
    have W := Walks.range (prog := X.prog) (w := X.w) (I.ok.hd hc) it lo 1 n
    refine W.item i s _ _ hg st fun v h' tk hv st' kk => ?_
    obtain ⟨t, rfl⟩ := hv
    have I1 : Inv X pins σ H { s with heap := h', toks := tk } := I.turned (fun b o hb e => kk b o (by simpa using hb) e) f0 f1 f3 f4 f5
    refine ⟨_, rfl, go_of (s := { s with heap := h', toks := tk }) (n := "range_iterator") st' rfl rfl (by decide) ⟨.int (lo + i), H, I1, ⟨t, ?_⟩, ⟨rfl, rfl⟩, st', fun b hb => (hf b hb).1⟩⟩
    rw [Int.mul_one]
  done := by
    intro X hP hw hK hc i pins s σ H E I hf st hg
    subst hP hw hK
    obtain ⟨f0, f1, f2, f3, f4, f5⟩ := hf it (by simp)
    exact wpAny_pyNext_range_end (I.ok.hd hc) st (by have : n ≤ i := hg; omega) fun h' eb => ⟨rfl, I.turned (t' := s.toks) (fun b o hb e => eb b o hb e) f0 f1 f3 f4 f5⟩
  self := fun _ _ _ _ _ st h => wpAny_pyIter_rangeiter st h
end L2
namespace L2
open PySem PySem.Spec PyProof.Rows
section
variable {X : Cx} {tg : Expr}
theorem range_it {pins : List (Addr × Obj)} {σ : St} {H : Hp} {s : Shared} {R : It → Hp → Prop} {E : Value → Shared → Prop} {lo hi : Int} {t u v : Tok} {tk : Nat} (I : Inv X pins σ H s) (h1 : -(2 ^ 62) ≤ lo) (h2 : lo < 2 ^ 62) (h3 : -(2 ^ 62) ≤ hi) (h4 : hi < 2 ^ 62)
    (q : R (Itr lo (hi - lo).toNat) H) : wpAny (model X.prog X.w) X.A (pyIter (.ref s.heap.objs.size)) (PIE X pins σ tg R) E { s with heap := s.heap.push { cls := .type "range", data := .fields #[.int lo t, .int hi u, .int 1 v] }, toks := tk } := by
  refine wpAny_pyIter_range (IsRange.new ..) (small_one h1 h2 h3 h4) ?_
  have I1 : Inv X pins σ H { s with heap := s.heap.push { cls := .type "range", data := .fields #[.int lo t, .int hi u, .int 1 v] }, toks := tk } := I.kept fun b o e => Heap.get?_push_of_some _ e
  refine ⟨(s.heap.push { cls := .type "range", data := .fields #[.int lo t, .int hi u, .int 1 v] }).objs.size, [(s.heap.push { cls := .type "range", data := .fields #[.int lo t, .int hi u, .int 1 v] }).objs.size], _, _, H, rfl,
    I1.kept (t' := tk) fun b o e => Heap.get?_push_of_some _ e, turn_range _ lo (hi - lo).toNat, ?_, fun b hb => ?_, q⟩
  · have e1 : lo + ((0 : Nat) : Int) * 1 = lo := by simp
    have e2 : (((hi - lo).toNat : Nat) : Int) - ((0 : Nat) : Int) = Builtin.Range.rangeSize lo hi 1 := by rw [rangeSize_one]; split <;> omega
    show IsRangeIter _ _ (lo + ((0 : Nat) : Int) * 1) ((((hi - lo).toNat : Nat) : Int) - ((0 : Nat) : Int)) 1
    rw [e1, e2]
    exact Heap.get?_push_size _ rfl
  · have e : b = (s.heap.push { cls := .type "range", data := .fields #[.int lo t, .int hi u, .int 1 v] }).objs.size := by simpa using hb
    subst e
    exact I1.fpOk (Nat.le_refl _) (I1.hok.fresh (Nat.le_refl _))
def iRng1 (ta : TA) : TI := fun σ H R => ta σ H fun vs H1 => ∃ j : Int, vs = [.int j] ∧ -(2 ^ 62) ≤ j ∧ j < 2 ^ 62 ∧ R (Itr 0 j.toNat) H1
theorem pi_range1 {a : Expr} {ta : TA} {p pos : Pos} (hg : Gl X "range") (hm : X.mg "range" = none) (ha : PA X [a] ta) (hs : starEach [a] X.env = [(false, eval a X.env)] := by rfl) : PI X tg (.Call (.Name "range" p) [a] [] pos) (iRng1 ta) := by
  intro pins s σ H R I h
  refine Call_ (ld_blt I hg hm boot_range (PyProof.Rows.callWith_type1 (thn (ha pos pins s σ H _ I h) fun us s1 ⟨vs, H1, I1, r1, q1⟩ => ?_) hs rfl))
  obtain ⟨j, e, q1, q2, q⟩ := q1
  subst e
  cases r1 with
  | cons r rr =>
    cases rr
    obtain ⟨t, rfl⟩ := r
    exact call_range_1 (range_it I1 (by omega) (by omega) q1 q2 (by simpa using q))
def tFor (wi : TI) (g : TG) (tb : TS) : TS := fun D σ H => wi σ H fun J H1 => ∃ W : Nat → Nat → St → Hp → Prop, (∃ m, W 0 m σ H1) ∧ ∀ i m σ H, W i m σ H →
  (J.stop i H ∧ D.nx σ H) ∨ (J.go i H ∧ ∃ N : St → Hp → Prop, (∀ σ' H', N σ' H' → ∃ m', m' < m ∧ W (i + 1) m' σ' H') ∧ ∀ x H', J.yld i H x H' → g x σ H' fun σ2 H2 => tb { D with nx := N, ct := N, bk := D.nx } σ2 H2)
def pinsAt (fp : List Addr) (h : Heap) : List (Addr × Obj) := fp.filterMap fun b => (h.get? b).map fun o => (b, o)
theorem mem_pinsAt {fp : List Addr} {h : Heap} {b : Addr} {o : Obj} (hb : b ∈ fp) (e : h.get? b = some o) : (b, o) ∈ pinsAt fp h := List.mem_filterMap.mpr ⟨b, hb, by rw [e]; rfl⟩
theorem of_pinsAt {fp : List Addr} {h : Heap} {p : Addr × Obj} (hp : p ∈ pinsAt fp h) : p.1 ∈ fp ∧ h.get? p.1 = some p.2 := by
  obtain ⟨b, hb, e⟩ := List.mem_filterMap.mp hp
  cases q : h.get? b with
  | none => rw [q] at e; cases e
  | some o =>
    rw [q] at e
    have e' : (b, o) = p := Option.some.inj e
    subst e'
    exact ⟨hb, q⟩
theorem Inv.pinned {pins : List (Addr × Obj)} {σ : St} {H : Hp} {s : Shared} {fp : List Addr} (I : Inv X pins σ H s) (hf : ∀ b ∈ fp, FpOk X pins H b) (ho : ∀ b ∈ fp, ∃ o, s.heap.get? b = some o ∧ ∀ v, o.data ≠ .cell v) : Inv X (pins ++ pinsAt fp s.heap) σ H s :=
  I.pins_of fun p hp => (List.mem_append.mp hp).elim (fun z => I.pin p (List.mem_append_right _ z)) fun z => by
    obtain ⟨hb, e⟩ := of_pinsAt z
    obtain ⟨f0, f1, f2, _⟩ := hf p.1 hb
    obtain ⟨o, e', d⟩ := ho p.1 hb
    rw [e] at e'; cases e'
    exact ⟨e, f0, f1, f2, d⟩
theorem Inv.unpinned {pins pl : List (Addr × Obj)} {σ : St} {H : Hp} {s : Shared} (I : Inv X (pins ++ pl) σ H s) : Inv X pins σ H s := I.pins_of fun p hp => I.pin p (List.mem_append_right _ (List.mem_append_left _ hp))
theorem ps_for {iter : Expr} {body : List Stmt} {wi : TI} {g : TG} {tb : TS} {pos : Pos} (hp : PassesOwn (model X.prog X.w) X.A X.env X.xe) (hc : X.calm = true) (hi : PI X tg iter wi) (hg : PG X tg g) (hb : PSs X body tb)
    (hs : ∀ x, foldedSetIterable iter X.env x = pure x := by intro _; rfl) : PS X (.For tg iter body [] pos) (tFor wi g tb) := by
  intro pins s σ H D I h
  refine wpAny_For (thn (hi pins s σ H _ I h) fun v s1 h1 => thn h1 fun itv s2 h2 => ?_) hs
  obtain ⟨it, fp, tn, J, H2, e, I2, T, st2, f2, W, ⟨m0, w0⟩, turn⟩ := h2
  subst e
  -- what stays true of the iterator's objects through the loop
  have stat : ∀ {H' : Hp}, (∀ b ∈ fp, H' b = none) → ∀ b ∈ fp, FpOk X pins H' b := fun hn b hb => ⟨hn b hb, (f2 b hb).2⟩
  refine codeAny_forLoop_any (fun n s' => ∃ i σ' H', Inv X pins σ' H' s' ∧ tn i s'.heap ∧ (∀ b ∈ fp, H' b = none) ∧ W i n σ' H') ?_ m0 ⟨0, σ, H2, I2, st2, fun b hb => (f2 b hb).1, w0⟩
  rintro n s3 ⟨i, σ3, H3, I3, st3, fr3, w3⟩
  rcases turn i n σ3 H3 w3 with ⟨stop, qn⟩ | ⟨go, N, hN, step⟩
  · refine wpAny_passesOwn hp (thn (T.done X rfl rfl rfl hc i pins s3 σ3 H3 X.xe I3 (stat fr3) st3 stop) fun r s4 ⟨hr, I4⟩ => ?_)
    subst hr
    exact wpAny_execs_nil ⟨σ3, H3, I4, qn⟩
  · refine wpAny_passesOwn hp (thn (T.item X rfl rfl rfl hc i pins s3 σ3 H3 X.xe I3 (stat fr3) st3 go) fun r s4 ⟨u, hr, h4⟩ => ?_)
    subst hr
    refine wpAny_passesOwn hp (thn h4 fun _ s5 ⟨x, H5, I5, r5, y5, st5, fr5⟩ => ?_)
    have I5' := I5.pinned (stat fr5) (T.obj _ _ st5)
    refine wpAny_passesOwn hp (thn (hg _ s5 σ3 H5 x u _ I5' r5 (step x H5 y5)) fun _ s6 ⟨σ6, H6, I6, q6⟩ => ?_)
    refine wpAny_passesOwn hp (thn (hb _ s6 σ6 H6 _ I6 q6) fun f s7 q7 => ?_)
    have again : ∀ {σ7 : St} {H7 : Hp}, Inv X (pins ++ pinsAt fp s5.heap) σ7 H7 s7 → N σ7 H7 → ∃ m, m < n ∧ ∃ i σ' H', Inv X pins σ' H' s7 ∧ tn i s7.heap ∧ (∀ b ∈ fp, H' b = none) ∧ W i m σ' H' := fun {σ7 H7} I7 n7 => by
      obtain ⟨m', hm, w7⟩ := hN σ7 H7 n7
      refine ⟨m', hm, i + 1, σ7, H7, I7.unpinned, T.keep _ _ _ st5 fun b hb o e => (I7.pin (b, o) (List.mem_append_right _ (List.mem_append_right _ (mem_pinsAt hb e)))).1, fun b hb => ?_, w7⟩
      obtain ⟨o, e, d⟩ := T.obj _ _ st5 b hb
      exact (I7.pin (b, o) (List.mem_append_right _ (List.mem_append_right _ (mem_pinsAt hb e)))).2.1
    cases f with
    | next => obtain ⟨σ7, H7, I7, n7⟩ := q7; exact again I7 n7
    | cont => obtain ⟨σ7, H7, I7, n7⟩ := q7; exact again I7 n7
    | brk => obtain ⟨σ7, H7, I7, q7⟩ := q7; exact ⟨σ7, H7, I7.unpinned, q7⟩
    | ret v => obtain ⟨x7, σ7, H7, I7, r7, q7⟩ := q7; exact ⟨x7, σ7, H7, I7.unpinned, r7, q7⟩
end
theorem for_range {lo : Int} {n : Nat} {g : TG} {tb : TS} {D : Ends} {σ : St} {H : Hp} (Pv : Nat → St → Hp → Prop) (h0 : Pv 0 σ H)
    (hs : ∀ i σ H, i < n → Pv i σ H → g (.int (lo + i)) σ H fun σ2 H2 => tb { D with nx := Pv (i + 1), ct := Pv (i + 1), bk := D.nx } σ2 H2) (hd : ∀ σ H, Pv n σ H → D.nx σ H) :
    ∃ W : Nat → Nat → St → Hp → Prop, (∃ m, W 0 m σ H) ∧ ∀ i m σ H, W i m σ H →
      ((Itr lo n).stop i H ∧ D.nx σ H) ∨ ((Itr lo n).go i H ∧ ∃ N : St → Hp → Prop, (∀ σ' H', N σ' H' → ∃ m', m' < m ∧ W (i + 1) m' σ' H') ∧ ∀ x H', (Itr lo n).yld i H x H' → g x σ H' fun σ2 H2 => tb { D with nx := N, ct := N, bk := D.nx } σ2 H2) := by
  refine ⟨fun i m σ H => m = n - i ∧ i ≤ n ∧ Pv i σ H, ⟨n, by simp, Nat.zero_le _, h0⟩, ?_⟩
  rintro i m σ H ⟨rfl, hi, p⟩
  by_cases hlt : i < n
  · refine .inr ⟨hlt, Pv (i + 1), fun σ' H' p' => ⟨n - (i + 1), by omega, rfl, hlt, p'⟩, fun x H' y => ?_⟩
    obtain ⟨e, y⟩ := y
    subst e y
    exact hs i σ _ hlt p
  · have e : i = n := by omega
    subst e
    exact .inl ⟨Nat.le_refl _, hd σ H p⟩
end L2
namespace L2
open PySem PySem.Spec PyProof.Rows
abbrev R2 := V → V → Hp → VK → Prop
def OpR (X : Cx) (f : Value → Value → Sem Value) (r : R2) : Prop :=
  ∀ (pins : List (Addr × Obj)) (s : Shared) (σ : St) (H : Hp) (x y : V) (v u : Value) (Q : VK), Inv X pins σ H s → RelV x v → RelV y u → r x y H Q →
    wpAny (model X.prog X.w) X.A (f v u) (EP X pins σ Q) X.xe s
def UnR (X : Cx) (f : Value → Sem Value) (r : V → Hp → VK → Prop) : Prop :=
  ∀ (pins : List (Addr × Obj)) (s : Shared) (σ : St) (H : Hp) (x : V) (v : Value) (Q : VK), Inv X pins σ H s → RelV x v → r x H Q →
    wpAny (model X.prog X.w) X.A (f v) (EP X pins σ Q) X.xe s
def CallR (X : Cx) (f : Value) (r : List V → Hp → VK → Prop) : Prop :=
  ∀ (pins : List (Addr × Obj)) (s : Shared) (σ : St) (H : Hp) (xs : List V) (us : List Value) (Q : VK), Inv X pins σ H s → Vals xs us → r xs H Q →
    wpAny (model X.prog X.w) X.A (call f us) (EP X pins σ Q) X.xe s
def tOp (r : R2) (ta tb : TE) : TE := fun σ H Q => ta σ H fun x H1 => tb σ H1 fun y H2 => r x y H2 Q
def tUn (r : V → Hp → VK → Prop) (ta : TE) : TE := fun σ H Q => ta σ H fun x H1 => r x H1 Q
def rI (C : Int → Int → Prop) (g : Int → Int → V) : R2 := fun x y H Q => ∃ i j, x = .int i ∧ y = .int j ∧ C i j ∧ Q (g i j) H
def rI0 (g : Int → Int → V) : R2 := fun x y H Q => ∃ i j, x = .int i ∧ y = .int j ∧ Q (g i j) H
def rU (g : Int → V) : V → Hp → VK → Prop := fun x H Q => ∃ i, x = .int i ∧ Q (g i) H
section
variable {X : Cx} {a b c : Expr} {ta tb tc : TE} {pos : Pos}
theorem binT (ha : PE X a ta) (hb : PE X b tb) {pins : List (Addr × Obj)} {s : Shared} {σ : St} {H : Hp} {R : V → V → Hp → Prop} (I : Inv X pins σ H s)
    (h : ta σ H fun x H1 => tb σ H1 fun y H2 => R x y H2) {Q : Value → Shared → Prop} {f : Value → Value → Sem Value}
    (hf : ∀ v u s2 x y H2, Inv X pins σ H2 s2 → RelV x v → RelV y u → R x y H2 → wpAny (model X.prog X.w) X.A (f v u) Q X.xe s2) :
    wpAny (model X.prog X.w) X.A (eval a X.env) (fun v s₁ => wpAny (model X.prog X.w) X.A (eval b X.env) (fun u s₂ => wpAny (model X.prog X.w) X.A (f v u) Q X.xe s₂) X.xe s₁) X.xe s := by
  refine thn (ha pins s σ H _ I h) fun v s1 ⟨x, H1, I1, r1, q1⟩ => ?_
  refine thn (hb pins s1 σ H1 _ I1 q1) fun u s2 ⟨y, H2, I2, r2, q2⟩ => ?_
  exact hf v u s2 x y H2 I2 r1 r2 q2
theorem pe_op {op : Operator} {r : R2} (ho : OpR X (binaryOp op) r) (ha : PE X a ta) (hb : PE X b tb) : PE X (.BinOp a op b pos) (tOp r ta tb) := by
  intro pins s σ H Q I h
  exact wpAny_BinOp (binT ha hb I h fun v u s2 x y H2 I2 rx ry q => ho pins s2 σ H2 x y v u Q I2 rx ry q)
theorem pe_un {op : UnaryOp} {r : V → Hp → VK → Prop} (ho : UnR X (unaryOp op) r) (ha : PE X a ta) : PE X (.UnaryOp op a pos) (tUn r ta) := by
  intro pins s σ H Q I h
  exact UnaryOp_ (thn (ha pins s σ H _ I h) fun v s1 ⟨x, H1, I1, r1, q1⟩ => ho pins s1 σ H1 x v Q I1 r1 q1)
theorem opI {f : Value → Value → Sem Value} {C : Int → Int → Prop} {g : Int → Int → Int}
    (rule : ∀ (i j : Int) (t u : Tok) (s : Shared) (Q : Value → Shared → Prop) (E : Value → Shared → Prop), C i j → Q (.int (g i j) s.toks) { s with toks := s.toks + 1 } → wpAny (model X.prog X.w) X.A (f (.int i t) (.int j u)) Q E s) :
    OpR X f (rI C fun i j => .int (g i j)) := by
  intro pins s σ H x y v u Q I rx ry h
  obtain ⟨i, j, rfl, rfl, hc, q⟩ := h
  obtain ⟨t, rfl⟩ := rx
  obtain ⟨t', rfl⟩ := ry
  exact rule i j t t' s _ _ hc ⟨.int (g i j), H, I.tok _, ⟨_, rfl⟩, q⟩
theorem opI0 {f : Value → Value → Sem Value} {g : Int → Int → Int}
    (rule : ∀ (i j : Int) (t u : Tok) (s : Shared) (Q : Value → Shared → Prop) (E : Value → Shared → Prop), Q (.int (g i j) s.toks) { s with toks := s.toks + 1 } → wpAny (model X.prog X.w) X.A (f (.int i t) (.int j u)) Q E s) :
    OpR X f (rI0 fun i j => .int (g i j)) := by
  intro pins s σ H x y v u Q I rx ry h
  obtain ⟨i, j, rfl, rfl, q⟩ := h
  obtain ⟨t, rfl⟩ := rx
  obtain ⟨t', rfl⟩ := ry
  exact rule i j t t' s _ _ ⟨.int (g i j), H, I.tok _, ⟨_, rfl⟩, q⟩
theorem opB0 {f : Value → Value → Sem Value} {g : Int → Int → Bool}
    (rule : ∀ (i j : Int) (t u : Tok) (s : Shared) (Q : Value → Shared → Prop) (E : Value → Shared → Prop), Q (.bool (g i j)) s → wpAny (model X.prog X.w) X.A (f (.int i t) (.int j u)) Q E s) :
    OpR X f (rI0 fun i j => .bl (g i j)) := by
  intro pins s σ H x y v u Q I rx ry h
  obtain ⟨i, j, rfl, rfl, q⟩ := h
  obtain ⟨t, rfl⟩ := rx
  obtain ⟨t', rfl⟩ := ry
  exact rule i j t t' s _ _ ⟨.bl (g i j), H, I, rfl, q⟩
def CMul (i j : Int) : Prop := (-(2 ^ 64) < i ∧ i < 2 ^ 64) ∨ (-(2 ^ 64) < j ∧ j < 2 ^ 64)
theorem CMul.ok {i j : Int} (h : CMul i j) : IntMulOk i j := by
  rcases h with ⟨h1, h2⟩ | ⟨h1, h2⟩
  · exact .of_left (intBits_le_64 h1 h2)
  · exact .of_right (intBits_le_64 h1 h2)
theorem two_pow_nn (k : Nat) : (0 : Int) ≤ 2 ^ k := by
  rw [two_pow_cast]
  exact Int.natCast_nonneg _
theorem op_add : OpR X (binaryOp .Add) (rI0 fun i j => .int (i + j)) := opI0 fun _ _ _ _ _ _ _ q => add_int q
theorem op_sub : OpR X (binaryOp .Sub) (rI0 fun i j => .int (i - j)) := opI0 fun _ _ _ _ _ _ _ q => sub_int q
theorem op_mul : OpR X (binaryOp .Mult) (rI CMul fun i j => .int (i * j)) := opI fun _ _ _ _ _ _ _ hc q => mul_int q hc.ok
theorem op_shr : OpR X (binaryOp .RShift) (rI (fun _ j => 0 ≤ j) fun i j => .int (i / 2 ^ j.toNat)) := opI fun i j _ _ _ _ _ hc q =>
  rshift_int hc (by rw [Int.fdiv_eq_ediv_of_nonneg i (two_pow_nn _)]; exact q)
theorem op_and : OpR X (binaryOp .BitAnd) (rI0 fun i j => .int (Builtin.bitAnd i j)) := opI0 fun _ _ _ _ _ _ _ q => and_int q
theorem op_or : OpR X (binaryOp .BitOr) (rI0 fun i j => .int (Builtin.bitOr i j)) := opI0 fun _ _ _ _ _ _ _ q => or_int q
theorem op_xor : OpR X (binaryOp .BitXor) (rI0 fun i j => .int (Builtin.bitXor i j)) := opI0 fun _ _ _ _ _ _ _ q => xor_int q
theorem unI {f : Value → Sem Value} {g : Int → Int}
    (rule : ∀ (i : Int) (t : Tok) (s : Shared) (Q : Value → Shared → Prop) (E : Value → Shared → Prop), Q (.int (g i) s.toks) { s with toks := s.toks + 1 } → wpAny (model X.prog X.w) X.A (f (.int i t)) Q E s) :
    UnR X f (rU fun i => .int (g i)) := by
  intro pins s σ H x v Q I rx h
  obtain ⟨i, rfl, q⟩ := h
  obtain ⟨t, rfl⟩ := rx
  exact rule i t s _ _ ⟨.int (g i), H, I.tok _, ⟨_, rfl⟩, q⟩
theorem un_neg : UnR X (unaryOp .USub) (rU fun i => .int (-i)) := unI fun _ _ _ _ _ q => neg_int q
end
def scal : V → V → Bool
  | .non, .non => true | .non, .int _ => true | .int _, .non => true | .non, .bl _ => true | .bl _, .non => true | .non, .str _ => true | .str _, .non => true
  | .int _, .int _ => true | .bl _, .bl _ => true | .str _, .str _ => true | .byt _, .byt _ => true
  | .int _, .str _ => true | .str _, .int _ => true | .bl _, .str _ => true | .str _, .bl _ => true
  | _, _ => false
def rEq : R2 := fun x y H Q => scal x y = true ∧ Q (.bl (decide (x = y))) H
def rNe : R2 := fun x y H Q => scal x y = true ∧ Q (.bl (!decide (x = y))) H
theorem dec_int {i j : Int} : decide (V.int i = V.int j) = (i == j) := by
  rw [Bool.eq_iff_iff]
  simp
theorem dec_bl {i j : Bool} : decide (V.bl i = V.bl j) = (i == j) := by
  rw [Bool.eq_iff_iff]
  simp
theorem dec_str {i j : Str} : decide (V.str i = V.str j) = (i == j) := by
  rw [Bool.eq_iff_iff]
  simp
theorem dec_byt {i j : Array UInt8} : decide (V.byt i = V.byt j) = (i.toList == j.toList) := by
  rw [Bool.eq_iff_iff]
  cases i
  cases j
  simp
section
variable {X : Cx} {a b c : Expr} {ta tb tc : TE} {pos : Pos}
theorem fin_bl {pins : List (Addr × Obj)} {σ : St} {H : Hp} {s : Shared} {Q : VK} {k k' : Bool} (I : Inv X pins σ H s) (q : Q (.bl k) H) (e : k = k') : EP X pins σ Q (.bool k') s := by
  subst e
  exact ⟨.bl k, H, I, rfl, q⟩
theorem op_eq : OpR X (compareOp .Eq) rEq := by
  intro pins s σ H x y v u Q I rx ry h
  obtain ⟨hs, q⟩ := h
  cases x with
  | non =>
    cases rx
    cases y with
    | non => cases ry; exact PySem.EqNone.eq_none_none (fin_bl I q (by simp))
    | bl j => cases ry; exact PySem.EqNone.eq_none_bool (fin_bl I q (by simp))
    | int j => obtain ⟨t', rfl⟩ := ry; exact PySem.EqNone.eq_none_int (fin_bl I q (by simp))
    | str j => obtain ⟨t', rfl⟩ := ry; exact PySem.EqNone.eq_none_str (fin_bl I q (by simp))
    | _ => exact absurd (show false = true from hs) Bool.false_ne_true
  | bl i =>
    cases rx
    cases y with
    | non => cases ry; exact PySem.EqNone.eq_bool_none (fin_bl I q (by simp))
    | bl j => cases ry; exact eq_bool (fin_bl I q dec_bl)
    | str j => obtain ⟨t', rfl⟩ := ry; exact PySem.EqMixed.eq_bool_str (fin_bl I q (by simp))
    | _ => exact absurd (show false = true from hs) Bool.false_ne_true
  | int i =>
    obtain ⟨t, rfl⟩ := rx
    cases y with
    | non => cases ry; exact PySem.EqNone.eq_int_none (fin_bl I q (by simp))
    | int j => obtain ⟨t', rfl⟩ := ry; exact eq_int (fin_bl I q dec_int)
    | str j => obtain ⟨t', rfl⟩ := ry; exact PySem.EqMixed.eq_int_str (fin_bl I q (by simp))
    | _ => exact absurd (show false = true from hs) Bool.false_ne_true
  | str i =>
    obtain ⟨t, rfl⟩ := rx
    cases y with
    | non => cases ry; exact PySem.EqNone.eq_str_none (fin_bl I q (by simp))
    | bl j => cases ry; exact PySem.EqMixed.eq_str_bool (fin_bl I q (by simp))
    | int j => obtain ⟨t', rfl⟩ := ry; exact PySem.EqMixed.eq_str_int (fin_bl I q (by simp))
    | str j => obtain ⟨t', rfl⟩ := ry; exact eq_str (fin_bl I q dec_str)
    | _ => exact absurd (show false = true from hs) Bool.false_ne_true
  | byt i =>
    obtain ⟨t, rfl⟩ := rx
    cases y with
    | byt j => obtain ⟨t', rfl⟩ := ry; exact PySem.W.eq_bytes (fin_bl I q dec_byt)
    | _ => exact absurd (show false = true from hs) Bool.false_ne_true
  | _ => cases y <;> exact absurd (show false = true from hs) Bool.false_ne_true
theorem op_ne : OpR X (compareOp .NotEq) rNe := by
  intro pins s σ H x y v u Q I rx ry h
  obtain ⟨hs, q⟩ := h
  cases x with
  | non =>
    cases rx
    cases y with
    | non => cases ry; exact PySem.EqNone.ne_none_none (fin_bl I q (by simp))
    | bl j => cases ry; exact PySem.EqNone.ne_none_bool (fin_bl I q (by simp))
    | int j => obtain ⟨t', rfl⟩ := ry; exact PySem.EqNone.ne_none_int (fin_bl I q (by simp))
    | str j => obtain ⟨t', rfl⟩ := ry; exact PySem.EqNone.ne_none_str (fin_bl I q (by simp))
    | _ => exact absurd (show false = true from hs) Bool.false_ne_true
  | bl i =>
    cases rx
    cases y with
    | non => cases ry; exact PySem.EqNone.ne_bool_none (fin_bl I q (by simp))
    | bl j => cases ry; exact ne_bool (fin_bl I q (congrArg not dec_bl))
    | str j => obtain ⟨t', rfl⟩ := ry; exact PySem.EqMixed.ne_bool_str (fin_bl I q (by simp))
    | _ => exact absurd (show false = true from hs) Bool.false_ne_true
  | int i =>
    obtain ⟨t, rfl⟩ := rx
    cases y with
    | non => cases ry; exact PySem.EqNone.ne_int_none (fin_bl I q (by simp))
    | int j => obtain ⟨t', rfl⟩ := ry; exact ne_int (fin_bl I q (congrArg not dec_int))
    | str j => obtain ⟨t', rfl⟩ := ry; exact PySem.EqMixed.ne_int_str (fin_bl I q (by simp))
    | _ => exact absurd (show false = true from hs) Bool.false_ne_true
  | str i =>
    obtain ⟨t, rfl⟩ := rx
    cases y with
    | non => cases ry; exact PySem.EqNone.ne_str_none (fin_bl I q (by simp))
    | bl j => cases ry; exact PySem.EqMixed.ne_str_bool (fin_bl I q (by simp))
    | int j => obtain ⟨t', rfl⟩ := ry; exact PySem.EqMixed.ne_str_int (fin_bl I q (by simp))
    | str j => obtain ⟨t', rfl⟩ := ry; exact ne_str (fin_bl I q (congrArg not dec_str))
    | _ => exact absurd (show false = true from hs) Bool.false_ne_true
  | byt i =>
    obtain ⟨t, rfl⟩ := rx
    cases y with
    | byt j => obtain ⟨t', rfl⟩ := ry; exact PySem.W.ne_bytes (fin_bl I q (congrArg not dec_byt))
    | _ => exact absurd (show false = true from hs) Bool.false_ne_true
  | _ => cases y <;> exact absurd (show false = true from hs) Bool.false_ne_true
theorem op_lt : OpR X (compareOp .Lt) (rI0 fun i j => .bl (decide (i < j))) := opB0 fun _ _ _ _ _ _ _ q => lt_int q
theorem op_le : OpR X (compareOp .LtE) (rI0 fun i j => .bl (decide (i ≤ j))) := opB0 fun _ _ _ _ _ _ _ q => le_int q
theorem op_gt : OpR X (compareOp .Gt) (rI0 fun i j => .bl (decide (j < i))) := opB0 fun _ _ _ _ _ _ _ q => gt_int q
theorem op_ge : OpR X (compareOp .GtE) (rI0 fun i j => .bl (decide (j ≤ i))) := opB0 fun _ _ _ _ _ _ _ q => ge_int q
theorem OpR.or {f : Value → Value → Sem Value} {r r' : R2} (h : OpR X f r) (h' : OpR X f r') : OpR X f (fun x y H Q => r x y H Q ∨ r' x y H Q) := by
  intro pins s σ H x y v u Q I rx ry q
  rcases q with q | q
  · exact h pins s σ H x y v u Q I rx ry q
  · exact h' pins s σ H x y v u Q I rx ry q
theorem pe_cmpR {op : CmpOp} {r : R2} (ho : OpR X (compareOp op) r) (ha : PE X a ta) (hb : PE X b tb) (hm : behindInMarks op b = false) : PE X (.Compare a [op] [b] pos) (tOp r ta tb) := by
  intro pins s σ H Q I h
  exact wpAny_Compare1 (binT ha hb I h fun v u s2 x y H2 I2 rx ry q => ho pins s2 σ H2 x y v u Q I2 rx ry q) hm
def tTest (t : TE) : TT := fun σ H Q => t σ H fun x H' => ∃ k, x = .bl k ∧ Q k H'
theorem pt_cmpR {op : CmpOp} {r : R2} (ho : OpR X (compareOp op) r) (ha : PE X a ta) (hb : PE X b tb) (hm : behindInMarks op b = false) : PT X (.Compare a [op] [b] pos) (tTest (tOp r ta tb)) := by
  intro pins s σ H Q I h
  refine wpAny_isTrue_Compare1 (thn (ha pins s σ H _ I h) fun v s1 ⟨x, H1, I1, r1, q1⟩ => thn (hb pins s1 σ H1 _ I1 q1) fun u s2 ⟨y, H2, I2, r2, q2⟩ =>
    thn (ho pins s2 σ H2 x y v u _ I2 r1 r2 q2) fun c s3 ⟨z, H3, I3, r3, k, e, q3⟩ => ?_) hm
  subst e
  cases r3
  exact wpAny_truthy_bool ⟨H3, I3, q3⟩
theorem line63 : (sizeLine : Nat) < 2 ^ 63 := by rw [sizeLine_eq]; decide
theorem vals1 {x : V} {us : List Value} (r : Vals [x] us) : ∃ u, us = [u] ∧ RelV x u := by
  cases r with
  | cons r1 r2 => cases r2; exact ⟨_, rfl, r1⟩
theorem vals2 {x y : V} {us : List Value} (r : Vals [x, y] us) : ∃ u w', us = [u, w'] ∧ RelV x u ∧ RelV y w' := by
  cases r with
  | cons r1 r2 =>
    cases r2 with
    | cons r3 r4 => cases r4; exact ⟨_, _, rfl, r1, r3⟩
theorem call_abs : CallR X (.builtin "abs") (fun xs H Q => ∃ i, xs = [.int i] ∧ Q (.int (if i < 0 then -i else i)) H) := by
  intro pins s σ H xs us Q I r h
  obtain ⟨i, rfl, q⟩ := h
  obtain ⟨u, rfl, t, rfl⟩ := vals1 r
  exact call_abs_int fun u tk => ⟨.int (if i < 0 then -i else i), H, I.tok _, ⟨_, rfl⟩, q⟩
theorem call_max2 (hc : X.calm = true) : CallR X (.builtin "max") (fun xs H Q => ∃ i j, xs = [.int i, .int j] ∧ Q (.int (if j > i then j else i)) H) := by
  intro pins s σ H xs us Q I r h
  obtain ⟨i, j, rfl, q⟩ := h
  obtain ⟨u, w', rfl, ⟨t, rfl⟩, ⟨t', rfl⟩⟩ := vals2 r
  refine max_two_ints (I.ok.hd hc) fun h' tk k => ⟨_, H, I.kept k, ?_, q⟩
  by_cases hj : j > i
  · rw [if_pos hj, if_pos hj]; exact ⟨_, rfl⟩
  · rw [if_neg hj, if_neg hj]; exact ⟨_, rfl⟩
theorem call_min2 (hc : X.calm = true) : CallR X (.builtin "min") (fun xs H Q => ∃ i j, xs = [.int i, .int j] ∧ Q (.int (if j < i then j else i)) H) := by
  intro pins s σ H xs us Q I r h
  obtain ⟨i, j, rfl, q⟩ := h
  obtain ⟨u, w', rfl, ⟨t, rfl⟩, ⟨t', rfl⟩⟩ := vals2 r
  refine min_two_ints (I.ok.hd hc) fun h' tk k => ⟨_, H, I.kept k, ?_, q⟩
  by_cases hj : j < i
  · rw [if_pos hj, if_pos hj]; exact ⟨_, rfl⟩
  · rw [if_neg hj, if_neg hj]; exact ⟨_, rfl⟩
end
end L2
namespace L2
open PySem PySem.Spec PyProof.Rows
structure ObjM (h : Heap) (x dx C : Addr) (mA : Str → Option Value) : Prop where
  obj : h.get? x = some (PySem.W.instObj C dx)
  ns : h.Ns1 dx mA
  ne : dx ≠ x
section
variable {prog : Program} {w : World} {A : Around} {E : Value → Shared → Prop} {s : Shared} {K : PySem.W.Frag} {x dx C f : Addr} {mA : Str → Option Value} {name : Str} {v : Value}
end
section
variable {P : Program} {w : World} {H H' : Hp} {h h' : Heap} {a C dx : Addr} {fs fs' : List (Str × V)}
end
structure Cls (K : PySem.W.Frag) (C : Addr) : Prop where
  pg : PySem.W.plainGet K C Str.empty = true
  hd : PySem.W.hasDictIn K C = true
  po : PySem.W.plainOver K C = true
  sa : PySem.W.findIn K (.ref C) "__setattr__" = some (some (.builtin "object.__setattr__"))
theorem Cls.get {K : PySem.W.Frag} {C : Addr} (c : Cls K C) (f : Str) : PySem.W.plainGet K C f = true := c.pg
structure Con (K : PySem.W.Frag) (C : Addr) (f : Str) (v : V) (u : Value) : Prop where
  at_ : PySem.W.findIn K (.ref C) f = some (some u)
  rel : RelV v u
  get : PySem.W.specialIn K u "__get__" = some none
  cp : PySem.W.copiedNames.contains f = false
structure Meth (K : PySem.W.Frag) (C : Addr) (m : Str) (f : Addr) : Prop where
  at_ : PySem.W.findIn K (.ref C) m = some (some (.ref f))
  fn : PySem.W.isFn K (.ref f) = true
  kp : PySem.W.keepIn K (.ref f) = true
section
variable {X : Cx} {pins : List (Addr × Obj)} {σ : St} {H : Hp} {s : Shared} {a C dx : Addr} {fs : List (Str × V)} {f : Str} {v : V} {A : Around} {E : Value → Shared → Prop}
end
section
variable {X : Cx} {o e value : Expr} {f : Str} {pos pos' tpos : Pos} {ta tv : TE}
end
section
variable {X : Cx} {pins : List (Addr × Obj)} {σ : St} {H : Hp} {s : Shared} {A : Around} {E : Value → Shared → Prop} {Q : Value → Shared → Prop} {c : Value} {b : Bool}
inductive TyOf (K : PySem.W.Frag) (H : Hp) : V → Value → Prop where
  | non : TyOf K H .non (.type "NoneType")
  | bl (x : Bool) : TyOf K H (.bl x) (.type "bool")
  | int (i : Int) : TyOf K H (.int i) (.type "int")
  | str (x : Str) : TyOf K H (.str x) (.type "str")
  | flt (x : UInt64) : TyOf K H (.flt x) (.type "float")
  | lst {a : Addr} {xs : List V} (e : H a = some (.lst xs)) : TyOf K H (.ref a) (.type "list")
  | frz {a : Addr} {o : Obj} {xs : List V} (e : H a = some (.frz o (.lst xs))) : TyOf K H (.ref a) (.type "list")
  | tup {a : Addr} {xs : List V} (e : H a = some (.tup xs)) : TyOf K H (.ref a) (.type "tuple")
  | dK {a : Addr} {kvs : List (Key × V)} (e : H a = some (.dK kvs)) : TyOf K H (.ref a) (.type "dict")
  | dT {a : Addr} {kvs : List (List Key × V)} (e : H a = some (.dT kvs)) : TyOf K H (.ref a) (.type "dict")
  | ins {a C dx : Addr} {fs : List (Str × V)} (e : H a = some (.ins C dx fs)) (cl : Cls K C) (ha : PySem.W.findIn K (.ref C) "__class__" = some (some (.builtin "object.__class__")))
      (hn : PySem.W.specialIn K (.builtin "object.__class__") "__get__" = some (some (.builtin "getset_descriptor.__get__"))) (htk : PySem.W.takesIn K (.builtin "object.__class__") = some true)
      (hm : PySem.W.mroIn K C (.type "object") = some true) : TyOf K H (.ref a) (.ref C)
end
end L2
namespace L2
open PySem PySem.Spec PyProof.Rows
structure Room (k : Nat) (A : Around) : Prop where
  hd : A.handled = none
  dp : A.depth + 3 * k + 5 < recursionLimit
  un : A.units + 16 * k + 200 < cLine
theorem Room.mono {j k : Nat} {A : Around} (r : Room k A) (h : j ≤ k) : Room j A := ⟨r.hd, by have := r.dp; omega, by have := r.un; omega⟩
theorem Room.deeper {k : Nat} {A : Around} (r : Room (k + 1) A) (env : Env) : Room k (A.deeper env) :=
  ⟨r.hd, by have := r.dp; show A.depth + 1 + 3 * k + 5 < _; omega, by have := r.un; show A.units + 3 + 16 * k + 200 < _; omega⟩
theorem Room.depth {k : Nat} {A : Around} (r : Room k A) : A.depth < recursionLimit := by have := r.dp; omega
theorem Room.units {k : Nat} {A : Around} (r : Room k A) : A.units + 64 < cLine := by have := r.un; omega
def tNil : TA := fun _ H Q => Q [] H
def tCons (ta : TE) (tr : TA) : TA := fun σ H Q => ta σ H fun x H1 => tr σ H1 fun xs H2 => Q (x :: xs) H2
section
variable {X : Cx} {e : Expr} {es : List Expr} {te : TE} {t : TA} {pos : Pos}
theorem pa_nil : PA X [] tNil := fun _ _ _ _ H Q I h => Calls.spliced_nil ⟨[], H, I, .nil, h⟩
theorem pa_cons (ha : PE X e te) (hr : PA X es t) (hs : starEach (e :: es) X.env = (false, eval e X.env) :: starEach es X.env := by rfl) : PA X (e :: es) (tCons te t) := by
  intro pos pins s σ H Q I h
  rw [hs]
  show wpAny _ _ (spliced ((false, eval e X.env) :: backTo pos (starEach es X.env))) _ _ s
  refine Calls.spliced_cons (thn (ha pins s σ H _ I h) fun u s1 ⟨x, H1, I1, r1, q1⟩ => ?_)
  exact thn (hr pos pins s1 σ H1 _ I1 q1) fun us s2 ⟨xs, H2, I2, r2, q2⟩ => ⟨x :: xs, H2, I2, .cons r1 r2, q2⟩
def tTup (t : TA) : TE := fun σ H Q => t σ H fun xs H1 => xs.length ≤ sizeLine ∧ ∀ p, H1 p = none → Q (.ref p) (upd H1 p (.tup xs))
def tLst (t : TA) : TE := fun σ H Q => t σ H fun xs H1 => xs.length ≤ sizeLine ∧ ∀ p, H1 p = none → Q (.ref p) (upd H1 p (.lst xs))
theorem pe_tup {x1} (h : PA X es t) : PE X (.Tuple es x1 pos) (tTup t) := by
  intro pins s σ H Q I hq
  refine wpAny_Tuple_spliced (thn (h pos pins s σ H _ I hq) fun us s1 ⟨xs, H1, I1, r, z, q⟩ => ⟨by rw [← r.length]; exact z, ?_⟩)
  have hf : H1 s1.heap.objs.size = none := I1.hok.fresh (Nat.le_refl _)
  refine ⟨.ref s1.heap.objs.size, upd H1 s1.heap.objs.size (.tup xs), I1.laid (t' := s1.toks) (fun b u e => Heap.get?_push_of_some _ e) (Nat.le_refl _) ?_, rfl, q _ hf⟩
  exact ⟨z, us, r, ⟨_, Heap.get?_push_size _ rfl, rfl, _, rfl⟩⟩
theorem pe_lst (h : PA X es t) : PE X (.List es pos) (tLst t) := by
  intro pins s σ H Q I hq
  refine wpAny_List_spliced (thn (h pos pins s σ H _ I hq) fun us s1 ⟨xs, H1, I1, r, z, q⟩ => ⟨by rw [← r.length]; exact z, ?_⟩)
  have hf : H1 s1.heap.objs.size = none := I1.hok.fresh (Nat.le_refl _)
  refine ⟨.ref s1.heap.objs.size, upd H1 s1.heap.objs.size (.lst xs), I1.laid (t' := s1.toks) (fun b u e => Heap.get?_push_of_some _ e) (Nat.le_refl _) ?_, rfl, q _ hf⟩
  exact ⟨z, us, 0, r, Heap.get?_push_size _ rfl⟩
end
abbrev Sp := List V → Hp → VK → XK → Prop
abbrev CXT := List Env → Hp → Shared → XK → Value → Shared → Prop
structure Env0 (P : Program) (w : World) (K : PySem.W.Frag) (mg : Str → Option Value) (base : Heap) (A : Around) (outer : List Env) (s : Shared) (H : Hp) : Prop where
  frames : A.frames = some outer
  mod : Mod K mg base
  bs : ∀ b o, base.get? b = some o → s.heap.get? b = some o ∧ H b = none
  bsz : base.objs.size ≤ s.heap.objs.size
  funs : s.heap.FunFrames base outer
  frf : ∀ b ∈ frs outer, H b = none
  hok : HOk P w H s.heap
  bare : AllBare s.gens
def CE (outer : List Env) (P : Program) (w : World) (H : Hp) (s : Shared) (Q : VK) (u : Value) (s' : Shared) : Prop :=
  ∃ v H', s'.os = s.os ∧ AllBare s'.gens ∧ Un (frs outer) [] H H' s.heap s'.heap ∧ HOk P w H' s'.heap ∧ RelV v u ∧ Q v H'
def CR (CX : CXT) (outer : List Env) (P : Program) (w : World) (H : Hp) (s : Shared) (Q : VK) (E : XK) (r : Result) (s' : Shared) : Prop :=
  match r with
  | .ok (.ret u) => CE outer P w H s Q u s'
  | .ok _ => False
  | .error e => CX outer H s E e s'
structure FnOk (P : Program) (w : World) (K : PySem.W.Frag) (mg : Str → Option Value) (base : Heap) (CX : CXT) (k : Nat) (f : Addr) (fd : FuncData) (ps : List Str) (sp : Sp) : Prop where
  len : ∀ vs H Q E, sp vs H Q E → vs.length = ps.length
  run : ∀ (A : Around) (outer : List Env) (s : Shared) (H : Hp) (args : Args) (us : List Value) (vs : List V) (Q : VK) (E : XK), Room k A → Env0 P w K mg base A outer s H → BindsTo s fd args (ps.zip us) → Vals vs us → sp vs H Q E →
    codeAny (model P w) A (.call (.ref f) args) (CR CX outer P w H s Q E) s
theorem FnOk.mono {P : Program} {w : World} {K : PySem.W.Frag} {mg : Str → Option Value} {base : Heap} {CX : CXT} {j k : Nat} {f : Addr} {fd : FuncData} {ps : List Str} {sp : Sp} (F : FnOk P w K mg base CX j f fd ps sp) (h : j ≤ k) :
    FnOk P w K mg base CX k f fd ps sp := ⟨F.len, fun A outer s H args us vs Q E hr => F.run A outer s H args us vs Q E (hr.mono h)⟩
section
variable {X : Cx} {pins : List (Addr × Obj)} {σ : St} {H : Hp} {s s' : Shared}
theorem Inv.env0 (I : Inv X pins σ H s) : Env0 X.prog X.w X.K X.mg X.base X.A X.stack s H :=
  ⟨I.ok.frames, I.ok.mod, I.bs, Nat.le_trans I.ok.bsz I.sz, I.stack, I.stkFree, I.hok, I.bare⟩
theorem Inv.after {Q : VK} {u : Value} (I : Inv X pins σ H s) (h : CE X.stack X.prog X.w H s Q u s') : EP X pins σ Q u s' := by
  obtain ⟨v, H', os, bare, un, hok, r, q⟩ := h
  obtain ⟨hh, g, d, t, os'⟩ := s'
  obtain rfl : os' = s.os := os
  exact ⟨v, H', I.call (h' := hh) (g' := g) (d' := d) (t' := t) (ch := []) un hok bare (fun b z => absurd z (by simp)), r, q⟩
end
def tCall (sp : Sp) (dvs : List V) (E : XK) (t : TA) : TE := fun σ H Q => t σ H fun vs H1 => sp (vs ++ dvs) H1 Q E
def Binds (K : PySem.W.Frag) (fd : FuncData) (ps : List Str) (ds : List Value) : Prop :=
  ∀ (s : Shared) (us : List Value), K.In s.heap → (us ++ ds).length = ps.length → BindsTo s fd ⟨us, []⟩ (ps.zip (us ++ ds))
theorem Binds.all {K : PySem.W.Frag} {fd : FuncData} {ps : List Str} (h : ∀ us : List Value, us.length = ps.length → bindArgs fd ⟨us, []⟩ = pure (ps.zip us)) : Binds K fd ps [] := fun s us _ hl => by
  rw [List.append_nil] at hl ⊢
  exact .of_eq (h us hl)
def Passes (CX : CXT) (X : Cx) (E : XK) : Prop := ∀ (pins : List (Addr × Obj)) (σ : St) (H : Hp) (s : Shared) (e : Value) (s' : Shared), Inv X pins σ H s → CX X.stack H s E e s' → X.xe e s'
section
variable {X : Cx} {CX : CXT} {k : Nat} {f C : Addr} {fd : FuncData} {ps : List Str} {sp : Sp} {dvs : List V} {ds : List Value} {E : XK} {x m : Str} {p pos apos : Pos} {e o : Expr} {es : List Expr} {ta : TE} {t : TA}
theorem run_fn {pins : List (Addr × Obj)} {σ : St} {H : Hp} {s : Shared} {Q : VK} {us : List Value} {vs : List V} (F : FnOk X.prog X.w X.K X.mg X.base CX k f fd ps sp) (hr : Room k X.A) (hb : Binds X.K fd ps ds) (hd : Vals dvs ds) (hx : Passes CX X E)
    (I : Inv X pins σ H s) (r : Vals vs us) (h : sp (vs ++ dvs) H Q E) : wpAny (model X.prog X.w) X.A (call (.ref f) us) (EP X pins σ Q) X.xe s := by
  have r2 : Vals (vs ++ dvs) (us ++ ds) := r.append hd
  have hl : (us ++ ds).length = ps.length := by rw [← r2.length]; exact F.len _ _ _ _ h
  refine wpAny_call (codeAny_mono (F.run X.A X.stack s H ⟨us, []⟩ (us ++ ds) (vs ++ dvs) Q E hr I.env0 (hb s us I.kIn hl) r2 h) fun r s' hq => ?_)
  cases r with
  | error e => exact hx pins σ H s e s' I hq
  | ok fl =>
    cases fl with
    | ret u => exact I.after hq
    | next => exact False.elim hq
    | brk => exact False.elim hq
    | cont => exact False.elim hq
theorem pe_call (F : FnOk X.prog X.w X.K X.mg X.base CX k f fd ps sp) (hr : Room k X.A) (hg : Gl X x) (hm : X.mg x = some (.ref f)) (hk : PySem.W.keepIn X.K (.ref f) = true) (hb : Binds X.K fd ps ds) (hd : Vals dvs ds) (hx : Passes CX X E)
    (ha : PA X (e :: es) t) (hdb : (x == ("__debug__" : Str)) = false := by decide) (he : starEach (e :: es) X.env = (false, eval e X.env) :: starEach es X.env := by rfl) (hpl : (backTo pos (starEach es X.env)).any (·.1) = false := by rfl) :
    PE X (.Call (.Name x p) (e :: es) [] pos) (tCall sp dvs E t) := by
  intro pins s σ H Q I h
  refine wpAny_Call_Name_kw (ld_glob I hg hm ?_ hdb)
  refine PySem.W.callWith_K (h₀ := X.base) I.ok.mod.kin hk (thn (ha pos pins s σ H _ I h) fun us s1 ⟨vs, H1, I1, r, q⟩ => ⟨I1.kIn, ?_⟩) he hpl
  exact run_fn F hr hb hd hx I1 r q
theorem pe_call0 (F : FnOk X.prog X.w X.K X.mg X.base CX k f fd ps sp) (hr : Room k X.A) (hg : Gl X x) (hm : X.mg x = some (.ref f)) (hk : PySem.W.keepIn X.K (.ref f) = true) (hb : Binds X.K fd ps ds) (hd : Vals dvs ds) (hx : Passes CX X E)
    (hdb : (x == ("__debug__" : Str)) = false := by decide) : PE X (.Call (.Name x p) [] [] pos) (tCall sp dvs E tNil) := by
  intro pins s σ H Q I h
  refine wpAny_Call_Name_kw (ld_glob I hg hm ?_ hdb)
  exact PySem.W.callWith_K0 I.kIn hk (run_fn (us := []) F hr hb hd hx I .nil h)
structure Mk (K : PySem.W.Frag) (C f : Addr) : Prop where
  makes : PySem.W.makesIn K C = true
  init : PySem.W.findIn K (.ref C) "__init__" = some (some (.ref f))
  fn : PySem.W.isFn K (.ref f) = true
  kp : PySem.W.keepIn K (.ref C) = true
end
section
variable {X : Cx} {CX : CXT} {k : Nat} {f C : Addr} {fd : FuncData} {ps ks : List Str} {sp : Sp} {E : XK} {x m : Str} {p pos apos kpos : Pos} {e o : Expr} {es : List Expr} {kws : List Keyword} {te ta : TE} {t tk : TA} {nm : Option Str}
structure KBinds (K : PySem.W.Frag) (fd : FuncData) (ps ks : List Str) (g : List Value → List Value → List Value) (gV : List V → List V → List V) : Prop where
  to : ∀ (s : Shared) (us ws : List Value), K.In s.heap → (g us ws).length = ps.length → BindsTo s fd ⟨us, ks.zip ws⟩ (ps.zip (g us ws))
  rel : ∀ {vs : List V} {us : List Value} {zs : List V} {ws : List Value}, Vals vs us → Vals zs ws → Vals (gV vs zs) (g us ws)
variable {g : List Value → List Value → List Value} {gV : List V → List V → List V}
end
structure FnScope (N P : List Str) (sc : Scope) : Prop where
  kind : sc.kind = .function
  co : sc.isCoroutine = false
  gen : sc.isGenerator = false
  nd : N.Nodup
  pre : N.take P.length = P
  par : ∀ x ∈ P, sc.names.lookup x = some .local ∨ sc.names.lookup x = some .cell
  nofree : ∀ y ∈ sc.names, y.2 ≠ .free
theorem bindL_out {kindOf : Str → Option NameKind} {x : Str} : ∀ {binds : List (Str × Value)} {m : Str → Option Value}, (∀ v, (x, v) ∉ binds) → bindL kindOf binds m x = m x
  | [], _, _ => rfl
  | (n, v) :: r, m, h => by
    unfold bindL
    rw [bindL_out fun w hw => h w (List.mem_cons_of_mem _ hw)]
    split
    · have : x ≠ n := by rintro rfl; exact h v List.mem_cons_self
      simp [this]
    · rfl
theorem bindC_out {kindOf : Str → Option NameKind} {x : Str} : ∀ {binds : List (Str × Value)} {m : Str → Option Value}, (∀ v, (x, v) ∉ binds) → bindC kindOf binds m x = m x
  | [], _, _ => rfl
  | (n, v) :: r, m, h => by
    unfold bindC
    rw [bindC_out fun w hw => h w (List.mem_cons_of_mem _ hw)]
    split
    · rfl
    · have : x ≠ n := by rintro rfl; exact h v List.mem_cons_self
      simp [this]
theorem bindL_get {kindOf : Str → Option NameKind} {x : Str} {v : Value} : ∀ {P : List Str} {vs : List Value} {i : Nat} {m : Str → Option Value}, P.Nodup → P[i]? = some x → vs[i]? = some v → kindOf x = some .local →
    bindL kindOf (P.zip vs) m x = some v
  | [], _, _, _, _, h, _, _ => by simp at h
  | _ :: _, [], _, _, _, _, h, _ => by simp at h
  | p :: P, w :: vs, 0, m, nd, h1, h2, hk => by
    simp at h1 h2; subst h1; subst h2
    show bindL kindOf ((p, w) :: P.zip vs) m p = _
    unfold bindL
    rw [bindL_out fun v hv => (List.nodup_cons.mp nd).1 (List.of_mem_zip hv).1, if_pos hk]
    simp
  | p :: P, w :: vs, i + 1, m, nd, h1, h2, hk => by
    show bindL kindOf ((p, w) :: P.zip vs) m x = _
    unfold bindL
    exact bindL_get (i := i) (List.nodup_cons.mp nd).2 (by simpa using h1) (by simpa using h2) hk
theorem bindC_get {kindOf : Str → Option NameKind} {x : Str} {v : Value} : ∀ {P : List Str} {vs : List Value} {i : Nat} {m : Str → Option Value}, P.Nodup → P[i]? = some x → vs[i]? = some v → kindOf x ≠ some .local →
    bindC kindOf (P.zip vs) m x = some v
  | [], _, _, _, _, h, _, _ => by simp at h
  | _ :: _, [], _, _, _, _, h, _ => by simp at h
  | p :: P, w :: vs, 0, m, nd, h1, h2, hk => by
    simp at h1 h2; subst h1; subst h2
    show bindC kindOf ((p, w) :: P.zip vs) m p = _
    unfold bindC
    rw [bindC_out fun v hv => (List.nodup_cons.mp nd).1 (List.of_mem_zip hv).1, if_neg hk]
    simp
  | p :: P, w :: vs, i + 1, m, nd, h1, h2, hk => by
    show bindC kindOf ((p, w) :: P.zip vs) m x = _
    unfold bindC
    exact bindC_get (i := i) (List.nodup_cons.mp nd).2 (by simpa using h1) (by simpa using h2) hk
def start (N : List Str) (vs : List V) : St := vs.map some ++ List.replicate (N.length - vs.length) none
def cxOf (CX : CXT) (P : Program) (w : World) (K : PySem.W.Frag) (mg : Str → Option Value) (base : Heap) (N : List Str) (qual : Str) (scope : Scope) (f : Addr) (cd : Value) (A : Around) (outer : List Env) (s : Shared) (H : Hp) (E : XK) : Cx where
  prog := P
  w := w
  K := K
  mg := mg
  base := base
  A := A.deeper (envOfC qual scope s.heap.objs.size f cd)
  N := N
  s_0 := s
  H_0 := H
  env := envOfC qual scope s.heap.objs.size f cd
  outer := outer
  stack := envOfC qual scope s.heap.objs.size f cd :: outer
  ex := []
  calm := true
  fn := fun _ => true
  pn := []
  xe := fun e s' => wpAny (model P w) (A.deeper (envOfC qual scope s.heap.objs.size f cd)) (leaving (envOfC qual scope s.heap.objs.size f cd) e) (fun _ s'' => CX outer H s E e s'') (fun e' s'' => CX outer H s E e' s'') s'
theorem cell_has {sc : Scope} {n : Nat} {x : Str} (h : sc.names.lookup x = some .cell) : ∃ c, (cellsFrom n sc.names []).lookup x = some c := by
  have q := PySem.W.cellsFrom_some sc.names n [] (.inl h)
  exact Option.isSome_iff_exists.mp q
theorem inv_start {CX : CXT} {P : Program} {w : World} {K : PySem.W.Frag} {mg : Str → Option Value} {base : Heap} {N ps : List Str} {qual : Str} {scope : Scope} {f : Addr} {cd : Value} {A : Around} {outer : List Env} {s s1 : Shared} {H : Hp} {E : XK} {us : List Value} {vs : List V}
    (S : FnScope N ps scope) (hd : A.handled = none) (e0 : Env0 P w K mg base A outer s H) (hl : vs.length = ps.length) (r : Vals vs us)
    (x : InCallC s s.heap.objs.size (bindL (envOfC qual scope s.heap.objs.size f cd).kindOf (ps.zip us) fun _ => none) (cellsFrom (s.heap.objs.size + 1) scope.names []) (bindC (envOfC qual scope s.heap.objs.size f cd).kindOf (ps.zip us) fun _ => none) s1) :
    Inv (cxOf CX P w K mg base N qual scope f cd A outer s H E) [] (start N vs) H s1 := by
  have hpl : ps.length ≤ N.length := by have := congrArg List.length S.pre; rw [List.length_take] at this; omega
  obtain ⟨h1, tk, rfl, hk⟩ := x.done
  have noA : ∀ b : Addr, b ∉ (cxOf CX P w K mg base N qual scope f cd A outer s H E).ex := fun b z => absurd (show b ∈ ([] : List Addr) from z) (by simp)
  refine ⟨⟨e0.mod, S.kind, rfl, rfl, Nat.le_refl _, fun y z c h1 h2 => ?_, fun y hy => ?_, fun y c _ h => ?_, fun _ => hd, Around.frames_deeper e0.frames, .inr ⟨rfl, rfl⟩, fun b z => absurd z (noA b), e0.bs, e0.bsz, fun b _ _ => noA b, fun b z => absurd z (noA b), e0.funs, e0.frf⟩,
    rfl, e0.bare, Un.kept hk, ⟨_, x.toInCall.ns, fun i y v h1 h2 h3 => ?_⟩, fun y c h => ⟨_, x.cell y c h⟩, e0.hok.fresh (Nat.le_refl _), fun y c h => ?_, fun p hp => absurd (show p ∈ ([] : List (Addr × Obj)) from hp) (by simp), e0.hok.kept hk, ?_⟩
  · exact name_of_addr x.apart (PySem.mem_of_lookup h1) (PySem.mem_of_lookup h2)
  · have hy : scope.names.lookup y = some .cell ∨ scope.names.lookup y = some .free := hy
    rcases hy with hy | hy
    · exact cell_has hy
    · exact absurd rfl (S.nofree _ (PySem.mem_of_lookup hy))
  · exact Nat.le_of_lt (x.above y c (PySem.mem_of_lookup h))
  · have hi : i < vs.length := by
      unfold start at h2
      by_cases hi : i < vs.length
      · exact hi
      · rw [List.getElem?_append_right (by simpa using hi)] at h2
        rw [List.getElem?_replicate] at h2
        split at h2 <;> cases h2
    have ha : vs[i]? = some v := by
      unfold start at h2
      rw [List.getElem?_append_left (by simpa using hi), List.getElem?_map] at h2
      cases e : vs[i]? with
      | none => rw [e] at h2; cases h2
      | some a => rw [e] at h2; cases h2; rfl
    obtain ⟨u, hu, rv⟩ := r.get ha
    have hp : ps[i]? = some y := by
      rw [← S.pre, List.getElem?_take_of_lt (by omega)]; exact h1
    have ndP : ps.Nodup := by rw [← S.pre]; exact S.nd.sublist (List.take_sublist _ _)
    refine ⟨u, rv, ?_⟩
    rcases S.par y (List.mem_of_getElem? hp) with k | k
    · exact .inl ⟨k, bindL_get ndP hp hu k⟩
    · obtain ⟨c, e⟩ := cell_has (n := s.heap.objs.size + 1) k
      refine .inr ⟨.inl k, c, e, ?_⟩
      have q := x.cell y c e
      rw [bindC_get ndP hp hu (by show scope.names.lookup y ≠ _; rw [k]; decide)] at q
      exact q
  · exact e0.hok.fresh (Nat.le_of_lt (x.above y c (PySem.mem_of_lookup h)))
  · unfold start
    show _ = N.length
    rw [List.length_append, List.length_map, List.length_replicate]
    omega
theorem fn_of {CX : CXT} {P : Program} {w : World} {K : PySem.W.Frag} {mg : Str → Option Value} {base : Heap} {k : Nat} {f : Addr} {name qual : Str} {params : Arguments} {body : List Stmt} {scope : Scope} {dV kV doc pm cdv ct oc : Value} {an od : Option Addr}
    {osl : Array (Option Value)} {N ps : List Str} {sp : Sp} (lk : K.lookup f = some ⟨oc, od, .func (PySem.W.fnOf name qual params body scope dV kV doc pm an cdv ct), osl⟩) (hcd : PySem.W.codeIn K cdv qual = true) (S : FnScope N ps scope)
    (len : ∀ vs H Q E, sp vs H Q E → vs.length = ps.length)
    (hbody : ∀ (A : Around) (outer : List Env) (s : Shared) (H : Hp) (vs : List V) (Q : VK) (E : XK), Room k (A.deeper (envOfC qual scope s.heap.objs.size f cdv)) → sp vs H Q E →
      ∃ t, PSs (cxOf CX P w K mg base N qual scope f cdv A outer s H E) body t ∧ t { nx := fun _ H' => Q .non H', rt := Q } (start N vs) H) :
    FnOk P w K mg base CX (k + 1) f (PySem.W.fnOf name qual params body scope dV kV doc pm an cdv ct) ps sp := by
  refine ⟨len, fun A outer s H args us vs Q E hr e0 hb r hsp => ?_⟩
  have hl := len _ _ _ _ hsp
  have KX : K.In s.heap := e0.mod.kin.keeps fun b o e => (e0.bs b o e).1
  have lim : s.heap.NoLimit := e0.mod.nolimit.keeps fun b o e => (e0.bs b o e).1
  have hkind : ∀ y ∈ ps.zip us, scope.names.lookup y.1 = some .local ∨ (scope.names.lookup y.1 = some .cell ∧ ((cellsFrom (s.heap.objs.size + 1) scope.names []).lookup y.1).isSome = true) := fun ⟨n, v⟩ hy => by
    rcases S.par n (List.of_mem_zip hy).1 with q | q
    · exact .inl q
    · exact .inr ⟨q, PySem.W.cellsFrom_some _ _ _ (.inl q)⟩
  refine codeAny_call_function hr.depth (KX _ _ lk) rfl S.co S.gen rfl (PySem.W.codeRec_of KX hcd) (hb _ _ _ _ ?_)
  refine wpAny_newFunctionEnv_cells S.kind hkind fun env he s1 x => ?_
  subst he
  refine ⟨lim.keeps x.toInCall.keep, codeAny_func ?_⟩
  obtain ⟨t, ht, hq⟩ := hbody A outer s H vs Q E (hr.deeper _) hsp
  have I : Inv (cxOf CX P w K mg base N qual scope f cdv A outer s H E) [] (start N vs) H s1 := inv_start S hr.hd e0 hl r x
  refine wpAny_mono (ht [] s1 (start N vs) H _ I hq) (fun fl s' hs => ?_) fun e s' hs => hs
  have fin : ∀ {σ' : St} {H' : Hp} {v : V} {u : Value}, Inv (cxOf CX P w K mg base N qual scope f cdv A outer s H E) [] σ' H' s' → RelV v u → Q v H' → CE outer P w H s Q u s' :=
    fun {σ' H' v u} J rv q => ⟨v, H', J.os, J.bare, J.base, J.hok, rv, q⟩
  cases fl with
  | ret u =>
    obtain ⟨v, σ', H', J, rv, q⟩ := hs
    exact fin J rv q
  | next =>
    obtain ⟨σ', H', J, q⟩ := hs
    exact fin (v := V.non) (u := Value.none) J rfl q
  | brk =>
    obtain ⟨_, _, _, q⟩ := hs
    exact False.elim q
  | cont =>
    obtain ⟨_, _, _, q⟩ := hs
    exact False.elim q
end L2
namespace L2
open PySem PySem.Spec PyProof.Rows
section
variable {X : Cx} {x : Str} {p pos : Pos} {e : Expr} {es : List Expr} {t : TA} {id T : String} {r : List V → Hp → VK → Prop}
def tCB (r : List V → Hp → VK → Prop) (t : TA) : TE := fun σ H Q => t σ H fun vs H1 => r vs H1 Q
theorem pe_callB (hc : CallR X (.builtin id) r) (hg : Gl X x) (hm : X.mg x = none) (hv : bootBuiltins x = some (.builtin id)) (ha : PA X (e :: es) t) (hn : x ≠ "__name__" := by decide) (hdb : (x == ("__debug__" : Str)) = false := by decide)
    (he : starEach (e :: es) X.env = (false, eval e X.env) :: starEach es X.env := by rfl) (hpl : (backTo pos (starEach es X.env)).any (·.1) = false := by rfl) : PE X (.Call (.Name x p) (e :: es) [] pos) (tCB r t) := by
  intro pins s σ H Q I h
  refine wpAny_Call_Name_kw (ld_blt I hg hm hv ?_ hn hdb)
  exact PyProof.Rows.callWith_builtin1 (thn (ha pos pins s σ H _ I h) fun us s1 ⟨vs, H1, I1, r1, q1⟩ => hc pins s1 σ H1 vs us Q I1 r1 q1) he hpl
end
end L2
namespace HT
open PySem PyProof.Rows
section
open PySem.SeqAt
open PySem.AutoSeq1 (wpAny_loadPart')
open PySem.MeetsSeq PySem.MeetsSeq2 PySem.MeetsSeq3
end
section
variable {prog : Program} {w : World} {A : Around} {E : Value → Shared → Prop} {s : Shared}
end
end HT
namespace L2
open PySem PySem.Spec PyProof.Rows
abbrev TO := St → Hp → (Option Int → Hp → Prop) → Prop
section
variable {X : Cx} {e : Expr} {te : TE} {lo hi : Option Expr} {tl th : TO} {pos p2 : Pos}
def SlR (X : Cx) (r : V → Option Int → Option Int → Hp → VK → Prop) : Prop :=
  ∀ (pins : List (Addr × Obj)) (s : Shared) (σ : St) (H : Hp) (x : V) (v vl vu : Value) (lo hi : Option Int) (sl : Addr) (Q : VK), Inv X pins σ H s → RelV x v → s.heap.IsSliceOf sl vl vu .none → IsPart vl lo → IsPart vu hi → r x lo hi H Q →
    ∃ T id, typeLookup (.type T) "__getitem__" = pure (some (.builtin id)) ∧ s.TypeIs v T ∧ wpAny (model X.prog X.w) X.A (getItem v (.ref sl)) (EP X pins σ Q) X.xe s
theorem SlR.or {r r' : V → Option Int → Option Int → Hp → VK → Prop} (h : SlR X r) (h' : SlR X r') : SlR X (fun x lo hi H Q => r x lo hi H Q ∨ r' x lo hi H Q) := by
  intro pins s σ H x v vl vu lo hi sl Q I rx hs pl pu q
  rcases q with q | q
  · exact h pins s σ H x v vl vu lo hi sl Q I rx hs pl pu q
  · exact h' pins s σ H x v vl vu lo hi sl Q I rx hs pl pu q
end
end L2
namespace L2
open PySem PySem.Spec PyProof.Rows
def ixN (n : Nat) (i : Int) : Option Nat := if 0 ≤ i then (if i < n then some i.toNat else none) else if -(n : Int) ≤ i then some (i + n).toNat else none
def atI {α : Type} (xs : List α) (i : Int) : Option α := (ixN xs.length i).bind fun j => xs[j]?
theorem ixN_seq {n : Nat} {i : Int} {j : Nat} (h : ixN n i = some j) : seqIndex? i n = some j ∧ j < n ∧ -(n : Int) ≤ i ∧ i < n := by
  unfold ixN at h
  by_cases h0 : 0 ≤ i
  · rw [if_pos h0] at h
    by_cases h1 : i < n
    · rw [if_pos h1] at h
      have e : i.toNat = j := Option.some.inj h
      exact ⟨by rw [seqIndex_of h0 h1, e], by omega, by omega, h1⟩
    · rw [if_neg h1] at h; cases h
  · rw [if_neg h0] at h
    by_cases h1 : -(n : Int) ≤ i
    · rw [if_pos h1] at h
      have e : (i + n).toNat = j := Option.some.inj h
      exact ⟨by rw [seqIndex_neg (by omega) h1, e], by omega, h1, by omega⟩
    · rw [if_neg h1] at h; cases h
theorem atI_get {α : Type} {xs : List α} {i : Int} {v : α} (h : atI xs i = some v) : ∃ j, seqIndex? i xs.length = some j ∧ xs[j]? = some v ∧ j < xs.length ∧ -(xs.length : Int) ≤ i ∧ i < xs.length := by
  unfold atI at h
  cases e : ixN xs.length i with
  | none => rw [e] at h; cases h
  | some j =>
    rw [e] at h
    obtain ⟨h1, h2, h3, h4⟩ := ixN_seq e
    exact ⟨j, h1, h, h2, h3, h4⟩
theorem atI_nat {α : Type} {xs : List α} {j : Nat} {v : α} (h : xs[j]? = some v) : atI xs (j : Int) = some v := by
  have hj : j < xs.length := (List.getElem?_eq_some_iff.mp h).1
  have e : ixN xs.length (j : Int) = some j := by
    unfold ixN
    rw [if_pos (by omega), if_pos (by omega)]; simp
  unfold atI; rw [e]; exact h
def PlainIx (b : Expr) : Prop := ∀ o i, subscripted b false o i = operate [o, i] (getItem o i)
def IxR (X : Cx) (r : R2) : Prop :=
  ∀ (value slice : Expr) (pins : List (Addr × Obj)) (s : Shared) (σ : St) (H : Hp) (x y : V) (v u : Value) (Q : VK), Inv X pins σ H s → RelV x v → RelV y u → r x y H Q →
    subscripted slice false v u = operate [v, u] (getItem v u) → wpAny (model X.prog X.w) X.A (subscriptTail value slice v u) (EP X pins σ Q) X.xe s
def MtR (X : Cx) (id : String) (r : V → List V → Hp → VK → Prop) : Prop :=
  ∀ (pins : List (Addr × Obj)) (s : Shared) (σ : St) (H : Hp) (x : V) (xs : List V) (v : Value) (us : List Value) (Q : VK), Inv X pins σ H s → RelV x v → Vals xs us → r x xs H Q →
    wpAny (model X.prog X.w) X.A (call (.builtin id) (v :: us)) (EP X pins σ Q) X.xe s
section
variable {X : Cx} {a b : Expr} {ta tb : TE} {pos : Pos}
theorem IxR.or {r r' : R2} (h : IxR X r) (h' : IxR X r') : IxR X (fun x y H Q => r x y H Q ∨ r' x y H Q) := by
  intro value slice pins s σ H x y v u Q I rx ry q hs
  rcases q with q | q
  · exact h value slice pins s σ H x y v u Q I rx ry q hs
  · exact h' value slice pins s σ H x y v u Q I rx ry q hs
theorem MtR.or {id : String} {r r' : V → List V → Hp → VK → Prop} (h : MtR X id r) (h' : MtR X id r') : MtR X id (fun x xs H Q => r x xs H Q ∨ r' x xs H Q) := by
  intro pins s σ H x xs v us Q I rx rs q
  rcases q with q | q
  · exact h pins s σ H x xs v us Q I rx rs q
  · exact h' pins s σ H x xs v us Q I rx rs q
theorem pe_ix {r : R2} (hr : IxR X r) (ha : PE X a ta) (hb : PE X b tb) (hs : PlainIx b) : PE X (.Subscript a b pos) (tOp r ta tb) := by
  intro pins s σ H Q I h
  exact Subscript_ (binT ha hb I h fun v u s2 x y H2 I2 rx ry q => hr a b pins s2 σ H2 x y v u Q I2 rx ry q (hs _ _))
def rIxL (K : PySem.W.Frag) : R2 := fun x y H Q => ∃ p xs i v, x = .ref p ∧ y = .int i ∧ SqL K H p xs ∧ atI xs i = some v ∧ Q v H
def rIxT (K : PySem.W.Frag) : R2 := fun x y H Q => ∃ p xs i v, x = .ref p ∧ y = .int i ∧ SqT K H p xs ∧ atI xs i = some v ∧ Q v H
theorem ix_list : IxR X (rIxL X.K) := by
  intro value slice pins s σ H x y v u Q I rx ry h hs
  obtain ⟨p, xs, i, z, rfl, rfl, hq, he, q⟩ := h
  cases rx
  obtain ⟨t, rfl⟩ := ry
  obtain ⟨its, r, pl, hz⟩ := I.list hq
  obtain ⟨j, h1, h2, h3, h4, h5⟩ := atI_get he
  obtain ⟨w, ew, rw'⟩ := r.get h2
  have hl := r.length
  have hn := line63
  have fin : EP X pins σ Q w s := ⟨z, H, I, rw', q⟩
  by_cases h0 : 0 ≤ i
  · have hj : i.toNat = j := by
      rw [seqIndex_of h0 h5] at h1
      exact Option.some.inj h1
    exact item_listR pl.isList h0 (by omega) (by rw [hj]; simpa using ew) fin hs
  · have hj : (i + (its.toArray.size : Int)).toNat = j := by
      rw [seqIndex_neg (by omega) h4] at h1
      rw [List.size_toArray, ← hl]
      exact Option.some.inj h1
    exact subscriptTail_builtinR (x := w) pl.isList.typeIs slot_list_getitem.lookup
      (wpAny_getItem_list_neg (Q := fun r s' => r = w ∧ EP X pins σ Q r s') pl.isList (by omega) (by rw [List.size_toArray] <;> omega) (by omega) (by rw [hj]; simpa using ew) ⟨rfl, fin⟩) hs
theorem ix_tup : IxR X (rIxT X.K) := by
  intro value slice pins s σ H x y v u Q I rx ry h hs
  obtain ⟨p, xs, i, z, rfl, rfl, hq, he, q⟩ := h
  cases rx
  obtain ⟨t, rfl⟩ := ry
  obtain ⟨its, r, pl, hz⟩ := I.tuple hq
  obtain ⟨j, h1, h2, h3, h4, h5⟩ := atI_get he
  obtain ⟨w, ew, rw'⟩ := r.get h2
  have hl := r.length
  have hn := line63
  have fin : EP X pins σ Q w s := ⟨z, H, I, rw', q⟩
  exact subscriptTail_builtinR (x := w) pl.typeIs slot_tuple_getitem.lookup
    (getItem_tuple (j := j) (Q := fun r s' => r = w ∧ EP X pins σ Q r s') pl (by omega) (by omega) (by rw [List.size_toArray, ← hl]; exact h1) (by simpa using ew) ⟨rfl, fin⟩) hs
theorem Inv.lst {pins : List (Addr × Obj)} {σ : St} {H : Hp} {s : Shared} {p : Addr} {xs : List V} (I : Inv X pins σ H s) (h : H p = some (.lst xs)) :
    ∃ (its : List Value) (n : Nat), Vals xs its ∧ s.heap.get? p = some { cls := .type "list", data := .seq its.toArray n } ∧ xs.length ≤ sizeLine := by
  obtain ⟨z, its, n, r, e⟩ := I.hok p _ h
  exact ⟨its, n, r, e, z⟩
theorem CallR.or {f : Value} {r r' : List V → Hp → VK → Prop} (h : CallR X f r) (h' : CallR X f r') : CallR X f (fun xs H Q => r xs H Q ∨ r' xs H Q) := by
  intro pins s σ H xs us Q I rs q
  rcases q with q | q
  · exact h pins s σ H xs us Q I rs q
  · exact h' pins s σ H xs us Q I rs q
def tyV (K : PySem.W.Frag) (T : String) (x : V) (H : Hp) : Prop := match x with
  | .str _ => T = "str"
  | .int _ => T = "int"
  | .ref p => (T = "list" ∧ ∃ xs, SqL K H p xs) ∨ (T = "tuple" ∧ ∃ o, K.lookup p = some o ∧ o.cls = .type "tuple" ∧ o.dict = none) ∨
      (T = "dict" ∧ ((∃ kvs, H p = some (.dK kvs)) ∨ ∃ kvs, H p = some (.dT kvs))) ∨ (T = "set" ∧ ∃ S n, H p = some (.set S n))
  | _ => False
theorem tyV_is {pins : List (Addr × Obj)} {σ : St} {H : Hp} {s : Shared} {T : String} {x : V} {v : Value} (I : Inv X pins σ H s) (r : RelV x v) (ty : tyV X.K T x H) :
    s.TypeIs v T ∧ ∀ a, v = .ref a → ∃ ob, s.heap.get? a = some ob ∧ ob.dict = none := by
  cases x with
  | str z =>
    obtain ⟨t, rfl⟩ := r
    cases (show T = "str" from ty)
    exact ⟨typeIs_str s z t, fun _ e => nomatch e⟩
  | int i =>
    obtain ⟨t, rfl⟩ := r
    cases (show T = "int" from ty)
    exact ⟨typeIs_int s i t, fun _ e => nomatch e⟩
  | ref p =>
    cases r
    rcases ty with ⟨rfl, xs, hq⟩ | ⟨rfl, o, hk, hc, hd⟩ | ⟨rfl, hk⟩ | ⟨rfl, S, n, hk⟩
    · obtain ⟨its, _, pl, _⟩ := I.list hq
      refine ⟨pl.isList.typeIs, fun a e => ?_⟩
      cases e
      obtain ⟨o, n, e, c, hd, _⟩ := pl
      exact ⟨o, e, hd⟩
    · refine ⟨⟨o, I.kIn p o hk, hc⟩, fun a e => ?_⟩
      cases e
      exact ⟨o, I.kIn _ o hk, hd⟩
    · have z : ∃ o, s.heap.get? p = some o ∧ o.ExactDict := by
        rcases hk with ⟨kvs, hk⟩ | ⟨kvs, hk⟩
        · obtain ⟨_, _, _, _, o, _, _, e, ex, _⟩ := I.hok p _ hk
          exact ⟨o, e, ex⟩
        · obtain ⟨_, _, _, _, o, _, _, e, ex, _⟩ := I.hok p _ hk
          exact ⟨o, e, ex⟩
      obtain ⟨o, e, ex⟩ := z
      refine ⟨⟨o, e, ex.1⟩, fun a e2 => ?_⟩
      cases e2
      exact ⟨o, e, ex.2.1⟩
    · obtain ⟨o, _, _, _, e, ex, _⟩ := I.hok p _ hk
      refine ⟨⟨o, e, ex.1⟩, fun a e2 => ?_⟩
      cases e2
      exact ⟨o, e, ex.2.1⟩
  | _ => exact False.elim ty
def tBM0 (K : PySem.W.Frag) (T : String) (r : V → List V → Hp → VK → Prop) (to : TE) : TE := fun σ H Q => to σ H fun x H1 => tyV K T x H1 ∧ r x [] H1 Q
variable {o e : Expr} {es : List Expr} {to : TE} {t : TA} {name : Str} {apos cpos : Pos} {T id : String} {r : V → List V → Hp → VK → Prop}
theorem pe_bm0 (pa : PlainAttrs T) (slot : Slot T name id) (hty : typeOf (.builtin id) = pure (.type "method_descriptor")) (hm : MtR X id r) (ho : PE X o to)
    (hbase : attributeBase o name X.env (eval o X.env) = eval o X.env := by rfl) (hline : (apos.endLine == cpos.line) = true := by rfl) : PE X (.Call (.Attribute o name apos) [] [] cpos) (tBM0 X.K T r to) := by
  intro pins s σ H Q I h
  refine wpAny_Call_method0_late hbase hline (thn (ho pins s σ H _ I h) fun v s1 ⟨x, H1, I1, r1, ty, q1⟩ => ?_)
  obtain ⟨h1, h2⟩ := tyV_is I1 r1 ty
  exact ⟨T, id, pa, slot, hty, h1, h2, Calls.callWith_builtin rfl (PySem.evalArgs_none (hm pins s1 σ H1 x [] v [] Q I1 r1 .nil q1))⟩
end
end L2
namespace L2
open PySem PySem.Spec PyProof.Rows
theorem Vals.one : ∀ {x : V} {us : List Value}, Vals [x] us → ∃ u, us = [u] ∧ RelV x u
  | _, _, .cons r .nil => ⟨_, rfl, r⟩
theorem Vals.two : ∀ {x y : V} {us : List Value}, Vals [x, y] us → ∃ u v, us = [u, v] ∧ RelV x u ∧ RelV y v
  | _, _, _, .cons r (.cons q .nil) => ⟨_, _, rfl, r, q⟩
theorem Vals.zero : ∀ {us : List Value}, Vals [] us → us = []
  | _, .nil => rfl
theorem Vals.reverse {xs : List V} {us : List Value} (h : Vals xs us) : Vals xs.reverse us.reverse := by
  induction h with
  | nil => exact .nil
  | cons r t ih => rw [List.reverse_cons, List.reverse_cons]; exact Vals.append ih (.cons r .nil)
section
variable {X : Cx} {pins : List (Addr × Obj)} {σ : St} {H : Hp} {s : Shared} {l b : Addr} {xs ys zs : List V}
theorem Inv.fresh (I : Inv X pins σ H s) : H s.heap.objs.size = none := I.hok.fresh (Nat.le_refl _)
end
section
variable {X : Cx}
end
section
variable {prog : Program} {w : World} {A : Around} {E : Value → Shared → Prop} {s : Shared}
set_option maxRecDepth 100000 in
end
section
variable {X : Cx}
end
end L2
namespace L2
open PySem PySem.Spec PyProof.Rows
theorem Vals.ints : ∀ {ns : List Int} {us : List Value}, Vals (ns.map V.int) us → IntsAre us ns
  | [], us, h => by
    rw [List.map_nil] at h
    cases h
    exact IntsAre.nil
  | n :: ns, us, h => by
    rw [List.map_cons] at h
    cases h with
    | cons r t =>
      obtain ⟨k, rfl⟩ := r
      exact IntsAre.cons n k (Vals.ints t)
theorem Vals.strs : ∀ {xs : List Str} {us : List Value}, Vals (xs.map V.str) us → StrsAre us xs
  | [], us, h => by
    rw [List.map_nil] at h
    cases h
    exact StrsAre.nil
  | x :: xs, us, h => by
    rw [List.map_cons] at h
    cases h with
    | cons r t =>
      obtain ⟨k, rfl⟩ := r
      exact StrsAre.cons x k (Vals.strs t)
section
variable {prog : Program} {w : World} {A : Around} {E : Value → Shared → Prop} {s : Shared} {l : Addr} {its : List Value} {ns : List Int} {Q : Value → Shared → Prop}
end
section
variable {X : Cx}
end
section
variable {X : Cx}
end
section
variable {X : Cx}
end
section
variable {X : Cx}
end
mutual
inductive Dp (K : PySem.W.Frag) (H : Hp) : V → PyData → Prop
  | non : Dp K H .non .none
  | bl (b : Bool) : Dp K H (.bl b) (.bool b)
  | int (i : Int) : Dp K H (.int i) (.int i)
  | str (x : Str) : Dp K H (.str x) (.str x)
  | lst {a : Addr} {xs : List V} {ds : List PyData} : SqL K H a xs → DpAll K H xs ds → Dp K H (.ref a) (.list ds)
  | tup {a : Addr} {xs : List V} {ds : List PyData} : SqT K H a xs → DpAll K H xs ds → Dp K H (.ref a) (.tuple ds)
inductive DpAll (K : PySem.W.Frag) (H : Hp) : List V → List PyData → Prop
  | nil : DpAll K H [] []
  | cons {v : V} {vs : List V} {d : PyData} {ds : List PyData} : Dp K H v d → DpAll K H vs ds → DpAll K H (v :: vs) (d :: ds)
end
section
variable {X : Cx} {pins : List (Addr × Obj)} {σ : St} {H : Hp} {s : Shared}
mutual
theorem Dp.reads (I : Inv X pins σ H s) : ∀ (d : PyData) (v : V) (u : Value), Dp X.K H v d → RelV v u → ∃ as, Reads s.heap u d as
  | .none, _, _, h, r => by
    cases h
    cases r
    exact ⟨_, Reads.none⟩
  | .bool b, _, _, h, r => by
    cases h
    cases r
    exact ⟨_, Reads.bool b⟩
  | .int i, _, _, h, r => by
    cases h
    obtain ⟨t, rfl⟩ := r
    exact ⟨_, Reads.int i t⟩
  | .str x, _, _, h, r => by
    cases h
    obtain ⟨t, rfl⟩ := r
    exact ⟨_, Reads.str x t⟩
  | .list ds, _, _, h, r => by
    cases h with
    | lst hs ha =>
      cases r
      obtain ⟨its, rv, ⟨o, n, ho, hc, _, hd⟩, _⟩ := I.list hs
      obtain ⟨as, hr⟩ := Dp.readsAll I ds _ its ha rv
      exact ⟨_, Reads.list ho hc hd hr⟩
  | .tuple ds, _, _, h, r => by
    cases h with
    | tup hs ha =>
      cases r
      obtain ⟨its, rv, ⟨o, ho, hc, n, hd⟩, _⟩ := I.tuple hs
      obtain ⟨as, hr⟩ := Dp.readsAll I ds _ its ha rv
      exact ⟨_, Reads.tuple ho hc hd hr⟩
  | .dict _, _, _, h, _ => by cases h
theorem Dp.readsAll (I : Inv X pins σ H s) : ∀ (ds : List PyData) (vs : List V) (us : List Value), DpAll X.K H vs ds → Vals vs us → ∃ as, ReadsAll s.heap us ds as
  | [], _, _, h, r => by
    cases h
    cases r
    exact ⟨_, ReadsAll.nil⟩
  | d :: ds, _, _, h, r => by
    cases h with
    | cons h1 h2 =>
      cases r with
      | cons r1 r2 =>
        obtain ⟨as, q1⟩ := Dp.reads I d _ _ h1 r1
        obtain ⟨bs, q2⟩ := Dp.readsAll I ds _ _ h2 r2
        exact ⟨_, ReadsAll.cons q1 q2⟩
end
end
section
variable {X : Cx}
end
end L2
namespace L2
open PySem PySem.Spec PyProof.Rows
structure BlkOk (N : List Str) (sc scope : Scope) (own : List (Str × Nat)) : Prop where
  kind : scope.kind = .function
  uniq : ∀ y ∈ scope.names, scope.names.lookup y.1 = some y.2
  ix : ∀ p ∈ own, N[p.2]? = some p.1
  free : ∀ y ∈ scope.names, y.2 = .free → sc.names.lookup y.1 = some .cell ∨ sc.names.lookup y.1 = some .free
  own : ∀ y ∈ scope.names, y.2 = .local ∨ y.2 = .cell → y.1 ∈ own.map (·.1) ∨ y.1 ∉ N
section
variable {X : Cx} {pins : List (Addr × Obj)} {σ : St} {H : Hp} {s : Shared}
end
section
variable {X : Cx}
end
end L2
namespace L2
open PySem PySem.Spec PyProof.Rows
section
variable {prog : Program} {w : World} {A : Around} {R : Result → Shared → Prop} {s : Shared} {elt t0 i0 t1 i1 : Expr} {ifs0 ifs1 : List Expr} {scope : Scope} {pos : Pos} {it acc : Value} {env : Env}
end
section
variable {X : Cx}
end
end L2
namespace L2
open PySem PySem.Spec PyProof.Rows
section
variable {κ : Type} [DecidableEq κ]
def valV (kvs : List (κ × V)) (k : κ) : Option V := (kvs.find? fun kv => decide (kv.1 = k)).map (·.2)
def putK (kvs : List (κ × V)) (k : κ) (v : V) : List (κ × V) :=
  if (kvs.any fun kv => decide (kv.1 = k)) = true then kvs.map (fun kv => if kv.1 = k then (kv.1, v) else kv) else kvs ++ [(k, v)]
def dropK (kvs : List (κ × V)) (k : κ) : List (κ × V) := kvs.filter fun kv => decide (kv.1 ≠ k)
theorem RelO.getD {o : Option V} {u : Option Value} {d : V} {d' : Value} (r : RelO o u) (rd : RelV d d') : RelV (o.getD d) (u.getD d') := by
  cases o with
  | none => cases u with
    | none => exact rd
    | some _ => exact (show False from r).elim
  | some _ => cases u with
    | none => exact (show False from r).elim
    | some _ => exact r
theorem KV.any {kvs : List (κ × V)} {vs : List (κ × Value)} (r : KV kvs vs) (k : κ) : (kvs.any fun kv => decide (kv.1 = k)) = vs.any fun kv => decide (kv.1 = k) := by
  unfold KV at r
  induction r with
  | nil => rfl
  | cons h t ih => rw [List.any_cons, List.any_cons, ih, h.1]
theorem KV.drop {kvs : List (κ × V)} {vs : List (κ × Value)} (r : KV kvs vs) (k : κ) : KV (dropK kvs k) (without vs k) := by
  unfold KV at r ⊢
  unfold dropK without
  induction r with
  | nil => exact .nil
  | @cons p q ps qs h t ih =>
    obtain ⟨h1, h2⟩ := h
    rw [List.filter_cons, List.filter_cons]
    by_cases e : p.1 = k
    · have a : ¬ decide (p.1 ≠ k) = true := by simp [e]
      have b : ¬ decide (q.1 ≠ k) = true := by simp [h1.symm.trans e]
      rw [if_neg a, if_neg b]; exact ih
    · have e' : ¬ q.1 = k := fun z => e (h1.trans z)
      have a : decide (p.1 ≠ k) = true := by simp [e]
      have b : decide (q.1 ≠ k) = true := by simp [e']
      rw [if_pos a, if_pos b]; exact .cons ⟨h1, h2⟩ ih
theorem KV.keys {kvs : List (κ × V)} {vs : List (κ × Value)} (r : KV kvs vs) : kvs.map (·.1) = vs.map (·.1) := by
  unfold KV at r
  induction r with
  | nil => rfl
  | cons h t ih => rw [List.map_cons, List.map_cons, ih, h.1]
theorem KV.length {kvs : List (κ × V)} {vs : List (κ × Value)} (r : KV kvs vs) : kvs.length = vs.length := Paired.length r
end
abbrev KT (H : Hp) : List (List Key × V) → List (List Key × Addr × Value) → Prop := Paired fun p q => p.1 = q.1 ∧ H q.2.1 = some (.tup (p.1.map kV)) ∧ RelV p.2 q.2.2
theorem KT.keeps {H H' : Hp} {kvs : List (List Key × V)} {xs : List (List Key × Addr × Value)} (r : KT H kvs xs) (ht : ∀ b ys, H b = some (.tup ys) → H' b = some (.tup ys)) : KT H' kvs xs :=
  Paired.mapP r fun _ _ z => ⟨z.1, ht _ _ z.2.1, z.2.2⟩
section
variable {P : Program} {w : World} {H : Hp} {h : Heap} {a : Addr}
end
def DGet (H : Hp) (a : Addr) (y : V) (r : Option V) : Prop :=
  (∃ kvs k, Rd H a (.dK kvs) ∧ y = kV k ∧ r = valV kvs k) ∨ ∃ kvs k b, Rd H a (.dT kvs) ∧ y = .ref b ∧ H b = some (.tup (k.map kV)) ∧ r = valV kvs k
def DPut (H : Hp) (a : Addr) (y v : V) (H' : Hp) : Prop :=
  (∃ kvs k, H a = some (.dK kvs) ∧ y = kV k ∧ kvs.length < sizeLine ∧ H' = upd H a (.dK (putK kvs k v))) ∨
  ∃ kvs k b, H a = some (.dT kvs) ∧ y = .ref b ∧ H b = some (.tup (k.map kV)) ∧ kvs.length < sizeLine ∧ H' = upd H a (.dT (putK kvs k v))
theorem DGet.k {H : Hp} {a : Addr} {kvs : List (Key × V)} {k : Key} (e : H a = some (.dK kvs)) : DGet H a (kV k) (valV kvs k) := .inl ⟨kvs, k, .inl e, rfl, rfl⟩
theorem DGet.t {H : Hp} {a b : Addr} {kvs : List (List Key × V)} {k : List Key} (e : H a = some (.dT kvs)) (eb : H b = some (.tup (k.map kV))) : DGet H a (.ref b) (valV kvs k) := .inr ⟨kvs, k, b, .inl e, rfl, eb, rfl⟩
theorem DPut.k {H : Hp} {a : Addr} {kvs : List (Key × V)} {k : Key} {v : V} (e : H a = some (.dK kvs)) (hl : kvs.length < sizeLine) : DPut H a (kV k) v (upd H a (.dK (putK kvs k v))) := .inl ⟨kvs, k, e, rfl, hl, rfl⟩
theorem DPut.t {H : Hp} {a b : Addr} {kvs : List (List Key × V)} {k : List Key} {v : V} (e : H a = some (.dT kvs)) (eb : H b = some (.tup (k.map kV))) (hl : kvs.length < sizeLine) :
    DPut H a (.ref b) v (upd H a (.dT (putK kvs k v))) := .inr ⟨kvs, k, b, e, rfl, eb, hl, rfl⟩
section
variable {X : Cx} {pins : List (Addr × Obj)} {σ : St} {H : Hp} {s : Shared} {a : Addr} {y v : V} {u r : Value} {o : Option V} {A : Around} {E : Value → Shared → Prop}
end
section
variable {X : Cx} {pins : List (Addr × Obj)} {σ : St} {H : Hp} {s : Shared} {a : Addr} {kvs : List (Key × V)} {k : Key} {u : Value} {A : Around} {E : Value → Shared → Prop}
end
section
variable {X : Cx} {o i e value : Expr} {pos pos' tpos : Pos} {td ty tv : TE}
end
section
variable {X : Cx} {pos : Pos}
end
structure M1 (X : Cx) (o : Expr) (m : Str) (apos : Pos) (e : Expr) (cpos : Pos) : Prop where
  base : attributeBase o m X.env (eval o X.env) = eval o X.env
  few : ((backTo cpos (starEach [e] X.env)).all (fun x => !x.1) && (backToKw cpos (keywordEach [] X.env)).all (fun x => x.1.isSome)
    && decide (([e] : List Expr).length + ([] : List Keyword).length + (if ([] : List Keyword).isEmpty then 0 else 1) < 30)) = true
  line : (apos.endLine == cpos.line) = true
  trees : backTo cpos (starEach [e] X.env) = [(false, eval e X.env)]
structure M2 (X : Cx) (o : Expr) (m : Str) (apos : Pos) (e f : Expr) (cpos : Pos) : Prop where
  base : attributeBase o m X.env (eval o X.env) = eval o X.env
  few : ((backTo cpos (starEach [e, f] X.env)).all (fun x => !x.1) && (backToKw cpos (keywordEach [] X.env)).all (fun x => x.1.isSome)
    && decide (([e, f] : List Expr).length + ([] : List Keyword).length + (if ([] : List Keyword).isEmpty then 0 else 1) < 30)) = true
  line : (apos.endLine == cpos.line) = true
  trees : backTo cpos (starEach [e, f] X.env) = [(false, eval e X.env), (false, eval f X.env)]
section
variable {X : Cx} {pins : List (Addr × Obj)} {σ : St} {H : Hp} {s : Shared} {a : Addr} {y d : V} {u r : Value} {o : Option V} {A : Around} {E : Value → Shared → Prop}
end
section
variable {X : Cx} {o e f : Expr} {apos cpos : Pos} {td ty tx : TE}
end
section
variable {X : Cx} {pins : List (Addr × Obj)} {σ : St} {H : Hp} {s : Shared} {a : Addr} {kvs : List (Key × V)} {A : Around} {E : Value → Shared → Prop}
end
section
variable {X : Cx} {pins : List (Addr × Obj)} {σ : St} {H : Hp} {s : Shared} {a : Addr} {y : V} {u : Value} {A : Around} {E : Value → Shared → Prop}
end
end L2
namespace L2
open PySem PySem.Spec PyProof.Rows
section
variable {prog : Program} {w : World} {A : Around} {E : Value → Shared → Prop}
end
section
variable {X : Cx}
end
end L2
namespace L2
open PySem PySem.Spec PyProof.Rows
section
variable {X : Cx} {pins : List (Addr × Obj)} {σ : St} {H : Hp} {s : Shared} {h' : Heap}
end
section
variable {X : Cx}
end
section
variable {X : Cx} {tg : Expr}
end
section
variable {X : Cx} {tg : Expr}
end
section
variable {prog : Program} {w : World} {A : Around} {E : Value → Shared → Prop} {s : Shared}
end
section
variable {X : Cx} {pins : List (Addr × Obj)} {σ : St} {H : Hp} {s : Shared} {d : Addr} {o : Obj}
end
section
variable {P : Program} {w : World} {K : PySem.W.Frag} {tg : Expr} {d : Addr} {o : Obj} {es : Array DictEntry} {ep : Nat}
end
section
variable {X : Cx} {tg e : Expr} {td : TE} {apos cpos : Pos}
end
end L2
section 
namespace Bits
open PySem PyProof.Rows
end Bits
end 
section 
namespace TL
open PySem PySem.Builtin PySem.Builtin.Str PySem.StrLaws
abbrev tl (x : Str) : List Nat := x.cps.toList
def pre (S l : List Nat) : Bool := l.take S.length == S
def par (S : List Nat) : List Nat → List Nat → Option (List Nat × List Nat)
  | _, [] => none
  | acc, c :: r => if pre S (c :: r) = true then some (acc, (c :: r).drop S.length) else par S (acc ++ [c]) r
end TL
end 
namespace L2
open PySem PySem.Spec PyProof.Rows
section
variable {X : Cx} {pins : List (Addr × Obj)} {σ : St} {H : Hp} {s : Shared} {Q : VK}
end
section
variable {X : Cx}
end
section
variable {X : Cx} {o e : Expr} {to te : TE}
end
end L2
namespace L2
open PySem PySem.Spec PyProof.Rows
section
variable {X : Cx}
end
end L2
namespace Att
open PySem PySem.W PySem.Calls PyProof.Rows
section
variable {prog : Program} {w : World} {A : Around} {E : Value → Shared → Prop} {s : Shared} {K : Frag}
end
end Att
namespace L2
open PySem PySem.Spec PyProof.Rows
end L2
namespace L2
open PySem PySem.Spec PyProof.Rows
abbrev KOf {K : PySem.W.Frag} {h : Heap} (_ : K.In h) : PySem.W.Frag := K
end L2
namespace L2
open PySem PySem.Spec PyProof.Rows
def defArgs (s : Stmt) : Arguments := match s with
  | .FunctionDef _ a _ _ _ _ _ _ _ _ => a
  | _ => { posonlyargs := [], args := [], vararg := none, kwonlyargs := [], kw_defaults := [], kwarg := none, defaults := [] }
def defBody (s : Stmt) : List Stmt := match s with
  | .FunctionDef _ _ b _ _ _ _ _ _ _ => b
  | _ => []
def defScope (s : Stmt) : Scope := match s with
  | .FunctionDef _ _ _ _ _ _ sc _ _ _ => sc
  | _ => { kind := .function, names := [], isGenerator := false, isCoroutine := false }
abbrev CX0 : CXT := fun _ _ _ _ _ _ => False
abbrev E0 : XK := fun _ _ _ => False
theorem pass0 {X : Cx} : Passes CX0 X E0 := fun _ _ _ _ _ _ _ h => h.elim
structure Fun (K : PySem.W.Frag) (x qual : Str) (st : Stmt) (f : Addr) (fd : FuncData) : Prop where
  ex : ∃ (oc : Value) (od : Option Addr) (kV doc pm : Value) (an : Option Addr) (cdv ct : Value) (osl : Array (Option Value)),
    fd = PySem.W.fnOf x qual (defArgs st) (defBody st) (defScope st) .none kV doc pm an cdv ct ∧ K.lookup f = some ⟨oc, od, .func fd, osl⟩ ∧ PySem.W.codeIn K cdv qual = true
  kp : PySem.W.keepIn K (.ref f) = true
section
variable {P : Program} {w : World} {K : PySem.W.Frag} {mg : Str → Option Value} {base : Heap}
theorem Fun.ok {x qual : Str} {st : Stmt} {f : Addr} {fd : FuncData} {N ps : List Str} {k : Nat} {sp : Sp} (F : Fun K x qual st f fd) (S : FnScope N ps (defScope st)) (len : ∀ vs H Q E, sp vs H Q E → vs.length = ps.length)
    (hbody : ∀ (cdv : Value) (A : Around) (outer : List Env) (s : Shared) (H : Hp) (vs : List V) (Q : VK) (E : XK), Room k (A.deeper (envOfC qual (defScope st) s.heap.objs.size f cdv)) → sp vs H Q E →
      ∃ t, PSs (cxOf CX0 P w K mg base N qual (defScope st) f cdv A outer s H E).nox (defBody st) t ∧ t { nx := fun _ H' => Q .non H', rt := Q } (start N vs) H) : FnOk P w K mg base CX0 (k + 1) f fd ps sp := by
  obtain ⟨oc, od, kV, doc, pm, an, cdv, ct, osl, rfl, lk, hcd⟩ := F.ex
  refine fn_of lk hcd S len fun A outer s H vs Q E hr hsp => ?_
  obtain ⟨t, h, q⟩ := hbody cdv A outer s H vs Q E hr hsp
  exact ⟨t, h.nox, q⟩
theorem Fun.binds {x qual : Str} {st : Stmt} {f : Addr} {fd : FuncData} {ps : List Str} (F : Fun K x qual st f fd)
    (h : ∀ (kV doc pm : Value) (an : Option Addr) (cdv ct : Value) (us : List Value), us.length = ps.length → bindArgs (PySem.W.fnOf x qual (defArgs st) (defBody st) (defScope st) .none kV doc pm an cdv ct) ⟨us, []⟩ = pure (ps.zip us)) : Binds K fd ps [] := by
  obtain ⟨oc, od, kV, doc, pm, an, cdv, ct, osl, rfl, lk, hcd⟩ := F.ex
  exact .all (h kV doc pm an cdv ct)
theorem fun_mk {x qual : Str} {st : Stmt} {f : Addr} {oc : Value} {od an : Option Addr} {osl : Array (Option Value)} {kV doc pm cdv ct : Value} (l : K.lookup f = some ⟨oc, od, .func (PySem.W.fnOf x qual (defArgs st) (defBody st) (defScope st) .none kV doc pm an cdv ct), osl⟩)
    (c : PySem.W.codeIn K cdv qual = true) (k : PySem.W.keepIn K (.ref f) = true) : Fun K x qual st f (PySem.W.fnOf x qual (defArgs st) (defBody st) (defScope st) .none kV doc pm an cdv ct) := ⟨⟨oc, od, kV, doc, pm, an, cdv, ct, osl, rfl, l, c⟩, k⟩
end
theorem small1000 {n : Nat} (h : n ≤ 1000) : n < sizeLine := Nat.lt_of_le_of_lt h (by decide)
section
variable {X : Cx}
end
def Same (H H' : Hp) : Prop := ∀ b o, H b = some o → H' b = some o
theorem Same.refl (H : Hp) : Same H H := fun _ _ h => h
theorem Same.trans {H H1 H2 : Hp} (a : Same H H1) (b : Same H1 H2) : Same H H2 := fun c o h => b c o (a c o h)
theorem Same.free {H H' : Hp} (e : Same H H') {l : Addr} (h : H' l = Option.none) : H l = Option.none := by
  cases q : H l with
  | none => rfl
  | some o =>
    rw [e l o q] at h
    cases h
theorem Same.seq {K : PySem.W.Frag} {H H' : Hp} {a : Addr} {xs : List V} (e : Same H H') (h : SqL K H a xs) : SqL K H' a xs := by
  rcases h with (h | ⟨o, h⟩) | h
  · exact .inl (.inl (e _ _ h))
  · exact .inl (.inr ⟨o, e _ _ h⟩)
  · exact .inr h
section
variable {κ : Type} [DecidableEq κ]
end
end L2
section
set_option Elab.async false
set_option linter.all false
set_option maxRecDepth 100000
set_option maxHeartbeats 2000000
namespace L2
open PySem PySem.Spec PyProof.Rows
open PySem.W (WData Codec OpenSpec Well WellAll ReadsW ReadsAllW)
mutual
/-- x stands for the datum d, lists and tuples all the way -/
inductive Dw (K : PySem.W.Frag) (H : Hp) : V → WData → Prop
  | non : Dw K H .non .none
  | bl (b : Bool) : Dw K H (.bl b) (.bool b)
  | int (i : Int) : Dw K H (.int i) (.int i)
  | str (x : Str) : Dw K H (.str x) (.str x)
  | byt (b : Array UInt8) : Dw K H (.byt b) (.bytes b.toList)
  | lst {a : Addr} {xs : List V} {ds : List WData} : SqL K H a xs → DwAll K H xs ds → Dw K H (.ref a) (.list ds)
  | tup {a : Addr} {xs : List V} {ds : List WData} : SqT K H a xs → DwAll K H xs ds → Dw K H (.ref a) (.tuple ds)
inductive DwAll (K : PySem.W.Frag) (H : Hp) : List V → List WData → Prop
  | nil : DwAll K H [] []
  | cons {v : V} {vs : List V} {d : WData} {ds : List WData} : Dw K H v d → DwAll K H vs ds → DwAll K H (v :: vs) (d :: ds)
end
theorem dw_ints {K : PySem.W.Frag} {H : Hp} : ∀ ns : List Int, DwAll K H (ns.map V.int) (ns.map WData.int)
  | [] => .nil
  | n :: r => .cons (.int n) (dw_ints r)
theorem ints_dw {K : PySem.W.Frag} {H : Hp} : ∀ (ns : List Int) (xs : List V), DwAll K H xs (ns.map WData.int) → xs = ns.map V.int
  | [], xs, h => by
    cases h
    rfl
  | n :: r, xs, h => by
    cases h with
    | cons h1 h2 =>
      cases h1
      rw [ints_dw r _ h2] <;> rfl
section
variable {P : Program} {w : World} {K : PySem.W.Frag} {H : Hp} {h : Heap} {R : PySem.W.WRecords} {cl : Str → Option Addr}
theorem sqL_at {a : Addr} {xs : List V} (hok : HOk P w H h) (KX : K.In h) (q : SqL K H a xs) : ∃ (its : List Value) (o : Obj) (n : Nat), Vals xs its ∧ h.get? a = some o ∧ o.cls = .type "list" ∧ o.data = .seq its.toArray n := by
  rcases q with q | ⟨o, its, n, e, hc, _, hd, _, hv⟩
  · obtain ⟨_, its, n, hv, e⟩ := (show ObjOk P w H h a (.lst xs) from q.ok hok)
    exact ⟨its, _, n, hv, e, rfl, rfl⟩
  · exact ⟨its.toList, o, n, hv, KX _ _ e, hc, by simp [hd]⟩
theorem sqT_at {a : Addr} {xs : List V} (hok : HOk P w H h) (KX : K.In h) (q : SqT K H a xs) : ∃ (its : List Value) (o : Obj) (n : Nat), Vals xs its ∧ h.get? a = some o ∧ o.cls = .type "tuple" ∧ o.data = .seq its.toArray n := by
  rcases q with q | ⟨o, its, n, e, hc, hd, _, hv⟩
  · obtain ⟨_, its, hv, o, e, hc, n, hd⟩ := (show ObjOk P w H h a (.tup xs) from q.ok hok)
    exact ⟨its, o, n, hv, e, hc, hd⟩
  · exact ⟨its.toList, o, n, hv, KX _ _ e, hc, by simp [hd]⟩
mutual
theorem Dw.reads (hok : HOk P w H h) (KX : K.In h) : ∀ (d : WData) (v : V) (u : Value), Dw K H v d → RelV v u → ∃ as, ReadsW R cl h u d as
  | .none, _, _, x, r => by
    cases x
    cases r
    exact ⟨_, ReadsW.none⟩
  | .bool b, _, _, x, r => by
    cases x
    cases r
    exact ⟨_, ReadsW.bool b⟩
  | .int i, _, _, x, r => by
    cases x
    obtain ⟨t, rfl⟩ := r
    exact ⟨_, ReadsW.int i t⟩
  | .str s, _, _, x, r => by
    cases x
    obtain ⟨t, rfl⟩ := r
    exact ⟨_, ReadsW.str s t⟩
  | .bytes b, _, _, x, r => by
    cases x
    obtain ⟨t, rfl⟩ := r
    exact ⟨_, ReadsW.bytes _ t⟩
  | .list ds, _, _, x, r => by
    cases x with
    | lst hs ha =>
      cases r
      obtain ⟨its, o, n, rv, ho, hc, hd⟩ := sqL_at hok KX hs
      obtain ⟨as, hr⟩ := Dw.readsAll hok KX ds _ its ha rv
      exact ⟨_, ReadsW.list ho hc hd hr⟩
  | .tuple ds, _, _, x, r => by
    cases x with
    | tup hs ha =>
      cases r
      obtain ⟨its, o, n, rv, ho, hc, hd⟩ := sqT_at hok KX hs
      obtain ⟨as, hr⟩ := Dw.readsAll hok KX ds _ its ha rv
      exact ⟨_, ReadsW.tuple ho hc hd hr⟩
  | .float _, _, _, x, _ => by cases x
  | .dict _, _, _, x, _ => by cases x
  | .bytearray _, _, _, x, _ => by cases x
  | .set _, _, _, x, _ => by cases x
  | .frozenset _, _, _, x, _ => by cases x
  | .obj _ _, _, _, x, _ => by cases x
theorem Dw.readsAll (hok : HOk P w H h) (KX : K.In h) : ∀ (ds : List WData) (vs : List V) (us : List Value), DwAll K H vs ds → Vals vs us → ∃ as, ReadsAllW R cl h us ds as
  | [], _, _, x, r => by
    cases x
    cases r
    exact ⟨_, ReadsAllW.nil⟩
  | d :: ds, _, _, x, r => by
    cases x with
    | cons h1 h2 =>
      cases r with
      | cons r1 r2 =>
        obtain ⟨as, q1⟩ := Dw.reads hok KX d _ _ h1 r1
        obtain ⟨bs, q2⟩ := Dw.readsAll hok KX ds _ _ h2 r2
        exact ⟨_, ReadsAllW.cons q1 q2⟩
end
end
mutual
/-- data that a codec tells -/
def plW : WData → Bool
  | .none => true
  | .bool _ => true
  | .int _ => true
  | .str _ => true
  | .bytes _ => true
  | .list xs => plWs xs
  | .tuple xs => plWs xs
  | _ => false
def plWs : List WData → Bool
  | [] => true
  | x :: r => plW x && plWs r
end
theorem plWs_map {α : Type} {f : α → WData} (h : ∀ a, plW (f a) = true) : ∀ l : List α, plWs (l.map f) = true
  | [] => rfl
  | x :: r => by
    show (plW (f x) && plWs (r.map f)) = true
    rw [h x, plWs_map h r] <;> rfl
theorem pl_enc : ∀ (c : Codec) (a : c.denote), plW (c.enc a) = true
  | .unit, _ => rfl
  | .bool, _ => rfl
  | .int _ _, _ => rfl
  | .nat _ _, _ => rfl
  | .u8, _ => rfl
  | .bytes _ _, _ => rfl
  | .text _ _ _ _, _ => rfl
  | .list _ _ c, a => plWs_map (fun x => pl_enc c x) a
  | .pair c d, a => by
    show (plW (c.enc a.1) && (plW (d.enc a.2) && true)) = true
    rw [pl_enc c a.1, pl_enc d a.2] <;> rfl
  | .triple c d e, a => by
    show (plW (c.enc a.1) && (plW (d.enc a.2.1) && (plW (e.enc a.2.2) && true))) = true
    rw [pl_enc c a.1, pl_enc d a.2.1, pl_enc e a.2.2] <;> rfl
  | .option c, none => rfl
  | .option c, some x => pl_enc c x
theorem pl_encAll : ∀ (cs : List Codec) (a : Codec.denoteAll cs), plWs (Codec.encAll cs a) = true
  | [], _ => rfl
  | c :: cs, a => by
    show (plW (c.enc a.1) && plWs (Codec.encAll cs a.2)) = true
    rw [pl_enc c a.1, pl_encAll cs a.2] <;> rfl
theorem weight_mem : ∀ {xs : List WData} {d : WData}, d ∈ xs → d.weight ≤ WData.weightAll xs
  | [], d, h => absurd h (by simp)
  | x :: r, d, h => by
    show d.weight ≤ x.weight + 1 + WData.weightAll r
    rcases List.mem_cons.mp h with e | m
    · rw [e]
      omega
    · have z := weight_mem m
      omega
def toV : Value → V
  | .none => .non
  | .bool b => .bl b
  | .int i _ => .int i
  | .str x _ => .str x
  | .bytes b _ => .byt b
  | .ref a => .ref a
  | _ => .non
def OkU (A : List Addr) : Value → Prop
  | .none => True
  | .bool _ => True
  | .int _ _ => True
  | .str _ _ => True
  | .bytes _ _ => True
  | .ref a => a ∈ A
  | _ => False
theorem OkU.mono {A B : List Addr} (h : ∀ a ∈ A, a ∈ B) : ∀ {u : Value}, OkU A u → OkU B u := fun {u} x => by
  cases u with
  | ref a => exact h a x
  | none => trivial
  | bool b => trivial
  | int i t => trivial
  | str s t => trivial
  | bytes b t => trivial
  | _ => exact False.elim x
theorem relV_toV {A : List Addr} {u : Value} (x : OkU A u) : RelV (toV u) u := by
  cases u with
  | ref a => rfl
  | none => rfl
  | bool b => rfl
  | int i t => exact ⟨t, rfl⟩
  | str s t => exact ⟨t, rfl⟩
  | bytes b t => exact ⟨t, rfl⟩
  | _ => exact False.elim x
theorem vals_toV {A : List Addr} : ∀ {vs : List Value}, (∀ u ∈ vs, OkU A u) → Vals (vs.map toV) vs
  | [], _ => .nil
  | u :: r, h => .cons (relV_toV (h u (List.mem_cons_self ..))) (vals_toV fun x hx => h x (List.mem_cons_of_mem _ hx))
def ArgOb (h : Heap) (A : List Addr) (a : Addr) : Prop := ∃ vs : List Value, vs.length ≤ sizeLine ∧ (∀ u ∈ vs, OkU A u) ∧
  (h.get? a = some { cls := .type "list", data := .seq vs.toArray } ∨ h.get? a = some { cls := .type "tuple", data := .seq vs.toArray })
theorem ArgOb.mono {h : Heap} {A B : List Addr} {a : Addr} (k : ∀ a ∈ A, a ∈ B) (x : ArgOb h A a) : ArgOb h B a := by
  obtain ⟨vs, h1, h2, h3⟩ := x
  exact ⟨vs, h1, fun u hu => (h2 u hu).mono k, h3⟩
theorem wellAll_len {P : Params} {h : Heap} : ∀ {vs : List Value} {ds : List WData}, WellAll P h vs ds → vs.length = ds.length
  | _, _, .nil => rfl
  | _, _, .cons _ b => by
    show _ + 1 = _ + 1
    rw [wellAll_len b]
theorem well_list {P : Params} {h : Heap} {v : Value} {ds : List WData} (x : Well P h v (.list ds)) : ∃ (a : Addr) (vs : List Value), v = .ref a ∧ h.get? a = some { cls := .type "list", data := .seq vs.toArray } ∧ WellAll P h vs ds := by
  cases x with
  | list ho hall => exact ⟨_, _, rfl, ho, hall⟩
theorem well_tuple {P : Params} {h : Heap} {v : Value} {ds : List WData} (x : Well P h v (.tuple ds)) : ∃ (a : Addr) (vs : List Value), v = .ref a ∧ h.get? a = some { cls := .type "tuple", data := .seq vs.toArray } ∧ WellAll P h vs ds := by
  cases x with
  | tuple ho hall => exact ⟨_, _, rfl, ho, hall⟩
theorem well_cons {P : Params} {h : Heap} {us : List Value} {d : WData} {ds : List WData} (x : WellAll P h us (d :: ds)) : ∃ (v : Value) (vs : List Value), us = v :: vs ∧ Well P h v d ∧ WellAll P h vs ds := by
  cases x with
  | cons a b => exact ⟨_, _, rfl, a, b⟩
theorem line_of {n : Nat} (h : n ≤ 1048576) : n ≤ sizeLine := Nat.le_trans h (by decide)
section
variable {P : Params} {h : Heap}
mutual
theorem area_one : ∀ (d : WData) (v : Value), Well P h v d → plW d = true → d.weight ≤ 1048576 → ∃ A : List Addr, OkU A v ∧ ∀ a ∈ A, ArgOb h A a
  | .none, _, x, _, _ => by
    cases x
    exact ⟨[], trivial, fun a m => absurd m (by simp)⟩
  | .bool b, _, x, _, _ => by
    cases x
    exact ⟨[], trivial, fun a m => absurd m (by simp)⟩
  | .int i, _, x, _, _ => by
    cases x
    exact ⟨[], trivial, fun a m => absurd m (by simp)⟩
  | .str s, _, x, _, _ => by
    cases x
    exact ⟨[], trivial, fun a m => absurd m (by simp)⟩
  | .bytes b, _, x, _, _ => by
    cases x
    exact ⟨[], trivial, fun a m => absurd m (by simp)⟩
  | .list ds, _, x, p, z => by
    obtain ⟨a, vs, rfl, ho, hall⟩ := well_list x
    have z2 : WData.weightAll ds ≤ 1048576 := z
    obtain ⟨A, h1, h2⟩ := area_all ds _ hall p fun d hd => Nat.le_trans (weight_mem hd) z2
    have k : ∀ b ∈ A, b ∈ a :: A := fun b hb => List.mem_cons_of_mem _ hb
    refine ⟨a :: A, List.mem_cons_self .., fun b hb => ?_⟩
    rcases List.mem_cons.mp hb with e | m
    · rw [e]
      exact ⟨vs, line_of (by rw [wellAll_len hall]; exact Nat.le_trans (PySem.W.length_le_weightAllW ds) z2), fun u hu => (h1 u hu).mono k, .inl ho⟩
    · exact (h2 b m).mono k
  | .tuple ds, _, x, p, z => by
    obtain ⟨a, vs, rfl, ho, hall⟩ := well_tuple x
    have z2 : WData.weightAll ds ≤ 1048576 := z
    obtain ⟨A, h1, h2⟩ := area_all ds _ hall p fun d hd => Nat.le_trans (weight_mem hd) z2
    have k : ∀ b ∈ A, b ∈ a :: A := fun b hb => List.mem_cons_of_mem _ hb
    refine ⟨a :: A, List.mem_cons_self .., fun b hb => ?_⟩
    rcases List.mem_cons.mp hb with e | m
    · rw [e]
      exact ⟨vs, line_of (by rw [wellAll_len hall]; exact Nat.le_trans (PySem.W.length_le_weightAllW ds) z2), fun u hu => (h1 u hu).mono k, .inr ho⟩
    · exact (h2 b m).mono k
  | .float _, _, _, p, _ => Bool.noConfusion (show false = true from p)
  | .dict _, _, _, p, _ => Bool.noConfusion (show false = true from p)
  | .bytearray _, _, _, p, _ => Bool.noConfusion (show false = true from p)
  | .set _, _, _, p, _ => Bool.noConfusion (show false = true from p)
  | .frozenset _, _, _, p, _ => Bool.noConfusion (show false = true from p)
  | .obj _ _, _, _, p, _ => Bool.noConfusion (show false = true from p)
theorem area_all : ∀ (ds : List WData) (vs : List Value), WellAll P h vs ds → plWs ds = true → (∀ d ∈ ds, d.weight ≤ 1048576) → ∃ A : List Addr, (∀ u ∈ vs, OkU A u) ∧ ∀ a ∈ A, ArgOb h A a
  | [], _, x, _, _ => by
    cases x
    exact ⟨[], fun u m => absurd m (by simp), fun a m => absurd m (by simp)⟩
  | d :: ds, _, x, p, z => by
    obtain ⟨v, vs, rfl, x1, x2⟩ := well_cons x
    have q : plW d = true ∧ plWs ds = true := Bool.and_eq_true_iff.mp p
    obtain ⟨A, a1, a2⟩ := area_one d v x1 q.1 (z d (List.mem_cons_self ..))
    obtain ⟨B, b1, b2⟩ := area_all ds vs x2 q.2 fun e he => z e (List.mem_cons_of_mem _ he)
    have kA : ∀ b ∈ A, b ∈ A ++ B := fun b hb => List.mem_append.mpr (.inl hb)
    have kB : ∀ b ∈ B, b ∈ A ++ B := fun b hb => List.mem_append.mpr (.inr hb)
    refine ⟨A ++ B, fun u hu => ?_, fun b hb => ?_⟩
    · rcases List.mem_cons.mp hu with e | m
      · rw [e]
        exact a1.mono kA
      · exact (b1 u m).mono kB
    · rcases List.mem_append.mp hb with m | m
      · exact (a2 b m).mono kA
      · exact (b2 b m).mono kB
end
end
def hoOf (o : Obj) : Option HO := match o.data with
  | .seq vs _ => if (o.cls == Value.type "list") = true then some (.frz o (.lst (vs.toList.map toV))) else some (.frz o (.tup (vs.toList.map toV)))
  | _ => none
def argH (K : PySem.W.Frag) (h : Heap) (A : List Addr) : Hp := fun b => if b ∈ A then (if (K.lookup b).isNone = true then (h.get? b).bind hoOf else none) else none
def OnlyF (H : Hp) : Prop := ∀ b, H b = none ∨ ∃ o u, H b = some (.frz o u)
theorem hoOf_lst (vs : List Value) : hoOf { cls := .type "list", data := .seq vs.toArray } = some (.frz { cls := .type "list", data := .seq vs.toArray } (.lst (vs.map toV))) := by
  show (if (Value.type "list" == Value.type "list") = true then some (HO.frz { cls := .type "list", data := .seq vs.toArray } (.lst (vs.toArray.toList.map toV))) else some (HO.frz { cls := .type "list", data := .seq vs.toArray } (.tup (vs.toArray.toList.map toV)))) = _
  rw [if_pos (beq_self_eq_true _)]
theorem hoOf_tup (vs : List Value) : hoOf { cls := .type "tuple", data := .seq vs.toArray } = some (.frz { cls := .type "tuple", data := .seq vs.toArray } (.tup (vs.map toV))) := by
  show (if (Value.type "tuple" == Value.type "list") = true then some (HO.frz { cls := .type "tuple", data := .seq vs.toArray } (.lst (vs.toArray.toList.map toV))) else some (HO.frz { cls := .type "tuple", data := .seq vs.toArray } (.tup (vs.toArray.toList.map toV)))) = _
  rw [if_neg (by decide)]
section
variable {P : Program} {w : World} {K : PySem.W.Frag} {h : Heap} {A : List Addr}
theorem argH_at {b : Addr} {o : Obj} (hb : b ∈ A) (hk : K.lookup b = none) (e : h.get? b = some o) : argH K h A b = hoOf o := by
  unfold argH
  rw [if_pos hb, hk, if_pos (show (none : Option Obj).isNone = true from rfl), e] <;> rfl
theorem of_argH {b : Addr} {u : HO} (q : argH K h A b = some u) : b ∈ A ∧ K.lookup b = none := by
  unfold argH at q
  by_cases hb : b ∈ A
  · rw [if_pos hb] at q
    cases hk : K.lookup b with
    | none => exact ⟨hb, rfl⟩
    | some o =>
      rw [hk, if_neg (by simp)] at q
      cases q
  · rw [if_neg hb] at q
    cases q
theorem argH_is (ar : ∀ a ∈ A, ArgOb h A a) {b : Addr} {u : HO} (q : argH K h A b = some u) : K.lookup b = none ∧ ∃ vs : List Value, vs.length ≤ sizeLine ∧ (∀ u ∈ vs, OkU A u) ∧
    ((h.get? b = some { cls := .type "list", data := .seq vs.toArray } ∧ u = .frz { cls := .type "list", data := .seq vs.toArray } (.lst (vs.map toV))) ∨
     (h.get? b = some { cls := .type "tuple", data := .seq vs.toArray } ∧ u = .frz { cls := .type "tuple", data := .seq vs.toArray } (.tup (vs.map toV)))) := by
  obtain ⟨hb, hk⟩ := of_argH q
  obtain ⟨vs, h1, h2, h3⟩ := ar b hb
  refine ⟨hk, vs, h1, h2, ?_⟩
  rcases h3 with e | e
  · rw [argH_at hb hk e, hoOf_lst] at q
    exact .inl ⟨e, (Option.some.inj q).symm⟩
  · rw [argH_at hb hk e, hoOf_tup] at q
    exact .inr ⟨e, (Option.some.inj q).symm⟩
theorem argH_only (ar : ∀ a ∈ A, ArgOb h A a) : OnlyF (argH K h A) := fun b => by
  cases q : argH K h A b with
  | none => exact .inl rfl
  | some u =>
    obtain ⟨_, vs, _, _, ⟨_, e⟩ | ⟨_, e⟩⟩ := argH_is ar q
    · exact .inr ⟨_, _, by rw [e]⟩
    · exact .inr ⟨_, _, by rw [e]⟩
theorem argH_ok (ar : ∀ a ∈ A, ArgOb h A a) : HOk P w (argH K h A) h := fun b u q => by
  obtain ⟨_, vs, h1, h2, ⟨e, rfl⟩ | ⟨e, rfl⟩⟩ := argH_is ar q
  · exact ⟨e, by rw [List.length_map]; exact h1, vs, _, vals_toV h2, e⟩
  · exact ⟨e, by rw [List.length_map]; exact h1, vs, vals_toV h2, _, e, rfl, _, rfl⟩
theorem seq_inj {c c' : Value} {vs us : List Value} (e : (some { cls := c, data := .seq vs.toArray } : Option Obj) = some { cls := c', data := .seq us.toArray }) : c = c' ∧ vs = us := by
  have e1 := Option.some.inj e
  have e2 : c = c' := congrArg Obj.cls e1
  have e3 : Data.seq vs.toArray = Data.seq us.toArray := congrArg Obj.data e1
  injection e3 with e4
  refine ⟨e2, ?_⟩
  have e5 := congrArg Array.toList e4
  simpa using e5
theorem argL (KX : K.In h) (ar : ∀ a ∈ A, ArgOb h A a) {a : Addr} {vs : List Value} (ha : a ∈ A) (e : h.get? a = some { cls := .type "list", data := .seq vs.toArray }) : (∀ u ∈ vs, OkU A u) ∧ SqL K (argH K h A) a (vs.map toV) := by
  obtain ⟨us, h1, h2, h3⟩ := ar a ha
  have hu : us = vs := by
    rcases h3 with q | q
    · rw [e] at q
      exact (seq_inj q).2.symm
    · rw [e] at q
      exact absurd (Value.type.inj (seq_inj q).1) (by decide)
  subst hu
  refine ⟨h2, ?_⟩
  cases hk : K.lookup a with
  | none => exact .inl (.inr ⟨_, by rw [argH_at ha hk e, hoOf_lst]⟩)
  | some o =>
    have e2 := KX a o hk
    rw [e] at e2
    obtain rfl := Option.some.inj e2
    exact .inr ⟨_, us.toArray, _, hk, rfl, rfl, rfl, by rw [List.size_toArray]; exact h1, by simpa using vals_toV h2⟩
theorem argT (KX : K.In h) (ar : ∀ a ∈ A, ArgOb h A a) {a : Addr} {vs : List Value} (ha : a ∈ A) (e : h.get? a = some { cls := .type "tuple", data := .seq vs.toArray }) : (∀ u ∈ vs, OkU A u) ∧ SqT K (argH K h A) a (vs.map toV) := by
  obtain ⟨us, h1, h2, h3⟩ := ar a ha
  have hu : us = vs := by
    rcases h3 with q | q
    · rw [e] at q
      exact absurd (Value.type.inj (seq_inj q).1) (by decide)
    · rw [e] at q
      exact (seq_inj q).2.symm
  subst hu
  refine ⟨h2, ?_⟩
  cases hk : K.lookup a with
  | none => exact .inl (.inr ⟨_, by rw [argH_at ha hk e, hoOf_tup]⟩)
  | some o =>
    have e2 := KX a o hk
    rw [e] at e2
    obtain rfl := Option.some.inj e2
    exact .inr ⟨_, us.toArray, _, hk, rfl, rfl, by rw [List.size_toArray]; exact h1, by simpa using vals_toV h2⟩
mutual
theorem dw_one {Pm : Params} (KX : K.In h) (ar : ∀ a ∈ A, ArgOb h A a) : ∀ (d : WData) (v : Value), Well Pm h v d → plW d = true → OkU A v → Dw K (argH K h A) (toV v) d
  | .none, _, x, _, _ => by
    cases x
    exact .non
  | .bool b, _, x, _, _ => by
    cases x
    exact .bl b
  | .int i, _, x, _, _ => by
    cases x
    exact .int i
  | .str s, _, x, _, _ => by
    cases x
    exact .str s
  | .bytes b, _, x, _, _ => by
    cases x
    have z := Dw.byt (K := K) (H := argH K h A) b.toArray
    exact z
  | .list ds, _, x, p, hu => by
    obtain ⟨a, vs, rfl, ho, hall⟩ := well_list x
    obtain ⟨h2, hs⟩ := argL KX ar hu ho
    exact .lst hs (dw_all KX ar ds _ hall p h2)
  | .tuple ds, _, x, p, hu => by
    obtain ⟨a, vs, rfl, ho, hall⟩ := well_tuple x
    obtain ⟨h2, hs⟩ := argT KX ar hu ho
    exact .tup hs (dw_all KX ar ds _ hall p h2)
  | .float _, _, _, p, _ => Bool.noConfusion (show false = true from p)
  | .dict _, _, _, p, _ => Bool.noConfusion (show false = true from p)
  | .bytearray _, _, _, p, _ => Bool.noConfusion (show false = true from p)
  | .set _, _, _, p, _ => Bool.noConfusion (show false = true from p)
  | .frozenset _, _, _, p, _ => Bool.noConfusion (show false = true from p)
  | .obj _ _, _, _, p, _ => Bool.noConfusion (show false = true from p)
theorem dw_all {Pm : Params} (KX : K.In h) (ar : ∀ a ∈ A, ArgOb h A a) : ∀ (ds : List WData) (vs : List Value), WellAll Pm h vs ds → plWs ds = true → (∀ u ∈ vs, OkU A u) → DwAll K (argH K h A) (vs.map toV) ds
  | [], _, x, _, _ => by
    cases x
    exact .nil
  | d :: ds, _, x, p, hu => by
    obtain ⟨v, vs, rfl, x1, x2⟩ := well_cons x
    have q : plW d = true ∧ plWs ds = true := Bool.and_eq_true_iff.mp p
    exact .cons (dw_one KX ar d v x1 q.1 (hu _ (List.mem_cons_self ..))) (dw_all KX ar ds vs x2 q.2 fun u m => hu u (List.mem_cons_of_mem _ m))
end
end
theorem spec_call {P : Program} {w : World} {K : PySem.W.Frag} {mg mb : Str → Option Value} {CX : CXT} {k : Nat} {fa : Addr} {fd : FuncData} {ps : List Str} {sp : Sp} {s₁ : Shared} {vals : List Value} {ds : List WData} {R : PySem.W.WRecords} {cl : Str → Option Addr} {d0 : WData}
    (KX : K.In s₁.heap) (hns : s₁.heap.Ns mainGlobals mg) (hb : s₁.heap.Ns builtinsNs mb) (hbb : ∀ x : Str, x ≠ "__name__" → mb x = bootBuiltins x) (hlim : s₁.heap.NoLimit) (hg : s₁.gens = #[])
    (hwl : WellAll w.params s₁.heap vals ds) (hpl : plWs ds = true) (hwt : ∀ d ∈ ds, d.weight ≤ 1048576) (hr : Room k callerA)
    (F : ∀ base : Heap, K.In base → base.Ns mainGlobals mg → FnOk P w K mg base CX k fa fd ps sp) (hbind : ∀ (s : Shared) (us : List Value), us.length = ps.length → BindsTo s fd ⟨us, []⟩ (ps.zip us)) (hlen : ds.length = ps.length)
    (hsp : ∀ (H : Hp) (xs : List V), OnlyF H → DwAll K H xs ds → sp xs H (fun v H' => Dw K H' v d0) fun _ _ _ => False)
    (hCX : ∀ H e s', CX [] H s₁ (fun _ _ _ => False) e s' → False) :
    codeAny (model P w) callerA (.call (.ref fa) ⟨vals, []⟩) (fun r s' => ∃ u as, r = .ok (.ret u) ∧ ReadsW R cl s'.heap u d0 as ∧ OldK s₁.heap s'.heap ∧ s'.os = s₁.os ∧ AllBare s'.gens) s₁ := by
  obtain ⟨A, ho, ar⟩ := area_all ds vals hwl hpl hwt
  have hO : OnlyF (argH K s₁.heap A) := argH_only ar
  have hok : HOk P w (argH K s₁.heap A) s₁.heap := argH_ok ar
  have hS := dw_all KX ar ds vals hwl hpl ho
  have hV := vals_toV ho
  have hK : ∀ b u, argH K s₁.heap A b = some u → K.lookup b = none := fun b u q => (argH_is ar q).1
  have noA : ∀ {b : Addr} {o : Obj} {es : Array DictEntry} {ep : Nat}, s₁.heap.get? b = some o → o.data = .dict es ep → argH K s₁.heap A b = none := fun {b o es ep} e d => by
    cases q : argH K s₁.heap A b with
    | none => rfl
    | some u =>
      obtain ⟨_, vs, _, _, ⟨e2, _⟩ | ⟨e2, _⟩⟩ := argH_is ar q
      · rw [e2] at e
        cases e
        have d' : Data.seq vs.toArray _ = Data.dict es ep := d
        cases d'
      · rw [e2] at e
        cases e
        have d' : Data.seq vs.toArray _ = Data.dict es ep := d
        cases d'
  generalize argH K s₁.heap A = H at hO hok hS hK noA
  have base_of : ∀ {b : Addr} {o : Obj}, s₁.heap.get? b = some o → H b = none → (hidT s₁.heap H).get? b = some o := fun e n => hidT_get e n
  have nsK : ∀ {b : Addr} {m : Str → Option Value}, s₁.heap.Ns b m → (hidT s₁.heap H).Ns b m := fun {b m} ⟨o, es, ep, e, d, r⟩ => ⟨o, es, ep, base_of e (noA e d), d, r⟩
  have nK : ∀ b o, K.lookup b = some o → H b = none := fun b o e => by
    cases q : H b with
    | none => rfl
    | some u =>
      rw [hK b u q] at e
      cases e
  have hKb : K.In (hidT s₁.heap H) := fun b o e => base_of (KX b o e) (nK b o e)
  have hM : Mod K mg (hidT s₁.heap H) := ⟨hKb, nsK hns, ⟨mb, nsK hb, hbb⟩, let ⟨mc, h1, h2⟩ := hlim; ⟨mc, nsK h1, h2⟩⟩
  have e0 : Env0 P w K mg (hidT s₁.heap H) callerA [] s₁ H := ⟨rfl, hM, fun b o e => of_hidT e, Nat.le_of_eq (hidT_size _ _), trivial, fun b hb => absurd (show b ∈ ([] : List Addr) from hb) (by simp), hok, .of_eq hg⟩
  have hl : vals.length = ps.length := by rw [wellAll_len hwl]; exact hlen
  refine codeAny_mono ((F _ hKb (nsK hns)).run callerA [] s₁ H ⟨vals, []⟩ vals (vals.map toV) _ _ hr e0 (hbind s₁ vals hl) hV (hsp H _ hO hS)) fun r s' x => ?_
  cases r with
  | error e => exact (hCX H e s' x).elim
  | ok fl =>
    cases fl with
    | next => exact False.elim x
    | brk => exact False.elim x
    | cont => exact False.elim x
    | ret u =>
      obtain ⟨v, H', os, bare, un, hok', r', q⟩ := x
      have kept : ∀ b o, s₁.heap.get? b = some o → s'.heap.get? b = some o := fun b o e => by
        cases q2 : H b with
        | none => exact un.keep b o e q2 (by intro z; exact absurd (show b ∈ ([] : List Addr) from z) (by simp)) (by simp)
        | some u2 =>
          rcases hO b with z | ⟨ob, u3, z⟩
          · rw [q2] at z
            cases z
          · have z2 := un.frzs b ob _ z
            obtain ⟨e1, _⟩ := hok b _ z
            obtain ⟨e2, _⟩ := hok' b _ z2
            rw [e] at e1
            cases e1
            exact e2
      have KX' : K.In s'.heap := fun b o e => kept b o (KX b o e)
      obtain ⟨as, hrd⟩ := Dw.reads (R := R) (cl := cl) hok' KX' d0 v u q r'
      exact ⟨u, as, rfl, hrd, OldK.of_keep kept, os, bare⟩
theorem layable_weight {ds : List WData} (h : WData.layableAll ds = true) : ∀ d ∈ ds, d.weight ≤ 1048576 := fun d hd =>
  (PySem.W.layableW_iff.mp (List.all_eq_true.mp h d hd)).2.2
theorem encAll_len : ∀ (cs : List Codec) (a : Codec.denoteAll cs), (Codec.encAll cs a).length = cs.length
  | [], _ => rfl
  | c :: cs, a => by
    show (Codec.encAll cs a.2).length + 1 = cs.length + 1
    rw [encAll_len cs a.2]
theorem walk_spec {r : OpenSpec} {k : Nat} {q : Program} {loose : List Str} {XP : (Str → Option Value) → Heap → Prop} {YP : World → Heap → Prop} {d : DefRec} {K : Params → PySem.W.Frag} {CX : World → CXT} {ps : List Str} {sp : World → Sp}
    (hwell : r.wellSaid = true) (hdf : d.params.defaults = []) (hlen : r.args.length = ps.length) (hr : Room k callerA)
    (hY : ∀ (w : World) (h : Heap), YP w h → (K w.params).In h)
    (F : ∀ (w : World) (mg : Str → Option Value) (fa : Addr) (h : Heap), YP w h → (K w.params).In h → h.Ns mainGlobals mg → mg d.name = some (.ref fa) →
      ∃ fd : FuncData, (∀ (s : Shared) (us : List Value), us.length = ps.length → BindsTo s fd ⟨us, []⟩ (ps.zip us)) ∧
        ∀ base : Heap, (K w.params).In base → base.Ns mainGlobals mg → FnOk r.prog w (K w.params) mg base (CX w) k fa fd ps (sp w))
    (hsp : ∀ (w : World) (H : Hp) (xs : List V) (a : Codec.denoteAll r.args), OnlyF H → Codec.withinAll r.args a = true → Codec.app r.args r.asked a = true → DwAll (K w.params) H xs (Codec.encAll r.args a) →
      sp w xs H (fun v H' => Dw (K w.params) H' v (r.ret.enc (Codec.app r.args r.f a))) fun _ _ _ => False)
    (hCX : ∀ (w : World) (H : Hp) (s : Shared) (e : Value) (s' : Shared), CX w [] H s (fun _ _ _ => False) e s' → False) :
    PySem.W.WalkOS q loose XP YP r d [] (fun f vs => PySem.call f vs) := by
  intro w s_0 s₁ mg mb G Y fa o pm cd doc dV kV ho hd hcd hD hmg hg args vals as hpre hlay hrd hwl hlo
  obtain ⟨a, e1, e2⟩ := PySem.W.os_pre_some hpre
  obtain ⟨e3, hwi⟩ := Codec.encAll_of_decAll r.args args a e1
  subst e3
  have KX := hY w _ Y
  obtain ⟨fd, hb, hF⟩ := F w mg fa _ Y KX G.T.g hmg
  refine PySem.W.enter_call (codeAny_mono (spec_call (R := []) (cl := classAt s_0.heap) (d0 := r.ret.enc (Codec.app r.args r.f a)) KX G.T.g G.T.b G.T.builtins G.T.nolimit hg hwl (pl_encAll _ _) (layable_weight hlay) hr hF hb (by rw [encAll_len]; exact hlen)
    (fun H xs hO hS => hsp w H xs a hO hwi e2 hS) fun H e s' => hCX w H s₁ e s') fun r' s' hq => ?_)
  obtain ⟨u, as', rfl, h1, h2, h3, h4⟩ := hq
  exact ⟨.inl ⟨u, _, as', rfl, fun _ => rfl, h1, (OpenSpec.post_iff hwell hwi _ _).mpr rfl, fun z => Bool.noConfusion (show false = true from z)⟩, h2, h3, h4⟩
theorem walk_specK {r : OpenSpec} {k : Nat} {q : Program} {loose : List Str} {XP : (Str → Option Value) → Heap → Prop} {YP : World → Heap → Prop} {d : DefRec} {K : Params → PySem.W.Frag} {CX : CXT} {ps : List Str} {sp : PySem.W.Frag → Sp}
    (hwell : r.wellSaid = true) (hdf : d.params.defaults = []) (hlen : r.args.length = ps.length) (hr : Room k callerA)
    (hY : ∀ (w : World) (h : Heap), YP w h → (K w.params).In h)
    (F : ∀ (w : World) (mg : Str → Option Value) (fa : Addr) (h : Heap), YP w h → (K w.params).In h → h.Ns mainGlobals mg → mg d.name = some (.ref fa) →
      ∃ fd : FuncData, (∀ (s : Shared) (us : List Value), us.length = ps.length → BindsTo s fd ⟨us, []⟩ (ps.zip us)) ∧
        ∀ base : Heap, (K w.params).In base → base.Ns mainGlobals mg → FnOk r.prog w (K w.params) mg base CX k fa fd ps (sp (K w.params)))
    (hsp : ∀ (K : PySem.W.Frag) (H : Hp) (xs : List V) (a : Codec.denoteAll r.args), OnlyF H → Codec.withinAll r.args a = true → Codec.app r.args r.asked a = true → DwAll K H xs (Codec.encAll r.args a) →
      sp K xs H (fun v H' => Dw K H' v (r.ret.enc (Codec.app r.args r.f a))) fun _ _ _ => False)
    (hCX : ∀ (H : Hp) (s : Shared) (e : Value) (s' : Shared), CX [] H s (fun _ _ _ => False) e s' → False) :
    PySem.W.WalkOS q loose XP YP r d [] (fun f vs => PySem.call f vs) :=
  walk_spec (K := K) (CX := fun _ => CX) (sp := fun w => sp (K w.params)) hwell hdf hlen hr hY F (fun w H xs a h1 h2 h3 h4 => hsp (K w.params) H xs a h1 h2 h3 h4) fun _ H s e s' => hCX H s e s'
end L2
end
set_option Elab.async false
set_option linter.all false
set_option maxRecDepth 100000
set_option exponentiation.threshold 4000
set_option maxHeartbeats 4000000
/-! WEAKEST READINGS over the hand layer: an expression, a test, a block by the value that it comes to. -/
namespace Hw
open PySem PySem.Spec PyProof.Rows L2

/-- what all defs of one program share -/
structure Mo where
  P : Program
  w : World
  K : PySem.W.Frag
  mg : Str → Option Value
  base : Heap

def WE (X : Cx) (e : Expr) : TE := fun σ H Q => ∃ t, PE X e t ∧ t σ H Q
theorem WE.pe {X : Cx} {e : Expr} : PE X e (WE X e) := fun pins s σ H Q I h => by
  obtain ⟨t, h1, h2⟩ := h
  exact h1 pins s σ H Q I h2
def WT (X : Cx) (e : Expr) : TT := fun σ H Q => ∃ t, PT X e t ∧ t σ H Q
theorem WT.pt {X : Cx} {e : Expr} : PT X e (WT X e) := fun pins s σ H Q I h => by
  obtain ⟨t, h1, h2⟩ := h
  exact h1 pins s σ H Q I h2
def WW (X : Cx) (e : Expr) : TT := fun σ H Q => ∃ t, PW X e t ∧ t σ H Q
theorem WW.pw {X : Cx} {e : Expr} : PW X e (WW X e) := fun wh pins s σ H Q I h => by
  obtain ⟨t, h1, h2⟩ := h
  exact h1 wh pins s σ H Q I h2
def WA (X : Cx) (es : List Expr) : TA := fun σ H Q => ∃ t, PA X es t ∧ t σ H Q
theorem WA.pa {X : Cx} {es : List Expr} : PA X es (WA X es) := fun pos pins s σ H Q I h => by
  obtain ⟨t, h1, h2⟩ := h
  exact h1 pos pins s σ H Q I h2
def WS (X : Cx) (st : Stmt) : TS := fun D σ H => ∃ t, PS X st t ∧ t D σ H
theorem WS.ps {X : Cx} {st : Stmt} : PS X st (WS X st) := fun pins s σ H D I h => by
  obtain ⟨t, h1, h2⟩ := h
  exact h1 pins s σ H D I h2
def WSs (X : Cx) (sts : List Stmt) : TS := fun D σ H => ∃ t, PSs X sts t ∧ t D σ H
theorem WSs.pss {X : Cx} {sts : List Stmt} : PSs X sts (WSs X sts) := fun pins s σ H D I h => by
  obtain ⟨t, h1, h2⟩ := h
  exact h1 pins s σ H D I h2

/-- the place where a body stands: the names of its slots, its scope, the room for calls -/
structure Cxo (M : Mo) (N : List Str) (sc : Scope) (k : Nat) (X : Cx) : Prop where
  prog : X.prog = M.P
  w : X.w = M.w
  K : X.K = M.K
  mg : X.mg = M.mg
  base : X.base = M.base
  nd : N.Nodup
  N : X.N = N
  sc : X.env.scope = sc
  calm : X.calm = true
  room : Room k X.A
  own : PassesOwn (model X.prog X.w) X.A X.env X.xe

/-- a def of the program with its promise, by its name -/
structure Fn (M : Mo) (k : Nat) (x : Str) (sp : Sp) : Prop where
  ex : ∃ f fd ps, FnOk M.P M.w M.K M.mg M.base CX0 k f fd ps sp ∧ M.mg x = some (.ref f) ∧ PySem.W.keepIn M.K (.ref f) = true ∧ Binds M.K fd ps []
/-- a def as it stands in the text -/
structure Df (K : PySem.W.Frag) (mg : Str → Option Value) (x : Str) (st : Stmt) (ps : List Str) : Prop where
  ex : ∃ f fd, Fun K x x st f fd ∧ mg x = some (.ref f) ∧ Binds K fd ps []
theorem df_mk {K : PySem.W.Frag} {h : Heap} {mg : Str → Option Value} {x : Str} {st : Stmt} {ps : List Str} {f : Addr} {od an : Option Addr} {sl : Array (Option Value)} {oc kV dc pm cd ct : Value} (X : K.In h) (G : h.Ns mainGlobals mg)
    (a : PySem.W.nsIn K mainGlobals x = some (some (.ref f))) (l : K.lookup f = some ⟨oc, od, .func (PySem.W.fnOf x x (defArgs st) (defBody st) (defScope st) .none kV dc pm an cd ct), sl⟩) (c : PySem.W.codeIn K cd x = true) (k : PySem.W.keepIn K (.ref f) = true)
    (h : ∀ (kV doc pm : Value) (an : Option Addr) (cdv ct : Value) (us : List Value), us.length = ps.length → bindArgs (PySem.W.fnOf x x (defArgs st) (defBody st) (defScope st) .none kV doc pm an cdv ct) ⟨us, []⟩ = pure (ps.zip us)) : Df K mg x st ps :=
  have F := fun_mk (st := st) l c k
  ⟨f, _, F, PySem.W.mg_of X G a, F.binds h⟩
theorem const_mk {K : PySem.W.Frag} {h : Heap} {mg : Str → Option Value} {x : Str} {z : Int} {t : Tok} (X : K.In h) (G : h.Ns mainGlobals mg) (a : PySem.W.nsIn K mainGlobals x = some (some (.int z t))) : ∃ t, mg x = some (.int z t) := ⟨t, PySem.W.mg_of X G a⟩
theorem fun_ok {M : Mo} {x : Str} {st : Stmt} {f : Addr} {fd : FuncData} {ps N : List Str} {k : Nat} {sp : Sp} (F : Fun M.K x x st f fd) (S : FnScope N ps (defScope st)) (len : ∀ vs H Q E, sp vs H Q E → vs.length = ps.length)
    (body : ∀ (X : Cx) (H : Hp) (vs : List V) (Q : VK) (E : XK), Cxo M N (defScope st) k X → sp vs H Q E → WSs X (defBody st) { nx := fun _ H' => Q .non H', rt := Q } (start N vs) H) : FnOk M.P M.w M.K M.mg M.base CX0 (k + 1) f fd ps sp := by
  refine F.ok S len (fun cdv A outer s H vs Q E hr h => ?_)
  exact ⟨_, WSs.pss, body _ H vs Q E ⟨rfl, rfl, rfl, rfl, rfl, S.nd, rfl, rfl, rfl, hr, PassesOwn.never⟩ h⟩
theorem Df.fn {M : Mo} {x : Str} {st : Stmt} {ps N : List Str} {k : Nat} {sp : Sp} (D : Df M.K M.mg x st ps) (S : FnScope N ps (defScope st)) (len : ∀ vs H Q E, sp vs H Q E → vs.length = ps.length)
    (body : ∀ (X : Cx) (H : Hp) (vs : List V) (Q : VK) (E : XK), Cxo M N (defScope st) k X → sp vs H Q E → WSs X (defBody st) { nx := fun _ H' => Q .non H', rt := Q } (start N vs) H) : Fn M (k + 1) x sp := by
  obtain ⟨f, fd, F, hm, hb⟩ := D.ex
  exact ⟨f, fd, ps, fun_ok F S len body, hm, F.kp, hb⟩

section
variable {X : Cx} {M : Mo} {N : List Str} {sc : Scope} {k : Nat} {σ : L2.St} {H : Hp}

def VE (X : Cx) (σ : L2.St) (H : Hp) (e : Expr) (v : V) : Prop := ∀ Q : VK, Q v H → WE X e σ H Q
def VT (X : Cx) (σ : L2.St) (H : Hp) (e : Expr) (b : Bool) : Prop := ∀ Q : Bool → Hp → Prop, Q b H → WT X e σ H Q
def VW (X : Cx) (σ : L2.St) (H : Hp) (e : Expr) (b : Bool) : Prop := ∀ Q : Bool → Hp → Prop, Q b H → WW X e σ H Q
def VA (X : Cx) (σ : L2.St) (H : Hp) (es : List Expr) (vs : List V) : Prop := ∀ Q : List V → Hp → Prop, Q vs H → WA X es σ H Q

variable {a b e o : Expr} {es rest : List Expr} {pos p : Pos} {i j : Int} {x y v : V} {q r : Bool} {vs : List V}

theorem ve_var (c : Cxo M N sc k X) (n : Nat) {x : Str} {v : V} (hN : N[n]? = some x) (hv : Vis sc x) (hd : (x == ("__debug__" : Str)) = false) (hcd : (x == ("__classdict__" : Str)) = false) (h : σ[n]? = some (some v)) : VE X σ H (.Name x pos) v :=
  fun Q q => ⟨_, pe_var (by rw [c.N]; exact hN) (by rw [c.sc]; exact hv) hd hcd, v, h, q⟩
theorem gl_of (c : Cxo M N sc k X) {x : Str} (hg : sc.names.lookup x = some .globalImplicit) : Gl X x := by
  show X.env.scope.names.lookup x = some .globalImplicit
  rw [c.sc]
  exact hg
theorem ve_glob (c : Cxo M N sc k X) {x : Str} {z : Int} (hg : sc.names.lookup x = some .globalImplicit) (hd : (x == ("__debug__" : Str)) = false) (h : ∃ t, M.mg x = some (.int z t)) : VE X σ H (.Name x pos) (.int z) := fun Q q => by
  obtain ⟨t, h⟩ := h
  exact ⟨_, pe_glob (v := .int z) (gl_of c hg) (by rw [c.mg]; exact h) ⟨t, rfl⟩ hd, q⟩
theorem ve_int {n : Nat} : VE X σ H (.Constant (.int i) n pos) (.int i) := fun Q q => ⟨_, pe_int, q⟩
theorem ve_bl {n : Nat} : VE X σ H (.Constant (.bool q) n pos) (.bl q) := fun Q q => ⟨_, pe_bl, q⟩
theorem ve_non {n : Nat} : VE X σ H (.Constant .none n pos) .non := fun Q q => ⟨_, pe_non, q⟩

theorem ve_op {op : Operator} {rr : R2} (ho : OpR X (binaryOp op) rr) (ha : VE X σ H a x) (hb : VE X σ H b y) (hr : ∀ Q : VK, Q v H → rr x y H Q) : VE X σ H (.BinOp a op b pos) v :=
  fun Q q => ⟨_, pe_op ho WE.pe WE.pe, ha _ (hb _ (hr Q q))⟩
theorem ve_add (ha : VE X σ H a (.int i)) (hb : VE X σ H b (.int j)) : VE X σ H (.BinOp a .Add b pos) (.int (i + j)) := ve_op op_add ha hb fun _ q => ⟨_, _, rfl, rfl, q⟩
theorem ve_sub (ha : VE X σ H a (.int i)) (hb : VE X σ H b (.int j)) : VE X σ H (.BinOp a .Sub b pos) (.int (i - j)) := ve_op op_sub ha hb fun _ q => ⟨_, _, rfl, rfl, q⟩
theorem ve_mul (ha : VE X σ H a (.int i)) (hb : VE X σ H b (.int j)) (hc : CMul i j) : VE X σ H (.BinOp a .Mult b pos) (.int (i * j)) := ve_op op_mul ha hb fun _ q => ⟨_, _, rfl, rfl, hc, q⟩
theorem ve_and (ha : VE X σ H a (.int i)) (hb : VE X σ H b (.int j)) : VE X σ H (.BinOp a .BitAnd b pos) (.int (Builtin.bitAnd i j)) := ve_op op_and ha hb fun _ q => ⟨_, _, rfl, rfl, q⟩
theorem ve_or (ha : VE X σ H a (.int i)) (hb : VE X σ H b (.int j)) : VE X σ H (.BinOp a .BitOr b pos) (.int (Builtin.bitOr i j)) := ve_op op_or ha hb fun _ q => ⟨_, _, rfl, rfl, q⟩
theorem ve_xor (ha : VE X σ H a (.int i)) (hb : VE X σ H b (.int j)) : VE X σ H (.BinOp a .BitXor b pos) (.int (Builtin.bitXor i j)) := ve_op op_xor ha hb fun _ q => ⟨_, _, rfl, rfl, q⟩
theorem ve_shr (ha : VE X σ H a (.int i)) (hb : VE X σ H b (.int j)) (hc : 0 ≤ j) : VE X σ H (.BinOp a .RShift b pos) (.int (i / 2 ^ j.toNat)) := ve_op op_shr ha hb fun _ q => ⟨_, _, rfl, rfl, hc, q⟩
/-- shifts of numbers up to a thousand bits -/
def CShl (i j : Int) : Prop := 0 ≤ j ∧ j ≤ 3000 ∧ i.natAbs < 2 ^ 3000
theorem bits_lt {i : Int} {n : Nat} (h : i.natAbs < 2 ^ n) : (Builtin.Int.intBits i : Int) ≤ n := by
  have : Builtin.Int.intBits i ≤ n := by
    unfold Builtin.Int.intBits
    by_cases h0 : i = 0
    · rw [if_pos (by simpa using h0)]
      exact Nat.zero_le _
    · rw [if_neg (by simpa using h0)]
      exact (Nat.log2_lt (by omega)).mpr h
  omega
theorem op_shlB : OpR X (binaryOp .LShift) (rI CShl fun i j => .int (i * 2 ^ j.toNat)) := opI fun i j _ _ _ _ _ hc q => by
  have h1 := bits_lt hc.2.2
  have h2 := hc.2.1
  have h3 : ((3000 : Nat) : Int) = 3000 := rfl
  exact lshift_int hc.1 (by rw [h3] at h1; have : (2 : Int) ^ 27 = 134217728 := by decide
                            rw [this]; omega) q
theorem ve_shl (ha : VE X σ H a (.int i)) (hb : VE X σ H b (.int j)) (hc : CShl i j) : VE X σ H (.BinOp a .LShift b pos) (.int (i * 2 ^ j.toNat)) := ve_op op_shlB ha hb fun _ q => ⟨_, _, rfl, rfl, hc, q⟩
/-- // by a positive number up to a thousand bits -/
def CFd (j : Int) : Prop := 0 < j ∧ j < 2 ^ 1000
theorem op_fdB : OpR X (binaryOp .FloorDiv) (rI (fun _ j => CFd j) fun i j => .int (i / j)) := opI fun i j _ _ _ _ _ hc q => by
  have h1 : (0 : Int) < j := hc.1
  refine floordiv_int (by omega) (by rw [Int.fdiv_eq_ediv_of_nonneg i (by omega)]; exact q) (.inl (PyProof.noPylong_of_log2 ?_))
  have h2 : j.natAbs < 2 ^ 1000 := by
    have := hc.2
    have e : (2 : Int) ^ 1000 = ((2 ^ 1000 : Nat) : Int) := (Int.natCast_pow 2 1000).symm
    rw [e] at this
    omega
  exact Nat.lt_of_lt_of_le ((Nat.log2_lt (by omega)).mpr h2) (by decide)
theorem ve_fdiv (ha : VE X σ H a (.int i)) (hb : VE X σ H b (.int j)) (hc : CFd j) : VE X σ H (.BinOp a .FloorDiv b pos) (.int (i / j)) := ve_op op_fdB ha hb fun _ q => ⟨_, _, rfl, rfl, hc, q⟩
theorem ve_neg (ha : VE X σ H a (.int i)) : VE X σ H (.UnaryOp .USub a pos) (.int (-i)) := fun Q q => ⟨_, pe_un un_neg WE.pe, ha _ ⟨i, rfl, q⟩⟩

/-! comparisons as values and as tests -/
theorem ve_cmp {op : CmpOp} {rr : R2} (ho : OpR X (compareOp op) rr) (ha : VE X σ H a x) (hb : VE X σ H b y) (hm : behindInMarks op b = false) (hr : ∀ Q : VK, Q v H → rr x y H Q) : VE X σ H (.Compare a [op] [b] pos) v :=
  fun Q q => ⟨_, pe_cmpR ho WE.pe WE.pe hm, ha _ (hb _ (hr Q q))⟩
theorem ve_lt (ha : VE X σ H a (.int i)) (hb : VE X σ H b (.int j)) : VE X σ H (.Compare a [.Lt] [b] pos) (.bl (decide (i < j))) := ve_cmp op_lt ha hb (nobehind _ (by decide) (by decide)) fun _ q => ⟨_, _, rfl, rfl, q⟩
theorem ve_le (ha : VE X σ H a (.int i)) (hb : VE X σ H b (.int j)) : VE X σ H (.Compare a [.LtE] [b] pos) (.bl (decide (i ≤ j))) := ve_cmp op_le ha hb (nobehind _ (by decide) (by decide)) fun _ q => ⟨_, _, rfl, rfl, q⟩
theorem ve_gt (ha : VE X σ H a (.int i)) (hb : VE X σ H b (.int j)) : VE X σ H (.Compare a [.Gt] [b] pos) (.bl (decide (j < i))) := ve_cmp op_gt ha hb (nobehind _ (by decide) (by decide)) fun _ q => ⟨_, _, rfl, rfl, q⟩
theorem ve_ge (ha : VE X σ H a (.int i)) (hb : VE X σ H b (.int j)) : VE X σ H (.Compare a [.GtE] [b] pos) (.bl (decide (j ≤ i))) := ve_cmp op_ge ha hb (nobehind _ (by decide) (by decide)) fun _ q => ⟨_, _, rfl, rfl, q⟩
theorem ve_eqI (ha : VE X σ H a (.int i)) (hb : VE X σ H b (.int j)) : VE X σ H (.Compare a [.Eq] [b] pos) (.bl (decide (i = j))) :=
  fun Q q => ⟨_, pe_cmp (pc_eqI WE.pe WE.pe) (nobehind _ (by decide) (by decide)), ha _ (hb _ ⟨_, _, rfl, rfl, q⟩)⟩
theorem ve_neI (ha : VE X σ H a (.int i)) (hb : VE X σ H b (.int j)) : VE X σ H (.Compare a [.NotEq] [b] pos) (.bl (!decide (i = j))) :=
  fun Q q => ⟨_, pe_cmp (pc_neI WE.pe WE.pe) (nobehind _ (by decide) (by decide)), ha _ (hb _ ⟨_, _, rfl, rfl, q⟩)⟩
theorem ve_eqB (ha : VE X σ H a (.bl q)) (hb : VE X σ H b (.bl r)) : VE X σ H (.Compare a [.Eq] [b] pos) (.bl (q == r)) :=
  ve_cmp op_eq ha hb (nobehind _ (by decide) (by decide)) fun Q h => ⟨rfl, by rw [dec_bl]; exact h⟩
theorem ve_neB (ha : VE X σ H a (.bl q)) (hb : VE X σ H b (.bl r)) : VE X σ H (.Compare a [.NotEq] [b] pos) (.bl (q != r)) :=
  ve_cmp op_ne ha hb (nobehind _ (by decide) (by decide)) fun Q h => ⟨rfl, by rw [dec_bl]; exact h⟩
/-- a comparison whose value is a bool, as a test -/
theorem vt_cmpV {op : CmpOp} {rr : R2} (ho : OpR X (compareOp op) rr) (ha : VE X σ H a x) (hb : VE X σ H b y) (hm : behindInMarks op b = false) (hr : ∀ Q : VK, Q (.bl q) H → rr x y H Q) : VT X σ H (.Compare a [op] [b] pos) q :=
  fun Q h => ⟨_, pt_cmpR ho WE.pe WE.pe hm, ha _ (hb _ (hr _ ⟨q, rfl, h⟩))⟩
theorem vt_lt (ha : VE X σ H a (.int i)) (hb : VE X σ H b (.int j)) : VT X σ H (.Compare a [.Lt] [b] pos) (decide (i < j)) := vt_cmpV op_lt ha hb (nobehind _ (by decide) (by decide)) fun _ q => ⟨_, _, rfl, rfl, q⟩
theorem vt_le (ha : VE X σ H a (.int i)) (hb : VE X σ H b (.int j)) : VT X σ H (.Compare a [.LtE] [b] pos) (decide (i ≤ j)) := vt_cmpV op_le ha hb (nobehind _ (by decide) (by decide)) fun _ q => ⟨_, _, rfl, rfl, q⟩
theorem vt_gt (ha : VE X σ H a (.int i)) (hb : VE X σ H b (.int j)) : VT X σ H (.Compare a [.Gt] [b] pos) (decide (j < i)) := vt_cmpV op_gt ha hb (nobehind _ (by decide) (by decide)) fun _ q => ⟨_, _, rfl, rfl, q⟩
theorem vt_ge (ha : VE X σ H a (.int i)) (hb : VE X σ H b (.int j)) : VT X σ H (.Compare a [.GtE] [b] pos) (decide (j ≤ i)) := vt_cmpV op_ge ha hb (nobehind _ (by decide) (by decide)) fun _ q => ⟨_, _, rfl, rfl, q⟩
theorem vt_eqI (ha : VE X σ H a (.int i)) (hb : VE X σ H b (.int j)) : VT X σ H (.Compare a [.Eq] [b] pos) (decide (i = j)) :=
  fun Q q => ⟨_, pt_cmp (pc_eqI WE.pe WE.pe) (nobehind _ (by decide) (by decide)), ha _ (hb _ ⟨_, _, rfl, rfl, _, rfl, q⟩)⟩
theorem vt_neI (ha : VE X σ H a (.int i)) (hb : VE X σ H b (.int j)) : VT X σ H (.Compare a [.NotEq] [b] pos) (!decide (i = j)) :=
  fun Q q => ⟨_, pt_cmp (pc_neI WE.pe WE.pe) (nobehind _ (by decide) (by decide)), ha _ (hb _ ⟨_, _, rfl, rfl, _, rfl, q⟩)⟩
theorem vt_eqB (ha : VE X σ H a (.bl q)) (hb : VE X σ H b (.bl r)) : VT X σ H (.Compare a [.Eq] [b] pos) (q == r) :=
  vt_cmpV op_eq ha hb (nobehind _ (by decide) (by decide)) fun Q h => ⟨rfl, by rw [dec_bl]; exact h⟩
theorem vt_neB (ha : VE X σ H a (.bl q)) (hb : VE X σ H b (.bl r)) : VT X σ H (.Compare a [.NotEq] [b] pos) (q != r) :=
  vt_cmpV op_ne ha hb (nobehind _ (by decide) (by decide)) fun Q h => ⟨rfl, by rw [dec_bl]; exact h⟩
/-- any other expression whose value is a bool -/
theorem vt_val (h : VE X σ H e (.bl q)) (he : ∀ env whole, isTrue e env whole = (do let v ← whole; standAt e.pos; holding [v] (truthy v))) : VT X σ H e q :=
  fun Q z => ⟨_, pt_val WE.pe (he _), h _ ⟨q, rfl, z⟩⟩

/-! and, or, not, if -/
theorem vw_and1 (ha : VT X σ H a q) : VW X σ H (.BoolOp .And [a] pos) q := fun Q z => ⟨_, pw_and1 WT.pt, ha _ z⟩
theorem vw_or1 (ha : VT X σ H a q) : VW X σ H (.BoolOp .Or [a] pos) q := fun Q z => ⟨_, pw_or1 WT.pt, ha _ z⟩
theorem vw_and (ha : VT X σ H a q) (hb : q = true → VW X σ H (.BoolOp .And (b :: rest) pos) r) : VW X σ H (.BoolOp .And (a :: b :: rest) pos) (q && r) := fun Q z => by
  refine ⟨_, pw_and WT.pt WW.pw, ha _ ?_⟩
  cases q with
  | true => exact hb rfl _ z
  | false => exact z
theorem vw_or (ha : VT X σ H a q) (hb : q = false → VW X σ H (.BoolOp .Or (b :: rest) pos) r) : VW X σ H (.BoolOp .Or (a :: b :: rest) pos) (q || r) := fun Q z => by
  refine ⟨_, pw_or WT.pt WW.pw, ha _ ?_⟩
  cases q with
  | true => exact z
  | false => exact hb rfl _ z
theorem vt_w (h : VW X σ H e q) : VT X σ H e q := fun Q z => ⟨_, WW.pw.pt, h _ z⟩
theorem vt_not (ha : VT X σ H a q) : VT X σ H (.UnaryOp .Not a pos) (!q) := fun Q z => ⟨_, pt_not WT.pt, ha _ z⟩
theorem ve_one {op : BoolOp} (h : VE X σ H a v) : VE X σ H (.BoolOp op [a] pos) v := fun Q z => ⟨_, pe_one WE.pe, h _ z⟩
theorem ve_andV (ha : VE X σ H a (.bl q)) (hb : q = true → VE X σ H (.BoolOp .And (b :: rest) pos) (.bl r)) : VE X σ H (.BoolOp .And (a :: b :: rest) pos) (.bl (q && r)) := fun Q z => by
  refine ⟨_, pe_and WE.pe WE.pe, ha _ ⟨q, rfl, ?_⟩⟩
  cases q with
  | true => exact hb rfl _ z
  | false => exact z
theorem ve_orV (ha : VE X σ H a (.bl q)) (hb : q = false → VE X σ H (.BoolOp .Or (b :: rest) pos) (.bl r)) : VE X σ H (.BoolOp .Or (a :: b :: rest) pos) (.bl (q || r)) := fun Q z => by
  refine ⟨_, pe_or WE.pe WE.pe, ha _ ⟨q, rfl, ?_⟩⟩
  cases q with
  | true => exact z
  | false => exact hb rfl _ z
theorem ve_not (ha : VE X σ H a (.bl q)) : VE X σ H (.UnaryOp .Not a pos) (.bl (!q)) := fun Q z => ⟨_, pe_not WE.pe, ha _ ⟨q, rfl, z⟩⟩
theorem ve_ifI {t : Expr} (ht : VT X σ H t q) (ha : q = true → VE X σ H a (.int i)) (hb : q = false → VE X σ H b (.int j)) : VE X σ H (.IfExp t a b pos) (.int (bif q then i else j)) := fun Q z => by
  refine ⟨_, pe_ifExp WT.pt WE.pe WE.pe, ht _ ?_⟩
  cases q with
  | true => exact ha rfl _ z
  | false => exact hb rfl _ z
theorem ve_ifB {t : Expr} {l m : Bool} (ht : VT X σ H t q) (ha : q = true → VE X σ H a (.bl l)) (hb : q = false → VE X σ H b (.bl m)) : VE X σ H (.IfExp t a b pos) (.bl (bif q then l else m)) := fun Q z => by
  refine ⟨_, pe_ifExp WT.pt WE.pe WE.pe, ht _ ?_⟩
  cases q with
  | true => exact ha rfl _ z
  | false => exact hb rfl _ z

/-! argument lists -/
def notStar : Expr → Bool
  | .Starred _ _ => false
  | _ => true
theorem star_cons (h : notStar e = true) (es : List Expr) (env : Env) : starEach (e :: es) env = (false, eval e env) :: starEach es env := by
  cases e <;> first | rfl | cases h
theorem star_all : ∀ (es : List Expr) (pos : Pos) (env : Env), es.all notStar = true → (backTo pos (starEach es env)).any (·.1) = false
  | [], _, _, _ => rfl
  | e :: es, pos, env, h => by
    rw [List.all_cons, Bool.and_eq_true] at h
    rw [star_cons h.1]
    show (false || (backTo pos (starEach es env)).any (·.1)) = false
    rw [star_all es pos env h.2]
    rfl
theorem va_nil : VA X σ H [] [] := fun Q z => ⟨_, pa_nil, z⟩
theorem va_cons (hs : notStar e = true) (h : VE X σ H e v) (hr : VA X σ H es vs) : VA X σ H (e :: es) (v :: vs) :=
  fun Q z => ⟨_, pa_cons WE.pe WA.pa (star_cons hs _ _), h _ (hr _ z)⟩

/-! calls of the program's own defs -/
theorem we_call {x : Str} {sp : Sp} {n : Nat} {Q : VK} (c : Cxo M N sc k X) (F : Fn M n x sp) (hn : n ≤ k) (hg : sc.names.lookup x = some .globalImplicit) (hd : (x == ("__debug__" : Str)) = false) (hs : (e :: es).all notStar = true)
    (ha : WA X (e :: es) σ H fun vs H1 => sp vs H1 Q E0) : WE X (.Call (.Name x p) (e :: es) [] pos) σ H Q := by
  obtain ⟨f, fd, ps, F, hm, hk, hb⟩ := F.ex
  rw [List.all_cons, Bool.and_eq_true] at hs
  refine ⟨_, pe_call (X := X) (CX := CX0) (E := E0) (ds := []) (dvs := []) (t := WA X (e :: es)) (ps := ps) (fd := fd) (sp := sp) (f := f) (k := n) ?_ (c.room.mono hn) (gl_of c hg) ?_ ?_ ?_ .nil pass0 WA.pa hd (star_cons hs.1 _ _) (star_all _ _ _ hs.2), ?_⟩
  · rw [c.prog, c.w, c.K, c.mg, c.base]
    exact F
  · rw [c.mg]
    exact hm
  · rw [c.K]
    exact hk
  · rw [c.K]
    exact hb
  · obtain ⟨t, h1, h2⟩ := ha
    refine ⟨t, h1, ?_⟩
    have e : (fun vs H1 => sp (vs ++ []) H1 Q E0) = fun vs H1 => sp vs H1 Q E0 := by
      funext vs H1
      rw [List.append_nil]
    show t σ H fun vs H1 => sp (vs ++ []) H1 Q E0
    rw [e]
    exact h2
theorem we_call0 {x : Str} {sp : Sp} {n : Nat} {Q : VK} (c : Cxo M N sc k X) (F : Fn M n x sp) (hn : n ≤ k) (hg : sc.names.lookup x = some .globalImplicit) (hd : (x == ("__debug__" : Str)) = false)
    (ha : sp [] H Q E0) : WE X (.Call (.Name x p) [] [] pos) σ H Q := by
  obtain ⟨f, fd, ps, F, hm, hk, hb⟩ := F.ex
  refine ⟨_, pe_call0 (X := X) (CX := CX0) (E := E0) (ds := []) (dvs := []) (ps := ps) (fd := fd) (sp := sp) (f := f) (k := n) ?_ (c.room.mono hn) (gl_of c hg) ?_ ?_ ?_ .nil pass0 hd, ?_⟩
  · rw [c.prog, c.w, c.K, c.mg, c.base]
    exact F
  · rw [c.mg]
    exact hm
  · rw [c.K]
    exact hk
  · rw [c.K]
    exact hb
  · exact ha
/-- a def that only works a value out: den says which, and for which arguments -/
def spP (den : List V → V → Prop) : Sp := fun vs H Q _ => ∃ v, den vs v ∧ Q v H
theorem ve_call {x : Str} {den : List V → V → Prop} {n : Nat} (c : Cxo M N sc k X) (F : Fn M n x (spP den)) (hn : n ≤ k) (hg : sc.names.lookup x = some .globalImplicit) (hd : (x == ("__debug__" : Str)) = false) (hs : (e :: es).all notStar = true)
    (ha : VA X σ H (e :: es) vs) (h : den vs v) : VE X σ H (.Call (.Name x p) (e :: es) [] pos) v :=
  fun Q q => we_call c F hn hg hd hs (ha _ ⟨v, h, q⟩)
/-! builtins -/
theorem ve_callB {x : Str} {id : String} {r : List V → Hp → VK → Prop} (c : Cxo M N sc k X) (hc : CallR X (.builtin id) r) (hg : sc.names.lookup x = some .globalImplicit) (hm : M.mg x = none) (hv : bootBuiltins x = some (.builtin id)) (hn : x ≠ "__name__") (hd : (x == ("__debug__" : Str)) = false) (hs : (e :: es).all notStar = true)
    (ha : VA X σ H (e :: es) vs) (h : ∀ Q : VK, Q v H → r vs H Q) : VE X σ H (.Call (.Name x p) (e :: es) [] pos) v := fun Q q => by
  rw [List.all_cons, Bool.and_eq_true] at hs
  exact ⟨_, pe_callB hc (gl_of c hg) (by rw [c.mg]; exact hm) hv WA.pa hn hd (star_cons hs.1 _ _) (star_all _ _ _ hs.2), ha _ (h _ q)⟩
theorem ve_abs (c : Cxo M N sc k X) (hg : sc.names.lookup ("abs" : Str) = some .globalImplicit) (hm : M.mg "abs" = none) (hs : ([e] : List Expr).all notStar = true) (ha : VE X σ H e (.int i)) : VE X σ H (.Call (.Name "abs" p) [e] [] pos) (.int (if i < 0 then -i else i)) :=
  ve_callB c call_abs hg hm boot_abs (by decide) (by decide) hs (va_cons (by simpa using hs) ha va_nil) fun Q q => ⟨i, rfl, q⟩
theorem ve_max (c : Cxo M N sc k X) (hg : sc.names.lookup ("max" : Str) = some .globalImplicit) (hm : M.mg "max" = none) (hs : ([a, b] : List Expr).all notStar = true) (ha : VE X σ H a (.int i)) (hb : VE X σ H b (.int j)) : VE X σ H (.Call (.Name "max" p) [a, b] [] pos) (.int (if j > i then j else i)) := by
  have hs' := hs
  rw [List.all_cons, Bool.and_eq_true] at hs'
  exact ve_callB c (call_max2 c.calm) hg hm boot_max (by decide) (by decide) hs (va_cons hs'.1 ha (va_cons (by simpa using hs'.2) hb va_nil)) fun Q q => ⟨i, j, rfl, q⟩
theorem ve_min (c : Cxo M N sc k X) (hg : sc.names.lookup ("min" : Str) = some .globalImplicit) (hm : M.mg "min" = none) (hs : ([a, b] : List Expr).all notStar = true) (ha : VE X σ H a (.int i)) (hb : VE X σ H b (.int j)) : VE X σ H (.Call (.Name "min" p) [a, b] [] pos) (.int (if j < i then j else i)) := by
  have hs' := hs
  rw [List.all_cons, Bool.and_eq_true] at hs'
  exact ve_callB c (call_min2 c.calm) hg hm boot_min (by decide) (by decide) hs (va_cons hs'.1 ha (va_cons (by simpa using hs'.2) hb va_nil)) fun Q q => ⟨i, j, rfl, q⟩
theorem mt_bitlen : MtR X "int.bit_length" (fun x xs H Q => ∃ i : Int, x = .int i ∧ xs = [] ∧ Q (.int (Builtin.Int.intBits i : Nat)) H) := by
  intro pins s σ H x xs v us Q I rx rs h
  obtain ⟨i, rfl, rfl, q⟩ := h
  obtain ⟨t, rfl⟩ := rx
  cases rs
  exact call_int_bit_length ⟨.int (Builtin.Int.intBits i : Nat), H, I.tok _, ⟨_, rfl⟩, q⟩
theorem ve_bitlen {ap cp : Pos} (ho : VE X σ H o (.int i)) (hbase : ∀ env, attributeBase o "bit_length" env (eval o env) = eval o env) (hline : (ap.endLine == cp.line) = true) : VE X σ H (.Call (.Attribute o "bit_length" ap) [] [] cp) (.int (Builtin.Int.intBits i : Nat)) :=
  fun Q q => ⟨_, pe_bm0 (T := "int") PySem.F.plainAttrs_int slot_int_bit_length type_int_bit_length mt_bitlen WE.pe (hbase _) hline, ho _ ⟨rfl, i, rfl, rfl, q⟩⟩
/-- an item of a list, of a tuple -/
theorem ve_ixL {l : Addr} {xs : List V} (ho : VE X σ H o (.ref l)) (hi : VE X σ H e (.int i)) (hs : PlainIx e) (hl : SqL X.K H l xs) (hv : atI xs i = some v) : VE X σ H (.Subscript o e pos) v :=
  fun Q q => ⟨_, pe_ix ix_list WE.pe WE.pe hs, ho _ (hi _ ⟨l, xs, i, v, rfl, rfl, hl, hv, q⟩)⟩

/-! ### blocks that hand a value back and leave the heap as it is -/
def Rp (X : Cx) (σ : L2.St) (H : Hp) (sts : List Stmt) (v : V) : Prop := ∀ D : Ends, D.rt v H → WSs X sts D σ H
variable {sts body : List Stmt} {sp' : Pos}
theorem rp_ret (h : VE X σ H e v) : Rp X σ H [.Return (some e) pos] v := fun D z => ⟨_, pss_one (ps_ret WE.pe), h _ z⟩
theorem rp_ifI {t : Expr} (ht : VT X σ H t q) (ha : q = true → Rp X σ H body (.int i)) (hb : q = false → Rp X σ H sts (.int j)) : Rp X σ H (.If t body [] pos :: sts) (.int (bif q then i else j)) := fun D z => by
  refine ⟨_, pss_cons (ps_if WT.pt WSs.pss pss_nil) WSs.pss, ht _ ?_⟩
  cases q with
  | true => exact ha rfl _ z
  | false => exact hb rfl _ z
theorem rp_ifB {t : Expr} {l m : Bool} (ht : VT X σ H t q) (ha : q = true → Rp X σ H body (.bl l)) (hb : q = false → Rp X σ H sts (.bl m)) : Rp X σ H (.If t body [] pos :: sts) (.bl (bif q then l else m)) := fun D z => by
  refine ⟨_, pss_cons (ps_if WT.pt WSs.pss pss_nil) WSs.pss, ht _ ?_⟩
  cases q with
  | true => exact ha rfl _ z
  | false => exact hb rfl _ z
theorem ws_set {x : Str} {D : Ends} (c : Cxo M N sc k X) (n : Nat) (hN : N[n]? = some x) (hl : sc.names.lookup x = some .local) (hw : ∀ env, swapsWith e (some (.Name x p)) pos.line env = pure false) (h : WE X e σ H fun v H1 => D.nx (σ.set n (some v)) H1) : WS X (.Assign [.Name x p] e pos) D σ H :=
  ⟨_, ps_set (i := n) (by rw [c.N]; exact c.nd) (by rw [c.N]; exact hN) (by rw [c.sc]; exact .inl hl) WE.pe (hw _) (.inr (by rw [c.sc]; exact hl)), h⟩
theorem rp_set {x : Str} (c : Cxo M N sc k X) (n : Nat) (hN : N[n]? = some x) (hl : sc.names.lookup x = some .local) (hw : ∀ env, swapsWith e (some (.Name x p)) pos.line env = pure false) (h : VE X σ H e v) {u : V} (hr : Rp X (σ.set n (some v)) H sts u) : Rp X σ H (.Assign [.Name x p] e pos :: sts) u :=
  fun D z => ⟨_, pss_cons WS.ps WSs.pss, ws_set c n hN hl hw (h _ (hr D z))⟩

/-! ### statements that come to their end, the heap as it is -/
def NS (X : Cx) (σ : L2.St) (H : Hp) (st : Stmt) (σ' : L2.St) : Prop := ∀ D : Ends, D.nx σ' H → WS X st D σ H
def Nx (X : Cx) (σ : L2.St) (H : Hp) (sts : List Stmt) (σ' : L2.St) : Prop := ∀ D : Ends, D.nx σ' H → WSs X sts D σ H
variable {st : Stmt} {σ1 σ' : L2.St}
theorem nx_nil : Nx X σ H [] σ := fun D z => ⟨_, pss_nil, z⟩
theorem nx_cons (h : NS X σ H st σ1) (hr : Nx X σ1 H sts σ') : Nx X σ H (st :: sts) σ' := fun D z => ⟨_, pss_cons WS.ps WSs.pss, h _ (hr D z)⟩
theorem rp_cons (h : NS X σ H st σ1) (hr : Rp X σ1 H sts v) : Rp X σ H (st :: sts) v := fun D z => ⟨_, pss_cons WS.ps WSs.pss, h _ (hr D z)⟩
theorem ns_set {x : Str} (c : Cxo M N sc k X) (n : Nat) (hN : N[n]? = some x) (hl : sc.names.lookup x = some .local) (hw : ∀ env, swapsWith e (some (.Name x p)) pos.line env = pure false) (h : VE X σ H e v) : NS X σ H (.Assign [.Name x p] e pos) (σ.set n (some v)) :=
  fun D z => ws_set c n hN hl hw (h _ z)
theorem ns_if {t : Expr} (ht : VT X σ H t q) (ha : q = true → Nx X σ H body σ1) (hb : q = false → σ = σ1) : NS X σ H (.If t body [] pos) σ1 := fun D z => by
  refine ⟨_, ps_if WT.pt WSs.pss pss_nil, ht _ ?_⟩
  cases q with
  | true => exact ha rfl _ z
  | false =>
    have e := hb rfl
    subst e
    exact z
theorem ns_ifI {t : Expr} {x : Str} {p2 : Pos} (c : Cxo M N sc k X) (n : Nat) (hN : N[n]? = some x) (hl : sc.names.lookup x = some .local) (hw : ∀ env, swapsWith e (some (.Name x p)) pos.line env = pure false) (ht : VT X σ H t q) (h : q = true → VE X σ H e (.int i)) (hj : σ.set n (some (.int j)) = σ) :
    NS X σ H (.If t [.Assign [.Name x p] e pos] [] p2) (σ.set n (some (.int (bif q then i else j)))) := by
  refine ns_if ht (fun e => ?_) (fun e => ?_)
  · subst e
    exact nx_cons (ns_set c n hN hl hw (h rfl)) nx_nil
  · subst e
    exact hj.symm
theorem ns_ifB {t : Expr} {x : Str} {p2 : Pos} {l m : Bool} (c : Cxo M N sc k X) (n : Nat) (hN : N[n]? = some x) (hl : sc.names.lookup x = some .local) (hw : ∀ env, swapsWith e (some (.Name x p)) pos.line env = pure false) (ht : VT X σ H t q) (h : q = true → VE X σ H e (.bl l)) (hj : σ.set n (some (.bl m)) = σ) :
    NS X σ H (.If t [.Assign [.Name x p] e pos] [] p2) (σ.set n (some (.bl (bif q then l else m)))) := by
  refine ns_if ht (fun e => ?_) (fun e => ?_)
  · subst e
    exact nx_cons (ns_set c n hN hl hw (h rfl)) nx_nil
  · subst e
    exact hj.symm
/-- for x in range(e): S i is the state behind i turns (the loop's name holds whatever) -/
theorem ws_forRange {x : Str} {D : Ends} {m : Nat} (c : Cxo M N sc k X) (n : Nat) (hN : N[n]? = some x) (hl : sc.names.lookup x = some .local) (hg : sc.names.lookup ("range" : Str) = some .globalImplicit) (hm : M.mg "range" = none) (hs : notStar e = true)
    (hf : ∀ env x, foldedSetIterable (.Call (.Name "range" p) [e] [] pos) env x = pure x) (he : VE X σ H e (.int m)) (hm62 : m < 1000000) (S : Nat → L2.St → Hp → Prop) (h0 : S 0 σ H)
    (step : ∀ i τ H, i < m → S i τ H → WSs X body { D with nx := S (i + 1), ct := S (i + 1), bk := D.nx } (τ.set n (some (.int i))) H) (hd : ∀ τ H, S m τ H → D.nx τ H) {tp : Pos} : WS X (.For (.Name x tp) (.Call (.Name "range" p) [e] [] pos) body [] sp') D σ H := by
  refine ⟨_, ps_for c.own c.calm (pi_range1 (gl_of c hg) (by rw [c.mg]; exact hm) WA.pa (star_cons hs _ _)) (pg_name (i := n) (by rw [c.N]; exact c.nd) (by rw [c.N]; exact hN) (by rw [c.sc]; exact .inl hl) (.inr (by rw [c.sc]; exact hl))) WSs.pss (hf _), ?_⟩
  refine va_cons hs he va_nil _ ⟨(m : Int), rfl, by omega, by omega, ?_⟩
  have e1 : (m : Int).toNat = m := Int.toNat_natCast m
  rw [e1]
  refine for_range (n := m) S h0 (fun i τ H hi hS => ?_) hd
  have e2 : (0 : Int) + (i : Int) = i := by omega
  show WSs X body _ (τ.set n (some (.int (0 + (i : Int))))) H
  rw [e2]
  exact step i τ H hi hS
/-- .. the heap as it is -/
theorem rp_forRange {x : Str} {m : Nat} (c : Cxo M N sc k X) (n : Nat) (hN : N[n]? = some x) (hl : sc.names.lookup x = some .local) (hg : sc.names.lookup ("range" : Str) = some .globalImplicit) (hm : M.mg "range" = none) (hs : notStar e = true)
    (hf : ∀ env x, foldedSetIterable (.Call (.Name "range" p) [e] [] pos) env x = pure x) (he : VE X σ H e (.int m)) (hm62 : m < 1000000) (S : Nat → Option V → L2.St) (v0 : Option V) (h0 : σ = S 0 v0)
    (step : ∀ i u, i < m → Nx X ((S i u).set n (some (.int i))) H body (S (i + 1) (some (.int i)))) {tp : Pos} {D : Ends} (hr : ∀ u, WSs X sts D (S m u) H) : WSs X (.For (.Name x tp) (.Call (.Name "range" p) [e] [] pos) body [] sp' :: sts) D σ H := by
  refine ⟨_, pss_cons WS.ps WSs.pss, ws_forRange c n hN hl hg hm hs hf he hm62 (fun i τ H' => H' = H ∧ ∃ u, τ = S i u) ⟨rfl, v0, h0⟩ (fun i τ H' hi h => ?_) (fun τ H' h => ?_)⟩
  · obtain ⟨rfl, u, rfl⟩ := h
    exact step i u hi _ ⟨rfl, _, rfl⟩
  · obtain ⟨rfl, u, rfl⟩ := h
    exact hr u

theorem at_int {l : List Int} {n i : Nat} (hl : l.length = n) (hi : i < n) : atI (l.map V.int) (i : Int) = some (V.int (l.getD i 0)) := by
  refine atI_nat ?_
  rw [List.getElem?_map, List.getElem?_eq_getElem (by omega), List.getD_eq_getElem?_getD, List.getElem?_eq_getElem (by omega)]
  rfl
theorem one_lt_1000 : (1 : Int).natAbs < 2 ^ 3000 := by decide +kernel

/-! ### results that stand on the heap -/
abbrev RR (α : Type) := α → V → Hp → Prop
def RI : RR Int := fun z v _ => v = .int z
def RB : RR Bool := fun z v _ => v = .bl z
def RT : RR (Int × Int) := fun r v H => ∃ t, v = .ref t ∧ H t = some (.tup [.int r.1, .int r.2])
def RO : RR (Option (Int × Int)) := fun o v H => match o with
  | none => v = .non
  | some r => RT r v H
/-- a list of ints -/
def RL : RR (List Int) := fun l v H => ∃ t, v = .ref t ∧ H t = some (.lst (l.map V.int))
theorem RT.same {r : Int × Int} {v : V} {H H' : Hp} (s : Same H H') (h : RT r v H) : RT r v H' := by
  obtain ⟨t, e, h⟩ := h
  exact ⟨t, e, s _ _ h⟩
theorem same_new {H : Hp} {l : Addr} {u : HO} (h : H l = Option.none) : Same H (upd H l u) := fun b o e => by
  rw [upd_ne (ne_of_none e h)]
  exact e
def ER {α : Type} (X : Cx) (σ : L2.St) (H : Hp) (e : Expr) (R : RR α) (a : α) : Prop := ∀ Q : VK, (∀ v H', Same H H' → R a v H' → Q v H') → WE X e σ H Q
variable {α β : Type} {R : RR α} {R' : RR β} {u u' : α} {w : β}
theorem er_ve (h : VE X σ H e v) (hr : R u v H) : ER X σ H e R u := fun Q z => h _ (z _ _ (Same.refl H) hr)
theorem er_int (h : VE X σ H e (.int i)) : ER X σ H e RI i := er_ve h rfl
/-- a def whose result stands on the heap -/
def spR (den : List V → Hp → α → Prop) (R : RR α) : Sp := fun vs H Q _ => ∃ a, den vs H a ∧ ∀ v H', Same H H' → R a v H' → Q v H'
theorem er_call {x : Str} {den : List V → Hp → α → Prop} {n : Nat} (c : Cxo M N sc k X) (F : Fn M n x (spR den R)) (hn : n ≤ k) (hg : sc.names.lookup x = some .globalImplicit) (hd : (x == ("__debug__" : Str)) = false) (hs : (e :: es).all notStar = true)
    (ha : VA X σ H (e :: es) vs) (h : den vs H u) : ER X σ H (.Call (.Name x p) (e :: es) [] pos) R u :=
  fun Q q => we_call c F hn hg hd hs (ha _ ⟨u, h, q⟩)
theorem er_call0 {x : Str} {den : List V → Hp → α → Prop} {n : Nat} (c : Cxo M N sc k X) (F : Fn M n x (spR den R)) (hn : n ≤ k) (hg : sc.names.lookup x = some .globalImplicit) (hd : (x == ("__debug__" : Str)) = false)
    (h : den [] H u) : ER X σ H (.Call (.Name x p) [] [] pos) R u :=
  fun Q q => we_call0 c F hn hg hd ⟨u, h, q⟩
/-- arguments that may lay something on the heap -/
def AR (X : Cx) (σ : L2.St) (H : Hp) (es : List Expr) (P : List V → Hp → Prop) : Prop := ∀ Q : List V → Hp → Prop, (∀ vs H', Same H H' → P vs H' → Q vs H') → WA X es σ H Q
theorem ar_nil : AR X σ H [] (fun vs _ => vs = []) := fun Q z => ⟨_, pa_nil, z _ _ (Same.refl H) rfl⟩
theorem ar_cons {P : List V → Hp → Prop} (hs : notStar e = true) (h : ER X σ H e R u) (hr : ∀ H', Same H H' → AR X σ H' es P) : AR X σ H (e :: es) (fun vs H2 => ∃ v r H1, vs = v :: r ∧ Same H1 H2 ∧ R u v H1 ∧ P r H2) :=
  fun Q z => ⟨_, pa_cons WE.pe WA.pa (star_cons hs _ _), h _ fun v H1 s1 q1 => hr H1 s1 _ fun r H2 s2 q2 => z _ _ (s1.trans s2) ⟨v, r, H1, rfl, s2, q1, q2⟩⟩
theorem er_callA {x : Str} {den : List V → Hp → α → Prop} {P : List V → Hp → Prop} {n : Nat} (c : Cxo M N sc k X) (F : Fn M n x (spR den R)) (hn : n ≤ k) (hg : sc.names.lookup x = some .globalImplicit) (hd : (x == ("__debug__" : Str)) = false) (hs : (e :: es).all notStar = true)
    (ha : AR X σ H (e :: es) P) (h : ∀ vs H', Same H H' → P vs H' → den vs H' u) : ER X σ H (.Call (.Name x p) (e :: es) [] pos) R u :=
  fun Q q => we_call c F hn hg hd hs (ha _ fun vs H' s h1 => ⟨u, h vs H' s h1, fun v H2 s2 r => q v H2 (s.trans s2) r⟩)
/-- a tuple, a list of ints -/
def RTs : RR (List Int) := fun l v H => ∃ t, v = .ref t ∧ H t = some (.tup (l.map V.int))
theorem er_tupN {n : Nat} {l : List Int} (ha : VA X σ H es (l.map V.int)) (hz : l.length ≤ 1000) : ER X σ H (.Tuple es n pos) RTs l :=
  fun Q z => ⟨_, pe_tup WA.pa, ha _ ⟨by rw [List.length_map]; exact Nat.le_of_lt (small1000 hz), fun t ht => z _ _ (same_new ht) ⟨t, rfl, upd_same⟩⟩⟩
theorem er_lst {l : List Int} (ha : VA X σ H es (l.map V.int)) (hz : l.length ≤ 1000) : ER X σ H (.List es pos) RL l :=
  fun Q z => ⟨_, pe_lst WA.pa, ha _ ⟨by rw [List.length_map]; exact Nat.le_of_lt (small1000 hz), fun t ht => z _ _ (same_new ht) ⟨t, rfl, upd_same⟩⟩⟩
/-- a tuple of two ints -/
theorem er_tup {n : Nat} (hs : notStar a = true) (hs2 : notStar b = true) (ha : VE X σ H a (.int i)) (hb : VE X σ H b (.int j)) : ER X σ H (.Tuple [a, b] n pos) RT (i, j) :=
  fun Q z => ⟨_, pe_tup WA.pa, va_cons hs ha (va_cons hs2 hb va_nil) _ ⟨by show 2 ≤ sizeLine; decide, fun t ht => z _ _ (same_new ht) ⟨t, rfl, upd_same⟩⟩⟩
theorem er_if {t : Expr} (ht : VT X σ H t q) (ha : q = true → ER X σ H a R u) (hb : q = false → ER X σ H b R u') : ER X σ H (.IfExp t a b pos) R (bif q then u else u') := fun Q z => by
  refine ⟨_, pe_ifExp WT.pt WE.pe WE.pe, ht _ ?_⟩
  cases q with
  | true => exact ha rfl _ z
  | false => exact hb rfl _ z
/-- the second of a tuple's two -/
theorem er_snd {r : Int × Int} {n : Nat} {pos' : Pos} (h : ER X σ H e RT r) (hs : PlainIx (.Constant (.int 1) n pos')) : ER X σ H (.Subscript e (.Constant (.int 1) n pos') pos) RI r.2 :=
  fun Q z => ⟨_, pe_ix ix_tup WE.pe WE.pe hs, h _ fun v H' s q => by
    obtain ⟨t, rfl, ht⟩ := q
    exact ve_int _ ⟨t, _, 1, .int r.2, rfl, rfl, SqT.of ht, atI_nat (j := 1) rfl, z _ _ s rfl⟩⟩
/-- the second of a tuple's two that stands in a name -/
theorem ve_snd {r : Int × Int} {n : Nat} {pos' : Pos} (h : VE X σ H e v) (hr : RT r v H) (hs : PlainIx (.Constant (.int 1) n pos')) : VE X σ H (.Subscript e (.Constant (.int 1) n pos') pos) (.int r.2) := fun Q z => by
  obtain ⟨t, rfl, ht⟩ := hr
  exact ⟨_, pe_ix ix_tup WE.pe WE.pe hs, h _ (ve_int _ ⟨t, _, 1, .int r.2, rfl, rfl, SqT.of ht, atI_nat (j := 1) rfl, z⟩)⟩

def Rt {α : Type} (X : Cx) (σ : L2.St) (H : Hp) (sts : List Stmt) (R : RR α) (a : α) : Prop := ∀ D : Ends, (∀ v H', Same H H' → R a v H' → D.rt v H') → WSs X sts D σ H
theorem rt_ret (h : ER X σ H e R u) : Rt X σ H [.Return (some e) pos] R u := fun D z => ⟨_, pss_one (ps_ret WE.pe), h _ z⟩
theorem rt_if {t : Expr} (ht : VT X σ H t q) (ha : q = true → Rt X σ H body R u) (hb : q = false → Rt X σ H sts R u') : Rt X σ H (.If t body [] pos :: sts) R (bif q then u else u') := fun D z => by
  refine ⟨_, pss_cons (ps_if WT.pt WSs.pss pss_nil) WSs.pss, ht _ ?_⟩
  cases q with
  | true => exact ha rfl _ z
  | false => exact hb rfl _ z
theorem rt_set {x : Str} (c : Cxo M N sc k X) (n : Nat) (hN : N[n]? = some x) (hl : sc.names.lookup x = some .local) (hw : ∀ env, swapsWith e (some (.Name x p)) pos.line env = pure false) (h : VE X σ H e v) (hr : Rt X (σ.set n (some v)) H sts R u) : Rt X σ H (.Assign [.Name x p] e pos :: sts) R u :=
  fun D z => ⟨_, pss_cons WS.ps WSs.pss, ws_set c n hN hl hw (h _ (hr D z))⟩
theorem rt_cons (h : NS X σ H st σ1) (hr : Rt X σ1 H sts R u) : Rt X σ H (st :: sts) R u := fun D z => ⟨_, pss_cons WS.ps WSs.pss, h _ (hr D z)⟩
theorem rt_setR {x : Str} (c : Cxo M N sc k X) (n : Nat) (hN : N[n]? = some x) (hl : sc.names.lookup x = some .local) (hw : ∀ env, swapsWith e (some (.Name x p)) pos.line env = pure false) (h : ER X σ H e R' w)
    (hr : ∀ v H', Same H H' → R' w v H' → Rt X (σ.set n (some v)) H' sts R u) : Rt X σ H (.Assign [.Name x p] e pos :: sts) R u :=
  fun D z => ⟨_, pss_cons WS.ps WSs.pss, ws_set c n hN hl hw (h _ fun v H' s q => hr v H' s q D fun v2 H2 s2 r => z v2 H2 (s.trans s2) r)⟩
theorem rt_setI {x : Str} (c : Cxo M N sc k X) (n : Nat) (hN : N[n]? = some x) (hl : sc.names.lookup x = some .local) (hw : ∀ env, swapsWith e (some (.Name x p)) pos.line env = pure false) (h : ER X σ H e RI i)
    (hr : ∀ H', Same H H' → Rt X (σ.set n (some (.int i))) H' sts R u) : Rt X σ H (.Assign [.Name x p] e pos :: sts) R u :=
  rt_setR c n hN hl hw h fun v H' s q => by
    cases (show v = .int i from q)
    exact hr H' s
/-- a name as it stands -/
theorem er_keep (h : VE X σ H e v) (hr : R u v H) : ER X σ H e R u := er_ve h hr
/-- if x is not None: return x -/
theorem rt_given {x : Str} {o : Option (Int × Int)} {u : Int × Int} {v : V} {n1 : Nat} {p1 p2 p3 p4 : Pos} (hx : ∀ H', VE X σ H' (.Name x p1) v) (hx2 : VE X σ H (.Name x p2) v) (ho : RO o v H) (hr : o = none → Rt X σ H sts RT u) :
    Rt X σ H (.If (.Compare (.Name x p1) [.IsNot] [.Constant .none n1 p3] p4) [.Return (some (.Name x p2)) pos] [] p :: sts) RT (o.getD u) := fun D z => by
  refine ⟨_, pss_cons (ps_if (pt_cmp (pc_notN WE.pe) rfl) WSs.pss pss_nil) WSs.pss, hx H _ ⟨_, rfl, ?_⟩⟩
  cases o with
  | none =>
    have e : v = .non := ho
    subst e
    exact hr rfl D z
  | some r =>
    obtain ⟨t, rfl, ht⟩ := ho
    exact rt_ret (er_ve hx2 (show RT r _ H from ⟨t, rfl, ht⟩)) _ z
end
end Hw

namespace Hd
open PySem PyProof.Rows
/-! ### bits of naturals -/
theorem and_nat (a b : Nat) : Builtin.bitAnd (a : Int) (b : Int) = ((a &&& b : Nat) : Int) := by
  rw [bitAnd_pp (by omega) (by omega), Int.toNat_natCast, Int.toNat_natCast]
theorem or_nat (a b : Nat) : Builtin.bitOr (a : Int) (b : Int) = ((a ||| b : Nat) : Int) := by
  rw [bitOr_and, and_nat]
  have := nat_or_add_and a b
  omega
theorem and_mag (b : Nat) : Builtin.bitAnd (b : Int) 32767 = ((b % 32768 : Nat) : Int) := by
  have h := and_nat b 32767
  rw [show ((32767 : Nat) : Int) = 32767 from rfl, show (b &&& 32767) = b % 32768 from Nat.and_two_pow_sub_one_eq_mod b 15] at h
  exact h
theorem and_frac (b : Nat) : Builtin.bitAnd (b : Int) 1023 = ((b % 1024 : Nat) : Int) := by
  have h := and_nat b 1023
  rw [show ((1023 : Nat) : Int) = 1023 from rfl, show (b &&& 1023) = b % 1024 from Nat.and_two_pow_sub_one_eq_mod b 10] at h
  exact h
theorem and_one (b : Nat) : Builtin.bitAnd (b : Int) 1 = ((b % 2 : Nat) : Int) := by
  have h := and_nat b 1
  rw [show ((1 : Nat) : Int) = 1 from rfl, show (b &&& 1) = b % 2 from Nat.and_two_pow_sub_one_eq_mod b 1] at h
  exact h
theorem and_pow0 (b i : Nat) : (b &&& 2 ^ i = 0) ↔ b / 2 ^ i % 2 = 0 := by
  have ht : b.testBit i = decide (b / 2 ^ i % 2 = 1) := Nat.testBit_eq_decide_div_mod_eq
  constructor
  · intro h
    have e : (b &&& 2 ^ i).testBit i = false := by rw [h]; exact Nat.zero_testBit i
    rw [Nat.testBit_and, Nat.testBit_two_pow_self, Bool.and_true, ht, decide_eq_false_iff_not] at e
    omega
  · intro h
    refine Nat.eq_of_testBit_eq fun j => ?_
    rw [Nat.zero_testBit, Nat.testBit_and, Nat.testBit_two_pow]
    by_cases hj : i = j
    · subst hj
      rw [ht, decide_eq_false (by omega)]
      rfl
    · rw [decide_eq_false hj, Bool.and_false]
theorem and_quiet (b : Nat) : Builtin.bitAnd (b : Int) 512 = 0 ↔ b / 512 % 2 = 0 := by
  have h := and_nat b 512
  rw [show ((512 : Nat) : Int) = 512 from rfl] at h
  rw [h]
  have := and_pow0 b 9
  rw [show (2 : Nat) ^ 9 = 512 from rfl] at this
  omega
/-- bits of lanes, one after another -/
def accB (f : Nat → Bool) : Nat → Nat
  | 0 => 0
  | i + 1 => accB f i + (if f i = true then 2 ^ i else 0)
theorem bits_acc (n : Nat) (f : Nat → Bool) : Sb06.bits n f = accB f n := by
  unfold Sb06.bits
  induction n with
  | zero => rfl
  | succ n ih =>
    rw [List.range_succ, List.foldl_append, ih]
    rfl
theorem accB_lt (f : Nat → Bool) : ∀ n, accB f n < 2 ^ n
  | 0 => Nat.zero_lt_one
  | n + 1 => by
    have h := accB_lt f n
    have e : 2 ^ (n + 1) = 2 ^ n + 2 ^ n := by rw [Nat.pow_succ]; omega
    unfold accB
    split <;> omega
theorem or_pow (r i : Nat) (h : r < 2 ^ i) : r ||| 2 ^ i = r + 2 ^ i := by
  have e := Nat.two_pow_add_eq_or_of_lt h 1
  rw [Nat.mul_one] at e
  rw [Nat.or_comm, ← e]
  omega
theorem one_shl (i : Nat) : (1 : Int) * 2 ^ ((i : Nat) : Int).toNat = ((2 ^ i : Nat) : Int) := by
  rw [Int.toNat_natCast, Int.one_mul, Int.natCast_pow]
  rfl
theorem getD_nat {l : List Int} (h : ∀ x ∈ l, 0 ≤ x ∧ x ≤ 65535) (i : Nat) : l.getD i 0 = ((Sb06.at_ (Sb06Neutral.nats l) i : Nat) : Int) ∧ Sb06.at_ (Sb06Neutral.nats l) i < 65536 := by
  unfold Sb06.at_ Sb06Neutral.nats
  rw [List.getD_eq_getElem?_getD, List.getD_eq_getElem?_getD, List.getElem?_map]
  cases e : l[i]? with
  | none => simp
  | some x =>
    have := h x (List.mem_of_getElem? e)
    simp
    omega
end Hd

namespace Hd
open PySem
def m_is_minus (half : Int) : Bool :=
    (decide ((32768 : Int) ≤ half))
def m_is_zero (half : Int) : Bool :=
    (decide ((Builtin.bitAnd half (32767 : Int)) = (0 : Int)))
def m_is_infinite (half : Int) : Bool :=
    (decide ((Builtin.bitAnd half (32767 : Int)) = (31744 : Int)))
def m_is_no_number (half : Int) : Bool :=
    (decide ((31744 : Int) < (Builtin.bitAnd half (32767 : Int))))
def m_is_signalling (half : Int) : Bool :=
    ((m_is_no_number half) && (decide ((Builtin.bitAnd half (512 : Int)) = (0 : Int))))
def m_with_sign (minus : Bool) (magnitude : Int) : Int :=
    (bif minus then (Builtin.bitOr magnitude (32768 : Int)) else magnitude)
def m_negated (half : Int) : Int :=
    (Builtin.bitXor half (32768 : Int))
def m_unlike_signs (a : Int) (b : Int) : Bool :=
    ((m_is_minus a) != (m_is_minus b))
def m_magnitude_units (half : Int) : Int :=
    let magnitude := (Builtin.bitAnd half (32767 : Int))
    (bif (decide (magnitude < (1024 : Int))) then magnitude
    else (((1024 : Int) + (Builtin.bitAnd magnitude (1023 : Int))) * 2 ^ (((magnitude / 2 ^ ((10 : Int) : Int).toNat) - (1 : Int)) : Int).toNat))
def m_units (half : Int) : Int :=
    (bif (m_is_minus half) then (-(m_magnitude_units half)) else (m_magnitude_units half))
def m_rank (half : Int) : Int :=
    let magnitude := (Builtin.bitAnd half (32767 : Int))
    (bif (m_is_minus half) then (-magnitude) else magnitude)
def m_invalid_answer  : Int × Int :=
    ((1 : Int), (32256 : Int))
def m_no_number_answer (l : List Int) : Option (Int × Int) :=
    bif (!(l.map m_is_no_number).any id) then none
    else bif (l.map m_is_signalling).any id then some m_invalid_answer
    else some ((0 : Int), (32256 : Int))
def m_goes_outward (way : Int) (minus : Bool) : Bool :=
    (bif (decide (way = (1 : Int))) then minus else ((decide (way = (2 : Int))) && (!minus)))
def m_rounded_whole (way : Int) (minus : Bool) (exact_ : Int) (below : Int) : Int :=
    let whole := (exact_ / 2 ^ (below : Int).toNat)
    let rest := (exact_ - (whole * 2 ^ (below : Int).toNat))
    (bif (decide (rest = (0 : Int))) then whole
    else (bif (!decide (way = (0 : Int))) then (bif (m_goes_outward way minus) then (whole + (1 : Int)) else whole)
    else let half_way := ((1 : Int) * 2 ^ ((below - (1 : Int)) : Int).toNat)
    (bif ((decide (half_way < rest)) || ((decide (rest = half_way)) && (decide ((Builtin.bitAnd whole (1 : Int)) = (1 : Int))))) then (whole + (1 : Int))
    else whole)))
def m_overflow_answer (way : Int) (minus : Bool) : Int × Int :=
    let stays := ((!decide (way = (0 : Int))) && (!(m_goes_outward way minus)))
    ((Builtin.bitOr (4 : Int) (16 : Int)), (m_with_sign minus (bif stays then (31743 : Int) else (31744 : Int))))
def m_is_tiny (way : Int) (minus : Bool) (exact_ : Int) (below : Int) : Bool :=
    (decide ((m_rounded_whole way minus (exact_ * 2 ^ ((1 : Int) : Int).toNat) below) < ((1024 : Int) * 2 ^ ((1 : Int) : Int).toNat)))
def m_rounded_half (way : Int) (minus : Bool) (exact_ : Int) (below : Int) : Int × Int :=
    let dropped := (if (0 : Int) > ((((Builtin.Int.intBits exact_ : Nat) : Int) - below) - (11 : Int)) then (0 : Int) else ((((Builtin.Int.intBits exact_ : Nat) : Int) - below) - (11 : Int)))
    let kept := (m_rounded_whole way minus exact_ (below + dropped))
    let magnitude := ((dropped * 2 ^ ((10 : Int) : Int).toNat) + kept)
    (bif (decide ((31744 : Int) ≤ magnitude)) then (m_overflow_answer way minus)
    else let half := (m_with_sign minus magnitude)
    (bif (decide ((kept * 2 ^ ((below + dropped) : Int).toNat) = exact_)) then ((0 : Int), half)
    else (bif ((decide (magnitude ≤ (1024 : Int))) && (m_is_tiny way minus exact_ below)) then ((Builtin.bitOr (8 : Int) (16 : Int)), half)
    else ((16 : Int), half))))
def m_rounded_by_power (way : Int) (minus : Bool) (magnitude : Int) (power : Int) : Int × Int :=
    (bif (decide (power < (0 : Int))) then (m_rounded_half way minus magnitude (-power))
    else (m_rounded_half way minus (magnitude * 2 ^ (power : Int).toNat) (0 : Int)))
def m_rounded_number (way : Int) (number : Int) : Int × Int :=
    (m_rounded_half way (decide (number < (0 : Int))) ((if number < 0 then -number else number) * 2 ^ ((24 : Int) : Int).toNat) (0 : Int))
def m_rounded_sum (way : Int) (exact_ : Int) (below : Int) (first_minus : Bool) (second_minus : Bool) : Int × Int :=
    let minus := (decide (exact_ < (0 : Int)))
    let minus' := (bif (decide (exact_ = (0 : Int))) then (bif (first_minus == second_minus) then first_minus else (decide (way = (1 : Int)))) else minus)
    (m_rounded_half way minus' (if exact_ < 0 then -exact_ else exact_) below)
def m_add (way : Int) (a : Int) (b : Int) : Int × Int :=
    (m_no_number_answer [a, b]).getD ((bif ((m_is_infinite a) && ((m_is_infinite b) && (!decide (a = b)))) then m_invalid_answer
    else (bif (m_is_infinite a) then ((0 : Int), a)
    else (bif (m_is_infinite b) then ((0 : Int), b)
    else (m_rounded_sum way ((m_units a) + (m_units b)) (0 : Int) (m_is_minus a) (m_is_minus b))))))
def m_is_zero_times_infinity (a : Int) (b : Int) : Bool :=
    (((m_is_zero a) && (m_is_infinite b)) || ((m_is_infinite a) && (m_is_zero b)))
def m_multiply (way : Int) (a : Int) (b : Int) : Int × Int :=
    (m_no_number_answer [a, b]).getD ((bif (m_is_zero_times_infinity a b) then m_invalid_answer
    else let minus := (m_unlike_signs a b)
    (bif ((m_is_infinite a) || (m_is_infinite b)) then ((0 : Int), (m_with_sign minus (31744 : Int)))
    else (m_rounded_half way minus ((m_magnitude_units a) * (m_magnitude_units b)) (24 : Int)))))
def m_multiply_and_add (way : Int) (a : Int) (b : Int) (c : Int) : Int × Int :=
    (m_no_number_answer [a, b, c]).getD ((bif (m_is_zero_times_infinity a b) then m_invalid_answer
    else let minus := (m_unlike_signs a b)
    (bif ((m_is_infinite a) || (m_is_infinite b)) then (m_add way (m_with_sign minus (31744 : Int)) c)
    else (bif (m_is_infinite c) then ((0 : Int), c)
    else let exact_ := (((m_units a) * (m_units b)) + ((m_units c) * 2 ^ ((24 : Int) : Int).toNat))
    (m_rounded_sum way exact_ (24 : Int) minus (m_is_minus c))))))
def m_with_rest_told (found : Int) (is_exact : Bool) : Int :=
    (bif is_exact then (found * 2 ^ ((1 : Int) : Int).toNat) else (Builtin.bitOr (found * 2 ^ ((1 : Int) : Int).toNat) (1 : Int)))
def m_divide (way : Int) (a : Int) (b : Int) : Int × Int :=
    (m_no_number_answer [a, b]).getD ((bif (((m_is_zero a) && (m_is_zero b)) || ((m_is_infinite a) && (m_is_infinite b))) then m_invalid_answer
    else let minus := (m_unlike_signs a b)
    (bif (m_is_infinite a) then ((0 : Int), (m_with_sign minus (31744 : Int)))
    else (bif (m_is_infinite b) then ((0 : Int), (m_with_sign minus (0 : Int)))
    else (bif (m_is_zero b) then ((2 : Int), (m_with_sign minus (31744 : Int)))
    else let dividend := ((m_magnitude_units a) * 2 ^ (((24 : Int) + (2 : Int)) : Int).toNat)
    let quotient := (dividend / (m_magnitude_units b))
    let is_exact := (decide ((quotient * (m_magnitude_units b)) = dividend))
    (m_rounded_half way minus (m_with_rest_told quotient is_exact) ((2 : Int) + (1 : Int))))))))
def m_whole_root (square : Int) : Int := ((Sb06.rootBelow square.toNat 64 0 : Nat) : Int)
def m_square_root (way : Int) (a : Int) : Int × Int :=
    (m_no_number_answer [a]).getD ((bif (m_is_zero a) then ((0 : Int), a)
    else (bif (m_is_minus a) then m_invalid_answer
    else (bif (m_is_infinite a) then ((0 : Int), a)
    else let square := ((m_magnitude_units a) * 2 ^ ((((24 : Int) + (2 : Int)) + (2 : Int)) : Int).toNat)
    let root := (m_whole_root square)
    (m_rounded_half way false (m_with_rest_told root (decide ((root * root) = square))) ((2 : Int) + (1 : Int)))))))
def m_second_where_no_number (b : Int) : Int × Int :=
    ((1 : Int), (bif (m_is_no_number b) then (32256 : Int) else b))
def m_lesser (a : Int) (b : Int) : Int × Int :=
    (bif ((m_is_no_number a) || (m_is_no_number b)) then (m_second_where_no_number b)
    else ((0 : Int), (bif (decide ((m_rank a) < (m_rank b))) then a else b)))
def m_greater (a : Int) (b : Int) : Int × Int :=
    (bif ((m_is_no_number a) || (m_is_no_number b)) then (m_second_where_no_number b)
    else ((0 : Int), (bif (decide ((m_rank b) < (m_rank a))) then a else b)))
def m_exponent (a : Int) : Int × Int :=
    (m_no_number_answer [a]).getD ((bif (m_is_zero a) then ((0 : Int), (64512 : Int))
    else (bif (m_is_infinite a) then ((0 : Int), (31744 : Int))
    else let power := ((((Builtin.Int.intBits (m_magnitude_units a) : Nat) : Int) - (1 : Int)) - (24 : Int))
    (m_rounded_number (0 : Int) power))))
def m_without_exponent (a : Int) : Int × Int :=
    (m_no_number_answer [a]).getD (let minus := (m_is_minus a)
    (bif ((m_is_zero a) || (m_is_infinite a)) then ((0 : Int), (m_with_sign minus (15360 : Int)))
    else let magnitude := (m_magnitude_units a)
    (m_rounded_half (0 : Int) minus (magnitude * 2 ^ ((24 : Int) : Int).toNat) (((Builtin.Int.intBits magnitude : Nat) : Int) - (1 : Int)))))
def m_scaled_without_end (a : Int) (b : Int) : Int × Int :=
    (bif (m_is_minus b) then (bif (m_is_infinite a) then m_invalid_answer else ((0 : Int), (m_with_sign (m_is_minus a) (0 : Int))))
    else (bif (m_is_zero a) then m_invalid_answer else ((0 : Int), (m_with_sign (m_is_minus a) (31744 : Int)))))
def m_scaled (way : Int) (a : Int) (b : Int) : Int × Int :=
    (m_no_number_answer [a, b]).getD ((bif (m_is_infinite b) then (m_scaled_without_end a b)
    else (bif ((m_is_zero a) || (m_is_infinite a)) then ((0 : Int), a)
    else let power := (if (64 : Int) < (if (-(64 : Int)) > ((m_units b) / 2 ^ ((24 : Int) : Int).toNat) then (-(64 : Int)) else ((m_units b) / 2 ^ ((24 : Int) : Int).toNat)) then (64 : Int) else (if (-(64 : Int)) > ((m_units b) / 2 ^ ((24 : Int) : Int).toNat) then (-(64 : Int)) else ((m_units b) / 2 ^ ((24 : Int) : Int).toNat)))
    (m_rounded_by_power way (m_is_minus a) (m_magnitude_units a) power))))
def m_nearby_whole (way : Int) (a : Int) : Int × Int :=
    let magnitude := (m_magnitude_units a)
    let whole := (m_rounded_whole way (m_is_minus a) magnitude (24 : Int))
    ((bif (decide ((whole * 2 ^ ((24 : Int) : Int).toNat) = magnitude)) then (0 : Int) else (16 : Int)), whole)
def m_whole_part (way : Int) (a : Int) : Int × Int :=
    (m_no_number_answer [a]).getD ((bif (m_is_infinite a) then ((0 : Int), a)
    else let found := (m_nearby_whole way a)
    (found.1, (m_rounded_half way (m_is_minus a) (found.2 * 2 ^ ((24 : Int) : Int).toNat) (0 : Int)).2)))
def m_less_whole_part (way : Int) (a : Int) : Int × Int :=
    (bif (m_is_infinite a) then ((0 : Int), (0 : Int))
    else let rest := (m_add way a (m_negated (m_whole_part way a).2))
    (bif (m_is_zero rest.2) then ((0 : Int), (0 : Int)) else rest))
def m_basic_step (op : Int) (way : Int) (a : Int) (b : Int) : Int × Int :=
    (bif (decide (op = (0 : Int))) then (m_add way a b)
    else (bif (decide (op = (1 : Int))) then (m_add way a (m_negated b))
    else (bif (decide (op = (2 : Int))) then (m_multiply way a b)
    else (bif (decide (op = (3 : Int))) then (m_divide way a b)
    else (m_square_root way a)))))
def m_fused_op (op : Int) (lane : Int) : Int :=
    (bif (decide (op = (9 : Int))) then (bif (decide ((Builtin.bitAnd lane (1 : Int)) = (0 : Int))) then (6 : Int) else (5 : Int))
    else (bif (decide (op = (10 : Int))) then (bif (decide ((Builtin.bitAnd lane (1 : Int)) = (0 : Int))) then (5 : Int) else (6 : Int))
    else op))
def m_fused_step (op : Int) (way : Int) (a : Int) (b : Int) (c : Int) : Int × Int :=
    (bif (decide (op = (5 : Int))) then (m_multiply_and_add way a b c)
    else (bif (decide (op = (6 : Int))) then (m_multiply_and_add way a b (m_negated c))
    else (bif (decide (op = (7 : Int))) then (m_multiply_and_add way (m_negated a) b c)
    else (m_multiply_and_add way (m_negated a) b (m_negated c)))))
def m_parts_step (op : Int) (way : Int) (a : Int) (b : Int) : Int × Int :=
    (bif (decide (op = (11 : Int))) then (m_lesser a b)
    else (bif (decide (op = (12 : Int))) then (m_greater a b)
    else (bif (decide (op = (13 : Int))) then (m_exponent a)
    else (bif (decide (op = (14 : Int))) then (m_without_exponent a)
    else (bif (decide (op = (15 : Int))) then (m_scaled way a b)
    else (bif (decide (op = (16 : Int))) then (m_whole_part way a)
    else (m_less_whole_part way a)))))))
def m_step (op : Int) (way : Int) (lane : Int) (a : Int) (b : Int) (c : Int) : Int × Int :=
    (bif (decide (op < (5 : Int))) then (m_basic_step op way a b)
    else (bif (decide (op < (11 : Int))) then (m_fused_step (m_fused_op op lane) way a b c)
    else (m_parts_step op way a b)))
def m_refused (count : Int) : List Int := (2147483648 : Int) :: List.replicate count.toNat 0
def m_together_raised : List (Int × Int) → Int → Int
  | [], r => r
  | x :: t, r => m_together_raised t (Builtin.bitOr r x.1)
def m_together (l : List (Int × Int)) : List Int := m_together_raised l 0 :: l.map (fun x => x.2)
def m_do (op way : Int) (l l' l'' : List Int) : List Int :=
    bif (decide ((17 : Int) < op) || decide ((3 : Int) < way)) then m_refused 32
    else m_together ((List.range 32).map fun (j : Nat) => m_step op way (j : Int) (l.getD j 0) (l'.getD j 0) (l''.getD j 0))
def m_relation (a : Int) (b : Int) : Int :=
    (bif ((m_is_no_number a) || (m_is_no_number b)) then (8 : Int)
    else (bif (decide ((m_rank a) < (m_rank b))) then (1 : Int)
    else (bif (decide ((m_rank a) = (m_rank b))) then (2 : Int) else (4 : Int))))
def m_raised_by_comparing (how : Int) (a : Int) (b : Int) : Int :=
    (bif (!decide ((Builtin.bitAnd how (16 : Int)) = (0 : Int))) then (bif ((m_is_no_number a) || (m_is_no_number b)) then (1 : Int) else (0 : Int))
    else (bif ((m_is_signalling a) || (m_is_signalling b)) then (1 : Int) else (0 : Int)))
def m_holds_raised (how : Int) (l l' : List Int) : Nat → Int
  | 0 => 0
  | i + 1 => Builtin.bitOr (m_holds_raised how l l' i) (m_raised_by_comparing how (l.getD i 0) (l'.getD i 0))
def m_holds_found (how : Int) (l l' : List Int) : Nat → Int
  | 0 => 0
  | i + 1 => bif (!decide ((Builtin.bitAnd how (m_relation (l.getD i 0) (l'.getD i 0))) = (0 : Int))) then (Builtin.bitOr (m_holds_found how l l' i) ((1 : Int) * 2 ^ ((i : Nat) : Int).toNat)) else m_holds_found how l l' i
def m_holds (how : Int) (l l' : List Int) : List Int := bif decide ((31 : Int) < how) then m_refused 1 else [m_holds_raised how l l' 32, m_holds_found how l l' 32]
def m_is_denormal (half : Int) : Bool :=
    let magnitude := (Builtin.bitAnd half (32767 : Int))
    ((!decide (magnitude = (0 : Int))) && (decide (magnitude < (1024 : Int))))
def m_kinds_of (half : Int) : Int :=
    (bif (m_is_no_number half) then (bif (m_is_signalling half) then (128 : Int) else (1 : Int))
    else (bif (m_is_zero half) then (bif (m_is_minus half) then (4 : Int) else (2 : Int))
    else (bif (m_is_infinite half) then (bif (m_is_minus half) then (16 : Int) else (8 : Int))
    else (Builtin.bitOr (bif (m_is_denormal half) then (32 : Int) else (0 : Int)) (bif (m_is_minus half) then (64 : Int) else (0 : Int))))))
def m_is_kind_found (which : Int) (l : List Int) : Nat → Int
  | 0 => 0
  | i + 1 => bif (!decide ((Builtin.bitAnd which (m_kinds_of (l.getD i 0))) = (0 : Int))) then (Builtin.bitOr (m_is_kind_found which l i) ((1 : Int) * 2 ^ ((i : Nat) : Int).toNat)) else m_is_kind_found which l i
def m_is_kind (which : Int) (l : List Int) : List Int := [0, m_is_kind_found which l 32]
def m_where (mask : Int) (l l' : List Int) : List Int := [0] ++ (List.range 32).map fun (j : Nat) => bif decide (Builtin.bitAnd (mask / 2 ^ ((j : Nat) : Int).toNat) 1 = 1) then l'.getD j 0 else l.getD j 0
def m_two_products (way : Int) (a : Int) (b : Int) (c : Int) (d : Int) : Int × Int :=
    let first := (m_multiply way a b)
    let last := (m_multiply_and_add way c d first.2)
    ((Builtin.bitOr first.1 last.1), last.2)
def m_real_part (way : Int) (x_real : Int) (x_imaginary : Int) (y_real : Int) (y_imaginary : Int) : Int × Int :=
    (m_two_products way x_real y_real (m_negated x_imaginary) y_imaginary)
def m_imaginary_part (way : Int) (x_real : Int) (x_imaginary : Int) (y_real : Int) (y_imaginary : Int) : Int × Int :=
    (m_two_products way x_imaginary y_real x_real y_imaginary)
def m_times_part (other way : Int) (l l' : List Int) (j : Nat) : Int × Int :=
    let y := bif decide (other = 1) then m_negated (l'.getD (j / 2 * 2 + 1) 0) else l'.getD (j / 2 * 2 + 1) 0
    if j % 2 = 0 then m_real_part way (l.getD (j / 2 * 2) 0) (l.getD (j / 2 * 2 + 1) 0) (l'.getD (j / 2 * 2) 0) y else m_imaginary_part way (l.getD (j / 2 * 2) 0) (l.getD (j / 2 * 2 + 1) 0) (l'.getD (j / 2 * 2) 0) y
def m_times (other way : Int) (l l' : List Int) : List Int :=
    bif (decide ((1 : Int) < other) || decide ((3 : Int) < way)) then m_refused 32
    else m_together ((List.range 32).map (m_times_part other way l l'))
def m_out_of_range (kind : Int) : Int × Int :=
    ((1 : Int), (bif (decide (kind = (0 : Int))) then (32768 : Int) else (65535 : Int)))
def m_as_whole (kind : Int) (way : Int) (a : Int) : Int × Int :=
    (bif ((m_is_no_number a) || (m_is_infinite a)) then (m_out_of_range kind)
    else let found := (m_nearby_whole way a)
    let number := (bif (m_is_minus a) then (-found.2) else found.2)
    let least := (bif (decide (kind = (0 : Int))) then (-32768 : Int) else (0 : Int))
    (bif ((decide (number < least)) || (decide ((least + (65536 : Int)) ≤ number))) then (m_out_of_range kind)
    else (found.1, (bif (decide (number < (0 : Int))) then (number + (65536 : Int)) else number))))
def m_whole (kind way : Int) (l : List Int) : List Int :=
    bif (decide ((1 : Int) < kind) || decide ((3 : Int) < way)) then m_refused 32
    else m_together ((List.range 32).map fun (j : Nat) => m_as_whole kind way (l.getD j 0))
def m_of_whole (kind : Int) (way : Int) (z : Int) : Int × Int :=
    (bif ((decide (kind = (0 : Int))) && (decide ((32767 : Int) < z))) then (m_rounded_number way (z - (65536 : Int)))
    else (m_rounded_number way z))
def m_of (kind way : Int) (l : List Int) : List Int :=
    bif (decide ((1 : Int) < kind) || decide ((3 : Int) < way)) then m_refused 32
    else m_together ((List.range 32).map fun (j : Nat) => m_of_whole kind way (l.getD j 0))
def m_sign_of (form : Int × Int) : Int :=
    ((1 : Int) * 2 ^ ((form.1 + form.2) : Int).toNat)
def m_infinity_of (form : Int × Int) : Int :=
    ((m_sign_of form) - ((1 : Int) * 2 ^ (form.2 : Int).toNat))
def m_quiet_bit_of (form : Int × Int) : Int :=
    ((1 : Int) * 2 ^ ((form.2 - (1 : Int)) : Int).toNat)
def m_bias_of (form : Int × Int) : Int :=
    (((1 : Int) * 2 ^ ((form.1 - (1 : Int)) : Int).toNat) - (1 : Int))
def m_widened_magnitude (form : Int × Int) (a : Int) : Int :=
    (bif (m_is_zero a) then (0 : Int)
    else (bif (m_is_infinite a) then (m_infinity_of form)
    else let magnitude := (m_magnitude_units a)
    let power := (((Builtin.Int.intBits magnitude : Nat) : Int) - (1 : Int))
    let exponent := (((power - (24 : Int)) + (m_bias_of form)) - (1 : Int))
    ((exponent * 2 ^ (form.2 : Int).toNat) + ((magnitude * 2 ^ (form.2 : Int).toNat) / 2 ^ (power : Int).toNat))))
def m_widened (form : Int × Int) (a : Int) : Int × Int :=
    (m_no_number_answer [a]).elim (let magnitude := (m_widened_magnitude form a)
    ((0 : Int), (bif (m_is_minus a) then (Builtin.bitOr magnitude (m_sign_of form)) else magnitude))) (fun r6 => (r6.1, (Builtin.bitOr (m_infinity_of form) (m_quiet_bit_of form))))
def m_to_float (l : List Int) : List Int := m_together ((List.range 16).map fun (j : Nat) => m_widened (8, 23) (l.getD j 0))
def m_rounded_magnitude (form : Int × Int) (way : Int) (minus : Bool) (magnitude : Int) : Int × Int :=
    let exponent := (magnitude / 2 ^ (form.2 : Int).toNat)
    let significand := (magnitude - (exponent * 2 ^ (form.2 : Int).toNat))
    let significand' := (bif (!decide (exponent = (0 : Int))) then (significand + ((1 : Int) * 2 ^ (form.2 : Int).toNat)) else significand)
    let power := (((if (1 : Int) > exponent then (1 : Int) else exponent) - (m_bias_of form)) - form.2)
    (m_rounded_by_power way minus significand' (power + (24 : Int)))
def m_narrowed (form : Int × Int) (way : Int) (x : Int) : Int × Int :=
    let minus := (decide ((m_sign_of form) ≤ x))
    let magnitude := (Builtin.bitAnd x ((m_sign_of form) - (1 : Int)))
    (bif (decide ((m_infinity_of form) < magnitude)) then (bif (!decide ((Builtin.bitAnd magnitude (m_quiet_bit_of form)) = (0 : Int))) then ((0 : Int), (32256 : Int)) else m_invalid_answer)
    else (bif (decide (magnitude = (m_infinity_of form))) then ((0 : Int), (m_with_sign minus (31744 : Int)))
    else (m_rounded_magnitude form way minus magnitude)))
def m_of_float (way : Int) (l : List Int) : List Int :=
    bif decide ((3 : Int) < way) then m_refused 16
    else m_together ((List.range 16).map fun (j : Nat) => m_narrowed (8, 23) way (l.getD j 0))
def m_to_double (l : List Int) : List Int := m_together ((List.range 8).map fun (j : Nat) => m_widened (11, 52) (l.getD j 0))
def m_of_double (way : Int) (l : List Int) : List Int :=
    bif decide ((3 : Int) < way) then m_refused 8
    else m_together ((List.range 8).map fun (j : Nat) => m_narrowed (11, 52) way (l.getD j 0))
def m_sum_steps (way : Int) : List Int → Int × Int → Int × Int
  | [], r => r
  | x :: l, r => m_sum_steps way l (Builtin.bitOr r.1 (m_add way r.2 x).1, (m_add way r.2 x).2)
def m_sum_in_order (way : Int) (l : List Int) : Int × Int := m_sum_steps way l (0, 0)
def m_sum_of (way : Int) (l : List Int) : List Int :=
    bif (decide ((3 : Int) < way) || decide ((65536 : Int) < (l.length : Int))) then m_refused 1
    else [(m_sum_in_order way l).1, (m_sum_in_order way l).2]
def m_horner_steps (way x : Int) : List Int → Int × Int → Int × Int
  | [], r => r
  | c :: l, r => m_horner_steps way x l (Builtin.bitOr r.1 (m_multiply_and_add way r.2 x c).1, (m_multiply_and_add way r.2 x c).2)
def m_polynomial (way x : Int) (l : List Int) : Int × Int :=
    bif decide ((l.length : Int) = 0) then (0, 0)
    else m_horner_steps way x (l.reverse.drop 1) (m_multiply way (l.getD (l.length - 1) 0) 15360)
def m_poly (way x : Int) (l : List Int) : List Int :=
    bif (decide ((3 : Int) < way) || decide ((65536 : Int) < (l.length : Int))) then m_refused 1
    else [(m_polynomial way x l).1, (m_polynomial way x l).2]
def m_place (half : Int) : Int :=
    (bif (m_is_minus half) then ((m_rank half) - (1 : Int)) else (m_rank half))
def m_told (x : Int) : Int := bif m_is_no_number x then 32256 else x
def m_in_order (l : List Int) : List Int := (((Sb06Neutral.nats l).map Sb06.told).mergeSort fun (p q : Nat) => decide (Sb06.place p ≤ Sb06.place q)).map fun (y : Nat) => (y : Int)
def m_order (l : List Int) : List Int :=
    bif decide ((65536 : Int) < (l.length : Int)) then m_refused 0
    else [0] ++ m_in_order l
end Hd

namespace Hd
open PySem PyProof.Rows
/-! ### what a half is -/
theorem minus_eq (b : Nat) (hb : b < 65536) : m_is_minus (b : Int) = Sb06.negative b := by
  unfold m_is_minus Sb06.negative
  rw [Bool.eq_iff_iff, decide_eq_true_eq, beq_iff_eq]
  omega
theorem nan_eq (b : Nat) : m_is_no_number (b : Int) = Sb06.isNaN b := by
  unfold m_is_no_number Sb06.isNaN Sb06.exponent Sb06.fraction
  rw [and_mag, Bool.eq_iff_iff, decide_eq_true_eq, Bool.and_eq_true, beq_iff_eq, bne_iff_ne]
  omega
theorem inf_eq (b : Nat) : m_is_infinite (b : Int) = Sb06.isInf b := by
  unfold m_is_infinite Sb06.isInf Sb06.exponent Sb06.fraction
  rw [and_mag, Bool.eq_iff_iff, decide_eq_true_eq, Bool.and_eq_true, beq_iff_eq, beq_iff_eq]
  omega
theorem mag0 (b : Nat) : Sb06.magnitude b = 0 ↔ b % 32768 = 0 := by
  unfold Sb06.magnitude Sb06.exponent Sb06.fraction
  split
  · omega
  · have h : 0 < 2 ^ (b / 2 ^ 10 % 2 ^ 5 - 1) := Nat.two_pow_pos _
    have h2 : 0 < (2 ^ 10 + b % 2 ^ 10) * 2 ^ (b / 2 ^ 10 % 2 ^ 5 - 1) := Nat.mul_pos (by omega) h
    omega
theorem zero_eq (b : Nat) : m_is_zero (b : Int) = Sb06.isZero b := by
  unfold m_is_zero Sb06.isZero
  rw [and_mag, Bool.eq_iff_iff, decide_eq_true_eq, Bool.and_eq_true, bne_iff_ne, beq_iff_eq, mag0]
  unfold Sb06.exponent
  omega
theorem sig_eq (b : Nat) : m_is_signalling (b : Int) = Sb06.signalling b := by
  unfold m_is_signalling Sb06.signalling
  rw [nan_eq]
  congr 1
  rw [Bool.eq_iff_iff, decide_eq_true_eq, beq_iff_eq, and_quiet]
end Hd

namespace Hd
open PySem PyProof.Rows
theorem den_eq (b : Nat) : m_is_denormal (b : Int) = (Sb06.exponent b == 0 && Sb06.fraction b != 0) := by
  unfold m_is_denormal Sb06.exponent Sb06.fraction
  rw [and_mag]
  rw [Bool.eq_iff_iff, Bool.and_eq_true, Bool.and_eq_true, Bool.not_eq_true', decide_eq_false_iff_not, decide_eq_true_eq, beq_iff_eq, bne_iff_ne]
  omega
theorem kinds_eq (b : Nat) (hb : b < 65536) : m_kinds_of (b : Int) = (Sb06.kinds b : Nat) := by
  unfold m_kinds_of Sb06.kinds
  rw [nan_eq, sig_eq, zero_eq, inf_eq, minus_eq b hb, den_eq]
  have hz : Sb06.isZero b = true ↔ b % 32768 = 0 := by rw [← zero_eq]; unfold m_is_zero; rw [and_mag, decide_eq_true_eq]; omega
  have hi : Sb06.isInf b = true ↔ b % 32768 = 31744 := by rw [← inf_eq]; unfold m_is_infinite; rw [and_mag, decide_eq_true_eq]; omega
  have hn : Sb06.isNaN b = true ↔ 31744 < b % 32768 := by rw [← nan_eq]; unfold m_is_no_number; rw [and_mag, decide_eq_true_eq]; omega
  have h0 : Sb06.exponent b = b / 1024 % 32 := rfl
  have h1 : Sb06.fraction b = b % 1024 := rfl
  cases en : Sb06.isNaN b with
  | true =>
    rw [en] at hn
    have hn' := hn.mp rfl
    have z : Sb06.isZero b = false := by cases q : Sb06.isZero b with | false => rfl | true => have := hz.mp q; omega
    have i : Sb06.isInf b = false := by cases q : Sb06.isInf b with | false => rfl | true => have := hi.mp q; omega
    rw [z, i, if_neg (by omega : ¬ (Sb06.exponent b = 0 ∧ Sb06.fraction b ≠ 0)), if_neg (by rintro ⟨_, h, _⟩; omega : ¬ (Sb06.negative b = true ∧ Sb06.exponent b ≠ 31 ∧ false = false))]
    cases Sb06.signalling b <;> rfl
  | false =>
    have hn' : ¬ 31744 < b % 32768 := fun q => by have := hn.mpr q; rw [en] at this; cases this
    cases ez : Sb06.isZero b with
    | true =>
      have hz' := hz.mp ez
      have i : Sb06.isInf b = false := by cases q : Sb06.isInf b with | false => rfl | true => have := hi.mp q; omega
      rw [i, if_neg (by omega : ¬ (Sb06.exponent b = 0 ∧ Sb06.fraction b ≠ 0)), if_neg (by simp : ¬ (Sb06.negative b = true ∧ Sb06.exponent b ≠ 31 ∧ true = false))]
      cases Sb06.negative b <;> rfl
    | false =>
      have hz' : ¬ b % 32768 = 0 := fun q => by have := hz.mpr q; rw [ez] at this; cases this
      cases ei : Sb06.isInf b with
      | true =>
        have hi' := hi.mp ei
        rw [if_neg (by omega : ¬ (Sb06.exponent b = 0 ∧ Sb06.fraction b ≠ 0)), if_neg (by rintro ⟨_, h, _⟩; omega : ¬ (Sb06.negative b = true ∧ Sb06.exponent b ≠ 31 ∧ false = false))]
        cases Sb06.negative b <;> rfl
      | false =>
        have hi' : ¬ b % 32768 = 31744 := fun q => by have := hi.mpr q; rw [ei] at this; cases this
        have e31 : Sb06.exponent b ≠ 31 := by omega
        by_cases hd : Sb06.exponent b = 0
        · have hf : Sb06.fraction b ≠ 0 := by omega
          have e1 : (Sb06.exponent b == 0 && Sb06.fraction b != 0) = true := by rw [Bool.and_eq_true, beq_iff_eq, bne_iff_ne]; exact ⟨hd, hf⟩
          rw [e1, if_pos (show Sb06.exponent b = 0 ∧ Sb06.fraction b ≠ 0 from ⟨hd, hf⟩)]
          cases Sb06.negative b with
          | true => rw [if_pos (show true = true ∧ Sb06.exponent b ≠ 31 ∧ false = false from ⟨rfl, e31, rfl⟩)]; simp [show Builtin.bitOr 32 64 = 96 by decide +kernel]
          | false => rw [if_neg (show ¬ (false = true ∧ Sb06.exponent b ≠ 31 ∧ false = false) by simp)]; simp [show Builtin.bitOr 32 0 = 32 by decide +kernel]
        · have e1 : (Sb06.exponent b == 0 && Sb06.fraction b != 0) = false := by rw [Bool.and_eq_false_iff, beq_eq_false_iff_ne]; exact .inl hd
          rw [e1, if_neg (by omega : ¬ (Sb06.exponent b = 0 ∧ Sb06.fraction b ≠ 0))]
          cases Sb06.negative b with
          | true => rw [if_pos (show true = true ∧ Sb06.exponent b ≠ 31 ∧ false = false from ⟨rfl, e31, rfl⟩)]; simp [show Builtin.bitOr 0 64 = 64 by decide +kernel]
          | false => rw [if_neg (show ¬ (false = true ∧ Sb06.exponent b ≠ 31 ∧ false = false) by simp)]; simp [show Builtin.bitOr 0 0 = 0 by decide +kernel]
theorem found_eq (which : Nat) (l : List Int) (h : ∀ x ∈ l, 0 ≤ x ∧ x ≤ 65535) : ∀ i, m_is_kind_found (which : Int) l i = ((accB (fun j => (Sb06.kinds (Sb06.at_ (Sb06Neutral.nats l) j) &&& which) != 0) i : Nat) : Int)
  | 0 => rfl
  | i + 1 => by
    have ih := found_eq which l h i
    obtain ⟨e1, e2⟩ := getD_nat h i
    unfold m_is_kind_found accB
    rw [ih, e1, kinds_eq _ e2, and_nat, one_shl, or_nat, or_pow _ _ (accB_lt _ i), Nat.and_comm]
    generalize Sb06.kinds (Sb06.at_ (Sb06Neutral.nats l) i) &&& which = t
    by_cases ht : t = 0
    · subst ht
      simp
    · have e3 : decide ((t : Int) = 0) = false := decide_eq_false (by omega)
      have e4 : (t != 0) = true := bne_iff_ne.mpr ht
      rw [e3, e4]
      rfl
theorem is_kind_eq (which : Int) (l : List Int) (h0 : 0 ≤ which) (h : ∀ x ∈ l, 0 ≤ x ∧ x ≤ 65535) : m_is_kind which l = PySb06.is_kind which l := by
  obtain ⟨n, rfl⟩ : ∃ n : Nat, which = (n : Int) := ⟨which.toNat, by omega⟩
  unfold m_is_kind
  rw [found_eq n l h 32]
  show _ = [((0 : Nat) : Int), ((Sb06.bits 32 fun j => (Sb06.kinds (Sb06.at_ (Sb06Neutral.nats l) j) &&& (n : Int).toNat) != 0 : Nat) : Int)]
  rw [bits_acc, Int.toNat_natCast]
  rfl
end Hd

namespace Hd
open PySem PySem.Spec PyProof.Rows L2 Hw
def top (i : Nat) : Stmt := PySem.Challenge.pw_halfrowsdesk_s03_is_kind.main.body.getD i (.Pass ⟨0, 0, 0, 0⟩)
structure Tx (mg : Str → Option Value) (K : PySem.W.Frag) : Prop where
  c_SIGN : ∃ t, mg "SIGN" = some (.int (32768) t)
  c_MAGNITUDE : ∃ t, mg "MAGNITUDE" = some (.int (32767) t)
  c_QUIET : ∃ t, mg "QUIET" = some (.int (512) t)
  c_LEAST_NORMAL : ∃ t, mg "LEAST_NORMAL" = some (.int (1024) t)
  c_INFINITY : ∃ t, mg "INFINITY" = some (.int (31744) t)
  c_LANES : ∃ t, mg "LANES" = some (.int (32) t)
  b_range : mg "range" = none

def den_is_minus : List V → V → Prop := fun vs v => ∃ (half : Int), vs = [.int half] ∧ v = .bl (m_is_minus half)
abbrev s_is_minus : Stmt := top 6
theorem sc_is_minus : FnScope ["half"] ["half"] (defScope s_is_minus) := ⟨rfl, rfl, rfl, by decide +kernel, rfl, by decide +kernel, by decide +kernel⟩
theorem fn_is_minus {M : Mo} (T : Tx M.mg M.K) (D : Df M.K M.mg "is_minus" s_is_minus ["half"])  : Fn M 1 "is_minus" (spP den_is_minus) := by
  refine D.fn sc_is_minus (fun vs H Q E h => ?_) (fun X H vs Q E cx h => ?_)
  · obtain ⟨v, ⟨half, rfl, _⟩, _⟩ := h
    rfl
  · obtain ⟨v, ⟨half, rfl, rfl⟩, q⟩ := h
    have v_half : ∀ {σ : L2.St} {H : Hp} {pos : Pos} {v : V}, σ[0]? = some (some v) → VE X σ H (.Name "half" pos) v := fun h => ve_var cx 0 rfl (by first | exact .inl rfl | exact .inr (.inl rfl)) rfl rfl h
    have g_SIGN : ∀ {σ : L2.St} {H : Hp} {pos : Pos}, VE X σ H (.Name "SIGN" pos) (.int (32768)) := ve_glob cx rfl rfl T.c_SIGN
    show WSs X (defBody s_is_minus) _ [some (V.int half)] H
    have key : Rp X [some (V.int half)] H (defBody s_is_minus) (V.bl (m_is_minus half)) :=
      (rp_ret (ve_ge (v_half rfl) g_SIGN))
    exact key _ q

def den_is_zero : List V → V → Prop := fun vs v => ∃ (half : Int), vs = [.int half] ∧ v = .bl (m_is_zero half)
abbrev s_is_zero : Stmt := top 7
theorem sc_is_zero : FnScope ["half"] ["half"] (defScope s_is_zero) := ⟨rfl, rfl, rfl, by decide +kernel, rfl, by decide +kernel, by decide +kernel⟩
theorem fn_is_zero {M : Mo} (T : Tx M.mg M.K) (D : Df M.K M.mg "is_zero" s_is_zero ["half"])  : Fn M 1 "is_zero" (spP den_is_zero) := by
  refine D.fn sc_is_zero (fun vs H Q E h => ?_) (fun X H vs Q E cx h => ?_)
  · obtain ⟨v, ⟨half, rfl, _⟩, _⟩ := h
    rfl
  · obtain ⟨v, ⟨half, rfl, rfl⟩, q⟩ := h
    have v_half : ∀ {σ : L2.St} {H : Hp} {pos : Pos} {v : V}, σ[0]? = some (some v) → VE X σ H (.Name "half" pos) v := fun h => ve_var cx 0 rfl (by first | exact .inl rfl | exact .inr (.inl rfl)) rfl rfl h
    have g_MAGNITUDE : ∀ {σ : L2.St} {H : Hp} {pos : Pos}, VE X σ H (.Name "MAGNITUDE" pos) (.int (32767)) := ve_glob cx rfl rfl T.c_MAGNITUDE
    show WSs X (defBody s_is_zero) _ [some (V.int half)] H
    have key : Rp X [some (V.int half)] H (defBody s_is_zero) (V.bl (m_is_zero half)) :=
      (rp_ret (ve_eqI (ve_and (v_half rfl) g_MAGNITUDE) ve_int))
    exact key _ q

def den_is_infinite : List V → V → Prop := fun vs v => ∃ (half : Int), vs = [.int half] ∧ v = .bl (m_is_infinite half)
abbrev s_is_infinite : Stmt := top 8
theorem sc_is_infinite : FnScope ["half"] ["half"] (defScope s_is_infinite) := ⟨rfl, rfl, rfl, by decide +kernel, rfl, by decide +kernel, by decide +kernel⟩
theorem fn_is_infinite {M : Mo} (T : Tx M.mg M.K) (D : Df M.K M.mg "is_infinite" s_is_infinite ["half"])  : Fn M 1 "is_infinite" (spP den_is_infinite) := by
  refine D.fn sc_is_infinite (fun vs H Q E h => ?_) (fun X H vs Q E cx h => ?_)
  · obtain ⟨v, ⟨half, rfl, _⟩, _⟩ := h
    rfl
  · obtain ⟨v, ⟨half, rfl, rfl⟩, q⟩ := h
    have v_half : ∀ {σ : L2.St} {H : Hp} {pos : Pos} {v : V}, σ[0]? = some (some v) → VE X σ H (.Name "half" pos) v := fun h => ve_var cx 0 rfl (by first | exact .inl rfl | exact .inr (.inl rfl)) rfl rfl h
    have g_MAGNITUDE : ∀ {σ : L2.St} {H : Hp} {pos : Pos}, VE X σ H (.Name "MAGNITUDE" pos) (.int (32767)) := ve_glob cx rfl rfl T.c_MAGNITUDE
    have g_INFINITY : ∀ {σ : L2.St} {H : Hp} {pos : Pos}, VE X σ H (.Name "INFINITY" pos) (.int (31744)) := ve_glob cx rfl rfl T.c_INFINITY
    show WSs X (defBody s_is_infinite) _ [some (V.int half)] H
    have key : Rp X [some (V.int half)] H (defBody s_is_infinite) (V.bl (m_is_infinite half)) :=
      (rp_ret (ve_eqI (ve_and (v_half rfl) g_MAGNITUDE) g_INFINITY))
    exact key _ q

def den_is_denormal : List V → V → Prop := fun vs v => ∃ (half : Int), vs = [.int half] ∧ v = .bl (m_is_denormal half)
abbrev s_is_denormal : Stmt := top 9
theorem sc_is_denormal : FnScope ["half", "magnitude"] ["half"] (defScope s_is_denormal) := ⟨rfl, rfl, rfl, by decide +kernel, rfl, by decide +kernel, by decide +kernel⟩
theorem fn_is_denormal {M : Mo} (T : Tx M.mg M.K) (D : Df M.K M.mg "is_denormal" s_is_denormal ["half"])  : Fn M 1 "is_denormal" (spP den_is_denormal) := by
  refine D.fn sc_is_denormal (fun vs H Q E h => ?_) (fun X H vs Q E cx h => ?_)
  · obtain ⟨v, ⟨half, rfl, _⟩, _⟩ := h
    rfl
  · obtain ⟨v, ⟨half, rfl, rfl⟩, q⟩ := h
    have v_half : ∀ {σ : L2.St} {H : Hp} {pos : Pos} {v : V}, σ[0]? = some (some v) → VE X σ H (.Name "half" pos) v := fun h => ve_var cx 0 rfl (by first | exact .inl rfl | exact .inr (.inl rfl)) rfl rfl h
    have v_magnitude : ∀ {σ : L2.St} {H : Hp} {pos : Pos} {v : V}, σ[1]? = some (some v) → VE X σ H (.Name "magnitude" pos) v := fun h => ve_var cx 1 rfl (by first | exact .inl rfl | exact .inr (.inl rfl)) rfl rfl h
    have l_magnitude : (defScope s_is_denormal).names.lookup ("magnitude" : Str) = some .local := rfl
    have g_MAGNITUDE : ∀ {σ : L2.St} {H : Hp} {pos : Pos}, VE X σ H (.Name "MAGNITUDE" pos) (.int (32767)) := ve_glob cx rfl rfl T.c_MAGNITUDE
    have g_LEAST_NORMAL : ∀ {σ : L2.St} {H : Hp} {pos : Pos}, VE X σ H (.Name "LEAST_NORMAL" pos) (.int (1024)) := ve_glob cx rfl rfl T.c_LEAST_NORMAL
    show WSs X (defBody s_is_denormal) _ [some (V.int half), none] H
    have key : Rp X [some (V.int half), none] H (defBody s_is_denormal) (V.bl (m_is_denormal half)) :=
      (rp_set cx 1 rfl l_magnitude (fun _ => rfl) (ve_and (v_half rfl) g_MAGNITUDE)
      (rp_ret (ve_andV (ve_neI (v_magnitude rfl) ve_int) (fun h1 => (ve_one (ve_lt (v_magnitude rfl) g_LEAST_NORMAL))))))
    exact key _ q

def den_is_no_number : List V → V → Prop := fun vs v => ∃ (half : Int), vs = [.int half] ∧ v = .bl (m_is_no_number half)
abbrev s_is_no_number : Stmt := top 10
theorem sc_is_no_number : FnScope ["half"] ["half"] (defScope s_is_no_number) := ⟨rfl, rfl, rfl, by decide +kernel, rfl, by decide +kernel, by decide +kernel⟩
theorem fn_is_no_number {M : Mo} (T : Tx M.mg M.K) (D : Df M.K M.mg "is_no_number" s_is_no_number ["half"])  : Fn M 1 "is_no_number" (spP den_is_no_number) := by
  refine D.fn sc_is_no_number (fun vs H Q E h => ?_) (fun X H vs Q E cx h => ?_)
  · obtain ⟨v, ⟨half, rfl, _⟩, _⟩ := h
    rfl
  · obtain ⟨v, ⟨half, rfl, rfl⟩, q⟩ := h
    have v_half : ∀ {σ : L2.St} {H : Hp} {pos : Pos} {v : V}, σ[0]? = some (some v) → VE X σ H (.Name "half" pos) v := fun h => ve_var cx 0 rfl (by first | exact .inl rfl | exact .inr (.inl rfl)) rfl rfl h
    have g_MAGNITUDE : ∀ {σ : L2.St} {H : Hp} {pos : Pos}, VE X σ H (.Name "MAGNITUDE" pos) (.int (32767)) := ve_glob cx rfl rfl T.c_MAGNITUDE
    have g_INFINITY : ∀ {σ : L2.St} {H : Hp} {pos : Pos}, VE X σ H (.Name "INFINITY" pos) (.int (31744)) := ve_glob cx rfl rfl T.c_INFINITY
    show WSs X (defBody s_is_no_number) _ [some (V.int half)] H
    have key : Rp X [some (V.int half)] H (defBody s_is_no_number) (V.bl (m_is_no_number half)) :=
      (rp_ret (ve_gt (ve_and (v_half rfl) g_MAGNITUDE) g_INFINITY))
    exact key _ q

def den_is_signalling : List V → V → Prop := fun vs v => ∃ (half : Int), vs = [.int half] ∧ v = .bl (m_is_signalling half)
abbrev s_is_signalling : Stmt := top 11
theorem sc_is_signalling : FnScope ["half"] ["half"] (defScope s_is_signalling) := ⟨rfl, rfl, rfl, by decide +kernel, rfl, by decide +kernel, by decide +kernel⟩
theorem fn_is_signalling {M : Mo} (T : Tx M.mg M.K) (D : Df M.K M.mg "is_signalling" s_is_signalling ["half"]) (F_is_no_number : Fn M 1 "is_no_number" (spP den_is_no_number)) : Fn M 2 "is_signalling" (spP den_is_signalling) := by
  refine D.fn sc_is_signalling (fun vs H Q E h => ?_) (fun X H vs Q E cx h => ?_)
  · obtain ⟨v, ⟨half, rfl, _⟩, _⟩ := h
    rfl
  · obtain ⟨v, ⟨half, rfl, rfl⟩, q⟩ := h
    have v_half : ∀ {σ : L2.St} {H : Hp} {pos : Pos} {v : V}, σ[0]? = some (some v) → VE X σ H (.Name "half" pos) v := fun h => ve_var cx 0 rfl (by first | exact .inl rfl | exact .inr (.inl rfl)) rfl rfl h
    have g_QUIET : ∀ {σ : L2.St} {H : Hp} {pos : Pos}, VE X σ H (.Name "QUIET" pos) (.int (512)) := ve_glob cx rfl rfl T.c_QUIET
    have k_is_no_number : (defScope s_is_signalling).names.lookup ("is_no_number" : Str) = some .globalImplicit := rfl
    show WSs X (defBody s_is_signalling) _ [some (V.int half)] H
    have key : Rp X [some (V.int half)] H (defBody s_is_signalling) (V.bl (m_is_signalling half)) :=
      (rp_ret (ve_andV (ve_call cx F_is_no_number (by decide) k_is_no_number rfl rfl (va_cons rfl (v_half rfl) va_nil) ⟨_, rfl, rfl⟩) (fun h1 => (ve_one (ve_eqI (ve_and (v_half rfl) g_QUIET) ve_int)))))
    exact key _ q

def den_kinds_of : List V → V → Prop := fun vs v => ∃ (half : Int), vs = [.int half] ∧ v = .int (m_kinds_of half)
abbrev s_kinds_of : Stmt := top 14
theorem sc_kinds_of : FnScope ["half"] ["half"] (defScope s_kinds_of) := ⟨rfl, rfl, rfl, by decide +kernel, rfl, by decide +kernel, by decide +kernel⟩
theorem fn_kinds_of {M : Mo} (T : Tx M.mg M.K) (D : Df M.K M.mg "kinds_of" s_kinds_of ["half"]) (F_is_no_number : Fn M 1 "is_no_number" (spP den_is_no_number)) (F_is_zero : Fn M 1 "is_zero" (spP den_is_zero)) (F_is_infinite : Fn M 1 "is_infinite" (spP den_is_infinite)) (F_is_signalling : Fn M 2 "is_signalling" (spP den_is_signalling)) (F_is_minus : Fn M 1 "is_minus" (spP den_is_minus)) (F_is_denormal : Fn M 1 "is_denormal" (spP den_is_denormal)) : Fn M 3 "kinds_of" (spP den_kinds_of) := by
  refine D.fn sc_kinds_of (fun vs H Q E h => ?_) (fun X H vs Q E cx h => ?_)
  · obtain ⟨v, ⟨half, rfl, _⟩, _⟩ := h
    rfl
  · obtain ⟨v, ⟨half, rfl, rfl⟩, q⟩ := h
    have v_half : ∀ {σ : L2.St} {H : Hp} {pos : Pos} {v : V}, σ[0]? = some (some v) → VE X σ H (.Name "half" pos) v := fun h => ve_var cx 0 rfl (by first | exact .inl rfl | exact .inr (.inl rfl)) rfl rfl h
    have k_is_no_number : (defScope s_kinds_of).names.lookup ("is_no_number" : Str) = some .globalImplicit := rfl
    have k_is_zero : (defScope s_kinds_of).names.lookup ("is_zero" : Str) = some .globalImplicit := rfl
    have k_is_infinite : (defScope s_kinds_of).names.lookup ("is_infinite" : Str) = some .globalImplicit := rfl
    have k_is_signalling : (defScope s_kinds_of).names.lookup ("is_signalling" : Str) = some .globalImplicit := rfl
    have k_is_minus : (defScope s_kinds_of).names.lookup ("is_minus" : Str) = some .globalImplicit := rfl
    have k_is_denormal : (defScope s_kinds_of).names.lookup ("is_denormal" : Str) = some .globalImplicit := rfl
    show WSs X (defBody s_kinds_of) _ [some (V.int half)] H
    have key : Rp X [some (V.int half)] H (defBody s_kinds_of) (V.int (m_kinds_of half)) :=
      (rp_ifI (vt_val (ve_call cx F_is_no_number (by decide) k_is_no_number rfl rfl (va_cons rfl (v_half rfl) va_nil) ⟨_, rfl, rfl⟩) (fun _ _ => rfl)) (fun h1 => (rp_ret (ve_ifI (vt_val (ve_call cx F_is_signalling (by decide) k_is_signalling rfl rfl (va_cons rfl (v_half rfl) va_nil) ⟨_, rfl, rfl⟩) (fun _ _ => rfl)) (fun h2 => ve_int) (fun h2 => ve_int))))
      (fun h1 => (rp_ifI (vt_val (ve_call cx F_is_zero (by decide) k_is_zero rfl rfl (va_cons rfl (v_half rfl) va_nil) ⟨_, rfl, rfl⟩) (fun _ _ => rfl)) (fun h3 => (rp_ret (ve_ifI (vt_val (ve_call cx F_is_minus (by decide) k_is_minus rfl rfl (va_cons rfl (v_half rfl) va_nil) ⟨_, rfl, rfl⟩) (fun _ _ => rfl)) (fun h4 => ve_int) (fun h4 => ve_int))))
      (fun h3 => (rp_ifI (vt_val (ve_call cx F_is_infinite (by decide) k_is_infinite rfl rfl (va_cons rfl (v_half rfl) va_nil) ⟨_, rfl, rfl⟩) (fun _ _ => rfl)) (fun h5 => (rp_ret (ve_ifI (vt_val (ve_call cx F_is_minus (by decide) k_is_minus rfl rfl (va_cons rfl (v_half rfl) va_nil) ⟨_, rfl, rfl⟩) (fun _ _ => rfl)) (fun h6 => ve_int) (fun h6 => ve_int))))
      (fun h5 => (rp_ret (ve_or (ve_ifI (vt_val (ve_call cx F_is_denormal (by decide) k_is_denormal rfl rfl (va_cons rfl (v_half rfl) va_nil) ⟨_, rfl, rfl⟩) (fun _ _ => rfl)) (fun h7 => ve_int) (fun h7 => ve_int)) (ve_ifI (vt_val (ve_call cx F_is_minus (by decide) k_is_minus rfl rfl (va_cons rfl (v_half rfl) va_nil) ⟨_, rfl, rfl⟩) (fun _ _ => rfl)) (fun h8 => ve_int) (fun h8 => ve_int))))))))))
    exact key _ q

def den_is_kind (K : PySem.W.Frag) : List V → Hp → List Int → Prop := fun vs H r => ∃ (which : Int) (la : Addr) (l : List Int), vs = [.int which, .ref la] ∧ SqL K H la (l.map V.int) ∧ l.length = 32 ∧ r = m_is_kind which l
def sp_is_kind (K : PySem.W.Frag) : Sp := spR (den_is_kind K) RL
abbrev s_is_kind : Stmt := top 15
theorem sc_is_kind : FnScope ["which", "a", "found", "lane"] ["which", "a"] (defScope s_is_kind) := ⟨rfl, rfl, rfl, by decide +kernel, rfl, by decide +kernel, by decide +kernel⟩
theorem fn_is_kind {M : Mo} (T : Tx M.mg M.K) {f : Addr} {fd : FuncData} (F : Fun M.K "is_kind" "is_kind" s_is_kind f fd) (F_kinds_of : Fn M 3 "kinds_of" (spP den_kinds_of)) : FnOk M.P M.w M.K M.mg M.base CX0 4 f fd ["which", "a"] (sp_is_kind M.K) := by
  refine fun_ok F sc_is_kind (fun vs H Q E h => ?_) (fun X H vs Q E cx h => ?_)
  · obtain ⟨r, ⟨which, la, l, rfl, _⟩, _⟩ := h
    rfl
  · obtain ⟨r, ⟨which, la, l, rfl, hS, hl, rfl⟩, q⟩ := h
    have v_which : ∀ {σ : L2.St} {H : Hp} {pos : Pos} {v : V}, σ[0]? = some (some v) → VE X σ H (.Name "which" pos) v := fun h => ve_var cx 0 rfl (by first | exact .inl rfl | exact .inr (.inl rfl)) rfl rfl h
    have v_a : ∀ {σ : L2.St} {H : Hp} {pos : Pos} {v : V}, σ[1]? = some (some v) → VE X σ H (.Name "a" pos) v := fun h => ve_var cx 1 rfl (by first | exact .inl rfl | exact .inr (.inl rfl)) rfl rfl h
    have v_found : ∀ {σ : L2.St} {H : Hp} {pos : Pos} {v : V}, σ[2]? = some (some v) → VE X σ H (.Name "found" pos) v := fun h => ve_var cx 2 rfl (by first | exact .inl rfl | exact .inr (.inl rfl)) rfl rfl h
    have v_lane : ∀ {σ : L2.St} {H : Hp} {pos : Pos} {v : V}, σ[3]? = some (some v) → VE X σ H (.Name "lane" pos) v := fun h => ve_var cx 3 rfl (by first | exact .inl rfl | exact .inr (.inl rfl)) rfl rfl h
    have l_found : (defScope s_is_kind).names.lookup ("found" : Str) = some .local := rfl
    have l_lane : (defScope s_is_kind).names.lookup ("lane" : Str) = some .local := rfl
    have g_LANES : ∀ {σ : L2.St} {H : Hp} {pos : Pos}, VE X σ H (.Name "LANES" pos) (.int (32)) := ve_glob cx rfl rfl T.c_LANES
    have k_kinds_of : (defScope s_is_kind).names.lookup ("kinds_of" : Str) = some .globalImplicit := rfl
    have k_range : (defScope s_is_kind).names.lookup ("range" : Str) = some .globalImplicit := rfl
    have hSX : SqL X.K H la (l.map V.int) := by rw [cx.K]; exact hS
    show WSs X (defBody s_is_kind) _ [some (V.int which), some (V.ref la), none, none] H
    refine ⟨_, pss_cons WS.ps WSs.pss, ws_set cx 2 rfl l_found (fun _ => rfl) (ve_int _ ?_)⟩
    refine rp_forRange (m := 32) cx 3 rfl l_lane k_range T.b_range rfl (fun _ _ => rfl) g_LANES (by decide) (fun i u => [some (V.int which), some (V.ref la), some (V.int (m_is_kind_found which l i)), u]) none rfl (fun i u hi => ?_) (fun u => ?_)
    · refine nx_cons ?_ nx_nil
      exact ns_ifI cx 2 rfl l_found (fun _ => rfl) (vt_neI (ve_and (v_which rfl) (ve_call cx F_kinds_of (by decide) k_kinds_of rfl rfl (va_cons rfl (ve_ixL (v_a rfl) (v_lane rfl) (fun _ _ => rfl) hSX (at_int hl hi)) va_nil) ⟨_, rfl, rfl⟩)) ve_int) (fun _ => ve_or (v_found rfl) (ve_shl ve_int (v_lane rfl) ⟨by omega, by omega, one_lt_1000⟩)) rfl
    · exact rt_ret (er_lst (l := [0, m_is_kind_found which l 32]) (va_cons rfl ve_int (va_cons rfl (v_found rfl) va_nil)) (by show 2 ≤ 1000; decide)) _ q

theorem main_mk {P : Program} {w : World} {K : PySem.W.Frag} {h : Heap} {mg : Str → Option Value} {fa f : Addr} {od an : Option Addr} {sl : Array (Option Value)} {oc kV dc pm cd ct : Value} (X : K.In h) (G : h.Ns mainGlobals mg) (hfa : mg "is_kind" = some (.ref fa)) (T : Tx mg K) (D_is_minus : Df K mg "is_minus" s_is_minus ["half"]) (D_is_zero : Df K mg "is_zero" s_is_zero ["half"]) (D_is_infinite : Df K mg "is_infinite" s_is_infinite ["half"]) (D_is_denormal : Df K mg "is_denormal" s_is_denormal ["half"]) (D_is_no_number : Df K mg "is_no_number" s_is_no_number ["half"]) (D_is_signalling : Df K mg "is_signalling" s_is_signalling ["half"]) (D_kinds_of : Df K mg "kinds_of" s_kinds_of ["half"])
    (a : PySem.W.nsIn K mainGlobals "is_kind" = some (some (.ref f))) (l : K.lookup f = some ⟨oc, od, .func (PySem.W.fnOf "is_kind" "is_kind" (defArgs s_is_kind) (defBody s_is_kind) (defScope s_is_kind) .none kV dc pm an cd ct), sl⟩) (c : PySem.W.codeIn K cd "is_kind" = true) (k : PySem.W.keepIn K (.ref f) = true) :
    ∃ fd : FuncData, (∀ (s : Shared) (us : List Value), us.length = (["which", "a"] : List Str).length → BindsTo s fd ⟨us, []⟩ ((["which", "a"] : List Str).zip us)) ∧ ∀ base : Heap, K.In base → base.Ns mainGlobals mg → FnOk P w K mg base CX0 4 fa fd ["which", "a"] (sp_is_kind K) := by
  have e := hfa.symm.trans (PySem.W.mg_of X G a)
  cases e
  refine ⟨PySem.W.fnOf "is_kind" "is_kind" (defArgs s_is_kind) (defBody s_is_kind) (defScope s_is_kind) .none kV dc pm an cd ct, fun s us hu => match us, hu with | [_, _], _ => .of_eq rfl, fun base _ _ => ?_⟩
  let M : Mo := ⟨P, w, K, mg, base⟩
  have F_is_minus : Fn M 1 "is_minus" (spP den_is_minus) := fn_is_minus (M := M) T D_is_minus 
  have F_is_zero : Fn M 1 "is_zero" (spP den_is_zero) := fn_is_zero (M := M) T D_is_zero 
  have F_is_infinite : Fn M 1 "is_infinite" (spP den_is_infinite) := fn_is_infinite (M := M) T D_is_infinite 
  have F_is_denormal : Fn M 1 "is_denormal" (spP den_is_denormal) := fn_is_denormal (M := M) T D_is_denormal 
  have F_is_no_number : Fn M 1 "is_no_number" (spP den_is_no_number) := fn_is_no_number (M := M) T D_is_no_number 
  have F_is_signalling : Fn M 2 "is_signalling" (spP den_is_signalling) := fn_is_signalling (M := M) T D_is_signalling F_is_no_number
  have F_kinds_of : Fn M 3 "kinds_of" (spP den_kinds_of) := fn_kinds_of (M := M) T D_kinds_of F_is_no_number F_is_zero F_is_infinite F_is_signalling F_is_minus F_is_denormal
  exact fn_is_kind (M := M) T (fun_mk (st := s_is_kind) l c k) F_kinds_of
end Hd

open PySem PySem.W PyProof.Rows
set_option maxRecDepth 100000 in
set_option maxHeartbeats 0 in
theorem PySem.Challenge.cw_halfrowsdesk_s03_is_kind_holds : PySem.Challenge.rw_halfrowsdesk_s03_is_kind.Holds := by
  w_on; k_headS; (case hw => exact ⟨[.int 0, .list [.int 0, .int 0, .int 0, .int 0, .int 0, .int 0, .int 0, .int 0, .int 0, .int 0, .int 0, .int 0, .int 0, .int 0, .int 0, .int 0, .int 0, .int 0, .int 0, .int 0, .int 0, .int 0, .int 0, .int 0, .int 0, .int 0, .int 0, .int 0, .int 0, .int 0, .int 0, .int 0]], by decide +kernel, by decide +kernel⟩)
  k_fillS
  refine L2.walk_specK (r := PySem.Challenge.rw_halfrowsdesk_s03_is_kind) (k := 4) (CX := L2.CX0) (ps := ["which", "a"]) (sp := Hd.sp_is_kind) (by decide +kernel) rfl rfl ⟨rfl, by decide, by decide⟩ (fun w h Y => PySem.W.kIn_of Y) ?F ?S (fun _ _ _ _ z => z)
  case F =>
    intro w mg fa h Y KX G hmg
    have D_is_minus : Hw.Df (L2.KOf KX) mg "is_minus" Hd.s_is_minus ["half"] := by
      dsimp only [L2.KOf]
      refine' Hw.df_mk KX G ?a ?l ?c ?k (fun _ _ _ _ _ _ us hl => match us, hl with | [_], _ => rfl)
      (case a => k_is); (case l => k_is); (case c => k_is); (case k => k_is)
    have D_is_zero : Hw.Df (L2.KOf KX) mg "is_zero" Hd.s_is_zero ["half"] := by
      dsimp only [L2.KOf]
      refine' Hw.df_mk KX G ?a ?l ?c ?k (fun _ _ _ _ _ _ us hl => match us, hl with | [_], _ => rfl)
      (case a => k_is); (case l => k_is); (case c => k_is); (case k => k_is)
    have D_is_infinite : Hw.Df (L2.KOf KX) mg "is_infinite" Hd.s_is_infinite ["half"] := by
      dsimp only [L2.KOf]
      refine' Hw.df_mk KX G ?a ?l ?c ?k (fun _ _ _ _ _ _ us hl => match us, hl with | [_], _ => rfl)
      (case a => k_is); (case l => k_is); (case c => k_is); (case k => k_is)
    have D_is_denormal : Hw.Df (L2.KOf KX) mg "is_denormal" Hd.s_is_denormal ["half"] := by
      dsimp only [L2.KOf]
      refine' Hw.df_mk KX G ?a ?l ?c ?k (fun _ _ _ _ _ _ us hl => match us, hl with | [_], _ => rfl)
      (case a => k_is); (case l => k_is); (case c => k_is); (case k => k_is)
    have D_is_no_number : Hw.Df (L2.KOf KX) mg "is_no_number" Hd.s_is_no_number ["half"] := by
      dsimp only [L2.KOf]
      refine' Hw.df_mk KX G ?a ?l ?c ?k (fun _ _ _ _ _ _ us hl => match us, hl with | [_], _ => rfl)
      (case a => k_is); (case l => k_is); (case c => k_is); (case k => k_is)
    have D_is_signalling : Hw.Df (L2.KOf KX) mg "is_signalling" Hd.s_is_signalling ["half"] := by
      dsimp only [L2.KOf]
      refine' Hw.df_mk KX G ?a ?l ?c ?k (fun _ _ _ _ _ _ us hl => match us, hl with | [_], _ => rfl)
      (case a => k_is); (case l => k_is); (case c => k_is); (case k => k_is)
    have D_kinds_of : Hw.Df (L2.KOf KX) mg "kinds_of" Hd.s_kinds_of ["half"] := by
      dsimp only [L2.KOf]
      refine' Hw.df_mk KX G ?a ?l ?c ?k (fun _ _ _ _ _ _ us hl => match us, hl with | [_], _ => rfl)
      (case a => k_is); (case l => k_is); (case c => k_is); (case k => k_is)
    have T : Hd.Tx mg (L2.KOf KX) := by
      dsimp only [L2.KOf]
      refine' ⟨Hw.const_mk KX G ?c_SIGN, Hw.const_mk KX G ?c_MAGNITUDE, Hw.const_mk KX G ?c_QUIET, Hw.const_mk KX G ?c_LEAST_NORMAL, Hw.const_mk KX G ?c_INFINITY, Hw.const_mk KX G ?c_LANES, PySem.W.mg_none_of KX G ?b_range⟩
      (case c_SIGN => k_is); (case c_MAGNITUDE => k_is); (case c_QUIET => k_is); (case c_LEAST_NORMAL => k_is); (case c_INFINITY => k_is); (case c_LANES => k_is); (case b_range => k_is)
    refine' Hd.main_mk KX G hmg T D_is_minus D_is_zero D_is_infinite D_is_denormal D_is_no_number D_is_signalling D_kinds_of ?a ?l ?c ?k
    (case a => k_is); (case l => k_is); (case c => k_is); (case k => k_is)
  case S =>
    intro K H xs a hO hwi hask hx
    obtain ⟨which, l, u⟩ := a
    cases hx with
    | cons h1 h2 =>
      cases h2 with
      | cons h3 h4 =>
        cases h4
        cases h1
        cases h3 with
        | lst hs ha =>
          have e := L2.ints_dw l _ ha
          subst e
          have q : (Codec.inInt 0 4294967295 which && ((Codec.inLen 32 32 l && l.all (Codec.inInt 0 65535)) && true)) = true := hwi
          simp only [Bool.and_eq_true, List.all_eq_true] at q
          obtain ⟨q1, ⟨q2, q3⟩, _⟩ := q
          have hl := Codec.inNat_iff.mp q2
          have hi := Codec.inInt_iff.mp q1
          refine ⟨Hd.m_is_kind which l, ⟨which, _, l, rfl, hs, by omega, rfl⟩, fun v H' s r => ?_⟩
          obtain ⟨t, rfl, ht⟩ := r
          rw [Hd.is_kind_eq which l hi.1 fun x hx => Codec.inInt_iff.mp (q3 x hx)] at ht
          exact .lst (L2.SqL.of ht) (L2.dw_ints _)
#print axioms PySem.Challenge.cw_halfrowsdesk_s03_is_kind_holds

