import PyProof.Rows.All
import Wide.All
import OpenK.AllK
import Wide.FinOn
import PyProof.EqAt
import PyProof.EqKinds
import PyProof.TupleCall
import KE.BitLaws
import KE.LcSums
import Open.SpecLaws
import KE.OsHead
import KE.OsGo
import PySem.Challenge.RW_halfrowsdesk_s06_whole
set_option Elab.async false
set_option linter.all false
set_option maxRecDepth 100000
namespace L2
open PySem PySem.Spec PyProof.Rows
abbrev Key := Sum Int Str
def keyIs : Key → Value → Bool
  | .inl k, v => Value.isInt k v
  | .inr x, v => Value.isStrOf x v
def keyH (w : World) : Key → Int
  | .inl k => hashInt k
  | .inr x => hashStr w x
theorem keyIs_shape : ∀ {k : Key} {v : Value}, keyIs k v = true → (∃ i t, k = Sum.inl i ∧ v = Value.int i t) ∨ (∃ x t, k = Sum.inr x ∧ v = Value.str x t)
  | .inl i, v, h => by
    obtain ⟨t, e⟩ := Value.isInt_shape (k := i) (v := v) h
    exact .inl ⟨i, t, rfl, e⟩
  | .inr x, v, h => by
    obtain ⟨t, e⟩ := Value.isStrOf_shape (x := x) (v := v) h
    exact .inr ⟨x, t, rfl, e⟩
theorem key_ll (a b : Int) : decide ((Sum.inl a : Key) = Sum.inl b) = (a == b) := by
  by_cases e : a = b
  · subst e; simp
  · have h : ¬ (Sum.inl a : Key) = Sum.inl b := fun q => e (Sum.inl.inj q)
    rw [decide_eq_false h]
    exact (beq_eq_false_iff_ne.mpr e).symm
theorem key_rr (a b : Str) : decide ((Sum.inr a : Key) = Sum.inr b) = decide (a = b) := by
  by_cases e : a = b
  · subst e; simp
  · have h : ¬ (Sum.inr a : Key) = Sum.inr b := fun q => e (Sum.inr.inj q)
    rw [decide_eq_false h, decide_eq_false e]
theorem key_lr (a : Int) (b : Str) : decide ((Sum.inl a : Key) = Sum.inr b) = false := decide_eq_false (fun q => nomatch q)
theorem key_rl (a : Str) (b : Int) : decide ((Sum.inr a : Key) = Sum.inl b) = false := decide_eq_false (fun q => nomatch q)
def mixKind (prog : Program) (w : World) : PySem.KeyKind prog w Key where
  is := keyIs
  hash := keyH w
  inj := fun v a b ha hb => by
    rcases keyIs_shape ha with ⟨i, t, rfl, rfl⟩ | ⟨x, t, rfl, rfl⟩
    · rcases keyIs_shape hb with ⟨j, u, rfl, e⟩ | ⟨y, u, rfl, e⟩
      · injection e with e1 _; rw [e1]
      · exact nomatch e
    · rcases keyIs_shape hb with ⟨j, u, rfl, e⟩ | ⟨y, u, rfl, e⟩
      · exact nomatch e
      · injection e with e1 _; rw [e1]
  byValue := fun k v h => by
    rcases keyIs_shape h with ⟨i, t, rfl, rfl⟩ | ⟨x, t, rfl, rfl⟩ <;> rfl
  pyHash := fun hv h => by
    rcases keyIs_shape hv with ⟨i, t, rfl, rfl⟩ | ⟨x, t, rfl, rfl⟩
    · exact wpAny_pyHash_int h
    · exact wpAny_pyHash_str h
  eqBool := fun hu hv h => by
    rcases keyIs_shape hu with ⟨i, t, rfl, rfl⟩ | ⟨x, t, rfl, rfl⟩
    · rcases keyIs_shape hv with ⟨j, u, rfl, rfl⟩ | ⟨y, u, rfl, rfl⟩
      · rw [key_ll] at h; exact wpAny_eqBool_int h
      · rw [key_lr] at h; exact SeqAt.EqAt.int_str i t y u _ _ _ _ h
    · rcases keyIs_shape hv with ⟨j, u, rfl, rfl⟩ | ⟨y, u, rfl, rfl⟩
      · rw [key_rl] at h; exact SeqAt.EqAt.str_int x t j u _ _ _ _ h
      · rw [key_rr] at h; exact wpAny_eqBool_str h
  «strs» := fun k x t v h => by
    rcases keyIs_shape h with ⟨i, u, rfl, e⟩ | ⟨y, u, rfl, e⟩
    · exact nomatch e
    · injection e with e1 _
      subst e1
      cases v <;> rfl
end L2
namespace L2
open PySem PySem.Spec PyProof.Rows
inductive V where
  | non | bl (b : Bool) | int (i : Int) | str (x : Str) | byt (b : Array UInt8) | flt (b : UInt64) | ref (a : Addr) | ty (n : String)
  deriving DecidableEq
def RelV : V → Value → Prop
  | .non, u => u = Value.none
  | .bl b, u => u = Value.bool b
  | .int i, u => ∃ t, u = Value.int i t
  | .str x, u => ∃ t, u = Value.str x t
  | .byt b, u => ∃ t, u = Value.bytes b t
  | .flt b, u => ∃ t, u = Value.float b t
  | .ref a, u => u = Value.ref a
  | .ty n, u => u = Value.type n
abbrev Vals : List V → List Value → Prop := Paired RelV
theorem Vals.length {xs : List V} {us : List Value} (r : Vals xs us) : xs.length = us.length := Paired.length r
theorem Vals.get : ∀ {xs : List V} {us : List Value} {i : Nat} {x : V}, Vals xs us → xs[i]? = some x → ∃ u, us[i]? = some u ∧ RelV x u
  | _, _, _, _, .nil, e => by simp at e
  | _, _, 0, _, .cons r _, e => by simp at e; subst e; exact ⟨_, rfl, r⟩
  | _, _, i + 1, x, .cons _ t, e => by
    obtain ⟨u, h1, h2⟩ := Vals.get (i := i) (x := x) t (by simpa using e)
    exact ⟨u, by simpa using h1, h2⟩
theorem Vals.set {x : V} {u : Value} (r : RelV x u) : ∀ {xs : List V} {us : List Value} (i : Nat), Vals xs us → Vals (xs.set i x) (us.set i u)
  | _, _, _, .nil => .nil
  | _, _, 0, .cons _ t => .cons r t
  | _, _, i + 1, .cons q t => .cons q (Vals.set r i t)
theorem Vals.append : ∀ {xs ys : List V} {us ws : List Value}, Vals xs us → Vals ys ws → Vals (xs ++ ys) (us ++ ws)
  | _, _, _, _, .nil, s => s
  | _, _, _, _, .cons r t, s => .cons r (Vals.append t s)
theorem Vals.take : ∀ {xs : List V} {us : List Value} (n : Nat), Vals xs us → Vals (xs.take n) (us.take n)
  | _, _, 0, _ => .nil
  | _, _, _ + 1, .nil => .nil
  | _, _, n + 1, .cons r t => .cons r (Vals.take n t)
theorem Vals.drop : ∀ {xs : List V} {us : List Value} (n : Nat), Vals xs us → Vals (xs.drop n) (us.drop n)
  | _, _, 0, r => r
  | _, _, _ + 1, .nil => .nil
  | _, _, n + 1, .cons _ t => Vals.drop n t
def RelO : Option V → Option Value → Prop
  | some v, some u => RelV v u
  | none, none => True
  | _, _ => False
def KV {κ : Type} : List (κ × V) → List (κ × Value) → Prop := Paired fun (p : κ × V) (q : κ × Value) => p.1 = q.1 ∧ RelV p.2 q.2
def kV : Key → V
  | .inl i => .int i
  | .inr x => .str x
inductive HO where
  /-- a list -/
  | lst (xs : List V)
  /-- a tuple (never changes) -/
  | tup (xs : List V)
  /-- a dict whose keys are ints and texts; one whose keys are tuples of ints and texts (the empty one is both) -/
  | dK (kvs : List (Key × V)) | dT (kvs : List (List Key × V))
  /-- a set of ints: its members, its size -/
  | set (S : Int → Bool) (n : Nat)
  /-- an instance of the class at C, its dict at dx, its attributes -/
  | ins (C dx : Addr) (fs : List (Str × V))
  /-- the dict of the instance at x -/
  | own (x : Addr)
  /-- the dict of an exception -/
  | xd (fs : List (Str × V))
  /-- a bound method, f of x -/
  | met (f x : Addr)
  /-- a range object lo, lo + 1, .. below hi -/
  | rng (lo hi : Int)
  /-- a thing that is known to the object (the script; a dict while a loop walks it): read, never written while it is so -/
  | frz (o : Obj) (u : HO)
  /-- a code object's table -/
  | tbl (ps : Array Value)
  /-- any other thing, by what is true of its one object (a def of one's own: SetO a S n := HO.ext fun h => ..) -/
  | ext (φ : Heap → Prop)
abbrev Hp := Addr → Option HO
def upd (H : Hp) (a : Addr) (o : HO) : Hp := fun b => if b = a then some o else H b
theorem upd_same {H : Hp} {a : Addr} {o : HO} : upd H a o a = some o := by unfold upd; rw [if_pos rfl]
theorem upd_ne {H : Hp} {a b : Addr} {o : HO} (h : b ≠ a) : upd H a o b = H b := by unfold upd; rw [if_neg h]
theorem ne_of {H : Hp} {a b : Addr} {o u : HO} (h : H a = some o) (h' : H b = some u) (d : o ≠ u) : a ≠ b := by
  intro e; subst e; rw [h] at h'; exact d (Option.some.inj h')
theorem ne_of_none {H : Hp} {a b : Addr} {o : HO} (h : H a = some o) (h' : H b = none) : a ≠ b := by
  intro e; subst e; rw [h] at h'; cases h'
section
variable (P : Program) (w : World)
def ObjOk (H : Hp) (h : Heap) (a : Addr) : HO → Prop
  | .lst xs => xs.length ≤ sizeLine ∧ ∃ (its : List Value) (n : Nat), Vals xs its ∧ h.get? a = some { cls := .type "list", data := .seq its.toArray n }
  | .tup xs => xs.length ≤ sizeLine ∧ ∃ its : List Value, Vals xs its ∧ IsTup h a its.toArray
  | .dK kvs => kvs.length ≤ sizeLine ∧ (a == sysModules) = false ∧ ∃ vs, KV kvs vs ∧ h.DictOf (mixKind P w) a vs
  | .dT kvs => kvs.length ≤ sizeLine ∧ (a == sysModules) = false ∧ ∃ xs : List (List Key × Addr × Value),
      Paired (fun (p : List Key × V) (q : List Key × Addr × Value) => p.1 = q.1 ∧ H q.2.1 = some (.tup (p.1.map kV)) ∧ RelV p.2 q.2.2) kvs xs ∧
      ∃ o es ep, h.get? a = some o ∧ o.ExactDict ∧ o.data = .dict es ep ∧ es.toList = xs.map (entryOfKey (tupleKind (mixKind P w))) ∧ (xs.map (·.1)).Nodup
  | .set S n => h.SetOf (intKind P w) a S n
  | .ins C dx fs => H dx = some (.own a) ∧ fs.length ≤ 1000 ∧ dx ≠ a ∧ h.get? a = some (PySem.W.instObj C dx) ∧
      ∃ mA, h.Ns1 dx mA ∧ (∀ f, RelO (fs.lookup f) (mA f)) ∧ PySem.Within mA (fs.map (·.1))
  | .own _ => ∃ o, h.get? a = some o
  | .xd fs => ∃ mA, h.Ns1 a mA ∧ ∀ f, RelO (fs.lookup f) (mA f)
  | .rng lo hi => ∃ t u v, h.get? a = some { cls := .type "range", data := .fields #[.int lo t, .int hi u, .int 1 v] }
  | .frz o u => h.get? a = some o ∧ ObjOk H h a u
  | .tbl ps => h.get? a = some { cls := .none, data := .fields ps }
  | .met f x => h.get? a = some (PySem.W.methodObj (.ref f) (.ref x))
  | .ext φ => φ h ∧ (∃ o, h.get? a = some o) ∧ ∀ h1 h2 : Heap, φ h1 → (∀ o, h1.get? a = some o → h2.get? a = some o) → φ h2
def HOk (H : Hp) (h : Heap) : Prop := ∀ a o, H a = some o → ObjOk P w H h a o
end
section
variable {P : Program} {w : World} {H H' : Hp} {h h' : Heap} {a : Addr} {o : HO}
theorem ObjOk.lt (x : ObjOk P w H h a o) : a < h.objs.size := by
  cases o with
  | lst xs => obtain ⟨_, _, _, _, e⟩ := x; exact Heap.lt_size e
  | tup xs => obtain ⟨_, _, _, p⟩ := x; exact p.lt
  | dK kvs => obtain ⟨_, _, _, _, o, _, _, e, _⟩ := x; exact Heap.lt_size e
  | dT kvs => obtain ⟨_, _, _, _, o, _, _, e, _⟩ := x; exact Heap.lt_size e
  | set S n => obtain ⟨o, _, _, _, e, _⟩ := x; exact Heap.lt_size e
  | ins C dx fs => obtain ⟨_, _, _, e, _⟩ := x; exact Heap.lt_size e
  | own y => obtain ⟨_, e⟩ := x; exact Heap.lt_size e
  | xd fs => obtain ⟨_, ⟨_, _, _, e, _⟩, _⟩ := x; exact Heap.lt_size e
  | rng lo hi => obtain ⟨_, _, _, e⟩ := x; exact Heap.lt_size e
  | frz ob u => obtain ⟨e, _⟩ := x; exact Heap.lt_size e
  | tbl ps => exact Heap.lt_size (show h.get? a = some _ from x)
  | met f y => exact Heap.lt_size (show h.get? a = some _ from x)
  | ext φ => obtain ⟨_, ⟨_, e⟩, _⟩ := x; exact Heap.lt_size e
theorem Paired.mapP {α β : Type} {F G : α → β → Prop} : ∀ {l₁ : List α} {l₂ : List β}, Paired F l₁ l₂ → (∀ a b, F a b → G a b) → Paired G l₁ l₂
  | _, _, .nil, _ => .nil
  | _, _, .cons r t, f => .cons (f _ _ r) (Paired.mapP t f)
theorem ObjOk.stay (x : ObjOk P w H h a o) (k : ∀ b u, (b = a ∨ H b = some (.own a)) → h.get? b = some u → h'.get? b = some u)
    (ho : ∀ b, H b = some (.own a) → H' b = some (.own a)) (ht : ∀ b xs, H b = some (.tup xs) → H' b = some (.tup xs)) : ObjOk P w H' h' a o := by
  induction o with
  | lst xs => obtain ⟨z, its, n, r, e⟩ := x; exact ⟨z, its, n, r, k _ _ (.inl rfl) e⟩
  | tup xs => obtain ⟨z, its, r, ob, e, c⟩ := x; exact ⟨z, its, r, ob, k _ _ (.inl rfl) e, c⟩
  | dK kvs => obtain ⟨z, y, vs, r, ob, es, ep, e, c⟩ := x; exact ⟨z, y, vs, r, ob, es, ep, k _ _ (.inl rfl) e, c⟩
  | dT kvs =>
    obtain ⟨z, y, xs, r, ob, es, ep, e, c⟩ := x
    exact ⟨z, y, xs, Paired.mapP r fun p q z => ⟨z.1, ht _ _ z.2.1, z.2.2⟩, ob, es, ep, k _ _ (.inl rfl) e, c⟩
  | set S n => obtain ⟨ob, es, ep, t, e, c⟩ := x; exact ⟨ob, es, ep, t, k _ _ (.inl rfl) e, c⟩
  | ins C dx fs =>
    obtain ⟨d, z, ne, e, mA, ⟨od, es, ep, e2, c⟩, r⟩ := x
    exact ⟨ho _ d, z, ne, k _ _ (.inl rfl) e, mA, ⟨od, es, ep, k _ _ (.inr d) e2, c⟩, r⟩
  | own y => obtain ⟨ob, e⟩ := x; exact ⟨ob, k _ _ (.inl rfl) e⟩
  | xd fs => obtain ⟨mA, ⟨od, es, ep, e, c⟩, r⟩ := x; exact ⟨mA, ⟨od, es, ep, k _ _ (.inl rfl) e, c⟩, r⟩
  | rng lo hi => obtain ⟨t, u, v, e⟩ := x; exact ⟨t, u, v, k _ _ (.inl rfl) e⟩
  | frz ob u ih => obtain ⟨e, q⟩ := x; exact ⟨k _ _ (.inl rfl) e, ih q⟩
  | tbl ps =>
    have e : h.get? a = some { cls := .none, data := .fields ps } := x
    show h'.get? a = some { cls := .none, data := .fields ps }
    exact k a _ (.inl rfl) e
  | met f y =>
    have e : h.get? a = some (PySem.W.methodObj (.ref f) (.ref y)) := x
    show h'.get? a = some (PySem.W.methodObj (.ref f) (.ref y))
    exact k a _ (.inl rfl) e
  | ext φ => obtain ⟨p, ⟨o, e⟩, st⟩ := x; exact ⟨st _ _ p fun o q => k _ _ (.inl rfl) q, ⟨o, k _ _ (.inl rfl) e⟩, st⟩
theorem HOk.lt (x : HOk P w H h) (e : H a = some o) : a < h.objs.size := (x a o e).lt
theorem HOk.fresh (x : HOk P w H h) (e : h.objs.size ≤ a) : H a = none := by
  cases q : H a with
  | none => rfl
  | some u => exact absurd (Nat.lt_of_lt_of_le (x.lt q) e) (Nat.lt_irrefl _)
theorem HOk.kept (x : HOk P w H h) (k : ∀ b u, h.get? b = some u → h'.get? b = some u) : HOk P w H h' := fun a o e =>
  (x a o e).stay (fun b u _ q => k b u q) (fun _ q => q) fun _ _ q => q
theorem HOk.laid (x : HOk P w H h) (k : ∀ b u, h.get? b = some u → h'.get? b = some u) (hp : h.objs.size ≤ a) (new : ObjOk P w (upd H a o) h' a o) : HOk P w (upd H a o) h' := fun b u e => by
  have hn := x.fresh hp
  by_cases hb : b = a
  · subst hb; rw [upd_same] at e; cases e; exact new
  · rw [upd_ne hb] at e
    exact (x b u e).stay (fun c v _ q => k c v q) (fun c q => by rw [upd_ne (ne_of_none q hn)]; exact q) fun c xs q => by rw [upd_ne (ne_of_none q hn)]; exact q
end
def Rd (H : Hp) (a : Addr) (u : HO) : Prop := H a = some u ∨ ∃ o, H a = some (.frz o u)
theorem Rd.of {H : Hp} {a : Addr} {u : HO} (h : H a = some u) : Rd H a u := .inl h
theorem Rd.ok {P : Program} {w : World} {H : Hp} {h : Heap} {a : Addr} {u : HO} (r : Rd H a u) (x : HOk P w H h) : ObjOk P w H h a u := by
  rcases r with r | ⟨o, r⟩
  · exact x a u r
  · obtain ⟨_, q⟩ := x a _ r
    exact q
def Mut : Option HO → Prop
  | some (.lst _) => True
  | some (.dK _) => True
  | some (.dT _) => True
  | some (.set _ _) => True
  | some (.ins _ _ _) => True
  | some (.ext _) => True
  | _ => False
section
variable {P : Program} {w : World} {H : Hp} {h h' : Heap} {x e : Addr} {o' : HO}
theorem HOk.write (ok : HOk P w H h) (mu : Mut (H x)) (he : e = x ∨ H e = some (.own x)) (k : ∀ b u, b ≠ e → h.get? b = some u → h'.get? b = some u) (heo : ∃ u, h'.get? e = some u)
    (new : ObjOk P w (upd H x o') h' x o') : HOk P w (upd H x o') h' := fun b u q => by
  have nown : ∀ c y, H c = some (.own y) → c ≠ x := fun c y r z => by subst z; rw [r] at mu; exact mu
  have ntup : ∀ c xs, H c = some (.tup xs) → c ≠ x := fun c xs r z => by subst z; rw [r] at mu; exact mu
  by_cases hb : b = x
  · subst hb; rw [upd_same] at q; cases q; exact new
  · rw [upd_ne hb] at q
    by_cases hbe : b = e
    · have q' : H b = some (.own x) := by
        rcases he with z | z
        · exact absurd (hbe.trans z) hb
        · rw [hbe]; exact z
      rw [q] at q'; cases q'
      obtain ⟨v, hv⟩ := heo
      exact ⟨v, by rw [hbe]; exact hv⟩
    · refine (ok b u q).stay (fun c v hc r => k c v ?_ r) (fun c r => by rw [upd_ne (nown c b r)]; exact r) fun c xs r => by rw [upd_ne (ntup c xs r)]; exact r
      rcases hc with rfl | hc
      · exact hbe
      · rintro rfl
        rcases he with z | z
        · exact nown c b hc z
        · rw [hc] at z; cases z; exact hb rfl
end
structure Un (fs ex : List Addr) (H H' : Hp) (h h' : Heap) : Prop where
  keep : ∀ b o, h.get? b = some o → H b = none → b ∉ fs → b ∉ ex → h'.get? b = some o
  slot : ∀ b o, h.get? b = some o → H b = none → b ∈ fs → b ∉ ex → ∃ sl, h'.get? b = some { o with slots := sl }
  free : ∀ b o, h.get? b = some o → H b = none → b ∉ ex → H' b = none
  there : ∀ b o, h.get? b = some o → b ∉ ex → ∃ o', h'.get? b = some o'
  tups : ∀ b xs, H b = some (.tup xs) → H' b = some (.tup xs)
  frzs : ∀ b o u, H b = some (.frz o u) → H' b = some (.frz o u)
  tbls : ∀ b ps, H b = some (.tbl ps) → ∃ more, H' b = some (.tbl (ps ++ more))
section
variable {fs fs' ex ex' : List Addr} {H H1 H2 : Hp} {h h1 h2 h' : Heap} {a x e : Addr} {o : HO}
theorem Un.any (u : Un fs ex H H1 h h1) {b : Addr} {ob : Obj} (q : h.get? b = some ob) (n : H b = none) (hx : b ∉ ex) : ∃ sl, h1.get? b = some { ob with slots := sl } := by
  by_cases hb : b ∈ fs
  · exact u.slot b ob q n hb hx
  · exact ⟨ob.slots, u.keep b ob q n hb hx⟩
theorem Un.trans (a : Un fs ex H H1 h h1) (b : Un fs ex H1 H2 h1 h2) : Un fs ex H H2 h h2 where
  keep := fun c ob q n hc hx => b.keep c ob (a.keep c ob q n hc hx) (a.free c ob q n hx) hc hx
  slot := fun c ob q n hc hx => by
    obtain ⟨sl, e1⟩ := a.slot c ob q n hc hx
    obtain ⟨sl', e2⟩ := b.slot c _ e1 (a.free c ob q n hx) hc hx
    exact ⟨sl', e2⟩
  free := fun c ob q n hx => by
    obtain ⟨o', e1⟩ := a.there c ob q hx
    exact b.free c o' e1 (a.free c ob q n hx) hx
  there := fun c ob q hx => by
    obtain ⟨o', e1⟩ := a.there c ob q hx
    exact b.there c o' e1 hx
  tups := fun c xs q => b.tups c xs (a.tups c xs q)
  frzs := fun c ob xs q => b.frzs c ob xs (a.frzs c ob xs q)
  tbls := fun c ps q => by
    obtain ⟨m1, e1⟩ := a.tbls c ps q
    obtain ⟨m2, e2⟩ := b.tbls c _ e1
    exact ⟨m1 ++ m2, by rw [e2, Array.append_assoc]⟩
theorem Un.kept (k : ∀ b u, h.get? b = some u → h'.get? b = some u) : Un fs ex H H h h' :=
  ⟨fun b ob q _ _ _ => k b ob q, fun b ob q _ _ _ => ⟨ob.slots, k b ob q⟩, fun _ _ _ n _ => n, fun b ob q _ => ⟨ob, k b ob q⟩, fun _ _ q => q, fun _ _ _ q => q, fun _ ps q => ⟨#[], by rw [q]; simp⟩⟩
theorem Un.refl : Un fs ex H H h h := Un.kept fun _ _ q => q
theorem Un.laid (k : ∀ b u, h.get? b = some u → h'.get? b = some u) (hp : h.objs.size ≤ a) (hn : H a = none) : Un fs ex H (upd H a o) h h' where
  keep := fun b u q _ _ _ => k b u q
  slot := fun b u q _ _ _ => ⟨u.slots, k b u q⟩
  free := fun b u q n _ => by rw [upd_ne (Nat.ne_of_lt (Nat.lt_of_lt_of_le (Heap.lt_size q) hp))]; exact n
  there := fun b u q _ => ⟨u, k b u q⟩
  tups := fun b xs q => by rw [upd_ne (ne_of_none q hn)]; exact q
  frzs := fun b u xs q => by rw [upd_ne (ne_of_none q hn)]; exact q
  tbls := fun b ps q => ⟨#[], by rw [upd_ne (ne_of_none q hn), q]; simp⟩
theorem Un.write (mu : Mut (H x)) (he : e = x ∨ H e = some (.own x)) (k : ∀ b u, b ≠ e → h.get? b = some u → h'.get? b = some u) (heo : ∃ u, h'.get? e = some u) : Un fs ex H (upd H x o) h h' := by
  have hx : ∀ b, H b = none → b ≠ x := fun b n z => by subst z; rw [n] at mu; exact mu
  have hb : ∀ b, H b = none → b ≠ e := fun b n z => by
    subst z
    rcases he with r | r
    · exact hx b n r
    · rw [n] at r; cases r
  have hm : ∀ b u, H b = some u → ¬ Mut (some u) → b ≠ x := fun b u q nm z => by subst z; rw [q] at mu; exact nm mu
  refine ⟨fun b u q n _ _ => k b u (hb b n) q, fun b u q n _ _ => ⟨u.slots, k b u (hb b n) q⟩, fun b u q n _ => by rw [upd_ne (hx b n)]; exact n, fun b u q _ => ?_,
    fun b xs q => by rw [upd_ne (hm b _ q fun z => z)]; exact q, fun b u xs q => by rw [upd_ne (hm b _ q fun z => z)]; exact q, fun b ps q => ⟨#[], by rw [upd_ne (hm b _ q fun z => z), q]; simp⟩⟩
  by_cases hbe : b = e
  · subst hbe; exact heo
  · exact ⟨u, k b u hbe q⟩
theorem Un.mono (u : Un fs ex H H1 h h1) (hs : ∀ b ∈ fs, b ∈ fs') (hx : ∀ b ∈ ex, b ∈ ex') : Un fs' ex' H H1 h h1 :=
  ⟨fun b ob q n hb he => u.keep b ob q n (fun z => hb (hs b z)) fun z => he (hx b z), fun _ _ q n _ he => u.any q n fun z => he (hx _ z), fun b ob q n he => u.free b ob q n fun z => he (hx b z), fun b ob q he => u.there b ob q fun z => he (hx b z), u.tups, u.frzs, u.tbls⟩
end
def trk (h : Heap) (H : Hp) : List Addr := (List.range h.objs.size).filter fun a => (H a).isSome
def hidT (h : Heap) (H : Hp) : Heap := PySem.W.hideAll h (trk h H)
theorem hidT_size (h : Heap) (H : Hp) : (hidT h H).objs.size = h.objs.size := PySem.W.hideAll_size _ _
theorem hidT_get {h : Heap} {H : Hp} {b : Addr} {o : Obj} (e : h.get? b = some o) (n : H b = none) : (hidT h H).get? b = some o :=
  PySem.W.hideAll_get _ e fun hm => by
    have q : (H b).isSome = true := (List.mem_filter.mp hm).2
    rw [n] at q; simp at q
theorem of_hidT {h : Heap} {H : Hp} {b : Addr} {o : Obj} (e : (hidT h H).get? b = some o) : h.get? b = some o ∧ H b = none := by
  have e' : h.get? b = some o := PySem.W.of_hideAll (trk h H) e
  refine ⟨e', ?_⟩
  cases q : H b with
  | none => rfl
  | some x =>
    have hm : b ∈ trk h H := List.mem_filter.mpr ⟨List.mem_range.mpr (Heap.lt_size e'), by simp [q]⟩
    have z : (hidT h H).get? b = none := PySem.W.hideAll_none (trk h H) hm
    rw [z] at e; cases e
def allNews (g h : Heap) (L : Addr) : List (Addr × Obj) := (List.range h.objs.size).filterMap fun a => if a = L ∨ (g.get? a).isSome = true then none else (h.get? a).map fun o => (a, o)
def rest (g h : Heap) (L d : Addr) : List (Addr × Obj) := (allNews g h L).filter fun p => decide (p.1 ≠ d)
end L2
namespace L2
open PySem PySem.Spec PyProof.Rows
structure Mod (K : PySem.W.Frag) (mg : Str → Option Value) (base : Heap) : Prop where
  kin : K.In base
  glob : base.Ns mainGlobals mg
  blt : ∃ mb, base.Ns builtinsNs mb ∧ ∀ x : Str, x ≠ "__name__" → mb x = bootBuiltins x
  nolimit : base.NoLimit
structure Cx where
  prog : Program
  w : World
  K : PySem.W.Frag
  mg : Str → Option Value
  base : Heap
  A : Around
  N : List Str
  s_0 : Shared
  H_0 : Hp
  env : Env
  outer : List Env
  stack : List Env
  ex : List Addr
  fn : Str → Bool
  calm : Bool
  pn : List (Addr × Obj)
  xe : Value → Shared → Prop
def frs (l : List Env) : List Addr := l.filterMap (·.frame)
abbrev Cx.fs (X : Cx) : List Addr := frs X.outer
def Vis (sc : Scope) (x : Str) : Prop := sc.names.lookup x = some .local ∨ sc.names.lookup x = some .cell ∨ sc.names.lookup x = some .free
def Loc (sc : Scope) (x : Str) : Prop := sc.names.lookup x = some .local ∨ sc.names.lookup x = some .cell
def Look (env : Env) (h : Heap) (m : Str → Option Value) (x : Str) (u : Value) : Prop :=
  (env.kindOf x = some .local ∧ m x = some u) ∨ ((env.kindOf x = some .cell ∨ env.kindOf x = some .free) ∧ ∃ c, env.cells.lookup x = some c ∧ h.IsCell c (some u))
structure Cx.Ok (X : Cx) : Prop where
  mod : Mod X.K X.mg X.base
  kind : X.env.scope.kind = .function
  glob : X.env.globals = mainGlobals
  blt : X.env.builtins = builtinsNs
  above : X.s_0.heap.objs.size ≤ X.env.locals
  inj : ∀ x y c, X.env.cells.lookup x = some c → X.env.cells.lookup y = some c → x = y
  has : ∀ x, (X.env.kindOf x = some .cell ∨ X.env.kindOf x = some .free) → ∃ c, X.env.cells.lookup x = some c
  cab : ∀ x c, X.fn x = true → X.env.cells.lookup x = some c → X.s_0.heap.objs.size ≤ c
  hd : X.calm = true → X.A.handled = none
  frames : X.A.frames = some X.stack
  stk : X.stack = X.outer ∨ (X.stack = X.env :: X.outer ∧ X.env.frame = some X.env.locals)
  exf : ∀ b ∈ X.ex, b ≠ X.env.locals ∧ ∀ x c, X.env.cells.lookup x = some c → c ≠ b
  bs : ∀ b o, X.base.get? b = some o → X.s_0.heap.get? b = some o ∧ X.H_0 b = none
  bsz : X.base.objs.size ≤ X.s_0.heap.objs.size
  noex : ∀ b o, X.base.get? b = some o → b ∉ X.ex
  exfs : ∀ b ∈ X.ex, b ∉ X.fs
  funs : X.s_0.heap.FunFrames X.base X.outer
  frf : ∀ b ∈ X.fs, X.H_0 b = none
structure Inv (X : Cx) (pins : List (Addr × Obj)) (σ : List (Option V)) (H : Hp) (s : Shared) : Prop where
  ok : X.Ok
  os : s.os = X.s_0.os
  bare : AllBare s.gens
  base : Un X.fs X.ex X.H_0 H X.s_0.heap s.heap
  loc : ∃ m, s.heap.Ns X.env.locals m ∧ ∀ (i : Nat) (x : Str) (v : V), X.N[i]? = some x → σ[i]? = some (some v) → Vis X.env.scope x → ∃ u, RelV v u ∧ Look X.env s.heap m x u
  cell : ∀ x c, X.env.cells.lookup x = some c → ∃ v, s.heap.IsCell c v
  free : H X.env.locals = none
  freeC : ∀ x c, X.env.cells.lookup x = some c → H c = none
  pin : ∀ p ∈ X.pn ++ pins, s.heap.get? p.1 = some p.2 ∧ H p.1 = none ∧ p.1 ≠ X.env.locals ∧ p.1 ∉ X.fs ∧ ∀ v, p.2.data ≠ .cell v
  hok : HOk X.prog X.w H s.heap
  len : σ.length = X.N.length
section
variable {X : Cx} {pins : List (Addr × Obj)} {σ : List (Option V)} {H H' : Hp} {s : Shared} {h' : Heap}
theorem Cx.Ok.nofr (ok : X.Ok) {b : Addr} {o : Obj} (e : X.base.get? b = some o) : b ∉ X.fs := fun hb => by
  have := (ok.funs.mem hb).1
  rw [e] at this; cases this
theorem Inv.bs (I : Inv X pins σ H s) : ∀ b o, X.base.get? b = some o → s.heap.get? b = some o ∧ H b = none := fun b o e =>
  ⟨I.base.keep b o (I.ok.bs b o e).1 (I.ok.bs b o e).2 (I.ok.nofr e) (I.ok.noex b o e), I.base.free b o (I.ok.bs b o e).1 (I.ok.bs b o e).2 (I.ok.noex b o e)⟩
theorem Inv.bk (I : Inv X pins σ H s) : ∀ b o, X.base.get? b = some o → s.heap.get? b = some o := fun b o e => (I.bs b o e).1
theorem Inv.mod (I : Inv X pins σ H s) : Mod X.K X.mg X.base := I.ok.mod
theorem Inv.kIn (I : Inv X pins σ H s) : X.K.In s.heap := I.ok.mod.kin.keeps I.bk
theorem Inv.nolimit (I : Inv X pins σ H s) : s.heap.NoLimit := I.ok.mod.nolimit.keeps I.bk
theorem Inv.lt (I : Inv X pins σ H s) : X.env.locals < s.heap.objs.size := let ⟨_, hn, _⟩ := I.loc; hn.lt
theorem Inv.sz (I : Inv X pins σ H s) : X.s_0.heap.objs.size ≤ s.heap.objs.size := Nat.le_trans I.ok.above (Nat.le_of_lt I.lt)
theorem Inv.nofs (I : Inv X pins σ H s) {a : Addr} (h : s.heap.objs.size ≤ a) : a ∉ X.fs := fun hb => by
  obtain ⟨_, o, ho, _⟩ := I.ok.funs.mem hb
  exact absurd (Nat.lt_of_lt_of_le (Heap.lt_size ho) (Nat.le_trans I.sz h)) (Nat.lt_irrefl _)
theorem Inv.cne (I : Inv X pins σ H s) : ∀ x c, X.env.cells.lookup x = some c → c ≠ X.env.locals := fun x c e z => by
  obtain ⟨v, o, ho, hd⟩ := I.cell x c e
  obtain ⟨m, ⟨o', es, ep, ho', hd', _⟩, _⟩ := I.loc
  rw [z, ho'] at ho; cases ho; rw [hd'] at hd; cases hd
theorem Inv.funs (I : Inv X pins σ H s) : s.heap.FunFrames X.base X.outer := by
  have all : ∀ (l : List Env), (∀ b ∈ frs l, b ∈ X.fs) → X.s_0.heap.FunFrames X.base l → s.heap.FunFrames X.base l := by
    intro l
    induction l with
    | nil => intro _ _; trivial
    | cons env r ih =>
      intro hs hl
      obtain ⟨hk, ⟨L, o, hf, hn, ho, hd⟩, hr⟩ := hl
      have hL : L ∈ X.fs := hs L (by unfold frs; rw [List.filterMap_cons, hf]; exact List.mem_cons_self)
      obtain ⟨sl, e⟩ := I.base.slot L o ho (I.ok.frf L hL) hL fun z => I.ok.exfs L z hL
      exact ⟨hk, ⟨L, _, hf, hn, e, hd⟩, ih (fun b hb => hs b (by unfold frs; rw [List.filterMap_cons, hf]; exact List.mem_cons_of_mem _ hb)) hr⟩
  exact all X.outer (fun _ hb => hb) I.ok.funs
theorem Inv.stack (I : Inv X pins σ H s) : s.heap.FunFrames X.base X.stack := by
  rcases I.ok.stk with e | ⟨e, hf⟩
  · rw [e]; exact I.funs
  · rw [e]
    obtain ⟨m, hn, _⟩ := I.loc
    refine .cons (by rw [I.ok.kind]; decide) hf hn ?_ I.funs
    exact Heap.get?_none_of_le (Nat.le_trans I.ok.bsz I.ok.above)
theorem Inv.stkSub (I : Inv X pins σ H s) : ∀ b ∈ frs X.stack, b ∈ X.env.locals :: X.fs := fun b hb => by
  rcases I.ok.stk with e | ⟨e, hf⟩
  · rw [e] at hb; exact List.mem_cons_of_mem _ hb
  · rw [e] at hb
    unfold frs at hb
    rw [List.filterMap_cons, hf] at hb
    exact hb
theorem Inv.stkFree (I : Inv X pins σ H s) : ∀ b ∈ frs X.stack, H b = none := fun b hb => by
  rcases List.mem_cons.mp (I.stkSub b hb) with e | hb
  · rw [e]; exact I.free
  · obtain ⟨_, o, ho, _⟩ := I.ok.funs.mem hb
    exact I.base.free b o ho (I.ok.frf b hb) fun z => I.ok.exfs b z hb
theorem Inv.step {g' : Array GenState} {t' : Nat} {d' : Drawn} {ch : List Addr} (I : Inv X pins σ H s)
    (hch : ∀ b ∈ ch, (b ∈ X.ex ∨ X.s_0.heap.objs.size ≤ b) ∧ b ≠ X.env.locals ∧ (∀ x c, X.env.cells.lookup x = some c → c ≠ b) ∧ ∀ p ∈ X.pn ++ pins, p.1 ≠ b)
    (keep : ∀ b o, b ≠ X.env.locals → b ∉ X.fs → b ∉ ch → s.heap.get? b = some o → H b = none → h'.get? b = some o)
    (slot : ∀ b o, b ≠ X.env.locals → b ∈ X.fs → b ∉ ch → s.heap.get? b = some o → H b = none → ∃ sl, h'.get? b = some { o with slots := sl }) (free : ∀ b o, b ∉ ch → s.heap.get? b = some o → H b = none → H' b = none)
    (there : ∀ b o, b ∉ ch → s.heap.get? b = some o → ∃ o', h'.get? b = some o')
    (tups : ∀ b xs, H b = some (.tup xs) → H' b = some (.tup xs)) (frzs : ∀ b o u, H b = some (.frz o u) → H' b = some (.frz o u)) (tbls : ∀ b ps, H b = some (.tbl ps) → ∃ more, H' b = some (.tbl (ps ++ more)))
    (ns : ∀ m, s.heap.Ns X.env.locals m → h'.Ns X.env.locals m) (hok : HOk X.prog X.w H' h') (hg : AllBare g') :
    Inv X pins σ H' { s with heap := h', gens := g', drawn := d', toks := t' } := by
  have neL : ∀ b o, X.s_0.heap.get? b = some o → b ≠ X.env.locals := fun b o e => Nat.ne_of_lt (Nat.lt_of_lt_of_le (Heap.lt_size e) I.ok.above)
  have neC : ∀ b o, X.s_0.heap.get? b = some o → b ∉ X.ex → b ∉ ch := fun b o e hx hb => by
    rcases (hch b hb).1 with z | z
    · exact hx z
    · exact absurd (Nat.lt_of_lt_of_le (Heap.lt_size e) z) (Nat.lt_irrefl _)
  have cellK : ∀ x c, X.env.cells.lookup x = some c → ∀ v, s.heap.IsCell c v → h'.IsCell c v := fun x c e v ⟨o, ho, hd⟩ => by
    have nch : c ∉ ch := fun z => (hch c z).2.2.1 x c e rfl
    by_cases hc : c ∈ X.fs
    · obtain ⟨sl, q⟩ := slot c o (I.cne x c e) hc nch ho (I.freeC x c e)
      exact ⟨_, q, hd⟩
    · exact ⟨o, keep c o (I.cne x c e) hc nch ho (I.freeC x c e), hd⟩
  refine ⟨I.ok, I.os, hg, ⟨fun b o e n hb hx => ?_, fun b o e n hb hx => ?_, fun b o e n hx => ?_, fun b o e hx => ?_, fun b xs e => tups b xs (I.base.tups b xs e), fun b o xs e => frzs b o xs (I.base.frzs b o xs e), fun b ps e => ?_⟩, ?_, fun x c e => ?_, ?_, fun x c e => ?_, fun p hp => ?_, hok, I.len⟩
  · exact keep b o (neL b o e) hb (neC b o e hx) (I.base.keep b o e n hb hx) (I.base.free b o e n hx)
  · obtain ⟨sl, e1⟩ := I.base.slot b o e n hb hx
    obtain ⟨sl', e2⟩ := slot b _ (neL b o e) hb (neC b o e hx) e1 (I.base.free b o e n hx)
    exact ⟨sl', e2⟩
  · obtain ⟨o', e1⟩ := I.base.there b o e hx
    exact free b o' (neC b o e hx) e1 (I.base.free b o e n hx)
  · obtain ⟨o', e1⟩ := I.base.there b o e hx
    exact there b o' (neC b o e hx) e1
  · obtain ⟨m1, e1⟩ := I.base.tbls b ps e
    obtain ⟨m2, e2⟩ := tbls b _ e1
    exact ⟨m1 ++ m2, by rw [e2, Array.append_assoc]⟩
  · obtain ⟨m, hn, hl⟩ := I.loc
    refine ⟨m, ns m hn, fun i x v e1 e2 e3 => ?_⟩
    obtain ⟨u, r, l⟩ := hl i x v e1 e2 e3
    refine ⟨u, r, ?_⟩
    rcases l with l | ⟨k, c, e, z⟩
    · exact .inl l
    · exact .inr ⟨k, c, e, cellK x c e _ z⟩
  · obtain ⟨v, z⟩ := I.cell x c e
    exact ⟨v, cellK x c e v z⟩
  · obtain ⟨m, ⟨o, _, _, ho, _⟩, _⟩ := I.loc
    exact free _ o (fun z => (hch _ z).2.1 rfl) ho I.free
  · obtain ⟨v, o, ho, hd⟩ := I.cell x c e
    exact free c o (fun z => (hch c z).2.2.1 x c e rfl) ho (I.freeC x c e)
  · obtain ⟨e, n, ne, nf, d⟩ := I.pin p hp
    have nch : p.1 ∉ ch := fun z => (hch p.1 z).2.2.2 p hp rfl
    exact ⟨keep p.1 p.2 ne nf nch e n, free p.1 p.2 nch e n, ne, nf, d⟩
theorem Inv.un {t' : Nat} (I : Inv X pins σ H s) (u : Un X.fs [] H H' s.heap h') (hok : HOk X.prog X.w H' h') : Inv X pins σ H' { s with heap := h', toks := t' } := by
  obtain ⟨m, ⟨o, es, ep, ho, r⟩, _⟩ := id I.loc
  obtain ⟨sl, hL⟩ := u.any ho I.free (by simp)
  exact I.step (g' := s.gens) (d' := s.drawn) (ch := []) (fun _ z => nomatch z) (fun b o _ hb _ e n => u.keep b o e n hb (by simp)) (fun b o _ hb _ e n => u.slot b o e n hb (by simp)) (fun b o _ e n => u.free b o e n (by simp)) (fun b o _ e => u.there b o e (by simp)) u.tups u.frzs u.tbls (fun m' hm => by
    obtain ⟨o', es', ep', ho', r'⟩ := hm
    rw [ho] at ho'; cases ho'
    exact ⟨_, es', ep', hL, r'⟩) hok I.bare
theorem Inv.call {g' : Array GenState} {t' : Nat} {d' : Drawn} {ch : List Addr} (I : Inv X pins σ H s) (u : Un (frs X.stack) ch H H' s.heap h') (hok : HOk X.prog X.w H' h') (hg : AllBare g')
    (hch : ∀ b ∈ ch, (b ∈ X.ex ∨ X.s_0.heap.objs.size ≤ b) ∧ b ≠ X.env.locals ∧ (∀ x c, X.env.cells.lookup x = some c → c ≠ b) ∧ ∀ p ∈ X.pn ++ pins, p.1 ≠ b) :
    Inv X pins σ H' { s with heap := h', gens := g', drawn := d', toks := t' } := by
  obtain ⟨m, ⟨o, es, ep, ho, r⟩, _⟩ := id I.loc
  obtain ⟨sl, hL⟩ := u.any ho I.free fun z => (hch _ z).2.1 rfl
  exact I.step (ch := ch) hch (fun b o hL hb hc e n => u.keep b o e n (fun z => (List.mem_cons.mp (I.stkSub b z)).elim hL hb) hc) (fun b o _ _ hc e n => u.any e n hc) (fun b o hc e n => u.free b o e n hc) (fun b o hc e => u.there b o e hc) u.tups u.frzs u.tbls (fun m' hm => by
    obtain ⟨o', es', ep', ho', r'⟩ := hm
    rw [ho] at ho'; cases ho'
    exact ⟨_, es', ep', hL, r'⟩) hok hg
theorem Inv.turned {t' : Nat} {it : Addr} (I : Inv X pins σ H s) (k : ∀ b o, b ≠ it → s.heap.get? b = some o → h'.get? b = some o) (hn : H it = none) (hL : it ≠ X.env.locals)
    (h1 : it ∈ X.ex ∨ X.s_0.heap.objs.size ≤ it) (h2 : ∀ x c, X.env.cells.lookup x = some c → c ≠ it) (h3 : ∀ p ∈ X.pn ++ pins, p.1 ≠ it) : Inv X pins σ H { s with heap := h', toks := t' } := by
  have nit : ∀ b u, H b = some u → b ≠ it := fun b u e z => by rw [z, hn] at e; cases e
  refine I.step (g' := s.gens) (d' := s.drawn) (ch := [it]) (fun b hb => ?_) (fun b o _ _ hc e _ => k b o (fun z => hc (by simp [z])) e) (fun b o _ _ hc e _ => ⟨o.slots, k b o (fun z => hc (by simp [z])) e⟩) (fun _ _ _ _ n => n)
    (fun b o hc e => ⟨o, k b o (fun z => hc (by simp [z])) e⟩) (fun _ _ e => e) (fun _ _ _ e => e) (fun b ps e => ⟨#[], by rw [e]; simp⟩) (fun m hm => ?_) (fun b u e => ?_) I.bare
  · have e : b = it := by simpa using hb
    subst e
    exact ⟨h1, hL, h2, h3⟩
  · obtain ⟨o, es, ep, ho, r⟩ := hm
    exact ⟨o, es, ep, k _ o (Ne.symm hL) ho, r⟩
  · refine (I.hok b u e).stay (fun c v hc q => k c v ?_ q) (fun _ q => q) fun _ _ q => q
    rcases hc with z | z
    · rw [z]; exact nit b u e
    · exact nit c _ z
theorem Inv.tok (I : Inv X pins σ H s) (t : Nat) : Inv X pins σ H { s with toks := t } := I.un (h' := s.heap) (t' := t) Un.refl I.hok
theorem Inv.kept {t' : Nat} (I : Inv X pins σ H s) (k : ∀ b u, s.heap.get? b = some u → h'.get? b = some u) : Inv X pins σ H { s with heap := h', toks := t' } := I.un (Un.kept k) (I.hok.kept k)
theorem Inv.laid {a : Addr} {o : HO} {t' : Nat} (I : Inv X pins σ H s) (k : ∀ b u, s.heap.get? b = some u → h'.get? b = some u) (hp : s.heap.objs.size ≤ a) (new : ObjOk X.prog X.w (upd H a o) h' a o) :
    Inv X pins σ (upd H a o) { s with heap := h', toks := t' } := I.un (Un.laid k hp (I.hok.fresh hp)) (I.hok.laid k hp new)
theorem Inv.write {x e : Addr} {o : HO} {t' : Nat} (I : Inv X pins σ H s) (mu : Mut (H x)) (he : e = x ∨ H e = some (.own x)) (k : ∀ b u, b ≠ e → s.heap.get? b = some u → h'.get? b = some u) (heo : ∃ u, h'.get? e = some u)
    (new : ObjOk X.prog X.w (upd H x o) h' x o) : Inv X pins σ (upd H x o) { s with heap := h', toks := t' } := I.un (Un.write mu he k heo) (I.hok.write mu he k heo new)
theorem Inv.weak {σ' : List (Option V)} (I : Inv X pins σ H s) (hl : σ'.length = σ.length) (w : ∀ (i : Nat) v, σ'[i]? = some (some v) → σ[i]? = some (some v)) : Inv X pins σ' H s :=
  ⟨I.ok, I.os, I.bare, I.base, let ⟨m, hn, hl'⟩ := I.loc; ⟨m, hn, fun i x v e1 e2 e3 => hl' i x v e1 (w i v e2) e3⟩, I.cell, I.free, I.freeC, I.pin, I.hok, hl.trans I.len⟩
theorem Inv.pins_of {pins' : List (Addr × Obj)} (I : Inv X pins σ H s) (h : ∀ p ∈ pins', s.heap.get? p.1 = some p.2 ∧ H p.1 = none ∧ p.1 ≠ X.env.locals ∧ p.1 ∉ X.fs ∧ ∀ v, p.2.data ≠ .cell v) : Inv X pins' σ H s :=
  ⟨I.ok, I.os, I.bare, I.base, I.loc, I.cell, I.free, I.freeC, fun p hp => (List.mem_append.mp hp).elim (fun z => I.pin p (List.mem_append_left _ z)) (h p), I.hok, I.len⟩
theorem nodup_ix {N : List Str} (hN : N.Nodup) {i j : Nat} {x : Str} (a : N[i]? = some x) (b : N[j]? = some x) : i = j := by
  obtain ⟨h1, e1⟩ := List.getElem?_eq_some_iff.mp a
  obtain ⟨h2, e2⟩ := List.getElem?_eq_some_iff.mp b
  exact (List.getElem_inj hN).mp (e1.trans e2.symm)
theorem store_ok2 {M : Model} {A : Around} {E : Value → Shared → Prop} {i : Nat} {x : Str} {v : V} {u : Value} {Q : Unit → Shared → Prop} (I : Inv X pins σ H s) (hN : X.N.Nodup) (hi : X.N[i]? = some x) (hx : Loc X.env.scope x) (r : RelV v u)
    (h : ∀ s', Inv X pins (σ.set i (some v)) H s' → (∃ a, Heap.SameBut a s.heap s'.heap ∧ (a = X.env.locals ∨ X.env.cells.lookup x = some a)) → Q () s') (hf : X.fn x = true ∨ X.env.scope.names.lookup x = some .local := by first | exact .inl rfl | exact .inr rfl | assumption) : wpAny M A (storeName X.env x u) Q E s := by
  obtain ⟨m, hn, hl⟩ := id I.loc
  have hcls : (X.env.scope.kind == .class || (X.env.scope.kind == .module && X.env.locals != X.env.globals)) = false := by rw [I.ok.kind]; rfl
  have hiσ : i < σ.length := by rw [I.len]; exact (List.getElem?_eq_some_iff.mp hi).1
  have cne := I.cne
  have tracked : ∀ {a : Addr} {h' : Heap}, (∃ o, s.heap.get? a = some o ∧ H a = none) → Heap.SameBut a s.heap h' → HOk X.prog X.w H h' := fun {a h'} ha hs b ob e => by
    obtain ⟨_, _, hfree⟩ := ha
    refine (I.hok b ob e).stay (fun c w' hc q => (hs.2 c ?_).trans q) (fun _ q => q) fun _ _ q => q
    rintro rfl
    rcases hc with rfl | hc
    · rw [hfree] at e; cases e
    · rw [hfree] at hc; cases hc
  rcases hx with hk | hk
  · refine wpAny_storeName_local hk hn (fun h' hn' hs => ?_) hcls
    obtain ⟨oL, _, _, hoL, _⟩ := id hn
    refine h _ ⟨I.ok, I.os, I.bare, ⟨fun b o e n hb hx => ?_, fun b o e n hb hx => ?_, I.base.free, fun b o e hx => ?_, I.base.tups, I.base.frzs, I.base.tbls⟩, ⟨_, hn', fun j y v' e1 e2 e3 => ?_⟩, fun y c e => ?_, I.free, I.freeC, fun p hp => ?_, tracked ⟨oL, hoL, I.free⟩ hs, by simpa using I.len⟩ ⟨_, hs, .inl rfl⟩
    · exact (hs.2 b (Nat.ne_of_lt (Nat.lt_of_lt_of_le (Heap.lt_size e) I.ok.above))).trans (I.base.keep b o e n hb hx)
    · obtain ⟨sl, e1⟩ := I.base.slot b o e n hb hx
      exact ⟨sl, (hs.2 b (Nat.ne_of_lt (Nat.lt_of_lt_of_le (Heap.lt_size e) I.ok.above))).trans e1⟩
    · obtain ⟨o', e1⟩ := I.base.there b o e hx
      exact ⟨o', (hs.2 b (Nat.ne_of_lt (Nat.lt_of_lt_of_le (Heap.lt_size e) I.ok.above))).trans e1⟩
    · by_cases hj : j = i
      · subst hj
        rw [hi] at e1; cases e1
        rw [List.getElem?_set_self hiσ] at e2
        cases e2
        exact ⟨u, r, .inl ⟨hk, by simp⟩⟩
      · rw [List.getElem?_set_ne (Ne.symm hj)] at e2
        obtain ⟨u', r', q⟩ := hl j y v' e1 e2 e3
        refine ⟨u', r', ?_⟩
        rcases q with ⟨k, e⟩ | ⟨k, c, e, z⟩
        · refine .inl ⟨k, ?_⟩
          have : y ≠ x := fun e => hj (nodup_ix hN e1 (e ▸ hi))
          simp [this, e]
        · exact .inr ⟨k, c, e, z.sameBut hs (cne y c e)⟩
    · obtain ⟨w', z⟩ := I.cell y c e
      exact ⟨w', z.sameBut hs (cne y c e)⟩
    · obtain ⟨e, n, ne, nf, d⟩ := I.pin p hp
      exact ⟨(hs.2 p.1 ne).trans e, n, ne, nf, d⟩
  · have hfn : X.fn x = true := by
      rcases hf with z | z
      · exact z
      · rw [z] at hk; cases hk
    obtain ⟨c, hc⟩ := I.ok.has x (.inl hk)
    obtain ⟨w', z⟩ := I.cell x c hc
    refine wpAny_storeName_cell I.ok.kind hk hc z (fun h' hc' hs => ?_)
    obtain ⟨oc, hoc, hocd⟩ := id z
    refine h { s with heap := h' } ⟨I.ok, I.os, I.bare, ⟨fun b o e n hb hx => ?_, fun b o e n hb hx => ?_, I.base.free, fun b o e hx => ?_, I.base.tups, I.base.frzs, I.base.tbls⟩, ⟨m, hn.sameBut hs (Ne.symm (cne x c hc)), fun j y v' e1 e2 e3 => ?_⟩, fun y c' e => ?_, I.free, I.freeC, fun p hp => ?_, tracked ⟨oc, hoc, I.freeC x c hc⟩ hs, by simpa using I.len⟩ ⟨c, hs, .inr hc⟩
    · exact (hs.2 b (Nat.ne_of_lt (Nat.lt_of_lt_of_le (Heap.lt_size e) (I.ok.cab x c hfn hc)))).trans (I.base.keep b o e n hb hx)
    · obtain ⟨sl, e1⟩ := I.base.slot b o e n hb hx
      exact ⟨sl, (hs.2 b (Nat.ne_of_lt (Nat.lt_of_lt_of_le (Heap.lt_size e) (I.ok.cab x c hfn hc)))).trans e1⟩
    · obtain ⟨o', e1⟩ := I.base.there b o e hx
      exact ⟨o', (hs.2 b (Nat.ne_of_lt (Nat.lt_of_lt_of_le (Heap.lt_size e) (I.ok.cab x c hfn hc)))).trans e1⟩
    · by_cases hj : j = i
      · subst hj
        rw [hi] at e1; cases e1
        rw [List.getElem?_set_self hiσ] at e2
        cases e2
        exact ⟨u, r, .inr ⟨.inl hk, c, hc, hc'⟩⟩
      · rw [List.getElem?_set_ne (Ne.symm hj)] at e2
        obtain ⟨u', r', q⟩ := hl j y v' e1 e2 e3
        refine ⟨u', r', ?_⟩
        rcases q with q | ⟨k, c', e, z'⟩
        · exact .inl q
        · refine .inr ⟨k, c', e, z'.sameBut hs ?_⟩
          rintro rfl
          exact hj (nodup_ix hN e1 (I.ok.inj _ _ _ e hc ▸ hi))
    · by_cases hcc : c' = c
      · subst hcc; exact ⟨_, hc'⟩
      · obtain ⟨w2, z2⟩ := I.cell y c' e
        exact ⟨w2, z2.sameBut hs hcc⟩
    · obtain ⟨e, n, ne, nf, d⟩ := I.pin p hp
      refine ⟨(hs.2 p.1 ?_).trans e, n, ne, nf, d⟩
      intro q
      rw [q, hoc] at e
      have q' : oc = p.2 := Option.some.inj e
      exact d w' (by rw [← q']; exact hocd)
theorem store_ok {M : Model} {A : Around} {E : Value → Shared → Prop} {i : Nat} {x : Str} {v : V} {u : Value} {Q : Unit → Shared → Prop} (I : Inv X pins σ H s) (hN : X.N.Nodup) (hi : X.N[i]? = some x) (hx : Loc X.env.scope x) (r : RelV v u)
    (h : ∀ s', Inv X pins (σ.set i (some v)) H s' → Q () s') (hf : X.fn x = true ∨ X.env.scope.names.lookup x = some .local := by first | exact .inl rfl | exact .inr rfl | assumption) : wpAny M A (storeName X.env x u) Q E s :=
  store_ok2 I hN hi hx r (fun s' I' _ => h s' I') hf
theorem Inv.call' {s' : Shared} {ch : List Addr} (I : Inv X pins σ H s) (ho : s'.os = s.os) (u : Un (frs X.stack) ch H H' s.heap s'.heap) (hok : HOk X.prog X.w H' s'.heap) (hg : AllBare s'.gens)
    (hch : ∀ b ∈ ch, (b ∈ X.ex ∨ X.s_0.heap.objs.size ≤ b) ∧ b ≠ X.env.locals ∧ (∀ x c, X.env.cells.lookup x = some c → c ≠ b) ∧ ∀ p ∈ X.pn ++ pins, p.1 ≠ b) : Inv X pins σ H' s' := by
  obtain ⟨h', g', d', t', o'⟩ := s'
  have e : o' = s.os := ho
  subst e
  exact I.call (g' := g') (t' := t') (d' := d') u hok hg hch
end
abbrev XK := Value → Option Addr → Hp → Prop
abbrev St := List (Option V)
abbrev VK := V → Hp → Prop
abbrev TE := St → Hp → VK → Prop
abbrev TT := St → Hp → (Bool → Hp → Prop) → Prop
abbrev TA := St → Hp → (List V → Hp → Prop) → Prop
structure Ends where
  nx : St → Hp → Prop
  rt : VK
  bk : St → Hp → Prop := fun _ _ => False
  ct : St → Hp → Prop := fun _ _ => False
abbrev TS := Ends → St → Hp → Prop
def EP (X : Cx) (pins : List (Addr × Obj)) (σ : St) (Q : VK) (u : Value) (s' : Shared) : Prop := ∃ v H', Inv X pins σ H' s' ∧ RelV v u ∧ Q v H'
def TP (X : Cx) (pins : List (Addr × Obj)) (σ : St) (Q : Bool → Hp → Prop) (b : Bool) (s' : Shared) : Prop := ∃ H', Inv X pins σ H' s' ∧ Q b H'
def AP (X : Cx) (pins : List (Addr × Obj)) (σ : St) (Q : List V → Hp → Prop) (us : List Value) (s' : Shared) : Prop := ∃ vs H', Inv X pins σ H' s' ∧ Vals vs us ∧ Q vs H'
def SP (X : Cx) (pins : List (Addr × Obj)) (D : Ends) (f : Flow) (s' : Shared) : Prop :=
  match f with
  | .next => ∃ σ' H', Inv X pins σ' H' s' ∧ D.nx σ' H'
  | .brk => ∃ σ' H', Inv X pins σ' H' s' ∧ D.bk σ' H'
  | .cont => ∃ σ' H', Inv X pins σ' H' s' ∧ D.ct σ' H'
  | .ret u => ∃ v σ' H', Inv X pins σ' H' s' ∧ RelV v u ∧ D.rt v H'
def PE (X : Cx) (e : Expr) (t : TE) : Prop :=
  ∀ (pins : List (Addr × Obj)) (s : Shared) (σ : St) (H : Hp) (Q : VK), Inv X pins σ H s → t σ H Q → wpAny (model X.prog X.w) X.A (eval e X.env) (EP X pins σ Q) X.xe s
def PT (X : Cx) (e : Expr) (t : TT) : Prop :=
  ∀ (pins : List (Addr × Obj)) (s : Shared) (σ : St) (H : Hp) (Q : Bool → Hp → Prop), Inv X pins σ H s → t σ H Q → wpAny (model X.prog X.w) X.A (isTrue e X.env (eval e X.env)) (TP X pins σ Q) X.xe s
def PW (X : Cx) (e : Expr) (t : TT) : Prop :=
  ∀ (whole : Sem Value) (pins : List (Addr × Obj)) (s : Shared) (σ : St) (H : Hp) (Q : Bool → Hp → Prop), Inv X pins σ H s → t σ H Q → wpAny (model X.prog X.w) X.A (isTrue e X.env whole) (TP X pins σ Q) X.xe s
theorem PW.pt {X : Cx} {e : Expr} {t : TT} (h : PW X e t) : PT X e t := h _
def PA (X : Cx) (es : List Expr) (t : TA) : Prop :=
  ∀ (pos : Pos) (pins : List (Addr × Obj)) (s : Shared) (σ : St) (H : Hp) (Q : List V → Hp → Prop), Inv X pins σ H s → t σ H Q → wpAny (model X.prog X.w) X.A (spliced (backTo pos (starEach es X.env))) (AP X pins σ Q) X.xe s
def PS (X : Cx) (st : Stmt) (t : TS) : Prop :=
  ∀ (pins : List (Addr × Obj)) (s : Shared) (σ : St) (H : Hp) (D : Ends), Inv X pins σ H s → t D σ H → wpAny (model X.prog X.w) X.A (exec st X.env) (SP X pins D) X.xe s
def PSs (X : Cx) (st : List Stmt) (t : TS) : Prop :=
  ∀ (pins : List (Addr × Obj)) (s : Shared) (σ : St) (H : Hp) (D : Ends), Inv X pins σ H s → t D σ H → wpAny (model X.prog X.w) X.A (execs st X.env) (SP X pins D) X.xe s
theorem thn {α : Type} {t : Sem α} {Q Q' : α → Shared → Prop} {M : Model} {A : Around} {E : Value → Shared → Prop} {s : Shared} (h : wpAny M A t Q E s) (hQ : ∀ a s, Q a s → Q' a s) : wpAny M A t Q' E s := wpAny_mono h hQ fun _ _ x => x
end L2
namespace L2
open PySem PySem.Spec PyProof.Rows
section
variable {X : Cx}
theorem bin {a b : Expr} {ta tb : TE} (ha : PE X a ta) (hb : PE X b tb) {pins : List (Addr × Obj)} {s : Shared} {σ : St} {H : Hp} {R : V → V → Hp → Prop} (I : Inv X pins σ H s) (h : ta σ H fun x H1 => tb σ H1 fun y H2 => R x y H2)
    {α : Type} {Q : α → Shared → Prop} {f : Value → Value → Sem α}
    (hf : ∀ v u s2 x y H2, Inv X pins σ H2 s2 → RelV x v → RelV y u → R x y H2 → wpAny (model X.prog X.w) X.A (f v u) Q X.xe s2) :
    wpAny (model X.prog X.w) X.A (eval a X.env) (fun v s₁ => wpAny (model X.prog X.w) X.A (eval b X.env) (fun u s₂ => wpAny (model X.prog X.w) X.A (f v u) Q X.xe s₂) X.xe s₁) X.xe s := by
  refine thn (ha pins s σ H _ I h) fun v s1 ⟨x, H1, I1, r1, q1⟩ => ?_
  refine thn (hb pins s1 σ H1 _ I1 q1) fun u s2 ⟨y, H2, I2, r2, q2⟩ => ?_
  exact hf v u s2 x y H2 I2 r1 r2 q2
def tVar (i : Nat) : TE := fun σ H Q => ∃ v, σ[i]? = some (some v) ∧ Q v H
def tC (v : V) : TE := fun _ H Q => Q v H
theorem pe_var {i : Nat} {x : Str} {pos : Pos} (hN : X.N[i]? = some x) (hv : Vis X.env.scope x) (hd : (x == ("__debug__" : Str)) = false := by decide) (hcd : (x == ("__classdict__" : Str)) = false := by decide) : PE X (.Name x pos) (tVar i) := by
  intro pins s σ H Q I h
  obtain ⟨v, e, h⟩ := h
  obtain ⟨m, hn, hl⟩ := I.loc
  obtain ⟨u, r, l⟩ := hl i x v hN e hv
  have fin : EP X pins σ Q u s := ⟨v, H, I, r, h⟩
  rcases l with ⟨hk, hm⟩ | ⟨hk, c, hc, hcell⟩
  · exact wpAny_Name (wpAny_loadName_local I.ok.kind hk hn hm fin) hd
  · rcases hk with hk | hk
    · exact wpAny_Name (wpAny_loadName_cell I.ok.kind hk hc hcell fin) hd
    · exact wpAny_Name (wpAny_loadName_free I.ok.kind hk hc hcell fin hcd) hd
theorem pe_int {i j pos} : PE X (.Constant (.int i) j pos) (tC (.int i)) := fun _ _ _ H _ I h => wpAny_Constant_int ⟨.int i, H, I.tok _, ⟨_, rfl⟩, h⟩
theorem pe_bl {b j pos} : PE X (.Constant (.bool b) j pos) (tC (.bl b)) := fun _ _ _ H _ I h => Constant_bool ⟨.bl b, H, I, rfl, h⟩
theorem pe_non {j pos} : PE X (.Constant .none j pos) (tC .non) := fun _ _ _ H _ I h => Constant_none ⟨.non, H, I, rfl, h⟩
def Gl (X : Cx) (x : Str) : Prop := X.env.kindOf x = some .globalImplicit
theorem ld_glob {E : Value → Shared → Prop} {pins : List (Addr × Obj)} {s : Shared} {σ : St} {H : Hp} {x : Str} {u : Value} {pos : Pos} {Q : Value → Shared → Prop} (I : Inv X pins σ H s) (hg : Gl X x) (hm : X.mg x = some u) (h : Q u s)
    (hd : (x == ("__debug__" : Str)) = false := by decide) : wpAny (model X.prog X.w) X.A (eval (.Name x pos) X.env) Q E s :=
  Calls.Name_function_global I.ok.kind hg (Calls.loadGlobal_global (by rw [I.ok.glob]; exact I.mod.glob.keeps I.bk) hm h) hd
theorem ld_blt {E : Value → Shared → Prop} {pins : List (Addr × Obj)} {s : Shared} {σ : St} {H : Hp} {x : Str} {u : Value} {pos : Pos} {Q : Value → Shared → Prop} (I : Inv X pins σ H s) (hg : Gl X x) (hm : X.mg x = none) (hv : bootBuiltins x = some u) (h : Q u s)
    (hn : x ≠ "__name__" := by decide) (hd : (x == ("__debug__" : Str)) = false := by decide) : wpAny (model X.prog X.w) X.A (eval (.Name x pos) X.env) Q E s := by
  obtain ⟨mb, h1, h2⟩ := I.mod.blt
  exact Calls.Name_function_global I.ok.kind hg (Calls.loadGlobal_builtin (by rw [I.ok.glob]; exact I.mod.glob.keeps I.bk) hm (by rw [I.ok.blt]; exact h1.keeps I.bk) ((h2 x hn).trans hv) h) hd
theorem pe_glob {x : Str} {v : V} {u : Value} {pos : Pos} (hg : Gl X x) (hm : X.mg x = some u) (r : RelV v u) (hd : (x == ("__debug__" : Str)) = false := by decide) : PE X (.Name x pos) (tC v) :=
  fun _ _ _ H _ I h => ld_glob I hg hm ⟨v, H, I, r, h⟩ hd
def t2I (ta tb : TE) (k : Int → Int → Hp → Prop) : St → Hp → Prop := fun σ H => ta σ H fun x H1 => tb σ H1 fun y H2 => ∃ i j, x = .int i ∧ y = .int j ∧ k i j H2
variable {a b : Expr} {ta tb : TE} {pos : Pos}
def PC (X : Cx) (op : CmpOp) (a b : Expr) (t : TE) : Prop :=
  ∀ (pins : List (Addr × Obj)) (s : Shared) (σ : St) (H : Hp) (Q : VK), Inv X pins σ H s → t σ H Q →
    wpAny (model X.prog X.w) X.A (eval a X.env) (fun v s₁ => wpAny (model X.prog X.w) X.A (eval b X.env) (fun u s₂ => wpAny (model X.prog X.w) X.A (compareOp op v u) (EP X pins σ Q) X.xe s₂) X.xe s₁) X.xe s
theorem nobehind (b : Expr) {op : CmpOp} (h : op ≠ .In) (h2 : op ≠ .NotIn) : behindInMarks op b = false := by
  have e1 : (op == CmpOp.In) = false := by cases op <;> first | rfl | exact absurd rfl h
  have e2 : (op == CmpOp.NotIn) = false := by cases op <;> first | rfl | exact absurd rfl h2
  cases b <;> simp [behindInMarks, e1, e2]
def tCmp (p : Int → Int → Bool) (ta tb : TE) : TE := fun σ H Q => t2I ta tb (fun i j H2 => Q (.bl (p i j)) H2) σ H
abbrev tEqI : TE → TE → TE := tCmp fun i j => decide (i = j)
abbrev tNeI : TE → TE → TE := tCmp fun i j => !decide (i = j)
theorem pc_int {op : CmpOp} {p : Int → Int → Bool} (ha : PE X a ta) (hb : PE X b tb)
    (rule : ∀ (i j : Int) (t u : Tok) (Q : Value → Shared → Prop) (s : Shared), Q (.bool (p i j)) s → wpAny (model X.prog X.w) X.A (compareOp op (.int i t) (.int j u)) Q X.xe s) : PC X op a b (tCmp p ta tb) := by
  intro pins s σ H Q I h
  refine bin ha hb I h fun v u s2 x y H2 I2 rx ry q => ?_
  obtain ⟨i, j, rfl, rfl, q⟩ := q
  obtain ⟨t, rfl⟩ := rx
  obtain ⟨t', rfl⟩ := ry
  exact rule i j t t' _ s2 ⟨.bl _, H2, I2, rfl, q⟩
theorem pc_eqI (ha : PE X a ta) (hb : PE X b tb) : PC X .Eq a b (tEqI ta tb) := pc_int ha hb fun _ _ _ _ _ _ h => eq_int (by rw [Bool.beq_eq_decide_eq]; exact h)
theorem pc_neI (ha : PE X a ta) (hb : PE X b tb) : PC X .NotEq a b (tNeI ta tb) := pc_int ha hb fun _ _ _ _ _ _ h => ne_int (by rw [bne, Bool.beq_eq_decide_eq]; exact h)
def tNotN (ta : TE) : TE := fun σ H Q => ta σ H fun x H1 => Q (.bl (!decide (x = .non))) H1
theorem RelV.none_iff {x : V} {v : Value} (r : RelV x v) : (v == Value.none) = decide (x = .non) := by
  cases x with
  | non => cases r; rfl
  | bl _ => cases r; rfl
  | int _ => obtain ⟨t, rfl⟩ := r; rfl
  | str _ => obtain ⟨t, rfl⟩ := r; rfl
  | byt _ => obtain ⟨t, rfl⟩ := r; rfl
  | flt _ => obtain ⟨t, rfl⟩ := r; rfl
  | ref _ => cases r; rfl
  | ty _ => cases r; rfl
theorem pc_notN {j pos'} (ha : PE X a ta) : PC X .IsNot a (.Constant .none j pos') (tNotN ta) := by
  intro pins s σ H Q I h
  refine thn (ha pins s σ H _ I h) fun v s1 ⟨x, H1, I1, r1, q1⟩ => ?_
  exact Constant_none (isnot_none_gen ⟨.bl _, H1, I1, by rw [r1.none_iff]; rfl, q1⟩)
def tB (t : TE) : TT := fun σ H Q => t σ H fun x H1 => ∃ c, x = .bl c ∧ Q c H1
theorem pe_cmp {op : CmpOp} {t : TE} (h : PC X op a b t) (h1 : behindInMarks op b = false := by first | exact nobehind _ (by decide) (by decide) | rfl) : PE X (.Compare a [op] [b] pos) t := fun pins s σ H Q I hw => wpAny_Compare1 (h pins s σ H Q I hw) h1
theorem pt_cmp {op : CmpOp} {t : TE} (h : PC X op a b t) (h1 : behindInMarks op b = false := by first | exact nobehind _ (by decide) (by decide) | rfl) : PT X (.Compare a [op] [b] pos) (tB t) := by
  intro pins s σ H Q I hw
  refine wpAny_isTrue_Compare1 (thn (h pins s σ H _ I hw) fun v s1 h1 => thn h1 fun u s2 h2 => thn h2 fun c s3 ⟨x, H1, I1, r1, q1⟩ => ?_) h1
  obtain ⟨d, rfl, q⟩ := q1
  cases r1
  exact wpAny_truthy_bool ⟨H1, I1, q⟩
theorem pt_val {e : Expr} {t : TE} (h : PE X e t) (he : ∀ whole, isTrue e X.env whole = (do let v ← whole; standAt e.pos; holding [v] (truthy v)) := by intro _; rfl) : PT X e (tB t) := by
  intro pins s σ H Q I hw
  refine isTrue_plain (thn (h pins s σ H _ I hw) fun v s1 ⟨x, H1, I1, r1, q1⟩ => ?_) (he _)
  obtain ⟨d, rfl, q⟩ := q1
  cases r1
  exact wpAny_truthy_bool ⟨H1, I1, q⟩
variable {tA tB' : TT} {rest : List Expr}
def tAnd (t u : TT) : TT := fun σ H Q => t σ H fun c H1 => if c = true then u σ H1 Q else Q false H1
def tOr (t u : TT) : TT := fun σ H Q => t σ H fun c H1 => if c = true then Q true H1 else u σ H1 Q
def tNot (t : TT) : TT := fun σ H Q => t σ H fun c H1 => Q (!c) H1
theorem pw_and1 (ha : PT X a tA) : PW X (.BoolOp .And [a] pos) tA := by
  intro wh pins s σ H Q I h
  refine isTrue_and (thn (ha pins s σ H Q I h) fun c s1 e => ?_)
  cases c with
  | true => exact isTrue_and_nil e
  | false => exact e
theorem pw_or1 (ha : PT X a tA) : PW X (.BoolOp .Or [a] pos) tA := by
  intro wh pins s σ H Q I h
  refine isTrue_or (thn (ha pins s σ H Q I h) fun c s1 e => ?_)
  cases c with
  | false => exact isTrue_or_nil e
  | true => exact e
theorem pw_and (ha : PT X a tA) (hb : PW X (.BoolOp .And (b :: rest) pos) tB') : PW X (.BoolOp .And (a :: b :: rest) pos) (tAnd tA tB') := by
  intro wh pins s σ H Q I h
  refine isTrue_and (thn (ha pins s σ H _ I h) fun c s1 ⟨H1, I1, q1⟩ => ?_)
  cases c with
  | true => exact hb wh pins s1 σ H1 Q I1 q1
  | false => exact ⟨H1, I1, q1⟩
theorem pw_or (ha : PT X a tA) (hb : PW X (.BoolOp .Or (b :: rest) pos) tB') : PW X (.BoolOp .Or (a :: b :: rest) pos) (tOr tA tB') := by
  intro wh pins s σ H Q I h
  refine isTrue_or (thn (ha pins s σ H _ I h) fun c s1 ⟨H1, I1, q1⟩ => ?_)
  cases c with
  | true => exact ⟨H1, I1, q1⟩
  | false => exact hb wh pins s1 σ H1 Q I1 q1
theorem pt_not (ha : PT X a tA) : PT X (.UnaryOp .Not a pos) (tNot tA) := by
  intro pins s σ H Q I h
  exact isTrue_not (ha pins s σ H (fun c H1 => Q (!c) H1) I h)
def tAndV (ta tb : TE) : TE := fun σ H Q => ta σ H fun x H1 => ∃ c, x = .bl c ∧ if c = true then tb σ H1 Q else Q (.bl false) H1
def tOrV (ta tb : TE) : TE := fun σ H Q => ta σ H fun x H1 => ∃ c, x = .bl c ∧ if c = true then Q (.bl true) H1 else tb σ H1 Q
def tNotV (ta : TE) : TE := fun σ H Q => ta σ H fun x H1 => ∃ c, x = .bl c ∧ Q (.bl (!c)) H1
theorem pe_one {op} {t : TE} (h : PE X a t) : PE X (.BoolOp op [a] pos) t := fun pins s σ H Q I hw => BoolOp_one (h pins s σ H Q I hw)
theorem pe_and (ha : PE X a ta) (hb : PE X (.BoolOp .And (b :: rest) pos) tb) : PE X (.BoolOp .And (a :: b :: rest) pos) (tAndV ta tb) := by
  intro pins s σ H Q I h
  refine BoolOp_and (thn (ha pins s σ H _ I h) fun v s1 ⟨x, H1, I1, r1, q1⟩ => ?_)
  obtain ⟨c, rfl, q1⟩ := q1
  cases r1
  refine wpAny_truthy_bool ?_
  cases c with
  | true => exact hb pins s1 σ H1 Q I1 q1
  | false => exact ⟨.bl false, H1, I1, rfl, q1⟩
theorem pe_or (ha : PE X a ta) (hb : PE X (.BoolOp .Or (b :: rest) pos) tb) : PE X (.BoolOp .Or (a :: b :: rest) pos) (tOrV ta tb) := by
  intro pins s σ H Q I h
  refine BoolOp_or (thn (ha pins s σ H _ I h) fun v s1 ⟨x, H1, I1, r1, q1⟩ => ?_)
  obtain ⟨c, rfl, q1⟩ := q1
  cases r1
  refine wpAny_truthy_bool ?_
  cases c with
  | false => exact hb pins s1 σ H1 Q I1 q1
  | true => exact ⟨.bl true, H1, I1, rfl, q1⟩
theorem pe_not (ha : PE X a ta) : PE X (.UnaryOp .Not a pos) (tNotV ta) := by
  intro pins s σ H Q I h
  refine UnaryOp_ (thn (ha pins s σ H _ I h) fun v s1 ⟨x, H1, I1, r1, q1⟩ => ?_)
  obtain ⟨c, rfl, q1⟩ := q1
  cases r1
  exact not_of (wpAny_truthy_bool ⟨.bl (!c), H1, I1, rfl, q1⟩)
def tIf (t : TT) (ta tb : TE) : TE := fun σ H Q => t σ H fun c H1 => if c = true then ta σ H1 Q else tb σ H1 Q
theorem pe_ifExp {c : Expr} (hc : PT X c tA) (ha : PE X a ta) (hb : PE X b tb) : PE X (.IfExp c a b pos) (tIf tA ta tb) := by
  intro pins s σ H Q I h
  refine wpAny_IfExp (thn (hc pins s σ H _ I h) fun d s1 ⟨H1, I1, q1⟩ => ?_)
  cases d with
  | true => exact ha pins s1 σ H1 Q I1 q1
  | false => exact hb pins s1 σ H1 Q I1 q1
end
end L2
namespace L2
open PySem PySem.Spec PyProof.Rows
def SqL (K : PySem.W.Frag) (H : Hp) (a : Addr) (xs : List V) : Prop :=
  Rd H a (.lst xs) ∨
    ∃ (o : Obj) (its : Array Value) (n : Nat), K.lookup a = some o ∧ o.cls = .type "list" ∧ o.dict = none ∧ o.data = .seq its n ∧ its.size ≤ sizeLine ∧ Vals xs its.toList
def SqT (K : PySem.W.Frag) (H : Hp) (a : Addr) (xs : List V) : Prop :=
  Rd H a (.tup xs) ∨
    ∃ (o : Obj) (its : Array Value) (n : Nat), K.lookup a = some o ∧ o.cls = .type "tuple" ∧ o.data = .seq its n ∧ its.size ≤ sizeLine ∧ Vals xs its.toList
def absV : Value → Option V
  | .none => some .non
  | .bool b => some (.bl b)
  | .int i _ => some (.int i)
  | .str x _ => some (.str x)
  | .bytes b _ => some (.byt b)
  | .float b _ => some (.flt b)
  | .ref a => some (.ref a)
  | .type n => some (.ty n)
  | _ => none
theorem RelV.abs {x : V} {u : Value} (r : RelV x u) : absV u = some x := by
  cases x with
  | non => cases r; rfl
  | bl _ => cases r; rfl
  | int _ => obtain ⟨t, rfl⟩ := r; rfl
  | str _ => obtain ⟨t, rfl⟩ := r; rfl
  | byt _ => obtain ⟨t, rfl⟩ := r; rfl
  | flt _ => obtain ⟨t, rfl⟩ := r; rfl
  | ref _ => cases r; rfl
  | ty _ => cases r; rfl
theorem RelV.inj {x y : V} {u : Value} (r : RelV x u) (q : RelV y u) : x = y := Option.some.inj (r.abs.symm.trans q.abs)
theorem Vals.inj : ∀ {xs ys : List V} {us : List Value}, Vals xs us → Vals ys us → xs = ys
  | _, _, _, .nil, .nil => rfl
  | _, _, _, .cons r t, .cons r' t' => by rw [r.inj r', Vals.inj t t']
section
variable {X : Cx} {pins : List (Addr × Obj)} {σ : St} {H : Hp} {s : Shared} {a : Addr} {xs ys : List V}
theorem SqL.of {K : PySem.W.Frag} (h : H a = some (.lst xs)) : SqL K H a xs := .inl (.inl h)
theorem SqT.of {K : PySem.W.Frag} (h : H a = some (.tup xs)) : SqT K H a xs := .inl (.inl h)
theorem Inv.list (I : Inv X pins σ H s) (h : SqL X.K H a xs) : ∃ its : List Value, Vals xs its ∧ PlainL s.heap a its.toArray ∧ xs.length ≤ sizeLine := by
  rcases h with h | ⟨o, its, n, hk, hc, hd, hs, hz, r⟩
  · obtain ⟨z, its, n, r, e⟩ := h.ok I.hok
    exact ⟨its, r, ⟨_, n, e, rfl, rfl, rfl⟩, z⟩
  · refine ⟨its.toList, r, ⟨o, n, I.kIn a o hk, hc, hd, by simpa using hs⟩, ?_⟩
    have e := r.length
    simp only [Array.length_toList] at e
    omega
theorem Inv.tuple (I : Inv X pins σ H s) (h : SqT X.K H a xs) : ∃ its : List Value, Vals xs its ∧ IsTup s.heap a its.toArray ∧ xs.length ≤ sizeLine := by
  rcases h with h | ⟨o, its, n, hk, hc, hs, hz, r⟩
  · obtain ⟨z, its, r, p⟩ := h.ok I.hok
    exact ⟨its, r, p, z⟩
  · refine ⟨its.toList, r, ⟨o, I.kIn a o hk, hc, n, by simpa using hs⟩, ?_⟩
    have e := r.length
    simp only [Array.length_toList] at e
    omega
theorem Inv.list_inj (I : Inv X pins σ H s) (h : SqL X.K H a xs) (h' : SqL X.K H a ys) : xs = ys := by
  obtain ⟨its, r, ⟨o, n, e, _, _, d⟩, _⟩ := I.list h
  obtain ⟨its', r', ⟨o', n', e', _, _, d'⟩, _⟩ := I.list h'
  rw [e] at e'; cases e'
  rw [d] at d'
  injection d' with d1 _
  have : its = its' := by simpa using congrArg Array.toList d1
  subst this
  exact r.inj r'
theorem Inv.tuple_inj (I : Inv X pins σ H s) (h : SqT X.K H a xs) (h' : SqT X.K H a ys) : xs = ys := by
  obtain ⟨its, r, ⟨o, e, _, n, d⟩, _⟩ := I.tuple h
  obtain ⟨its', r', ⟨o', e', _, n', d'⟩, _⟩ := I.tuple h'
  rw [e] at e'; cases e'
  rw [d] at d'
  injection d' with d1 _
  have : its = its' := by simpa using congrArg Array.toList d1
  subst this
  exact r.inj r'
end
abbrev Cx.wish (X : Cx) (E : Value → Shared → Prop) : Cx := { X with xe := E }
abbrev Cx.nox (X : Cx) : Cx := X.wish fun _ _ => False
theorem Cx.Ok.wish {X : Cx} (ok : X.Ok) (E : Value → Shared → Prop) : (X.wish E).Ok :=
  ⟨ok.mod, ok.kind, ok.glob, ok.blt, ok.above, ok.inj, ok.has, ok.cab, ok.hd, ok.frames, ok.stk, ok.exf, ok.bs, ok.bsz, ok.noex, ok.exfs, ok.funs, ok.frf⟩
theorem Cx.Ok.unwish {X : Cx} {E : Value → Shared → Prop} (ok : (X.wish E).Ok) : X.Ok :=
  ⟨ok.mod, ok.kind, ok.glob, ok.blt, ok.above, ok.inj, ok.has, ok.cab, ok.hd, ok.frames, ok.stk, ok.exf, ok.bs, ok.bsz, ok.noex, ok.exfs, ok.funs, ok.frf⟩
section
variable {X : Cx} {pins : List (Addr × Obj)} {σ : St} {H : Hp} {s : Shared} {E : Value → Shared → Prop}
theorem Inv.wish (I : Inv X pins σ H s) (E : Value → Shared → Prop) : Inv (X.wish E) pins σ H s := ⟨I.ok.wish E, I.os, I.bare, I.base, I.loc, I.cell, I.free, I.freeC, I.pin, I.hok, I.len⟩
theorem Inv.unwish (I : Inv (X.wish E) pins σ H s) : Inv X pins σ H s := ⟨I.ok.unwish, I.os, I.bare, I.base, I.loc, I.cell, I.free, I.freeC, I.pin, I.hok, I.len⟩
theorem SP.unwish {D : Ends} {f : Flow} {s' : Shared} (h : SP (X.wish E) pins D f s') : SP X pins D f s' := by
  cases f with
  | next => obtain ⟨σ', H', I, q⟩ := h; exact ⟨σ', H', I.unwish, q⟩
  | brk => obtain ⟨σ', H', I, q⟩ := h; exact ⟨σ', H', I.unwish, q⟩
  | cont => obtain ⟨σ', H', I, q⟩ := h; exact ⟨σ', H', I.unwish, q⟩
  | ret u => obtain ⟨v, σ', H', I, r, q⟩ := h; exact ⟨v, σ', H', I.unwish, r, q⟩
theorem PE.nox {e : Expr} {t : TE} (h : PE X.nox e t) : PE X e t := fun pins s σ H Q I hw =>
  wpAny_mono (h pins s σ H Q (I.wish _) hw) (fun _ _ ⟨v, H', I', r, q⟩ => ⟨v, H', I'.unwish, r, q⟩) fun _ _ z => False.elim z
theorem PT.nox {e : Expr} {t : TT} (h : PT X.nox e t) : PT X e t := fun pins s σ H Q I hw =>
  wpAny_mono (h pins s σ H Q (I.wish _) hw) (fun _ _ ⟨H', I', q⟩ => ⟨H', I'.unwish, q⟩) fun _ _ z => False.elim z
theorem PSs.nox {st : List Stmt} {t : TS} (h : PSs X.nox st t) : PSs X st t := fun pins s σ H D I hw =>
  wpAny_mono (h pins s σ H D (I.wish _) hw) (fun _ _ q => q.unwish) fun _ _ z => False.elim z
end
section
variable {X : Cx} {st : Stmt} {rest : List Stmt} {t u : TS} {e : Expr} {te : TE} {pos : Pos}
def tNext : TS := fun D σ H => D.nx σ H
def tSeq (t u : TS) : TS := fun D σ H => t { D with nx := u D } σ H
theorem pss_nil : PSs X [] tNext := fun _ _ σ H _ I h => wpAny_execs_nil ⟨σ, H, I, h⟩
theorem pss_cons (h1 : PS X st t) (h2 : PSs X rest u) : PSs X (st :: rest) (tSeq t u) := by
  intro pins s σ H D I h
  refine wpAny_execs_cons (thn (h1 pins s σ H { D with nx := u D } I h) fun f s1 q => ?_)
  cases f with
  | next =>
    obtain ⟨σ', H', I', q⟩ := q
    exact h2 pins s1 σ' H' D I' q
  | ret v => exact q
  | brk => exact q
  | cont => exact q
theorem pss_one (h1 : PS X st t) : PSs X [st] t := by
  intro pins s σ H D I h
  refine wpAny_execs_cons (thn (h1 pins s σ H D I h) fun f s1 q => ?_)
  cases f with
  | next => exact wpAny_execs_nil q
  | ret v => exact q
  | brk => exact q
  | cont => exact q
theorem Inv.quiet {pins : List (Addr × Obj)} {σ : St} {H : Hp} {s : Shared} (I : Inv X pins σ H s) : interactive X.env = false := by simp [interactive, I.ok.kind]
def tDrop (te : TE) : TS := fun D σ H => te σ H fun _ H1 => D.nx σ H1
theorem ps_expr (he : PE X e te) (hs : swapsWith e none pos.line X.env = pure false := by rfl) : PS X (.Expr e pos) (tDrop te) := by
  intro pins s σ H D I h
  exact wpAny_Expr_any (thn (he pins s σ H _ I h) fun v s1 ⟨x, H1, I1, r1, q1⟩ => ⟨σ, H1, I1, q1⟩) I.quiet hs
def tRet (te : TE) : TS := fun D σ H => te σ H D.rt
theorem ps_ret (he : PE X e te) : PS X (.Return (some e) pos) (tRet te) := by
  intro pins s σ H D I h
  exact wpAny_Return_some (thn (he pins s σ H _ I h) fun v s1 ⟨x, H1, I1, r1, q1⟩ => ⟨x, σ, H1, I1, r1, q1⟩)
def tIfS (c : TT) (t u : TS) : TS := fun D σ H => c σ H fun b H1 => if b = true then t D σ H1 else u D σ H1
theorem ps_if {c : Expr} {a b : List Stmt} {tc : TT} (hc : PT X c tc) (ha : PSs X a t) (hb : PSs X b u) : PS X (.If c a b pos) (tIfS tc t u) := by
  intro pins s σ H D I h
  refine wpAny_If (thn (hc pins s σ H _ I h) fun d s1 ⟨H1, I1, q1⟩ => ?_)
  cases d with
  | true => exact ha pins s1 σ H1 D I1 q1
  | false => exact hb pins s1 σ H1 D I1 q1
end
abbrev TG := V → St → Hp → (St → Hp → Prop) → Prop
abbrev TGs := List V → St → Hp → (St → Hp → Prop) → Prop
def PG (X : Cx) (target : Expr) (t : TG) : Prop :=
  ∀ (pins : List (Addr × Obj)) (s : Shared) (σ : St) (H : Hp) (v : V) (u : Value) (Q : St → Hp → Prop), Inv X pins σ H s → RelV v u → t v σ H Q →
    wpAny (model X.prog X.w) X.A (assign target X.env u) (fun _ s' => ∃ σ' H', Inv X pins σ' H' s' ∧ Q σ' H') X.xe s
def PGs (X : Cx) (ts : List Expr) (t : TGs) : Prop :=
  ∀ (pins : List (Addr × Obj)) (s : Shared) (σ : St) (H : Hp) (vs : List V) (us : List Value) (Q : St → Hp → Prop), Inv X pins σ H s → Vals vs us → t vs σ H Q →
    wpAny (model X.prog X.w) X.A (assignInOrder ((assignEach ts X.env).map (·.2)) us) (fun _ s' => ∃ σ' H', Inv X pins σ' H' s' ∧ Q σ' H') X.xe s
section
variable {X : Cx} {pos : Pos}
def gName (i : Nat) : TG := fun v σ H Q => Q (σ.set i (some v)) H
theorem pg_name {i : Nat} {x : Str} (hN : X.N.Nodup) (hi : X.N[i]? = some x) (hx : Loc X.env.scope x) (hf : X.fn x = true ∨ X.env.scope.names.lookup x = some .local := by first | exact .inl rfl | exact .inr rfl | assumption) : PG X (.Name x pos) (gName i) := by
  intro pins s σ H v u Q I r h
  exact wpAny_assign_Name (store_ok I hN hi hx r (fun s' I' => ⟨_, H, I', h⟩) hf)
def gNil : TGs := fun vs σ H Q => vs = [] ∧ Q σ H
def gCons (t : TG) (u : TGs) : TGs := fun vs σ H Q => ∃ v r, vs = v :: r ∧ t v σ H fun σ' H' => u r σ' H' Q
theorem pgs_nil : PGs X [] gNil := by
  intro pins s σ H vs us Q I r h
  obtain ⟨e, h⟩ := h
  subst e
  cases r
  exact assignInOrder_nil ⟨σ, H, I, h⟩
theorem pgs_cons {e : Expr} {es : List Expr} {t : TG} {u : TGs} (h1 : PG X e t) (h2 : PGs X es u)
    (hs : (assignEach (e :: es) X.env).map (·.2) = assign e X.env :: (assignEach es X.env).map (·.2) := by rfl) : PGs X (e :: es) (gCons t u) := by
  intro pins s σ H vs us Q I r h
  obtain ⟨v, vr, e1, h⟩ := h
  subst e1
  cases r with
  | cons r rr =>
    rw [hs]
    refine assignInOrder_cons (thn (h1 pins s σ H _ _ _ I r h) fun _ s1 ⟨σ1, H1, I1, q1⟩ => ?_)
    exact h2 pins s1 σ1 H1 _ _ Q I1 rr q1
def gTup (K : PySem.W.Frag) (n : Nat) (t : TGs) : TG := fun v σ H Q => ∃ a xs, v = .ref a ∧ SqT K H a xs ∧ xs.length = n ∧ t xs σ H Q
theorem pg_tup {es : List Expr} {k : Nat} {t : TGs} {n : Nat} (hc : X.calm = true) (h : PGs X es t)
    (hn : (assignEach es X.env).length = n := by rfl) (hst : (assignEach es X.env).findIdx? (·.1) = none := by rfl) : PG X (.Tuple es k pos) (gTup X.K n t) := by
  intro pins s σ H v u Q I r hw
  obtain ⟨a, xs, e1, hq, hl, hw⟩ := hw
  subst e1
  cases r
  obtain ⟨its, rv, ht, hz⟩ := I.tuple hq
  refine assign_Tuple_tuple (I.ok.hd hc) ht (by simp [hn, ← hl, rv.length]) hst fun h' hx => ?_
  have I1 : Inv X pins σ H { s with heap := h' } := I.kept (t' := s.toks) fun b o e => hx b o (Nat.ne_of_lt (Heap.lt_size e)) e
  exact h pins _ σ H xs _ Q I1 (by simpa using rv) hw
def tAsg (te : TE) (g : TG) : TS := fun D σ H => te σ H fun x H1 => g x σ H1 D.nx
theorem ps_set {i : Nat} {x : Str} {e : Expr} {te : TE} {pos' : Pos} (hN : X.N.Nodup) (hi : X.N[i]? = some x) (hx : Loc X.env.scope x) (he : PE X e te) (hs : swapsWith e (some (.Name x pos')) pos.line X.env = pure false := by rfl) (hf : X.fn x = true ∨ X.env.scope.names.lookup x = some .local := by first | exact .inl rfl | exact .inr rfl | assumption) :
    PS X (.Assign [.Name x pos'] e pos) (tAsg te (gName i)) := by
  intro pins s σ H D I h
  refine wpAny_Assign_Name (thn (he pins s σ H _ I h) fun v s1 ⟨y, H1, I1, r1, q1⟩ => ?_) hs
  exact store_ok I1 hN hi hx r1 (fun s2 I2 => ⟨_, H1, I2, q1⟩) hf
end
section
variable {X : Cx} {pos : Pos}
def tWhile (c : TT) (tb : TS) : TS := fun D σ H => ∃ W : Nat → St → Hp → Prop, (∃ m, W m σ H) ∧ ∀ m σ H, W m σ H →
  c σ H fun b H1 => if b = true then ∃ N : St → Hp → Prop, (∀ σ' H', N σ' H' → ∃ m', m' < m ∧ W m' σ' H') ∧ tb { D with nx := N, ct := N, bk := D.nx } σ H1 else D.nx σ H1
theorem ps_while {c : Expr} {body : List Stmt} {tc : TT} {tb : TS} (hp : PassesOwn (model X.prog X.w) X.A X.env X.xe) (hc : PT X c tc) (hb : PSs X body tb) : PS X (.While c body [] pos) (tWhile tc tb) := by
  intro pins s σ H D I h
  obtain ⟨W, ⟨m0, w0⟩, turn⟩ := h
  refine wpAny_While (codeAny_whileLoop (fun n s' => ∃ σ' H', Inv X pins σ' H' s' ∧ W n σ' H') ?_ m0 ⟨σ, H, I, w0⟩)
  rintro n s1 ⟨σ1, H1, I1, w1⟩
  refine wpAny_passesOwn hp (thn (hc pins s1 σ1 H1 _ I1 (turn n σ1 H1 w1)) fun b s2 ⟨H2, I2, q2⟩ => ?_)
  cases b with
  | true =>
    obtain ⟨N, hN, q2⟩ := q2
    rw [if_pos rfl]
    refine wpAny_passesOwn hp (thn (hb pins s2 σ1 H2 _ I2 q2) fun f s3 q3 => ?_)
    cases f with
    | next =>
      obtain ⟨σ3, H3, I3, n3⟩ := q3
      obtain ⟨m', hm, w3⟩ := hN σ3 H3 n3
      exact ⟨m', hm, σ3, H3, I3, w3⟩
    | cont =>
      obtain ⟨σ3, H3, I3, n3⟩ := q3
      obtain ⟨m', hm, w3⟩ := hN σ3 H3 n3
      exact ⟨m', hm, σ3, H3, I3, w3⟩
    | brk => exact q3
    | ret v => exact q3
  | false =>
    rw [if_neg Bool.false_ne_true]
    exact wpAny_execs_nil ⟨σ1, H2, I2, q2⟩
end
structure It where
  go : Nat → Hp → Prop
  yld : Nat → Hp → V → Hp → Prop
  stop : Nat → Hp → Prop
def FpOk (X : Cx) (pins : List (Addr × Obj)) (H : Hp) (b : Addr) : Prop :=
  H b = none ∧ b ≠ X.env.locals ∧ b ∉ X.fs ∧ (b ∈ X.ex ∨ X.s_0.heap.objs.size ≤ b) ∧ (∀ x c, X.env.cells.lookup x = some c → c ≠ b) ∧ ∀ p ∈ X.pn ++ pins, p.1 ≠ b
theorem Inv.fpOk {X : Cx} {pins : List (Addr × Obj)} {σ : St} {H H' : Hp} {s : Shared} {b : Addr} (I : Inv X pins σ H s) (hb : s.heap.objs.size ≤ b) (hn : H' b = none) : FpOk X pins H' b := by
  refine ⟨hn, Nat.ne_of_gt (Nat.lt_of_lt_of_le I.lt hb), I.nofs hb, .inr (Nat.le_trans I.sz hb), fun x c e z => ?_, fun p hp z => ?_⟩
  · obtain ⟨v, q⟩ := I.cell x c e
    exact absurd (Nat.lt_of_lt_of_le q.lt (by rw [z]; exact hb)) (Nat.lt_irrefl _)
  · exact absurd (Nat.lt_of_lt_of_le (Heap.lt_size (I.pin p hp).1) (by rw [z]; exact hb)) (Nat.lt_irrefl _)
structure Turn (P : Program) (w : World) (K : PySem.W.Frag) (tg : Expr) (J : It) (fp : List Addr) (it : Addr) (tn : Nat → Heap → Prop) : Prop where
  mem : it ∈ fp
  obj : ∀ i h, tn i h → ∀ b ∈ fp, ∃ o, h.get? b = some o ∧ ∀ v, o.data ≠ .cell v
  keep : ∀ i h h', tn i h → (∀ b ∈ fp, ∀ o, h.get? b = some o → h'.get? b = some o) → tn i h'
  item : ∀ (X : Cx), X.prog = P → X.w = w → X.K = K → X.calm = true → ∀ (i : Nat) (pins : List (Addr × Obj)) (s : Shared) (σ : St) (H : Hp) (E : Value → Shared → Prop), Inv X pins σ H s → (∀ b ∈ fp, FpOk X pins H b) → tn i s.heap → J.go i H →
    wpAny (model P w) X.A (pyNext (.ref it)) (fun r s1 => ∃ u, r = some u ∧
      wpAny (model P w) X.A (letOwnedTupleGo tg (.ref it) u) (fun _ s2 => ∃ x H', Inv X pins σ H' s2 ∧ RelV x u ∧ J.yld i H x H' ∧ tn (i + 1) s2.heap ∧ ∀ b ∈ fp, H' b = none) E s1) E s
  done : ∀ (X : Cx), X.prog = P → X.w = w → X.K = K → X.calm = true → ∀ (i : Nat) (pins : List (Addr × Obj)) (s : Shared) (σ : St) (H : Hp) (E : Value → Shared → Prop), Inv X pins σ H s → (∀ b ∈ fp, FpOk X pins H b) → tn i s.heap → J.stop i H →
    wpAny (model P w) X.A (pyNext (.ref it)) (fun r s1 => r = none ∧ Inv X pins σ H s1) E s
  self : ∀ (A : Around) (i : Nat) (s : Shared) (Q : Value → Shared → Prop) (E : Value → Shared → Prop), tn i s.heap → Q (.ref it) s → wpAny (model P w) A (pyIter (.ref it)) Q E s
abbrev TI := St → Hp → (It → Hp → Prop) → Prop
def PIE (X : Cx) (pins : List (Addr × Obj)) (σ : St) (tg : Expr) (R : It → Hp → Prop) (itv : Value) (s2 : Shared) : Prop :=
  ∃ (it : Addr) (fp : List Addr) (tn : Nat → Heap → Prop) (J : It) (H' : Hp), itv = .ref it ∧ Inv X pins σ H' s2 ∧ Turn X.prog X.w X.K tg J fp it tn ∧ tn 0 s2.heap ∧ (∀ b ∈ fp, FpOk X pins H' b) ∧ R J H'
def PI (X : Cx) (tg iter : Expr) (wi : TI) : Prop :=
  ∀ (pins : List (Addr × Obj)) (s : Shared) (σ : St) (H : Hp) (R : It → Hp → Prop), Inv X pins σ H s → wi σ H R →
    wpAny (model X.prog X.w) X.A (eval iter X.env) (fun v s1 => wpAny (model X.prog X.w) X.A (pyIter v) (PIE X pins σ tg R) X.xe s1) X.xe s
theorem go_of {M : Model} {A : Around} {E : Value → Shared → Prop} {s : Shared} {tg : Expr} {it : Addr} {u : Value} {o : Obj} {n : String} {vs : Array Value} {Q : Unit → Shared → Prop} (ho : s.heap.get? it = some o) (hc : o.cls = .type n) (hd : o.data = .fields vs)
    (hn : ["enumerate", "zip", "dict_itemiterator", "dict_reverseitemiterator", "odict_iterator", "itertools.zip_longest", "itertools.pairwise"].contains n = false) (hQ : Q () s) : wpAny M A (letOwnedTupleGo tg (.ref it) u) Q E s := by
  unfold letOwnedTupleGo
  cases tg <;> first
    | exact wpAny_pure hQ
    | (cases u <;> first
        | exact wpAny_pure hQ
        | (refine wpAny_bind (wpAny_load ho ?_)
           rw [hc, hd]
           show wpAny M A (if (["enumerate", "zip", "dict_itemiterator", "dict_reverseitemiterator", "odict_iterator", "itertools.zip_longest", "itertools.pairwise"].contains n && vs[0]? == some (rawInt _)) = true then _ else _) Q E s
           rw [if_neg (by intro h; rw [hn, Bool.false_and] at h; cases h)]
           exact wpAny_pure hQ))
def Itl (K : PySem.W.Frag) (a : Addr) : It :=
  ⟨fun i H => ∃ xs x, SqL K H a xs ∧ xs[i]? = some x, fun i H x H' => H' = H ∧ ∀ xs, SqL K H a xs → xs[i]? = some x, fun i H => ∃ xs, SqL K H a xs ∧ xs.length ≤ i⟩
def Itt (K : PySem.W.Frag) (a : Addr) : It :=
  ⟨fun i H => ∃ xs x, SqT K H a xs ∧ xs[i]? = some x, fun i H x H' => H' = H ∧ ∀ xs, SqT K H a xs → xs[i]? = some x, fun i H => ∃ xs, SqT K H a xs ∧ xs.length ≤ i⟩
def Itr (lo : Int) (n : Nat) : It := ⟨fun i _ => i < n, fun i H x H' => H' = H ∧ x = .int (lo + i), fun i _ => n ≤ i⟩
theorem turn_list {P : Program} {w : World} {K : PySem.W.Frag} {tg : Expr} (a it : Addr) : Turn P w K tg (Itl K a) [it] it (fun i h => h.IsListIter it a i) where
  mem := by simp
  obj := fun i h st b hb => by
    have e : b = it := by simpa using hb
    subst e
    obtain ⟨o, e, c, d⟩ := st
    exact ⟨o, e, fun v z => by rw [d] at z; cases z⟩
  keep := fun i h h' st k => st.at fun o e => k it (by simp) o e
  item := by
    intro X hP hw hK hc i pins s σ H E I hf st hg
    subst hP hw hK
    obtain ⟨xs, x, hq, hx⟩ := hg
    obtain ⟨its, rv, p, hz⟩ := I.list hq
    obtain ⟨u, hu, ru⟩ := rv.get hx
    obtain ⟨f0, f1, f2, f3, f4, f5⟩ := hf it (by simp)
    refine wpAny_pyNext_list_item st p.isList (x := u) (by simpa using hu) fun h' st' sb => ?_
    have I1 : Inv X pins σ H { s with heap := h' } := I.turned (t' := s.toks) (fun b o hb e => (sb.2 b hb).trans e) f0 f1 f3 f4 f5
    obtain ⟨o, e, c, d⟩ := id st'
    exact ⟨u, rfl, go_of (s := { s with heap := h' }) e c d (by decide) ⟨x, H, I1, ru, ⟨rfl, fun ys hy => by rw [I.list_inj hy hq]; exact hx⟩, st', fun b hb => (hf b hb).1⟩⟩
  done := by
    intro X hP hw hK hc i pins s σ H E I hf st hg
    subst hP hw hK
    obtain ⟨xs, hq, hx⟩ := hg
    obtain ⟨its, rv, p, hz⟩ := I.list hq
    obtain ⟨f0, f1, f2, f3, f4, f5⟩ := hf it (by simp)
    have hl := rv.length
    exact wpAny_pyNext_list_end (I.ok.hd hc) st p.isList (by simp; omega) fun h' eb => ⟨rfl, I.turned (t' := s.toks) (fun b o hb e => eb b o hb e) f0 f1 f3 f4 f5⟩
  self := fun _ _ _ _ _ st h => wpAny_pyIter_listiter st h
theorem turn_tuple {P : Program} {w : World} {K : PySem.W.Frag} {tg : Expr} (a it : Addr) : Turn P w K tg (Itt K a) [it] it (fun i h => h.IsTupleIter it a i) where
  mem := by simp
  obj := fun i h st b hb => by
    have e : b = it := by simpa using hb
    subst e
    obtain ⟨o, e, c, d⟩ := st
    exact ⟨o, e, fun v z => by rw [d] at z; cases z⟩
  keep := fun i h h' st k => st.at fun o e => k it (by simp) o e
  item := by
    intro X hP hw hK hc i pins s σ H E I hf st hg
    subst hP hw hK
    obtain ⟨xs, x, hq, hx⟩ := hg
    obtain ⟨its, rv, p, hz⟩ := I.tuple hq
    obtain ⟨u, hu, ru⟩ := rv.get hx
    obtain ⟨f0, f1, f2, f3, f4, f5⟩ := hf it (by simp)
    refine wpAny_pyNext_tuple_item st (show s.heap.IsTuple a its.toArray from p) (x := u) (by simpa using hu) fun h' st' sb => ?_
    have I1 : Inv X pins σ H { s with heap := h' } := I.turned (t' := s.toks) (fun b o hb e => (sb.2 b hb).trans e) f0 f1 f3 f4 f5
    obtain ⟨o, e, c, d⟩ := id st'
    exact ⟨u, rfl, go_of (s := { s with heap := h' }) e c d (by decide) ⟨x, H, I1, ru, ⟨rfl, fun ys hy => by rw [I.tuple_inj hy hq]; exact hx⟩, st', fun b hb => (hf b hb).1⟩⟩
  done := by
    intro X hP hw hK hc i pins s σ H E I hf st hg
    subst hP hw hK
    obtain ⟨xs, hq, hx⟩ := hg
    obtain ⟨its, rv, p, hz⟩ := I.tuple hq
    obtain ⟨f0, f1, f2, f3, f4, f5⟩ := hf it (by simp)
    have hl := rv.length
    exact wpAny_pyNext_tuple_end (I.ok.hd hc) st (show s.heap.IsTuple a its.toArray from p) (by simp; omega) fun h' eb => ⟨rfl, I.turned (t' := s.toks) (fun b o hb e => eb b o hb e) f0 f1 f3 f4 f5⟩
  self := fun _ _ _ _ _ st h => wpAny_pyIter_tupleiter st h
theorem turn_range {P : Program} {w : World} {K : PySem.W.Frag} {tg : Expr} (it : Addr) (lo : Int) (n : Nat) : Turn P w K tg (Itr lo n) [it] it (fun i h => IsRangeIter h it (lo + (i : Nat) * 1) ((n : Int) - (i : Nat)) 1) where
  mem := by simp
  obj := fun i h st b hb => by
    have e : b = it := by simpa using hb
    subst e
    exact ⟨_, st, fun v z => by
      have z' : Data.fields _ = Data.cell v := z
      cases z'⟩
  keep := fun i h h' st k => k it (by simp) _ st
  item := by
    intro X hP hw hK hc i pins s σ H E I hf st hg
    subst hP hw hK
    obtain ⟨f0, f1, f2, f3, f4, f5⟩ := hf it (by simp)
    have W := Walks.range (prog := X.prog) (w := X.w) (I.ok.hd hc) it lo 1 n
    refine W.item i s _ _ hg st fun v h' tk hv st' kk => ?_
    obtain ⟨t, rfl⟩ := hv
    have I1 : Inv X pins σ H { s with heap := h', toks := tk } := I.turned (fun b o hb e => kk b o (by simpa using hb) e) f0 f1 f3 f4 f5
    refine ⟨_, rfl, go_of (s := { s with heap := h', toks := tk }) (n := "range_iterator") st' rfl rfl (by decide) ⟨.int (lo + i), H, I1, ⟨t, ?_⟩, ⟨rfl, rfl⟩, st', fun b hb => (hf b hb).1⟩⟩
    rw [Int.mul_one]
  done := by
    intro X hP hw hK hc i pins s σ H E I hf st hg
    subst hP hw hK
    obtain ⟨f0, f1, f2, f3, f4, f5⟩ := hf it (by simp)
    exact wpAny_pyNext_range_end (I.ok.hd hc) st (by have : n ≤ i := hg; omega) fun h' eb => ⟨rfl, I.turned (t' := s.toks) (fun b o hb e => eb b o hb e) f0 f1 f3 f4 f5⟩
  self := fun _ _ _ _ _ st h => wpAny_pyIter_rangeiter st h
end L2
namespace L2
open PySem PySem.Spec PyProof.Rows
section
variable {X : Cx} {tg : Expr}
def iList (K : PySem.W.Frag) (tl : TE) : TI := fun σ H R => tl σ H fun x H1 => ∃ a, x = .ref a ∧ (∃ xs, SqL K H1 a xs) ∧ R (Itl K a) H1
def iTup (K : PySem.W.Frag) (tl : TE) : TI := fun σ H R => tl σ H fun x H1 => ∃ a, x = .ref a ∧ (∃ xs, SqT K H1 a xs) ∧ R (Itt K a) H1
theorem pi_list {l : Expr} {tl : TE} (hl : PE X l tl) : PI X tg l (iList X.K tl) := by
  intro pins s σ H R I h
  refine thn (hl pins s σ H _ I h) fun v s1 ⟨x, H1, I1, r1, q1⟩ => ?_
  obtain ⟨a, e, ⟨xs, hq⟩, q⟩ := q1
  subst e
  cases r1
  obtain ⟨its, rv, p, hz⟩ := I1.list hq
  refine wpAny_pyIter_list p.isList ?_
  refine ⟨s1.heap.objs.size, [s1.heap.objs.size], _, _, H1, rfl, I1.kept (t' := s1.toks) fun b o e => Heap.get?_push_of_some _ e, turn_list a _, ⟨_, Heap.get?_push_size _ rfl, rfl, rfl⟩, fun b hb => ?_, q⟩
  have e : b = s1.heap.objs.size := by simpa using hb
  subst e
  exact I1.fpOk (Nat.le_refl _) (I1.hok.fresh (Nat.le_refl _))
theorem pi_tup {l : Expr} {tl : TE} (hl : PE X l tl) : PI X tg l (iTup X.K tl) := by
  intro pins s σ H R I h
  refine thn (hl pins s σ H _ I h) fun v s1 ⟨x, H1, I1, r1, q1⟩ => ?_
  obtain ⟨a, e, ⟨xs, hq⟩, q⟩ := q1
  subst e
  cases r1
  obtain ⟨its, rv, p, hz⟩ := I1.tuple hq
  refine wpAny_pyIter_tuple (show s1.heap.IsTuple a its.toArray from p) ?_
  refine ⟨s1.heap.objs.size, [s1.heap.objs.size], _, _, H1, rfl, I1.kept (t' := s1.toks) fun b o e => Heap.get?_push_of_some _ e, turn_tuple a _, ⟨_, Heap.get?_push_size _ rfl, rfl, rfl⟩, fun b hb => ?_, q⟩
  have e : b = s1.heap.objs.size := by simpa using hb
  subst e
  exact I1.fpOk (Nat.le_refl _) (I1.hok.fresh (Nat.le_refl _))
theorem range_it {pins : List (Addr × Obj)} {σ : St} {H : Hp} {s : Shared} {R : It → Hp → Prop} {E : Value → Shared → Prop} {lo hi : Int} {t u v : Tok} {tk : Nat} (I : Inv X pins σ H s) (h1 : -(2 ^ 62) ≤ lo) (h2 : lo < 2 ^ 62) (h3 : -(2 ^ 62) ≤ hi) (h4 : hi < 2 ^ 62)
    (q : R (Itr lo (hi - lo).toNat) H) : wpAny (model X.prog X.w) X.A (pyIter (.ref s.heap.objs.size)) (PIE X pins σ tg R) E { s with heap := s.heap.push { cls := .type "range", data := .fields #[.int lo t, .int hi u, .int 1 v] }, toks := tk } := by
  refine wpAny_pyIter_range (IsRange.new ..) (small_one h1 h2 h3 h4) ?_
  have I1 : Inv X pins σ H { s with heap := s.heap.push { cls := .type "range", data := .fields #[.int lo t, .int hi u, .int 1 v] }, toks := tk } := I.kept fun b o e => Heap.get?_push_of_some _ e
  refine ⟨(s.heap.push { cls := .type "range", data := .fields #[.int lo t, .int hi u, .int 1 v] }).objs.size, [(s.heap.push { cls := .type "range", data := .fields #[.int lo t, .int hi u, .int 1 v] }).objs.size], _, _, H, rfl,
    I1.kept (t' := tk) fun b o e => Heap.get?_push_of_some _ e, turn_range _ lo (hi - lo).toNat, ?_, fun b hb => ?_, q⟩
  · have e1 : lo + ((0 : Nat) : Int) * 1 = lo := by simp
    have e2 : (((hi - lo).toNat : Nat) : Int) - ((0 : Nat) : Int) = Builtin.Range.rangeSize lo hi 1 := by rw [rangeSize_one]; split <;> omega
    show IsRangeIter _ _ (lo + ((0 : Nat) : Int) * 1) ((((hi - lo).toNat : Nat) : Int) - ((0 : Nat) : Int)) 1
    rw [e1, e2]
    exact Heap.get?_push_size _ rfl
  · have e : b = (s.heap.push { cls := .type "range", data := .fields #[.int lo t, .int hi u, .int 1 v] }).objs.size := by simpa using hb
    subst e
    exact I1.fpOk (Nat.le_refl _) (I1.hok.fresh (Nat.le_refl _))
def iRng1 (ta : TA) : TI := fun σ H R => ta σ H fun vs H1 => ∃ j : Int, vs = [.int j] ∧ -(2 ^ 62) ≤ j ∧ j < 2 ^ 62 ∧ R (Itr 0 j.toNat) H1
theorem pi_range1 {a : Expr} {ta : TA} {p pos : Pos} (hg : Gl X "range") (hm : X.mg "range" = none) (ha : PA X [a] ta) (hs : starEach [a] X.env = [(false, eval a X.env)] := by rfl) : PI X tg (.Call (.Name "range" p) [a] [] pos) (iRng1 ta) := by
  intro pins s σ H R I h
  refine Call_ (ld_blt I hg hm boot_range (PyProof.Rows.callWith_type1 (thn (ha pos pins s σ H _ I h) fun us s1 ⟨vs, H1, I1, r1, q1⟩ => ?_) hs rfl))
  obtain ⟨j, e, q1, q2, q⟩ := q1
  subst e
  cases r1 with
  | cons r rr =>
    cases rr
    obtain ⟨t, rfl⟩ := r
    exact call_range_1 (range_it I1 (by omega) (by omega) q1 q2 (by simpa using q))
def tFor (wi : TI) (g : TG) (tb : TS) : TS := fun D σ H => wi σ H fun J H1 => ∃ W : Nat → Nat → St → Hp → Prop, (∃ m, W 0 m σ H1) ∧ ∀ i m σ H, W i m σ H →
  (J.stop i H ∧ D.nx σ H) ∨ (J.go i H ∧ ∃ N : St → Hp → Prop, (∀ σ' H', N σ' H' → ∃ m', m' < m ∧ W (i + 1) m' σ' H') ∧ ∀ x H', J.yld i H x H' → g x σ H' fun σ2 H2 => tb { D with nx := N, ct := N, bk := D.nx } σ2 H2)
def pinsAt (fp : List Addr) (h : Heap) : List (Addr × Obj) := fp.filterMap fun b => (h.get? b).map fun o => (b, o)
theorem mem_pinsAt {fp : List Addr} {h : Heap} {b : Addr} {o : Obj} (hb : b ∈ fp) (e : h.get? b = some o) : (b, o) ∈ pinsAt fp h := List.mem_filterMap.mpr ⟨b, hb, by rw [e]; rfl⟩
theorem of_pinsAt {fp : List Addr} {h : Heap} {p : Addr × Obj} (hp : p ∈ pinsAt fp h) : p.1 ∈ fp ∧ h.get? p.1 = some p.2 := by
  obtain ⟨b, hb, e⟩ := List.mem_filterMap.mp hp
  cases q : h.get? b with
  | none => rw [q] at e; cases e
  | some o =>
    rw [q] at e
    have e' : (b, o) = p := Option.some.inj e
    subst e'
    exact ⟨hb, q⟩
theorem Inv.pinned {pins : List (Addr × Obj)} {σ : St} {H : Hp} {s : Shared} {fp : List Addr} (I : Inv X pins σ H s) (hf : ∀ b ∈ fp, FpOk X pins H b) (ho : ∀ b ∈ fp, ∃ o, s.heap.get? b = some o ∧ ∀ v, o.data ≠ .cell v) : Inv X (pins ++ pinsAt fp s.heap) σ H s :=
  I.pins_of fun p hp => (List.mem_append.mp hp).elim (fun z => I.pin p (List.mem_append_right _ z)) fun z => by
    obtain ⟨hb, e⟩ := of_pinsAt z
    obtain ⟨f0, f1, f2, _⟩ := hf p.1 hb
    obtain ⟨o, e', d⟩ := ho p.1 hb
    rw [e] at e'; cases e'
    exact ⟨e, f0, f1, f2, d⟩
theorem Inv.unpinned {pins pl : List (Addr × Obj)} {σ : St} {H : Hp} {s : Shared} (I : Inv X (pins ++ pl) σ H s) : Inv X pins σ H s := I.pins_of fun p hp => I.pin p (List.mem_append_right _ (List.mem_append_left _ hp))
theorem ps_for {iter : Expr} {body : List Stmt} {wi : TI} {g : TG} {tb : TS} {pos : Pos} (hp : PassesOwn (model X.prog X.w) X.A X.env X.xe) (hc : X.calm = true) (hi : PI X tg iter wi) (hg : PG X tg g) (hb : PSs X body tb)
    (hs : ∀ x, foldedSetIterable iter X.env x = pure x := by intro _; rfl) : PS X (.For tg iter body [] pos) (tFor wi g tb) := by
  intro pins s σ H D I h
  refine wpAny_For (thn (hi pins s σ H _ I h) fun v s1 h1 => thn h1 fun itv s2 h2 => ?_) hs
  obtain ⟨it, fp, tn, J, H2, e, I2, T, st2, f2, W, ⟨m0, w0⟩, turn⟩ := h2
  subst e
  -- what stays true of the iterator's objects through the loop
  have stat : ∀ {H' : Hp}, (∀ b ∈ fp, H' b = none) → ∀ b ∈ fp, FpOk X pins H' b := fun hn b hb => ⟨hn b hb, (f2 b hb).2⟩
  refine codeAny_forLoop_any (fun n s' => ∃ i σ' H', Inv X pins σ' H' s' ∧ tn i s'.heap ∧ (∀ b ∈ fp, H' b = none) ∧ W i n σ' H') ?_ m0 ⟨0, σ, H2, I2, st2, fun b hb => (f2 b hb).1, w0⟩
  rintro n s3 ⟨i, σ3, H3, I3, st3, fr3, w3⟩
  rcases turn i n σ3 H3 w3 with ⟨stop, qn⟩ | ⟨go, N, hN, step⟩
  · refine wpAny_passesOwn hp (thn (T.done X rfl rfl rfl hc i pins s3 σ3 H3 X.xe I3 (stat fr3) st3 stop) fun r s4 ⟨hr, I4⟩ => ?_)
    subst hr
    exact wpAny_execs_nil ⟨σ3, H3, I4, qn⟩
  · refine wpAny_passesOwn hp (thn (T.item X rfl rfl rfl hc i pins s3 σ3 H3 X.xe I3 (stat fr3) st3 go) fun r s4 ⟨u, hr, h4⟩ => ?_)
    subst hr
    refine wpAny_passesOwn hp (thn h4 fun _ s5 ⟨x, H5, I5, r5, y5, st5, fr5⟩ => ?_)
    have I5' := I5.pinned (stat fr5) (T.obj _ _ st5)
    refine wpAny_passesOwn hp (thn (hg _ s5 σ3 H5 x u _ I5' r5 (step x H5 y5)) fun _ s6 ⟨σ6, H6, I6, q6⟩ => ?_)
    refine wpAny_passesOwn hp (thn (hb _ s6 σ6 H6 _ I6 q6) fun f s7 q7 => ?_)
    have again : ∀ {σ7 : St} {H7 : Hp}, Inv X (pins ++ pinsAt fp s5.heap) σ7 H7 s7 → N σ7 H7 → ∃ m, m < n ∧ ∃ i σ' H', Inv X pins σ' H' s7 ∧ tn i s7.heap ∧ (∀ b ∈ fp, H' b = none) ∧ W i m σ' H' := fun {σ7 H7} I7 n7 => by
      obtain ⟨m', hm, w7⟩ := hN σ7 H7 n7
      refine ⟨m', hm, i + 1, σ7, H7, I7.unpinned, T.keep _ _ _ st5 fun b hb o e => (I7.pin (b, o) (List.mem_append_right _ (List.mem_append_right _ (mem_pinsAt hb e)))).1, fun b hb => ?_, w7⟩
      obtain ⟨o, e, d⟩ := T.obj _ _ st5 b hb
      exact (I7.pin (b, o) (List.mem_append_right _ (List.mem_append_right _ (mem_pinsAt hb e)))).2.1
    cases f with
    | next => obtain ⟨σ7, H7, I7, n7⟩ := q7; exact again I7 n7
    | cont => obtain ⟨σ7, H7, I7, n7⟩ := q7; exact again I7 n7
    | brk => obtain ⟨σ7, H7, I7, q7⟩ := q7; exact ⟨σ7, H7, I7.unpinned, q7⟩
    | ret v => obtain ⟨x7, σ7, H7, I7, r7, q7⟩ := q7; exact ⟨x7, σ7, H7, I7.unpinned, r7, q7⟩
end
theorem for_list {K : PySem.W.Frag} {a : Addr} {xs : List V} {g : TG} {tb : TS} {D : Ends} {σ : St} {H : Hp} (Pv : Nat → St → Hp → Prop) (h0 : Pv 0 σ H) (hl : ∀ i σ H, i ≤ xs.length → Pv i σ H → SqL K H a xs)
    (hs : ∀ i x σ H, xs[i]? = some x → Pv i σ H → g x σ H fun σ2 H2 => tb { D with nx := Pv (i + 1), ct := Pv (i + 1), bk := D.nx } σ2 H2) (hd : ∀ σ H, Pv xs.length σ H → D.nx σ H) :
    ∃ W : Nat → Nat → St → Hp → Prop, (∃ m, W 0 m σ H) ∧ ∀ i m σ H, W i m σ H →
      ((Itl K a).stop i H ∧ D.nx σ H) ∨ ((Itl K a).go i H ∧ ∃ N : St → Hp → Prop, (∀ σ' H', N σ' H' → ∃ m', m' < m ∧ W (i + 1) m' σ' H') ∧ ∀ x H', (Itl K a).yld i H x H' → g x σ H' fun σ2 H2 => tb { D with nx := N, ct := N, bk := D.nx } σ2 H2) := by
  refine ⟨fun i m σ H => m = xs.length - i ∧ i ≤ xs.length ∧ Pv i σ H, ⟨xs.length, by simp, Nat.zero_le _, h0⟩, ?_⟩
  rintro i m σ H ⟨rfl, hi, p⟩
  have q := hl i σ H hi p
  by_cases hlt : i < xs.length
  · refine .inr ⟨⟨xs, xs[i], q, by simp [hlt]⟩, Pv (i + 1), fun σ' H' p' => ⟨xs.length - (i + 1), by omega, rfl, hlt, p'⟩, fun x H' y => ?_⟩
    obtain ⟨e, y⟩ := y
    subst e
    exact hs i x σ _ (y xs q) p
  · have e : i = xs.length := by omega
    subst e
    exact .inl ⟨⟨xs, q, Nat.le_refl _⟩, hd σ H p⟩
theorem for_range {lo : Int} {n : Nat} {g : TG} {tb : TS} {D : Ends} {σ : St} {H : Hp} (Pv : Nat → St → Hp → Prop) (h0 : Pv 0 σ H)
    (hs : ∀ i σ H, i < n → Pv i σ H → g (.int (lo + i)) σ H fun σ2 H2 => tb { D with nx := Pv (i + 1), ct := Pv (i + 1), bk := D.nx } σ2 H2) (hd : ∀ σ H, Pv n σ H → D.nx σ H) :
    ∃ W : Nat → Nat → St → Hp → Prop, (∃ m, W 0 m σ H) ∧ ∀ i m σ H, W i m σ H →
      ((Itr lo n).stop i H ∧ D.nx σ H) ∨ ((Itr lo n).go i H ∧ ∃ N : St → Hp → Prop, (∀ σ' H', N σ' H' → ∃ m', m' < m ∧ W (i + 1) m' σ' H') ∧ ∀ x H', (Itr lo n).yld i H x H' → g x σ H' fun σ2 H2 => tb { D with nx := N, ct := N, bk := D.nx } σ2 H2) := by
  refine ⟨fun i m σ H => m = n - i ∧ i ≤ n ∧ Pv i σ H, ⟨n, by simp, Nat.zero_le _, h0⟩, ?_⟩
  rintro i m σ H ⟨rfl, hi, p⟩
  by_cases hlt : i < n
  · refine .inr ⟨hlt, Pv (i + 1), fun σ' H' p' => ⟨n - (i + 1), by omega, rfl, hlt, p'⟩, fun x H' y => ?_⟩
    obtain ⟨e, y⟩ := y
    subst e y
    exact hs i σ _ hlt p
  · have e : i = n := by omega
    subst e
    exact .inl ⟨Nat.le_refl _, hd σ H p⟩
theorem while_by {c : TT} {tb : TS} {D : Ends} {σ : St} {H : Hp} (Pv : St → Hp → Prop) (μ : St → Hp → Nat) (h0 : Pv σ H)
    (hs : ∀ σ H, Pv σ H → c σ H fun b H1 => if b = true then tb { D with nx := fun σ' H' => Pv σ' H' ∧ μ σ' H' < μ σ H, ct := fun σ' H' => Pv σ' H' ∧ μ σ' H' < μ σ H, bk := D.nx } σ H1 else D.nx σ H1)
    (mono : ∀ σ H Q Q', (∀ b H1, Q b H1 → Q' b H1) → c σ H Q → c σ H Q') : tWhile c tb D σ H := by
  refine ⟨fun m σ H => m = μ σ H ∧ Pv σ H, ⟨_, rfl, h0⟩, ?_⟩
  rintro m σ H ⟨rfl, p⟩
  refine mono σ H _ _ (fun b H1 q => ?_) (hs σ H p)
  cases b with
  | true => exact ⟨_, fun σ' H' ⟨p', l⟩ => ⟨_, l, rfl, p'⟩, q⟩
  | false => exact q
end L2
namespace L2
open PySem PySem.Spec PyProof.Rows
abbrev R2 := V → V → Hp → VK → Prop
def OpR (X : Cx) (f : Value → Value → Sem Value) (r : R2) : Prop :=
  ∀ (pins : List (Addr × Obj)) (s : Shared) (σ : St) (H : Hp) (x y : V) (v u : Value) (Q : VK), Inv X pins σ H s → RelV x v → RelV y u → r x y H Q →
    wpAny (model X.prog X.w) X.A (f v u) (EP X pins σ Q) X.xe s
def UnR (X : Cx) (f : Value → Sem Value) (r : V → Hp → VK → Prop) : Prop :=
  ∀ (pins : List (Addr × Obj)) (s : Shared) (σ : St) (H : Hp) (x : V) (v : Value) (Q : VK), Inv X pins σ H s → RelV x v → r x H Q →
    wpAny (model X.prog X.w) X.A (f v) (EP X pins σ Q) X.xe s
def CallR (X : Cx) (f : Value) (r : List V → Hp → VK → Prop) : Prop :=
  ∀ (pins : List (Addr × Obj)) (s : Shared) (σ : St) (H : Hp) (xs : List V) (us : List Value) (Q : VK), Inv X pins σ H s → Vals xs us → r xs H Q →
    wpAny (model X.prog X.w) X.A (call f us) (EP X pins σ Q) X.xe s
def tOp (r : R2) (ta tb : TE) : TE := fun σ H Q => ta σ H fun x H1 => tb σ H1 fun y H2 => r x y H2 Q
def tUn (r : V → Hp → VK → Prop) (ta : TE) : TE := fun σ H Q => ta σ H fun x H1 => r x H1 Q
def rI (C : Int → Int → Prop) (g : Int → Int → V) : R2 := fun x y H Q => ∃ i j, x = .int i ∧ y = .int j ∧ C i j ∧ Q (g i j) H
def rI0 (g : Int → Int → V) : R2 := fun x y H Q => ∃ i j, x = .int i ∧ y = .int j ∧ Q (g i j) H
def rU (g : Int → V) : V → Hp → VK → Prop := fun x H Q => ∃ i, x = .int i ∧ Q (g i) H
section
variable {X : Cx} {a b c : Expr} {ta tb tc : TE} {pos : Pos}
theorem binT (ha : PE X a ta) (hb : PE X b tb) {pins : List (Addr × Obj)} {s : Shared} {σ : St} {H : Hp} {R : V → V → Hp → Prop} (I : Inv X pins σ H s)
    (h : ta σ H fun x H1 => tb σ H1 fun y H2 => R x y H2) {Q : Value → Shared → Prop} {f : Value → Value → Sem Value}
    (hf : ∀ v u s2 x y H2, Inv X pins σ H2 s2 → RelV x v → RelV y u → R x y H2 → wpAny (model X.prog X.w) X.A (f v u) Q X.xe s2) :
    wpAny (model X.prog X.w) X.A (eval a X.env) (fun v s₁ => wpAny (model X.prog X.w) X.A (eval b X.env) (fun u s₂ => wpAny (model X.prog X.w) X.A (f v u) Q X.xe s₂) X.xe s₁) X.xe s := by
  refine thn (ha pins s σ H _ I h) fun v s1 ⟨x, H1, I1, r1, q1⟩ => ?_
  refine thn (hb pins s1 σ H1 _ I1 q1) fun u s2 ⟨y, H2, I2, r2, q2⟩ => ?_
  exact hf v u s2 x y H2 I2 r1 r2 q2
theorem pe_op {op : Operator} {r : R2} (ho : OpR X (binaryOp op) r) (ha : PE X a ta) (hb : PE X b tb) : PE X (.BinOp a op b pos) (tOp r ta tb) := by
  intro pins s σ H Q I h
  exact wpAny_BinOp (binT ha hb I h fun v u s2 x y H2 I2 rx ry q => ho pins s2 σ H2 x y v u Q I2 rx ry q)
theorem pe_un {op : UnaryOp} {r : V → Hp → VK → Prop} (ho : UnR X (unaryOp op) r) (ha : PE X a ta) : PE X (.UnaryOp op a pos) (tUn r ta) := by
  intro pins s σ H Q I h
  exact UnaryOp_ (thn (ha pins s σ H _ I h) fun v s1 ⟨x, H1, I1, r1, q1⟩ => ho pins s1 σ H1 x v Q I1 r1 q1)
theorem opI {f : Value → Value → Sem Value} {C : Int → Int → Prop} {g : Int → Int → Int}
    (rule : ∀ (i j : Int) (t u : Tok) (s : Shared) (Q : Value → Shared → Prop) (E : Value → Shared → Prop), C i j → Q (.int (g i j) s.toks) { s with toks := s.toks + 1 } → wpAny (model X.prog X.w) X.A (f (.int i t) (.int j u)) Q E s) :
    OpR X f (rI C fun i j => .int (g i j)) := by
  intro pins s σ H x y v u Q I rx ry h
  obtain ⟨i, j, rfl, rfl, hc, q⟩ := h
  obtain ⟨t, rfl⟩ := rx
  obtain ⟨t', rfl⟩ := ry
  exact rule i j t t' s _ _ hc ⟨.int (g i j), H, I.tok _, ⟨_, rfl⟩, q⟩
theorem opI0 {f : Value → Value → Sem Value} {g : Int → Int → Int}
    (rule : ∀ (i j : Int) (t u : Tok) (s : Shared) (Q : Value → Shared → Prop) (E : Value → Shared → Prop), Q (.int (g i j) s.toks) { s with toks := s.toks + 1 } → wpAny (model X.prog X.w) X.A (f (.int i t) (.int j u)) Q E s) :
    OpR X f (rI0 fun i j => .int (g i j)) := by
  intro pins s σ H x y v u Q I rx ry h
  obtain ⟨i, j, rfl, rfl, q⟩ := h
  obtain ⟨t, rfl⟩ := rx
  obtain ⟨t', rfl⟩ := ry
  exact rule i j t t' s _ _ ⟨.int (g i j), H, I.tok _, ⟨_, rfl⟩, q⟩
theorem opB0 {f : Value → Value → Sem Value} {g : Int → Int → Bool}
    (rule : ∀ (i j : Int) (t u : Tok) (s : Shared) (Q : Value → Shared → Prop) (E : Value → Shared → Prop), Q (.bool (g i j)) s → wpAny (model X.prog X.w) X.A (f (.int i t) (.int j u)) Q E s) :
    OpR X f (rI0 fun i j => .bl (g i j)) := by
  intro pins s σ H x y v u Q I rx ry h
  obtain ⟨i, j, rfl, rfl, q⟩ := h
  obtain ⟨t, rfl⟩ := rx
  obtain ⟨t', rfl⟩ := ry
  exact rule i j t t' s _ _ ⟨.bl (g i j), H, I, rfl, q⟩
def CMul (i j : Int) : Prop := (-(2 ^ 64) < i ∧ i < 2 ^ 64) ∨ (-(2 ^ 64) < j ∧ j < 2 ^ 64)
theorem CMul.ok {i j : Int} (h : CMul i j) : IntMulOk i j := by
  rcases h with ⟨h1, h2⟩ | ⟨h1, h2⟩
  · exact .of_left (intBits_le_64 h1 h2)
  · exact .of_right (intBits_le_64 h1 h2)
theorem two_pow_nn (k : Nat) : (0 : Int) ≤ 2 ^ k := by
  rw [two_pow_cast]
  exact Int.natCast_nonneg _
theorem op_add : OpR X (binaryOp .Add) (rI0 fun i j => .int (i + j)) := opI0 fun _ _ _ _ _ _ _ q => add_int q
theorem op_sub : OpR X (binaryOp .Sub) (rI0 fun i j => .int (i - j)) := opI0 fun _ _ _ _ _ _ _ q => sub_int q
theorem op_mul : OpR X (binaryOp .Mult) (rI CMul fun i j => .int (i * j)) := opI fun _ _ _ _ _ _ _ hc q => mul_int q hc.ok
theorem op_shr : OpR X (binaryOp .RShift) (rI (fun _ j => 0 ≤ j) fun i j => .int (i / 2 ^ j.toNat)) := opI fun i j _ _ _ _ _ hc q =>
  rshift_int hc (by rw [Int.fdiv_eq_ediv_of_nonneg i (two_pow_nn _)]; exact q)
theorem op_and : OpR X (binaryOp .BitAnd) (rI0 fun i j => .int (Builtin.bitAnd i j)) := opI0 fun _ _ _ _ _ _ _ q => and_int q
theorem op_or : OpR X (binaryOp .BitOr) (rI0 fun i j => .int (Builtin.bitOr i j)) := opI0 fun _ _ _ _ _ _ _ q => or_int q
theorem op_xor : OpR X (binaryOp .BitXor) (rI0 fun i j => .int (Builtin.bitXor i j)) := opI0 fun _ _ _ _ _ _ _ q => xor_int q
theorem unI {f : Value → Sem Value} {g : Int → Int}
    (rule : ∀ (i : Int) (t : Tok) (s : Shared) (Q : Value → Shared → Prop) (E : Value → Shared → Prop), Q (.int (g i) s.toks) { s with toks := s.toks + 1 } → wpAny (model X.prog X.w) X.A (f (.int i t)) Q E s) :
    UnR X f (rU fun i => .int (g i)) := by
  intro pins s σ H x v Q I rx h
  obtain ⟨i, rfl, q⟩ := h
  obtain ⟨t, rfl⟩ := rx
  exact rule i t s _ _ ⟨.int (g i), H, I.tok _, ⟨_, rfl⟩, q⟩
theorem un_neg : UnR X (unaryOp .USub) (rU fun i => .int (-i)) := unI fun _ _ _ _ _ q => neg_int q
end
def scal : V → V → Bool
  | .non, .non => true | .non, .int _ => true | .int _, .non => true | .non, .bl _ => true | .bl _, .non => true | .non, .str _ => true | .str _, .non => true
  | .int _, .int _ => true | .bl _, .bl _ => true | .str _, .str _ => true | .byt _, .byt _ => true
  | .int _, .str _ => true | .str _, .int _ => true | .bl _, .str _ => true | .str _, .bl _ => true
  | _, _ => false
def rEq : R2 := fun x y H Q => scal x y = true ∧ Q (.bl (decide (x = y))) H
def rNe : R2 := fun x y H Q => scal x y = true ∧ Q (.bl (!decide (x = y))) H
theorem dec_int {i j : Int} : decide (V.int i = V.int j) = (i == j) := by
  rw [Bool.eq_iff_iff]
  simp
theorem dec_bl {i j : Bool} : decide (V.bl i = V.bl j) = (i == j) := by
  rw [Bool.eq_iff_iff]
  simp
theorem dec_str {i j : Str} : decide (V.str i = V.str j) = (i == j) := by
  rw [Bool.eq_iff_iff]
  simp
theorem dec_byt {i j : Array UInt8} : decide (V.byt i = V.byt j) = (i.toList == j.toList) := by
  rw [Bool.eq_iff_iff]
  cases i
  cases j
  simp
section
variable {X : Cx} {a b c : Expr} {ta tb tc : TE} {pos : Pos}
theorem fin_bl {pins : List (Addr × Obj)} {σ : St} {H : Hp} {s : Shared} {Q : VK} {k k' : Bool} (I : Inv X pins σ H s) (q : Q (.bl k) H) (e : k = k') : EP X pins σ Q (.bool k') s := by
  subst e
  exact ⟨.bl k, H, I, rfl, q⟩
theorem op_eq : OpR X (compareOp .Eq) rEq := by
  intro pins s σ H x y v u Q I rx ry h
  obtain ⟨hs, q⟩ := h
  cases x with
  | non =>
    cases rx
    cases y with
    | non => cases ry; exact PySem.EqNone.eq_none_none (fin_bl I q (by simp))
    | bl j => cases ry; exact PySem.EqNone.eq_none_bool (fin_bl I q (by simp))
    | int j => obtain ⟨t', rfl⟩ := ry; exact PySem.EqNone.eq_none_int (fin_bl I q (by simp))
    | str j => obtain ⟨t', rfl⟩ := ry; exact PySem.EqNone.eq_none_str (fin_bl I q (by simp))
    | _ => exact absurd (show false = true from hs) Bool.false_ne_true
  | bl i =>
    cases rx
    cases y with
    | non => cases ry; exact PySem.EqNone.eq_bool_none (fin_bl I q (by simp))
    | bl j => cases ry; exact eq_bool (fin_bl I q dec_bl)
    | str j => obtain ⟨t', rfl⟩ := ry; exact PySem.EqMixed.eq_bool_str (fin_bl I q (by simp))
    | _ => exact absurd (show false = true from hs) Bool.false_ne_true
  | int i =>
    obtain ⟨t, rfl⟩ := rx
    cases y with
    | non => cases ry; exact PySem.EqNone.eq_int_none (fin_bl I q (by simp))
    | int j => obtain ⟨t', rfl⟩ := ry; exact eq_int (fin_bl I q dec_int)
    | str j => obtain ⟨t', rfl⟩ := ry; exact PySem.EqMixed.eq_int_str (fin_bl I q (by simp))
    | _ => exact absurd (show false = true from hs) Bool.false_ne_true
  | str i =>
    obtain ⟨t, rfl⟩ := rx
    cases y with
    | non => cases ry; exact PySem.EqNone.eq_str_none (fin_bl I q (by simp))
    | bl j => cases ry; exact PySem.EqMixed.eq_str_bool (fin_bl I q (by simp))
    | int j => obtain ⟨t', rfl⟩ := ry; exact PySem.EqMixed.eq_str_int (fin_bl I q (by simp))
    | str j => obtain ⟨t', rfl⟩ := ry; exact eq_str (fin_bl I q dec_str)
    | _ => exact absurd (show false = true from hs) Bool.false_ne_true
  | byt i =>
    obtain ⟨t, rfl⟩ := rx
    cases y with
    | byt j => obtain ⟨t', rfl⟩ := ry; exact PySem.W.eq_bytes (fin_bl I q dec_byt)
    | _ => exact absurd (show false = true from hs) Bool.false_ne_true
  | _ => cases y <;> exact absurd (show false = true from hs) Bool.false_ne_true
theorem op_ne : OpR X (compareOp .NotEq) rNe := by
  intro pins s σ H x y v u Q I rx ry h
  obtain ⟨hs, q⟩ := h
  cases x with
  | non =>
    cases rx
    cases y with
    | non => cases ry; exact PySem.EqNone.ne_none_none (fin_bl I q (by simp))
    | bl j => cases ry; exact PySem.EqNone.ne_none_bool (fin_bl I q (by simp))
    | int j => obtain ⟨t', rfl⟩ := ry; exact PySem.EqNone.ne_none_int (fin_bl I q (by simp))
    | str j => obtain ⟨t', rfl⟩ := ry; exact PySem.EqNone.ne_none_str (fin_bl I q (by simp))
    | _ => exact absurd (show false = true from hs) Bool.false_ne_true
  | bl i =>
    cases rx
    cases y with
    | non => cases ry; exact PySem.EqNone.ne_bool_none (fin_bl I q (by simp))
    | bl j => cases ry; exact ne_bool (fin_bl I q (congrArg not dec_bl))
    | str j => obtain ⟨t', rfl⟩ := ry; exact PySem.EqMixed.ne_bool_str (fin_bl I q (by simp))
    | _ => exact absurd (show false = true from hs) Bool.false_ne_true
  | int i =>
    obtain ⟨t, rfl⟩ := rx
    cases y with
    | non => cases ry; exact PySem.EqNone.ne_int_none (fin_bl I q (by simp))
    | int j => obtain ⟨t', rfl⟩ := ry; exact ne_int (fin_bl I q (congrArg not dec_int))
    | str j => obtain ⟨t', rfl⟩ := ry; exact PySem.EqMixed.ne_int_str (fin_bl I q (by simp))
    | _ => exact absurd (show false = true from hs) Bool.false_ne_true
  | str i =>
    obtain ⟨t, rfl⟩ := rx
    cases y with
    | non => cases ry; exact PySem.EqNone.ne_str_none (fin_bl I q (by simp))
    | bl j => cases ry; exact PySem.EqMixed.ne_str_bool (fin_bl I q (by simp))
    | int j => obtain ⟨t', rfl⟩ := ry; exact PySem.EqMixed.ne_str_int (fin_bl I q (by simp))
    | str j => obtain ⟨t', rfl⟩ := ry; exact ne_str (fin_bl I q (congrArg not dec_str))
    | _ => exact absurd (show false = true from hs) Bool.false_ne_true
  | byt i =>
    obtain ⟨t, rfl⟩ := rx
    cases y with
    | byt j => obtain ⟨t', rfl⟩ := ry; exact PySem.W.ne_bytes (fin_bl I q (congrArg not dec_byt))
    | _ => exact absurd (show false = true from hs) Bool.false_ne_true
  | _ => cases y <;> exact absurd (show false = true from hs) Bool.false_ne_true
theorem op_lt : OpR X (compareOp .Lt) (rI0 fun i j => .bl (decide (i < j))) := opB0 fun _ _ _ _ _ _ _ q => lt_int q
theorem op_le : OpR X (compareOp .LtE) (rI0 fun i j => .bl (decide (i ≤ j))) := opB0 fun _ _ _ _ _ _ _ q => le_int q
theorem op_gt : OpR X (compareOp .Gt) (rI0 fun i j => .bl (decide (j < i))) := opB0 fun _ _ _ _ _ _ _ q => gt_int q
theorem op_ge : OpR X (compareOp .GtE) (rI0 fun i j => .bl (decide (j ≤ i))) := opB0 fun _ _ _ _ _ _ _ q => ge_int q
theorem OpR.or {f : Value → Value → Sem Value} {r r' : R2} (h : OpR X f r) (h' : OpR X f r') : OpR X f (fun x y H Q => r x y H Q ∨ r' x y H Q) := by
  intro pins s σ H x y v u Q I rx ry q
  rcases q with q | q
  · exact h pins s σ H x y v u Q I rx ry q
  · exact h' pins s σ H x y v u Q I rx ry q
theorem pe_cmpR {op : CmpOp} {r : R2} (ho : OpR X (compareOp op) r) (ha : PE X a ta) (hb : PE X b tb) (hm : behindInMarks op b = false) : PE X (.Compare a [op] [b] pos) (tOp r ta tb) := by
  intro pins s σ H Q I h
  exact wpAny_Compare1 (binT ha hb I h fun v u s2 x y H2 I2 rx ry q => ho pins s2 σ H2 x y v u Q I2 rx ry q) hm
def tTest (t : TE) : TT := fun σ H Q => t σ H fun x H' => ∃ k, x = .bl k ∧ Q k H'
theorem pt_cmpR {op : CmpOp} {r : R2} (ho : OpR X (compareOp op) r) (ha : PE X a ta) (hb : PE X b tb) (hm : behindInMarks op b = false) : PT X (.Compare a [op] [b] pos) (tTest (tOp r ta tb)) := by
  intro pins s σ H Q I h
  refine wpAny_isTrue_Compare1 (thn (ha pins s σ H _ I h) fun v s1 ⟨x, H1, I1, r1, q1⟩ => thn (hb pins s1 σ H1 _ I1 q1) fun u s2 ⟨y, H2, I2, r2, q2⟩ =>
    thn (ho pins s2 σ H2 x y v u _ I2 r1 r2 q2) fun c s3 ⟨z, H3, I3, r3, k, e, q3⟩ => ?_) hm
  subst e
  cases r3
  exact wpAny_truthy_bool ⟨H3, I3, q3⟩
theorem line63 : (sizeLine : Nat) < 2 ^ 63 := by rw [sizeLine_eq]; decide
theorem vals1 {x : V} {us : List Value} (r : Vals [x] us) : ∃ u, us = [u] ∧ RelV x u := by
  cases r with
  | cons r1 r2 => cases r2; exact ⟨_, rfl, r1⟩
theorem vals2 {x y : V} {us : List Value} (r : Vals [x, y] us) : ∃ u w', us = [u, w'] ∧ RelV x u ∧ RelV y w' := by
  cases r with
  | cons r1 r2 =>
    cases r2 with
    | cons r3 r4 => cases r4; exact ⟨_, _, rfl, r1, r3⟩
theorem call_abs : CallR X (.builtin "abs") (fun xs H Q => ∃ i, xs = [.int i] ∧ Q (.int (if i < 0 then -i else i)) H) := by
  intro pins s σ H xs us Q I r h
  obtain ⟨i, rfl, q⟩ := h
  obtain ⟨u, rfl, t, rfl⟩ := vals1 r
  exact call_abs_int fun u tk => ⟨.int (if i < 0 then -i else i), H, I.tok _, ⟨_, rfl⟩, q⟩
theorem call_max2 (hc : X.calm = true) : CallR X (.builtin "max") (fun xs H Q => ∃ i j, xs = [.int i, .int j] ∧ Q (.int (if j > i then j else i)) H) := by
  intro pins s σ H xs us Q I r h
  obtain ⟨i, j, rfl, q⟩ := h
  obtain ⟨u, w', rfl, ⟨t, rfl⟩, ⟨t', rfl⟩⟩ := vals2 r
  refine max_two_ints (I.ok.hd hc) fun h' tk k => ⟨_, H, I.kept k, ?_, q⟩
  by_cases hj : j > i
  · rw [if_pos hj, if_pos hj]; exact ⟨_, rfl⟩
  · rw [if_neg hj, if_neg hj]; exact ⟨_, rfl⟩
theorem call_min2 (hc : X.calm = true) : CallR X (.builtin "min") (fun xs H Q => ∃ i j, xs = [.int i, .int j] ∧ Q (.int (if j < i then j else i)) H) := by
  intro pins s σ H xs us Q I r h
  obtain ⟨i, j, rfl, q⟩ := h
  obtain ⟨u, w', rfl, ⟨t, rfl⟩, ⟨t', rfl⟩⟩ := vals2 r
  refine min_two_ints (I.ok.hd hc) fun h' tk k => ⟨_, H, I.kept k, ?_, q⟩
  by_cases hj : j < i
  · rw [if_pos hj, if_pos hj]; exact ⟨_, rfl⟩
  · rw [if_neg hj, if_neg hj]; exact ⟨_, rfl⟩
end
end L2
namespace L2
open PySem PySem.Spec PyProof.Rows
structure ObjM (h : Heap) (x dx C : Addr) (mA : Str → Option Value) : Prop where
  obj : h.get? x = some (PySem.W.instObj C dx)
  ns : h.Ns1 dx mA
  ne : dx ≠ x
theorem lookIn_ns {h : Heap} {dx : Addr} {mA : Str → Option Value} (n : h.Ns1 dx mA) : ∃ od, h.get? dx = some od ∧ ∀ name, PySem.W.lookIn name od = some (mA name) := by
  obtain ⟨o, es, ep, ho, hd, hk, _, hm⟩ := n
  refine ⟨o, ho, fun name => ?_⟩
  have e := hm name
  unfold nsFind findBy at e
  rw [← Array.find?_toList] at e
  unfold PySem.W.lookIn
  rw [hd]
  dsimp only
  split
  · rename_i y q
    rw [q] at e
    exact congrArg some e
  · rename_i q
    rw [q] at e
    have a : es.toList.any (·.refKey) = false := by
      rw [List.any_eq_false]
      intro y hy
      obtain ⟨z, t, hkey⟩ := hk y (Array.mem_toList_iff.mp hy)
      simp [DictEntry.refKey, hkey]
    have a' : ¬ es.toList.any (·.refKey) = true := by rw [a]; exact Bool.false_ne_true
    rw [if_neg a']
    exact congrArg some e
theorem ObjM.look {h : Heap} {x dx C : Addr} {mA : Str → Option Value} (I : ObjM h x dx C mA) : ∃ od, PySem.W.InstAt h x (PySem.W.instObj C dx) C (some od) ∧ ∀ name, PySem.W.lookIn name od = some (mA name) :=
  let ⟨od, ho, hl⟩ := lookIn_ns I.ns
  ⟨od, ⟨I.obj, rfl, rfl, ho⟩, hl⟩
section
variable {prog : Program} {w : World} {A : Around} {E : Value → Shared → Prop} {s : Shared} {K : PySem.W.Frag} {x dx C f : Addr} {mA : Str → Option Value} {name : Str} {v : Value}
end
section
variable {P : Program} {w : World} {H H' : Hp} {h h' : Heap} {a C dx : Addr} {fs fs' : List (Str × V)}
end
structure Cls (K : PySem.W.Frag) (C : Addr) : Prop where
  pg : PySem.W.plainGet K C Str.empty = true
  hd : PySem.W.hasDictIn K C = true
  po : PySem.W.plainOver K C = true
  sa : PySem.W.findIn K (.ref C) "__setattr__" = some (some (.builtin "object.__setattr__"))
theorem Cls.get {K : PySem.W.Frag} {C : Addr} (c : Cls K C) (f : Str) : PySem.W.plainGet K C f = true := c.pg
structure Con (K : PySem.W.Frag) (C : Addr) (f : Str) (v : V) (u : Value) : Prop where
  at_ : PySem.W.findIn K (.ref C) f = some (some u)
  rel : RelV v u
  get : PySem.W.specialIn K u "__get__" = some none
  cp : PySem.W.copiedNames.contains f = false
structure Meth (K : PySem.W.Frag) (C : Addr) (m : Str) (f : Addr) : Prop where
  at_ : PySem.W.findIn K (.ref C) m = some (some (.ref f))
  fn : PySem.W.isFn K (.ref f) = true
  kp : PySem.W.keepIn K (.ref f) = true
section
variable {X : Cx} {pins : List (Addr × Obj)} {σ : St} {H : Hp} {s : Shared} {a C dx : Addr} {fs : List (Str × V)} {f : Str} {v : V} {A : Around} {E : Value → Shared → Prop}
end
section
variable {X : Cx} {o e value : Expr} {f : Str} {pos pos' tpos : Pos} {ta tv : TE}
end
section
variable {X : Cx} {pins : List (Addr × Obj)} {σ : St} {H : Hp} {s : Shared} {A : Around} {E : Value → Shared → Prop} {Q : Value → Shared → Prop} {c : Value} {b : Bool}
inductive TyOf (K : PySem.W.Frag) (H : Hp) : V → Value → Prop where
  | non : TyOf K H .non (.type "NoneType")
  | bl (x : Bool) : TyOf K H (.bl x) (.type "bool")
  | int (i : Int) : TyOf K H (.int i) (.type "int")
  | str (x : Str) : TyOf K H (.str x) (.type "str")
  | flt (x : UInt64) : TyOf K H (.flt x) (.type "float")
  | lst {a : Addr} {xs : List V} (e : H a = some (.lst xs)) : TyOf K H (.ref a) (.type "list")
  | frz {a : Addr} {o : Obj} {xs : List V} (e : H a = some (.frz o (.lst xs))) : TyOf K H (.ref a) (.type "list")
  | tup {a : Addr} {xs : List V} (e : H a = some (.tup xs)) : TyOf K H (.ref a) (.type "tuple")
  | dK {a : Addr} {kvs : List (Key × V)} (e : H a = some (.dK kvs)) : TyOf K H (.ref a) (.type "dict")
  | dT {a : Addr} {kvs : List (List Key × V)} (e : H a = some (.dT kvs)) : TyOf K H (.ref a) (.type "dict")
  | ins {a C dx : Addr} {fs : List (Str × V)} (e : H a = some (.ins C dx fs)) (cl : Cls K C) (ha : PySem.W.findIn K (.ref C) "__class__" = some (some (.builtin "object.__class__")))
      (hn : PySem.W.specialIn K (.builtin "object.__class__") "__get__" = some (some (.builtin "getset_descriptor.__get__"))) (htk : PySem.W.takesIn K (.builtin "object.__class__") = some true)
      (hm : PySem.W.mroIn K C (.type "object") = some true) : TyOf K H (.ref a) (.ref C)
end
end L2
namespace L2
open PySem PySem.Spec PyProof.Rows
structure Room (k : Nat) (A : Around) : Prop where
  hd : A.handled = none
  dp : A.depth + 3 * k + 5 < recursionLimit
  un : A.units + 16 * k + 200 < cLine
theorem Room.mono {j k : Nat} {A : Around} (r : Room k A) (h : j ≤ k) : Room j A := ⟨r.hd, by have := r.dp; omega, by have := r.un; omega⟩
theorem Room.deeper {k : Nat} {A : Around} (r : Room (k + 1) A) (env : Env) : Room k (A.deeper env) :=
  ⟨r.hd, by have := r.dp; show A.depth + 1 + 3 * k + 5 < _; omega, by have := r.un; show A.units + 3 + 16 * k + 200 < _; omega⟩
theorem Room.in1 {k : Nat} {A : Around} (r : Room (k + 1) A) : Room k A.in1 :=
  ⟨r.hd, by have := r.dp; show A.depth + 3 * k + 5 < _; omega, by have := r.un; show A.units + 1 + 16 * k + 200 < _; omega⟩
theorem Room.depth {k : Nat} {A : Around} (r : Room k A) : A.depth < recursionLimit := by have := r.dp; omega
theorem Room.units {k : Nat} {A : Around} (r : Room k A) : A.units + 64 < cLine := by have := r.un; omega
def tNil : TA := fun _ H Q => Q [] H
def tCons (ta : TE) (tr : TA) : TA := fun σ H Q => ta σ H fun x H1 => tr σ H1 fun xs H2 => Q (x :: xs) H2
section
variable {X : Cx} {e : Expr} {es : List Expr} {te : TE} {t : TA} {pos : Pos}
theorem pa_nil : PA X [] tNil := fun _ _ _ _ H Q I h => Calls.spliced_nil ⟨[], H, I, .nil, h⟩
theorem pa_cons (ha : PE X e te) (hr : PA X es t) (hs : starEach (e :: es) X.env = (false, eval e X.env) :: starEach es X.env := by rfl) : PA X (e :: es) (tCons te t) := by
  intro pos pins s σ H Q I h
  rw [hs]
  show wpAny _ _ (spliced ((false, eval e X.env) :: backTo pos (starEach es X.env))) _ _ s
  refine Calls.spliced_cons (thn (ha pins s σ H _ I h) fun u s1 ⟨x, H1, I1, r1, q1⟩ => ?_)
  exact thn (hr pos pins s1 σ H1 _ I1 q1) fun us s2 ⟨xs, H2, I2, r2, q2⟩ => ⟨x :: xs, H2, I2, .cons r1 r2, q2⟩
def tTup (t : TA) : TE := fun σ H Q => t σ H fun xs H1 => xs.length ≤ sizeLine ∧ ∀ p, H1 p = none → Q (.ref p) (upd H1 p (.tup xs))
def tLst (t : TA) : TE := fun σ H Q => t σ H fun xs H1 => xs.length ≤ sizeLine ∧ ∀ p, H1 p = none → Q (.ref p) (upd H1 p (.lst xs))
theorem pe_tup {x1} (h : PA X es t) : PE X (.Tuple es x1 pos) (tTup t) := by
  intro pins s σ H Q I hq
  refine wpAny_Tuple_spliced (thn (h pos pins s σ H _ I hq) fun us s1 ⟨xs, H1, I1, r, z, q⟩ => ⟨by rw [← r.length]; exact z, ?_⟩)
  have hf : H1 s1.heap.objs.size = none := I1.hok.fresh (Nat.le_refl _)
  refine ⟨.ref s1.heap.objs.size, upd H1 s1.heap.objs.size (.tup xs), I1.laid (t' := s1.toks) (fun b u e => Heap.get?_push_of_some _ e) (Nat.le_refl _) ?_, rfl, q _ hf⟩
  exact ⟨z, us, r, ⟨_, Heap.get?_push_size _ rfl, rfl, _, rfl⟩⟩
theorem pe_lst (h : PA X es t) : PE X (.List es pos) (tLst t) := by
  intro pins s σ H Q I hq
  refine wpAny_List_spliced (thn (h pos pins s σ H _ I hq) fun us s1 ⟨xs, H1, I1, r, z, q⟩ => ⟨by rw [← r.length]; exact z, ?_⟩)
  have hf : H1 s1.heap.objs.size = none := I1.hok.fresh (Nat.le_refl _)
  refine ⟨.ref s1.heap.objs.size, upd H1 s1.heap.objs.size (.lst xs), I1.laid (t' := s1.toks) (fun b u e => Heap.get?_push_of_some _ e) (Nat.le_refl _) ?_, rfl, q _ hf⟩
  exact ⟨z, us, 0, r, Heap.get?_push_size _ rfl⟩
end
abbrev Sp := List V → Hp → VK → XK → Prop
abbrev CXT := List Env → Hp → Shared → XK → Value → Shared → Prop
structure Env0 (P : Program) (w : World) (K : PySem.W.Frag) (mg : Str → Option Value) (base : Heap) (A : Around) (outer : List Env) (s : Shared) (H : Hp) : Prop where
  frames : A.frames = some outer
  mod : Mod K mg base
  bs : ∀ b o, base.get? b = some o → s.heap.get? b = some o ∧ H b = none
  bsz : base.objs.size ≤ s.heap.objs.size
  funs : s.heap.FunFrames base outer
  frf : ∀ b ∈ frs outer, H b = none
  hok : HOk P w H s.heap
  bare : AllBare s.gens
def CE (outer : List Env) (P : Program) (w : World) (H : Hp) (s : Shared) (Q : VK) (u : Value) (s' : Shared) : Prop :=
  ∃ v H', s'.os = s.os ∧ AllBare s'.gens ∧ Un (frs outer) [] H H' s.heap s'.heap ∧ HOk P w H' s'.heap ∧ RelV v u ∧ Q v H'
def CR (CX : CXT) (outer : List Env) (P : Program) (w : World) (H : Hp) (s : Shared) (Q : VK) (E : XK) (r : Result) (s' : Shared) : Prop :=
  match r with
  | .ok (.ret u) => CE outer P w H s Q u s'
  | .ok _ => False
  | .error e => CX outer H s E e s'
structure FnOk (P : Program) (w : World) (K : PySem.W.Frag) (mg : Str → Option Value) (base : Heap) (CX : CXT) (k : Nat) (f : Addr) (fd : FuncData) (ps : List Str) (sp : Sp) : Prop where
  len : ∀ vs H Q E, sp vs H Q E → vs.length = ps.length
  run : ∀ (A : Around) (outer : List Env) (s : Shared) (H : Hp) (args : Args) (us : List Value) (vs : List V) (Q : VK) (E : XK), Room k A → Env0 P w K mg base A outer s H → BindsTo s fd args (ps.zip us) → Vals vs us → sp vs H Q E →
    codeAny (model P w) A (.call (.ref f) args) (CR CX outer P w H s Q E) s
theorem FnOk.mono {P : Program} {w : World} {K : PySem.W.Frag} {mg : Str → Option Value} {base : Heap} {CX : CXT} {j k : Nat} {f : Addr} {fd : FuncData} {ps : List Str} {sp : Sp} (F : FnOk P w K mg base CX j f fd ps sp) (h : j ≤ k) :
    FnOk P w K mg base CX k f fd ps sp := ⟨F.len, fun A outer s H args us vs Q E hr => F.run A outer s H args us vs Q E (hr.mono h)⟩
theorem Env0.in1 {P : Program} {w : World} {K : PySem.W.Frag} {mg : Str → Option Value} {base : Heap} {A : Around} {outer : List Env} {s : Shared} {H : Hp} (e : Env0 P w K mg base A outer s H) :
    Env0 P w K mg base A.in1 outer s H := ⟨e.frames, e.mod, e.bs, e.bsz, e.funs, e.frf, e.hok, e.bare⟩
section
variable {X : Cx} {pins : List (Addr × Obj)} {σ : St} {H : Hp} {s s' : Shared}
theorem Inv.env0 (I : Inv X pins σ H s) : Env0 X.prog X.w X.K X.mg X.base X.A X.stack s H :=
  ⟨I.ok.frames, I.ok.mod, I.bs, Nat.le_trans I.ok.bsz I.sz, I.stack, I.stkFree, I.hok, I.bare⟩
theorem Inv.after {Q : VK} {u : Value} (I : Inv X pins σ H s) (h : CE X.stack X.prog X.w H s Q u s') : EP X pins σ Q u s' := by
  obtain ⟨v, H', os, bare, un, hok, r, q⟩ := h
  obtain ⟨hh, g, d, t, os'⟩ := s'
  obtain rfl : os' = s.os := os
  exact ⟨v, H', I.call (h' := hh) (g' := g) (d' := d) (t' := t) (ch := []) un hok bare (fun b z => absurd z (by simp)), r, q⟩
end
def tCall (sp : Sp) (dvs : List V) (E : XK) (t : TA) : TE := fun σ H Q => t σ H fun vs H1 => sp (vs ++ dvs) H1 Q E
def Binds (K : PySem.W.Frag) (fd : FuncData) (ps : List Str) (ds : List Value) : Prop :=
  ∀ (s : Shared) (us : List Value), K.In s.heap → (us ++ ds).length = ps.length → BindsTo s fd ⟨us, []⟩ (ps.zip (us ++ ds))
theorem Binds.all {K : PySem.W.Frag} {fd : FuncData} {ps : List Str} (h : ∀ us : List Value, us.length = ps.length → bindArgs fd ⟨us, []⟩ = pure (ps.zip us)) : Binds K fd ps [] := fun s us _ hl => by
  rw [List.append_nil] at hl ⊢
  exact .of_eq (h us hl)
def Passes (CX : CXT) (X : Cx) (E : XK) : Prop := ∀ (pins : List (Addr × Obj)) (σ : St) (H : Hp) (s : Shared) (e : Value) (s' : Shared), Inv X pins σ H s → CX X.stack H s E e s' → X.xe e s'
section
variable {X : Cx} {CX : CXT} {k : Nat} {f C : Addr} {fd : FuncData} {ps : List Str} {sp : Sp} {dvs : List V} {ds : List Value} {E : XK} {x m : Str} {p pos apos : Pos} {e o : Expr} {es : List Expr} {ta : TE} {t : TA}
theorem run_fn {pins : List (Addr × Obj)} {σ : St} {H : Hp} {s : Shared} {Q : VK} {us : List Value} {vs : List V} (F : FnOk X.prog X.w X.K X.mg X.base CX k f fd ps sp) (hr : Room k X.A) (hb : Binds X.K fd ps ds) (hd : Vals dvs ds) (hx : Passes CX X E)
    (I : Inv X pins σ H s) (r : Vals vs us) (h : sp (vs ++ dvs) H Q E) : wpAny (model X.prog X.w) X.A (call (.ref f) us) (EP X pins σ Q) X.xe s := by
  have r2 : Vals (vs ++ dvs) (us ++ ds) := r.append hd
  have hl : (us ++ ds).length = ps.length := by rw [← r2.length]; exact F.len _ _ _ _ h
  refine wpAny_call (codeAny_mono (F.run X.A X.stack s H ⟨us, []⟩ (us ++ ds) (vs ++ dvs) Q E hr I.env0 (hb s us I.kIn hl) r2 h) fun r s' hq => ?_)
  cases r with
  | error e => exact hx pins σ H s e s' I hq
  | ok fl =>
    cases fl with
    | ret u => exact I.after hq
    | next => exact False.elim hq
    | brk => exact False.elim hq
    | cont => exact False.elim hq
theorem pe_call (F : FnOk X.prog X.w X.K X.mg X.base CX k f fd ps sp) (hr : Room k X.A) (hg : Gl X x) (hm : X.mg x = some (.ref f)) (hk : PySem.W.keepIn X.K (.ref f) = true) (hb : Binds X.K fd ps ds) (hd : Vals dvs ds) (hx : Passes CX X E)
    (ha : PA X (e :: es) t) (hdb : (x == ("__debug__" : Str)) = false := by decide) (he : starEach (e :: es) X.env = (false, eval e X.env) :: starEach es X.env := by rfl) (hpl : (backTo pos (starEach es X.env)).any (·.1) = false := by rfl) :
    PE X (.Call (.Name x p) (e :: es) [] pos) (tCall sp dvs E t) := by
  intro pins s σ H Q I h
  refine wpAny_Call_Name_kw (ld_glob I hg hm ?_ hdb)
  refine PySem.W.callWith_K (h₀ := X.base) I.ok.mod.kin hk (thn (ha pos pins s σ H _ I h) fun us s1 ⟨vs, H1, I1, r, q⟩ => ⟨I1.kIn, ?_⟩) he hpl
  exact run_fn F hr hb hd hx I1 r q
theorem pe_call0 (F : FnOk X.prog X.w X.K X.mg X.base CX k f fd ps sp) (hr : Room k X.A) (hg : Gl X x) (hm : X.mg x = some (.ref f)) (hk : PySem.W.keepIn X.K (.ref f) = true) (hb : Binds X.K fd ps ds) (hd : Vals dvs ds) (hx : Passes CX X E)
    (hdb : (x == ("__debug__" : Str)) = false := by decide) : PE X (.Call (.Name x p) [] [] pos) (tCall sp dvs E tNil) := by
  intro pins s σ H Q I h
  refine wpAny_Call_Name_kw (ld_glob I hg hm ?_ hdb)
  exact PySem.W.callWith_K0 I.kIn hk (run_fn (us := []) F hr hb hd hx I .nil h)
structure Mk (K : PySem.W.Frag) (C f : Addr) : Prop where
  makes : PySem.W.makesIn K C = true
  init : PySem.W.findIn K (.ref C) "__init__" = some (some (.ref f))
  fn : PySem.W.isFn K (.ref f) = true
  kp : PySem.W.keepIn K (.ref C) = true
end
section
variable {X : Cx} {CX : CXT} {k : Nat} {f C : Addr} {fd : FuncData} {ps ks : List Str} {sp : Sp} {E : XK} {x m : Str} {p pos apos kpos : Pos} {e o : Expr} {es : List Expr} {kws : List Keyword} {te ta : TE} {t tk : TA} {nm : Option Str}
structure KBinds (K : PySem.W.Frag) (fd : FuncData) (ps ks : List Str) (g : List Value → List Value → List Value) (gV : List V → List V → List V) : Prop where
  to : ∀ (s : Shared) (us ws : List Value), K.In s.heap → (g us ws).length = ps.length → BindsTo s fd ⟨us, ks.zip ws⟩ (ps.zip (g us ws))
  rel : ∀ {vs : List V} {us : List Value} {zs : List V} {ws : List Value}, Vals vs us → Vals zs ws → Vals (gV vs zs) (g us ws)
variable {g : List Value → List Value → List Value} {gV : List V → List V → List V}
end
structure FnScope (N P : List Str) (sc : Scope) : Prop where
  kind : sc.kind = .function
  co : sc.isCoroutine = false
  gen : sc.isGenerator = false
  nd : N.Nodup
  pre : N.take P.length = P
  par : ∀ x ∈ P, sc.names.lookup x = some .local ∨ sc.names.lookup x = some .cell
  nofree : ∀ y ∈ sc.names, y.2 ≠ .free
theorem bindL_out {kindOf : Str → Option NameKind} {x : Str} : ∀ {binds : List (Str × Value)} {m : Str → Option Value}, (∀ v, (x, v) ∉ binds) → bindL kindOf binds m x = m x
  | [], _, _ => rfl
  | (n, v) :: r, m, h => by
    unfold bindL
    rw [bindL_out fun w hw => h w (List.mem_cons_of_mem _ hw)]
    split
    · have : x ≠ n := by rintro rfl; exact h v List.mem_cons_self
      simp [this]
    · rfl
theorem bindC_out {kindOf : Str → Option NameKind} {x : Str} : ∀ {binds : List (Str × Value)} {m : Str → Option Value}, (∀ v, (x, v) ∉ binds) → bindC kindOf binds m x = m x
  | [], _, _ => rfl
  | (n, v) :: r, m, h => by
    unfold bindC
    rw [bindC_out fun w hw => h w (List.mem_cons_of_mem _ hw)]
    split
    · rfl
    · have : x ≠ n := by rintro rfl; exact h v List.mem_cons_self
      simp [this]
theorem bindL_get {kindOf : Str → Option NameKind} {x : Str} {v : Value} : ∀ {P : List Str} {vs : List Value} {i : Nat} {m : Str → Option Value}, P.Nodup → P[i]? = some x → vs[i]? = some v → kindOf x = some .local →
    bindL kindOf (P.zip vs) m x = some v
  | [], _, _, _, _, h, _, _ => by simp at h
  | _ :: _, [], _, _, _, _, h, _ => by simp at h
  | p :: P, w :: vs, 0, m, nd, h1, h2, hk => by
    simp at h1 h2; subst h1; subst h2
    show bindL kindOf ((p, w) :: P.zip vs) m p = _
    unfold bindL
    rw [bindL_out fun v hv => (List.nodup_cons.mp nd).1 (List.of_mem_zip hv).1, if_pos hk]
    simp
  | p :: P, w :: vs, i + 1, m, nd, h1, h2, hk => by
    show bindL kindOf ((p, w) :: P.zip vs) m x = _
    unfold bindL
    exact bindL_get (i := i) (List.nodup_cons.mp nd).2 (by simpa using h1) (by simpa using h2) hk
theorem bindC_get {kindOf : Str → Option NameKind} {x : Str} {v : Value} : ∀ {P : List Str} {vs : List Value} {i : Nat} {m : Str → Option Value}, P.Nodup → P[i]? = some x → vs[i]? = some v → kindOf x ≠ some .local →
    bindC kindOf (P.zip vs) m x = some v
  | [], _, _, _, _, h, _, _ => by simp at h
  | _ :: _, [], _, _, _, _, h, _ => by simp at h
  | p :: P, w :: vs, 0, m, nd, h1, h2, hk => by
    simp at h1 h2; subst h1; subst h2
    show bindC kindOf ((p, w) :: P.zip vs) m p = _
    unfold bindC
    rw [bindC_out fun v hv => (List.nodup_cons.mp nd).1 (List.of_mem_zip hv).1, if_neg hk]
    simp
  | p :: P, w :: vs, i + 1, m, nd, h1, h2, hk => by
    show bindC kindOf ((p, w) :: P.zip vs) m x = _
    unfold bindC
    exact bindC_get (i := i) (List.nodup_cons.mp nd).2 (by simpa using h1) (by simpa using h2) hk
def start (N : List Str) (vs : List V) : St := vs.map some ++ List.replicate (N.length - vs.length) none
def cxOf (CX : CXT) (P : Program) (w : World) (K : PySem.W.Frag) (mg : Str → Option Value) (base : Heap) (N : List Str) (qual : Str) (scope : Scope) (f : Addr) (cd : Value) (A : Around) (outer : List Env) (s : Shared) (H : Hp) (E : XK) : Cx where
  prog := P
  w := w
  K := K
  mg := mg
  base := base
  A := A.deeper (envOfC qual scope s.heap.objs.size f cd)
  N := N
  s_0 := s
  H_0 := H
  env := envOfC qual scope s.heap.objs.size f cd
  outer := outer
  stack := envOfC qual scope s.heap.objs.size f cd :: outer
  ex := []
  calm := true
  fn := fun _ => true
  pn := []
  xe := fun e s' => wpAny (model P w) (A.deeper (envOfC qual scope s.heap.objs.size f cd)) (leaving (envOfC qual scope s.heap.objs.size f cd) e) (fun _ s'' => CX outer H s E e s'') (fun e' s'' => CX outer H s E e' s'') s'
theorem cell_has {sc : Scope} {n : Nat} {x : Str} (h : sc.names.lookup x = some .cell) : ∃ c, (cellsFrom n sc.names []).lookup x = some c := by
  have q := PySem.W.cellsFrom_some sc.names n [] (.inl h)
  exact Option.isSome_iff_exists.mp q
theorem inv_start {CX : CXT} {P : Program} {w : World} {K : PySem.W.Frag} {mg : Str → Option Value} {base : Heap} {N ps : List Str} {qual : Str} {scope : Scope} {f : Addr} {cd : Value} {A : Around} {outer : List Env} {s s1 : Shared} {H : Hp} {E : XK} {us : List Value} {vs : List V}
    (S : FnScope N ps scope) (hd : A.handled = none) (e0 : Env0 P w K mg base A outer s H) (hl : vs.length = ps.length) (r : Vals vs us)
    (x : InCallC s s.heap.objs.size (bindL (envOfC qual scope s.heap.objs.size f cd).kindOf (ps.zip us) fun _ => none) (cellsFrom (s.heap.objs.size + 1) scope.names []) (bindC (envOfC qual scope s.heap.objs.size f cd).kindOf (ps.zip us) fun _ => none) s1) :
    Inv (cxOf CX P w K mg base N qual scope f cd A outer s H E) [] (start N vs) H s1 := by
  have hpl : ps.length ≤ N.length := by have := congrArg List.length S.pre; rw [List.length_take] at this; omega
  obtain ⟨h1, tk, rfl, hk⟩ := x.done
  have noA : ∀ b : Addr, b ∉ (cxOf CX P w K mg base N qual scope f cd A outer s H E).ex := fun b z => absurd (show b ∈ ([] : List Addr) from z) (by simp)
  refine ⟨⟨e0.mod, S.kind, rfl, rfl, Nat.le_refl _, fun y z c h1 h2 => ?_, fun y hy => ?_, fun y c _ h => ?_, fun _ => hd, Around.frames_deeper e0.frames, .inr ⟨rfl, rfl⟩, fun b z => absurd z (noA b), e0.bs, e0.bsz, fun b _ _ => noA b, fun b z => absurd z (noA b), e0.funs, e0.frf⟩,
    rfl, e0.bare, Un.kept hk, ⟨_, x.toInCall.ns, fun i y v h1 h2 h3 => ?_⟩, fun y c h => ⟨_, x.cell y c h⟩, e0.hok.fresh (Nat.le_refl _), fun y c h => ?_, fun p hp => absurd (show p ∈ ([] : List (Addr × Obj)) from hp) (by simp), e0.hok.kept hk, ?_⟩
  · exact name_of_addr x.apart (PySem.mem_of_lookup h1) (PySem.mem_of_lookup h2)
  · have hy : scope.names.lookup y = some .cell ∨ scope.names.lookup y = some .free := hy
    rcases hy with hy | hy
    · exact cell_has hy
    · exact absurd rfl (S.nofree _ (PySem.mem_of_lookup hy))
  · exact Nat.le_of_lt (x.above y c (PySem.mem_of_lookup h))
  · have hi : i < vs.length := by
      unfold start at h2
      by_cases hi : i < vs.length
      · exact hi
      · rw [List.getElem?_append_right (by simpa using hi)] at h2
        rw [List.getElem?_replicate] at h2
        split at h2 <;> cases h2
    have ha : vs[i]? = some v := by
      unfold start at h2
      rw [List.getElem?_append_left (by simpa using hi), List.getElem?_map] at h2
      cases e : vs[i]? with
      | none => rw [e] at h2; cases h2
      | some a => rw [e] at h2; cases h2; rfl
    obtain ⟨u, hu, rv⟩ := r.get ha
    have hp : ps[i]? = some y := by
      rw [← S.pre, List.getElem?_take_of_lt (by omega)]; exact h1
    have ndP : ps.Nodup := by rw [← S.pre]; exact S.nd.sublist (List.take_sublist _ _)
    refine ⟨u, rv, ?_⟩
    rcases S.par y (List.mem_of_getElem? hp) with k | k
    · exact .inl ⟨k, bindL_get ndP hp hu k⟩
    · obtain ⟨c, e⟩ := cell_has (n := s.heap.objs.size + 1) k
      refine .inr ⟨.inl k, c, e, ?_⟩
      have q := x.cell y c e
      rw [bindC_get ndP hp hu (by show scope.names.lookup y ≠ _; rw [k]; decide)] at q
      exact q
  · exact e0.hok.fresh (Nat.le_of_lt (x.above y c (PySem.mem_of_lookup h)))
  · unfold start
    show _ = N.length
    rw [List.length_append, List.length_map, List.length_replicate]
    omega
theorem fn_of {CX : CXT} {P : Program} {w : World} {K : PySem.W.Frag} {mg : Str → Option Value} {base : Heap} {k : Nat} {f : Addr} {name qual : Str} {params : Arguments} {body : List Stmt} {scope : Scope} {dV kV doc pm cdv ct oc : Value} {an od : Option Addr}
    {osl : Array (Option Value)} {N ps : List Str} {sp : Sp} (lk : K.lookup f = some ⟨oc, od, .func (PySem.W.fnOf name qual params body scope dV kV doc pm an cdv ct), osl⟩) (hcd : PySem.W.codeIn K cdv qual = true) (S : FnScope N ps scope)
    (len : ∀ vs H Q E, sp vs H Q E → vs.length = ps.length)
    (hbody : ∀ (A : Around) (outer : List Env) (s : Shared) (H : Hp) (vs : List V) (Q : VK) (E : XK), Room k (A.deeper (envOfC qual scope s.heap.objs.size f cdv)) → sp vs H Q E →
      ∃ t, PSs (cxOf CX P w K mg base N qual scope f cdv A outer s H E) body t ∧ t { nx := fun _ H' => Q .non H', rt := Q } (start N vs) H) :
    FnOk P w K mg base CX (k + 1) f (PySem.W.fnOf name qual params body scope dV kV doc pm an cdv ct) ps sp := by
  refine ⟨len, fun A outer s H args us vs Q E hr e0 hb r hsp => ?_⟩
  have hl := len _ _ _ _ hsp
  have KX : K.In s.heap := e0.mod.kin.keeps fun b o e => (e0.bs b o e).1
  have lim : s.heap.NoLimit := e0.mod.nolimit.keeps fun b o e => (e0.bs b o e).1
  have hkind : ∀ y ∈ ps.zip us, scope.names.lookup y.1 = some .local ∨ (scope.names.lookup y.1 = some .cell ∧ ((cellsFrom (s.heap.objs.size + 1) scope.names []).lookup y.1).isSome = true) := fun ⟨n, v⟩ hy => by
    rcases S.par n (List.of_mem_zip hy).1 with q | q
    · exact .inl q
    · exact .inr ⟨q, PySem.W.cellsFrom_some _ _ _ (.inl q)⟩
  refine codeAny_call_function hr.depth (KX _ _ lk) rfl S.co S.gen rfl (PySem.W.codeRec_of KX hcd) (hb _ _ _ _ ?_)
  refine wpAny_newFunctionEnv_cells S.kind hkind fun env he s1 x => ?_
  subst he
  refine ⟨lim.keeps x.toInCall.keep, codeAny_func ?_⟩
  obtain ⟨t, ht, hq⟩ := hbody A outer s H vs Q E (hr.deeper _) hsp
  have I : Inv (cxOf CX P w K mg base N qual scope f cdv A outer s H E) [] (start N vs) H s1 := inv_start S hr.hd e0 hl r x
  refine wpAny_mono (ht [] s1 (start N vs) H _ I hq) (fun fl s' hs => ?_) fun e s' hs => hs
  have fin : ∀ {σ' : St} {H' : Hp} {v : V} {u : Value}, Inv (cxOf CX P w K mg base N qual scope f cdv A outer s H E) [] σ' H' s' → RelV v u → Q v H' → CE outer P w H s Q u s' :=
    fun {σ' H' v u} J rv q => ⟨v, H', J.os, J.bare, J.base, J.hok, rv, q⟩
  cases fl with
  | ret u =>
    obtain ⟨v, σ', H', J, rv, q⟩ := hs
    exact fin J rv q
  | next =>
    obtain ⟨σ', H', J, q⟩ := hs
    exact fin (v := V.non) (u := Value.none) J rfl q
  | brk =>
    obtain ⟨_, _, _, q⟩ := hs
    exact False.elim q
  | cont =>
    obtain ⟨_, _, _, q⟩ := hs
    exact False.elim q
end L2
namespace L2
open PySem PySem.Spec PyProof.Rows
section
variable {X : Cx} {x : Str} {p pos : Pos} {e : Expr} {es : List Expr} {t : TA} {id T : String} {r : List V → Hp → VK → Prop}
def tCB (r : List V → Hp → VK → Prop) (t : TA) : TE := fun σ H Q => t σ H fun vs H1 => r vs H1 Q
theorem pe_callB (hc : CallR X (.builtin id) r) (hg : Gl X x) (hm : X.mg x = none) (hv : bootBuiltins x = some (.builtin id)) (ha : PA X (e :: es) t) (hn : x ≠ "__name__" := by decide) (hdb : (x == ("__debug__" : Str)) = false := by decide)
    (he : starEach (e :: es) X.env = (false, eval e X.env) :: starEach es X.env := by rfl) (hpl : (backTo pos (starEach es X.env)).any (·.1) = false := by rfl) : PE X (.Call (.Name x p) (e :: es) [] pos) (tCB r t) := by
  intro pins s σ H Q I h
  refine wpAny_Call_Name_kw (ld_blt I hg hm hv ?_ hn hdb)
  exact PyProof.Rows.callWith_builtin1 (thn (ha pos pins s σ H _ I h) fun us s1 ⟨vs, H1, I1, r1, q1⟩ => hc pins s1 σ H1 vs us Q I1 r1 q1) he hpl
end
end L2
namespace HT
open PySem PyProof.Rows
section
open PySem.SeqAt
open PySem.AutoSeq1 (wpAny_loadPart')
open PySem.MeetsSeq PySem.MeetsSeq2 PySem.MeetsSeq3
end
section
variable {prog : Program} {w : World} {A : Around} {E : Value → Shared → Prop} {s : Shared}
end
end HT
namespace L2
open PySem PySem.Spec PyProof.Rows
abbrev TO := St → Hp → (Option Int → Hp → Prop) → Prop
section
variable {X : Cx} {e : Expr} {te : TE} {lo hi : Option Expr} {tl th : TO} {pos p2 : Pos}
def SlR (X : Cx) (r : V → Option Int → Option Int → Hp → VK → Prop) : Prop :=
  ∀ (pins : List (Addr × Obj)) (s : Shared) (σ : St) (H : Hp) (x : V) (v vl vu : Value) (lo hi : Option Int) (sl : Addr) (Q : VK), Inv X pins σ H s → RelV x v → s.heap.IsSliceOf sl vl vu .none → IsPart vl lo → IsPart vu hi → r x lo hi H Q →
    ∃ T id, typeLookup (.type T) "__getitem__" = pure (some (.builtin id)) ∧ s.TypeIs v T ∧ wpAny (model X.prog X.w) X.A (getItem v (.ref sl)) (EP X pins σ Q) X.xe s
theorem SlR.or {r r' : V → Option Int → Option Int → Hp → VK → Prop} (h : SlR X r) (h' : SlR X r') : SlR X (fun x lo hi H Q => r x lo hi H Q ∨ r' x lo hi H Q) := by
  intro pins s σ H x v vl vu lo hi sl Q I rx hs pl pu q
  rcases q with q | q
  · exact h pins s σ H x v vl vu lo hi sl Q I rx hs pl pu q
  · exact h' pins s σ H x v vl vu lo hi sl Q I rx hs pl pu q
end
end L2
namespace L2
open PySem PySem.Spec PyProof.Rows
def ixN (n : Nat) (i : Int) : Option Nat := if 0 ≤ i then (if i < n then some i.toNat else none) else if -(n : Int) ≤ i then some (i + n).toNat else none
def atI {α : Type} (xs : List α) (i : Int) : Option α := (ixN xs.length i).bind fun j => xs[j]?
theorem ixN_seq {n : Nat} {i : Int} {j : Nat} (h : ixN n i = some j) : seqIndex? i n = some j ∧ j < n ∧ -(n : Int) ≤ i ∧ i < n := by
  unfold ixN at h
  by_cases h0 : 0 ≤ i
  · rw [if_pos h0] at h
    by_cases h1 : i < n
    · rw [if_pos h1] at h
      have e : i.toNat = j := Option.some.inj h
      exact ⟨by rw [seqIndex_of h0 h1, e], by omega, by omega, h1⟩
    · rw [if_neg h1] at h; cases h
  · rw [if_neg h0] at h
    by_cases h1 : -(n : Int) ≤ i
    · rw [if_pos h1] at h
      have e : (i + n).toNat = j := Option.some.inj h
      exact ⟨by rw [seqIndex_neg (by omega) h1, e], by omega, h1, by omega⟩
    · rw [if_neg h1] at h; cases h
theorem atI_get {α : Type} {xs : List α} {i : Int} {v : α} (h : atI xs i = some v) : ∃ j, seqIndex? i xs.length = some j ∧ xs[j]? = some v ∧ j < xs.length ∧ -(xs.length : Int) ≤ i ∧ i < xs.length := by
  unfold atI at h
  cases e : ixN xs.length i with
  | none => rw [e] at h; cases h
  | some j =>
    rw [e] at h
    obtain ⟨h1, h2, h3, h4⟩ := ixN_seq e
    exact ⟨j, h1, h, h2, h3, h4⟩
theorem atI_nat {α : Type} {xs : List α} {j : Nat} {v : α} (h : xs[j]? = some v) : atI xs (j : Int) = some v := by
  have hj : j < xs.length := (List.getElem?_eq_some_iff.mp h).1
  have e : ixN xs.length (j : Int) = some j := by
    unfold ixN
    rw [if_pos (by omega), if_pos (by omega)]; simp
  unfold atI; rw [e]; exact h
def PlainIx (b : Expr) : Prop := ∀ o i, subscripted b false o i = operate [o, i] (getItem o i)
def IxR (X : Cx) (r : R2) : Prop :=
  ∀ (value slice : Expr) (pins : List (Addr × Obj)) (s : Shared) (σ : St) (H : Hp) (x y : V) (v u : Value) (Q : VK), Inv X pins σ H s → RelV x v → RelV y u → r x y H Q →
    subscripted slice false v u = operate [v, u] (getItem v u) → wpAny (model X.prog X.w) X.A (subscriptTail value slice v u) (EP X pins σ Q) X.xe s
def MtR (X : Cx) (id : String) (r : V → List V → Hp → VK → Prop) : Prop :=
  ∀ (pins : List (Addr × Obj)) (s : Shared) (σ : St) (H : Hp) (x : V) (xs : List V) (v : Value) (us : List Value) (Q : VK), Inv X pins σ H s → RelV x v → Vals xs us → r x xs H Q →
    wpAny (model X.prog X.w) X.A (call (.builtin id) (v :: us)) (EP X pins σ Q) X.xe s
section
variable {X : Cx} {a b : Expr} {ta tb : TE} {pos : Pos}
theorem IxR.or {r r' : R2} (h : IxR X r) (h' : IxR X r') : IxR X (fun x y H Q => r x y H Q ∨ r' x y H Q) := by
  intro value slice pins s σ H x y v u Q I rx ry q hs
  rcases q with q | q
  · exact h value slice pins s σ H x y v u Q I rx ry q hs
  · exact h' value slice pins s σ H x y v u Q I rx ry q hs
theorem MtR.or {id : String} {r r' : V → List V → Hp → VK → Prop} (h : MtR X id r) (h' : MtR X id r') : MtR X id (fun x xs H Q => r x xs H Q ∨ r' x xs H Q) := by
  intro pins s σ H x xs v us Q I rx rs q
  rcases q with q | q
  · exact h pins s σ H x xs v us Q I rx rs q
  · exact h' pins s σ H x xs v us Q I rx rs q
theorem pe_ix {r : R2} (hr : IxR X r) (ha : PE X a ta) (hb : PE X b tb) (hs : PlainIx b) : PE X (.Subscript a b pos) (tOp r ta tb) := by
  intro pins s σ H Q I h
  exact Subscript_ (binT ha hb I h fun v u s2 x y H2 I2 rx ry q => hr a b pins s2 σ H2 x y v u Q I2 rx ry q (hs _ _))
def rIxL (K : PySem.W.Frag) : R2 := fun x y H Q => ∃ p xs i v, x = .ref p ∧ y = .int i ∧ SqL K H p xs ∧ atI xs i = some v ∧ Q v H
def rIxT (K : PySem.W.Frag) : R2 := fun x y H Q => ∃ p xs i v, x = .ref p ∧ y = .int i ∧ SqT K H p xs ∧ atI xs i = some v ∧ Q v H
theorem ix_list : IxR X (rIxL X.K) := by
  intro value slice pins s σ H x y v u Q I rx ry h hs
  obtain ⟨p, xs, i, z, rfl, rfl, hq, he, q⟩ := h
  cases rx
  obtain ⟨t, rfl⟩ := ry
  obtain ⟨its, r, pl, hz⟩ := I.list hq
  obtain ⟨j, h1, h2, h3, h4, h5⟩ := atI_get he
  obtain ⟨w, ew, rw'⟩ := r.get h2
  have hl := r.length
  have hn := line63
  have fin : EP X pins σ Q w s := ⟨z, H, I, rw', q⟩
  by_cases h0 : 0 ≤ i
  · have hj : i.toNat = j := by
      rw [seqIndex_of h0 h5] at h1
      exact Option.some.inj h1
    exact item_listR pl.isList h0 (by omega) (by rw [hj]; simpa using ew) fin hs
  · have hj : (i + (its.toArray.size : Int)).toNat = j := by
      rw [seqIndex_neg (by omega) h4] at h1
      rw [List.size_toArray, ← hl]
      exact Option.some.inj h1
    exact subscriptTail_builtinR (x := w) pl.isList.typeIs slot_list_getitem.lookup
      (wpAny_getItem_list_neg (Q := fun r s' => r = w ∧ EP X pins σ Q r s') pl.isList (by omega) (by rw [List.size_toArray] <;> omega) (by omega) (by rw [hj]; simpa using ew) ⟨rfl, fin⟩) hs
theorem ix_tup : IxR X (rIxT X.K) := by
  intro value slice pins s σ H x y v u Q I rx ry h hs
  obtain ⟨p, xs, i, z, rfl, rfl, hq, he, q⟩ := h
  cases rx
  obtain ⟨t, rfl⟩ := ry
  obtain ⟨its, r, pl, hz⟩ := I.tuple hq
  obtain ⟨j, h1, h2, h3, h4, h5⟩ := atI_get he
  obtain ⟨w, ew, rw'⟩ := r.get h2
  have hl := r.length
  have hn := line63
  have fin : EP X pins σ Q w s := ⟨z, H, I, rw', q⟩
  exact subscriptTail_builtinR (x := w) pl.typeIs slot_tuple_getitem.lookup
    (getItem_tuple (j := j) (Q := fun r s' => r = w ∧ EP X pins σ Q r s') pl (by omega) (by omega) (by rw [List.size_toArray, ← hl]; exact h1) (by simpa using ew) ⟨rfl, fin⟩) hs
theorem Inv.lst {pins : List (Addr × Obj)} {σ : St} {H : Hp} {s : Shared} {p : Addr} {xs : List V} (I : Inv X pins σ H s) (h : H p = some (.lst xs)) :
    ∃ (its : List Value) (n : Nat), Vals xs its ∧ s.heap.get? p = some { cls := .type "list", data := .seq its.toArray n } ∧ xs.length ≤ sizeLine := by
  obtain ⟨z, its, n, r, e⟩ := I.hok p _ h
  exact ⟨its, n, r, e, z⟩
theorem CallR.or {f : Value} {r r' : List V → Hp → VK → Prop} (h : CallR X f r) (h' : CallR X f r') : CallR X f (fun xs H Q => r xs H Q ∨ r' xs H Q) := by
  intro pins s σ H xs us Q I rs q
  rcases q with q | q
  · exact h pins s σ H xs us Q I rs q
  · exact h' pins s σ H xs us Q I rs q
def tyV (K : PySem.W.Frag) (T : String) (x : V) (H : Hp) : Prop := match x with
  | .str _ => T = "str"
  | .int _ => T = "int"
  | .ref p => (T = "list" ∧ ∃ xs, SqL K H p xs) ∨ (T = "tuple" ∧ ∃ o, K.lookup p = some o ∧ o.cls = .type "tuple" ∧ o.dict = none) ∨
      (T = "dict" ∧ ((∃ kvs, H p = some (.dK kvs)) ∨ ∃ kvs, H p = some (.dT kvs))) ∨ (T = "set" ∧ ∃ S n, H p = some (.set S n))
  | _ => False
theorem tyV_is {pins : List (Addr × Obj)} {σ : St} {H : Hp} {s : Shared} {T : String} {x : V} {v : Value} (I : Inv X pins σ H s) (r : RelV x v) (ty : tyV X.K T x H) :
    s.TypeIs v T ∧ ∀ a, v = .ref a → ∃ ob, s.heap.get? a = some ob ∧ ob.dict = none := by
  cases x with
  | str z =>
    obtain ⟨t, rfl⟩ := r
    cases (show T = "str" from ty)
    exact ⟨typeIs_str s z t, fun _ e => nomatch e⟩
  | int i =>
    obtain ⟨t, rfl⟩ := r
    cases (show T = "int" from ty)
    exact ⟨typeIs_int s i t, fun _ e => nomatch e⟩
  | ref p =>
    cases r
    rcases ty with ⟨rfl, xs, hq⟩ | ⟨rfl, o, hk, hc, hd⟩ | ⟨rfl, hk⟩ | ⟨rfl, S, n, hk⟩
    · obtain ⟨its, _, pl, _⟩ := I.list hq
      refine ⟨pl.isList.typeIs, fun a e => ?_⟩
      cases e
      obtain ⟨o, n, e, c, hd, _⟩ := pl
      exact ⟨o, e, hd⟩
    · refine ⟨⟨o, I.kIn p o hk, hc⟩, fun a e => ?_⟩
      cases e
      exact ⟨o, I.kIn _ o hk, hd⟩
    · have z : ∃ o, s.heap.get? p = some o ∧ o.ExactDict := by
        rcases hk with ⟨kvs, hk⟩ | ⟨kvs, hk⟩
        · obtain ⟨_, _, _, _, o, _, _, e, ex, _⟩ := I.hok p _ hk
          exact ⟨o, e, ex⟩
        · obtain ⟨_, _, _, _, o, _, _, e, ex, _⟩ := I.hok p _ hk
          exact ⟨o, e, ex⟩
      obtain ⟨o, e, ex⟩ := z
      refine ⟨⟨o, e, ex.1⟩, fun a e2 => ?_⟩
      cases e2
      exact ⟨o, e, ex.2.1⟩
    · obtain ⟨o, _, _, _, e, ex, _⟩ := I.hok p _ hk
      refine ⟨⟨o, e, ex.1⟩, fun a e2 => ?_⟩
      cases e2
      exact ⟨o, e, ex.2.1⟩
  | _ => exact False.elim ty
def tBM0 (K : PySem.W.Frag) (T : String) (r : V → List V → Hp → VK → Prop) (to : TE) : TE := fun σ H Q => to σ H fun x H1 => tyV K T x H1 ∧ r x [] H1 Q
def tBM (K : PySem.W.Frag) (T : String) (r : V → List V → Hp → VK → Prop) (to : TE) (t : TA) : TE := fun σ H Q => to σ H fun x H1 => tyV K T x H1 ∧ t σ H1 fun xs H2 => r x xs H2 Q
variable {o e : Expr} {es : List Expr} {to : TE} {t : TA} {name : Str} {apos cpos : Pos} {T id : String} {r : V → List V → Hp → VK → Prop}
theorem pe_bm0 (pa : PlainAttrs T) (slot : Slot T name id) (hty : typeOf (.builtin id) = pure (.type "method_descriptor")) (hm : MtR X id r) (ho : PE X o to)
    (hbase : attributeBase o name X.env (eval o X.env) = eval o X.env := by rfl) (hline : (apos.endLine == cpos.line) = true := by rfl) : PE X (.Call (.Attribute o name apos) [] [] cpos) (tBM0 X.K T r to) := by
  intro pins s σ H Q I h
  refine wpAny_Call_method0_late hbase hline (thn (ho pins s σ H _ I h) fun v s1 ⟨x, H1, I1, r1, ty, q1⟩ => ?_)
  obtain ⟨h1, h2⟩ := tyV_is I1 r1 ty
  exact ⟨T, id, pa, slot, hty, h1, h2, Calls.callWith_builtin rfl (PySem.evalArgs_none (hm pins s1 σ H1 x [] v [] Q I1 r1 .nil q1))⟩
theorem pe_bm (pa : PlainAttrs T) (slot : Slot T name id) (hty : typeOf (.builtin id) = pure (.type "method_descriptor")) (hm : MtR X id r) (ho : PE X o to) (ha : PA X (e :: es) t)
    (hbase : attributeBase o name X.env (eval o X.env) = eval o X.env := by rfl)
    (hfew : ((backTo cpos (starEach (e :: es) X.env)).all (fun x => !x.1) && (backToKw cpos (keywordEach [] X.env)).all (fun x => x.1.isSome)
      && decide ((e :: es).length + ([] : List Keyword).length + (if ([] : List Keyword).isEmpty then 0 else 1) < 30)) = true := by rfl)
    (hline : (apos.endLine == cpos.line) = true := by rfl) (hs : starEach (e :: es) X.env = (false, eval e X.env) :: starEach es X.env := by rfl) (hplain : (backTo cpos (starEach es X.env)).any (·.1) = false := by rfl) :
    PE X (.Call (.Attribute o name apos) (e :: es) [] cpos) (tBM X.K T r to t) := by
  intro pins s σ H Q I h
  refine wpAny_Call_method_late hbase hfew hline rfl (thn (ho pins s σ H _ I h) fun v s1 ⟨x, H1, I1, r1, ty, q1⟩ => ?_)
  obtain ⟨h1, h2⟩ := tyV_is I1 r1 ty
  refine ⟨T, id, pa, slot, hty, h1, h2, ?_⟩
  have hA := ha cpos pins s1 σ H1 _ I1 q1
  rw [hs] at hA ⊢
  refine Calls.callWith_builtin (by show (false || (backTo cpos (starEach es X.env)).any (·.1)) = false; rw [hplain] <;> rfl) (Calls.evalArgs_plain ?_)
  exact thn hA fun us s2 ⟨vs, H2, I2, r2, q2⟩ => hm pins s2 σ H2 x vs v us Q I2 r1 r2 q2
end
end L2
namespace L2
open PySem PySem.Spec PyProof.Rows
def MtM (X : Cx) (id : String) (r : V → List V → Hp → VK → Prop) : Prop :=
  ∀ (pins : List (Addr × Obj)) (s : Shared) (σ : St) (H : Hp) (x : V) (xs : List V) (v : Value) (us : List Value) (Q : VK), Inv X pins σ H s → RelV x v → Vals xs us → r x xs H Q →
    wpAny (model X.prog X.w) X.A (call (.builtin id) (v :: us)) (EP X pins σ Q) X.xe s
theorem Vals.one : ∀ {x : V} {us : List Value}, Vals [x] us → ∃ u, us = [u] ∧ RelV x u
  | _, _, .cons r .nil => ⟨_, rfl, r⟩
theorem Vals.two : ∀ {x y : V} {us : List Value}, Vals [x, y] us → ∃ u v, us = [u, v] ∧ RelV x u ∧ RelV y v
  | _, _, _, .cons r (.cons q .nil) => ⟨_, _, rfl, r, q⟩
theorem Vals.zero : ∀ {us : List Value}, Vals [] us → us = []
  | _, .nil => rfl
theorem Vals.reverse {xs : List V} {us : List Value} (h : Vals xs us) : Vals xs.reverse us.reverse := by
  induction h with
  | nil => exact .nil
  | cons r t ih => rw [List.reverse_cons, List.reverse_cons]; exact Vals.append ih (.cons r .nil)
theorem Vals.rep {xs : List V} {us : List Value} (h : Vals xs us) : ∀ k : Nat, Vals (List.replicate k xs).flatten (List.replicate k us).flatten
  | 0 => .nil
  | k + 1 => by
    rw [List.replicate_succ, List.replicate_succ, List.flatten_cons, List.flatten_cons]
    exact Vals.append h (Vals.rep h k)
theorem foldl_rep (its : List Value) : ∀ (k : Nat) (acc : List Value),
    List.foldl (fun x1 x2 => x1 ++ x2) acc.toArray (List.replicate k its.toArray) = (acc ++ (List.replicate k its).flatten).toArray
  | 0, acc => by simp
  | k + 1, acc => by
    have e : acc.toArray ++ its.toArray = (acc ++ its).toArray := by simp
    have e2 : (acc ++ its) ++ (List.replicate k its).flatten = acc ++ (List.replicate (k + 1) its).flatten := by
      rw [List.replicate_succ, List.flatten_cons, List.append_assoc]
    rw [← e2, ← foldl_rep its k (acc ++ its), ← e, List.replicate_succ, List.foldl_cons]
section
variable {X : Cx} {pins : List (Addr × Obj)} {σ : St} {H : Hp} {s : Shared} {l b : Addr} {xs ys zs : List V}
theorem Inv.lset {its its' : List Value} {n : Nat} {f : Array Value → Array Value} {t' : Nat} (I : Inv X pins σ H s) (hH : H l = some (.lst xs))
    (e : s.heap.get? l = some { cls := .type "list", data := .seq its.toArray n }) (hf : f its.toArray = its'.toArray) (hv : Vals ys its') (hz : ys.length ≤ sizeLine) :
    Inv X pins σ (upd H l (.lst ys)) { s with heap := s.heap.update l (Obj.mapSeq f), toks := t' } := by
  have q := PySem.IsL.update e f
  rw [hf] at q
  refine I.write (x := l) (e := l) (by rw [hH]; exact trivial) (.inl rfl) (fun b' u hb hu => (Heap.get?_update_other s.heap (Obj.mapSeq f) (Ne.symm hb)).trans hu) ⟨_, q⟩ ?_
  exact ⟨hz, its', _, hv, q⟩
theorem Inv.lnew {its : List Value} {t' : Nat} (I : Inv X pins σ H s) (hv : Vals ys its) (hz : ys.length ≤ sizeLine) :
    Inv X pins σ (upd H s.heap.objs.size (.lst ys)) { s with heap := s.heap.push { cls := .type "list", data := .seq its.toArray }, toks := t' } :=
  I.laid (fun _ _ q => Heap.get?_push_of_some _ q) (Nat.le_refl _) ⟨hz, its, 0, hv, Heap.get?_push_size _ rfl⟩
theorem Inv.fresh (I : Inv X pins σ H s) : H s.heap.objs.size = none := I.hok.fresh (Nat.le_refl _)
theorem Inv.lstM (I : Inv X pins σ H s) (hH : H l = some (.lst xs)) : xs.length ≤ sizeLine ∧ ∃ (its : List Value) (n : Nat), Vals xs its ∧ xs.length = its.length ∧ s.heap.get? l = some { cls := .type "list", data := .seq its.toArray n } := by
  obtain ⟨z, its, n, r, e⟩ := I.hok l _ hH
  exact ⟨z, its, n, r, r.length, e⟩
theorem notLongL {n : Nat} (h : n ≤ sizeLine) : Builtin.List.listTooLong n = false := by
  unfold Builtin.List.listTooLong
  exact decide_eq_false (by omega)
end
section
variable {X : Cx}
def rAppend : V → List V → Hp → VK → Prop := fun x vs H Q => ∃ l xs y, x = .ref l ∧ vs = [y] ∧ H l = some (.lst xs) ∧ xs.length < sizeLine ∧ Q .non (upd H l (.lst (xs ++ [y])))
theorem mt_append : MtM X "list.append" rAppend := by
  intro pins s σ H x vs v us Q I rx rv h
  obtain ⟨l, xs, y, rfl, rfl, hH, hz, q⟩ := h
  cases rx
  obtain ⟨u, rfl, ru⟩ := rv.one
  obtain ⟨z, its, n, r, hl, e⟩ := I.lstM hH
  refine call_meets F.slot_list_append ⟨_, e, rfl⟩ F.entry_list_append (F.args_list_append_2 _ _) (PySem.list_append l its.toArray n u (by rw [List.size_toArray]; omega)) ⟨e, ?_⟩
  refine ⟨.non, _, I.lset (its' := its ++ [u]) hH e (by simp) (r.append (.cons ru .nil)) ?_, rfl, q⟩
  rw [List.length_append, List.length_singleton]
  omega
def rCat : R2 := fun x y H Q => ∃ l b xs zs, x = .ref l ∧ y = .ref b ∧ H l = some (.lst xs) ∧ H b = some (.lst zs) ∧ xs.length + zs.length ≤ sizeLine ∧ ∀ p, H p = none → Q (.ref p) (upd H p (.lst (xs ++ zs)))
theorem op_cat : OpR X (binaryOp .Add) rCat := by
  intro pins s σ H x y v u Q I rx ry h
  obtain ⟨l, b, xs, zs, rfl, rfl, hH, hB, hz, q⟩ := h
  cases rx
  cases ry
  obtain ⟨z, its, n, r, hl, e⟩ := I.lstM hH
  obtain ⟨z2, its2, n2, r2, hl2, e2⟩ := I.lstM hB
  refine PySem.P.add_list e e2 ?_ (by rw [List.size_toArray, List.size_toArray]; omega)
  have ea : its.toArray ++ its2.toArray = (its ++ its2).toArray := by simp
  rw [ea]
  exact ⟨.ref _, _, I.lnew (t' := s.toks) (r.append r2) (by rw [List.length_append]; omega), rfl, q _ I.fresh⟩
def rRep : R2 := fun x y H Q => ∃ l k xs, x = .ref l ∧ y = .int k ∧ H l = some (.lst xs) ∧ -(2 ^ 63) ≤ k ∧ k < 2 ^ 63 ∧ xs.length * k.toNat ≤ sizeLine ∧
  ∀ p, H p = none → Q (.ref p) (upd H p (.lst (List.replicate k.toNat xs).flatten))
theorem len_rep {α : Type} (xs : List α) (k : Nat) : (List.replicate k xs).flatten.length = k * xs.length := by
  induction k with
  | zero => simp
  | succ k ih => rw [List.replicate_succ, List.flatten_cons, List.length_append, ih, Nat.succ_mul, Nat.add_comm]
theorem op_rep : OpR X (binaryOp .Mult) rRep := by
  intro pins s σ H x y v u Q I rx ry h
  obtain ⟨l, k, xs, rfl, rfl, hH, h1, h2, hz, q⟩ := h
  cases rx
  obtain ⟨t, rfl⟩ := ry
  obtain ⟨z, its, n, r, hl, e⟩ := I.lstM hH
  have hlen : its.toArray.size * k.toNat ≤ sizeLine := by rw [List.size_toArray, ← hl]; exact hz
  have hcap : ¬ its.toArray.size * k.toNat > (2 ^ 63 - 1) / 8 := by
    have : (sizeLine : Nat) ≤ (2 ^ 63 - 1) / 8 := by decide
    omega
  have hfit : ¬ (!Builtin.List.listFitsIndex k) = true := by
    rw [fitsIndex_both h1 h2]
    exact Bool.false_ne_true
  have hlong : ¬ Builtin.List.listTooLong (its.toArray.size * k.toNat) = true := by
    rw [notLongL hlen]
    exact Bool.false_ne_true
  have hnew : List.foldl (fun x1 x2 => x1 ++ x2) #[] (List.replicate (if its.toArray.isEmpty = true then 0 else k.toNat) its.toArray) = (List.replicate k.toNat its).flatten.toArray := by
    have f0 : ∀ m : Nat, List.foldl (fun x1 x2 => x1 ++ x2) #[] (List.replicate m its.toArray) = (List.replicate m its).flatten.toArray := fun m => by
      have := foldl_rep its m []
      rw [List.nil_append] at this
      exact this
    rw [f0]
    cases its with
    | nil => simp
    | cons a r' => rw [if_neg (by simp)]
  refine wpAny_binaryOp_repeat_ref (T := "list") (U := "int") (by decide) ⟨_, e, rfl⟩ (fun s' => typeIs_int s' k t) noFill_list_mul F.fills_int_mul F.slot_int_rmul repeat_list F.slot_int_index.lookup
    (call_meets F.slot_int_rmul (typeIs_int s k t) F.entry_int_rmul (F.args_int_rmul_2 _ _) (int___rmul___int_list k t l its.toArray n)
      ⟨e, rfl, ⟨_, e, rfl⟩, call_meets F.slot_list_mul ⟨_, e, rfl⟩ F.entry_list_mul (F.args_list_mul_2 _ _) (AutoListH.list___mul___list_int_3 l its.toArray n k t hfit hcap hlong) ⟨e, ?_⟩⟩)
  rw [hnew]
  exact ⟨.ref _, _, I.lnew (t' := s.toks) (r.rep k.toNat) (by rw [len_rep, Nat.mul_comm]; exact hz), rfl, q _ I.fresh⟩
end
section
variable {prog : Program} {w : World} {A : Around} {E : Value → Shared → Prop} {s : Shared}
set_option maxRecDepth 100000 in
end
section
variable {X : Cx}
end
end L2
namespace L2
open PySem PySem.Spec PyProof.Rows
theorem Vals.ints : ∀ {ns : List Int} {us : List Value}, Vals (ns.map V.int) us → IntsAre us ns
  | [], us, h => by
    rw [List.map_nil] at h
    cases h
    exact IntsAre.nil
  | n :: ns, us, h => by
    rw [List.map_cons] at h
    cases h with
    | cons r t =>
      obtain ⟨k, rfl⟩ := r
      exact IntsAre.cons n k (Vals.ints t)
theorem Vals.strs : ∀ {xs : List Str} {us : List Value}, Vals (xs.map V.str) us → StrsAre us xs
  | [], us, h => by
    rw [List.map_nil] at h
    cases h
    exact StrsAre.nil
  | x :: xs, us, h => by
    rw [List.map_cons] at h
    cases h with
    | cons r t =>
      obtain ⟨k, rfl⟩ := r
      exact StrsAre.cons x k (Vals.strs t)
section
variable {prog : Program} {w : World} {A : Around} {E : Value → Shared → Prop} {s : Shared} {l : Addr} {its : List Value} {ns : List Int} {Q : Value → Shared → Prop}
end
section
variable {X : Cx}
end
section
variable {X : Cx}
end
section
variable {X : Cx}
end
section
variable {X : Cx}
end
mutual
inductive Dp (K : PySem.W.Frag) (H : Hp) : V → PyData → Prop
  | non : Dp K H .non .none
  | bl (b : Bool) : Dp K H (.bl b) (.bool b)
  | int (i : Int) : Dp K H (.int i) (.int i)
  | str (x : Str) : Dp K H (.str x) (.str x)
  | lst {a : Addr} {xs : List V} {ds : List PyData} : SqL K H a xs → DpAll K H xs ds → Dp K H (.ref a) (.list ds)
  | tup {a : Addr} {xs : List V} {ds : List PyData} : SqT K H a xs → DpAll K H xs ds → Dp K H (.ref a) (.tuple ds)
inductive DpAll (K : PySem.W.Frag) (H : Hp) : List V → List PyData → Prop
  | nil : DpAll K H [] []
  | cons {v : V} {vs : List V} {d : PyData} {ds : List PyData} : Dp K H v d → DpAll K H vs ds → DpAll K H (v :: vs) (d :: ds)
end
section
variable {X : Cx} {pins : List (Addr × Obj)} {σ : St} {H : Hp} {s : Shared}
mutual
theorem Dp.reads (I : Inv X pins σ H s) : ∀ (d : PyData) (v : V) (u : Value), Dp X.K H v d → RelV v u → ∃ as, Reads s.heap u d as
  | .none, _, _, h, r => by
    cases h
    cases r
    exact ⟨_, Reads.none⟩
  | .bool b, _, _, h, r => by
    cases h
    cases r
    exact ⟨_, Reads.bool b⟩
  | .int i, _, _, h, r => by
    cases h
    obtain ⟨t, rfl⟩ := r
    exact ⟨_, Reads.int i t⟩
  | .str x, _, _, h, r => by
    cases h
    obtain ⟨t, rfl⟩ := r
    exact ⟨_, Reads.str x t⟩
  | .list ds, _, _, h, r => by
    cases h with
    | lst hs ha =>
      cases r
      obtain ⟨its, rv, ⟨o, n, ho, hc, _, hd⟩, _⟩ := I.list hs
      obtain ⟨as, hr⟩ := Dp.readsAll I ds _ its ha rv
      exact ⟨_, Reads.list ho hc hd hr⟩
  | .tuple ds, _, _, h, r => by
    cases h with
    | tup hs ha =>
      cases r
      obtain ⟨its, rv, ⟨o, ho, hc, n, hd⟩, _⟩ := I.tuple hs
      obtain ⟨as, hr⟩ := Dp.readsAll I ds _ its ha rv
      exact ⟨_, Reads.tuple ho hc hd hr⟩
  | .dict _, _, _, h, _ => by cases h
theorem Dp.readsAll (I : Inv X pins σ H s) : ∀ (ds : List PyData) (vs : List V) (us : List Value), DpAll X.K H vs ds → Vals vs us → ∃ as, ReadsAll s.heap us ds as
  | [], _, _, h, r => by
    cases h
    cases r
    exact ⟨_, ReadsAll.nil⟩
  | d :: ds, _, _, h, r => by
    cases h with
    | cons h1 h2 =>
      cases r with
      | cons r1 r2 =>
        obtain ⟨as, q1⟩ := Dp.reads I d _ _ h1 r1
        obtain ⟨bs, q2⟩ := Dp.readsAll I ds _ _ h2 r2
        exact ⟨_, ReadsAll.cons q1 q2⟩
end
end
section
variable {X : Cx}
end
end L2
namespace L2
open PySem PySem.Spec PyProof.Rows
abbrev CellAt (h : Heap) (c : Addr) (v : Option Value) : Prop := h.IsCell c v
def relS (scope sc : Scope) : Scope :=
  { scope with names := scope.names.map fun (n, k) => if (k == .free && sc.kind == .function && sc.names.lookup n == some .cell) then (n, .cell) else (n, k) }
def cloFrom (cells : List (Str × Addr)) : List (Str × NameKind) → List (Str × Addr) → List (Str × Addr)
  | [], acc => acc
  | (n, k) :: r, acc => if k == .free then cloFrom cells r ((n, (cells.lookup n).getD 0) :: acc) else cloFrom cells r acc
theorem closure_loop (env : Env) (f : Str × NameKind → List (Str × Addr) → Sem (ForInStep (List (Str × Addr))))
    (hf : ∀ n k c, f (n, k) c = if k == .free then (do let a ← cellOf env n; pure (.yield ((n, a) :: c))) else pure (.yield c)) :
    ∀ (names : List (Str × NameKind)) (acc : List (Str × Addr)), (∀ y ∈ names, y.2 = .free → ∃ c, env.cells.lookup y.1 = some c) → forIn names acc f = pure (cloFrom env.cells names acc)
  | [], acc, _ => by rw [List.forIn_nil]; rfl
  | (n, k) :: r, acc, h => by
    rw [List.forIn_cons, hf]
    have ih := fun acc => closure_loop env f hf r acc fun y hy => h y (List.mem_cons_of_mem _ hy)
    unfold cloFrom
    by_cases hk : (k == NameKind.free) = true
    · rw [if_pos hk, if_pos hk]
      obtain ⟨c, hc⟩ := h (n, k) List.mem_cons_self (by simpa using hk)
      have e : cellOf env n = pure c := by unfold cellOf; rw [hc]
      rw [e]
      have e2 : (env.cells.lookup n).getD 0 = c := by rw [hc]; rfl
      rw [e2]
      exact ih _
    · rw [if_neg hk, if_neg hk]
      exact ih _
theorem closure_ok {scope : Scope} {env : Env} (h : ∀ y ∈ scope.names, y.2 = .free → ∃ c, env.cells.lookup y.1 = some c) : closureFor scope env = pure (cloFrom env.cells scope.names []) := by
  simp only [closureFor]
  rw [closure_loop env _ (fun n k c => rfl) scope.names [] h]
  rfl
theorem mem_lookup {α : Type} : ∀ {l : List (Str × α)} {n : Str} {c : α}, (n, c) ∈ l → ∃ c', l.lookup n = some c'
  | (k, v) :: r, n, c, h => by
    rw [List.lookup_cons]
    cases hb : n == k with
    | true => exact ⟨_, rfl⟩
    | false =>
      rcases List.mem_cons.mp h with e | h
      · cases e; simp at hb
      · exact mem_lookup h
theorem cloFrom_mem {cells : List (Str × Addr)} : ∀ {names : List (Str × NameKind)} {acc : List (Str × Addr)} {n : Str} {c : Addr}, (n, c) ∈ cloFrom cells names acc → (n, c) ∈ acc ∨ ((n, .free) ∈ names ∧ c = (cells.lookup n).getD 0)
  | [], _, _, _, h => .inl h
  | (m, k) :: r, acc, n, c, h => by
    unfold cloFrom at h
    split at h
    · rename_i hk
      have hk : k = .free := by simpa using hk
      rcases cloFrom_mem h with h | ⟨h1, h2⟩
      · rcases List.mem_cons.mp h with e | h
        · cases e; exact .inr ⟨hk ▸ List.mem_cons_self, rfl⟩
        · exact .inl h
      · exact .inr ⟨List.mem_cons_of_mem _ h1, h2⟩
    · rcases cloFrom_mem h with h | ⟨h1, h2⟩
      · exact .inl h
      · exact .inr ⟨List.mem_cons_of_mem _ h1, h2⟩
theorem cloFrom_acc {cells : List (Str × Addr)} : ∀ {names : List (Str × NameKind)} {acc : List (Str × Addr)} {p : Str × Addr}, p ∈ acc → p ∈ cloFrom cells names acc
  | [], _, _, h => h
  | (m, k) :: r, acc, p, h => by
    unfold cloFrom
    split
    · exact cloFrom_acc (List.mem_cons_of_mem _ h)
    · exact cloFrom_acc h
theorem cloFrom_has {cells : List (Str × Addr)} : ∀ {names : List (Str × NameKind)} {acc : List (Str × Addr)} {n : Str}, (n, .free) ∈ names → (n, (cells.lookup n).getD 0) ∈ cloFrom cells names acc
  | (m, k) :: r, acc, n, h => by
    unfold cloFrom
    rcases List.mem_cons.mp h with e | h
    · cases e
      exact cloFrom_acc List.mem_cons_self
    · split
      · exact cloFrom_has h
      · exact cloFrom_has h
theorem cells_mem : ∀ {names : List (Str × NameKind)} {h : Heap} {acc : List (Str × Addr)} {x : Str} {c : Addr}, (x, c) ∈ cellsFrom h.objs.size names acc →
    (x, c) ∈ acc ∨ ((x, .cell) ∈ names ∧ h.objs.size ≤ c ∧ CellAt (pushCells h names) c none)
  | [], _, _, _, _, h => .inl h
  | (n, k) :: r, h, acc, x, c, hm => by
    unfold cellsFrom at hm
    unfold pushCells
    split at hm
    · rename_i hk
      rw [if_pos hk]
      have hk : k = .cell := by simpa using hk
      rw [← Heap.size_push h { cls := .type "cell", data := .cell none }] at hm
      rcases cells_mem hm with hm | ⟨h1, h2, h3⟩
      · rcases List.mem_cons.mp hm with e | hm
        · cases e
          exact .inr ⟨hk ▸ List.mem_cons_self, Nat.le_refl _, _, pushCells_keeps r _ _ _ (Heap.get?_push_size _ rfl), rfl⟩
        · exact .inl hm
      · rw [Heap.size_push] at h2
        exact .inr ⟨List.mem_cons_of_mem _ h1, Nat.le_of_succ_le h2, h3⟩
    · rename_i hk
      rw [if_neg hk]
      rcases cells_mem hm with hm | ⟨h1, h2, h3⟩
      · exact .inl hm
      · exact .inr ⟨List.mem_cons_of_mem _ h1, h2, h3⟩
theorem cells_acc : ∀ {names : List (Str × NameKind)} {n : Nat} {acc : List (Str × Addr)} {p : Str × Addr}, p ∈ acc → p ∈ cellsFrom n names acc
  | [], _, _, _, h => h
  | (m, k) :: r, n, acc, p, h => by
    unfold cellsFrom
    split
    · exact cells_acc (List.mem_cons_of_mem _ h)
    · exact cells_acc h
theorem cells_has : ∀ {names : List (Str × NameKind)} {n : Nat} {acc : List (Str × Addr)} {x : Str}, (x, .cell) ∈ names → ∃ c, (x, c) ∈ cellsFrom n names acc
  | (m, k) :: r, n, acc, x, h => by
    unfold cellsFrom
    rcases List.mem_cons.mp h with e | h
    · cases e
      exact ⟨n, cells_acc List.mem_cons_self⟩
    · split
      · exact cells_has h
      · exact cells_has h
theorem cells_inj : ∀ {names : List (Str × NameKind)} {h : Heap} {acc : List (Str × Addr)} {x y : Str} {c : Addr}, (∀ p ∈ acc, p.2 < h.objs.size) → (∀ x y c, (x, c) ∈ acc → (y, c) ∈ acc → x = y) →
    (x, c) ∈ cellsFrom h.objs.size names acc → (y, c) ∈ cellsFrom h.objs.size names acc → x = y
  | [], _, _, _, _, _, _, hi, h1, h2 => hi _ _ _ h1 h2
  | (n, k) :: r, h, acc, x, y, c, hl, hi, h1, h2 => by
    unfold cellsFrom at h1 h2
    split at h1
    · rename_i hk
      rw [if_pos hk] at h2
      rw [← Heap.size_push h { cls := .type "cell", data := .cell none }] at h1 h2
      refine cells_inj (h := h.push _) (fun p hp => ?_) (fun x y c a b => ?_) h1 h2
      · rw [Heap.size_push]
        rcases List.mem_cons.mp hp with rfl | hp
        · exact Nat.lt_succ_self _
        · exact Nat.lt_succ_of_lt (hl p hp)
      · rcases List.mem_cons.mp a with e | a <;> rcases List.mem_cons.mp b with e' | b
        · cases e; cases e'; rfl
        · cases e; exact absurd (hl _ b) (Nat.lt_irrefl _)
        · cases e'; exact absurd (hl _ a) (Nat.lt_irrefl _)
        · exact hi _ _ _ a b
    · rename_i hk
      rw [if_neg hk] at h2
      exact cells_inj hl hi h1 h2
theorem newEnv_comp {M : Model} {A : Around} {E : Value → Shared → Prop} {s : Shared} {scope : Scope} {globals : Addr} {closure : List (Str × Addr)} {qual : Str} {func : Option Addr} {code : Value} {around : Env} {builtins : Addr} {Q : Env → Shared → Prop}
    (h : Q (newEnv scope s.heap.objs.size globals (cellsFrom (s.heap.objs.size + 1) scope.names closure) qual func code (some around) builtins)
      { s with heap := pushCells (s.heap.push { cls := .type "dict", data := .dict #[] }) scope.names }) :
    wpAny M A (newFunctionEnv scope globals closure [] qual func code (some around) builtins) Q E s := by
  simp only [newFunctionEnv, Option.isSome_some, if_true]
  refine wpAny_bind (wpAny_alloc ?_)
  refine wpAny_bind (wpAny_layCells _ (fun n k c => rfl) scope.names closure _ _ ?_)
  rw [show ({ s with heap := s.heap.push { cls := .type "dict", data := .dict #[] } } : Shared).heap.objs.size = s.heap.objs.size + 1 from Heap.size_push ..]
  rw [List.forIn_nil]
  exact wpAny_bind (wpAny_pure (wpAny_pure h))
theorem lookup_relS {sc : Scope} : ∀ {names : List (Str × NameKind)} {x : Str} {k : NameKind},
    (names.map fun (n, k) => if (k == NameKind.free && sc.kind == .function && sc.names.lookup n == some .cell) then (n, NameKind.cell) else (n, k)).lookup x = some k →
    ∃ k', names.lookup x = some k' ∧ (k = k' ∨ (k' = .free ∧ k = .cell))
  | [], _, _, h => by simp at h
  | (n, k₀) :: r, x, k, h => by
    have ih := @lookup_relS sc r x k
    have h' : List.lookup x ((if (k₀ == NameKind.free && sc.kind == .function && sc.names.lookup n == some .cell) = true then (n, NameKind.cell) else (n, k₀)) :: (r.map _)) = some k := h
    cases hx : x == n with
    | true =>
      simp only [List.lookup_cons, hx]
      by_cases hc : (k₀ == NameKind.free && sc.kind == .function && sc.names.lookup n == some .cell) = true
      · rw [if_pos hc] at h'
        simp only [List.lookup_cons, hx] at h'
        cases h'
        simp only [Bool.and_eq_true, beq_iff_eq] at hc
        exact ⟨k₀, rfl, .inr ⟨hc.1.1, rfl⟩⟩
      · rw [if_neg hc] at h'
        simp only [List.lookup_cons, hx] at h'
        cases h'
        exact ⟨_, rfl, .inl rfl⟩
    | false =>
      simp only [List.lookup_cons, hx]
      by_cases hc : (k₀ == NameKind.free && sc.kind == .function && sc.names.lookup n == some .cell) = true
      · rw [if_pos hc] at h'
        simp only [List.lookup_cons, hx] at h'
        exact ih h'
      · rw [if_neg hc] at h'
        simp only [List.lookup_cons, hx] at h'
        exact ih h'
structure BlkOk (N : List Str) (sc scope : Scope) (own : List (Str × Nat)) : Prop where
  kind : scope.kind = .function
  uniq : ∀ y ∈ scope.names, scope.names.lookup y.1 = some y.2
  ix : ∀ p ∈ own, N[p.2]? = some p.1
  free : ∀ y ∈ scope.names, y.2 = .free → sc.names.lookup y.1 = some .cell ∨ sc.names.lookup y.1 = some .free
  own : ∀ y ∈ scope.names, y.2 = .local ∨ y.2 = .cell → y.1 ∈ own.map (·.1) ∨ y.1 ∉ N
def wipe (σ : St) : List Nat → St
  | [] => σ
  | v :: vs => (wipe σ vs).set v none
theorem wipe_length (σ : St) : ∀ vs : List Nat, (wipe σ vs).length = σ.length
  | [] => rfl
  | v :: vs => by unfold wipe; rw [List.length_set, wipe_length σ vs]
theorem wipe_some {σ : St} {i : Nat} {x : V} : ∀ {vs : List Nat}, (wipe σ vs)[i]? = some (some x) → σ[i]? = some (some x) ∧ i ∉ vs
  | [], h => ⟨h, by simp⟩
  | v :: vs, h => by
    unfold wipe at h
    by_cases hi : v = i
    · subst hi
      by_cases hv : v < (wipe σ vs).length
      · rw [List.getElem?_set_self hv] at h; cases h
      · rw [List.getElem?_eq_none (by simpa using hv)] at h; cases h
    · rw [List.getElem?_set_ne hi] at h
      obtain ⟨h1, h2⟩ := wipe_some h
      exact ⟨h1, by simp only [List.mem_cons, not_or]; exact ⟨fun e => hi e.symm, h2⟩⟩
abbrev Cx.blk (X : Cx) (s : Shared) (H : Hp) (scope : Scope) (cenv : Env) (fp : List Addr) : Cx := { X with s_0 := s, H_0 := H, env := cenv, outer := X.stack, ex := fp, fn := fun x => scope.names.lookup x == some .cell, pn := [], xe := fun _ _ => False }
section
variable {X : Cx} {pins : List (Addr × Obj)} {σ : St} {H : Hp} {s : Shared}
theorem block_start {scope : Scope} {own : List (Str × Nat)} {fp : List Addr} (I : Inv X pins σ H s) (ok : BlkOk X.N X.env.scope scope own) (hN : X.N.Nodup) (hfp : ∀ b ∈ fp, FpOk X pins H b ∧ b < s.heap.objs.size) :
    Inv (X.blk s H scope (compEnvC scope (cellsFrom (s.heap.objs.size + 1) scope.names (cloFrom X.env.cells scope.names [])) s.heap.objs.size X.env) fp) [] (wipe σ (own.map (·.2))) H { s with heap := pushCells (s.heap.push { cls := .type "dict", data := .dict #[] }) scope.names } := by
  have hfree : ∀ y ∈ scope.names, y.2 = .free → ∃ c, X.env.cells.lookup y.1 = some c := fun y hy e => by
    rcases ok.free y hy e with k | k
    · exact I.ok.has _ (.inl k)
    · exact I.ok.has _ (.inr k)
  generalize hcenv : compEnvC scope (cellsFrom (s.heap.objs.size + 1) scope.names (cloFrom X.env.cells scope.names [])) s.heap.objs.size X.env = cenv
  have kp : ∀ b o, s.heap.get? b = some o → (pushCells (s.heap.push { cls := .type "dict", data := .dict #[] }) scope.names).get? b = some o := fun b o e => pushCells_keeps _ _ _ _ (Heap.get?_push_of_some _ e)
  have hL : cenv.locals = s.heap.objs.size := by rw [← hcenv]; rfl
  have hcl : cenv.cells = cellsFrom (s.heap.objs.size + 1) scope.names (cloFrom X.env.cells scope.names []) := by rw [← hcenv]; rfl
  have hsc : cenv.scope = relS scope X.env.scope := by rw [← hcenv]; rfl
  rw [← Heap.size_push s.heap { cls := .type "dict", data := .dict #[] }] at hcl
  have cm : ∀ {y c}, (y, c) ∈ cloFrom X.env.cells scope.names [] → X.env.cells.lookup y = some c ∧ c < s.heap.objs.size := fun {y c} hm => by
    rcases cloFrom_mem hm with hm | ⟨h1, rfl⟩
    · cases hm
    · obtain ⟨c, hc⟩ := hfree _ h1 rfl
      rw [hc]
      obtain ⟨w, z⟩ := I.cell _ _ hc
      exact ⟨rfl, z.lt⟩
  have mem : ∀ {y c}, cenv.cells.lookup y = some c → (X.env.cells.lookup y = some c ∧ c < s.heap.objs.size) ∨ (s.heap.objs.size + 1 ≤ c ∧ CellAt (pushCells (s.heap.push { cls := .type "dict", data := .dict #[] }) scope.names) c none) := fun {y c} e => by
    rw [hcl] at e
    rcases cells_mem (PySem.mem_of_lookup e) with hm | ⟨_, h2, h3⟩
    · exact .inl (cm hm)
    · rw [Heap.size_push] at h2; exact .inr ⟨h2, h3⟩
  have look : ∀ {y}, scope.names.lookup y = some .free → ∃ c, cenv.cells.lookup y = some c ∧ X.env.cells.lookup y = some c := fun {y} hl => by
    have hy : (y, NameKind.free) ∈ scope.names := PySem.mem_of_lookup hl
    obtain ⟨c', e'⟩ := mem_lookup (cells_acc (names := scope.names) (n := (s.heap.push { cls := .type "dict", data := .dict #[] }).objs.size) (cloFrom_has (cells := X.env.cells) (acc := []) hy))
    rw [← hcl] at e'
    refine ⟨c', e', ?_⟩
    rw [hcl] at e'
    rcases cells_mem (PySem.mem_of_lookup e') with hm | ⟨h1, _, _⟩
    · exact (cm hm).1
    · have := ok.uniq _ h1
      rw [hl] at this; cases this
  have okB : (X.blk s H scope cenv fp).Ok := by
    refine ⟨I.ok.mod, by show cenv.scope.kind = _; rw [hsc]; exact ok.kind, by show cenv.globals = _; rw [← hcenv]; exact I.ok.glob, by show cenv.builtins = _; rw [← hcenv]; exact I.ok.blt, by show s.heap.objs.size ≤ cenv.locals; rw [hL]; exact Nat.le_refl _,
      fun y z c e1 e2 => ?_, fun y hy => ?_, fun y c z e => ?_, I.ok.hd, I.ok.frames, .inl rfl, fun b hb => ⟨?_, fun y c e z => ?_⟩, I.bs, Nat.le_trans I.ok.bsz I.sz, fun b o e hb => ?_, fun b hb z => ?_, I.stack, I.stkFree⟩
    · have e1 : cenv.cells.lookup y = some c := e1
      have e2 : cenv.cells.lookup z = some c := e2
      rw [hcl] at e1 e2
      refine cells_inj (fun p hp => ?_) (fun y z c a b => I.ok.inj y z c (cm a).1 (cm b).1) (PySem.mem_of_lookup e1) (PySem.mem_of_lookup e2)
      rw [Heap.size_push]
      exact Nat.lt_succ_of_lt (cm (y := p.1) (c := p.2) hp).2
    · show ∃ c, cenv.cells.lookup y = some c
      have key : ∀ k, cenv.kindOf y = some k → (k = .cell ∨ k = .free) → ∃ c, cenv.cells.lookup y = some c := fun k hk hk' => by
        unfold Env.kindOf at hk
        rw [hsc] at hk
        obtain ⟨k', e, r⟩ := lookup_relS hk
        have : k' = .cell ∨ k' = .free := by
          rcases r with rfl | ⟨rfl, _⟩
          · exact hk'
          · exact .inr rfl
        rcases this with rfl | rfl
        · obtain ⟨c, hm⟩ := cells_has (n := (s.heap.push { cls := .type "dict", data := .dict #[] }).objs.size) (acc := cloFrom X.env.cells scope.names []) (PySem.mem_of_lookup e)
          obtain ⟨c', e'⟩ := mem_lookup hm
          exact ⟨c', by rw [hcl]; exact e'⟩
        · obtain ⟨c, h1, _⟩ := look e
          exact ⟨c, h1⟩
      rcases hy with hy | hy
      · exact key _ hy (.inl rfl)
      · exact key _ hy (.inr rfl)
    · have z : (scope.names.lookup y == some NameKind.cell) = true := z
      have z : scope.names.lookup y = some .cell := by simpa using z
      have e : cenv.cells.lookup y = some c := e
      rw [hcl] at e
      rcases cells_mem (PySem.mem_of_lookup e) with hm | ⟨_, h2, _⟩
      · rcases cloFrom_mem hm with hm | ⟨h1, _⟩
        · cases hm
        · have q := ok.uniq _ h1
          rw [z] at q; cases q
      · rw [Heap.size_push] at h2
        exact Nat.le_of_succ_le h2
    · show b ≠ cenv.locals
      rw [hL]; exact Nat.ne_of_lt (hfp b hb).2
    · have e : cenv.cells.lookup y = some c := e
      rcases mem e with ⟨h1, _⟩ | ⟨h1, _⟩
      · exact (hfp b hb).1.2.2.2.2.1 y c h1 z
      · have h2 : s.heap.objs.size + 1 ≤ b := by rw [← z]; exact h1
        exact absurd (Nat.lt_of_lt_of_le (hfp b hb).2 (Nat.le_of_succ_le h2)) (Nat.lt_irrefl _)
    · rcases (hfp b hb).1.2.2.2.1 with z | z
      · exact I.ok.noex b o e z
      · exact absurd (Nat.lt_of_lt_of_le (Heap.lt_size e) (Nat.le_trans I.ok.bsz z)) (Nat.lt_irrefl _)
    · rcases List.mem_cons.mp (I.stkSub b z) with z | z
      · exact (hfp b hb).1.2.1 z
      · exact (hfp b hb).1.2.2.1 z
  refine ⟨okB, rfl, I.bare, Un.kept kp, ⟨fun _ => none, ?_, fun i y av e1 e2 e3 => ?_⟩, fun y c e => ?_, ?_, fun y c e => ?_, fun p hp => ?_, I.hok.kept kp, by rw [wipe_length]; exact I.len⟩
  · show Heap.Ns _ cenv.locals _
    rw [hL]
    exact Heap.Ns.keeps (Heap.Ns.new ..) fun b o e => pushCells_keeps _ _ _ _ e
  · obtain ⟨e2, hne⟩ := wipe_some e2
    have hfr : scope.names.lookup y = some .free ∧ (cenv.kindOf y = some .cell ∨ cenv.kindOf y = some .free) := by
      have key : ∀ k, cenv.scope.names.lookup y = some k → k = .local ∨ k = .cell ∨ k = .free → scope.names.lookup y = some .free ∧ (cenv.kindOf y = some .cell ∨ cenv.kindOf y = some .free) := fun k hk hk' => by
        have hk0 := hk
        rw [hsc] at hk
        obtain ⟨k', e, r⟩ := lookup_relS hk
        have no : ¬ (k' = .local ∨ k' = .cell) := fun hh => by
          rcases ok.own _ (PySem.mem_of_lookup e) hh with e' | e'
          · obtain ⟨p, hp, hpy⟩ := List.mem_map.mp e'
            have e3 := ok.ix p hp
            have : p.1 = y := hpy
            rw [this] at e3
            exact hne (List.mem_map.mpr ⟨p, hp, nodup_ix hN e3 e1⟩)
          · exact e' (List.mem_of_getElem? e1)
        rcases r with rfl | ⟨rfl, rfl⟩
        · rcases hk' with rfl | rfl | rfl
          · exact absurd (.inl rfl) no
          · exact absurd (.inr rfl) no
          · exact ⟨e, .inr hk0⟩
        · exact ⟨e, .inl hk0⟩
      have e3 : Vis cenv.scope y := e3
      rcases e3 with e3 | e3 | e3
      · exact key _ e3 (.inl rfl)
      · exact key _ e3 (.inr (.inl rfl))
      · exact key _ e3 (.inr (.inr rfl))
    obtain ⟨m, hn, hl⟩ := I.loc
    have hvis : Vis X.env.scope y := (ok.free _ (PySem.mem_of_lookup hfr.1) rfl).elim (fun k => .inr (.inl k)) (fun k => .inr (.inr k))
    obtain ⟨w, r, q⟩ := hl i y av e1 e2 hvis
    refine ⟨w, r, .inr ⟨hfr.2, ?_⟩⟩
    obtain ⟨c, h1, h2⟩ := look hfr.1
    rcases q with ⟨k, _⟩ | ⟨_, c', e', z⟩
    · have k : X.env.scope.names.lookup y = some .local := k
      rcases ok.free _ (PySem.mem_of_lookup hfr.1) rfl with k' | k' <;> rw [show X.env.scope.names.lookup y = _ from k'] at k <;> cases k
    · rw [h2] at e'; cases e'
      exact ⟨c, h1, z.keeps kp⟩
  · have e : cenv.cells.lookup y = some c := e
    rcases mem e with ⟨h1, _⟩ | ⟨_, z⟩
    · obtain ⟨w, z⟩ := I.cell y c h1
      exact ⟨w, z.keeps kp⟩
    · exact ⟨_, z⟩
  · show H cenv.locals = none
    rw [hL]; exact I.hok.fresh (Nat.le_refl _)
  · have e : cenv.cells.lookup y = some c := e
    rcases mem e with ⟨h1, _⟩ | ⟨h1, _⟩
    · exact I.freeC y c h1
    · exact I.hok.fresh (Nat.le_of_succ_le h1)
  · exact absurd (show p ∈ ([] : List (Addr × Obj)) ++ [] from hp) (by simp)
theorem app_ok {E : Value → Shared → Prop} {D : Addr} {xs : List V} {y : V} {v : Value} {Q : Value → Shared → Prop} (I : Inv X pins σ H s) (hD : H D = some (.lst xs)) (hz : xs.length < sizeLine) (r : RelV y v)
    (h : ∀ s', Inv X pins σ (upd H D (.lst (xs ++ [y]))) s' → Q .none s') : wpAny (model X.prog X.w) X.A (call (.builtin "list.append") [.ref D, v]) Q E s := by
  obtain ⟨hz', its, n, ri, e⟩ := I.hok D _ hD
  have hl := ri.length
  refine append_at (hsz := by rw [List.size_toArray]; omega) e fun h' sb ho' => ?_
  refine h { s with heap := h' } (I.write (t' := s.toks) (by rw [hD]; trivial) (.inl rfl) (fun b u hb q => (sb.2 b hb).trans q) ⟨_, ho'⟩ ⟨by rw [List.length_append]; exact hz, its ++ [v], n + 1, ri.append (.cons r .nil), ?_⟩)
  rw [ho']
  simp
def PTs (X : Cx) (ifs : List Expr) (t : TT) : Prop :=
  ∀ (pins : List (Addr × Obj)) (s : Shared) (σ : St) (H : Hp) (Q : Bool → Hp → Prop), Inv X pins σ H s → t σ H Q →
    wpAny (model X.prog X.w) X.A (forIn ifs true fun c r => if r = true then do let ok ← isTrue c X.env (eval c X.env); pure (ForInStep.yield ok) else pure (ForInStep.yield r)) (TP X pins σ Q) X.xe s
def tYes : TT := fun _ H Q => Q true H
theorem pts_nil : PTs X [] tYes := fun _ _ _ H _ I h => wpAny_tests_nil ⟨H, I, h⟩
end
theorem thnF {α : Type} {t : Sem α} {Q Q' : α → Shared → Prop} {M : Model} {A : Around} {E : Value → Shared → Prop} {s : Shared} (h : wpAny M A t Q (fun _ _ => False) s) (hQ : ∀ a s, Q a s → Q' a s) : wpAny M A t Q' E s := wpAny_mono h hQ fun _ _ z => False.elim z
theorem compLoop_any {prog : Program} {w : World} {A : Around} {R : Result → Shared → Prop} {s : Shared} {elt target iter : Expr} {ifs : List Expr} {scope : Scope} {pos : Pos} {it acc : Value} {env : Env} (I : Nat → Shared → Prop)
    (turn : ∀ n s, I n s → wpAny (model prog w) A (pyNext it) (fun r s₁ => match r with
      | none => R (.ok .next) s₁
      | some v => wpAny (model prog w) A (letOwnedTupleGo target it v) (fun _ s₁' => wpAny (model prog w) A (assign target env v) (fun _ s₂ =>
          wpAny (model prog w) A (forIn ifs true fun c r => if r = true then do let ok ← isTrue c env (eval c env); pure (ForInStep.yield ok) else pure (ForInStep.yield r)) (fun ok s₃ =>
            if ok = true then wpAny (model prog w) A (eval elt env) (fun x s₄ =>
              wpAny (model prog w) A (call (.builtin "list.append") [acc, x]) (fun _ s₅ => ∃ m, m < n ∧ I m s₅) (notedBy (model prog w) A env fun e s' => R (.error e) s') s₄) (notedBy (model prog w) A env fun e s' => R (.error e) s') s₃
            else ∃ m, m < n ∧ I m s₃) (notedBy (model prog w) A env fun e s' => R (.error e) s') s₂) (notedBy (model prog w) A env fun e s' => R (.error e) s') s₁') (notedBy (model prog w) A env fun e s' => R (.error e) s') s₁) (notedBy (model prog w) A env fun e s' => R (.error e) s') s)
    (n : Nat) (h : I n s) :
    codeAny (model prog w) A (.compLoop (.ListComp elt [⟨target, iter, ifs, 0⟩] scope pos) 0 it acc env) R s := by
  refine codeAny_loop rfl I (fun n s hI => ?_) n h
  show wpAny _ A ((compTurn (.ListComp elt [⟨target, iter, ifs, 0⟩] scope pos) 0 it acc env).onRaise (fun x => do noteFrame x env; theTreesLotGoes x)) _ _ s
  refine wpAny_noted ?_
  rw [compTurn_list]
  refine wpAny_bind (wpAny_standAt (wpAny_bind (wpAny_mono (turn n s hI) (fun r s₁ h₁ => ?_) fun _ _ h' => h')))
  cases r with
  | none => exact wpAny_pure h₁
  | some v =>
    refine wpAny_bind (wpAny_mono h₁ (fun _ s₁' h₁' => ?_) fun _ _ h' => h')
    refine wpAny_bind (wpAny_mono h₁' (fun _ s₂ h₂ => wpAny_bind (wpAny_mono h₂ (fun ok s₃ h₃ => ?_) fun _ _ h' => h')) fun _ _ h' => h')
    cases ok with
    | false => exact wpAny_pure ⟨rfl, h₃⟩
    | true =>
      exact wpAny_bind (wpAny_bind (wpAny_mono h₃ (fun x s₄ h₄ => wpAny_bind (wpAny_mono h₄ (fun _ s₅ h₅ => wpAny_pure (wpAny_pure ⟨rfl, h₅⟩)) fun _ _ h' => h')) fun _ _ h' => h'))
section
variable {X : Cx}
def tLc (wi : TI) (g : TG) (tt : TT) (te : TE) (vs : List Nat) : TE := fun σ H Q => wi σ H fun J H1 => ∀ D, H1 D = none → ∃ W : Nat → Nat → Hp → Prop, (∃ m, W 0 m (upd H1 D (.lst []))) ∧ ∀ i m H, W i m H →
  (J.stop i H ∧ Q (.ref D) H) ∨ (J.go i H ∧ ∃ Nx : Hp → Prop, (∀ H', Nx H' → ∃ m', m' < m ∧ W (i + 1) m' H') ∧ ∀ x H', J.yld i H x H' → g x (wipe σ vs) H' fun σ2 H2 => wipe σ2 vs = wipe σ vs ∧ tt σ2 H2 fun b H3 =>
    if b = true then te σ2 H3 fun y H4 => ∃ acc, H4 D = some (.lst acc) ∧ acc.length < sizeLine ∧ Nx (upd H4 D (.lst (acc ++ [y]))) else Nx H3)
theorem lc_core {pins : List (Addr × Obj)} {s : Shared} {σ : St} {H : Hp} {Q : VK} {elt tg iter : Expr} {ifs : List Expr} {scope : Scope} {own : List (Str × Nat)} {pos pos' : Pos} {wi : TI} {g : TG} {tt : TT} {te : TE} {use : Option (Value → Sem Unit)} {Qf : Value → Shared → Prop}
    (hc : X.calm = true) (hN : X.N.Nodup) (I : Inv X pins σ H s) (hi : PI X tg iter wi) (ok : BlkOk X.N X.env.scope scope own)
    (hg : ∀ (s : Shared) (H : Hp) (C : Addr) (cl : List (Str × Addr)) (fp : List Addr), PG (X.blk s H scope (compEnvC scope cl C X.env) fp) tg g) (ht : ∀ (s : Shared) (H : Hp) (C : Addr) (cl : List (Str × Addr)) (fp : List Addr), PTs (X.blk s H scope (compEnvC scope cl C X.env) fp) ifs tt)
    (he : ∀ (s : Shared) (H : Hp) (C : Addr) (cl : List (Str × Addr)) (fp : List Addr), PE (X.blk s H scope (compEnvC scope cl C X.env) fp) elt te) (hs : ∀ x, foldedSetIterable iter X.env x = pure x)
    (h : tLc wi g tt te (own.map (·.2)) σ H Q)
    (hRR : ∀ D C s' m H', Inv X pins σ H' s' → Q (.ref D) H' → s'.heap.Ns C m → FpOk X pins H' C → compPost (model X.prog X.w) X.A X.xe use Qf (.ref D) C (.ok .next) s') :
    wpAny (model X.prog X.w) X.A (comprehension (.ListComp elt [⟨tg, iter, ifs, 0⟩] scope pos) scope X.env pos' (newList []) false (eval iter X.env) use) Qf X.xe s := by
  have hfree : ∀ y ∈ scope.names, y.2 = .free → ∃ c, X.env.cells.lookup y.1 = some c := fun y hy e => by
    rcases ok.free y hy e with k | k
    · exact I.ok.has _ (.inl k)
    · exact I.ok.has _ (.inr k)
  refine wpAny_comprehension_free (use := use) rfl hs (closure_ok hfree) ok.kind (fun y hy e => by rw [ok.uniq y hy, e])
    (thn (hi pins s σ H _ I h) fun xv s1 hx => thn hx fun itv s2 h2 => ?_)
  obtain ⟨it, fp, tn, J, H2, e, I2, T, st2, f2, q⟩ := h2
  subst e
  refine wpAny_newObj_type (newEnv_comp ?_) (by show 0 ≤ sizeLine; decide)
  generalize hD : s2.heap.objs.size = D
  have hDn : H2 D = none := I2.hok.fresh (Nat.le_of_eq hD)
  obtain ⟨W, ⟨m0, w0⟩, turn⟩ := q D hDn
  -- the new list
  generalize hs3 : ({ s2 with heap := s2.heap.push { cls := .type "list", data := .seq ([] : List Value).toArray } } : Shared) = s3
  have I3 : Inv X pins σ (upd H2 D (.lst [])) s3 := by
    rw [← hs3]
    refine I2.laid (t' := s2.toks) (fun b o e => Heap.get?_push_of_some _ e) (Nat.le_of_eq hD) ⟨Nat.zero_le _, [], 0, .nil, ?_⟩
    rw [← hD]
    exact Heap.get?_push_size _ rfl
  have h3 : s3.heap = s2.heap.push { cls := .type "list", data := .seq ([] : List Value).toArray } := by rw [← hs3]
  have sz : ∀ b ∈ fp, b < s2.heap.objs.size := fun b hb => by
    obtain ⟨o, e, _⟩ := T.obj _ _ st2 b hb
    exact Heap.lt_size e
  have f3 : ∀ b ∈ fp, FpOk X pins (upd H2 D (.lst [])) b ∧ b < s3.heap.objs.size := fun b hb => by
    have hlt := sz b hb
    refine ⟨⟨?_, (f2 b hb).2⟩, by rw [h3, Heap.size_push]; exact Nat.lt_succ_of_lt hlt⟩
    rw [upd_ne (by rw [← hD]; exact Nat.ne_of_lt hlt)]
    exact (f2 b hb).1
  have st3 : tn 0 s3.heap := T.keep _ _ _ st2 fun b _ o e => by rw [h3]; exact Heap.get?_push_of_some _ e
  have I4 := block_start I3 ok hN f3
  have pg := hg s3 (upd H2 D (.lst [])) s3.heap.objs.size (cellsFrom (s3.heap.objs.size + 1) scope.names (cloFrom X.env.cells scope.names [])) fp
  have pt := ht s3 (upd H2 D (.lst [])) s3.heap.objs.size (cellsFrom (s3.heap.objs.size + 1) scope.names (cloFrom X.env.cells scope.names [])) fp
  have pe := he s3 (upd H2 D (.lst [])) s3.heap.objs.size (cellsFrom (s3.heap.objs.size + 1) scope.names (cloFrom X.env.cells scope.names [])) fp
  show codeAny _ _ (.compStart (.ListComp elt [⟨tg, iter, ifs, 0⟩] scope pos) 0 (.ref it) (.ref D) (compEnvC scope (cellsFrom (s3.heap.objs.size + 1) scope.names (cloFrom X.env.cells scope.names [])) s3.heap.objs.size X.env)) (compPost (model X.prog X.w) X.A X.xe use Qf (.ref D) s3.heap.objs.size) { s3 with heap := pushCells (s3.heap.push { cls := .type "dict", data := .dict #[] }) scope.names }
  have nfp : ∀ b ∈ fp, (upd H2 D (.lst [])) b = none := fun b hb => (f3 b hb).1.1
  generalize hce : compEnvC scope (cellsFrom (s3.heap.objs.size + 1) scope.names (cloFrom X.env.cells scope.names [])) s3.heap.objs.size X.env = ce at I4 pg pt pe ⊢
  have cL : ce.locals = s3.heap.objs.size := by subst hce; rfl
  generalize hH3 : upd H2 D (.lst []) = H3 at I3 I4 pg pt pe w0 nfp f3
  generalize hs4 : ({ s3 with heap := pushCells (s3.heap.push { cls := .type "dict", data := .dict #[] }) scope.names } : Shared) = s4 at I4 ⊢
  have st4 : tn 0 s4.heap := T.keep _ _ _ st3 fun b _ o e => by rw [← hs4]; exact pushCells_keeps _ _ _ _ (Heap.get?_push_of_some _ e)
  have stat : ∀ {σ' : St} {H' : Hp} {s' : Shared}, Inv (X.blk s3 H3 scope ce fp) [] σ' H' s' → (∀ b ∈ fp, H' b = none) → ∀ b ∈ fp, FpOk (X.blk s3 H3 scope ce fp) [] H' b := fun {σ' H' s'} I' hn b hb =>
    ⟨hn b hb, (I'.ok.exf b hb).1, I'.ok.exfs b hb, .inl hb, fun x c e => (I'.ok.exf b hb).2 x c e, fun p hp => absurd (show p ∈ ([] : List (Addr × Obj)) ++ [] from hp) (by simp)⟩
  have loop : codeAny (model X.prog X.w) X.A (.compLoop (.ListComp elt [⟨tg, iter, ifs, 0⟩] scope pos) 0 (.ref it) (.ref D) ce) (compPost (model X.prog X.w) X.A X.xe use Qf (.ref D) s3.heap.objs.size) s4 := by
    refine compLoop_any (fun n s' => ∃ i H', Inv (X.blk s3 H3 scope ce fp) [] (wipe σ (own.map (·.2))) H' s' ∧ tn i s'.heap ∧ (∀ b ∈ fp, H' b = none) ∧ W i n H') ?_ m0 ⟨0, H3, I4, st4, nfp, w0⟩
    rintro n s5 ⟨i, H5, I5, st5, n5, w5⟩
    rcases turn i n H5 w5 with ⟨stop, qq⟩ | ⟨go, Nx, hNx, step⟩
    · have td := T.done (X.blk s3 H3 scope ce fp) rfl rfl rfl hc i [] s5 _ H5 (fun _ _ => False) I5 (stat I5 n5) st5 stop
      refine thnF td fun r s6 ⟨hr, I6⟩ => ?_
      subst hr
      -- back in the def's context
      have I7 : Inv X pins σ H5 s6 := I3.call' (ch := fp) I6.os I6.base I6.hok I6.bare fun b hb => ⟨(f3 b hb).1.2.2.2.1, (f3 b hb).1.2.1, (f3 b hb).1.2.2.2.2.1, (f3 b hb).1.2.2.2.2.2⟩
      have nC : H5 s3.heap.objs.size = none := by
        have z : H5 ce.locals = none := I6.free
        rw [cL] at z
        exact z
      obtain ⟨m, hn, _⟩ := I6.loc
      have hn : s6.heap.Ns ce.locals m := hn
      rw [cL] at hn
      exact hRR D s3.heap.objs.size s6 m H5 I7 qq hn (I3.fpOk (Nat.le_refl _) nC)
    · have ti := T.item (X.blk s3 H3 scope ce fp) rfl rfl rfl hc i [] s5 _ H5 (fun _ _ => False) I5 (stat I5 n5) st5 go
      refine thnF ti fun r s6 ⟨u, hr, h6⟩ => ?_
      subst hr
      refine thnF h6 fun _ s7 ⟨x, H7, I7, r7, y7, st7, n7⟩ => ?_
      have I7' := I7.pinned (stat I7 n7) (T.obj _ _ st7)
      refine thnF (pg _ s7 _ H7 x u _ I7' r7 (step x H7 y7)) fun _ s8 ⟨σ8, H8, I8, hw8, q8⟩ => ?_
      refine thnF (pt _ s8 σ8 H8 _ I8 q8) fun b s9 ⟨H9, I9, q9⟩ => ?_
      -- the turn's end
      have fin : ∀ {s' : Shared} {H' : Hp}, Inv (X.blk s3 H3 scope ce fp) ([] ++ pinsAt fp s7.heap) σ8 H' s' → Nx H' → ∃ m, m < n ∧ ∃ i H', Inv (X.blk s3 H3 scope ce fp) [] (wipe σ (own.map (·.2))) H' s' ∧ tn i s'.heap ∧ (∀ b ∈ fp, H' b = none) ∧ W i m H' := fun {s' H'} I' nx => by
        obtain ⟨m', hm, w'⟩ := hNx H' nx
        have pin' : ∀ b ∈ fp, ∀ o, s7.heap.get? b = some o → s'.heap.get? b = some o ∧ H' b = none := fun b hb o e =>
          let z := I'.pin (b, o) (List.mem_append_right _ (List.mem_append_right _ (mem_pinsAt hb e)))
          ⟨z.1, z.2.1⟩
        have hl : (wipe σ (own.map (·.2))).length = σ8.length := by rw [← hw8, wipe_length]
        refine ⟨m', hm, i + 1, H', (I'.unpinned (pins := [])).weak hl (fun j v e => ?_), T.keep _ _ _ st7 fun b hb o e => (pin' b hb o e).1, fun b hb => ?_, w'⟩
        · rw [← hw8] at e
          exact (wipe_some e).1
        · obtain ⟨o, e, _⟩ := T.obj _ _ st7 b hb
          exact (pin' b hb o e).2
      cases b with
      | false =>
        simp only [Bool.false_eq_true, if_false] at q9 ⊢
        exact fin I9 q9
      | true =>
        simp only [if_true] at q9 ⊢
        refine thnF (pe _ s9 σ8 H9 _ I9 q9) fun z s10 ⟨yv, H10, I10, r10, acc, hD10, hz10, nx⟩ => ?_
        exact app_ok (X := X.blk s3 H3 scope ce fp) I10 hD10 hz10 r10 fun s11 I11 => fin I11 nx
  exact codeAny_compStart_list loop (T.self X.A 0 _ _ _ st4 loop)
theorem pe_lc {elt tg iter : Expr} {ifs : List Expr} {scope : Scope} {own : List (Str × Nat)} {pos : Pos} {wi : TI} {g : TG} {tt : TT} {te : TE} (hc : X.calm = true) (hN : X.N.Nodup) (hi : PI X tg iter wi) (ok : BlkOk X.N X.env.scope scope own)
    (hg : ∀ (s : Shared) (H : Hp) (C : Addr) (cl : List (Str × Addr)) (fp : List Addr), PG (X.blk s H scope (compEnvC scope cl C X.env) fp) tg g) (ht : ∀ (s : Shared) (H : Hp) (C : Addr) (cl : List (Str × Addr)) (fp : List Addr), PTs (X.blk s H scope (compEnvC scope cl C X.env) fp) ifs tt)
    (he : ∀ (s : Shared) (H : Hp) (C : Addr) (cl : List (Str × Addr)) (fp : List Addr), PE (X.blk s H scope (compEnvC scope cl C X.env) fp) elt te) (hs : ∀ x, foldedSetIterable iter X.env x = pure x := by intro _; rfl) :
    PE X (.ListComp elt [⟨tg, iter, ifs, 0⟩] scope pos) (tLc wi g tt te (own.map (·.2))) := by
  intro pins s σ H Q I h
  rw [eval_ListComp]
  refine lc_core hc hN I hi ok hg ht he hs h fun D C s' m H' I' q hn f => ⟨m, hn, fun h'' sb => ?_⟩
  obtain ⟨f0, f1, f2, f3, f4, f5⟩ := f
  exact ⟨.ref D, H', I'.turned (t' := s'.toks) (fun b o hb e => (sb.2 b hb).trans e) f0 f1 f3 f4 f5, rfl, q⟩
end
end L2
namespace L2
open PySem PySem.Spec PyProof.Rows
section
variable {prog : Program} {w : World} {A : Around} {R : Result → Shared → Prop} {s : Shared} {elt t0 i0 t1 i1 : Expr} {ifs0 ifs1 : List Expr} {scope : Scope} {pos : Pos} {it acc : Value} {env : Env}
end
section
variable {X : Cx}
end
end L2
namespace L2
open PySem PySem.Spec PyProof.Rows
section
variable {κ : Type} [DecidableEq κ]
def valV (kvs : List (κ × V)) (k : κ) : Option V := (kvs.find? fun kv => decide (kv.1 = k)).map (·.2)
def putK (kvs : List (κ × V)) (k : κ) (v : V) : List (κ × V) :=
  if (kvs.any fun kv => decide (kv.1 = k)) = true then kvs.map (fun kv => if kv.1 = k then (kv.1, v) else kv) else kvs ++ [(k, v)]
def dropK (kvs : List (κ × V)) (k : κ) : List (κ × V) := kvs.filter fun kv => decide (kv.1 ≠ k)
theorem RelO.getD {o : Option V} {u : Option Value} {d : V} {d' : Value} (r : RelO o u) (rd : RelV d d') : RelV (o.getD d) (u.getD d') := by
  cases o with
  | none => cases u with
    | none => exact rd
    | some _ => exact (show False from r).elim
  | some _ => cases u with
    | none => exact (show False from r).elim
    | some _ => exact r
theorem KV.any {kvs : List (κ × V)} {vs : List (κ × Value)} (r : KV kvs vs) (k : κ) : (kvs.any fun kv => decide (kv.1 = k)) = vs.any fun kv => decide (kv.1 = k) := by
  unfold KV at r
  induction r with
  | nil => rfl
  | cons h t ih => rw [List.any_cons, List.any_cons, ih, h.1]
theorem KV.drop {kvs : List (κ × V)} {vs : List (κ × Value)} (r : KV kvs vs) (k : κ) : KV (dropK kvs k) (without vs k) := by
  unfold KV at r ⊢
  unfold dropK without
  induction r with
  | nil => exact .nil
  | @cons p q ps qs h t ih =>
    obtain ⟨h1, h2⟩ := h
    rw [List.filter_cons, List.filter_cons]
    by_cases e : p.1 = k
    · have a : ¬ decide (p.1 ≠ k) = true := by simp [e]
      have b : ¬ decide (q.1 ≠ k) = true := by simp [h1.symm.trans e]
      rw [if_neg a, if_neg b]; exact ih
    · have e' : ¬ q.1 = k := fun z => e (h1.trans z)
      have a : decide (p.1 ≠ k) = true := by simp [e]
      have b : decide (q.1 ≠ k) = true := by simp [e']
      rw [if_pos a, if_pos b]; exact .cons ⟨h1, h2⟩ ih
theorem KV.keys {kvs : List (κ × V)} {vs : List (κ × Value)} (r : KV kvs vs) : kvs.map (·.1) = vs.map (·.1) := by
  unfold KV at r
  induction r with
  | nil => rfl
  | cons h t ih => rw [List.map_cons, List.map_cons, ih, h.1]
theorem KV.length {kvs : List (κ × V)} {vs : List (κ × Value)} (r : KV kvs vs) : kvs.length = vs.length := Paired.length r
end
abbrev KT (H : Hp) : List (List Key × V) → List (List Key × Addr × Value) → Prop := Paired fun p q => p.1 = q.1 ∧ H q.2.1 = some (.tup (p.1.map kV)) ∧ RelV p.2 q.2.2
theorem KT.keeps {H H' : Hp} {kvs : List (List Key × V)} {xs : List (List Key × Addr × Value)} (r : KT H kvs xs) (ht : ∀ b ys, H b = some (.tup ys) → H' b = some (.tup ys)) : KT H' kvs xs :=
  Paired.mapP r fun _ _ z => ⟨z.1, ht _ _ z.2.1, z.2.2⟩
section
variable {P : Program} {w : World} {H : Hp} {h : Heap} {a : Addr}
end
def DGet (H : Hp) (a : Addr) (y : V) (r : Option V) : Prop :=
  (∃ kvs k, Rd H a (.dK kvs) ∧ y = kV k ∧ r = valV kvs k) ∨ ∃ kvs k b, Rd H a (.dT kvs) ∧ y = .ref b ∧ H b = some (.tup (k.map kV)) ∧ r = valV kvs k
def DPut (H : Hp) (a : Addr) (y v : V) (H' : Hp) : Prop :=
  (∃ kvs k, H a = some (.dK kvs) ∧ y = kV k ∧ kvs.length < sizeLine ∧ H' = upd H a (.dK (putK kvs k v))) ∨
  ∃ kvs k b, H a = some (.dT kvs) ∧ y = .ref b ∧ H b = some (.tup (k.map kV)) ∧ kvs.length < sizeLine ∧ H' = upd H a (.dT (putK kvs k v))
theorem DGet.k {H : Hp} {a : Addr} {kvs : List (Key × V)} {k : Key} (e : H a = some (.dK kvs)) : DGet H a (kV k) (valV kvs k) := .inl ⟨kvs, k, .inl e, rfl, rfl⟩
theorem DGet.t {H : Hp} {a b : Addr} {kvs : List (List Key × V)} {k : List Key} (e : H a = some (.dT kvs)) (eb : H b = some (.tup (k.map kV))) : DGet H a (.ref b) (valV kvs k) := .inr ⟨kvs, k, b, .inl e, rfl, eb, rfl⟩
theorem DPut.k {H : Hp} {a : Addr} {kvs : List (Key × V)} {k : Key} {v : V} (e : H a = some (.dK kvs)) (hl : kvs.length < sizeLine) : DPut H a (kV k) v (upd H a (.dK (putK kvs k v))) := .inl ⟨kvs, k, e, rfl, hl, rfl⟩
theorem DPut.t {H : Hp} {a b : Addr} {kvs : List (List Key × V)} {k : List Key} {v : V} (e : H a = some (.dT kvs)) (eb : H b = some (.tup (k.map kV))) (hl : kvs.length < sizeLine) :
    DPut H a (.ref b) v (upd H a (.dT (putK kvs k v))) := .inr ⟨kvs, k, b, e, rfl, eb, hl, rfl⟩
section
variable {X : Cx} {pins : List (Addr × Obj)} {σ : St} {H : Hp} {s : Shared} {a : Addr} {y v : V} {u r : Value} {o : Option V} {A : Around} {E : Value → Shared → Prop}
end
section
variable {X : Cx} {pins : List (Addr × Obj)} {σ : St} {H : Hp} {s : Shared} {a : Addr} {kvs : List (Key × V)} {k : Key} {u : Value} {A : Around} {E : Value → Shared → Prop}
end
section
variable {X : Cx} {o i e value : Expr} {pos pos' tpos : Pos} {td ty tv : TE}
end
section
variable {X : Cx} {pos : Pos}
end
structure M1 (X : Cx) (o : Expr) (m : Str) (apos : Pos) (e : Expr) (cpos : Pos) : Prop where
  base : attributeBase o m X.env (eval o X.env) = eval o X.env
  few : ((backTo cpos (starEach [e] X.env)).all (fun x => !x.1) && (backToKw cpos (keywordEach [] X.env)).all (fun x => x.1.isSome)
    && decide (([e] : List Expr).length + ([] : List Keyword).length + (if ([] : List Keyword).isEmpty then 0 else 1) < 30)) = true
  line : (apos.endLine == cpos.line) = true
  trees : backTo cpos (starEach [e] X.env) = [(false, eval e X.env)]
structure M2 (X : Cx) (o : Expr) (m : Str) (apos : Pos) (e f : Expr) (cpos : Pos) : Prop where
  base : attributeBase o m X.env (eval o X.env) = eval o X.env
  few : ((backTo cpos (starEach [e, f] X.env)).all (fun x => !x.1) && (backToKw cpos (keywordEach [] X.env)).all (fun x => x.1.isSome)
    && decide (([e, f] : List Expr).length + ([] : List Keyword).length + (if ([] : List Keyword).isEmpty then 0 else 1) < 30)) = true
  line : (apos.endLine == cpos.line) = true
  trees : backTo cpos (starEach [e, f] X.env) = [(false, eval e X.env), (false, eval f X.env)]
section
variable {X : Cx} {pins : List (Addr × Obj)} {σ : St} {H : Hp} {s : Shared} {a : Addr} {y d : V} {u r : Value} {o : Option V} {A : Around} {E : Value → Shared → Prop}
end
section
variable {X : Cx} {o e f : Expr} {apos cpos : Pos} {td ty tx : TE}
end
section
variable {X : Cx} {pins : List (Addr × Obj)} {σ : St} {H : Hp} {s : Shared} {a : Addr} {kvs : List (Key × V)} {A : Around} {E : Value → Shared → Prop}
end
section
variable {X : Cx} {pins : List (Addr × Obj)} {σ : St} {H : Hp} {s : Shared} {a : Addr} {y : V} {u : Value} {A : Around} {E : Value → Shared → Prop}
end
end L2
namespace L2
open PySem PySem.Spec PyProof.Rows
section
variable {prog : Program} {w : World} {A : Around} {E : Value → Shared → Prop}
end
section
variable {X : Cx}
end
end L2
namespace L2
open PySem PySem.Spec PyProof.Rows
section
variable {X : Cx} {pins : List (Addr × Obj)} {σ : St} {H : Hp} {s : Shared} {h' : Heap}
end
section
variable {X : Cx}
theorem pi_one {tg : Expr} {pins : List (Addr × Obj)} {σ : St} {H : Hp} {s : Shared} {R : It → Hp → Prop} {J : It} {tn : Nat → Heap → Prop} {tk : Nat} (I : Inv X pins σ H s) (o : Obj)
    (T : Turn X.prog X.w X.K tg J [s.heap.objs.size] s.heap.objs.size tn) (st : tn 0 (s.heap.push o)) (q : R J H) : PIE X pins σ tg R (.ref s.heap.objs.size) { s with heap := s.heap.push o, toks := tk } := by
  refine ⟨s.heap.objs.size, [s.heap.objs.size], tn, J, H, rfl, I.kept fun b ob e => Heap.get?_push_of_some _ e, T, st, fun b hb => ?_, q⟩
  have e : b = s.heap.objs.size := by simpa using hb
  subst e
  exact I.fpOk (Nat.le_refl _) (I.hok.fresh (Nat.le_refl _))
end
def Itc (lo c : Int) (n : Nat) : It := ⟨fun i _ => i < n, fun i H x H' => H' = H ∧ x = .int (lo + (i : Nat) * c), fun i _ => n ≤ i⟩
theorem turn_rangeC {P : Program} {w : World} {K : PySem.W.Frag} {tg : Expr} (it : Addr) (lo c : Int) (n : Nat) : Turn P w K tg (Itc lo c n) [it] it (fun i h => IsRangeIter h it (lo + (i : Nat) * c) ((n : Int) - (i : Nat)) c) where
  mem := by simp
  obj := fun i h st b hb => by
    have e : b = it := by simpa using hb
    subst e
    exact ⟨_, st, fun v z => nomatch z⟩
  keep := fun i h h' st k => k it (by simp) _ st
  item := by
    intro X hP hw hK hc i pins s σ H E I hf st hg
    subst hP hw hK
    obtain ⟨f0, f1, f2, f3, f4, f5⟩ := hf it (by simp)
    have W := Walks.range (prog := X.prog) (w := X.w) (I.ok.hd hc) it lo c n
    refine W.item i s _ _ hg st fun v h' tk hv st' kk => ?_
    obtain ⟨t, rfl⟩ := hv
    have I1 : Inv X pins σ H { s with heap := h', toks := tk } := I.turned (fun b o hb e => kk b o (by simpa using hb) e) f0 f1 f3 f4 f5
    exact ⟨_, rfl, go_of (s := { s with heap := h', toks := tk }) (n := "range_iterator") st' rfl rfl (by decide) ⟨.int (lo + (i : Nat) * c), H, I1, ⟨t, rfl⟩, ⟨rfl, rfl⟩, st', fun b hb => (hf b hb).1⟩⟩
  done := by
    intro X hP hw hK hc i pins s σ H E I hf st hg
    subst hP hw hK
    obtain ⟨f0, f1, f2, f3, f4, f5⟩ := hf it (by simp)
    exact wpAny_pyNext_range_end (I.ok.hd hc) st (by have : n ≤ i := hg; omega) fun h' eb => ⟨rfl, I.turned (t' := s.toks) (fun b o hb e => eb b o hb e) f0 f1 f3 f4 f5⟩
  self := fun A i s Q E st h => wpAny_pyIter_rangeiter st h
def RgC (i j c : Int) (n : Nat) : Prop := c ≠ 0 ∧ c.natAbs < 1073741824 ∧ Builtin.Range.small i j c = true ∧ Builtin.Range.rangeSize i j c = n
def iRng3 (ta : TA) : TI := fun σ H R => ta σ H fun vs H1 => ∃ (i j c : Int) (n : Nat), vs = [.int i, .int j, .int c] ∧ RgC i j c n ∧ R (Itc i c n) H1
section
variable {X : Cx} {tg : Expr}
theorem pi_range3 {a b c : Expr} {ta : TA} {p pos : Pos} (hg : Gl X "range") (hm : X.mg "range" = none) (ha : PA X [a, b, c] ta)
    (hs : starEach [a, b, c] X.env = (false, eval a X.env) :: starEach [b, c] X.env := by rfl) (hpl : (backTo pos (starEach [b, c] X.env)).any (·.1) = false := by rfl) :
    PI X tg (.Call (.Name "range" p) [a, b, c] [] pos) (iRng3 ta) := by
  intro pins s σ H R I h
  refine Call_ (ld_blt I hg hm boot_range (PyProof.Rows.callWith_type1 (thn (ha pos pins s σ H _ I h) fun us s1 ⟨vs, H1, I1, r1, q1⟩ => ?_) hs hpl))
  obtain ⟨i, j, k, n, e, ⟨c0, c1, c2, c3⟩, q⟩ := q1
  subst e
  cases r1 with
  | cons r rr =>
    cases rr with
    | cons r' rr =>
      cases rr with
      | cons r'' rr =>
        cases rr
        obtain ⟨t, rfl⟩ := r
        obtain ⟨t', rfl⟩ := r'
        obtain ⟨t'', rfl⟩ := r''
        refine call_range_3 c0 ?_ (.inl (PyProof.noPylong_small c1))
        refine wpAny_pyIter_range (IsRange.new ..) c2 ?_
        have I2 : Inv X pins σ H1 { s1 with heap := s1.heap.push { cls := .type "range", data := .fields #[.int i t, .int j t', .int k t''] } } := I1.kept (t' := s1.toks) fun b o e => Heap.get?_push_of_some _ e
        refine pi_one (tk := s1.toks) I2 _ (turn_rangeC _ i k n) ?_ q
        have e1 : i + ((0 : Nat) : Int) * k = i := by simp
        have e2 : (n : Int) - ((0 : Nat) : Int) = Builtin.Range.rangeSize i j k := by rw [c3]; simp
        show IsRangeIter _ _ (i + ((0 : Nat) : Int) * k) ((n : Int) - ((0 : Nat) : Int)) k
        rw [e1, e2]
        exact Heap.get?_push_size _ rfl
end
theorem for_rangeC {lo c : Int} {n : Nat} {g : TG} {tb : TS} {D : Ends} {σ : St} {H : Hp} (Pv : Nat → St → Hp → Prop) (h0 : Pv 0 σ H)
    (hs : ∀ i σ H, i < n → Pv i σ H → g (.int (lo + (i : Nat) * c)) σ H fun σ2 H2 => tb { D with nx := Pv (i + 1), ct := Pv (i + 1), bk := D.nx } σ2 H2) (hd : ∀ σ H, Pv n σ H → D.nx σ H) :
    ∃ W : Nat → Nat → St → Hp → Prop, (∃ m, W 0 m σ H) ∧ ∀ i m σ H, W i m σ H →
      ((Itc lo c n).stop i H ∧ D.nx σ H) ∨ ((Itc lo c n).go i H ∧ ∃ N : St → Hp → Prop, (∀ σ' H', N σ' H' → ∃ m', m' < m ∧ W (i + 1) m' σ' H') ∧ ∀ x H', (Itc lo c n).yld i H x H' → g x σ H' fun σ2 H2 => tb { D with nx := N, ct := N, bk := D.nx } σ2 H2) := by
  refine ⟨fun i m σ H => m = n - i ∧ i ≤ n ∧ Pv i σ H, ⟨n, by simp, Nat.zero_le _, h0⟩, ?_⟩
  rintro i m σ H ⟨rfl, hi, p⟩
  by_cases hlt : i < n
  · refine .inr ⟨hlt, Pv (i + 1), fun σ' H' p' => ⟨n - (i + 1), by omega, rfl, hlt, p'⟩, fun x H' y => ?_⟩
    obtain ⟨e, y⟩ := y
    subst e y
    exact hs i σ _ hlt p
  · have e : i = n := by omega
    subst e
    exact .inl ⟨Nat.le_refl _, hd σ H p⟩
section
variable {X : Cx} {tg : Expr}
end
section
variable {prog : Program} {w : World} {A : Around} {E : Value → Shared → Prop} {s : Shared}
end
section
variable {X : Cx} {pins : List (Addr × Obj)} {σ : St} {H : Hp} {s : Shared} {d : Addr} {o : Obj}
end
section
variable {P : Program} {w : World} {K : PySem.W.Frag} {tg : Expr} {d : Addr} {o : Obj} {es : Array DictEntry} {ep : Nat}
end
section
variable {X : Cx} {tg e : Expr} {td : TE} {apos cpos : Pos}
end
end L2
section 
namespace Bits
open PySem PyProof.Rows
end Bits
end 
section 
namespace TL
open PySem PySem.Builtin PySem.Builtin.Str PySem.StrLaws
abbrev tl (x : Str) : List Nat := x.cps.toList
def pre (S l : List Nat) : Bool := l.take S.length == S
def par (S : List Nat) : List Nat → List Nat → Option (List Nat × List Nat)
  | _, [] => none
  | acc, c :: r => if pre S (c :: r) = true then some (acc, (c :: r).drop S.length) else par S (acc ++ [c]) r
end TL
end 
namespace L2
open PySem PySem.Spec PyProof.Rows
section
variable {X : Cx} {pins : List (Addr × Obj)} {σ : St} {H : Hp} {s : Shared} {Q : VK}
end
section
variable {X : Cx}
end
section
variable {X : Cx} {o e : Expr} {to te : TE}
end
end L2
namespace L2
open PySem PySem.Spec PyProof.Rows
section
variable {X : Cx}
end
end L2
namespace Att
open PySem PySem.W PySem.Calls PyProof.Rows
section
variable {prog : Program} {w : World} {A : Around} {E : Value → Shared → Prop} {s : Shared} {K : Frag}
end
end Att
namespace L2
open PySem PySem.Spec PyProof.Rows
end L2
namespace L2
open PySem PySem.Spec PyProof.Rows
abbrev KOf {K : PySem.W.Frag} {h : Heap} (_ : K.In h) : PySem.W.Frag := K
end L2
namespace L2
open PySem PySem.Spec PyProof.Rows
def defArgs (s : Stmt) : Arguments := match s with
  | .FunctionDef _ a _ _ _ _ _ _ _ _ => a
  | _ => { posonlyargs := [], args := [], vararg := none, kwonlyargs := [], kw_defaults := [], kwarg := none, defaults := [] }
def defBody (s : Stmt) : List Stmt := match s with
  | .FunctionDef _ _ b _ _ _ _ _ _ _ => b
  | _ => []
def defScope (s : Stmt) : Scope := match s with
  | .FunctionDef _ _ _ _ _ _ sc _ _ _ => sc
  | _ => { kind := .function, names := [], isGenerator := false, isCoroutine := false }
abbrev CX0 : CXT := fun _ _ _ _ _ _ => False
abbrev E0 : XK := fun _ _ _ => False
theorem pass0 {X : Cx} : Passes CX0 X E0 := fun _ _ _ _ _ _ _ h => h.elim
structure Fun (K : PySem.W.Frag) (x qual : Str) (st : Stmt) (f : Addr) (fd : FuncData) : Prop where
  ex : ∃ (oc : Value) (od : Option Addr) (kV doc pm : Value) (an : Option Addr) (cdv ct : Value) (osl : Array (Option Value)),
    fd = PySem.W.fnOf x qual (defArgs st) (defBody st) (defScope st) .none kV doc pm an cdv ct ∧ K.lookup f = some ⟨oc, od, .func fd, osl⟩ ∧ PySem.W.codeIn K cdv qual = true
  kp : PySem.W.keepIn K (.ref f) = true
section
variable {P : Program} {w : World} {K : PySem.W.Frag} {mg : Str → Option Value} {base : Heap}
theorem Fun.ok {x qual : Str} {st : Stmt} {f : Addr} {fd : FuncData} {N ps : List Str} {k : Nat} {sp : Sp} (F : Fun K x qual st f fd) (S : FnScope N ps (defScope st)) (len : ∀ vs H Q E, sp vs H Q E → vs.length = ps.length)
    (hbody : ∀ (cdv : Value) (A : Around) (outer : List Env) (s : Shared) (H : Hp) (vs : List V) (Q : VK) (E : XK), Room k (A.deeper (envOfC qual (defScope st) s.heap.objs.size f cdv)) → sp vs H Q E →
      ∃ t, PSs (cxOf CX0 P w K mg base N qual (defScope st) f cdv A outer s H E).nox (defBody st) t ∧ t { nx := fun _ H' => Q .non H', rt := Q } (start N vs) H) : FnOk P w K mg base CX0 (k + 1) f fd ps sp := by
  obtain ⟨oc, od, kV, doc, pm, an, cdv, ct, osl, rfl, lk, hcd⟩ := F.ex
  refine fn_of lk hcd S len fun A outer s H vs Q E hr hsp => ?_
  obtain ⟨t, h, q⟩ := hbody cdv A outer s H vs Q E hr hsp
  exact ⟨t, h.nox, q⟩
theorem Fun.binds {x qual : Str} {st : Stmt} {f : Addr} {fd : FuncData} {ps : List Str} (F : Fun K x qual st f fd)
    (h : ∀ (kV doc pm : Value) (an : Option Addr) (cdv ct : Value) (us : List Value), us.length = ps.length → bindArgs (PySem.W.fnOf x qual (defArgs st) (defBody st) (defScope st) .none kV doc pm an cdv ct) ⟨us, []⟩ = pure (ps.zip us)) : Binds K fd ps [] := by
  obtain ⟨oc, od, kV, doc, pm, an, cdv, ct, osl, rfl, lk, hcd⟩ := F.ex
  exact .all (h kV doc pm an cdv ct)
theorem fun_mk {x qual : Str} {st : Stmt} {f : Addr} {oc : Value} {od an : Option Addr} {osl : Array (Option Value)} {kV doc pm cdv ct : Value} (l : K.lookup f = some ⟨oc, od, .func (PySem.W.fnOf x qual (defArgs st) (defBody st) (defScope st) .none kV doc pm an cdv ct), osl⟩)
    (c : PySem.W.codeIn K cdv qual = true) (k : PySem.W.keepIn K (.ref f) = true) : Fun K x qual st f (PySem.W.fnOf x qual (defArgs st) (defBody st) (defScope st) .none kV doc pm an cdv ct) := ⟨⟨oc, od, kV, doc, pm, an, cdv, ct, osl, rfl, l, c⟩, k⟩
end
theorem small1000 {n : Nat} (h : n ≤ 1000) : n < sizeLine := Nat.lt_of_le_of_lt h (by decide)
section
variable {X : Cx}
end
def Same (H H' : Hp) : Prop := ∀ b o, H b = some o → H' b = some o
theorem Same.refl (H : Hp) : Same H H := fun _ _ h => h
theorem Same.trans {H H1 H2 : Hp} (a : Same H H1) (b : Same H1 H2) : Same H H2 := fun c o h => b c o (a c o h)
theorem Same.free {H H' : Hp} (e : Same H H') {l : Addr} (h : H' l = Option.none) : H l = Option.none := by
  cases q : H l with
  | none => rfl
  | some o =>
    rw [e l o q] at h
    cases h
theorem Same.seq {K : PySem.W.Frag} {H H' : Hp} {a : Addr} {xs : List V} (e : Same H H') (h : SqL K H a xs) : SqL K H' a xs := by
  rcases h with (h | ⟨o, h⟩) | h
  · exact .inl (.inl (e _ _ h))
  · exact .inl (.inr ⟨o, e _ _ h⟩)
  · exact .inr h
section
variable {κ : Type} [DecidableEq κ]
end
end L2
section
set_option Elab.async false
set_option linter.all false
set_option maxRecDepth 100000
set_option maxHeartbeats 2000000
namespace L2
open PySem PySem.Spec PyProof.Rows
open PySem.W (WData Codec OpenSpec Well WellAll ReadsW ReadsAllW)
mutual
/-- x stands for the datum d, lists and tuples all the way -/
inductive Dw (K : PySem.W.Frag) (H : Hp) : V → WData → Prop
  | non : Dw K H .non .none
  | bl (b : Bool) : Dw K H (.bl b) (.bool b)
  | int (i : Int) : Dw K H (.int i) (.int i)
  | str (x : Str) : Dw K H (.str x) (.str x)
  | byt (b : Array UInt8) : Dw K H (.byt b) (.bytes b.toList)
  | lst {a : Addr} {xs : List V} {ds : List WData} : SqL K H a xs → DwAll K H xs ds → Dw K H (.ref a) (.list ds)
  | tup {a : Addr} {xs : List V} {ds : List WData} : SqT K H a xs → DwAll K H xs ds → Dw K H (.ref a) (.tuple ds)
inductive DwAll (K : PySem.W.Frag) (H : Hp) : List V → List WData → Prop
  | nil : DwAll K H [] []
  | cons {v : V} {vs : List V} {d : WData} {ds : List WData} : Dw K H v d → DwAll K H vs ds → DwAll K H (v :: vs) (d :: ds)
end
theorem dw_ints {K : PySem.W.Frag} {H : Hp} : ∀ ns : List Int, DwAll K H (ns.map V.int) (ns.map WData.int)
  | [] => .nil
  | n :: r => .cons (.int n) (dw_ints r)
theorem ints_dw {K : PySem.W.Frag} {H : Hp} : ∀ (ns : List Int) (xs : List V), DwAll K H xs (ns.map WData.int) → xs = ns.map V.int
  | [], xs, h => by
    cases h
    rfl
  | n :: r, xs, h => by
    cases h with
    | cons h1 h2 =>
      cases h1
      rw [ints_dw r _ h2] <;> rfl
section
variable {P : Program} {w : World} {K : PySem.W.Frag} {H : Hp} {h : Heap} {R : PySem.W.WRecords} {cl : Str → Option Addr}
theorem sqL_at {a : Addr} {xs : List V} (hok : HOk P w H h) (KX : K.In h) (q : SqL K H a xs) : ∃ (its : List Value) (o : Obj) (n : Nat), Vals xs its ∧ h.get? a = some o ∧ o.cls = .type "list" ∧ o.data = .seq its.toArray n := by
  rcases q with q | ⟨o, its, n, e, hc, _, hd, _, hv⟩
  · obtain ⟨_, its, n, hv, e⟩ := (show ObjOk P w H h a (.lst xs) from q.ok hok)
    exact ⟨its, _, n, hv, e, rfl, rfl⟩
  · exact ⟨its.toList, o, n, hv, KX _ _ e, hc, by simp [hd]⟩
theorem sqT_at {a : Addr} {xs : List V} (hok : HOk P w H h) (KX : K.In h) (q : SqT K H a xs) : ∃ (its : List Value) (o : Obj) (n : Nat), Vals xs its ∧ h.get? a = some o ∧ o.cls = .type "tuple" ∧ o.data = .seq its.toArray n := by
  rcases q with q | ⟨o, its, n, e, hc, hd, _, hv⟩
  · obtain ⟨_, its, hv, o, e, hc, n, hd⟩ := (show ObjOk P w H h a (.tup xs) from q.ok hok)
    exact ⟨its, o, n, hv, e, hc, hd⟩
  · exact ⟨its.toList, o, n, hv, KX _ _ e, hc, by simp [hd]⟩
mutual
theorem Dw.reads (hok : HOk P w H h) (KX : K.In h) : ∀ (d : WData) (v : V) (u : Value), Dw K H v d → RelV v u → ∃ as, ReadsW R cl h u d as
  | .none, _, _, x, r => by
    cases x
    cases r
    exact ⟨_, ReadsW.none⟩
  | .bool b, _, _, x, r => by
    cases x
    cases r
    exact ⟨_, ReadsW.bool b⟩
  | .int i, _, _, x, r => by
    cases x
    obtain ⟨t, rfl⟩ := r
    exact ⟨_, ReadsW.int i t⟩
  | .str s, _, _, x, r => by
    cases x
    obtain ⟨t, rfl⟩ := r
    exact ⟨_, ReadsW.str s t⟩
  | .bytes b, _, _, x, r => by
    cases x
    obtain ⟨t, rfl⟩ := r
    exact ⟨_, ReadsW.bytes _ t⟩
  | .list ds, _, _, x, r => by
    cases x with
    | lst hs ha =>
      cases r
      obtain ⟨its, o, n, rv, ho, hc, hd⟩ := sqL_at hok KX hs
      obtain ⟨as, hr⟩ := Dw.readsAll hok KX ds _ its ha rv
      exact ⟨_, ReadsW.list ho hc hd hr⟩
  | .tuple ds, _, _, x, r => by
    cases x with
    | tup hs ha =>
      cases r
      obtain ⟨its, o, n, rv, ho, hc, hd⟩ := sqT_at hok KX hs
      obtain ⟨as, hr⟩ := Dw.readsAll hok KX ds _ its ha rv
      exact ⟨_, ReadsW.tuple ho hc hd hr⟩
  | .float _, _, _, x, _ => by cases x
  | .dict _, _, _, x, _ => by cases x
  | .bytearray _, _, _, x, _ => by cases x
  | .set _, _, _, x, _ => by cases x
  | .frozenset _, _, _, x, _ => by cases x
  | .obj _ _, _, _, x, _ => by cases x
theorem Dw.readsAll (hok : HOk P w H h) (KX : K.In h) : ∀ (ds : List WData) (vs : List V) (us : List Value), DwAll K H vs ds → Vals vs us → ∃ as, ReadsAllW R cl h us ds as
  | [], _, _, x, r => by
    cases x
    cases r
    exact ⟨_, ReadsAllW.nil⟩
  | d :: ds, _, _, x, r => by
    cases x with
    | cons h1 h2 =>
      cases r with
      | cons r1 r2 =>
        obtain ⟨as, q1⟩ := Dw.reads hok KX d _ _ h1 r1
        obtain ⟨bs, q2⟩ := Dw.readsAll hok KX ds _ _ h2 r2
        exact ⟨_, ReadsAllW.cons q1 q2⟩
end
end
mutual
/-- data that a codec tells -/
def plW : WData → Bool
  | .none => true
  | .bool _ => true
  | .int _ => true
  | .str _ => true
  | .bytes _ => true
  | .list xs => plWs xs
  | .tuple xs => plWs xs
  | _ => false
def plWs : List WData → Bool
  | [] => true
  | x :: r => plW x && plWs r
end
theorem plWs_map {α : Type} {f : α → WData} (h : ∀ a, plW (f a) = true) : ∀ l : List α, plWs (l.map f) = true
  | [] => rfl
  | x :: r => by
    show (plW (f x) && plWs (r.map f)) = true
    rw [h x, plWs_map h r] <;> rfl
theorem pl_enc : ∀ (c : Codec) (a : c.denote), plW (c.enc a) = true
  | .unit, _ => rfl
  | .bool, _ => rfl
  | .int _ _, _ => rfl
  | .nat _ _, _ => rfl
  | .u8, _ => rfl
  | .bytes _ _, _ => rfl
  | .text _ _ _ _, _ => rfl
  | .list _ _ c, a => plWs_map (fun x => pl_enc c x) a
  | .pair c d, a => by
    show (plW (c.enc a.1) && (plW (d.enc a.2) && true)) = true
    rw [pl_enc c a.1, pl_enc d a.2] <;> rfl
  | .triple c d e, a => by
    show (plW (c.enc a.1) && (plW (d.enc a.2.1) && (plW (e.enc a.2.2) && true))) = true
    rw [pl_enc c a.1, pl_enc d a.2.1, pl_enc e a.2.2] <;> rfl
  | .option c, none => rfl
  | .option c, some x => pl_enc c x
theorem pl_encAll : ∀ (cs : List Codec) (a : Codec.denoteAll cs), plWs (Codec.encAll cs a) = true
  | [], _ => rfl
  | c :: cs, a => by
    show (plW (c.enc a.1) && plWs (Codec.encAll cs a.2)) = true
    rw [pl_enc c a.1, pl_encAll cs a.2] <;> rfl
theorem weight_mem : ∀ {xs : List WData} {d : WData}, d ∈ xs → d.weight ≤ WData.weightAll xs
  | [], d, h => absurd h (by simp)
  | x :: r, d, h => by
    show d.weight ≤ x.weight + 1 + WData.weightAll r
    rcases List.mem_cons.mp h with e | m
    · rw [e]
      omega
    · have z := weight_mem m
      omega
def toV : Value → V
  | .none => .non
  | .bool b => .bl b
  | .int i _ => .int i
  | .str x _ => .str x
  | .bytes b _ => .byt b
  | .ref a => .ref a
  | _ => .non
def OkU (A : List Addr) : Value → Prop
  | .none => True
  | .bool _ => True
  | .int _ _ => True
  | .str _ _ => True
  | .bytes _ _ => True
  | .ref a => a ∈ A
  | _ => False
theorem OkU.mono {A B : List Addr} (h : ∀ a ∈ A, a ∈ B) : ∀ {u : Value}, OkU A u → OkU B u := fun {u} x => by
  cases u with
  | ref a => exact h a x
  | none => trivial
  | bool b => trivial
  | int i t => trivial
  | str s t => trivial
  | bytes b t => trivial
  | _ => exact False.elim x
theorem relV_toV {A : List Addr} {u : Value} (x : OkU A u) : RelV (toV u) u := by
  cases u with
  | ref a => rfl
  | none => rfl
  | bool b => rfl
  | int i t => exact ⟨t, rfl⟩
  | str s t => exact ⟨t, rfl⟩
  | bytes b t => exact ⟨t, rfl⟩
  | _ => exact False.elim x
theorem vals_toV {A : List Addr} : ∀ {vs : List Value}, (∀ u ∈ vs, OkU A u) → Vals (vs.map toV) vs
  | [], _ => .nil
  | u :: r, h => .cons (relV_toV (h u (List.mem_cons_self ..))) (vals_toV fun x hx => h x (List.mem_cons_of_mem _ hx))
def ArgOb (h : Heap) (A : List Addr) (a : Addr) : Prop := ∃ vs : List Value, vs.length ≤ sizeLine ∧ (∀ u ∈ vs, OkU A u) ∧
  (h.get? a = some { cls := .type "list", data := .seq vs.toArray } ∨ h.get? a = some { cls := .type "tuple", data := .seq vs.toArray })
theorem ArgOb.mono {h : Heap} {A B : List Addr} {a : Addr} (k : ∀ a ∈ A, a ∈ B) (x : ArgOb h A a) : ArgOb h B a := by
  obtain ⟨vs, h1, h2, h3⟩ := x
  exact ⟨vs, h1, fun u hu => (h2 u hu).mono k, h3⟩
theorem wellAll_len {P : Params} {h : Heap} : ∀ {vs : List Value} {ds : List WData}, WellAll P h vs ds → vs.length = ds.length
  | _, _, .nil => rfl
  | _, _, .cons _ b => by
    show _ + 1 = _ + 1
    rw [wellAll_len b]
theorem well_list {P : Params} {h : Heap} {v : Value} {ds : List WData} (x : Well P h v (.list ds)) : ∃ (a : Addr) (vs : List Value), v = .ref a ∧ h.get? a = some { cls := .type "list", data := .seq vs.toArray } ∧ WellAll P h vs ds := by
  cases x with
  | list ho hall => exact ⟨_, _, rfl, ho, hall⟩
theorem well_tuple {P : Params} {h : Heap} {v : Value} {ds : List WData} (x : Well P h v (.tuple ds)) : ∃ (a : Addr) (vs : List Value), v = .ref a ∧ h.get? a = some { cls := .type "tuple", data := .seq vs.toArray } ∧ WellAll P h vs ds := by
  cases x with
  | tuple ho hall => exact ⟨_, _, rfl, ho, hall⟩
theorem well_cons {P : Params} {h : Heap} {us : List Value} {d : WData} {ds : List WData} (x : WellAll P h us (d :: ds)) : ∃ (v : Value) (vs : List Value), us = v :: vs ∧ Well P h v d ∧ WellAll P h vs ds := by
  cases x with
  | cons a b => exact ⟨_, _, rfl, a, b⟩
theorem line_of {n : Nat} (h : n ≤ 1048576) : n ≤ sizeLine := Nat.le_trans h (by decide)
section
variable {P : Params} {h : Heap}
mutual
theorem area_one : ∀ (d : WData) (v : Value), Well P h v d → plW d = true → d.weight ≤ 1048576 → ∃ A : List Addr, OkU A v ∧ ∀ a ∈ A, ArgOb h A a
  | .none, _, x, _, _ => by
    cases x
    exact ⟨[], trivial, fun a m => absurd m (by simp)⟩
  | .bool b, _, x, _, _ => by
    cases x
    exact ⟨[], trivial, fun a m => absurd m (by simp)⟩
  | .int i, _, x, _, _ => by
    cases x
    exact ⟨[], trivial, fun a m => absurd m (by simp)⟩
  | .str s, _, x, _, _ => by
    cases x
    exact ⟨[], trivial, fun a m => absurd m (by simp)⟩
  | .bytes b, _, x, _, _ => by
    cases x
    exact ⟨[], trivial, fun a m => absurd m (by simp)⟩
  | .list ds, _, x, p, z => by
    obtain ⟨a, vs, rfl, ho, hall⟩ := well_list x
    have z2 : WData.weightAll ds ≤ 1048576 := z
    obtain ⟨A, h1, h2⟩ := area_all ds _ hall p fun d hd => Nat.le_trans (weight_mem hd) z2
    have k : ∀ b ∈ A, b ∈ a :: A := fun b hb => List.mem_cons_of_mem _ hb
    refine ⟨a :: A, List.mem_cons_self .., fun b hb => ?_⟩
    rcases List.mem_cons.mp hb with e | m
    · rw [e]
      exact ⟨vs, line_of (by rw [wellAll_len hall]; exact Nat.le_trans (PySem.W.length_le_weightAllW ds) z2), fun u hu => (h1 u hu).mono k, .inl ho⟩
    · exact (h2 b m).mono k
  | .tuple ds, _, x, p, z => by
    obtain ⟨a, vs, rfl, ho, hall⟩ := well_tuple x
    have z2 : WData.weightAll ds ≤ 1048576 := z
    obtain ⟨A, h1, h2⟩ := area_all ds _ hall p fun d hd => Nat.le_trans (weight_mem hd) z2
    have k : ∀ b ∈ A, b ∈ a :: A := fun b hb => List.mem_cons_of_mem _ hb
    refine ⟨a :: A, List.mem_cons_self .., fun b hb => ?_⟩
    rcases List.mem_cons.mp hb with e | m
    · rw [e]
      exact ⟨vs, line_of (by rw [wellAll_len hall]; exact Nat.le_trans (PySem.W.length_le_weightAllW ds) z2), fun u hu => (h1 u hu).mono k, .inr ho⟩
    · exact (h2 b m).mono k
  | .float _, _, _, p, _ => Bool.noConfusion (show false = true from p)
  | .dict _, _, _, p, _ => Bool.noConfusion (show false = true from p)
  | .bytearray _, _, _, p, _ => Bool.noConfusion (show false = true from p)
  | .set _, _, _, p, _ => Bool.noConfusion (show false = true from p)
  | .frozenset _, _, _, p, _ => Bool.noConfusion (show false = true from p)
  | .obj _ _, _, _, p, _ => Bool.noConfusion (show false = true from p)
theorem area_all : ∀ (ds : List WData) (vs : List Value), WellAll P h vs ds → plWs ds = true → (∀ d ∈ ds, d.weight ≤ 1048576) → ∃ A : List Addr, (∀ u ∈ vs, OkU A u) ∧ ∀ a ∈ A, ArgOb h A a
  | [], _, x, _, _ => by
    cases x
    exact ⟨[], fun u m => absurd m (by simp), fun a m => absurd m (by simp)⟩
  | d :: ds, _, x, p, z => by
    obtain ⟨v, vs, rfl, x1, x2⟩ := well_cons x
    have q : plW d = true ∧ plWs ds = true := Bool.and_eq_true_iff.mp p
    obtain ⟨A, a1, a2⟩ := area_one d v x1 q.1 (z d (List.mem_cons_self ..))
    obtain ⟨B, b1, b2⟩ := area_all ds vs x2 q.2 fun e he => z e (List.mem_cons_of_mem _ he)
    have kA : ∀ b ∈ A, b ∈ A ++ B := fun b hb => List.mem_append.mpr (.inl hb)
    have kB : ∀ b ∈ B, b ∈ A ++ B := fun b hb => List.mem_append.mpr (.inr hb)
    refine ⟨A ++ B, fun u hu => ?_, fun b hb => ?_⟩
    · rcases List.mem_cons.mp hu with e | m
      · rw [e]
        exact a1.mono kA
      · exact (b1 u m).mono kB
    · rcases List.mem_append.mp hb with m | m
      · exact (a2 b m).mono kA
      · exact (b2 b m).mono kB
end
end
def hoOf (o : Obj) : Option HO := match o.data with
  | .seq vs _ => if (o.cls == Value.type "list") = true then some (.frz o (.lst (vs.toList.map toV))) else some (.frz o (.tup (vs.toList.map toV)))
  | _ => none
def argH (K : PySem.W.Frag) (h : Heap) (A : List Addr) : Hp := fun b => if b ∈ A then (if (K.lookup b).isNone = true then (h.get? b).bind hoOf else none) else none
def OnlyF (H : Hp) : Prop := ∀ b, H b = none ∨ ∃ o u, H b = some (.frz o u)
theorem hoOf_lst (vs : List Value) : hoOf { cls := .type "list", data := .seq vs.toArray } = some (.frz { cls := .type "list", data := .seq vs.toArray } (.lst (vs.map toV))) := by
  show (if (Value.type "list" == Value.type "list") = true then some (HO.frz { cls := .type "list", data := .seq vs.toArray } (.lst (vs.toArray.toList.map toV))) else some (HO.frz { cls := .type "list", data := .seq vs.toArray } (.tup (vs.toArray.toList.map toV)))) = _
  rw [if_pos (beq_self_eq_true _)]
theorem hoOf_tup (vs : List Value) : hoOf { cls := .type "tuple", data := .seq vs.toArray } = some (.frz { cls := .type "tuple", data := .seq vs.toArray } (.tup (vs.map toV))) := by
  show (if (Value.type "tuple" == Value.type "list") = true then some (HO.frz { cls := .type "tuple", data := .seq vs.toArray } (.lst (vs.toArray.toList.map toV))) else some (HO.frz { cls := .type "tuple", data := .seq vs.toArray } (.tup (vs.toArray.toList.map toV)))) = _
  rw [if_neg (by decide)]
section
variable {P : Program} {w : World} {K : PySem.W.Frag} {h : Heap} {A : List Addr}
theorem argH_at {b : Addr} {o : Obj} (hb : b ∈ A) (hk : K.lookup b = none) (e : h.get? b = some o) : argH K h A b = hoOf o := by
  unfold argH
  rw [if_pos hb, hk, if_pos (show (none : Option Obj).isNone = true from rfl), e] <;> rfl
theorem of_argH {b : Addr} {u : HO} (q : argH K h A b = some u) : b ∈ A ∧ K.lookup b = none := by
  unfold argH at q
  by_cases hb : b ∈ A
  · rw [if_pos hb] at q
    cases hk : K.lookup b with
    | none => exact ⟨hb, rfl⟩
    | some o =>
      rw [hk, if_neg (by simp)] at q
      cases q
  · rw [if_neg hb] at q
    cases q
theorem argH_is (ar : ∀ a ∈ A, ArgOb h A a) {b : Addr} {u : HO} (q : argH K h A b = some u) : K.lookup b = none ∧ ∃ vs : List Value, vs.length ≤ sizeLine ∧ (∀ u ∈ vs, OkU A u) ∧
    ((h.get? b = some { cls := .type "list", data := .seq vs.toArray } ∧ u = .frz { cls := .type "list", data := .seq vs.toArray } (.lst (vs.map toV))) ∨
     (h.get? b = some { cls := .type "tuple", data := .seq vs.toArray } ∧ u = .frz { cls := .type "tuple", data := .seq vs.toArray } (.tup (vs.map toV)))) := by
  obtain ⟨hb, hk⟩ := of_argH q
  obtain ⟨vs, h1, h2, h3⟩ := ar b hb
  refine ⟨hk, vs, h1, h2, ?_⟩
  rcases h3 with e | e
  · rw [argH_at hb hk e, hoOf_lst] at q
    exact .inl ⟨e, (Option.some.inj q).symm⟩
  · rw [argH_at hb hk e, hoOf_tup] at q
    exact .inr ⟨e, (Option.some.inj q).symm⟩
theorem argH_only (ar : ∀ a ∈ A, ArgOb h A a) : OnlyF (argH K h A) := fun b => by
  cases q : argH K h A b with
  | none => exact .inl rfl
  | some u =>
    obtain ⟨_, vs, _, _, ⟨_, e⟩ | ⟨_, e⟩⟩ := argH_is ar q
    · exact .inr ⟨_, _, by rw [e]⟩
    · exact .inr ⟨_, _, by rw [e]⟩
theorem argH_ok (ar : ∀ a ∈ A, ArgOb h A a) : HOk P w (argH K h A) h := fun b u q => by
  obtain ⟨_, vs, h1, h2, ⟨e, rfl⟩ | ⟨e, rfl⟩⟩ := argH_is ar q
  · exact ⟨e, by rw [List.length_map]; exact h1, vs, _, vals_toV h2, e⟩
  · exact ⟨e, by rw [List.length_map]; exact h1, vs, vals_toV h2, _, e, rfl, _, rfl⟩
theorem seq_inj {c c' : Value} {vs us : List Value} (e : (some { cls := c, data := .seq vs.toArray } : Option Obj) = some { cls := c', data := .seq us.toArray }) : c = c' ∧ vs = us := by
  have e1 := Option.some.inj e
  have e2 : c = c' := congrArg Obj.cls e1
  have e3 : Data.seq vs.toArray = Data.seq us.toArray := congrArg Obj.data e1
  injection e3 with e4
  refine ⟨e2, ?_⟩
  have e5 := congrArg Array.toList e4
  simpa using e5
theorem argL (KX : K.In h) (ar : ∀ a ∈ A, ArgOb h A a) {a : Addr} {vs : List Value} (ha : a ∈ A) (e : h.get? a = some { cls := .type "list", data := .seq vs.toArray }) : (∀ u ∈ vs, OkU A u) ∧ SqL K (argH K h A) a (vs.map toV) := by
  obtain ⟨us, h1, h2, h3⟩ := ar a ha
  have hu : us = vs := by
    rcases h3 with q | q
    · rw [e] at q
      exact (seq_inj q).2.symm
    · rw [e] at q
      exact absurd (Value.type.inj (seq_inj q).1) (by decide)
  subst hu
  refine ⟨h2, ?_⟩
  cases hk : K.lookup a with
  | none => exact .inl (.inr ⟨_, by rw [argH_at ha hk e, hoOf_lst]⟩)
  | some o =>
    have e2 := KX a o hk
    rw [e] at e2
    obtain rfl := Option.some.inj e2
    exact .inr ⟨_, us.toArray, _, hk, rfl, rfl, rfl, by rw [List.size_toArray]; exact h1, by simpa using vals_toV h2⟩
theorem argT (KX : K.In h) (ar : ∀ a ∈ A, ArgOb h A a) {a : Addr} {vs : List Value} (ha : a ∈ A) (e : h.get? a = some { cls := .type "tuple", data := .seq vs.toArray }) : (∀ u ∈ vs, OkU A u) ∧ SqT K (argH K h A) a (vs.map toV) := by
  obtain ⟨us, h1, h2, h3⟩ := ar a ha
  have hu : us = vs := by
    rcases h3 with q | q
    · rw [e] at q
      exact absurd (Value.type.inj (seq_inj q).1) (by decide)
    · rw [e] at q
      exact (seq_inj q).2.symm
  subst hu
  refine ⟨h2, ?_⟩
  cases hk : K.lookup a with
  | none => exact .inl (.inr ⟨_, by rw [argH_at ha hk e, hoOf_tup]⟩)
  | some o =>
    have e2 := KX a o hk
    rw [e] at e2
    obtain rfl := Option.some.inj e2
    exact .inr ⟨_, us.toArray, _, hk, rfl, rfl, by rw [List.size_toArray]; exact h1, by simpa using vals_toV h2⟩
mutual
theorem dw_one {Pm : Params} (KX : K.In h) (ar : ∀ a ∈ A, ArgOb h A a) : ∀ (d : WData) (v : Value), Well Pm h v d → plW d = true → OkU A v → Dw K (argH K h A) (toV v) d
  | .none, _, x, _, _ => by
    cases x
    exact .non
  | .bool b, _, x, _, _ => by
    cases x
    exact .bl b
  | .int i, _, x, _, _ => by
    cases x
    exact .int i
  | .str s, _, x, _, _ => by
    cases x
    exact .str s
  | .bytes b, _, x, _, _ => by
    cases x
    have z := Dw.byt (K := K) (H := argH K h A) b.toArray
    exact z
  | .list ds, _, x, p, hu => by
    obtain ⟨a, vs, rfl, ho, hall⟩ := well_list x
    obtain ⟨h2, hs⟩ := argL KX ar hu ho
    exact .lst hs (dw_all KX ar ds _ hall p h2)
  | .tuple ds, _, x, p, hu => by
    obtain ⟨a, vs, rfl, ho, hall⟩ := well_tuple x
    obtain ⟨h2, hs⟩ := argT KX ar hu ho
    exact .tup hs (dw_all KX ar ds _ hall p h2)
  | .float _, _, _, p, _ => Bool.noConfusion (show false = true from p)
  | .dict _, _, _, p, _ => Bool.noConfusion (show false = true from p)
  | .bytearray _, _, _, p, _ => Bool.noConfusion (show false = true from p)
  | .set _, _, _, p, _ => Bool.noConfusion (show false = true from p)
  | .frozenset _, _, _, p, _ => Bool.noConfusion (show false = true from p)
  | .obj _ _, _, _, p, _ => Bool.noConfusion (show false = true from p)
theorem dw_all {Pm : Params} (KX : K.In h) (ar : ∀ a ∈ A, ArgOb h A a) : ∀ (ds : List WData) (vs : List Value), WellAll Pm h vs ds → plWs ds = true → (∀ u ∈ vs, OkU A u) → DwAll K (argH K h A) (vs.map toV) ds
  | [], _, x, _, _ => by
    cases x
    exact .nil
  | d :: ds, _, x, p, hu => by
    obtain ⟨v, vs, rfl, x1, x2⟩ := well_cons x
    have q : plW d = true ∧ plWs ds = true := Bool.and_eq_true_iff.mp p
    exact .cons (dw_one KX ar d v x1 q.1 (hu _ (List.mem_cons_self ..))) (dw_all KX ar ds vs x2 q.2 fun u m => hu u (List.mem_cons_of_mem _ m))
end
end
theorem spec_call {P : Program} {w : World} {K : PySem.W.Frag} {mg mb : Str → Option Value} {CX : CXT} {k : Nat} {fa : Addr} {fd : FuncData} {ps : List Str} {sp : Sp} {s₁ : Shared} {vals : List Value} {ds : List WData} {R : PySem.W.WRecords} {cl : Str → Option Addr} {d0 : WData}
    (KX : K.In s₁.heap) (hns : s₁.heap.Ns mainGlobals mg) (hb : s₁.heap.Ns builtinsNs mb) (hbb : ∀ x : Str, x ≠ "__name__" → mb x = bootBuiltins x) (hlim : s₁.heap.NoLimit) (hg : s₁.gens = #[])
    (hwl : WellAll w.params s₁.heap vals ds) (hpl : plWs ds = true) (hwt : ∀ d ∈ ds, d.weight ≤ 1048576) (hr : Room k callerA)
    (F : ∀ base : Heap, K.In base → base.Ns mainGlobals mg → FnOk P w K mg base CX k fa fd ps sp) (hbind : ∀ (s : Shared) (us : List Value), us.length = ps.length → BindsTo s fd ⟨us, []⟩ (ps.zip us)) (hlen : ds.length = ps.length)
    (hsp : ∀ (H : Hp) (xs : List V), OnlyF H → DwAll K H xs ds → sp xs H (fun v H' => Dw K H' v d0) fun _ _ _ => False)
    (hCX : ∀ H e s', CX [] H s₁ (fun _ _ _ => False) e s' → False) :
    codeAny (model P w) callerA (.call (.ref fa) ⟨vals, []⟩) (fun r s' => ∃ u as, r = .ok (.ret u) ∧ ReadsW R cl s'.heap u d0 as ∧ OldK s₁.heap s'.heap ∧ s'.os = s₁.os ∧ AllBare s'.gens) s₁ := by
  obtain ⟨A, ho, ar⟩ := area_all ds vals hwl hpl hwt
  have hO : OnlyF (argH K s₁.heap A) := argH_only ar
  have hok : HOk P w (argH K s₁.heap A) s₁.heap := argH_ok ar
  have hS := dw_all KX ar ds vals hwl hpl ho
  have hV := vals_toV ho
  have hK : ∀ b u, argH K s₁.heap A b = some u → K.lookup b = none := fun b u q => (argH_is ar q).1
  have noA : ∀ {b : Addr} {o : Obj} {es : Array DictEntry} {ep : Nat}, s₁.heap.get? b = some o → o.data = .dict es ep → argH K s₁.heap A b = none := fun {b o es ep} e d => by
    cases q : argH K s₁.heap A b with
    | none => rfl
    | some u =>
      obtain ⟨_, vs, _, _, ⟨e2, _⟩ | ⟨e2, _⟩⟩ := argH_is ar q
      · rw [e2] at e
        cases e
        have d' : Data.seq vs.toArray _ = Data.dict es ep := d
        cases d'
      · rw [e2] at e
        cases e
        have d' : Data.seq vs.toArray _ = Data.dict es ep := d
        cases d'
  generalize argH K s₁.heap A = H at hO hok hS hK noA
  have base_of : ∀ {b : Addr} {o : Obj}, s₁.heap.get? b = some o → H b = none → (hidT s₁.heap H).get? b = some o := fun e n => hidT_get e n
  have nsK : ∀ {b : Addr} {m : Str → Option Value}, s₁.heap.Ns b m → (hidT s₁.heap H).Ns b m := fun {b m} ⟨o, es, ep, e, d, r⟩ => ⟨o, es, ep, base_of e (noA e d), d, r⟩
  have nK : ∀ b o, K.lookup b = some o → H b = none := fun b o e => by
    cases q : H b with
    | none => rfl
    | some u =>
      rw [hK b u q] at e
      cases e
  have hKb : K.In (hidT s₁.heap H) := fun b o e => base_of (KX b o e) (nK b o e)
  have hM : Mod K mg (hidT s₁.heap H) := ⟨hKb, nsK hns, ⟨mb, nsK hb, hbb⟩, let ⟨mc, h1, h2⟩ := hlim; ⟨mc, nsK h1, h2⟩⟩
  have e0 : Env0 P w K mg (hidT s₁.heap H) callerA [] s₁ H := ⟨rfl, hM, fun b o e => of_hidT e, Nat.le_of_eq (hidT_size _ _), trivial, fun b hb => absurd (show b ∈ ([] : List Addr) from hb) (by simp), hok, .of_eq hg⟩
  have hl : vals.length = ps.length := by rw [wellAll_len hwl]; exact hlen
  refine codeAny_mono ((F _ hKb (nsK hns)).run callerA [] s₁ H ⟨vals, []⟩ vals (vals.map toV) _ _ hr e0 (hbind s₁ vals hl) hV (hsp H _ hO hS)) fun r s' x => ?_
  cases r with
  | error e => exact (hCX H e s' x).elim
  | ok fl =>
    cases fl with
    | next => exact False.elim x
    | brk => exact False.elim x
    | cont => exact False.elim x
    | ret u =>
      obtain ⟨v, H', os, bare, un, hok', r', q⟩ := x
      have kept : ∀ b o, s₁.heap.get? b = some o → s'.heap.get? b = some o := fun b o e => by
        cases q2 : H b with
        | none => exact un.keep b o e q2 (by intro z; exact absurd (show b ∈ ([] : List Addr) from z) (by simp)) (by simp)
        | some u2 =>
          rcases hO b with z | ⟨ob, u3, z⟩
          · rw [q2] at z
            cases z
          · have z2 := un.frzs b ob _ z
            obtain ⟨e1, _⟩ := hok b _ z
            obtain ⟨e2, _⟩ := hok' b _ z2
            rw [e] at e1
            cases e1
            exact e2
      have KX' : K.In s'.heap := fun b o e => kept b o (KX b o e)
      obtain ⟨as, hrd⟩ := Dw.reads (R := R) (cl := cl) hok' KX' d0 v u q r'
      exact ⟨u, as, rfl, hrd, OldK.of_keep kept, os, bare⟩
theorem layable_weight {ds : List WData} (h : WData.layableAll ds = true) : ∀ d ∈ ds, d.weight ≤ 1048576 := fun d hd =>
  (PySem.W.layableW_iff.mp (List.all_eq_true.mp h d hd)).2.2
theorem encAll_len : ∀ (cs : List Codec) (a : Codec.denoteAll cs), (Codec.encAll cs a).length = cs.length
  | [], _ => rfl
  | c :: cs, a => by
    show (Codec.encAll cs a.2).length + 1 = cs.length + 1
    rw [encAll_len cs a.2]
theorem walk_spec {r : OpenSpec} {k : Nat} {q : Program} {loose : List Str} {XP : (Str → Option Value) → Heap → Prop} {YP : World → Heap → Prop} {d : DefRec} {K : Params → PySem.W.Frag} {CX : World → CXT} {ps : List Str} {sp : World → Sp}
    (hwell : r.wellSaid = true) (hdf : d.params.defaults = []) (hlen : r.args.length = ps.length) (hr : Room k callerA)
    (hY : ∀ (w : World) (h : Heap), YP w h → (K w.params).In h)
    (F : ∀ (w : World) (mg : Str → Option Value) (fa : Addr) (h : Heap), YP w h → (K w.params).In h → h.Ns mainGlobals mg → mg d.name = some (.ref fa) →
      ∃ fd : FuncData, (∀ (s : Shared) (us : List Value), us.length = ps.length → BindsTo s fd ⟨us, []⟩ (ps.zip us)) ∧
        ∀ base : Heap, (K w.params).In base → base.Ns mainGlobals mg → FnOk r.prog w (K w.params) mg base (CX w) k fa fd ps (sp w))
    (hsp : ∀ (w : World) (H : Hp) (xs : List V) (a : Codec.denoteAll r.args), OnlyF H → Codec.withinAll r.args a = true → Codec.app r.args r.asked a = true → DwAll (K w.params) H xs (Codec.encAll r.args a) →
      sp w xs H (fun v H' => Dw (K w.params) H' v (r.ret.enc (Codec.app r.args r.f a))) fun _ _ _ => False)
    (hCX : ∀ (w : World) (H : Hp) (s : Shared) (e : Value) (s' : Shared), CX w [] H s (fun _ _ _ => False) e s' → False) :
    PySem.W.WalkOS q loose XP YP r d [] (fun f vs => PySem.call f vs) := by
  intro w s_0 s₁ mg mb G Y fa o pm cd doc dV kV ho hd hcd hD hmg hg args vals as hpre hlay hrd hwl hlo
  obtain ⟨a, e1, e2⟩ := PySem.W.os_pre_some hpre
  obtain ⟨e3, hwi⟩ := Codec.encAll_of_decAll r.args args a e1
  subst e3
  have KX := hY w _ Y
  obtain ⟨fd, hb, hF⟩ := F w mg fa _ Y KX G.T.g hmg
  refine PySem.W.enter_call (codeAny_mono (spec_call (R := []) (cl := classAt s_0.heap) (d0 := r.ret.enc (Codec.app r.args r.f a)) KX G.T.g G.T.b G.T.builtins G.T.nolimit hg hwl (pl_encAll _ _) (layable_weight hlay) hr hF hb (by rw [encAll_len]; exact hlen)
    (fun H xs hO hS => hsp w H xs a hO hwi e2 hS) fun H e s' => hCX w H s₁ e s') fun r' s' hq => ?_)
  obtain ⟨u, as', rfl, h1, h2, h3, h4⟩ := hq
  exact ⟨.inl ⟨u, _, as', rfl, fun _ => rfl, h1, (OpenSpec.post_iff hwell hwi _ _).mpr rfl, fun z => Bool.noConfusion (show false = true from z)⟩, h2, h3, h4⟩
theorem walk_specK {r : OpenSpec} {k : Nat} {q : Program} {loose : List Str} {XP : (Str → Option Value) → Heap → Prop} {YP : World → Heap → Prop} {d : DefRec} {K : Params → PySem.W.Frag} {CX : CXT} {ps : List Str} {sp : PySem.W.Frag → Sp}
    (hwell : r.wellSaid = true) (hdf : d.params.defaults = []) (hlen : r.args.length = ps.length) (hr : Room k callerA)
    (hY : ∀ (w : World) (h : Heap), YP w h → (K w.params).In h)
    (F : ∀ (w : World) (mg : Str → Option Value) (fa : Addr) (h : Heap), YP w h → (K w.params).In h → h.Ns mainGlobals mg → mg d.name = some (.ref fa) →
      ∃ fd : FuncData, (∀ (s : Shared) (us : List Value), us.length = ps.length → BindsTo s fd ⟨us, []⟩ (ps.zip us)) ∧
        ∀ base : Heap, (K w.params).In base → base.Ns mainGlobals mg → FnOk r.prog w (K w.params) mg base CX k fa fd ps (sp (K w.params)))
    (hsp : ∀ (K : PySem.W.Frag) (H : Hp) (xs : List V) (a : Codec.denoteAll r.args), OnlyF H → Codec.withinAll r.args a = true → Codec.app r.args r.asked a = true → DwAll K H xs (Codec.encAll r.args a) →
      sp K xs H (fun v H' => Dw K H' v (r.ret.enc (Codec.app r.args r.f a))) fun _ _ _ => False)
    (hCX : ∀ (H : Hp) (s : Shared) (e : Value) (s' : Shared), CX [] H s (fun _ _ _ => False) e s' → False) :
    PySem.W.WalkOS q loose XP YP r d [] (fun f vs => PySem.call f vs) :=
  walk_spec (K := K) (CX := fun _ => CX) (sp := fun w => sp (K w.params)) hwell hdf hlen hr hY F (fun w H xs a h1 h2 h3 h4 => hsp (K w.params) H xs a h1 h2 h3 h4) fun _ H s e s' => hCX H s e s'
end L2
end
set_option Elab.async false
set_option linter.all false
set_option maxRecDepth 100000
set_option exponentiation.threshold 4000
set_option maxHeartbeats 4000000
/-! WEAKEST READINGS over the hand layer: an expression, a test, a block by the value that it comes to. -/
namespace Hw
open PySem PySem.Spec PyProof.Rows L2

/-- what all defs of one program share -/
structure Mo where
  P : Program
  w : World
  K : PySem.W.Frag
  mg : Str → Option Value
  base : Heap

def WE (X : Cx) (e : Expr) : TE := fun σ H Q => ∃ t, PE X e t ∧ t σ H Q
theorem WE.pe {X : Cx} {e : Expr} : PE X e (WE X e) := fun pins s σ H Q I h => by
  obtain ⟨t, h1, h2⟩ := h
  exact h1 pins s σ H Q I h2
def WT (X : Cx) (e : Expr) : TT := fun σ H Q => ∃ t, PT X e t ∧ t σ H Q
theorem WT.pt {X : Cx} {e : Expr} : PT X e (WT X e) := fun pins s σ H Q I h => by
  obtain ⟨t, h1, h2⟩ := h
  exact h1 pins s σ H Q I h2
def WW (X : Cx) (e : Expr) : TT := fun σ H Q => ∃ t, PW X e t ∧ t σ H Q
theorem WW.pw {X : Cx} {e : Expr} : PW X e (WW X e) := fun wh pins s σ H Q I h => by
  obtain ⟨t, h1, h2⟩ := h
  exact h1 wh pins s σ H Q I h2
def WA (X : Cx) (es : List Expr) : TA := fun σ H Q => ∃ t, PA X es t ∧ t σ H Q
theorem WA.pa {X : Cx} {es : List Expr} : PA X es (WA X es) := fun pos pins s σ H Q I h => by
  obtain ⟨t, h1, h2⟩ := h
  exact h1 pos pins s σ H Q I h2
def WS (X : Cx) (st : Stmt) : TS := fun D σ H => ∃ t, PS X st t ∧ t D σ H
theorem WS.ps {X : Cx} {st : Stmt} : PS X st (WS X st) := fun pins s σ H D I h => by
  obtain ⟨t, h1, h2⟩ := h
  exact h1 pins s σ H D I h2
def WSs (X : Cx) (sts : List Stmt) : TS := fun D σ H => ∃ t, PSs X sts t ∧ t D σ H
theorem WSs.pss {X : Cx} {sts : List Stmt} : PSs X sts (WSs X sts) := fun pins s σ H D I h => by
  obtain ⟨t, h1, h2⟩ := h
  exact h1 pins s σ H D I h2

/-- the place where a body stands: the names of its slots, its scope, the room for calls -/
structure Cxo (M : Mo) (N : List Str) (sc : Scope) (k : Nat) (X : Cx) : Prop where
  prog : X.prog = M.P
  w : X.w = M.w
  K : X.K = M.K
  mg : X.mg = M.mg
  base : X.base = M.base
  nd : N.Nodup
  N : X.N = N
  sc : X.env.scope = sc
  calm : X.calm = true
  room : Room k X.A
  own : PassesOwn (model X.prog X.w) X.A X.env X.xe

/-- a def of the program with its promise, by its name -/
structure Fn (M : Mo) (k : Nat) (x : Str) (sp : Sp) : Prop where
  ex : ∃ f fd ps, FnOk M.P M.w M.K M.mg M.base CX0 k f fd ps sp ∧ M.mg x = some (.ref f) ∧ PySem.W.keepIn M.K (.ref f) = true ∧ Binds M.K fd ps []
/-- a def as it stands in the text -/
structure Df (K : PySem.W.Frag) (mg : Str → Option Value) (x : Str) (st : Stmt) (ps : List Str) : Prop where
  ex : ∃ f fd, Fun K x x st f fd ∧ mg x = some (.ref f) ∧ Binds K fd ps []
theorem df_mk {K : PySem.W.Frag} {h : Heap} {mg : Str → Option Value} {x : Str} {st : Stmt} {ps : List Str} {f : Addr} {od an : Option Addr} {sl : Array (Option Value)} {oc kV dc pm cd ct : Value} (X : K.In h) (G : h.Ns mainGlobals mg)
    (a : PySem.W.nsIn K mainGlobals x = some (some (.ref f))) (l : K.lookup f = some ⟨oc, od, .func (PySem.W.fnOf x x (defArgs st) (defBody st) (defScope st) .none kV dc pm an cd ct), sl⟩) (c : PySem.W.codeIn K cd x = true) (k : PySem.W.keepIn K (.ref f) = true)
    (h : ∀ (kV doc pm : Value) (an : Option Addr) (cdv ct : Value) (us : List Value), us.length = ps.length → bindArgs (PySem.W.fnOf x x (defArgs st) (defBody st) (defScope st) .none kV doc pm an cdv ct) ⟨us, []⟩ = pure (ps.zip us)) : Df K mg x st ps :=
  have F := fun_mk (st := st) l c k
  ⟨f, _, F, PySem.W.mg_of X G a, F.binds h⟩
theorem const_mk {K : PySem.W.Frag} {h : Heap} {mg : Str → Option Value} {x : Str} {z : Int} {t : Tok} (X : K.In h) (G : h.Ns mainGlobals mg) (a : PySem.W.nsIn K mainGlobals x = some (some (.int z t))) : ∃ t, mg x = some (.int z t) := ⟨t, PySem.W.mg_of X G a⟩
theorem fun_ok {M : Mo} {x : Str} {st : Stmt} {f : Addr} {fd : FuncData} {ps N : List Str} {k : Nat} {sp : Sp} (F : Fun M.K x x st f fd) (S : FnScope N ps (defScope st)) (len : ∀ vs H Q E, sp vs H Q E → vs.length = ps.length)
    (body : ∀ (X : Cx) (H : Hp) (vs : List V) (Q : VK) (E : XK), Cxo M N (defScope st) k X → sp vs H Q E → WSs X (defBody st) { nx := fun _ H' => Q .non H', rt := Q } (start N vs) H) : FnOk M.P M.w M.K M.mg M.base CX0 (k + 1) f fd ps sp := by
  refine F.ok S len (fun cdv A outer s H vs Q E hr h => ?_)
  exact ⟨_, WSs.pss, body _ H vs Q E ⟨rfl, rfl, rfl, rfl, rfl, S.nd, rfl, rfl, rfl, hr, PassesOwn.never⟩ h⟩
theorem Df.fn {M : Mo} {x : Str} {st : Stmt} {ps N : List Str} {k : Nat} {sp : Sp} (D : Df M.K M.mg x st ps) (S : FnScope N ps (defScope st)) (len : ∀ vs H Q E, sp vs H Q E → vs.length = ps.length)
    (body : ∀ (X : Cx) (H : Hp) (vs : List V) (Q : VK) (E : XK), Cxo M N (defScope st) k X → sp vs H Q E → WSs X (defBody st) { nx := fun _ H' => Q .non H', rt := Q } (start N vs) H) : Fn M (k + 1) x sp := by
  obtain ⟨f, fd, F, hm, hb⟩ := D.ex
  exact ⟨f, fd, ps, fun_ok F S len body, hm, F.kp, hb⟩

section
variable {X : Cx} {M : Mo} {N : List Str} {sc : Scope} {k : Nat} {σ : L2.St} {H : Hp}

def VE (X : Cx) (σ : L2.St) (H : Hp) (e : Expr) (v : V) : Prop := ∀ Q : VK, Q v H → WE X e σ H Q
def VT (X : Cx) (σ : L2.St) (H : Hp) (e : Expr) (b : Bool) : Prop := ∀ Q : Bool → Hp → Prop, Q b H → WT X e σ H Q
def VW (X : Cx) (σ : L2.St) (H : Hp) (e : Expr) (b : Bool) : Prop := ∀ Q : Bool → Hp → Prop, Q b H → WW X e σ H Q
def VA (X : Cx) (σ : L2.St) (H : Hp) (es : List Expr) (vs : List V) : Prop := ∀ Q : List V → Hp → Prop, Q vs H → WA X es σ H Q

variable {a b e o : Expr} {es rest : List Expr} {pos p : Pos} {i j : Int} {x y v : V} {q r : Bool} {vs : List V}

theorem ve_var (c : Cxo M N sc k X) (n : Nat) {x : Str} {v : V} (hN : N[n]? = some x) (hv : Vis sc x) (hd : (x == ("__debug__" : Str)) = false) (hcd : (x == ("__classdict__" : Str)) = false) (h : σ[n]? = some (some v)) : VE X σ H (.Name x pos) v :=
  fun Q q => ⟨_, pe_var (by rw [c.N]; exact hN) (by rw [c.sc]; exact hv) hd hcd, v, h, q⟩
theorem gl_of (c : Cxo M N sc k X) {x : Str} (hg : sc.names.lookup x = some .globalImplicit) : Gl X x := by
  show X.env.scope.names.lookup x = some .globalImplicit
  rw [c.sc]
  exact hg
theorem ve_glob (c : Cxo M N sc k X) {x : Str} {z : Int} (hg : sc.names.lookup x = some .globalImplicit) (hd : (x == ("__debug__" : Str)) = false) (h : ∃ t, M.mg x = some (.int z t)) : VE X σ H (.Name x pos) (.int z) := fun Q q => by
  obtain ⟨t, h⟩ := h
  exact ⟨_, pe_glob (v := .int z) (gl_of c hg) (by rw [c.mg]; exact h) ⟨t, rfl⟩ hd, q⟩
theorem ve_int {n : Nat} : VE X σ H (.Constant (.int i) n pos) (.int i) := fun Q q => ⟨_, pe_int, q⟩
theorem ve_bl {n : Nat} : VE X σ H (.Constant (.bool q) n pos) (.bl q) := fun Q q => ⟨_, pe_bl, q⟩
theorem ve_non {n : Nat} : VE X σ H (.Constant .none n pos) .non := fun Q q => ⟨_, pe_non, q⟩

theorem ve_op {op : Operator} {rr : R2} (ho : OpR X (binaryOp op) rr) (ha : VE X σ H a x) (hb : VE X σ H b y) (hr : ∀ Q : VK, Q v H → rr x y H Q) : VE X σ H (.BinOp a op b pos) v :=
  fun Q q => ⟨_, pe_op ho WE.pe WE.pe, ha _ (hb _ (hr Q q))⟩
theorem ve_add (ha : VE X σ H a (.int i)) (hb : VE X σ H b (.int j)) : VE X σ H (.BinOp a .Add b pos) (.int (i + j)) := ve_op op_add ha hb fun _ q => ⟨_, _, rfl, rfl, q⟩
theorem ve_sub (ha : VE X σ H a (.int i)) (hb : VE X σ H b (.int j)) : VE X σ H (.BinOp a .Sub b pos) (.int (i - j)) := ve_op op_sub ha hb fun _ q => ⟨_, _, rfl, rfl, q⟩
theorem ve_mul (ha : VE X σ H a (.int i)) (hb : VE X σ H b (.int j)) (hc : CMul i j) : VE X σ H (.BinOp a .Mult b pos) (.int (i * j)) := ve_op op_mul ha hb fun _ q => ⟨_, _, rfl, rfl, hc, q⟩
theorem ve_and (ha : VE X σ H a (.int i)) (hb : VE X σ H b (.int j)) : VE X σ H (.BinOp a .BitAnd b pos) (.int (Builtin.bitAnd i j)) := ve_op op_and ha hb fun _ q => ⟨_, _, rfl, rfl, q⟩
theorem ve_or (ha : VE X σ H a (.int i)) (hb : VE X σ H b (.int j)) : VE X σ H (.BinOp a .BitOr b pos) (.int (Builtin.bitOr i j)) := ve_op op_or ha hb fun _ q => ⟨_, _, rfl, rfl, q⟩
theorem ve_xor (ha : VE X σ H a (.int i)) (hb : VE X σ H b (.int j)) : VE X σ H (.BinOp a .BitXor b pos) (.int (Builtin.bitXor i j)) := ve_op op_xor ha hb fun _ q => ⟨_, _, rfl, rfl, q⟩
theorem ve_shr (ha : VE X σ H a (.int i)) (hb : VE X σ H b (.int j)) (hc : 0 ≤ j) : VE X σ H (.BinOp a .RShift b pos) (.int (i / 2 ^ j.toNat)) := ve_op op_shr ha hb fun _ q => ⟨_, _, rfl, rfl, hc, q⟩
/-- shifts of numbers up to a thousand bits -/
def CShl (i j : Int) : Prop := 0 ≤ j ∧ j ≤ 3000 ∧ i.natAbs < 2 ^ 3000
theorem bits_lt {i : Int} {n : Nat} (h : i.natAbs < 2 ^ n) : (Builtin.Int.intBits i : Int) ≤ n := by
  have : Builtin.Int.intBits i ≤ n := by
    unfold Builtin.Int.intBits
    by_cases h0 : i = 0
    · rw [if_pos (by simpa using h0)]
      exact Nat.zero_le _
    · rw [if_neg (by simpa using h0)]
      exact (Nat.log2_lt (by omega)).mpr h
  omega
theorem op_shlB : OpR X (binaryOp .LShift) (rI CShl fun i j => .int (i * 2 ^ j.toNat)) := opI fun i j _ _ _ _ _ hc q => by
  have h1 := bits_lt hc.2.2
  have h2 := hc.2.1
  have h3 : ((3000 : Nat) : Int) = 3000 := rfl
  exact lshift_int hc.1 (by rw [h3] at h1; have : (2 : Int) ^ 27 = 134217728 := by decide
                            rw [this]; omega) q
theorem ve_shl (ha : VE X σ H a (.int i)) (hb : VE X σ H b (.int j)) (hc : CShl i j) : VE X σ H (.BinOp a .LShift b pos) (.int (i * 2 ^ j.toNat)) := ve_op op_shlB ha hb fun _ q => ⟨_, _, rfl, rfl, hc, q⟩
/-- // by a positive number up to a thousand bits -/
def CFd (j : Int) : Prop := 0 < j ∧ j < 2 ^ 1000
theorem op_fdB : OpR X (binaryOp .FloorDiv) (rI (fun _ j => CFd j) fun i j => .int (i / j)) := opI fun i j _ _ _ _ _ hc q => by
  have h1 : (0 : Int) < j := hc.1
  refine floordiv_int (by omega) (by rw [Int.fdiv_eq_ediv_of_nonneg i (by omega)]; exact q) (.inl (PyProof.noPylong_of_log2 ?_))
  have h2 : j.natAbs < 2 ^ 1000 := by
    have := hc.2
    have e : (2 : Int) ^ 1000 = ((2 ^ 1000 : Nat) : Int) := (Int.natCast_pow 2 1000).symm
    rw [e] at this
    omega
  exact Nat.lt_of_lt_of_le ((Nat.log2_lt (by omega)).mpr h2) (by decide)
theorem ve_fdiv (ha : VE X σ H a (.int i)) (hb : VE X σ H b (.int j)) (hc : CFd j) : VE X σ H (.BinOp a .FloorDiv b pos) (.int (i / j)) := ve_op op_fdB ha hb fun _ q => ⟨_, _, rfl, rfl, hc, q⟩
theorem ve_neg (ha : VE X σ H a (.int i)) : VE X σ H (.UnaryOp .USub a pos) (.int (-i)) := fun Q q => ⟨_, pe_un un_neg WE.pe, ha _ ⟨i, rfl, q⟩⟩

/-! comparisons as values and as tests -/
theorem ve_cmp {op : CmpOp} {rr : R2} (ho : OpR X (compareOp op) rr) (ha : VE X σ H a x) (hb : VE X σ H b y) (hm : behindInMarks op b = false) (hr : ∀ Q : VK, Q v H → rr x y H Q) : VE X σ H (.Compare a [op] [b] pos) v :=
  fun Q q => ⟨_, pe_cmpR ho WE.pe WE.pe hm, ha _ (hb _ (hr Q q))⟩
theorem ve_lt (ha : VE X σ H a (.int i)) (hb : VE X σ H b (.int j)) : VE X σ H (.Compare a [.Lt] [b] pos) (.bl (decide (i < j))) := ve_cmp op_lt ha hb (nobehind _ (by decide) (by decide)) fun _ q => ⟨_, _, rfl, rfl, q⟩
theorem ve_le (ha : VE X σ H a (.int i)) (hb : VE X σ H b (.int j)) : VE X σ H (.Compare a [.LtE] [b] pos) (.bl (decide (i ≤ j))) := ve_cmp op_le ha hb (nobehind _ (by decide) (by decide)) fun _ q => ⟨_, _, rfl, rfl, q⟩
theorem ve_gt (ha : VE X σ H a (.int i)) (hb : VE X σ H b (.int j)) : VE X σ H (.Compare a [.Gt] [b] pos) (.bl (decide (j < i))) := ve_cmp op_gt ha hb (nobehind _ (by decide) (by decide)) fun _ q => ⟨_, _, rfl, rfl, q⟩
theorem ve_ge (ha : VE X σ H a (.int i)) (hb : VE X σ H b (.int j)) : VE X σ H (.Compare a [.GtE] [b] pos) (.bl (decide (j ≤ i))) := ve_cmp op_ge ha hb (nobehind _ (by decide) (by decide)) fun _ q => ⟨_, _, rfl, rfl, q⟩
theorem ve_eqI (ha : VE X σ H a (.int i)) (hb : VE X σ H b (.int j)) : VE X σ H (.Compare a [.Eq] [b] pos) (.bl (decide (i = j))) :=
  fun Q q => ⟨_, pe_cmp (pc_eqI WE.pe WE.pe) (nobehind _ (by decide) (by decide)), ha _ (hb _ ⟨_, _, rfl, rfl, q⟩)⟩
theorem ve_neI (ha : VE X σ H a (.int i)) (hb : VE X σ H b (.int j)) : VE X σ H (.Compare a [.NotEq] [b] pos) (.bl (!decide (i = j))) :=
  fun Q q => ⟨_, pe_cmp (pc_neI WE.pe WE.pe) (nobehind _ (by decide) (by decide)), ha _ (hb _ ⟨_, _, rfl, rfl, q⟩)⟩
theorem ve_eqB (ha : VE X σ H a (.bl q)) (hb : VE X σ H b (.bl r)) : VE X σ H (.Compare a [.Eq] [b] pos) (.bl (q == r)) :=
  ve_cmp op_eq ha hb (nobehind _ (by decide) (by decide)) fun Q h => ⟨rfl, by rw [dec_bl]; exact h⟩
theorem ve_neB (ha : VE X σ H a (.bl q)) (hb : VE X σ H b (.bl r)) : VE X σ H (.Compare a [.NotEq] [b] pos) (.bl (q != r)) :=
  ve_cmp op_ne ha hb (nobehind _ (by decide) (by decide)) fun Q h => ⟨rfl, by rw [dec_bl]; exact h⟩
/-- a comparison whose value is a bool, as a test -/
theorem vt_cmpV {op : CmpOp} {rr : R2} (ho : OpR X (compareOp op) rr) (ha : VE X σ H a x) (hb : VE X σ H b y) (hm : behindInMarks op b = false) (hr : ∀ Q : VK, Q (.bl q) H → rr x y H Q) : VT X σ H (.Compare a [op] [b] pos) q :=
  fun Q h => ⟨_, pt_cmpR ho WE.pe WE.pe hm, ha _ (hb _ (hr _ ⟨q, rfl, h⟩))⟩
theorem vt_lt (ha : VE X σ H a (.int i)) (hb : VE X σ H b (.int j)) : VT X σ H (.Compare a [.Lt] [b] pos) (decide (i < j)) := vt_cmpV op_lt ha hb (nobehind _ (by decide) (by decide)) fun _ q => ⟨_, _, rfl, rfl, q⟩
theorem vt_le (ha : VE X σ H a (.int i)) (hb : VE X σ H b (.int j)) : VT X σ H (.Compare a [.LtE] [b] pos) (decide (i ≤ j)) := vt_cmpV op_le ha hb (nobehind _ (by decide) (by decide)) fun _ q => ⟨_, _, rfl, rfl, q⟩
theorem vt_gt (ha : VE X σ H a (.int i)) (hb : VE X σ H b (.int j)) : VT X σ H (.Compare a [.Gt] [b] pos) (decide (j < i)) := vt_cmpV op_gt ha hb (nobehind _ (by decide) (by decide)) fun _ q => ⟨_, _, rfl, rfl, q⟩
theorem vt_ge (ha : VE X σ H a (.int i)) (hb : VE X σ H b (.int j)) : VT X σ H (.Compare a [.GtE] [b] pos) (decide (j ≤ i)) := vt_cmpV op_ge ha hb (nobehind _ (by decide) (by decide)) fun _ q => ⟨_, _, rfl, rfl, q⟩
theorem vt_eqI (ha : VE X σ H a (.int i)) (hb : VE X σ H b (.int j)) : VT X σ H (.Compare a [.Eq] [b] pos) (decide (i = j)) :=
  fun Q q => ⟨_, pt_cmp (pc_eqI WE.pe WE.pe) (nobehind _ (by decide) (by decide)), ha _ (hb _ ⟨_, _, rfl, rfl, _, rfl, q⟩)⟩
theorem vt_neI (ha : VE X σ H a (.int i)) (hb : VE X σ H b (.int j)) : VT X σ H (.Compare a [.NotEq] [b] pos) (!decide (i = j)) :=
  fun Q q => ⟨_, pt_cmp (pc_neI WE.pe WE.pe) (nobehind _ (by decide) (by decide)), ha _ (hb _ ⟨_, _, rfl, rfl, _, rfl, q⟩)⟩
theorem vt_eqB (ha : VE X σ H a (.bl q)) (hb : VE X σ H b (.bl r)) : VT X σ H (.Compare a [.Eq] [b] pos) (q == r) :=
  vt_cmpV op_eq ha hb (nobehind _ (by decide) (by decide)) fun Q h => ⟨rfl, by rw [dec_bl]; exact h⟩
theorem vt_neB (ha : VE X σ H a (.bl q)) (hb : VE X σ H b (.bl r)) : VT X σ H (.Compare a [.NotEq] [b] pos) (q != r) :=
  vt_cmpV op_ne ha hb (nobehind _ (by decide) (by decide)) fun Q h => ⟨rfl, by rw [dec_bl]; exact h⟩
/-- any other expression whose value is a bool -/
theorem vt_val (h : VE X σ H e (.bl q)) (he : ∀ env whole, isTrue e env whole = (do let v ← whole; standAt e.pos; holding [v] (truthy v))) : VT X σ H e q :=
  fun Q z => ⟨_, pt_val WE.pe (he _), h _ ⟨q, rfl, z⟩⟩

/-! and, or, not, if -/
theorem vw_and1 (ha : VT X σ H a q) : VW X σ H (.BoolOp .And [a] pos) q := fun Q z => ⟨_, pw_and1 WT.pt, ha _ z⟩
theorem vw_or1 (ha : VT X σ H a q) : VW X σ H (.BoolOp .Or [a] pos) q := fun Q z => ⟨_, pw_or1 WT.pt, ha _ z⟩
theorem vw_and (ha : VT X σ H a q) (hb : q = true → VW X σ H (.BoolOp .And (b :: rest) pos) r) : VW X σ H (.BoolOp .And (a :: b :: rest) pos) (q && r) := fun Q z => by
  refine ⟨_, pw_and WT.pt WW.pw, ha _ ?_⟩
  cases q with
  | true => exact hb rfl _ z
  | false => exact z
theorem vw_or (ha : VT X σ H a q) (hb : q = false → VW X σ H (.BoolOp .Or (b :: rest) pos) r) : VW X σ H (.BoolOp .Or (a :: b :: rest) pos) (q || r) := fun Q z => by
  refine ⟨_, pw_or WT.pt WW.pw, ha _ ?_⟩
  cases q with
  | true => exact z
  | false => exact hb rfl _ z
theorem vt_w (h : VW X σ H e q) : VT X σ H e q := fun Q z => ⟨_, WW.pw.pt, h _ z⟩
theorem vt_not (ha : VT X σ H a q) : VT X σ H (.UnaryOp .Not a pos) (!q) := fun Q z => ⟨_, pt_not WT.pt, ha _ z⟩
theorem ve_one {op : BoolOp} (h : VE X σ H a v) : VE X σ H (.BoolOp op [a] pos) v := fun Q z => ⟨_, pe_one WE.pe, h _ z⟩
theorem ve_andV (ha : VE X σ H a (.bl q)) (hb : q = true → VE X σ H (.BoolOp .And (b :: rest) pos) (.bl r)) : VE X σ H (.BoolOp .And (a :: b :: rest) pos) (.bl (q && r)) := fun Q z => by
  refine ⟨_, pe_and WE.pe WE.pe, ha _ ⟨q, rfl, ?_⟩⟩
  cases q with
  | true => exact hb rfl _ z
  | false => exact z
theorem ve_orV (ha : VE X σ H a (.bl q)) (hb : q = false → VE X σ H (.BoolOp .Or (b :: rest) pos) (.bl r)) : VE X σ H (.BoolOp .Or (a :: b :: rest) pos) (.bl (q || r)) := fun Q z => by
  refine ⟨_, pe_or WE.pe WE.pe, ha _ ⟨q, rfl, ?_⟩⟩
  cases q with
  | true => exact z
  | false => exact hb rfl _ z
theorem ve_not (ha : VE X σ H a (.bl q)) : VE X σ H (.UnaryOp .Not a pos) (.bl (!q)) := fun Q z => ⟨_, pe_not WE.pe, ha _ ⟨q, rfl, z⟩⟩
theorem ve_ifI {t : Expr} (ht : VT X σ H t q) (ha : q = true → VE X σ H a (.int i)) (hb : q = false → VE X σ H b (.int j)) : VE X σ H (.IfExp t a b pos) (.int (bif q then i else j)) := fun Q z => by
  refine ⟨_, pe_ifExp WT.pt WE.pe WE.pe, ht _ ?_⟩
  cases q with
  | true => exact ha rfl _ z
  | false => exact hb rfl _ z
theorem ve_ifB {t : Expr} {l m : Bool} (ht : VT X σ H t q) (ha : q = true → VE X σ H a (.bl l)) (hb : q = false → VE X σ H b (.bl m)) : VE X σ H (.IfExp t a b pos) (.bl (bif q then l else m)) := fun Q z => by
  refine ⟨_, pe_ifExp WT.pt WE.pe WE.pe, ht _ ?_⟩
  cases q with
  | true => exact ha rfl _ z
  | false => exact hb rfl _ z

/-! argument lists -/
def notStar : Expr → Bool
  | .Starred _ _ => false
  | _ => true
theorem star_cons (h : notStar e = true) (es : List Expr) (env : Env) : starEach (e :: es) env = (false, eval e env) :: starEach es env := by
  cases e <;> first | rfl | cases h
theorem star_all : ∀ (es : List Expr) (pos : Pos) (env : Env), es.all notStar = true → (backTo pos (starEach es env)).any (·.1) = false
  | [], _, _, _ => rfl
  | e :: es, pos, env, h => by
    rw [List.all_cons, Bool.and_eq_true] at h
    rw [star_cons h.1]
    show (false || (backTo pos (starEach es env)).any (·.1)) = false
    rw [star_all es pos env h.2]
    rfl
theorem va_nil : VA X σ H [] [] := fun Q z => ⟨_, pa_nil, z⟩
theorem va_cons (hs : notStar e = true) (h : VE X σ H e v) (hr : VA X σ H es vs) : VA X σ H (e :: es) (v :: vs) :=
  fun Q z => ⟨_, pa_cons WE.pe WA.pa (star_cons hs _ _), h _ (hr _ z)⟩

/-! calls of the program's own defs -/
theorem we_call {x : Str} {sp : Sp} {n : Nat} {Q : VK} (c : Cxo M N sc k X) (F : Fn M n x sp) (hn : n ≤ k) (hg : sc.names.lookup x = some .globalImplicit) (hd : (x == ("__debug__" : Str)) = false) (hs : (e :: es).all notStar = true)
    (ha : WA X (e :: es) σ H fun vs H1 => sp vs H1 Q E0) : WE X (.Call (.Name x p) (e :: es) [] pos) σ H Q := by
  obtain ⟨f, fd, ps, F, hm, hk, hb⟩ := F.ex
  rw [List.all_cons, Bool.and_eq_true] at hs
  refine ⟨_, pe_call (X := X) (CX := CX0) (E := E0) (ds := []) (dvs := []) (t := WA X (e :: es)) (ps := ps) (fd := fd) (sp := sp) (f := f) (k := n) ?_ (c.room.mono hn) (gl_of c hg) ?_ ?_ ?_ .nil pass0 WA.pa hd (star_cons hs.1 _ _) (star_all _ _ _ hs.2), ?_⟩
  · rw [c.prog, c.w, c.K, c.mg, c.base]
    exact F
  · rw [c.mg]
    exact hm
  · rw [c.K]
    exact hk
  · rw [c.K]
    exact hb
  · obtain ⟨t, h1, h2⟩ := ha
    refine ⟨t, h1, ?_⟩
    have e : (fun vs H1 => sp (vs ++ []) H1 Q E0) = fun vs H1 => sp vs H1 Q E0 := by
      funext vs H1
      rw [List.append_nil]
    show t σ H fun vs H1 => sp (vs ++ []) H1 Q E0
    rw [e]
    exact h2
theorem we_call0 {x : Str} {sp : Sp} {n : Nat} {Q : VK} (c : Cxo M N sc k X) (F : Fn M n x sp) (hn : n ≤ k) (hg : sc.names.lookup x = some .globalImplicit) (hd : (x == ("__debug__" : Str)) = false)
    (ha : sp [] H Q E0) : WE X (.Call (.Name x p) [] [] pos) σ H Q := by
  obtain ⟨f, fd, ps, F, hm, hk, hb⟩ := F.ex
  refine ⟨_, pe_call0 (X := X) (CX := CX0) (E := E0) (ds := []) (dvs := []) (ps := ps) (fd := fd) (sp := sp) (f := f) (k := n) ?_ (c.room.mono hn) (gl_of c hg) ?_ ?_ ?_ .nil pass0 hd, ?_⟩
  · rw [c.prog, c.w, c.K, c.mg, c.base]
    exact F
  · rw [c.mg]
    exact hm
  · rw [c.K]
    exact hk
  · rw [c.K]
    exact hb
  · exact ha
/-- a def that only works a value out: den says which, and for which arguments -/
def spP (den : List V → V → Prop) : Sp := fun vs H Q _ => ∃ v, den vs v ∧ Q v H
theorem ve_call {x : Str} {den : List V → V → Prop} {n : Nat} (c : Cxo M N sc k X) (F : Fn M n x (spP den)) (hn : n ≤ k) (hg : sc.names.lookup x = some .globalImplicit) (hd : (x == ("__debug__" : Str)) = false) (hs : (e :: es).all notStar = true)
    (ha : VA X σ H (e :: es) vs) (h : den vs v) : VE X σ H (.Call (.Name x p) (e :: es) [] pos) v :=
  fun Q q => we_call c F hn hg hd hs (ha _ ⟨v, h, q⟩)
/-! builtins -/
theorem ve_callB {x : Str} {id : String} {r : List V → Hp → VK → Prop} (c : Cxo M N sc k X) (hc : CallR X (.builtin id) r) (hg : sc.names.lookup x = some .globalImplicit) (hm : M.mg x = none) (hv : bootBuiltins x = some (.builtin id)) (hn : x ≠ "__name__") (hd : (x == ("__debug__" : Str)) = false) (hs : (e :: es).all notStar = true)
    (ha : VA X σ H (e :: es) vs) (h : ∀ Q : VK, Q v H → r vs H Q) : VE X σ H (.Call (.Name x p) (e :: es) [] pos) v := fun Q q => by
  rw [List.all_cons, Bool.and_eq_true] at hs
  exact ⟨_, pe_callB hc (gl_of c hg) (by rw [c.mg]; exact hm) hv WA.pa hn hd (star_cons hs.1 _ _) (star_all _ _ _ hs.2), ha _ (h _ q)⟩
theorem ve_abs (c : Cxo M N sc k X) (hg : sc.names.lookup ("abs" : Str) = some .globalImplicit) (hm : M.mg "abs" = none) (hs : ([e] : List Expr).all notStar = true) (ha : VE X σ H e (.int i)) : VE X σ H (.Call (.Name "abs" p) [e] [] pos) (.int (if i < 0 then -i else i)) :=
  ve_callB c call_abs hg hm boot_abs (by decide) (by decide) hs (va_cons (by simpa using hs) ha va_nil) fun Q q => ⟨i, rfl, q⟩
theorem ve_max (c : Cxo M N sc k X) (hg : sc.names.lookup ("max" : Str) = some .globalImplicit) (hm : M.mg "max" = none) (hs : ([a, b] : List Expr).all notStar = true) (ha : VE X σ H a (.int i)) (hb : VE X σ H b (.int j)) : VE X σ H (.Call (.Name "max" p) [a, b] [] pos) (.int (if j > i then j else i)) := by
  have hs' := hs
  rw [List.all_cons, Bool.and_eq_true] at hs'
  exact ve_callB c (call_max2 c.calm) hg hm boot_max (by decide) (by decide) hs (va_cons hs'.1 ha (va_cons (by simpa using hs'.2) hb va_nil)) fun Q q => ⟨i, j, rfl, q⟩
theorem ve_min (c : Cxo M N sc k X) (hg : sc.names.lookup ("min" : Str) = some .globalImplicit) (hm : M.mg "min" = none) (hs : ([a, b] : List Expr).all notStar = true) (ha : VE X σ H a (.int i)) (hb : VE X σ H b (.int j)) : VE X σ H (.Call (.Name "min" p) [a, b] [] pos) (.int (if j < i then j else i)) := by
  have hs' := hs
  rw [List.all_cons, Bool.and_eq_true] at hs'
  exact ve_callB c (call_min2 c.calm) hg hm boot_min (by decide) (by decide) hs (va_cons hs'.1 ha (va_cons (by simpa using hs'.2) hb va_nil)) fun Q q => ⟨i, j, rfl, q⟩
theorem mt_bitlen : MtR X "int.bit_length" (fun x xs H Q => ∃ i : Int, x = .int i ∧ xs = [] ∧ Q (.int (Builtin.Int.intBits i : Nat)) H) := by
  intro pins s σ H x xs v us Q I rx rs h
  obtain ⟨i, rfl, rfl, q⟩ := h
  obtain ⟨t, rfl⟩ := rx
  cases rs
  exact call_int_bit_length ⟨.int (Builtin.Int.intBits i : Nat), H, I.tok _, ⟨_, rfl⟩, q⟩
theorem ve_bitlen {ap cp : Pos} (ho : VE X σ H o (.int i)) (hbase : ∀ env, attributeBase o "bit_length" env (eval o env) = eval o env) (hline : (ap.endLine == cp.line) = true) : VE X σ H (.Call (.Attribute o "bit_length" ap) [] [] cp) (.int (Builtin.Int.intBits i : Nat)) :=
  fun Q q => ⟨_, pe_bm0 (T := "int") PySem.F.plainAttrs_int slot_int_bit_length type_int_bit_length mt_bitlen WE.pe (hbase _) hline, ho _ ⟨rfl, i, rfl, rfl, q⟩⟩
/-- an item of a list, of a tuple -/
theorem ve_ixL {l : Addr} {xs : List V} (ho : VE X σ H o (.ref l)) (hi : VE X σ H e (.int i)) (hs : PlainIx e) (hl : SqL X.K H l xs) (hv : atI xs i = some v) : VE X σ H (.Subscript o e pos) v :=
  fun Q q => ⟨_, pe_ix ix_list WE.pe WE.pe hs, ho _ (hi _ ⟨l, xs, i, v, rfl, rfl, hl, hv, q⟩)⟩

/-! ### blocks that hand a value back and leave the heap as it is -/
def Rp (X : Cx) (σ : L2.St) (H : Hp) (sts : List Stmt) (v : V) : Prop := ∀ D : Ends, D.rt v H → WSs X sts D σ H
variable {sts body : List Stmt} {sp' : Pos}
theorem rp_ret (h : VE X σ H e v) : Rp X σ H [.Return (some e) pos] v := fun D z => ⟨_, pss_one (ps_ret WE.pe), h _ z⟩
theorem rp_ifI {t : Expr} (ht : VT X σ H t q) (ha : q = true → Rp X σ H body (.int i)) (hb : q = false → Rp X σ H sts (.int j)) : Rp X σ H (.If t body [] pos :: sts) (.int (bif q then i else j)) := fun D z => by
  refine ⟨_, pss_cons (ps_if WT.pt WSs.pss pss_nil) WSs.pss, ht _ ?_⟩
  cases q with
  | true => exact ha rfl _ z
  | false => exact hb rfl _ z
theorem rp_ifB {t : Expr} {l m : Bool} (ht : VT X σ H t q) (ha : q = true → Rp X σ H body (.bl l)) (hb : q = false → Rp X σ H sts (.bl m)) : Rp X σ H (.If t body [] pos :: sts) (.bl (bif q then l else m)) := fun D z => by
  refine ⟨_, pss_cons (ps_if WT.pt WSs.pss pss_nil) WSs.pss, ht _ ?_⟩
  cases q with
  | true => exact ha rfl _ z
  | false => exact hb rfl _ z
theorem ws_set {x : Str} {D : Ends} (c : Cxo M N sc k X) (n : Nat) (hN : N[n]? = some x) (hl : sc.names.lookup x = some .local) (hw : ∀ env, swapsWith e (some (.Name x p)) pos.line env = pure false) (h : WE X e σ H fun v H1 => D.nx (σ.set n (some v)) H1) : WS X (.Assign [.Name x p] e pos) D σ H :=
  ⟨_, ps_set (i := n) (by rw [c.N]; exact c.nd) (by rw [c.N]; exact hN) (by rw [c.sc]; exact .inl hl) WE.pe (hw _) (.inr (by rw [c.sc]; exact hl)), h⟩
theorem rp_set {x : Str} (c : Cxo M N sc k X) (n : Nat) (hN : N[n]? = some x) (hl : sc.names.lookup x = some .local) (hw : ∀ env, swapsWith e (some (.Name x p)) pos.line env = pure false) (h : VE X σ H e v) {u : V} (hr : Rp X (σ.set n (some v)) H sts u) : Rp X σ H (.Assign [.Name x p] e pos :: sts) u :=
  fun D z => ⟨_, pss_cons WS.ps WSs.pss, ws_set c n hN hl hw (h _ (hr D z))⟩

/-! ### statements that come to their end, the heap as it is -/
def NS (X : Cx) (σ : L2.St) (H : Hp) (st : Stmt) (σ' : L2.St) : Prop := ∀ D : Ends, D.nx σ' H → WS X st D σ H
def Nx (X : Cx) (σ : L2.St) (H : Hp) (sts : List Stmt) (σ' : L2.St) : Prop := ∀ D : Ends, D.nx σ' H → WSs X sts D σ H
variable {st : Stmt} {σ1 σ' : L2.St}
theorem nx_nil : Nx X σ H [] σ := fun D z => ⟨_, pss_nil, z⟩
theorem nx_cons (h : NS X σ H st σ1) (hr : Nx X σ1 H sts σ') : Nx X σ H (st :: sts) σ' := fun D z => ⟨_, pss_cons WS.ps WSs.pss, h _ (hr D z)⟩
theorem rp_cons (h : NS X σ H st σ1) (hr : Rp X σ1 H sts v) : Rp X σ H (st :: sts) v := fun D z => ⟨_, pss_cons WS.ps WSs.pss, h _ (hr D z)⟩
theorem ns_set {x : Str} (c : Cxo M N sc k X) (n : Nat) (hN : N[n]? = some x) (hl : sc.names.lookup x = some .local) (hw : ∀ env, swapsWith e (some (.Name x p)) pos.line env = pure false) (h : VE X σ H e v) : NS X σ H (.Assign [.Name x p] e pos) (σ.set n (some v)) :=
  fun D z => ws_set c n hN hl hw (h _ z)
theorem ns_if {t : Expr} (ht : VT X σ H t q) (ha : q = true → Nx X σ H body σ1) (hb : q = false → σ = σ1) : NS X σ H (.If t body [] pos) σ1 := fun D z => by
  refine ⟨_, ps_if WT.pt WSs.pss pss_nil, ht _ ?_⟩
  cases q with
  | true => exact ha rfl _ z
  | false =>
    have e := hb rfl
    subst e
    exact z
theorem ns_ifI {t : Expr} {x : Str} {p2 : Pos} (c : Cxo M N sc k X) (n : Nat) (hN : N[n]? = some x) (hl : sc.names.lookup x = some .local) (hw : ∀ env, swapsWith e (some (.Name x p)) pos.line env = pure false) (ht : VT X σ H t q) (h : q = true → VE X σ H e (.int i)) (hj : σ.set n (some (.int j)) = σ) :
    NS X σ H (.If t [.Assign [.Name x p] e pos] [] p2) (σ.set n (some (.int (bif q then i else j)))) := by
  refine ns_if ht (fun e => ?_) (fun e => ?_)
  · subst e
    exact nx_cons (ns_set c n hN hl hw (h rfl)) nx_nil
  · subst e
    exact hj.symm
theorem ns_ifB {t : Expr} {x : Str} {p2 : Pos} {l m : Bool} (c : Cxo M N sc k X) (n : Nat) (hN : N[n]? = some x) (hl : sc.names.lookup x = some .local) (hw : ∀ env, swapsWith e (some (.Name x p)) pos.line env = pure false) (ht : VT X σ H t q) (h : q = true → VE X σ H e (.bl l)) (hj : σ.set n (some (.bl m)) = σ) :
    NS X σ H (.If t [.Assign [.Name x p] e pos] [] p2) (σ.set n (some (.bl (bif q then l else m)))) := by
  refine ns_if ht (fun e => ?_) (fun e => ?_)
  · subst e
    exact nx_cons (ns_set c n hN hl hw (h rfl)) nx_nil
  · subst e
    exact hj.symm
/-- for x in range(e): S i is the state behind i turns (the loop's name holds whatever) -/
theorem ws_forRange {x : Str} {D : Ends} {m : Nat} (c : Cxo M N sc k X) (n : Nat) (hN : N[n]? = some x) (hl : sc.names.lookup x = some .local) (hg : sc.names.lookup ("range" : Str) = some .globalImplicit) (hm : M.mg "range" = none) (hs : notStar e = true)
    (hf : ∀ env x, foldedSetIterable (.Call (.Name "range" p) [e] [] pos) env x = pure x) (he : VE X σ H e (.int m)) (hm62 : m < 1000000) (S : Nat → L2.St → Hp → Prop) (h0 : S 0 σ H)
    (step : ∀ i τ H, i < m → S i τ H → WSs X body { D with nx := S (i + 1), ct := S (i + 1), bk := D.nx } (τ.set n (some (.int i))) H) (hd : ∀ τ H, S m τ H → D.nx τ H) {tp : Pos} : WS X (.For (.Name x tp) (.Call (.Name "range" p) [e] [] pos) body [] sp') D σ H := by
  refine ⟨_, ps_for c.own c.calm (pi_range1 (gl_of c hg) (by rw [c.mg]; exact hm) WA.pa (star_cons hs _ _)) (pg_name (i := n) (by rw [c.N]; exact c.nd) (by rw [c.N]; exact hN) (by rw [c.sc]; exact .inl hl) (.inr (by rw [c.sc]; exact hl))) WSs.pss (hf _), ?_⟩
  refine va_cons hs he va_nil _ ⟨(m : Int), rfl, by omega, by omega, ?_⟩
  have e1 : (m : Int).toNat = m := Int.toNat_natCast m
  rw [e1]
  refine for_range (n := m) S h0 (fun i τ H hi hS => ?_) hd
  have e2 : (0 : Int) + (i : Int) = i := by omega
  show WSs X body _ (τ.set n (some (.int (0 + (i : Int))))) H
  rw [e2]
  exact step i τ H hi hS
/-- .. the heap as it is -/
theorem rp_forRange {x : Str} {m : Nat} (c : Cxo M N sc k X) (n : Nat) (hN : N[n]? = some x) (hl : sc.names.lookup x = some .local) (hg : sc.names.lookup ("range" : Str) = some .globalImplicit) (hm : M.mg "range" = none) (hs : notStar e = true)
    (hf : ∀ env x, foldedSetIterable (.Call (.Name "range" p) [e] [] pos) env x = pure x) (he : VE X σ H e (.int m)) (hm62 : m < 1000000) (S : Nat → Option V → L2.St) (v0 : Option V) (h0 : σ = S 0 v0)
    (step : ∀ i u, i < m → Nx X ((S i u).set n (some (.int i))) H body (S (i + 1) (some (.int i)))) {tp : Pos} {D : Ends} (hr : ∀ u, WSs X sts D (S m u) H) : WSs X (.For (.Name x tp) (.Call (.Name "range" p) [e] [] pos) body [] sp' :: sts) D σ H := by
  refine ⟨_, pss_cons WS.ps WSs.pss, ws_forRange c n hN hl hg hm hs hf he hm62 (fun i τ H' => H' = H ∧ ∃ u, τ = S i u) ⟨rfl, v0, h0⟩ (fun i τ H' hi h => ?_) (fun τ H' h => ?_)⟩
  · obtain ⟨rfl, u, rfl⟩ := h
    exact step i u hi _ ⟨rfl, _, rfl⟩
  · obtain ⟨rfl, u, rfl⟩ := h
    exact hr u

theorem at_int {l : List Int} {n i : Nat} (hl : l.length = n) (hi : i < n) : atI (l.map V.int) (i : Int) = some (V.int (l.getD i 0)) := by
  refine atI_nat ?_
  rw [List.getElem?_map, List.getElem?_eq_getElem (by omega), List.getD_eq_getElem?_getD, List.getElem?_eq_getElem (by omega)]
  rfl
theorem one_lt_1000 : (1 : Int).natAbs < 2 ^ 3000 := by decide +kernel

/-! ### results that stand on the heap -/
abbrev RR (α : Type) := α → V → Hp → Prop
def RI : RR Int := fun z v _ => v = .int z
def RB : RR Bool := fun z v _ => v = .bl z
def RT : RR (Int × Int) := fun r v H => ∃ t, v = .ref t ∧ H t = some (.tup [.int r.1, .int r.2])
def RO : RR (Option (Int × Int)) := fun o v H => match o with
  | none => v = .non
  | some r => RT r v H
/-- a list of ints -/
def RL : RR (List Int) := fun l v H => ∃ t, v = .ref t ∧ H t = some (.lst (l.map V.int))
theorem RT.same {r : Int × Int} {v : V} {H H' : Hp} (s : Same H H') (h : RT r v H) : RT r v H' := by
  obtain ⟨t, e, h⟩ := h
  exact ⟨t, e, s _ _ h⟩
theorem same_new {H : Hp} {l : Addr} {u : HO} (h : H l = Option.none) : Same H (upd H l u) := fun b o e => by
  rw [upd_ne (ne_of_none e h)]
  exact e
def ER {α : Type} (X : Cx) (σ : L2.St) (H : Hp) (e : Expr) (R : RR α) (a : α) : Prop := ∀ Q : VK, (∀ v H', Same H H' → R a v H' → Q v H') → WE X e σ H Q
variable {α β : Type} {R : RR α} {R' : RR β} {u u' : α} {w : β}
theorem er_ve (h : VE X σ H e v) (hr : R u v H) : ER X σ H e R u := fun Q z => h _ (z _ _ (Same.refl H) hr)
theorem er_int (h : VE X σ H e (.int i)) : ER X σ H e RI i := er_ve h rfl
/-- a def whose result stands on the heap -/
def spR (den : List V → Hp → α → Prop) (R : RR α) : Sp := fun vs H Q _ => ∃ a, den vs H a ∧ ∀ v H', Same H H' → R a v H' → Q v H'
theorem er_call {x : Str} {den : List V → Hp → α → Prop} {n : Nat} (c : Cxo M N sc k X) (F : Fn M n x (spR den R)) (hn : n ≤ k) (hg : sc.names.lookup x = some .globalImplicit) (hd : (x == ("__debug__" : Str)) = false) (hs : (e :: es).all notStar = true)
    (ha : VA X σ H (e :: es) vs) (h : den vs H u) : ER X σ H (.Call (.Name x p) (e :: es) [] pos) R u :=
  fun Q q => we_call c F hn hg hd hs (ha _ ⟨u, h, q⟩)
theorem er_call0 {x : Str} {den : List V → Hp → α → Prop} {n : Nat} (c : Cxo M N sc k X) (F : Fn M n x (spR den R)) (hn : n ≤ k) (hg : sc.names.lookup x = some .globalImplicit) (hd : (x == ("__debug__" : Str)) = false)
    (h : den [] H u) : ER X σ H (.Call (.Name x p) [] [] pos) R u :=
  fun Q q => we_call0 c F hn hg hd ⟨u, h, q⟩
/-- arguments that may lay something on the heap -/
def AR (X : Cx) (σ : L2.St) (H : Hp) (es : List Expr) (P : List V → Hp → Prop) : Prop := ∀ Q : List V → Hp → Prop, (∀ vs H', Same H H' → P vs H' → Q vs H') → WA X es σ H Q
theorem ar_nil : AR X σ H [] (fun vs _ => vs = []) := fun Q z => ⟨_, pa_nil, z _ _ (Same.refl H) rfl⟩
theorem ar_cons {P : List V → Hp → Prop} (hs : notStar e = true) (h : ER X σ H e R u) (hr : ∀ H', Same H H' → AR X σ H' es P) : AR X σ H (e :: es) (fun vs H2 => ∃ v r H1, vs = v :: r ∧ Same H1 H2 ∧ R u v H1 ∧ P r H2) :=
  fun Q z => ⟨_, pa_cons WE.pe WA.pa (star_cons hs _ _), h _ fun v H1 s1 q1 => hr H1 s1 _ fun r H2 s2 q2 => z _ _ (s1.trans s2) ⟨v, r, H1, rfl, s2, q1, q2⟩⟩
theorem er_callA {x : Str} {den : List V → Hp → α → Prop} {P : List V → Hp → Prop} {n : Nat} (c : Cxo M N sc k X) (F : Fn M n x (spR den R)) (hn : n ≤ k) (hg : sc.names.lookup x = some .globalImplicit) (hd : (x == ("__debug__" : Str)) = false) (hs : (e :: es).all notStar = true)
    (ha : AR X σ H (e :: es) P) (h : ∀ vs H', Same H H' → P vs H' → den vs H' u) : ER X σ H (.Call (.Name x p) (e :: es) [] pos) R u :=
  fun Q q => we_call c F hn hg hd hs (ha _ fun vs H' s h1 => ⟨u, h vs H' s h1, fun v H2 s2 r => q v H2 (s.trans s2) r⟩)
/-- a tuple, a list of ints -/
def RTs : RR (List Int) := fun l v H => ∃ t, v = .ref t ∧ H t = some (.tup (l.map V.int))
theorem er_tupN {n : Nat} {l : List Int} (ha : VA X σ H es (l.map V.int)) (hz : l.length ≤ 1000) : ER X σ H (.Tuple es n pos) RTs l :=
  fun Q z => ⟨_, pe_tup WA.pa, ha _ ⟨by rw [List.length_map]; exact Nat.le_of_lt (small1000 hz), fun t ht => z _ _ (same_new ht) ⟨t, rfl, upd_same⟩⟩⟩
theorem er_lst {l : List Int} (ha : VA X σ H es (l.map V.int)) (hz : l.length ≤ 1000) : ER X σ H (.List es pos) RL l :=
  fun Q z => ⟨_, pe_lst WA.pa, ha _ ⟨by rw [List.length_map]; exact Nat.le_of_lt (small1000 hz), fun t ht => z _ _ (same_new ht) ⟨t, rfl, upd_same⟩⟩⟩
/-- a tuple of two ints -/
theorem er_tup {n : Nat} (hs : notStar a = true) (hs2 : notStar b = true) (ha : VE X σ H a (.int i)) (hb : VE X σ H b (.int j)) : ER X σ H (.Tuple [a, b] n pos) RT (i, j) :=
  fun Q z => ⟨_, pe_tup WA.pa, va_cons hs ha (va_cons hs2 hb va_nil) _ ⟨by show 2 ≤ sizeLine; decide, fun t ht => z _ _ (same_new ht) ⟨t, rfl, upd_same⟩⟩⟩
theorem er_if {t : Expr} (ht : VT X σ H t q) (ha : q = true → ER X σ H a R u) (hb : q = false → ER X σ H b R u') : ER X σ H (.IfExp t a b pos) R (bif q then u else u') := fun Q z => by
  refine ⟨_, pe_ifExp WT.pt WE.pe WE.pe, ht _ ?_⟩
  cases q with
  | true => exact ha rfl _ z
  | false => exact hb rfl _ z
/-- the second of a tuple's two -/
theorem er_snd {r : Int × Int} {n : Nat} {pos' : Pos} (h : ER X σ H e RT r) (hs : PlainIx (.Constant (.int 1) n pos')) : ER X σ H (.Subscript e (.Constant (.int 1) n pos') pos) RI r.2 :=
  fun Q z => ⟨_, pe_ix ix_tup WE.pe WE.pe hs, h _ fun v H' s q => by
    obtain ⟨t, rfl, ht⟩ := q
    exact ve_int _ ⟨t, _, 1, .int r.2, rfl, rfl, SqT.of ht, atI_nat (j := 1) rfl, z _ _ s rfl⟩⟩
/-- the second of a tuple's two that stands in a name -/
theorem ve_snd {r : Int × Int} {n : Nat} {pos' : Pos} (h : VE X σ H e v) (hr : RT r v H) (hs : PlainIx (.Constant (.int 1) n pos')) : VE X σ H (.Subscript e (.Constant (.int 1) n pos') pos) (.int r.2) := fun Q z => by
  obtain ⟨t, rfl, ht⟩ := hr
  exact ⟨_, pe_ix ix_tup WE.pe WE.pe hs, h _ (ve_int _ ⟨t, _, 1, .int r.2, rfl, rfl, SqT.of ht, atI_nat (j := 1) rfl, z⟩)⟩

def Rt {α : Type} (X : Cx) (σ : L2.St) (H : Hp) (sts : List Stmt) (R : RR α) (a : α) : Prop := ∀ D : Ends, (∀ v H', Same H H' → R a v H' → D.rt v H') → WSs X sts D σ H
theorem rt_ret (h : ER X σ H e R u) : Rt X σ H [.Return (some e) pos] R u := fun D z => ⟨_, pss_one (ps_ret WE.pe), h _ z⟩
theorem rt_if {t : Expr} (ht : VT X σ H t q) (ha : q = true → Rt X σ H body R u) (hb : q = false → Rt X σ H sts R u') : Rt X σ H (.If t body [] pos :: sts) R (bif q then u else u') := fun D z => by
  refine ⟨_, pss_cons (ps_if WT.pt WSs.pss pss_nil) WSs.pss, ht _ ?_⟩
  cases q with
  | true => exact ha rfl _ z
  | false => exact hb rfl _ z
theorem rt_set {x : Str} (c : Cxo M N sc k X) (n : Nat) (hN : N[n]? = some x) (hl : sc.names.lookup x = some .local) (hw : ∀ env, swapsWith e (some (.Name x p)) pos.line env = pure false) (h : VE X σ H e v) (hr : Rt X (σ.set n (some v)) H sts R u) : Rt X σ H (.Assign [.Name x p] e pos :: sts) R u :=
  fun D z => ⟨_, pss_cons WS.ps WSs.pss, ws_set c n hN hl hw (h _ (hr D z))⟩
theorem rt_cons (h : NS X σ H st σ1) (hr : Rt X σ1 H sts R u) : Rt X σ H (st :: sts) R u := fun D z => ⟨_, pss_cons WS.ps WSs.pss, h _ (hr D z)⟩
theorem rt_setR {x : Str} (c : Cxo M N sc k X) (n : Nat) (hN : N[n]? = some x) (hl : sc.names.lookup x = some .local) (hw : ∀ env, swapsWith e (some (.Name x p)) pos.line env = pure false) (h : ER X σ H e R' w)
    (hr : ∀ v H', Same H H' → R' w v H' → Rt X (σ.set n (some v)) H' sts R u) : Rt X σ H (.Assign [.Name x p] e pos :: sts) R u :=
  fun D z => ⟨_, pss_cons WS.ps WSs.pss, ws_set c n hN hl hw (h _ fun v H' s q => hr v H' s q D fun v2 H2 s2 r => z v2 H2 (s.trans s2) r)⟩
theorem rt_setI {x : Str} (c : Cxo M N sc k X) (n : Nat) (hN : N[n]? = some x) (hl : sc.names.lookup x = some .local) (hw : ∀ env, swapsWith e (some (.Name x p)) pos.line env = pure false) (h : ER X σ H e RI i)
    (hr : ∀ H', Same H H' → Rt X (σ.set n (some (.int i))) H' sts R u) : Rt X σ H (.Assign [.Name x p] e pos :: sts) R u :=
  rt_setR c n hN hl hw h fun v H' s q => by
    cases (show v = .int i from q)
    exact hr H' s
/-- a name as it stands -/
theorem er_keep (h : VE X σ H e v) (hr : R u v H) : ER X σ H e R u := er_ve h hr
/-- if x is not None: return x -/
theorem rt_given {x : Str} {o : Option (Int × Int)} {u : Int × Int} {v : V} {n1 : Nat} {p1 p2 p3 p4 : Pos} (hx : ∀ H', VE X σ H' (.Name x p1) v) (hx2 : VE X σ H (.Name x p2) v) (ho : RO o v H) (hr : o = none → Rt X σ H sts RT u) :
    Rt X σ H (.If (.Compare (.Name x p1) [.IsNot] [.Constant .none n1 p3] p4) [.Return (some (.Name x p2)) pos] [] p :: sts) RT (o.getD u) := fun D z => by
  refine ⟨_, pss_cons (ps_if (pt_cmp (pc_notN WE.pe) rfl) WSs.pss pss_nil) WSs.pss, hx H _ ⟨_, rfl, ?_⟩⟩
  cases o with
  | none =>
    have e : v = .non := ho
    subst e
    exact hr rfl D z
  | some r =>
    obtain ⟨t, rfl, ht⟩ := ho
    exact rt_ret (er_ve hx2 (show RT r _ H from ⟨t, rfl, ht⟩)) _ z
end
end Hw

/-! More readings: tests and arguments that lay something on the heap, list comprehensions, any, while. -/
namespace Hw
open PySem PySem.Spec PyProof.Rows L2
section
variable {X : Cx} {M : Mo} {N : List Str} {sc : Scope} {k : Nat} {σ : L2.St} {H : Hp}
variable {a b e o : Expr} {es rest : List Expr} {pos p : Pos} {i j : Int} {x y v : V} {q r : Bool} {vs : List V} {sts body : List Stmt}
variable {α β : Type} {R : RR α} {R' : RR β} {u u' : α} {w : β}
/-- a test that may lay something on the heap -/
def TR (X : Cx) (σ : L2.St) (H : Hp) (e : Expr) (b : Bool) : Prop := ∀ Q : Bool → Hp → Prop, (∀ H', Same H H' → Q b H') → WT X e σ H Q
theorem tr_not (h : TR X σ H a q) : TR X σ H (.UnaryOp .Not a pos) (!q) := fun Q z => ⟨_, pt_not WT.pt, h _ z⟩
theorem rt_ifT {t : Expr} (ht : TR X σ H t q) (ha : ∀ H', Same H H' → q = true → Rt X σ H' body R u) (hb : ∀ H', Same H H' → q = false → Rt X σ H' sts R u') : Rt X σ H (.If t body [] pos :: sts) R (bif q then u else u') := fun D z => by
  refine ⟨_, pss_cons (ps_if WT.pt WSs.pss pss_nil) WSs.pss, ht _ fun H1 s1 => ?_⟩
  cases q with
  | true => exact ha H1 s1 rfl _ fun v H2 s2 r => z v H2 (s1.trans s2) r
  | false => exact hb H1 s1 rfl _ fun v H2 s2 r => z v H2 (s1.trans s2) r
theorem er_some {r : Int × Int} (h : ER X σ H e RT r) : ER X σ H e RO (some r) := fun Q z => h Q z
/-- a def that works a value out, of an argument that may lay something on the heap -/
theorem er_call1 {x : Str} {den : List V → V → Prop} {n : Nat} {z : Int} (c : Cxo M N sc k X) (F : Fn M n x (spP den)) (hn : n ≤ k) (hg : sc.names.lookup x = some .globalImplicit) (hd : (x == ("__debug__" : Str)) = false) (hs : notStar e = true)
    (he : ER X σ H e RI i) (h : den [.int i] (.int z)) : ER X σ H (.Call (.Name x p) [e] [] pos) RI z :=
  fun Q q => we_call c F hn hg hd (by simp [hs]) ⟨_, pa_cons WE.pe pa_nil (star_cons hs _ _), he _ fun v H' s hv => by
    cases (show v = .int i from hv)
    exact ⟨.int z, h, q _ _ s rfl⟩⟩
/-- any of a list of bools -/
theorem call_anyB (hc : X.calm = true) : CallR X (.builtin "any") (fun xs H Q => ∃ (p : Addr) (bs : List Bool), xs = [V.ref p] ∧ SqL X.K H p (bs.map V.bl) ∧ Q (.bl (bs.any id)) H) := by
  intro pins s σ H xs us Q I r h
  obtain ⟨p, bs, rfl, hq, q⟩ := h
  obtain ⟨u, rfl, ru⟩ := vals1 r
  cases ru
  obtain ⟨its, rv, pl, hz⟩ := I.list hq
  have hl : s.heap.IsList p its.toArray := pl.isList
  have hlen := rv.length
  rw [List.length_map] at hlen
  have hlt : p < s.heap.objs.size := by obtain ⟨_, e, _⟩ := hl; exact Heap.lt_size e
  refine call_any_walk (wpAny_pyIter_list hl ?_)
  refine ⟨s.heap.objs.size, [s.heap.objs.size, p], [s.heap.objs.size], its.toArray.size, _, _, fun i => (bs[i]?).getD false, rfl, Walks.list (A := X.A.in1) (I.ok.hd hc) _ p (Nat.ne_of_lt hlt) its.toArray,
    ⟨⟨_, Heap.get?_push_size _ rfl, rfl, rfl⟩, hl.push _⟩, fun i v s' Q' E' hP hQ => ?_, fun h' tk hk => ?_⟩
  · have hP' : its[i]? = some v := by simpa using hP
    have hi : i < its.length := (List.getElem?_eq_some_iff.mp hP').1
    have hb : bs[i]? = some bs[i] := List.getElem?_eq_getElem (by omega)
    obtain ⟨w', ew, rw'⟩ := rv.get (i := i) (x := V.bl bs[i]) (by rw [List.getElem?_map, hb]; rfl)
    rw [hP'] at ew
    cases ew
    cases rw'
    have hQ' : Q' bs[i] s' := by
      have h3 : (bs[i]?).getD false = bs[i] := by rw [hb]; rfl
      rw [← h3]
      exact hQ
    exact wpAny_truthy_bool hQ'
  · have e : ((List.range its.toArray.size).any fun i => (bs[i]?).getD false) = bs.any id := by
      rw [List.size_toArray, ← hlen]
      exact LSm.range_any bs
    rw [e]
    exact ⟨.bl _, H, I.kept (LSm.kept_iter hk), rfl, q⟩
def RBs : RR (List Bool) := fun l v H => ∃ p, v = .ref p ∧ H p = some (.lst (l.map V.bl))
theorem tr_any {l : List Bool} (c : Cxo M N sc k X) (hg : sc.names.lookup ("any" : Str) = some .globalImplicit) (hm : M.mg "any" = none) (hs : notStar e = true) (h : ER X σ H e RBs l) (he : ∀ env whole, isTrue (.Call (.Name "any" p) [e] [] pos) env whole = (do let v ← whole; standAt pos; holding [v] (truthy v))) : TR X σ H (.Call (.Name "any" p) [e] [] pos) (l.any id) :=
  fun Q z => ⟨_, pt_val (pe_callB (call_anyB c.calm) (gl_of c hg) (by rw [c.mg]; exact hm) boot_any (pa_cons WE.pe pa_nil (star_cons hs _ _)) (by decide) (by decide) (star_cons hs _ _) rfl) (he _), h _ fun v H' s hv => by
    obtain ⟨t, rfl, ht⟩ := hv
    exact ⟨t, l, rfl, SqL.of ht, _, rfl, z _ s⟩⟩

/-! ### list comprehensions -/
theorem blk_cxo (c : Cxo M N sc k X) (s : Shared) (H : Hp) (scope : Scope) (cl : List (Str × Addr)) (C : Addr) (fp : List Addr) : Cxo M N (relS scope sc) k (X.blk s H scope (compEnvC scope cl C X.env) fp) :=
  ⟨c.prog, c.w, c.K, c.mg, c.base, c.nd, c.N, (by show relS scope X.env.scope = _; rw [c.sc]), c.calm, c.room, PassesOwn.never⟩
/-- the items of a new list, each as told -/
def RLv (R : RR α) (m : Nat) : RR (Nat → α) := fun u v H => ∃ t vs, v = .ref t ∧ H t = some (.lst vs) ∧ vs.length = m ∧ ∀ (i : Nat) (y : V), vs[i]? = some y → R (u i) y H
/-- [elt for x in iter]; J: what iter's walk is -/
theorem er_lc {x : Str} {elt iter : Expr} {scope : Scope} {tp : Pos} {wi : TI} {J : It} {m : Nat} {item : Nat → V} {U : Nat → α} (c : Cxo M N sc k X) (n : Nat) (ok : BlkOk N sc scope [(x, n)]) (hN : N[n]? = some x) (hl : (relS scope sc).names.lookup x = some .local)
    (hi : PI X (.Name x tp) iter wi) (hw : ∀ Rr : It → Hp → Prop, Rr J H → wi σ H Rr) (hs : ∀ env x, foldedSetIterable iter env x = pure x) (hm : m < sizeLine)
    (go : ∀ i H', Same H H' → i < m → J.go i H') (stop : ∀ i H', Same H H' → m ≤ i → J.stop i H') (yld : ∀ i x H' H'', Same H H' → i < m → J.yld i H' x H'' → H'' = H' ∧ x = item i)
    (hS : ∀ (a : α) v H H', Same H H' → R a v H → R a v H') (hU : ∀ (a : α) v H D l l', H D = some (.lst l) → R a v H → R a v (upd H D (.lst l')))
    (he : ∀ (X' : Cx) (i : Nat) H', Cxo M N (relS scope sc) k X' → X'.K = X.K → Same H H' → i < m → ER X' ((σ.set n none).set n (some (item i))) H' elt R (U i)) :
    ER X σ H (.ListComp elt [⟨.Name x tp, iter, [], 0⟩] scope pos) (RLv R m) U := by
  intro Q z
  refine ⟨_, pe_lc (own := [(x, n)]) (te := fun τ H' Q' => ∀ (s : Shared) (H0 : Hp) (C : Addr) (cl : List (Str × Addr)) (fp : List Addr), WE (X.blk s H0 scope (compEnvC scope cl C X.env) fp) elt τ H' Q') (g := gName n) (tt := tYes) c.calm (by rw [c.N]; exact c.nd) hi (by rw [c.N, c.sc]; exact ok)
    (fun s H0 C cl fp => pg_name (i := n) (by show X.N.Nodup; rw [c.N]; exact c.nd) (by show X.N[n]? = _; rw [c.N]; exact hN) (by rw [(blk_cxo c s H0 scope cl C fp).sc]; exact .inl hl) (.inr (by rw [(blk_cxo c s H0 scope cl C fp).sc]; exact hl)))
    (fun _ _ _ _ _ => pts_nil) (fun s H0 C cl fp pins s' τ H' Q' I h => WE.pe pins s' τ H' Q' I (h s H0 C cl fp)) (hs _), ?_⟩
  refine hw _ fun D hD => ⟨fun i μ H' => μ = m - i ∧ i ≤ m ∧ Same H H' ∧ ∃ l, H' D = some (.lst l) ∧ l.length = i ∧ ∀ (j : Nat) (y : V), l[j]? = some y → R (U j) y H', ⟨m, rfl, Nat.zero_le _, same_new hD, [], upd_same, rfl, fun j y h => by simp at h⟩, ?_⟩
  rintro i μ H' ⟨rfl, him, sH, l, hDl, hll, hR⟩
  by_cases hlt : i < m
  · refine .inr ⟨go i H' sH hlt, fun H2 => Same H H2 ∧ ∃ l, H2 D = some (.lst l) ∧ l.length = i + 1 ∧ ∀ (j : Nat) (y : V), l[j]? = some y → R (U j) y H2, fun H2 h2 => ⟨m - (i + 1), by omega, rfl, hlt, h2.1, h2.2⟩, fun x' H'' hy => ?_⟩
    obtain ⟨rfl, rfl⟩ := yld i x' H' H'' sH hlt hy
    show wipe ((wipe σ [n]).set n (some (item i))) [n] = wipe σ [n] ∧ _
    refine ⟨?_, ?_⟩
    · show ((σ.set n none).set n (some (item i))).set n none = σ.set n none
      rw [List.set_set, List.set_set]
    · unfold tYes
      dsimp only
      rw [if_pos rfl]
      intro s H0 C cl fp
      refine he _ i H'' (blk_cxo c s H0 scope cl C fp) rfl sH hlt _ fun y H3 s3 hy3 => ?_
      have hD3 := s3 _ _ hDl
      refine ⟨l, hD3, Nat.lt_of_le_of_lt (by omega : l.length ≤ m) hm, fun b o e => ?_, l ++ [y], upd_same, by rw [List.length_append, hll]; rfl, fun j y' hj => ?_⟩
      · rw [upd_ne (ne_of_none e hD)]
        exact s3 _ _ (sH _ _ e)
      · by_cases hji : j < l.length
        · rw [List.getElem?_append_left hji] at hj
          exact hU _ _ _ _ _ _ hD3 (hS _ _ _ _ s3 (hR j y' hj))
        · have hj2 : j = l.length := by
            have := (List.getElem?_eq_some_iff.mp hj).1
            rw [List.length_append, List.length_singleton] at this
            omega
          subst hj2
          rw [List.getElem?_append_right (Nat.le_refl _), Nat.sub_self] at hj
          cases hj
          rw [hll]
          exact hU _ _ _ _ _ _ hD3 hy3
  · have e : i = m := by omega
    subst e
    exact .inl ⟨stop i H' sH (Nat.le_refl _), z _ _ sH ⟨D, l, rfl, hDl, hll, hR⟩⟩
theorem hS_RB : ∀ (a : Bool) v H H', Same H H' → RB a v H → RB a v H' := fun _ _ _ _ _ h => h
theorem hU_RB : ∀ (a : Bool) v H (D : Addr) (l l' : List V), H D = some (.lst l) → RB a v H → RB a v (upd H D (.lst l')) := fun _ _ _ _ _ _ _ h => h
theorem hS_RT : ∀ (a : Int × Int) v H H', Same H H' → RT a v H → RT a v H' := fun _ _ _ _ s h => h.same s
theorem hU_RT : ∀ (a : Int × Int) v H (D : Addr) (l l' : List V), H D = some (.lst l) → RT a v H → RT a v (upd H D (.lst l')) := fun a v H D l l' hD h => by
  obtain ⟨t, e, h⟩ := h
  exact ⟨t, e, by rw [upd_ne (ne_of h hD (by intro z; cases z))]; exact h⟩
/-- over a tuple of ints, bools out -/
theorem er_lcTup {x y : Str} {elt : Expr} {scope : Scope} {tp yp : Pos} {t : Addr} {l : List Int} {g : Int → Bool} (c : Cxo M N sc k X) (n : Nat) (ok : BlkOk N sc scope [(x, n)]) (hN : N[n]? = some x) (hl : (relS scope sc).names.lookup x = some .local)
    (hy : VE X σ H (.Name y yp) (.ref t)) (ht : H t = some (.tup (l.map V.int))) (hm : l.length ≤ 1000)
    (he : ∀ (X' : Cx) (z : Int) H', Cxo M N (relS scope sc) k X' → VE X' ((σ.set n none).set n (some (.int z))) H' elt (.bl (g z))) :
    ER X σ H (.ListComp elt [⟨.Name x tp, .Name y yp, [], 0⟩] scope pos) RBs (l.map g) := by
  intro Q z
  have sq : ∀ H', Same H H' → SqT X.K H' t (l.map V.int) := fun H' s => SqT.of (s _ _ ht)
  refine er_lc (R := RB) (m := l.length) (item := fun i => .int (l.getD i 0)) (U := fun i => g (l.getD i 0)) (J := Itt X.K t) c n ok hN hl (pi_tup WE.pe) (fun Rr h => hy _ ⟨t, rfl, ⟨_, sq H (Same.refl H)⟩, h⟩) (fun _ _ => rfl) (small1000 hm)
    (fun i H' s hi => ⟨_, V.int (l.getD i 0), sq H' s, ?_⟩) (fun i H' s hi => ⟨_, sq H' s, by rw [List.length_map]; exact hi⟩) (fun i x' H' H'' s hi hyl => ?_) hS_RB hU_RB (fun X' i H' c' _ s hi => er_ve (he X' _ H' c') rfl) _ fun v H' s hv => ?_
  · rw [List.getElem?_map, List.getD_eq_getElem?_getD, List.getElem?_eq_getElem hi]
    rfl
  · obtain ⟨e1, e2⟩ := hyl
    refine ⟨e1, ?_⟩
    have h3 := e2 _ (sq H' s)
    rw [List.getElem?_map, List.getElem?_eq_getElem hi] at h3
    rw [List.getD_eq_getElem?_getD, List.getElem?_eq_getElem hi]
    exact (Option.some.inj h3).symm
  · obtain ⟨p', vs', rfl, hp, hlen, hall⟩ := hv
    refine z _ _ s ⟨p', rfl, ?_⟩
    rw [hp]
    congr 2
    refine List.ext_getElem? fun i => ?_
    by_cases hi : i < l.length
    · have h1 : vs'[i]? = some vs'[i] := List.getElem?_eq_getElem (by omega)
      have h2 : vs'[i] = V.bl (g (l.getD i 0)) := hall i _ h1
      rw [h1, h2, List.getElem?_map, List.getElem?_map, List.getElem?_eq_getElem hi, List.getD_eq_getElem?_getD, List.getElem?_eq_getElem hi]
      rfl
    · rw [List.getElem?_eq_none (by omega), List.getElem?_eq_none (by rw [List.length_map, List.length_map]; omega)]
/-- over a range -/
theorem er_lcRange {x : Str} {elt : Expr} {scope : Scope} {tp rp : Pos} {m : Nat} {U : Nat → α} (c : Cxo M N sc k X) (n : Nat) (ok : BlkOk N sc scope [(x, n)]) (hN : N[n]? = some x) (hl : (relS scope sc).names.lookup x = some .local)
    (hg : sc.names.lookup ("range" : Str) = some .globalImplicit) (hmr : M.mg "range" = none) (hs : notStar e = true) (hm : VE X σ H e (.int m)) (hm2 : m ≤ 1000)
    (hS : ∀ (a : α) v H H', Same H H' → R a v H → R a v H') (hU : ∀ (a : α) v H D l l', H D = some (.lst l) → R a v H → R a v (upd H D (.lst l')))
    (he : ∀ (X' : Cx) (i : Nat) H', Cxo M N (relS scope sc) k X' → X'.K = X.K → Same H H' → i < m → ER X' ((σ.set n none).set n (some (.int i))) H' elt R (U i)) :
    ER X σ H (.ListComp elt [⟨.Name x tp, .Call (.Name "range" rp) [e] [] p, [], 0⟩] scope pos) (RLv R m) U := by
  refine er_lc (m := m) (item := fun i => .int i) (J := Itr 0 m) c n ok hN hl (pi_range1 (gl_of c hg) (by rw [c.mg]; exact hmr) WA.pa (star_cons hs _ _)) (fun Rr h => va_cons hs hm va_nil _ ⟨(m : Int), rfl, by omega, by omega, by rw [Int.toNat_natCast]; exact h⟩) (fun _ _ => rfl) (small1000 hm2)
    (fun i H' s hi => hi) (fun i H' s hi => hi) (fun i x' H' H'' s hi hyl => ?_) hS hU he
  obtain ⟨e1, e2⟩ := hyl
  refine ⟨e1, ?_⟩
  rw [e2]
  congr 1
  omega
/-- while: the test by its value -/
theorem ws_while {t : Expr} {D : Ends} (c : Cxo M N sc k X) (Pv : L2.St → Hp → Prop) (μ : L2.St → Hp → Nat) (h0 : Pv σ H)
    (hs : ∀ τ H, Pv τ H → ∃ b, VT X τ H t b ∧ (if b = true then WSs X body { D with nx := fun σ' H' => Pv σ' H' ∧ μ σ' H' < μ τ H, ct := fun σ' H' => Pv σ' H' ∧ μ σ' H' < μ τ H, bk := D.nx } τ H else D.nx τ H)) : WS X (.While t body [] pos) D σ H := by
  refine ⟨_, ps_while (tc := fun τ H Q => ∃ b, VT X τ H t b ∧ Q b H) c.own (fun pins s τ H Q I h => ?_) WSs.pss, while_by Pv μ h0 hs ?_⟩
  · obtain ⟨b, hv, q⟩ := h
    exact WT.pt pins s τ H Q I (hv _ q)
  · rintro τ H Q Q' hQ ⟨b, hv, q⟩
    exact ⟨b, hv, hQ _ _ q⟩
end
end Hw

/-! More: comprehensions over a list that is handed in, lists of ints out, one list behind another. -/
namespace Hw
open PySem PySem.Spec PyProof.Rows L2
section
variable {X : Cx} {M : Mo} {N : List Str} {sc : Scope} {k : Nat} {σ : L2.St} {H : Hp}
variable {a b e o : Expr} {es rest : List Expr} {pos p : Pos} {i j : Int} {v : V} {vs : List V} {sts body : List Stmt}
variable {α β : Type} {R : RR α} {R' : RR β} {u u' : α} {w : β}
theorem hS_RI : ∀ (a : Int) v H H', Same H H' → RI a v H → RI a v H' := fun _ _ _ _ _ h => h
theorem hU_RI : ∀ (a : Int) v H (D : Addr) (l l' : List V), H D = some (.lst l) → RI a v H → RI a v (upd H D (.lst l')) := fun _ _ _ _ _ _ _ h => h
/-- [elt for x in y], y a list of ints -/
theorem er_lcList {x : Str} {iter elt : Expr} {scope : Scope} {tp : Pos} {t : Addr} {l : List Int} {U : Nat → α} (c : Cxo M N sc k X) (n : Nat) (ok : BlkOk N sc scope [(x, n)]) (hN : N[n]? = some x) (hl : (relS scope sc).names.lookup x = some .local)
    (hy : VE X σ H iter (.ref t)) (hf : ∀ env x, foldedSetIterable iter env x = pure x) (ht : SqL X.K H t (l.map V.int)) (hm : l.length < sizeLine)
    (hS : ∀ (a : α) v H H', Same H H' → R a v H → R a v H') (hU : ∀ (a : α) v H D l l', H D = some (.lst l) → R a v H → R a v (upd H D (.lst l')))
    (he : ∀ (X' : Cx) (i : Nat) H', Cxo M N (relS scope sc) k X' → X'.K = X.K → Same H H' → i < l.length → ER X' ((σ.set n none).set n (some (.int (l.getD i 0)))) H' elt R (U i)) :
    ER X σ H (.ListComp elt [⟨.Name x tp, iter, [], 0⟩] scope pos) (RLv R l.length) U := by
  have sq : ∀ H', Same H H' → SqL X.K H' t (l.map V.int) := fun H' s => s.seq ht
  refine er_lc (m := l.length) (item := fun i => .int (l.getD i 0)) (J := Itl X.K t) c n ok hN hl (pi_list WE.pe) (fun Rr h => hy _ ⟨t, rfl, ⟨_, sq H (Same.refl H)⟩, h⟩) hf hm
    (fun i H' s hi => ⟨_, V.int (l.getD i 0), sq H' s, ?_⟩) (fun i H' s hi => ⟨_, sq H' s, by rw [List.length_map]; exact hi⟩) (fun i x' H' H'' s hi hyl => ?_) hS hU he
  · rw [List.getElem?_map, List.getD_eq_getElem?_getD, List.getElem?_eq_getElem hi]
    rfl
  · obtain ⟨e1, e2⟩ := hyl
    refine ⟨e1, ?_⟩
    have h3 := e2 _ (sq H' s)
    rw [List.getElem?_map, List.getElem?_eq_getElem hi] at h3
    rw [List.getD_eq_getElem?_getD, List.getElem?_eq_getElem hi]
    exact (Option.some.inj h3).symm
/-- ints out: a list of ints -/
theorem er_ints {m : Nat} {U : Nat → Int} (h : ER X σ H e (RLv RI m) U) : ER X σ H e RL ((List.range m).map U) := fun Q z => h _ fun v H' s hv => by
  obtain ⟨t, ws, rfl, ht, hlen, hall⟩ := hv
  refine z _ _ s ⟨t, rfl, ?_⟩
  rw [ht]
  congr 2
  refine List.ext_getElem? fun i => ?_
  by_cases hi : i < m
  · have h1 : ws[i]? = some ws[i] := List.getElem?_eq_getElem (by omega)
    have h2 : ws[i] = V.int (U i) := hall i _ h1
    rw [h1, h2, List.getElem?_map, List.getElem?_map, List.getElem?_range hi]
    rfl
  · rw [List.getElem?_eq_none (by omega), List.getElem?_eq_none (by rw [List.length_map, List.length_map, List.length_range]; omega)]
/-- list + list -/
theorem er_cat {l l' : List Int} (ha : ER X σ H a RL l) (hb : ∀ H', Same H H' → ER X σ H' b RL l') (hz : l.length + l'.length ≤ 1000) : ER X σ H (.BinOp a .Add b pos) RL (l ++ l') := fun Q z => ⟨_, pe_op op_cat WE.pe WE.pe, ha _ fun v1 H1 s1 q1 => by
  obtain ⟨t1, rfl, h1⟩ := q1
  refine hb H1 s1 _ fun v2 H2 s2 q2 => ?_
  obtain ⟨t2, rfl, h2⟩ := q2
  refine ⟨t1, t2, _, _, rfl, rfl, s2 _ _ h1, h2, ?_, fun p' hp => z _ _ ((s1.trans s2).trans (same_new hp)) ⟨p', rfl, ?_⟩⟩
  · rw [List.length_map, List.length_map]
    exact Nat.le_of_lt (small1000 hz)
  · rw [upd_same, List.map_append]⟩
/-- a def whose answer is a list of tuples' work: the list as together wants it -/
theorem lv_tuples {m : Nat} {U : Nat → Int × Int} {v : V} {H H' : Hp} (s : Same H H') (h : RLv RT m U v H) : ∃ (t : Addr) (ws : List V), v = .ref t ∧ H' t = some (.lst ws) ∧ ws.length = ((List.range m).map U).length ∧ ∀ (i : Nat) (y : V), ws[i]? = some y → RT (((List.range m).map U).getD i (0, 0)) y H' := by
  obtain ⟨t, ws, rfl, ht, hlen, hall⟩ := h
  refine ⟨t, ws, rfl, s _ _ ht, by rw [hlen, List.length_map, List.length_range], fun i y hy => ?_⟩
  have hi : i < m := by have := (List.getElem?_eq_some_iff.mp hy).1; omega
  rw [List.getD_eq_getElem?_getD, List.getElem?_map, List.getElem?_range hi]
  exact (hall i y hy).same s
end
end Hw

/-! More: tuples of the module, either part of a tuple, a range with a step, append. -/
namespace Hw
open PySem PySem.Spec PyProof.Rows L2
/-- a tuple of two ints that the module holds -/
def GT (K : PySem.W.Frag) (t : Addr) (r : Int × Int) : Prop := ∀ H : Hp, SqT K H t [.int r.1, .int r.2]
theorem tup_mk {K : PySem.W.Frag} {h : Heap} {mg : Str → Option Value} {x : Str} {i j : Int} {t : Addr} {od : Option Addr} {its : Array Value} {n : Nat} {sl : Array (Option Value)} (X : K.In h) (G : h.Ns mainGlobals mg) (a : PySem.W.nsIn K mainGlobals x = some (some (.ref t)))
    (l : K.lookup t = some ⟨.type "tuple", od, .seq its n, sl⟩) (hz : its.size ≤ sizeLine) (r : Vals [.int i, .int j] its.toList) : ∃ t, mg x = some (.ref t) ∧ GT K t (i, j) :=
  ⟨t, PySem.W.mg_of X G a, fun _ => .inr ⟨_, its, n, l, rfl, rfl, hz, r⟩⟩
section
variable {X : Cx} {M : Mo} {N : List Str} {sc : Scope} {k : Nat} {σ : L2.St} {H : Hp}
variable {a b e o : Expr} {es rest : List Expr} {pos p : Pos} {i j : Int} {v : V} {vs : List V} {sts body : List Stmt}
variable {α β : Type} {R : RR α} {R' : RR β} {u u' : α} {w : β}
theorem ve_globT (c : Cxo M N sc k X) {x : Str} {t : Addr} (hg : sc.names.lookup x = some .globalImplicit) (hd : (x == ("__debug__" : Str)) = false) (h : M.mg x = some (.ref t)) : VE X σ H (.Name x pos) (.ref t) := fun Q q =>
  ⟨_, pe_glob (v := .ref t) (gl_of c hg) (by rw [c.mg]; exact h) rfl hd, q⟩
theorem ve_fst {r : Int × Int} {n : Nat} {pos' : Pos} (h : VE X σ H e v) (hr : RT r v H) (hs : PlainIx (.Constant (.int 0) n pos')) : VE X σ H (.Subscript e (.Constant (.int 0) n pos') pos) (.int r.1) := fun Q z => by
  obtain ⟨t, rfl, ht⟩ := hr
  exact ⟨_, pe_ix ix_tup WE.pe WE.pe hs, h _ (ve_int _ ⟨t, _, 0, .int r.1, rfl, rfl, SqT.of ht, atI_nat (j := 0) rfl, z⟩)⟩
theorem ve_fstG {r : Int × Int} {n : Nat} {t : Addr} {pos' : Pos} (h : VE X σ H e (.ref t)) (hr : GT X.K t r) (hs : PlainIx (.Constant (.int 0) n pos')) : VE X σ H (.Subscript e (.Constant (.int 0) n pos') pos) (.int r.1) := fun Q z =>
  ⟨_, pe_ix ix_tup WE.pe WE.pe hs, h _ (ve_int _ ⟨t, _, 0, .int r.1, rfl, rfl, hr H, atI_nat (j := 0) rfl, z⟩)⟩
theorem ve_sndG {r : Int × Int} {n : Nat} {t : Addr} {pos' : Pos} (h : VE X σ H e (.ref t)) (hr : GT X.K t r) (hs : PlainIx (.Constant (.int 1) n pos')) : VE X σ H (.Subscript e (.Constant (.int 1) n pos') pos) (.int r.2) := fun Q z =>
  ⟨_, pe_ix ix_tup WE.pe WE.pe hs, h _ (ve_int _ ⟨t, _, 1, .int r.2, rfl, rfl, hr H, atI_nat (j := 1) rfl, z⟩)⟩
/-- a tuple whose second may lay something on the heap -/
theorem er_tup2 {n : Nat} (hs : notStar a = true) (hs2 : notStar b = true) (ha : VE X σ H a (.int i)) (hb : ER X σ H b RI j) : ER X σ H (.Tuple [a, b] n pos) RT (i, j) :=
  fun Q z => ⟨_, pe_tup (pa_cons WE.pe (pa_cons WE.pe pa_nil (star_cons hs2 _ _)) (star_cons hs _ _)), ha _ (hb _ fun v H' s q => by
    cases (show v = .int j from q)
    exact ⟨by show 2 ≤ sizeLine; decide, fun t ht => z _ _ (s.trans (same_new ht)) ⟨t, rfl, upd_same⟩⟩)⟩
/-- if x is not None: something of x's -/
theorem rt_givenE {x : Str} {o : Option (Int × Int)} {u : α} {f : Int × Int → α} {v : V} {n1 : Nat} {p1 p3 p4 : Pos} (hx : ∀ H', VE X σ H' (.Name x p1) v) (ho : RO o v H) (hb : ∀ r, RT r v H → Rt X σ H body R (f r)) (hr : o = none → Rt X σ H sts R u) :
    Rt X σ H (.If (.Compare (.Name x p1) [.IsNot] [.Constant .none n1 p3] p4) body [] p :: sts) R (o.elim u f) := fun D z => by
  refine ⟨_, pss_cons (ps_if (pt_cmp (pc_notN WE.pe) rfl) WSs.pss pss_nil) WSs.pss, hx H _ ⟨_, rfl, ?_⟩⟩
  cases o with
  | none =>
    have e : v = .non := ho
    subst e
    exact hr rfl D z
  | some r =>
    obtain ⟨t, rfl, ht⟩ := ho
    exact hb r ⟨t, rfl, ht⟩ _ z
/-- for x in range(a, b, c): S i is the state behind i turns -/
theorem ws_forRange3 {x : Str} {D : Ends} {m : Nat} {c1 c2 c3 : Expr} {lo hi cc : Int} {sp' : Pos} (c : Cxo M N sc k X) (n : Nat) (hN : N[n]? = some x) (hl : sc.names.lookup x = some .local) (hg : sc.names.lookup ("range" : Str) = some .globalImplicit) (hm : M.mg "range" = none) (hs1 : notStar c1 = true) (hs2 : notStar c2 = true) (hs3 : notStar c3 = true)
    (hf : ∀ env x, foldedSetIterable (.Call (.Name "range" p) [c1, c2, c3] [] pos) env x = pure x) (h1 : VE X σ H c1 (.int lo)) (h2 : VE X σ H c2 (.int hi)) (h3 : VE X σ H c3 (.int cc)) (hz : RgC lo hi cc m) (S : Nat → L2.St → Hp → Prop) (h0 : S 0 σ H)
    (step : ∀ i τ H, i < m → S i τ H → WSs X body { D with nx := S (i + 1), ct := S (i + 1), bk := D.nx } (τ.set n (some (.int (lo + (i : Nat) * cc)))) H) (hd : ∀ τ H, S m τ H → D.nx τ H) {tp : Pos} : WS X (.For (.Name x tp) (.Call (.Name "range" p) [c1, c2, c3] [] pos) body [] sp') D σ H := by
  refine ⟨_, ps_for c.own c.calm (pi_range3 (gl_of c hg) (by rw [c.mg]; exact hm) WA.pa (star_cons hs1 _ _) (by rw [star_cons hs2, star_cons hs3]; rfl)) (pg_name (i := n) (by rw [c.N]; exact c.nd) (by rw [c.N]; exact hN) (by rw [c.sc]; exact .inl hl) (.inr (by rw [c.sc]; exact hl))) WSs.pss (hf _), ?_⟩
  refine va_cons hs1 h1 (va_cons hs2 h2 (va_cons hs3 h3 va_nil)) _ ⟨lo, hi, cc, m, rfl, hz, ?_⟩
  exact for_rangeC (n := m) S h0 (fun i τ H hi hS => step i τ H hi hS) hd
/-- x.append(e): a list that this body laid -/
theorem ws_append {x : Str} {D : Ends} {g : Addr} {ws : List V} {p1 p2 p3 : Pos} (hx : VE X σ H (.Name x p1) (.ref g)) (hg : H g = some (.lst ws)) (hz : ws.length < sizeLine) (hs : notStar e = true) (hln : (p2.endLine == p3.line) = true) (he : ER X σ H e R u)
    (h : ∀ y H', Same H H' → R u y H' → D.nx σ (upd H' g (.lst (ws ++ [y])))) : WS X (.Expr (.Call (.Attribute (.Name x p1) "append" p2) [e] [] p3) pos) D σ H := by
  refine ⟨_, ps_expr (pe_bm PySem.F.plainAttrs_list PySem.F.slot_list_append PySem.F.type_list_append mt_append WE.pe (pa_cons WE.pe pa_nil (star_cons hs _ _)) rfl (by rw [star_cons hs]; rfl) hln (star_cons hs _ _) rfl), ?_⟩
  exact hx _ ⟨Or.inl ⟨rfl, _, SqL.of hg⟩, he _ fun y H1 s1 q1 => ⟨g, _, _, rfl, rfl, s1 _ _ hg, hz, h y H1 s1 q1⟩⟩
end
end Hw

namespace Hd
open PySem PyProof.Rows
/-! ### bits of naturals -/
theorem and_nat (a b : Nat) : Builtin.bitAnd (a : Int) (b : Int) = ((a &&& b : Nat) : Int) := by
  rw [bitAnd_pp (by omega) (by omega), Int.toNat_natCast, Int.toNat_natCast]
theorem or_nat (a b : Nat) : Builtin.bitOr (a : Int) (b : Int) = ((a ||| b : Nat) : Int) := by
  rw [bitOr_and, and_nat]
  have := nat_or_add_and a b
  omega
theorem and_mag (b : Nat) : Builtin.bitAnd (b : Int) 32767 = ((b % 32768 : Nat) : Int) := by
  have h := and_nat b 32767
  rw [show ((32767 : Nat) : Int) = 32767 from rfl, show (b &&& 32767) = b % 32768 from Nat.and_two_pow_sub_one_eq_mod b 15] at h
  exact h
theorem and_frac (b : Nat) : Builtin.bitAnd (b : Int) 1023 = ((b % 1024 : Nat) : Int) := by
  have h := and_nat b 1023
  rw [show ((1023 : Nat) : Int) = 1023 from rfl, show (b &&& 1023) = b % 1024 from Nat.and_two_pow_sub_one_eq_mod b 10] at h
  exact h
theorem and_one (b : Nat) : Builtin.bitAnd (b : Int) 1 = ((b % 2 : Nat) : Int) := by
  have h := and_nat b 1
  rw [show ((1 : Nat) : Int) = 1 from rfl, show (b &&& 1) = b % 2 from Nat.and_two_pow_sub_one_eq_mod b 1] at h
  exact h
theorem and_pow0 (b i : Nat) : (b &&& 2 ^ i = 0) ↔ b / 2 ^ i % 2 = 0 := by
  have ht : b.testBit i = decide (b / 2 ^ i % 2 = 1) := Nat.testBit_eq_decide_div_mod_eq
  constructor
  · intro h
    have e : (b &&& 2 ^ i).testBit i = false := by rw [h]; exact Nat.zero_testBit i
    rw [Nat.testBit_and, Nat.testBit_two_pow_self, Bool.and_true, ht, decide_eq_false_iff_not] at e
    omega
  · intro h
    refine Nat.eq_of_testBit_eq fun j => ?_
    rw [Nat.zero_testBit, Nat.testBit_and, Nat.testBit_two_pow]
    by_cases hj : i = j
    · subst hj
      rw [ht, decide_eq_false (by omega)]
      rfl
    · rw [decide_eq_false hj, Bool.and_false]
theorem and_quiet (b : Nat) : Builtin.bitAnd (b : Int) 512 = 0 ↔ b / 512 % 2 = 0 := by
  have h := and_nat b 512
  rw [show ((512 : Nat) : Int) = 512 from rfl] at h
  rw [h]
  have := and_pow0 b 9
  rw [show (2 : Nat) ^ 9 = 512 from rfl] at this
  omega
/-- bits of lanes, one after another -/
def accB (f : Nat → Bool) : Nat → Nat
  | 0 => 0
  | i + 1 => accB f i + (if f i = true then 2 ^ i else 0)
theorem bits_acc (n : Nat) (f : Nat → Bool) : Sb06.bits n f = accB f n := by
  unfold Sb06.bits
  induction n with
  | zero => rfl
  | succ n ih =>
    rw [List.range_succ, List.foldl_append, ih]
    rfl
theorem accB_lt (f : Nat → Bool) : ∀ n, accB f n < 2 ^ n
  | 0 => Nat.zero_lt_one
  | n + 1 => by
    have h := accB_lt f n
    have e : 2 ^ (n + 1) = 2 ^ n + 2 ^ n := by rw [Nat.pow_succ]; omega
    unfold accB
    split <;> omega
theorem or_pow (r i : Nat) (h : r < 2 ^ i) : r ||| 2 ^ i = r + 2 ^ i := by
  have e := Nat.two_pow_add_eq_or_of_lt h 1
  rw [Nat.mul_one] at e
  rw [Nat.or_comm, ← e]
  omega
theorem one_shl (i : Nat) : (1 : Int) * 2 ^ ((i : Nat) : Int).toNat = ((2 ^ i : Nat) : Int) := by
  rw [Int.toNat_natCast, Int.one_mul, Int.natCast_pow]
  rfl
theorem getD_nat {l : List Int} (h : ∀ x ∈ l, 0 ≤ x ∧ x ≤ 65535) (i : Nat) : l.getD i 0 = ((Sb06.at_ (Sb06Neutral.nats l) i : Nat) : Int) ∧ Sb06.at_ (Sb06Neutral.nats l) i < 65536 := by
  unfold Sb06.at_ Sb06Neutral.nats
  rw [List.getD_eq_getElem?_getD, List.getD_eq_getElem?_getD, List.getElem?_map]
  cases e : l[i]? with
  | none => simp
  | some x =>
    have := h x (List.mem_of_getElem? e)
    simp
    omega
end Hd

namespace Hd
open PySem
def m_is_minus (half : Int) : Bool :=
    (decide ((32768 : Int) ≤ half))
def m_is_zero (half : Int) : Bool :=
    (decide ((Builtin.bitAnd half (32767 : Int)) = (0 : Int)))
def m_is_infinite (half : Int) : Bool :=
    (decide ((Builtin.bitAnd half (32767 : Int)) = (31744 : Int)))
def m_is_no_number (half : Int) : Bool :=
    (decide ((31744 : Int) < (Builtin.bitAnd half (32767 : Int))))
def m_is_signalling (half : Int) : Bool :=
    ((m_is_no_number half) && (decide ((Builtin.bitAnd half (512 : Int)) = (0 : Int))))
def m_with_sign (minus : Bool) (magnitude : Int) : Int :=
    (bif minus then (Builtin.bitOr magnitude (32768 : Int)) else magnitude)
def m_negated (half : Int) : Int :=
    (Builtin.bitXor half (32768 : Int))
def m_unlike_signs (a : Int) (b : Int) : Bool :=
    ((m_is_minus a) != (m_is_minus b))
def m_magnitude_units (half : Int) : Int :=
    let magnitude := (Builtin.bitAnd half (32767 : Int))
    (bif (decide (magnitude < (1024 : Int))) then magnitude
    else (((1024 : Int) + (Builtin.bitAnd magnitude (1023 : Int))) * 2 ^ (((magnitude / 2 ^ ((10 : Int) : Int).toNat) - (1 : Int)) : Int).toNat))
def m_units (half : Int) : Int :=
    (bif (m_is_minus half) then (-(m_magnitude_units half)) else (m_magnitude_units half))
def m_rank (half : Int) : Int :=
    let magnitude := (Builtin.bitAnd half (32767 : Int))
    (bif (m_is_minus half) then (-magnitude) else magnitude)
def m_invalid_answer  : Int × Int :=
    ((1 : Int), (32256 : Int))
def m_no_number_answer (l : List Int) : Option (Int × Int) :=
    bif (!(l.map m_is_no_number).any id) then none
    else bif (l.map m_is_signalling).any id then some m_invalid_answer
    else some ((0 : Int), (32256 : Int))
def m_goes_outward (way : Int) (minus : Bool) : Bool :=
    (bif (decide (way = (1 : Int))) then minus else ((decide (way = (2 : Int))) && (!minus)))
def m_rounded_whole (way : Int) (minus : Bool) (exact_ : Int) (below : Int) : Int :=
    let whole := (exact_ / 2 ^ (below : Int).toNat)
    let rest := (exact_ - (whole * 2 ^ (below : Int).toNat))
    (bif (decide (rest = (0 : Int))) then whole
    else (bif (!decide (way = (0 : Int))) then (bif (m_goes_outward way minus) then (whole + (1 : Int)) else whole)
    else let half_way := ((1 : Int) * 2 ^ ((below - (1 : Int)) : Int).toNat)
    (bif ((decide (half_way < rest)) || ((decide (rest = half_way)) && (decide ((Builtin.bitAnd whole (1 : Int)) = (1 : Int))))) then (whole + (1 : Int))
    else whole)))
def m_overflow_answer (way : Int) (minus : Bool) : Int × Int :=
    let stays := ((!decide (way = (0 : Int))) && (!(m_goes_outward way minus)))
    ((Builtin.bitOr (4 : Int) (16 : Int)), (m_with_sign minus (bif stays then (31743 : Int) else (31744 : Int))))
def m_is_tiny (way : Int) (minus : Bool) (exact_ : Int) (below : Int) : Bool :=
    (decide ((m_rounded_whole way minus (exact_ * 2 ^ ((1 : Int) : Int).toNat) below) < ((1024 : Int) * 2 ^ ((1 : Int) : Int).toNat)))
def m_rounded_half (way : Int) (minus : Bool) (exact_ : Int) (below : Int) : Int × Int :=
    let dropped := (if (0 : Int) > ((((Builtin.Int.intBits exact_ : Nat) : Int) - below) - (11 : Int)) then (0 : Int) else ((((Builtin.Int.intBits exact_ : Nat) : Int) - below) - (11 : Int)))
    let kept := (m_rounded_whole way minus exact_ (below + dropped))
    let magnitude := ((dropped * 2 ^ ((10 : Int) : Int).toNat) + kept)
    (bif (decide ((31744 : Int) ≤ magnitude)) then (m_overflow_answer way minus)
    else let half := (m_with_sign minus magnitude)
    (bif (decide ((kept * 2 ^ ((below + dropped) : Int).toNat) = exact_)) then ((0 : Int), half)
    else (bif ((decide (magnitude ≤ (1024 : Int))) && (m_is_tiny way minus exact_ below)) then ((Builtin.bitOr (8 : Int) (16 : Int)), half)
    else ((16 : Int), half))))
def m_rounded_by_power (way : Int) (minus : Bool) (magnitude : Int) (power : Int) : Int × Int :=
    (bif (decide (power < (0 : Int))) then (m_rounded_half way minus magnitude (-power))
    else (m_rounded_half way minus (magnitude * 2 ^ (power : Int).toNat) (0 : Int)))
def m_rounded_number (way : Int) (number : Int) : Int × Int :=
    (m_rounded_half way (decide (number < (0 : Int))) ((if number < 0 then -number else number) * 2 ^ ((24 : Int) : Int).toNat) (0 : Int))
def m_rounded_sum (way : Int) (exact_ : Int) (below : Int) (first_minus : Bool) (second_minus : Bool) : Int × Int :=
    let minus := (decide (exact_ < (0 : Int)))
    let minus' := (bif (decide (exact_ = (0 : Int))) then (bif (first_minus == second_minus) then first_minus else (decide (way = (1 : Int)))) else minus)
    (m_rounded_half way minus' (if exact_ < 0 then -exact_ else exact_) below)
def m_add (way : Int) (a : Int) (b : Int) : Int × Int :=
    (m_no_number_answer [a, b]).getD ((bif ((m_is_infinite a) && ((m_is_infinite b) && (!decide (a = b)))) then m_invalid_answer
    else (bif (m_is_infinite a) then ((0 : Int), a)
    else (bif (m_is_infinite b) then ((0 : Int), b)
    else (m_rounded_sum way ((m_units a) + (m_units b)) (0 : Int) (m_is_minus a) (m_is_minus b))))))
def m_is_zero_times_infinity (a : Int) (b : Int) : Bool :=
    (((m_is_zero a) && (m_is_infinite b)) || ((m_is_infinite a) && (m_is_zero b)))
def m_multiply (way : Int) (a : Int) (b : Int) : Int × Int :=
    (m_no_number_answer [a, b]).getD ((bif (m_is_zero_times_infinity a b) then m_invalid_answer
    else let minus := (m_unlike_signs a b)
    (bif ((m_is_infinite a) || (m_is_infinite b)) then ((0 : Int), (m_with_sign minus (31744 : Int)))
    else (m_rounded_half way minus ((m_magnitude_units a) * (m_magnitude_units b)) (24 : Int)))))
def m_multiply_and_add (way : Int) (a : Int) (b : Int) (c : Int) : Int × Int :=
    (m_no_number_answer [a, b, c]).getD ((bif (m_is_zero_times_infinity a b) then m_invalid_answer
    else let minus := (m_unlike_signs a b)
    (bif ((m_is_infinite a) || (m_is_infinite b)) then (m_add way (m_with_sign minus (31744 : Int)) c)
    else (bif (m_is_infinite c) then ((0 : Int), c)
    else let exact_ := (((m_units a) * (m_units b)) + ((m_units c) * 2 ^ ((24 : Int) : Int).toNat))
    (m_rounded_sum way exact_ (24 : Int) minus (m_is_minus c))))))
def m_with_rest_told (found : Int) (is_exact : Bool) : Int :=
    (bif is_exact then (found * 2 ^ ((1 : Int) : Int).toNat) else (Builtin.bitOr (found * 2 ^ ((1 : Int) : Int).toNat) (1 : Int)))
def m_divide (way : Int) (a : Int) (b : Int) : Int × Int :=
    (m_no_number_answer [a, b]).getD ((bif (((m_is_zero a) && (m_is_zero b)) || ((m_is_infinite a) && (m_is_infinite b))) then m_invalid_answer
    else let minus := (m_unlike_signs a b)
    (bif (m_is_infinite a) then ((0 : Int), (m_with_sign minus (31744 : Int)))
    else (bif (m_is_infinite b) then ((0 : Int), (m_with_sign minus (0 : Int)))
    else (bif (m_is_zero b) then ((2 : Int), (m_with_sign minus (31744 : Int)))
    else let dividend := ((m_magnitude_units a) * 2 ^ (((24 : Int) + (2 : Int)) : Int).toNat)
    let quotient := (dividend / (m_magnitude_units b))
    let is_exact := (decide ((quotient * (m_magnitude_units b)) = dividend))
    (m_rounded_half way minus (m_with_rest_told quotient is_exact) ((2 : Int) + (1 : Int))))))))
def m_whole_root (square : Int) : Int := ((Sb06.rootBelow square.toNat 64 0 : Nat) : Int)
def m_square_root (way : Int) (a : Int) : Int × Int :=
    (m_no_number_answer [a]).getD ((bif (m_is_zero a) then ((0 : Int), a)
    else (bif (m_is_minus a) then m_invalid_answer
    else (bif (m_is_infinite a) then ((0 : Int), a)
    else let square := ((m_magnitude_units a) * 2 ^ ((((24 : Int) + (2 : Int)) + (2 : Int)) : Int).toNat)
    let root := (m_whole_root square)
    (m_rounded_half way false (m_with_rest_told root (decide ((root * root) = square))) ((2 : Int) + (1 : Int)))))))
def m_second_where_no_number (b : Int) : Int × Int :=
    ((1 : Int), (bif (m_is_no_number b) then (32256 : Int) else b))
def m_lesser (a : Int) (b : Int) : Int × Int :=
    (bif ((m_is_no_number a) || (m_is_no_number b)) then (m_second_where_no_number b)
    else ((0 : Int), (bif (decide ((m_rank a) < (m_rank b))) then a else b)))
def m_greater (a : Int) (b : Int) : Int × Int :=
    (bif ((m_is_no_number a) || (m_is_no_number b)) then (m_second_where_no_number b)
    else ((0 : Int), (bif (decide ((m_rank b) < (m_rank a))) then a else b)))
def m_exponent (a : Int) : Int × Int :=
    (m_no_number_answer [a]).getD ((bif (m_is_zero a) then ((0 : Int), (64512 : Int))
    else (bif (m_is_infinite a) then ((0 : Int), (31744 : Int))
    else let power := ((((Builtin.Int.intBits (m_magnitude_units a) : Nat) : Int) - (1 : Int)) - (24 : Int))
    (m_rounded_number (0 : Int) power))))
def m_without_exponent (a : Int) : Int × Int :=
    (m_no_number_answer [a]).getD (let minus := (m_is_minus a)
    (bif ((m_is_zero a) || (m_is_infinite a)) then ((0 : Int), (m_with_sign minus (15360 : Int)))
    else let magnitude := (m_magnitude_units a)
    (m_rounded_half (0 : Int) minus (magnitude * 2 ^ ((24 : Int) : Int).toNat) (((Builtin.Int.intBits magnitude : Nat) : Int) - (1 : Int)))))
def m_scaled_without_end (a : Int) (b : Int) : Int × Int :=
    (bif (m_is_minus b) then (bif (m_is_infinite a) then m_invalid_answer else ((0 : Int), (m_with_sign (m_is_minus a) (0 : Int))))
    else (bif (m_is_zero a) then m_invalid_answer else ((0 : Int), (m_with_sign (m_is_minus a) (31744 : Int)))))
def m_scaled (way : Int) (a : Int) (b : Int) : Int × Int :=
    (m_no_number_answer [a, b]).getD ((bif (m_is_infinite b) then (m_scaled_without_end a b)
    else (bif ((m_is_zero a) || (m_is_infinite a)) then ((0 : Int), a)
    else let power := (if (64 : Int) < (if (-(64 : Int)) > ((m_units b) / 2 ^ ((24 : Int) : Int).toNat) then (-(64 : Int)) else ((m_units b) / 2 ^ ((24 : Int) : Int).toNat)) then (64 : Int) else (if (-(64 : Int)) > ((m_units b) / 2 ^ ((24 : Int) : Int).toNat) then (-(64 : Int)) else ((m_units b) / 2 ^ ((24 : Int) : Int).toNat)))
    (m_rounded_by_power way (m_is_minus a) (m_magnitude_units a) power))))
def m_nearby_whole (way : Int) (a : Int) : Int × Int :=
    let magnitude := (m_magnitude_units a)
    let whole := (m_rounded_whole way (m_is_minus a) magnitude (24 : Int))
    ((bif (decide ((whole * 2 ^ ((24 : Int) : Int).toNat) = magnitude)) then (0 : Int) else (16 : Int)), whole)
def m_whole_part (way : Int) (a : Int) : Int × Int :=
    (m_no_number_answer [a]).getD ((bif (m_is_infinite a) then ((0 : Int), a)
    else let found := (m_nearby_whole way a)
    (found.1, (m_rounded_half way (m_is_minus a) (found.2 * 2 ^ ((24 : Int) : Int).toNat) (0 : Int)).2)))
def m_less_whole_part (way : Int) (a : Int) : Int × Int :=
    (bif (m_is_infinite a) then ((0 : Int), (0 : Int))
    else let rest := (m_add way a (m_negated (m_whole_part way a).2))
    (bif (m_is_zero rest.2) then ((0 : Int), (0 : Int)) else rest))
def m_basic_step (op : Int) (way : Int) (a : Int) (b : Int) : Int × Int :=
    (bif (decide (op = (0 : Int))) then (m_add way a b)
    else (bif (decide (op = (1 : Int))) then (m_add way a (m_negated b))
    else (bif (decide (op = (2 : Int))) then (m_multiply way a b)
    else (bif (decide (op = (3 : Int))) then (m_divide way a b)
    else (m_square_root way a)))))
def m_fused_op (op : Int) (lane : Int) : Int :=
    (bif (decide (op = (9 : Int))) then (bif (decide ((Builtin.bitAnd lane (1 : Int)) = (0 : Int))) then (6 : Int) else (5 : Int))
    else (bif (decide (op = (10 : Int))) then (bif (decide ((Builtin.bitAnd lane (1 : Int)) = (0 : Int))) then (5 : Int) else (6 : Int))
    else op))
def m_fused_step (op : Int) (way : Int) (a : Int) (b : Int) (c : Int) : Int × Int :=
    (bif (decide (op = (5 : Int))) then (m_multiply_and_add way a b c)
    else (bif (decide (op = (6 : Int))) then (m_multiply_and_add way a b (m_negated c))
    else (bif (decide (op = (7 : Int))) then (m_multiply_and_add way (m_negated a) b c)
    else (m_multiply_and_add way (m_negated a) b (m_negated c)))))
def m_parts_step (op : Int) (way : Int) (a : Int) (b : Int) : Int × Int :=
    (bif (decide (op = (11 : Int))) then (m_lesser a b)
    else (bif (decide (op = (12 : Int))) then (m_greater a b)
    else (bif (decide (op = (13 : Int))) then (m_exponent a)
    else (bif (decide (op = (14 : Int))) then (m_without_exponent a)
    else (bif (decide (op = (15 : Int))) then (m_scaled way a b)
    else (bif (decide (op = (16 : Int))) then (m_whole_part way a)
    else (m_less_whole_part way a)))))))
def m_step (op : Int) (way : Int) (lane : Int) (a : Int) (b : Int) (c : Int) : Int × Int :=
    (bif (decide (op < (5 : Int))) then (m_basic_step op way a b)
    else (bif (decide (op < (11 : Int))) then (m_fused_step (m_fused_op op lane) way a b c)
    else (m_parts_step op way a b)))
def m_refused (count : Int) : List Int := (2147483648 : Int) :: List.replicate count.toNat 0
def m_together_raised : List (Int × Int) → Int → Int
  | [], r => r
  | x :: t, r => m_together_raised t (Builtin.bitOr r x.1)
def m_together (l : List (Int × Int)) : List Int := m_together_raised l 0 :: l.map (fun x => x.2)
def m_do (op way : Int) (l l' l'' : List Int) : List Int :=
    bif (decide ((17 : Int) < op) || decide ((3 : Int) < way)) then m_refused 32
    else m_together ((List.range 32).map fun (j : Nat) => m_step op way (j : Int) (l.getD j 0) (l'.getD j 0) (l''.getD j 0))
def m_relation (a : Int) (b : Int) : Int :=
    (bif ((m_is_no_number a) || (m_is_no_number b)) then (8 : Int)
    else (bif (decide ((m_rank a) < (m_rank b))) then (1 : Int)
    else (bif (decide ((m_rank a) = (m_rank b))) then (2 : Int) else (4 : Int))))
def m_raised_by_comparing (how : Int) (a : Int) (b : Int) : Int :=
    (bif (!decide ((Builtin.bitAnd how (16 : Int)) = (0 : Int))) then (bif ((m_is_no_number a) || (m_is_no_number b)) then (1 : Int) else (0 : Int))
    else (bif ((m_is_signalling a) || (m_is_signalling b)) then (1 : Int) else (0 : Int)))
def m_holds_raised (how : Int) (l l' : List Int) : Nat → Int
  | 0 => 0
  | i + 1 => Builtin.bitOr (m_holds_raised how l l' i) (m_raised_by_comparing how (l.getD i 0) (l'.getD i 0))
def m_holds_found (how : Int) (l l' : List Int) : Nat → Int
  | 0 => 0
  | i + 1 => bif (!decide ((Builtin.bitAnd how (m_relation (l.getD i 0) (l'.getD i 0))) = (0 : Int))) then (Builtin.bitOr (m_holds_found how l l' i) ((1 : Int) * 2 ^ ((i : Nat) : Int).toNat)) else m_holds_found how l l' i
def m_holds (how : Int) (l l' : List Int) : List Int := bif decide ((31 : Int) < how) then m_refused 1 else [m_holds_raised how l l' 32, m_holds_found how l l' 32]
def m_is_denormal (half : Int) : Bool :=
    let magnitude := (Builtin.bitAnd half (32767 : Int))
    ((!decide (magnitude = (0 : Int))) && (decide (magnitude < (1024 : Int))))
def m_kinds_of (half : Int) : Int :=
    (bif (m_is_no_number half) then (bif (m_is_signalling half) then (128 : Int) else (1 : Int))
    else (bif (m_is_zero half) then (bif (m_is_minus half) then (4 : Int) else (2 : Int))
    else (bif (m_is_infinite half) then (bif (m_is_minus half) then (16 : Int) else (8 : Int))
    else (Builtin.bitOr (bif (m_is_denormal half) then (32 : Int) else (0 : Int)) (bif (m_is_minus half) then (64 : Int) else (0 : Int))))))
def m_is_kind_found (which : Int) (l : List Int) : Nat → Int
  | 0 => 0
  | i + 1 => bif (!decide ((Builtin.bitAnd which (m_kinds_of (l.getD i 0))) = (0 : Int))) then (Builtin.bitOr (m_is_kind_found which l i) ((1 : Int) * 2 ^ ((i : Nat) : Int).toNat)) else m_is_kind_found which l i
def m_is_kind (which : Int) (l : List Int) : List Int := [0, m_is_kind_found which l 32]
def m_where (mask : Int) (l l' : List Int) : List Int := [0] ++ (List.range 32).map fun (j : Nat) => bif decide (Builtin.bitAnd (mask / 2 ^ ((j : Nat) : Int).toNat) 1 = 1) then l'.getD j 0 else l.getD j 0
def m_two_products (way : Int) (a : Int) (b : Int) (c : Int) (d : Int) : Int × Int :=
    let first := (m_multiply way a b)
    let last := (m_multiply_and_add way c d first.2)
    ((Builtin.bitOr first.1 last.1), last.2)
def m_real_part (way : Int) (x_real : Int) (x_imaginary : Int) (y_real : Int) (y_imaginary : Int) : Int × Int :=
    (m_two_products way x_real y_real (m_negated x_imaginary) y_imaginary)
def m_imaginary_part (way : Int) (x_real : Int) (x_imaginary : Int) (y_real : Int) (y_imaginary : Int) : Int × Int :=
    (m_two_products way x_imaginary y_real x_real y_imaginary)
def m_times_part (other way : Int) (l l' : List Int) (j : Nat) : Int × Int :=
    let y := bif decide (other = 1) then m_negated (l'.getD (j / 2 * 2 + 1) 0) else l'.getD (j / 2 * 2 + 1) 0
    if j % 2 = 0 then m_real_part way (l.getD (j / 2 * 2) 0) (l.getD (j / 2 * 2 + 1) 0) (l'.getD (j / 2 * 2) 0) y else m_imaginary_part way (l.getD (j / 2 * 2) 0) (l.getD (j / 2 * 2 + 1) 0) (l'.getD (j / 2 * 2) 0) y
def m_times (other way : Int) (l l' : List Int) : List Int :=
    bif (decide ((1 : Int) < other) || decide ((3 : Int) < way)) then m_refused 32
    else m_together ((List.range 32).map (m_times_part other way l l'))
def m_out_of_range (kind : Int) : Int × Int :=
    ((1 : Int), (bif (decide (kind = (0 : Int))) then (32768 : Int) else (65535 : Int)))
def m_as_whole (kind : Int) (way : Int) (a : Int) : Int × Int :=
    (bif ((m_is_no_number a) || (m_is_infinite a)) then (m_out_of_range kind)
    else let found := (m_nearby_whole way a)
    let number := (bif (m_is_minus a) then (-found.2) else found.2)
    let least := (bif (decide (kind = (0 : Int))) then (-32768 : Int) else (0 : Int))
    (bif ((decide (number < least)) || (decide ((least + (65536 : Int)) ≤ number))) then (m_out_of_range kind)
    else (found.1, (bif (decide (number < (0 : Int))) then (number + (65536 : Int)) else number))))
def m_whole (kind way : Int) (l : List Int) : List Int :=
    bif (decide ((1 : Int) < kind) || decide ((3 : Int) < way)) then m_refused 32
    else m_together ((List.range 32).map fun (j : Nat) => m_as_whole kind way (l.getD j 0))
def m_of_whole (kind : Int) (way : Int) (z : Int) : Int × Int :=
    (bif ((decide (kind = (0 : Int))) && (decide ((32767 : Int) < z))) then (m_rounded_number way (z - (65536 : Int)))
    else (m_rounded_number way z))
def m_of (kind way : Int) (l : List Int) : List Int :=
    bif (decide ((1 : Int) < kind) || decide ((3 : Int) < way)) then m_refused 32
    else m_together ((List.range 32).map fun (j : Nat) => m_of_whole kind way (l.getD j 0))
def m_sign_of (form : Int × Int) : Int :=
    ((1 : Int) * 2 ^ ((form.1 + form.2) : Int).toNat)
def m_infinity_of (form : Int × Int) : Int :=
    ((m_sign_of form) - ((1 : Int) * 2 ^ (form.2 : Int).toNat))
def m_quiet_bit_of (form : Int × Int) : Int :=
    ((1 : Int) * 2 ^ ((form.2 - (1 : Int)) : Int).toNat)
def m_bias_of (form : Int × Int) : Int :=
    (((1 : Int) * 2 ^ ((form.1 - (1 : Int)) : Int).toNat) - (1 : Int))
def m_widened_magnitude (form : Int × Int) (a : Int) : Int :=
    (bif (m_is_zero a) then (0 : Int)
    else (bif (m_is_infinite a) then (m_infinity_of form)
    else let magnitude := (m_magnitude_units a)
    let power := (((Builtin.Int.intBits magnitude : Nat) : Int) - (1 : Int))
    let exponent := (((power - (24 : Int)) + (m_bias_of form)) - (1 : Int))
    ((exponent * 2 ^ (form.2 : Int).toNat) + ((magnitude * 2 ^ (form.2 : Int).toNat) / 2 ^ (power : Int).toNat))))
def m_widened (form : Int × Int) (a : Int) : Int × Int :=
    (m_no_number_answer [a]).elim (let magnitude := (m_widened_magnitude form a)
    ((0 : Int), (bif (m_is_minus a) then (Builtin.bitOr magnitude (m_sign_of form)) else magnitude))) (fun r6 => (r6.1, (Builtin.bitOr (m_infinity_of form) (m_quiet_bit_of form))))
def m_to_float (l : List Int) : List Int := m_together ((List.range 16).map fun (j : Nat) => m_widened (8, 23) (l.getD j 0))
def m_rounded_magnitude (form : Int × Int) (way : Int) (minus : Bool) (magnitude : Int) : Int × Int :=
    let exponent := (magnitude / 2 ^ (form.2 : Int).toNat)
    let significand := (magnitude - (exponent * 2 ^ (form.2 : Int).toNat))
    let significand' := (bif (!decide (exponent = (0 : Int))) then (significand + ((1 : Int) * 2 ^ (form.2 : Int).toNat)) else significand)
    let power := (((if (1 : Int) > exponent then (1 : Int) else exponent) - (m_bias_of form)) - form.2)
    (m_rounded_by_power way minus significand' (power + (24 : Int)))
def m_narrowed (form : Int × Int) (way : Int) (x : Int) : Int × Int :=
    let minus := (decide ((m_sign_of form) ≤ x))
    let magnitude := (Builtin.bitAnd x ((m_sign_of form) - (1 : Int)))
    (bif (decide ((m_infinity_of form) < magnitude)) then (bif (!decide ((Builtin.bitAnd magnitude (m_quiet_bit_of form)) = (0 : Int))) then ((0 : Int), (32256 : Int)) else m_invalid_answer)
    else (bif (decide (magnitude = (m_infinity_of form))) then ((0 : Int), (m_with_sign minus (31744 : Int)))
    else (m_rounded_magnitude form way minus magnitude)))
def m_of_float (way : Int) (l : List Int) : List Int :=
    bif decide ((3 : Int) < way) then m_refused 16
    else m_together ((List.range 16).map fun (j : Nat) => m_narrowed (8, 23) way (l.getD j 0))
def m_to_double (l : List Int) : List Int := m_together ((List.range 8).map fun (j : Nat) => m_widened (11, 52) (l.getD j 0))
def m_of_double (way : Int) (l : List Int) : List Int :=
    bif decide ((3 : Int) < way) then m_refused 8
    else m_together ((List.range 8).map fun (j : Nat) => m_narrowed (11, 52) way (l.getD j 0))
def m_sum_steps (way : Int) : List Int → Int × Int → Int × Int
  | [], r => r
  | x :: l, r => m_sum_steps way l (Builtin.bitOr r.1 (m_add way r.2 x).1, (m_add way r.2 x).2)
def m_sum_in_order (way : Int) (l : List Int) : Int × Int := m_sum_steps way l (0, 0)
def m_sum_of (way : Int) (l : List Int) : List Int :=
    bif (decide ((3 : Int) < way) || decide ((65536 : Int) < (l.length : Int))) then m_refused 1
    else [(m_sum_in_order way l).1, (m_sum_in_order way l).2]
def m_horner_steps (way x : Int) : List Int → Int × Int → Int × Int
  | [], r => r
  | c :: l, r => m_horner_steps way x l (Builtin.bitOr r.1 (m_multiply_and_add way r.2 x c).1, (m_multiply_and_add way r.2 x c).2)
def m_polynomial (way x : Int) (l : List Int) : Int × Int :=
    bif decide ((l.length : Int) = 0) then (0, 0)
    else m_horner_steps way x (l.reverse.drop 1) (m_multiply way (l.getD (l.length - 1) 0) 15360)
def m_poly (way x : Int) (l : List Int) : List Int :=
    bif (decide ((3 : Int) < way) || decide ((65536 : Int) < (l.length : Int))) then m_refused 1
    else [(m_polynomial way x l).1, (m_polynomial way x l).2]
def m_place (half : Int) : Int :=
    (bif (m_is_minus half) then ((m_rank half) - (1 : Int)) else (m_rank half))
def m_told (x : Int) : Int := bif m_is_no_number x then 32256 else x
def m_in_order (l : List Int) : List Int := (((Sb06Neutral.nats l).map Sb06.told).mergeSort fun (p q : Nat) => decide (Sb06.place p ≤ Sb06.place q)).map fun (y : Nat) => (y : Int)
def m_order (l : List Int) : List Int :=
    bif decide ((65536 : Int) < (l.length : Int)) then m_refused 0
    else [0] ++ m_in_order l
end Hd

namespace Hd
open PySem PyProof.Rows
/-! ### what a half is -/
theorem minus_eq (b : Nat) (hb : b < 65536) : m_is_minus (b : Int) = Sb06.negative b := by
  unfold m_is_minus Sb06.negative
  rw [Bool.eq_iff_iff, decide_eq_true_eq, beq_iff_eq]
  omega
theorem nan_eq (b : Nat) : m_is_no_number (b : Int) = Sb06.isNaN b := by
  unfold m_is_no_number Sb06.isNaN Sb06.exponent Sb06.fraction
  rw [and_mag, Bool.eq_iff_iff, decide_eq_true_eq, Bool.and_eq_true, beq_iff_eq, bne_iff_ne]
  omega
theorem inf_eq (b : Nat) : m_is_infinite (b : Int) = Sb06.isInf b := by
  unfold m_is_infinite Sb06.isInf Sb06.exponent Sb06.fraction
  rw [and_mag, Bool.eq_iff_iff, decide_eq_true_eq, Bool.and_eq_true, beq_iff_eq, beq_iff_eq]
  omega
theorem mag0 (b : Nat) : Sb06.magnitude b = 0 ↔ b % 32768 = 0 := by
  unfold Sb06.magnitude Sb06.exponent Sb06.fraction
  split
  · omega
  · have h : 0 < 2 ^ (b / 2 ^ 10 % 2 ^ 5 - 1) := Nat.two_pow_pos _
    have h2 : 0 < (2 ^ 10 + b % 2 ^ 10) * 2 ^ (b / 2 ^ 10 % 2 ^ 5 - 1) := Nat.mul_pos (by omega) h
    omega
theorem zero_eq (b : Nat) : m_is_zero (b : Int) = Sb06.isZero b := by
  unfold m_is_zero Sb06.isZero
  rw [and_mag, Bool.eq_iff_iff, decide_eq_true_eq, Bool.and_eq_true, bne_iff_ne, beq_iff_eq, mag0]
  unfold Sb06.exponent
  omega
theorem sig_eq (b : Nat) : m_is_signalling (b : Int) = Sb06.signalling b := by
  unfold m_is_signalling Sb06.signalling
  rw [nan_eq]
  congr 1
  rw [Bool.eq_iff_iff, decide_eq_true_eq, beq_iff_eq, and_quiet]
end Hd

namespace Hd
open PySem PyProof.Rows
/-! ### the order of magnitudes -/
def mgn (m : Nat) : Nat := if m / 1024 = 0 then m else (1024 + m % 1024) * 2 ^ (m / 1024 - 1)
theorem mag_mgn (b : Nat) : Sb06.magnitude b = mgn (b % 32768) := by
  unfold Sb06.magnitude mgn Sb06.exponent Sb06.fraction
  have e1 : b / 2 ^ 10 % 2 ^ 5 = b % 32768 / 1024 := by omega
  have e2 : b % 2 ^ 10 = b % 32768 % 1024 := by omega
  rw [e1, e2]
  by_cases h : b % 32768 / 1024 = 0
  · rw [if_pos h, if_pos h]
    omega
  · rw [if_neg h, if_neg h]
theorem mgn_step (m : Nat) : mgn m < mgn (m + 1) := by
  unfold mgn
  by_cases hf : m % 1024 = 1023
  · have e1 : (m + 1) / 1024 = m / 1024 + 1 := by omega
    have e2 : (m + 1) % 1024 = 0 := by omega
    rw [e1, e2, hf, if_neg (Nat.succ_ne_zero _), Nat.add_sub_cancel]
    by_cases he : m / 1024 = 0
    · rw [if_pos he, he]
      omega
    · rw [if_neg he]
      obtain ⟨k, hk⟩ : ∃ k, m / 1024 = k + 1 := ⟨m / 1024 - 1, by omega⟩
      rw [hk, Nat.add_sub_cancel, Nat.pow_succ]
      have := Nat.two_pow_pos k
      omega
  · have e1 : (m + 1) / 1024 = m / 1024 := by omega
    have e2 : (m + 1) % 1024 = m % 1024 + 1 := by omega
    rw [e1, e2]
    by_cases he : m / 1024 = 0
    · rw [if_pos he, if_pos he]
      omega
    · rw [if_neg he, if_neg he]
      exact Nat.mul_lt_mul_of_pos_right (by omega) (Nat.two_pow_pos _)
theorem mgn_lt {m n : Nat} (h : m < n) : mgn m < mgn n := by
  obtain ⟨d, rfl⟩ : ∃ d, n = m + d + 1 := ⟨n - m - 1, by omega⟩
  induction d with
  | zero => exact mgn_step m
  | succ d ih => exact Nat.lt_trans (ih (by omega)) (mgn_step _)
/-- the magnitude with infinity behind all -/
def mgi (m : Nat) : Nat := if m = 31744 then 2 ^ 41 else mgn m
theorem mgi_lt {m n : Nat} (h : m < n) (hn : n ≤ 31744) : mgi m < mgi n := by
  unfold mgi
  rw [if_neg (by omega)]
  split
  · have h1 : mgn m < mgn 31744 := mgn_lt (by omega)
    have h2 : mgn 31744 = 2 ^ 40 := by decide
    omega
  · exact mgn_lt h
theorem mgi_zero : mgi 0 = 0 := by decide
theorem rank_mgi (b : Nat) (hn : Sb06.isNaN b = false) : b % 32768 ≤ 31744 ∧ Sb06.rank b = if Sb06.negative b = true then -((mgi (b % 32768) : Nat) : Int) else ((mgi (b % 32768) : Nat) : Int) := by
  have h1 : b % 32768 ≤ 31744 := by
    rw [← nan_eq] at hn
    unfold m_is_no_number at hn
    rw [and_mag, decide_eq_false_iff_not] at hn
    omega
  refine ⟨h1, ?_⟩
  have hi := inf_eq b
  unfold m_is_infinite at hi
  rw [and_mag] at hi
  unfold Sb06.rank mgi
  rw [← hi]
  by_cases e : b % 32768 = 31744
  · rw [if_pos (by rw [decide_eq_true_eq]; omega), if_pos e]
    rfl
  · rw [if_neg (by rw [decide_eq_true_eq]; omega), if_neg e]
    unfold Sb06.number
    rw [mag_mgn]
theorem rank_m (b : Nat) (hb : b < 65536) : m_rank (b : Int) = if Sb06.negative b = true then -((b % 32768 : Nat) : Int) else ((b % 32768 : Nat) : Int) := by
  unfold m_rank
  rw [and_mag, minus_eq b hb]
  cases Sb06.negative b <;> rfl
theorem mgi_le {m n : Nat} (h : m ≤ n) (hn : n ≤ 31744) : mgi m ≤ mgi n := by
  rcases Nat.lt_or_eq_of_le h with h | h
  · exact Nat.le_of_lt (mgi_lt h hn)
  · rw [h]; exact Nat.le_refl _
theorem mgi_pos {m : Nat} (h : 0 < m) (hm : m ≤ 31744) : 0 < mgi m := by
  have := mgi_lt h hm
  rw [mgi_zero] at this
  exact this
/-- ranks stand to one another as the program's do -/
theorem rank_lt (a b : Nat) (ha : a < 65536) (hb : b < 65536) (na : Sb06.isNaN a = false) (nb : Sb06.isNaN b = false) : (m_rank (a : Int) < m_rank (b : Int) ↔ Sb06.rank a < Sb06.rank b) ∧ (m_rank (a : Int) = m_rank (b : Int) ↔ Sb06.rank a = Sb06.rank b) := by
  obtain ⟨h1, e1⟩ := rank_mgi a na
  obtain ⟨h2, e2⟩ := rank_mgi b nb
  rw [e1, e2, rank_m a ha, rank_m b hb]
  generalize a % 32768 = m at *
  generalize b % 32768 = n at *
  have p1 : 0 < m → 0 < mgi m := fun h => mgi_pos h h1
  have p2 : 0 < n → 0 < mgi n := fun h => mgi_pos h h2
  have z1 : m = 0 → mgi m = 0 := fun h => by rw [h]; exact mgi_zero
  have z2 : n = 0 → mgi n = 0 := fun h => by rw [h]; exact mgi_zero
  have l1 : m < n → mgi m < mgi n := fun h => mgi_lt h h2
  have l2 : n < m → mgi n < mgi m := fun h => mgi_lt h h1
  have l3 : m = n → mgi m = mgi n := fun h => by rw [h]
  cases Sb06.negative a <;> cases Sb06.negative b <;> simp only [if_true, if_false, Bool.false_eq_true] <;> constructor <;> constructor <;> intro h <;> omega
theorem relation_eq (a b : Nat) (ha : a < 65536) (hb : b < 65536) : m_relation (a : Int) (b : Int) = (Sb06.relation a b : Nat) := by
  unfold m_relation Sb06.relation
  rw [nan_eq, nan_eq]
  cases na : Sb06.isNaN a with
  | true => rfl
  | false =>
    cases nb : Sb06.isNaN b with
    | true => rfl
    | false =>
      obtain ⟨r1, r2⟩ := rank_lt a b ha hb na nb
      rw [if_neg (show ¬ (false = true ∨ false = true) by simp)]
      by_cases h1 : Sb06.rank a < Sb06.rank b
      · rw [if_pos h1, decide_eq_true (r1.mpr h1)]
        rfl
      · rw [if_neg h1, decide_eq_false (fun q => h1 (r1.mp q))]
        by_cases h2 : Sb06.rank a = Sb06.rank b
        · rw [if_pos h2, decide_eq_true (r2.mpr h2)]
          rfl
        · rw [if_neg h2, decide_eq_false (fun q => h2 (r2.mp q))]
          rfl
theorem rel_pow (a b : Nat) : Sb06.relation a b = 2 ^ Nat.log2 (Sb06.relation a b) ∧ (Sb06.relation a b = 8 ↔ Sb06.isNaN a = true ∨ Sb06.isNaN b = true) := by
  unfold Sb06.relation
  by_cases h : Sb06.isNaN a = true ∨ Sb06.isNaN b = true
  · rw [if_pos h]
    exact ⟨by decide, by simp [h]⟩
  · rw [if_neg h]
    split
    · exact ⟨by decide, by simp [h]⟩
    · split
      · exact ⟨by decide, by simp [h]⟩
      · exact ⟨by decide, by simp [h]⟩
theorem and_rel (how a b : Nat) (ha : a < 65536) (hb : b < 65536) : (!decide (Builtin.bitAnd (how : Int) (m_relation (a : Int) (b : Int)) = 0)) = Sb06.holds how a b := by
  rw [relation_eq a b ha hb, and_nat]
  unfold Sb06.holds
  rw [(rel_pow a b).1]
  generalize Nat.log2 (Sb06.relation a b) = i
  have e := and_pow0 how i
  rw [Nat.log2_two_pow, Nat.testBit_eq_decide_div_mod_eq]
  by_cases h : how / 2 ^ i % 2 = 1
  · have h0 : ¬ (how &&& 2 ^ i) = 0 := fun q => by have := e.mp q; omega
    rw [decide_eq_true h, decide_eq_false (by omega)]
    rfl
  · have h0 : (how &&& 2 ^ i) = 0 := e.mpr (by omega)
    rw [h0, decide_eq_false h]
    rfl
theorem cmp_eq (how a b : Nat) : m_raised_by_comparing (how : Int) (a : Int) (b : Int) = (Sb06.heldRaises how a b : Nat) := by
  unfold m_raised_by_comparing Sb06.heldRaises
  have h16 := and_nat how 16
  rw [show ((16 : Nat) : Int) = 16 from rfl] at h16
  rw [h16, nan_eq, nan_eq, sig_eq, sig_eq, Nat.testBit_eq_decide_div_mod_eq]
  have e := and_pow0 how 4
  rw [show (2 : Nat) ^ 4 = 16 from rfl] at e
  have hr := (rel_pow a b).2
  have sa : Sb06.signalling a = true → Sb06.isNaN a = true := fun h => by unfold Sb06.signalling at h; rw [Bool.and_eq_true] at h; exact h.1
  have sb : Sb06.signalling b = true → Sb06.isNaN b = true := fun h => by unfold Sb06.signalling at h; rw [Bool.and_eq_true] at h; exact h.1
  by_cases h : how / 16 % 2 = 1
  · have h0 : ¬ (how &&& 16) = 0 := fun q => by have := e.mp q; omega
    rw [show (2 : Nat) ^ 4 = 16 from rfl, decide_eq_true h, decide_eq_false (show ¬ (((how &&& 16 : Nat) : Int) = 0) by omega)]
    by_cases hn : Sb06.isNaN a = true ∨ Sb06.isNaN b = true
    · rw [if_pos (.inr (.inr ⟨rfl, hr.mpr hn⟩))]
      have : (Sb06.isNaN a || Sb06.isNaN b) = true := by rw [Bool.or_eq_true]; exact hn
      rw [this]
      rfl
    · rw [if_neg (by rintro (q | q | ⟨_, q⟩); exact hn (.inl (sa q)); exact hn (.inr (sb q)); exact hn (hr.mp q))]
      have : (Sb06.isNaN a || Sb06.isNaN b) = false := by rw [Bool.eq_false_iff, ne_eq, Bool.or_eq_true]; exact hn
      rw [this]
      rfl
  · have h0 : (how &&& 16) = 0 := e.mpr (by omega)
    rw [show (2 : Nat) ^ 4 = 16 from rfl, decide_eq_false h, h0]
    by_cases hn : Sb06.signalling a = true ∨ Sb06.signalling b = true
    · rw [if_pos (by rcases hn with q | q; exact .inl q; exact .inr (.inl q))]
      have : (Sb06.signalling a || Sb06.signalling b) = true := by rw [Bool.or_eq_true]; exact hn
      rw [this]
      rfl
    · rw [if_neg (by rintro (q | q | ⟨q, _⟩); exact hn (.inl q); exact hn (.inr q); cases q)]
      have : (Sb06.signalling a || Sb06.signalling b) = false := by rw [Bool.eq_false_iff, ne_eq, Bool.or_eq_true]; exact hn
      rw [this]
      rfl
theorem hfound_eq (how : Nat) (l l' : List Int) (h : ∀ x ∈ l, 0 ≤ x ∧ x ≤ 65535) (h' : ∀ x ∈ l', 0 ≤ x ∧ x ≤ 65535) : ∀ i, m_holds_found (how : Int) l l' i = ((accB (fun j => Sb06.holds how (Sb06.at_ (Sb06Neutral.nats l) j) (Sb06.at_ (Sb06Neutral.nats l') j)) i : Nat) : Int)
  | 0 => rfl
  | i + 1 => by
    have ih := hfound_eq how l l' h h' i
    obtain ⟨e1, e2⟩ := getD_nat h i
    obtain ⟨e3, e4⟩ := getD_nat h' i
    unfold m_holds_found accB
    rw [ih, e1, e3, and_rel _ _ _ e2 e4, one_shl, or_nat, or_pow _ _ (accB_lt _ i)]
    cases Sb06.holds how (Sb06.at_ (Sb06Neutral.nats l) i) (Sb06.at_ (Sb06Neutral.nats l') i) <;> rfl
theorem hraised_eq (how : Nat) (l l' : List Int) (h : ∀ x ∈ l, 0 ≤ x ∧ x ≤ 65535) (h' : ∀ x ∈ l', 0 ≤ x ∧ x ≤ 65535) : ∀ i, m_holds_raised (how : Int) l l' i = (((List.range i).foldl (fun r j => Sb06.join r (Sb06.heldRaises how (Sb06.at_ (Sb06Neutral.nats l) j) (Sb06.at_ (Sb06Neutral.nats l') j))) 0 : Nat) : Int)
  | 0 => rfl
  | i + 1 => by
    have ih := hraised_eq how l l' h h' i
    obtain ⟨e1, e2⟩ := getD_nat h i
    obtain ⟨e3, e4⟩ := getD_nat h' i
    unfold m_holds_raised
    rw [ih, e1, e3, cmp_eq, or_nat, List.range_succ, List.foldl_append]
    rfl
theorem holds_eq (how : Int) (l l' : List Int) (h0 : 0 ≤ how) (h : ∀ x ∈ l, 0 ≤ x ∧ x ≤ 65535) (h' : ∀ x ∈ l', 0 ≤ x ∧ x ≤ 65535) : m_holds how l l' = PySb06.holds how l l' := by
  obtain ⟨n, rfl⟩ : ∃ n : Nat, how = (n : Int) := ⟨how.toNat, by omega⟩
  unfold m_holds
  rw [hfound_eq n l l' h h' 32, hraised_eq n l l' h h' 32]
  unfold PySb06.holds Sb06Neutral.step
  show _ = ((Sb06Neutral.answered (.holds (Sb06Neutral.nats l) (Sb06Neutral.nats l') (n : Int).toNat)).raised : Int) :: (Sb06Neutral.answered (.holds (Sb06Neutral.nats l) (Sb06Neutral.nats l') (n : Int).toNat)).lanes.map fun (y : Nat) => (y : Int)
  rw [Int.toNat_natCast]
  unfold Sb06Neutral.answered
  by_cases hn : n < 32
  · rw [decide_eq_false (by omega)]
    simp only [if_pos hn]
    rw [bits_acc]
    rfl
  · rw [decide_eq_true (by omega)]
    simp only [if_neg hn]
    rfl
end Hd

namespace Hd
open PySem PyProof.Rows
/-! ### rounding -/
/-- a result as the program tells it: what it raised, then its half -/
def sw (x : Sb06.Result) : Int × Int := ((x.2 : Int), (x.1 : Int))
theorem dir_cases {wy : Nat} {d : Sb06.Dir} (h : Sb06.dirOf wy = some d) : (wy = 0 ∧ d = .near) ∨ (wy = 1 ∧ d = .down) ∨ (wy = 2 ∧ d = .up) ∨ (wy = 3 ∧ d = .zero) := by
  unfold Sb06.dirOf at h
  split at h
  · exact .inl ⟨by assumption, (Option.some.inj h).symm⟩
  · split at h
    · exact .inr (.inl ⟨by assumption, (Option.some.inj h).symm⟩)
    · split at h
      · exact .inr (.inr (.inl ⟨by assumption, (Option.some.inj h).symm⟩))
      · split at h
        · exact .inr (.inr (.inr ⟨by assumption, (Option.some.inj h).symm⟩))
        · cases h
theorem pow_cast (n : Nat) : (2 : Int) ^ n = ((2 ^ n : Nat) : Int) := by
  rw [Int.natCast_pow]
  rfl
theorem div_cast (N b : Nat) : (N : Int) / 2 ^ ((b : Nat) : Int).toNat = ((N / 2 ^ b : Nat) : Int) := by
  rw [Int.toNat_natCast, pow_cast]
  exact (Int.natCast_ediv N (2 ^ b)).symm
theorem mul_cast (N b : Nat) : (N : Int) * 2 ^ ((b : Nat) : Int).toNat = ((N * 2 ^ b : Nat) : Int) := by
  rw [Int.toNat_natCast, pow_cast]
  exact (Int.natCast_mul N (2 ^ b)).symm
theorem rest_cast (N b : Nat) : (N : Int) - ((N / 2 ^ b : Nat) : Int) * 2 ^ ((b : Nat) : Int).toNat = ((N % 2 ^ b : Nat) : Int) := by
  rw [mul_cast]
  have h := Nat.div_add_mod N (2 ^ b)
  rw [Nat.mul_comm] at h
  omega
theorem units_fst (w : Sb06.Way) (N u : Nat) : (Sb06.units w N u).1 = N / u ∨ (Sb06.units w N u).1 = N / u + 1 := by
  unfold Sb06.units
  cases w <;> simp only <;> split <;> simp
theorem rw_eq {wy : Nat} {d : Sb06.Dir} (hd : Sb06.dirOf wy = some d) (s : Bool) (N b : Nat) : m_rounded_whole (wy : Int) s (N : Int) (b : Int) = ((Sb06.units (Sb06.wayOf d s) N (2 ^ b)).1 : Nat) := by
  unfold m_rounded_whole
  dsimp only
  rw [div_cast, rest_cast, and_one]
  unfold Sb06.units
  have hu : 0 < 2 ^ b := Nat.two_pow_pos b
  have hr : N % 2 ^ b < 2 ^ b := Nat.mod_lt _ hu
  have hb : N % 2 ^ b ≠ 0 → 2 ^ b = 2 * 2 ^ (b - 1) ∧ (b : Int) - 1 = ((b - 1 : Nat) : Int) := fun h => by
    cases b with
    | zero => rw [Nat.pow_zero, Nat.mod_one] at h; exact absurd rfl h
    | succ n => exact ⟨by rw [Nat.add_sub_cancel, Nat.pow_succ]; omega, by omega⟩
  generalize hk : N / 2 ^ b = k
  generalize N % 2 ^ b = r at *
  by_cases h0 : r = 0
  · subst h0
    rw [decide_eq_true (by omega : ((0 : Nat) : Int) = 0)]
    rcases Sb06.wayOf d s with _ | _ | _ <;> simp <;> (try split) <;> omega
  · obtain ⟨h1, h2⟩ := hb h0
    rw [decide_eq_false (by omega : ¬ ((r : Nat) : Int) = 0), h2, one_shl]
    generalize 2 ^ (b - 1) = hw at *
    rw [h1] at hr hu ⊢
    unfold m_goes_outward
    rcases dir_cases hd with ⟨rfl, rfl⟩ | ⟨rfl, rfl⟩ | ⟨rfl, rfl⟩ | ⟨rfl, rfl⟩
    · simp only [Sb06.wayOf]
      have e1 : (decide ((hw : Int) < (r : Int)) || (decide ((r : Int) = (hw : Int)) && decide (((k % 2 : Nat) : Int) = 1))) = (decide (2 * hw < 2 * r) || (decide (2 * r = 2 * hw) && k % 2 == 1)) := by
        rw [Bool.eq_iff_iff]
        simp only [Bool.or_eq_true, Bool.and_eq_true, decide_eq_true_eq, beq_iff_eq]
        omega
      rw [e1]
      cases (decide (2 * hw < 2 * r) || (decide (2 * r = 2 * hw) && k % 2 == 1)) <;> simp
    · cases s <;> simp [Sb06.wayOf] <;> (try split) <;> omega
    · cases s <;> simp [Sb06.wayOf] <;> (try split) <;> omega
    · cases s <;> simp [Sb06.wayOf] <;> (try split) <;> omega
theorem log2_of {v i : Nat} (h1 : 2 ^ i ≤ v) (h2 : v < 2 ^ (i + 1)) : Nat.log2 v = i := by
  have hv : v ≠ 0 := by have := Nat.two_pow_pos i; omega
  exact (Nat.log2_eq_iff hv).mpr ⟨h1, h2⟩
theorem log2_bounds {v : Nat} (h : v ≠ 0) : 2 ^ Nat.log2 v ≤ v ∧ v < 2 ^ (Nat.log2 v + 1) := (Nat.log2_eq_iff h).mp rfl
theorem log2_div (N b : Nat) (h : N ≠ 0) : Nat.log2 (N / 2 ^ b) = Nat.log2 N - b := by
  obtain ⟨h1, h2⟩ := log2_bounds h
  have hu : 0 < 2 ^ b := Nat.two_pow_pos b
  by_cases hb : b ≤ Nat.log2 N
  · obtain ⟨c, hc⟩ : ∃ c, Nat.log2 N = c + b := ⟨Nat.log2 N - b, by omega⟩
    rw [hc] at h1 h2 ⊢
    rw [Nat.add_sub_cancel]
    refine log2_of ?_ ?_
    · rw [Nat.le_div_iff_mul_le hu, ← Nat.pow_add]
      exact h1
    · rw [Nat.div_lt_iff_lt_mul hu, ← Nat.pow_add]
      rw [show c + 1 + b = c + b + 1 by omega]
      exact h2
  · have h3 : N < 2 ^ b := Nat.lt_of_lt_of_le h2 (Nat.pow_le_pow_right (by decide) (by omega))
    rw [Nat.div_eq_of_lt h3]
    have : Nat.log2 0 = 0 := by decide
    omega
theorem bits_nat (N : Nat) : Builtin.Int.intBits (N : Int) = if N = 0 then 0 else Nat.log2 N + 1 := by
  unfold Builtin.Int.intBits
  by_cases h : N = 0
  · subst h
    rfl
  · rw [if_neg (by rw [beq_iff_eq]; omega), if_neg h, Int.natAbs_natCast]
theorem dropped_eq (N b : Nat) : (if (0 : Int) > (((Builtin.Int.intBits (N : Int) : Nat) : Int) - (b : Int)) - 11 then (0 : Int) else (((Builtin.Int.intBits (N : Int) : Nat) : Int) - (b : Int)) - 11) = ((Nat.log2 (N / 2 ^ b) - 10 : Nat) : Int) := by
  rw [bits_nat]
  by_cases h : N = 0
  · subst h
    have e : Nat.log2 (0 / 2 ^ b) = 0 := by rw [Nat.zero_div]; decide
    rw [e, if_pos rfl]
    split <;> omega
  · rw [if_neg h, log2_div N b h]
    split <;> omega
/-- bits kept: no more than 2048, from 1024 on where bits were dropped -/
theorem kept_bounds (w : Sb06.Way) (N b : Nat) : (Sb06.units w N (2 ^ (b + (Nat.log2 (N / 2 ^ b) - 10)))).1 ≤ 2048 ∧ (0 < Nat.log2 (N / 2 ^ b) - 10 → 1024 ≤ (Sb06.units w N (2 ^ (b + (Nat.log2 (N / 2 ^ b) - 10)))).1) ∧ (N / 2 ^ b < 1024 → (Sb06.units w N (2 ^ (b + (Nat.log2 (N / 2 ^ b) - 10)))).1 ≤ 1024) := by
  have hk : N / 2 ^ (b + (Nat.log2 (N / 2 ^ b) - 10)) = N / 2 ^ b / 2 ^ (Nat.log2 (N / 2 ^ b) - 10) := by rw [Nat.pow_add, Nat.div_div_eq_div_mul]
  have hx := units_fst w N (2 ^ (b + (Nat.log2 (N / 2 ^ b) - 10)))
  rw [hk] at hx
  generalize (Sb06.units w N (2 ^ (b + (Nat.log2 (N / 2 ^ b) - 10)))).1 = x at *
  generalize N / 2 ^ b = q at *
  by_cases hq : q = 0
  · subst hq
    rw [Nat.zero_div] at hx
    have : Nat.log2 0 = 0 := by decide
    omega
  · obtain ⟨h1, h2⟩ := log2_bounds hq
    by_cases hl : Nat.log2 q ≤ 10
    · have e : Nat.log2 q - 10 = 0 := by omega
      rw [e, Nat.pow_zero, Nat.div_one] at hx
      have : 2 ^ (Nat.log2 q + 1) ≤ 2 ^ 11 := Nat.pow_le_pow_right (by decide) (by omega)
      omega
    · obtain ⟨c, hc⟩ : ∃ c, Nat.log2 q = c + 10 := ⟨Nat.log2 q - 10, by omega⟩
      rw [hc] at h1 h2 hx ⊢
      rw [Nat.add_sub_cancel] at hx ⊢
      have hu : 0 < 2 ^ c := Nat.two_pow_pos c
      have h3 : 1024 ≤ q / 2 ^ c := by
        rw [Nat.le_div_iff_mul_le hu]
        rw [Nat.pow_add] at h1
        omega
      have h4 : q / 2 ^ c < 2048 := by
        rw [Nat.div_lt_iff_lt_mul hu]
        rw [show c + 10 + 1 = c + 11 by omega, Nat.pow_add] at h2
        omega
      have h5 : q / 2 ^ c ≤ q := Nat.div_le_self _ _
      omega
theorem pack (k j : Nat) (h1 : k ≤ 2048) (h2 : 0 < j → 1024 ≤ k) : Sb06.packed (k * 2 ^ j) = j * 1024 + k ∧ (2 ^ 40 ≤ k * 2 ^ j ↔ 31744 ≤ j * 1024 + k) := by
  unfold Sb06.packed
  have hj : 0 < 2 ^ j := Nat.two_pow_pos j
  by_cases ha : k < 1024
  · have : j = 0 := by omega
    subst this
    rw [Nat.pow_zero, Nat.mul_one, if_pos ha]
    omega
  · have hv : ¬ k * 2 ^ j < 2 ^ 10 := by
      have : 1024 * 1 ≤ k * 2 ^ j := Nat.mul_le_mul (by omega) hj
      omega
    rw [if_neg hv]
    by_cases hb : k < 2048
    · have e : Nat.log2 (k * 2 ^ j) = j + 10 := by
        refine log2_of ?_ ?_
        · rw [Nat.pow_add, Nat.mul_comm]
          exact Nat.mul_le_mul_right _ (by omega)
        · rw [show j + 10 + 1 = j + 11 by omega, Nat.pow_add, Nat.mul_comm]
          exact Nat.mul_lt_mul_of_pos_left (by omega) hj
      simp only [e, Nat.add_sub_cancel]
      rw [Nat.mul_div_cancel _ hj]
      refine ⟨by omega, ?_⟩
      by_cases h30 : 30 ≤ j
      · have h3 : 2 ^ 30 ≤ 2 ^ j := Nat.pow_le_pow_right (by decide) h30
        have h4 : 1024 * 2 ^ 30 ≤ k * 2 ^ j := Nat.mul_le_mul (by omega) h3
        omega
      · have h3 : 2 ^ j ≤ 2 ^ 29 := Nat.pow_le_pow_right (by decide) (by omega)
        have h4 : k * 2 ^ j ≤ 2047 * 2 ^ 29 := Nat.mul_le_mul (by omega) h3
        omega
    · have hk : k = 2048 := by omega
      subst hk
      have e : Nat.log2 (2048 * 2 ^ j) = (j + 1) + 10 := by
        refine log2_of ?_ ?_
        · rw [show j + 1 + 10 = j + 11 by omega, Nat.pow_add]
          omega
        · rw [show j + 1 + 10 + 1 = j + 12 by omega, Nat.pow_add]
          omega
      simp only [e, Nat.add_sub_cancel]
      have e2 : 2048 * 2 ^ j = 1024 * 2 ^ (j + 1) := by rw [Nat.pow_succ]; omega
      have hj1 : 0 < 2 ^ (j + 1) := Nat.two_pow_pos _
      have e3 : 2048 * 2 ^ j / 2 ^ (j + 1) = 1024 := by rw [e2, Nat.mul_div_cancel _ hj1]
      rw [e3]
      refine ⟨by omega, ?_⟩
      by_cases h29 : 29 ≤ j
      · have h3 : 2 ^ 29 ≤ 2 ^ j := Nat.pow_le_pow_right (by decide) h29
        omega
      · have h3 : 2 ^ j ≤ 2 ^ 28 := Nat.pow_le_pow_right (by decide) (by omega)
        omega
theorem tiny_eq (w : Sb06.Way) (N D : Nat) (hD : 0 < D) : decide ((Sb06.units w (N * 2) D).1 < 2048) = Sb06.tiny w N D := by
  have hN := Nat.div_add_mod (N * 2) D
  have hr : N * 2 % D < D := Nat.mod_lt _ hD
  unfold Sb06.units Sb06.tiny
  generalize N * 2 / D = k at *
  generalize N * 2 % D = r at *
  rw [Bool.eq_iff_iff, decide_eq_true_eq, Bool.and_eq_true, decide_eq_true_eq]
  have c1 : k ≤ 2046 → N * 2 < 2047 * D := fun h => by
    have : D * k ≤ D * 2046 := Nat.mul_le_mul_left _ h
    omega
  have c2 : k = 2047 → N * 2 = 2047 * D + r := fun h => by
    subst h
    omega
  have c3 : 2048 ≤ k → 2048 * D ≤ N * 2 := fun h => by
    have : D * 2048 ≤ D * k := Nat.mul_le_mul_left _ h
    omega
  rcases Nat.lt_or_ge k 2047 with hk | hk
  · have h1 := c1 (by omega)
    cases w with
    | near =>
      simp only [decide_eq_true_eq]
      refine ⟨fun _ => by omega, fun _ => ?_⟩
      split <;> omega
    | cut =>
      simp only [Bool.false_eq_true, if_false]
      exact ⟨fun _ => ⟨by omega, trivial⟩, fun _ => by omega⟩
    | away =>
      simp only [decide_eq_true_eq]
      refine ⟨fun _ => by omega, fun _ => ?_⟩
      split <;> omega
  · rcases Nat.lt_or_ge k 2048 with hk2 | hk2
    · have hk3 : k = 2047 := by omega
      have h2 := c2 hk3
      cases w with
      | near =>
        simp only [Bool.or_eq_true, Bool.and_eq_true, decide_eq_true_eq, beq_iff_eq]
        split <;> omega
      | cut =>
        simp only [Bool.false_eq_true, if_false]
        exact ⟨fun _ => ⟨by omega, trivial⟩, fun _ => by omega⟩
      | away =>
        simp only [decide_eq_true_eq]
        split <;> omega
    · have h3 := c3 hk2
      constructor
      · intro h
        exfalso
        revert h
        cases w <;> simp only <;> split <;> omega
      · rintro ⟨h, _⟩
        omega
theorem is_tiny_eq {wy : Nat} {d : Sb06.Dir} (hd : Sb06.dirOf wy = some d) (s : Bool) (N b : Nat) : m_is_tiny (wy : Int) s (N : Int) (b : Int) = Sb06.tiny (Sb06.wayOf d s) N (2 ^ b) := by
  unfold m_is_tiny
  have e : (N : Int) * 2 ^ ((1 : Int) : Int).toNat = ((N * 2 : Nat) : Int) := mul_cast N 1
  rw [e, rw_eq hd, ← tiny_eq _ _ _ (Nat.two_pow_pos b)]
  rw [Bool.eq_iff_iff, decide_eq_true_eq, decide_eq_true_eq]
  have : (1024 : Int) * 2 ^ ((1 : Int) : Int).toNat = 2048 := by decide
  rw [this]
  omega
theorem sign_eq (s : Bool) (m : Nat) (h : m < 32768) : m_with_sign s (m : Int) = ((Sb06.sign s + m : Nat) : Int) := by
  unfold m_with_sign Sb06.sign
  cases s with
  | false => simp
  | true =>
    have e := or_nat m 32768
    rw [show ((32768 : Nat) : Int) = 32768 from rfl] at e
    rw [show (m ||| 32768) = m + 32768 from or_pow m 15 h] at e
    simp only [cond_true, if_true]
    rw [e]
    omega
theorem overflow_eq {wy : Nat} {d : Sb06.Dir} (hd : Sb06.dirOf wy = some d) (s : Bool) : m_overflow_answer (wy : Int) s = sw (Sb06.sign s + (if Sb06.wayOf d s = .cut then Sb06.LARGEST else Sb06.INF), Sb06.OVERFLOW + Sb06.INEXACT) := by
  rcases dir_cases hd with ⟨rfl, rfl⟩ | ⟨rfl, rfl⟩ | ⟨rfl, rfl⟩ | ⟨rfl, rfl⟩ <;> cases s <;> decide +kernel
/-- THE HALF for a sign and N / 2^b units -/
theorem rounded_half_eq {wy : Nat} {d : Sb06.Dir} (hd : Sb06.dirOf wy = some d) (s : Bool) (N b : Nat) : m_rounded_half (wy : Int) s (N : Int) (b : Int) = sw (Sb06.result d s N (2 ^ b)) := by
  unfold m_rounded_half Sb06.result Sb06.rounded
  rw [dropped_eq]
  obtain ⟨k1, k2, k3⟩ := kept_bounds (Sb06.wayOf d s) N b
  have hpow : 2 ^ b * 2 ^ (Nat.log2 (N / 2 ^ b) - 10) = 2 ^ (b + (Nat.log2 (N / 2 ^ b) - 10)) := (Nat.pow_add 2 b _).symm
  have hdn : N / 2 ^ b < 1024 → Nat.log2 (N / 2 ^ b) - 10 = 0 := fun h => by
    by_cases h0 : N / 2 ^ b = 0
    · rw [h0]; decide
    · have := (Nat.log2_lt h0 (k := 10)).mpr h
      omega
  generalize hj : Nat.log2 (N / 2 ^ b) - 10 = j at *
  have hbj : (b : Int) + (j : Int) = ((b + j : Nat) : Int) := by omega
  simp only [hbj, hpow]
  rw [rw_eq hd]
  have hx2 : (Sb06.units (Sb06.wayOf d s) N (2 ^ (b + j))).2 = decide (N % 2 ^ (b + j) ≠ 0) := rfl
  have hx1 := units_fst (Sb06.wayOf d s) N (2 ^ (b + j))
  have hx0 : N % 2 ^ (b + j) = 0 → (Sb06.units (Sb06.wayOf d s) N (2 ^ (b + j))).1 = N / 2 ^ (b + j) := fun h => by
    have hu : 0 < 2 ^ (b + j) := Nat.two_pow_pos _
    unfold Sb06.units
    rw [h]
    rcases Sb06.wayOf d s with _ | _ | _ <;> simp <;> omega
  rw [hx2]
  generalize (Sb06.units (Sb06.wayOf d s) N (2 ^ (b + j))).1 = x at *
  obtain ⟨p1, p2⟩ := pack x j k1 k2
  have e10 : (j : Int) * 2 ^ ((10 : Int) : Int).toNat = ((j * 1024 : Nat) : Int) := mul_cast j 10
  rw [e10]
  have em : ((j * 1024 : Nat) : Int) + (x : Int) = ((j * 1024 + x : Nat) : Int) := by omega
  rw [em, mul_cast]
  by_cases hN : N = 0
  · subst hN
    rw [Nat.zero_mod] at hx0
    have hx : x = 0 := by rw [hx0 rfl, Nat.zero_div]
    have hj0 : j = 0 := hdn (by rw [Nat.zero_div]; decide)
    subst hx hj0
    rw [if_pos rfl, decide_eq_false (by omega), Nat.zero_mul, decide_eq_true rfl]
    show ((0 : Int), m_with_sign s ((0 * 1024 + 0 : Nat) : Int)) = sw (Sb06.sign s, 0)
    rw [sign_eq s _ (by omega)]
    rfl
  · rw [if_neg hN]
    by_cases ho : 31744 ≤ j * 1024 + x
    · rw [decide_eq_true (by omega), if_pos (p2.mpr ho)]
      exact overflow_eq hd s
    · rw [decide_eq_false (by omega), if_neg (fun q => ho (p2.mp q)), p1, sign_eq s _ (by omega), is_tiny_eq hd]
      have hu : 0 < 2 ^ (b + j) := Nat.two_pow_pos _
      have hdm := Nat.div_add_mod N (2 ^ (b + j))
      by_cases hr : N % 2 ^ (b + j) = 0
      · have e1 : x * 2 ^ (b + j) = N := by
          rw [hx0 hr, Nat.mul_comm]
          omega
        rw [e1, decide_eq_true (rfl : (N : Int) = (N : Int)), decide_eq_false (by simp [hr] : ¬ (N % 2 ^ (b + j) ≠ 0))]
        rfl
      · have e1 : ¬ x * 2 ^ (b + j) = N := fun q => by
          rw [← q, Nat.mul_mod_left] at hr
          exact hr rfl
        rw [decide_eq_false (by omega : ¬ ((x * 2 ^ (b + j) : Nat) : Int) = (N : Int)), decide_eq_true hr]
        have et : (decide (((j * 1024 + x : Nat) : Int) ≤ 1024) && Sb06.tiny (Sb06.wayOf d s) N (2 ^ b)) = Sb06.tiny (Sb06.wayOf d s) N (2 ^ b) := by
          cases ht : Sb06.tiny (Sb06.wayOf d s) N (2 ^ b) with
          | false => exact Bool.and_false _
          | true =>
            unfold Sb06.tiny at ht
            rw [Bool.and_eq_true, decide_eq_true_eq] at ht
            have h1 : N / 2 ^ b < 1024 := by
              rw [Nat.div_lt_iff_lt_mul (Nat.two_pow_pos b)]
              omega
            have := hdn h1
            have := k3 h1
            rw [decide_eq_true (by omega)]
            rfl
        rw [et]
        cases Sb06.tiny (Sb06.wayOf d s) N (2 ^ b) with
        | true => rw [show Builtin.bitOr 8 16 = 24 by decide +kernel]; rfl
        | false => rfl
end Hd

namespace Hd
open PySem PyProof.Rows
/-! ### halves as numbers -/
theorem exp_mod (b : Nat) : Sb06.exponent b = b % 32768 / 1024 := by unfold Sb06.exponent; omega
theorem frac_mod (b : Nat) : Sb06.fraction b = b % 32768 % 1024 := by unfold Sb06.fraction; omega
theorem mu_eq (b : Nat) : m_magnitude_units (b : Int) = (Sb06.magnitude b : Nat) := by
  unfold m_magnitude_units Sb06.magnitude
  dsimp only
  rw [and_mag, and_frac, exp_mod, frac_mod]
  generalize b % 32768 = m
  have e10 : (m : Int) / 2 ^ ((10 : Int) : Int).toNat = ((m / 1024 : Nat) : Int) := div_cast m 10
  rw [e10]
  by_cases h : m / 1024 = 0
  · rw [decide_eq_true (by omega), if_pos h]
    simp only [cond_true]
    omega
  · rw [decide_eq_false (by omega), if_neg h]
    have e1 : ((m / 1024 : Nat) : Int) - 1 = ((m / 1024 - 1 : Nat) : Int) := by omega
    have e2 : (1024 : Int) + ((m % 1024 : Nat) : Int) = ((1024 + m % 1024 : Nat) : Int) := by omega
    simp only [cond_false]
    rw [e1, e2, mul_cast]
theorem units_eq (b : Nat) (hb : b < 65536) : m_units (b : Int) = Sb06.number b := by
  unfold m_units Sb06.number
  rw [minus_eq b hb, mu_eq]
  cases Sb06.negative b <;> rfl
theorem mag_lt (b : Nat) : Sb06.magnitude b < 2 ^ 41 := by
  rw [mag_mgn]
  have h1 : b % 32768 < 32768 := Nat.mod_lt _ (by decide)
  have h2 := mgn_lt h1
  have h3 : mgn 32768 = 2 ^ 41 := by decide
  omega
theorem neg_bit (b : Nat) (hb : b < 65536) : Sb06.negative b = decide (32768 ≤ b) := by
  unfold Sb06.negative
  rw [Bool.eq_iff_iff, beq_iff_eq, decide_eq_true_eq]
  omega
theorem minus_lt (b : Nat) (hb : b < 65536) : Sb06.minus b < 65536 := by
  unfold Sb06.minus
  rw [neg_bit b hb]
  split
  · omega
  · rename_i h
    rw [decide_eq_true_eq] at h
    omega
theorem minus_mod (b : Nat) (hb : b < 65536) : Sb06.minus b % 32768 = b % 32768 ∧ Sb06.negative (Sb06.minus b) = !Sb06.negative b := by
  have h := minus_lt b hb
  rw [neg_bit _ h, neg_bit b hb]
  unfold Sb06.minus at h ⊢
  rw [neg_bit b hb] at h ⊢
  by_cases q : 32768 ≤ b
  · rw [decide_eq_true q] at *
    simp only [if_true] at *
    exact ⟨by omega, by rw [decide_eq_false (by omega)]; rfl⟩
  · rw [decide_eq_false q] at *
    simp only [Bool.false_eq_true, if_false] at *
    exact ⟨by omega, by rw [decide_eq_true (by omega)]; rfl⟩
theorem negated_eq (b : Nat) (hb : b < 65536) : m_negated (b : Int) = (Sb06.minus b : Nat) := by
  unfold m_negated
  have h1 := and_nat b 32768
  rw [show ((32768 : Nat) : Int) = 32768 from rfl] at h1
  have h2 := and_pow0 b 15
  have h3 : b &&& 32768 ≤ 32768 := Nat.and_le_right
  have h4 : (b &&& 32768) = 0 ∨ (b &&& 32768) = 32768 := by
    by_cases q : b / 2 ^ 15 % 2 = 0
    · exact .inl (h2.mpr q)
    · refine .inr ?_
      have e := or_pow (b % 32768) 15 (Nat.mod_lt _ (by decide))
      have e2 : b = b % 32768 ||| 2 ^ 15 := by omega
      rw [e2]
      refine Nat.eq_of_testBit_eq fun i => ?_
      rw [Nat.testBit_and, Nat.testBit_or, show (32768 : Nat) = 2 ^ 15 from rfl, Nat.testBit_two_pow]
      cases decide (15 = i) <;> simp
  rw [bitXor_and, h1]
  unfold Sb06.minus
  rw [neg_bit b hb]
  by_cases q : 32768 ≤ b
  · rw [decide_eq_true q, if_pos rfl]
    have : ¬ (b &&& 32768) = 0 := fun z => by
      have := h2.mp z
      omega
    omega
  · rw [decide_eq_false q, if_neg (by simp)]
    have : (b &&& 32768) = 0 := h2.mpr (by omega)
    omega
/-! what depends on the magnitude's bits alone -/
theorem nan_mod {a b : Nat} (h : a % 32768 = b % 32768) : Sb06.isNaN a = Sb06.isNaN b := by unfold Sb06.isNaN; rw [exp_mod, frac_mod, exp_mod b, frac_mod b, h]
theorem inf_mod {a b : Nat} (h : a % 32768 = b % 32768) : Sb06.isInf a = Sb06.isInf b := by unfold Sb06.isInf; rw [exp_mod, frac_mod, exp_mod b, frac_mod b, h]
theorem mag_mod {a b : Nat} (h : a % 32768 = b % 32768) : Sb06.magnitude a = Sb06.magnitude b := by rw [mag_mgn, mag_mgn, h]
theorem sig_mod {a b : Nat} (h : a % 32768 = b % 32768) : Sb06.signalling a = Sb06.signalling b := by
  unfold Sb06.signalling
  rw [nan_mod h]
  congr 2
  have e1 : a / 2 ^ 9 % 2 = a % 32768 / 512 % 2 := by omega
  have e2 : b / 2 ^ 9 % 2 = b % 32768 / 512 % 2 := by omega
  rw [e1, e2, h]
theorem zero_mod {a b : Nat} (h : a % 32768 = b % 32768) : Sb06.isZero a = Sb06.isZero b := by unfold Sb06.isZero; rw [exp_mod, exp_mod b, mag_mod h, h]
/-! ### no numbers -/
theorem any_map {f : Int → Bool} {g : Nat → Bool} (h : ∀ b : Nat, f (b : Int) = g b) : ∀ l : List Nat, ((l.map fun (b : Nat) => (b : Int)).map f).any id = l.any g
  | [] => rfl
  | b :: l => by
    simp only [List.map_cons, List.any_cons, id]
    rw [h b, any_map h l]
theorem nn_eq (l : List Nat) : m_no_number_answer (l.map fun (b : Nat) => (b : Int)) = (Sb06.nans l).map sw := by
  unfold m_no_number_answer Sb06.nans
  rw [any_map nan_eq, any_map sig_eq]
  cases l.any Sb06.isNaN <;> cases l.any Sb06.signalling <;> rfl
theorem sw_getD (o : Option Sb06.Result) (y : Sb06.Result) : (o.map sw).getD (sw y) = sw (match o with | some x => x | none => y) := by cases o <;> rfl
/-! ### sums and products -/
theorem rounded_sum_eq {wy : Nat} {d : Sb06.Dir} (hd : Sb06.dirOf wy = some d) (z : Int) (b : Nat) (fm sm : Bool) : m_rounded_sum (wy : Int) z (b : Int) fm sm = sw (Sb06.ofInt d z (2 ^ b) (Sb06.zeroSign d fm sm)) := by
  unfold m_rounded_sum Sb06.ofInt
  dsimp only
  by_cases h : z = 0
  · subst h
    rw [decide_eq_true rfl, if_pos rfl]
    have e : (bif true then (bif (fm == sm) then fm else decide ((wy : Int) = 1)) else decide ((0 : Int) < 0)) = Sb06.zeroSign d fm sm := by
      unfold Sb06.zeroSign
      rcases dir_cases hd with ⟨rfl, rfl⟩ | ⟨rfl, rfl⟩ | ⟨rfl, rfl⟩ | ⟨rfl, rfl⟩ <;> cases fm <;> cases sm <;> decide
    rw [e]
    have e2 : (if (0 : Int) < 0 then -(0 : Int) else 0) = ((0 : Nat) : Int) := by decide
    rw [e2, rounded_half_eq hd]
    unfold Sb06.result
    rw [if_pos rfl]
  · rw [decide_eq_false h, if_neg h]
    have e2 : (if z < 0 then -z else z) = ((z.natAbs : Nat) : Int) := by split <;> omega
    rw [e2]
    exact rounded_half_eq hd _ _ _
theorem add_eq {wy : Nat} {d : Sb06.Dir} (hd : Sb06.dirOf wy = some d) (a b : Nat) (ha : a < 65536) (hb : b < 65536) : m_add (wy : Int) (a : Int) (b : Int) = sw (Sb06.plus d a b) := by
  unfold m_add Sb06.plus
  rw [show ([(a : Int), (b : Int)] : List Int) = [a, b].map (fun (b : Nat) => (b : Int)) from rfl, nn_eq]
  generalize Sb06.nans [a, b] = o
  cases o with
  | some x => rfl
  | none =>
  simp only [Option.map_none, Option.getD_none]
  rw [inf_eq, inf_eq, units_eq a ha, units_eq b hb, minus_eq a ha, minus_eq b hb]
  have hs := rounded_sum_eq hd (Sb06.number a + Sb06.number b) 0 (Sb06.negative a) (Sb06.negative b)
  rw [show ((0 : Nat) : Int) = 0 from rfl, Nat.pow_zero] at hs
  rw [hs]
  cases ia : Sb06.isInf a with
  | true =>
    cases ib : Sb06.isInf b with
    | true =>
      have h1 : a % 32768 = 31744 := by rw [← inf_eq] at ia; unfold m_is_infinite at ia; rw [and_mag, decide_eq_true_eq] at ia; omega
      have h2 : b % 32768 = 31744 := by rw [← inf_eq] at ib; unfold m_is_infinite at ib; rw [and_mag, decide_eq_true_eq] at ib; omega
      rw [neg_bit a ha, neg_bit b hb]
      by_cases q : a = b
      · subst q
        simp [sw]
      · rw [decide_eq_false (show ¬ (a : Int) = (b : Int) by omega)]
        have : decide (32768 ≤ a) ≠ decide (32768 ≤ b) := by
          by_cases z : 32768 ≤ a
          · rw [decide_eq_true z, decide_eq_false (by omega)]; decide
          · rw [decide_eq_false z, decide_eq_true (by omega)]; decide
        rw [if_pos rfl, if_pos ⟨rfl, this⟩]
        rfl
    | false => simp [sw]
  | false => cases Sb06.isInf b <;> simp [sw]
theorem zti_eq (a b : Nat) : m_is_zero_times_infinity (a : Int) (b : Int) = ((Sb06.isZero a && Sb06.isInf b) || (Sb06.isInf a && Sb06.isZero b)) := by
  unfold m_is_zero_times_infinity
  rw [zero_eq, zero_eq, inf_eq, inf_eq]
theorem unlike_eq (a b : Nat) (ha : a < 65536) (hb : b < 65536) : m_unlike_signs (a : Int) (b : Int) = (Sb06.negative a != Sb06.negative b) := by
  unfold m_unlike_signs
  rw [minus_eq a ha, minus_eq b hb]
theorem sign_inf (s : Bool) : m_with_sign s (31744 : Int) = ((Sb06.sign s + Sb06.INF : Nat) : Int) := sign_eq s 31744 (by decide)
theorem sign_zero (s : Bool) : m_with_sign s (0 : Int) = ((Sb06.sign s : Nat) : Int) := sign_eq s 0 (by decide)
theorem not_both (a : Nat) : ¬ (Sb06.isZero a = true ∧ Sb06.isInf a = true) := by
  rw [← zero_eq, ← inf_eq]
  unfold m_is_zero m_is_infinite
  rw [and_mag, decide_eq_true_eq, decide_eq_true_eq]
  omega
theorem multiply_eq {wy : Nat} {d : Sb06.Dir} (hd : Sb06.dirOf wy = some d) (a b : Nat) (ha : a < 65536) (hb : b < 65536) : m_multiply (wy : Int) (a : Int) (b : Int) = sw (Sb06.times d a b) := by
  unfold m_multiply Sb06.times
  dsimp only
  rw [show ([(a : Int), (b : Int)] : List Int) = [a, b].map (fun (b : Nat) => (b : Int)) from rfl, nn_eq]
  generalize Sb06.nans [a, b] = o
  cases o with
  | some x => rfl
  | none =>
  simp only [Option.map_none, Option.getD_none]
  rw [zti_eq, unlike_eq a b ha hb, inf_eq, inf_eq, mu_eq, mu_eq, sign_inf]
  have hs := rounded_half_eq hd (Sb06.negative a != Sb06.negative b) (Sb06.magnitude a * Sb06.magnitude b) 24
  rw [show ((24 : Nat) : Int) = 24 from rfl] at hs
  rw [← Int.natCast_mul, hs]
  have na := not_both a
  have nb := not_both b
  cases ia : Sb06.isInf a <;> cases ib : Sb06.isInf b <;> cases za : Sb06.isZero a <;> cases zb : Sb06.isZero b <;> simp_all [sw] <;> rfl
end Hd

namespace Hd
open PySem PyProof.Rows
theorem nans_mod : ∀ {l l' : List Nat}, l.map (· % 32768) = l'.map (· % 32768) → Sb06.nans l = Sb06.nans l' := by
  intro l l' h
  have key : ∀ {l l' : List Nat}, l.map (· % 32768) = l'.map (· % 32768) → l.any Sb06.isNaN = l'.any Sb06.isNaN ∧ l.any Sb06.signalling = l'.any Sb06.signalling := by
    intro l
    induction l with
    | nil =>
      intro l' h
      cases l' with
      | nil => exact ⟨rfl, rfl⟩
      | cons b r => simp at h
    | cons a r ih =>
      intro l' h
      cases l' with
      | nil => simp at h
      | cons b r' =>
        rw [List.map_cons, List.map_cons] at h
        obtain ⟨h1, h2⟩ := List.cons.inj h
        obtain ⟨i1, i2⟩ := ih h2
        rw [List.any_cons, List.any_cons, List.any_cons, List.any_cons, i1, i2, nan_mod h1, sig_mod h1]
        exact ⟨rfl, rfl⟩
  unfold Sb06.nans
  rw [(key h).1, (key h).2]
theorem nans_some {l : List Nat} {b : Nat} (h : b ∈ l) (hb : Sb06.isNaN b = true) : ∃ x, Sb06.nans l = some x := by
  unfold Sb06.nans
  rw [if_pos (List.any_eq_true.mpr ⟨b, h, hb⟩)]
  exact ⟨_, rfl⟩
theorem nans_none {l : List Nat} (h : Sb06.nans l = none) : ∀ b ∈ l, Sb06.isNaN b = false := fun b hb => by
  cases q : Sb06.isNaN b with
  | false => rfl
  | true =>
    obtain ⟨x, e⟩ := nans_some hb q
    rw [h] at e
    cases e
theorem nans_of {l : List Nat} (h : ∀ b ∈ l, Sb06.isNaN b = false) : Sb06.nans l = none := by
  unfold Sb06.nans
  rw [if_neg]
  rw [List.any_eq_true]
  rintro ⟨b, hb, q⟩
  rw [h b hb] at q
  cases q
theorem plus_nan {d : Sb06.Dir} {a b : Nat} {x : Sb06.Result} (h : Sb06.nans [a, b] = some x) : Sb06.plus d a b = x := by unfold Sb06.plus; rw [h]
theorem fused_nan {d : Sb06.Dir} {a b c : Nat} {x : Sb06.Result} (h : Sb06.nans [a, b, c] = some x) : Sb06.fused d a b c = x := by unfold Sb06.fused; rw [h]
/-- no number has no sign -/
def ng (b : Nat) : Nat := if Sb06.isNaN b = true then b else Sb06.minus b
theorem plus_ng (d : Sb06.Dir) (a b : Nat) (hb : b < 65536) : Sb06.plus d a (Sb06.minus b) = Sb06.plus d a (ng b) := by
  unfold ng
  by_cases h : Sb06.isNaN b = true
  · rw [if_pos h]
    obtain ⟨x, e⟩ := nans_some (l := [a, b]) (by simp) h
    rw [plus_nan e]
    refine plus_nan ?_
    rw [← e]
    exact nans_mod (by simp [(minus_mod b hb).1])
  · rw [if_neg h]
theorem fused_ng_c (d : Sb06.Dir) (a b c : Nat) (hc : c < 65536) : Sb06.fused d a b (Sb06.minus c) = Sb06.fused d a b (ng c) := by
  unfold ng
  by_cases h : Sb06.isNaN c = true
  · rw [if_pos h]
    obtain ⟨x, e⟩ := nans_some (l := [a, b, c]) (by simp) h
    rw [fused_nan e]
    refine fused_nan ?_
    rw [← e]
    exact nans_mod (by simp [(minus_mod c hc).1])
  · rw [if_neg h]
theorem fused_ng_a (d : Sb06.Dir) (a b c : Nat) (ha : a < 65536) : Sb06.fused d (Sb06.minus a) b c = Sb06.fused d (ng a) b c := by
  unfold ng
  by_cases h : Sb06.isNaN a = true
  · rw [if_pos h]
    obtain ⟨x, e⟩ := nans_some (l := [a, b, c]) (by simp) h
    rw [fused_nan e]
    refine fused_nan ?_
    rw [← e]
    exact nans_mod (by simp [(minus_mod a ha).1])
  · rw [if_neg h]
theorem inf_facts (s : Bool) : Sb06.sign s + Sb06.INF < 65536 ∧ Sb06.isNaN (Sb06.sign s + Sb06.INF) = false ∧ Sb06.isInf (Sb06.sign s + Sb06.INF) = true ∧ Sb06.negative (Sb06.sign s + Sb06.INF) = s := by
  cases s <;> decide +kernel
theorem fused_eq {wy : Nat} {d : Sb06.Dir} (hd : Sb06.dirOf wy = some d) (a b c : Nat) (ha : a < 65536) (hb : b < 65536) (hc : c < 65536) : m_multiply_and_add (wy : Int) (a : Int) (b : Int) (c : Int) = sw (Sb06.fused d a b c) := by
  unfold m_multiply_and_add Sb06.fused
  dsimp only
  rw [show ([(a : Int), (b : Int), (c : Int)] : List Int) = [a, b, c].map (fun (b : Nat) => (b : Int)) from rfl, nn_eq]
  cases hn : Sb06.nans [a, b, c] with
  | some x => rfl
  | none =>
    simp only [Option.map_none, Option.getD_none]
    have nc : Sb06.isNaN c = false := nans_none hn c (by simp)
    rw [zti_eq, unlike_eq a b ha hb, inf_eq, inf_eq, inf_eq, units_eq a ha, units_eq b hb, units_eq c hc, minus_eq c hc, sign_inf]
    have e24 : Sb06.number c * 2 ^ ((24 : Int) : Int).toNat = Sb06.number c * 2 ^ 24 := rfl
    rw [e24]
    have hs := rounded_sum_eq hd (Sb06.number a * Sb06.number b + Sb06.number c * 2 ^ 24) 24 (Sb06.negative a != Sb06.negative b) (Sb06.negative c)
    rw [show ((24 : Nat) : Int) = 24 from rfl] at hs
    rw [hs]
    obtain ⟨f1, f2, f3, f4⟩ := inf_facts (Sb06.negative a != Sb06.negative b)
    rw [add_eq hd _ _ f1 hc]
    have hp : Sb06.plus d (Sb06.sign (Sb06.negative a != Sb06.negative b) + Sb06.INF) c = if Sb06.isInf c = true ∧ Sb06.negative c ≠ (Sb06.negative a != Sb06.negative b) then (Sb06.NAN, Sb06.INVALID) else (Sb06.sign (Sb06.negative a != Sb06.negative b) + Sb06.INF, 0) := by
      unfold Sb06.plus
      rw [nans_of (l := [Sb06.sign (Sb06.negative a != Sb06.negative b) + Sb06.INF, c]) (by intro x hx; simp at hx; rcases hx with rfl | rfl; exact f2; exact nc), f3, f4]
      simp only [if_true]
      by_cases q : Sb06.isInf c = true ∧ Sb06.negative c ≠ (Sb06.negative a != Sb06.negative b)
      · rw [if_pos q, if_pos ⟨q.1, fun z => q.2 z.symm⟩]
      · rw [if_neg q, if_neg (fun z => q ⟨z.1, fun y => z.2 y.symm⟩)]
    rw [hp]
    have na := not_both a
    have nb := not_both b
    generalize (Sb06.negative a != Sb06.negative b) = s at *
    by_cases q : Sb06.isInf c = true ∧ Sb06.negative c ≠ s
    · simp only [q, and_true, true_and, if_true]
      cases ia : Sb06.isInf a <;> cases ib : Sb06.isInf b <;> cases za : Sb06.isZero a <;> cases zb : Sb06.isZero b <;> simp_all [sw] <;> rfl
    · cases ia : Sb06.isInf a <;> cases ib : Sb06.isInf b <;> cases za : Sb06.isZero a <;> cases zb : Sb06.isZero b <;> cases ic : Sb06.isInf c <;> simp_all [sw] <;> rfl
/-! ### a rest told by one bit more -/
theorem sticky_units (w : Sb06.Way) (N D u : Nat) (hD : 0 < D) (hu : 0 < u) :
    Sb06.units w N (D * u) = Sb06.units w (2 * (4 * N / D) + (if 4 * N % D = 0 then 0 else 1)) (8 * u) := by
  have hq := Nat.div_add_mod (4 * N) D
  have ht : 4 * N % D < D := Nat.mod_lt _ hD
  have hk := Nat.div_add_mod N (D * u)
  have hr : N % (D * u) < D * u := Nat.mod_lt _ (Nat.mul_pos hD hu)
  generalize 4 * N / D = q at *
  generalize 4 * N % D = t at *
  generalize hkk : N / (D * u) = k at *
  generalize N % (D * u) = r at *
  obtain ⟨st, hst, hst1, hst2⟩ : ∃ st, (if t = 0 then 0 else 1) = st ∧ (t = 0 → st = 0) ∧ (t ≠ 0 → st = 1) := ⟨_, rfl, fun h => by rw [if_pos h], fun h => by rw [if_neg h]⟩
  rw [hst]
  have h1 : D * (4 * (u * k)) ≤ D * q + t := by
    have : D * u * k = D * (u * k) := Nat.mul_assoc _ _ _
    rw [this] at hk
    have e : D * (4 * (u * k)) = 4 * (D * (u * k)) := by rw [Nat.mul_left_comm]
    omega
  have h2 : 4 * (u * k) ≤ q := by
    rcases Nat.lt_or_ge q (4 * (u * k)) with z | z
    · have : D * (q + 1) ≤ D * (4 * (u * k)) := Nat.mul_le_mul_left _ z
      rw [Nat.mul_succ] at this
      omega
    · exact z
  obtain ⟨p, hp⟩ : ∃ p, q = 4 * (u * k) + p := ⟨q - 4 * (u * k), by omega⟩
  have h4 : 4 * r = D * p + t := by
    have e1 : D * u * k = D * (u * k) := Nat.mul_assoc _ _ _
    have e2 : D * q = 4 * (D * (u * k)) + D * p := by rw [hp, Nat.mul_add, Nat.mul_left_comm]
    rw [e1] at hk
    omega
  have h5 : 2 * q + st = 8 * u * k + (2 * p + st) := by
    rw [Nat.mul_assoc]
    omega
  have hpu : p < 4 * u := by
    rcases Nat.lt_or_ge p (4 * u) with z | z
    · exact z
    · have : D * (4 * u) ≤ D * p := Nat.mul_le_mul_left _ z
      rw [Nat.mul_left_comm] at this
      omega
  have h6 : (2 * q + st) / (8 * u) = k := by
    rw [h5, Nat.mul_add_div (by omega), Nat.div_eq_of_lt (by omega)]
    exact Nat.add_zero k
  have h7 : (2 * q + st) % (8 * u) = 2 * p + st := by
    rw [h5, Nat.mul_add_mod, Nat.mod_eq_of_lt (by omega)]
  have c1 : p < 2 * u → 2 * r < D * u := fun z => by
    have : D * (p + 1) ≤ D * (2 * u) := Nat.mul_le_mul_left _ z
    rw [Nat.mul_succ, Nat.mul_left_comm] at this
    omega
  have c2 : p = 2 * u → 4 * r = 2 * (D * u) + t := fun z => by
    rw [z, Nat.mul_left_comm] at h4
    exact h4
  have c3 : 2 * u < p → D * u < 2 * r := fun z => by
    have : D * (2 * u + 1) ≤ D * p := Nat.mul_le_mul_left _ z
    rw [Nat.mul_succ, Nat.mul_left_comm] at this
    omega
  have c4 : r = 0 ↔ 2 * p + st = 0 := by
    constructor
    · intro z
      have z1 : D * p = 0 := by omega
      have z2 : p = 0 := by
        rcases Nat.mul_eq_zero.mp z1 with y | y
        · omega
        · exact y
      have z3 : t = 0 := by omega
      have := hst1 z3
      omega
    · intro z
      have z1 : p = 0 := by omega
      have z2 : t = 0 := by
        rcases Nat.eq_zero_or_pos t with y | y
        · exact y
        · have := hst2 (by omega); omega
      rw [z1, Nat.mul_zero] at h4
      omega
  have hs2 : st ≤ 1 := by by_cases z : t = 0; have := hst1 z; omega; have := hst2 z; omega
  unfold Sb06.units
  dsimp only
  rw [h6, h7, hkk]
  have hrr : N % (D * u) = r := by
    rw [← hk, Nat.mul_add_mod, Nat.mod_eq_of_lt hr]
  rw [hrr]
  have e2 : decide (r ≠ 0) = decide (2 * p + st ≠ 0) := by
    rw [Bool.eq_iff_iff, decide_eq_true_eq, decide_eq_true_eq]
    exact not_congr c4
  rw [e2]
  congr 1
  cases w with
  | near =>
    have e3 : (decide (D * u < 2 * r) || (decide (2 * r = D * u) && k % 2 == 1)) = (decide (8 * u < 2 * (2 * p + st)) || (decide (2 * (2 * p + st) = 8 * u) && k % 2 == 1)) := by
      rw [Bool.eq_iff_iff]
      simp only [Bool.or_eq_true, Bool.and_eq_true, decide_eq_true_eq, beq_iff_eq]
      rcases Nat.lt_trichotomy p (2 * u) with z | z | z
      · have := c1 z
        omega
      · have := c2 z
        by_cases y : t = 0
        · have := hst1 y
          omega
        · have := hst2 y
          omega
      · have := c3 z
        omega
    simp only [e3]
  | cut => rfl
  | away =>
    have e3 : decide (0 < r) = decide (0 < 2 * p + st) := by
      rw [Bool.eq_iff_iff, decide_eq_true_eq, decide_eq_true_eq]
      omega
    simp only [e3]
theorem sticky_tiny (w : Sb06.Way) (N D : Nat) (hD : 0 < D) : Sb06.tiny w N D = Sb06.tiny w (2 * (4 * N / D) + (if 4 * N % D = 0 then 0 else 1)) 8 := by
  have hq := Nat.div_add_mod (4 * N) D
  have ht : 4 * N % D < D := Nat.mod_lt _ hD
  generalize 4 * N / D = q at *
  generalize 4 * N % D = t at *
  obtain ⟨st, hst, hst1, hst2⟩ : ∃ st, (if t = 0 then 0 else 1) = st ∧ (t = 0 → st = 0) ∧ (t ≠ 0 → st = 1) := ⟨_, rfl, fun h => by rw [if_pos h], fun h => by rw [if_neg h]⟩
  rw [hst]
  have lo : ∀ c, q < c → 4 * N < D * c := fun c z => by
    have : D * (q + 1) ≤ D * c := Nat.mul_le_mul_left _ z
    rw [Nat.mul_succ] at this
    omega
  have hi : ∀ c, c ≤ q → D * c ≤ 4 * N := fun c z => by
    have : D * c ≤ D * q := Nat.mul_le_mul_left _ z
    omega
  have hs2 : st ≤ 1 := by by_cases z : t = 0; have := hst1 z; omega; have := hst2 z; omega
  have a1 : decide (N < 2 ^ 10 * D) = decide (2 * q + st < 2 ^ 10 * 8) := by
    rw [Bool.eq_iff_iff, decide_eq_true_eq, decide_eq_true_eq]
    have := lo 4096
    have := hi 4096
    omega
  unfold Sb06.tiny
  rw [a1]
  congr 1
  cases w with
  | near =>
    show decide _ = decide _
    rw [Bool.eq_iff_iff, decide_eq_true_eq, decide_eq_true_eq]
    have := lo 4095
    have := hi 4095
    omega
  | cut => rfl
  | away =>
    show decide _ = decide _
    rw [Bool.eq_iff_iff, decide_eq_true_eq, decide_eq_true_eq]
    have := lo 4094
    have := hi 4095
    by_cases z : q = 4094
    · subst z
      by_cases y : t = 0
      · have := hst1 y
        omega
      · have := hst2 y
        omega
    · omega
/-- a result by what it is rounded to -/
def fin (s : Bool) (w : Sb06.Way) (x : Nat × Bool) (t : Bool) : Sb06.Result :=
  if 2 ^ 40 ≤ x.1 then (Sb06.sign s + (if w = .cut then Sb06.LARGEST else Sb06.INF), Sb06.OVERFLOW + Sb06.INEXACT)
  else (Sb06.sign s + Sb06.packed x.1, if x.2 = true then Sb06.INEXACT + (if t = true then Sb06.UNDERFLOW else 0) else 0)
theorem result_fin {d : Sb06.Dir} {s : Bool} {N D : Nat} (hN : N ≠ 0) : Sb06.result d s N D = fin s (Sb06.wayOf d s) (Sb06.rounded (Sb06.wayOf d s) N D) (Sb06.tiny (Sb06.wayOf d s) N D) := by
  unfold Sb06.result fin
  rw [if_neg hN]
theorem sticky (d : Sb06.Dir) (s : Bool) (N D : Nat) (hD : 0 < D) : Sb06.result d s N D = Sb06.result d s (2 * (4 * N / D) + (if 4 * N % D = 0 then 0 else 1)) 8 := by
  by_cases hN : N = 0
  · subst hN
    rw [Nat.mul_zero, Nat.zero_div, Nat.zero_mod, if_pos rfl]
    rfl
  · have hN' : 2 * (4 * N / D) + (if 4 * N % D = 0 then 0 else 1) ≠ 0 := by
      have hq := Nat.div_add_mod (4 * N) D
      intro z
      by_cases y : 4 * N % D = 0
      · rw [if_pos y] at z
        have e : 4 * N / D = 0 := by omega
        rw [e, y, Nat.mul_zero] at hq
        omega
      · rw [if_neg y] at z
        omega
    have hdiv : (2 * (4 * N / D) + (if 4 * N % D = 0 then 0 else 1)) / 8 = N / D := by
      have e1 : 4 * N / D / 4 = N / D := by
        rw [Nat.div_div_eq_div_mul, Nat.mul_comm D 4, Nat.mul_div_mul_left _ _ (by decide)]
      rw [← e1]
      split <;> omega
    have hrd : ∀ w, Sb06.rounded w N D = Sb06.rounded w (2 * (4 * N / D) + (if 4 * N % D = 0 then 0 else 1)) 8 := fun w => by
      unfold Sb06.rounded
      dsimp only
      rw [hdiv, sticky_units w N D (2 ^ (Nat.log2 (N / D) - 10)) hD (Nat.two_pow_pos _)]
    rw [result_fin hN, result_fin hN', hrd, sticky_tiny _ N D hD]
theorem rest_told (q : Nat) (e : Bool) : m_with_rest_told (q : Int) e = ((2 * q + (bif e then 0 else 1) : Nat) : Int) := by
  unfold m_with_rest_told
  have e1 : (q : Int) * 2 ^ ((1 : Int) : Int).toNat = ((q * 2 : Nat) : Int) := mul_cast q 1
  rw [e1]
  cases e with
  | true => simp only [cond_true]; omega
  | false =>
    simp only [cond_false]
    have h := or_nat (q * 2) 1
    have h2 : (q * 2 ||| 1) = q * 2 + 1 := by
      have := Nat.two_pow_add_eq_or_of_lt (i := 1) (b := 1) (by decide) q
      rw [Nat.pow_one, Nat.mul_comm] at this
      exact this.symm
    rw [h2, show ((1 : Nat) : Int) = 1 from rfl] at h
    rw [h]
    omega
theorem divide_eq {wy : Nat} {d : Sb06.Dir} (hd : Sb06.dirOf wy = some d) (a b : Nat) (ha : a < 65536) (hb : b < 65536) : m_divide (wy : Int) (a : Int) (b : Int) = sw (Sb06.over d a b) := by
  unfold m_divide Sb06.over
  dsimp only
  rw [show ([(a : Int), (b : Int)] : List Int) = [a, b].map (fun (b : Nat) => (b : Int)) from rfl, nn_eq]
  generalize Sb06.nans [a, b] = o
  cases o with
  | some x => rfl
  | none =>
    simp only [Option.map_none, Option.getD_none]
    rw [unlike_eq a b ha hb, inf_eq, inf_eq, zero_eq, zero_eq, mu_eq, mu_eq, sign_inf, sign_zero]
    generalize (Sb06.negative a != Sb06.negative b) = s
    have na := not_both a
    have nb := not_both b
    cases zb : Sb06.isZero b with
    | true => cases ia : Sb06.isInf a <;> cases ib : Sb06.isInf b <;> cases za : Sb06.isZero a <;> simp_all [sw] <;> rfl
    | false =>
      have key : Sb06.isInf b = false → m_rounded_half (wy : Int) s (m_with_rest_told ((Sb06.magnitude a : Int) * 2 ^ (((24 : Int) + (2 : Int)) : Int).toNat / (Sb06.magnitude b : Int)) (decide ((Sb06.magnitude a : Int) * 2 ^ (((24 : Int) + (2 : Int)) : Int).toNat / (Sb06.magnitude b : Int) * (Sb06.magnitude b : Int) = (Sb06.magnitude a : Int) * 2 ^ (((24 : Int) + (2 : Int)) : Int).toNat))) ((2 : Int) + (1 : Int)) = sw (Sb06.result d s (Sb06.magnitude a * 2 ^ 24) (Sb06.magnitude b)) := fun hi => by
        have hm : 0 < Sb06.magnitude b := by
          rcases Nat.eq_zero_or_pos (Sb06.magnitude b) with z | z
          · rw [← zero_eq] at zb
            unfold m_is_zero at zb
            rw [and_mag, decide_eq_false_iff_not] at zb
            have := (mag0 b).mp z
            omega
          · exact z
        have e1 : (Sb06.magnitude a : Int) * 2 ^ (((24 : Int) + (2 : Int)) : Int).toNat = ((Sb06.magnitude a * 2 ^ 26 : Nat) : Int) := mul_cast _ 26
        rw [e1, ← Int.natCast_ediv, rest_told, sticky d s _ _ hm]
        have e2 : Sb06.magnitude a * 2 ^ 26 = 4 * (Sb06.magnitude a * 2 ^ 24) := by omega
        rw [e2]
        generalize 4 * (Sb06.magnitude a * 2 ^ 24) = n
        generalize Sb06.magnitude b = m at *
        have e3 : decide (((n / m : Nat) : Int) * (m : Int) = (n : Int)) = decide (n % m = 0) := by
          rw [Bool.eq_iff_iff, decide_eq_true_eq, decide_eq_true_eq, ← Int.natCast_mul]
          have := Nat.div_add_mod n m
          rw [Nat.mul_comm] at this
          omega
        rw [e3]
        have e4 : (bif decide (n % m = 0) then 0 else 1) = (if n % m = 0 then 0 else 1) := by
          by_cases z : n % m = 0
          · rw [decide_eq_true z, if_pos z]; rfl
          · rw [decide_eq_false z, if_neg z]; rfl
        rw [e4]
        exact rounded_half_eq hd s _ 3
      cases ib : Sb06.isInf b with
      | true => cases ia : Sb06.isInf a <;> cases za : Sb06.isZero a <;> simp_all [sw] <;> rfl
      | false =>
        rw [key ib]
        cases ia : Sb06.isInf a <;> cases za : Sb06.isZero a <;> simp_all [sw] <;> rfl
end Hd

namespace Hd
open PySem PyProof.Rows
/-! ### roots -/
theorem rootBelow_spec (m : Nat) : ∀ (k r : Nat), r * r ≤ m → m < (r + 2 ^ k) * (r + 2 ^ k) → Sb06.rootBelow m k r * Sb06.rootBelow m k r ≤ m ∧ m < (Sb06.rootBelow m k r + 1) * (Sb06.rootBelow m k r + 1)
  | 0, r, h1, h2 => ⟨h1, h2⟩
  | k + 1, r, h1, h2 => by
    unfold Sb06.rootBelow
    by_cases h : (r + 2 ^ k) * (r + 2 ^ k) ≤ m
    · rw [if_pos h]
      refine rootBelow_spec m k _ h ?_
      have e : r + 2 ^ k + 2 ^ k = r + 2 ^ (k + 1) := by rw [Nat.pow_succ]; omega
      rw [e]
      exact h2
    · rw [if_neg h]
      exact rootBelow_spec m k r h1 (Nat.lt_of_not_le h)
theorem sq_le {a b m : Nat} (h1 : a * a ≤ m) (h2 : m < (b + 1) * (b + 1)) : a ≤ b := by
  rcases Nat.lt_or_ge b a with z | z
  · have : (b + 1) * (b + 1) ≤ a * a := Nat.mul_le_mul z z
    omega
  · exact z
theorem sq_unique {a b m : Nat} (a1 : a * a ≤ m) (a2 : m < (a + 1) * (a + 1)) (b1 : b * b ≤ m) (b2 : m < (b + 1) * (b + 1)) : a = b := Nat.le_antisymm (sq_le a1 b2) (sq_le b1 a2)
theorem root64 (m : Nat) (h : m < 2 ^ 128) : Sb06.rootBelow m 64 0 * Sb06.rootBelow m 64 0 ≤ m ∧ m < (Sb06.rootBelow m 64 0 + 1) * (Sb06.rootBelow m 64 0 + 1) :=
  rootBelow_spec m 64 0 (Nat.zero_le _) (by rw [Nat.zero_add, ← Nat.pow_add]; exact h)
theorem root_key {wy : Nat} {d : Sb06.Dir} (hd : Sb06.dirOf wy = some d) (n r t : Nat) (r1 : r * r ≤ n) (r2 : n < (r + 1) * (r + 1)) (t1 : t * t ≤ n * 2 ^ 36) (t2 : n * 2 ^ 36 < (t + 1) * (t + 1)) :
    m_rounded_half (wy : Int) false (m_with_rest_told (r : Int) (decide ((r : Int) * (r : Int) = (n : Int)))) ((2 : Int) + (1 : Int)) = sw (if t * t = n * 2 ^ 36 then Sb06.result d false t (2 ^ 20) else Sb06.result d false (2 * t + 1) (2 ^ 21)) := by
  have hrt : t / 2 ^ 18 = r := by
    have hd0 := Nat.div_add_mod t (2 ^ 18)
    have hd1 : t % 2 ^ 18 < 2 ^ 18 := Nat.mod_lt _ (by decide)
    refine sq_unique (m := n) ?_ ?_ r1 r2
    · have h1 : t / 2 ^ 18 * 2 ^ 18 ≤ t := by omega
      have h2 : (t / 2 ^ 18 * 2 ^ 18) * (t / 2 ^ 18 * 2 ^ 18) ≤ t * t := Nat.mul_le_mul h1 h1
      have h3 : (t / 2 ^ 18 * 2 ^ 18) * (t / 2 ^ 18 * 2 ^ 18) = (t / 2 ^ 18 * (t / 2 ^ 18)) * 2 ^ 36 := by
        rw [Nat.mul_mul_mul_comm]
      omega
    · have h1 : t + 1 ≤ (t / 2 ^ 18 + 1) * 2 ^ 18 := by omega
      have h2 : (t + 1) * (t + 1) ≤ ((t / 2 ^ 18 + 1) * 2 ^ 18) * ((t / 2 ^ 18 + 1) * 2 ^ 18) := Nat.mul_le_mul h1 h1
      have h3 : ((t / 2 ^ 18 + 1) * 2 ^ 18) * ((t / 2 ^ 18 + 1) * 2 ^ 18) = ((t / 2 ^ 18 + 1) * (t / 2 ^ 18 + 1)) * 2 ^ 36 := by
        rw [Nat.mul_mul_mul_comm]
      omega
  have hr : ∀ e : Bool, m_rounded_half (wy : Int) false ((2 * r + (bif e then 0 else 1) : Nat) : Int) (((2 : Int) + (1 : Int))) = sw (Sb06.result d false (2 * r + (bif e then 0 else 1)) 8) := fun e => rounded_half_eq hd false _ 3
  rw [rest_told, hr]
  congr 1
  by_cases ht : t * t = n * 2 ^ 36
  · rw [if_pos ht, sticky d false t (2 ^ 20) (by decide)]
    have e3 : 4 * t / 2 ^ 20 = r := by omega
    rw [e3]
    have e4 : (bif decide ((r : Int) * (r : Int) = (n : Int)) then 0 else 1) = (if 4 * t % 2 ^ 20 = 0 then 0 else 1) := by
      by_cases z : 4 * t % 2 ^ 20 = 0
      · have h1 : t = r * 2 ^ 18 := by omega
        have h2 : r * r = n := by
          have h3 : t * t = (r * r) * 2 ^ 36 := by
            rw [h1, Nat.mul_mul_mul_comm]
          omega
        rw [if_pos z, decide_eq_true (by rw [← Int.natCast_mul, h2])]
        rfl
      · have h2 : ¬ r * r = n := fun q => by
          have h3 : (r * 2 ^ 18) * (r * 2 ^ 18) = t * t := by
            rw [Nat.mul_mul_mul_comm, q, ht]
          have h4 : r * 2 ^ 18 = t := Nat.mul_self_inj.mp h3
          omega
        rw [if_neg z, decide_eq_false (by rw [← Int.natCast_mul]; omega)]
        rfl
    rw [e4]
  · rw [if_neg ht, sticky d false (2 * t + 1) (2 ^ 21) (by decide)]
    have e3 : 4 * (2 * t + 1) / 2 ^ 21 = r := by omega
    have e5 : ¬ 4 * (2 * t + 1) % 2 ^ 21 = 0 := by omega
    rw [e3, if_neg e5]
    have h2 : ¬ r * r = n := fun q => by
      have h1 : r * 2 ^ 18 ≤ t := by omega
      have h3 : (r * 2 ^ 18) * (r * 2 ^ 18) = n * 2 ^ 36 := by
        rw [Nat.mul_mul_mul_comm, q]
      have h5 : (r * 2 ^ 18) * (r * 2 ^ 18) ≤ t * t := Nat.mul_le_mul h1 h1
      omega
    rw [decide_eq_false (by rw [← Int.natCast_mul]; omega)]
    rfl
/-- the root of what isn't 0, below 0, infinite or no number -/
def rootN (d : Sb06.Dir) (m : Nat) : Sb06.Result :=
  if Sb06.rootBelow m 64 0 * Sb06.rootBelow m 64 0 = m then Sb06.result d false (Sb06.rootBelow m 64 0) (2 ^ 20) else Sb06.result d false (2 * Sb06.rootBelow m 64 0 + 1) (2 ^ 21)
theorem root_N (d : Sb06.Dir) (a : Nat) : Sb06.root d a = match Sb06.nans [a] with
    | some x => x
    | none => if Sb06.isZero a = true then (a, 0) else if Sb06.negative a = true then (Sb06.NAN, Sb06.INVALID) else if Sb06.isInf a = true then (a, 0) else rootN d (Sb06.magnitude a * 2 ^ 64) := by
  unfold Sb06.root rootN
  dsimp only
  cases Sb06.nans [a] with
  | some x => rfl
  | none =>
    dsimp only
theorem rootN_eq {wy : Nat} {d : Sb06.Dir} (hd : Sb06.dirOf wy = some d) (n : Nat) (h : n < 2 ^ 90) :
    m_rounded_half (wy : Int) false (m_with_rest_told (m_whole_root (n : Int)) (decide (m_whole_root (n : Int) * m_whole_root (n : Int) = (n : Int)))) ((2 : Int) + (1 : Int)) = sw (rootN d (n * 2 ^ 36)) := by
  have e : m_whole_root (n : Int) = ((Sb06.rootBelow n 64 0 : Nat) : Int) := congrArg (fun k => ((Sb06.rootBelow k 64 0 : Nat) : Int)) (Int.toNat_natCast n)
  have b1 : n < 2 ^ 128 := Nat.lt_trans h (by decide)
  have b2 : n * 2 ^ 36 < 2 ^ 128 := by
    have h3 : n * 2 ^ 36 < 2 ^ 90 * 2 ^ 36 := Nat.mul_lt_mul_of_pos_right h (by decide)
    exact Nat.lt_trans h3 (by decide)
  have r1 := root64 n b1
  have t1 := root64 (n * 2 ^ 36) b2
  unfold rootN
  rw [e]
  revert r1 t1
  generalize hr : Sb06.rootBelow n 64 0 = r
  generalize ht : Sb06.rootBelow (n * 2 ^ 36) 64 0 = t
  intro r1 t1
  exact root_key hd n r t r1.1 r1.2 t1.1 t1.2
theorem rootN_eq' {wy : Nat} {d : Sb06.Dir} (hd : Sb06.dirOf wy = some d) (n : Nat) (h : n < 2 ^ 90) (z : Int) (hz : z = (n : Int)) :
    m_rounded_half (wy : Int) false (m_with_rest_told (m_whole_root z) (decide (m_whole_root z * m_whole_root z = z))) ((2 : Int) + (1 : Int)) = sw (rootN d (n * 2 ^ 36)) := by
  subst hz
  exact rootN_eq hd n h
theorem root_eq {wy : Nat} {d : Sb06.Dir} (hd : Sb06.dirOf wy = some d) (a : Nat) (ha : a < 65536) : m_square_root (wy : Int) (a : Int) = sw (Sb06.root d a) := by
  unfold m_square_root
  rw [root_N]
  dsimp only
  rw [show ([(a : Int)] : List Int) = [a].map (fun (b : Nat) => (b : Int)) from rfl, nn_eq]
  generalize Sb06.nans [a] = o
  have e1 : (Sb06.magnitude a : Int) * 2 ^ ((((24 : Int) + (2 : Int)) + (2 : Int)) : Int).toNat = ((Sb06.magnitude a * 2 ^ 28 : Nat) : Int) := mul_cast _ 28
  have hm := mag_lt a
  have e2 : Sb06.magnitude a * 2 ^ 64 = Sb06.magnitude a * 2 ^ 28 * 2 ^ 36 := by rw [Nat.mul_assoc]
  have e3 : Sb06.magnitude a * 2 ^ 28 < 2 ^ 90 := by omega
  have key := rootN_eq' hd (Sb06.magnitude a * 2 ^ 28) e3 _ e1
  rw [← e2] at key
  generalize rootN d (Sb06.magnitude a * 2 ^ 64) = y at *
  rw [mu_eq, key]
  rw [zero_eq, minus_eq a ha, inf_eq]
  clear key e1 e2 e3
  cases o with
  | some x => rfl
  | none =>
    simp only [Option.map_none, Option.getD_none]
    generalize Sb06.isZero a = b1
    generalize Sb06.isInf a = b2
    generalize Sb06.negative a = b3
    cases b1 <;> cases b2 <;> cases b3 <;> simp only [cond_true, cond_false, if_true, if_false, Bool.false_eq_true] <;> rfl
/-! ### the lesser, the greater -/
theorem second_eq (b : Nat) : m_second_where_no_number (b : Int) = sw (if Sb06.isNaN b = true then Sb06.NAN else b, Sb06.INVALID) := by
  unfold m_second_where_no_number
  rw [nan_eq]
  cases Sb06.isNaN b <;> rfl
theorem lesser_eq (a b : Nat) (ha : a < 65536) (hb : b < 65536) : m_lesser (a : Int) (b : Int) = sw (Sb06.least a b) := by
  unfold m_lesser Sb06.least Sb06.chosen
  rw [nan_eq, nan_eq, second_eq]
  cases na : Sb06.isNaN a with
  | true => simp
  | false =>
    cases nb : Sb06.isNaN b with
    | true => simp
    | false =>
      have h := (rank_lt a b ha hb na nb).1
      have e : decide (m_rank (a : Int) < m_rank (b : Int)) = decide (Sb06.rank a < Sb06.rank b) := by rw [Bool.eq_iff_iff, decide_eq_true_eq, decide_eq_true_eq]; exact h
      rw [e]
      cases decide (Sb06.rank a < Sb06.rank b) <;> simp [sw]
theorem greater_eq (a b : Nat) (ha : a < 65536) (hb : b < 65536) : m_greater (a : Int) (b : Int) = sw (Sb06.greatest a b) := by
  unfold m_greater Sb06.greatest Sb06.chosen
  rw [nan_eq, nan_eq, second_eq]
  cases na : Sb06.isNaN a with
  | true => simp
  | false =>
    cases nb : Sb06.isNaN b with
    | true => simp
    | false =>
      have h := (rank_lt b a hb ha nb na).1
      have e : decide (m_rank (b : Int) < m_rank (a : Int)) = decide (Sb06.rank b < Sb06.rank a) := by rw [Bool.eq_iff_iff, decide_eq_true_eq, decide_eq_true_eq]; exact h
      rw [e]
      cases decide (Sb06.rank b < Sb06.rank a) <;> simp [sw]
end Hd

namespace Hd
open PySem PyProof.Rows
/-! ### numbers that a half has -/
theorem units_exact (w : Sb06.Way) (k u : Nat) (hu : 0 < u) : Sb06.units w (k * u) u = (k, false) := by
  unfold Sb06.units
  dsimp only
  rw [Nat.mul_mod_left, Nat.mul_div_cancel _ hu]
  cases w <;> simp <;> omega
/-- what has no more than eleven bits is told as it is -/
theorem result_exact (d : Sb06.Dir) (s : Bool) (k j D : Nat) (hD : 0 < D) (hk : k < 2048) (hk0 : 0 < k) (hkj : 0 < j → 1024 ≤ k) (hv : k * 2 ^ j < 2 ^ 40) : Sb06.result d s (k * 2 ^ j * D) D = (Sb06.sign s + (j * 1024 + k), 0) := by
  have hj : 0 < 2 ^ j := Nat.two_pow_pos j
  have hpos : 0 < k * 2 ^ j := Nat.mul_pos hk0 hj
  have hN : k * 2 ^ j * D ≠ 0 := by
    have := Nat.mul_pos hpos hD
    omega
  have hl : Nat.log2 (k * 2 ^ j) - 10 = j := by
    by_cases h : 1024 ≤ k
    · have e : Nat.log2 (k * 2 ^ j) = j + 10 := by
        refine log2_of ?_ ?_
        · rw [Nat.pow_add, Nat.mul_comm]
          exact Nat.mul_le_mul_right _ h
        · rw [show j + 10 + 1 = j + 11 by omega, Nat.pow_add, Nat.mul_comm]
          exact Nat.mul_lt_mul_of_pos_left hk hj
      omega
    · have h0 : j = 0 := by omega
      subst h0
      rw [Nat.pow_zero, Nat.mul_one]
      have := (Nat.log2_lt (by omega : k ≠ 0) (k := 10)).mpr (by omega)
      omega
  have hr : ∀ w, Sb06.rounded w (k * 2 ^ j * D) D = (k * 2 ^ j, false) := fun w => by
    unfold Sb06.rounded
    dsimp only
    rw [Nat.mul_div_cancel _ hD, hl, show k * 2 ^ j * D = k * (D * 2 ^ j) by rw [Nat.mul_assoc, Nat.mul_comm D], units_exact w k _ (Nat.mul_pos hD hj)]
  rw [result_fin hN, hr]
  unfold fin
  rw [if_neg (by show ¬ 2 ^ 40 ≤ k * 2 ^ j; omega), (pack k j (by omega) hkj).1]
  rfl
/-- a finite half's magnitude -/
theorem mag_rep (a : Nat) : ∃ k j, Sb06.magnitude a = k * 2 ^ j ∧ k < 2048 ∧ (0 < j → 1024 ≤ k) ∧ a % 32768 = j * 1024 + k ∧ j ≤ 30 := by
  rw [mag_mgn]
  have hm : a % 32768 < 32768 := Nat.mod_lt _ (by decide)
  generalize a % 32768 = m at *
  unfold mgn
  by_cases h : m / 1024 = 0
  · exact ⟨m, 0, by rw [if_pos h, Nat.pow_zero, Nat.mul_one], by omega, by omega, by omega, by omega⟩
  · exact ⟨1024 + m % 1024, m / 1024 - 1, by rw [if_neg h], by omega, by omega, by omega, by omega⟩
theorem fin_facts (a : Nat) (hn : Sb06.isNaN a = false) (hi : Sb06.isInf a = false) : a % 32768 < 31744 ∧ Sb06.magnitude a < 2 ^ 40 := by
  have h1 : a % 32768 < 31744 := by
    rw [← nan_eq] at hn
    rw [← inf_eq] at hi
    unfold m_is_no_number at hn
    unfold m_is_infinite at hi
    rw [and_mag, decide_eq_false_iff_not] at hn hi
    omega
  refine ⟨h1, ?_⟩
  rw [mag_mgn]
  have h2 := mgn_lt h1
  have h3 : mgn 31744 = 2 ^ 40 := by decide
  omega
theorem mag_pos (a : Nat) (hz : Sb06.isZero a = false) : 0 < Sb06.magnitude a := by
  rw [← zero_eq] at hz
  unfold m_is_zero at hz
  rw [and_mag, decide_eq_false_iff_not] at hz
  have := mag0 a
  omega
theorem near_dir : Sb06.dirOf 0 = some .near := rfl
theorem near_half (s : Bool) (N b : Nat) : m_rounded_half (0 : Int) s (N : Int) (b : Int) = sw (Sb06.result .near s N (2 ^ b)) := rounded_half_eq near_dir s N b
theorem near_half0 (s : Bool) (N : Nat) : m_rounded_half (0 : Int) s (N : Int) (0 : Int) = sw (Sb06.result .near s N 1) := rounded_half_eq near_dir s N 0
theorem one_sign (s : Bool) : m_with_sign s (15360 : Int) = ((Sb06.sign s + Sb06.ONE : Nat) : Int) := sign_eq s 15360 (by decide)
theorem pred_bits (n : Nat) (h : 0 < n) : ((Builtin.Int.intBits (n : Int) : Nat) : Int) - 1 = ((Nat.log2 n : Nat) : Int) := by
  rw [bits_nat, if_neg (by omega)]
  omega
/-! ### exponents, fractions -/
theorem power_eq (a : Nat) : m_exponent (a : Int) = sw (Sb06.power a) := by
  unfold m_exponent m_rounded_number Sb06.power
  dsimp only
  rw [show ([(a : Int)] : List Int) = [a].map (fun (b : Nat) => (b : Int)) from rfl, nn_eq]
  generalize Sb06.nans [a] = o
  cases o with
  | some x => rfl
  | none =>
    simp only [Option.map_none, Option.getD_none]
    rw [zero_eq, inf_eq, mu_eq]
    have nb := not_both a
    cases hz : Sb06.isZero a with
    | true =>
      cases hi : Sb06.isInf a with
      | true => exact absurd ⟨hz, hi⟩ nb
      | false => rfl
    | false =>
      cases hi : Sb06.isInf a with
      | true => rfl
      | false =>
        simp only [cond_false, Bool.false_eq_true, if_false]
        rw [pred_bits _ (mag_pos a hz)]
        generalize Nat.log2 (Sb06.magnitude a) = l
        unfold Sb06.ofInt
        have e2 : (if ((l : Int) - 24) < 0 then -((l : Int) - 24) else ((l : Int) - 24)) * 2 ^ ((24 : Int) : Int).toNat = ((((l : Int) - 24).natAbs * 2 ^ 24 : Nat) : Int) := by
          have e3 : (if ((l : Int) - 24) < 0 then -((l : Int) - 24) else ((l : Int) - 24)) = ((((l : Int) - 24).natAbs : Nat) : Int) := by split <;> omega
          rw [e3]
          exact mul_cast _ 24
        rw [e2, near_half0]
        by_cases h : ((l : Int) - 24) * 2 ^ 24 = 0
        · rw [if_pos h]
          have h0 : (l : Int) - 24 = 0 := by omega
          rw [h0]
          rfl
        · rw [if_neg h]
          have h1 : decide (((l : Int) - 24) < 0) = decide (((l : Int) - 24) * 2 ^ 24 < 0) := by
            rw [Bool.eq_iff_iff, decide_eq_true_eq, decide_eq_true_eq]
            omega
          have h2 : ((l : Int) - 24).natAbs * 2 ^ 24 = (((l : Int) - 24) * 2 ^ 24).natAbs := by omega
          rw [h1, h2]
theorem mantissa_eq (a : Nat) (ha : a < 65536) : m_without_exponent (a : Int) = sw (Sb06.mantissa a) := by
  unfold m_without_exponent Sb06.mantissa
  dsimp only
  rw [show ([(a : Int)] : List Int) = [a].map (fun (b : Nat) => (b : Int)) from rfl, nn_eq]
  generalize Sb06.nans [a] = o
  cases o with
  | some x => rfl
  | none =>
    simp only [Option.map_none, Option.getD_none]
    rw [zero_eq, inf_eq, mu_eq, minus_eq a ha]
    rw [one_sign]
    by_cases q : Sb06.isInf a = true ∨ Sb06.isZero a = true
    · rw [if_pos q]
      have e : (Sb06.isZero a || Sb06.isInf a) = true := by rw [Bool.or_eq_true]; exact q.symm
      rw [e]
      rfl
    · rw [if_neg q]
      have hz : Sb06.isZero a = false := by cases z : Sb06.isZero a with | false => rfl | true => exact absurd (.inr z) q
      have hi : Sb06.isInf a = false := by cases z : Sb06.isInf a with | false => rfl | true => exact absurd (.inl z) q
      rw [hz, hi]
      rw [Bool.or_self, cond_false]
      have hp := mag_pos a hz
      rw [pred_bits _ hp]
      have e24 : (Sb06.magnitude a : Int) * 2 ^ ((24 : Int) : Int).toNat = ((Sb06.magnitude a * 2 ^ 24 : Nat) : Int) := mul_cast _ 24
      rw [e24, near_half]
      congr 1
      obtain ⟨k, j, hm, hk, hkj, _, _⟩ := mag_rep a
      rw [hm] at hp ⊢
      have hk0 : 0 < k := by
        rcases Nat.eq_zero_or_pos k with z | z
        · subst z; simp at hp
        · exact z
      have hj : 0 < 2 ^ j := Nat.two_pow_pos j
      obtain ⟨c, l, hc, hl, hc1, hc2⟩ : ∃ c l, k * 2 ^ j * 2 ^ 10 = c * 2 ^ l ∧ Nat.log2 (k * 2 ^ j) = l ∧ 1024 ≤ c ∧ c < 2048 := by
        by_cases h : 1024 ≤ k
        · refine ⟨k, j + 10, by rw [Nat.pow_add, Nat.mul_assoc], log2_of ?_ ?_, h, hk⟩
          · rw [Nat.pow_add, Nat.mul_comm]
            exact Nat.mul_le_mul_right _ h
          · rw [show j + 10 + 1 = j + 11 by omega, Nat.pow_add, Nat.mul_comm]
            exact Nat.mul_lt_mul_of_pos_left hk hj
        · have h0 : j = 0 := by omega
          subst h0
          rw [Nat.pow_zero, Nat.mul_one]
          obtain ⟨b1, b2⟩ := log2_bounds (show k ≠ 0 by omega)
          have h9 : Nat.log2 k < 10 := (Nat.log2_lt (by omega)).mpr (by omega)
          refine ⟨k * 2 ^ (10 - Nat.log2 k), Nat.log2 k, ?_, rfl, ?_, ?_⟩
          · rw [Nat.mul_assoc, ← Nat.pow_add, show 10 - Nat.log2 k + Nat.log2 k = 10 by omega]
          · have := Nat.mul_le_mul_right (2 ^ (10 - Nat.log2 k)) b1
            rw [← Nat.pow_add, show Nat.log2 k + (10 - Nat.log2 k) = 10 by omega] at this
            omega
          · have := Nat.mul_lt_mul_of_pos_right b2 (Nat.two_pow_pos (10 - Nat.log2 k))
            rw [← Nat.pow_add, show Nat.log2 k + 1 + (10 - Nat.log2 k) = 11 by omega] at this
            omega
      rw [hl, hc]
      have e1 : k * 2 ^ j * 2 ^ 24 = c * 2 ^ 14 * 2 ^ l := by
        have : k * 2 ^ j * 2 ^ 24 = k * 2 ^ j * 2 ^ 10 * 2 ^ 14 := by omega
        rw [this, hc, Nat.mul_right_comm]
      rw [e1, result_exact _ _ c 14 (2 ^ l) (Nat.two_pow_pos l) hc2 (by omega) (fun _ => hc1) (by omega), Nat.mul_div_cancel _ (Nat.two_pow_pos l)]
      have h1 : Sb06.ONE = 15360 := rfl
      have h2 : Sb06.sign (Sb06.negative a) + (14 * 1024 + c) = Sb06.sign (Sb06.negative a) + Sb06.ONE + (c - 2 ^ 10) := by omega
      rw [h2]
end Hd

namespace Hd
open PySem PyProof.Rows
/-! ### powers of two -/
/-- so far down that nothing is left but a rest -/
theorem result_low (d : Sb06.Dir) (s : Bool) (N n : Nat) (hN : 0 < N) (hN2 : N < 2 ^ 41) (hn : 64 ≤ n) : Sb06.result d s N (2 ^ n) = Sb06.result d s 1 (2 ^ 64) := by
  have key : ∀ N n : Nat, 0 < N → N < 2 ^ 41 → 64 ≤ n → Sb06.result d s N (2 ^ n) = fin s (Sb06.wayOf d s) (match Sb06.wayOf d s with | .near => (0, true) | .cut => (0, true) | .away => (1, true)) true := fun N n h1 h2 h3 => by
    have hp : 2 ^ 64 ≤ 2 ^ n := Nat.pow_le_pow_right (by decide) h3
    have hd : N / 2 ^ n = 0 := Nat.div_eq_of_lt (by omega)
    have hl : Nat.log2 0 - 10 = 0 := by decide
    rw [result_fin (by omega)]
    unfold Sb06.rounded Sb06.units Sb06.tiny
    dsimp only
    rw [hd, hl, Nat.pow_zero, Nat.mul_one, Nat.mul_one, hd, Nat.mod_eq_of_lt (by omega)]
    generalize 2 ^ n = D at *
    rw [decide_eq_true (show N < 2 ^ 10 * D by omega), decide_eq_true (show N ≠ 0 by omega)]
    cases Sb06.wayOf d s with
    | near =>
      dsimp only
      rw [decide_eq_false (show ¬ D < 2 * N by omega), decide_eq_false (show ¬ 2 * N = D by omega), decide_eq_true (show 4 * N < (4 * 2 ^ 10 - 1) * D by omega)]
      rfl
    | cut => rfl
    | away =>
      dsimp only
      rw [decide_eq_true (show 0 < N by omega), decide_eq_true (show 2 * N ≤ (2 * 2 ^ 10 - 1) * D by omega)]
      rfl
  rw [key N n hN hN2 hn, key 1 64 (by decide) (by decide) (by decide)]
/-- so far up that it is beyond all -/
theorem result_high (d : Sb06.Dir) (s : Bool) (N n : Nat) (hN : 0 < N) (hn : 64 ≤ n) : Sb06.result d s (N * 2 ^ n) 1 = (Sb06.sign s + (if Sb06.wayOf d s = .cut then Sb06.LARGEST else Sb06.INF), Sb06.OVERFLOW + Sb06.INEXACT) := by
  have hp : 2 ^ 64 ≤ 2 ^ n := Nat.pow_le_pow_right (by decide) hn
  have hv : 2 ^ 64 ≤ N * 2 ^ n := by
    have : 1 * 2 ^ n ≤ N * 2 ^ n := Nat.mul_le_mul_right _ hN
    omega
  generalize N * 2 ^ n = v at *
  rw [result_fin (by omega)]
  unfold fin
  rw [if_pos]
  unfold Sb06.rounded
  dsimp only
  rw [Nat.div_one, Nat.one_mul]
  obtain ⟨h1, h2⟩ := log2_bounds (show v ≠ 0 by omega)
  have hl : 64 ≤ Nat.log2 v := by
    rcases Nat.lt_or_ge (Nat.log2 v) 64 with z | z
    · have : 2 ^ (Nat.log2 v + 1) ≤ 2 ^ 64 := Nat.pow_le_pow_right (by decide) z
      omega
    · exact z
  obtain ⟨c, hc⟩ : ∃ c, Nat.log2 v = c + 10 := ⟨Nat.log2 v - 10, by omega⟩
  rw [hc] at h1 ⊢
  rw [Nat.add_sub_cancel]
  have hu : 0 < 2 ^ c := Nat.two_pow_pos c
  have h3 : 1024 ≤ v / 2 ^ c := by
    rw [Nat.le_div_iff_mul_le hu]
    rw [Nat.pow_add] at h1
    omega
  have h4 := units_fst (Sb06.wayOf d s) v (2 ^ c)
  have h5 : 1024 ≤ (Sb06.units (Sb06.wayOf d s) v (2 ^ c)).1 := by omega
  have h6 : 2 ^ 54 ≤ 2 ^ c := Nat.pow_le_pow_right (by decide) (by omega)
  have h7 := Nat.mul_le_mul h5 h6
  omega
theorem clamp (e : Int) : (if (64 : Int) < (if (-(64 : Int)) > e then (-(64 : Int)) else e) then (64 : Int) else (if (-(64 : Int)) > e then (-(64 : Int)) else e)) = if e < -64 then -64 else if 64 < e then 64 else e := by
  split <;> split <;> (try split) <;> omega
theorem scaled_eq {wy : Nat} {d : Sb06.Dir} (hd : Sb06.dirOf wy = some d) (a b : Nat) (ha : a < 65536) (hb : b < 65536) : m_scaled (wy : Int) (a : Int) (b : Int) = sw (Sb06.scaled d a b) := by
  unfold m_scaled m_rounded_by_power m_scaled_without_end Sb06.scaled
  dsimp only
  rw [show ([(a : Int), (b : Int)] : List Int) = [a, b].map (fun (b : Nat) => (b : Int)) from rfl, nn_eq]
  generalize Sb06.nans [a, b] = o
  cases o with
  | some x => rfl
  | none =>
    simp only [Option.map_none, Option.getD_none]
    rw [inf_eq, inf_eq, zero_eq, minus_eq a ha, minus_eq b hb, mu_eq, units_eq b hb, sign_inf, sign_zero, clamp]
    have e24 : Sb06.number b / 2 ^ ((24 : Int) : Int).toNat = Int.fdiv (Sb06.number b) (2 ^ 24) := (Int.fdiv_eq_ediv_of_nonneg _ (by decide)).symm
    rw [e24]
    generalize Int.fdiv (Sb06.number b) (2 ^ 24) = e
    have nb := not_both a
    have hm := mag_lt a
    have key : Sb06.isZero a = false → (bif decide ((if e < -64 then -64 else if 64 < e then 64 else e) < 0) then m_rounded_half (wy : Int) (Sb06.negative a) (Sb06.magnitude a : Int) (-(if e < -64 then -64 else if 64 < e then 64 else e)) else m_rounded_half (wy : Int) (Sb06.negative a) ((Sb06.magnitude a : Int) * 2 ^ ((if e < -64 then -64 else if 64 < e then 64 else e) : Int).toNat) 0) = sw (if 0 ≤ e then Sb06.result d (Sb06.negative a) (Sb06.magnitude a * 2 ^ e.toNat) 1 else Sb06.result d (Sb06.negative a) (Sb06.magnitude a) (2 ^ (-e).toNat)) := fun hz => by
      have hp := mag_pos a hz
      generalize Sb06.magnitude a = n at *
      generalize Sb06.negative a = s at *
      have up : ∀ k : Nat, m_rounded_half (wy : Int) s ((n : Int) * 2 ^ ((k : Nat) : Int).toNat) 0 = sw (Sb06.result d s (n * 2 ^ k) 1) := fun k => by
        rw [mul_cast]
        exact rounded_half_eq hd s (n * 2 ^ k) 0
      by_cases h1 : e < -64
      · rw [if_pos h1, decide_eq_true (by decide), if_neg (by omega)]
        have hs := rounded_half_eq hd s n 64
        rw [show ((64 : Nat) : Int) = -(-64 : Int) from rfl] at hs
        rw [cond_true]
        rw [hs, result_low d s n 64 hp hm (by decide), result_low d s n (-e).toNat hp hm (by omega)]
      · rw [if_neg h1]
        by_cases h2 : 64 < e
        · rw [if_pos h2, decide_eq_false (by decide), if_pos (by omega)]
          have hs := up 64
          rw [show ((64 : Nat) : Int) = 64 from rfl] at hs
          rw [cond_false]
          rw [hs, result_high d s n 64 hp (by decide), result_high d s n e.toNat hp (by omega)]
        · rw [if_neg h2]
          by_cases h3 : 0 ≤ e
          · obtain ⟨k, rfl⟩ : ∃ k : Nat, e = (k : Int) := ⟨e.toNat, by omega⟩
            rw [decide_eq_false (by omega), if_pos h3, Int.toNat_natCast]
            rw [cond_false]
            have hs := up k
            rw [Int.toNat_natCast] at hs
            exact hs
          · obtain ⟨k, hk⟩ : ∃ k : Nat, -e = (k : Int) := ⟨(-e).toNat, by omega⟩
            rw [decide_eq_true (by omega), if_neg h3, hk, Int.toNat_natCast]
            rw [cond_true]
            exact rounded_half_eq hd s n k
    have fin : ∀ (y : Sb06.Result) (z : Int × Int), (Sb06.isZero a = false → z = sw y) → (bif Sb06.isInf b then (bif Sb06.negative b then (bif Sb06.isInf a then m_invalid_answer else ((0 : Int), ((Sb06.sign (Sb06.negative a) : Nat) : Int))) else (bif Sb06.isZero a then m_invalid_answer else ((0 : Int), ((Sb06.sign (Sb06.negative a) + Sb06.INF : Nat) : Int)))) else (bif (Sb06.isZero a || Sb06.isInf a) then ((0 : Int), (a : Int)) else z))
        = sw (if Sb06.isInf b = true then (if Sb06.negative b = true then (if Sb06.isInf a = true then (Sb06.NAN, Sb06.INVALID) else (Sb06.sign (Sb06.negative a), 0)) else (if Sb06.isZero a = true then (Sb06.NAN, Sb06.INVALID) else (Sb06.sign (Sb06.negative a) + Sb06.INF, 0))) else if Sb06.isInf a = true ∨ Sb06.isZero a = true then (a, 0) else y) := fun y z hy => by
      clear key
      generalize Sb06.sign (Sb06.negative a) = s1
      generalize Sb06.isInf b = b1
      generalize Sb06.negative b = b2
      generalize Sb06.isInf a = b3 at *
      generalize Sb06.isZero a = b4 at *
      cases b4 with
      | false =>
        rw [hy rfl]
        cases b1 <;> cases b2 <;> cases b3 <;> simp [sw] <;> rfl
      | true =>
        cases b3 with
        | true => exact absurd ⟨rfl, rfl⟩ nb
        | false => cases b1 <;> cases b2 <;> simp [sw] <;> rfl
    exact fin _ _ key
/-! ### whole parts -/
theorem whole_rep (d : Sb06.Dir) (a : Nat) (hn : Sb06.isNaN a = false) (hi : Sb06.isInf a = false) :
    (Sb06.wholeOf d a).1 = 0 ∨ ∃ k j, (Sb06.wholeOf d a).1 * 2 ^ 24 = k * 2 ^ j ∧ k < 2048 ∧ 0 < k ∧ (0 < j → 1024 ≤ k) ∧ k * 2 ^ j < 2 ^ 40 := by
  obtain ⟨h1, h2⟩ := fin_facts a hn hi
  have hu := units_fst (Sb06.wayOf d (Sb06.negative a)) (Sb06.magnitude a) (2 ^ 24)
  by_cases hs : Sb06.magnitude a < 2 ^ 34
  · have hx : (Sb06.wholeOf d a).1 ≤ 1024 := by
      show (Sb06.units (Sb06.wayOf d (Sb06.negative a)) (Sb06.magnitude a) (2 ^ 24)).1 ≤ 1024
      omega
    generalize (Sb06.wholeOf d a).1 = x at *
    rcases Nat.eq_zero_or_pos x with z | z
    · exact .inl z
    · refine .inr ?_
      obtain ⟨b1, b2⟩ := log2_bounds (show x ≠ 0 by omega)
      have h10 : Nat.log2 x ≤ 10 := by
        rcases Nat.lt_or_ge 10 (Nat.log2 x) with q | q
        · have : 2 ^ 11 ≤ 2 ^ Nat.log2 x := Nat.pow_le_pow_right (by decide) q
          omega
        · exact q
      refine ⟨x * 2 ^ (10 - Nat.log2 x), 14 + Nat.log2 x, ?_, ?_, Nat.mul_pos z (Nat.two_pow_pos _), fun _ => ?_, ?_⟩
      · rw [Nat.mul_assoc, ← Nat.pow_add, show 10 - Nat.log2 x + (14 + Nat.log2 x) = 24 by omega]
      · have := Nat.mul_lt_mul_of_pos_right b2 (Nat.two_pow_pos (10 - Nat.log2 x))
        rw [← Nat.pow_add, show Nat.log2 x + 1 + (10 - Nat.log2 x) = 11 by omega] at this
        omega
      · have := Nat.mul_le_mul_right (2 ^ (10 - Nat.log2 x)) b1
        rw [← Nat.pow_add, show Nat.log2 x + (10 - Nat.log2 x) = 10 by omega] at this
        omega
      · rw [Nat.mul_assoc, ← Nat.pow_add, show 10 - Nat.log2 x + (14 + Nat.log2 x) = 24 by omega]
        omega
  · refine .inr ?_
    obtain ⟨k, j, hm, hk, hkj, hmod, hj⟩ := mag_rep a
    have hj24 : 24 ≤ j := by
      rcases Nat.lt_or_ge j 24 with q | q
      · have h3 : 2 ^ j ≤ 2 ^ 23 := Nat.pow_le_pow_right (by decide) (by omega)
        have h4 : k * 2 ^ j ≤ 2047 * 2 ^ 23 := Nat.mul_le_mul (by omega) h3
        omega
      · exact q
    obtain ⟨i, rfl⟩ : ∃ i, j = i + 24 := ⟨j - 24, by omega⟩
    have hm' : Sb06.magnitude a = k * 2 ^ i * 2 ^ 24 := by rw [hm, Nat.pow_add, Nat.mul_assoc]
    have hx : (Sb06.wholeOf d a).1 = k * 2 ^ i := by
      unfold Sb06.wholeOf
      rw [hm', units_exact _ _ _ (by decide)]
    have hkk := hkj (by omega)
    refine ⟨k, i + 24, by rw [hx, ← hm', hm], hk, by omega, hkj, by rw [← hm]; exact h2⟩
theorem packed_zero : Sb06.packed 0 = 0 := by decide
theorem wres (d : Sb06.Dir) (a : Nat) (hn : Sb06.isNaN a = false) (hi : Sb06.isInf a = false) : (Sb06.result d (Sb06.negative a) ((Sb06.wholeOf d a).1 * 2 ^ 24) 1).1 = Sb06.sign (Sb06.negative a) + Sb06.packed ((Sb06.wholeOf d a).1 * 2 ^ 24) := by
  rcases whole_rep d a hn hi with h | ⟨k, j, h1, h2, h3, h4, h5⟩
  · rw [h, Nat.zero_mul, packed_zero]
    rfl
  · rw [h1, (pack k j (by omega) h4).1]
    have := result_exact d (Sb06.negative a) k j 1 (by decide) h2 h3 h4 h5
    rw [Nat.mul_one] at this
    rw [this]
theorem whole_eq {wy : Nat} {d : Sb06.Dir} (hd : Sb06.dirOf wy = some d) (a : Nat) (ha : a < 65536) : m_whole_part (wy : Int) (a : Int) = sw (Sb06.whole d a) := by
  unfold m_whole_part m_nearby_whole Sb06.whole
  dsimp only
  rw [show ([(a : Int)] : List Int) = [a].map (fun (b : Nat) => (b : Int)) from rfl, nn_eq]
  cases hn : Sb06.nans [a] with
  | some x => rfl
  | none =>
    simp only [Option.map_none, Option.getD_none]
    have na : Sb06.isNaN a = false := nans_none hn a (by simp)
    rw [inf_eq, mu_eq, minus_eq a ha]
    cases hi : Sb06.isInf a with
    | true => rfl
    | false =>
      simp only [cond_false, Bool.false_eq_true, if_false]
      have hw := rw_eq hd (Sb06.negative a) (Sb06.magnitude a) 24
      rw [show ((24 : Nat) : Int) = 24 from rfl] at hw
      have e24 : ∀ x : Nat, (x : Int) * 2 ^ ((24 : Int) : Int).toNat = ((x * 2 ^ 24 : Nat) : Int) := fun x => mul_cast x 24
      rw [hw, e24]
      have hx : (Sb06.units (Sb06.wayOf d (Sb06.negative a)) (Sb06.magnitude a) (2 ^ 24)).1 = (Sb06.wholeOf d a).1 := rfl
      have hx2 : (Sb06.wholeOf d a).2 = decide (Sb06.magnitude a % 2 ^ 24 ≠ 0) := rfl
      have hx0 : Sb06.magnitude a % 2 ^ 24 = 0 → (Sb06.wholeOf d a).1 = Sb06.magnitude a / 2 ^ 24 := fun h => by
        have e : Sb06.magnitude a = Sb06.magnitude a / 2 ^ 24 * 2 ^ 24 := by omega
        unfold Sb06.wholeOf
        rw [e, units_exact _ _ _ (by decide), Nat.mul_div_cancel _ (by decide)]
      have hr := rounded_half_eq hd (Sb06.negative a) ((Sb06.wholeOf d a).1 * 2 ^ 24) 0
      rw [show ((0 : Nat) : Int) = 0 from rfl, Nat.pow_zero] at hr
      rw [hx, hr, hx2]
      unfold sw
      dsimp only
      rw [wres d a na hi]
      have key : decide ((((Sb06.wholeOf d a).1 * 2 ^ 24 : Nat) : Int) = (Sb06.magnitude a : Int)) = !decide (Sb06.magnitude a % 2 ^ 24 ≠ 0) := by
        by_cases h : Sb06.magnitude a % 2 ^ 24 = 0
        · rw [hx0 h, decide_eq_true (by omega), decide_eq_false (by omega)]
          rfl
        · rw [decide_eq_true h, decide_eq_false (by omega)]
          rfl
      rw [key]
      cases decide (Sb06.magnitude a % 2 ^ 24 ≠ 0) <;> rfl
theorem result_nonzero (d : Sb06.Dir) (s : Bool) (N : Nat) (hN : 0 < N) : Sb06.isZero (Sb06.result d s N 1).1 = false ∧ (Sb06.result d s N 1).1 < 65536 := by
  have hz : ∀ m : Nat, 0 < m → m < 32768 → Sb06.isZero (Sb06.sign s + m) = false ∧ Sb06.sign s + m < 65536 := fun m h1 h2 => by
    have hs : Sb06.sign s = 0 ∨ Sb06.sign s = 32768 := by cases s <;> decide
    refine ⟨?_, by omega⟩
    rw [← zero_eq]
    unfold m_is_zero
    rw [and_mag, decide_eq_false_iff_not]
    omega
  rw [result_fin (by omega)]
  unfold fin
  split
  · show Sb06.isZero (Sb06.sign s + _) = false ∧ Sb06.sign s + _ < 65536
    split
    · exact hz 31743 (by decide) (by decide)
    · exact hz 31744 (by decide) (by decide)
  · rename_i h
    show Sb06.isZero (Sb06.sign s + Sb06.packed _) = false ∧ Sb06.sign s + Sb06.packed _ < 65536
    unfold Sb06.rounded at h ⊢
    dsimp only at h ⊢
    rw [Nat.div_one, Nat.one_mul] at h ⊢
    obtain ⟨k1, k2, k3⟩ := kept_bounds (Sb06.wayOf d s) N 0
    rw [Nat.pow_zero, Nat.div_one, Nat.zero_add] at k1 k2 k3
    have hx := units_fst (Sb06.wayOf d s) N (2 ^ (Nat.log2 N - 10))
    have hj : 0 < 2 ^ (Nat.log2 N - 10) := Nat.two_pow_pos _
    have hb := (log2_bounds (show N ≠ 0 by omega)).1
    have hq : 1 ≤ N / 2 ^ (Nat.log2 N - 10) := by
      rw [Nat.le_div_iff_mul_le hj, Nat.one_mul]
      exact Nat.le_trans (Nat.pow_le_pow_right (by decide) (by omega)) hb
    generalize (Sb06.units (Sb06.wayOf d s) N (2 ^ (Nat.log2 N - 10))).1 = x at *
    generalize Nat.log2 N - 10 = j at *
    obtain ⟨p1, p2⟩ := pack x j k1 k2
    rw [p1]
    have h3 : ¬ 31744 ≤ j * 1024 + x := fun q => h (p2.mpr q)
    exact hz _ (by omega) (by omega)
theorem packed_facts (s : Bool) (m : Nat) (h : m < 31744) : Sb06.sign s + m < 65536 ∧ (Sb06.sign s + m) % 32768 = m ∧ Sb06.negative (Sb06.sign s + m) = s ∧ Sb06.isNaN (Sb06.sign s + m) = false ∧ Sb06.isInf (Sb06.sign s + m) = false := by
  have hs : (s = false ∧ Sb06.sign s = 0) ∨ (s = true ∧ Sb06.sign s = 32768) := by cases s <;> decide
  have h1 : Sb06.sign s + m < 65536 := by omega
  have h2 : (Sb06.sign s + m) % 32768 = m := by omega
  refine ⟨h1, h2, ?_, ?_, ?_⟩
  · rw [neg_bit _ h1]
    rcases hs with ⟨rfl, e⟩ | ⟨rfl, e⟩
    · exact decide_eq_false (by omega)
    · exact decide_eq_true (by omega)
  · rw [← nan_eq]
    unfold m_is_no_number
    rw [and_mag, decide_eq_false_iff_not]
    omega
  · rw [← inf_eq]
    unfold m_is_infinite
    rw [and_mag, decide_eq_false_iff_not]
    omega
theorem mgn_kj (k j : Nat) (h1 : k < 2048) (h2 : 0 < j → 1024 ≤ k) : mgn (j * 1024 + k) = k * 2 ^ j := by
  unfold mgn
  by_cases h : k < 1024
  · have : j = 0 := by omega
    subst this
    rw [if_pos (by omega), Nat.pow_zero]
    omega
  · have e1 : (j * 1024 + k) / 1024 = j + 1 := by omega
    have e2 : (j * 1024 + k) % 1024 = k - 1024 := by omega
    rw [e1, e2, if_neg (Nat.succ_ne_zero _), Nat.add_sub_cancel]
    congr 1
    omega
/-- the whole part as a half: its bits, its number -/
theorem whole_half (d : Sb06.Dir) (a : Nat) (hn : Sb06.isNaN a = false) (hi : Sb06.isInf a = false) : ∃ w : Nat, Sb06.packed ((Sb06.wholeOf d a).1 * 2 ^ 24) = w ∧ w < 31744 ∧ mgn w = (Sb06.wholeOf d a).1 * 2 ^ 24 := by
  rcases whole_rep d a hn hi with h | ⟨k, j, h1, h2, h3, h4, h5⟩
  · rw [h, Nat.zero_mul, packed_zero]
    exact ⟨0, rfl, by decide, by decide⟩
  · rw [h1]
    obtain ⟨p1, p2⟩ := pack k j (by omega) h4
    refine ⟨j * 1024 + k, p1, ?_, mgn_kj k j h2 h4⟩
    rcases Nat.lt_or_ge (j * 1024 + k) 31744 with q | q
    · exact q
    · have := p2.mpr q
      omega
theorem left_nan {wy : Nat} {d : Sb06.Dir} (hd : Sb06.dirOf wy = some d) (a : Nat) (ha : a < 65536) (na : Sb06.isNaN a = true) : (bif Sb06.isInf a then ((0 : Int), (0 : Int)) else (bif m_is_zero (m_add (wy : Int) (a : Int) (m_negated (sw (Sb06.whole d a)).2)).2 then ((0 : Int), (0 : Int)) else m_add (wy : Int) (a : Int) (m_negated (sw (Sb06.whole d a)).2))) = sw (Sb06.left d a) := by
  obtain ⟨x, hx⟩ := nans_some (l := [a]) (by simp) na
  have hi : Sb06.isInf a = false := by
    unfold Sb06.isNaN at na
    unfold Sb06.isInf
    rw [Bool.and_eq_true, bne_iff_ne] at na
    rw [Bool.and_eq_false_iff]
    exact .inr (beq_eq_false_iff_ne.mpr na.2)
  have hw : (sw (Sb06.whole d a)).2 = 32256 := by
    unfold Sb06.whole
    rw [hx]
    unfold Sb06.nans at hx
    split at hx
    · cases hx
      rfl
    · cases hx
  have hl : Sb06.left d a = x := by unfold Sb06.left; rw [hx]
  rw [hw, hl, hi]
  have e1 : m_negated (32256 : Int) = ((65024 : Nat) : Int) := by decide +kernel
  rw [e1, add_eq hd a 65024 ha (by decide)]
  have e2 : Sb06.nans [a, 65024] = some x := by
    rw [← hx]
    unfold Sb06.nans
    have q1 : Sb06.isNaN 65024 = true := by decide +kernel
    have q2 : Sb06.signalling 65024 = false := by decide +kernel
    simp only [List.any_cons, List.any_nil, q1, q2, na, Bool.or_false, Bool.true_or]
  rw [plus_nan e2]
  unfold Sb06.nans at hx
  rw [if_pos (by simp [na])] at hx
  have hx' := Option.some.inj hx
  rw [← hx']
  have e3 : ∀ q : Nat, m_is_zero (sw (Sb06.NAN, q)).2 = false := fun q => by
    show m_is_zero ((Sb06.NAN : Nat) : Int) = false
    decide +kernel
  rw [cond_false, e3, cond_false]
theorem left_fin {wy : Nat} {d : Sb06.Dir} (hd : Sb06.dirOf wy = some d) (a : Nat) (ha : a < 65536) (na : Sb06.isNaN a = false) (hi : Sb06.isInf a = false) : (bif false then ((0 : Int), (0 : Int)) else (bif m_is_zero (m_add (wy : Int) (a : Int) (m_negated (sw (Sb06.whole d a)).2)).2 then ((0 : Int), (0 : Int)) else m_add (wy : Int) (a : Int) (m_negated (sw (Sb06.whole d a)).2))) = sw (Sb06.left d a) := by
  obtain ⟨w, hw1, hw2, hw3⟩ := whole_half d a na hi
  obtain ⟨f1, f2, f3, f4, f5⟩ := packed_facts (Sb06.negative a) w hw2
  have hww : (sw (Sb06.whole d a)).2 = ((Sb06.sign (Sb06.negative a) + w : Nat) : Int) := by
    unfold Sb06.whole
    rw [nans_of (l := [a]) (by intro b hb; simp at hb; rw [hb]; exact na)]
    simp only [hi, Bool.false_eq_true, if_false]
    rw [hw1]
    rfl
  have hleft : Sb06.left d a = Sb06.ofInt d (if Sb06.negative a = true then -((Sb06.magnitude a : Int) - (((Sb06.wholeOf d a).1 * 2 ^ 24 : Nat) : Int)) else (Sb06.magnitude a : Int) - (((Sb06.wholeOf d a).1 * 2 ^ 24 : Nat) : Int)) 1 false := by
    unfold Sb06.left
    rw [nans_of (l := [a]) (by intro b hb; simp at hb; rw [hb]; exact na), hi]
    rfl
  rw [hww, negated_eq _ f1, add_eq hd a _ ha (minus_lt _ f1), hleft]
  clear hww hleft hw1
  generalize (Sb06.wholeOf d a).1 * 2 ^ 24 = v at *
  obtain ⟨g1, g2⟩ := minus_mod _ f1
  have hmm : Sb06.magnitude (Sb06.minus (Sb06.sign (Sb06.negative a) + w)) = v := by rw [mag_mgn, g1, f2, hw3]
  have hnum : Sb06.number (Sb06.minus (Sb06.sign (Sb06.negative a) + w)) = if Sb06.negative a = true then (v : Int) else -(v : Int) := by
    unfold Sb06.number
    rw [hmm, g2, f3]
    generalize Sb06.negative a = s
    cases s <;> simp
  have hp : Sb06.plus d a (Sb06.minus (Sb06.sign (Sb06.negative a) + w)) = Sb06.ofInt d (if Sb06.negative a = true then -((Sb06.magnitude a : Int) - (v : Int)) else (Sb06.magnitude a : Int) - (v : Int)) 1 (Sb06.zeroSign d (Sb06.negative a) (!Sb06.negative a)) := by
    unfold Sb06.plus
    rw [nans_of (l := [a, Sb06.minus (Sb06.sign (Sb06.negative a) + w)]) (by intro b hb; simp at hb; rcases hb with rfl | rfl; exact na; rw [nan_mod g1]; exact f4), hi, inf_mod g1, f5, g2, f3, hnum]
    have e : Sb06.number a + (if Sb06.negative a = true then (v : Int) else -(v : Int)) = (if Sb06.negative a = true then -((Sb06.magnitude a : Int) - (v : Int)) else (Sb06.magnitude a : Int) - (v : Int)) := by
      unfold Sb06.number
      generalize Sb06.magnitude a = n
      cases Sb06.negative a <;> simp only [if_true, if_false, Bool.false_eq_true] <;> omega
    rw [e]
    rfl
  rw [hp]
  generalize (if Sb06.negative a = true then -((Sb06.magnitude a : Int) - (v : Int)) else (Sb06.magnitude a : Int) - (v : Int)) = z
  rw [cond_false]
  unfold Sb06.ofInt
  by_cases hz : z = 0
  · rw [if_pos hz, if_pos hz]
    cases Sb06.zeroSign d (Sb06.negative a) (!Sb06.negative a) <;> decide +kernel
  · rw [if_neg hz, if_neg hz]
    obtain ⟨n1, n2⟩ := result_nonzero d (decide (z < 0)) z.natAbs (by omega)
    have e : m_is_zero (sw (Sb06.result d (decide (z < 0)) z.natAbs 1)).2 = false := by
      show m_is_zero (((Sb06.result d (decide (z < 0)) z.natAbs 1).1 : Nat) : Int) = false
      rw [zero_eq]
      exact n1
    rw [e, cond_false]
theorem left_eq {wy : Nat} {d : Sb06.Dir} (hd : Sb06.dirOf wy = some d) (a : Nat) (ha : a < 65536) : m_less_whole_part (wy : Int) (a : Int) = sw (Sb06.left d a) := by
  unfold m_less_whole_part
  dsimp only
  rw [inf_eq, whole_eq hd a ha]
  cases na : Sb06.isNaN a with
  | true => exact left_nan hd a ha na
  | false =>
    cases hi : Sb06.isInf a with
    | true =>
      unfold Sb06.left
      rw [nans_of (l := [a]) (by intro b hb; simp at hb; rw [hb]; exact na), hi]
      rfl
    | false => exact left_fin hd a ha na hi
end Hd

namespace Hd
open PySem PyProof.Rows
theorem step_0 (wy j a b c : Int) : m_step 0 wy j a b c = m_add wy a b := rfl
theorem step_1 (wy j a b c : Int) : m_step 1 wy j a b c = m_add wy a (m_negated b) := rfl
theorem step_2 (wy j a b c : Int) : m_step 2 wy j a b c = m_multiply wy a b := rfl
theorem step_3 (wy j a b c : Int) : m_step 3 wy j a b c = m_divide wy a b := rfl
theorem step_4 (wy j a b c : Int) : m_step 4 wy j a b c = m_square_root wy a := rfl
theorem step_5 (wy j a b c : Int) : m_step 5 wy j a b c = m_multiply_and_add wy a b c := rfl
theorem step_6 (wy j a b c : Int) : m_step 6 wy j a b c = m_multiply_and_add wy a b (m_negated c) := rfl
theorem step_7 (wy j a b c : Int) : m_step 7 wy j a b c = m_multiply_and_add wy (m_negated a) b c := rfl
theorem step_8 (wy j a b c : Int) : m_step 8 wy j a b c = m_multiply_and_add wy (m_negated a) b (m_negated c) := rfl
theorem step_9 (wy j a b c : Int) : m_step 9 wy j a b c = bif decide (Builtin.bitAnd j 1 = 0) then m_multiply_and_add wy a b (m_negated c) else m_multiply_and_add wy a b c := by
  show m_fused_step (bif decide (Builtin.bitAnd j 1 = 0) then 6 else 5) wy a b c = _
  cases decide (Builtin.bitAnd j 1 = 0) <;> rfl
theorem step_10 (wy j a b c : Int) : m_step 10 wy j a b c = bif decide (Builtin.bitAnd j 1 = 0) then m_multiply_and_add wy a b c else m_multiply_and_add wy a b (m_negated c) := by
  show m_fused_step (bif decide (Builtin.bitAnd j 1 = 0) then 5 else 6) wy a b c = _
  cases decide (Builtin.bitAnd j 1 = 0) <;> rfl
theorem step_11 (wy j a b c : Int) : m_step 11 wy j a b c = m_lesser a b := rfl
theorem step_12 (wy j a b c : Int) : m_step 12 wy j a b c = m_greater a b := rfl
theorem step_13 (wy j a b c : Int) : m_step 13 wy j a b c = m_exponent a := rfl
theorem step_14 (wy j a b c : Int) : m_step 14 wy j a b c = m_without_exponent a := rfl
theorem step_15 (wy j a b c : Int) : m_step 15 wy j a b c = m_scaled wy a b := rfl
theorem step_16 (wy j a b c : Int) : m_step 16 wy j a b c = m_whole_part wy a := rfl
theorem step_17 (wy j a b c : Int) : m_step 17 wy j a b c = m_less_whole_part wy a := rfl
theorem step_eq {wy : Nat} {d : Sb06.Dir} (hd : Sb06.dirOf wy = some d) (op j a b c : Nat) (hop : op ≤ 17) (ha : a < 65536) (hb : b < 65536) (hc : c < 65536) :
    m_step (op : Int) (wy : Int) (j : Int) (a : Int) (b : Int) (c : Int) = sw ((Sb06.lane op d j a b c).getD (0, 0)) := by
  have e : op = 0 ∨ op = 1 ∨ op = 2 ∨ op = 3 ∨ op = 4 ∨ op = 5 ∨ op = 6 ∨ op = 7 ∨ op = 8 ∨ op = 9 ∨ op = 10 ∨ op = 11 ∨ op = 12 ∨ op = 13 ∨ op = 14 ∨ op = 15 ∨ op = 16 ∨ op = 17 := by omega
  have hj := and_one j
  rcases e with rfl | rfl | rfl | rfl | rfl | rfl | rfl | rfl | rfl | rfl | rfl | rfl | rfl | rfl | rfl | rfl | rfl | rfl
  · exact (step_0 _ _ _ _ _).trans (add_eq hd a b ha hb)
  · refine (step_1 _ _ _ _ _).trans ?_
    rw [negated_eq b hb, add_eq hd a _ ha (minus_lt b hb), plus_ng d a b hb]
    rfl
  · exact (step_2 _ _ _ _ _).trans (multiply_eq hd a b ha hb)
  · exact (step_3 _ _ _ _ _).trans (divide_eq hd a b ha hb)
  · exact (step_4 _ _ _ _ _).trans (root_eq hd a ha)
  · exact (step_5 _ _ _ _ _).trans (fused_eq hd a b c ha hb hc)
  · refine (step_6 _ _ _ _ _).trans ?_
    rw [negated_eq c hc, fused_eq hd a b _ ha hb (minus_lt c hc), fused_ng_c d a b c hc]
    rfl
  · refine (step_7 _ _ _ _ _).trans ?_
    rw [negated_eq a ha, fused_eq hd _ b c (minus_lt a ha) hb hc, fused_ng_a d a b c ha]
    rfl
  · refine (step_8 _ _ _ _ _).trans ?_
    rw [negated_eq a ha, negated_eq c hc, fused_eq hd _ b _ (minus_lt a ha) hb (minus_lt c hc), fused_ng_a d a b _ ha, fused_ng_c d _ b c hc]
    rfl
  · refine (step_9 _ _ _ _ _).trans ?_
    rw [hj, negated_eq c hc, fused_eq hd a b _ ha hb (minus_lt c hc), fused_eq hd a b c ha hb hc, fused_ng_c d a b c hc]
    show _ = sw (Sb06.fused d a b (if Sb06.isNaN c = true ∨ j % 2 = 1 then c else Sb06.minus c))
    by_cases h : j % 2 = 0
    · rw [h, decide_eq_true (by rfl), cond_true]
      unfold ng
      by_cases q : Sb06.isNaN c = true
      · rw [if_pos q, if_pos (.inl q)]
      · rw [if_neg q, if_neg (by rintro (z | z); exact q z; omega)]
    · rw [decide_eq_false (by omega), cond_false, if_pos (.inr (by omega))]
  · refine (step_10 _ _ _ _ _).trans ?_
    rw [hj, negated_eq c hc, fused_eq hd a b _ ha hb (minus_lt c hc), fused_eq hd a b c ha hb hc, fused_ng_c d a b c hc]
    show _ = sw (Sb06.fused d a b (if Sb06.isNaN c = true ∨ j % 2 = 0 then c else Sb06.minus c))
    by_cases h : j % 2 = 0
    · rw [h, decide_eq_true (by rfl), cond_true, if_pos (.inr rfl)]
    · rw [decide_eq_false (by omega), cond_false]
      unfold ng
      by_cases q : Sb06.isNaN c = true
      · rw [if_pos q, if_pos (.inl q)]
      · rw [if_neg q, if_neg (by rintro (z | z); exact q z; omega)]
  · exact (step_11 _ _ _ _ _).trans (lesser_eq a b ha hb)
  · exact (step_12 _ _ _ _ _).trans (greater_eq a b ha hb)
  · exact (step_13 _ _ _ _ _).trans (power_eq a)
  · exact (step_14 _ _ _ _ _).trans (mantissa_eq a ha)
  · exact (step_15 _ _ _ _ _).trans (scaled_eq hd a b ha hb)
  · exact (step_16 _ _ _ _ _).trans (whole_eq hd a ha)
  · exact (step_17 _ _ _ _ _).trans (left_eq hd a ha)
theorem tog_raised : ∀ (l : List Sb06.Result) (r : Nat), m_together_raised (l.map sw) (r : Int) = ((l.foldl (fun r x => Sb06.join r x.2) r : Nat) : Int)
  | [], r => rfl
  | x :: l, r => by
    show m_together_raised (l.map sw) (Builtin.bitOr (r : Int) ((x.2 : Nat) : Int)) = _
    rw [or_nat, tog_raised l]
    rfl
theorem tog_eq (l : List Sb06.Result) : m_together (l.map sw) = ((Sb06.together l).raised : Int) :: (Sb06.together l).lanes.map fun (y : Nat) => (y : Int) := by
  unfold m_together Sb06.together
  rw [show (0 : Int) = ((0 : Nat) : Int) from rfl, tog_raised, List.map_map, List.map_map]
  rfl
theorem refused_eq (n : Nat) : m_refused (n : Int) = ((Sb06.refused n).raised : Int) :: (Sb06.refused n).lanes.map fun (y : Nat) => (y : Int) := by
  unfold m_refused Sb06.refused
  rw [Int.toNat_natCast, List.map_replicate]
  rfl
theorem ans_do (a b c : List Nat) (op dir : Nat) : Sb06Neutral.answered (.do_ a b c op dir) = (match Sb06.dirOf dir with
    | some d => if op ≤ 17 then Sb06.row 32 (fun (j : Nat) => (Sb06.lane op d j (Sb06.at_ a j) (Sb06.at_ b j) (Sb06.at_ c j)).getD (0, 0)) else Sb06.refused 32
    | none => Sb06.refused 32) := rfl
theorem do_eq (op way : Int) (l l' l'' : List Int) (h0 : 0 ≤ op) (h1 : 0 ≤ way) (h : ∀ x ∈ l, 0 ≤ x ∧ x ≤ 65535) (h' : ∀ x ∈ l', 0 ≤ x ∧ x ≤ 65535) (h'' : ∀ x ∈ l'', 0 ≤ x ∧ x ≤ 65535) : m_do op way l l' l'' = PySb06.do_ op way l l' l'' := by
  obtain ⟨o, rfl⟩ : ∃ o : Nat, op = (o : Int) := ⟨op.toNat, by omega⟩
  obtain ⟨w, rfl⟩ : ∃ w : Nat, way = (w : Int) := ⟨way.toNat, by omega⟩
  show _ = ((Sb06Neutral.answered (.do_ (Sb06Neutral.nats l) (Sb06Neutral.nats l') (Sb06Neutral.nats l'') (o : Int).toNat (w : Int).toNat)).raised : Int) :: (Sb06Neutral.answered (.do_ (Sb06Neutral.nats l) (Sb06Neutral.nats l') (Sb06Neutral.nats l'') (o : Int).toNat (w : Int).toNat)).lanes.map fun (y : Nat) => (y : Int)
  rw [Int.toNat_natCast, Int.toNat_natCast]
  rw [ans_do]
  unfold m_do
  cases hd : Sb06.dirOf w with
  | none =>
    have hw : 3 < w := by
      unfold Sb06.dirOf at hd
      rcases Nat.lt_or_ge 3 w with z | z
      · exact z
      · have : w = 0 ∨ w = 1 ∨ w = 2 ∨ w = 3 := by omega
        rcases this with rfl | rfl | rfl | rfl <;> simp at hd
    rw [decide_eq_true (show (3 : Int) < (w : Int) by omega), Bool.or_true, cond_true]
    exact refused_eq 32
  | some d =>
    have hw : ¬ 3 < w := by
      rcases dir_cases hd with ⟨z, _⟩ | ⟨z, _⟩ | ⟨z, _⟩ | ⟨z, _⟩ <;> omega
    rw [decide_eq_false (show ¬ (3 : Int) < (w : Int) by omega), Bool.or_false]
    by_cases ho : o ≤ 17
    · rw [decide_eq_false (show ¬ (17 : Int) < (o : Int) by omega), cond_false]
      dsimp only
      rw [if_pos ho]
      unfold Sb06.row
      rw [← tog_eq, List.map_map]
      congr 1
      refine List.map_congr_left fun j _ => ?_
      obtain ⟨e1, e2⟩ := getD_nat h j
      obtain ⟨e3, e4⟩ := getD_nat h' j
      obtain ⟨e5, e6⟩ := getD_nat h'' j
      rw [e1, e3, e5]
      exact step_eq hd o j _ _ _ ho e2 e4 e6
    · rw [decide_eq_true (show (17 : Int) < (o : Int) by omega), cond_true]
      dsimp only
      rw [if_neg ho]
      exact refused_eq 32
end Hd

namespace Hd
open PySem PyProof.Rows
/-! ### results are halves -/
theorem sign_lt (s : Bool) (m : Nat) (h : m < 32768) : Sb06.sign s + m < 65536 := by
  have hs : Sb06.sign s = 0 ∨ Sb06.sign s = 32768 := by cases s <;> decide
  omega
theorem result_lt_pow (d : Sb06.Dir) (s : Bool) (N b : Nat) : (Sb06.result d s N (2 ^ b)).1 < 65536 := by
  by_cases hN : N = 0
  · subst hN
    unfold Sb06.result
    rw [if_pos rfl]
    exact sign_lt s 0 (by decide)
  · rw [result_fin hN]
    unfold fin
    split
    · show Sb06.sign s + _ < 65536
      split
      · exact sign_lt s 31743 (by decide)
      · exact sign_lt s 31744 (by decide)
    · rename_i h
      show Sb06.sign s + Sb06.packed _ < 65536
      unfold Sb06.rounded at h ⊢
      dsimp only at h ⊢
      rw [← Nat.pow_add] at h ⊢
      obtain ⟨k1, k2, k3⟩ := kept_bounds (Sb06.wayOf d s) N b
      generalize (Sb06.units (Sb06.wayOf d s) N (2 ^ (b + (Nat.log2 (N / 2 ^ b) - 10)))).1 = x at *
      generalize Nat.log2 (N / 2 ^ b) - 10 = j at *
      obtain ⟨p1, p2⟩ := pack x j k1 k2
      rw [p1]
      have h3 : ¬ 31744 ≤ j * 1024 + x := fun q => h (p2.mpr q)
      exact sign_lt s _ (by omega)
theorem result_lt (d : Sb06.Dir) (s : Bool) (N D : Nat) (hD : 0 < D) : (Sb06.result d s N D).1 < 65536 := by
  rw [sticky d s N D hD]
  exact result_lt_pow d s _ 3
theorem ofInt_lt (d : Sb06.Dir) (z : Int) (D : Nat) (zero : Bool) (hD : 0 < D) : (Sb06.ofInt d z D zero).1 < 65536 := by
  unfold Sb06.ofInt
  split
  · exact sign_lt zero 0 (by decide)
  · exact result_lt d _ _ D hD
theorem nans_lt {l : List Nat} {x : Sb06.Result} (h : Sb06.nans l = some x) : x.1 < 65536 := by
  unfold Sb06.nans at h
  split at h
  · cases h
    exact (by decide : Sb06.NAN < 65536)
  · cases h
theorem plus_lt (d : Sb06.Dir) (a b : Nat) (ha : a < 65536) (hb : b < 65536) : (Sb06.plus d a b).1 < 65536 := by
  unfold Sb06.plus
  cases hn : Sb06.nans [a, b] with
  | some x => exact nans_lt hn
  | none =>
    dsimp only
    split
    · split
      · exact (by decide : Sb06.NAN < 65536)
      · exact ha
    · split
      · exact hb
      · exact ofInt_lt d _ 1 _ (by decide)
theorem times_lt (d : Sb06.Dir) (a b : Nat) : (Sb06.times d a b).1 < 65536 := by
  unfold Sb06.times
  dsimp only
  cases hn : Sb06.nans [a, b] with
  | some x => exact nans_lt hn
  | none =>
    dsimp only
    split
    · split
      · exact (by decide : Sb06.NAN < 65536)
      · exact sign_lt _ 31744 (by decide)
    · exact result_lt_pow d _ _ 24
theorem fused_lt (d : Sb06.Dir) (a b c : Nat) (hc : c < 65536) : (Sb06.fused d a b c).1 < 65536 := by
  unfold Sb06.fused
  dsimp only
  cases hn : Sb06.nans [a, b, c] with
  | some x => exact nans_lt hn
  | none =>
    dsimp only
    split
    · split
      · exact (by decide : Sb06.NAN < 65536)
      · exact sign_lt _ 31744 (by decide)
    · split
      · exact hc
      · exact ofInt_lt d _ _ _ (by decide)
theorem row_list (n : Nat) (f : Nat → Sb06.Result) : ((Sb06.row n f).raised : Int) :: (Sb06.row n f).lanes.map (fun (y : Nat) => (y : Int)) = m_together ((List.range n).map fun j => sw (f j)) := by
  unfold Sb06.row
  rw [← tog_eq, List.map_map]
  rfl
/-! ### wider floats: a half's bits as one with f bits of fraction -/
theorem widen_rep (a : Nat) (hz : Sb06.isZero a = false) : ∃ k j l : Nat, Sb06.magnitude a = k * 2 ^ j ∧ Nat.log2 (Sb06.magnitude a) = l ∧ (∀ f, 10 ≤ f → ∃ c, Sb06.magnitude a * 2 ^ f = c * 2 ^ l ∧ 2 ^ f ≤ c ∧ c < 2 ^ (f + 1)) := by
  obtain ⟨k, j, hm, hk, hkj, _, _⟩ := mag_rep a
  have hp := mag_pos a hz
  refine ⟨k, j, _, hm, rfl, fun f hf => ?_⟩
  obtain ⟨b1, b2⟩ := log2_bounds (show Sb06.magnitude a ≠ 0 by omega)
  have hl : ∃ c, Sb06.magnitude a * 2 ^ f = c * 2 ^ Nat.log2 (Sb06.magnitude a) := by
    have hj : 0 < 2 ^ j := Nat.two_pow_pos j
    rw [hm] at hp b1 b2 ⊢
    have hk0 : 0 < k := by
      rcases Nat.eq_zero_or_pos k with z | z
      · subst z; simp at hp
      · exact z
    by_cases h : 1024 ≤ k
    · have e : Nat.log2 (k * 2 ^ j) = j + 10 := by
        refine log2_of ?_ ?_
        · rw [Nat.pow_add, Nat.mul_comm]
          exact Nat.mul_le_mul_right _ h
        · rw [show j + 10 + 1 = j + 11 by omega, Nat.pow_add, Nat.mul_comm]
          exact Nat.mul_lt_mul_of_pos_left hk hj
      rw [e]
      refine ⟨k * 2 ^ (f - 10), ?_⟩
      rw [Nat.mul_assoc, Nat.mul_assoc, ← Nat.pow_add, ← Nat.pow_add]
      congr 2
      omega
    · have h0 : j = 0 := by omega
      subst h0
      rw [Nat.pow_zero, Nat.mul_one]
      have h9 : Nat.log2 k < 10 := (Nat.log2_lt (by omega)).mpr (by omega)
      refine ⟨k * 2 ^ (f - Nat.log2 k), ?_⟩
      rw [Nat.mul_assoc, ← Nat.pow_add, show f - Nat.log2 k + Nat.log2 k = f by omega]
  obtain ⟨c, hc⟩ := hl
  refine ⟨c, hc, ?_, ?_⟩
  · have h1 : 2 ^ f * 2 ^ Nat.log2 (Sb06.magnitude a) ≤ c * 2 ^ Nat.log2 (Sb06.magnitude a) := by
      rw [← hc, Nat.mul_comm]
      exact Nat.mul_le_mul_right _ b1
    exact Nat.le_of_mul_le_mul_right h1 (Nat.two_pow_pos _)
  · have h1 : c * 2 ^ Nat.log2 (Sb06.magnitude a) < 2 ^ (f + 1) * 2 ^ Nat.log2 (Sb06.magnitude a) := by
      rw [← hc, Nat.pow_succ, Nat.mul_assoc, Nat.mul_comm (2 ^ f), show 2 * 2 ^ Nat.log2 (Sb06.magnitude a) = 2 ^ (Nat.log2 (Sb06.magnitude a) + 1) by rw [Nat.pow_succ]; omega]
      exact Nat.mul_lt_mul_of_pos_right b2 (Nat.two_pow_pos _)
    exact Nat.lt_of_mul_lt_mul_right h1
end Hd

namespace Hd
open PySem PyProof.Rows
/-! ### where -/
theorem ans_where (m : Nat) (a b : List Nat) : Sb06Neutral.answered (.where_ m a b) = ⟨(List.range 32).map fun (j : Nat) => if m.testBit j = true then Sb06.at_ b j else Sb06.at_ a j, 0⟩ := rfl
theorem where_eq (mask : Int) (l l' : List Int) (h0 : 0 ≤ mask) (h : ∀ x ∈ l, 0 ≤ x ∧ x ≤ 65535) (h' : ∀ x ∈ l', 0 ≤ x ∧ x ≤ 65535) : m_where mask l l' = PySb06.where_ mask l l' := by
  obtain ⟨m, rfl⟩ : ∃ m : Nat, mask = (m : Int) := ⟨mask.toNat, by omega⟩
  show _ = ((Sb06Neutral.answered (.where_ (m : Int).toNat (Sb06Neutral.nats l) (Sb06Neutral.nats l'))).raised : Int) :: (Sb06Neutral.answered (.where_ (m : Int).toNat (Sb06Neutral.nats l) (Sb06Neutral.nats l'))).lanes.map fun (y : Nat) => (y : Int)
  rw [Int.toNat_natCast, ans_where]
  unfold m_where
  show (0 : Int) :: _ = (0 : Int) :: _
  congr 1
  show List.map _ _ = List.map _ (List.map _ _)
  rw [List.map_map]
  refine List.map_congr_left fun j _ => ?_
  obtain ⟨e1, _⟩ := getD_nat h j
  obtain ⟨e2, _⟩ := getD_nat h' j
  rw [div_cast, and_one, e1, e2]
  show _ = (((if m.testBit j = true then Sb06.at_ (Sb06Neutral.nats l') j else Sb06.at_ (Sb06Neutral.nats l) j) : Nat) : Int)
  rw [Nat.testBit_eq_decide_div_mod_eq]
  by_cases q : m / 2 ^ j % 2 = 1
  · rw [decide_eq_true (by omega), cond_true, if_pos (decide_eq_true q)]
  · rw [decide_eq_false (by omega), cond_false, if_neg (by rw [decide_eq_true_eq]; exact q)]
/-! ### complex products -/
theorem number_minus (b : Nat) (hb : b < 65536) : Sb06.number (Sb06.minus b) = -Sb06.number b := by
  obtain ⟨h1, h2⟩ := minus_mod b hb
  unfold Sb06.number
  rw [mag_mod h1, h2]
  cases Sb06.negative b <;> simp
theorem fused_sg (d : Sb06.Dir) {a b a' b' : Nat} (c : Nat) (ha : a' % 32768 = a % 32768) (hb : b' % 32768 = b % 32768) (hs : (Sb06.negative a' != Sb06.negative b') = (Sb06.negative a != Sb06.negative b)) (hn : Sb06.number a' * Sb06.number b' = Sb06.number a * Sb06.number b) : Sb06.fused d a' b' c = Sb06.fused d a b c := by
  unfold Sb06.fused
  dsimp only
  rw [nans_mod (l := [a', b', c]) (l' := [a, b, c]) (by simp [ha, hb]), hs, hn, inf_mod ha, inf_mod hb, zero_mod ha, zero_mod hb]
theorem fused_mm (d : Sb06.Dir) (a b c : Nat) (ha : a < 65536) (hb : b < 65536) : Sb06.fused d (Sb06.minus a) (Sb06.minus b) c = Sb06.fused d a b c := by
  obtain ⟨a1, a2⟩ := minus_mod a ha
  obtain ⟨b1, b2⟩ := minus_mod b hb
  refine fused_sg d c a1 b1 ?_ ?_
  · rw [a2, b2]
    cases Sb06.negative a <;> cases Sb06.negative b <;> rfl
  · rw [number_minus a ha, number_minus b hb, Int.neg_mul_neg]
theorem fused_mb (d : Sb06.Dir) (a b c : Nat) (ha : a < 65536) (hb : b < 65536) : Sb06.fused d a (Sb06.minus b) c = Sb06.fused d (Sb06.minus a) b c := by
  obtain ⟨a1, a2⟩ := minus_mod a ha
  obtain ⟨b1, b2⟩ := minus_mod b hb
  refine fused_sg d c a1.symm b1 ?_ ?_
  · rw [a2, b2]
    cases Sb06.negative a <;> cases Sb06.negative b <;> rfl
  · rw [number_minus a ha, number_minus b hb, Int.mul_neg, Int.neg_mul]
theorem two_eq {wy : Nat} {d : Sb06.Dir} (hd : Sb06.dirOf wy = some d) (a b c e : Nat) (ha : a < 65536) (hb : b < 65536) (hc : c < 65536) (he : e < 65536) : m_two_products (wy : Int) (a : Int) (b : Int) (c : Int) (e : Int) = sw (Sb06.after (Sb06.times d a b) fun t => Sb06.fused d c e t) := by
  unfold m_two_products Sb06.after
  dsimp only
  rw [multiply_eq hd a b ha hb]
  show (Builtin.bitOr (((Sb06.times d a b).2 : Nat) : Int) (m_multiply_and_add (wy : Int) (c : Int) (e : Int) (((Sb06.times d a b).1 : Nat) : Int)).1, (m_multiply_and_add (wy : Int) (c : Int) (e : Int) (((Sb06.times d a b).1 : Nat) : Int)).2) = _
  rw [fused_eq hd c e _ hc he (times_lt d a b)]
  show (Builtin.bitOr (((Sb06.times d a b).2 : Nat) : Int) (((Sb06.fused d c e (Sb06.times d a b).1).2 : Nat) : Int), (((Sb06.fused d c e (Sb06.times d a b).1).1 : Nat) : Int)) = _
  rw [or_nat]
  rfl
theorem parts_eq {wy : Nat} {d : Sb06.Dir} (hd : Sb06.dirOf wy = some d) (o : Bool) (ar ai br bi : Nat) (h1 : ar < 65536) (h2 : ai < 65536) (h3 : br < 65536) (h4 : bi < 65536) :
    m_real_part (wy : Int) (ar : Int) (ai : Int) (br : Int) (bif o then m_negated (bi : Int) else (bi : Int)) = sw (Sb06.product o d ar ai br bi).1 ∧ m_imaginary_part (wy : Int) (ar : Int) (ai : Int) (br : Int) (bif o then m_negated (bi : Int) else (bi : Int)) = sw (Sb06.product o d ar ai br bi).2 := by
  unfold m_real_part m_imaginary_part Sb06.product
  rw [negated_eq ai h2, negated_eq bi h4]
  cases o with
  | false =>
    rw [cond_false, two_eq hd ar br _ bi h1 h3 (minus_lt ai h2) h4, two_eq hd ai br ar bi h2 h3 h1 h4]
    refine ⟨?_, rfl⟩
    show sw (Sb06.after (Sb06.times d ar br) fun t => Sb06.fused d (Sb06.minus ai) bi t) = sw (Sb06.after (Sb06.times d ar br) fun t => Sb06.fused d (ng ai) bi t)
    congr 2
    funext t
    exact fused_ng_a d ai bi t h2
  | true =>
    rw [cond_true, two_eq hd ar br _ _ h1 h3 (minus_lt ai h2) (minus_lt bi h4), two_eq hd ai br ar _ h2 h3 h1 (minus_lt bi h4)]
    refine ⟨?_, ?_⟩
    · show sw (Sb06.after (Sb06.times d ar br) fun t => Sb06.fused d (Sb06.minus ai) (Sb06.minus bi) t) = sw (Sb06.after (Sb06.times d ar br) fun t => Sb06.fused d ai bi t)
      congr 2
      funext t
      exact fused_mm d ai bi t h2 h4
    · show sw (Sb06.after (Sb06.times d ai br) fun t => Sb06.fused d ar (Sb06.minus bi) t) = sw (Sb06.after (Sb06.times d ai br) fun t => Sb06.fused d (ng ar) bi t)
      congr 2
      funext t
      rw [fused_mb d ar bi t h1 h4]
      exact fused_ng_a d ar bi t h1
/-! ### a refused call or a row -/
theorem dir_none {w : Nat} (hd : Sb06.dirOf w = none) : 3 < w := by
  unfold Sb06.dirOf at hd
  rcases Nat.lt_or_ge 3 w with z | z
  · exact z
  · have : w = 0 ∨ w = 1 ∨ w = 2 ∨ w = 3 := by omega
    rcases this with rfl | rfl | rfl | rfl <;> simp at hd
theorem dir_some {w : Nat} {d : Sb06.Dir} (hd : Sb06.dirOf w = some d) : ¬ 3 < w := by
  rcases dir_cases hd with ⟨z, _⟩ | ⟨z, _⟩ | ⟨z, _⟩ | ⟨z, _⟩ <;> omega
/-- what a row tells -/
def tellA (a : Sb06.Ans) : List Int := (a.raised : Int) :: a.lanes.map fun (y : Nat) => (y : Int)
theorem row_tell (n : Nat) (f : Nat → Sb06.Result) (g : Nat → Int × Int) (h : ∀ j, j < n → g j = sw (f j)) : m_together ((List.range n).map g) = tellA (Sb06.row n f) := by
  unfold tellA Sb06.row
  rw [← tog_eq, List.map_map]
  congr 1
  exact List.map_congr_left fun j hj => h j (List.mem_range.mp hj)
/-- the calls with a number up to 1 and a direction -/
theorem call2 (n k w : Nat) (f : Sb06.Dir → Nat → Sb06.Result) (g : Nat → Int × Int) (h : ∀ d, Sb06.dirOf w = some d → k ≤ 1 → ∀ j, j < n → g j = sw (f d j)) :
    (bif (decide ((1 : Int) < (k : Int)) || decide ((3 : Int) < (w : Int))) then m_refused (n : Int) else m_together ((List.range n).map g)) = tellA (match Sb06.dirOf w with | some d => if k ≤ 1 then Sb06.row n (f d) else Sb06.refused n | none => Sb06.refused n) := by
  cases hd : Sb06.dirOf w with
  | none =>
    have := dir_none hd
    rw [decide_eq_true (show (3 : Int) < (w : Int) by omega), Bool.or_true, cond_true]
    exact refused_eq n
  | some d =>
    have := dir_some hd
    rw [decide_eq_false (show ¬ (3 : Int) < (w : Int) by omega), Bool.or_false]
    dsimp only
    by_cases hk : k ≤ 1
    · rw [decide_eq_false (show ¬ (1 : Int) < (k : Int) by omega), cond_false, if_pos hk]
      exact row_tell n _ g (h d hd hk)
    · rw [decide_eq_true (show (1 : Int) < (k : Int) by omega), cond_true, if_neg hk]
      exact refused_eq n
theorem ans_times (a b : List Nat) (other dir : Nat) : Sb06Neutral.answered (.times a b other dir) = (match Sb06.dirOf dir with
    | some d => if other ≤ 1 then Sb06.row 32 ((fun (d : Sb06.Dir) (j : Nat) => let x := Sb06.product (other == 1) d (Sb06.at_ a (j / 2 * 2)) (Sb06.at_ a (j / 2 * 2 + 1)) (Sb06.at_ b (j / 2 * 2)) (Sb06.at_ b (j / 2 * 2 + 1)); if j % 2 = 0 then x.1 else x.2) d) else Sb06.refused 32
    | none => Sb06.refused 32) := rfl
theorem times_eq (other way : Int) (l l' : List Int) (h0 : 0 ≤ other) (h1 : 0 ≤ way) (h : ∀ x ∈ l, 0 ≤ x ∧ x ≤ 65535) (h' : ∀ x ∈ l', 0 ≤ x ∧ x ≤ 65535) : m_times other way l l' = PySb06.times other way l l' := by
  obtain ⟨o, rfl⟩ : ∃ o : Nat, other = (o : Int) := ⟨other.toNat, by omega⟩
  obtain ⟨w, rfl⟩ : ∃ w : Nat, way = (w : Int) := ⟨way.toNat, by omega⟩
  show _ = tellA (Sb06Neutral.answered (.times (Sb06Neutral.nats l) (Sb06Neutral.nats l') (o : Int).toNat (w : Int).toNat))
  rw [Int.toNat_natCast, Int.toNat_natCast, ans_times]
  unfold m_times
  refine call2 32 o w _ _ fun d hd ho j _ => ?_
  obtain ⟨e1, b1⟩ := getD_nat h (j / 2 * 2)
  obtain ⟨e2, b2⟩ := getD_nat h (j / 2 * 2 + 1)
  obtain ⟨e3, b3⟩ := getD_nat h' (j / 2 * 2)
  obtain ⟨e4, b4⟩ := getD_nat h' (j / 2 * 2 + 1)
  unfold m_times_part
  dsimp only
  rw [e1, e2, e3, e4]
  have eo : decide ((o : Int) = 1) = (o == 1) := by
    rw [Bool.eq_iff_iff, decide_eq_true_eq, beq_iff_eq]
    omega
  rw [eo]
  obtain ⟨p1, p2⟩ := parts_eq hd (o == 1) _ _ _ _ b1 b2 b3 b4
  rw [p1, p2]
  split <;> rfl
/-! ### whole numbers -/
theorem number_eq {wy : Nat} {d : Sb06.Dir} (hd : Sb06.dirOf wy = some d) (z : Int) : m_rounded_number (wy : Int) z = sw (Sb06.ofInt d (z * 2 ^ 24) 1 false) := by
  unfold m_rounded_number Sb06.ofInt
  have e3 : (if z < 0 then -z else z) = ((z.natAbs : Nat) : Int) := by split <;> omega
  have e2 : ((z.natAbs : Nat) : Int) * 2 ^ ((24 : Int) : Int).toNat = ((z.natAbs * 2 ^ 24 : Nat) : Int) := mul_cast _ 24
  have hr := rounded_half_eq hd (decide (z < 0)) (z.natAbs * 2 ^ 24) 0
  rw [show ((0 : Nat) : Int) = 0 from rfl, Nat.pow_zero] at hr
  rw [e3, e2, hr]
  by_cases h : z * 2 ^ 24 = 0
  · rw [if_pos h]
    have h0 : z = 0 := by omega
    subst h0
    rfl
  · rw [if_neg h]
    have h1 : decide (z < 0) = decide (z * 2 ^ 24 < 0) := by
      rw [Bool.eq_iff_iff, decide_eq_true_eq, decide_eq_true_eq]
      omega
    have h2 : z.natAbs * 2 ^ 24 = (z * 2 ^ 24).natAbs := by omega
    rw [h1, h2]
theorem of_whole_eq {wy : Nat} {d : Sb06.Dir} (hd : Sb06.dirOf wy = some d) (k n : Nat) : m_of_whole (k : Int) (wy : Int) (n : Int) = sw (Sb06.ofWhole (k == 0) d n) := by
  unfold m_of_whole Sb06.ofWhole
  dsimp only
  by_cases h : k = 0 ∧ 32768 ≤ n
  · rw [decide_eq_true (show (k : Int) = 0 by omega), decide_eq_true (show (32767 : Int) < (n : Int) by omega), if_pos ⟨by rw [beq_iff_eq]; exact h.1, h.2⟩]
    have e16 : (2 : Int) ^ 16 = 65536 := by decide
    rw [Bool.and_self, cond_true, number_eq hd, e16]
  · have e : (decide ((k : Int) = 0) && decide ((32767 : Int) < (n : Int))) = false := by
      rw [Bool.and_eq_false_iff, decide_eq_false_iff_not, decide_eq_false_iff_not]
      omega
    rw [e, cond_false, if_neg (by rw [beq_iff_eq]; exact h), number_eq hd]
theorem ans_of (z : List Nat) (kind dir : Nat) : Sb06Neutral.answered (.ofWhole z kind dir) = (match Sb06.dirOf dir with
    | some d => if kind ≤ 1 then Sb06.row 32 ((fun (d : Sb06.Dir) (j : Nat) => Sb06.ofWhole (kind == 0) d (Sb06.at_ z j)) d) else Sb06.refused 32
    | none => Sb06.refused 32) := rfl
theorem of_eq (kind way : Int) (l : List Int) (h0 : 0 ≤ kind) (h1 : 0 ≤ way) (h : ∀ x ∈ l, 0 ≤ x ∧ x ≤ 65535) : m_of kind way l = PySb06.of kind way l := by
  obtain ⟨k, rfl⟩ : ∃ o : Nat, kind = (o : Int) := ⟨kind.toNat, by omega⟩
  obtain ⟨w, rfl⟩ : ∃ w : Nat, way = (w : Int) := ⟨way.toNat, by omega⟩
  show _ = tellA (Sb06Neutral.answered (.ofWhole (Sb06Neutral.nats l) (k : Int).toNat (w : Int).toNat))
  rw [Int.toNat_natCast, Int.toNat_natCast, ans_of]
  unfold m_of
  refine call2 32 k w _ _ fun d hd ho j _ => ?_
  obtain ⟨e1, b1⟩ := getD_nat h j
  rw [e1]
  exact of_whole_eq hd k _
theorem nearby_eq {wy : Nat} {d : Sb06.Dir} (hd : Sb06.dirOf wy = some d) (a : Nat) (ha : a < 65536) : m_nearby_whole (wy : Int) (a : Int) = (((if (Sb06.wholeOf d a).2 = true then Sb06.INEXACT else 0 : Nat) : Int), (((Sb06.wholeOf d a).1 : Nat) : Int)) := by
  unfold m_nearby_whole
  dsimp only
  rw [mu_eq, minus_eq a ha]
  have hw := rw_eq hd (Sb06.negative a) (Sb06.magnitude a) 24
  rw [show ((24 : Nat) : Int) = 24 from rfl] at hw
  have e24 : ∀ x : Nat, (x : Int) * 2 ^ ((24 : Int) : Int).toNat = ((x * 2 ^ 24 : Nat) : Int) := fun x => mul_cast x 24
  rw [hw, e24]
  have hx : (Sb06.units (Sb06.wayOf d (Sb06.negative a)) (Sb06.magnitude a) (2 ^ 24)).1 = (Sb06.wholeOf d a).1 := rfl
  have hx2 : (Sb06.wholeOf d a).2 = decide (Sb06.magnitude a % 2 ^ 24 ≠ 0) := rfl
  have hx0 : Sb06.magnitude a % 2 ^ 24 = 0 → (Sb06.wholeOf d a).1 = Sb06.magnitude a / 2 ^ 24 := fun h => by
    have e : Sb06.magnitude a = Sb06.magnitude a / 2 ^ 24 * 2 ^ 24 := by omega
    unfold Sb06.wholeOf
    rw [e, units_exact _ _ _ (by decide), Nat.mul_div_cancel _ (by decide)]
  rw [hx, hx2]
  have key : decide ((((Sb06.wholeOf d a).1 * 2 ^ 24 : Nat) : Int) = (Sb06.magnitude a : Int)) = !decide (Sb06.magnitude a % 2 ^ 24 ≠ 0) := by
    by_cases h : Sb06.magnitude a % 2 ^ 24 = 0
    · rw [hx0 h, decide_eq_true (by omega), decide_eq_false (by omega)]
      rfl
    · rw [decide_eq_true h, decide_eq_false (by omega)]
      rfl
  rw [key]
  cases decide (Sb06.magnitude a % 2 ^ 24 ≠ 0) <;> rfl
theorem out_eq (k : Nat) : m_out_of_range (k : Int) = sw (if (k == 0) = true then 0x8000 else 0xFFFF, Sb06.INVALID) := by
  unfold m_out_of_range
  by_cases h : k = 0
  · subst h; rfl
  · rw [decide_eq_false (show ¬ (k : Int) = 0 by omega), if_neg (by rw [beq_iff_eq]; exact h)]
    rfl
theorem exp_inf (a : Nat) : (Sb06.isNaN a || Sb06.isInf a) = decide (Sb06.exponent a = 31) := by
  unfold Sb06.isNaN Sb06.isInf
  by_cases h : Sb06.exponent a = 31
  · rw [decide_eq_true h, beq_iff_eq.mpr h]
    by_cases q : Sb06.fraction a = 0
    · rw [q]; rfl
    · rw [bne_iff_ne.mpr q]; rfl
  · rw [decide_eq_false h, beq_eq_false_iff_ne.mpr h]
    rfl
theorem as_whole_eq {wy : Nat} {d : Sb06.Dir} (hd : Sb06.dirOf wy = some d) (k a : Nat) (ha : a < 65536) : m_as_whole (k : Int) (wy : Int) (a : Int) = sw (Sb06.toWhole (k == 0) d a) := by
  unfold m_as_whole Sb06.toWhole
  dsimp only
  rw [nan_eq, inf_eq, exp_inf, out_eq, nearby_eq hd a ha, minus_eq a ha]
  by_cases h31 : Sb06.exponent a = 31
  · rw [decide_eq_true h31, cond_true, if_pos h31]
  · rw [decide_eq_false h31, cond_false, if_neg h31]
    generalize Sb06.wholeOf d a = x
    obtain ⟨n, q⟩ := x
    dsimp only
    have ez : (bif Sb06.negative a then -(n : Int) else (n : Int)) = (if Sb06.negative a = true then -(n : Int) else (n : Int)) := by cases Sb06.negative a <;> rfl
    rw [ez]
    generalize (if Sb06.negative a = true then -(n : Int) else (n : Int)) = z
    have ek : decide ((k : Int) = 0) = (k == 0) := by
      rw [Bool.eq_iff_iff, decide_eq_true_eq, beq_iff_eq]
      omega
    rw [ek]
    cases hk : (k == 0) with
    | true =>
      rw [cond_true]
      simp only [if_true]
      by_cases hz : -(2 ^ 15) ≤ z ∧ z < 2 ^ 15
      · rw [if_pos hz, decide_eq_false (show ¬ z < -32768 by omega), decide_eq_false (show ¬ (-32768 : Int) + 65536 ≤ z by omega)]
        show ((((if q = true then Sb06.INEXACT else 0 : Nat) : Int)), (bif decide (z < 0) then z + 65536 else z)) = ((((if q = true then Sb06.INEXACT else 0 : Nat) : Int)), (((z % 2 ^ 16).toNat : Nat) : Int))
        congr 1
        by_cases hn : z < 0
        · rw [decide_eq_true hn, cond_true]; omega
        · rw [decide_eq_false hn, cond_false]; omega
      · rw [if_neg hz]
        have e : (decide (z < -32768) || decide ((-32768 : Int) + 65536 ≤ z)) = true := by
          rw [Bool.or_eq_true, decide_eq_true_eq, decide_eq_true_eq]
          omega
        rw [e, cond_true]
    | false =>
      rw [cond_false]
      simp only [Bool.false_eq_true, if_false]
      by_cases hz : 0 ≤ z ∧ z < 2 ^ 16
      · rw [if_pos hz, decide_eq_false (show ¬ z < 0 by omega), decide_eq_false (show ¬ (0 : Int) + 65536 ≤ z by omega)]
        show ((((if q = true then Sb06.INEXACT else 0 : Nat) : Int)), (bif false then z + 65536 else z)) = ((((if q = true then Sb06.INEXACT else 0 : Nat) : Int)), (((z % 2 ^ 16).toNat : Nat) : Int))
        congr 1
        rw [cond_false]
        omega
      · rw [if_neg hz]
        have e : (decide (z < 0) || decide ((0 : Int) + 65536 ≤ z)) = true := by
          rw [Bool.or_eq_true, decide_eq_true_eq, decide_eq_true_eq]
          omega
        rw [e, cond_true]
theorem ans_whole (a : List Nat) (kind dir : Nat) : Sb06Neutral.answered (.toWhole a kind dir) = (match Sb06.dirOf dir with
    | some d => if kind ≤ 1 then Sb06.row 32 ((fun (d : Sb06.Dir) (j : Nat) => Sb06.toWhole (kind == 0) d (Sb06.at_ a j)) d) else Sb06.refused 32
    | none => Sb06.refused 32) := rfl
theorem whole_call_eq (kind way : Int) (l : List Int) (h0 : 0 ≤ kind) (h1 : 0 ≤ way) (h : ∀ x ∈ l, 0 ≤ x ∧ x ≤ 65535) : m_whole kind way l = PySb06.whole_ kind way l := by
  obtain ⟨k, rfl⟩ : ∃ o : Nat, kind = (o : Int) := ⟨kind.toNat, by omega⟩
  obtain ⟨w, rfl⟩ : ∃ w : Nat, way = (w : Int) := ⟨way.toNat, by omega⟩
  show _ = tellA (Sb06Neutral.answered (.toWhole (Sb06Neutral.nats l) (k : Int).toNat (w : Int).toNat))
  rw [Int.toNat_natCast, Int.toNat_natCast, ans_whole]
  unfold m_whole
  refine call2 32 k w _ _ fun d hd ho j _ => ?_
  obtain ⟨e1, b1⟩ := getD_nat h j
  rw [e1]
  exact as_whole_eq hd k _ b1
end Hd
namespace Hd
theorem times_part0 (other way : Int) (l l' : List Int) (i : Nat) : m_times_part other way l l' (2 * i) = m_real_part way (l.getD (2 * i) 0) (l.getD (2 * i + 1) 0) (l'.getD (2 * i) 0) (bif decide (other = 1) then m_negated (l'.getD (2 * i + 1) 0) else l'.getD (2 * i + 1) 0) := by
  unfold m_times_part
  dsimp only
  rw [show 2 * i / 2 * 2 = 2 * i by omega, if_pos (by omega)]
theorem times_part1 (other way : Int) (l l' : List Int) (i : Nat) : m_times_part other way l l' (2 * i + 1) = m_imaginary_part way (l.getD (2 * i) 0) (l.getD (2 * i + 1) 0) (l'.getD (2 * i) 0) (bif decide (other = 1) then m_negated (l'.getD (2 * i + 1) 0) else l'.getD (2 * i + 1) 0) := by
  unfold m_times_part
  dsimp only
  rw [show (2 * i + 1) / 2 * 2 = 2 * i by omega, if_neg (by omega)]
end Hd

namespace Hd
open PySem PyProof.Rows
/-! ### wider forms: bits of exponent, bits of fraction -/
/-- floats and doubles, as the program tells them -/
def Fm (form : Int × Int) : Prop := form = (8, 23) ∨ form = (11, 52)
theorem sum_cast (e f : Nat) : ((e : Int) + (f : Int)) = ((e + f : Nat) : Int) := by omega
theorem sign_of_eq (e f : Nat) : m_sign_of ((e : Int), (f : Int)) = ((2 ^ (e + f) : Nat) : Int) := by
  unfold m_sign_of
  dsimp only
  rw [sum_cast, one_shl]
theorem sub_pow (e f : Nat) : 2 ^ (e + f) - 2 ^ f = (2 ^ e - 1) * 2 ^ f := by
  rw [Nat.pow_add, Nat.sub_mul, Nat.one_mul]
theorem infinity_of_eq (e f : Nat) : m_infinity_of ((e : Int), (f : Int)) = (((2 ^ e - 1) * 2 ^ f : Nat) : Int) := by
  unfold m_infinity_of
  dsimp only
  rw [sign_of_eq, one_shl, ← sub_pow]
  have h : 2 ^ f ≤ 2 ^ (e + f) := Nat.pow_le_pow_right (by decide) (by omega)
  omega
theorem quiet_of_eq (e f : Nat) (hf : 1 ≤ f) : m_quiet_bit_of ((e : Int), (f : Int)) = ((2 ^ (f - 1) : Nat) : Int) := by
  unfold m_quiet_bit_of
  dsimp only
  have h : (f : Int) - 1 = ((f - 1 : Nat) : Int) := by omega
  rw [h, one_shl]
theorem bias_of_eq (e f : Nat) (he : 1 ≤ e) : m_bias_of ((e : Int), (f : Int)) = ((2 ^ (e - 1) - 1 : Nat) : Int) := by
  unfold m_bias_of
  dsimp only
  have h : (e : Int) - 1 = ((e - 1 : Nat) : Int) := by omega
  rw [h, one_shl]
  have h2 : 0 < 2 ^ (e - 1) := Nat.two_pow_pos _
  omega
theorem log_mag (a : Nat) : Nat.log2 (Sb06.magnitude a) ≤ 40 := by
  have h := mag_lt a
  by_cases h0 : Sb06.magnitude a = 0
  · rw [h0]; decide
  · have := (Nat.log2_lt h0 (k := 41)).mpr h
    omega
/-- the magnitude's bits -/
theorem widened_mag (e f a : Nat) (he : 1 ≤ e) (hf : 10 ≤ f) (hb : 25 ≤ 2 ^ (e - 1) - 1) (hi : Sb06.isInf a = false) (hz : Sb06.isZero a = false) :
    m_widened_magnitude ((e : Int), (f : Int)) (a : Int) = (((Nat.log2 (Sb06.magnitude a) + (2 ^ (e - 1) - 1) - 24) * 2 ^ f + (Sb06.magnitude a * 2 ^ f / 2 ^ Nat.log2 (Sb06.magnitude a) - 2 ^ f) : Nat) : Int) ∧ (Nat.log2 (Sb06.magnitude a) + (2 ^ (e - 1) - 1) - 24) * 2 ^ f + (Sb06.magnitude a * 2 ^ f / 2 ^ Nat.log2 (Sb06.magnitude a) - 2 ^ f) < 2 ^ (e + f) := by
  obtain ⟨k, j, l, _, hl, hc⟩ := widen_rep a hz
  obtain ⟨c, hc0, hc1, hc2⟩ := hc f hf
  have hp := mag_pos a hz
  have h40 := log_mag a
  unfold m_widened_magnitude
  dsimp only
  rw [zero_eq, hz, inf_eq, hi, mu_eq, pred_bits _ hp, bias_of_eq e f he, cond_false, cond_false, hl]
  rw [hl] at h40
  have e1 : (Sb06.magnitude a : Int) * 2 ^ ((f : Nat) : Int).toNat = ((Sb06.magnitude a * 2 ^ f : Nat) : Int) := mul_cast _ f
  rw [e1, hc0, div_cast, Nat.mul_div_cancel _ (Nat.two_pow_pos l)]
  have e2 : (l : Int) - 24 + ((2 ^ (e - 1) - 1 : Nat) : Int) - 1 = ((l + (2 ^ (e - 1) - 1) - 25 : Nat) : Int) := by omega
  rw [e2, mul_cast]
  have hf1 : 2 ^ (f + 1) = 2 * 2 ^ f := by rw [Nat.pow_succ, Nat.mul_comm]
  rw [hf1] at hc2
  have he2 : 2 ^ e = 2 * 2 ^ (e - 1) := by
    rw [← Nat.pow_succ']
    congr 1
    omega
  have hef : 2 ^ (e + f) = 2 * 2 ^ (e - 1) * 2 ^ f := by rw [Nat.pow_add, he2]
  rw [hef]
  generalize 2 ^ (e - 1) = B at *
  obtain ⟨m, hm⟩ : ∃ m, l + (B - 1) - 24 = m + 1 := ⟨l + (B - 1) - 25, by omega⟩
  have hm2 : l + (B - 1) - 25 = m := by omega
  have hmB : m + 2 ≤ 2 * B := by omega
  rw [hm, hm2]
  have h3 : (m + 1) * 2 ^ f = m * 2 ^ f + 2 ^ f := by rw [Nat.succ_mul]
  have h4 : (m + 2) * 2 ^ f ≤ 2 * B * 2 ^ f := Nat.mul_le_mul_right _ hmB
  have h5 : (m + 2) * 2 ^ f = m * 2 ^ f + 2 * 2 ^ f := by rw [Nat.add_mul]
  generalize 2 ^ f = F at *
  generalize m * F = X at *
  generalize 2 * B * F = Y at *
  exact ⟨by omega, by omega⟩
theorem nans_one (a : Nat) : Sb06.nans [a] = if Sb06.isNaN a = true then some (Sb06.NAN, if Sb06.signalling a = true then Sb06.INVALID else 0) else none := by
  unfold Sb06.nans
  simp only [List.any_cons, List.any_nil, Bool.or_false]
theorem widened_eq (e f a : Nat) (ha : a < 65536) (he : 1 ≤ e) (hf : 10 ≤ f) (hb : 25 ≤ 2 ^ (e - 1) - 1) : m_widened ((e : Int), (f : Int)) (a : Int) = sw (Sb06.widened ⟨f, e⟩ a) := by
  unfold m_widened Sb06.widened Sb06.Kind.bias
  dsimp only
  rw [show ([(a : Int)] : List Int) = [a].map (fun (b : Nat) => (b : Int)) from rfl, nn_eq, nans_one, sign_of_eq, infinity_of_eq, quiet_of_eq e f (by omega), minus_eq a ha]
  have he2 : 2 ^ e = 2 * 2 ^ (e - 1) := by
    rw [← Nat.pow_succ']
    congr 1
    omega
  cases hn : Sb06.isNaN a with
  | true =>
    rw [if_pos rfl, if_pos rfl]
    show ((((if Sb06.signalling a = true then Sb06.INVALID else 0 : Nat) : Int)), _) = _
    rw [or_nat]
    have h := Nat.two_pow_add_eq_or_of_lt (i := f) (b := 2 ^ (f - 1)) (Nat.pow_lt_pow_right (by decide) (by omega)) (2 ^ e - 1)
    rw [Nat.mul_comm] at h
    rw [← h]
    rfl
  | false =>
    rw [if_neg (by decide), if_neg (by decide)]
    show ((0 : Int), bif Sb06.negative a then Builtin.bitOr (m_widened_magnitude ((e : Int), (f : Int)) (a : Int)) ((2 ^ (e + f) : Nat) : Int) else m_widened_magnitude ((e : Int), (f : Int)) (a : Int)) = _
    have fin : ∀ M : Nat, M < 2 ^ (e + f) → m_widened_magnitude ((e : Int), (f : Int)) (a : Int) = (M : Int) → ((0 : Int), bif Sb06.negative a then Builtin.bitOr (m_widened_magnitude ((e : Int), (f : Int)) (a : Int)) ((2 ^ (e + f) : Nat) : Int) else m_widened_magnitude ((e : Int), (f : Int)) (a : Int)) = sw ((if Sb06.negative a = true then 2 ^ (f + e) else 0) + M, 0) := fun M hM hv => by
      rw [hv, or_nat, or_pow M (e + f) hM, Nat.add_comm f e]
      unfold sw
      dsimp only
      generalize 2 ^ (e + f) = Z
      cases Sb06.negative a with
      | true =>
        rw [cond_true, if_pos rfl, Nat.add_comm]
        rfl
      | false =>
        rw [cond_false, if_neg (by decide), Nat.zero_add]
        rfl
    cases hi : Sb06.isInf a with
    | true =>
      rw [if_pos rfl]
      refine fin _ ?_ ?_
      · rw [← sub_pow]
        have h1 : 0 < 2 ^ f := Nat.two_pow_pos f
        have h2 : 0 < 2 ^ (e + f) := Nat.two_pow_pos _
        omega
      · unfold m_widened_magnitude
        have nz : Sb06.isZero a = false := by
          cases z : Sb06.isZero a with
          | false => rfl
          | true => exact absurd ⟨z, hi⟩ (not_both a)
        rw [zero_eq, nz, inf_eq, hi, cond_false, cond_true, infinity_of_eq]
    | false =>
      rw [if_neg (by decide)]
      cases hz : Sb06.isZero a with
      | true =>
        rw [if_pos rfl]
        have h := fin 0 (Nat.two_pow_pos _) (by unfold m_widened_magnitude; rw [zero_eq, hz, cond_true]; rfl)
        rw [Nat.add_zero] at h
        exact h
      | false =>
        rw [if_neg (by decide)]
        obtain ⟨w1, w2⟩ := widened_mag e f a he hf hb hi hz
        have h := fin _ w2 w1
        rw [← Nat.add_assoc] at h
        exact h
/-! ### .. as halves -/
theorem by_power_eq {wy : Nat} {d : Sb06.Dir} (hd : Sb06.dirOf wy = some d) (s : Bool) (n p q : Nat) : m_rounded_by_power (wy : Int) s (n : Int) ((p : Int) - (q : Int)) = sw (if q ≤ p then Sb06.result d s (n * 2 ^ (p - q)) 1 else Sb06.result d s n (2 ^ (q - p))) := by
  unfold m_rounded_by_power
  by_cases h : q ≤ p
  · have e : (p : Int) - (q : Int) = ((p - q : Nat) : Int) := by omega
    rw [if_pos h, e, decide_eq_false (by omega), cond_false, mul_cast]
    exact rounded_half_eq hd s (n * 2 ^ (p - q)) 0
  · have e : -((p : Int) - (q : Int)) = ((q - p : Nat) : Int) := by omega
    rw [if_neg h, decide_eq_true (by omega), cond_true, e]
    exact rounded_half_eq hd s n (q - p)
theorem and_below (x n : Nat) : Builtin.bitAnd (x : Int) (((2 ^ n : Nat) : Int) - 1) = ((x % 2 ^ n : Nat) : Int) := by
  have h2 : 0 < 2 ^ n := Nat.two_pow_pos n
  have e : ((2 ^ n : Nat) : Int) - 1 = ((2 ^ n - 1 : Nat) : Int) := by omega
  rw [e, and_nat, Nat.and_two_pow_sub_one_eq_mod]
theorem narrowed_eq {wy : Nat} {d : Sb06.Dir} (hd : Sb06.dirOf wy = some d) (e f x : Nat) (hx : x < 2 * 2 ^ (e + f)) (he : 1 ≤ e) (hf : 1 ≤ f) : m_narrowed ((e : Int), (f : Int)) (wy : Int) (x : Int) = sw (Sb06.narrowed ⟨f, e⟩ d x) := by
  unfold m_narrowed Sb06.narrowed Sb06.Kind.bias
  dsimp only
  rw [sign_of_eq, and_below, infinity_of_eq, quiet_of_eq e f hf]
  have hs : decide (((2 ^ (e + f) : Nat) : Int) ≤ (x : Int)) = (x / 2 ^ (f + e) % 2 == 1) := by
    rw [Nat.add_comm f e]
    generalize 2 ^ (e + f) = Z at *
    rw [Bool.eq_iff_iff, decide_eq_true_eq, beq_iff_eq]
    by_cases h : Z ≤ x
    · have : x / Z = 1 := by
        refine Nat.div_eq_of_lt_le ?_ ?_ <;> omega
      rw [this]
      omega
    · rw [Nat.div_eq_of_lt (by omega)]
      omega
  rw [hs]
  generalize (x / 2 ^ (f + e) % 2 == 1) = s
  have hpow : 2 ^ (e + f) = 2 ^ f * 2 ^ e := by rw [Nat.add_comm, Nat.pow_add]
  have hee : x / 2 ^ f % 2 ^ e = x % 2 ^ (e + f) / 2 ^ f := by rw [hpow, Nat.mod_mul_right_div_self]
  have hff : x % 2 ^ f = x % 2 ^ (e + f) % 2 ^ f := by rw [hpow, Nat.mod_mul_right_mod]
  rw [hee, hff]
  have hm : x % 2 ^ (e + f) < 2 ^ f * 2 ^ e := by rw [← hpow]; exact Nat.mod_lt _ (Nat.two_pow_pos _)
  generalize x % 2 ^ (e + f) = m at *
  have hF : 0 < 2 ^ f := Nat.two_pow_pos f
  have hE : 0 < 2 ^ e := Nat.two_pow_pos e
  have hdm := Nat.div_add_mod m (2 ^ f)
  have hq : m / 2 ^ f < 2 ^ e := Nat.div_lt_of_lt_mul hm
  have hr : m % 2 ^ f < 2 ^ f := Nat.mod_lt _ hF
  have hdec : m / 2 ^ f ≠ 2 ^ e - 1 → m < (2 ^ e - 1) * 2 ^ f := fun h => by
    have h1 : m / 2 ^ f + 1 ≤ 2 ^ e - 1 := by omega
    have h2 := Nat.mul_le_mul_left (2 ^ f) h1
    rw [Nat.mul_add, Nat.mul_one, Nat.mul_comm (2 ^ f) (2 ^ e - 1)] at h2
    omega
  have htop : m / 2 ^ f = 2 ^ e - 1 → m = (2 ^ e - 1) * 2 ^ f + m % 2 ^ f := fun h => by
    rw [h, Nat.mul_comm (2 ^ f)] at hdm
    omega
  by_cases h31 : m / 2 ^ f = 2 ^ e - 1
  · rw [if_pos h31]
    have hm' := htop h31
    by_cases h0 : m % 2 ^ f = 0
    · rw [if_pos h0, decide_eq_false (by omega), cond_false, decide_eq_true (by omega), cond_true, sign_inf]
      rfl
    · rw [if_neg h0, decide_eq_true (by omega), cond_true, and_nat]
      have hq2 := and_pow0 m (f - 1)
      have hff1 : 2 ^ f = 2 ^ (f - 1) * 2 := by
        rw [← Nat.pow_succ]
        congr 1
        omega
      have h3 : m / 2 ^ (f - 1) % 2 = m % 2 ^ f / 2 ^ (f - 1) := by rw [hff1, Nat.mod_mul_right_div_self]
      rw [h3] at hq2
      by_cases hz : m % 2 ^ f / 2 ^ (f - 1) = 0
      · rw [if_pos hz, hq2.mpr hz]
        rfl
      · rw [if_neg hz, decide_eq_false (show ¬ ((m &&& 2 ^ (f - 1) : Nat) : Int) = 0 from fun z => hz (hq2.mp (by omega)))]
        rfl
  · have hlt := hdec h31
    rw [if_neg h31, decide_eq_false (by omega), cond_false, decide_eq_false (by omega), cond_false]
    unfold m_rounded_magnitude
    dsimp only
    rw [div_cast, rest_cast, one_shl, bias_of_eq e f he]
    generalize m / 2 ^ f = g at *
    generalize m % 2 ^ f = r at *
    have e1 : (bif !decide (((g : Nat) : Int) = 0) then ((r : Nat) : Int) + ((2 ^ f : Nat) : Int) else ((r : Nat) : Int)) = (((if g = 0 then r else 2 ^ f + r) : Nat) : Int) := by
      by_cases h : g = 0
      · rw [if_pos h, decide_eq_true (by omega), Bool.not_true, cond_false]
      · rw [if_neg h, decide_eq_false (by omega), Bool.not_false, cond_true]
        omega
    have e2 : (if (1 : Int) > (g : Int) then (1 : Int) else (g : Int)) - ((2 ^ (e - 1) - 1 : Nat) : Int) - (f : Int) + 24 = ((max g 1 + 24 : Nat) : Int) - ((2 ^ (e - 1) - 1 + f : Nat) : Int) := by
      generalize 2 ^ (e - 1) - 1 = B
      split <;> omega
    rw [e1, e2]
    exact by_power_eq hd s _ _ _
/-! ### the calls -/
theorem getD_natB {l : List Int} {B : Int} (h : ∀ x ∈ l, 0 ≤ x ∧ x ≤ B) (hB : 0 ≤ B) (i : Nat) : l.getD i 0 = ((Sb06.at_ (Sb06Neutral.nats l) i : Nat) : Int) ∧ ((Sb06.at_ (Sb06Neutral.nats l) i : Nat) : Int) ≤ B := by
  unfold Sb06.at_ Sb06Neutral.nats
  rw [List.getD_eq_getElem?_getD, List.getD_eq_getElem?_getD, List.getElem?_map]
  cases e : l[i]? with
  | none => simp [hB]
  | some x =>
    have := h x (List.mem_of_getElem? e)
    simp
    omega
theorem ans_float (a : List Nat) : Sb06Neutral.answered (.widen Sb06.single a) = Sb06.row 16 fun (j : Nat) => Sb06.widened Sb06.single (Sb06.at_ a j) := rfl
theorem ans_double (a : List Nat) : Sb06Neutral.answered (.widen Sb06.double a) = Sb06.row 8 fun (j : Nat) => Sb06.widened Sb06.double (Sb06.at_ a j) := rfl
theorem to_float_eq (l : List Int) (h : ∀ x ∈ l, 0 ≤ x ∧ x ≤ 65535) : m_to_float l = PySb06.to_float l := by
  show _ = tellA (Sb06Neutral.answered (.widen Sb06.single (Sb06Neutral.nats l)))
  rw [ans_float]
  unfold m_to_float
  refine row_tell 16 _ _ fun j _ => ?_
  obtain ⟨e1, b1⟩ := getD_nat h j
  rw [e1]
  exact widened_eq 8 23 _ b1 (by decide) (by decide) (by decide)
/-- the calls with a direction alone -/
theorem call1 (n w : Nat) (f : Sb06.Dir → Nat → Sb06.Result) (g : Nat → Int × Int) (h : ∀ d, Sb06.dirOf w = some d → ∀ j, j < n → g j = sw (f d j)) :
    (bif decide ((3 : Int) < (w : Int)) then m_refused (n : Int) else m_together ((List.range n).map g)) = tellA (match Sb06.dirOf w with | some d => Sb06.row n (f d) | none => Sb06.refused n) := by
  cases hd : Sb06.dirOf w with
  | none =>
    have := dir_none hd
    rw [decide_eq_true (show (3 : Int) < (w : Int) by omega), cond_true]
    exact refused_eq n
  | some d =>
    have := dir_some hd
    rw [decide_eq_false (show ¬ (3 : Int) < (w : Int) by omega), cond_false]
    exact row_tell n _ g (h d hd)
theorem ans_of_float (x : List Nat) (dir : Nat) : Sb06Neutral.answered (.narrow Sb06.single x dir) = (match Sb06.dirOf dir with
    | some d => Sb06.row 16 ((fun (d : Sb06.Dir) (j : Nat) => Sb06.narrowed Sb06.single d (Sb06.at_ x j)) d)
    | none => Sb06.refused 16) := rfl
theorem of_float_eq (way : Int) (l : List Int) (h1 : 0 ≤ way) (h : ∀ x ∈ l, 0 ≤ x ∧ x ≤ 4294967295) : m_of_float way l = PySb06.of_float way l := by
  obtain ⟨w, rfl⟩ : ∃ w : Nat, way = (w : Int) := ⟨way.toNat, by omega⟩
  show _ = tellA (Sb06Neutral.answered (.narrow Sb06.single (Sb06Neutral.nats l) (w : Int).toNat))
  rw [Int.toNat_natCast, ans_of_float]
  unfold m_of_float
  refine call1 16 w _ _ fun d hd j _ => ?_
  obtain ⟨e1, b1⟩ := getD_natB h (by decide) j
  rw [e1]
  exact narrowed_eq hd 8 23 _ (by omega) (by decide) (by decide)
end Hd
namespace Hd
theorem getD_bB {l : List Int} {B : Int} (h : ∀ x ∈ l, 0 ≤ x ∧ x ≤ B) (hB : 0 ≤ B) (i : Nat) : 0 ≤ l.getD i 0 ∧ l.getD i 0 ≤ B := by
  obtain ⟨e, b⟩ := getD_natB h hB i
  omega
theorem getD_b {l : List Int} (h : ∀ x ∈ l, 0 ≤ x ∧ x ≤ 65535) (i : Nat) : 0 ≤ l.getD i 0 ∧ l.getD i 0 < 65536 := by
  obtain ⟨e, b⟩ := getD_nat h i
  omega
theorem sg_float {x : Int} (h : 0 ≤ x ∧ x ≤ 4294967295) : 0 ≤ x ∧ x < 2 * m_sign_of (8, 23) := by
  have e : m_sign_of (8, 23) = 2147483648 := by decide +kernel
  rw [e]
  omega
theorem sg_double {x : Int} (h : 0 ≤ x ∧ x ≤ 18446744073709551615) : 0 ≤ x ∧ x < 2 * m_sign_of (11, 52) := by
  have e : m_sign_of (11, 52) = 9223372036854775808 := by decide +kernel
  rw [e]
  omega
end Hd

namespace Hd
open PySem PySem.Spec PyProof.Rows L2 Hw
/-! ### what the rules ask beside: numbers stay in bounds -/
theorem nat_of {h : Int} (p : 0 ≤ h ∧ h < 65536) : ∃ b : Nat, h = (b : Int) ∧ b < 65536 := ⟨h.toNat, by omega, by omega⟩
theorem cshl_of {i j : Int} (h1 : 0 ≤ j) (h2 : j ≤ 3000) (h3 : i.natAbs < 2 ^ 1300) : CShl i j := ⟨h1, h2, Nat.lt_of_lt_of_le h3 (Nat.pow_le_pow_right (by decide) (by decide))⟩
theorem mu_b {h : Int} (p : 0 ≤ h ∧ h < 65536) : 0 ≤ m_magnitude_units h ∧ m_magnitude_units h < 2 ^ 41 := by
  obtain ⟨b, rfl, hb⟩ := nat_of p
  rw [mu_eq]
  have := mag_lt b
  omega
theorem un_b {h : Int} (p : 0 ≤ h ∧ h < 65536) : -(2 ^ 41) < m_units h ∧ m_units h < 2 ^ 41 := by
  have := mu_b p
  unfold m_units
  cases m_is_minus h
  · rw [cond_false]; omega
  · rw [cond_true]; omega
theorem mu_p {h : Int} (p : 0 ≤ h ∧ h < 65536) (z : m_is_zero h = false) : 0 < m_magnitude_units h := by
  obtain ⟨b, rfl, hb⟩ := nat_of p
  rw [zero_eq] at z
  rw [mu_eq]
  have := mag_pos b z
  omega
theorem side_mu {h : Int} (p : 0 ≤ h ∧ h < 65536) (q : decide (Builtin.bitAnd h 32767 < 1024) = false) : CShl (1024 + Builtin.bitAnd (Builtin.bitAnd h 32767) 1023) (Builtin.bitAnd h 32767 / 2 ^ ((10 : Int) : Int).toNat - 1) := by
  obtain ⟨b, rfl, hb⟩ := nat_of p
  rw [and_mag] at q ⊢
  rw [decide_eq_false_iff_not] at q
  rw [and_frac]
  have e : ((b % 32768 : Nat) : Int) / 2 ^ ((10 : Int) : Int).toNat = ((b % 32768 / 1024 : Nat) : Int) := div_cast _ 10
  rw [e]
  exact cshl_of (by omega) (by omega) (by omega)
theorem side_rw1 {N b : Int} (p : 0 ≤ N ∧ N < 2 ^ 1200) (q : 0 ≤ b ∧ b ≤ 2500) : CShl (N / 2 ^ b.toNat) b := by
  obtain ⟨n, rfl⟩ : ∃ n : Nat, N = (n : Int) := ⟨N.toNat, by omega⟩
  obtain ⟨m, rfl⟩ : ∃ m : Nat, b = (m : Int) := ⟨b.toNat, by omega⟩
  rw [div_cast]
  have := Nat.div_le_self n (2 ^ m)
  generalize n / 2 ^ m = w at *
  exact cshl_of (by omega) (by omega) (by omega)
theorem side_rw2 {N b : Int} (q : 0 ≤ b ∧ b ≤ 2500) (h : decide (N - N / 2 ^ b.toNat * 2 ^ b.toNat = 0) = false) : CShl 1 (b - 1) := by
  rw [decide_eq_false_iff_not] at h
  have hb : b ≠ 0 := by
    intro e
    subst e
    apply h
    show N - N / 2 ^ 0 * 2 ^ 0 = 0
    rw [Int.pow_zero, Int.ediv_one, Int.mul_one]
    omega
  exact cshl_of (by omega) (by omega) (by decide)
theorem rw_b {way : Int} {s : Bool} {N b : Int} (p : 0 ≤ N) (q : 0 ≤ b) : 0 ≤ m_rounded_whole way s N b ∧ m_rounded_whole way s N b ≤ N + 1 := by
  obtain ⟨n, rfl⟩ : ∃ n : Nat, N = (n : Int) := ⟨N.toNat, by omega⟩
  obtain ⟨m, rfl⟩ : ∃ m : Nat, b = (m : Int) := ⟨b.toNat, by omega⟩
  unfold m_rounded_whole
  dsimp only
  rw [div_cast]
  have := Nat.div_le_self n (2 ^ m)
  generalize n / 2 ^ m = w at *
  simp only [Bool.cond_eq_ite]
  split
  · omega
  · split
    · split <;> omega
    · split <;> omega
theorem side_t0 {N : Int} (p : 0 ≤ N ∧ N < 2 ^ 1190) : CShl N 1 := cshl_of (by decide) (by decide) (by omega)
theorem side_t1 {N : Int} (p : 0 ≤ N ∧ N < 2 ^ 1190) : 0 ≤ N * 2 ^ ((1 : Int) : Int).toNat ∧ N * 2 ^ ((1 : Int) : Int).toNat < 2 ^ 1200 := by
  have e : (2 : Int) ^ ((1 : Int) : Int).toNat = 2 := rfl
  rw [e]
  omega
theorem cshl_1024 : CShl 1024 1 := cshl_of (by decide) (by decide) (by decide)
theorem side_h1 {N : Int} (p : 0 ≤ N ∧ N < 2 ^ 1190) : 0 ≤ N ∧ N < 2 ^ 1200 := by omega
theorem drop_b {N b : Int} (p : 0 ≤ N ∧ N < 2 ^ 1190) (q : 0 ≤ b ∧ b ≤ 1200) : 0 ≤ (if (0 : Int) > ((((Builtin.Int.intBits N : Nat) : Int) - b) - (11 : Int)) then (0 : Int) else ((((Builtin.Int.intBits N : Nat) : Int) - b) - (11 : Int))) ∧ (if (0 : Int) > ((((Builtin.Int.intBits N : Nat) : Int) - b) - (11 : Int)) then (0 : Int) else ((((Builtin.Int.intBits N : Nat) : Int) - b) - (11 : Int))) ≤ 1190 := by
  have h : (Builtin.Int.intBits N : Int) ≤ (1190 : Nat) := bits_lt (by omega)
  have h2 : ((1190 : Nat) : Int) = 1190 := rfl
  rw [h2] at h
  split <;> omega
theorem side_h2 {N b : Int} (p : 0 ≤ N ∧ N < 2 ^ 1190) (q : 0 ≤ b ∧ b ≤ 1200) : 0 ≤ b + (if (0 : Int) > ((((Builtin.Int.intBits N : Nat) : Int) - b) - (11 : Int)) then (0 : Int) else ((((Builtin.Int.intBits N : Nat) : Int) - b) - (11 : Int))) ∧ b + (if (0 : Int) > ((((Builtin.Int.intBits N : Nat) : Int) - b) - (11 : Int)) then (0 : Int) else ((((Builtin.Int.intBits N : Nat) : Int) - b) - (11 : Int))) ≤ 2500 := by
  have := drop_b p q
  omega
theorem side_h3 {N b : Int} (p : 0 ≤ N ∧ N < 2 ^ 1190) (q : 0 ≤ b ∧ b ≤ 1200) : CShl (if (0 : Int) > ((((Builtin.Int.intBits N : Nat) : Int) - b) - (11 : Int)) then (0 : Int) else ((((Builtin.Int.intBits N : Nat) : Int) - b) - (11 : Int))) 10 := by
  have := drop_b p q
  exact cshl_of (by decide) (by decide) (by omega)
theorem side_h4 {way : Int} {s : Bool} {N b : Int} (p : 0 ≤ N ∧ N < 2 ^ 1190) (q : 0 ≤ b ∧ b ≤ 1200) : CShl (m_rounded_whole way s N (b + (if (0 : Int) > ((((Builtin.Int.intBits N : Nat) : Int) - b) - (11 : Int)) then (0 : Int) else ((((Builtin.Int.intBits N : Nat) : Int) - b) - (11 : Int))))) (b + (if (0 : Int) > ((((Builtin.Int.intBits N : Nat) : Int) - b) - (11 : Int)) then (0 : Int) else ((((Builtin.Int.intBits N : Nat) : Int) - b) - (11 : Int)))) := by
  have h := side_h2 p q
  have h2 := rw_b (way := way) (s := s) p.1 h.1
  exact cshl_of h.1 (by omega) (by omega)
theorem up190 {N : Int} (p : 0 ≤ N ∧ N < 2 ^ 190) : 0 ≤ N ∧ N < 2 ^ 1190 := by omega
theorem up200 {b : Int} (q : 0 ≤ b ∧ b ≤ 200) : 0 ≤ b ∧ b ≤ 1200 := by omega
theorem side_f {N : Int} (p : 0 ≤ N ∧ N < 2 ^ 180) : CShl N 1 := cshl_of (by decide) (by decide) (by omega)
theorem side_abs {z : Int} (p : -(2 ^ 190) < z ∧ z < 2 ^ 190) : 0 ≤ (if z < 0 then -z else z) ∧ (if z < 0 then -z else z) < 2 ^ 190 := by split <;> omega
theorem side_add {a b : Int} (p : 0 ≤ a ∧ a < 65536) (q : 0 ≤ b ∧ b < 65536) : -(2 ^ 190) < m_units a + m_units b ∧ m_units a + m_units b < 2 ^ 190 := by
  have := un_b p
  have := un_b q
  omega
theorem cmul_mu {a z : Int} (p : 0 ≤ a ∧ a < 65536) : CMul (m_magnitude_units a) z := by
  have := mu_b p
  exact .inl ⟨by omega, by omega⟩
theorem cmul_mu' {a z : Int} (p : 0 ≤ a ∧ a < 65536) : CMul z (m_magnitude_units a) := by
  have := mu_b p
  exact .inr ⟨by omega, by omega⟩
theorem cmul_un {a z : Int} (p : 0 ≤ a ∧ a < 65536) : CMul (m_units a) z := by
  have := un_b p
  exact .inl ⟨by omega, by omega⟩
theorem mul_lt41 {x y : Int} (hx : 0 ≤ x ∧ x < 2 ^ 41) (hy : 0 ≤ y ∧ y < 2 ^ 41) : 0 ≤ x * y ∧ x * y < 2 ^ 90 := by
  obtain ⟨n, rfl⟩ : ∃ n : Nat, x = (n : Int) := ⟨x.toNat, by omega⟩
  obtain ⟨m, rfl⟩ : ∃ m : Nat, y = (m : Int) := ⟨y.toNat, by omega⟩
  have h : n * m ≤ 2 ^ 41 * 2 ^ 41 := Nat.mul_le_mul (by omega) (by omega)
  rw [← Int.natCast_mul]
  omega
theorem side_mul {a b : Int} (p : 0 ≤ a ∧ a < 65536) (q : 0 ≤ b ∧ b < 65536) : 0 ≤ m_magnitude_units a * m_magnitude_units b ∧ m_magnitude_units a * m_magnitude_units b < 2 ^ 190 := by
  have := mul_lt41 (mu_b p) (mu_b q)
  omega
theorem ws_inf (s : Bool) : 0 ≤ m_with_sign s 31744 ∧ m_with_sign s 31744 < 65536 := by cases s <;> decide +kernel
theorem cshl_un {a : Int} (p : 0 ≤ a ∧ a < 65536) : CShl (m_units a) 24 := by
  have := un_b p
  exact cshl_of (by decide) (by decide) (by omega)
theorem side_fma {a b c : Int} (p : 0 ≤ a ∧ a < 65536) (q : 0 ≤ b ∧ b < 65536) (r : 0 ≤ c ∧ c < 65536) : -(2 ^ 190) < m_units a * m_units b + m_units c * 2 ^ ((24 : Int) : Int).toNat ∧ m_units a * m_units b + m_units c * 2 ^ ((24 : Int) : Int).toNat < 2 ^ 190 := by
  have hc := un_b r
  have h := mul_lt41 (mu_b p) (mu_b q)
  have e : (2 : Int) ^ ((24 : Int) : Int).toNat = 2 ^ 24 := rfl
  rw [e]
  have hm : m_units a * m_units b = m_magnitude_units a * m_magnitude_units b ∨ m_units a * m_units b = -(m_magnitude_units a * m_magnitude_units b) := by
    unfold m_units
    cases m_is_minus a <;> cases m_is_minus b
    · exact .inl rfl
    · exact .inr (Int.mul_neg _ _)
    · exact .inr (Int.neg_mul _ _)
    · exact .inl (Int.neg_mul_neg _ _)
  omega
theorem cshl_mu {a j : Int} (p : 0 ≤ a ∧ a < 65536) (h1 : 0 ≤ j) (h2 : j ≤ 3000) : CShl (m_magnitude_units a) j := by
  have := mu_b p
  exact cshl_of h1 h2 (by omega)
theorem lt_1000 {x : Int} (h : x < 2 ^ 41) : x < 2 ^ 1000 := by
  have e : (2 : Int) ^ 41 ≤ 2 ^ 1000 := by decide +kernel
  exact Int.lt_of_lt_of_le h e
theorem lt_big {x : Int} (h : x ≤ 2 ^ 61) : x < 2 ^ 1000 := by
  have e : (2 : Int) ^ 61 < 2 ^ 1000 := by decide +kernel
  exact Int.lt_of_le_of_lt h e
theorem cfd_mu {b : Int} (q : 0 ≤ b ∧ b < 65536) (z : m_is_zero b = false) : CFd (m_magnitude_units b) := ⟨mu_p q z, lt_1000 (mu_b q).2⟩
theorem side_div {a b : Int} (p : 0 ≤ a ∧ a < 65536) (q : 0 ≤ b ∧ b < 65536) (z : m_is_zero b = false) : 0 ≤ m_magnitude_units a * 2 ^ (((24 : Int) + (2 : Int)) : Int).toNat / m_magnitude_units b ∧ m_magnitude_units a * 2 ^ (((24 : Int) + (2 : Int)) : Int).toNat / m_magnitude_units b < 2 ^ 180 := by
  have h := mu_b p
  have hb := mu_p q z
  have e : (2 : Int) ^ (((24 : Int) + (2 : Int)) : Int).toNat = 2 ^ 26 := rfl
  rw [e]
  generalize m_magnitude_units a = x at *
  generalize m_magnitude_units b = y at *
  have h2 : 0 ≤ x * 2 ^ 26 := by omega
  have h3 : x * 2 ^ 26 / y ≤ x * 2 ^ 26 := Int.ediv_le_self _ h2
  have h4 : 0 ≤ x * 2 ^ 26 / y := Int.ediv_nonneg h2 (by omega)
  omega
theorem side_told {f : Int} {e : Bool} (p : 0 ≤ f ∧ f < 2 ^ 180) : 0 ≤ m_with_rest_told f e ∧ m_with_rest_told f e < 2 ^ 190 := by
  obtain ⟨n, rfl⟩ : ∃ n : Nat, f = (n : Int) := ⟨f.toNat, by omega⟩
  rw [rest_told]
  cases e
  · rw [cond_false]; omega
  · rw [cond_true]; omega
theorem rootBelow_lt (m : Nat) : ∀ (k r : Nat), Sb06.rootBelow m k r < r + 2 ^ k
  | 0, r => Nat.lt_succ_self r
  | k + 1, r => by
    unfold Sb06.rootBelow
    have e : 2 ^ (k + 1) = 2 ^ k + 2 ^ k := by rw [Nat.pow_succ]; omega
    split
    · have := rootBelow_lt m k (r + 2 ^ k)
      omega
    · have := rootBelow_lt m k r
      have := Nat.two_pow_pos k
      omega
theorem root_b (z : Int) : 0 ≤ m_whole_root z ∧ m_whole_root z < 2 ^ 64 := by
  have h := rootBelow_lt z.toNat 64 0
  unfold m_whole_root
  generalize Sb06.rootBelow z.toNat 64 0 = r at *
  omega
theorem side_sq {a : Int} (p : 0 ≤ a ∧ a < 65536) (z : m_is_zero a = false) : 0 < m_magnitude_units a * 2 ^ ((((24 : Int) + (2 : Int)) + (2 : Int)) : Int).toNat ∧ m_magnitude_units a * 2 ^ ((((24 : Int) + (2 : Int)) + (2 : Int)) : Int).toNat < 2 ^ 120 := by
  have h := mu_b p
  have hb := mu_p p z
  have e : (2 : Int) ^ ((((24 : Int) + (2 : Int)) + (2 : Int)) : Int).toNat = 2 ^ 28 := rfl
  rw [e]
  omega
theorem cmul_root {z y : Int} : CMul (m_whole_root z) y := by
  have := root_b z
  exact .inl ⟨by omega, by omega⟩
theorem side_root {z : Int} : 0 ≤ m_whole_root z ∧ m_whole_root z < 2 ^ 180 := by
  have := root_b z
  omega
theorem bits_b {a : Int} (p : 0 ≤ a ∧ a < 65536) : ((Builtin.Int.intBits (m_magnitude_units a) : Nat) : Int) ≤ 41 := by
  have h := mu_b p
  have : (Builtin.Int.intBits (m_magnitude_units a) : Int) ≤ (41 : Nat) := bits_lt (by omega)
  exact this
theorem side_pow {a : Int} (p : 0 ≤ a ∧ a < 65536) : -70000 < (((Builtin.Int.intBits (m_magnitude_units a) : Nat) : Int) - (1 : Int)) - (24 : Int) ∧ (((Builtin.Int.intBits (m_magnitude_units a) : Nat) : Int) - (1 : Int)) - (24 : Int) < 70000 := by
  have h := bits_b p
  omega
theorem side_n1 {z : Int} (p : -70000 < z ∧ z < 70000) : CShl (if z < 0 then -z else z) 24 := by
  refine cshl_of (by decide) (by decide) ?_
  split <;> omega
theorem side_n2 {z : Int} (p : -70000 < z ∧ z < 70000) : 0 ≤ (if z < 0 then -z else z) * 2 ^ ((24 : Int) : Int).toNat ∧ (if z < 0 then -z else z) * 2 ^ ((24 : Int) : Int).toNat < 2 ^ 190 := by
  have e : (2 : Int) ^ ((24 : Int) : Int).toNat = 2 ^ 24 := rfl
  rw [e]
  split <;> omega
theorem side_p1 {n : Int} (p : 0 ≤ n ∧ n < 2 ^ 60) : 0 ≤ n ∧ n < 2 ^ 1190 := by omega
theorem side_p2 {z : Int} (p : -1150 ≤ z ∧ z ≤ 1100) (h : decide (z < 0) = true) : 0 ≤ -z ∧ -z ≤ 1200 := by
  rw [decide_eq_true_eq] at h
  omega
theorem side_p3 {n z : Int} (p : 0 ≤ n ∧ n < 2 ^ 60) (q : -1150 ≤ z ∧ z ≤ 1100) (h : decide (z < 0) = false) : CShl n z := by
  rw [decide_eq_false_iff_not] at h
  exact cshl_of (by omega) (by omega) (by omega)
theorem side_p4 {n z : Int} (p : 0 ≤ n ∧ n < 2 ^ 60) (q : -1150 ≤ z ∧ z ≤ 1100) (h : decide (z < 0) = false) : 0 ≤ n * 2 ^ z.toNat ∧ n * 2 ^ z.toNat < 2 ^ 1190 := by
  rw [decide_eq_false_iff_not] at h
  obtain ⟨m, rfl⟩ : ∃ m : Nat, z = (m : Int) := ⟨z.toNat, by omega⟩
  obtain ⟨k, rfl⟩ : ∃ k : Nat, n = (k : Int) := ⟨n.toNat, by omega⟩
  rw [mul_cast]
  have h4 : 2 ^ m ≤ 2 ^ 1100 := Nat.pow_le_pow_right (by decide) (by omega)
  have h5 : k * 2 ^ m ≤ 2 ^ 60 * 2 ^ 1100 := Nat.mul_le_mul (by omega) h4
  omega
theorem side_m24 {a : Int} (p : 0 ≤ a ∧ a < 65536) : 0 ≤ m_magnitude_units a * 2 ^ ((24 : Int) : Int).toNat ∧ m_magnitude_units a * 2 ^ ((24 : Int) : Int).toNat < 2 ^ 190 := by
  have h := mu_b p
  have e : (2 : Int) ^ ((24 : Int) : Int).toNat = 2 ^ 24 := rfl
  rw [e]
  omega
theorem side_bits {a : Int} (p : 0 ≤ a ∧ a < 65536) (z : (m_is_zero a || m_is_infinite a) = false) : 0 ≤ ((Builtin.Int.intBits (m_magnitude_units a) : Nat) : Int) - (1 : Int) ∧ ((Builtin.Int.intBits (m_magnitude_units a) : Nat) : Int) - (1 : Int) ≤ 200 := by
  rw [Bool.or_eq_false_iff] at z
  have h := bits_b p
  have h2 := mu_p p z.1
  obtain ⟨n, hn⟩ : ∃ n : Nat, m_magnitude_units a = (n : Int) := ⟨(m_magnitude_units a).toNat, by omega⟩
  rw [hn] at h h2 ⊢
  have := pred_bits n (by omega)
  omega
theorem side_s1 {a : Int} (p : 0 ≤ a ∧ a < 65536) : 0 ≤ m_magnitude_units a ∧ m_magnitude_units a < 2 ^ 60 := by
  have h := mu_b p
  omega
theorem side_s2 (e : Int) : -1150 ≤ (if (64 : Int) < (if (-(64 : Int)) > e then (-(64 : Int)) else e) then (64 : Int) else (if (-(64 : Int)) > e then (-(64 : Int)) else e)) ∧ (if (64 : Int) < (if (-(64 : Int)) > e then (-(64 : Int)) else e) then (64 : Int) else (if (-(64 : Int)) > e then (-(64 : Int)) else e)) ≤ 1100 := by
  rw [clamp]
  split <;> (try split) <;> omega
theorem side_w1 {a : Int} (p : 0 ≤ a ∧ a < 65536) : 0 ≤ m_magnitude_units a ∧ m_magnitude_units a < 2 ^ 1200 := by
  have h := mu_b p
  omega
theorem side_w2 {way a : Int} {s : Bool} (p : 0 ≤ a ∧ a < 65536) : CShl (m_rounded_whole way s (m_magnitude_units a) 24) 24 := by
  have h := mu_b p
  have h2 := rw_b (way := way) (s := s) (b := 24) h.1 (by decide)
  exact cshl_of (by decide) (by decide) (by omega)
theorem near_b {way a : Int} (p : 0 ≤ a ∧ a < 65536) : 0 ≤ (m_nearby_whole way a).2 ∧ (m_nearby_whole way a).2 ≤ 2 ^ 42 := by
  have h := mu_b p
  have h2 := rw_b (way := way) (s := m_is_minus a) (b := 24) h.1 (by decide)
  show 0 ≤ m_rounded_whole way (m_is_minus a) (m_magnitude_units a) 24 ∧ m_rounded_whole way (m_is_minus a) (m_magnitude_units a) 24 ≤ 2 ^ 42
  omega
theorem side_w4 {way a : Int} (p : 0 ≤ a ∧ a < 65536) : CShl (m_nearby_whole way a).2 24 := by
  have h := near_b (way := way) p
  exact cshl_of (by decide) (by decide) (by omega)
theorem side_w3 {way a : Int} (p : 0 ≤ a ∧ a < 65536) : 0 ≤ (m_nearby_whole way a).2 * 2 ^ ((24 : Int) : Int).toNat ∧ (m_nearby_whole way a).2 * 2 ^ ((24 : Int) : Int).toNat < 2 ^ 190 := by
  have h := near_b (way := way) p
  have e : (2 : Int) ^ ((24 : Int) : Int).toNat = 2 ^ 24 := rfl
  rw [e]
  omega
theorem side_z1 {z : Int} (p : 0 ≤ z ∧ z < 65536) : -70000 < z - 65536 ∧ z - 65536 < 70000 := by omega
theorem side_z2 {z : Int} (p : 0 ≤ z ∧ z < 65536) : -70000 < z ∧ z < 70000 := by omega
/-! forms -/
theorem side_sg {form : Int × Int} (h : Fm form) : CShl 1 (form.1 + form.2) := by
  rcases h with rfl | rfl <;> exact cshl_of (by decide) (by decide) (by decide +kernel)
theorem side_f0 {form : Int × Int} (h : Fm form) : 0 ≤ form.2 := by
  rcases h with rfl | rfl <;> decide
theorem side_f1 {form : Int × Int} (h : Fm form) : CShl 1 form.2 := by
  rcases h with rfl | rfl <;> exact cshl_of (by decide) (by decide) (by decide +kernel)
theorem side_f2 {form : Int × Int} (h : Fm form) : CShl 1 (form.2 - 1) := by
  rcases h with rfl | rfl <;> exact cshl_of (by decide) (by decide) (by decide +kernel)
theorem side_f3 {form : Int × Int} (h : Fm form) : CShl 1 (form.1 - 1) := by
  rcases h with rfl | rfl <;> exact cshl_of (by decide) (by decide) (by decide +kernel)
/-- a form's numbers -/
theorem form_b {form : Int × Int} (h : Fm form) : 0 ≤ m_bias_of form ∧ m_bias_of form ≤ 1023 ∧ 0 ≤ form.2 ∧ form.2 ≤ 52 ∧ 0 ≤ m_infinity_of form ∧ m_infinity_of form < 2 ^ 64 ∧ m_sign_of form ≤ 2 ^ 63 ∧ (2 : Int) ^ form.2.toNat ≤ 2 ^ 52 ∧ m_infinity_of form / 2 ^ form.2.toNat ≤ 2047 ∧ form.2 + m_bias_of form ≤ 1075 ∧ 150 ≤ form.2 + m_bias_of form ∧ m_infinity_of form / 2 ^ form.2.toNat - m_bias_of form - form.2 ≤ 1000 := by
  rcases h with rfl | rfl <;> decide +kernel
theorem side_wm1 {form : Int × Int} {a : Int} (h : Fm form) (p : 0 ≤ a ∧ a < 65536) : CShl ((((((Builtin.Int.intBits (m_magnitude_units a) : Nat) : Int) - (1 : Int)) - (24 : Int)) + (m_bias_of form)) - (1 : Int)) form.2 := by
  have hb := bits_b p
  have hf := form_b h
  exact cshl_of (by omega) (by omega) (by omega)
theorem side_wm2 {form : Int × Int} {a : Int} (h : Fm form) (p : 0 ≤ a ∧ a < 65536) : CShl (m_magnitude_units a) form.2 := by
  have hf := form_b h
  exact cshl_mu p (by omega) (by omega)
theorem side_wm3 {a : Int} (p : 0 ≤ a ∧ a < 65536) (z : m_is_zero a = false) : 0 ≤ ((Builtin.Int.intBits (m_magnitude_units a) : Nat) : Int) - (1 : Int) := by
  have h2 := mu_p p z
  obtain ⟨n, hn⟩ : ∃ n : Nat, m_magnitude_units a = (n : Int) := ⟨(m_magnitude_units a).toNat, by omega⟩
  rw [hn] at h2 ⊢
  have := pred_bits n (by omega)
  omega
theorem exp_b {form : Int × Int} {m : Int} (h : Fm form) (p : 0 ≤ m ∧ m < m_infinity_of form) : 0 ≤ m / 2 ^ form.2.toNat ∧ m / 2 ^ form.2.toNat ≤ m_infinity_of form / 2 ^ form.2.toNat ∧ 0 ≤ m - m / 2 ^ form.2.toNat * 2 ^ form.2.toNat ∧ m - m / 2 ^ form.2.toNat * 2 ^ form.2.toNat < 2 ^ 52 := by
  have hf := form_b h
  have h2 : 0 < (2 : Int) ^ form.2.toNat := Int.pow_pos (by decide)
  have h3 := Int.mul_ediv_add_emod m (2 ^ form.2.toNat)
  have h4 := Int.emod_nonneg m (Int.ne_of_gt h2)
  have h5 := Int.emod_lt_of_pos m h2
  rw [Int.mul_comm] at h3
  refine ⟨Int.ediv_nonneg p.1 (by omega), Int.ediv_le_ediv h2 (by omega), by omega, by omega⟩
theorem side_rm1 {form : Int × Int} {m : Int} (h : Fm form) (p : 0 ≤ m ∧ m < m_infinity_of form) : CShl (m / 2 ^ form.2.toNat) form.2 := by
  have hf := form_b h
  have he := exp_b h p
  exact cshl_of (by omega) (by omega) (by omega)
theorem side_rm2 {form : Int × Int} {m : Int} (h : Fm form) (p : 0 ≤ m ∧ m < m_infinity_of form) : 0 ≤ (bif (!decide ((m / 2 ^ form.2.toNat) = (0 : Int))) then ((m - ((m / 2 ^ form.2.toNat) * 2 ^ form.2.toNat)) + ((1 : Int) * 2 ^ form.2.toNat)) else (m - ((m / 2 ^ form.2.toNat) * 2 ^ form.2.toNat))) ∧ (bif (!decide ((m / 2 ^ form.2.toNat) = (0 : Int))) then ((m - ((m / 2 ^ form.2.toNat) * 2 ^ form.2.toNat)) + ((1 : Int) * 2 ^ form.2.toNat)) else (m - ((m / 2 ^ form.2.toNat) * 2 ^ form.2.toNat))) < 2 ^ 60 := by
  have hf := form_b h
  have he := exp_b h p
  have h2 : 0 < (2 : Int) ^ form.2.toNat := Int.pow_pos (by decide)
  rw [Int.one_mul]
  cases (!decide ((m / 2 ^ form.2.toNat) = (0 : Int))) with
  | false => rw [cond_false]; omega
  | true => rw [cond_true]; omega
theorem side_rm3 {form : Int × Int} {m : Int} (h : Fm form) (p : 0 ≤ m ∧ m < m_infinity_of form) : -1150 ≤ (((if (1 : Int) > (m / 2 ^ form.2.toNat) then (1 : Int) else (m / 2 ^ form.2.toNat)) - (m_bias_of form)) - form.2) + (24 : Int) ∧ (((if (1 : Int) > (m / 2 ^ form.2.toNat) then (1 : Int) else (m / 2 ^ form.2.toNat)) - (m_bias_of form)) - form.2) + (24 : Int) ≤ 1100 := by
  have hf := form_b h
  have he := exp_b h p
  split <;> omega
theorem side_nr {form : Int × Int} {x : Int} (h : Fm form) (p : 0 ≤ x ∧ x < 2 * m_sign_of form) (h1 : decide ((m_infinity_of form) < Builtin.bitAnd x ((m_sign_of form) - (1 : Int))) = false) (h2 : decide (Builtin.bitAnd x ((m_sign_of form) - (1 : Int)) = (m_infinity_of form)) = false) : 0 ≤ Builtin.bitAnd x ((m_sign_of form) - (1 : Int)) ∧ Builtin.bitAnd x ((m_sign_of form) - (1 : Int)) < m_infinity_of form := by
  rw [decide_eq_false_iff_not] at h1 h2
  obtain ⟨n, rfl⟩ : ∃ n : Nat, x = (n : Int) := ⟨x.toNat, by omega⟩
  have h3 : ∃ k : Nat, m_sign_of form - 1 = (k : Int) := by
    rcases h with rfl | rfl
    · exact ⟨2147483647, by decide +kernel⟩
    · exact ⟨9223372036854775807, by decide +kernel⟩
  obtain ⟨k, hk⟩ := h3
  rw [hk, and_nat] at h1 h2 ⊢
  omega
theorem neg_b {a : Int} (p : 0 ≤ a ∧ a < 65536) : 0 ≤ m_negated a ∧ m_negated a < 65536 := by
  obtain ⟨b, rfl, hb⟩ := nat_of p
  rw [negated_eq b hb]
  have := minus_lt b hb
  omega
theorem way_dir {way : Int} (p : 0 ≤ way ∧ way ≤ 3) : ∃ (w : Nat) (d : Sb06.Dir), way = (w : Int) ∧ Sb06.dirOf w = some d := by
  obtain ⟨w, rfl⟩ : ∃ w : Nat, way = (w : Int) := ⟨way.toNat, by omega⟩
  have : w = 0 ∨ w = 1 ∨ w = 2 ∨ w = 3 := by omega
  rcases this with rfl | rfl | rfl | rfl
  · exact ⟨0, .near, rfl, rfl⟩
  · exact ⟨1, .down, rfl, rfl⟩
  · exact ⟨2, .up, rfl, rfl⟩
  · exact ⟨3, .zero, rfl, rfl⟩
theorem whole_b {way a : Int} (p : 0 ≤ a ∧ a < 65536) (q : 0 ≤ way ∧ way ≤ 3) : 0 ≤ (m_whole_part way a).2 ∧ (m_whole_part way a).2 < 65536 := by
  obtain ⟨b, rfl, hb⟩ := nat_of p
  obtain ⟨w, d, rfl, hd⟩ := way_dir q
  rw [whole_eq hd b hb]
  have h : (Sb06.whole d b).1 < 65536 := by
    cases na : Sb06.isNaN b with
    | true =>
      obtain ⟨x, hx⟩ := nans_some (l := [b]) (by simp) na
      have e : Sb06.whole d b = x := by unfold Sb06.whole; rw [hx]
      rw [e]
      unfold Sb06.nans at hx
      split at hx
      · cases hx
        exact (by decide : Sb06.NAN < 65536)
      · cases hx
    | false =>
      have hn := nans_of (l := [b]) (by intro c hc; simp at hc; rw [hc]; exact na)
      cases hi : Sb06.isInf b with
      | true =>
        have e : Sb06.whole d b = (b, 0) := by unfold Sb06.whole; rw [hn, hi]; rfl
        rw [e]
        exact hb
      | false =>
        obtain ⟨v, h1, h2, h3⟩ := whole_half d b na hi
        have e : (Sb06.whole d b).1 = Sb06.sign (Sb06.negative b) + Sb06.packed ((Sb06.wholeOf d b).1 * 2 ^ 24) := by unfold Sb06.whole; rw [hn, hi]; rfl
        rw [e, h1]
        exact (packed_facts (Sb06.negative b) v h2).1
  show 0 ≤ (((Sb06.whole d b).1 : Nat) : Int) ∧ (((Sb06.whole d b).1 : Nat) : Int) < 65536
  omega
/-! ### Newton's steps -/
theorem am_gm (x y : Nat) : 4 * (x * y) ≤ (x + y) * (x + y) := by
  rcases Nat.le_total x y with h | h
  · obtain ⟨d, rfl⟩ : ∃ d, y = x + d := ⟨y - x, by omega⟩
    have e : (x + (x + d)) * (x + (x + d)) = 4 * (x * (x + d)) + d * d := by
      simp only [Nat.mul_add, Nat.add_mul, Nat.mul_comm d x]
      omega
    omega
  · obtain ⟨d, rfl⟩ : ∃ d, x = y + d := ⟨x - y, by omega⟩
    have e : (y + d + y) * (y + d + y) = 4 * ((y + d) * y) + d * d := by
      simp only [Nat.mul_add, Nat.add_mul, Nat.mul_comm d y]
      omega
    omega
theorem newton {n r : Nat} (hr : 0 < r) : n < ((r + n / r) / 2 + 1) * ((r + n / r) / 2 + 1) := by
  have h1 := Nat.div_add_mod n r
  have h2 : n % r < r := Nat.mod_lt _ hr
  have h3 : n < r * (n / r + 1) := by rw [Nat.mul_succ]; omega
  have h4 := am_gm r (n / r + 1)
  generalize n / r = q at *
  have h5 : r + (q + 1) ≤ 2 * ((r + q) / 2 + 1) := by omega
  have h6 := Nat.mul_le_mul h5 h5
  generalize (r + q) / 2 + 1 = c at *
  have h7 : 2 * c * (2 * c) = 4 * (c * c) := by rw [Nat.mul_mul_mul_comm]
  omega
theorem newton_pos {n r : Nat} (hn : 0 < n) (hr : 0 < r) : 0 < (r + n / r) / 2 := by
  rcases Nat.eq_or_lt_of_le hr with h | h
  · have : r = 1 := by omega
    subst this
    rw [Nat.div_one]
    omega
  · generalize n / r = q
    omega
theorem newton_end {n r : Nat} (h : ¬ (r + n / r) / 2 < r) : r * r ≤ n := by
  have h1 : r ≤ n / r := by omega
  have h2 := Nat.mul_le_mul_left r h1
  have h3 := Nat.mul_div_le n r
  omega
end Hd

namespace Hd
open PySem PyProof.Rows
/-! the program's own steps stay among halves -/
theorem add_b {way a b : Int} (w : 0 ≤ way ∧ way ≤ 3) (p : 0 ≤ a ∧ a < 65536) (q : 0 ≤ b ∧ b < 65536) : 0 ≤ (m_add way a b).2 ∧ (m_add way a b).2 < 65536 := by
  obtain ⟨x, rfl, hx⟩ := nat_of p
  obtain ⟨y, rfl, hy⟩ := nat_of q
  obtain ⟨n, d, rfl, hd⟩ := way_dir w
  rw [add_eq hd x y hx hy]
  have := plus_lt d x y hx hy
  show 0 ≤ (((Sb06.plus d x y).1 : Nat) : Int) ∧ (((Sb06.plus d x y).1 : Nat) : Int) < 65536
  omega
theorem multiply_b {way a b : Int} (w : 0 ≤ way ∧ way ≤ 3) (p : 0 ≤ a ∧ a < 65536) (q : 0 ≤ b ∧ b < 65536) : 0 ≤ (m_multiply way a b).2 ∧ (m_multiply way a b).2 < 65536 := by
  obtain ⟨x, rfl, hx⟩ := nat_of p
  obtain ⟨y, rfl, hy⟩ := nat_of q
  obtain ⟨n, d, rfl, hd⟩ := way_dir w
  rw [multiply_eq hd x y hx hy]
  have := times_lt d x y
  show 0 ≤ (((Sb06.times d x y).1 : Nat) : Int) ∧ (((Sb06.times d x y).1 : Nat) : Int) < 65536
  omega
theorem fma_b {way a b c : Int} (w : 0 ≤ way ∧ way ≤ 3) (p : 0 ≤ a ∧ a < 65536) (q : 0 ≤ b ∧ b < 65536) (r : 0 ≤ c ∧ c < 65536) : 0 ≤ (m_multiply_and_add way a b c).2 ∧ (m_multiply_and_add way a b c).2 < 65536 := by
  obtain ⟨x, rfl, hx⟩ := nat_of p
  obtain ⟨y, rfl, hy⟩ := nat_of q
  obtain ⟨z, rfl, hz⟩ := nat_of r
  obtain ⟨n, d, rfl, hd⟩ := way_dir w
  rw [fused_eq hd x y z hx hy hz]
  have := fused_lt d x y z hz
  show 0 ≤ (((Sb06.fused d x y z).1 : Nat) : Int) ∧ (((Sb06.fused d x y z).1 : Nat) : Int) < 65536
  omega
/-! ### lists of numbers answered -/
end Hd

namespace Hd
open PySem PySem.Spec PyProof.Rows L2 Hw
def top (i : Nat) : Stmt := PySem.Challenge.pw_halfrowsdesk_s06_whole.main.body.getD i (.Pass ⟨0, 0, 0, 0⟩)
structure Tx (mg : Str → Option Value) (K : PySem.W.Frag) : Prop where
  c_SIGN : ∃ t, mg "SIGN" = some (.int (32768) t)
  c_MAGNITUDE : ∃ t, mg "MAGNITUDE" = some (.int (32767) t)
  c_FRACTION : ∃ t, mg "FRACTION" = some (.int (1023) t)
  c_LEAST_NORMAL : ∃ t, mg "LEAST_NORMAL" = some (.int (1024) t)
  c_INFINITY : ∃ t, mg "INFINITY" = some (.int (31744) t)
  c_UNIT_SHIFT : ∃ t, mg "UNIT_SHIFT" = some (.int (24) t)
  c_INVALID : ∃ t, mg "INVALID" = some (.int (1) t)
  c_INEXACT : ∃ t, mg "INEXACT" = some (.int (16) t)
  c_REFUSED : ∃ t, mg "REFUSED" = some (.int (2147483648) t)
  c_NEAREST : ∃ t, mg "NEAREST" = some (.int (0) t)
  c_DOWN : ∃ t, mg "DOWN" = some (.int (1) t)
  c_UP : ∃ t, mg "UP" = some (.int (2) t)
  c_SIGNED : ∃ t, mg "SIGNED" = some (.int (0) t)
  c_BEYOND_SIXTEEN_BITS : ∃ t, mg "BEYOND_SIXTEEN_BITS" = some (.int (65536) t)
  c_LEAST_SIGNED : ∃ t, mg "LEAST_SIGNED" = some (.int (-32768) t)
  c_NO_SIGNED : ∃ t, mg "NO_SIGNED" = some (.int (32768) t)
  c_NO_UNSIGNED : ∃ t, mg "NO_UNSIGNED" = some (.int (65535) t)
  c_LANES : ∃ t, mg "LANES" = some (.int (32) t)
  c_LAST_WAY : ∃ t, mg "LAST_WAY" = some (.int (3) t)
  c_LAST_KIND : ∃ t, mg "LAST_KIND" = some (.int (1) t)

def den_is_minus : List V → V → Prop := fun vs v => ∃ (half : Int), vs = [.int half] ∧ v = .bl (m_is_minus half)
abbrev s_is_minus : Stmt := top 7
theorem sc_is_minus : FnScope ["half"] ["half"] (defScope s_is_minus) := ⟨rfl, rfl, rfl, by decide +kernel, rfl, by decide +kernel, by decide +kernel⟩
theorem fn_is_minus {M : Mo} (T : Tx M.mg M.K) (D : Df M.K M.mg "is_minus" s_is_minus ["half"])  : Fn M 1 "is_minus" (spP den_is_minus) := by
  refine D.fn sc_is_minus (fun vs H Q E h => ?_) (fun X H vs Q E cx h => ?_)
  · obtain ⟨v, ⟨half, rfl, _⟩, _⟩ := h
    rfl
  · obtain ⟨v, ⟨half, rfl, rfl⟩, q⟩ := h
    have v_half : ∀ {σ : L2.St} {H : Hp} {pos : Pos} {v : V}, σ[0]? = some (some v) → VE X σ H (.Name "half" pos) v := fun h => ve_var cx 0 rfl (by first | exact .inl rfl | exact .inr (.inl rfl)) rfl rfl h
    have g_SIGN : ∀ {σ : L2.St} {H : Hp} {pos : Pos}, VE X σ H (.Name "SIGN" pos) (.int (32768)) := ve_glob cx rfl rfl T.c_SIGN
    show WSs X (defBody s_is_minus) _ [some (V.int half)] H
    have key : Rp X [some (V.int half)] H (defBody s_is_minus) (V.bl (m_is_minus half)) :=
      (rp_ret (ve_ge (v_half rfl) g_SIGN))
    exact key _ q

def den_is_infinite : List V → V → Prop := fun vs v => ∃ (half : Int), vs = [.int half] ∧ v = .bl (m_is_infinite half)
abbrev s_is_infinite : Stmt := top 8
theorem sc_is_infinite : FnScope ["half"] ["half"] (defScope s_is_infinite) := ⟨rfl, rfl, rfl, by decide +kernel, rfl, by decide +kernel, by decide +kernel⟩
theorem fn_is_infinite {M : Mo} (T : Tx M.mg M.K) (D : Df M.K M.mg "is_infinite" s_is_infinite ["half"])  : Fn M 1 "is_infinite" (spP den_is_infinite) := by
  refine D.fn sc_is_infinite (fun vs H Q E h => ?_) (fun X H vs Q E cx h => ?_)
  · obtain ⟨v, ⟨half, rfl, _⟩, _⟩ := h
    rfl
  · obtain ⟨v, ⟨half, rfl, rfl⟩, q⟩ := h
    have v_half : ∀ {σ : L2.St} {H : Hp} {pos : Pos} {v : V}, σ[0]? = some (some v) → VE X σ H (.Name "half" pos) v := fun h => ve_var cx 0 rfl (by first | exact .inl rfl | exact .inr (.inl rfl)) rfl rfl h
    have g_MAGNITUDE : ∀ {σ : L2.St} {H : Hp} {pos : Pos}, VE X σ H (.Name "MAGNITUDE" pos) (.int (32767)) := ve_glob cx rfl rfl T.c_MAGNITUDE
    have g_INFINITY : ∀ {σ : L2.St} {H : Hp} {pos : Pos}, VE X σ H (.Name "INFINITY" pos) (.int (31744)) := ve_glob cx rfl rfl T.c_INFINITY
    show WSs X (defBody s_is_infinite) _ [some (V.int half)] H
    have key : Rp X [some (V.int half)] H (defBody s_is_infinite) (V.bl (m_is_infinite half)) :=
      (rp_ret (ve_eqI (ve_and (v_half rfl) g_MAGNITUDE) g_INFINITY))
    exact key _ q

def den_is_no_number : List V → V → Prop := fun vs v => ∃ (half : Int), vs = [.int half] ∧ v = .bl (m_is_no_number half)
abbrev s_is_no_number : Stmt := top 9
theorem sc_is_no_number : FnScope ["half"] ["half"] (defScope s_is_no_number) := ⟨rfl, rfl, rfl, by decide +kernel, rfl, by decide +kernel, by decide +kernel⟩
theorem fn_is_no_number {M : Mo} (T : Tx M.mg M.K) (D : Df M.K M.mg "is_no_number" s_is_no_number ["half"])  : Fn M 1 "is_no_number" (spP den_is_no_number) := by
  refine D.fn sc_is_no_number (fun vs H Q E h => ?_) (fun X H vs Q E cx h => ?_)
  · obtain ⟨v, ⟨half, rfl, _⟩, _⟩ := h
    rfl
  · obtain ⟨v, ⟨half, rfl, rfl⟩, q⟩ := h
    have v_half : ∀ {σ : L2.St} {H : Hp} {pos : Pos} {v : V}, σ[0]? = some (some v) → VE X σ H (.Name "half" pos) v := fun h => ve_var cx 0 rfl (by first | exact .inl rfl | exact .inr (.inl rfl)) rfl rfl h
    have g_MAGNITUDE : ∀ {σ : L2.St} {H : Hp} {pos : Pos}, VE X σ H (.Name "MAGNITUDE" pos) (.int (32767)) := ve_glob cx rfl rfl T.c_MAGNITUDE
    have g_INFINITY : ∀ {σ : L2.St} {H : Hp} {pos : Pos}, VE X σ H (.Name "INFINITY" pos) (.int (31744)) := ve_glob cx rfl rfl T.c_INFINITY
    show WSs X (defBody s_is_no_number) _ [some (V.int half)] H
    have key : Rp X [some (V.int half)] H (defBody s_is_no_number) (V.bl (m_is_no_number half)) :=
      (rp_ret (ve_gt (ve_and (v_half rfl) g_MAGNITUDE) g_INFINITY))
    exact key _ q

def den_magnitude_units : List V → V → Prop := fun vs v => ∃ (half : Int), vs = [.int half] ∧ (0 ≤ half ∧ half < 65536) ∧ v = .int (m_magnitude_units half)
abbrev s_magnitude_units : Stmt := top 10
theorem sc_magnitude_units : FnScope ["half", "magnitude"] ["half"] (defScope s_magnitude_units) := ⟨rfl, rfl, rfl, by decide +kernel, rfl, by decide +kernel, by decide +kernel⟩
theorem fn_magnitude_units {M : Mo} (T : Tx M.mg M.K) (D : Df M.K M.mg "magnitude_units" s_magnitude_units ["half"])  : Fn M 1 "magnitude_units" (spP den_magnitude_units) := by
  refine D.fn sc_magnitude_units (fun vs H Q E h => ?_) (fun X H vs Q E cx h => ?_)
  · obtain ⟨v, ⟨half, rfl, _⟩, _⟩ := h
    rfl
  · obtain ⟨v, ⟨half, rfl, hp0, rfl⟩, q⟩ := h
    have v_half : ∀ {σ : L2.St} {H : Hp} {pos : Pos} {v : V}, σ[0]? = some (some v) → VE X σ H (.Name "half" pos) v := fun h => ve_var cx 0 rfl (by first | exact .inl rfl | exact .inr (.inl rfl)) rfl rfl h
    have v_magnitude : ∀ {σ : L2.St} {H : Hp} {pos : Pos} {v : V}, σ[1]? = some (some v) → VE X σ H (.Name "magnitude" pos) v := fun h => ve_var cx 1 rfl (by first | exact .inl rfl | exact .inr (.inl rfl)) rfl rfl h
    have l_magnitude : (defScope s_magnitude_units).names.lookup ("magnitude" : Str) = some .local := rfl
    have g_MAGNITUDE : ∀ {σ : L2.St} {H : Hp} {pos : Pos}, VE X σ H (.Name "MAGNITUDE" pos) (.int (32767)) := ve_glob cx rfl rfl T.c_MAGNITUDE
    have g_FRACTION : ∀ {σ : L2.St} {H : Hp} {pos : Pos}, VE X σ H (.Name "FRACTION" pos) (.int (1023)) := ve_glob cx rfl rfl T.c_FRACTION
    have g_LEAST_NORMAL : ∀ {σ : L2.St} {H : Hp} {pos : Pos}, VE X σ H (.Name "LEAST_NORMAL" pos) (.int (1024)) := ve_glob cx rfl rfl T.c_LEAST_NORMAL
    show WSs X (defBody s_magnitude_units) _ [some (V.int half), none] H
    have key : Rp X [some (V.int half), none] H (defBody s_magnitude_units) (V.int (m_magnitude_units half)) :=
      (rp_set cx 1 rfl l_magnitude (fun _ => rfl) (ve_and (v_half rfl) g_MAGNITUDE)
      (rp_ifI (vt_lt (v_magnitude rfl) g_LEAST_NORMAL) (fun h1 => (rp_ret (v_magnitude rfl)))
      (fun h1 => (rp_ret (ve_shl (ve_add g_LEAST_NORMAL (ve_and (v_magnitude rfl) g_FRACTION)) (ve_sub (ve_shr (v_magnitude rfl) ve_int (by decide)) ve_int) (side_mu hp0 h1))))))
    exact key _ q

def den_goes_outward : List V → V → Prop := fun vs v => ∃ (way : Int) (minus : Bool), vs = [.int way, .bl minus] ∧ v = .bl (m_goes_outward way minus)
abbrev s_goes_outward : Stmt := top 18
theorem sc_goes_outward : FnScope ["way", "minus"] ["way", "minus"] (defScope s_goes_outward) := ⟨rfl, rfl, rfl, by decide +kernel, rfl, by decide +kernel, by decide +kernel⟩
theorem fn_goes_outward {M : Mo} (T : Tx M.mg M.K) (D : Df M.K M.mg "goes_outward" s_goes_outward ["way", "minus"])  : Fn M 1 "goes_outward" (spP den_goes_outward) := by
  refine D.fn sc_goes_outward (fun vs H Q E h => ?_) (fun X H vs Q E cx h => ?_)
  · obtain ⟨v, ⟨way, minus, rfl, _⟩, _⟩ := h
    rfl
  · obtain ⟨v, ⟨way, minus, rfl, rfl⟩, q⟩ := h
    have v_way : ∀ {σ : L2.St} {H : Hp} {pos : Pos} {v : V}, σ[0]? = some (some v) → VE X σ H (.Name "way" pos) v := fun h => ve_var cx 0 rfl (by first | exact .inl rfl | exact .inr (.inl rfl)) rfl rfl h
    have v_minus : ∀ {σ : L2.St} {H : Hp} {pos : Pos} {v : V}, σ[1]? = some (some v) → VE X σ H (.Name "minus" pos) v := fun h => ve_var cx 1 rfl (by first | exact .inl rfl | exact .inr (.inl rfl)) rfl rfl h
    have g_DOWN : ∀ {σ : L2.St} {H : Hp} {pos : Pos}, VE X σ H (.Name "DOWN" pos) (.int (1)) := ve_glob cx rfl rfl T.c_DOWN
    have g_UP : ∀ {σ : L2.St} {H : Hp} {pos : Pos}, VE X σ H (.Name "UP" pos) (.int (2)) := ve_glob cx rfl rfl T.c_UP
    show WSs X (defBody s_goes_outward) _ [some (V.int way), some (V.bl minus)] H
    have key : Rp X [some (V.int way), some (V.bl minus)] H (defBody s_goes_outward) (V.bl (m_goes_outward way minus)) :=
      (rp_ret (ve_ifB (vt_eqI (v_way rfl) g_DOWN) (fun h1 => (v_minus rfl)) (fun h1 => (ve_andV (ve_eqI (v_way rfl) g_UP) (fun h2 => (ve_one (ve_not (v_minus rfl))))))))
    exact key _ q

def den_rounded_whole : List V → V → Prop := fun vs v => ∃ (way : Int) (minus : Bool) (exact_ : Int) (below : Int), vs = [.int way, .bl minus, .int exact_, .int below] ∧ (0 ≤ exact_ ∧ exact_ < 2 ^ 1200) ∧ (0 ≤ below ∧ below ≤ 2500) ∧ v = .int (m_rounded_whole way minus exact_ below)
abbrev s_rounded_whole : Stmt := top 19
theorem sc_rounded_whole : FnScope ["way", "minus", "exact", "below", "whole", "rest", "half_way"] ["way", "minus", "exact", "below"] (defScope s_rounded_whole) := ⟨rfl, rfl, rfl, by decide +kernel, rfl, by decide +kernel, by decide +kernel⟩
theorem fn_rounded_whole {M : Mo} (T : Tx M.mg M.K) (D : Df M.K M.mg "rounded_whole" s_rounded_whole ["way", "minus", "exact", "below"]) (F_goes_outward : Fn M 1 "goes_outward" (spP den_goes_outward)) : Fn M 2 "rounded_whole" (spP den_rounded_whole) := by
  refine D.fn sc_rounded_whole (fun vs H Q E h => ?_) (fun X H vs Q E cx h => ?_)
  · obtain ⟨v, ⟨way, minus, exact_, below, rfl, _⟩, _⟩ := h
    rfl
  · obtain ⟨v, ⟨way, minus, exact_, below, rfl, hp0, hp1, rfl⟩, q⟩ := h
    have v_way : ∀ {σ : L2.St} {H : Hp} {pos : Pos} {v : V}, σ[0]? = some (some v) → VE X σ H (.Name "way" pos) v := fun h => ve_var cx 0 rfl (by first | exact .inl rfl | exact .inr (.inl rfl)) rfl rfl h
    have v_minus : ∀ {σ : L2.St} {H : Hp} {pos : Pos} {v : V}, σ[1]? = some (some v) → VE X σ H (.Name "minus" pos) v := fun h => ve_var cx 1 rfl (by first | exact .inl rfl | exact .inr (.inl rfl)) rfl rfl h
    have v_exact : ∀ {σ : L2.St} {H : Hp} {pos : Pos} {v : V}, σ[2]? = some (some v) → VE X σ H (.Name "exact" pos) v := fun h => ve_var cx 2 rfl (by first | exact .inl rfl | exact .inr (.inl rfl)) rfl rfl h
    have v_below : ∀ {σ : L2.St} {H : Hp} {pos : Pos} {v : V}, σ[3]? = some (some v) → VE X σ H (.Name "below" pos) v := fun h => ve_var cx 3 rfl (by first | exact .inl rfl | exact .inr (.inl rfl)) rfl rfl h
    have v_whole : ∀ {σ : L2.St} {H : Hp} {pos : Pos} {v : V}, σ[4]? = some (some v) → VE X σ H (.Name "whole" pos) v := fun h => ve_var cx 4 rfl (by first | exact .inl rfl | exact .inr (.inl rfl)) rfl rfl h
    have v_rest : ∀ {σ : L2.St} {H : Hp} {pos : Pos} {v : V}, σ[5]? = some (some v) → VE X σ H (.Name "rest" pos) v := fun h => ve_var cx 5 rfl (by first | exact .inl rfl | exact .inr (.inl rfl)) rfl rfl h
    have v_half_way : ∀ {σ : L2.St} {H : Hp} {pos : Pos} {v : V}, σ[6]? = some (some v) → VE X σ H (.Name "half_way" pos) v := fun h => ve_var cx 6 rfl (by first | exact .inl rfl | exact .inr (.inl rfl)) rfl rfl h
    have l_whole : (defScope s_rounded_whole).names.lookup ("whole" : Str) = some .local := rfl
    have l_rest : (defScope s_rounded_whole).names.lookup ("rest" : Str) = some .local := rfl
    have l_half_way : (defScope s_rounded_whole).names.lookup ("half_way" : Str) = some .local := rfl
    have g_NEAREST : ∀ {σ : L2.St} {H : Hp} {pos : Pos}, VE X σ H (.Name "NEAREST" pos) (.int (0)) := ve_glob cx rfl rfl T.c_NEAREST
    have k_goes_outward : (defScope s_rounded_whole).names.lookup ("goes_outward" : Str) = some .globalImplicit := rfl
    show WSs X (defBody s_rounded_whole) _ [some (V.int way), some (V.bl minus), some (V.int exact_), some (V.int below), none, none, none] H
    have key : Rp X [some (V.int way), some (V.bl minus), some (V.int exact_), some (V.int below), none, none, none] H (defBody s_rounded_whole) (V.int (m_rounded_whole way minus exact_ below)) :=
      (rp_set cx 4 rfl l_whole (fun _ => rfl) (ve_shr (v_exact rfl) (v_below rfl) hp1.1)
      (rp_set cx 5 rfl l_rest (fun _ => rfl) (ve_sub (v_exact rfl) (ve_shl (v_whole rfl) (v_below rfl) (side_rw1 hp0 hp1)))
      (rp_ifI (vt_eqI (v_rest rfl) ve_int) (fun h1 => (rp_ret (v_whole rfl)))
      (fun h1 => (rp_ifI (vt_neI (v_way rfl) g_NEAREST) (fun h2 => (rp_ret (ve_ifI (vt_val (ve_call cx F_goes_outward (by decide) k_goes_outward rfl rfl (va_cons rfl (v_way rfl) (va_cons rfl (v_minus rfl) va_nil)) ⟨_, _, rfl, rfl⟩) (fun _ _ => rfl)) (fun h3 => (ve_add (v_whole rfl) ve_int)) (fun h3 => (v_whole rfl)))))
      (fun h2 => (rp_set cx 6 rfl l_half_way (fun _ => rfl) (ve_shl ve_int (ve_sub (v_below rfl) ve_int) (side_rw2 hp1 h1))
      (rp_ifI (vt_w (vw_or (vt_gt (v_rest rfl) (v_half_way rfl)) (fun h4 => (vw_or1 (vt_w (vw_and (vt_eqI (v_rest rfl) (v_half_way rfl)) (fun h5 => (vw_and1 (vt_eqI (ve_and (v_whole rfl) ve_int) ve_int))))))))) (fun h6 => (rp_ret (ve_add (v_whole rfl) ve_int)))
      (fun h6 => (rp_ret (v_whole rfl)))))))))))
    exact key _ q

def den_nearby_whole : List V → Hp → Int × Int → Prop := fun vs _ r => ∃ (way : Int) (a : Int), vs = [.int way, .int a] ∧ (0 ≤ a ∧ a < 65536) ∧ r = m_nearby_whole way a
abbrev s_nearby_whole : Stmt := top 21
theorem sc_nearby_whole : FnScope ["way", "a", "magnitude", "whole"] ["way", "a"] (defScope s_nearby_whole) := ⟨rfl, rfl, rfl, by decide +kernel, rfl, by decide +kernel, by decide +kernel⟩
theorem fn_nearby_whole {M : Mo} (T : Tx M.mg M.K) (D : Df M.K M.mg "nearby_whole" s_nearby_whole ["way", "a"]) (F_magnitude_units : Fn M 1 "magnitude_units" (spP den_magnitude_units)) (F_rounded_whole : Fn M 2 "rounded_whole" (spP den_rounded_whole)) (F_is_minus : Fn M 1 "is_minus" (spP den_is_minus)) : Fn M 3 "nearby_whole" (spR den_nearby_whole RT) := by
  refine D.fn sc_nearby_whole (fun vs H Q E h => ?_) (fun X H vs Q E cx h => ?_)
  · obtain ⟨v, ⟨way, a, rfl, _⟩, _⟩ := h
    rfl
  · obtain ⟨v, ⟨way, a, rfl, hp0, rfl⟩, q⟩ := h
    have v_way : ∀ {σ : L2.St} {H : Hp} {pos : Pos} {v : V}, σ[0]? = some (some v) → VE X σ H (.Name "way" pos) v := fun h => ve_var cx 0 rfl (by first | exact .inl rfl | exact .inr (.inl rfl)) rfl rfl h
    have v_a : ∀ {σ : L2.St} {H : Hp} {pos : Pos} {v : V}, σ[1]? = some (some v) → VE X σ H (.Name "a" pos) v := fun h => ve_var cx 1 rfl (by first | exact .inl rfl | exact .inr (.inl rfl)) rfl rfl h
    have v_magnitude : ∀ {σ : L2.St} {H : Hp} {pos : Pos} {v : V}, σ[2]? = some (some v) → VE X σ H (.Name "magnitude" pos) v := fun h => ve_var cx 2 rfl (by first | exact .inl rfl | exact .inr (.inl rfl)) rfl rfl h
    have v_whole : ∀ {σ : L2.St} {H : Hp} {pos : Pos} {v : V}, σ[3]? = some (some v) → VE X σ H (.Name "whole" pos) v := fun h => ve_var cx 3 rfl (by first | exact .inl rfl | exact .inr (.inl rfl)) rfl rfl h
    have l_magnitude : (defScope s_nearby_whole).names.lookup ("magnitude" : Str) = some .local := rfl
    have l_whole : (defScope s_nearby_whole).names.lookup ("whole" : Str) = some .local := rfl
    have g_UNIT_SHIFT : ∀ {σ : L2.St} {H : Hp} {pos : Pos}, VE X σ H (.Name "UNIT_SHIFT" pos) (.int (24)) := ve_glob cx rfl rfl T.c_UNIT_SHIFT
    have g_INEXACT : ∀ {σ : L2.St} {H : Hp} {pos : Pos}, VE X σ H (.Name "INEXACT" pos) (.int (16)) := ve_glob cx rfl rfl T.c_INEXACT
    have k_magnitude_units : (defScope s_nearby_whole).names.lookup ("magnitude_units" : Str) = some .globalImplicit := rfl
    have k_rounded_whole : (defScope s_nearby_whole).names.lookup ("rounded_whole" : Str) = some .globalImplicit := rfl
    have k_is_minus : (defScope s_nearby_whole).names.lookup ("is_minus" : Str) = some .globalImplicit := rfl
    show WSs X (defBody s_nearby_whole) _ [some (V.int way), some (V.int a), none, none] H
    have key : Rt X [some (V.int way), some (V.int a), none, none] H (defBody s_nearby_whole) RT (m_nearby_whole way a) :=
      (rt_set cx 2 rfl l_magnitude (fun _ => rfl) (ve_call cx F_magnitude_units (by decide) k_magnitude_units rfl rfl (va_cons rfl (v_a rfl) va_nil) ⟨_, rfl, hp0, rfl⟩)
      (rt_set cx 3 rfl l_whole (fun _ => rfl) (ve_call cx F_rounded_whole (by decide) k_rounded_whole rfl rfl (va_cons rfl (v_way rfl) (va_cons rfl (ve_call cx F_is_minus (by decide) k_is_minus rfl rfl (va_cons rfl (v_a rfl) va_nil) ⟨_, rfl, rfl⟩) (va_cons rfl (v_magnitude rfl) (va_cons rfl g_UNIT_SHIFT va_nil)))) ⟨_, _, _, _, rfl, (side_w1 hp0), (by decide), rfl⟩)
      (rt_ret (er_tup rfl rfl (ve_ifI (vt_eqI (ve_shl (v_whole rfl) g_UNIT_SHIFT (side_w2 hp0)) (v_magnitude rfl)) (fun h1 => ve_int) (fun h1 => g_INEXACT)) (v_whole rfl)))))
    exact key _ q

def den_out_of_range : List V → Hp → Int × Int → Prop := fun vs _ r => ∃ (kind : Int), vs = [.int kind] ∧ r = m_out_of_range kind
abbrev s_out_of_range : Stmt := top 28
theorem sc_out_of_range : FnScope ["kind"] ["kind"] (defScope s_out_of_range) := ⟨rfl, rfl, rfl, by decide +kernel, rfl, by decide +kernel, by decide +kernel⟩
theorem fn_out_of_range {M : Mo} (T : Tx M.mg M.K) (D : Df M.K M.mg "out_of_range" s_out_of_range ["kind"])  : Fn M 1 "out_of_range" (spR den_out_of_range RT) := by
  refine D.fn sc_out_of_range (fun vs H Q E h => ?_) (fun X H vs Q E cx h => ?_)
  · obtain ⟨v, ⟨kind, rfl, _⟩, _⟩ := h
    rfl
  · obtain ⟨v, ⟨kind, rfl, rfl⟩, q⟩ := h
    have v_kind : ∀ {σ : L2.St} {H : Hp} {pos : Pos} {v : V}, σ[0]? = some (some v) → VE X σ H (.Name "kind" pos) v := fun h => ve_var cx 0 rfl (by first | exact .inl rfl | exact .inr (.inl rfl)) rfl rfl h
    have g_INVALID : ∀ {σ : L2.St} {H : Hp} {pos : Pos}, VE X σ H (.Name "INVALID" pos) (.int (1)) := ve_glob cx rfl rfl T.c_INVALID
    have g_SIGNED : ∀ {σ : L2.St} {H : Hp} {pos : Pos}, VE X σ H (.Name "SIGNED" pos) (.int (0)) := ve_glob cx rfl rfl T.c_SIGNED
    have g_NO_SIGNED : ∀ {σ : L2.St} {H : Hp} {pos : Pos}, VE X σ H (.Name "NO_SIGNED" pos) (.int (32768)) := ve_glob cx rfl rfl T.c_NO_SIGNED
    have g_NO_UNSIGNED : ∀ {σ : L2.St} {H : Hp} {pos : Pos}, VE X σ H (.Name "NO_UNSIGNED" pos) (.int (65535)) := ve_glob cx rfl rfl T.c_NO_UNSIGNED
    show WSs X (defBody s_out_of_range) _ [some (V.int kind)] H
    have key : Rt X [some (V.int kind)] H (defBody s_out_of_range) RT (m_out_of_range kind) :=
      (rt_ret (er_tup rfl rfl g_INVALID (ve_ifI (vt_eqI (v_kind rfl) g_SIGNED) (fun h1 => g_NO_SIGNED) (fun h1 => g_NO_UNSIGNED))))
    exact key _ q

def den_as_whole : List V → Hp → Int × Int → Prop := fun vs _ r => ∃ (kind : Int) (way : Int) (a : Int), vs = [.int kind, .int way, .int a] ∧ (0 ≤ a ∧ a < 65536) ∧ r = m_as_whole kind way a
abbrev s_as_whole : Stmt := top 29
theorem sc_as_whole : FnScope ["kind", "way", "a", "found", "number", "least"] ["kind", "way", "a"] (defScope s_as_whole) := ⟨rfl, rfl, rfl, by decide +kernel, rfl, by decide +kernel, by decide +kernel⟩
theorem fn_as_whole {M : Mo} (T : Tx M.mg M.K) (D : Df M.K M.mg "as_whole" s_as_whole ["kind", "way", "a"]) (F_nearby_whole : Fn M 3 "nearby_whole" (spR den_nearby_whole RT)) (F_is_no_number : Fn M 1 "is_no_number" (spP den_is_no_number)) (F_is_infinite : Fn M 1 "is_infinite" (spP den_is_infinite)) (F_out_of_range : Fn M 1 "out_of_range" (spR den_out_of_range RT)) (F_is_minus : Fn M 1 "is_minus" (spP den_is_minus)) : Fn M 4 "as_whole" (spR den_as_whole RT) := by
  refine D.fn sc_as_whole (fun vs H Q E h => ?_) (fun X H vs Q E cx h => ?_)
  · obtain ⟨v, ⟨kind, way, a, rfl, _⟩, _⟩ := h
    rfl
  · obtain ⟨v, ⟨kind, way, a, rfl, hp0, rfl⟩, q⟩ := h
    have v_kind : ∀ {σ : L2.St} {H : Hp} {pos : Pos} {v : V}, σ[0]? = some (some v) → VE X σ H (.Name "kind" pos) v := fun h => ve_var cx 0 rfl (by first | exact .inl rfl | exact .inr (.inl rfl)) rfl rfl h
    have v_way : ∀ {σ : L2.St} {H : Hp} {pos : Pos} {v : V}, σ[1]? = some (some v) → VE X σ H (.Name "way" pos) v := fun h => ve_var cx 1 rfl (by first | exact .inl rfl | exact .inr (.inl rfl)) rfl rfl h
    have v_a : ∀ {σ : L2.St} {H : Hp} {pos : Pos} {v : V}, σ[2]? = some (some v) → VE X σ H (.Name "a" pos) v := fun h => ve_var cx 2 rfl (by first | exact .inl rfl | exact .inr (.inl rfl)) rfl rfl h
    have v_found : ∀ {σ : L2.St} {H : Hp} {pos : Pos} {v : V}, σ[3]? = some (some v) → VE X σ H (.Name "found" pos) v := fun h => ve_var cx 3 rfl (by first | exact .inl rfl | exact .inr (.inl rfl)) rfl rfl h
    have v_number : ∀ {σ : L2.St} {H : Hp} {pos : Pos} {v : V}, σ[4]? = some (some v) → VE X σ H (.Name "number" pos) v := fun h => ve_var cx 4 rfl (by first | exact .inl rfl | exact .inr (.inl rfl)) rfl rfl h
    have v_least : ∀ {σ : L2.St} {H : Hp} {pos : Pos} {v : V}, σ[5]? = some (some v) → VE X σ H (.Name "least" pos) v := fun h => ve_var cx 5 rfl (by first | exact .inl rfl | exact .inr (.inl rfl)) rfl rfl h
    have l_found : (defScope s_as_whole).names.lookup ("found" : Str) = some .local := rfl
    have l_number : (defScope s_as_whole).names.lookup ("number" : Str) = some .local := rfl
    have l_least : (defScope s_as_whole).names.lookup ("least" : Str) = some .local := rfl
    have g_SIGNED : ∀ {σ : L2.St} {H : Hp} {pos : Pos}, VE X σ H (.Name "SIGNED" pos) (.int (0)) := ve_glob cx rfl rfl T.c_SIGNED
    have g_BEYOND_SIXTEEN_BITS : ∀ {σ : L2.St} {H : Hp} {pos : Pos}, VE X σ H (.Name "BEYOND_SIXTEEN_BITS" pos) (.int (65536)) := ve_glob cx rfl rfl T.c_BEYOND_SIXTEEN_BITS
    have g_LEAST_SIGNED : ∀ {σ : L2.St} {H : Hp} {pos : Pos}, VE X σ H (.Name "LEAST_SIGNED" pos) (.int (-32768)) := ve_glob cx rfl rfl T.c_LEAST_SIGNED
    have k_nearby_whole : (defScope s_as_whole).names.lookup ("nearby_whole" : Str) = some .globalImplicit := rfl
    have k_is_no_number : (defScope s_as_whole).names.lookup ("is_no_number" : Str) = some .globalImplicit := rfl
    have k_is_infinite : (defScope s_as_whole).names.lookup ("is_infinite" : Str) = some .globalImplicit := rfl
    have k_out_of_range : (defScope s_as_whole).names.lookup ("out_of_range" : Str) = some .globalImplicit := rfl
    have k_is_minus : (defScope s_as_whole).names.lookup ("is_minus" : Str) = some .globalImplicit := rfl
    show WSs X (defBody s_as_whole) _ [some (V.int kind), some (V.int way), some (V.int a), none, none, none] H
    have key : Rt X [some (V.int kind), some (V.int way), some (V.int a), none, none, none] H (defBody s_as_whole) RT (m_as_whole kind way a) :=
      (rt_if (vt_w (vw_or (vt_val (ve_call cx F_is_no_number (by decide) k_is_no_number rfl rfl (va_cons rfl (v_a rfl) va_nil) ⟨_, rfl, rfl⟩) (fun _ _ => rfl)) (fun h1 => (vw_or1 (vt_val (ve_call cx F_is_infinite (by decide) k_is_infinite rfl rfl (va_cons rfl (v_a rfl) va_nil) ⟨_, rfl, rfl⟩) (fun _ _ => rfl)))))) (fun h2 => (rt_ret (er_call cx F_out_of_range (by decide) k_out_of_range rfl rfl (va_cons rfl (v_kind rfl) va_nil) ⟨_, rfl, rfl⟩)))
      (fun h2 => (rt_setR cx 3 rfl l_found (fun _ => rfl) (er_call cx F_nearby_whole (by decide) k_nearby_whole rfl rfl (va_cons rfl (v_way rfl) (va_cons rfl (v_a rfl) va_nil)) ⟨_, _, rfl, hp0, rfl⟩) (fun u4 H5 s6 q3 => (rt_set cx 4 rfl l_number (fun _ => rfl) (ve_ifI (vt_val (ve_call cx F_is_minus (by decide) k_is_minus rfl rfl (va_cons rfl (v_a rfl) va_nil) ⟨_, rfl, rfl⟩) (fun _ _ => rfl)) (fun h7 => (ve_neg (ve_snd (v_found rfl) q3 (fun _ _ => rfl)))) (fun h7 => (ve_snd (v_found rfl) q3 (fun _ _ => rfl))))
      (rt_set cx 5 rfl l_least (fun _ => rfl) (ve_ifI (vt_eqI (v_kind rfl) g_SIGNED) (fun h8 => g_LEAST_SIGNED) (fun h8 => ve_int))
      (rt_if (vt_w (vw_or (vt_lt (v_number rfl) (v_least rfl)) (fun h9 => (vw_or1 (vt_ge (v_number rfl) (ve_add (v_least rfl) g_BEYOND_SIXTEEN_BITS)))))) (fun h10 => (rt_ret (er_call cx F_out_of_range (by decide) k_out_of_range rfl rfl (va_cons rfl (v_kind rfl) va_nil) ⟨_, rfl, rfl⟩)))
      (fun h10 => (rt_ret (er_tup rfl rfl (ve_fst (v_found rfl) q3 (fun _ _ => rfl)) (ve_ifI (vt_lt (v_number rfl) ve_int) (fun h11 => (ve_add (v_number rfl) g_BEYOND_SIXTEEN_BITS)) (fun h11 => (v_number rfl)))))))))))))
    exact key _ q

def den_refused : List V → Hp → List Int → Prop := fun vs _ r => ∃ (count : Int), vs = [.int count] ∧ 0 ≤ count ∧ count ≤ 900 ∧ r = m_refused count
abbrev s_refused : Stmt := top 34
theorem sc_refused : FnScope ["count"] ["count"] (defScope s_refused) := ⟨rfl, rfl, rfl, by decide +kernel, rfl, by decide +kernel, by decide +kernel⟩
theorem rep_ints (n : Nat) : (List.replicate n (([0] : List Int).map V.int)).flatten = (List.replicate n (0 : Int)).map V.int := by
  induction n with
  | zero => rfl
  | succ n ih =>
    rw [List.replicate_succ, List.flatten_cons, ih]
    rfl
theorem fn_refused {M : Mo} (T : Tx M.mg M.K) (D : Df M.K M.mg "refused" s_refused ["count"])  : Fn M 1 "refused" (spR den_refused RL) := by
  refine D.fn sc_refused (fun vs H Q E h => ?_) (fun X H vs Q E cx h => ?_)
  · obtain ⟨v, ⟨count, rfl, _⟩, _⟩ := h
    rfl
  · obtain ⟨v, ⟨count, rfl, h0, h1, rfl⟩, q⟩ := h
    have v_count : ∀ {σ : L2.St} {H : Hp} {pos : Pos} {v : V}, σ[0]? = some (some v) → VE X σ H (.Name "count" pos) v := fun h => ve_var cx 0 rfl (by first | exact .inl rfl | exact .inr (.inl rfl)) rfl rfl h
    have g_REFUSED : ∀ {σ : L2.St} {H : Hp} {pos : Pos}, VE X σ H (.Name "REFUSED" pos) (.int (2147483648)) := ve_glob cx rfl rfl T.c_REFUSED
    show WSs X (defBody s_refused) _ [some (V.int count)] H
    have hz : (900 : Nat) < sizeLine := small1000 (by decide)
    refine rt_ret (R := RL) (u := m_refused count) (fun Q z => ⟨_, pe_op op_cat WE.pe WE.pe, er_lst (l := [2147483648]) (va_cons rfl g_REFUSED va_nil) (by decide) _ fun v1 H1 s1 q1 => ?_⟩) _ q
    obtain ⟨t1, rfl, e1⟩ := q1
    refine ⟨_, pe_op op_rep WE.pe WE.pe, er_lst (l := [0]) (va_cons rfl ve_int va_nil) (by decide) _ fun v2 H2 s2 q2 => ?_⟩
    obtain ⟨t2, rfl, e2⟩ := q2
    refine v_count rfl _ ⟨t2, count, _, rfl, rfl, e2, by omega, by omega, ?_, fun p hp => ?_⟩
    · show 1 * count.toNat ≤ sizeLine
      omega
    · refine ⟨t1, p, _, _, rfl, rfl, same_new hp _ _ (s2 _ _ e1), upd_same, ?_, fun p' hp' => z _ _ ((s1.trans s2).trans ((same_new hp).trans (same_new hp'))) ⟨p', rfl, ?_⟩⟩
      · rw [rep_ints, List.length_map, List.length_map, List.length_replicate]
        show 1 + count.toNat ≤ sizeLine
        omega
      · rw [upd_same, rep_ints]
        rfl

def den_together : List V → Hp → List Int → Prop := fun vs H r => ∃ (t : Addr) (ws : List V) (l : List (Int × Int)), vs = [.ref t] ∧ H t = some (.lst ws) ∧ ws.length = l.length ∧ (∀ (i : Nat) (y : V), ws[i]? = some y → RT (l.getD i (0, 0)) y H) ∧ l.length ≤ 100 ∧ r = m_together l
abbrev s_together : Stmt := top 35
theorem sc_together : FnScope ["answers", "raised", "row", "lane_raised", "told"] ["answers"] (defScope s_together) := ⟨rfl, rfl, rfl, by decide +kernel, rfl, by decide +kernel, by decide +kernel⟩
theorem raised_snoc (x : Int × Int) : ∀ (l : List (Int × Int)) (r : Int), m_together_raised (l ++ [x]) r = Builtin.bitOr (m_together_raised l r) x.1
  | [], _ => rfl
  | y :: l, r => raised_snoc x l (Builtin.bitOr r y.1)
theorem take_one {α : Type} {l : List α} {i : Nat} (d : α) (h : i < l.length) : l.take (i + 1) = l.take i ++ [l.getD i d] := by
  rw [List.take_succ, List.getD_eq_getElem?_getD, List.getElem?_eq_getElem h]
  rfl
theorem fn_together {M : Mo} (T : Tx M.mg M.K) (D : Df M.K M.mg "together" s_together ["answers"])  : Fn M 1 "together" (spR den_together RL) := by
  refine D.fn sc_together (fun vs H Q E h => ?_) (fun X H vs Q E cx h => ?_)
  · obtain ⟨v, ⟨t, ws, l, rfl, _⟩, _⟩ := h
    rfl
  · obtain ⟨v, ⟨t, ws, l, rfl, ht, hlen, hall, hl, rfl⟩, q⟩ := h
    have v_answers : ∀ {σ : L2.St} {H : Hp} {pos : Pos} {v : V}, σ[0]? = some (some v) → VE X σ H (.Name "answers" pos) v := fun h => ve_var cx 0 rfl (by first | exact .inl rfl | exact .inr (.inl rfl)) rfl rfl h
    have v_raised : ∀ {σ : L2.St} {H : Hp} {pos : Pos} {v : V}, σ[1]? = some (some v) → VE X σ H (.Name "raised" pos) v := fun h => ve_var cx 1 rfl (by first | exact .inl rfl | exact .inr (.inl rfl)) rfl rfl h
    have v_row : ∀ {σ : L2.St} {H : Hp} {pos : Pos} {v : V}, σ[2]? = some (some v) → VE X σ H (.Name "row" pos) v := fun h => ve_var cx 2 rfl (by first | exact .inl rfl | exact .inr (.inl rfl)) rfl rfl h
    have v_lane_raised : ∀ {σ : L2.St} {H : Hp} {pos : Pos} {v : V}, σ[3]? = some (some v) → VE X σ H (.Name "lane_raised" pos) v := fun h => ve_var cx 3 rfl (by first | exact .inl rfl | exact .inr (.inl rfl)) rfl rfl h
    have v_told : ∀ {σ : L2.St} {H : Hp} {pos : Pos} {v : V}, σ[4]? = some (some v) → VE X σ H (.Name "told" pos) v := fun h => ve_var cx 4 rfl (by first | exact .inl rfl | exact .inr (.inl rfl)) rfl rfl h
    have l_raised : (defScope s_together).names.lookup ("raised" : Str) = some .local := rfl
    have l_row : (defScope s_together).names.lookup ("row" : Str) = some .local := rfl
    have l_lane_raised : (defScope s_together).names.lookup ("lane_raised" : Str) = some .local := rfl
    have l_told : (defScope s_together).names.lookup ("told" : Str) = some .local := rfl
    have nd : X.N.Nodup := by rw [cx.N]; exact cx.nd
    have hz : (1000 : Nat) < sizeLine := small1000 (Nat.le_refl _)
    show WSs X (defBody s_together) _ [some (V.ref t), none, none, none, none] H
    have key : Rt X [some (V.ref t), none, none, none, none] H (defBody s_together) RL (m_together l) := by
      refine rt_set cx 1 rfl l_raised (fun _ => rfl) ve_int fun D z => ?_
      refine ⟨_, pss_cons WS.ps WSs.pss, ws_set cx 2 rfl l_row (fun _ => rfl) ⟨_, pe_lst WA.pa, va_nil _ ⟨Nat.zero_le _, fun g hg => ?_⟩⟩⟩
      refine ⟨_, pss_cons (ps_for cx.own cx.calm (pi_list WE.pe) (pg_tup cx.calm (pgs_cons (pg_name (i := 3) nd (by rw [cx.N]; rfl) (by rw [cx.sc]; exact .inl l_lane_raised) (.inr (by rw [cx.sc]; exact l_lane_raised))) (pgs_cons (pg_name (i := 4) nd (by rw [cx.N]; rfl) (by rw [cx.sc]; exact .inl l_told) (.inr (by rw [cx.sc]; exact l_told))) pgs_nil))) WSs.pss (fun _ => rfl)) WSs.pss, ?_⟩
      refine v_answers rfl _ ⟨t, rfl, ⟨ws, SqL.of (same_new hg _ _ ht)⟩, for_list (xs := ws) (fun i τ H' => ∃ u w, τ = [some (V.ref t), some (V.int (m_together_raised (l.take i) 0)), some (V.ref g), u, w] ∧ H' g = some (.lst ((l.take i).map fun x => V.int x.2)) ∧ Same H H') ⟨none, none, rfl, upd_same, same_new hg⟩ (fun i τ H' _ h => ?_) (fun i y τ H' hi h => ?_) (fun τ H' h => ?_)⟩
      · obtain ⟨_, _, _, _, s⟩ := h
        exact SqL.of (s _ _ ht)
      · obtain ⟨u, w, rfl, hg', s⟩ := h
        have hil : i < l.length := by have := (List.getElem?_eq_some_iff.mp hi).1; omega
        obtain ⟨tt, rfl, htt⟩ := hall i y hi
        refine ⟨tt, _, rfl, SqT.of (s _ _ htt), rfl, _, _, rfl, _, _, rfl, rfl, ?_⟩
        refine ⟨_, pss_cons WS.ps (pss_one WS.ps), ws_set cx 1 rfl l_raised (fun _ => rfl) (ve_or (v_raised rfl) (v_lane_raised rfl) _ ?_)⟩
        refine ⟨_, ps_expr (pe_bm PySem.F.plainAttrs_list PySem.F.slot_list_append PySem.F.type_list_append mt_append WE.pe WA.pa), ?_⟩
        refine v_row (v := V.ref g) rfl _ ⟨Or.inl ⟨rfl, _, SqL.of hg'⟩, va_cons rfl (v_told rfl) va_nil _ ⟨g, _, _, rfl, rfl, hg', ?_, ?_⟩⟩
        · rw [List.length_map, List.length_take]
          omega
        · refine ⟨some (V.int (l.getD i (0, 0)).1), some (V.int (l.getD i (0, 0)).2), ?_, ?_, fun b o e => ?_⟩
          · rw [take_one (0, 0) hil, raised_snoc]
            rfl
          · rw [upd_same, take_one (0, 0) hil, List.map_append]
            rfl
          · rw [upd_ne (ne_of_none e hg)]
            exact s _ _ e
      · obtain ⟨u, w, rfl, hg', s⟩ := h
        rw [hlen, List.take_length] at hg'
        rw [hlen, List.take_length]
        refine ⟨_, pss_one (ps_ret WE.pe), ⟨_, pe_op op_cat WE.pe WE.pe, er_lst (l := [m_together_raised l 0]) (va_cons rfl (v_raised rfl) va_nil) (by show 1 ≤ 1000; decide) _ fun v2 H2 s2 q2 => ?_⟩⟩
        obtain ⟨t2, rfl, h2⟩ := q2
        refine v_row rfl _ ⟨t2, g, _, _, rfl, rfl, h2, s2 _ _ hg', ?_, fun p hp => z _ _ (s.trans (s2.trans (same_new hp))) ⟨p, rfl, ?_⟩⟩
        · rw [List.length_map, List.length_map]
          show 1 + l.length ≤ sizeLine
          omega
        · rw [upd_same]
          simp [m_together, Function.comp_def]
    exact key _ q

def den_whole (K : PySem.W.Frag) : List V → Hp → List Int → Prop := fun vs H r => ∃ (kind : Int) (way : Int) (la : Addr) (l : List Int), vs = [.int kind, .int way, .ref la] ∧ SqL K H la (l.map V.int) ∧ l.length = 32 ∧ (∀ x ∈ l, 0 ≤ x ∧ x ≤ 65535) ∧ 0 ≤ way ∧ r = m_whole kind way l
def sp_whole (K : PySem.W.Frag) : Sp := spR (den_whole K) RL
abbrev s_whole : Stmt := top 36
theorem sc_whole : FnScope ["kind", "way", "a", "half"] ["kind", "way", "a"] (defScope s_whole) := ⟨rfl, rfl, rfl, by decide +kernel, rfl, by decide +kernel, by decide +kernel⟩
theorem fn_whole {M : Mo} (T : Tx M.mg M.K) {f : Addr} {fd : FuncData} (F : Fun M.K "whole" "whole" s_whole f fd) (F_together : Fn M 1 "together" (spR den_together RL)) (F_refused : Fn M 1 "refused" (spR den_refused RL)) (F_as_whole : Fn M 4 "as_whole" (spR den_as_whole RT)) : FnOk M.P M.w M.K M.mg M.base CX0 5 f fd ["kind", "way", "a"] (sp_whole M.K) := by
  refine fun_ok F sc_whole (fun vs H Q E h => ?_) (fun X H vs Q E cx h => ?_)
  · obtain ⟨r, ⟨kind, way, la, l, rfl, _⟩, _⟩ := h
    rfl
  · obtain ⟨r, ⟨kind, way, la, l, rfl, hA, nA, rA, hw0, rfl⟩, q⟩ := h
    have v_kind : ∀ {σ : L2.St} {H : Hp} {pos : Pos} {v : V}, σ[0]? = some (some v) → VE X σ H (.Name "kind" pos) v := fun h => ve_var cx 0 rfl (by first | exact .inl rfl | exact .inr (.inl rfl)) rfl rfl h
    have v_way : ∀ {σ : L2.St} {H : Hp} {pos : Pos} {v : V}, σ[1]? = some (some v) → VE X σ H (.Name "way" pos) v := fun h => ve_var cx 1 rfl (by first | exact .inl rfl | exact .inr (.inl rfl)) rfl rfl h
    have v_a : ∀ {σ : L2.St} {H : Hp} {pos : Pos} {v : V}, σ[2]? = some (some v) → VE X σ H (.Name "a" pos) v := fun h => ve_var cx 2 rfl (by first | exact .inl rfl | exact .inr (.inl rfl)) rfl rfl h
    have g_LANES : ∀ {σ : L2.St} {H : Hp} {pos : Pos}, VE X σ H (.Name "LANES" pos) (.int (32)) := ve_glob cx rfl rfl T.c_LANES
    have g_LAST_WAY : ∀ {σ : L2.St} {H : Hp} {pos : Pos}, VE X σ H (.Name "LAST_WAY" pos) (.int (3)) := ve_glob cx rfl rfl T.c_LAST_WAY
    have g_LAST_KIND : ∀ {σ : L2.St} {H : Hp} {pos : Pos}, VE X σ H (.Name "LAST_KIND" pos) (.int (1)) := ve_glob cx rfl rfl T.c_LAST_KIND
    have k_together : (defScope s_whole).names.lookup ("together" : Str) = some .globalImplicit := rfl
    have k_refused : (defScope s_whole).names.lookup ("refused" : Str) = some .globalImplicit := rfl
    have hAX : SqL X.K H la (l.map V.int) := by rw [cx.K]; exact hA
    show WSs X (defBody s_whole) _ [some (V.int kind), some (V.int way), some (V.ref la), none] H
    have key : Rt X [some (V.int kind), some (V.int way), some (V.ref la), none] H (defBody s_whole) RL (m_whole kind way l) := by
      refine rt_if (vt_w (vw_or (vt_gt (v_kind rfl) g_LAST_KIND) (fun _ => vw_or1 (vt_gt (v_way rfl) g_LAST_WAY)))) (fun _ => rt_ret (er_call cx F_refused (by decide) k_refused rfl rfl (va_cons rfl g_LANES va_nil) ⟨_, rfl, by decide, by decide, rfl⟩)) (fun hno => ?_)
      refine rt_ret (er_callA cx F_together (by decide) k_together rfl rfl (ar_cons rfl (er_lcList (R := RT) (l := l) (U := fun j => m_as_whole kind way (l.getD j 0)) cx 3 (by refine ⟨rfl, ?_, ?_, ?_, ?_⟩ <;> decide +kernel) rfl rfl (v_a rfl) (fun _ _ => rfl) hAX (small1000 (by omega)) hS_RT hU_RT (fun X' i H' cx' hK s hi => ?_)) fun _ _ => ar_nil) fun vs H' s h => ?_)
      · have vx : ∀ {pos : Pos}, VE X' (([some (V.int kind), some (V.int way), some (V.ref la), none].set 3 none).set 3 (some (V.int (l.getD i 0)))) H' (.Name "half" pos) (.int (l.getD i 0)) := ve_var cx' 3 rfl (.inl rfl) rfl rfl rfl
        exact er_call cx' F_as_whole (by decide) rfl rfl rfl (va_cons rfl (ve_var cx' 0 rfl (.inr (.inl rfl)) rfl rfl rfl) (va_cons rfl (ve_var cx' 1 rfl (.inr (.inl rfl)) rfl rfl rfl) (va_cons rfl vx va_nil))) ⟨_, _, _, rfl, getD_b rA i, rfl⟩
      · obtain ⟨v, r, H1, rfl, s1, hv, rfl⟩ := h
        rw [nA] at hv
        obtain ⟨t, ws, rfl, ht, hlen, hall⟩ := lv_tuples s1 hv
        exact ⟨t, ws, _, rfl, ht, hlen, hall, by rw [List.length_map, List.length_range]; decide, rfl⟩
    exact key _ q

theorem main_mk {P : Program} {w : World} {K : PySem.W.Frag} {h : Heap} {mg : Str → Option Value} {fa f : Addr} {od an : Option Addr} {sl : Array (Option Value)} {oc kV dc pm cd ct : Value} (X : K.In h) (G : h.Ns mainGlobals mg) (hfa : mg "whole" = some (.ref fa)) (T : Tx mg K) (D_is_minus : Df K mg "is_minus" s_is_minus ["half"]) (D_is_infinite : Df K mg "is_infinite" s_is_infinite ["half"]) (D_is_no_number : Df K mg "is_no_number" s_is_no_number ["half"]) (D_magnitude_units : Df K mg "magnitude_units" s_magnitude_units ["half"]) (D_goes_outward : Df K mg "goes_outward" s_goes_outward ["way", "minus"]) (D_rounded_whole : Df K mg "rounded_whole" s_rounded_whole ["way", "minus", "exact", "below"]) (D_nearby_whole : Df K mg "nearby_whole" s_nearby_whole ["way", "a"]) (D_out_of_range : Df K mg "out_of_range" s_out_of_range ["kind"]) (D_as_whole : Df K mg "as_whole" s_as_whole ["kind", "way", "a"]) (D_refused : Df K mg "refused" s_refused ["count"]) (D_together : Df K mg "together" s_together ["answers"])
    (a : PySem.W.nsIn K mainGlobals "whole" = some (some (.ref f))) (l : K.lookup f = some ⟨oc, od, .func (PySem.W.fnOf "whole" "whole" (defArgs s_whole) (defBody s_whole) (defScope s_whole) .none kV dc pm an cd ct), sl⟩) (c : PySem.W.codeIn K cd "whole" = true) (k : PySem.W.keepIn K (.ref f) = true) :
    ∃ fd : FuncData, (∀ (s : Shared) (us : List Value), us.length = (["kind", "way", "a"] : List Str).length → BindsTo s fd ⟨us, []⟩ ((["kind", "way", "a"] : List Str).zip us)) ∧ ∀ base : Heap, K.In base → base.Ns mainGlobals mg → FnOk P w K mg base CX0 5 fa fd ["kind", "way", "a"] (sp_whole K) := by
  have e := hfa.symm.trans (PySem.W.mg_of X G a)
  cases e
  refine ⟨PySem.W.fnOf "whole" "whole" (defArgs s_whole) (defBody s_whole) (defScope s_whole) .none kV dc pm an cd ct, fun s us hu => match us, hu with | [_, _, _], _ => .of_eq rfl, fun base _ _ => ?_⟩
  let M : Mo := ⟨P, w, K, mg, base⟩
  have F_is_minus : Fn M 1 "is_minus" (spP den_is_minus) := fn_is_minus (M := M) T D_is_minus 
  have F_is_infinite : Fn M 1 "is_infinite" (spP den_is_infinite) := fn_is_infinite (M := M) T D_is_infinite 
  have F_is_no_number : Fn M 1 "is_no_number" (spP den_is_no_number) := fn_is_no_number (M := M) T D_is_no_number 
  have F_magnitude_units : Fn M 1 "magnitude_units" (spP den_magnitude_units) := fn_magnitude_units (M := M) T D_magnitude_units 
  have F_goes_outward : Fn M 1 "goes_outward" (spP den_goes_outward) := fn_goes_outward (M := M) T D_goes_outward 
  have F_rounded_whole : Fn M 2 "rounded_whole" (spP den_rounded_whole) := fn_rounded_whole (M := M) T D_rounded_whole F_goes_outward
  have F_nearby_whole : Fn M 3 "nearby_whole" (spR den_nearby_whole RT) := fn_nearby_whole (M := M) T D_nearby_whole F_magnitude_units F_rounded_whole F_is_minus
  have F_out_of_range : Fn M 1 "out_of_range" (spR den_out_of_range RT) := fn_out_of_range (M := M) T D_out_of_range 
  have F_as_whole : Fn M 4 "as_whole" (spR den_as_whole RT) := fn_as_whole (M := M) T D_as_whole F_nearby_whole F_is_no_number F_is_infinite F_out_of_range F_is_minus
  have F_refused : Fn M 1 "refused" (spR den_refused RL) := fn_refused (M := M) T D_refused 
  have F_together : Fn M 1 "together" (spR den_together RL) := fn_together (M := M) T D_together 
  exact fn_whole (M := M) T (fun_mk (st := s_whole) l c k) F_together F_refused F_as_whole
end Hd

open PySem PySem.W PyProof.Rows
set_option maxRecDepth 100000 in
set_option maxHeartbeats 0 in
theorem PySem.Challenge.cw_halfrowsdesk_s06_whole_holds : PySem.Challenge.rw_halfrowsdesk_s06_whole.Holds := by
  w_on; k_headS; (case hw => exact ⟨[.int 0, .int 0, .list [.int 0, .int 0, .int 0, .int 0, .int 0, .int 0, .int 0, .int 0, .int 0, .int 0, .int 0, .int 0, .int 0, .int 0, .int 0, .int 0, .int 0, .int 0, .int 0, .int 0, .int 0, .int 0, .int 0, .int 0, .int 0, .int 0, .int 0, .int 0, .int 0, .int 0, .int 0, .int 0]], by decide +kernel, by decide +kernel⟩)
  k_fillS
  refine L2.walk_specK (r := PySem.Challenge.rw_halfrowsdesk_s06_whole) (k := 5) (CX := L2.CX0) (ps := ["kind", "way", "a"]) (sp := Hd.sp_whole) (by decide +kernel) rfl rfl ⟨rfl, by decide, by decide⟩ (fun w h Y => PySem.W.kIn_of Y) ?F ?S (fun _ _ _ _ z => z)
  case F =>
    intro w mg fa h Y KX G hmg
    have D_is_minus : Hw.Df (L2.KOf KX) mg "is_minus" Hd.s_is_minus ["half"] := by
      dsimp only [L2.KOf]
      refine' Hw.df_mk KX G ?a ?l ?c ?k (fun _ _ _ _ _ _ us hl => match us, hl with | [_], _ => rfl)
      (case a => k_is); (case l => k_is); (case c => k_is); (case k => k_is)
    have D_is_infinite : Hw.Df (L2.KOf KX) mg "is_infinite" Hd.s_is_infinite ["half"] := by
      dsimp only [L2.KOf]
      refine' Hw.df_mk KX G ?a ?l ?c ?k (fun _ _ _ _ _ _ us hl => match us, hl with | [_], _ => rfl)
      (case a => k_is); (case l => k_is); (case c => k_is); (case k => k_is)
    have D_is_no_number : Hw.Df (L2.KOf KX) mg "is_no_number" Hd.s_is_no_number ["half"] := by
      dsimp only [L2.KOf]
      refine' Hw.df_mk KX G ?a ?l ?c ?k (fun _ _ _ _ _ _ us hl => match us, hl with | [_], _ => rfl)
      (case a => k_is); (case l => k_is); (case c => k_is); (case k => k_is)
    have D_magnitude_units : Hw.Df (L2.KOf KX) mg "magnitude_units" Hd.s_magnitude_units ["half"] := by
      dsimp only [L2.KOf]
      refine' Hw.df_mk KX G ?a ?l ?c ?k (fun _ _ _ _ _ _ us hl => match us, hl with | [_], _ => rfl)
      (case a => k_is); (case l => k_is); (case c => k_is); (case k => k_is)
    have D_goes_outward : Hw.Df (L2.KOf KX) mg "goes_outward" Hd.s_goes_outward ["way", "minus"] := by
      dsimp only [L2.KOf]
      refine' Hw.df_mk KX G ?a ?l ?c ?k (fun _ _ _ _ _ _ us hl => match us, hl with | [_, _], _ => rfl)
      (case a => k_is); (case l => k_is); (case c => k_is); (case k => k_is)
    have D_rounded_whole : Hw.Df (L2.KOf KX) mg "rounded_whole" Hd.s_rounded_whole ["way", "minus", "exact", "below"] := by
      dsimp only [L2.KOf]
      refine' Hw.df_mk KX G ?a ?l ?c ?k (fun _ _ _ _ _ _ us hl => match us, hl with | [_, _, _, _], _ => rfl)
      (case a => k_is); (case l => k_is); (case c => k_is); (case k => k_is)
    have D_nearby_whole : Hw.Df (L2.KOf KX) mg "nearby_whole" Hd.s_nearby_whole ["way", "a"] := by
      dsimp only [L2.KOf]
      refine' Hw.df_mk KX G ?a ?l ?c ?k (fun _ _ _ _ _ _ us hl => match us, hl with | [_, _], _ => rfl)
      (case a => k_is); (case l => k_is); (case c => k_is); (case k => k_is)
    have D_out_of_range : Hw.Df (L2.KOf KX) mg "out_of_range" Hd.s_out_of_range ["kind"] := by
      dsimp only [L2.KOf]
      refine' Hw.df_mk KX G ?a ?l ?c ?k (fun _ _ _ _ _ _ us hl => match us, hl with | [_], _ => rfl)
      (case a => k_is); (case l => k_is); (case c => k_is); (case k => k_is)
    have D_as_whole : Hw.Df (L2.KOf KX) mg "as_whole" Hd.s_as_whole ["kind", "way", "a"] := by
      dsimp only [L2.KOf]
      refine' Hw.df_mk KX G ?a ?l ?c ?k (fun _ _ _ _ _ _ us hl => match us, hl with | [_, _, _], _ => rfl)
      (case a => k_is); (case l => k_is); (case c => k_is); (case k => k_is)
    have D_refused : Hw.Df (L2.KOf KX) mg "refused" Hd.s_refused ["count"] := by
      dsimp only [L2.KOf]
      refine' Hw.df_mk KX G ?a ?l ?c ?k (fun _ _ _ _ _ _ us hl => match us, hl with | [_], _ => rfl)
      (case a => k_is); (case l => k_is); (case c => k_is); (case k => k_is)
    have D_together : Hw.Df (L2.KOf KX) mg "together" Hd.s_together ["answers"] := by
      dsimp only [L2.KOf]
      refine' Hw.df_mk KX G ?a ?l ?c ?k (fun _ _ _ _ _ _ us hl => match us, hl with | [_], _ => rfl)
      (case a => k_is); (case l => k_is); (case c => k_is); (case k => k_is)
    have T : Hd.Tx mg (L2.KOf KX) := by
      dsimp only [L2.KOf]
      refine' ⟨Hw.const_mk KX G ?c_SIGN, Hw.const_mk KX G ?c_MAGNITUDE, Hw.const_mk KX G ?c_FRACTION, Hw.const_mk KX G ?c_LEAST_NORMAL, Hw.const_mk KX G ?c_INFINITY, Hw.const_mk KX G ?c_UNIT_SHIFT, Hw.const_mk KX G ?c_INVALID, Hw.const_mk KX G ?c_INEXACT, Hw.const_mk KX G ?c_REFUSED, Hw.const_mk KX G ?c_NEAREST, Hw.const_mk KX G ?c_DOWN, Hw.const_mk KX G ?c_UP, Hw.const_mk KX G ?c_SIGNED, Hw.const_mk KX G ?c_BEYOND_SIXTEEN_BITS, Hw.const_mk KX G ?c_LEAST_SIGNED, Hw.const_mk KX G ?c_NO_SIGNED, Hw.const_mk KX G ?c_NO_UNSIGNED, Hw.const_mk KX G ?c_LANES, Hw.const_mk KX G ?c_LAST_WAY, Hw.const_mk KX G ?c_LAST_KIND⟩
      (case c_SIGN => k_is); (case c_MAGNITUDE => k_is); (case c_FRACTION => k_is); (case c_LEAST_NORMAL => k_is); (case c_INFINITY => k_is); (case c_UNIT_SHIFT => k_is); (case c_INVALID => k_is); (case c_INEXACT => k_is); (case c_REFUSED => k_is); (case c_NEAREST => k_is); (case c_DOWN => k_is); (case c_UP => k_is); (case c_SIGNED => k_is); (case c_BEYOND_SIXTEEN_BITS => k_is); (case c_LEAST_SIGNED => k_is); (case c_NO_SIGNED => k_is); (case c_NO_UNSIGNED => k_is); (case c_LANES => k_is); (case c_LAST_WAY => k_is); (case c_LAST_KIND => k_is)
    refine' Hd.main_mk KX G hmg T D_is_minus D_is_infinite D_is_no_number D_magnitude_units D_goes_outward D_rounded_whole D_nearby_whole D_out_of_range D_as_whole D_refused D_together ?a ?l ?c ?k
    (case a => k_is); (case l => k_is); (case c => k_is); (case k => k_is)
  case S =>
    intro K H xs a hO hwi hask hx
    obtain ⟨kind, way, l, u⟩ := a
    cases hx with
    | cons h0 t0 =>
      cases t0 with
      | cons h1 t1 =>
        cases t1 with
        | cons h2 t2 =>
          cases t2
          cases h0
          cases h1
          cases h2 with
          | lst hs2 ha2 =>
            have e2 := L2.ints_dw l _ ha2
            subst e2
            have q : (Codec.inInt 0 4294967295 kind && (Codec.inInt 0 4294967295 way && ((Codec.inLen 32 32 l && l.all (Codec.inInt 0 65535)) && true))) = true := hwi
            simp only [Bool.and_eq_true, List.all_eq_true] at q
            obtain ⟨q0, q1, ⟨q2, p2⟩, _⟩ := q
            have b0 := Codec.inInt_iff.mp q0
            have b1 := Codec.inInt_iff.mp q1
            have n2 := Codec.inNat_iff.mp q2
            have b2 := fun x hx => Codec.inInt_iff.mp (p2 x hx)
            refine ⟨Hd.m_whole kind way l, ⟨kind, way, _, l, rfl, hs2, by omega, b2, b1.1, rfl⟩, fun v H' s r => ?_⟩
            obtain ⟨t, rfl, ht⟩ := r
            rw [Hd.whole_call_eq kind way l b0.1 b1.1 b2] at ht
            exact .lst (L2.SqL.of ht) (L2.dw_ints _)
#print axioms PySem.Challenge.cw_halfrowsdesk_s06_whole_holds

