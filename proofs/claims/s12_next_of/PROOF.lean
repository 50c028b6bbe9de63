import PyProof.Rows.All
import Wide.All
import OpenK.AllK
import Wide.FinOn
import PyProof.EqAt
import PyProof.EqKinds
import PyProof.TupleCall
import KE.BitLaws
import KE.OsGo
import PySem.Challenge.RW_gaugeblocks_s12_next_of
-- CHANGE: your row's module here, as the last of these rows
set_option Elab.async false
set_option linter.all false
set_option maxRecDepth 100000

namespace L2
open PySem PySem.Spec PyProof.Rows

abbrev Key := Sum Int Str
def keyIs : Key → Value → Bool
  | .inl k, v => Value.isInt k v
  | .inr x, v => Value.isStrOf x v
def keyH (w : World) : Key → Int
  | .inl k => hashInt k
  | .inr x => hashStr w x
theorem keyIs_shape : ∀ {k : Key} {v : Value}, keyIs k v = true → (∃ i t, k = Sum.inl i ∧ v = Value.int i t) ∨ (∃ x t, k = Sum.inr x ∧ v = Value.str x t)
  | .inl i, v, h => by
    obtain ⟨t, e⟩ := Value.isInt_shape (k := i) (v := v) h
    exact .inl ⟨i, t, rfl, e⟩
  | .inr x, v, h => by
    obtain ⟨t, e⟩ := Value.isStrOf_shape (x := x) (v := v) h
    exact .inr ⟨x, t, rfl, e⟩
theorem key_ll (a b : Int) : decide ((Sum.inl a : Key) = Sum.inl b) = (a == b) := by
  by_cases e : a = b
  · subst e; simp
  · have h : ¬ (Sum.inl a : Key) = Sum.inl b := fun q => e (Sum.inl.inj q)
    rw [decide_eq_false h]
    exact (beq_eq_false_iff_ne.mpr e).symm
theorem key_rr (a b : Str) : decide ((Sum.inr a : Key) = Sum.inr b) = decide (a = b) := by
  by_cases e : a = b
  · subst e; simp
  · have h : ¬ (Sum.inr a : Key) = Sum.inr b := fun q => e (Sum.inr.inj q)
    rw [decide_eq_false h, decide_eq_false e]
theorem key_lr (a : Int) (b : Str) : decide ((Sum.inl a : Key) = Sum.inr b) = false := decide_eq_false (fun q => nomatch q)
theorem key_rl (a : Str) (b : Int) : decide ((Sum.inr a : Key) = Sum.inl b) = false := decide_eq_false (fun q => nomatch q)

def mixKind (prog : Program) (w : World) : PySem.KeyKind prog w Key where
  is := keyIs
  hash := keyH w
  inj := fun v a b ha hb => by
    rcases keyIs_shape ha with ⟨i, t, rfl, rfl⟩ | ⟨x, t, rfl, rfl⟩
    · rcases keyIs_shape hb with ⟨j, u, rfl, e⟩ | ⟨y, u, rfl, e⟩
      · injection e with e1 _; rw [e1]
      · exact nomatch e
    · rcases keyIs_shape hb with ⟨j, u, rfl, e⟩ | ⟨y, u, rfl, e⟩
      · exact nomatch e
      · injection e with e1 _; rw [e1]
  byValue := fun k v h => by
    rcases keyIs_shape h with ⟨i, t, rfl, rfl⟩ | ⟨x, t, rfl, rfl⟩ <;> rfl
  pyHash := fun hv h => by
    rcases keyIs_shape hv with ⟨i, t, rfl, rfl⟩ | ⟨x, t, rfl, rfl⟩
    · exact wpAny_pyHash_int h
    · exact wpAny_pyHash_str h
  eqBool := fun hu hv h => by
    rcases keyIs_shape hu with ⟨i, t, rfl, rfl⟩ | ⟨x, t, rfl, rfl⟩
    · rcases keyIs_shape hv with ⟨j, u, rfl, rfl⟩ | ⟨y, u, rfl, rfl⟩
      · rw [key_ll] at h; exact wpAny_eqBool_int h
      · rw [key_lr] at h; exact SeqAt.EqAt.int_str i t y u _ _ _ _ h
    · rcases keyIs_shape hv with ⟨j, u, rfl, rfl⟩ | ⟨y, u, rfl, rfl⟩
      · rw [key_rl] at h; exact SeqAt.EqAt.str_int x t j u _ _ _ _ h
      · rw [key_rr] at h; exact wpAny_eqBool_str h
  «strs» := fun k x t v h => by
    rcases keyIs_shape h with ⟨i, u, rfl, e⟩ | ⟨y, u, rfl, e⟩
    · exact nomatch e
    · injection e with e1 _
      subst e1
      cases v <;> rfl

end L2

namespace L2
open PySem PySem.Spec PyProof.Rows

inductive V where
  | non | bl (b : Bool) | int (i : Int) | str (x : Str) | byt (b : Array UInt8) | flt (b : UInt64) | ref (a : Addr) | ty (n : String)
  deriving DecidableEq

def RelV : V → Value → Prop
  | .non, u => u = Value.none
  | .bl b, u => u = Value.bool b
  | .int i, u => ∃ t, u = Value.int i t
  | .str x, u => ∃ t, u = Value.str x t
  | .byt b, u => ∃ t, u = Value.bytes b t
  | .flt b, u => ∃ t, u = Value.float b t
  | .ref a, u => u = Value.ref a
  | .ty n, u => u = Value.type n

abbrev Vals : List V → List Value → Prop := Paired RelV
theorem Vals.length {xs : List V} {us : List Value} (r : Vals xs us) : xs.length = us.length := Paired.length r
theorem Vals.get : ∀ {xs : List V} {us : List Value} {i : Nat} {x : V}, Vals xs us → xs[i]? = some x → ∃ u, us[i]? = some u ∧ RelV x u
  | _, _, _, _, .nil, e => by simp at e
  | _, _, 0, _, .cons r _, e => by simp at e; subst e; exact ⟨_, rfl, r⟩
  | _, _, i + 1, x, .cons _ t, e => by
    obtain ⟨u, h1, h2⟩ := Vals.get (i := i) (x := x) t (by simpa using e)
    exact ⟨u, by simpa using h1, h2⟩
theorem Vals.set {x : V} {u : Value} (r : RelV x u) : ∀ {xs : List V} {us : List Value} (i : Nat), Vals xs us → Vals (xs.set i x) (us.set i u)
  | _, _, _, .nil => .nil
  | _, _, 0, .cons _ t => .cons r t
  | _, _, i + 1, .cons q t => .cons q (Vals.set r i t)
theorem Vals.append : ∀ {xs ys : List V} {us ws : List Value}, Vals xs us → Vals ys ws → Vals (xs ++ ys) (us ++ ws)
  | _, _, _, _, .nil, s => s
  | _, _, _, _, .cons r t, s => .cons r (Vals.append t s)
theorem Vals.take : ∀ {xs : List V} {us : List Value} (n : Nat), Vals xs us → Vals (xs.take n) (us.take n)
  | _, _, 0, _ => .nil
  | _, _, _ + 1, .nil => .nil
  | _, _, n + 1, .cons r t => .cons r (Vals.take n t)
theorem Vals.drop : ∀ {xs : List V} {us : List Value} (n : Nat), Vals xs us → Vals (xs.drop n) (us.drop n)
  | _, _, 0, r => r
  | _, _, _ + 1, .nil => .nil
  | _, _, n + 1, .cons _ t => Vals.drop n t
def RelO : Option V → Option Value → Prop
  | some v, some u => RelV v u
  | none, none => True
  | _, _ => False
def KV {κ : Type} : List (κ × V) → List (κ × Value) → Prop := Paired fun (p : κ × V) (q : κ × Value) => p.1 = q.1 ∧ RelV p.2 q.2

def kV : Key → V
  | .inl i => .int i
  | .inr x => .str x

inductive HO where
  /-- a list -/
  | lst (xs : List V)
  /-- a tuple (never changes) -/
  | tup (xs : List V)
  /-- a dict whose keys are ints and texts; one whose keys are tuples of ints and texts (the empty one is both) -/
  | dK (kvs : List (Key × V)) | dT (kvs : List (List Key × V))
  /-- a set of ints: its members, its size -/
  | set (S : Int → Bool) (n : Nat)
  /-- an instance of the class at C, its dict at dx, its attributes -/
  | ins (C dx : Addr) (fs : List (Str × V))
  /-- the dict of the instance at x -/
  | own (x : Addr)
  /-- the dict of an exception -/
  | xd (fs : List (Str × V))
  /-- a bound method, f of x -/
  | met (f x : Addr)
  /-- a range object lo, lo + 1, .. below hi -/
  | rng (lo hi : Int)
  /-- a thing that is known to the object (the script; a dict while a loop walks it): read, never written while it is so -/
  | frz (o : Obj) (u : HO)
  /-- a code object's table -/
  | tbl (ps : Array Value)
  /-- any other thing, by what is true of its one object (a def of one's own: SetO a S n := HO.ext fun h => ..) -/
  | ext (φ : Heap → Prop)

abbrev Hp := Addr → Option HO
def upd (H : Hp) (a : Addr) (o : HO) : Hp := fun b => if b = a then some o else H b
theorem upd_same {H : Hp} {a : Addr} {o : HO} : upd H a o a = some o := by unfold upd; rw [if_pos rfl]
theorem upd_ne {H : Hp} {a b : Addr} {o : HO} (h : b ≠ a) : upd H a o b = H b := by unfold upd; rw [if_neg h]
theorem ne_of_none {H : Hp} {a b : Addr} {o : HO} (h : H a = some o) (h' : H b = none) : a ≠ b := by
  intro e; subst e; rw [h] at h'; cases h'

section
variable (P : Program) (w : World)
def ObjOk (H : Hp) (h : Heap) (a : Addr) : HO → Prop
  | .lst xs => xs.length ≤ sizeLine ∧ ∃ (its : List Value) (n : Nat), Vals xs its ∧ h.get? a = some { cls := .type "list", data := .seq its.toArray n }
  | .tup xs => xs.length ≤ sizeLine ∧ ∃ its : List Value, Vals xs its ∧ IsTup h a its.toArray
  | .dK kvs => kvs.length ≤ sizeLine ∧ (a == sysModules) = false ∧ ∃ vs, KV kvs vs ∧ h.DictOf (mixKind P w) a vs
  | .dT kvs => kvs.length ≤ sizeLine ∧ (a == sysModules) = false ∧ ∃ xs : List (List Key × Addr × Value),
      Paired (fun (p : List Key × V) (q : List Key × Addr × Value) => p.1 = q.1 ∧ H q.2.1 = some (.tup (p.1.map kV)) ∧ RelV p.2 q.2.2) kvs xs ∧
      ∃ o es ep, h.get? a = some o ∧ o.ExactDict ∧ o.data = .dict es ep ∧ es.toList = xs.map (entryOfKey (tupleKind (mixKind P w))) ∧ (xs.map (·.1)).Nodup
  | .set S n => h.SetOf (intKind P w) a S n
  | .ins C dx fs => H dx = some (.own a) ∧ fs.length ≤ 1000 ∧ dx ≠ a ∧ h.get? a = some (PySem.W.instObj C dx) ∧
      ∃ mA, h.Ns1 dx mA ∧ (∀ f, RelO (fs.lookup f) (mA f)) ∧ PySem.Within mA (fs.map (·.1))
  | .own _ => ∃ o, h.get? a = some o
  | .xd fs => ∃ mA, h.Ns1 a mA ∧ ∀ f, RelO (fs.lookup f) (mA f)
  | .rng lo hi => ∃ t u v, h.get? a = some { cls := .type "range", data := .fields #[.int lo t, .int hi u, .int 1 v] }
  | .frz o u => h.get? a = some o ∧ ObjOk H h a u
  | .tbl ps => h.get? a = some { cls := .none, data := .fields ps }
  | .met f x => h.get? a = some (PySem.W.methodObj (.ref f) (.ref x))
  | .ext φ => φ h ∧ (∃ o, h.get? a = some o) ∧ ∀ h1 h2 : Heap, φ h1 → (∀ o, h1.get? a = some o → h2.get? a = some o) → φ h2
def HOk (H : Hp) (h : Heap) : Prop := ∀ a o, H a = some o → ObjOk P w H h a o
end

section
variable {P : Program} {w : World} {H H' : Hp} {h h' : Heap} {a : Addr} {o : HO}
theorem ObjOk.lt (x : ObjOk P w H h a o) : a < h.objs.size := by
  cases o with
  | lst xs => obtain ⟨_, _, _, _, e⟩ := x; exact Heap.lt_size e
  | tup xs => obtain ⟨_, _, _, p⟩ := x; exact p.lt
  | dK kvs => obtain ⟨_, _, _, _, o, _, _, e, _⟩ := x; exact Heap.lt_size e
  | dT kvs => obtain ⟨_, _, _, _, o, _, _, e, _⟩ := x; exact Heap.lt_size e
  | set S n => obtain ⟨o, _, _, _, e, _⟩ := x; exact Heap.lt_size e
  | ins C dx fs => obtain ⟨_, _, _, e, _⟩ := x; exact Heap.lt_size e
  | own y => obtain ⟨_, e⟩ := x; exact Heap.lt_size e
  | xd fs => obtain ⟨_, ⟨_, _, _, e, _⟩, _⟩ := x; exact Heap.lt_size e
  | rng lo hi => obtain ⟨_, _, _, e⟩ := x; exact Heap.lt_size e
  | frz ob u => obtain ⟨e, _⟩ := x; exact Heap.lt_size e
  | tbl ps => exact Heap.lt_size (show h.get? a = some _ from x)
  | met f y => exact Heap.lt_size (show h.get? a = some _ from x)
  | ext φ => obtain ⟨_, ⟨_, e⟩, _⟩ := x; exact Heap.lt_size e
theorem Paired.mapP {α β : Type} {F G : α → β → Prop} : ∀ {l₁ : List α} {l₂ : List β}, Paired F l₁ l₂ → (∀ a b, F a b → G a b) → Paired G l₁ l₂
  | _, _, .nil, _ => .nil
  | _, _, .cons r t, f => .cons (f _ _ r) (Paired.mapP t f)
theorem ObjOk.stay (x : ObjOk P w H h a o) (k : ∀ b u, (b = a ∨ H b = some (.own a)) → h.get? b = some u → h'.get? b = some u)
    (ho : ∀ b, H b = some (.own a) → H' b = some (.own a)) (ht : ∀ b xs, H b = some (.tup xs) → H' b = some (.tup xs)) : ObjOk P w H' h' a o := by
  induction o with
  | lst xs => obtain ⟨z, its, n, r, e⟩ := x; exact ⟨z, its, n, r, k _ _ (.inl rfl) e⟩
  | tup xs => obtain ⟨z, its, r, ob, e, c⟩ := x; exact ⟨z, its, r, ob, k _ _ (.inl rfl) e, c⟩
  | dK kvs => obtain ⟨z, y, vs, r, ob, es, ep, e, c⟩ := x; exact ⟨z, y, vs, r, ob, es, ep, k _ _ (.inl rfl) e, c⟩
  | dT kvs =>
    obtain ⟨z, y, xs, r, ob, es, ep, e, c⟩ := x
    exact ⟨z, y, xs, Paired.mapP r fun p q z => ⟨z.1, ht _ _ z.2.1, z.2.2⟩, ob, es, ep, k _ _ (.inl rfl) e, c⟩
  | set S n => obtain ⟨ob, es, ep, t, e, c⟩ := x; exact ⟨ob, es, ep, t, k _ _ (.inl rfl) e, c⟩
  | ins C dx fs =>
    obtain ⟨d, z, ne, e, mA, ⟨od, es, ep, e2, c⟩, r⟩ := x
    exact ⟨ho _ d, z, ne, k _ _ (.inl rfl) e, mA, ⟨od, es, ep, k _ _ (.inr d) e2, c⟩, r⟩
  | own y => obtain ⟨ob, e⟩ := x; exact ⟨ob, k _ _ (.inl rfl) e⟩
  | xd fs => obtain ⟨mA, ⟨od, es, ep, e, c⟩, r⟩ := x; exact ⟨mA, ⟨od, es, ep, k _ _ (.inl rfl) e, c⟩, r⟩
  | rng lo hi => obtain ⟨t, u, v, e⟩ := x; exact ⟨t, u, v, k _ _ (.inl rfl) e⟩
  | frz ob u ih => obtain ⟨e, q⟩ := x; exact ⟨k _ _ (.inl rfl) e, ih q⟩
  | tbl ps =>
    have e : h.get? a = some { cls := .none, data := .fields ps } := x
    show h'.get? a = some { cls := .none, data := .fields ps }
    exact k a _ (.inl rfl) e
  | met f y =>
    have e : h.get? a = some (PySem.W.methodObj (.ref f) (.ref y)) := x
    show h'.get? a = some (PySem.W.methodObj (.ref f) (.ref y))
    exact k a _ (.inl rfl) e
  | ext φ => obtain ⟨p, ⟨o, e⟩, st⟩ := x; exact ⟨st _ _ p fun o q => k _ _ (.inl rfl) q, ⟨o, k _ _ (.inl rfl) e⟩, st⟩
theorem HOk.lt (x : HOk P w H h) (e : H a = some o) : a < h.objs.size := (x a o e).lt
theorem HOk.fresh (x : HOk P w H h) (e : h.objs.size ≤ a) : H a = none := by
  cases q : H a with
  | none => rfl
  | some u => exact absurd (Nat.lt_of_lt_of_le (x.lt q) e) (Nat.lt_irrefl _)
theorem HOk.kept (x : HOk P w H h) (k : ∀ b u, h.get? b = some u → h'.get? b = some u) : HOk P w H h' := fun a o e =>
  (x a o e).stay (fun b u _ q => k b u q) (fun _ q => q) fun _ _ q => q
theorem HOk.laid (x : HOk P w H h) (k : ∀ b u, h.get? b = some u → h'.get? b = some u) (hp : h.objs.size ≤ a) (new : ObjOk P w (upd H a o) h' a o) : HOk P w (upd H a o) h' := fun b u e => by
  have hn := x.fresh hp
  by_cases hb : b = a
  · subst hb; rw [upd_same] at e; cases e; exact new
  · rw [upd_ne hb] at e
    exact (x b u e).stay (fun c v _ q => k c v q) (fun c q => by rw [upd_ne (ne_of_none q hn)]; exact q) fun c xs q => by rw [upd_ne (ne_of_none q hn)]; exact q
end

def Rd (H : Hp) (a : Addr) (u : HO) : Prop := H a = some u ∨ ∃ o, H a = some (.frz o u)
theorem Rd.of {H : Hp} {a : Addr} {u : HO} (h : H a = some u) : Rd H a u := .inl h
theorem Rd.ok {P : Program} {w : World} {H : Hp} {h : Heap} {a : Addr} {u : HO} (r : Rd H a u) (x : HOk P w H h) : ObjOk P w H h a u := by
  rcases r with r | ⟨o, r⟩
  · exact x a u r
  · obtain ⟨_, q⟩ := x a _ r
    exact q
def Mut : Option HO → Prop
  | some (.lst _) => True
  | some (.dK _) => True
  | some (.dT _) => True
  | some (.set _ _) => True
  | some (.ins _ _ _) => True
  | some (.ext _) => True
  | _ => False
section
variable {P : Program} {w : World} {H : Hp} {h h' : Heap} {x e : Addr} {o' : HO}
theorem HOk.write (ok : HOk P w H h) (mu : Mut (H x)) (he : e = x ∨ H e = some (.own x)) (k : ∀ b u, b ≠ e → h.get? b = some u → h'.get? b = some u) (heo : ∃ u, h'.get? e = some u)
    (new : ObjOk P w (upd H x o') h' x o') : HOk P w (upd H x o') h' := fun b u q => by
  have nown : ∀ c y, H c = some (.own y) → c ≠ x := fun c y r z => by subst z; rw [r] at mu; exact mu
  have ntup : ∀ c xs, H c = some (.tup xs) → c ≠ x := fun c xs r z => by subst z; rw [r] at mu; exact mu
  by_cases hb : b = x
  · subst hb; rw [upd_same] at q; cases q; exact new
  · rw [upd_ne hb] at q
    by_cases hbe : b = e
    · have q' : H b = some (.own x) := by
        rcases he with z | z
        · exact absurd (hbe.trans z) hb
        · rw [hbe]; exact z
      rw [q] at q'; cases q'
      obtain ⟨v, hv⟩ := heo
      exact ⟨v, by rw [hbe]; exact hv⟩
    · refine (ok b u q).stay (fun c v hc r => k c v ?_ r) (fun c r => by rw [upd_ne (nown c b r)]; exact r) fun c xs r => by rw [upd_ne (ntup c xs r)]; exact r
      rcases hc with rfl | hc
      · exact hbe
      · rintro rfl
        rcases he with z | z
        · exact nown c b hc z
        · rw [hc] at z; cases z; exact hb rfl
end

structure Un (fs ex : List Addr) (H H' : Hp) (h h' : Heap) : Prop where
  keep : ∀ b o, h.get? b = some o → H b = none → b ∉ fs → b ∉ ex → h'.get? b = some o
  slot : ∀ b o, h.get? b = some o → H b = none → b ∈ fs → b ∉ ex → ∃ sl, h'.get? b = some { o with slots := sl }
  free : ∀ b o, h.get? b = some o → H b = none → b ∉ ex → H' b = none
  there : ∀ b o, h.get? b = some o → b ∉ ex → ∃ o', h'.get? b = some o'
  tups : ∀ b xs, H b = some (.tup xs) → H' b = some (.tup xs)
  frzs : ∀ b o u, H b = some (.frz o u) → H' b = some (.frz o u)
  tbls : ∀ b ps, H b = some (.tbl ps) → ∃ more, H' b = some (.tbl (ps ++ more))
section
variable {fs fs' ex ex' : List Addr} {H H1 H2 : Hp} {h h1 h2 h' : Heap} {a x e : Addr} {o : HO}
theorem Un.any (u : Un fs ex H H1 h h1) {b : Addr} {ob : Obj} (q : h.get? b = some ob) (n : H b = none) (hx : b ∉ ex) : ∃ sl, h1.get? b = some { ob with slots := sl } := by
  by_cases hb : b ∈ fs
  · exact u.slot b ob q n hb hx
  · exact ⟨ob.slots, u.keep b ob q n hb hx⟩
theorem Un.trans (a : Un fs ex H H1 h h1) (b : Un fs ex H1 H2 h1 h2) : Un fs ex H H2 h h2 where
  keep := fun c ob q n hc hx => b.keep c ob (a.keep c ob q n hc hx) (a.free c ob q n hx) hc hx
  slot := fun c ob q n hc hx => by
    obtain ⟨sl, e1⟩ := a.slot c ob q n hc hx
    obtain ⟨sl', e2⟩ := b.slot c _ e1 (a.free c ob q n hx) hc hx
    exact ⟨sl', e2⟩
  free := fun c ob q n hx => by
    obtain ⟨o', e1⟩ := a.there c ob q hx
    exact b.free c o' e1 (a.free c ob q n hx) hx
  there := fun c ob q hx => by
    obtain ⟨o', e1⟩ := a.there c ob q hx
    exact b.there c o' e1 hx
  tups := fun c xs q => b.tups c xs (a.tups c xs q)
  frzs := fun c ob xs q => b.frzs c ob xs (a.frzs c ob xs q)
  tbls := fun c ps q => by
    obtain ⟨m1, e1⟩ := a.tbls c ps q
    obtain ⟨m2, e2⟩ := b.tbls c _ e1
    exact ⟨m1 ++ m2, by rw [e2, Array.append_assoc]⟩
theorem Un.kept (k : ∀ b u, h.get? b = some u → h'.get? b = some u) : Un fs ex H H h h' :=
  ⟨fun b ob q _ _ _ => k b ob q, fun b ob q _ _ _ => ⟨ob.slots, k b ob q⟩, fun _ _ _ n _ => n, fun b ob q _ => ⟨ob, k b ob q⟩, fun _ _ q => q, fun _ _ _ q => q, fun _ ps q => ⟨#[], by rw [q]; simp⟩⟩
theorem Un.refl : Un fs ex H H h h := Un.kept fun _ _ q => q
theorem Un.laid (k : ∀ b u, h.get? b = some u → h'.get? b = some u) (hp : h.objs.size ≤ a) (hn : H a = none) : Un fs ex H (upd H a o) h h' where
  keep := fun b u q _ _ _ => k b u q
  slot := fun b u q _ _ _ => ⟨u.slots, k b u q⟩
  free := fun b u q n _ => by rw [upd_ne (Nat.ne_of_lt (Nat.lt_of_lt_of_le (Heap.lt_size q) hp))]; exact n
  there := fun b u q _ => ⟨u, k b u q⟩
  tups := fun b xs q => by rw [upd_ne (ne_of_none q hn)]; exact q
  frzs := fun b u xs q => by rw [upd_ne (ne_of_none q hn)]; exact q
  tbls := fun b ps q => ⟨#[], by rw [upd_ne (ne_of_none q hn), q]; simp⟩
theorem Un.write (mu : Mut (H x)) (he : e = x ∨ H e = some (.own x)) (k : ∀ b u, b ≠ e → h.get? b = some u → h'.get? b = some u) (heo : ∃ u, h'.get? e = some u) : Un fs ex H (upd H x o) h h' := by
  have hx : ∀ b, H b = none → b ≠ x := fun b n z => by subst z; rw [n] at mu; exact mu
  have hb : ∀ b, H b = none → b ≠ e := fun b n z => by
    subst z
    rcases he with r | r
    · exact hx b n r
    · rw [n] at r; cases r
  have hm : ∀ b u, H b = some u → ¬ Mut (some u) → b ≠ x := fun b u q nm z => by subst z; rw [q] at mu; exact nm mu
  refine ⟨fun b u q n _ _ => k b u (hb b n) q, fun b u q n _ _ => ⟨u.slots, k b u (hb b n) q⟩, fun b u q n _ => by rw [upd_ne (hx b n)]; exact n, fun b u q _ => ?_,
    fun b xs q => by rw [upd_ne (hm b _ q fun z => z)]; exact q, fun b u xs q => by rw [upd_ne (hm b _ q fun z => z)]; exact q, fun b ps q => ⟨#[], by rw [upd_ne (hm b _ q fun z => z), q]; simp⟩⟩
  by_cases hbe : b = e
  · subst hbe; exact heo
  · exact ⟨u, k b u hbe q⟩
theorem Un.mono (u : Un fs ex H H1 h h1) (hs : ∀ b ∈ fs, b ∈ fs') (hx : ∀ b ∈ ex, b ∈ ex') : Un fs' ex' H H1 h h1 :=
  ⟨fun b ob q n hb he => u.keep b ob q n (fun z => hb (hs b z)) fun z => he (hx b z), fun _ _ q n _ he => u.any q n fun z => he (hx _ z), fun b ob q n he => u.free b ob q n fun z => he (hx b z), fun b ob q he => u.there b ob q fun z => he (hx b z), u.tups, u.frzs, u.tbls⟩
end

def trk (h : Heap) (H : Hp) : List Addr := (List.range h.objs.size).filter fun a => (H a).isSome
def hidT (h : Heap) (H : Hp) : Heap := PySem.W.hideAll h (trk h H)
theorem hidT_size (h : Heap) (H : Hp) : (hidT h H).objs.size = h.objs.size := PySem.W.hideAll_size _ _
theorem hidT_get {h : Heap} {H : Hp} {b : Addr} {o : Obj} (e : h.get? b = some o) (n : H b = none) : (hidT h H).get? b = some o :=
  PySem.W.hideAll_get _ e fun hm => by
    have q : (H b).isSome = true := (List.mem_filter.mp hm).2
    rw [n] at q; simp at q
theorem of_hidT {h : Heap} {H : Hp} {b : Addr} {o : Obj} (e : (hidT h H).get? b = some o) : h.get? b = some o ∧ H b = none := by
  have e' : h.get? b = some o := PySem.W.of_hideAll (trk h H) e
  refine ⟨e', ?_⟩
  cases q : H b with
  | none => rfl
  | some x =>
    have hm : b ∈ trk h H := List.mem_filter.mpr ⟨List.mem_range.mpr (Heap.lt_size e'), by simp [q]⟩
    have z : (hidT h H).get? b = none := PySem.W.hideAll_none (trk h H) hm
    rw [z] at e; cases e

def allNews (g h : Heap) (L : Addr) : List (Addr × Obj) := (List.range h.objs.size).filterMap fun a => if a = L ∨ (g.get? a).isSome = true then none else (h.get? a).map fun o => (a, o)
def rest (g h : Heap) (L d : Addr) : List (Addr × Obj) := (allNews g h L).filter fun p => decide (p.1 ≠ d)
end L2

namespace L2
open PySem PySem.Spec PyProof.Rows

structure Mod (K : PySem.W.Frag) (mg : Str → Option Value) (base : Heap) : Prop where
  kin : K.In base
  glob : base.Ns mainGlobals mg
  blt : ∃ mb, base.Ns builtinsNs mb ∧ ∀ x : Str, x ≠ "__name__" → mb x = bootBuiltins x
  nolimit : base.NoLimit

structure Cx where
  prog : Program
  w : World
  K : PySem.W.Frag
  mg : Str → Option Value
  base : Heap
  A : Around
  N : List Str
  s_0 : Shared
  H_0 : Hp
  env : Env
  outer : List Env
  stack : List Env
  ex : List Addr
  fn : Str → Bool
  calm : Bool
  pn : List (Addr × Obj)
  xe : Value → Shared → Prop
def frs (l : List Env) : List Addr := l.filterMap (·.frame)
abbrev Cx.fs (X : Cx) : List Addr := frs X.outer

def Vis (sc : Scope) (x : Str) : Prop := sc.names.lookup x = some .local ∨ sc.names.lookup x = some .cell ∨ sc.names.lookup x = some .free
def Loc (sc : Scope) (x : Str) : Prop := sc.names.lookup x = some .local ∨ sc.names.lookup x = some .cell
def Look (env : Env) (h : Heap) (m : Str → Option Value) (x : Str) (u : Value) : Prop :=
  (env.kindOf x = some .local ∧ m x = some u) ∨ ((env.kindOf x = some .cell ∨ env.kindOf x = some .free) ∧ ∃ c, env.cells.lookup x = some c ∧ h.IsCell c (some u))

structure Cx.Ok (X : Cx) : Prop where
  mod : Mod X.K X.mg X.base
  kind : X.env.scope.kind = .function
  glob : X.env.globals = mainGlobals
  blt : X.env.builtins = builtinsNs
  above : X.s_0.heap.objs.size ≤ X.env.locals
  inj : ∀ x y c, X.env.cells.lookup x = some c → X.env.cells.lookup y = some c → x = y
  has : ∀ x, (X.env.kindOf x = some .cell ∨ X.env.kindOf x = some .free) → ∃ c, X.env.cells.lookup x = some c
  cab : ∀ x c, X.fn x = true → X.env.cells.lookup x = some c → X.s_0.heap.objs.size ≤ c
  hd : X.calm = true → X.A.handled = none
  frames : X.A.frames = some X.stack
  stk : X.stack = X.outer ∨ (X.stack = X.env :: X.outer ∧ X.env.frame = some X.env.locals)
  exf : ∀ b ∈ X.ex, b ≠ X.env.locals ∧ ∀ x c, X.env.cells.lookup x = some c → c ≠ b
  bs : ∀ b o, X.base.get? b = some o → X.s_0.heap.get? b = some o ∧ X.H_0 b = none
  bsz : X.base.objs.size ≤ X.s_0.heap.objs.size
  noex : ∀ b o, X.base.get? b = some o → b ∉ X.ex
  exfs : ∀ b ∈ X.ex, b ∉ X.fs
  funs : X.s_0.heap.FunFrames X.base X.outer
  frf : ∀ b ∈ X.fs, X.H_0 b = none

structure Inv (X : Cx) (pins : List (Addr × Obj)) (σ : List (Option V)) (H : Hp) (s : Shared) : Prop where
  ok : X.Ok
  os : s.os = X.s_0.os
  bare : AllBare s.gens
  base : Un X.fs X.ex X.H_0 H X.s_0.heap s.heap
  loc : ∃ m, s.heap.Ns X.env.locals m ∧ ∀ (i : Nat) (x : Str) (v : V), X.N[i]? = some x → σ[i]? = some (some v) → Vis X.env.scope x → ∃ u, RelV v u ∧ Look X.env s.heap m x u
  cell : ∀ x c, X.env.cells.lookup x = some c → ∃ v, s.heap.IsCell c v
  free : H X.env.locals = none
  freeC : ∀ x c, X.env.cells.lookup x = some c → H c = none
  pin : ∀ p ∈ X.pn ++ pins, s.heap.get? p.1 = some p.2 ∧ H p.1 = none ∧ p.1 ≠ X.env.locals ∧ p.1 ∉ X.fs ∧ ∀ v, p.2.data ≠ .cell v
  hok : HOk X.prog X.w H s.heap
  len : σ.length = X.N.length

section
variable {X : Cx} {pins : List (Addr × Obj)} {σ : List (Option V)} {H H' : Hp} {s : Shared} {h' : Heap}

theorem Cx.Ok.nofr (ok : X.Ok) {b : Addr} {o : Obj} (e : X.base.get? b = some o) : b ∉ X.fs := fun hb => by
  have := (ok.funs.mem hb).1
  rw [e] at this; cases this
theorem Inv.bs (I : Inv X pins σ H s) : ∀ b o, X.base.get? b = some o → s.heap.get? b = some o ∧ H b = none := fun b o e =>
  ⟨I.base.keep b o (I.ok.bs b o e).1 (I.ok.bs b o e).2 (I.ok.nofr e) (I.ok.noex b o e), I.base.free b o (I.ok.bs b o e).1 (I.ok.bs b o e).2 (I.ok.noex b o e)⟩
theorem Inv.bk (I : Inv X pins σ H s) : ∀ b o, X.base.get? b = some o → s.heap.get? b = some o := fun b o e => (I.bs b o e).1
theorem Inv.mod (I : Inv X pins σ H s) : Mod X.K X.mg X.base := I.ok.mod
theorem Inv.kIn (I : Inv X pins σ H s) : X.K.In s.heap := I.ok.mod.kin.keeps I.bk
theorem Inv.nolimit (I : Inv X pins σ H s) : s.heap.NoLimit := I.ok.mod.nolimit.keeps I.bk
theorem Inv.fr (I : Inv X pins σ H s) : ∃ m, Fr X.base X.env.locals s.heap m :=
  let ⟨m, hn, _⟩ := I.loc
  ⟨m, hn, I.bk, Nat.le_trans I.ok.bsz I.ok.above⟩
theorem Inv.lt (I : Inv X pins σ H s) : X.env.locals < s.heap.objs.size := let ⟨_, hn, _⟩ := I.loc; hn.lt
theorem Inv.sz (I : Inv X pins σ H s) : X.s_0.heap.objs.size ≤ s.heap.objs.size := Nat.le_trans I.ok.above (Nat.le_of_lt I.lt)
theorem Inv.nofs (I : Inv X pins σ H s) {a : Addr} (h : s.heap.objs.size ≤ a) : a ∉ X.fs := fun hb => by
  obtain ⟨_, o, ho, _⟩ := I.ok.funs.mem hb
  exact absurd (Nat.lt_of_lt_of_le (Heap.lt_size ho) (Nat.le_trans I.sz h)) (Nat.lt_irrefl _)
theorem Inv.cne (I : Inv X pins σ H s) : ∀ x c, X.env.cells.lookup x = some c → c ≠ X.env.locals := fun x c e z => by
  obtain ⟨v, o, ho, hd⟩ := I.cell x c e
  obtain ⟨m, ⟨o', es, ep, ho', hd', _⟩, _⟩ := I.loc
  rw [z, ho'] at ho; cases ho; rw [hd'] at hd; cases hd
theorem Inv.funs (I : Inv X pins σ H s) : s.heap.FunFrames X.base X.outer := by
  have all : ∀ (l : List Env), (∀ b ∈ frs l, b ∈ X.fs) → X.s_0.heap.FunFrames X.base l → s.heap.FunFrames X.base l := by
    intro l
    induction l with
    | nil => intro _ _; trivial
    | cons env r ih =>
      intro hs hl
      obtain ⟨hk, ⟨L, o, hf, hn, ho, hd⟩, hr⟩ := hl
      have hL : L ∈ X.fs := hs L (by unfold frs; rw [List.filterMap_cons, hf]; exact List.mem_cons_self)
      obtain ⟨sl, e⟩ := I.base.slot L o ho (I.ok.frf L hL) hL fun z => I.ok.exfs L z hL
      exact ⟨hk, ⟨L, _, hf, hn, e, hd⟩, ih (fun b hb => hs b (by unfold frs; rw [List.filterMap_cons, hf]; exact List.mem_cons_of_mem _ hb)) hr⟩
  exact all X.outer (fun _ hb => hb) I.ok.funs

theorem Inv.stack (I : Inv X pins σ H s) : s.heap.FunFrames X.base X.stack := by
  rcases I.ok.stk with e | ⟨e, hf⟩
  · rw [e]; exact I.funs
  · rw [e]
    obtain ⟨m, hn, _⟩ := I.loc
    refine .cons (by rw [I.ok.kind]; decide) hf hn ?_ I.funs
    exact Heap.get?_none_of_le (Nat.le_trans I.ok.bsz I.ok.above)
theorem Inv.stkSub (I : Inv X pins σ H s) : ∀ b ∈ frs X.stack, b ∈ X.env.locals :: X.fs := fun b hb => by
  rcases I.ok.stk with e | ⟨e, hf⟩
  · rw [e] at hb; exact List.mem_cons_of_mem _ hb
  · rw [e] at hb
    unfold frs at hb
    rw [List.filterMap_cons, hf] at hb
    exact hb
theorem Inv.stkFree (I : Inv X pins σ H s) : ∀ b ∈ frs X.stack, H b = none := fun b hb => by
  rcases List.mem_cons.mp (I.stkSub b hb) with e | hb
  · rw [e]; exact I.free
  · obtain ⟨_, o, ho, _⟩ := I.ok.funs.mem hb
    exact I.base.free b o ho (I.ok.frf b hb) fun z => I.ok.exfs b z hb

theorem Inv.step {g' : Array GenState} {t' : Nat} {d' : Drawn} {ch : List Addr} (I : Inv X pins σ H s)
    (hch : ∀ b ∈ ch, (b ∈ X.ex ∨ X.s_0.heap.objs.size ≤ b) ∧ b ≠ X.env.locals ∧ (∀ x c, X.env.cells.lookup x = some c → c ≠ b) ∧ ∀ p ∈ X.pn ++ pins, p.1 ≠ b)
    (keep : ∀ b o, b ≠ X.env.locals → b ∉ X.fs → b ∉ ch → s.heap.get? b = some o → H b = none → h'.get? b = some o)
    (slot : ∀ b o, b ≠ X.env.locals → b ∈ X.fs → b ∉ ch → s.heap.get? b = some o → H b = none → ∃ sl, h'.get? b = some { o with slots := sl }) (free : ∀ b o, b ∉ ch → s.heap.get? b = some o → H b = none → H' b = none)
    (there : ∀ b o, b ∉ ch → s.heap.get? b = some o → ∃ o', h'.get? b = some o')
    (tups : ∀ b xs, H b = some (.tup xs) → H' b = some (.tup xs)) (frzs : ∀ b o u, H b = some (.frz o u) → H' b = some (.frz o u)) (tbls : ∀ b ps, H b = some (.tbl ps) → ∃ more, H' b = some (.tbl (ps ++ more)))
    (ns : ∀ m, s.heap.Ns X.env.locals m → h'.Ns X.env.locals m) (hok : HOk X.prog X.w H' h') (hg : AllBare g') :
    Inv X pins σ H' { s with heap := h', gens := g', drawn := d', toks := t' } := by
  have neL : ∀ b o, X.s_0.heap.get? b = some o → b ≠ X.env.locals := fun b o e => Nat.ne_of_lt (Nat.lt_of_lt_of_le (Heap.lt_size e) I.ok.above)
  have neC : ∀ b o, X.s_0.heap.get? b = some o → b ∉ X.ex → b ∉ ch := fun b o e hx hb => by
    rcases (hch b hb).1 with z | z
    · exact hx z
    · exact absurd (Nat.lt_of_lt_of_le (Heap.lt_size e) z) (Nat.lt_irrefl _)
  have cellK : ∀ x c, X.env.cells.lookup x = some c → ∀ v, s.heap.IsCell c v → h'.IsCell c v := fun x c e v ⟨o, ho, hd⟩ => by
    have nch : c ∉ ch := fun z => (hch c z).2.2.1 x c e rfl
    by_cases hc : c ∈ X.fs
    · obtain ⟨sl, q⟩ := slot c o (I.cne x c e) hc nch ho (I.freeC x c e)
      exact ⟨_, q, hd⟩
    · exact ⟨o, keep c o (I.cne x c e) hc nch ho (I.freeC x c e), hd⟩
  refine ⟨I.ok, I.os, hg, ⟨fun b o e n hb hx => ?_, fun b o e n hb hx => ?_, fun b o e n hx => ?_, fun b o e hx => ?_, fun b xs e => tups b xs (I.base.tups b xs e), fun b o xs e => frzs b o xs (I.base.frzs b o xs e), fun b ps e => ?_⟩, ?_, fun x c e => ?_, ?_, fun x c e => ?_, fun p hp => ?_, hok, I.len⟩
  · exact keep b o (neL b o e) hb (neC b o e hx) (I.base.keep b o e n hb hx) (I.base.free b o e n hx)
  · obtain ⟨sl, e1⟩ := I.base.slot b o e n hb hx
    obtain ⟨sl', e2⟩ := slot b _ (neL b o e) hb (neC b o e hx) e1 (I.base.free b o e n hx)
    exact ⟨sl', e2⟩
  · obtain ⟨o', e1⟩ := I.base.there b o e hx
    exact free b o' (neC b o e hx) e1 (I.base.free b o e n hx)
  · obtain ⟨o', e1⟩ := I.base.there b o e hx
    exact there b o' (neC b o e hx) e1
  · obtain ⟨m1, e1⟩ := I.base.tbls b ps e
    obtain ⟨m2, e2⟩ := tbls b _ e1
    exact ⟨m1 ++ m2, by rw [e2, Array.append_assoc]⟩
  · obtain ⟨m, hn, hl⟩ := I.loc
    refine ⟨m, ns m hn, fun i x v e1 e2 e3 => ?_⟩
    obtain ⟨u, r, l⟩ := hl i x v e1 e2 e3
    refine ⟨u, r, ?_⟩
    rcases l with l | ⟨k, c, e, z⟩
    · exact .inl l
    · exact .inr ⟨k, c, e, cellK x c e _ z⟩
  · obtain ⟨v, z⟩ := I.cell x c e
    exact ⟨v, cellK x c e v z⟩
  · obtain ⟨m, ⟨o, _, _, ho, _⟩, _⟩ := I.loc
    exact free _ o (fun z => (hch _ z).2.1 rfl) ho I.free
  · obtain ⟨v, o, ho, hd⟩ := I.cell x c e
    exact free c o (fun z => (hch c z).2.2.1 x c e rfl) ho (I.freeC x c e)
  · obtain ⟨e, n, ne, nf, d⟩ := I.pin p hp
    have nch : p.1 ∉ ch := fun z => (hch p.1 z).2.2.2 p hp rfl
    exact ⟨keep p.1 p.2 ne nf nch e n, free p.1 p.2 nch e n, ne, nf, d⟩
theorem Inv.un {t' : Nat} (I : Inv X pins σ H s) (u : Un X.fs [] H H' s.heap h') (hok : HOk X.prog X.w H' h') : Inv X pins σ H' { s with heap := h', toks := t' } := by
  obtain ⟨m, ⟨o, es, ep, ho, r⟩, _⟩ := id I.loc
  obtain ⟨sl, hL⟩ := u.any ho I.free (by simp)
  exact I.step (g' := s.gens) (d' := s.drawn) (ch := []) (fun _ z => nomatch z) (fun b o _ hb _ e n => u.keep b o e n hb (by simp)) (fun b o _ hb _ e n => u.slot b o e n hb (by simp)) (fun b o _ e n => u.free b o e n (by simp)) (fun b o _ e => u.there b o e (by simp)) u.tups u.frzs u.tbls (fun m' hm => by
    obtain ⟨o', es', ep', ho', r'⟩ := hm
    rw [ho] at ho'; cases ho'
    exact ⟨_, es', ep', hL, r'⟩) hok I.bare
theorem Inv.call {g' : Array GenState} {t' : Nat} {d' : Drawn} {ch : List Addr} (I : Inv X pins σ H s) (u : Un (frs X.stack) ch H H' s.heap h') (hok : HOk X.prog X.w H' h') (hg : AllBare g')
    (hch : ∀ b ∈ ch, (b ∈ X.ex ∨ X.s_0.heap.objs.size ≤ b) ∧ b ≠ X.env.locals ∧ (∀ x c, X.env.cells.lookup x = some c → c ≠ b) ∧ ∀ p ∈ X.pn ++ pins, p.1 ≠ b) :
    Inv X pins σ H' { s with heap := h', gens := g', drawn := d', toks := t' } := by
  obtain ⟨m, ⟨o, es, ep, ho, r⟩, _⟩ := id I.loc
  obtain ⟨sl, hL⟩ := u.any ho I.free fun z => (hch _ z).2.1 rfl
  exact I.step (ch := ch) hch (fun b o hL hb hc e n => u.keep b o e n (fun z => (List.mem_cons.mp (I.stkSub b z)).elim hL hb) hc) (fun b o _ _ hc e n => u.any e n hc) (fun b o hc e n => u.free b o e n hc) (fun b o hc e => u.there b o e hc) u.tups u.frzs u.tbls (fun m' hm => by
    obtain ⟨o', es', ep', ho', r'⟩ := hm
    rw [ho] at ho'; cases ho'
    exact ⟨_, es', ep', hL, r'⟩) hok hg
theorem Inv.turned {t' : Nat} {it : Addr} (I : Inv X pins σ H s) (k : ∀ b o, b ≠ it → s.heap.get? b = some o → h'.get? b = some o) (hn : H it = none) (hL : it ≠ X.env.locals)
    (h1 : it ∈ X.ex ∨ X.s_0.heap.objs.size ≤ it) (h2 : ∀ x c, X.env.cells.lookup x = some c → c ≠ it) (h3 : ∀ p ∈ X.pn ++ pins, p.1 ≠ it) : Inv X pins σ H { s with heap := h', toks := t' } := by
  have nit : ∀ b u, H b = some u → b ≠ it := fun b u e z => by rw [z, hn] at e; cases e
  refine I.step (g' := s.gens) (d' := s.drawn) (ch := [it]) (fun b hb => ?_) (fun b o _ _ hc e _ => k b o (fun z => hc (by simp [z])) e) (fun b o _ _ hc e _ => ⟨o.slots, k b o (fun z => hc (by simp [z])) e⟩) (fun _ _ _ _ n => n)
    (fun b o hc e => ⟨o, k b o (fun z => hc (by simp [z])) e⟩) (fun _ _ e => e) (fun _ _ _ e => e) (fun b ps e => ⟨#[], by rw [e]; simp⟩) (fun m hm => ?_) (fun b u e => ?_) I.bare
  · have e : b = it := by simpa using hb
    subst e
    exact ⟨h1, hL, h2, h3⟩
  · obtain ⟨o, es, ep, ho, r⟩ := hm
    exact ⟨o, es, ep, k _ o (Ne.symm hL) ho, r⟩
  · refine (I.hok b u e).stay (fun c v hc q => k c v ?_ q) (fun _ q => q) fun _ _ q => q
    rcases hc with z | z
    · rw [z]; exact nit b u e
    · exact nit c _ z
theorem Inv.tok (I : Inv X pins σ H s) (t : Nat) : Inv X pins σ H { s with toks := t } := I.un (h' := s.heap) (t' := t) Un.refl I.hok
theorem Inv.kept {t' : Nat} (I : Inv X pins σ H s) (k : ∀ b u, s.heap.get? b = some u → h'.get? b = some u) : Inv X pins σ H { s with heap := h', toks := t' } := I.un (Un.kept k) (I.hok.kept k)
theorem Inv.laid {a : Addr} {o : HO} {t' : Nat} (I : Inv X pins σ H s) (k : ∀ b u, s.heap.get? b = some u → h'.get? b = some u) (hp : s.heap.objs.size ≤ a) (new : ObjOk X.prog X.w (upd H a o) h' a o) :
    Inv X pins σ (upd H a o) { s with heap := h', toks := t' } := I.un (Un.laid k hp (I.hok.fresh hp)) (I.hok.laid k hp new)
theorem Inv.write {x e : Addr} {o : HO} {t' : Nat} (I : Inv X pins σ H s) (mu : Mut (H x)) (he : e = x ∨ H e = some (.own x)) (k : ∀ b u, b ≠ e → s.heap.get? b = some u → h'.get? b = some u) (heo : ∃ u, h'.get? e = some u)
    (new : ObjOk X.prog X.w (upd H x o) h' x o) : Inv X pins σ (upd H x o) { s with heap := h', toks := t' } := I.un (Un.write mu he k heo) (I.hok.write mu he k heo new)
theorem Inv.weak {σ' : List (Option V)} (I : Inv X pins σ H s) (hl : σ'.length = σ.length) (w : ∀ (i : Nat) v, σ'[i]? = some (some v) → σ[i]? = some (some v)) : Inv X pins σ' H s :=
  ⟨I.ok, I.os, I.bare, I.base, let ⟨m, hn, hl'⟩ := I.loc; ⟨m, hn, fun i x v e1 e2 e3 => hl' i x v e1 (w i v e2) e3⟩, I.cell, I.free, I.freeC, I.pin, I.hok, hl.trans I.len⟩
theorem Inv.pins_of {pins' : List (Addr × Obj)} (I : Inv X pins σ H s) (h : ∀ p ∈ pins', s.heap.get? p.1 = some p.2 ∧ H p.1 = none ∧ p.1 ≠ X.env.locals ∧ p.1 ∉ X.fs ∧ ∀ v, p.2.data ≠ .cell v) : Inv X pins' σ H s :=
  ⟨I.ok, I.os, I.bare, I.base, I.loc, I.cell, I.free, I.freeC, fun p hp => (List.mem_append.mp hp).elim (fun z => I.pin p (List.mem_append_left _ z)) (h p), I.hok, I.len⟩

theorem nodup_ix {N : List Str} (hN : N.Nodup) {i j : Nat} {x : Str} (a : N[i]? = some x) (b : N[j]? = some x) : i = j := by
  obtain ⟨h1, e1⟩ := List.getElem?_eq_some_iff.mp a
  obtain ⟨h2, e2⟩ := List.getElem?_eq_some_iff.mp b
  exact (List.getElem_inj hN).mp (e1.trans e2.symm)

theorem store_ok2 {M : Model} {A : Around} {E : Value → Shared → Prop} {i : Nat} {x : Str} {v : V} {u : Value} {Q : Unit → Shared → Prop} (I : Inv X pins σ H s) (hN : X.N.Nodup) (hi : X.N[i]? = some x) (hx : Loc X.env.scope x) (r : RelV v u)
    (h : ∀ s', Inv X pins (σ.set i (some v)) H s' → (∃ a, Heap.SameBut a s.heap s'.heap ∧ (a = X.env.locals ∨ X.env.cells.lookup x = some a)) → Q () s') (hf : X.fn x = true ∨ X.env.scope.names.lookup x = some .local := by first | exact .inl rfl | exact .inr rfl | assumption) : wpAny M A (storeName X.env x u) Q E s := by
  obtain ⟨m, hn, hl⟩ := id I.loc
  have hcls : (X.env.scope.kind == .class || (X.env.scope.kind == .module && X.env.locals != X.env.globals)) = false := by rw [I.ok.kind]; rfl
  have hiσ : i < σ.length := by rw [I.len]; exact (List.getElem?_eq_some_iff.mp hi).1
  have cne := I.cne
  have tracked : ∀ {a : Addr} {h' : Heap}, (∃ o, s.heap.get? a = some o ∧ H a = none) → Heap.SameBut a s.heap h' → HOk X.prog X.w H h' := fun {a h'} ha hs b ob e => by
    obtain ⟨_, _, hfree⟩ := ha
    refine (I.hok b ob e).stay (fun c w' hc q => (hs.2 c ?_).trans q) (fun _ q => q) fun _ _ q => q
    rintro rfl
    rcases hc with rfl | hc
    · rw [hfree] at e; cases e
    · rw [hfree] at hc; cases hc
  rcases hx with hk | hk
  · refine wpAny_storeName_local hk hn (fun h' hn' hs => ?_) hcls
    obtain ⟨oL, _, _, hoL, _⟩ := id hn
    refine h _ ⟨I.ok, I.os, I.bare, ⟨fun b o e n hb hx => ?_, fun b o e n hb hx => ?_, I.base.free, fun b o e hx => ?_, I.base.tups, I.base.frzs, I.base.tbls⟩, ⟨_, hn', fun j y v' e1 e2 e3 => ?_⟩, fun y c e => ?_, I.free, I.freeC, fun p hp => ?_, tracked ⟨oL, hoL, I.free⟩ hs, by simpa using I.len⟩ ⟨_, hs, .inl rfl⟩
    · exact (hs.2 b (Nat.ne_of_lt (Nat.lt_of_lt_of_le (Heap.lt_size e) I.ok.above))).trans (I.base.keep b o e n hb hx)
    · obtain ⟨sl, e1⟩ := I.base.slot b o e n hb hx
      exact ⟨sl, (hs.2 b (Nat.ne_of_lt (Nat.lt_of_lt_of_le (Heap.lt_size e) I.ok.above))).trans e1⟩
    · obtain ⟨o', e1⟩ := I.base.there b o e hx
      exact ⟨o', (hs.2 b (Nat.ne_of_lt (Nat.lt_of_lt_of_le (Heap.lt_size e) I.ok.above))).trans e1⟩
    · by_cases hj : j = i
      · subst hj
        rw [hi] at e1; cases e1
        rw [List.getElem?_set_self hiσ] at e2
        cases e2
        exact ⟨u, r, .inl ⟨hk, by simp⟩⟩
      · rw [List.getElem?_set_ne (Ne.symm hj)] at e2
        obtain ⟨u', r', q⟩ := hl j y v' e1 e2 e3
        refine ⟨u', r', ?_⟩
        rcases q with ⟨k, e⟩ | ⟨k, c, e, z⟩
        · refine .inl ⟨k, ?_⟩
          have : y ≠ x := fun e => hj (nodup_ix hN e1 (e ▸ hi))
          simp [this, e]
        · exact .inr ⟨k, c, e, z.sameBut hs (cne y c e)⟩
    · obtain ⟨w', z⟩ := I.cell y c e
      exact ⟨w', z.sameBut hs (cne y c e)⟩
    · obtain ⟨e, n, ne, nf, d⟩ := I.pin p hp
      exact ⟨(hs.2 p.1 ne).trans e, n, ne, nf, d⟩
  · have hfn : X.fn x = true := by
      rcases hf with z | z
      · exact z
      · rw [z] at hk; cases hk
    obtain ⟨c, hc⟩ := I.ok.has x (.inl hk)
    obtain ⟨w', z⟩ := I.cell x c hc
    refine wpAny_storeName_cell I.ok.kind hk hc z (fun h' hc' hs => ?_)
    obtain ⟨oc, hoc, hocd⟩ := id z
    refine h { s with heap := h' } ⟨I.ok, I.os, I.bare, ⟨fun b o e n hb hx => ?_, fun b o e n hb hx => ?_, I.base.free, fun b o e hx => ?_, I.base.tups, I.base.frzs, I.base.tbls⟩, ⟨m, hn.sameBut hs (Ne.symm (cne x c hc)), fun j y v' e1 e2 e3 => ?_⟩, fun y c' e => ?_, I.free, I.freeC, fun p hp => ?_, tracked ⟨oc, hoc, I.freeC x c hc⟩ hs, by simpa using I.len⟩ ⟨c, hs, .inr hc⟩
    · exact (hs.2 b (Nat.ne_of_lt (Nat.lt_of_lt_of_le (Heap.lt_size e) (I.ok.cab x c hfn hc)))).trans (I.base.keep b o e n hb hx)
    · obtain ⟨sl, e1⟩ := I.base.slot b o e n hb hx
      exact ⟨sl, (hs.2 b (Nat.ne_of_lt (Nat.lt_of_lt_of_le (Heap.lt_size e) (I.ok.cab x c hfn hc)))).trans e1⟩
    · obtain ⟨o', e1⟩ := I.base.there b o e hx
      exact ⟨o', (hs.2 b (Nat.ne_of_lt (Nat.lt_of_lt_of_le (Heap.lt_size e) (I.ok.cab x c hfn hc)))).trans e1⟩
    · by_cases hj : j = i
      · subst hj
        rw [hi] at e1; cases e1
        rw [List.getElem?_set_self hiσ] at e2
        cases e2
        exact ⟨u, r, .inr ⟨.inl hk, c, hc, hc'⟩⟩
      · rw [List.getElem?_set_ne (Ne.symm hj)] at e2
        obtain ⟨u', r', q⟩ := hl j y v' e1 e2 e3
        refine ⟨u', r', ?_⟩
        rcases q with q | ⟨k, c', e, z'⟩
        · exact .inl q
        · refine .inr ⟨k, c', e, z'.sameBut hs ?_⟩
          rintro rfl
          exact hj (nodup_ix hN e1 (I.ok.inj _ _ _ e hc ▸ hi))
    · by_cases hcc : c' = c
      · subst hcc; exact ⟨_, hc'⟩
      · obtain ⟨w2, z2⟩ := I.cell y c' e
        exact ⟨w2, z2.sameBut hs hcc⟩
    · obtain ⟨e, n, ne, nf, d⟩ := I.pin p hp
      refine ⟨(hs.2 p.1 ?_).trans e, n, ne, nf, d⟩
      intro q
      rw [q, hoc] at e
      have q' : oc = p.2 := Option.some.inj e
      exact d w' (by rw [← q']; exact hocd)
theorem store_ok {M : Model} {A : Around} {E : Value → Shared → Prop} {i : Nat} {x : Str} {v : V} {u : Value} {Q : Unit → Shared → Prop} (I : Inv X pins σ H s) (hN : X.N.Nodup) (hi : X.N[i]? = some x) (hx : Loc X.env.scope x) (r : RelV v u)
    (h : ∀ s', Inv X pins (σ.set i (some v)) H s' → Q () s') (hf : X.fn x = true ∨ X.env.scope.names.lookup x = some .local := by first | exact .inl rfl | exact .inr rfl | assumption) : wpAny M A (storeName X.env x u) Q E s :=
  store_ok2 I hN hi hx r (fun s' I' _ => h s' I') hf
theorem Inv.call' {s' : Shared} {ch : List Addr} (I : Inv X pins σ H s) (ho : s'.os = s.os) (u : Un (frs X.stack) ch H H' s.heap s'.heap) (hok : HOk X.prog X.w H' s'.heap) (hg : AllBare s'.gens)
    (hch : ∀ b ∈ ch, (b ∈ X.ex ∨ X.s_0.heap.objs.size ≤ b) ∧ b ≠ X.env.locals ∧ (∀ x c, X.env.cells.lookup x = some c → c ≠ b) ∧ ∀ p ∈ X.pn ++ pins, p.1 ≠ b) : Inv X pins σ H' s' := by
  obtain ⟨h', g', d', t', o'⟩ := s'
  have e : o' = s.os := ho
  subst e
  exact I.call (g' := g') (t' := t') (d' := d') u hok hg hch
end

abbrev XK := Value → Option Addr → Hp → Prop
abbrev St := List (Option V)
abbrev VK := V → Hp → Prop
abbrev TE := St → Hp → VK → Prop
abbrev TT := St → Hp → (Bool → Hp → Prop) → Prop
abbrev TA := St → Hp → (List V → Hp → Prop) → Prop
structure Ends where
  nx : St → Hp → Prop
  rt : VK
  bk : St → Hp → Prop := fun _ _ => False
  ct : St → Hp → Prop := fun _ _ => False
abbrev TS := Ends → St → Hp → Prop

def EP (X : Cx) (pins : List (Addr × Obj)) (σ : St) (Q : VK) (u : Value) (s' : Shared) : Prop := ∃ v H', Inv X pins σ H' s' ∧ RelV v u ∧ Q v H'
def TP (X : Cx) (pins : List (Addr × Obj)) (σ : St) (Q : Bool → Hp → Prop) (b : Bool) (s' : Shared) : Prop := ∃ H', Inv X pins σ H' s' ∧ Q b H'
def AP (X : Cx) (pins : List (Addr × Obj)) (σ : St) (Q : List V → Hp → Prop) (us : List Value) (s' : Shared) : Prop := ∃ vs H', Inv X pins σ H' s' ∧ Vals vs us ∧ Q vs H'
def SP (X : Cx) (pins : List (Addr × Obj)) (D : Ends) (f : Flow) (s' : Shared) : Prop :=
  match f with
  | .next => ∃ σ' H', Inv X pins σ' H' s' ∧ D.nx σ' H'
  | .brk => ∃ σ' H', Inv X pins σ' H' s' ∧ D.bk σ' H'
  | .cont => ∃ σ' H', Inv X pins σ' H' s' ∧ D.ct σ' H'
  | .ret u => ∃ v σ' H', Inv X pins σ' H' s' ∧ RelV v u ∧ D.rt v H'

def PE (X : Cx) (e : Expr) (t : TE) : Prop :=
  ∀ (pins : List (Addr × Obj)) (s : Shared) (σ : St) (H : Hp) (Q : VK), Inv X pins σ H s → t σ H Q → wpAny (model X.prog X.w) X.A (eval e X.env) (EP X pins σ Q) X.xe s
def PT (X : Cx) (e : Expr) (t : TT) : Prop :=
  ∀ (pins : List (Addr × Obj)) (s : Shared) (σ : St) (H : Hp) (Q : Bool → Hp → Prop), Inv X pins σ H s → t σ H Q → wpAny (model X.prog X.w) X.A (isTrue e X.env (eval e X.env)) (TP X pins σ Q) X.xe s
def PW (X : Cx) (e : Expr) (t : TT) : Prop :=
  ∀ (whole : Sem Value) (pins : List (Addr × Obj)) (s : Shared) (σ : St) (H : Hp) (Q : Bool → Hp → Prop), Inv X pins σ H s → t σ H Q → wpAny (model X.prog X.w) X.A (isTrue e X.env whole) (TP X pins σ Q) X.xe s
theorem PW.pt {X : Cx} {e : Expr} {t : TT} (h : PW X e t) : PT X e t := h _
def PA (X : Cx) (es : List Expr) (t : TA) : Prop :=
  ∀ (pos : Pos) (pins : List (Addr × Obj)) (s : Shared) (σ : St) (H : Hp) (Q : List V → Hp → Prop), Inv X pins σ H s → t σ H Q → wpAny (model X.prog X.w) X.A (spliced (backTo pos (starEach es X.env))) (AP X pins σ Q) X.xe s
def PS (X : Cx) (st : Stmt) (t : TS) : Prop :=
  ∀ (pins : List (Addr × Obj)) (s : Shared) (σ : St) (H : Hp) (D : Ends), Inv X pins σ H s → t D σ H → wpAny (model X.prog X.w) X.A (exec st X.env) (SP X pins D) X.xe s
def PSs (X : Cx) (st : List Stmt) (t : TS) : Prop :=
  ∀ (pins : List (Addr × Obj)) (s : Shared) (σ : St) (H : Hp) (D : Ends), Inv X pins σ H s → t D σ H → wpAny (model X.prog X.w) X.A (execs st X.env) (SP X pins D) X.xe s
theorem thn {α : Type} {t : Sem α} {Q Q' : α → Shared → Prop} {M : Model} {A : Around} {E : Value → Shared → Prop} {s : Shared} (h : wpAny M A t Q E s) (hQ : ∀ a s, Q a s → Q' a s) : wpAny M A t Q' E s := wpAny_mono h hQ fun _ _ x => x
end L2

namespace L2
open PySem PySem.Spec PyProof.Rows
section
variable {X : Cx}

def tVar (i : Nat) : TE := fun σ H Q => ∃ v, σ[i]? = some (some v) ∧ Q v H
def tC (v : V) : TE := fun _ H Q => Q v H
theorem pe_var {i : Nat} {x : Str} {pos : Pos} (hN : X.N[i]? = some x) (hv : Vis X.env.scope x) (hd : (x == ("__debug__" : Str)) = false := by decide) (hcd : (x == ("__classdict__" : Str)) = false := by decide) : PE X (.Name x pos) (tVar i) := by
  intro pins s σ H Q I h
  obtain ⟨v, e, h⟩ := h
  obtain ⟨m, hn, hl⟩ := I.loc
  obtain ⟨u, r, l⟩ := hl i x v hN e hv
  have fin : EP X pins σ Q u s := ⟨v, H, I, r, h⟩
  rcases l with ⟨hk, hm⟩ | ⟨hk, c, hc, hcell⟩
  · exact wpAny_Name (wpAny_loadName_local I.ok.kind hk hn hm fin) hd
  · rcases hk with hk | hk
    · exact wpAny_Name (wpAny_loadName_cell I.ok.kind hk hc hcell fin) hd
    · exact wpAny_Name (wpAny_loadName_free I.ok.kind hk hc hcell fin hcd) hd
theorem pe_int {i j pos} : PE X (.Constant (.int i) j pos) (tC (.int i)) := fun _ _ _ H _ I h => wpAny_Constant_int ⟨.int i, H, I.tok _, ⟨_, rfl⟩, h⟩
theorem pe_non {j pos} : PE X (.Constant .none j pos) (tC .non) := fun _ _ _ H _ I h => Constant_none ⟨.non, H, I, rfl, h⟩
theorem pe_str {x j pos} : PE X (.Constant (.str x) j pos) (tC (.str x)) := fun _ _ _ H _ I h => Calls.Constant_str ⟨.str x, H, I.tok _, ⟨_, rfl⟩, h⟩

def Gl (X : Cx) (x : Str) : Prop := X.env.kindOf x = some .globalImplicit
theorem ld_glob {E : Value → Shared → Prop} {pins : List (Addr × Obj)} {s : Shared} {σ : St} {H : Hp} {x : Str} {u : Value} {pos : Pos} {Q : Value → Shared → Prop} (I : Inv X pins σ H s) (hg : Gl X x) (hm : X.mg x = some u) (h : Q u s)
    (hd : (x == ("__debug__" : Str)) = false := by decide) : wpAny (model X.prog X.w) X.A (eval (.Name x pos) X.env) Q E s :=
  Calls.Name_function_global I.ok.kind hg (Calls.loadGlobal_global (by rw [I.ok.glob]; exact I.mod.glob.keeps I.bk) hm h) hd
theorem ld_blt {E : Value → Shared → Prop} {pins : List (Addr × Obj)} {s : Shared} {σ : St} {H : Hp} {x : Str} {u : Value} {pos : Pos} {Q : Value → Shared → Prop} (I : Inv X pins σ H s) (hg : Gl X x) (hm : X.mg x = none) (hv : bootBuiltins x = some u) (h : Q u s)
    (hn : x ≠ "__name__" := by decide) (hd : (x == ("__debug__" : Str)) = false := by decide) : wpAny (model X.prog X.w) X.A (eval (.Name x pos) X.env) Q E s := by
  obtain ⟨mb, h1, h2⟩ := I.mod.blt
  exact Calls.Name_function_global I.ok.kind hg (Calls.loadGlobal_builtin (by rw [I.ok.glob]; exact I.mod.glob.keeps I.bk) hm (by rw [I.ok.blt]; exact h1.keeps I.bk) ((h2 x hn).trans hv) h) hd
theorem pe_glob {x : Str} {v : V} {u : Value} {pos : Pos} (hg : Gl X x) (hm : X.mg x = some u) (r : RelV v u) (hd : (x == ("__debug__" : Str)) = false := by decide) : PE X (.Name x pos) (tC v) :=
  fun _ _ _ H _ I h => ld_glob I hg hm ⟨v, H, I, r, h⟩ hd
variable {a b : Expr} {ta tb : TE} {pos : Pos}
def PC (X : Cx) (op : CmpOp) (a b : Expr) (t : TE) : Prop :=
  ∀ (pins : List (Addr × Obj)) (s : Shared) (σ : St) (H : Hp) (Q : VK), Inv X pins σ H s → t σ H Q →
    wpAny (model X.prog X.w) X.A (eval a X.env) (fun v s₁ => wpAny (model X.prog X.w) X.A (eval b X.env) (fun u s₂ => wpAny (model X.prog X.w) X.A (compareOp op v u) (EP X pins σ Q) X.xe s₂) X.xe s₁) X.xe s
theorem nobehind (b : Expr) {op : CmpOp} (h : op ≠ .In) (h2 : op ≠ .NotIn) : behindInMarks op b = false := by
  have e1 : (op == CmpOp.In) = false := by cases op <;> first | rfl | exact absurd rfl h
  have e2 : (op == CmpOp.NotIn) = false := by cases op <;> first | rfl | exact absurd rfl h2
  cases b <;> simp [behindInMarks, e1, e2]
def tIsN (ta : TE) : TE := fun σ H Q => ta σ H fun x H1 => Q (.bl (decide (x = .non))) H1
def tNotN (ta : TE) : TE := fun σ H Q => ta σ H fun x H1 => Q (.bl (!decide (x = .non))) H1
theorem RelV.none_iff {x : V} {v : Value} (r : RelV x v) : (v == Value.none) = decide (x = .non) := by
  cases x with
  | non => cases r; rfl
  | bl _ => cases r; rfl
  | int _ => obtain ⟨t, rfl⟩ := r; rfl
  | str _ => obtain ⟨t, rfl⟩ := r; rfl
  | byt _ => obtain ⟨t, rfl⟩ := r; rfl
  | flt _ => obtain ⟨t, rfl⟩ := r; rfl
  | ref _ => cases r; rfl
  | ty _ => cases r; rfl
theorem pc_isN {j pos'} (ha : PE X a ta) : PC X .Is a (.Constant .none j pos') (tIsN ta) := by
  intro pins s σ H Q I h
  refine thn (ha pins s σ H _ I h) fun v s1 ⟨x, H1, I1, r1, q1⟩ => ?_
  exact Constant_none (is_none_gen ⟨.bl _, H1, I1, by rw [r1.none_iff]; rfl, q1⟩)
theorem pc_notN {j pos'} (ha : PE X a ta) : PC X .IsNot a (.Constant .none j pos') (tNotN ta) := by
  intro pins s σ H Q I h
  refine thn (ha pins s σ H _ I h) fun v s1 ⟨x, H1, I1, r1, q1⟩ => ?_
  exact Constant_none (isnot_none_gen ⟨.bl _, H1, I1, by rw [r1.none_iff]; rfl, q1⟩)
def tB (t : TE) : TT := fun σ H Q => t σ H fun x H1 => ∃ c, x = .bl c ∧ Q c H1
theorem pt_cmp {op : CmpOp} {t : TE} (h : PC X op a b t) (h1 : behindInMarks op b = false := by first | exact nobehind _ (by decide) (by decide) | rfl) : PT X (.Compare a [op] [b] pos) (tB t) := by
  intro pins s σ H Q I hw
  refine wpAny_isTrue_Compare1 (thn (h pins s σ H _ I hw) fun v s1 h1 => thn h1 fun u s2 h2 => thn h2 fun c s3 ⟨x, H1, I1, r1, q1⟩ => ?_) h1
  obtain ⟨d, rfl, q⟩ := q1
  cases r1
  exact wpAny_truthy_bool ⟨H1, I1, q⟩
theorem pt_val {e : Expr} {t : TE} (h : PE X e t) (he : ∀ whole, isTrue e X.env whole = (do let v ← whole; standAt e.pos; holding [v] (truthy v)) := by intro _; rfl) : PT X e (tB t) := by
  intro pins s σ H Q I hw
  refine isTrue_plain (thn (h pins s σ H _ I hw) fun v s1 ⟨x, H1, I1, r1, q1⟩ => ?_) (he _)
  obtain ⟨d, rfl, q⟩ := q1
  cases r1
  exact wpAny_truthy_bool ⟨H1, I1, q⟩

variable {tA tB' : TT} {rest : List Expr}
def tAnd (t u : TT) : TT := fun σ H Q => t σ H fun c H1 => if c = true then u σ H1 Q else Q false H1
def tOr (t u : TT) : TT := fun σ H Q => t σ H fun c H1 => if c = true then Q true H1 else u σ H1 Q
def tNot (t : TT) : TT := fun σ H Q => t σ H fun c H1 => Q (!c) H1
theorem pw_and1 (ha : PT X a tA) : PW X (.BoolOp .And [a] pos) tA := by
  intro wh pins s σ H Q I h
  refine isTrue_and (thn (ha pins s σ H Q I h) fun c s1 e => ?_)
  cases c with
  | true => exact isTrue_and_nil e
  | false => exact e
theorem pw_or1 (ha : PT X a tA) : PW X (.BoolOp .Or [a] pos) tA := by
  intro wh pins s σ H Q I h
  refine isTrue_or (thn (ha pins s σ H Q I h) fun c s1 e => ?_)
  cases c with
  | false => exact isTrue_or_nil e
  | true => exact e
theorem pw_and (ha : PT X a tA) (hb : PW X (.BoolOp .And (b :: rest) pos) tB') : PW X (.BoolOp .And (a :: b :: rest) pos) (tAnd tA tB') := by
  intro wh pins s σ H Q I h
  refine isTrue_and (thn (ha pins s σ H _ I h) fun c s1 ⟨H1, I1, q1⟩ => ?_)
  cases c with
  | true => exact hb wh pins s1 σ H1 Q I1 q1
  | false => exact ⟨H1, I1, q1⟩
theorem pw_or (ha : PT X a tA) (hb : PW X (.BoolOp .Or (b :: rest) pos) tB') : PW X (.BoolOp .Or (a :: b :: rest) pos) (tOr tA tB') := by
  intro wh pins s σ H Q I h
  refine isTrue_or (thn (ha pins s σ H _ I h) fun c s1 ⟨H1, I1, q1⟩ => ?_)
  cases c with
  | true => exact ⟨H1, I1, q1⟩
  | false => exact hb wh pins s1 σ H1 Q I1 q1
theorem pt_not (ha : PT X a tA) : PT X (.UnaryOp .Not a pos) (tNot tA) := by
  intro pins s σ H Q I h
  exact isTrue_not (ha pins s σ H (fun c H1 => Q (!c) H1) I h)
def tAndV (ta tb : TE) : TE := fun σ H Q => ta σ H fun x H1 => ∃ c, x = .bl c ∧ if c = true then tb σ H1 Q else Q (.bl false) H1
def tOrV (ta tb : TE) : TE := fun σ H Q => ta σ H fun x H1 => ∃ c, x = .bl c ∧ if c = true then Q (.bl true) H1 else tb σ H1 Q
theorem pe_one {op} {t : TE} (h : PE X a t) : PE X (.BoolOp op [a] pos) t := fun pins s σ H Q I hw => BoolOp_one (h pins s σ H Q I hw)
theorem pe_and (ha : PE X a ta) (hb : PE X (.BoolOp .And (b :: rest) pos) tb) : PE X (.BoolOp .And (a :: b :: rest) pos) (tAndV ta tb) := by
  intro pins s σ H Q I h
  refine BoolOp_and (thn (ha pins s σ H _ I h) fun v s1 ⟨x, H1, I1, r1, q1⟩ => ?_)
  obtain ⟨c, rfl, q1⟩ := q1
  cases r1
  refine wpAny_truthy_bool ?_
  cases c with
  | true => exact hb pins s1 σ H1 Q I1 q1
  | false => exact ⟨.bl false, H1, I1, rfl, q1⟩
theorem pe_or (ha : PE X a ta) (hb : PE X (.BoolOp .Or (b :: rest) pos) tb) : PE X (.BoolOp .Or (a :: b :: rest) pos) (tOrV ta tb) := by
  intro pins s σ H Q I h
  refine BoolOp_or (thn (ha pins s σ H _ I h) fun v s1 ⟨x, H1, I1, r1, q1⟩ => ?_)
  obtain ⟨c, rfl, q1⟩ := q1
  cases r1
  refine wpAny_truthy_bool ?_
  cases c with
  | false => exact hb pins s1 σ H1 Q I1 q1
  | true => exact ⟨.bl true, H1, I1, rfl, q1⟩
def tIf (t : TT) (ta tb : TE) : TE := fun σ H Q => t σ H fun c H1 => if c = true then ta σ H1 Q else tb σ H1 Q
theorem pe_ifExp {c : Expr} (hc : PT X c tA) (ha : PE X a ta) (hb : PE X b tb) : PE X (.IfExp c a b pos) (tIf tA ta tb) := by
  intro pins s σ H Q I h
  refine wpAny_IfExp (thn (hc pins s σ H _ I h) fun d s1 ⟨H1, I1, q1⟩ => ?_)
  cases d with
  | true => exact ha pins s1 σ H1 Q I1 q1
  | false => exact hb pins s1 σ H1 Q I1 q1
end
end L2

namespace L2
open PySem PySem.Spec PyProof.Rows

def SqL (K : PySem.W.Frag) (H : Hp) (a : Addr) (xs : List V) : Prop :=
  Rd H a (.lst xs) ∨
    ∃ (o : Obj) (its : Array Value) (n : Nat), K.lookup a = some o ∧ o.cls = .type "list" ∧ o.dict = none ∧ o.data = .seq its n ∧ its.size ≤ sizeLine ∧ Vals xs its.toList
def SqT (K : PySem.W.Frag) (H : Hp) (a : Addr) (xs : List V) : Prop :=
  Rd H a (.tup xs) ∨
    ∃ (o : Obj) (its : Array Value) (n : Nat), K.lookup a = some o ∧ o.cls = .type "tuple" ∧ o.data = .seq its n ∧ its.size ≤ sizeLine ∧ Vals xs its.toList
def absV : Value → Option V
  | .none => some .non
  | .bool b => some (.bl b)
  | .int i _ => some (.int i)
  | .str x _ => some (.str x)
  | .bytes b _ => some (.byt b)
  | .float b _ => some (.flt b)
  | .ref a => some (.ref a)
  | .type n => some (.ty n)
  | _ => none
theorem RelV.abs {x : V} {u : Value} (r : RelV x u) : absV u = some x := by
  cases x with
  | non => cases r; rfl
  | bl _ => cases r; rfl
  | int _ => obtain ⟨t, rfl⟩ := r; rfl
  | str _ => obtain ⟨t, rfl⟩ := r; rfl
  | byt _ => obtain ⟨t, rfl⟩ := r; rfl
  | flt _ => obtain ⟨t, rfl⟩ := r; rfl
  | ref _ => cases r; rfl
  | ty _ => cases r; rfl
theorem RelV.inj {x y : V} {u : Value} (r : RelV x u) (q : RelV y u) : x = y := Option.some.inj (r.abs.symm.trans q.abs)
theorem Vals.inj : ∀ {xs ys : List V} {us : List Value}, Vals xs us → Vals ys us → xs = ys
  | _, _, _, .nil, .nil => rfl
  | _, _, _, .cons r t, .cons r' t' => by rw [r.inj r', Vals.inj t t']
section
variable {X : Cx} {pins : List (Addr × Obj)} {σ : St} {H : Hp} {s : Shared} {a : Addr} {xs ys : List V}
theorem SqL.of {K : PySem.W.Frag} (h : H a = some (.lst xs)) : SqL K H a xs := .inl (.inl h)
theorem SqT.of {K : PySem.W.Frag} (h : H a = some (.tup xs)) : SqT K H a xs := .inl (.inl h)
theorem Inv.list (I : Inv X pins σ H s) (h : SqL X.K H a xs) : ∃ its : List Value, Vals xs its ∧ PlainL s.heap a its.toArray ∧ xs.length ≤ sizeLine := by
  rcases h with h | ⟨o, its, n, hk, hc, hd, hs, hz, r⟩
  · obtain ⟨z, its, n, r, e⟩ := h.ok I.hok
    exact ⟨its, r, ⟨_, n, e, rfl, rfl, rfl⟩, z⟩
  · refine ⟨its.toList, r, ⟨o, n, I.kIn a o hk, hc, hd, by simpa using hs⟩, ?_⟩
    have e := r.length
    simp only [Array.length_toList] at e
    omega
theorem Inv.tuple (I : Inv X pins σ H s) (h : SqT X.K H a xs) : ∃ its : List Value, Vals xs its ∧ IsTup s.heap a its.toArray ∧ xs.length ≤ sizeLine := by
  rcases h with h | ⟨o, its, n, hk, hc, hs, hz, r⟩
  · obtain ⟨z, its, r, p⟩ := h.ok I.hok
    exact ⟨its, r, p, z⟩
  · refine ⟨its.toList, r, ⟨o, I.kIn a o hk, hc, n, by simpa using hs⟩, ?_⟩
    have e := r.length
    simp only [Array.length_toList] at e
    omega
theorem Inv.list_inj (I : Inv X pins σ H s) (h : SqL X.K H a xs) (h' : SqL X.K H a ys) : xs = ys := by
  obtain ⟨its, r, ⟨o, n, e, _, _, d⟩, _⟩ := I.list h
  obtain ⟨its', r', ⟨o', n', e', _, _, d'⟩, _⟩ := I.list h'
  rw [e] at e'; cases e'
  rw [d] at d'
  injection d' with d1 _
  have : its = its' := by simpa using congrArg Array.toList d1
  subst this
  exact r.inj r'
end

abbrev Cx.wish (X : Cx) (E : Value → Shared → Prop) : Cx := { X with xe := E }
abbrev Cx.nox (X : Cx) : Cx := X.wish fun _ _ => False
theorem Cx.Ok.wish {X : Cx} (ok : X.Ok) (E : Value → Shared → Prop) : (X.wish E).Ok :=
  ⟨ok.mod, ok.kind, ok.glob, ok.blt, ok.above, ok.inj, ok.has, ok.cab, ok.hd, ok.frames, ok.stk, ok.exf, ok.bs, ok.bsz, ok.noex, ok.exfs, ok.funs, ok.frf⟩
theorem Cx.Ok.unwish {X : Cx} {E : Value → Shared → Prop} (ok : (X.wish E).Ok) : X.Ok :=
  ⟨ok.mod, ok.kind, ok.glob, ok.blt, ok.above, ok.inj, ok.has, ok.cab, ok.hd, ok.frames, ok.stk, ok.exf, ok.bs, ok.bsz, ok.noex, ok.exfs, ok.funs, ok.frf⟩
section
variable {X : Cx} {pins : List (Addr × Obj)} {σ : St} {H : Hp} {s : Shared} {E : Value → Shared → Prop}
theorem Inv.wish (I : Inv X pins σ H s) (E : Value → Shared → Prop) : Inv (X.wish E) pins σ H s := ⟨I.ok.wish E, I.os, I.bare, I.base, I.loc, I.cell, I.free, I.freeC, I.pin, I.hok, I.len⟩
theorem Inv.unwish (I : Inv (X.wish E) pins σ H s) : Inv X pins σ H s := ⟨I.ok.unwish, I.os, I.bare, I.base, I.loc, I.cell, I.free, I.freeC, I.pin, I.hok, I.len⟩
theorem SP.unwish {D : Ends} {f : Flow} {s' : Shared} (h : SP (X.wish E) pins D f s') : SP X pins D f s' := by
  cases f with
  | next => obtain ⟨σ', H', I, q⟩ := h; exact ⟨σ', H', I.unwish, q⟩
  | brk => obtain ⟨σ', H', I, q⟩ := h; exact ⟨σ', H', I.unwish, q⟩
  | cont => obtain ⟨σ', H', I, q⟩ := h; exact ⟨σ', H', I.unwish, q⟩
  | ret u => obtain ⟨v, σ', H', I, r, q⟩ := h; exact ⟨v, σ', H', I.unwish, r, q⟩
theorem PE.nox {e : Expr} {t : TE} (h : PE X.nox e t) : PE X e t := fun pins s σ H Q I hw =>
  wpAny_mono (h pins s σ H Q (I.wish _) hw) (fun _ _ ⟨v, H', I', r, q⟩ => ⟨v, H', I'.unwish, r, q⟩) fun _ _ z => False.elim z
theorem PT.nox {e : Expr} {t : TT} (h : PT X.nox e t) : PT X e t := fun pins s σ H Q I hw =>
  wpAny_mono (h pins s σ H Q (I.wish _) hw) (fun _ _ ⟨H', I', q⟩ => ⟨H', I'.unwish, q⟩) fun _ _ z => False.elim z
theorem PSs.nox {st : List Stmt} {t : TS} (h : PSs X.nox st t) : PSs X st t := fun pins s σ H D I hw =>
  wpAny_mono (h pins s σ H D (I.wish _) hw) (fun _ _ q => q.unwish) fun _ _ z => False.elim z
end

section
variable {X : Cx} {st : Stmt} {rest : List Stmt} {t u : TS} {e : Expr} {te : TE} {pos : Pos}
def tNext : TS := fun D σ H => D.nx σ H
def tSeq (t u : TS) : TS := fun D σ H => t { D with nx := u D } σ H
theorem pss_nil : PSs X [] tNext := fun _ _ σ H _ I h => wpAny_execs_nil ⟨σ, H, I, h⟩
theorem pss_cons (h1 : PS X st t) (h2 : PSs X rest u) : PSs X (st :: rest) (tSeq t u) := by
  intro pins s σ H D I h
  refine wpAny_execs_cons (thn (h1 pins s σ H { D with nx := u D } I h) fun f s1 q => ?_)
  cases f with
  | next =>
    obtain ⟨σ', H', I', q⟩ := q
    exact h2 pins s1 σ' H' D I' q
  | ret v => exact q
  | brk => exact q
  | cont => exact q
theorem pss_one (h1 : PS X st t) : PSs X [st] t := by
  intro pins s σ H D I h
  refine wpAny_execs_cons (thn (h1 pins s σ H D I h) fun f s1 q => ?_)
  cases f with
  | next => exact wpAny_execs_nil q
  | ret v => exact q
  | brk => exact q
  | cont => exact q
theorem Inv.quiet {pins : List (Addr × Obj)} {σ : St} {H : Hp} {s : Shared} (I : Inv X pins σ H s) : interactive X.env = false := by simp [interactive, I.ok.kind]
def tDrop (te : TE) : TS := fun D σ H => te σ H fun _ H1 => D.nx σ H1
theorem ps_expr (he : PE X e te) (hs : swapsWith e none pos.line X.env = pure false := by rfl) : PS X (.Expr e pos) (tDrop te) := by
  intro pins s σ H D I h
  exact wpAny_Expr_any (thn (he pins s σ H _ I h) fun v s1 ⟨x, H1, I1, r1, q1⟩ => ⟨σ, H1, I1, q1⟩) I.quiet hs
def tRet (te : TE) : TS := fun D σ H => te σ H D.rt
theorem ps_ret (he : PE X e te) : PS X (.Return (some e) pos) (tRet te) := by
  intro pins s σ H D I h
  exact wpAny_Return_some (thn (he pins s σ H _ I h) fun v s1 ⟨x, H1, I1, r1, q1⟩ => ⟨x, σ, H1, I1, r1, q1⟩)
def tRetN : TS := fun D _ H => D.rt .non H
def tIfS (c : TT) (t u : TS) : TS := fun D σ H => c σ H fun b H1 => if b = true then t D σ H1 else u D σ H1
theorem ps_if {c : Expr} {a b : List Stmt} {tc : TT} (hc : PT X c tc) (ha : PSs X a t) (hb : PSs X b u) : PS X (.If c a b pos) (tIfS tc t u) := by
  intro pins s σ H D I h
  refine wpAny_If (thn (hc pins s σ H _ I h) fun d s1 ⟨H1, I1, q1⟩ => ?_)
  cases d with
  | true => exact ha pins s1 σ H1 D I1 q1
  | false => exact hb pins s1 σ H1 D I1 q1
end

abbrev TG := V → St → Hp → (St → Hp → Prop) → Prop
abbrev TGs := List V → St → Hp → (St → Hp → Prop) → Prop
def PG (X : Cx) (target : Expr) (t : TG) : Prop :=
  ∀ (pins : List (Addr × Obj)) (s : Shared) (σ : St) (H : Hp) (v : V) (u : Value) (Q : St → Hp → Prop), Inv X pins σ H s → RelV v u → t v σ H Q →
    wpAny (model X.prog X.w) X.A (assign target X.env u) (fun _ s' => ∃ σ' H', Inv X pins σ' H' s' ∧ Q σ' H') X.xe s
def PGs (X : Cx) (ts : List Expr) (t : TGs) : Prop :=
  ∀ (pins : List (Addr × Obj)) (s : Shared) (σ : St) (H : Hp) (vs : List V) (us : List Value) (Q : St → Hp → Prop), Inv X pins σ H s → Vals vs us → t vs σ H Q →
    wpAny (model X.prog X.w) X.A (assignInOrder ((assignEach ts X.env).map (·.2)) us) (fun _ s' => ∃ σ' H', Inv X pins σ' H' s' ∧ Q σ' H') X.xe s
abbrev TIp := V → V → Hp → VK → Prop
def PIp (X : Cx) (op : Operator) (t : TIp) : Prop :=
  ∀ (pins : List (Addr × Obj)) (s : Shared) (σ : St) (H : Hp) (x y : V) (v u : Value) (Q : VK), Inv X pins σ H s → RelV x v → RelV y u → t x y H Q →
    wpAny (model X.prog X.w) X.A (inplaceOp op v u) (EP X pins σ Q) X.xe s
section
variable {X : Cx} {pos : Pos}
def gName (i : Nat) : TG := fun v σ H Q => Q (σ.set i (some v)) H
theorem pg_name {i : Nat} {x : Str} (hN : X.N.Nodup) (hi : X.N[i]? = some x) (hx : Loc X.env.scope x) (hf : X.fn x = true ∨ X.env.scope.names.lookup x = some .local := by first | exact .inl rfl | exact .inr rfl | assumption) : PG X (.Name x pos) (gName i) := by
  intro pins s σ H v u Q I r h
  exact wpAny_assign_Name (store_ok I hN hi hx r (fun s' I' => ⟨_, H, I', h⟩) hf)
def gNil : TGs := fun vs σ H Q => vs = [] ∧ Q σ H
def gCons (t : TG) (u : TGs) : TGs := fun vs σ H Q => ∃ v r, vs = v :: r ∧ t v σ H fun σ' H' => u r σ' H' Q
theorem pgs_nil : PGs X [] gNil := by
  intro pins s σ H vs us Q I r h
  obtain ⟨e, h⟩ := h
  subst e
  cases r
  exact assignInOrder_nil ⟨σ, H, I, h⟩
theorem pgs_cons {e : Expr} {es : List Expr} {t : TG} {u : TGs} (h1 : PG X e t) (h2 : PGs X es u)
    (hs : (assignEach (e :: es) X.env).map (·.2) = assign e X.env :: (assignEach es X.env).map (·.2) := by rfl) : PGs X (e :: es) (gCons t u) := by
  intro pins s σ H vs us Q I r h
  obtain ⟨v, vr, e1, h⟩ := h
  subst e1
  cases r with
  | cons r rr =>
    rw [hs]
    refine assignInOrder_cons (thn (h1 pins s σ H _ _ _ I r h) fun _ s1 ⟨σ1, H1, I1, q1⟩ => ?_)
    exact h2 pins s1 σ1 H1 _ _ Q I1 rr q1
def gTup (K : PySem.W.Frag) (n : Nat) (t : TGs) : TG := fun v σ H Q => ∃ a xs, v = .ref a ∧ SqT K H a xs ∧ xs.length = n ∧ t xs σ H Q
theorem pg_tup {es : List Expr} {k : Nat} {t : TGs} {n : Nat} (hc : X.calm = true) (h : PGs X es t)
    (hn : (assignEach es X.env).length = n := by rfl) (hst : (assignEach es X.env).findIdx? (·.1) = none := by rfl) : PG X (.Tuple es k pos) (gTup X.K n t) := by
  intro pins s σ H v u Q I r hw
  obtain ⟨a, xs, e1, hq, hl, hw⟩ := hw
  subst e1
  cases r
  obtain ⟨its, rv, ht, hz⟩ := I.tuple hq
  refine assign_Tuple_tuple (I.ok.hd hc) ht (by simp [hn, ← hl, rv.length]) hst fun h' hx => ?_
  have I1 : Inv X pins σ H { s with heap := h' } := I.kept (t' := s.toks) fun b o e => hx b o (Nat.ne_of_lt (Heap.lt_size e)) e
  exact h pins _ σ H xs _ Q I1 (by simpa using rv) hw
def tAsg (te : TE) (g : TG) : TS := fun D σ H => te σ H fun x H1 => g x σ H1 D.nx
theorem ps_set {i : Nat} {x : Str} {e : Expr} {te : TE} {pos' : Pos} (hN : X.N.Nodup) (hi : X.N[i]? = some x) (hx : Loc X.env.scope x) (he : PE X e te) (hs : swapsWith e (some (.Name x pos')) pos.line X.env = pure false := by rfl) (hf : X.fn x = true ∨ X.env.scope.names.lookup x = some .local := by first | exact .inl rfl | exact .inr rfl | assumption) :
    PS X (.Assign [.Name x pos'] e pos) (tAsg te (gName i)) := by
  intro pins s σ H D I h
  refine wpAny_Assign_Name (thn (he pins s σ H _ I h) fun v s1 ⟨y, H1, I1, r1, q1⟩ => ?_) hs
  exact store_ok I1 hN hi hx r1 (fun s2 I2 => ⟨_, H1, I2, q1⟩) hf
def tAug (i : Nat) (te : TE) (ti : TIp) : TS := fun D σ H => ∃ x, σ[i]? = some (some x) ∧ te σ H fun y H1 => ti x y H1 fun z H2 => D.nx (σ.set i (some z)) H2
theorem ps_aug {i : Nat} {x : Str} {e : Expr} {te : TE} {op : Operator} {ti : TIp} {pos' : Pos} (hN : X.N.Nodup) (hi : X.N[i]? = some x) (hx : Loc X.env.scope x) (he : PE X e te) (ho : PIp X op ti) (hf : X.fn x = true ∨ X.env.scope.names.lookup x = some .local := by first | exact .inl rfl | exact .inr rfl | assumption) :
    PS X (.AugAssign (.Name x pos') op e pos) (tAug i te ti) := by
  intro pins s σ H D I h
  obtain ⟨v, e1, h⟩ := h
  obtain ⟨m, hn, hl⟩ := I.loc
  have vis : Vis X.env.scope x := by rcases hx with k | k; exact .inl k; exact .inr (.inl k)
  obtain ⟨u, r, l⟩ := hl i x v hi e1 vis
  refine wpAny_AugAssign_Name ?_
  have go : wpAny (model X.prog X.w) X.A (eval e X.env) (fun w s₂ => wpAny (model X.prog X.w) X.A (inplaceOp op u w) (fun r s₃ => wpAny (model X.prog X.w) X.A (storeName X.env x r) (fun _ => SP X pins D .next) X.xe s₃) X.xe s₂) X.xe s := by
    refine thn (he pins s σ H _ I h) fun w s1 ⟨y, H1, I1, r1, q1⟩ => ?_
    refine thn (ho pins s1 σ H1 v y u w _ I1 r r1 q1) fun z s2 ⟨zv, H2, I2, r2, q2⟩ => ?_
    exact store_ok I2 hN hi hx r2 (fun s3 I3 => ⟨_, H2, I3, q2⟩) hf
  rcases l with ⟨hk, hm⟩ | ⟨hk, c, hc, hcell⟩
  · exact wpAny_loadName_local I.ok.kind hk hn hm go
  · rcases hk with hk | hk
    · exact wpAny_loadName_cell I.ok.kind hk hc hcell go
    · rcases hx with k | k
      · have : X.env.scope.names.lookup x = some .free := hk
        rw [k] at this; cases this
      · have : X.env.scope.names.lookup x = some .free := hk
        rw [k] at this; cases this
def ipI (f : Int → Int → Int) : TIp := fun x y H Q => ∃ i j, x = .int i ∧ y = .int j ∧ Q (.int (f i j)) H
theorem ip_add : PIp X .Add (ipI fun i j => i + j) := by
  intro pins s σ H x y v u Q I r1 r2 h
  obtain ⟨i, j, e1, e2, q⟩ := h
  subst e1; subst e2
  obtain ⟨t, rfl⟩ := r1
  obtain ⟨t', rfl⟩ := r2
  exact iadd_int ⟨.int _, H, I.tok _, ⟨_, rfl⟩, q⟩
end

section
variable {X : Cx} {pos : Pos}
def tWhile (c : TT) (tb : TS) : TS := fun D σ H => ∃ W : Nat → St → Hp → Prop, (∃ m, W m σ H) ∧ ∀ m σ H, W m σ H →
  c σ H fun b H1 => if b = true then ∃ N : St → Hp → Prop, (∀ σ' H', N σ' H' → ∃ m', m' < m ∧ W m' σ' H') ∧ tb { D with nx := N, ct := N, bk := D.nx } σ H1 else D.nx σ H1
theorem ps_while {c : Expr} {body : List Stmt} {tc : TT} {tb : TS} (hp : PassesOwn (model X.prog X.w) X.A X.env X.xe) (hc : PT X c tc) (hb : PSs X body tb) : PS X (.While c body [] pos) (tWhile tc tb) := by
  intro pins s σ H D I h
  obtain ⟨W, ⟨m0, w0⟩, turn⟩ := h
  refine wpAny_While (codeAny_whileLoop (fun n s' => ∃ σ' H', Inv X pins σ' H' s' ∧ W n σ' H') ?_ m0 ⟨σ, H, I, w0⟩)
  rintro n s1 ⟨σ1, H1, I1, w1⟩
  refine wpAny_passesOwn hp (thn (hc pins s1 σ1 H1 _ I1 (turn n σ1 H1 w1)) fun b s2 ⟨H2, I2, q2⟩ => ?_)
  cases b with
  | true =>
    obtain ⟨N, hN, q2⟩ := q2
    rw [if_pos rfl]
    refine wpAny_passesOwn hp (thn (hb pins s2 σ1 H2 _ I2 q2) fun f s3 q3 => ?_)
    cases f with
    | next =>
      obtain ⟨σ3, H3, I3, n3⟩ := q3
      obtain ⟨m', hm, w3⟩ := hN σ3 H3 n3
      exact ⟨m', hm, σ3, H3, I3, w3⟩
    | cont =>
      obtain ⟨σ3, H3, I3, n3⟩ := q3
      obtain ⟨m', hm, w3⟩ := hN σ3 H3 n3
      exact ⟨m', hm, σ3, H3, I3, w3⟩
    | brk => exact q3
    | ret v => exact q3
  | false =>
    rw [if_neg Bool.false_ne_true]
    exact wpAny_execs_nil ⟨σ1, H2, I2, q2⟩
end

structure It where
  go : Nat → Hp → Prop
  yld : Nat → Hp → V → Hp → Prop
  stop : Nat → Hp → Prop
def FpOk (X : Cx) (pins : List (Addr × Obj)) (H : Hp) (b : Addr) : Prop :=
  H b = none ∧ b ≠ X.env.locals ∧ b ∉ X.fs ∧ (b ∈ X.ex ∨ X.s_0.heap.objs.size ≤ b) ∧ (∀ x c, X.env.cells.lookup x = some c → c ≠ b) ∧ ∀ p ∈ X.pn ++ pins, p.1 ≠ b
theorem Inv.fpOk {X : Cx} {pins : List (Addr × Obj)} {σ : St} {H H' : Hp} {s : Shared} {b : Addr} (I : Inv X pins σ H s) (hb : s.heap.objs.size ≤ b) (hn : H' b = none) : FpOk X pins H' b := by
  refine ⟨hn, Nat.ne_of_gt (Nat.lt_of_lt_of_le I.lt hb), I.nofs hb, .inr (Nat.le_trans I.sz hb), fun x c e z => ?_, fun p hp z => ?_⟩
  · obtain ⟨v, q⟩ := I.cell x c e
    exact absurd (Nat.lt_of_lt_of_le q.lt (by rw [z]; exact hb)) (Nat.lt_irrefl _)
  · exact absurd (Nat.lt_of_lt_of_le (Heap.lt_size (I.pin p hp).1) (by rw [z]; exact hb)) (Nat.lt_irrefl _)
structure Turn (P : Program) (w : World) (K : PySem.W.Frag) (tg : Expr) (J : It) (fp : List Addr) (it : Addr) (tn : Nat → Heap → Prop) : Prop where
  mem : it ∈ fp
  obj : ∀ i h, tn i h → ∀ b ∈ fp, ∃ o, h.get? b = some o ∧ ∀ v, o.data ≠ .cell v
  keep : ∀ i h h', tn i h → (∀ b ∈ fp, ∀ o, h.get? b = some o → h'.get? b = some o) → tn i h'
  item : ∀ (X : Cx), X.prog = P → X.w = w → X.K = K → X.calm = true → ∀ (i : Nat) (pins : List (Addr × Obj)) (s : Shared) (σ : St) (H : Hp) (E : Value → Shared → Prop), Inv X pins σ H s → (∀ b ∈ fp, FpOk X pins H b) → tn i s.heap → J.go i H →
    wpAny (model P w) X.A (pyNext (.ref it)) (fun r s1 => ∃ u, r = some u ∧
      wpAny (model P w) X.A (letOwnedTupleGo tg (.ref it) u) (fun _ s2 => ∃ x H', Inv X pins σ H' s2 ∧ RelV x u ∧ J.yld i H x H' ∧ tn (i + 1) s2.heap ∧ ∀ b ∈ fp, H' b = none) E s1) E s
  done : ∀ (X : Cx), X.prog = P → X.w = w → X.K = K → X.calm = true → ∀ (i : Nat) (pins : List (Addr × Obj)) (s : Shared) (σ : St) (H : Hp) (E : Value → Shared → Prop), Inv X pins σ H s → (∀ b ∈ fp, FpOk X pins H b) → tn i s.heap → J.stop i H →
    wpAny (model P w) X.A (pyNext (.ref it)) (fun r s1 => r = none ∧ Inv X pins σ H s1) E s
  self : ∀ (A : Around) (i : Nat) (s : Shared) (Q : Value → Shared → Prop) (E : Value → Shared → Prop), tn i s.heap → Q (.ref it) s → wpAny (model P w) A (pyIter (.ref it)) Q E s
abbrev TI := St → Hp → (It → Hp → Prop) → Prop
def PIE (X : Cx) (pins : List (Addr × Obj)) (σ : St) (tg : Expr) (R : It → Hp → Prop) (itv : Value) (s2 : Shared) : Prop :=
  ∃ (it : Addr) (fp : List Addr) (tn : Nat → Heap → Prop) (J : It) (H' : Hp), itv = .ref it ∧ Inv X pins σ H' s2 ∧ Turn X.prog X.w X.K tg J fp it tn ∧ tn 0 s2.heap ∧ (∀ b ∈ fp, FpOk X pins H' b) ∧ R J H'
def PI (X : Cx) (tg iter : Expr) (wi : TI) : Prop :=
  ∀ (pins : List (Addr × Obj)) (s : Shared) (σ : St) (H : Hp) (R : It → Hp → Prop), Inv X pins σ H s → wi σ H R →
    wpAny (model X.prog X.w) X.A (eval iter X.env) (fun v s1 => wpAny (model X.prog X.w) X.A (pyIter v) (PIE X pins σ tg R) X.xe s1) X.xe s

theorem go_of {M : Model} {A : Around} {E : Value → Shared → Prop} {s : Shared} {tg : Expr} {it : Addr} {u : Value} {o : Obj} {n : String} {vs : Array Value} {Q : Unit → Shared → Prop} (ho : s.heap.get? it = some o) (hc : o.cls = .type n) (hd : o.data = .fields vs)
    (hn : ["enumerate", "zip", "dict_itemiterator", "dict_reverseitemiterator", "odict_iterator", "itertools.zip_longest", "itertools.pairwise"].contains n = false) (hQ : Q () s) : wpAny M A (letOwnedTupleGo tg (.ref it) u) Q E s := by
  unfold letOwnedTupleGo
  cases tg <;> first
    | exact wpAny_pure hQ
    | (cases u <;> first
        | exact wpAny_pure hQ
        | (refine wpAny_bind (wpAny_load ho ?_)
           rw [hc, hd]
           show wpAny M A (if (["enumerate", "zip", "dict_itemiterator", "dict_reverseitemiterator", "odict_iterator", "itertools.zip_longest", "itertools.pairwise"].contains n && vs[0]? == some (rawInt _)) = true then _ else _) Q E s
           rw [if_neg (by intro h; rw [hn, Bool.false_and] at h; cases h)]
           exact wpAny_pure hQ))

def Itl (K : PySem.W.Frag) (a : Addr) : It :=
  ⟨fun i H => ∃ xs x, SqL K H a xs ∧ xs[i]? = some x, fun i H x H' => H' = H ∧ ∀ xs, SqL K H a xs → xs[i]? = some x, fun i H => ∃ xs, SqL K H a xs ∧ xs.length ≤ i⟩
def Itr (lo : Int) (n : Nat) : It := ⟨fun i _ => i < n, fun i H x H' => H' = H ∧ x = .int (lo + i), fun i _ => n ≤ i⟩
theorem turn_list {P : Program} {w : World} {K : PySem.W.Frag} {tg : Expr} (a it : Addr) : Turn P w K tg (Itl K a) [it] it (fun i h => h.IsListIter it a i) where
  mem := by simp
  obj := fun i h st b hb => by
    have e : b = it := by simpa using hb
    subst e
    obtain ⟨o, e, c, d⟩ := st
    exact ⟨o, e, fun v z => by rw [d] at z; cases z⟩
  keep := fun i h h' st k => st.at fun o e => k it (by simp) o e
  item := by
    intro X hP hw hK hc i pins s σ H E I hf st hg
    subst hP hw hK
    obtain ⟨xs, x, hq, hx⟩ := hg
    obtain ⟨its, rv, p, hz⟩ := I.list hq
    obtain ⟨u, hu, ru⟩ := rv.get hx
    obtain ⟨f0, f1, f2, f3, f4, f5⟩ := hf it (by simp)
    refine wpAny_pyNext_list_item st p.isList (x := u) (by simpa using hu) fun h' st' sb => ?_
    have I1 : Inv X pins σ H { s with heap := h' } := I.turned (t' := s.toks) (fun b o hb e => (sb.2 b hb).trans e) f0 f1 f3 f4 f5
    obtain ⟨o, e, c, d⟩ := id st'
    exact ⟨u, rfl, go_of (s := { s with heap := h' }) e c d (by decide) ⟨x, H, I1, ru, ⟨rfl, fun ys hy => by rw [I.list_inj hy hq]; exact hx⟩, st', fun b hb => (hf b hb).1⟩⟩
  done := by
    intro X hP hw hK hc i pins s σ H E I hf st hg
    subst hP hw hK
    obtain ⟨xs, hq, hx⟩ := hg
    obtain ⟨its, rv, p, hz⟩ := I.list hq
    obtain ⟨f0, f1, f2, f3, f4, f5⟩ := hf it (by simp)
    have hl := rv.length
    exact wpAny_pyNext_list_end (I.ok.hd hc) st p.isList (by simp; omega) fun h' eb => ⟨rfl, I.turned (t' := s.toks) (fun b o hb e => eb b o hb e) f0 f1 f3 f4 f5⟩
  self := fun _ _ _ _ _ st h => wpAny_pyIter_listiter st h
theorem turn_range {P : Program} {w : World} {K : PySem.W.Frag} {tg : Expr} (it : Addr) (lo : Int) (n : Nat) : Turn P w K tg (Itr lo n) [it] it (fun i h => IsRangeIter h it (lo + (i : Nat) * 1) ((n : Int) - (i : Nat)) 1) where
  mem := by simp
  obj := fun i h st b hb => by
    have e : b = it := by simpa using hb
    subst e
    exact ⟨_, st, fun v z => by
      have z' : Data.fields _ = Data.cell v := z
      cases z'⟩
  keep := fun i h h' st k => k it (by simp) _ st
  item := by
    intro X hP hw hK hc i pins s σ H E I hf st hg
    subst hP hw hK
    obtain ⟨f0, f1, f2, f3, f4, f5⟩ := hf it (by simp)
    have W := Walks.range (prog := X.prog) (w := X.w) (I.ok.hd hc) it lo 1 n
    refine W.item i s _ _ hg st fun v h' tk hv st' kk => ?_
    obtain ⟨t, rfl⟩ := hv
    have I1 : Inv X pins σ H { s with heap := h', toks := tk } := I.turned (fun b o hb e => kk b o (by simpa using hb) e) f0 f1 f3 f4 f5
    refine ⟨_, rfl, go_of (s := { s with heap := h', toks := tk }) (n := "range_iterator") st' rfl rfl (by decide) ⟨.int (lo + i), H, I1, ⟨t, ?_⟩, ⟨rfl, rfl⟩, st', fun b hb => (hf b hb).1⟩⟩
    rw [Int.mul_one]
  done := by
    intro X hP hw hK hc i pins s σ H E I hf st hg
    subst hP hw hK
    obtain ⟨f0, f1, f2, f3, f4, f5⟩ := hf it (by simp)
    exact wpAny_pyNext_range_end (I.ok.hd hc) st (by have : n ≤ i := hg; omega) fun h' eb => ⟨rfl, I.turned (t' := s.toks) (fun b o hb e => eb b o hb e) f0 f1 f3 f4 f5⟩
  self := fun _ _ _ _ _ st h => wpAny_pyIter_rangeiter st h
end L2

namespace L2
open PySem PySem.Spec PyProof.Rows
section
variable {X : Cx} {tg : Expr}
def iList (K : PySem.W.Frag) (tl : TE) : TI := fun σ H R => tl σ H fun x H1 => ∃ a, x = .ref a ∧ (∃ xs, SqL K H1 a xs) ∧ R (Itl K a) H1
theorem pi_list {l : Expr} {tl : TE} (hl : PE X l tl) : PI X tg l (iList X.K tl) := by
  intro pins s σ H R I h
  refine thn (hl pins s σ H _ I h) fun v s1 ⟨x, H1, I1, r1, q1⟩ => ?_
  obtain ⟨a, e, ⟨xs, hq⟩, q⟩ := q1
  subst e
  cases r1
  obtain ⟨its, rv, p, hz⟩ := I1.list hq
  refine wpAny_pyIter_list p.isList ?_
  refine ⟨s1.heap.objs.size, [s1.heap.objs.size], _, _, H1, rfl, I1.kept (t' := s1.toks) fun b o e => Heap.get?_push_of_some _ e, turn_list a _, ⟨_, Heap.get?_push_size _ rfl, rfl, rfl⟩, fun b hb => ?_, q⟩
  have e : b = s1.heap.objs.size := by simpa using hb
  subst e
  exact I1.fpOk (Nat.le_refl _) (I1.hok.fresh (Nat.le_refl _))
theorem range_it {pins : List (Addr × Obj)} {σ : St} {H : Hp} {s : Shared} {R : It → Hp → Prop} {E : Value → Shared → Prop} {lo hi : Int} {t u v : Tok} {tk : Nat} (I : Inv X pins σ H s) (h1 : -(2 ^ 62) ≤ lo) (h2 : lo < 2 ^ 62) (h3 : -(2 ^ 62) ≤ hi) (h4 : hi < 2 ^ 62)
    (q : R (Itr lo (hi - lo).toNat) H) : wpAny (model X.prog X.w) X.A (pyIter (.ref s.heap.objs.size)) (PIE X pins σ tg R) E { s with heap := s.heap.push { cls := .type "range", data := .fields #[.int lo t, .int hi u, .int 1 v] }, toks := tk } := by
  refine wpAny_pyIter_range (IsRange.new ..) (small_one h1 h2 h3 h4) ?_
  have I1 : Inv X pins σ H { s with heap := s.heap.push { cls := .type "range", data := .fields #[.int lo t, .int hi u, .int 1 v] }, toks := tk } := I.kept fun b o e => Heap.get?_push_of_some _ e
  refine ⟨(s.heap.push { cls := .type "range", data := .fields #[.int lo t, .int hi u, .int 1 v] }).objs.size, [(s.heap.push { cls := .type "range", data := .fields #[.int lo t, .int hi u, .int 1 v] }).objs.size], _, _, H, rfl,
    I1.kept (t' := tk) fun b o e => Heap.get?_push_of_some _ e, turn_range _ lo (hi - lo).toNat, ?_, fun b hb => ?_, q⟩
  · have e1 : lo + ((0 : Nat) : Int) * 1 = lo := by simp
    have e2 : (((hi - lo).toNat : Nat) : Int) - ((0 : Nat) : Int) = Builtin.Range.rangeSize lo hi 1 := by rw [rangeSize_one]; split <;> omega
    show IsRangeIter _ _ (lo + ((0 : Nat) : Int) * 1) ((((hi - lo).toNat : Nat) : Int) - ((0 : Nat) : Int)) 1
    rw [e1, e2]
    exact Heap.get?_push_size _ rfl
  · have e : b = (s.heap.push { cls := .type "range", data := .fields #[.int lo t, .int hi u, .int 1 v] }).objs.size := by simpa using hb
    subst e
    exact I1.fpOk (Nat.le_refl _) (I1.hok.fresh (Nat.le_refl _))
def iRng1 (ta : TA) : TI := fun σ H R => ta σ H fun vs H1 => ∃ j : Int, vs = [.int j] ∧ -(2 ^ 62) ≤ j ∧ j < 2 ^ 62 ∧ R (Itr 0 j.toNat) H1
def iRng2 (ta : TA) : TI := fun σ H R => ta σ H fun vs H1 => ∃ i j : Int, vs = [.int i, .int j] ∧ (-(2 ^ 62) ≤ i ∧ i < 2 ^ 62 ∧ -(2 ^ 62) ≤ j ∧ j < 2 ^ 62) ∧ R (Itr i (j - i).toNat) H1
theorem pi_range1 {a : Expr} {ta : TA} {p pos : Pos} (hg : Gl X "range") (hm : X.mg "range" = none) (ha : PA X [a] ta) (hs : starEach [a] X.env = [(false, eval a X.env)] := by rfl) : PI X tg (.Call (.Name "range" p) [a] [] pos) (iRng1 ta) := by
  intro pins s σ H R I h
  refine Call_ (ld_blt I hg hm boot_range (PyProof.Rows.callWith_type1 (thn (ha pos pins s σ H _ I h) fun us s1 ⟨vs, H1, I1, r1, q1⟩ => ?_) hs rfl))
  obtain ⟨j, e, q1, q2, q⟩ := q1
  subst e
  cases r1 with
  | cons r rr =>
    cases rr
    obtain ⟨t, rfl⟩ := r
    exact call_range_1 (range_it I1 (by omega) (by omega) q1 q2 (by simpa using q))
theorem pi_range2 {a b : Expr} {ta : TA} {p pos : Pos} (hg : Gl X "range") (hm : X.mg "range" = none) (ha : PA X [a, b] ta) (hs : starEach [a, b] X.env = [(false, eval a X.env), (false, eval b X.env)] := by rfl) (hs2 : starEach [b] X.env = [(false, eval b X.env)] := by rfl) :
    PI X tg (.Call (.Name "range" p) [a, b] [] pos) (iRng2 ta) := by
  intro pins s σ H R I h
  refine Call_ (ld_blt I hg hm boot_range (PyProof.Rows.callWith_type1 (thn (ha pos pins s σ H _ I h) fun us s1 ⟨vs, H1, I1, r1, q1⟩ => ?_) (by rw [hs, hs2]) (by rw [hs2]; rfl)))
  obtain ⟨i, j, e, ⟨q1, q2, q3, q4⟩, q⟩ := q1
  subst e
  cases r1 with
  | cons r rr =>
    cases rr with
    | cons r' rr =>
      cases rr
      obtain ⟨t, rfl⟩ := r
      obtain ⟨t', rfl⟩ := r'
      exact call_range_2 (range_it I1 q1 q2 q3 q4 q)

def tFor (wi : TI) (g : TG) (tb : TS) : TS := fun D σ H => wi σ H fun J H1 => ∃ W : Nat → Nat → St → Hp → Prop, (∃ m, W 0 m σ H1) ∧ ∀ i m σ H, W i m σ H →
  (J.stop i H ∧ D.nx σ H) ∨ (J.go i H ∧ ∃ N : St → Hp → Prop, (∀ σ' H', N σ' H' → ∃ m', m' < m ∧ W (i + 1) m' σ' H') ∧ ∀ x H', J.yld i H x H' → g x σ H' fun σ2 H2 => tb { D with nx := N, ct := N, bk := D.nx } σ2 H2)
def pinsAt (fp : List Addr) (h : Heap) : List (Addr × Obj) := fp.filterMap fun b => (h.get? b).map fun o => (b, o)
theorem mem_pinsAt {fp : List Addr} {h : Heap} {b : Addr} {o : Obj} (hb : b ∈ fp) (e : h.get? b = some o) : (b, o) ∈ pinsAt fp h := List.mem_filterMap.mpr ⟨b, hb, by rw [e]; rfl⟩
theorem of_pinsAt {fp : List Addr} {h : Heap} {p : Addr × Obj} (hp : p ∈ pinsAt fp h) : p.1 ∈ fp ∧ h.get? p.1 = some p.2 := by
  obtain ⟨b, hb, e⟩ := List.mem_filterMap.mp hp
  cases q : h.get? b with
  | none => rw [q] at e; cases e
  | some o =>
    rw [q] at e
    have e' : (b, o) = p := Option.some.inj e
    subst e'
    exact ⟨hb, q⟩
theorem Inv.pinned {pins : List (Addr × Obj)} {σ : St} {H : Hp} {s : Shared} {fp : List Addr} (I : Inv X pins σ H s) (hf : ∀ b ∈ fp, FpOk X pins H b) (ho : ∀ b ∈ fp, ∃ o, s.heap.get? b = some o ∧ ∀ v, o.data ≠ .cell v) : Inv X (pins ++ pinsAt fp s.heap) σ H s :=
  I.pins_of fun p hp => (List.mem_append.mp hp).elim (fun z => I.pin p (List.mem_append_right _ z)) fun z => by
    obtain ⟨hb, e⟩ := of_pinsAt z
    obtain ⟨f0, f1, f2, _⟩ := hf p.1 hb
    obtain ⟨o, e', d⟩ := ho p.1 hb
    rw [e] at e'; cases e'
    exact ⟨e, f0, f1, f2, d⟩
theorem Inv.unpinned {pins pl : List (Addr × Obj)} {σ : St} {H : Hp} {s : Shared} (I : Inv X (pins ++ pl) σ H s) : Inv X pins σ H s := I.pins_of fun p hp => I.pin p (List.mem_append_right _ (List.mem_append_left _ hp))
theorem ps_for {iter : Expr} {body : List Stmt} {wi : TI} {g : TG} {tb : TS} {pos : Pos} (hp : PassesOwn (model X.prog X.w) X.A X.env X.xe) (hc : X.calm = true) (hi : PI X tg iter wi) (hg : PG X tg g) (hb : PSs X body tb)
    (hs : ∀ x, foldedSetIterable iter X.env x = pure x := by intro _; rfl) : PS X (.For tg iter body [] pos) (tFor wi g tb) := by
  intro pins s σ H D I h
  refine wpAny_For (thn (hi pins s σ H _ I h) fun v s1 h1 => thn h1 fun itv s2 h2 => ?_) hs
  obtain ⟨it, fp, tn, J, H2, e, I2, T, st2, f2, W, ⟨m0, w0⟩, turn⟩ := h2
  subst e
  -- what stays true of the iterator's objects through the loop
  have stat : ∀ {H' : Hp}, (∀ b ∈ fp, H' b = none) → ∀ b ∈ fp, FpOk X pins H' b := fun hn b hb => ⟨hn b hb, (f2 b hb).2⟩
  refine codeAny_forLoop_any (fun n s' => ∃ i σ' H', Inv X pins σ' H' s' ∧ tn i s'.heap ∧ (∀ b ∈ fp, H' b = none) ∧ W i n σ' H') ?_ m0 ⟨0, σ, H2, I2, st2, fun b hb => (f2 b hb).1, w0⟩
  rintro n s3 ⟨i, σ3, H3, I3, st3, fr3, w3⟩
  rcases turn i n σ3 H3 w3 with ⟨stop, qn⟩ | ⟨go, N, hN, step⟩
  · refine wpAny_passesOwn hp (thn (T.done X rfl rfl rfl hc i pins s3 σ3 H3 X.xe I3 (stat fr3) st3 stop) fun r s4 ⟨hr, I4⟩ => ?_)
    subst hr
    exact wpAny_execs_nil ⟨σ3, H3, I4, qn⟩
  · refine wpAny_passesOwn hp (thn (T.item X rfl rfl rfl hc i pins s3 σ3 H3 X.xe I3 (stat fr3) st3 go) fun r s4 ⟨u, hr, h4⟩ => ?_)
    subst hr
    refine wpAny_passesOwn hp (thn h4 fun _ s5 ⟨x, H5, I5, r5, y5, st5, fr5⟩ => ?_)
    have I5' := I5.pinned (stat fr5) (T.obj _ _ st5)
    refine wpAny_passesOwn hp (thn (hg _ s5 σ3 H5 x u _ I5' r5 (step x H5 y5)) fun _ s6 ⟨σ6, H6, I6, q6⟩ => ?_)
    refine wpAny_passesOwn hp (thn (hb _ s6 σ6 H6 _ I6 q6) fun f s7 q7 => ?_)
    have again : ∀ {σ7 : St} {H7 : Hp}, Inv X (pins ++ pinsAt fp s5.heap) σ7 H7 s7 → N σ7 H7 → ∃ m, m < n ∧ ∃ i σ' H', Inv X pins σ' H' s7 ∧ tn i s7.heap ∧ (∀ b ∈ fp, H' b = none) ∧ W i m σ' H' := fun {σ7 H7} I7 n7 => by
      obtain ⟨m', hm, w7⟩ := hN σ7 H7 n7
      refine ⟨m', hm, i + 1, σ7, H7, I7.unpinned, T.keep _ _ _ st5 fun b hb o e => (I7.pin (b, o) (List.mem_append_right _ (List.mem_append_right _ (mem_pinsAt hb e)))).1, fun b hb => ?_, w7⟩
      obtain ⟨o, e, d⟩ := T.obj _ _ st5 b hb
      exact (I7.pin (b, o) (List.mem_append_right _ (List.mem_append_right _ (mem_pinsAt hb e)))).2.1
    cases f with
    | next => obtain ⟨σ7, H7, I7, n7⟩ := q7; exact again I7 n7
    | cont => obtain ⟨σ7, H7, I7, n7⟩ := q7; exact again I7 n7
    | brk => obtain ⟨σ7, H7, I7, q7⟩ := q7; exact ⟨σ7, H7, I7.unpinned, q7⟩
    | ret v => obtain ⟨x7, σ7, H7, I7, r7, q7⟩ := q7; exact ⟨x7, σ7, H7, I7.unpinned, r7, q7⟩
end

theorem for_list {K : PySem.W.Frag} {a : Addr} {xs : List V} {g : TG} {tb : TS} {D : Ends} {σ : St} {H : Hp} (Pv : Nat → St → Hp → Prop) (h0 : Pv 0 σ H) (hl : ∀ i σ H, i ≤ xs.length → Pv i σ H → SqL K H a xs)
    (hs : ∀ i x σ H, xs[i]? = some x → Pv i σ H → g x σ H fun σ2 H2 => tb { D with nx := Pv (i + 1), ct := Pv (i + 1), bk := D.nx } σ2 H2) (hd : ∀ σ H, Pv xs.length σ H → D.nx σ H) :
    ∃ W : Nat → Nat → St → Hp → Prop, (∃ m, W 0 m σ H) ∧ ∀ i m σ H, W i m σ H →
      ((Itl K a).stop i H ∧ D.nx σ H) ∨ ((Itl K a).go i H ∧ ∃ N : St → Hp → Prop, (∀ σ' H', N σ' H' → ∃ m', m' < m ∧ W (i + 1) m' σ' H') ∧ ∀ x H', (Itl K a).yld i H x H' → g x σ H' fun σ2 H2 => tb { D with nx := N, ct := N, bk := D.nx } σ2 H2) := by
  refine ⟨fun i m σ H => m = xs.length - i ∧ i ≤ xs.length ∧ Pv i σ H, ⟨xs.length, by simp, Nat.zero_le _, h0⟩, ?_⟩
  rintro i m σ H ⟨rfl, hi, p⟩
  have q := hl i σ H hi p
  by_cases hlt : i < xs.length
  · refine .inr ⟨⟨xs, xs[i], q, by simp [hlt]⟩, Pv (i + 1), fun σ' H' p' => ⟨xs.length - (i + 1), by omega, rfl, hlt, p'⟩, fun x H' y => ?_⟩
    obtain ⟨e, y⟩ := y
    subst e
    exact hs i x σ _ (y xs q) p
  · have e : i = xs.length := by omega
    subst e
    exact .inl ⟨⟨xs, q, Nat.le_refl _⟩, hd σ H p⟩
theorem for_range {lo : Int} {n : Nat} {g : TG} {tb : TS} {D : Ends} {σ : St} {H : Hp} (Pv : Nat → St → Hp → Prop) (h0 : Pv 0 σ H)
    (hs : ∀ i σ H, i < n → Pv i σ H → g (.int (lo + i)) σ H fun σ2 H2 => tb { D with nx := Pv (i + 1), ct := Pv (i + 1), bk := D.nx } σ2 H2) (hd : ∀ σ H, Pv n σ H → D.nx σ H) :
    ∃ W : Nat → Nat → St → Hp → Prop, (∃ m, W 0 m σ H) ∧ ∀ i m σ H, W i m σ H →
      ((Itr lo n).stop i H ∧ D.nx σ H) ∨ ((Itr lo n).go i H ∧ ∃ N : St → Hp → Prop, (∀ σ' H', N σ' H' → ∃ m', m' < m ∧ W (i + 1) m' σ' H') ∧ ∀ x H', (Itr lo n).yld i H x H' → g x σ H' fun σ2 H2 => tb { D with nx := N, ct := N, bk := D.nx } σ2 H2) := by
  refine ⟨fun i m σ H => m = n - i ∧ i ≤ n ∧ Pv i σ H, ⟨n, by simp, Nat.zero_le _, h0⟩, ?_⟩
  rintro i m σ H ⟨rfl, hi, p⟩
  by_cases hlt : i < n
  · refine .inr ⟨hlt, Pv (i + 1), fun σ' H' p' => ⟨n - (i + 1), by omega, rfl, hlt, p'⟩, fun x H' y => ?_⟩
    obtain ⟨e, y⟩ := y
    subst e y
    exact hs i σ _ hlt p
  · have e : i = n := by omega
    subst e
    exact .inl ⟨Nat.le_refl _, hd σ H p⟩
end L2

namespace L2
open PySem PySem.Spec PyProof.Rows

abbrev R2 := V → V → Hp → VK → Prop
def OpR (X : Cx) (f : Value → Value → Sem Value) (r : R2) : Prop :=
  ∀ (pins : List (Addr × Obj)) (s : Shared) (σ : St) (H : Hp) (x y : V) (v u : Value) (Q : VK), Inv X pins σ H s → RelV x v → RelV y u → r x y H Q →
    wpAny (model X.prog X.w) X.A (f v u) (EP X pins σ Q) X.xe s
def UnR (X : Cx) (f : Value → Sem Value) (r : V → Hp → VK → Prop) : Prop :=
  ∀ (pins : List (Addr × Obj)) (s : Shared) (σ : St) (H : Hp) (x : V) (v : Value) (Q : VK), Inv X pins σ H s → RelV x v → r x H Q →
    wpAny (model X.prog X.w) X.A (f v) (EP X pins σ Q) X.xe s
def CallR (X : Cx) (f : Value) (r : List V → Hp → VK → Prop) : Prop :=
  ∀ (pins : List (Addr × Obj)) (s : Shared) (σ : St) (H : Hp) (xs : List V) (us : List Value) (Q : VK), Inv X pins σ H s → Vals xs us → r xs H Q →
    wpAny (model X.prog X.w) X.A (call f us) (EP X pins σ Q) X.xe s
def TruR (X : Cx) (r : V → Hp → (Bool → Hp → Prop) → Prop) : Prop :=
  ∀ (pins : List (Addr × Obj)) (s : Shared) (σ : St) (H : Hp) (x : V) (v : Value) (Q : Bool → Hp → Prop), Inv X pins σ H s → RelV x v → r x H Q →
    wpAny (model X.prog X.w) X.A (truthy v) (TP X pins σ Q) X.xe s

def tOp (r : R2) (ta tb : TE) : TE := fun σ H Q => ta σ H fun x H1 => tb σ H1 fun y H2 => r x y H2 Q
def tUn (r : V → Hp → VK → Prop) (ta : TE) : TE := fun σ H Q => ta σ H fun x H1 => r x H1 Q
def rI (C : Int → Int → Prop) (g : Int → Int → V) : R2 := fun x y H Q => ∃ i j, x = .int i ∧ y = .int j ∧ C i j ∧ Q (g i j) H
def rI0 (g : Int → Int → V) : R2 := fun x y H Q => ∃ i j, x = .int i ∧ y = .int j ∧ Q (g i j) H
def rU (g : Int → V) : V → Hp → VK → Prop := fun x H Q => ∃ i, x = .int i ∧ Q (g i) H

section
variable {X : Cx} {a b c : Expr} {ta tb tc : TE} {pos : Pos}

theorem binT (ha : PE X a ta) (hb : PE X b tb) {pins : List (Addr × Obj)} {s : Shared} {σ : St} {H : Hp} {R : V → V → Hp → Prop} (I : Inv X pins σ H s)
    (h : ta σ H fun x H1 => tb σ H1 fun y H2 => R x y H2) {Q : Value → Shared → Prop} {f : Value → Value → Sem Value}
    (hf : ∀ v u s2 x y H2, Inv X pins σ H2 s2 → RelV x v → RelV y u → R x y H2 → wpAny (model X.prog X.w) X.A (f v u) Q X.xe s2) :
    wpAny (model X.prog X.w) X.A (eval a X.env) (fun v s₁ => wpAny (model X.prog X.w) X.A (eval b X.env) (fun u s₂ => wpAny (model X.prog X.w) X.A (f v u) Q X.xe s₂) X.xe s₁) X.xe s := by
  refine thn (ha pins s σ H _ I h) fun v s1 ⟨x, H1, I1, r1, q1⟩ => ?_
  refine thn (hb pins s1 σ H1 _ I1 q1) fun u s2 ⟨y, H2, I2, r2, q2⟩ => ?_
  exact hf v u s2 x y H2 I2 r1 r2 q2

theorem pe_op {op : Operator} {r : R2} (ho : OpR X (binaryOp op) r) (ha : PE X a ta) (hb : PE X b tb) : PE X (.BinOp a op b pos) (tOp r ta tb) := by
  intro pins s σ H Q I h
  exact wpAny_BinOp (binT ha hb I h fun v u s2 x y H2 I2 rx ry q => ho pins s2 σ H2 x y v u Q I2 rx ry q)
theorem pe_un {op : UnaryOp} {r : V → Hp → VK → Prop} (ho : UnR X (unaryOp op) r) (ha : PE X a ta) : PE X (.UnaryOp op a pos) (tUn r ta) := by
  intro pins s σ H Q I h
  exact UnaryOp_ (thn (ha pins s σ H _ I h) fun v s1 ⟨x, H1, I1, r1, q1⟩ => ho pins s1 σ H1 x v Q I1 r1 q1)
theorem opI {f : Value → Value → Sem Value} {C : Int → Int → Prop} {g : Int → Int → Int}
    (rule : ∀ (i j : Int) (t u : Tok) (s : Shared) (Q : Value → Shared → Prop) (E : Value → Shared → Prop), C i j → Q (.int (g i j) s.toks) { s with toks := s.toks + 1 } → wpAny (model X.prog X.w) X.A (f (.int i t) (.int j u)) Q E s) :
    OpR X f (rI C fun i j => .int (g i j)) := by
  intro pins s σ H x y v u Q I rx ry h
  obtain ⟨i, j, rfl, rfl, hc, q⟩ := h
  obtain ⟨t, rfl⟩ := rx
  obtain ⟨t', rfl⟩ := ry
  exact rule i j t t' s _ _ hc ⟨.int (g i j), H, I.tok _, ⟨_, rfl⟩, q⟩
theorem opI0 {f : Value → Value → Sem Value} {g : Int → Int → Int}
    (rule : ∀ (i j : Int) (t u : Tok) (s : Shared) (Q : Value → Shared → Prop) (E : Value → Shared → Prop), Q (.int (g i j) s.toks) { s with toks := s.toks + 1 } → wpAny (model X.prog X.w) X.A (f (.int i t) (.int j u)) Q E s) :
    OpR X f (rI0 fun i j => .int (g i j)) := by
  intro pins s σ H x y v u Q I rx ry h
  obtain ⟨i, j, rfl, rfl, q⟩ := h
  obtain ⟨t, rfl⟩ := rx
  obtain ⟨t', rfl⟩ := ry
  exact rule i j t t' s _ _ ⟨.int (g i j), H, I.tok _, ⟨_, rfl⟩, q⟩
theorem opB0 {f : Value → Value → Sem Value} {g : Int → Int → Bool}
    (rule : ∀ (i j : Int) (t u : Tok) (s : Shared) (Q : Value → Shared → Prop) (E : Value → Shared → Prop), Q (.bool (g i j)) s → wpAny (model X.prog X.w) X.A (f (.int i t) (.int j u)) Q E s) :
    OpR X f (rI0 fun i j => .bl (g i j)) := by
  intro pins s σ H x y v u Q I rx ry h
  obtain ⟨i, j, rfl, rfl, q⟩ := h
  obtain ⟨t, rfl⟩ := rx
  obtain ⟨t', rfl⟩ := ry
  exact rule i j t t' s _ _ ⟨.bl (g i j), H, I, rfl, q⟩

def CDiv (i j : Int) : Prop := 0 < j ∧ j < 1073741824
def CPow (i j : Int) : Prop := 0 ≤ j ∧ j ≤ 1000000 ∧ i.natAbs < 2 ^ 64
def CMul (i j : Int) : Prop := (-(2 ^ 64) < i ∧ i < 2 ^ 64) ∨ (-(2 ^ 64) < j ∧ j < 2 ^ 64)
theorem CMul.ok {i j : Int} (h : CMul i j) : IntMulOk i j := by
  rcases h with ⟨h1, h2⟩ | ⟨h1, h2⟩
  · exact .of_left (intBits_le_64 h1 h2)
  · exact .of_right (intBits_le_64 h1 h2)
theorem op_add : OpR X (binaryOp .Add) (rI0 fun i j => .int (i + j)) := opI0 fun _ _ _ _ _ _ _ q => add_int q
theorem op_sub : OpR X (binaryOp .Sub) (rI0 fun i j => .int (i - j)) := opI0 fun _ _ _ _ _ _ _ q => sub_int q
theorem op_mul : OpR X (binaryOp .Mult) (rI CMul fun i j => .int (i * j)) := opI fun _ _ _ _ _ _ _ hc q => mul_int q hc.ok
theorem op_fdiv : OpR X (binaryOp .FloorDiv) (rI CDiv fun i j => .int (i / j)) := opI fun i j _ _ _ _ _ hc q => by
  have h1 : (0 : Int) < j := hc.1
  have h2 : j < 1073741824 := hc.2
  exact floordiv_int (by omega) (by rw [Int.fdiv_eq_ediv_of_nonneg i (by omega)]; exact q) (.inl (PyProof.noPylong_small (by omega)))
theorem op_mod : OpR X (binaryOp .Mod) (rI (fun _ j => 0 < j) fun i j => .int (i % j)) := opI fun i j _ _ _ _ _ hc q => by
  have h1 : (0 : Int) < j := hc
  exact mod_int' (by omega) (by rw [Int.fmod_eq_emod_of_nonneg i (by omega)]; exact q)
theorem op_shl : OpR X (binaryOp .LShift) (rI CPow fun i j => .int (i * 2 ^ j.toNat)) := opI fun _ _ _ _ _ _ _ hc q => lshift_int_small hc.1 hc.2.1 hc.2.2 q
theorem unI {f : Value → Sem Value} {g : Int → Int}
    (rule : ∀ (i : Int) (t : Tok) (s : Shared) (Q : Value → Shared → Prop) (E : Value → Shared → Prop), Q (.int (g i) s.toks) { s with toks := s.toks + 1 } → wpAny (model X.prog X.w) X.A (f (.int i t)) Q E s) :
    UnR X f (rU fun i => .int (g i)) := by
  intro pins s σ H x v Q I rx h
  obtain ⟨i, rfl, q⟩ := h
  obtain ⟨t, rfl⟩ := rx
  exact rule i t s _ _ ⟨.int (g i), H, I.tok _, ⟨_, rfl⟩, q⟩
theorem un_neg : UnR X (unaryOp .USub) (rU fun i => .int (-i)) := unI fun _ _ _ _ _ q => neg_int q
end

def scal : V → V → Bool
  | .non, .non => true | .non, .int _ => true | .int _, .non => true | .non, .bl _ => true | .bl _, .non => true | .non, .str _ => true | .str _, .non => true
  | .int _, .int _ => true | .bl _, .bl _ => true | .str _, .str _ => true | .byt _, .byt _ => true
  | .int _, .str _ => true | .str _, .int _ => true | .bl _, .str _ => true | .str _, .bl _ => true
  | _, _ => false
def rEq : R2 := fun x y H Q => scal x y = true ∧ Q (.bl (decide (x = y))) H
def rNe : R2 := fun x y H Q => scal x y = true ∧ Q (.bl (!decide (x = y))) H

theorem dec_int {i j : Int} : decide (V.int i = V.int j) = (i == j) := by
  rw [Bool.eq_iff_iff]
  simp
theorem dec_bl {i j : Bool} : decide (V.bl i = V.bl j) = (i == j) := by
  rw [Bool.eq_iff_iff]
  simp
theorem dec_str {i j : Str} : decide (V.str i = V.str j) = (i == j) := by
  rw [Bool.eq_iff_iff]
  simp
theorem dec_byt {i j : Array UInt8} : decide (V.byt i = V.byt j) = (i.toList == j.toList) := by
  rw [Bool.eq_iff_iff]
  cases i
  cases j
  simp

section
variable {X : Cx} {a b c : Expr} {ta tb tc : TE} {pos : Pos}
theorem fin_bl {pins : List (Addr × Obj)} {σ : St} {H : Hp} {s : Shared} {Q : VK} {k k' : Bool} (I : Inv X pins σ H s) (q : Q (.bl k) H) (e : k = k') : EP X pins σ Q (.bool k') s := by
  subst e
  exact ⟨.bl k, H, I, rfl, q⟩
theorem op_eq : OpR X (compareOp .Eq) rEq := by
  intro pins s σ H x y v u Q I rx ry h
  obtain ⟨hs, q⟩ := h
  cases x with
  | non =>
    cases rx
    cases y with
    | non => cases ry; exact PySem.EqNone.eq_none_none (fin_bl I q (by simp))
    | bl j => cases ry; exact PySem.EqNone.eq_none_bool (fin_bl I q (by simp))
    | int j => obtain ⟨t', rfl⟩ := ry; exact PySem.EqNone.eq_none_int (fin_bl I q (by simp))
    | str j => obtain ⟨t', rfl⟩ := ry; exact PySem.EqNone.eq_none_str (fin_bl I q (by simp))
    | _ => exact absurd (show false = true from hs) Bool.false_ne_true
  | bl i =>
    cases rx
    cases y with
    | non => cases ry; exact PySem.EqNone.eq_bool_none (fin_bl I q (by simp))
    | bl j => cases ry; exact eq_bool (fin_bl I q dec_bl)
    | str j => obtain ⟨t', rfl⟩ := ry; exact PySem.EqMixed.eq_bool_str (fin_bl I q (by simp))
    | _ => exact absurd (show false = true from hs) Bool.false_ne_true
  | int i =>
    obtain ⟨t, rfl⟩ := rx
    cases y with
    | non => cases ry; exact PySem.EqNone.eq_int_none (fin_bl I q (by simp))
    | int j => obtain ⟨t', rfl⟩ := ry; exact eq_int (fin_bl I q dec_int)
    | str j => obtain ⟨t', rfl⟩ := ry; exact PySem.EqMixed.eq_int_str (fin_bl I q (by simp))
    | _ => exact absurd (show false = true from hs) Bool.false_ne_true
  | str i =>
    obtain ⟨t, rfl⟩ := rx
    cases y with
    | non => cases ry; exact PySem.EqNone.eq_str_none (fin_bl I q (by simp))
    | bl j => cases ry; exact PySem.EqMixed.eq_str_bool (fin_bl I q (by simp))
    | int j => obtain ⟨t', rfl⟩ := ry; exact PySem.EqMixed.eq_str_int (fin_bl I q (by simp))
    | str j => obtain ⟨t', rfl⟩ := ry; exact eq_str (fin_bl I q dec_str)
    | _ => exact absurd (show false = true from hs) Bool.false_ne_true
  | byt i =>
    obtain ⟨t, rfl⟩ := rx
    cases y with
    | byt j => obtain ⟨t', rfl⟩ := ry; exact PySem.W.eq_bytes (fin_bl I q dec_byt)
    | _ => exact absurd (show false = true from hs) Bool.false_ne_true
  | _ => cases y <;> exact absurd (show false = true from hs) Bool.false_ne_true
theorem op_ne : OpR X (compareOp .NotEq) rNe := by
  intro pins s σ H x y v u Q I rx ry h
  obtain ⟨hs, q⟩ := h
  cases x with
  | non =>
    cases rx
    cases y with
    | non => cases ry; exact PySem.EqNone.ne_none_none (fin_bl I q (by simp))
    | bl j => cases ry; exact PySem.EqNone.ne_none_bool (fin_bl I q (by simp))
    | int j => obtain ⟨t', rfl⟩ := ry; exact PySem.EqNone.ne_none_int (fin_bl I q (by simp))
    | str j => obtain ⟨t', rfl⟩ := ry; exact PySem.EqNone.ne_none_str (fin_bl I q (by simp))
    | _ => exact absurd (show false = true from hs) Bool.false_ne_true
  | bl i =>
    cases rx
    cases y with
    | non => cases ry; exact PySem.EqNone.ne_bool_none (fin_bl I q (by simp))
    | bl j => cases ry; exact ne_bool (fin_bl I q (congrArg not dec_bl))
    | str j => obtain ⟨t', rfl⟩ := ry; exact PySem.EqMixed.ne_bool_str (fin_bl I q (by simp))
    | _ => exact absurd (show false = true from hs) Bool.false_ne_true
  | int i =>
    obtain ⟨t, rfl⟩ := rx
    cases y with
    | non => cases ry; exact PySem.EqNone.ne_int_none (fin_bl I q (by simp))
    | int j => obtain ⟨t', rfl⟩ := ry; exact ne_int (fin_bl I q (congrArg not dec_int))
    | str j => obtain ⟨t', rfl⟩ := ry; exact PySem.EqMixed.ne_int_str (fin_bl I q (by simp))
    | _ => exact absurd (show false = true from hs) Bool.false_ne_true
  | str i =>
    obtain ⟨t, rfl⟩ := rx
    cases y with
    | non => cases ry; exact PySem.EqNone.ne_str_none (fin_bl I q (by simp))
    | bl j => cases ry; exact PySem.EqMixed.ne_str_bool (fin_bl I q (by simp))
    | int j => obtain ⟨t', rfl⟩ := ry; exact PySem.EqMixed.ne_str_int (fin_bl I q (by simp))
    | str j => obtain ⟨t', rfl⟩ := ry; exact ne_str (fin_bl I q (congrArg not dec_str))
    | _ => exact absurd (show false = true from hs) Bool.false_ne_true
  | byt i =>
    obtain ⟨t, rfl⟩ := rx
    cases y with
    | byt j => obtain ⟨t', rfl⟩ := ry; exact PySem.W.ne_bytes (fin_bl I q (congrArg not dec_byt))
    | _ => exact absurd (show false = true from hs) Bool.false_ne_true
  | _ => cases y <;> exact absurd (show false = true from hs) Bool.false_ne_true

theorem op_lt : OpR X (compareOp .Lt) (rI0 fun i j => .bl (decide (i < j))) := opB0 fun _ _ _ _ _ _ _ q => lt_int q
theorem op_le : OpR X (compareOp .LtE) (rI0 fun i j => .bl (decide (i ≤ j))) := opB0 fun _ _ _ _ _ _ _ q => le_int q
theorem op_gt : OpR X (compareOp .Gt) (rI0 fun i j => .bl (decide (j < i))) := opB0 fun _ _ _ _ _ _ _ q => gt_int q
theorem op_ge : OpR X (compareOp .GtE) (rI0 fun i j => .bl (decide (j ≤ i))) := opB0 fun _ _ _ _ _ _ _ q => ge_int q
theorem nomark (b : Expr) {op : CmpOp} (h : op ≠ .In := by decide) (h2 : op ≠ .NotIn := by decide) : behindInMarks op b = false := by
  have e1 : (op == CmpOp.In) = false := by cases op <;> first | rfl | exact absurd rfl h
  have e2 : (op == CmpOp.NotIn) = false := by cases op <;> first | rfl | exact absurd rfl h2
  cases b <;> simp [behindInMarks, e1, e2]
theorem pe_cmpR {op : CmpOp} {r : R2} (ho : OpR X (compareOp op) r) (ha : PE X a ta) (hb : PE X b tb) (hm : behindInMarks op b = false) : PE X (.Compare a [op] [b] pos) (tOp r ta tb) := by
  intro pins s σ H Q I h
  exact wpAny_Compare1 (binT ha hb I h fun v u s2 x y H2 I2 rx ry q => ho pins s2 σ H2 x y v u Q I2 rx ry q) hm
def tTest (t : TE) : TT := fun σ H Q => t σ H fun x H' => ∃ k, x = .bl k ∧ Q k H'
theorem pt_cmpR {op : CmpOp} {r : R2} (ho : OpR X (compareOp op) r) (ha : PE X a ta) (hb : PE X b tb) (hm : behindInMarks op b = false) : PT X (.Compare a [op] [b] pos) (tTest (tOp r ta tb)) := by
  intro pins s σ H Q I h
  refine wpAny_isTrue_Compare1 (thn (ha pins s σ H _ I h) fun v s1 ⟨x, H1, I1, r1, q1⟩ => thn (hb pins s1 σ H1 _ I1 q1) fun u s2 ⟨y, H2, I2, r2, q2⟩ =>
    thn (ho pins s2 σ H2 x y v u _ I2 r1 r2 q2) fun c s3 ⟨z, H3, I3, r3, k, e, q3⟩ => ?_) hm
  subst e
  cases r3
  exact wpAny_truthy_bool ⟨H3, I3, q3⟩
def tChain (r r' : R2) (ta tb tc : TE) : TE := fun σ H Q => ta σ H fun x H1 => tb σ H1 fun y H2 => r x y H2 fun z H3 => ∃ k, z = .bl k ∧
  (if k = true then tc σ H3 fun w' H4 => r' y w' H4 Q else Q (.bl false) H3)
theorem pe_chain {op op' : CmpOp} {r r' : R2} (ho : OpR X (compareOp op) r) (ho' : OpR X (compareOp op') r') (ha : PE X a ta) (hb : PE X b tb) (hc : PE X c tc)
    (hm : lastMarks [op, op'] [b, c] = false := by with_unfolding_all rfl) : PE X (.Compare a [op, op'] [b, c] pos) (tChain r r' ta tb tc) := by
  intro pins s σ H Q I h
  refine Compare_chain (thn (ha pins s σ H _ I h) fun v s1 ⟨x, H1, I1, r1, q1⟩ => chain_link (thn (hb pins s1 σ H1 _ I1 q1) fun u s2 ⟨y, H2, I2, r2, q2⟩ =>
    thn (ho pins s2 σ H2 x y v u _ I2 r1 r2 q2) fun d s3 ⟨z, H3, I3, r3, k, e, q3⟩ => ?_)) hm
  subst e
  cases r3
  refine wpAny_truthy_bool ?_
  cases k with
  | false => exact ite_ff ⟨.bl false, H3, I3, rfl, q3⟩
  | true => exact ite_tt (chain_last (thn (hc pins s3 σ H3 _ I3 q3) fun w' s4 ⟨z', H4, I4, r4, q4⟩ => ho' pins s4 σ H4 y z' u w' Q I4 r2 r4 q4))
theorem pt_chain {op op' : CmpOp} {r r' : R2} (ho : OpR X (compareOp op) r) (ho' : OpR X (compareOp op') r') (ha : PE X a ta) (hb : PE X b tb) (hc : PE X c tc)
    (hm : lastMarks [op, op'] [b, c] = false := by with_unfolding_all rfl) : PT X (.Compare a [op, op'] [b, c] pos) (tTest (tChain r r' ta tb tc)) := by
  intro pins s σ H Q I h
  refine isTrue_chain (thn (ha pins s σ H _ I h) fun v s1 ⟨x, H1, I1, r1, q1⟩ => test_link (thn (hb pins s1 σ H1 _ I1 q1) fun u s2 ⟨y, H2, I2, r2, q2⟩ =>
    thn (ho pins s2 σ H2 x y v u _ I2 r1 r2 q2) fun d s3 ⟨z, H3, I3, r3, k, e, q3⟩ => ?_)) hm
  subst e
  cases r3
  refine wpAny_truthy_bool ?_
  cases k with
  | false =>
    obtain ⟨k', e', q'⟩ := q3
    cases e'
    exact ite_ff ⟨H3, I3, q'⟩
  | true =>
    refine ite_tt (test_last (thn (hc pins s3 σ H3 _ I3 q3) fun w' s4 ⟨z', H4, I4, r4, q4⟩ => thn (ho' pins s4 σ H4 y z' u w' _ I4 r2 r4 q4) fun d' s5 ⟨z2, H5, I5, r5, k2, e2, q5⟩ => ?_))
    subst e2
    cases r5
    exact wpAny_truthy_bool ⟨H5, I5, q5⟩

def TruV (K : PySem.W.Frag) (x : V) (H : Hp) (k : Bool) : Prop :=
  match x with
  | .non => k = false
  | .bl b => k = b
  | .int i => k = (i != 0)
  | .str y => y.length ≤ sizeLine ∧ k = ((y.length : Int) != 0)
  | .byt y => y.size ≤ sizeLine ∧ k = ((y.size : Int) != 0)
  | .ref p => (∃ xs, SqL K H p xs ∧ k = !xs.isEmpty) ∨ (∃ xs, SqT K H p xs ∧ k = !xs.isEmpty) ∨ ∃ kvs, H p = some (.dK kvs) ∧ k = !kvs.isEmpty
  | _ => False
theorem isEmpty_kv {κ : Type} {kvs : List (κ × V)} {vs : List (κ × Value)} (r : KV kvs vs) : (!vs.isEmpty) = !kvs.isEmpty := by
  cases r <;> rfl
theorem isEmpty_of {xs : List V} {its : List Value} (r : Vals xs its) : (!its.toArray.isEmpty) = !xs.isEmpty := by
  cases r <;> simp
theorem line63 : (sizeLine : Nat) < 2 ^ 63 := by rw [sizeLine_eq]; decide
theorem tru_ok : TruR X (fun x H Q => ∃ k, TruV X.K x H k ∧ Q k H) := by
  intro pins s σ H x v Q I rx h
  obtain ⟨k, e, q⟩ := h
  have hl := line63
  have hs : sizeLine = 16777216 := sizeLine_eq
  cases x with
  | non =>
    cases rx
    have e' : k = false := e
    subst e'
    exact truthy_none ⟨H, I, q⟩
  | bl b =>
    cases rx
    have e' : k = b := e
    subst e'
    exact wpAny_truthy_bool ⟨H, I, q⟩
  | int i =>
    obtain ⟨t, rfl⟩ := rx
    have e' : k = (i != 0) := e
    subst e'
    exact PySem.P.truthy_int ⟨H, I, q⟩
  | str y =>
    obtain ⟨t, rfl⟩ := rx
    obtain ⟨hy, e'⟩ : y.length ≤ sizeLine ∧ k = ((y.length : Int) != 0) := e
    subst e'
    exact PySem.P.truthy_str (by omega) ⟨H, I.tok _, q⟩
  | byt y =>
    obtain ⟨t, rfl⟩ := rx
    obtain ⟨hy, e'⟩ : y.size ≤ sizeLine ∧ k = ((y.size : Int) != 0) := e
    subst e'
    exact PySem.W.truthy_bytes (by omega) ⟨H, I.tok _, q⟩
  | ref p =>
    cases rx
    have e' : (∃ xs, SqL X.K H p xs ∧ k = !xs.isEmpty) ∨ (∃ xs, SqT X.K H p xs ∧ k = !xs.isEmpty) ∨ ∃ kvs, H p = some (.dK kvs) ∧ k = !kvs.isEmpty := e
    rcases e' with ⟨xs, hx, e'⟩ | ⟨xs, hx, e'⟩ | ⟨kvs, hx, e'⟩
    · subst e'
      obtain ⟨its, r, pl, hz⟩ := I.list hx
      have hlen := r.length
      exact wpAny_truthy_list pl.isList (by simp only [List.size_toArray]; omega) ⟨H, I.tok _, by rw [isEmpty_of r]; exact q⟩
    · subst e'
      obtain ⟨its, r, pl, hz⟩ := I.tuple hx
      have hlen := r.length
      exact truthy_tuple pl (by simp only [List.size_toArray]; omega) ⟨H, I.tok _, by rw [isEmpty_of r]; exact q⟩
    · subst e'
      obtain ⟨hz, hS, vs, r, m⟩ : kvs.length ≤ sizeLine ∧ (p == sysModules) = false ∧ ∃ vs, KV kvs vs ∧ s.heap.DictOf (mixKind X.prog X.w) p vs := I.hok p _ hx
      have hlen : kvs.length = vs.length := Paired.length r
      exact wpAny_truthy_dict hS m (by omega) ⟨H, I.tok _, by rw [isEmpty_kv r]; exact q⟩
  | _ => exact (show False from e).elim
theorem pt_truth (ha : PE X a ta) (he : ∀ whole, isTrue a X.env whole = (do let v ← whole; standAt a.pos; holding [v] (truthy v))) :
    PT X a (fun σ H Q => ta σ H fun x H' => ∃ k, TruV X.K x H' k ∧ Q k H') := by
  intro pins s σ H Q I h
  exact isTrue_plain (thn (ha pins s σ H _ I h) fun v s1 ⟨x, H1, I1, r1, q1⟩ => tru_ok pins s1 σ H1 x v Q I1 r1 q1) (he _)

theorem vals1 {x : V} {us : List Value} (r : Vals [x] us) : ∃ u, us = [u] ∧ RelV x u := by
  cases r with
  | cons r1 r2 => cases r2; exact ⟨_, rfl, r1⟩
theorem call_abs : CallR X (.builtin "abs") (fun xs H Q => ∃ i, xs = [.int i] ∧ Q (.int (if i < 0 then -i else i)) H) := by
  intro pins s σ H xs us Q I r h
  obtain ⟨i, rfl, q⟩ := h
  obtain ⟨u, rfl, t, rfl⟩ := vals1 r
  exact call_abs_int fun u tk => ⟨.int (if i < 0 then -i else i), H, I.tok _, ⟨_, rfl⟩, q⟩
theorem call_ord : CallR X (.builtin "ord") (fun xs H Q => ∃ x, xs = [.str x] ∧ x.length = 1 ∧ Q (.int (x.cps.getD 0 0 : Nat)) H) := by
  intro pins s σ H xs us Q I r h
  obtain ⟨x, rfl, hz, q⟩ := h
  obtain ⟨u, rfl, t, rfl⟩ := vals1 r
  exact ord_of_one hz ⟨.int _, H, I.tok _, ⟨_, rfl⟩, q⟩
end
end L2

namespace L2
open PySem PySem.Spec PyProof.Rows

section
variable {prog : Program} {w : World} {A : Around} {E : Value → Shared → Prop} {s : Shared} {K : PySem.W.Frag} {x dx C f : Addr} {mA : Str → Option Value} {name : Str} {v : Value}

end

section
variable {P : Program} {w : World} {H H' : Hp} {h h' : Heap} {a C dx : Addr} {fs fs' : List (Str × V)}
end

structure Cls (K : PySem.W.Frag) (C : Addr) : Prop where
  pg : PySem.W.plainGet K C Str.empty = true
  hd : PySem.W.hasDictIn K C = true
  po : PySem.W.plainOver K C = true
  sa : PySem.W.findIn K (.ref C) "__setattr__" = some (some (.builtin "object.__setattr__"))
theorem Cls.get {K : PySem.W.Frag} {C : Addr} (c : Cls K C) (f : Str) : PySem.W.plainGet K C f = true := c.pg
section
variable {X : Cx} {pins : List (Addr × Obj)} {σ : St} {H : Hp} {s : Shared} {a C dx : Addr} {fs : List (Str × V)} {f : Str} {v : V} {A : Around} {E : Value → Shared → Prop}

end

section
variable {X : Cx} {o e value : Expr} {f : Str} {pos pos' tpos : Pos} {ta tv : TE}
end

section
variable {X : Cx} {pins : List (Addr × Obj)} {σ : St} {H : Hp} {s : Shared} {A : Around} {E : Value → Shared → Prop} {Q : Value → Shared → Prop} {c : Value} {b : Bool}
end
end L2

namespace L2
open PySem PySem.Spec PyProof.Rows

structure Room (k : Nat) (A : Around) : Prop where
  hd : A.handled = none
  dp : A.depth + 3 * k + 5 < recursionLimit
  un : A.units + 16 * k + 200 < cLine
theorem Room.mono {j k : Nat} {A : Around} (r : Room k A) (h : j ≤ k) : Room j A := ⟨r.hd, by have := r.dp; omega, by have := r.un; omega⟩
theorem Room.deeper {k : Nat} {A : Around} (r : Room (k + 1) A) (env : Env) : Room k (A.deeper env) :=
  ⟨r.hd, by have := r.dp; show A.depth + 1 + 3 * k + 5 < _; omega, by have := r.un; show A.units + 3 + 16 * k + 200 < _; omega⟩
theorem Room.in1 {k : Nat} {A : Around} (r : Room (k + 1) A) : Room k A.in1 :=
  ⟨r.hd, by have := r.dp; show A.depth + 3 * k + 5 < _; omega, by have := r.un; show A.units + 1 + 16 * k + 200 < _; omega⟩
theorem Room.depth {k : Nat} {A : Around} (r : Room k A) : A.depth < recursionLimit := by have := r.dp; omega
theorem Room.units {k : Nat} {A : Around} (r : Room k A) : A.units + 64 < cLine := by have := r.un; omega
def tNil : TA := fun _ H Q => Q [] H
def tCons (ta : TE) (tr : TA) : TA := fun σ H Q => ta σ H fun x H1 => tr σ H1 fun xs H2 => Q (x :: xs) H2
section
variable {X : Cx} {e : Expr} {es : List Expr} {te : TE} {t : TA} {pos : Pos}
theorem pa_nil : PA X [] tNil := fun _ _ _ _ H Q I h => Calls.spliced_nil ⟨[], H, I, .nil, h⟩
theorem pa_cons (ha : PE X e te) (hr : PA X es t) (hs : starEach (e :: es) X.env = (false, eval e X.env) :: starEach es X.env := by rfl) : PA X (e :: es) (tCons te t) := by
  intro pos pins s σ H Q I h
  rw [hs]
  show wpAny _ _ (spliced ((false, eval e X.env) :: backTo pos (starEach es X.env))) _ _ s
  refine Calls.spliced_cons (thn (ha pins s σ H _ I h) fun u s1 ⟨x, H1, I1, r1, q1⟩ => ?_)
  exact thn (hr pos pins s1 σ H1 _ I1 q1) fun us s2 ⟨xs, H2, I2, r2, q2⟩ => ⟨x :: xs, H2, I2, .cons r1 r2, q2⟩

def tTup (t : TA) : TE := fun σ H Q => t σ H fun xs H1 => xs.length ≤ sizeLine ∧ ∀ p, H1 p = none → Q (.ref p) (upd H1 p (.tup xs))
def tLst (t : TA) : TE := fun σ H Q => t σ H fun xs H1 => xs.length ≤ sizeLine ∧ ∀ p, H1 p = none → Q (.ref p) (upd H1 p (.lst xs))
theorem pe_lst (h : PA X es t) : PE X (.List es pos) (tLst t) := by
  intro pins s σ H Q I hq
  refine wpAny_List_spliced (thn (h pos pins s σ H _ I hq) fun us s1 ⟨xs, H1, I1, r, z, q⟩ => ⟨by rw [← r.length]; exact z, ?_⟩)
  have hf : H1 s1.heap.objs.size = none := I1.hok.fresh (Nat.le_refl _)
  refine ⟨.ref s1.heap.objs.size, upd H1 s1.heap.objs.size (.lst xs), I1.laid (t' := s1.toks) (fun b u e => Heap.get?_push_of_some _ e) (Nat.le_refl _) ?_, rfl, q _ hf⟩
  exact ⟨z, us, 0, r, Heap.get?_push_size _ rfl⟩
end

abbrev Sp := List V → Hp → VK → XK → Prop
abbrev CXT := List Env → Hp → Shared → XK → Value → Shared → Prop

structure Env0 (P : Program) (w : World) (K : PySem.W.Frag) (mg : Str → Option Value) (base : Heap) (A : Around) (outer : List Env) (s : Shared) (H : Hp) : Prop where
  frames : A.frames = some outer
  mod : Mod K mg base
  bs : ∀ b o, base.get? b = some o → s.heap.get? b = some o ∧ H b = none
  bsz : base.objs.size ≤ s.heap.objs.size
  funs : s.heap.FunFrames base outer
  frf : ∀ b ∈ frs outer, H b = none
  hok : HOk P w H s.heap
  bare : AllBare s.gens
def CE (outer : List Env) (P : Program) (w : World) (H : Hp) (s : Shared) (Q : VK) (u : Value) (s' : Shared) : Prop :=
  ∃ v H', s'.os = s.os ∧ AllBare s'.gens ∧ Un (frs outer) [] H H' s.heap s'.heap ∧ HOk P w H' s'.heap ∧ RelV v u ∧ Q v H'
def CR (CX : CXT) (outer : List Env) (P : Program) (w : World) (H : Hp) (s : Shared) (Q : VK) (E : XK) (r : Result) (s' : Shared) : Prop :=
  match r with
  | .ok (.ret u) => CE outer P w H s Q u s'
  | .ok _ => False
  | .error e => CX outer H s E e s'
structure FnOk (P : Program) (w : World) (K : PySem.W.Frag) (mg : Str → Option Value) (base : Heap) (CX : CXT) (k : Nat) (f : Addr) (fd : FuncData) (ps : List Str) (sp : Sp) : Prop where
  len : ∀ vs H Q E, sp vs H Q E → vs.length = ps.length
  run : ∀ (A : Around) (outer : List Env) (s : Shared) (H : Hp) (args : Args) (us : List Value) (vs : List V) (Q : VK) (E : XK), Room k A → Env0 P w K mg base A outer s H → BindsTo s fd args (ps.zip us) → Vals vs us → sp vs H Q E →
    codeAny (model P w) A (.call (.ref f) args) (CR CX outer P w H s Q E) s
theorem FnOk.mono {P : Program} {w : World} {K : PySem.W.Frag} {mg : Str → Option Value} {base : Heap} {CX : CXT} {j k : Nat} {f : Addr} {fd : FuncData} {ps : List Str} {sp : Sp} (F : FnOk P w K mg base CX j f fd ps sp) (h : j ≤ k) :
    FnOk P w K mg base CX k f fd ps sp := ⟨F.len, fun A outer s H args us vs Q E hr => F.run A outer s H args us vs Q E (hr.mono h)⟩
theorem Env0.in1 {P : Program} {w : World} {K : PySem.W.Frag} {mg : Str → Option Value} {base : Heap} {A : Around} {outer : List Env} {s : Shared} {H : Hp} (e : Env0 P w K mg base A outer s H) :
    Env0 P w K mg base A.in1 outer s H := ⟨e.frames, e.mod, e.bs, e.bsz, e.funs, e.frf, e.hok, e.bare⟩

section
variable {X : Cx} {pins : List (Addr × Obj)} {σ : St} {H : Hp} {s s' : Shared}
theorem Inv.env0 (I : Inv X pins σ H s) : Env0 X.prog X.w X.K X.mg X.base X.A X.stack s H :=
  ⟨I.ok.frames, I.ok.mod, I.bs, Nat.le_trans I.ok.bsz I.sz, I.stack, I.stkFree, I.hok, I.bare⟩
theorem Inv.after {Q : VK} {u : Value} (I : Inv X pins σ H s) (h : CE X.stack X.prog X.w H s Q u s') : EP X pins σ Q u s' := by
  obtain ⟨v, H', os, bare, un, hok, r, q⟩ := h
  obtain ⟨hh, g, d, t, os'⟩ := s'
  obtain rfl : os' = s.os := os
  exact ⟨v, H', I.call (h' := hh) (g' := g) (d' := d) (t' := t) (ch := []) un hok bare (fun b z => absurd z (by simp)), r, q⟩
end

def tCall (sp : Sp) (dvs : List V) (E : XK) (t : TA) : TE := fun σ H Q => t σ H fun vs H1 => sp (vs ++ dvs) H1 Q E
def Binds (K : PySem.W.Frag) (fd : FuncData) (ps : List Str) (ds : List Value) : Prop :=
  ∀ (s : Shared) (us : List Value), K.In s.heap → (us ++ ds).length = ps.length → BindsTo s fd ⟨us, []⟩ (ps.zip (us ++ ds))
theorem Binds.all {K : PySem.W.Frag} {fd : FuncData} {ps : List Str} (h : ∀ us : List Value, us.length = ps.length → bindArgs fd ⟨us, []⟩ = pure (ps.zip us)) : Binds K fd ps [] := fun s us _ hl => by
  rw [List.append_nil] at hl ⊢
  exact .of_eq (h us hl)

def Passes (CX : CXT) (X : Cx) (E : XK) : Prop := ∀ (pins : List (Addr × Obj)) (σ : St) (H : Hp) (s : Shared) (e : Value) (s' : Shared), Inv X pins σ H s → CX X.stack H s E e s' → X.xe e s'

section
variable {X : Cx} {CX : CXT} {k : Nat} {f C : Addr} {fd : FuncData} {ps : List Str} {sp : Sp} {dvs : List V} {ds : List Value} {E : XK} {x m : Str} {p pos apos : Pos} {e o : Expr} {es : List Expr} {ta : TE} {t : TA}

theorem run_fn {pins : List (Addr × Obj)} {σ : St} {H : Hp} {s : Shared} {Q : VK} {us : List Value} {vs : List V} (F : FnOk X.prog X.w X.K X.mg X.base CX k f fd ps sp) (hr : Room k X.A) (hb : Binds X.K fd ps ds) (hd : Vals dvs ds) (hx : Passes CX X E)
    (I : Inv X pins σ H s) (r : Vals vs us) (h : sp (vs ++ dvs) H Q E) : wpAny (model X.prog X.w) X.A (call (.ref f) us) (EP X pins σ Q) X.xe s := by
  have r2 : Vals (vs ++ dvs) (us ++ ds) := r.append hd
  have hl : (us ++ ds).length = ps.length := by rw [← r2.length]; exact F.len _ _ _ _ h
  refine wpAny_call (codeAny_mono (F.run X.A X.stack s H ⟨us, []⟩ (us ++ ds) (vs ++ dvs) Q E hr I.env0 (hb s us I.kIn hl) r2 h) fun r s' hq => ?_)
  cases r with
  | error e => exact hx pins σ H s e s' I hq
  | ok fl =>
    cases fl with
    | ret u => exact I.after hq
    | next => exact False.elim hq
    | brk => exact False.elim hq
    | cont => exact False.elim hq

theorem pe_call (F : FnOk X.prog X.w X.K X.mg X.base CX k f fd ps sp) (hr : Room k X.A) (hg : Gl X x) (hm : X.mg x = some (.ref f)) (hk : PySem.W.keepIn X.K (.ref f) = true) (hb : Binds X.K fd ps ds) (hd : Vals dvs ds) (hx : Passes CX X E)
    (ha : PA X (e :: es) t) (hdb : (x == ("__debug__" : Str)) = false := by decide) (he : starEach (e :: es) X.env = (false, eval e X.env) :: starEach es X.env := by rfl) (hpl : (backTo pos (starEach es X.env)).any (·.1) = false := by rfl) :
    PE X (.Call (.Name x p) (e :: es) [] pos) (tCall sp dvs E t) := by
  intro pins s σ H Q I h
  refine wpAny_Call_Name_kw (ld_glob I hg hm ?_ hdb)
  refine PySem.W.callWith_K (h₀ := X.base) I.ok.mod.kin hk (thn (ha pos pins s σ H _ I h) fun us s1 ⟨vs, H1, I1, r, q⟩ => ⟨I1.kIn, ?_⟩) he hpl
  exact run_fn F hr hb hd hx I1 r q
end

def PK (X : Cx) (kws : List Keyword) (t : TA) : Prop :=
  ∀ (pos : Pos) (pins : List (Addr × Obj)) (s : Shared) (σ : St) (H : Hp) (Q : List V → Hp → Prop), Inv X pins σ H s → t σ H Q → wpAny (model X.prog X.w) X.A (evalAll ((backToKw pos (keywordEach kws X.env)).map (·.2))) (AP X pins σ Q) X.xe s
section
variable {X : Cx} {CX : CXT} {k : Nat} {f C : Addr} {fd : FuncData} {ps ks : List Str} {sp : Sp} {E : XK} {x m : Str} {p pos apos kpos : Pos} {e o : Expr} {es : List Expr} {kws : List Keyword} {te ta : TE} {t tk : TA} {nm : Option Str}
theorem pk_nil : PK X [] tNil := fun _ _ _ _ H Q I h => wpAny_evalAll_nil ⟨[], H, I, .nil, h⟩
theorem pk_cons (ha : PE X e te) (hr : PK X kws t) : PK X (⟨nm, e, kpos⟩ :: kws) (tCons te t) := by
  intro pos pins s σ H Q I h
  show wpAny _ _ (evalAll ((do let v ← eval e X.env; standAt pos; pure v) :: (backToKw pos (keywordEach kws X.env)).map (·.2))) _ _ s
  refine wpAny_evalAll_cons (wpAny_bind (thn (ha pins s σ H _ I h) fun u s1 ⟨x, H1, I1, r1, q1⟩ => wpAny_bind (wpAny_standAt (wpAny_pure ?_))))
  exact thn (hr pos pins s1 σ H1 _ I1 q1) fun us s2 ⟨xs, H2, I2, r2, q2⟩ => ⟨x :: xs, H2, I2, .cons r1 r2, q2⟩

variable {g : List Value → List Value → List Value} {gV : List V → List V → List V}
end

structure FnScope (N P : List Str) (sc : Scope) : Prop where
  kind : sc.kind = .function
  co : sc.isCoroutine = false
  gen : sc.isGenerator = false
  nd : N.Nodup
  pre : N.take P.length = P
  par : ∀ x ∈ P, sc.names.lookup x = some .local ∨ sc.names.lookup x = some .cell
  nofree : ∀ y ∈ sc.names, y.2 ≠ .free

theorem bindL_out {kindOf : Str → Option NameKind} {x : Str} : ∀ {binds : List (Str × Value)} {m : Str → Option Value}, (∀ v, (x, v) ∉ binds) → bindL kindOf binds m x = m x
  | [], _, _ => rfl
  | (n, v) :: r, m, h => by
    unfold bindL
    rw [bindL_out fun w hw => h w (List.mem_cons_of_mem _ hw)]
    split
    · have : x ≠ n := by rintro rfl; exact h v List.mem_cons_self
      simp [this]
    · rfl
theorem bindC_out {kindOf : Str → Option NameKind} {x : Str} : ∀ {binds : List (Str × Value)} {m : Str → Option Value}, (∀ v, (x, v) ∉ binds) → bindC kindOf binds m x = m x
  | [], _, _ => rfl
  | (n, v) :: r, m, h => by
    unfold bindC
    rw [bindC_out fun w hw => h w (List.mem_cons_of_mem _ hw)]
    split
    · rfl
    · have : x ≠ n := by rintro rfl; exact h v List.mem_cons_self
      simp [this]
theorem bindL_get {kindOf : Str → Option NameKind} {x : Str} {v : Value} : ∀ {P : List Str} {vs : List Value} {i : Nat} {m : Str → Option Value}, P.Nodup → P[i]? = some x → vs[i]? = some v → kindOf x = some .local →
    bindL kindOf (P.zip vs) m x = some v
  | [], _, _, _, _, h, _, _ => by simp at h
  | _ :: _, [], _, _, _, _, h, _ => by simp at h
  | p :: P, w :: vs, 0, m, nd, h1, h2, hk => by
    simp at h1 h2; subst h1; subst h2
    show bindL kindOf ((p, w) :: P.zip vs) m p = _
    unfold bindL
    rw [bindL_out fun v hv => (List.nodup_cons.mp nd).1 (List.of_mem_zip hv).1, if_pos hk]
    simp
  | p :: P, w :: vs, i + 1, m, nd, h1, h2, hk => by
    show bindL kindOf ((p, w) :: P.zip vs) m x = _
    unfold bindL
    exact bindL_get (i := i) (List.nodup_cons.mp nd).2 (by simpa using h1) (by simpa using h2) hk
theorem bindC_get {kindOf : Str → Option NameKind} {x : Str} {v : Value} : ∀ {P : List Str} {vs : List Value} {i : Nat} {m : Str → Option Value}, P.Nodup → P[i]? = some x → vs[i]? = some v → kindOf x ≠ some .local →
    bindC kindOf (P.zip vs) m x = some v
  | [], _, _, _, _, h, _, _ => by simp at h
  | _ :: _, [], _, _, _, _, h, _ => by simp at h
  | p :: P, w :: vs, 0, m, nd, h1, h2, hk => by
    simp at h1 h2; subst h1; subst h2
    show bindC kindOf ((p, w) :: P.zip vs) m p = _
    unfold bindC
    rw [bindC_out fun v hv => (List.nodup_cons.mp nd).1 (List.of_mem_zip hv).1, if_neg hk]
    simp
  | p :: P, w :: vs, i + 1, m, nd, h1, h2, hk => by
    show bindC kindOf ((p, w) :: P.zip vs) m x = _
    unfold bindC
    exact bindC_get (i := i) (List.nodup_cons.mp nd).2 (by simpa using h1) (by simpa using h2) hk

def start (N : List Str) (vs : List V) : St := vs.map some ++ List.replicate (N.length - vs.length) none

def cxOf (CX : CXT) (P : Program) (w : World) (K : PySem.W.Frag) (mg : Str → Option Value) (base : Heap) (N : List Str) (qual : Str) (scope : Scope) (f : Addr) (cd : Value) (A : Around) (outer : List Env) (s : Shared) (H : Hp) (E : XK) : Cx where
  prog := P
  w := w
  K := K
  mg := mg
  base := base
  A := A.deeper (envOfC qual scope s.heap.objs.size f cd)
  N := N
  s_0 := s
  H_0 := H
  env := envOfC qual scope s.heap.objs.size f cd
  outer := outer
  stack := envOfC qual scope s.heap.objs.size f cd :: outer
  ex := []
  calm := true
  fn := fun _ => true
  pn := []
  xe := fun e s' => wpAny (model P w) (A.deeper (envOfC qual scope s.heap.objs.size f cd)) (leaving (envOfC qual scope s.heap.objs.size f cd) e) (fun _ s'' => CX outer H s E e s'') (fun e' s'' => CX outer H s E e' s'') s'

theorem cell_has {sc : Scope} {n : Nat} {x : Str} (h : sc.names.lookup x = some .cell) : ∃ c, (cellsFrom n sc.names []).lookup x = some c := by
  have q := PySem.W.cellsFrom_some sc.names n [] (.inl h)
  exact Option.isSome_iff_exists.mp q

theorem inv_start {CX : CXT} {P : Program} {w : World} {K : PySem.W.Frag} {mg : Str → Option Value} {base : Heap} {N ps : List Str} {qual : Str} {scope : Scope} {f : Addr} {cd : Value} {A : Around} {outer : List Env} {s s1 : Shared} {H : Hp} {E : XK} {us : List Value} {vs : List V}
    (S : FnScope N ps scope) (hd : A.handled = none) (e0 : Env0 P w K mg base A outer s H) (hl : vs.length = ps.length) (r : Vals vs us)
    (x : InCallC s s.heap.objs.size (bindL (envOfC qual scope s.heap.objs.size f cd).kindOf (ps.zip us) fun _ => none) (cellsFrom (s.heap.objs.size + 1) scope.names []) (bindC (envOfC qual scope s.heap.objs.size f cd).kindOf (ps.zip us) fun _ => none) s1) :
    Inv (cxOf CX P w K mg base N qual scope f cd A outer s H E) [] (start N vs) H s1 := by
  have hpl : ps.length ≤ N.length := by have := congrArg List.length S.pre; rw [List.length_take] at this; omega
  obtain ⟨h1, tk, rfl, hk⟩ := x.done
  have noA : ∀ b : Addr, b ∉ (cxOf CX P w K mg base N qual scope f cd A outer s H E).ex := fun b z => absurd (show b ∈ ([] : List Addr) from z) (by simp)
  refine ⟨⟨e0.mod, S.kind, rfl, rfl, Nat.le_refl _, fun y z c h1 h2 => ?_, fun y hy => ?_, fun y c _ h => ?_, fun _ => hd, Around.frames_deeper e0.frames, .inr ⟨rfl, rfl⟩, fun b z => absurd z (noA b), e0.bs, e0.bsz, fun b _ _ => noA b, fun b z => absurd z (noA b), e0.funs, e0.frf⟩,
    rfl, e0.bare, Un.kept hk, ⟨_, x.toInCall.ns, fun i y v h1 h2 h3 => ?_⟩, fun y c h => ⟨_, x.cell y c h⟩, e0.hok.fresh (Nat.le_refl _), fun y c h => ?_, fun p hp => absurd (show p ∈ ([] : List (Addr × Obj)) from hp) (by simp), e0.hok.kept hk, ?_⟩
  · exact name_of_addr x.apart (PySem.mem_of_lookup h1) (PySem.mem_of_lookup h2)
  · have hy : scope.names.lookup y = some .cell ∨ scope.names.lookup y = some .free := hy
    rcases hy with hy | hy
    · exact cell_has hy
    · exact absurd rfl (S.nofree _ (PySem.mem_of_lookup hy))
  · exact Nat.le_of_lt (x.above y c (PySem.mem_of_lookup h))
  · have hi : i < vs.length := by
      unfold start at h2
      by_cases hi : i < vs.length
      · exact hi
      · rw [List.getElem?_append_right (by simpa using hi)] at h2
        rw [List.getElem?_replicate] at h2
        split at h2 <;> cases h2
    have ha : vs[i]? = some v := by
      unfold start at h2
      rw [List.getElem?_append_left (by simpa using hi), List.getElem?_map] at h2
      cases e : vs[i]? with
      | none => rw [e] at h2; cases h2
      | some a => rw [e] at h2; cases h2; rfl
    obtain ⟨u, hu, rv⟩ := r.get ha
    have hp : ps[i]? = some y := by
      rw [← S.pre, List.getElem?_take_of_lt (by omega)]; exact h1
    have ndP : ps.Nodup := by rw [← S.pre]; exact S.nd.sublist (List.take_sublist _ _)
    refine ⟨u, rv, ?_⟩
    rcases S.par y (List.mem_of_getElem? hp) with k | k
    · exact .inl ⟨k, bindL_get ndP hp hu k⟩
    · obtain ⟨c, e⟩ := cell_has (n := s.heap.objs.size + 1) k
      refine .inr ⟨.inl k, c, e, ?_⟩
      have q := x.cell y c e
      rw [bindC_get ndP hp hu (by show scope.names.lookup y ≠ _; rw [k]; decide)] at q
      exact q
  · exact e0.hok.fresh (Nat.le_of_lt (x.above y c (PySem.mem_of_lookup h)))
  · unfold start
    show _ = N.length
    rw [List.length_append, List.length_map, List.length_replicate]
    omega

theorem fn_of {CX : CXT} {P : Program} {w : World} {K : PySem.W.Frag} {mg : Str → Option Value} {base : Heap} {k : Nat} {f : Addr} {name qual : Str} {params : Arguments} {body : List Stmt} {scope : Scope} {dV kV doc pm cdv ct oc : Value} {an od : Option Addr}
    {osl : Array (Option Value)} {N ps : List Str} {sp : Sp} (lk : K.lookup f = some ⟨oc, od, .func (PySem.W.fnOf name qual params body scope dV kV doc pm an cdv ct), osl⟩) (hcd : PySem.W.codeIn K cdv qual = true) (S : FnScope N ps scope)
    (len : ∀ vs H Q E, sp vs H Q E → vs.length = ps.length)
    (hbody : ∀ (A : Around) (outer : List Env) (s : Shared) (H : Hp) (vs : List V) (Q : VK) (E : XK), Room k (A.deeper (envOfC qual scope s.heap.objs.size f cdv)) → sp vs H Q E →
      ∃ t, PSs (cxOf CX P w K mg base N qual scope f cdv A outer s H E) body t ∧ t { nx := fun _ H' => Q .non H', rt := Q } (start N vs) H) :
    FnOk P w K mg base CX (k + 1) f (PySem.W.fnOf name qual params body scope dV kV doc pm an cdv ct) ps sp := by
  refine ⟨len, fun A outer s H args us vs Q E hr e0 hb r hsp => ?_⟩
  have hl := len _ _ _ _ hsp
  have KX : K.In s.heap := e0.mod.kin.keeps fun b o e => (e0.bs b o e).1
  have lim : s.heap.NoLimit := e0.mod.nolimit.keeps fun b o e => (e0.bs b o e).1
  have hkind : ∀ y ∈ ps.zip us, scope.names.lookup y.1 = some .local ∨ (scope.names.lookup y.1 = some .cell ∧ ((cellsFrom (s.heap.objs.size + 1) scope.names []).lookup y.1).isSome = true) := fun ⟨n, v⟩ hy => by
    rcases S.par n (List.of_mem_zip hy).1 with q | q
    · exact .inl q
    · exact .inr ⟨q, PySem.W.cellsFrom_some _ _ _ (.inl q)⟩
  refine codeAny_call_function hr.depth (KX _ _ lk) rfl S.co S.gen rfl (PySem.W.codeRec_of KX hcd) (hb _ _ _ _ ?_)
  refine wpAny_newFunctionEnv_cells S.kind hkind fun env he s1 x => ?_
  subst he
  refine ⟨lim.keeps x.toInCall.keep, codeAny_func ?_⟩
  obtain ⟨t, ht, hq⟩ := hbody A outer s H vs Q E (hr.deeper _) hsp
  have I : Inv (cxOf CX P w K mg base N qual scope f cdv A outer s H E) [] (start N vs) H s1 := inv_start S hr.hd e0 hl r x
  refine wpAny_mono (ht [] s1 (start N vs) H _ I hq) (fun fl s' hs => ?_) fun e s' hs => hs
  have fin : ∀ {σ' : St} {H' : Hp} {v : V} {u : Value}, Inv (cxOf CX P w K mg base N qual scope f cdv A outer s H E) [] σ' H' s' → RelV v u → Q v H' → CE outer P w H s Q u s' :=
    fun {σ' H' v u} J rv q => ⟨v, H', J.os, J.bare, J.base, J.hok, rv, q⟩
  cases fl with
  | ret u =>
    obtain ⟨v, σ', H', J, rv, q⟩ := hs
    exact fin J rv q
  | next =>
    obtain ⟨σ', H', J, q⟩ := hs
    exact fin (v := V.non) (u := Value.none) J rfl q
  | brk =>
    obtain ⟨_, _, _, q⟩ := hs
    exact False.elim q
  | cont =>
    obtain ⟨_, _, _, q⟩ := hs
    exact False.elim q
end L2

namespace L2
open PySem PySem.Spec PyProof.Rows
section
variable {X : Cx} {x : Str} {p pos : Pos} {e : Expr} {es : List Expr} {t : TA} {id T : String} {r : List V → Hp → VK → Prop}

def tCB (r : List V → Hp → VK → Prop) (t : TA) : TE := fun σ H Q => t σ H fun vs H1 => r vs H1 Q
theorem pe_callB (hc : CallR X (.builtin id) r) (hg : Gl X x) (hm : X.mg x = none) (hv : bootBuiltins x = some (.builtin id)) (ha : PA X (e :: es) t) (hn : x ≠ "__name__" := by decide) (hdb : (x == ("__debug__" : Str)) = false := by decide)
    (he : starEach (e :: es) X.env = (false, eval e X.env) :: starEach es X.env := by rfl) (hpl : (backTo pos (starEach es X.env)).any (·.1) = false := by rfl) : PE X (.Call (.Name x p) (e :: es) [] pos) (tCB r t) := by
  intro pins s σ H Q I h
  refine wpAny_Call_Name_kw (ld_blt I hg hm hv ?_ hn hdb)
  exact PyProof.Rows.callWith_builtin1 (thn (ha pos pins s σ H _ I h) fun us s1 ⟨vs, H1, I1, r1, q1⟩ => hc pins s1 σ H1 vs us Q I1 r1 q1) he hpl
theorem pe_callTy (hc : CallR X (.type T) r) (hg : Gl X x) (hm : X.mg x = none) (hv : bootBuiltins x = some (.type T)) (ha : PA X (e :: es) t) (hn : x ≠ "__name__" := by decide) (hdb : (x == ("__debug__" : Str)) = false := by decide)
    (he : starEach (e :: es) X.env = (false, eval e X.env) :: starEach es X.env := by rfl) (hpl : (backTo pos (starEach es X.env)).any (·.1) = false := by rfl) : PE X (.Call (.Name x p) (e :: es) [] pos) (tCB r t) := by
  intro pins s σ H Q I h
  refine wpAny_Call_Name_kw (ld_blt I hg hm hv ?_ hn hdb)
  exact PyProof.Rows.callWith_type1 (thn (ha pos pins s σ H _ I h) fun us s1 ⟨vs, H1, I1, r1, q1⟩ => hc pins s1 σ H1 vs us Q I1 r1 q1) he hpl
end
end L2

namespace HT
open PySem PyProof.Rows

def lexLt : List Int → List Int → Bool
  | [], [] => false
  | [], _ :: _ => true
  | _ :: _, [] => false
  | x :: xs, y :: ys => if x = y then lexLt xs ys else decide (x < y)
theorem lexLt_cons (x y : Int) (xs ys : List Int) : lexLt (x :: xs) (y :: ys) = if x = y then lexLt xs ys else decide (x < y) := rfl
theorem lexLt_cons_nil (x : Int) (xs : List Int) : lexLt (x :: xs) [] = false := rfl

theorem eqAt_int (A : Around) (s : Shared) (a : Int) (t : Tok) (c : Int) (u : Tok) : ∃ e, SeqAt.EqAt A s (.int a t) (.int c u) e ∧ (e = true ↔ a = c) :=
  ⟨(a == c), SeqAt.EqAt.int_int a t c u, by simp⟩
theorem rcLt_int (A : Around) (s : Shared) (a : Int) (t : Tok) (c : Int) (u : Tok) (prog : Program) (w : World) (E : Value → Shared → Prop) (Q : Value → Shared → Prop) (h : Q (.bool (decide (a < c))) s) :
    wpAny (model prog w) A (richCompare .Lt (.int a t) (.int c u)) Q E s :=
  (PyProof.Rows.lt_int h : wpAny (model prog w) A (compareOp .Lt (.int a t) (.int c u)) Q E s)

section
open PySem.SeqAt
open PySem.AutoSeq1 (wpAny_loadPart')
open PySem.MeetsSeq PySem.MeetsSeq2 PySem.MeetsSeq3

end

section
variable {prog : Program} {w : World} {A : Around} {E : Value → Shared → Prop} {s : Shared}

def sIx (n d : Nat) : Option Int → Nat
  | none => d
  | some v => if v < 0 then (v + (n : Int)).toNat else min v.toNat n
theorem sIx_nat (n d k : Nat) : sIx n d (some (k : Int)) = min k n := by
  show (if (k : Int) < 0 then ((k : Int) + (n : Int)).toNat else min (k : Int).toNat n) = min k n
  rw [if_neg (by omega), Int.toNat_natCast]
end
end HT

namespace L2
open PySem PySem.Spec PyProof.Rows

abbrev TO := St → Hp → (Option Int → Hp → Prop) → Prop
def PO (X : Cx) (e : Option Expr) (t : TO) : Prop :=
  ∀ (pins : List (Addr × Obj)) (s : Shared) (σ : St) (H : Hp) (Q : Option Int → Hp → Prop), Inv X pins σ H s → t σ H Q →
    wpAny (model X.prog X.w) X.A (evalPart e X.env) (fun u s' => ∃ o H', Inv X pins σ H' s' ∧ IsPart u o ∧ Q o H') X.xe s
def tNoPart : TO := fun _ H Q => Q none H
def tPart (t : TE) : TO := fun σ H Q => t σ H fun x H1 => ∃ i, x = .int i ∧ Q (some i) H1

theorem intsAre_of {ns : List Int} : ∀ {us : List Value}, Vals (ns.map V.int) us → IntsAre us ns := by
  induction ns with
  | nil => intro us r; rw [List.map_nil] at r; cases r; exact .nil
  | cons n ns ih =>
    intro us r
    rw [List.map_cons] at r
    cases r with
    | cons r1 r2 =>
      obtain ⟨t, e⟩ := r1
      subst e
      exact .cons n t (ih r2)

section
variable {X : Cx} {e : Expr} {te : TE} {lo hi : Option Expr} {tl th : TO} {pos p2 : Pos}

theorem po_none : PO X none tNoPart := by
  intro pins s σ H Q I h
  rw [evalPart_none]
  exact wpAny_pure ⟨none, H, I, .none, h⟩
theorem po_some (h : PE X e te) : PO X (some e) (tPart te) := by
  intro pins s σ H Q I hw
  rw [evalPart_some]
  refine thn (h pins s σ H _ I hw) fun u s1 ⟨x, H1, I1, r1, q1⟩ => ?_
  obtain ⟨i, rfl, q⟩ := q1
  obtain ⟨t, rfl⟩ := r1
  exact ⟨some i, H1, I1, .int i t, q⟩

def SlR (X : Cx) (r : V → Option Int → Option Int → Hp → VK → Prop) : Prop :=
  ∀ (pins : List (Addr × Obj)) (s : Shared) (σ : St) (H : Hp) (x : V) (v vl vu : Value) (lo hi : Option Int) (sl : Addr) (Q : VK), Inv X pins σ H s → RelV x v → s.heap.IsSliceOf sl vl vu .none → IsPart vl lo → IsPart vu hi → r x lo hi H Q →
    ∃ T id, typeLookup (.type T) "__getitem__" = pure (some (.builtin id)) ∧ s.TypeIs v T ∧ wpAny (model X.prog X.w) X.A (getItem v (.ref sl)) (EP X pins σ Q) X.xe s
def tSl (r : V → Option Int → Option Int → Hp → VK → Prop) (te : TE) (tl th : TO) : TE := fun σ H Q => te σ H fun x H1 => tl σ H1 fun l H2 => th σ H2 fun u H3 => r x l u H3 Q
theorem pe_slice {r : V → Option Int → Option Int → Hp → VK → Prop} (hr : SlR X r) (he : PE X e te) (hl : PO X lo tl) (hu : PO X hi th) : PE X (.Subscript e (.Slice lo hi none p2) pos) (tSl r te tl th) := by
  intro pins s σ H Q I h
  refine Subscript_ (thn (he pins s σ H _ I h) fun v s1 ⟨x, H1, I1, r1, q1⟩ => ?_)
  refine wpAny_Slice (thn (hl pins s1 σ H1 _ I1 q1) fun vl s2 ⟨l, H2, I2, pl, q2⟩ => thn (hu pins s2 σ H2 _ I2 q2) fun vu s3 ⟨u, H3, I3, pu, q3⟩ => ?_)
  rw [evalPart_none]
  refine wpAny_pure ?_
  have I4 : Inv X pins σ H3 { s3 with heap := s3.heap.push { cls := .type "slice", data := .fields #[vl, vu, .none] } } := I3.kept (t' := s3.toks) fun b ob q => Heap.get?_push_of_some _ q
  obtain ⟨T, id, hT, ht, hg⟩ := hr pins { s3 with heap := s3.heap.push { cls := .type "slice", data := .fields #[vl, vu, .none] } } σ H3 x v vl vu l u s3.heap.objs.size Q I4 r1 (Heap.IsSliceOf.new ..) pl pu q3
  show wpAny (model X.prog X.w) X.A (subscriptTail e (.Slice lo hi none p2) v (.ref s3.heap.objs.size)) (EP X pins σ Q) X.xe { s3 with heap := s3.heap.push { cls := .type "slice", data := .fields #[vl, vu, .none] } }
  exact tail_any (ops := [.ref s3.heap.objs.size, v]) ht hT hg (by with_unfolding_all rfl)

def cutV (xs : List V) (lo hi : Option Int) : List V := (xs.drop (HT.sIx xs.length 0 lo)).take (HT.sIx xs.length xs.length hi - HT.sIx xs.length 0 lo)
theorem cutV_length (xs : List V) (lo hi : Option Int) : (cutV xs lo hi).length ≤ xs.length := by
  unfold cutV
  rw [List.length_take, List.length_drop]
  omega
end
end L2

namespace L2
open PySem PySem.Spec PyProof.Rows

def ixN (n : Nat) (i : Int) : Option Nat := if 0 ≤ i then (if i < n then some i.toNat else none) else if -(n : Int) ≤ i then some (i + n).toNat else none
def atI {α : Type} (xs : List α) (i : Int) : Option α := (ixN xs.length i).bind fun j => xs[j]?
theorem ixN_seq {n : Nat} {i : Int} {j : Nat} (h : ixN n i = some j) : seqIndex? i n = some j ∧ j < n ∧ -(n : Int) ≤ i ∧ i < n := by
  unfold ixN at h
  by_cases h0 : 0 ≤ i
  · rw [if_pos h0] at h
    by_cases h1 : i < n
    · rw [if_pos h1] at h
      have e : i.toNat = j := Option.some.inj h
      exact ⟨by rw [seqIndex_of h0 h1, e], by omega, by omega, h1⟩
    · rw [if_neg h1] at h; cases h
  · rw [if_neg h0] at h
    by_cases h1 : -(n : Int) ≤ i
    · rw [if_pos h1] at h
      have e : (i + n).toNat = j := Option.some.inj h
      exact ⟨by rw [seqIndex_neg (by omega) h1, e], by omega, h1, by omega⟩
    · rw [if_neg h1] at h; cases h
theorem atI_get {α : Type} {xs : List α} {i : Int} {v : α} (h : atI xs i = some v) : ∃ j, seqIndex? i xs.length = some j ∧ xs[j]? = some v ∧ j < xs.length ∧ -(xs.length : Int) ≤ i ∧ i < xs.length := by
  unfold atI at h
  cases e : ixN xs.length i with
  | none => rw [e] at h; cases h
  | some j =>
    rw [e] at h
    obtain ⟨h1, h2, h3, h4⟩ := ixN_seq e
    exact ⟨j, h1, h, h2, h3, h4⟩
theorem atI_nat {α : Type} {xs : List α} {j : Nat} {v : α} (h : xs[j]? = some v) : atI xs (j : Int) = some v := by
  have hj : j < xs.length := (List.getElem?_eq_some_iff.mp h).1
  have e : ixN xs.length (j : Int) = some j := by
    unfold ixN
    rw [if_pos (by omega), if_pos (by omega)]; simp
  unfold atI; rw [e]; exact h
theorem atI_last {α : Type} (xs : List α) (v : α) : atI (xs ++ [v]) (-1) = some v := by
  have hl : (xs ++ [v]).length = xs.length + 1 := by simp
  have e : ixN (xs ++ [v]).length (-1) = some xs.length := by
    unfold ixN
    rw [hl, if_neg (by decide), if_pos (by omega)]
    congr 1
    omega
  unfold atI
  rw [e]
  show (xs ++ [v])[xs.length]? = some v
  simp

def PlainIx (b : Expr) : Prop := ∀ o i, subscripted b false o i = operate [o, i] (getItem o i)
def IxR (X : Cx) (r : R2) : Prop :=
  ∀ (value slice : Expr) (pins : List (Addr × Obj)) (s : Shared) (σ : St) (H : Hp) (x y : V) (v u : Value) (Q : VK), Inv X pins σ H s → RelV x v → RelV y u → r x y H Q →
    subscripted slice false v u = operate [v, u] (getItem v u) → wpAny (model X.prog X.w) X.A (subscriptTail value slice v u) (EP X pins σ Q) X.xe s
def MtR (X : Cx) (id : String) (r : V → List V → Hp → VK → Prop) : Prop :=
  ∀ (pins : List (Addr × Obj)) (s : Shared) (σ : St) (H : Hp) (x : V) (xs : List V) (v : Value) (us : List Value) (Q : VK), Inv X pins σ H s → RelV x v → Vals xs us → r x xs H Q →
    wpAny (model X.prog X.w) X.A (call (.builtin id) (v :: us)) (EP X pins σ Q) X.xe s
section
variable {X : Cx} {a b : Expr} {ta tb : TE} {pos : Pos}
theorem pe_ix {r : R2} (hr : IxR X r) (ha : PE X a ta) (hb : PE X b tb) (hs : PlainIx b) : PE X (.Subscript a b pos) (tOp r ta tb) := by
  intro pins s σ H Q I h
  exact Subscript_ (binT ha hb I h fun v u s2 x y H2 I2 rx ry q => hr a b pins s2 σ H2 x y v u Q I2 rx ry q (hs _ _))

def rIxL (K : PySem.W.Frag) : R2 := fun x y H Q => ∃ p xs i v, x = .ref p ∧ y = .int i ∧ SqL K H p xs ∧ atI xs i = some v ∧ Q v H
def rIxT (K : PySem.W.Frag) : R2 := fun x y H Q => ∃ p xs i v, x = .ref p ∧ y = .int i ∧ SqT K H p xs ∧ atI xs i = some v ∧ Q v H
theorem ix_list : IxR X (rIxL X.K) := by
  intro value slice pins s σ H x y v u Q I rx ry h hs
  obtain ⟨p, xs, i, z, rfl, rfl, hq, he, q⟩ := h
  cases rx
  obtain ⟨t, rfl⟩ := ry
  obtain ⟨its, r, pl, hz⟩ := I.list hq
  obtain ⟨j, h1, h2, h3, h4, h5⟩ := atI_get he
  obtain ⟨w, ew, rw'⟩ := r.get h2
  have hl := r.length
  have hn := line63
  have fin : EP X pins σ Q w s := ⟨z, H, I, rw', q⟩
  by_cases h0 : 0 ≤ i
  · have hj : i.toNat = j := by
      rw [seqIndex_of h0 h5] at h1
      exact Option.some.inj h1
    exact item_listR pl.isList h0 (by omega) (by rw [hj]; simpa using ew) fin hs
  · have hj : (i + (its.toArray.size : Int)).toNat = j := by
      rw [seqIndex_neg (by omega) h4] at h1
      rw [List.size_toArray, ← hl]
      exact Option.some.inj h1
    exact subscriptTail_builtinR (x := w) pl.isList.typeIs slot_list_getitem.lookup
      (wpAny_getItem_list_neg (Q := fun r s' => r = w ∧ EP X pins σ Q r s') pl.isList (by omega) (by rw [List.size_toArray] <;> omega) (by omega) (by rw [hj]; simpa using ew) ⟨rfl, fin⟩) hs
theorem ix_tup : IxR X (rIxT X.K) := by
  intro value slice pins s σ H x y v u Q I rx ry h hs
  obtain ⟨p, xs, i, z, rfl, rfl, hq, he, q⟩ := h
  cases rx
  obtain ⟨t, rfl⟩ := ry
  obtain ⟨its, r, pl, hz⟩ := I.tuple hq
  obtain ⟨j, h1, h2, h3, h4, h5⟩ := atI_get he
  obtain ⟨w, ew, rw'⟩ := r.get h2
  have hl := r.length
  have hn := line63
  have fin : EP X pins σ Q w s := ⟨z, H, I, rw', q⟩
  exact subscriptTail_builtinR (x := w) pl.typeIs slot_tuple_getitem.lookup
    (getItem_tuple (j := j) (Q := fun r s' => r = w ∧ EP X pins σ Q r s') pl (by omega) (by omega) (by rw [List.size_toArray, ← hl]; exact h1) (by simpa using ew) ⟨rfl, fin⟩) hs
theorem Inv.lst {pins : List (Addr × Obj)} {σ : St} {H : Hp} {s : Shared} {p : Addr} {xs : List V} (I : Inv X pins σ H s) (h : H p = some (.lst xs)) :
    ∃ (its : List Value) (n : Nat), Vals xs its ∧ s.heap.get? p = some { cls := .type "list", data := .seq its.toArray n } ∧ xs.length ≤ sizeLine := by
  obtain ⟨z, its, n, r, e⟩ := I.hok p _ h
  exact ⟨its, n, r, e, z⟩
theorem slice_bounds (lo hi : Option Int) (n : Nat) : (sliceBounds lo hi none n).1 = ((HT.sIx n 0 lo : Nat) : Int) ∧ (sliceBounds lo hi none n).2.1 = ((HT.sIx n n hi : Nat) : Int) ∧ (sliceBounds lo hi none n).2.2 = 1 := by
  refine ⟨?_, ?_, rfl⟩
  · cases lo with
    | none => simp [sliceBounds, HT.sIx]
    | some i =>
      simp only [sliceBounds, HT.sIx, Option.getD_none, show (1 : Int) > 0 by decide, if_true]
      by_cases h : i < 0
      · simp only [h, if_true] <;> omega
      · simp only [h, if_false] <;> omega
  · cases hi with
    | none => simp [sliceBounds, HT.sIx]
    | some i =>
      simp only [sliceBounds, HT.sIx, Option.getD_none, show (1 : Int) > 0 by decide, if_true]
      by_cases h : i < 0
      · simp only [h, if_true] <;> omega
      · simp only [h, if_false] <;> omega
theorem slicePick_cut (its : List Value) (lo hi : Option Int) : slicePick its.toArray lo hi none = ((its.drop (HT.sIx its.length 0 lo)).take (HT.sIx its.length its.length hi - HT.sIx its.length 0 lo)).toArray := by
  obtain ⟨h1, h2, h3⟩ := slice_bounds lo hi its.toArray.size
  unfold slicePick
  rw [h1, h2, h3]
  simp only [sliceRange_one, pick_run, List.size_toArray] <;> rfl
def rSlL (K : PySem.W.Frag) : V → Option Int → Option Int → Hp → VK → Prop := fun x lo hi H Q => ∃ a xs, x = .ref a ∧ SqL K H a xs ∧ ∀ p, H p = none → Q (.ref p) (upd H p (.lst (cutV xs lo hi)))
theorem sl_list : SlR X (rSlL X.K) := by
  intro pins s σ H x v vl vu lo hi sl Q I rx hs pl pu h
  obtain ⟨a, xs, rfl, hx, q⟩ := h
  cases rx
  obtain ⟨its, r, ht, hz⟩ := I.list hx
  have hlen := r.length
  refine ⟨"list", _, slot_list_getitem.lookup, ht.isList.typeIs, ?_⟩
  refine wpAny_getItem_list_slice ht.isList hs pl pu .none (by simp) ?_ (by rw [List.size_toArray] <;> omega)
  rw [slicePick_cut, ← hlen]
  refine ⟨.ref s.heap.objs.size, _, I.laid (t' := s.toks) (o := .lst (cutV xs lo hi)) (fun b ob q => Heap.get?_push_of_some _ q) (Nat.le_refl _) ?_, rfl, q _ (I.hok.fresh (Nat.le_refl _))⟩
  exact ⟨Nat.le_trans (cutV_length xs lo hi) hz, _, 0, (r.drop (HT.sIx xs.length 0 lo)).take (HT.sIx xs.length xs.length hi - HT.sIx xs.length 0 lo), Heap.get?_push_size _ rfl⟩

def flatV : V → Bool
  | .non => true
  | .bl _ => true
  | .int _ => true
  | .str _ => true
  | _ => false
def eqV : V → V → Bool
  | .non, .non => true
  | .bl a, .bl b => a == b
  | .bl a, .int b => (if a then 1 else 0) == b
  | .int a, .bl b => a == (if b then 1 else 0)
  | .int a, .int b => a == b
  | .str a, .str b => a == b
  | _, _ => false
theorem eqAt_V {A : Around} {s : Shared} {y x : V} {u v : Value} (ry : RelV y u) (rx : RelV x v) (fy : flatV y = true) (fx : flatV x = true) : SeqAt.EqAt A s u v (eqV y x) := by
  cases y with
  | non =>
    cases ry
    cases x with
    | non => cases rx; exact SeqAt.EqAt.same _
    | bl b => cases rx; exact SeqAt.EqAt.none_bool b
    | int b => obtain ⟨t, rfl⟩ := rx; exact SeqAt.EqAt.none_int b t
    | str b => obtain ⟨t, rfl⟩ := rx; exact SeqAt.EqAt.none_str b t
    | _ => exact absurd (show false = true from fx) Bool.false_ne_true
  | bl a =>
    cases ry
    cases x with
    | non => cases rx; exact SeqAt.EqAt.bool_none a
    | bl b => cases rx; exact SeqAt.EqAt.bool_bool a b
    | int b => obtain ⟨t, rfl⟩ := rx; exact SeqAt.EqAt.bool_int a b t
    | str b => obtain ⟨t, rfl⟩ := rx; exact SeqAt.EqAt.bool_str a b t
    | _ => exact absurd (show false = true from fx) Bool.false_ne_true
  | int a =>
    obtain ⟨t', rfl⟩ := ry
    cases x with
    | non => cases rx; exact SeqAt.EqAt.int_none a t'
    | bl b => cases rx; exact SeqAt.EqAt.int_bool a t' b
    | int b => obtain ⟨t, rfl⟩ := rx; exact SeqAt.EqAt.int_int a t' b t
    | str b => obtain ⟨t, rfl⟩ := rx; exact SeqAt.EqAt.int_str a t' b t
    | _ => exact absurd (show false = true from fx) Bool.false_ne_true
  | str a =>
    obtain ⟨t', rfl⟩ := ry
    cases x with
    | non => cases rx; exact SeqAt.EqAt.str_none a t'
    | bl b => cases rx; exact SeqAt.EqAt.str_bool a t' b
    | int b => obtain ⟨t, rfl⟩ := rx; exact SeqAt.EqAt.str_int a t' b t
    | str b => obtain ⟨t, rfl⟩ := rx; exact SeqAt.EqAt.str_str a t' b t
    | _ => exact absurd (show false = true from fx) Bool.false_ne_true
  | _ => exact absurd (show false = true from fy) Bool.false_ne_true
def eqU (x : V) (u : Value) : Bool := match u with
  | .none => eqV .non x
  | .bool b => eqV (.bl b) x
  | .int i _ => eqV (.int i) x
  | .str z _ => eqV (.str z) x
  | _ => false
theorem eqU_of {x y : V} {u : Value} (r : RelV y u) (f : flatV y = true) : eqU x u = eqV y x := by
  cases y with
  | non => cases r; rfl
  | bl b => cases r; rfl
  | int i => obtain ⟨t, rfl⟩ := r; rfl
  | str z => obtain ⟨t, rfl⟩ := r; rfl
  | _ => exact absurd (show false = true from f) Bool.false_ne_true
theorem any_eqU {x : V} : ∀ {xs : List V} {us : List Value}, Vals xs us → xs.all flatV = true → us.any (eqU x) = xs.any fun y => eqV y x
  | _, _, .nil, _ => rfl
  | y :: xs, u :: us, .cons r t, f => by
    rw [List.all_cons, Bool.and_eq_true] at f
    rw [List.any_cons, List.any_cons, eqU_of r f.1, any_eqU t f.2]
theorem mem_eqAt {A : Around} {s : Shared} {x : V} {v : Value} (rx : RelV x v) (fx : flatV x = true) : ∀ {xs : List V} {us : List Value}, Vals xs us → xs.all flatV = true → ∀ u ∈ us, SeqAt.EqAt A s u v (eqU x u)
  | _, _, .nil, _ => fun u hu => by cases hu
  | y :: xs, u :: us, .cons r t, f => fun u' hu => by
    rw [List.all_cons, Bool.and_eq_true] at f
    rcases List.mem_cons.mp hu with rfl | hu
    · rw [eqU_of r f.1]; exact eqAt_V r rx f.1 fx
    · exact mem_eqAt rx fx t f.2 u' hu
def inV (x : V) (xs : List V) : Bool := xs.any fun y => eqV y x
def rIn (K : PySem.W.Frag) (neg : Bool) : R2 := fun x y H Q => ∃ p xs, y = .ref p ∧ (SqL K H p xs ∨ SqT K H p xs) ∧ flatV x = true ∧ xs.all flatV = true ∧ Q (.bl (if neg then !inV x xs else inV x xs)) H
theorem op_notIn_seq : OpR X (compareOp .NotIn) (rIn X.K true) := by
  intro pins s σ H x y v u Q I rx ry h
  obtain ⟨p, xs, rfl, hq, fx, fs, q⟩ := h
  cases ry
  rcases hq with hq | hq
  · obtain ⟨its, r, pl, hz⟩ := I.list hq
    refine SeqAt.notIn_listAt (eqU x) pl.isList (fun w hw => mem_eqAt rx fx r fs w (by simpa using hw)) ⟨.bl _, H, I, rfl, ?_⟩
    rw [show its.toArray.any (eqU x) = its.any (eqU x) by simp, any_eqU r fs]
    exact q
  · obtain ⟨its, r, pl, hz⟩ := I.tuple hq
    refine SeqAt.notIn_tupleAt (eqU x) pl (fun w hw => mem_eqAt rx fx r fs w (by simpa using hw)) ⟨.bl _, H, I, rfl, ?_⟩
    rw [show its.toArray.any (eqU x) = its.any (eqU x) by simp, any_eqU r fs]
    exact q
theorem call_len_seq : CallR X (.builtin "len") (fun xs H Q => ∃ p ys, xs = [.ref p] ∧ (SqL X.K H p ys ∨ SqT X.K H p ys) ∧ Q (.int ys.length) H) := by
  intro pins s σ H xs us Q I r h
  obtain ⟨p, ys, rfl, hq, q⟩ := h
  obtain ⟨u, rfl, rx⟩ := vals1 r
  cases rx
  have hn := line63
  rcases hq with hq | hq
  · obtain ⟨its, r', pl, hz⟩ := I.list hq
    have hlen := r'.length
    exact Calls.call_len_list pl.isList (by simp only [List.size_toArray] <;> omega) ⟨.int ys.length, H, I.tok _, ⟨s.toks + 1, by rw [List.size_toArray, hlen]⟩, q⟩
  · obtain ⟨its, r', pl, hz⟩ := I.tuple hq
    have hlen := r'.length
    exact len_tuple pl (by simp only [List.size_toArray] <;> omega) ⟨.int ys.length, H, I.tok _, ⟨s.toks + 1, by rw [List.size_toArray, hlen]⟩, q⟩
theorem call_list_of : CallR X (.type "list") (fun xs H Q => ∃ p ys, xs = [.ref p] ∧ (SqL X.K H p ys ∨ SqT X.K H p ys) ∧ ∀ l, H l = none → Q (.ref l) (upd H l (.lst ys))) := by
  intro pins s σ H xs us Q I r h
  obtain ⟨p, ys, rfl, hq, q⟩ := h
  obtain ⟨u, rfl, rx⟩ := vals1 r
  cases rx
  have fin : ∀ (its : List Value), Vals ys its → ys.length ≤ sizeLine → ∀ (h' : Heap) (c' : Nat), (∀ b o', s.heap.get? b = some o' → h'.get? b = some o') →
      h'.get? s.heap.objs.size = some { cls := .type "list", dict := none, data := .seq its.toArray c', slots := #[] } → EP X pins σ Q (.ref s.heap.objs.size) { s with heap := h' } := fun its r' hz h' c' kp e =>
    ⟨.ref s.heap.objs.size, _, I.laid (t' := s.toks) kp (Nat.le_refl _) (show ObjOk X.prog X.w _ h' _ (.lst ys) from ⟨hz, its, c', r', e⟩), rfl, q _ (I.hok.fresh (Nat.le_refl _))⟩
  rcases hq with hq | hq
  · obtain ⟨its, r', pl, hz⟩ := I.list hq
    have hlen := r'.length
    obtain ⟨o, ho, hc, n, hd⟩ := pl.isList
    exact call_list_seq p (.inl rfl) ho hc hd (fun h' c' kp e => fin its r' hz h' c' kp e) (by simp only [List.size_toArray] <;> omega)
  · obtain ⟨its, r', pl, hz⟩ := I.tuple hq
    have hlen := r'.length
    obtain ⟨o, ho, hc, n, hd⟩ := pl
    exact call_list_seq p (.inr rfl) ho hc hd (fun h' c' kp e => fin its r' hz h' c' kp e) (by simp only [List.size_toArray] <;> omega)
def tyV (K : PySem.W.Frag) (T : String) (x : V) (H : Hp) : Prop := match x with
  | .str _ => T = "str"
  | .int _ => T = "int"
  | .ref p => (T = "list" ∧ ∃ xs, SqL K H p xs) ∨ (T = "tuple" ∧ ∃ o, K.lookup p = some o ∧ o.cls = .type "tuple" ∧ o.dict = none) ∨
      (T = "dict" ∧ ((∃ kvs, H p = some (.dK kvs)) ∨ ∃ kvs, H p = some (.dT kvs))) ∨ (T = "set" ∧ ∃ S n, H p = some (.set S n))
  | _ => False
theorem tyV_is {pins : List (Addr × Obj)} {σ : St} {H : Hp} {s : Shared} {T : String} {x : V} {v : Value} (I : Inv X pins σ H s) (r : RelV x v) (ty : tyV X.K T x H) :
    s.TypeIs v T ∧ ∀ a, v = .ref a → ∃ ob, s.heap.get? a = some ob ∧ ob.dict = none := by
  cases x with
  | str z =>
    obtain ⟨t, rfl⟩ := r
    cases (show T = "str" from ty)
    exact ⟨typeIs_str s z t, fun _ e => nomatch e⟩
  | int i =>
    obtain ⟨t, rfl⟩ := r
    cases (show T = "int" from ty)
    exact ⟨typeIs_int s i t, fun _ e => nomatch e⟩
  | ref p =>
    cases r
    rcases ty with ⟨rfl, xs, hq⟩ | ⟨rfl, o, hk, hc, hd⟩ | ⟨rfl, hk⟩ | ⟨rfl, S, n, hk⟩
    · obtain ⟨its, _, pl, _⟩ := I.list hq
      refine ⟨pl.isList.typeIs, fun a e => ?_⟩
      cases e
      obtain ⟨o, n, e, c, hd, _⟩ := pl
      exact ⟨o, e, hd⟩
    · refine ⟨⟨o, I.kIn p o hk, hc⟩, fun a e => ?_⟩
      cases e
      exact ⟨o, I.kIn _ o hk, hd⟩
    · have z : ∃ o, s.heap.get? p = some o ∧ o.ExactDict := by
        rcases hk with ⟨kvs, hk⟩ | ⟨kvs, hk⟩
        · obtain ⟨_, _, _, _, o, _, _, e, ex, _⟩ := I.hok p _ hk
          exact ⟨o, e, ex⟩
        · obtain ⟨_, _, _, _, o, _, _, e, ex, _⟩ := I.hok p _ hk
          exact ⟨o, e, ex⟩
      obtain ⟨o, e, ex⟩ := z
      refine ⟨⟨o, e, ex.1⟩, fun a e2 => ?_⟩
      cases e2
      exact ⟨o, e, ex.2.1⟩
    · obtain ⟨o, _, _, _, e, ex, _⟩ := I.hok p _ hk
      refine ⟨⟨o, e, ex.1⟩, fun a e2 => ?_⟩
      cases e2
      exact ⟨o, e, ex.2.1⟩
  | _ => exact False.elim ty
def tBM (K : PySem.W.Frag) (T : String) (r : V → List V → Hp → VK → Prop) (to : TE) (t : TA) : TE := fun σ H Q => to σ H fun x H1 => tyV K T x H1 ∧ t σ H1 fun xs H2 => r x xs H2 Q
variable {o e : Expr} {es : List Expr} {to : TE} {t : TA} {name : Str} {apos cpos : Pos} {T id : String} {r : V → List V → Hp → VK → Prop}
theorem pe_bm (pa : PlainAttrs T) (slot : Slot T name id) (hty : typeOf (.builtin id) = pure (.type "method_descriptor")) (hm : MtR X id r) (ho : PE X o to) (ha : PA X (e :: es) t)
    (hbase : attributeBase o name X.env (eval o X.env) = eval o X.env := by rfl)
    (hfew : ((backTo cpos (starEach (e :: es) X.env)).all (fun x => !x.1) && (backToKw cpos (keywordEach [] X.env)).all (fun x => x.1.isSome)
      && decide ((e :: es).length + ([] : List Keyword).length + (if ([] : List Keyword).isEmpty then 0 else 1) < 30)) = true := by rfl)
    (hline : (apos.endLine == cpos.line) = true := by rfl) (hs : starEach (e :: es) X.env = (false, eval e X.env) :: starEach es X.env := by rfl) (hplain : (backTo cpos (starEach es X.env)).any (·.1) = false := by rfl) :
    PE X (.Call (.Attribute o name apos) (e :: es) [] cpos) (tBM X.K T r to t) := by
  intro pins s σ H Q I h
  refine wpAny_Call_method_late hbase hfew hline rfl (thn (ho pins s σ H _ I h) fun v s1 ⟨x, H1, I1, r1, ty, q1⟩ => ?_)
  obtain ⟨h1, h2⟩ := tyV_is I1 r1 ty
  refine ⟨T, id, pa, slot, hty, h1, h2, ?_⟩
  have hA := ha cpos pins s1 σ H1 _ I1 q1
  rw [hs] at hA ⊢
  refine Calls.callWith_builtin (by show (false || (backTo cpos (starEach es X.env)).any (·.1)) = false; rw [hplain] <;> rfl) (Calls.evalArgs_plain ?_)
  exact thn hA fun us s2 ⟨vs, H2, I2, r2, q2⟩ => hm pins s2 σ H2 x vs v us Q I2 r1 r2 q2

end
end L2

namespace L2
open PySem PySem.Spec PyProof.Rows

def MtM (X : Cx) (id : String) (r : V → List V → Hp → VK → Prop) : Prop :=
  ∀ (pins : List (Addr × Obj)) (s : Shared) (σ : St) (H : Hp) (x : V) (xs : List V) (v : Value) (us : List Value) (Q : VK), Inv X pins σ H s → RelV x v → Vals xs us → r x xs H Q →
    wpAny (model X.prog X.w) X.A (call (.builtin id) (v :: us)) (EP X pins σ Q) X.xe s

theorem Vals.one : ∀ {x : V} {us : List Value}, Vals [x] us → ∃ u, us = [u] ∧ RelV x u
  | _, _, .cons r .nil => ⟨_, rfl, r⟩
section
variable {X : Cx} {pins : List (Addr × Obj)} {σ : St} {H : Hp} {s : Shared} {l b : Addr} {xs ys zs : List V}

theorem Inv.lset {its its' : List Value} {n : Nat} {f : Array Value → Array Value} {t' : Nat} (I : Inv X pins σ H s) (hH : H l = some (.lst xs))
    (e : s.heap.get? l = some { cls := .type "list", data := .seq its.toArray n }) (hf : f its.toArray = its'.toArray) (hv : Vals ys its') (hz : ys.length ≤ sizeLine) :
    Inv X pins σ (upd H l (.lst ys)) { s with heap := s.heap.update l (Obj.mapSeq f), toks := t' } := by
  have q := PySem.IsL.update e f
  rw [hf] at q
  refine I.write (x := l) (e := l) (by rw [hH]; exact trivial) (.inl rfl) (fun b' u hb hu => (Heap.get?_update_other s.heap (Obj.mapSeq f) (Ne.symm hb)).trans hu) ⟨_, q⟩ ?_
  exact ⟨hz, its', _, hv, q⟩
theorem Inv.lnew {its : List Value} {t' : Nat} (I : Inv X pins σ H s) (hv : Vals ys its) (hz : ys.length ≤ sizeLine) :
    Inv X pins σ (upd H s.heap.objs.size (.lst ys)) { s with heap := s.heap.push { cls := .type "list", data := .seq its.toArray }, toks := t' } :=
  I.laid (fun _ _ q => Heap.get?_push_of_some _ q) (Nat.le_refl _) ⟨hz, its, 0, hv, Heap.get?_push_size _ rfl⟩
theorem Inv.fresh (I : Inv X pins σ H s) : H s.heap.objs.size = none := I.hok.fresh (Nat.le_refl _)
theorem Inv.lstM (I : Inv X pins σ H s) (hH : H l = some (.lst xs)) : xs.length ≤ sizeLine ∧ ∃ (its : List Value) (n : Nat), Vals xs its ∧ xs.length = its.length ∧ s.heap.get? l = some { cls := .type "list", data := .seq its.toArray n } := by
  obtain ⟨z, its, n, r, e⟩ := I.hok l _ hH
  exact ⟨z, its, n, r, r.length, e⟩

theorem notLongL {n : Nat} (h : n ≤ sizeLine) : Builtin.List.listTooLong n = false := by
  unfold Builtin.List.listTooLong
  exact decide_eq_false (by omega)
end

section
variable {X : Cx}

def rAppend : V → List V → Hp → VK → Prop := fun x vs H Q => ∃ l xs y, x = .ref l ∧ vs = [y] ∧ H l = some (.lst xs) ∧ xs.length < sizeLine ∧ Q .non (upd H l (.lst (xs ++ [y])))
def rExtend : V → List V → Hp → VK → Prop := fun x vs H Q => ∃ l b xs zs, x = .ref l ∧ vs = [.ref b] ∧ H l = some (.lst xs) ∧ H b = some (.lst zs) ∧ xs.length + zs.length ≤ sizeLine ∧ Q .non (upd H l (.lst (xs ++ zs)))
theorem mt_extend : MtM X "list.extend" rExtend := by
  intro pins s σ H x vs v us Q I rx rv h
  obtain ⟨l, b, xs, zs, rfl, rfl, hH, hB, hz, q⟩ := h
  cases rx
  obtain ⟨u, rfl, ru⟩ := rv.one
  cases ru
  obtain ⟨z, its, n, r, hl, e⟩ := I.lstM hH
  obtain ⟨z2, its2, n2, r2, hl2, e2⟩ := I.lstM hB
  have hsz : its.toArray.size + its2.toArray.size ≤ sizeLine := by rw [List.size_toArray, List.size_toArray]; omega
  have hlong : ¬ (!its.toArray.isEmpty && Builtin.List.listTooLong (its.toArray.size + its2.toArray.size)) = true := by
    rw [notLongL hsz, Bool.and_false]
    exact Bool.false_ne_true
  refine call_meets F.slot_list_extend ⟨_, e, rfl⟩ F.entry_list_extend (F.args_list_extend_2 _ _)
    (AutoSeq1.list_extend_list_list_0 l its.toArray n b its2.toArray n2 hlong (by rw [List.size_toArray]; omega) (by omega)) ⟨e, e2, ?_⟩
  refine ⟨.non, _, I.lset (its' := its ++ its2) hH e (by simp) (r.append r2) ?_, rfl, q⟩
  rw [List.length_append]
  omega

def rCat : R2 := fun x y H Q => ∃ l b xs zs, x = .ref l ∧ y = .ref b ∧ H l = some (.lst xs) ∧ H b = some (.lst zs) ∧ xs.length + zs.length ≤ sizeLine ∧ ∀ p, H p = none → Q (.ref p) (upd H p (.lst (xs ++ zs)))
theorem op_cat : OpR X (binaryOp .Add) rCat := by
  intro pins s σ H x y v u Q I rx ry h
  obtain ⟨l, b, xs, zs, rfl, rfl, hH, hB, hz, q⟩ := h
  cases rx
  cases ry
  obtain ⟨z, its, n, r, hl, e⟩ := I.lstM hH
  obtain ⟨z2, its2, n2, r2, hl2, e2⟩ := I.lstM hB
  refine PySem.P.add_list e e2 ?_ (by rw [List.size_toArray, List.size_toArray]; omega)
  have ea : its.toArray ++ its2.toArray = (its ++ its2).toArray := by simp
  rw [ea]
  exact ⟨.ref _, _, I.lnew (t' := s.toks) (r.append r2) (by rw [List.length_append]; omega), rfl, q _ I.fresh⟩
end

section
variable {prog : Program} {w : World} {A : Around} {E : Value → Shared → Prop} {s : Shared}
set_option maxRecDepth 100000 in
end

section
variable {X : Cx}
end
end L2

namespace L2
open PySem PySem.Spec PyProof.Rows

theorem Vals.ints : ∀ {ns : List Int} {us : List Value}, Vals (ns.map V.int) us → IntsAre us ns
  | [], us, h => by
    rw [List.map_nil] at h
    cases h
    exact IntsAre.nil
  | n :: ns, us, h => by
    rw [List.map_cons] at h
    cases h with
    | cons r t =>
      obtain ⟨k, rfl⟩ := r
      exact IntsAre.cons n k (Vals.ints t)
theorem Vals.ref1 {a : Addr} {us : List Value} (r : Vals [V.ref a] us) : us = [Value.ref a] := by
  cases r with
  | cons r t =>
    cases t
    cases r
    rfl
section
variable {prog : Program} {w : World} {A : Around} {E : Value → Shared → Prop} {s : Shared} {l : Addr} {its : List Value} {ns : List Int} {Q : Value → Shared → Prop}
theorem sum_raw (hh : A.handled = none) (hl : s.heap.IsList l its.toArray) (hi : IntsAre its ns)
    (h : ∀ h' tk t', (∀ b o, s.heap.get? b = some o → h'.get? b = some o) → Q (.int ns.sum t') { s with heap := h', toks := tk }) : wpAny (model prog w) A (call (.builtin "sum") [.ref l]) Q E s := by
  obtain ⟨xs, e⟩ := hi.allInts.items
  have hn : numsOf (intItems xs).toList = ns := by rw [← e]; exact hi.numsOf
  rw [nums_intItems] at hn
  rw [e] at hl
  refine PySem.sum_intListG hh hl fun h' tk t' hk => ?_
  have := h h' tk t' hk
  rw [preSum_eq, List.take_of_length_le (by simp), hn]; exact this
end

section
variable {X : Cx}
def rSum (K : PySem.W.Frag) : List V → Hp → VK → Prop := fun vs H Q => ∃ (a : Addr) (ns : List Int), vs = [V.ref a] ∧ SqL K H a (ns.map V.int) ∧ Q (.int ns.sum) H
theorem cr_sum (hc : X.calm = true) : CallR X (.builtin "sum") (rSum X.K) := by
  intro pins s σ H vs us Q I r h
  obtain ⟨a, ns, rfl, hs, q⟩ := h
  obtain ⟨its, rv, hl, _⟩ := I.list hs
  rw [Vals.ref1 r]
  exact sum_raw (I.ok.hd hc) hl.isList rv.ints fun h' tk t' hk => ⟨.int _, H, I.kept hk, ⟨_, rfl⟩, q⟩
end

section
variable {X : Cx}
end

section
variable {X : Cx}
end

section
variable {X : Cx}
def rAll (K : PySem.W.Frag) : List V → Hp → VK → Prop := fun vs H Q => ∃ (a : Addr) (bs : List Bool), vs = [V.ref a] ∧ SqL K H a (bs.map V.bl) ∧ Q (.bl (bs.all id)) H
end

mutual
inductive Dp (K : PySem.W.Frag) (H : Hp) : V → PyData → Prop
  | non : Dp K H .non .none
  | bl (b : Bool) : Dp K H (.bl b) (.bool b)
  | int (i : Int) : Dp K H (.int i) (.int i)
  | str (x : Str) : Dp K H (.str x) (.str x)
  | lst {a : Addr} {xs : List V} {ds : List PyData} : SqL K H a xs → DpAll K H xs ds → Dp K H (.ref a) (.list ds)
  | tup {a : Addr} {xs : List V} {ds : List PyData} : SqT K H a xs → DpAll K H xs ds → Dp K H (.ref a) (.tuple ds)
inductive DpAll (K : PySem.W.Frag) (H : Hp) : List V → List PyData → Prop
  | nil : DpAll K H [] []
  | cons {v : V} {vs : List V} {d : PyData} {ds : List PyData} : Dp K H v d → DpAll K H vs ds → DpAll K H (v :: vs) (d :: ds)
end
section
variable {X : Cx} {pins : List (Addr × Obj)} {σ : St} {H : Hp} {s : Shared}
mutual
theorem Dp.reads (I : Inv X pins σ H s) : ∀ (d : PyData) (v : V) (u : Value), Dp X.K H v d → RelV v u → ∃ as, Reads s.heap u d as
  | .none, _, _, h, r => by
    cases h
    cases r
    exact ⟨_, Reads.none⟩
  | .bool b, _, _, h, r => by
    cases h
    cases r
    exact ⟨_, Reads.bool b⟩
  | .int i, _, _, h, r => by
    cases h
    obtain ⟨t, rfl⟩ := r
    exact ⟨_, Reads.int i t⟩
  | .str x, _, _, h, r => by
    cases h
    obtain ⟨t, rfl⟩ := r
    exact ⟨_, Reads.str x t⟩
  | .list ds, _, _, h, r => by
    cases h with
    | lst hs ha =>
      cases r
      obtain ⟨its, rv, ⟨o, n, ho, hc, _, hd⟩, _⟩ := I.list hs
      obtain ⟨as, hr⟩ := Dp.readsAll I ds _ its ha rv
      exact ⟨_, Reads.list ho hc hd hr⟩
  | .tuple ds, _, _, h, r => by
    cases h with
    | tup hs ha =>
      cases r
      obtain ⟨its, rv, ⟨o, ho, hc, n, hd⟩, _⟩ := I.tuple hs
      obtain ⟨as, hr⟩ := Dp.readsAll I ds _ its ha rv
      exact ⟨_, Reads.tuple ho hc hd hr⟩
  | .dict _, _, _, h, _ => by cases h
theorem Dp.readsAll (I : Inv X pins σ H s) : ∀ (ds : List PyData) (vs : List V) (us : List Value), DpAll X.K H vs ds → Vals vs us → ∃ as, ReadsAll s.heap us ds as
  | [], _, _, h, r => by
    cases h
    cases r
    exact ⟨_, ReadsAll.nil⟩
  | d :: ds, _, _, h, r => by
    cases h with
    | cons h1 h2 =>
      cases r with
      | cons r1 r2 =>
        obtain ⟨as, q1⟩ := Dp.reads I d _ _ h1 r1
        obtain ⟨bs, q2⟩ := Dp.readsAll I ds _ _ h2 r2
        exact ⟨_, ReadsAll.cons q1 q2⟩
end
end
section
variable {X : Cx}
def rNeD (K : PySem.W.Frag) : R2 := fun x y H Q => ∃ d e, Dp K H x d ∧ Dp K H y e ∧ SeqAt.shaped d = true ∧ SeqAt.shaped e = true ∧ Q (.bl (!PyData.eqv d e)) H
theorem op_neD (hu : X.A.units + 64 < cLine) : OpR X (compareOp .NotEq) (rNeD X.K) := by
  intro pins s σ H x y v u Q I rx ry h
  obtain ⟨d, e, hd, he, sd, se, q⟩ := h
  obtain ⟨as, r1⟩ := Dp.reads I d x v hd rx
  obtain ⟨bs, r2⟩ := Dp.reads I e y u he ry
  exact SeqAt.compareNe_shaped r1 r2 sd se hu ⟨.bl _, H, I, rfl, q⟩
end
end L2

namespace L2
open PySem PySem.Spec PyProof.Rows
abbrev CellAt (h : Heap) (c : Addr) (v : Option Value) : Prop := h.IsCell c v
def relS (scope sc : Scope) : Scope :=
  { scope with names := scope.names.map fun (n, k) => if (k == .free && sc.kind == .function && sc.names.lookup n == some .cell) then (n, .cell) else (n, k) }

def cloFrom (cells : List (Str × Addr)) : List (Str × NameKind) → List (Str × Addr) → List (Str × Addr)
  | [], acc => acc
  | (n, k) :: r, acc => if k == .free then cloFrom cells r ((n, (cells.lookup n).getD 0) :: acc) else cloFrom cells r acc

theorem closure_loop (env : Env) (f : Str × NameKind → List (Str × Addr) → Sem (ForInStep (List (Str × Addr))))
    (hf : ∀ n k c, f (n, k) c = if k == .free then (do let a ← cellOf env n; pure (.yield ((n, a) :: c))) else pure (.yield c)) :
    ∀ (names : List (Str × NameKind)) (acc : List (Str × Addr)), (∀ y ∈ names, y.2 = .free → ∃ c, env.cells.lookup y.1 = some c) → forIn names acc f = pure (cloFrom env.cells names acc)
  | [], acc, _ => by rw [List.forIn_nil]; rfl
  | (n, k) :: r, acc, h => by
    rw [List.forIn_cons, hf]
    have ih := fun acc => closure_loop env f hf r acc fun y hy => h y (List.mem_cons_of_mem _ hy)
    unfold cloFrom
    by_cases hk : (k == NameKind.free) = true
    · rw [if_pos hk, if_pos hk]
      obtain ⟨c, hc⟩ := h (n, k) List.mem_cons_self (by simpa using hk)
      have e : cellOf env n = pure c := by unfold cellOf; rw [hc]
      rw [e]
      have e2 : (env.cells.lookup n).getD 0 = c := by rw [hc]; rfl
      rw [e2]
      exact ih _
    · rw [if_neg hk, if_neg hk]
      exact ih _
theorem closure_ok {scope : Scope} {env : Env} (h : ∀ y ∈ scope.names, y.2 = .free → ∃ c, env.cells.lookup y.1 = some c) : closureFor scope env = pure (cloFrom env.cells scope.names []) := by
  simp only [closureFor]
  rw [closure_loop env _ (fun n k c => rfl) scope.names [] h]
  rfl

theorem mem_lookup {α : Type} : ∀ {l : List (Str × α)} {n : Str} {c : α}, (n, c) ∈ l → ∃ c', l.lookup n = some c'
  | (k, v) :: r, n, c, h => by
    rw [List.lookup_cons]
    cases hb : n == k with
    | true => exact ⟨_, rfl⟩
    | false =>
      rcases List.mem_cons.mp h with e | h
      · cases e; simp at hb
      · exact mem_lookup h

theorem cloFrom_mem {cells : List (Str × Addr)} : ∀ {names : List (Str × NameKind)} {acc : List (Str × Addr)} {n : Str} {c : Addr}, (n, c) ∈ cloFrom cells names acc → (n, c) ∈ acc ∨ ((n, .free) ∈ names ∧ c = (cells.lookup n).getD 0)
  | [], _, _, _, h => .inl h
  | (m, k) :: r, acc, n, c, h => by
    unfold cloFrom at h
    split at h
    · rename_i hk
      have hk : k = .free := by simpa using hk
      rcases cloFrom_mem h with h | ⟨h1, h2⟩
      · rcases List.mem_cons.mp h with e | h
        · cases e; exact .inr ⟨hk ▸ List.mem_cons_self, rfl⟩
        · exact .inl h
      · exact .inr ⟨List.mem_cons_of_mem _ h1, h2⟩
    · rcases cloFrom_mem h with h | ⟨h1, h2⟩
      · exact .inl h
      · exact .inr ⟨List.mem_cons_of_mem _ h1, h2⟩
theorem cloFrom_acc {cells : List (Str × Addr)} : ∀ {names : List (Str × NameKind)} {acc : List (Str × Addr)} {p : Str × Addr}, p ∈ acc → p ∈ cloFrom cells names acc
  | [], _, _, h => h
  | (m, k) :: r, acc, p, h => by
    unfold cloFrom
    split
    · exact cloFrom_acc (List.mem_cons_of_mem _ h)
    · exact cloFrom_acc h
theorem cloFrom_has {cells : List (Str × Addr)} : ∀ {names : List (Str × NameKind)} {acc : List (Str × Addr)} {n : Str}, (n, .free) ∈ names → (n, (cells.lookup n).getD 0) ∈ cloFrom cells names acc
  | (m, k) :: r, acc, n, h => by
    unfold cloFrom
    rcases List.mem_cons.mp h with e | h
    · cases e
      exact cloFrom_acc List.mem_cons_self
    · split
      · exact cloFrom_has h
      · exact cloFrom_has h

theorem cells_mem : ∀ {names : List (Str × NameKind)} {h : Heap} {acc : List (Str × Addr)} {x : Str} {c : Addr}, (x, c) ∈ cellsFrom h.objs.size names acc →
    (x, c) ∈ acc ∨ ((x, .cell) ∈ names ∧ h.objs.size ≤ c ∧ CellAt (pushCells h names) c none)
  | [], _, _, _, _, h => .inl h
  | (n, k) :: r, h, acc, x, c, hm => by
    unfold cellsFrom at hm
    unfold pushCells
    split at hm
    · rename_i hk
      rw [if_pos hk]
      have hk : k = .cell := by simpa using hk
      rw [← Heap.size_push h { cls := .type "cell", data := .cell none }] at hm
      rcases cells_mem hm with hm | ⟨h1, h2, h3⟩
      · rcases List.mem_cons.mp hm with e | hm
        · cases e
          exact .inr ⟨hk ▸ List.mem_cons_self, Nat.le_refl _, _, pushCells_keeps r _ _ _ (Heap.get?_push_size _ rfl), rfl⟩
        · exact .inl hm
      · rw [Heap.size_push] at h2
        exact .inr ⟨List.mem_cons_of_mem _ h1, Nat.le_of_succ_le h2, h3⟩
    · rename_i hk
      rw [if_neg hk]
      rcases cells_mem hm with hm | ⟨h1, h2, h3⟩
      · exact .inl hm
      · exact .inr ⟨List.mem_cons_of_mem _ h1, h2, h3⟩
theorem cells_acc : ∀ {names : List (Str × NameKind)} {n : Nat} {acc : List (Str × Addr)} {p : Str × Addr}, p ∈ acc → p ∈ cellsFrom n names acc
  | [], _, _, _, h => h
  | (m, k) :: r, n, acc, p, h => by
    unfold cellsFrom
    split
    · exact cells_acc (List.mem_cons_of_mem _ h)
    · exact cells_acc h
theorem cells_has : ∀ {names : List (Str × NameKind)} {n : Nat} {acc : List (Str × Addr)} {x : Str}, (x, .cell) ∈ names → ∃ c, (x, c) ∈ cellsFrom n names acc
  | (m, k) :: r, n, acc, x, h => by
    unfold cellsFrom
    rcases List.mem_cons.mp h with e | h
    · cases e
      exact ⟨n, cells_acc List.mem_cons_self⟩
    · split
      · exact cells_has h
      · exact cells_has h
theorem cells_inj : ∀ {names : List (Str × NameKind)} {h : Heap} {acc : List (Str × Addr)} {x y : Str} {c : Addr}, (∀ p ∈ acc, p.2 < h.objs.size) → (∀ x y c, (x, c) ∈ acc → (y, c) ∈ acc → x = y) →
    (x, c) ∈ cellsFrom h.objs.size names acc → (y, c) ∈ cellsFrom h.objs.size names acc → x = y
  | [], _, _, _, _, _, _, hi, h1, h2 => hi _ _ _ h1 h2
  | (n, k) :: r, h, acc, x, y, c, hl, hi, h1, h2 => by
    unfold cellsFrom at h1 h2
    split at h1
    · rename_i hk
      rw [if_pos hk] at h2
      rw [← Heap.size_push h { cls := .type "cell", data := .cell none }] at h1 h2
      refine cells_inj (h := h.push _) (fun p hp => ?_) (fun x y c a b => ?_) h1 h2
      · rw [Heap.size_push]
        rcases List.mem_cons.mp hp with rfl | hp
        · exact Nat.lt_succ_self _
        · exact Nat.lt_succ_of_lt (hl p hp)
      · rcases List.mem_cons.mp a with e | a <;> rcases List.mem_cons.mp b with e' | b
        · cases e; cases e'; rfl
        · cases e; exact absurd (hl _ b) (Nat.lt_irrefl _)
        · cases e'; exact absurd (hl _ a) (Nat.lt_irrefl _)
        · exact hi _ _ _ a b
    · rename_i hk
      rw [if_neg hk] at h2
      exact cells_inj hl hi h1 h2

theorem newEnv_comp {M : Model} {A : Around} {E : Value → Shared → Prop} {s : Shared} {scope : Scope} {globals : Addr} {closure : List (Str × Addr)} {qual : Str} {func : Option Addr} {code : Value} {around : Env} {builtins : Addr} {Q : Env → Shared → Prop}
    (h : Q (newEnv scope s.heap.objs.size globals (cellsFrom (s.heap.objs.size + 1) scope.names closure) qual func code (some around) builtins)
      { s with heap := pushCells (s.heap.push { cls := .type "dict", data := .dict #[] }) scope.names }) :
    wpAny M A (newFunctionEnv scope globals closure [] qual func code (some around) builtins) Q E s := by
  simp only [newFunctionEnv, Option.isSome_some, if_true]
  refine wpAny_bind (wpAny_alloc ?_)
  refine wpAny_bind (wpAny_layCells _ (fun n k c => rfl) scope.names closure _ _ ?_)
  rw [show ({ s with heap := s.heap.push { cls := .type "dict", data := .dict #[] } } : Shared).heap.objs.size = s.heap.objs.size + 1 from Heap.size_push ..]
  rw [List.forIn_nil]
  exact wpAny_bind (wpAny_pure (wpAny_pure h))

theorem lookup_relS {sc : Scope} : ∀ {names : List (Str × NameKind)} {x : Str} {k : NameKind},
    (names.map fun (n, k) => if (k == NameKind.free && sc.kind == .function && sc.names.lookup n == some .cell) then (n, NameKind.cell) else (n, k)).lookup x = some k →
    ∃ k', names.lookup x = some k' ∧ (k = k' ∨ (k' = .free ∧ k = .cell))
  | [], _, _, h => by simp at h
  | (n, k₀) :: r, x, k, h => by
    have ih := @lookup_relS sc r x k
    have h' : List.lookup x ((if (k₀ == NameKind.free && sc.kind == .function && sc.names.lookup n == some .cell) = true then (n, NameKind.cell) else (n, k₀)) :: (r.map _)) = some k := h
    cases hx : x == n with
    | true =>
      simp only [List.lookup_cons, hx]
      by_cases hc : (k₀ == NameKind.free && sc.kind == .function && sc.names.lookup n == some .cell) = true
      · rw [if_pos hc] at h'
        simp only [List.lookup_cons, hx] at h'
        cases h'
        simp only [Bool.and_eq_true, beq_iff_eq] at hc
        exact ⟨k₀, rfl, .inr ⟨hc.1.1, rfl⟩⟩
      · rw [if_neg hc] at h'
        simp only [List.lookup_cons, hx] at h'
        cases h'
        exact ⟨_, rfl, .inl rfl⟩
    | false =>
      simp only [List.lookup_cons, hx]
      by_cases hc : (k₀ == NameKind.free && sc.kind == .function && sc.names.lookup n == some .cell) = true
      · rw [if_pos hc] at h'
        simp only [List.lookup_cons, hx] at h'
        exact ih h'
      · rw [if_neg hc] at h'
        simp only [List.lookup_cons, hx] at h'
        exact ih h'
structure BlkOk (N : List Str) (sc scope : Scope) (own : List (Str × Nat)) : Prop where
  kind : scope.kind = .function
  uniq : ∀ y ∈ scope.names, scope.names.lookup y.1 = some y.2
  ix : ∀ p ∈ own, N[p.2]? = some p.1
  free : ∀ y ∈ scope.names, y.2 = .free → sc.names.lookup y.1 = some .cell ∨ sc.names.lookup y.1 = some .free
  own : ∀ y ∈ scope.names, y.2 = .local ∨ y.2 = .cell → y.1 ∈ own.map (·.1) ∨ y.1 ∉ N
def wipe (σ : St) : List Nat → St
  | [] => σ
  | v :: vs => (wipe σ vs).set v none
theorem wipe_length (σ : St) : ∀ vs : List Nat, (wipe σ vs).length = σ.length
  | [] => rfl
  | v :: vs => by unfold wipe; rw [List.length_set, wipe_length σ vs]
theorem wipe_some {σ : St} {i : Nat} {x : V} : ∀ {vs : List Nat}, (wipe σ vs)[i]? = some (some x) → σ[i]? = some (some x) ∧ i ∉ vs
  | [], h => ⟨h, by simp⟩
  | v :: vs, h => by
    unfold wipe at h
    by_cases hi : v = i
    · subst hi
      by_cases hv : v < (wipe σ vs).length
      · rw [List.getElem?_set_self hv] at h; cases h
      · rw [List.getElem?_eq_none (by simpa using hv)] at h; cases h
    · rw [List.getElem?_set_ne hi] at h
      obtain ⟨h1, h2⟩ := wipe_some h
      exact ⟨h1, by simp only [List.mem_cons, not_or]; exact ⟨fun e => hi e.symm, h2⟩⟩

abbrev Cx.blk (X : Cx) (s : Shared) (H : Hp) (scope : Scope) (cenv : Env) (fp : List Addr) : Cx := { X with s_0 := s, H_0 := H, env := cenv, outer := X.stack, ex := fp, fn := fun x => scope.names.lookup x == some .cell, pn := [], xe := fun _ _ => False }
section
variable {X : Cx} {pins : List (Addr × Obj)} {σ : St} {H : Hp} {s : Shared}
theorem block_start {scope : Scope} {own : List (Str × Nat)} {fp : List Addr} (I : Inv X pins σ H s) (ok : BlkOk X.N X.env.scope scope own) (hN : X.N.Nodup) (hfp : ∀ b ∈ fp, FpOk X pins H b ∧ b < s.heap.objs.size) :
    Inv (X.blk s H scope (compEnvC scope (cellsFrom (s.heap.objs.size + 1) scope.names (cloFrom X.env.cells scope.names [])) s.heap.objs.size X.env) fp) [] (wipe σ (own.map (·.2))) H { s with heap := pushCells (s.heap.push { cls := .type "dict", data := .dict #[] }) scope.names } := by
  have hfree : ∀ y ∈ scope.names, y.2 = .free → ∃ c, X.env.cells.lookup y.1 = some c := fun y hy e => by
    rcases ok.free y hy e with k | k
    · exact I.ok.has _ (.inl k)
    · exact I.ok.has _ (.inr k)
  generalize hcenv : compEnvC scope (cellsFrom (s.heap.objs.size + 1) scope.names (cloFrom X.env.cells scope.names [])) s.heap.objs.size X.env = cenv
  have kp : ∀ b o, s.heap.get? b = some o → (pushCells (s.heap.push { cls := .type "dict", data := .dict #[] }) scope.names).get? b = some o := fun b o e => pushCells_keeps _ _ _ _ (Heap.get?_push_of_some _ e)
  have hL : cenv.locals = s.heap.objs.size := by rw [← hcenv]; rfl
  have hcl : cenv.cells = cellsFrom (s.heap.objs.size + 1) scope.names (cloFrom X.env.cells scope.names []) := by rw [← hcenv]; rfl
  have hsc : cenv.scope = relS scope X.env.scope := by rw [← hcenv]; rfl
  rw [← Heap.size_push s.heap { cls := .type "dict", data := .dict #[] }] at hcl
  have cm : ∀ {y c}, (y, c) ∈ cloFrom X.env.cells scope.names [] → X.env.cells.lookup y = some c ∧ c < s.heap.objs.size := fun {y c} hm => by
    rcases cloFrom_mem hm with hm | ⟨h1, rfl⟩
    · cases hm
    · obtain ⟨c, hc⟩ := hfree _ h1 rfl
      rw [hc]
      obtain ⟨w, z⟩ := I.cell _ _ hc
      exact ⟨rfl, z.lt⟩
  have mem : ∀ {y c}, cenv.cells.lookup y = some c → (X.env.cells.lookup y = some c ∧ c < s.heap.objs.size) ∨ (s.heap.objs.size + 1 ≤ c ∧ CellAt (pushCells (s.heap.push { cls := .type "dict", data := .dict #[] }) scope.names) c none) := fun {y c} e => by
    rw [hcl] at e
    rcases cells_mem (PySem.mem_of_lookup e) with hm | ⟨_, h2, h3⟩
    · exact .inl (cm hm)
    · rw [Heap.size_push] at h2; exact .inr ⟨h2, h3⟩
  have look : ∀ {y}, scope.names.lookup y = some .free → ∃ c, cenv.cells.lookup y = some c ∧ X.env.cells.lookup y = some c := fun {y} hl => by
    have hy : (y, NameKind.free) ∈ scope.names := PySem.mem_of_lookup hl
    obtain ⟨c', e'⟩ := mem_lookup (cells_acc (names := scope.names) (n := (s.heap.push { cls := .type "dict", data := .dict #[] }).objs.size) (cloFrom_has (cells := X.env.cells) (acc := []) hy))
    rw [← hcl] at e'
    refine ⟨c', e', ?_⟩
    rw [hcl] at e'
    rcases cells_mem (PySem.mem_of_lookup e') with hm | ⟨h1, _, _⟩
    · exact (cm hm).1
    · have := ok.uniq _ h1
      rw [hl] at this; cases this
  have okB : (X.blk s H scope cenv fp).Ok := by
    refine ⟨I.ok.mod, by show cenv.scope.kind = _; rw [hsc]; exact ok.kind, by show cenv.globals = _; rw [← hcenv]; exact I.ok.glob, by show cenv.builtins = _; rw [← hcenv]; exact I.ok.blt, by show s.heap.objs.size ≤ cenv.locals; rw [hL]; exact Nat.le_refl _,
      fun y z c e1 e2 => ?_, fun y hy => ?_, fun y c z e => ?_, I.ok.hd, I.ok.frames, .inl rfl, fun b hb => ⟨?_, fun y c e z => ?_⟩, I.bs, Nat.le_trans I.ok.bsz I.sz, fun b o e hb => ?_, fun b hb z => ?_, I.stack, I.stkFree⟩
    · have e1 : cenv.cells.lookup y = some c := e1
      have e2 : cenv.cells.lookup z = some c := e2
      rw [hcl] at e1 e2
      refine cells_inj (fun p hp => ?_) (fun y z c a b => I.ok.inj y z c (cm a).1 (cm b).1) (PySem.mem_of_lookup e1) (PySem.mem_of_lookup e2)
      rw [Heap.size_push]
      exact Nat.lt_succ_of_lt (cm (y := p.1) (c := p.2) hp).2
    · show ∃ c, cenv.cells.lookup y = some c
      have key : ∀ k, cenv.kindOf y = some k → (k = .cell ∨ k = .free) → ∃ c, cenv.cells.lookup y = some c := fun k hk hk' => by
        unfold Env.kindOf at hk
        rw [hsc] at hk
        obtain ⟨k', e, r⟩ := lookup_relS hk
        have : k' = .cell ∨ k' = .free := by
          rcases r with rfl | ⟨rfl, _⟩
          · exact hk'
          · exact .inr rfl
        rcases this with rfl | rfl
        · obtain ⟨c, hm⟩ := cells_has (n := (s.heap.push { cls := .type "dict", data := .dict #[] }).objs.size) (acc := cloFrom X.env.cells scope.names []) (PySem.mem_of_lookup e)
          obtain ⟨c', e'⟩ := mem_lookup hm
          exact ⟨c', by rw [hcl]; exact e'⟩
        · obtain ⟨c, h1, _⟩ := look e
          exact ⟨c, h1⟩
      rcases hy with hy | hy
      · exact key _ hy (.inl rfl)
      · exact key _ hy (.inr rfl)
    · have z : (scope.names.lookup y == some NameKind.cell) = true := z
      have z : scope.names.lookup y = some .cell := by simpa using z
      have e : cenv.cells.lookup y = some c := e
      rw [hcl] at e
      rcases cells_mem (PySem.mem_of_lookup e) with hm | ⟨_, h2, _⟩
      · rcases cloFrom_mem hm with hm | ⟨h1, _⟩
        · cases hm
        · have q := ok.uniq _ h1
          rw [z] at q; cases q
      · rw [Heap.size_push] at h2
        exact Nat.le_of_succ_le h2
    · show b ≠ cenv.locals
      rw [hL]; exact Nat.ne_of_lt (hfp b hb).2
    · have e : cenv.cells.lookup y = some c := e
      rcases mem e with ⟨h1, _⟩ | ⟨h1, _⟩
      · exact (hfp b hb).1.2.2.2.2.1 y c h1 z
      · have h2 : s.heap.objs.size + 1 ≤ b := by rw [← z]; exact h1
        exact absurd (Nat.lt_of_lt_of_le (hfp b hb).2 (Nat.le_of_succ_le h2)) (Nat.lt_irrefl _)
    · rcases (hfp b hb).1.2.2.2.1 with z | z
      · exact I.ok.noex b o e z
      · exact absurd (Nat.lt_of_lt_of_le (Heap.lt_size e) (Nat.le_trans I.ok.bsz z)) (Nat.lt_irrefl _)
    · rcases List.mem_cons.mp (I.stkSub b z) with z | z
      · exact (hfp b hb).1.2.1 z
      · exact (hfp b hb).1.2.2.1 z
  refine ⟨okB, rfl, I.bare, Un.kept kp, ⟨fun _ => none, ?_, fun i y av e1 e2 e3 => ?_⟩, fun y c e => ?_, ?_, fun y c e => ?_, fun p hp => ?_, I.hok.kept kp, by rw [wipe_length]; exact I.len⟩
  · show Heap.Ns _ cenv.locals _
    rw [hL]
    exact Heap.Ns.keeps (Heap.Ns.new ..) fun b o e => pushCells_keeps _ _ _ _ e
  · obtain ⟨e2, hne⟩ := wipe_some e2
    have hfr : scope.names.lookup y = some .free ∧ (cenv.kindOf y = some .cell ∨ cenv.kindOf y = some .free) := by
      have key : ∀ k, cenv.scope.names.lookup y = some k → k = .local ∨ k = .cell ∨ k = .free → scope.names.lookup y = some .free ∧ (cenv.kindOf y = some .cell ∨ cenv.kindOf y = some .free) := fun k hk hk' => by
        have hk0 := hk
        rw [hsc] at hk
        obtain ⟨k', e, r⟩ := lookup_relS hk
        have no : ¬ (k' = .local ∨ k' = .cell) := fun hh => by
          rcases ok.own _ (PySem.mem_of_lookup e) hh with e' | e'
          · obtain ⟨p, hp, hpy⟩ := List.mem_map.mp e'
            have e3 := ok.ix p hp
            have : p.1 = y := hpy
            rw [this] at e3
            exact hne (List.mem_map.mpr ⟨p, hp, nodup_ix hN e3 e1⟩)
          · exact e' (List.mem_of_getElem? e1)
        rcases r with rfl | ⟨rfl, rfl⟩
        · rcases hk' with rfl | rfl | rfl
          · exact absurd (.inl rfl) no
          · exact absurd (.inr rfl) no
          · exact ⟨e, .inr hk0⟩
        · exact ⟨e, .inl hk0⟩
      have e3 : Vis cenv.scope y := e3
      rcases e3 with e3 | e3 | e3
      · exact key _ e3 (.inl rfl)
      · exact key _ e3 (.inr (.inl rfl))
      · exact key _ e3 (.inr (.inr rfl))
    obtain ⟨m, hn, hl⟩ := I.loc
    have hvis : Vis X.env.scope y := (ok.free _ (PySem.mem_of_lookup hfr.1) rfl).elim (fun k => .inr (.inl k)) (fun k => .inr (.inr k))
    obtain ⟨w, r, q⟩ := hl i y av e1 e2 hvis
    refine ⟨w, r, .inr ⟨hfr.2, ?_⟩⟩
    obtain ⟨c, h1, h2⟩ := look hfr.1
    rcases q with ⟨k, _⟩ | ⟨_, c', e', z⟩
    · have k : X.env.scope.names.lookup y = some .local := k
      rcases ok.free _ (PySem.mem_of_lookup hfr.1) rfl with k' | k' <;> rw [show X.env.scope.names.lookup y = _ from k'] at k <;> cases k
    · rw [h2] at e'; cases e'
      exact ⟨c, h1, z.keeps kp⟩
  · have e : cenv.cells.lookup y = some c := e
    rcases mem e with ⟨h1, _⟩ | ⟨_, z⟩
    · obtain ⟨w, z⟩ := I.cell y c h1
      exact ⟨w, z.keeps kp⟩
    · exact ⟨_, z⟩
  · show H cenv.locals = none
    rw [hL]; exact I.hok.fresh (Nat.le_refl _)
  · have e : cenv.cells.lookup y = some c := e
    rcases mem e with ⟨h1, _⟩ | ⟨h1, _⟩
    · exact I.freeC y c h1
    · exact I.hok.fresh (Nat.le_of_succ_le h1)
  · exact absurd (show p ∈ ([] : List (Addr × Obj)) ++ [] from hp) (by simp)

theorem app_ok {E : Value → Shared → Prop} {D : Addr} {xs : List V} {y : V} {v : Value} {Q : Value → Shared → Prop} (I : Inv X pins σ H s) (hD : H D = some (.lst xs)) (hz : xs.length < sizeLine) (r : RelV y v)
    (h : ∀ s', Inv X pins σ (upd H D (.lst (xs ++ [y]))) s' → Q .none s') : wpAny (model X.prog X.w) X.A (call (.builtin "list.append") [.ref D, v]) Q E s := by
  obtain ⟨hz', its, n, ri, e⟩ := I.hok D _ hD
  have hl := ri.length
  refine append_at (hsz := by rw [List.size_toArray]; omega) e fun h' sb ho' => ?_
  refine h { s with heap := h' } (I.write (t' := s.toks) (by rw [hD]; trivial) (.inl rfl) (fun b u hb q => (sb.2 b hb).trans q) ⟨_, ho'⟩ ⟨by rw [List.length_append]; exact hz, its ++ [v], n + 1, ri.append (.cons r .nil), ?_⟩)
  rw [ho']
  simp

def PTs (X : Cx) (ifs : List Expr) (t : TT) : Prop :=
  ∀ (pins : List (Addr × Obj)) (s : Shared) (σ : St) (H : Hp) (Q : Bool → Hp → Prop), Inv X pins σ H s → t σ H Q →
    wpAny (model X.prog X.w) X.A (forIn ifs true fun c r => if r = true then do let ok ← isTrue c X.env (eval c X.env); pure (ForInStep.yield ok) else pure (ForInStep.yield r)) (TP X pins σ Q) X.xe s
def tYes : TT := fun _ H Q => Q true H
theorem pts_nil : PTs X [] tYes := fun _ _ _ H _ I h => wpAny_tests_nil ⟨H, I, h⟩
theorem pts_one {c : Expr} {t : TT} (h : PT X c t) : PTs X [c] t := fun pins s σ H Q I hw => wpAny_tests_one (h pins s σ H Q I hw)
end

theorem thnF {α : Type} {t : Sem α} {Q Q' : α → Shared → Prop} {M : Model} {A : Around} {E : Value → Shared → Prop} {s : Shared} (h : wpAny M A t Q (fun _ _ => False) s) (hQ : ∀ a s, Q a s → Q' a s) : wpAny M A t Q' E s := wpAny_mono h hQ fun _ _ z => False.elim z

theorem compLoop_any {prog : Program} {w : World} {A : Around} {R : Result → Shared → Prop} {s : Shared} {elt target iter : Expr} {ifs : List Expr} {scope : Scope} {pos : Pos} {it acc : Value} {env : Env} (I : Nat → Shared → Prop)
    (turn : ∀ n s, I n s → wpAny (model prog w) A (pyNext it) (fun r s₁ => match r with
      | none => R (.ok .next) s₁
      | some v => wpAny (model prog w) A (letOwnedTupleGo target it v) (fun _ s₁' => wpAny (model prog w) A (assign target env v) (fun _ s₂ =>
          wpAny (model prog w) A (forIn ifs true fun c r => if r = true then do let ok ← isTrue c env (eval c env); pure (ForInStep.yield ok) else pure (ForInStep.yield r)) (fun ok s₃ =>
            if ok = true then wpAny (model prog w) A (eval elt env) (fun x s₄ =>
              wpAny (model prog w) A (call (.builtin "list.append") [acc, x]) (fun _ s₅ => ∃ m, m < n ∧ I m s₅) (notedBy (model prog w) A env fun e s' => R (.error e) s') s₄) (notedBy (model prog w) A env fun e s' => R (.error e) s') s₃
            else ∃ m, m < n ∧ I m s₃) (notedBy (model prog w) A env fun e s' => R (.error e) s') s₂) (notedBy (model prog w) A env fun e s' => R (.error e) s') s₁') (notedBy (model prog w) A env fun e s' => R (.error e) s') s₁) (notedBy (model prog w) A env fun e s' => R (.error e) s') s)
    (n : Nat) (h : I n s) :
    codeAny (model prog w) A (.compLoop (.ListComp elt [⟨target, iter, ifs, 0⟩] scope pos) 0 it acc env) R s := by
  refine codeAny_loop rfl I (fun n s hI => ?_) n h
  show wpAny _ A ((compTurn (.ListComp elt [⟨target, iter, ifs, 0⟩] scope pos) 0 it acc env).onRaise (fun x => do noteFrame x env; theTreesLotGoes x)) _ _ s
  refine wpAny_noted ?_
  rw [compTurn_list]
  refine wpAny_bind (wpAny_standAt (wpAny_bind (wpAny_mono (turn n s hI) (fun r s₁ h₁ => ?_) fun _ _ h' => h')))
  cases r with
  | none => exact wpAny_pure h₁
  | some v =>
    refine wpAny_bind (wpAny_mono h₁ (fun _ s₁' h₁' => ?_) fun _ _ h' => h')
    refine wpAny_bind (wpAny_mono h₁' (fun _ s₂ h₂ => wpAny_bind (wpAny_mono h₂ (fun ok s₃ h₃ => ?_) fun _ _ h' => h')) fun _ _ h' => h')
    cases ok with
    | false => exact wpAny_pure ⟨rfl, h₃⟩
    | true =>
      exact wpAny_bind (wpAny_bind (wpAny_mono h₃ (fun x s₄ h₄ => wpAny_bind (wpAny_mono h₄ (fun _ s₅ h₅ => wpAny_pure (wpAny_pure ⟨rfl, h₅⟩)) fun _ _ h' => h')) fun _ _ h' => h'))

section
variable {X : Cx}
def tLc (wi : TI) (g : TG) (tt : TT) (te : TE) (vs : List Nat) : TE := fun σ H Q => wi σ H fun J H1 => ∀ D, H1 D = none → ∃ W : Nat → Nat → Hp → Prop, (∃ m, W 0 m (upd H1 D (.lst []))) ∧ ∀ i m H, W i m H →
  (J.stop i H ∧ Q (.ref D) H) ∨ (J.go i H ∧ ∃ Nx : Hp → Prop, (∀ H', Nx H' → ∃ m', m' < m ∧ W (i + 1) m' H') ∧ ∀ x H', J.yld i H x H' → g x (wipe σ vs) H' fun σ2 H2 => wipe σ2 vs = wipe σ vs ∧ tt σ2 H2 fun b H3 =>
    if b = true then te σ2 H3 fun y H4 => ∃ acc, H4 D = some (.lst acc) ∧ acc.length < sizeLine ∧ Nx (upd H4 D (.lst (acc ++ [y]))) else Nx H3)
theorem lc_core {pins : List (Addr × Obj)} {s : Shared} {σ : St} {H : Hp} {Q : VK} {elt tg iter : Expr} {ifs : List Expr} {scope : Scope} {own : List (Str × Nat)} {pos pos' : Pos} {wi : TI} {g : TG} {tt : TT} {te : TE} {use : Option (Value → Sem Unit)} {Qf : Value → Shared → Prop}
    (hc : X.calm = true) (hN : X.N.Nodup) (I : Inv X pins σ H s) (hi : PI X tg iter wi) (ok : BlkOk X.N X.env.scope scope own)
    (hg : ∀ (s : Shared) (H : Hp) (C : Addr) (cl : List (Str × Addr)) (fp : List Addr), PG (X.blk s H scope (compEnvC scope cl C X.env) fp) tg g) (ht : ∀ (s : Shared) (H : Hp) (C : Addr) (cl : List (Str × Addr)) (fp : List Addr), PTs (X.blk s H scope (compEnvC scope cl C X.env) fp) ifs tt)
    (he : ∀ (s : Shared) (H : Hp) (C : Addr) (cl : List (Str × Addr)) (fp : List Addr), PE (X.blk s H scope (compEnvC scope cl C X.env) fp) elt te) (hs : ∀ x, foldedSetIterable iter X.env x = pure x)
    (h : tLc wi g tt te (own.map (·.2)) σ H Q)
    (hRR : ∀ D C s' m H', Inv X pins σ H' s' → Q (.ref D) H' → s'.heap.Ns C m → FpOk X pins H' C → compPost (model X.prog X.w) X.A X.xe use Qf (.ref D) C (.ok .next) s') :
    wpAny (model X.prog X.w) X.A (comprehension (.ListComp elt [⟨tg, iter, ifs, 0⟩] scope pos) scope X.env pos' (newList []) false (eval iter X.env) use) Qf X.xe s := by
  have hfree : ∀ y ∈ scope.names, y.2 = .free → ∃ c, X.env.cells.lookup y.1 = some c := fun y hy e => by
    rcases ok.free y hy e with k | k
    · exact I.ok.has _ (.inl k)
    · exact I.ok.has _ (.inr k)
  refine wpAny_comprehension_free (use := use) rfl hs (closure_ok hfree) ok.kind (fun y hy e => by rw [ok.uniq y hy, e])
    (thn (hi pins s σ H _ I h) fun xv s1 hx => thn hx fun itv s2 h2 => ?_)
  obtain ⟨it, fp, tn, J, H2, e, I2, T, st2, f2, q⟩ := h2
  subst e
  refine wpAny_newObj_type (newEnv_comp ?_) (by show 0 ≤ sizeLine; decide)
  generalize hD : s2.heap.objs.size = D
  have hDn : H2 D = none := I2.hok.fresh (Nat.le_of_eq hD)
  obtain ⟨W, ⟨m0, w0⟩, turn⟩ := q D hDn
  -- the new list
  generalize hs3 : ({ s2 with heap := s2.heap.push { cls := .type "list", data := .seq ([] : List Value).toArray } } : Shared) = s3
  have I3 : Inv X pins σ (upd H2 D (.lst [])) s3 := by
    rw [← hs3]
    refine I2.laid (t' := s2.toks) (fun b o e => Heap.get?_push_of_some _ e) (Nat.le_of_eq hD) ⟨Nat.zero_le _, [], 0, .nil, ?_⟩
    rw [← hD]
    exact Heap.get?_push_size _ rfl
  have h3 : s3.heap = s2.heap.push { cls := .type "list", data := .seq ([] : List Value).toArray } := by rw [← hs3]
  have sz : ∀ b ∈ fp, b < s2.heap.objs.size := fun b hb => by
    obtain ⟨o, e, _⟩ := T.obj _ _ st2 b hb
    exact Heap.lt_size e
  have f3 : ∀ b ∈ fp, FpOk X pins (upd H2 D (.lst [])) b ∧ b < s3.heap.objs.size := fun b hb => by
    have hlt := sz b hb
    refine ⟨⟨?_, (f2 b hb).2⟩, by rw [h3, Heap.size_push]; exact Nat.lt_succ_of_lt hlt⟩
    rw [upd_ne (by rw [← hD]; exact Nat.ne_of_lt hlt)]
    exact (f2 b hb).1
  have st3 : tn 0 s3.heap := T.keep _ _ _ st2 fun b _ o e => by rw [h3]; exact Heap.get?_push_of_some _ e
  have I4 := block_start I3 ok hN f3
  have pg := hg s3 (upd H2 D (.lst [])) s3.heap.objs.size (cellsFrom (s3.heap.objs.size + 1) scope.names (cloFrom X.env.cells scope.names [])) fp
  have pt := ht s3 (upd H2 D (.lst [])) s3.heap.objs.size (cellsFrom (s3.heap.objs.size + 1) scope.names (cloFrom X.env.cells scope.names [])) fp
  have pe := he s3 (upd H2 D (.lst [])) s3.heap.objs.size (cellsFrom (s3.heap.objs.size + 1) scope.names (cloFrom X.env.cells scope.names [])) fp
  show codeAny _ _ (.compStart (.ListComp elt [⟨tg, iter, ifs, 0⟩] scope pos) 0 (.ref it) (.ref D) (compEnvC scope (cellsFrom (s3.heap.objs.size + 1) scope.names (cloFrom X.env.cells scope.names [])) s3.heap.objs.size X.env)) (compPost (model X.prog X.w) X.A X.xe use Qf (.ref D) s3.heap.objs.size) { s3 with heap := pushCells (s3.heap.push { cls := .type "dict", data := .dict #[] }) scope.names }
  have nfp : ∀ b ∈ fp, (upd H2 D (.lst [])) b = none := fun b hb => (f3 b hb).1.1
  generalize hce : compEnvC scope (cellsFrom (s3.heap.objs.size + 1) scope.names (cloFrom X.env.cells scope.names [])) s3.heap.objs.size X.env = ce at I4 pg pt pe ⊢
  have cL : ce.locals = s3.heap.objs.size := by subst hce; rfl
  generalize hH3 : upd H2 D (.lst []) = H3 at I3 I4 pg pt pe w0 nfp f3
  generalize hs4 : ({ s3 with heap := pushCells (s3.heap.push { cls := .type "dict", data := .dict #[] }) scope.names } : Shared) = s4 at I4 ⊢
  have st4 : tn 0 s4.heap := T.keep _ _ _ st3 fun b _ o e => by rw [← hs4]; exact pushCells_keeps _ _ _ _ (Heap.get?_push_of_some _ e)
  have stat : ∀ {σ' : St} {H' : Hp} {s' : Shared}, Inv (X.blk s3 H3 scope ce fp) [] σ' H' s' → (∀ b ∈ fp, H' b = none) → ∀ b ∈ fp, FpOk (X.blk s3 H3 scope ce fp) [] H' b := fun {σ' H' s'} I' hn b hb =>
    ⟨hn b hb, (I'.ok.exf b hb).1, I'.ok.exfs b hb, .inl hb, fun x c e => (I'.ok.exf b hb).2 x c e, fun p hp => absurd (show p ∈ ([] : List (Addr × Obj)) ++ [] from hp) (by simp)⟩
  have loop : codeAny (model X.prog X.w) X.A (.compLoop (.ListComp elt [⟨tg, iter, ifs, 0⟩] scope pos) 0 (.ref it) (.ref D) ce) (compPost (model X.prog X.w) X.A X.xe use Qf (.ref D) s3.heap.objs.size) s4 := by
    refine compLoop_any (fun n s' => ∃ i H', Inv (X.blk s3 H3 scope ce fp) [] (wipe σ (own.map (·.2))) H' s' ∧ tn i s'.heap ∧ (∀ b ∈ fp, H' b = none) ∧ W i n H') ?_ m0 ⟨0, H3, I4, st4, nfp, w0⟩
    rintro n s5 ⟨i, H5, I5, st5, n5, w5⟩
    rcases turn i n H5 w5 with ⟨stop, qq⟩ | ⟨go, Nx, hNx, step⟩
    · have td := T.done (X.blk s3 H3 scope ce fp) rfl rfl rfl hc i [] s5 _ H5 (fun _ _ => False) I5 (stat I5 n5) st5 stop
      refine thnF td fun r s6 ⟨hr, I6⟩ => ?_
      subst hr
      -- back in the def's context
      have I7 : Inv X pins σ H5 s6 := I3.call' (ch := fp) I6.os I6.base I6.hok I6.bare fun b hb => ⟨(f3 b hb).1.2.2.2.1, (f3 b hb).1.2.1, (f3 b hb).1.2.2.2.2.1, (f3 b hb).1.2.2.2.2.2⟩
      have nC : H5 s3.heap.objs.size = none := by
        have z : H5 ce.locals = none := I6.free
        rw [cL] at z
        exact z
      obtain ⟨m, hn, _⟩ := I6.loc
      have hn : s6.heap.Ns ce.locals m := hn
      rw [cL] at hn
      exact hRR D s3.heap.objs.size s6 m H5 I7 qq hn (I3.fpOk (Nat.le_refl _) nC)
    · have ti := T.item (X.blk s3 H3 scope ce fp) rfl rfl rfl hc i [] s5 _ H5 (fun _ _ => False) I5 (stat I5 n5) st5 go
      refine thnF ti fun r s6 ⟨u, hr, h6⟩ => ?_
      subst hr
      refine thnF h6 fun _ s7 ⟨x, H7, I7, r7, y7, st7, n7⟩ => ?_
      have I7' := I7.pinned (stat I7 n7) (T.obj _ _ st7)
      refine thnF (pg _ s7 _ H7 x u _ I7' r7 (step x H7 y7)) fun _ s8 ⟨σ8, H8, I8, hw8, q8⟩ => ?_
      refine thnF (pt _ s8 σ8 H8 _ I8 q8) fun b s9 ⟨H9, I9, q9⟩ => ?_
      -- the turn's end
      have fin : ∀ {s' : Shared} {H' : Hp}, Inv (X.blk s3 H3 scope ce fp) ([] ++ pinsAt fp s7.heap) σ8 H' s' → Nx H' → ∃ m, m < n ∧ ∃ i H', Inv (X.blk s3 H3 scope ce fp) [] (wipe σ (own.map (·.2))) H' s' ∧ tn i s'.heap ∧ (∀ b ∈ fp, H' b = none) ∧ W i m H' := fun {s' H'} I' nx => by
        obtain ⟨m', hm, w'⟩ := hNx H' nx
        have pin' : ∀ b ∈ fp, ∀ o, s7.heap.get? b = some o → s'.heap.get? b = some o ∧ H' b = none := fun b hb o e =>
          let z := I'.pin (b, o) (List.mem_append_right _ (List.mem_append_right _ (mem_pinsAt hb e)))
          ⟨z.1, z.2.1⟩
        have hl : (wipe σ (own.map (·.2))).length = σ8.length := by rw [← hw8, wipe_length]
        refine ⟨m', hm, i + 1, H', (I'.unpinned (pins := [])).weak hl (fun j v e => ?_), T.keep _ _ _ st7 fun b hb o e => (pin' b hb o e).1, fun b hb => ?_, w'⟩
        · rw [← hw8] at e
          exact (wipe_some e).1
        · obtain ⟨o, e, _⟩ := T.obj _ _ st7 b hb
          exact (pin' b hb o e).2
      cases b with
      | false =>
        simp only [Bool.false_eq_true, if_false] at q9 ⊢
        exact fin I9 q9
      | true =>
        simp only [if_true] at q9 ⊢
        refine thnF (pe _ s9 σ8 H9 _ I9 q9) fun z s10 ⟨yv, H10, I10, r10, acc, hD10, hz10, nx⟩ => ?_
        exact app_ok (X := X.blk s3 H3 scope ce fp) I10 hD10 hz10 r10 fun s11 I11 => fin I11 nx
  exact codeAny_compStart_list loop (T.self X.A 0 _ _ _ st4 loop)
theorem pe_lc {elt tg iter : Expr} {ifs : List Expr} {scope : Scope} {own : List (Str × Nat)} {pos : Pos} {wi : TI} {g : TG} {tt : TT} {te : TE} (hc : X.calm = true) (hN : X.N.Nodup) (hi : PI X tg iter wi) (ok : BlkOk X.N X.env.scope scope own)
    (hg : ∀ (s : Shared) (H : Hp) (C : Addr) (cl : List (Str × Addr)) (fp : List Addr), PG (X.blk s H scope (compEnvC scope cl C X.env) fp) tg g) (ht : ∀ (s : Shared) (H : Hp) (C : Addr) (cl : List (Str × Addr)) (fp : List Addr), PTs (X.blk s H scope (compEnvC scope cl C X.env) fp) ifs tt)
    (he : ∀ (s : Shared) (H : Hp) (C : Addr) (cl : List (Str × Addr)) (fp : List Addr), PE (X.blk s H scope (compEnvC scope cl C X.env) fp) elt te) (hs : ∀ x, foldedSetIterable iter X.env x = pure x := by intro _; rfl) :
    PE X (.ListComp elt [⟨tg, iter, ifs, 0⟩] scope pos) (tLc wi g tt te (own.map (·.2))) := by
  intro pins s σ H Q I h
  rw [eval_ListComp]
  refine lc_core hc hN I hi ok hg ht he hs h fun D C s' m H' I' q hn f => ⟨m, hn, fun h'' sb => ?_⟩
  obtain ⟨f0, f1, f2, f3, f4, f5⟩ := f
  exact ⟨.ref D, H', I'.turned (t' := s'.toks) (fun b o hb e => (sb.2 b hb).trans e) f0 f1 f3 f4 f5, rfl, q⟩
theorem ps_setLc {i : Nat} {y : Str} {py : Pos} {elt tg iter : Expr} {ifs : List Expr} {scope : Scope} {own : List (Str × Nat)} {pos spos : Pos} {wi : TI} {g : TG} {tt : TT} {te : TE} (hc : X.calm = true) (hN : X.N.Nodup) (hy : X.N[i]? = some y) (hyl : X.env.scope.names.lookup y = some .local)
    (hsw : swapsWith (.ListComp elt [⟨tg, iter, ifs, 0⟩] scope pos) (some (.Name y py)) spos.line X.env = pure true) (hi : PI X tg iter wi) (ok : BlkOk X.N X.env.scope scope own)
    (hg : ∀ (s : Shared) (H : Hp) (C : Addr) (cl : List (Str × Addr)) (fp : List Addr), PG (X.blk s H scope (compEnvC scope cl C X.env) fp) tg g) (ht : ∀ (s : Shared) (H : Hp) (C : Addr) (cl : List (Str × Addr)) (fp : List Addr), PTs (X.blk s H scope (compEnvC scope cl C X.env) fp) ifs tt)
    (he : ∀ (s : Shared) (H : Hp) (C : Addr) (cl : List (Str × Addr)) (fp : List Addr), PE (X.blk s H scope (compEnvC scope cl C X.env) fp) elt te) (hs : ∀ x, foldedSetIterable iter X.env x = pure x := by intro _; rfl) :
    PS X (.Assign [.Name y py] (.ListComp elt [⟨tg, iter, ifs, 0⟩] scope pos) spos) (tAsg (tLc wi g tt te (own.map (·.2))) (gName i)) := by
  intro pins s σ H D I h
  rw [exec_Assign_Name_used _ _ _ _ hsw]
  refine wpAny_bind (wpAny_standAt (wpAny_bind ?_))
  show wpAny _ X.A (do let _ ← comprehension (.ListComp elt [⟨tg, iter, ifs, 0⟩] scope pos) scope X.env (firstIterPos [⟨tg, iter, ifs, 0⟩] pos) (newList []) false (eval iter X.env) (some (assign (.Name y py) X.env))) _ _ s
  have h : tLc wi g tt te (own.map (·.2)) σ H (fun x H1 => gName i x σ H1 D.nx) := h
  refine wpAny_bind (thn (lc_core (Qf := fun _ s' => SP X pins D .next s') hc hN I hi ok hg ht he hs h fun L C s' m H' I' q hn f => ?_) fun _ s' hq => wpAny_pure (wpAny_pure hq))
  show wpAny _ _ (assign (.Name y py) X.env (.ref L)) _ _ _
  refine wpAny_assign_Name (store_ok2 (v := V.ref L) I' hN hy (.inl hyl) rfl (fun s2 I2 ⟨a, sb, ha⟩ => ?_) (.inr hyl))
  obtain ⟨f0, f1, f2, f3, f4, f5⟩ := f
  have haC : C ≠ a := by
    rcases ha with z | z
    · rw [z]; exact f1
    · exact fun e => f4 y a z e.symm
  refine ⟨m, hn.sameBut sb haC, fun h3 sb3 => ?_⟩
  exact ⟨_, H', I2.turned (t' := s2.toks) (fun b o hb e => (sb3.2 b hb).trans e) f0 f1 f3 f4 f5, q⟩
theorem sw_true {elt : Expr} {gs : List Comprehension} {scope : Scope} {pos py : Pos} {y : Str} {l : Nat} {env : Env} (hk : env.scope.kind = .function) (hy : env.scope.names.lookup y = some .local) (hl : (py.line == pos.line) = true)
    (ha : (scope.names.any fun (n, k) => n == y && (k == .local || k == .cell)) = false) : swapsWith (.ListComp elt gs scope pos) (some (.Name y py)) l env = pure true := by
  have ky : env.kindOf y = some .local := hy
  have hb : env.blockKind = .function := by unfold Env.blockKind; rw [hk]; rfl
  unfold swapsWith
  simp only [hb, ky, ha, Expr.pos, hl]
  rfl
end

theorem lc_range {lo : Int} {n : Nat} {g : TG} {tt : TT} {te : TE} {vs : List Nat} {σ : St} {H1 : Hp} {D : Addr} {Qd : Hp → Prop} (Pv : Nat → Hp → Prop) (h0 : Pv 0 (upd H1 D (.lst [])))
    (hs : ∀ i H, i < n → Pv i H → g (.int (lo + i)) (wipe σ vs) H fun σ2 H2 => wipe σ2 vs = wipe σ vs ∧ tt σ2 H2 fun b H3 =>
      if b = true then te σ2 H3 fun y H4 => ∃ acc, H4 D = some (.lst acc) ∧ acc.length < sizeLine ∧ Pv (i + 1) (upd H4 D (.lst (acc ++ [y]))) else Pv (i + 1) H3) (hd : ∀ H, Pv n H → Qd H) :
    ∃ W : Nat → Nat → Hp → Prop, (∃ m, W 0 m (upd H1 D (.lst []))) ∧ ∀ i m H, W i m H →
      ((Itr lo n).stop i H ∧ Qd H) ∨ ((Itr lo n).go i H ∧ ∃ Nx : Hp → Prop, (∀ H', Nx H' → ∃ m', m' < m ∧ W (i + 1) m' H') ∧ ∀ x H', (Itr lo n).yld i H x H' → g x (wipe σ vs) H' fun σ2 H2 => wipe σ2 vs = wipe σ vs ∧ tt σ2 H2 fun b H3 =>
        if b = true then te σ2 H3 fun y H4 => ∃ acc, H4 D = some (.lst acc) ∧ acc.length < sizeLine ∧ Nx (upd H4 D (.lst (acc ++ [y]))) else Nx H3) := by
  refine ⟨fun i m H => m = n - i ∧ i ≤ n ∧ Pv i H, ⟨n, by simp, Nat.zero_le _, h0⟩, ?_⟩
  rintro i m H ⟨rfl, hi, p⟩
  by_cases hlt : i < n
  · refine .inr ⟨hlt, Pv (i + 1), fun H' p' => ⟨n - (i + 1), by omega, rfl, hlt, p'⟩, fun x H' y => ?_⟩
    obtain ⟨e, y⟩ := y
    subst e y
    exact hs i _ hlt p
  · have e : i = n := by omega
    subst e
    exact .inl ⟨Nat.le_refl _, hd H p⟩
theorem lc_list {K : PySem.W.Frag} {a : Addr} {xs : List V} {g : TG} {tt : TT} {te : TE} {vs : List Nat} {σ : St} {H1 : Hp} {D : Addr} {Qd : Hp → Prop} (Pv : Nat → Hp → Prop) (h0 : Pv 0 (upd H1 D (.lst []))) (hl : ∀ i H, i ≤ xs.length → Pv i H → SqL K H a xs)
    (hs : ∀ i x H, xs[i]? = some x → Pv i H → g x (wipe σ vs) H fun σ2 H2 => wipe σ2 vs = wipe σ vs ∧ tt σ2 H2 fun b H3 =>
      if b = true then te σ2 H3 fun y H4 => ∃ acc, H4 D = some (.lst acc) ∧ acc.length < sizeLine ∧ Pv (i + 1) (upd H4 D (.lst (acc ++ [y]))) else Pv (i + 1) H3) (hd : ∀ H, Pv xs.length H → Qd H) :
    ∃ W : Nat → Nat → Hp → Prop, (∃ m, W 0 m (upd H1 D (.lst []))) ∧ ∀ i m H, W i m H →
      ((Itl K a).stop i H ∧ Qd H) ∨ ((Itl K a).go i H ∧ ∃ Nx : Hp → Prop, (∀ H', Nx H' → ∃ m', m' < m ∧ W (i + 1) m' H') ∧ ∀ x H', (Itl K a).yld i H x H' → g x (wipe σ vs) H' fun σ2 H2 => wipe σ2 vs = wipe σ vs ∧ tt σ2 H2 fun b H3 =>
        if b = true then te σ2 H3 fun y H4 => ∃ acc, H4 D = some (.lst acc) ∧ acc.length < sizeLine ∧ Nx (upd H4 D (.lst (acc ++ [y]))) else Nx H3) := by
  refine ⟨fun i m H => m = xs.length - i ∧ i ≤ xs.length ∧ Pv i H, ⟨xs.length, by simp, Nat.zero_le _, h0⟩, ?_⟩
  rintro i m H ⟨rfl, hi, p⟩
  have q := hl i H hi p
  by_cases hlt : i < xs.length
  · refine .inr ⟨⟨xs, xs[i], q, by simp [hlt]⟩, Pv (i + 1), fun H' p' => ⟨xs.length - (i + 1), by omega, rfl, hlt, p'⟩, fun x H' y => ?_⟩
    obtain ⟨e, y⟩ := y
    subst e
    exact hs i x _ (y xs q) p
  · have e : i = xs.length := by omega
    subst e
    exact .inl ⟨⟨xs, q, Nat.le_refl _⟩, hd H p⟩
def blkC (N : List Str) (sc scope : Scope) (own : List (Str × Nat)) : Bool :=
  (match scope.kind with | .function => true | _ => false) && (scope.names.all fun y => decide (scope.names.lookup y.1 = some y.2)) && (own.all fun p => decide (N[p.2]? = some p.1)) &&
    (scope.names.all fun y => match y.2 with
      | .free => (match sc.names.lookup y.1 with | some .cell => true | some .free => true | _ => false)
      | .local => decide (y.1 ∈ own.map (·.1)) || decide (y.1 ∉ N)
      | .cell => decide (y.1 ∈ own.map (·.1)) || decide (y.1 ∉ N)
      | _ => true)
theorem blkOk_by {N : List Str} {sc scope : Scope} {own : List (Str × Nat)} (h : blkC N sc scope own = true) : BlkOk N sc scope own := by
  unfold blkC at h
  simp only [Bool.and_eq_true, List.all_eq_true, decide_eq_true_eq] at h
  obtain ⟨⟨⟨h1, h2⟩, h3⟩, h4⟩ := h
  refine ⟨?_, h2, h3, fun y hy e => ?_, fun y hy e => ?_⟩
  · split at h1
    · assumption
    · cases h1
  · have q := h4 y hy
    simp only [e] at q
    split at q <;> first | exact .inl (by assumption) | exact .inr (by assumption) | cases q
  · have q := h4 y hy
    rcases e with e | e <;> (simp only [e, Bool.or_eq_true, decide_eq_true_eq] at q; exact q)
end L2

namespace L2
open PySem PySem.Spec PyProof.Rows

section
variable {prog : Program} {w : World} {A : Around} {R : Result → Shared → Prop} {s : Shared} {elt t0 i0 t1 i1 : Expr} {ifs0 ifs1 : List Expr} {scope : Scope} {pos : Pos} {it acc : Value} {env : Env}
end

section
variable {X : Cx}
end
end L2

namespace L2
open PySem PySem.Spec PyProof.Rows

section
variable {κ : Type} [DecidableEq κ]
def dropK (kvs : List (κ × V)) (k : κ) : List (κ × V) := kvs.filter fun kv => decide (kv.1 ≠ k)

theorem RelO.getD {o : Option V} {u : Option Value} {d : V} {d' : Value} (r : RelO o u) (rd : RelV d d') : RelV (o.getD d) (u.getD d') := by
  cases o with
  | none => cases u with
    | none => exact rd
    | some _ => exact (show False from r).elim
  | some _ => cases u with
    | none => exact (show False from r).elim
    | some _ => exact r

theorem KV.any {kvs : List (κ × V)} {vs : List (κ × Value)} (r : KV kvs vs) (k : κ) : (kvs.any fun kv => decide (kv.1 = k)) = vs.any fun kv => decide (kv.1 = k) := by
  unfold KV at r
  induction r with
  | nil => rfl
  | cons h t ih => rw [List.any_cons, List.any_cons, ih, h.1]
theorem KV.drop {kvs : List (κ × V)} {vs : List (κ × Value)} (r : KV kvs vs) (k : κ) : KV (dropK kvs k) (without vs k) := by
  unfold KV at r ⊢
  unfold dropK without
  induction r with
  | nil => exact .nil
  | @cons p q ps qs h t ih =>
    obtain ⟨h1, h2⟩ := h
    rw [List.filter_cons, List.filter_cons]
    by_cases e : p.1 = k
    · have a : ¬ decide (p.1 ≠ k) = true := by simp [e]
      have b : ¬ decide (q.1 ≠ k) = true := by simp [h1.symm.trans e]
      rw [if_neg a, if_neg b]; exact ih
    · have e' : ¬ q.1 = k := fun z => e (h1.trans z)
      have a : decide (p.1 ≠ k) = true := by simp [e]
      have b : decide (q.1 ≠ k) = true := by simp [e']
      rw [if_pos a, if_pos b]; exact .cons ⟨h1, h2⟩ ih
theorem KV.length {kvs : List (κ × V)} {vs : List (κ × Value)} (r : KV kvs vs) : kvs.length = vs.length := Paired.length r
end

abbrev KT (H : Hp) : List (List Key × V) → List (List Key × Addr × Value) → Prop := Paired fun p q => p.1 = q.1 ∧ H q.2.1 = some (.tup (p.1.map kV)) ∧ RelV p.2 q.2.2
theorem KT.keeps {H H' : Hp} {kvs : List (List Key × V)} {xs : List (List Key × Addr × Value)} (r : KT H kvs xs) (ht : ∀ b ys, H b = some (.tup ys) → H' b = some (.tup ys)) : KT H' kvs xs :=
  Paired.mapP r fun _ _ z => ⟨z.1, ht _ _ z.2.1, z.2.2⟩

section
variable {P : Program} {w : World} {H : Hp} {h : Heap} {a : Addr}
end

section
variable {X : Cx} {pins : List (Addr × Obj)} {σ : St} {H : Hp} {s : Shared} {a : Addr} {y v : V} {u r : Value} {o : Option V} {A : Around} {E : Value → Shared → Prop}

end

section
variable {X : Cx} {pins : List (Addr × Obj)} {σ : St} {H : Hp} {s : Shared} {a : Addr} {kvs : List (Key × V)} {k : Key} {u : Value} {A : Around} {E : Value → Shared → Prop}
end

section
variable {X : Cx} {o i e value : Expr} {pos pos' tpos : Pos} {td ty tv : TE}
end

section
variable {X : Cx} {pos : Pos}
end

section
variable {X : Cx} {pins : List (Addr × Obj)} {σ : St} {H : Hp} {s : Shared} {a : Addr} {y d : V} {u r : Value} {o : Option V} {A : Around} {E : Value → Shared → Prop}
end

section
variable {X : Cx} {o e f : Expr} {apos cpos : Pos} {td ty tx : TE}
end

section
variable {X : Cx} {pins : List (Addr × Obj)} {σ : St} {H : Hp} {s : Shared} {a : Addr} {kvs : List (Key × V)} {A : Around} {E : Value → Shared → Prop}
end

section
variable {X : Cx} {pins : List (Addr × Obj)} {σ : St} {H : Hp} {s : Shared} {a : Addr} {y : V} {u : Value} {A : Around} {E : Value → Shared → Prop}
end
end L2

namespace L2
open PySem PySem.Spec PyProof.Rows

section
variable {prog : Program} {w : World} {A : Around} {E : Value → Shared → Prop}
end

section
variable {X : Cx}
end
end L2

namespace L2
open PySem PySem.Spec PyProof.Rows

section
variable {X : Cx} {pins : List (Addr × Obj)} {σ : St} {H : Hp} {s : Shared} {h' : Heap}
theorem Inv.turnedNew {t' : Nat} {ch : List Addr} {T : Addr} {ob : HO} (I : Inv X pins σ H s) (k : ∀ b o, b ∉ ch → s.heap.get? b = some o → h'.get? b = some o) (hf : ∀ b ∈ ch, FpOk X pins H b) (hT : s.heap.objs.size ≤ T)
    (new : ObjOk X.prog X.w (upd H T ob) h' T ob) : Inv X pins σ (upd H T ob) { s with heap := h', toks := t' } := by
  have hn : H T = none := I.hok.fresh hT
  have nit : ∀ b u, H b = some u → b ∉ ch := fun b u e z => by
    have q := (hf b z).1
    rw [q] at e; cases e
  refine I.step (g' := s.gens) (d' := s.drawn) (ch := ch) (fun b hb => ⟨(hf b hb).2.2.2.1, (hf b hb).2.1, (hf b hb).2.2.2.2.1, (hf b hb).2.2.2.2.2⟩) (fun b o _ _ hc e _ => k b o hc e) (fun b o _ _ hc e _ => ⟨o.slots, k b o hc e⟩)
    (fun b o _ e n => ?_) (fun b o hc e => ⟨o, k b o hc e⟩) (fun b xs e => ?_) (fun b o u e => ?_) (fun b ps e => ⟨#[], ?_⟩) (fun m hm => ?_) (fun b u e => ?_) I.bare
  · rw [upd_ne (Nat.ne_of_lt (Nat.lt_of_lt_of_le (Heap.lt_size e) hT))]; exact n
  · rw [upd_ne (ne_of_none e hn)]; exact e
  · rw [upd_ne (ne_of_none e hn)]; exact e
  · rw [upd_ne (ne_of_none e hn), e]; simp
  · obtain ⟨o, es, ep, ho, r⟩ := hm
    exact ⟨o, es, ep, k _ o (fun z => (hf _ z).2.1 rfl) ho, r⟩
  · by_cases hb : b = T
    · subst hb
      rw [upd_same] at e
      cases e
      exact new
    · rw [upd_ne hb] at e
      refine (I.hok b u e).stay (fun c v hc q => k c v ?_ q) (fun c q => by rw [upd_ne (ne_of_none q hn)]; exact q) fun c xs q => by rw [upd_ne (ne_of_none q hn)]; exact q
      rcases hc with z | z
      · rw [z]; exact nit b u e
      · exact nit c _ z

end
section
variable {X : Cx}
end

section
variable {X : Cx} {tg : Expr}
end
section
variable {X : Cx} {tg : Expr}
end

section
variable {prog : Program} {w : World} {A : Around} {E : Value → Shared → Prop} {s : Shared}
end

section
variable {X : Cx} {pins : List (Addr × Obj)} {σ : St} {H : Hp} {s : Shared} {d : Addr} {o : Obj}
end

section
variable {P : Program} {w : World} {K : PySem.W.Frag} {tg : Expr} {d : Addr} {o : Obj} {es : Array DictEntry} {ep : Nat}
end

section
variable {X : Cx} {tg e : Expr} {td : TE} {apos cpos : Pos}
end

def Ite (K : PySem.W.Frag) (a : Addr) : It :=
  ⟨fun i H => ∃ (xs : List V) (x : V), SqL K H a xs ∧ xs[i]? = some x, fun i H v H' => ∃ T x, v = .ref T ∧ H T = none ∧ H' = upd H T (.tup [.int (i : Nat), x]) ∧ ∀ xs, SqL K H a xs → xs[i]? = some x, fun i H => ∃ xs : List V, SqL K H a xs ∧ xs.length ≤ i⟩
theorem turn_enum {P : Program} {w : World} {K : PySem.W.Frag} {elts : List Expr} {kk : Nat} {tpos : Pos} (a e it : Addr) :
    Turn P w K (.Tuple elts kk tpos) (Ite K a) [e, it] e (fun i h => (∃ old, IsEnum h e it ((i : Nat) : Int) old) ∧ h.IsListIter it a i ∧ e ≠ it) where
  mem := by simp
  obj := fun i h st b hb => by
    obtain ⟨⟨old, he⟩, ⟨o, ho, hc, hd⟩, _⟩ := st
    have e' : b = e ∨ b = it := by simpa using hb
    rcases e' with z | z
    · rw [z]; exact ⟨_, he, fun v q => nomatch q⟩
    · rw [z]; exact ⟨o, ho, fun v q => by rw [hd] at q; cases q⟩
  keep := fun i h h' st k => let ⟨⟨old, he⟩, hi, hne⟩ := st; ⟨⟨old, k e (by simp) _ he⟩, hi.at fun o q => k it (by simp) o q, hne⟩
  item := by
    intro X hP hw hK hc i pins s σ H E I hf st hg
    subst hP hw hK
    obtain ⟨⟨old, he⟩, hit, hne⟩ := st
    obtain ⟨xs, x, hq, hx⟩ := hg
    obtain ⟨its, rv, p, hz⟩ := I.list hq
    obtain ⟨u, hu, ru⟩ := rv.get hx
    have hel : e < s.heap.objs.size := Heap.lt_size he
    have hil : it < s.heap.objs.size := by obtain ⟨_, q, _⟩ := hit; exact Heap.lt_size q
    refine wpAny_pyNext_enum_item he hit p.isList (x := u) (by simpa using hu) hne fun h' ho hit' hT hsz hk => ?_
    refine ⟨_, rfl, wpAny_letOwnedTupleGo_enum (s := { s with heap := h', toks := s.toks + 1 }) ho fun h'' he' sb => ?_⟩
    have hT2 : h''.get? s.heap.objs.size = some { cls := .type "tuple", data := .seq #[.int i s.toks, u] } := (sb.2 _ (Nat.ne_of_gt hel)).trans hT
    have new : ObjOk X.prog X.w (upd H s.heap.objs.size (.tup [.int (i : Nat), x])) h'' s.heap.objs.size (.tup [.int (i : Nat), x]) :=
      ⟨by show 2 ≤ sizeLine; decide, [.int i s.toks, u], .cons ⟨_, rfl⟩ (.cons ru .nil), ⟨_, hT2, rfl, _, rfl⟩⟩
    have I1 : Inv X pins σ (upd H s.heap.objs.size (.tup [.int (i : Nat), x])) { s with heap := h'', toks := s.toks + 1 } :=
      I.turnedNew (ch := [e, it]) (fun b ob hb q => (sb.2 b (fun z => hb (by simp [z]))).trans (hk b ob (fun z => hb (by simp [z])) (fun z => hb (by simp [z])) q)) hf (Nat.le_refl _) new
    refine ⟨.ref s.heap.objs.size, _, I1, rfl, ⟨_, x, rfl, I.hok.fresh (Nat.le_refl _), rfl, fun ys hy => by rw [I.list_inj hy hq]; exact hx⟩, ⟨⟨u, ?_⟩, hit'.at fun o q => (sb.2 it (Ne.symm hne)).trans q, hne⟩, fun b hb => ?_⟩
    · have e1 : ((i + 1 : Nat) : Int) = (i : Int) + 1 := by omega
      rw [e1]; exact he'
    · have hb' : b < s.heap.objs.size := by
        have e' : b = e ∨ b = it := by simpa using hb
        rcases e' with z | z
        · rw [z]; exact hel
        · rw [z]; exact hil
      rw [upd_ne (Nat.ne_of_lt hb')]
      exact (hf b hb).1
  done := by
    intro X hP hw hK hc i pins s σ H E I hf st hg
    subst hP hw hK
    obtain ⟨⟨old, he⟩, hit, hne⟩ := st
    obtain ⟨xs, hq, hx⟩ := hg
    obtain ⟨its, rv, p, hz⟩ := I.list hq
    obtain ⟨f0, f1, f2, f3, f4, f5⟩ := hf it (by simp)
    have hl := rv.length
    exact wpAny_pyNext_enum_end (I.ok.hd hc) he hit p.isList (by simp; omega) fun h' eb => ⟨rfl, I.turned (t' := s.toks) (fun b o hb q => eb b o hb q) f0 f1 f3 f4 f5⟩
  self := fun A i s Q E st h => let ⟨⟨_, he⟩, _⟩ := st; wpAny_pyIter_enum he h
def iEnum (K : PySem.W.Frag) (ta : TA) : TI := fun σ H R => ta σ H fun vs H1 => ∃ a xs, vs = [.ref a] ∧ SqL K H1 a xs ∧ R (Ite K a) H1
theorem pi_enum {X : Cx} {e : Expr} {ta : TA} {p pos tpos : Pos} {elts : List Expr} {kk : Nat} (hg : Gl X "enumerate") (hm : X.mg "enumerate" = none) (ha : PA X [e] ta) (hs : starEach [e] X.env = [(false, eval e X.env)] := by rfl) :
    PI X (.Tuple elts kk tpos) (.Call (.Name "enumerate" p) [e] [] pos) (iEnum X.K ta) := by
  intro pins s σ H R I h
  refine Call_ (ld_blt I hg hm boot_enumerate (PyProof.Rows.callWith_type1 (thn (ha pos pins s σ H _ I h) fun us s1 ⟨vs, H1, I1, r1, q1⟩ => ?_) hs rfl))
  obtain ⟨a, xs, ex, hq, q⟩ := q1
  subst ex
  cases r1 with
  | cons r rr =>
    cases rr
    cases r
    obtain ⟨its, rv, p', hz⟩ := I1.list hq
    refine call_enumerate_list p'.isList fun h' he hit hsz hk => wpAny_pyIter_enum he ?_
    have I2 : Inv X pins σ H1 { s1 with heap := h' } := I1.kept (t' := s1.toks) hk
    refine ⟨s1.heap.objs.size + 1, [s1.heap.objs.size + 1, s1.heap.objs.size], _, _, H1, rfl, I2, turn_enum a (s1.heap.objs.size + 1) s1.heap.objs.size, ⟨⟨.none, he⟩, hit, Nat.succ_ne_self _⟩, fun b hb => ?_, q⟩
    have e' : b = s1.heap.objs.size + 1 ∨ b = s1.heap.objs.size := by simpa using hb
    have hle : s1.heap.objs.size ≤ b := by
      rcases e' with z | z
      · rw [z]; exact Nat.le_add_right _ _
      · rw [z]; exact Nat.le_refl _
    exact I1.fpOk hle (I1.hok.fresh hle)

end L2

section 
namespace Bits
open PySem PyProof.Rows

end Bits
end 

section 
namespace TL
open PySem PySem.Builtin PySem.Builtin.Str PySem.StrLaws

abbrev tl (x : Str) : List Nat := x.cps.toList
def pre (S l : List Nat) : Bool := l.take S.length == S
def par (S : List Nat) : List Nat → List Nat → Option (List Nat × List Nat)
  | _, [] => none
  | acc, c :: r => if pre S (c :: r) = true then some (acc, (c :: r).drop S.length) else par S (acc ++ [c]) r

end TL
end 

namespace L2
open PySem PySem.Spec PyProof.Rows

section
variable {X : Cx} {pins : List (Addr × Obj)} {σ : St} {H : Hp} {s : Shared} {Q : VK}
end

section
variable {X : Cx}

end

section
variable {X : Cx} {o e : Expr} {to te : TE}
end
end L2

namespace L2
open PySem PySem.Spec PyProof.Rows

section
variable {X : Cx}
end

end L2

namespace Att
open PySem PySem.W PySem.Calls PyProof.Rows

section
variable {prog : Program} {w : World} {A : Around} {E : Value → Shared → Prop} {s : Shared} {K : Frag}

end
end Att

namespace L2
open PySem PySem.Spec PyProof.Rows

def Only (H : Hp) : Prop := ∀ b, H b = none ∨ ∃ o xs, H b = some (.frz o (.lst xs))

end L2

namespace L2
open PySem PySem.Spec PyProof.Rows

end L2

namespace L2
open PySem PySem.Spec PyProof.Rows

def defArgs (s : Stmt) : Arguments := match s with
  | .FunctionDef _ a _ _ _ _ _ _ _ _ => a
  | _ => { posonlyargs := [], args := [], vararg := none, kwonlyargs := [], kw_defaults := [], kwarg := none, defaults := [] }
def defBody (s : Stmt) : List Stmt := match s with
  | .FunctionDef _ _ b _ _ _ _ _ _ _ => b
  | _ => []
def defScope (s : Stmt) : Scope := match s with
  | .FunctionDef _ _ _ _ _ _ sc _ _ _ => sc
  | _ => { kind := .function, names := [], isGenerator := false, isCoroutine := false }

abbrev CX0 : CXT := fun _ _ _ _ _ _ => False
abbrev E0 : XK := fun _ _ _ => False
theorem pass0 {X : Cx} : Passes CX0 X E0 := fun _ _ _ _ _ _ _ h => h.elim

structure Fun (K : PySem.W.Frag) (x qual : Str) (st : Stmt) (f : Addr) (fd : FuncData) : Prop where
  ex : ∃ (oc : Value) (od : Option Addr) (kV doc pm : Value) (an : Option Addr) (cdv ct : Value) (osl : Array (Option Value)),
    fd = PySem.W.fnOf x qual (defArgs st) (defBody st) (defScope st) .none kV doc pm an cdv ct ∧ K.lookup f = some ⟨oc, od, .func fd, osl⟩ ∧ PySem.W.codeIn K cdv qual = true
  kp : PySem.W.keepIn K (.ref f) = true
section
variable {P : Program} {w : World} {K : PySem.W.Frag} {mg : Str → Option Value} {base : Heap}
theorem Fun.ok {x qual : Str} {st : Stmt} {f : Addr} {fd : FuncData} {N ps : List Str} {k : Nat} {sp : Sp} (F : Fun K x qual st f fd) (S : FnScope N ps (defScope st)) (len : ∀ vs H Q E, sp vs H Q E → vs.length = ps.length)
    (hbody : ∀ (cdv : Value) (A : Around) (outer : List Env) (s : Shared) (H : Hp) (vs : List V) (Q : VK) (E : XK), Room k (A.deeper (envOfC qual (defScope st) s.heap.objs.size f cdv)) → sp vs H Q E →
      ∃ t, PSs (cxOf CX0 P w K mg base N qual (defScope st) f cdv A outer s H E).nox (defBody st) t ∧ t { nx := fun _ H' => Q .non H', rt := Q } (start N vs) H) : FnOk P w K mg base CX0 (k + 1) f fd ps sp := by
  obtain ⟨oc, od, kV, doc, pm, an, cdv, ct, osl, rfl, lk, hcd⟩ := F.ex
  refine fn_of lk hcd S len fun A outer s H vs Q E hr hsp => ?_
  obtain ⟨t, h, q⟩ := hbody cdv A outer s H vs Q E hr hsp
  exact ⟨t, h.nox, q⟩
theorem Fun.binds {x qual : Str} {st : Stmt} {f : Addr} {fd : FuncData} {ps : List Str} (F : Fun K x qual st f fd)
    (h : ∀ (kV doc pm : Value) (an : Option Addr) (cdv ct : Value) (us : List Value), us.length = ps.length → bindArgs (PySem.W.fnOf x qual (defArgs st) (defBody st) (defScope st) .none kV doc pm an cdv ct) ⟨us, []⟩ = pure (ps.zip us)) : Binds K fd ps [] := by
  obtain ⟨oc, od, kV, doc, pm, an, cdv, ct, osl, rfl, lk, hcd⟩ := F.ex
  exact .all (h kV doc pm an cdv ct)
theorem fun_mk {x qual : Str} {st : Stmt} {f : Addr} {oc : Value} {od an : Option Addr} {osl : Array (Option Value)} {kV doc pm cdv ct : Value} (l : K.lookup f = some ⟨oc, od, .func (PySem.W.fnOf x qual (defArgs st) (defBody st) (defScope st) .none kV doc pm an cdv ct), osl⟩)
    (c : PySem.W.codeIn K cdv qual = true) (k : PySem.W.keepIn K (.ref f) = true) : Fun K x qual st f (PySem.W.fnOf x qual (defArgs st) (defBody st) (defScope st) .none kV doc pm an cdv ct) := ⟨⟨oc, od, kV, doc, pm, an, cdv, ct, osl, rfl, l, c⟩, k⟩
end
section
variable {X : Cx}
end

theorem iteF {A B : Prop} (h : B) : if false = true then A else B := by
  rw [if_neg Bool.false_ne_true]
  exact h
theorem iteT {A B : Prop} (h : A) : if true = true then A else B := by
  rw [if_pos rfl]
  exact h
theorem ite2 {c A B : Prop} [Decidable c] (h1 : c → A) (h2 : ¬ c → B) : if c then A else B := by
  by_cases h : c
  · rw [if_pos h]
    exact h1 h
  · rw [if_neg h]
    exact h2 h
def Same (H H' : Hp) : Prop := ∀ b o, H b = some o → H' b = some o
theorem Same.refl (H : Hp) : Same H H := fun _ _ h => h
theorem Same.trans {H H1 H2 : Hp} (a : Same H H1) (b : Same H1 H2) : Same H H2 := fun c o h => b c o (a c o h)
theorem Same.free {H H' : Hp} (e : Same H H') {l : Addr} (h : H' l = Option.none) : H l = Option.none := by
  cases q : H l with
  | none => rfl
  | some o =>
    rw [e l o q] at h
    cases h
theorem Same.seq {K : PySem.W.Frag} {H H' : Hp} {a : Addr} {xs : List V} (e : Same H H') (h : SqL K H a xs) : SqL K H' a xs := by
  rcases h with (h | ⟨o, h⟩) | h
  · exact .inl (.inl (e _ _ h))
  · exact .inl (.inr ⟨o, e _ _ h⟩)
  · exact .inr h

section
variable {κ : Type} [DecidableEq κ]
end

end L2

/-! THE BRIDGE: a promise of the layer (FnOk) attached to a row that is an OpenSpec; arguments: ints and lists of ints; answer: a list of ints. -/
namespace GB
open PySem PySem.Spec PyProof.Rows L2

/-- an argument that is handed in -/
inductive Ag where
  | z (i : Int)
  | l (ns : List Int)
def Ag.dat : Ag → PySem.W.WData
  | .z i => .int i
  | .l ns => .list (ns.map PySem.W.WData.int)
/-- how it stands -/
def AgAt (K : PySem.W.Frag) (H : Hp) : Ag → V → Prop
  | .z i, v => v = .int i
  | .l ns, v => ∃ a, v = .ref a ∧ SqL K H a (ns.map V.int)
/-- the answer: a list of ints -/
def Ans (K : PySem.W.Frag) (res : List Int) : VK := fun v H => ∃ p, v = .ref p ∧ SqL K H p (res.map V.int)

theorem ints_vals : ∀ (ns : List Int) (vs : List Value) {P : Params} {h : Heap}, PySem.W.WellAll P h vs (ns.map PySem.W.WData.int) → Vals (ns.map V.int) vs := by
  intro ns
  induction ns with
  | nil =>
    intro vs P h w
    rw [List.map_nil] at w
    cases w
    exact .nil
  | cons n ns ih =>
    intro vs P h w
    rw [List.map_cons] at w
    cases w with
    | cons a b =>
      cases a
      exact .cons ⟨_, rfl⟩ (ih _ b)

theorem reads_ints {cl : Str → Option Addr} {h : Heap} : ∀ (ns : List Int) (us : List Value), Vals (ns.map V.int) us → PySem.W.ReadsAllW [] cl h us (ns.map PySem.W.WData.int) []
  | [], _, .nil => .nil
  | n :: ns, _, .cons r t => by
    obtain ⟨k, rfl⟩ := r
    exact .cons (.int n k) (reads_ints ns _ t)

/-- the arguments, laid: what the abstract heap tells of them -/
theorem lay_args {P : Program} {w : World} {K : PySem.W.Frag} {pr : Params} {h : Heap} (KX : K.In h) : ∀ (gs : List Ag) (vals : List Value), PySem.W.WellAll pr h vals (gs.map Ag.dat) → (∀ ns, Ag.l ns ∈ gs → ns.length ≤ sizeLine) →
    ∃ (H : Hp) (vs : List V), Only H ∧ HOk P w H h ∧ Vals vs vals ∧ Paired (AgAt K H) gs vs ∧
      ∀ b, H b ≠ none → K.lookup b = none ∧ ∃ us n, h.get? b = some { cls := .type "list", data := .seq us n } := by
  intro gs
  induction gs with
  | nil =>
    intro vals hw _
    cases hw
    exact ⟨fun _ => none, [], fun _ => .inl rfl, fun b o z => (by have z' : (none : Option HO) = some o := z; cases z'), .nil, .nil, fun b z => absurd rfl z⟩
  | cons g gs ih =>
    intro vals hw hl
    rw [List.map_cons] at hw
    cases hw with
    | cons w1 w2 =>
      obtain ⟨H, vs, hO, hok, rv, pa, tr⟩ := ih _ w2 (fun ns m => hl ns (List.mem_cons_of_mem _ m))
      cases g with
      | z i =>
        cases w1
        exact ⟨H, .int i :: vs, hO, hok, .cons ⟨_, rfl⟩ rv, .cons rfl pa, tr⟩
      | l ns =>
        have hlen := hl ns List.mem_cons_self
        have w1' : PySem.W.Well pr h _ (.list (ns.map PySem.W.WData.int)) := w1
        cases w1' with
        | @list a us _ ho hall =>
          have rus := ints_vals ns us hall
          cases hk : K.lookup a with
          | some o =>
            have e := KX a o hk
            rw [ho] at e
            cases e
            refine ⟨H, .ref a :: vs, hO, hok, .cons rfl rv, .cons ⟨a, rfl, .inr ⟨_, us.toArray, _, hk, rfl, rfl, rfl, ?_, ?_⟩⟩ pa, tr⟩
            · rw [List.size_toArray, ← rus.length, List.length_map]
              exact hlen
            · simpa using rus
          | none =>
            cases hH : H a with
            | some u =>
              refine ⟨H, .ref a :: vs, hO, hok, .cons rfl rv, .cons ⟨a, rfl, ?_⟩ pa, tr⟩
              rcases hO a with z | ⟨ob, xs, z⟩
              · rw [hH] at z
                cases z
              · obtain ⟨e1, _, its, n, r, e2⟩ := hok a _ z
                rw [ho] at e2
                have d : us.toArray = its.toArray := by
                  have e3 := Option.some.inj e2
                  injection e3 with _ _ e4 _
                  injection e4
                have d' : us = its := by simpa using congrArg Array.toList d
                subst d'
                have q : ns.map V.int = xs := rus.inj r
                rw [q]
                exact .inl (.inr ⟨ob, z⟩)
            | none =>
              have keep : ∀ {b : Addr} {o : HO}, H b = some o → b ≠ a := fun {b o} e => ne_of_none e hH
              refine ⟨upd H a (.frz { cls := .type "list", data := .seq us.toArray } (.lst (ns.map V.int))), .ref a :: vs, fun b => ?_, fun b o e => ?_, .cons rfl rv, .cons ⟨a, rfl, .inl (.inr ⟨_, upd_same⟩)⟩ (Paired.mapP pa fun g v q => ?_), fun b z => ?_⟩
              · by_cases hb : b = a
                · subst hb
                  exact .inr ⟨_, _, upd_same⟩
                · rw [upd_ne hb]
                  exact hO b
              · by_cases hb : b = a
                · subst hb
                  rw [upd_same] at e
                  cases e
                  exact ⟨ho, by rw [List.length_map]; exact hlen, us, _, rus, ho⟩
                · rw [upd_ne hb] at e
                  exact (hok b o e).stay (fun c u _ q => q) (fun c q => by rw [upd_ne (keep q)]; exact q) fun c xs q => by rw [upd_ne (keep q)]; exact q
              · cases g with
                | z i => exact q
                | l ms =>
                  obtain ⟨c, e, s⟩ := q
                  refine ⟨c, e, ?_⟩
                  rcases s with (s | ⟨o, s⟩) | s
                  · exact .inl (.inl (by rw [upd_ne (keep s)]; exact s))
                  · exact .inl (.inr ⟨o, by rw [upd_ne (keep s)]; exact s⟩)
                  · exact .inr s
              · by_cases hb : b = a
                · subst hb
                  exact ⟨hk, _, _, ho⟩
                · rw [upd_ne hb] at z
                  exact tr b z

/-! ### a def of the text, with what its callers need -/
structure Dn (P : Program) (w : World) (K : PySem.W.Frag) (mg : Str → Option Value) (base : Heap) (k : Nat) (x : Str) (ps : List Str) (sp : Sp) : Prop where
  ex : ∃ (f : Addr) (fd : FuncData), FnOk P w K mg base CX0 k f fd ps sp ∧ mg x = some (.ref f) ∧ PySem.W.keepIn K (.ref f) = true ∧ Binds K fd ps []
/-- a def as the top has written it -/
structure Raw (K : PySem.W.Frag) (mg : Str → Option Value) (x : Str) (st : Stmt) (ps : List Str) : Prop where
  ex : ∃ (f : Addr) (fd : FuncData), mg x = some (.ref f) ∧ Fun K x x st f fd ∧ Binds K fd ps []
theorem raw_mk {K : PySem.W.Frag} {mg : Str → Option Value} {h : Heap} {x : Str} {st : Stmt} {ps : List Str} {f : Addr} {oc : Value} {od an : Option Addr} {osl : Array (Option Value)} {kV doc pm cdv ct : Value}
    (X : K.In h) (G : h.Ns mainGlobals mg) (a : PySem.W.nsIn K mainGlobals x = some (some (.ref f)))
    (l : K.lookup f = some ⟨oc, od, .func (PySem.W.fnOf x x (defArgs st) (defBody st) (defScope st) .none kV doc pm an cdv ct), osl⟩) (c : PySem.W.codeIn K cdv x = true) (k : PySem.W.keepIn K (.ref f) = true)
    (b : ∀ (kV doc pm : Value) (an : Option Addr) (cdv ct : Value) (us : List Value), us.length = ps.length → bindArgs (PySem.W.fnOf x x (defArgs st) (defBody st) (defScope st) .none kV doc pm an cdv ct) ⟨us, []⟩ = pure (ps.zip us)) : Raw K mg x st ps :=
  ⟨f, _, PySem.W.mg_of X G a, fun_mk l c k, (fun_mk l c k).binds b⟩
theorem Raw.dn {P : Program} {w : World} {K : PySem.W.Frag} {mg : Str → Option Value} {base : Heap} {k : Nat} {x : Str} {st : Stmt} {ps : List Str} {sp : Sp} (R : Raw K mg x st ps) (h : ∀ (f : Addr) (fd : FuncData), Fun K x x st f fd → FnOk P w K mg base CX0 k f fd ps sp) :
    Dn P w K mg base k x ps sp := by
  obtain ⟨f, fd, m, F, b⟩ := R.ex
  exact ⟨f, fd, h f fd F, m, F.kp, b⟩
theorem pe_callD {X : Cx} {k : Nat} {x : Str} {ps : List Str} {sp : Sp} {p pos : Pos} {e : Expr} {es : List Expr} {t : TA} (D : Dn X.prog X.w X.K X.mg X.base k x ps sp) (hr : Room k X.A) (hg : Gl X x) (ha : PA X (e :: es) t) (hdb : (x == ("__debug__" : Str)) = false := by decide)
    (he : starEach (e :: es) X.env = (false, eval e X.env) :: starEach es X.env := by rfl) (hpl : (backTo pos (starEach es X.env)).any (·.1) = false := by rfl) : PE X (.Call (.Name x p) (e :: es) [] pos) (tCall sp [] E0 t) := by
  obtain ⟨f, fd, F, m, kp, b⟩ := D.ex
  exact pe_call F hr hg m kp b .nil pass0 ha hdb he hpl
/-- THE CALL -/
theorem spec_call {r : PySem.W.OpenSpec} {w : World} {K : PySem.W.Frag} {mg mb : Str → Option Value} {k : Nat} {fa : Addr} {x : Str} {ps : List Str} {sp : Sp} {s₁ : Shared} {vals : List Value} {gs : List Ag} {res : List Int}
    {cl : Str → Option Addr} {mean : PySem.ExcName → Option Value} {args : List PySem.W.WData}
    (KX : K.In s₁.heap) (hns : s₁.heap.Ns mainGlobals mg) (hb : s₁.heap.Ns builtinsNs mb) (hbb : ∀ x : Str, x ≠ "__name__" → mb x = bootBuiltins x) (hlim : s₁.heap.NoLimit) (hg : s₁.gens = #[])
    (hw : PySem.W.WellAll w.params s₁.heap vals (gs.map Ag.dat)) (hl : ∀ ns, Ag.l ns ∈ gs → ns.length ≤ sizeLine) (hr : Room k callerA)
    (F : ∀ base : Heap, K.In base → base.Ns mainGlobals mg → Dn r.prog w K mg base k x ps sp) (hx : mg x = some (.ref fa))
    (hsp : ∀ (H : Hp) (vs : List V), Only H → Paired (AgAt K H) gs vs → sp vs H (Ans K res) E0)
    (hpost : r.post args (.list (res.map PySem.W.WData.int)) = true) :
    codeAny (model r.prog w) callerA (.call (.ref fa) ⟨vals, []⟩) (PySem.W.GoodWG r.claim cl mean args s₁) s₁ := by
  obtain ⟨H, vs, hO, hok, rv, pa, tr⟩ := lay_args (P := r.prog) (w := w) KX gs vals hw hl
  have base_of : ∀ {b : Addr} {o : Obj}, s₁.heap.get? b = some o → H b = none → (hidT s₁.heap H).get? b = some o := fun e n => hidT_get e n
  have noA : ∀ {b : Addr} {o : Obj} {es : Array DictEntry} {ep : Nat}, s₁.heap.get? b = some o → o.data = .dict es ep → H b = none := fun {b o es ep} e d => by
    cases q : H b with
    | none => rfl
    | some u =>
      obtain ⟨_, us, n, e'⟩ := tr b (by rw [q]; simp)
      rw [e'] at e
      cases e
      have d' : Data.seq us n = Data.dict es ep := d
      cases d'
  have nsK : ∀ {b : Addr} {m : Str → Option Value}, s₁.heap.Ns b m → (hidT s₁.heap H).Ns b m := fun {b m} ⟨o, es, ep, e, d, r⟩ => ⟨o, es, ep, base_of e (noA e d), d, r⟩
  have hKn : ∀ {b : Addr} {o : Obj}, K.lookup b = some o → H b = none := fun {b o} e => by
    cases q : H b with
    | none => rfl
    | some u =>
      obtain ⟨e', _⟩ := tr b (by rw [q]; simp)
      rw [e'] at e
      cases e
  have hKb : K.In (hidT s₁.heap H) := fun b o e => base_of (KX b o e) (hKn e)
  have hM : Mod K mg (hidT s₁.heap H) := ⟨hKb, nsK hns, ⟨mb, nsK hb, hbb⟩, let ⟨mc, h1, h2⟩ := hlim; ⟨mc, nsK h1, h2⟩⟩
  have e0 : Env0 r.prog w K mg (hidT s₁.heap H) callerA [] s₁ H := ⟨rfl, hM, fun b o e => of_hidT e, Nat.le_of_eq (hidT_size _ _), trivial, fun b hb => absurd (show b ∈ ([] : List Addr) from hb) (by simp), hok, .of_eq hg⟩
  have hs := hsp H vs hO pa
  obtain ⟨f, fd, F1, hm, _, hbind⟩ := (F _ hKb (nsK hns)).ex
  obtain rfl : f = fa := by
    rw [hx] at hm
    cases hm
    rfl
  have hlen : (vals ++ []).length = ps.length := by
    rw [List.append_nil, ← rv.length]
    exact F1.len _ _ _ _ hs
  have hbd : BindsTo s₁ fd ⟨vals, []⟩ (ps.zip vals) := by
    have := hbind s₁ vals KX hlen
    rw [List.append_nil] at this
    exact this
  refine codeAny_mono (F1.run callerA [] s₁ H ⟨vals, []⟩ vals vs _ _ hr e0 hbd rv hs) fun re s' h => ?_
  cases re with
  | error e => exact False.elim h
  | ok fl =>
    cases fl with
    | next => exact False.elim h
    | brk => exact False.elim h
    | cont => exact False.elim h
    | ret u =>
      obtain ⟨v, H', os, bare, un, hok', r', p, rfl, q⟩ := h
      obtain rfl : u = Value.ref p := r'
      have kept : ∀ b o, s₁.heap.get? b = some o → s'.heap.get? b = some o := fun b o e => by
        cases q : H b with
        | none => exact un.keep b o e q (by intro z; exact absurd (show b ∈ ([] : List Addr) from z) (by simp)) (by simp)
        | some u =>
          rcases hO b with z | ⟨ob, xs, z⟩
          · rw [q] at z
            cases z
          · have z2 := un.frzs b ob _ z
            obtain ⟨e1, _⟩ := hok b _ z
            obtain ⟨e2, _⟩ := hok' b _ z2
            rw [e] at e1
            cases e1
            exact e2
      have rd : ∃ as, PySem.W.ReadsW [] cl s'.heap (.ref p) (.list (res.map PySem.W.WData.int)) as := by
        rcases q with q | ⟨o, its, n, hk, hc, hd, hs, hz, rr⟩
        · obtain ⟨_, its, n, rr, e⟩ := q.ok hok'
          exact ⟨_, .list e rfl rfl (by simpa using reads_ints res its rr)⟩
        · exact ⟨_, .list (kept p o (KX p o hk)) hc hs (reads_ints res _ rr)⟩
      obtain ⟨as, rd⟩ := rd
      exact ⟨.inl ⟨.ref p, .list (res.map PySem.W.WData.int), as, rfl, fun _ => rfl, rd, PySem.W.osPost hpost, fun z => absurd z Bool.false_ne_true⟩, OldK.of_keep kept, os, bare⟩

/-- THE WALK: what k_headS leaves (case hc), from the promise of the def -/
theorem spec_walk {r : PySem.W.OpenSpec} {k : Nat} {q : Program} {loose : List Str} {XP : (Str → Option Value) → Heap → Prop} {YP : World → Heap → Prop} {d : DefRec} {K : Params → PySem.W.Frag} {sp : PySem.W.Frag → Sp} {ps : List Str}
    (hdf : d.params.defaults = []) (hr : Room k callerA)
    (hY : ∀ (w : World) (h : Heap), YP w h → (K w.params).In h)
    (F : ∀ (w : World) (mg : Str → Option Value) (h : Heap), (K w.params).In h → h.Ns mainGlobals mg → ∀ base : Heap, Dn r.prog w (K w.params) mg base k d.name ps (sp (K w.params)))
    (S : ∀ args, r.pre args = true → ∃ (gs : List Ag) (res : List Int), args = gs.map Ag.dat ∧ (∀ ns, Ag.l ns ∈ gs → ns.length ≤ sizeLine) ∧ r.post args (.list (res.map PySem.W.WData.int)) = true ∧
      ∀ (K : PySem.W.Frag) (H : Hp) (vs : List V), Only H → Paired (AgAt K H) gs vs → sp K vs H (Ans K res) E0) :
    PySem.W.WalkOS q loose XP YP r d [] (fun f vs => PySem.call f vs) := by
  intro w s₀ s₁ mg mb G Y fa o pm cd doc dV kV ho hd hcd hD hmg hg args vals as hpre hlay hrd hwl hlo
  have KX := hY w _ Y
  obtain ⟨gs, res, rfl, hl, hpost, hsp⟩ := S args hpre
  exact PySem.W.enter_call (spec_call KX G.T.g G.T.b G.T.builtins G.T.nolimit hg hwl hl hr (fun base _ _ => F w mg _ KX G.T.g base) hmg (hsp _) hpost)

/-! ### the request -/
theorem decI {lo hi : Int} {d : PySem.W.WData} {x : Int} (h : (PySem.W.Codec.int lo hi).dec d = some x) : d = (Ag.z x).dat ∧ lo ≤ x ∧ x ≤ hi := by
  have h' : PySem.W.Codec.decInt lo hi d = some x := h
  cases d with
  | int y =>
    have h2 : (if PySem.W.Codec.inInt lo hi y = true then some y else none) = some x := h'
    by_cases c : PySem.W.Codec.inInt lo hi y = true
    · rw [if_pos c] at h2
      cases h2
      unfold PySem.W.Codec.inInt at c
      simp only [Bool.and_eq_true, decide_eq_true_eq] at c
      exact ⟨rfl, c⟩
    · rw [if_neg c] at h2
      cases h2
  | _ => cases h'
theorem decIs {lo hi : Int} : ∀ {ds : List PySem.W.WData} {xs : List Int}, PySem.W.Codec.decItems (PySem.W.Codec.int lo hi).dec ds = some xs → ds = xs.map PySem.W.WData.int ∧ ∀ x ∈ xs, lo ≤ x ∧ x ≤ hi
  | [], xs, h => by
    cases h
    exact ⟨rfl, fun x m => absurd m (by simp)⟩
  | d :: ds, xs, h => by
    have h' : PySem.W.Codec.both List.cons ((PySem.W.Codec.int lo hi).dec d) (PySem.W.Codec.decItems (PySem.W.Codec.int lo hi).dec ds) = some xs := h
    cases h1 : (PySem.W.Codec.int lo hi).dec d with
    | none =>
      rw [h1] at h'
      cases h'
    | some x =>
      cases h2 : PySem.W.Codec.decItems (PySem.W.Codec.int lo hi).dec ds with
      | none =>
        rw [h1, h2] at h'
        cases h'
      | some ys =>
        rw [h1, h2] at h'
        cases h'
        obtain ⟨e1, b1⟩ := decI h1
        obtain ⟨e2, b2⟩ := decIs h2
        refine ⟨?_, fun y m => ?_⟩
        · rw [e1, e2]
          rfl
        · rcases List.mem_cons.mp m with rfl | m
          · exact b1
          · exact b2 y m
theorem decL {least most : Nat} {lo hi : Int} {d : PySem.W.WData} {xs : List Int} (h : (PySem.W.Codec.list least most (.int lo hi)).dec d = some xs) : d = (Ag.l xs).dat ∧ xs.length ≤ most ∧ ∀ x ∈ xs, lo ≤ x ∧ x ≤ hi := by
  have h' : PySem.W.Codec.decList least most (PySem.W.Codec.int lo hi).dec d = some xs := h
  cases d with
  | list ds =>
    have h2 : (if PySem.W.Codec.inLen least most ds = true then PySem.W.Codec.decItems (PySem.W.Codec.int lo hi).dec ds else none) = some xs := h'
    by_cases c : PySem.W.Codec.inLen least most ds = true
    · rw [if_pos c] at h2
      obtain ⟨e, b⟩ := decIs h2
      subst e
      refine ⟨rfl, ?_, b⟩
      have c' : PySem.W.Codec.inNat least most (xs.map PySem.W.WData.int).length = true := c
      unfold PySem.W.Codec.inNat at c'
      simp only [Bool.and_eq_true, decide_eq_true_eq, List.length_map] at c'
      exact c'.2
    · rw [if_neg c] at h2
      cases h2
  | _ => cases h'
theorem dec_end {ds : List PySem.W.WData} {u : Unit} (h : PySem.W.Codec.decAll [] ds = some u) : ds = [] := by
  cases ds with
  | nil => rfl
  | cons _ _ => cases h
theorem dec_one {c : PySem.W.Codec} {cs : List PySem.W.Codec} {ds : List PySem.W.WData} {a : PySem.W.Codec.denoteAll (c :: cs)} (h : PySem.W.Codec.decAll (c :: cs) ds = some a) :
    ∃ d r, ds = d :: r ∧ c.dec d = some a.1 ∧ PySem.W.Codec.decAll cs r = some a.2 := by
  cases ds with
  | nil => cases h
  | cons d r =>
    have h' : PySem.W.Codec.both Prod.mk (c.dec d) (PySem.W.Codec.decAll cs r) = some a := h
    cases h1 : c.dec d with
    | none =>
      rw [h1] at h'
      cases h'
    | some x =>
      cases h2 : PySem.W.Codec.decAll cs r with
      | none =>
        rw [h1, h2] at h'
        cases h'
      | some y =>
        rw [h1, h2] at h'
        cases h'
        exact ⟨d, r, rfl, h1, h2⟩
/-- the answer is the specification's -/
theorem post_of {r : PySem.W.OpenSpec} {args : List PySem.W.WData} {a : PySem.W.Codec.denoteAll r.args} {res : List Int} (h : PySem.W.Codec.decAll r.args args = some a) (e : r.ret.enc (PySem.W.Codec.app r.args r.f a) = .list (res.map PySem.W.WData.int)) :
    r.post args (.list (res.map PySem.W.WData.int)) = true := PySem.W.os_post h (by rw [e]; exact PySem.W.same_self _)

end GB


set_option linter.all false

namespace L2
open PySem PySem.Spec PyProof.Rows
theorem for_enum {K : PySem.W.Frag} {a : Addr} {xs : List V} {g : TG} {tb : TS} {D : Ends} {σ : St} {H : Hp} (Pv : Nat → St → Hp → Prop) (h0 : Pv 0 σ H) (hl : ∀ i σ H, i ≤ xs.length → Pv i σ H → SqL K H a xs)
    (hs : ∀ i x σ H T, xs[i]? = some x → Pv i σ H → H T = none → g (.ref T) σ (upd H T (.tup [.int (i : Nat), x])) fun σ2 H2 => tb { D with nx := Pv (i + 1), ct := Pv (i + 1), bk := D.nx } σ2 H2) (hd : ∀ σ H, Pv xs.length σ H → D.nx σ H) :
    ∃ W : Nat → Nat → St → Hp → Prop, (∃ m, W 0 m σ H) ∧ ∀ i m σ H, W i m σ H →
      ((Ite K a).stop i H ∧ D.nx σ H) ∨ ((Ite K a).go i H ∧ ∃ N : St → Hp → Prop, (∀ σ' H', N σ' H' → ∃ m', m' < m ∧ W (i + 1) m' σ' H') ∧ ∀ x H', (Ite K a).yld i H x H' → g x σ H' fun σ2 H2 => tb { D with nx := N, ct := N, bk := D.nx } σ2 H2) := by
  refine ⟨fun i m σ H => m = xs.length - i ∧ i ≤ xs.length ∧ Pv i σ H, ⟨xs.length, by simp, Nat.zero_le _, h0⟩, ?_⟩
  rintro i m σ H ⟨rfl, hi, p⟩
  have q := hl i σ H hi p
  by_cases hlt : i < xs.length
  · refine .inr ⟨⟨xs, xs[i], q, by simp [hlt]⟩, Pv (i + 1), fun σ' H' p' => ⟨xs.length - (i + 1), by omega, rfl, hlt, p'⟩, fun x H' y => ?_⟩
    obtain ⟨T, x', rfl, hT, rfl, y⟩ := y
    exact hs i x' σ H T (y xs q) p hT
  · have e : i = xs.length := by omega
    subst e
    exact .inl ⟨⟨xs, q, Nat.le_refl _⟩, hd σ H p⟩
section
open PySem.SeqAt
open PySem.AutoSeq1 (wpAny_loadPart')
open PySem.MeetsSeq PySem.MeetsSeq2 PySem.MeetsSeq3
theorem ints_at {us : List Value} {ns : List Int} (h : IntsAre us ns) : ∀ i : Nat, i < us.length → ∃ (z : Int) (t : Tok), us[i]? = some (.int z t) ∧ ns.drop i = z :: ns.drop (i + 1) := by
  induction h with
  | nil => exact fun i hi => absurd hi (Nat.not_lt_zero _)
  | cons a t _ ih =>
    intro i hi
    cases i with
    | zero => exact ⟨a, t, rfl, rfl⟩
    | succ i =>
      obtain ⟨z, u, e1, e2⟩ := ih i (by simp only [List.length_cons] at hi; omega)
      exact ⟨z, u, e1, e2⟩
theorem lt_loopI (l b : Addr) (xs ys : Array Value) (n n2 : Nat) (dd dd2 : Option Addr) (sl sl2 : Array (Option Value)) (ns ms : List Int) (hx : IntsAre xs.toList ns) (hy : IntsAre ys.toList ms) (k : Nat) :
    ∀ i : Nat, xs.size - i = k → i ≤ xs.size → i ≤ ys.size → Meets (Builtin.«list.__eq__.loop» ⟨[.ref l, .ref b, rawInt i, rawInt 0], []⟩)
      (fun _ R s => s.heap.get? l = some ⟨.type "list", dd, .seq xs n, sl⟩ ∧ s.heap.get? b = some ⟨.type "list", dd2, .seq ys n2, sl2⟩ ∧ R (.ok (.ret (.bool (HT.lexLt (ns.drop i) (ms.drop i))))) s) := by
  have zx : xs.size = ns.length := by rw [← hx.length]; simp
  have zy : ys.size = ms.length := by rw [← hy.length]; simp
  induction k with
  | zero =>
    intro i hk h1 h2 prog w A R s h
    obtain ⟨hp, g, d, tk, os⟩ := s; obtain ⟨q1, q2, h⟩ := h
    wp_walk using wpAny_loadPart' q1, wpAny_loadPart' q2
    have o1 : xs[((i : Nat) : Int).toNat]? = none := by simp; omega
    rw [o1]
    wp_walk using wpAny_loadPart' q1, wpAny_loadPart' q2
    show R (.ok (.ret (.bool (decide (xs.size < ys.size))))) _
    have e1 : ns.drop i = [] := List.drop_eq_nil_of_le (by omega)
    have e2 : HT.lexLt (ns.drop i) (ms.drop i) = decide (xs.size < ys.size) := by
      rw [e1]
      cases hm : ms.drop i with
      | nil =>
        have := congrArg List.length hm
        simp at this
        rw [decide_eq_false (by omega)]
        rfl
      | cons c cs =>
        have := congrArg List.length hm
        simp at this
        rw [decide_eq_true (by omega)]
        rfl
    rw [e2] at h
    exact h
  | succ k ih =>
    intro i hk h1 h2 prog w A R s h
    obtain ⟨hp, g, d, tk, os⟩ := s; obtain ⟨q1, q2, h⟩ := h
    have l1 : i < xs.size := by omega
    obtain ⟨z, t, a1, a2⟩ := ints_at hx i (by simpa using l1)
    have o1 : xs[((i : Nat) : Int).toNat]? = some (.int z t) := by simpa using a1
    by_cases l2 : i < ys.size
    · obtain ⟨z2, t2, b1, b2⟩ := ints_at hy i (by simpa using l2)
      have o2 : ys[((i : Nat) : Int).toNat]? = some (.int z2 t2) := by simpa using b1
      rw [a2, b2, HT.lexLt_cons] at h
      wp_walk using wpAny_loadPart' q1, wpAny_loadPart' q2
      rw [o1, o2]
      obtain ⟨e, he, iff⟩ := HT.eqAt_int A.in1 ⟨hp, g, d, tk, os⟩ z t z2 t2
      refine wpAny_bind (he prog w _ _ ?_)
      cases e with
      | true =>
        rw [if_pos (iff.mp rfl)] at h
        wp_walk
        have hc : ((i : Int) + 1) = ((i + 1 : Nat) : Int) := by omega
        rw [hc]
        exact ⟨plainId_quiet plain_eq_loop _, codeAny_builtin entry_eq_loop (by
          rw [Around.under_plainId plain_eq_loop _]
          exact ih (i + 1) (by omega) (by omega) (by omega) prog w A R _ ⟨q1, q2, h⟩)⟩
      | false =>
        rw [if_neg (fun q => absurd (iff.mpr q) Bool.false_ne_true)] at h
        have hri := HT.rcLt_int A.in1 ⟨hp, g, d, tk, os⟩ z t z2 t2 prog w
        wp_walk using wpAny_loadPart' q1, wpAny_loadPart' q2
        rw [o1, o2]
        wp_walk using hri
        first | exact h | exact ⟨_, rfl, h⟩ | simpa using h
    · wp_walk using wpAny_loadPart' q1, wpAny_loadPart' q2
      have o2 : ys[((i : Nat) : Int).toNat]? = none := by simp; omega
      rw [o1, o2]
      wp_walk using wpAny_loadPart' q1, wpAny_loadPart' q2
      show R (.ok (.ret (.bool (decide (xs.size < ys.size))))) _
      have e1 : ms.drop i = [] := List.drop_eq_nil_of_le (by omega)
      rw [a2, e1, HT.lexLt_cons_nil] at h
      rw [decide_eq_false (by omega)]
      exact h
theorem list_ltI (l b : Addr) (xs ys : Array Value) (n n2 : Nat) (dd dd2 : Option Addr) (sl sl2 : Array (Option Value)) (ns ms : List Int) (hx : IntsAre xs.toList ns) (hy : IntsAre ys.toList ms) :
    Meets (Builtin.«list.__lt__» ⟨[.ref l, .ref b], []⟩)
      (fun _ R s => s.heap.get? l = some ⟨.type "list", dd, .seq xs n, sl⟩ ∧ s.heap.get? b = some ⟨.type "list", dd2, .seq ys n2, sl2⟩ ∧ R (.ok (.ret (.bool (HT.lexLt ns ms)))) s) := by
  intro prog w A R s h
  obtain ⟨hp, g, d, tk, os⟩ := s; obtain ⟨q1, q2, h⟩ := h
  have f3 := AutoSeq1.sub_list_list
  wp_walk using wpAny_loadPart' q1, wpAny_loadPart' q2
  exact ⟨plainId_quiet plain_eq_loop _, codeAny_builtin entry_eq_loop (by
    rw [Around.under_plainId plain_eq_loop _]
    exact lt_loopI l b xs ys n n2 dd dd2 sl sl2 ns ms hx hy _ 0 rfl (Nat.zero_le _) (Nat.zero_le _) prog w A R _ ⟨q1, q2, h⟩)⟩
end
section
variable {X : Cx}
theorem sl_listK (K : PySem.W.Frag) (h : X.K = K := by rfl) : SlR X (rSlL K) := h ▸ sl_list
theorem op_notIn_seqK (K : PySem.W.Frag) (h : X.K = K := by rfl) : OpR X (compareOp .NotIn) (rIn K true) := h ▸ op_notIn_seq
def rLtL (K : PySem.W.Frag) : R2 := fun x y H Q => ∃ a b ns ms, x = .ref a ∧ y = .ref b ∧ SqL K H a (ns.map V.int) ∧ SqL K H b (ms.map V.int) ∧ Q (.bl (HT.lexLt ns ms)) H
theorem op_ltL (hu : X.A.units + 64 < cLine) : OpR X (compareOp .Lt) (rLtL X.K) := by
  intro pins s σ H x y v u Q I rx ry h
  obtain ⟨a, b, ns, ms, rfl, rfl, ha, hb, q⟩ := h
  cases rx
  cases ry
  obtain ⟨its, r1, ⟨⟨cls, dd, data, sl⟩, n, ho, hc, hd, hs⟩, _⟩ := I.list ha
  obtain ⟨its2, r2, ⟨⟨cls2, dd2, data2, sl2⟩, n2, ho2, hc2, hd2, hs2⟩, _⟩ := I.list hb
  simp only at hc hd hs hc2 hd2 hs2
  subst hc hd hs hc2 hd2 hs2
  have i1 : IntsAre its.toArray.toList ns := intsAre_of r1
  have i2 : IntsAre its2.toArray.toList ms := intsAre_of r2
  exact richCompare_meets_room (op := .Lt) ⟨_, ho, rfl⟩ ⟨_, ho2, rfl⟩ PySem.F.slot_list_lt PySem.F.entry_list_lt (PySem.F.args_list_lt_2 _ _) (list_ltI a b its.toArray its2.toArray n n2 _ _ _ _ ns ms i1 i2)
    ⟨ho, ho2, show Value.bool (HT.lexLt ns ms) ≠ Value.notImplemented ∧ _ from ⟨(fun x => nomatch x), ⟨.bl _, H, I, rfl, q⟩⟩⟩ (by omega)
end
def kept1 (gt : Int → Int → Bool) : Option Int → Int → Int
  | none, z => z
  | some m, z => if gt z m = true then z else m
def walkEnd (gt : Int → Int → Bool) : Option Int → List Int → Option Int
  | o, [] => o
  | o, z :: r => walkEnd gt (some (kept1 gt o z)) r
theorem walkEnd_some (gt : Int → Int → Bool) (l : List Int) : ∀ m, ∃ x, walkEnd gt (some m) l = some x ∧ (x = m ∨ x ∈ l) := by
  induction l with
  | nil => exact fun m => ⟨m, rfl, .inl rfl⟩
  | cons z r ih =>
    intro m
    obtain ⟨x, e, h⟩ := ih (kept1 gt (some m) z)
    refine ⟨x, e, ?_⟩
    rcases h with h | h
    · by_cases c : gt z m = true
      · exact .inr (by simp [h, kept1, c])
      · exact .inl (by simp [h, kept1, c])
    · exact .inr (List.mem_cons_of_mem _ h)
theorem walkEnd_max (l : List Int) : ∀ m x, walkEnd (fun a b => decide (b < a)) (some m) l = some x → m ≤ x ∧ ∀ y ∈ l, y ≤ x := by
  induction l with
  | nil => exact fun m x e => ⟨by cases e; exact Int.le_refl _, fun y h => nomatch h⟩
  | cons z r ih =>
    intro m x e
    obtain ⟨h1, h2⟩ := ih _ x e
    have k : m ≤ kept1 (fun a b => decide (b < a)) (some m) z ∧ z ≤ kept1 (fun a b => decide (b < a)) (some m) z := by
      by_cases c : m < z
      · simp [kept1, c]; omega
      · simp [kept1, c]; omega
    refine ⟨by omega, fun y h => ?_⟩
    rcases List.mem_cons.mp h with h | h
    · omega
    · exact h2 y h
theorem walkEnd_min (l : List Int) : ∀ m x, walkEnd (fun a b => decide (a < b)) (some m) l = some x → x ≤ m ∧ ∀ y ∈ l, x ≤ y := by
  induction l with
  | nil => exact fun m x e => ⟨by cases e; exact Int.le_refl _, fun y h => nomatch h⟩
  | cons z r ih =>
    intro m x e
    obtain ⟨h1, h2⟩ := ih _ x e
    have k : kept1 (fun a b => decide (a < b)) (some m) z ≤ m ∧ kept1 (fun a b => decide (a < b)) (some m) z ≤ z := by
      by_cases c : z < m
      · simp [kept1, c]; omega
      · simp [kept1, c]; omega
    refine ⟨by omega, fun y h => ?_⟩
    rcases List.mem_cons.mp h with h | h
    · omega
    · exact h2 y h
def Held (h : Heap) (B : Addr) : Option Int → Prop
  | none => ∃ c, h.get? B = some ⟨.type "list", none, .seq #[] c, #[]⟩
  | some m => ∃ t c, h.get? B = some ⟨.type "list", none, .seq #[.int m t, .int m t] c, #[]⟩
def EndIs (dv : Value) : Option Int → Value → Prop
  | none, v => v = dv
  | some m, v => ∃ t, v = .int m t
def But2 (h h' : Heap) (J B : Addr) : Prop := ∀ b x, b ≠ J → b ≠ B → h.get? b = some x → h'.get? b = some x
section
variable {prog : Program} {w : World} {A : Around} {E : Value → Shared → Prop} {s : Shared}
def TurnD (prog : Program) (w : World) (id : String) (gt : Int → Int → Bool) : Prop :=
  ∀ (A : Around) (J l B : Addr) (us : Array Value) (dv : Value) (i : Nat) (o : Option Int) (R : Result → Shared → Prop) (s : Shared), A.handled = none → l ≠ J → B ≠ J → s.heap.IsListIter J l i → s.heap.IsList l us → Held s.heap B o →
    (us[i]? = none ∧ (∀ h' v, But2 s.heap h' J B → EndIs dv o v → R (.ok (.ret v)) { s with heap := h' }) ∨
      ∃ z t, us[i]? = some (.int z t) ∧ ∀ h', h'.IsListIter J l (i + 1) → Held h' B (some (kept1 gt o z)) → But2 s.heap h' J B → codeAny (model prog w) A (.builtin id ⟨[.ref J, .none, .ref B], [("default", dv)]⟩) R { s with heap := h' }) →
    codeAny (model prog w) A (.builtin id ⟨[.ref J, .none, .ref B], [("default", dv)]⟩) R s
theorem but_put {h h' : Heap} {J B : Addr} (k : Heap.ExtBut J h h') (f : Obj → Obj) : But2 h (h'.update B f) J B := fun b x n1 n2 e => (Heap.get?_update_other _ _ (Ne.symm n2)).trans (k b x n1 e)
theorem iter_put {h' : Heap} {J l B : Addr} {i : Nat} (n : B ≠ J) (hit : h'.IsListIter J l i) (f : Obj → Obj) : (h'.update B f).IsListIter J l i := hit.at fun o e => (Heap.get?_update_other _ _ n).trans e
theorem tcAny {α : Type} {M : Model} {m : Sem α} {k : Value → Sem α} {Q : α → Shared → Prop} (h : wpAny M A m Q (fun e s' => wpAny M A (k e) Q E s') s) : wpAny M A (m.tryCatch k) Q E s := wpAny_tryCatch h
set_option maxHeartbeats 4000000 in
theorem turn_max : TurnD prog w "max.loop" (fun a b => decide (b < a)) := by
  intro A J l B us dv i o R s hh hlJ hBJ hit hl hB h
  have hid : (toString "max" ++ toString ".loop" : String) = "max.loop" := by decide
  have hq : ∀ a, (Code.builtin "max.loop" a).quiet = true := plainId_quiet F.plain_max_loop
  apply codeAny_builtin F.entry_max_loop
  rw [Around.under_plainId F.plain_max_loop]
  rcases h with ⟨hx, h⟩ | ⟨z, t, hx, h⟩
  · have nx : ∀ (Q : Option Value → Shared → Prop) (E : Value → Shared → Prop), (∀ h', Heap.ExtBut J s.heap h' → Q none { s with heap := h' }) → wpAny (model prog w) A.in1 (pyNext (.ref J)) Q E s := fun Q E k => wpAny_pyNext_list_end hh hit hl hx k
    cases o with
    | none =>
      obtain ⟨c, hB⟩ := hB
      wp_walk using wpAny_seqItems hB rfl, tcAny, nx
      intro h' k
      wp_walk
      exact h h' dv (fun b x n1 _ e => k b x n1 e) rfl
    | some m =>
      obtain ⟨u, c, hB⟩ := hB
      wp_walk using wpAny_seqItems hB rfl, tcAny, nx
      intro h' k
      have hB' := k B _ hBJ hB
      wp_walk using wpAny_updateSeq hB' rfl
      exact h _ _ (but_put k _) ⟨u, rfl⟩
  · have nx : ∀ (Q : Option Value → Shared → Prop) (E : Value → Shared → Prop), (∀ h', h'.IsListIter J l (i + 1) → Heap.SameBut J s.heap h' → Q (some (.int z t)) { s with heap := h' }) → wpAny (model prog w) A.in1 (pyNext (.ref J)) Q E s := fun Q E k => wpAny_pyNext_list_item hit hl hx k
    cases o with
    | none =>
      obtain ⟨c, hB⟩ := hB
      wp_walk using wpAny_seqItems hB rfl, tcAny, nx
      intro h' hit' k
      have hB' := k.extBut B _ hBJ hB
      wp_walk using wpAny_updateSeq hB' rfl
      rw [hid]
      exact ⟨hq _, h _ (iter_put hBJ hit' _) ⟨t, _, Heap.get?_update_self _ hB' rfl⟩ (but_put k.extBut _)⟩
    | some m =>
      obtain ⟨u, c, hB⟩ := hB
      have cmp : ∀ (Q E : Value → Shared → Prop) (s' : Shared), Q (.bool (decide (z > m))) s' → wpAny (model prog w) A.in1 (richCompare .Gt (.int z t) (.int m u)) Q E s' := fun Q E s' q => CmpOf.ints_gt (P := fun i v => v = if i = 0 then .int z t else .int m u) (fun i => if i = 0 then z else m) (fun i v e => by cases i <;> exact ⟨_, e⟩) 0 1 _ _ s' Q E rfl rfl q
      wp_walk using wpAny_seqItems hB rfl, tcAny, nx
      intro h' hit' k
      have hB' := k.extBut B _ hBJ hB
      by_cases c : z > m
      · rw [decide_eq_true c] at cmp
        wp_walk using wpAny_updateSeq hB' rfl, tcAny, cmp, wpAny_truthy_bool
        rw [hid]
        exact ⟨hq _, h _ (iter_put hBJ hit' _) ⟨t, _, by simp only [kept1, c, decide_true, if_true]; exact Heap.get?_update_self _ hB' rfl⟩ (but_put k.extBut _)⟩
      · rw [decide_eq_false c] at cmp
        wp_walk using wpAny_updateSeq hB' rfl, tcAny, cmp, wpAny_truthy_bool
        rw [hid]
        exact ⟨hq _, h _ hit' ⟨u, _, by simp only [kept1, c, decide_false, Bool.false_eq_true, if_false]; exact hB'⟩ fun b x n1 _ e => k.extBut b x n1 e⟩
set_option maxHeartbeats 4000000 in
theorem turn_min : TurnD prog w "min.loop" (fun a b => decide (a < b)) := by
  intro A J l B us dv i o R s hh hlJ hBJ hit hl hB h
  have hid : (toString "min" ++ toString ".loop" : String) = "min.loop" := by decide
  have hq : ∀ a, (Code.builtin "min.loop" a).quiet = true := plainId_quiet F.plain_min_loop
  apply codeAny_builtin F.entry_min_loop
  rw [Around.under_plainId F.plain_min_loop]
  rcases h with ⟨hx, h⟩ | ⟨z, t, hx, h⟩
  · have nx : ∀ (Q : Option Value → Shared → Prop) (E : Value → Shared → Prop), (∀ h', Heap.ExtBut J s.heap h' → Q none { s with heap := h' }) → wpAny (model prog w) A.in1 (pyNext (.ref J)) Q E s := fun Q E k => wpAny_pyNext_list_end hh hit hl hx k
    cases o with
    | none =>
      obtain ⟨c, hB⟩ := hB
      wp_walk using wpAny_seqItems hB rfl, tcAny, nx
      intro h' k
      wp_walk
      exact h h' dv (fun b x n1 _ e => k b x n1 e) rfl
    | some m =>
      obtain ⟨u, c, hB⟩ := hB
      wp_walk using wpAny_seqItems hB rfl, tcAny, nx
      intro h' k
      have hB' := k B _ hBJ hB
      wp_walk using wpAny_updateSeq hB' rfl
      exact h _ _ (but_put k _) ⟨u, rfl⟩
  · have nx : ∀ (Q : Option Value → Shared → Prop) (E : Value → Shared → Prop), (∀ h', h'.IsListIter J l (i + 1) → Heap.SameBut J s.heap h' → Q (some (.int z t)) { s with heap := h' }) → wpAny (model prog w) A.in1 (pyNext (.ref J)) Q E s := fun Q E k => wpAny_pyNext_list_item hit hl hx k
    cases o with
    | none =>
      obtain ⟨c, hB⟩ := hB
      wp_walk using wpAny_seqItems hB rfl, tcAny, nx
      intro h' hit' k
      have hB' := k.extBut B _ hBJ hB
      wp_walk using wpAny_updateSeq hB' rfl
      rw [hid]
      exact ⟨hq _, h _ (iter_put hBJ hit' _) ⟨t, _, Heap.get?_update_self _ hB' rfl⟩ (but_put k.extBut _)⟩
    | some m =>
      obtain ⟨u, c, hB⟩ := hB
      have cmp : ∀ (Q E : Value → Shared → Prop) (s' : Shared), Q (.bool (decide (z < m))) s' → wpAny (model prog w) A.in1 (richCompare .Lt (.int z t) (.int m u)) Q E s' := fun Q E s' q => HT.rcLt_int A.in1 s' z t m u prog w E Q q
      wp_walk using wpAny_seqItems hB rfl, tcAny, nx
      intro h' hit' k
      have hB' := k.extBut B _ hBJ hB
      by_cases c : z < m
      · rw [decide_eq_true c] at cmp
        wp_walk using wpAny_updateSeq hB' rfl, tcAny, cmp, wpAny_truthy_bool
        rw [hid]
        exact ⟨hq _, h _ (iter_put hBJ hit' _) ⟨t, _, by simp only [kept1, c, decide_true, if_true]; exact Heap.get?_update_self _ hB' rfl⟩ (but_put k.extBut _)⟩
      · rw [decide_eq_false c] at cmp
        wp_walk using wpAny_updateSeq hB' rfl, tcAny, cmp, wpAny_truthy_bool
        rw [hid]
        exact ⟨hq _, h _ hit' ⟨u, _, by simp only [kept1, c, decide_false, Bool.false_eq_true, if_false]; exact hB'⟩ fun b x n1 _ e => k.extBut b x n1 e⟩
theorem run_D {id : String} {gt : Int → Int → Bool} (T : TurnD prog w id gt) {J l B : Addr} {us : Array Value} {ns : List Int} {dv : Value} {R : Result → Shared → Prop} (hh : A.handled = none) (hlJ : l ≠ J) (hBJ : B ≠ J) (hBl : l ≠ B) (hus : IntsAre us.toList ns) (k : Nat) :
    ∀ (i : Nat) (o : Option Int) (s : Shared), us.size - i = k → i ≤ us.size → s.heap.IsListIter J l i → s.heap.IsList l us → Held s.heap B o →
      (∀ h' v, But2 s.heap h' J B → EndIs dv (walkEnd gt o (ns.drop i)) v → R (.ok (.ret v)) { s with heap := h' }) →
      codeAny (model prog w) A (.builtin id ⟨[.ref J, .none, .ref B], [("default", dv)]⟩) R s := by
  have zl : us.size = ns.length := by rw [← hus.length]; simp
  induction k with
  | zero =>
    intro i o s ek hi hit hl hB fin
    have hd : ns.drop i = [] := List.drop_eq_nil_of_le (by omega)
    rw [hd] at fin
    exact T A J l B us dv i o R s hh hlJ hBJ hit hl hB (.inl ⟨by simp; omega, fin⟩)
  | succ k ih =>
    intro i o s ek hi hit hl hB fin
    obtain ⟨z, t, a1, a2⟩ := ints_at hus i (by simp; omega)
    rw [a2] at fin
    refine T A J l B us dv i o R s hh hlJ hBJ hit hl hB (.inr ⟨z, t, by simpa using a1, fun h' it' hd' kp => ?_⟩)
    exact ih (i + 1) _ { s with heap := h' } (by omega) (by omega) it' (hl.at fun x e => kp l x hlJ hBl e) hd' fun h2 v kp2 e => fin h2 v (fun b x n1 n2 e0 => kp2 b x n1 n2 (kp b x n1 n2 e0)) e
theorem start_D {id : String} {gt : Int → Int → Bool} (T : TurnD prog w id gt) {l : Addr} {us : Array Value} {ns : List Int} {dv : Value} {R : Result → Shared → Prop} (hh : A.handled = none) (hl : s.heap.IsList l us) (hus : IntsAre us.toList ns) {J B : Addr} {h2 : Heap}
    (hJ : ∀ b x, s.heap.get? b = some x → b ≠ J) (hB : ∀ b x, s.heap.get? b = some x → b ≠ B) (hJB : B ≠ J) (k2 : ∀ b x, s.heap.get? b = some x → h2.get? b = some x) (hit : h2.IsListIter J l 0) (hH : Held h2 B none)
    (fin : ∀ h' v, (∀ b x, s.heap.get? b = some x → h'.get? b = some x) → EndIs dv (walkEnd gt none ns) v → R (.ok (.ret v)) { s with heap := h' }) :
    codeAny (model prog w) A (.builtin id ⟨[.ref J, .none, .ref B], [("default", dv)]⟩) R { s with heap := h2 } := by
  have hl' := hl
  obtain ⟨ol, hol, _⟩ := hl'
  exact run_D T hh (hJ l ol hol) hJB (hB l ol hol) hus _ 0 none { s with heap := h2 } rfl (Nat.zero_le _) hit (hl.at fun x e => k2 l x e) hH fun h' v kp e => fin h' v (fun b x e0 => kp b x (hJ b x e0) (hB b x e0) (k2 b x e0)) e
theorem max_def_raw {l : Addr} {its : List Value} {ns : List Int} {dv : Value} {Q : Value → Shared → Prop} (hh : A.handled = none) (hl : s.heap.IsList l its.toArray) (hi : IntsAre its ns)
    (h0 : ns = [] → ∀ h', (∀ b o, s.heap.get? b = some o → h'.get? b = some o) → Q dv { s with heap := h' })
    (h1 : ns ≠ [] → ∀ (m : Int) (t : Tok) h', m ∈ ns → (∀ y, y ∈ ns → y ≤ m) → (∀ b o, s.heap.get? b = some o → h'.get? b = some o) → Q (.int m t) { s with heap := h' }) :
    wpAny (model prog w) A (call (.builtin "max") [.ref l] [("default", dv)]) Q E s := by
  have hid : (toString "max" ++ toString ".loop" : String) = "max.loop" := by decide
  have bp : Builtin.Builtins.bindParams "max" ["key", "default"] 0 ⟨[], [("default", dv)]⟩ = pure [none, some dv] := rfl
  refine kmb_tree F.kind_max F.plain_max F.entry_max (by unfold argsOk; kernel_rfl) ?_
  wp_walk using wpAny_of_eq bp, wpAny_pyIter_list hl, wpAny_newObj_type
  case h.hd => exact Nat.zero_le _
  rw [hid]
  refine ⟨plainId_quiet F.plain_max_loop _, start_D turn_max hh hl hi (fun b x e => Nat.ne_of_lt (Heap.lt_size e)) (fun b x e => Nat.ne_of_lt (Nat.lt_of_lt_of_le (Heap.lt_size e) (by rw [Heap.size_push]; exact Nat.le_succ _))) (by rw [Heap.size_push]; exact Nat.succ_ne_self _) (fun b x e => Heap.get?_push_of_some _ (Heap.get?_push_of_some _ e)) ⟨_, Heap.get?_push_of_some _ (Heap.get?_push_size _ rfl), rfl, rfl⟩ ⟨_, Heap.get?_push_size _ rfl⟩ fun h' v k e => ?_⟩
  · cases ns with
    | nil =>
      obtain rfl : v = dv := e
      exact h0 rfl h' k
    | cons z r =>
      obtain ⟨x, e1, e2⟩ := walkEnd_some (fun a b => decide (b < a)) r z
      have e3 := walkEnd_max r z x e1
      have e4 : EndIs dv (walkEnd (fun a b => decide (b < a)) (some z) r) v := e
      rw [e1] at e4
      obtain ⟨t, rfl⟩ := e4
      refine h1 (fun q => nomatch q) x t h' (List.mem_cons.mpr e2) (fun y hy => ?_) k
      rcases List.mem_cons.mp hy with rfl | hy
      · exact e3.1
      · exact e3.2 y hy
theorem min_def_raw {l : Addr} {its : List Value} {ns : List Int} {dv : Value} {Q : Value → Shared → Prop} (hh : A.handled = none) (hl : s.heap.IsList l its.toArray) (hi : IntsAre its ns)
    (h0 : ns = [] → ∀ h', (∀ b o, s.heap.get? b = some o → h'.get? b = some o) → Q dv { s with heap := h' })
    (h1 : ns ≠ [] → ∀ (m : Int) (t : Tok) h', m ∈ ns → (∀ y, y ∈ ns → m ≤ y) → (∀ b o, s.heap.get? b = some o → h'.get? b = some o) → Q (.int m t) { s with heap := h' }) :
    wpAny (model prog w) A (call (.builtin "min") [.ref l] [("default", dv)]) Q E s := by
  have hid : (toString "min" ++ toString ".loop" : String) = "min.loop" := by decide
  have bp : Builtin.Builtins.bindParams "min" ["key", "default"] 0 ⟨[], [("default", dv)]⟩ = pure [none, some dv] := rfl
  refine kmb_tree F.kind_min F.plain_min F.entry_min (by unfold argsOk; kernel_rfl) ?_
  wp_walk using wpAny_of_eq bp, wpAny_pyIter_list hl, wpAny_newObj_type
  case h.hd => exact Nat.zero_le _
  rw [hid]
  refine ⟨plainId_quiet F.plain_min_loop _, start_D turn_min hh hl hi (fun b x e => Nat.ne_of_lt (Heap.lt_size e)) (fun b x e => Nat.ne_of_lt (Nat.lt_of_lt_of_le (Heap.lt_size e) (by rw [Heap.size_push]; exact Nat.le_succ _))) (by rw [Heap.size_push]; exact Nat.succ_ne_self _) (fun b x e => Heap.get?_push_of_some _ (Heap.get?_push_of_some _ e)) ⟨_, Heap.get?_push_of_some _ (Heap.get?_push_size _ rfl), rfl, rfl⟩ ⟨_, Heap.get?_push_size _ rfl⟩ fun h' v k e => ?_⟩
  · cases ns with
    | nil =>
      obtain rfl : v = dv := e
      exact h0 rfl h' k
    | cons z r =>
      obtain ⟨x, e1, e2⟩ := walkEnd_some (fun a b => decide (a < b)) r z
      have e3 := walkEnd_min r z x e1
      have e4 : EndIs dv (walkEnd (fun a b => decide (a < b)) (some z) r) v := e
      rw [e1] at e4
      obtain ⟨t, rfl⟩ := e4
      refine h1 (fun q => nomatch q) x t h' (List.mem_cons.mpr e2) (fun y hy => ?_) k
      rcases List.mem_cons.mp hy with rfl | hy
      · exact e3.1
      · exact e3.2 y hy
end
section
variable {X : Cx}
def CallKR (X : Cx) (id : String) (ks : List Str) (r : List V → List V → Hp → VK → Prop) : Prop :=
  ∀ (pins : List (Addr × Obj)) (s : Shared) (σ : St) (H : Hp) (vs zs : List V) (us ws : List Value) (Q : VK), Inv X pins σ H s → Vals vs us → Vals zs ws → r vs zs H Q → wpAny (model X.prog X.w) X.A (call (.builtin id) us (ks.zip ws)) (EP X pins σ Q) X.xe s
theorem pe_callBK {id : String} {ks : List Str} {r : List V → List V → Hp → VK → Prop} {x : Str} {p pos : Pos} {e : Expr} {es : List Expr} {kws : List Keyword} {t tk : TA} (hc : CallKR X id ks r) (hg : Gl X x) (hm : X.mg x = none) (hv : bootBuiltins x = some (.builtin id)) (ha : PA X (e :: es) t) (hkw : PK X kws tk)
    (hks : (backToKw pos (keywordEach kws X.env)).filterMap (·.1) = ks := by rfl) (hn : x ≠ "__name__" := by decide) (hdb : (x == ("__debug__" : Str)) = false := by decide)
    (he : backTo pos (starEach (e :: es) X.env) = (false, eval e X.env) :: backTo pos (starEach es X.env) := by rfl) (hpl : (backTo pos (starEach (e :: es) X.env)).any (·.1) = false := by rfl)
    (hall : (backToKw pos (keywordEach kws X.env)).all (·.1.isSome) = true := by rfl) (hno : (backToKw pos (keywordEach kws X.env)).any (·.1.isNone) = false := by rfl) :
    PE X (.Call (.Name x p) (e :: es) kws pos) (fun σ H Q => t σ H fun vs H1 => tk σ H1 fun zs H2 => r vs zs H2 Q) := by
  intro pins s σ H Q I h
  refine wpAny_Call_Name_kw (ld_blt I hg hm hv ?_ hn hdb)
  refine PyProof.Rows.callWith_kw (thn (ha pos pins s σ H _ I h) fun us s1 ⟨vs, H1, I1, r1, q1⟩ => ?_) he hpl hall hno
  refine thn (hkw pos pins s1 σ H1 _ I1 q1) fun ws s2 ⟨zs, H2, I2, rz, q2⟩ => ?_
  rw [hks]
  exact hc pins s2 σ H2 vs zs us ws Q I2 r1 rz q2
def rMaxD (K : PySem.W.Frag) : List V → List V → Hp → VK → Prop := fun vs zs H Q => ∃ (a : Addr) (ns : List Int) (d : Int), vs = [.ref a] ∧ zs = [.int d] ∧ SqL K H a (ns.map V.int) ∧ (ns = [] → Q (.int d) H) ∧ (ns ≠ [] → ∀ m, m ∈ ns → (∀ y, y ∈ ns → y ≤ m) → Q (.int m) H)
def rMinD (K : PySem.W.Frag) : List V → List V → Hp → VK → Prop := fun vs zs H Q => ∃ (a : Addr) (ns : List Int) (d : Int), vs = [.ref a] ∧ zs = [.int d] ∧ SqL K H a (ns.map V.int) ∧ (ns = [] → Q (.int d) H) ∧ (ns ≠ [] → ∀ m, m ∈ ns → (∀ y, y ∈ ns → m ≤ y) → Q (.int m) H)
theorem cr_maxD (hc : X.calm = true) : CallKR X "max" ["default"] (rMaxD X.K) := by
  intro pins s σ H vs zs us ws Q I r1 r2 h
  obtain ⟨a, ns, d, rfl, rfl, hS, q0, q1⟩ := h
  obtain ⟨u, rfl, hu⟩ := vals1 r1
  obtain ⟨u2, rfl, t2, rfl⟩ := vals1 r2
  cases hu
  obtain ⟨its, rv, pl, hz⟩ := I.list hS
  exact max_def_raw (I.ok.hd hc) pl.isList (intsAre_of rv) (fun e h' k => ⟨.int d, H, I.kept k, ⟨_, rfl⟩, q0 e⟩) (fun e m t h' hm hy k => ⟨.int m, H, I.kept k, ⟨_, rfl⟩, q1 e m hm hy⟩)
theorem cr_minD (hc : X.calm = true) : CallKR X "min" ["default"] (rMinD X.K) := by
  intro pins s σ H vs zs us ws Q I r1 r2 h
  obtain ⟨a, ns, d, rfl, rfl, hS, q0, q1⟩ := h
  obtain ⟨u, rfl, hu⟩ := vals1 r1
  obtain ⟨u2, rfl, t2, rfl⟩ := vals1 r2
  cases hu
  obtain ⟨its, rv, pl, hz⟩ := I.list hS
  exact min_def_raw (I.ok.hd hc) pl.isList (intsAre_of rv) (fun e h' k => ⟨.int d, H, I.kept k, ⟨_, rfl⟩, q0 e⟩) (fun e m t h' hm hy k => ⟨.int m, H, I.kept k, ⟨_, rfl⟩, q1 e m hm hy⟩)
end
end L2

set_option linter.all false

namespace L2
open PySem PySem.Spec PyProof.Rows
def asV (o : Option (Option V)) (k : V → Prop) : Prop := match o with | some (some v) => k v | _ => False
def asI (x : V) (k : Int → Prop) : Prop := match x with | .int i => k i | _ => False
def asB (x : V) (k : Bool → Prop) : Prop := match x with | .bl b => k b | _ => False
def asR (x : V) (k : Addr → Prop) : Prop := match x with | .ref b => k b | _ => False
theorem asV_is (v : V) (k : V → Prop) : asV (some (some v)) k = k v := rfl
theorem asI_is (i : Int) (k : Int → Prop) : asI (.int i) k = k i := rfl
theorem asB_is (b : Bool) (k : Bool → Prop) : asB (.bl b) k = k b := rfl
theorem asR_is (a : Addr) (k : Addr → Prop) : asR (.ref a) k = k a := rfl
theorem asV_ex (o : Option (Option V)) (k : V → Prop) : asV o k = ∃ v, o = some (some v) ∧ k v :=
  propext ⟨fun h => match o, h with | some (some v), h => ⟨v, rfl, h⟩, fun ⟨v, e, h⟩ => e ▸ h⟩
theorem asI_ex (x : V) (k : Int → Prop) : asI x k = ∃ i, x = .int i ∧ k i :=
  propext ⟨fun h => match x, h with | .int v, h => ⟨v, rfl, h⟩, fun ⟨v, e, h⟩ => e ▸ h⟩
theorem asB_ex (x : V) (k : Bool → Prop) : asB x k = ∃ i, x = .bl i ∧ k i :=
  propext ⟨fun h => match x, h with | .bl v, h => ⟨v, rfl, h⟩, fun ⟨v, e, h⟩ => e ▸ h⟩
theorem asR_ex (x : V) (k : Addr → Prop) : asR x k = ∃ i, x = .ref i ∧ k i :=
  propext ⟨fun h => match x, h with | .ref v, h => ⟨v, rfl, h⟩, fun ⟨v, e, h⟩ => e ▸ h⟩
def tVarm (i : Nat) : TE := fun σ H Q => asV σ[i]? fun v => Q v H
def rI0m (g : Int → Int → V) : R2 := fun x y H Q => asI x fun i => asI y fun j => Q (g i j) H
def rIm (C : Int → Int → Prop) (g : Int → Int → V) : R2 := fun x y H Q => asI x fun i => asI y fun j => C i j ∧ Q (g i j) H
def rUm (g : Int → V) : V → Hp → VK → Prop := fun x H Q => asI x fun i => Q (g i) H
def tTestm (t : TE) : TT := fun σ H Q => t σ H fun x H' => asB x fun k => Q k H'
def tChainm (r r' : R2) (ta tb tc : TE) : TE := fun σ H Q => ta σ H fun x H1 => tb σ H1 fun y H2 => r x y H2 fun z H3 => asB z fun k =>
  (if k = true then tc σ H3 fun w' H4 => r' y w' H4 Q else Q (.bl false) H3)
def tAndVm (ta tb : TE) : TE := fun σ H Q => ta σ H fun x H1 => asB x fun c => if c = true then tb σ H1 Q else Q (.bl false) H1
def tOrVm (ta tb : TE) : TE := fun σ H Q => ta σ H fun x H1 => asB x fun c => if c = true then Q (.bl true) H1 else tb σ H1 Q
def tNotVm (ta : TE) : TE := fun σ H Q => ta σ H fun x H1 => asB x fun c => Q (.bl (!c)) H1
def ipIm (f : Int → Int → Int) : TIp := fun x y H Q => asI x fun i => asI y fun j => Q (.int (f i j)) H
def tAugm (i : Nat) (te : TE) (ti : TIp) : TS := fun D σ H => asV σ[i]? fun x => te σ H fun y H1 => ti x y H1 fun z H2 => D.nx (σ.set i (some z)) H2
def rIxLm (K : PySem.W.Frag) : R2 := fun x y H Q => asR x fun p => asI y fun i => ∃ xs, SqL K H p xs ∧ ∃ v, atI xs i = some v ∧ Q v H
def rIxTm (K : PySem.W.Frag) : R2 := fun x y H Q => asR x fun p => asI y fun i => ∃ xs, SqT K H p xs ∧ ∃ v, atI xs i = some v ∧ Q v H
def rEqm : R2 := fun x y H Q => match x, y with | .int i, .int j => Q (.bl (decide (i = j))) H | x, y => scal x y = true ∧ Q (.bl (decide (x = y))) H
def rNem : R2 := fun x y H Q => match x, y with | .int i, .int j => Q (.bl (!decide (i = j))) H | x, y => scal x y = true ∧ Q (.bl (!decide (x = y))) H
theorem rEqm_ii (i j : Int) (H : Hp) (Q : VK) : rEqm (.int i) (.int j) H Q = Q (.bl (decide (i = j))) H := rfl
theorem rNem_ii (i j : Int) (H : Hp) (Q : VK) : rNem (.int i) (.int j) H Q = Q (.bl (!decide (i = j))) H := rfl
theorem dec_ii {i j : Int} : decide (V.int i = V.int j) = decide (i = j) := decide_eq_decide.mpr ⟨V.int.inj, congrArg _⟩
theorem rEqm_ex (x y : V) (H : Hp) (Q : VK) : rEqm x y H Q = (scal x y = true ∧ Q (.bl (decide (x = y))) H) := by
  unfold rEqm
  split
  · rw [dec_ii]
    exact propext ⟨fun h => ⟨rfl, h⟩, fun h => h.2⟩
  · rfl
theorem rNem_ex (x y : V) (H : Hp) (Q : VK) : rNem x y H Q = (scal x y = true ∧ Q (.bl (!decide (x = y))) H) := by
  unfold rNem
  split
  · rw [dec_ii]
    exact propext ⟨fun h => ⟨rfl, h⟩, fun h => h.2⟩
  · rfl
theorem tVarm_eq {i : Nat} : tVarm i = tVar i := funext fun _ => funext fun _ => funext fun _ => asV_ex _ _
theorem ii_ex {x y : V} {C : Int → Int → Prop} : (asI x fun i => asI y fun j => C i j) = ∃ i j, x = .int i ∧ y = .int j ∧ C i j := by
  simp only [asI_ex, exists_and_left]
theorem rI0m_eq {g : Int → Int → V} : rI0m g = rI0 g := funext fun _ => funext fun _ => funext fun _ => funext fun _ => ii_ex
theorem rIm_eq {C : Int → Int → Prop} {g : Int → Int → V} : rIm C g = rI C g := funext fun _ => funext fun _ => funext fun _ => funext fun _ => ii_ex
theorem rUm_eq {g : Int → V} : rUm g = rU g := funext fun _ => funext fun _ => funext fun _ => asI_ex _ _
theorem tTestm_eq {t : TE} : tTestm t = tTest t := by unfold tTestm tTest; simp only [asB_ex]
theorem tTestm_eqB {t : TE} : tTestm t = tB t := tTestm_eq
theorem tChainm_eq {r r' : R2} {ta tb tc : TE} : tChainm r r' ta tb tc = tChain r r' ta tb tc := by unfold tChainm tChain; simp only [asB_ex]
theorem tAndVm_eq {ta tb : TE} : tAndVm ta tb = tAndV ta tb := by unfold tAndVm tAndV; simp only [asB_ex]
theorem tOrVm_eq {ta tb : TE} : tOrVm ta tb = tOrV ta tb := by unfold tOrVm tOrV; simp only [asB_ex]
theorem ipIm_eq {f : Int → Int → Int} : ipIm f = ipI f := funext fun _ => funext fun _ => funext fun _ => funext fun _ => ii_ex
theorem tAugm_eq {i : Nat} {te : TE} {ti : TIp} : tAugm i te ti = tAug i te ti := funext fun _ => funext fun _ => funext fun _ => asV_ex _ _
theorem rIxLm_eq {K : PySem.W.Frag} : rIxLm K = rIxL K := by
  funext x y H Q
  exact propext (by
    unfold rIxLm rIxL
    rw [asR_ex]
    simp only [asI_ex]
    exact ⟨fun ⟨p, e, i, e', xs, s, v, a, q⟩ => ⟨p, xs, i, v, e, e', s, a, q⟩, fun ⟨p, xs, i, v, e, e', s, a, q⟩ => ⟨p, e, i, e', xs, s, v, a, q⟩⟩)
theorem rIxTm_eq {K : PySem.W.Frag} : rIxTm K = rIxT K := by
  funext x y H Q
  exact propext (by
    unfold rIxTm rIxT
    rw [asR_ex]
    simp only [asI_ex]
    exact ⟨fun ⟨p, e, i, e', xs, s, v, a, q⟩ => ⟨p, xs, i, v, e, e', s, a, q⟩, fun ⟨p, xs, i, v, e, e', s, a, q⟩ => ⟨p, e, i, e', xs, s, v, a, q⟩⟩)
theorem rEqm_eq : rEqm = rEq := funext fun _ => funext fun _ => funext fun _ => funext fun _ => rEqm_ex _ _ _ _
theorem rNem_eq : rNem = rNe := funext fun _ => funext fun _ => funext fun _ => funext fun _ => rNem_ex _ _ _ _
section
variable {X : Cx} {a b c e : Expr} {ta tb tc te t : TE} {pos : Pos}
theorem pvm (i : Nat) {x : Str} {pos : Pos} (hN : X.N[i]? = some x := by rfl) (hv : Vis X.env.scope x := by first | exact Or.inl rfl | exact Or.inr (Or.inl rfl) | exact Or.inr (Or.inr rfl)) (hd : (x == ("__debug__" : Str)) = false := by decide)
    (hcd : (x == ("__classdict__" : Str)) = false := by decide) : PE X (.Name x pos) (tVarm i) := tVarm_eq ▸ pe_var hN hv hd hcd
theorem op_addm : OpR X (binaryOp .Add) (rI0m fun i j => .int (i + j)) := rI0m_eq ▸ op_add
theorem op_subm : OpR X (binaryOp .Sub) (rI0m fun i j => .int (i - j)) := rI0m_eq ▸ op_sub
theorem op_mulm : OpR X (binaryOp .Mult) (rIm CMul fun i j => .int (i * j)) := rIm_eq ▸ op_mul
theorem op_fdivm : OpR X (binaryOp .FloorDiv) (rIm CDiv fun i j => .int (i / j)) := rIm_eq ▸ op_fdiv
theorem op_modm : OpR X (binaryOp .Mod) (rIm (fun _ j => 0 < j) fun i j => .int (i % j)) := rIm_eq ▸ op_mod
theorem op_shlm : OpR X (binaryOp .LShift) (rIm CPow fun i j => .int (i * 2 ^ j.toNat)) := rIm_eq ▸ op_shl
theorem op_ltm : OpR X (compareOp .Lt) (rI0m fun i j => .bl (decide (i < j))) := rI0m_eq ▸ op_lt
theorem op_lem : OpR X (compareOp .LtE) (rI0m fun i j => .bl (decide (i ≤ j))) := rI0m_eq ▸ op_le
theorem op_gtm : OpR X (compareOp .Gt) (rI0m fun i j => .bl (decide (j < i))) := rI0m_eq ▸ op_gt
theorem op_gem : OpR X (compareOp .GtE) (rI0m fun i j => .bl (decide (j ≤ i))) := rI0m_eq ▸ op_ge
theorem op_eqm : OpR X (compareOp .Eq) rEqm := rEqm_eq ▸ op_eq
theorem op_nem : OpR X (compareOp .NotEq) rNem := rNem_eq ▸ op_ne
theorem un_negm : UnR X (unaryOp .USub) (rUm fun i => .int (-i)) := rUm_eq ▸ un_neg
theorem ip_addm : PIp X .Add (ipIm fun i j => i + j) := ipIm_eq ▸ ip_add
theorem ix_listm : IxR X (rIxLm X.K) := rIxLm_eq ▸ ix_list
theorem ix_tupm : IxR X (rIxTm X.K) := rIxTm_eq ▸ ix_tup
theorem pt_cmpRm {op : CmpOp} {r : R2} (ho : OpR X (compareOp op) r) (ha : PE X a ta) (hb : PE X b tb) (hm : behindInMarks op b = false) : PT X (.Compare a [op] [b] pos) (tTestm (tOp r ta tb)) := tTestm_eq ▸ pt_cmpR ho ha hb hm
theorem pt_cmpm {op : CmpOp} (h : PC X op a b t) (h1 : behindInMarks op b = false := by first | exact nobehind _ (by decide) (by decide) | rfl) : PT X (.Compare a [op] [b] pos) (tTestm t) := tTestm_eqB ▸ pt_cmp h h1
theorem pt_valm (h : PE X e t) (he : ∀ whole, isTrue e X.env whole = (do let v ← whole; standAt e.pos; holding [v] (truthy v)) := by intro _; rfl) : PT X e (tTestm t) := tTestm_eqB ▸ pt_val h he
theorem pe_chainm {op op' : CmpOp} {r r' : R2} (ho : OpR X (compareOp op) r) (ho' : OpR X (compareOp op') r') (ha : PE X a ta) (hb : PE X b tb) (hc : PE X c tc)
    (hm : lastMarks [op, op'] [b, c] = false := by with_unfolding_all rfl) : PE X (.Compare a [op, op'] [b, c] pos) (tChainm r r' ta tb tc) := tChainm_eq ▸ pe_chain ho ho' ha hb hc hm
theorem pt_chainm {op op' : CmpOp} {r r' : R2} (ho : OpR X (compareOp op) r) (ho' : OpR X (compareOp op') r') (ha : PE X a ta) (hb : PE X b tb) (hc : PE X c tc)
    (hm : lastMarks [op, op'] [b, c] = false := by with_unfolding_all rfl) : PT X (.Compare a [op, op'] [b, c] pos) (tTestm (tChainm r r' ta tb tc)) := tTestm_eq ▸ tChainm_eq ▸ pt_chain ho ho' ha hb hc hm
theorem ix_listKm (K : PySem.W.Frag) (h : X.K = K := by rfl) : IxR X (rIxLm K) := h ▸ ix_listm
theorem pe_andm {rest : List Expr} (ha : PE X a ta) (hb : PE X (.BoolOp .And (b :: rest) pos) tb) : PE X (.BoolOp .And (a :: b :: rest) pos) (tAndVm ta tb) := tAndVm_eq ▸ pe_and ha hb
theorem pe_orm {rest : List Expr} (ha : PE X a ta) (hb : PE X (.BoolOp .Or (b :: rest) pos) tb) : PE X (.BoolOp .Or (a :: b :: rest) pos) (tOrVm ta tb) := tOrVm_eq ▸ pe_or ha hb
theorem ps_augm {i : Nat} {x : Str} {op : Operator} {ti : TIp} {pos' : Pos} (hN : X.N.Nodup) (hi : X.N[i]? = some x) (hx : Loc X.env.scope x) (he : PE X e te) (ho : PIp X op ti) (hf : X.fn x = true ∨ X.env.scope.names.lookup x = some .local := by first | exact .inl rfl | exact .inr rfl | assumption) :
    PS X (.AugAssign (.Name x pos') op e pos) (tAugm i te ti) := tAugm_eq ▸ ps_aug hN hi hx he ho hf
end
end L2

namespace GA
theorem fold_least (p : Nat → Bool) : ∀ (b r : Nat), p r = false → p (r + 2 ^ b) = true →
    p ((List.range b).foldr (fun (i r : Nat) => if p (r + 2 ^ i) = true then r else r + 2 ^ i) r) = false ∧
    p ((List.range b).foldr (fun (i r : Nat) => if p (r + 2 ^ i) = true then r else r + 2 ^ i) r + 1) = true
  | 0, r, h0, h1 => ⟨h0, h1⟩
  | b + 1, r, h0, h1 => by
    have e : (List.range (b + 1)).foldr (fun (i r : Nat) => if p (r + 2 ^ i) = true then r else r + 2 ^ i) r =
        (List.range b).foldr (fun (i r : Nat) => if p (r + 2 ^ i) = true then r else r + 2 ^ i) (if p (r + 2 ^ b) = true then r else r + 2 ^ b) := by
      rw [List.range_succ, List.foldr_append]
      rfl
    rw [e]
    by_cases h : p (r + 2 ^ b) = true
    · rw [if_pos h]
      exact fold_least p b r h0 h
    · rw [if_neg h]
      refine fold_least p b _ (by simpa using h) ?_
      rw [Nat.add_assoc, ← Nat.two_mul, Nat.mul_comm, ← Nat.pow_succ]
      exact h1
theorem least_spec (p : Nat → Bool) (b : Nat) (h0 : p 0 = false) (h1 : p (2 ^ b) = true) :
    p (Ft.least b p) = true ∧ p (Ft.least b p - 1) = false ∧ 1 ≤ Ft.least b p := by
  unfold Ft.least
  rw [if_neg (by rw [h0]; exact Bool.false_ne_true)]
  have h := fold_least p b 0 h0 (by rw [Nat.zero_add]; exact h1)
  refine ⟨h.2, ?_, by (first | lia | omega)⟩
  rw [Nat.add_sub_cancel]
  exact h.1
theorem least_eq (p : Nat → Bool) (b : Nat) (mono : ∀ i j, i ≤ j → p i = true → p j = true) (h0 : p 0 = false) (h1 : p (2 ^ b) = true)
    (t : Nat) (ht : p t = true) (hs : p (t - 1) = false) : Ft.least b p = t := by
  obtain ⟨a1, a2, a3⟩ := least_spec p b h0 h1
  have t1 : 1 ≤ t := by
    cases t with
    | zero => rw [h0] at ht; cases ht
    | succ k => (first | lia | omega)
  rcases Nat.lt_trichotomy (Ft.least b p) t with h | h | h
  · have := mono _ (t - 1) (by (first | lia | omega)) a1
    rw [hs] at this; cases this
  · exact h
  · have := mono _ (Ft.least b p - 1) (by (first | lia | omega)) ht
    rw [a2] at this; cases this

theorem unit_mono (n : Nat) : ∀ i j : Nat, i ≤ j → decide (n ≤ 111 * i ^ 3) = true → decide (n ≤ 111 * j ^ 3) = true := by
  intro i j h hi
  rw [decide_eq_true_eq] at *
  exact Nat.le_trans hi (Nat.mul_le_mul_left _ (Nat.pow_le_pow_left h 3))
theorem unit_eq (n u : Nat) (h1 : 1 ≤ n) (h2 : n ≤ 2147483647) (a : n ≤ 111 * u ^ 3) (b : 111 * (u - 1) ^ 3 < n) : Ft.unit n = u := by
  unfold Ft.unit
  refine least_eq _ 9 (unit_mono n) ?_ ?_ u ?_ ?_
  · exact decide_eq_false (by (first | lia | omega))
  · exact decide_eq_true (by (first | lia | omega))
  · exact decide_eq_true a
  · exact decide_eq_false (by (first | lia | omega))
theorem unit_spec (n : Nat) (h1 : 1 ≤ n) (h2 : n ≤ 2147483647) : n ≤ 111 * (Ft.unit n) ^ 3 ∧ 111 * (Ft.unit n - 1) ^ 3 < n ∧ 1 ≤ Ft.unit n := by
  have h := least_spec (fun (u : Nat) => decide (n ≤ 111 * u ^ 3)) 9 (decide_eq_false (by (first | lia | omega))) (decide_eq_true (by (first | lia | omega)))
  have e : Ft.least 9 (fun (u : Nat) => decide (n ≤ 111 * u ^ 3)) = Ft.unit n := rfl
  rw [e] at h
  obtain ⟨a, b, c⟩ := h
  rw [decide_eq_true_eq] at a
  rw [decide_eq_false_iff_not] at b
  exact ⟨a, by (first | lia | omega), c⟩
theorem unit_le (n : Nat) (h1 : 1 ≤ n) (h2 : n ≤ 2147483647) : Ft.unit n ≤ 269 := by
  obtain ⟨a, b, c⟩ := unit_spec n h1 h2
  apply Decidable.byContradiction
  intro h
  have : (269 : Nat) ^ 3 ≤ (Ft.unit n - 1) ^ 3 := Nat.pow_le_pow_left (by (first | lia | omega)) 3
  have e : (269 : Nat) ^ 3 = 19465109 := by decide
  (first | lia | omega)

theorem width_mono (m : Nat) : ∀ i j : Nat, i ≤ j → decide (m ≤ i ^ 2) = true → decide (m ≤ j ^ 2) = true := by
  intro i j h hi
  rw [decide_eq_true_eq] at *
  exact Nat.le_trans hi (Nat.pow_le_pow_left h 2)
theorem sq_bound (n g : Nat) (h1 : 1 ≤ n) (h2 : n ≤ 2147483647) (hg : g ≤ 21) : 1 ≤ Ft.unit n ^ 2 * 2 ^ g ∧ Ft.unit n ^ 2 * 2 ^ g ≤ 151753064448 := by
  have a := unit_le n h1 h2
  have b := (unit_spec n h1 h2).2.2
  constructor
  · exact Nat.mul_pos (Nat.pow_pos b) (Nat.pow_pos (by decide))
  · have e1 : Ft.unit n ^ 2 ≤ 269 ^ 2 := Nat.pow_le_pow_left a 2
    have e2 : 2 ^ g ≤ 2 ^ 21 := Nat.pow_le_pow_right (by decide) hg
    exact Nat.le_trans (Nat.mul_le_mul e1 e2) (by decide)
def unitZ (n : Int) : Int := (Ft.unit n.toNat : Int)
def rootZ (s : Int) : Int := (Ft.least 20 (fun (t : Nat) => decide (s.toNat ≤ t ^ 2)) : Int)
def widthZ (n g : Int) : Int := (Ft.width n.toNat g.toNat : Int)
theorem cube_cast (u : Int) (h : 0 ≤ u) : ((111 * u.toNat ^ 3 : Nat) : Int) = 111 * u * u * u := by
  obtain ⟨k, rfl⟩ := Int.eq_ofNat_of_zero_le h
  show ((111 * k ^ 3 : Nat) : Int) = 111 * (k : Int) * k * k
  have e : 111 * k ^ 3 = 111 * k * k * k := by
    rw [Nat.pow_succ, Nat.pow_succ, Nat.pow_succ, Nat.pow_zero, Nat.one_mul, ← Nat.mul_assoc, ← Nat.mul_assoc]
  rw [e]
  simp only [Int.natCast_mul]
  rfl
theorem unitZ_out {n u : Int} (n1 : 1 ≤ n) (n2 : n ≤ 2147483647) (u1 : 1 ≤ u) (b : 111 * (u - 1) * (u - 1) * (u - 1) < n) (a : ¬ 111 * u * u * u < n) : u = unitZ n := by
  have e1 := cube_cast u (by (first | lia | omega))
  have e2 := cube_cast (u - 1) (by (first | lia | omega))
  have t : (u - 1).toNat = u.toNat - 1 := by (first | lia | omega)
  rw [t] at e2
  unfold unitZ
  rw [unit_eq n.toNat u.toNat (by (first | lia | omega)) (by (first | lia | omega)) (by (first | lia | omega)) (by (first | lia | omega))]
  (first | lia | omega)
theorem cube_ge {u : Int} (h : 1 ≤ u) : u ≤ u * u * u ∧ 111 * u ≤ 111 * u * u * u ∧ u < 111 * u * u * u := by
  have e1 : u * 1 ≤ u * u := Int.mul_le_mul_of_nonneg_left h (by (first | lia | omega))
  have e2 : u * u * 1 ≤ u * u * u := Int.mul_le_mul_of_nonneg_left h (Int.mul_nonneg (by (first | lia | omega)) (by (first | lia | omega)))
  have e3 : 111 * u * u * u = 111 * (u * u * u) := by rw [Int.mul_assoc, Int.mul_assoc, Int.mul_assoc]
  rw [e3]
  (first | lia | omega)
theorem sq_cast (u : Int) (h : 0 ≤ u) : ((u.toNat ^ 2 : Nat) : Int) = u * u := by
  obtain ⟨k, rfl⟩ := Int.eq_ofNat_of_zero_le h
  show ((k ^ 2 : Nat) : Int) = (k : Int) * k
  rw [Nat.pow_two, Int.natCast_mul]
theorem rootZ_out {s e : Int} (s1 : 1 ≤ s) (s2 : s ≤ 1099511627776) (e1 : 1 ≤ e) (a : s ≤ e * e) (b : (e - 1) * (e - 1) < s) : e = rootZ s := by
  have q1 := sq_cast e (by (first | lia | omega))
  have q2 := sq_cast (e - 1) (by (first | lia | omega))
  have t : (e - 1).toNat = e.toNat - 1 := by (first | lia | omega)
  rw [t] at q2
  unfold rootZ
  rw [least_eq _ 20 (width_mono _) (decide_eq_false (by (first | lia | omega))) (decide_eq_true (by (first | lia | omega))) e.toNat (decide_eq_true (by (first | lia | omega))) (decide_eq_false (by (first | lia | omega)))]
  (first | lia | omega)
theorem unitZ_bounds {n : Int} (n1 : 1 ≤ n) (n2 : n ≤ 2147483647) : 1 ≤ unitZ n ∧ unitZ n ≤ 269 := by
  have a := unit_le n.toNat (by (first | lia | omega)) (by (first | lia | omega))
  have b := (unit_spec n.toNat (by (first | lia | omega)) (by (first | lia | omega))).2.2
  unfold unitZ
  (first | lia | omega)
theorem widthZ_eq {n g : Int} : widthZ n g = rootZ ((Ft.unit n.toNat ^ 2 * 2 ^ g.toNat : Nat) : Int) := rfl
theorem sqZ {n g : Int} (n1 : 1 ≤ n) (n2 : n ≤ 2147483647) : ((Ft.unit n.toNat ^ 2 * 2 ^ g.toNat : Nat) : Int) = unitZ n * unitZ n * 2 ^ g.toNat := by
  have b := unitZ_bounds n1 n2
  have e := sq_cast (unitZ n) (by (first | lia | omega))
  have t : (unitZ n).toNat = Ft.unit n.toNat := by unfold unitZ; (first | lia | omega)
  rw [t] at e
  rw [Int.natCast_mul, e, Int.natCast_pow]
  rfl
theorem sq_ge {s : Int} (h : 1 ≤ s) : s ≤ s * s := by
  have e1 : s * 1 ≤ s * s := Int.mul_le_mul_of_nonneg_left h (by (first | lia | omega))
  (first | lia | omega)
theorem shift_bounds {n g : Int} (n1 : 1 ≤ n) (n2 : n ≤ 2147483647) (g2 : g ≤ 21) :
    1 ≤ unitZ n * unitZ n * 2 ^ g.toNat ∧ unitZ n * unitZ n * 2 ^ g.toNat ≤ 1099511627776 ∧ (unitZ n * unitZ n).natAbs < 2 ^ 64 ∧ rootZ (unitZ n * unitZ n * 2 ^ g.toNat) = widthZ n g := by
  have e := sqZ (g := g) n1 n2
  have s := sq_bound n.toNat g.toNat (by (first | lia | omega)) (by (first | lia | omega)) (by (first | lia | omega))
  have b := unitZ_bounds n1 n2
  have m : unitZ n * unitZ n ≤ 269 * 269 := Int.mul_le_mul b.2 b.2 (by (first | lia | omega)) (by (first | lia | omega))
  have m0 : 0 ≤ unitZ n * unitZ n := Int.mul_nonneg (by (first | lia | omega)) (by (first | lia | omega))
  rw [← e]
  refine ⟨by (first | lia | omega), by (first | lia | omega), by (first | lia | omega), ?_⟩
  rw [widthZ_eq]
def stepZ (n j : Int) : Int := if j = 0 then 0 else widthZ n (j + 3)
def loZ (n l g : Int) : Int :=
  if 97 ≤ l then (if 104 < l then stepZ n (l - 104) else -stepZ n (104 - l) - widthZ n g)
  else (if 72 < l then -stepZ n (l - 72) - widthZ n g else stepZ n (72 - l))
def hiZ (n l g : Int) : Int := loZ n l g + widthZ n g
theorem step_cast {n j : Int} (j0 : 0 ≤ j) : ((Ft.step (Ft.width n.toNat) j.toNat : Nat) : Int) = stepZ n j := by
  unfold Ft.step stepZ widthZ
  by_cases h : j = 0
  · rw [if_pos h, if_pos (by (first | lia | omega))]
    rfl
  · rw [if_neg h, if_neg (by (first | lia | omega))]
    have e : (j + 3).toNat = j.toNat + 3 := by (first | lia | omega)
    rw [e]
theorem neg_add2 (a b : Int) : -(a + b) = -a - b := by (first | lia | omega)
theorem neg_sub2 (a b : Int) : -(-a - b) = a + b := by (first | lia | omega)
theorem nat_pos {m : Int} (h : 0 ≤ m) : m.natAbs = m.toNat := by (first | lia | omega)
theorem nat_neg {m : Int} (h : m ≤ 0) : m.natAbs = (-m).toNat := by (first | lia | omega)
theorem of_toNat {l : Int} {k : Nat} (h : l.toNat = k) (h0 : 1 ≤ k) : l = (k : Int) := by (first | lia | omega)
theorem limits_val {n l g : Int} {h : Bool} {m : Int} (e : Ft.letterOf l.toNat = some (h, m)) : Ft.codeLimits (Ft.width n.toNat) h m g.toNat = (loZ n l g, hiZ n l g) := by
  have wd : ((Ft.width n.toNat g.toNat : Nat) : Int) = widthZ n g := rfl
  generalize hk : l.toNat = k at e
  unfold Ft.letterOf at e
  by_cases h1 : 97 ≤ k ∧ k ≤ 122
  · have el := of_toNat hk (Nat.le_trans (by decide) h1.1)
    clear hk
    subst el
    rw [if_pos h1] at e
    cases e
    unfold Ft.codeLimits Ft.shaftLimits hiZ loZ
    rw [if_neg Bool.false_ne_true, if_pos (show (97 : Int) ≤ (k : Int) from Int.ofNat_le.mpr h1.1)]
    clear h1
    by_cases h2 : 104 < (k : Int)
    · have h3 : 0 ≤ (k : Int) - 104 := Int.sub_nonneg_of_le (Int.le_of_lt h2)
      rw [if_neg (Int.not_le.mpr (Int.sub_pos_of_lt h2)), if_pos h2, nat_pos h3, step_cast h3, wd]
    · have h3 : (k : Int) - 104 ≤ 0 := Int.sub_nonpos_of_le (Int.not_lt.mp h2)
      rw [if_pos h3, if_neg h2, nat_neg h3, Int.neg_sub, step_cast (Int.sub_nonneg_of_le (Int.not_lt.mp h2)), wd, Int.sub_add_cancel]
  · rw [if_neg h1] at e
    by_cases h3 : 65 ≤ k ∧ k ≤ 90
    · have el := of_toNat hk (Nat.le_trans (by decide) h3.1)
      clear hk
      subst el
      rw [if_pos h3] at e
      cases e
      unfold Ft.codeLimits Ft.shaftLimits hiZ loZ
      rw [if_pos rfl, if_neg (show ¬ (97 : Int) ≤ (k : Int) from fun z => absurd (Nat.le_trans (Int.ofNat_le.mp (show ((97 : Nat) : Int) ≤ (k : Int) from z)) h3.2) (by decide))]
      clear h3 h1
      by_cases h2 : 72 < (k : Int)
      · have h3 : 0 ≤ (k : Int) - 72 := Int.sub_nonneg_of_le (Int.le_of_lt h2)
        rw [if_neg (Int.not_le.mpr (Int.sub_pos_of_lt h2)), if_pos h2, nat_pos h3, step_cast h3, wd, Int.sub_add_cancel]
        dsimp only
        rw [neg_add2]
      · have h3 : (k : Int) - 72 ≤ 0 := Int.sub_nonpos_of_le (Int.not_lt.mp h2)
        rw [if_pos h3, if_neg h2, nat_neg h3, Int.neg_sub, step_cast (Int.sub_nonneg_of_le (Int.not_lt.mp h2)), wd]
        dsimp only
        rw [Int.neg_neg, neg_sub2]
    · rw [if_neg h3] at e
      cases e
def isLetter (l : Int) : Bool := (decide (97 ≤ l) && decide (l ≤ 122)) || (decide (65 ≤ l) && decide (l ≤ 90))
theorem letter_some {l : Int} (l0 : 0 ≤ l) (h : isLetter l = true) : ∃ x, Ft.letterOf l.toNat = some x := by
  unfold isLetter at h
  simp only [Bool.or_eq_true, Bool.and_eq_true, decide_eq_true_eq] at h
  unfold Ft.letterOf
  by_cases h1 : 97 ≤ l.toNat ∧ l.toNat ≤ 122
  · rw [if_pos h1]
    exact ⟨_, rfl⟩
  · rw [if_neg h1, if_pos (by (first | lia | omega))]
    exact ⟨_, rfl⟩
theorem letter_none {l : Int} (l0 : 0 ≤ l) (h : isLetter l = false) : Ft.letterOf l.toNat = none := by
  unfold isLetter at h
  simp only [Bool.or_eq_false_iff, Bool.and_eq_false_iff, decide_eq_false_iff_not] at h
  unfold Ft.letterOf
  rw [if_neg (by (first | lia | omega)), if_neg (by (first | lia | omega))]
theorem fits_iff (n lo hi : Int) : Ft.fitsSize n lo hi = (decide (lo ≤ hi) && (decide (1 ≤ n + lo) && (decide (-1073741824 ≤ lo) && decide (hi ≤ 1073741824)))) := by
  rw [Bool.eq_iff_iff]
  unfold Ft.fitsSize
  simp only [Bool.and_eq_true, decide_eq_true_eq]
  have e : Ft.FAR = 1073741824 := rfl
  rw [e]
  (first | lia | omega)
end GA

namespace GA

def pick {α : Type} (bt : α → α → Bool) (o : Option α) (c : α) : Option α := match o with
  | none => some c
  | some d => if bt c d = true then some c else some d
theorem pick_stay {α : Type} {bt : α → α → Bool} {c : α} : ∀ (l : List α), (∀ d ∈ l, bt d c = false) → l.foldl (pick bt) (some c) = some c
  | [], _ => rfl
  | d :: l, h => by
    have e : pick bt (some c) d = some c := by
      show (if bt d c = true then some d else some c) = some c
      rw [h d List.mem_cons_self, if_neg Bool.false_ne_true]
    rw [List.foldl_cons, e]
    exact pick_stay l fun d m => h d (List.mem_cons_of_mem _ m)
theorem pick_reach {α : Type} {bt : α → α → Bool} {c : α} : ∀ (l : List α) (o : Option α), c ∈ l → (∀ d ∈ l, bt d c = false) → (∀ d ∈ l, d = c ∨ bt c d = true) → (∀ d, o = some d → d = c ∨ bt c d = true) → l.foldl (pick bt) o = some c
  | d :: l, o, hm, h1, h2, h3 => by
    rw [List.foldl_cons]
    by_cases hd : d = c
    · subst hd
      have e : pick bt o d = some d := by
        cases o with
        | none => rfl
        | some y =>
          show (if bt d y = true then some d else some y) = some d
          rcases h3 y rfl with rfl | z
          · split <;> rfl
          · rw [if_pos z]
      rw [e]
      exact pick_stay l fun y m => h1 y (List.mem_cons_of_mem _ m)
    · have hm' : c ∈ l := (List.mem_cons.mp hm).resolve_left fun e => hd e.symm
      refine pick_reach l _ hm' (fun y m => h1 y (List.mem_cons_of_mem _ m)) (fun y m => h2 y (List.mem_cons_of_mem _ m)) fun y e => ?_
      cases o with
      | none =>
        have e' : d = y := Option.some.inj e
        subst e'
        exact h2 d List.mem_cons_self
      | some z =>
        have e' : (if bt d z = true then some d else some z) = some y := e
        by_cases hb : bt d z = true
        · rw [if_pos hb] at e'
          cases e'
          exact h2 d List.mem_cons_self
        · rw [if_neg hb] at e'
          cases e'
          exact h3 _ rfl
theorem pick_eq {α : Type} {bt : α → α → Bool} {c : α} {l : List α} (hm : c ∈ l) (h1 : ∀ d ∈ l, bt d c = false) (h2 : ∀ d ∈ l, d = c ∨ bt c d = true) : l.foldl (pick bt) none = some c :=
  pick_reach l none hm h1 h2 fun _ e => nomatch e
theorem pick_none {α : Type} {bt : α → α → Bool} {l : List α} (h : ∀ d, d ∉ l) : l.foldl (pick bt) none = none := by
  cases l with
  | nil => rfl
  | cons d l => exact absurd List.mem_cons_self (h d)

open FtBlocks
theorem mem_rowsOf : ∀ (l : List Nat) (k : Nat) (s : Stack), s ∈ rowsOf l k ↔ s.Sublist l ∧ s.length ≤ k
  | [], k, s => by
    rw [rowsOf]
    constructor
    · intro h
      rw [List.mem_singleton] at h
      subst h
      exact ⟨.slnil, Nat.zero_le _⟩
    · rintro ⟨h, _⟩
      rw [List.mem_singleton]
      exact List.sublist_nil.mp h
  | i :: r, 0, s => by
    rw [rowsOf, List.nil_append, mem_rowsOf r 0 s]
    constructor
    · rintro ⟨h, n⟩
      exact ⟨h.cons i, n⟩
    · rintro ⟨h, n⟩
      have e : s = [] := List.eq_nil_of_length_eq_zero (by (first | lia | omega))
      subst e
      exact ⟨List.nil_sublist _, n⟩
  | i :: r, j + 1, s => by
    rw [rowsOf, List.mem_append, mem_rowsOf r (j + 1) s, List.mem_map]
    constructor
    · rintro (⟨t, ht, rfl⟩ | ⟨h, n⟩)
      · obtain ⟨h, n⟩ := (mem_rowsOf r j t).mp ht
        exact ⟨h.cons_cons i, by rw [List.length_cons]; (first | lia | omega)⟩
      · exact ⟨h.cons i, n⟩
    · rintro ⟨h, n⟩
      cases h with
      | cons _ h => exact .inr ⟨h, n⟩
      | cons_cons _ h => exact .inl ⟨_, (mem_rowsOf r j _).mpr ⟨h, by rw [List.length_cons] at n; (first | lia | omega)⟩, rfl⟩
def free (x : Box) (bar : List Nat) : List Nat := (List.range x.length).filter fun (i : Nat) => !bar.contains i
theorem mem_stacks (x : Box) (bar : List Nat) (s : Stack) : s ∈ stacks x bar ↔ s ≠ [] ∧ s.length ≤ 5 ∧ s.Sublist (free x bar) := by
  unfold stacks
  rw [List.mem_filter, mem_rowsOf]
  constructor
  · rintro ⟨⟨h, n⟩, e⟩
    refine ⟨fun z => ?_, n, h⟩
    subst z
    cases e
  · rintro ⟨z, n, h⟩
    refine ⟨⟨h, n⟩, ?_⟩
    cases s with
    | nil => exact absurd rfl z
    | cons _ _ => rfl

theorem block_in {b : Block} (h : b.right = true) : 10 ≤ b.l ∧ b.l ≤ 1000000 ∧ b.l % 10 = 0 ∧ b.lo ≤ b.hi ∧ -4096 ≤ b.lo ∧ b.hi ≤ 4096 ∧ 1 ≤ b.l + b.lo := by
  unfold Block.right at h
  simp only [Bool.and_eq_true, decide_eq_true_eq, beq_iff_eq] at h
  exact h
def BoxOk (x : Box) : Prop := ∀ b ∈ x, b.right = true
theorem block_at {x : Box} (hx : BoxOk x) {i : Nat} (hi : i < x.length) : (Box.block x i).right = true := by
  unfold Box.block
  rw [List.getD_eq_getElem?_getD, List.getElem?_eq_getElem hi]
  exact hx _ (List.getElem_mem hi)
theorem long_cons (x : Box) (i : Nat) (s : Stack) : long x (i :: s) = (Box.block x i).l + long x s := rfl
theorem long_in {x : Box} (hx : BoxOk x) : ∀ (s : Stack), (∀ i ∈ s, i < x.length) → 10 * (s.length : Int) ≤ long x s ∧ long x s ≤ 1000000 * (s.length : Int) ∧ long x s % 10 = 0
  | [], _ => ⟨Int.le_refl 0, Int.le_refl 0, rfl⟩
  | i :: s, h => by
    obtain ⟨h1, h2, h3⟩ := long_in hx s fun j m => h j (List.mem_cons_of_mem _ m)
    obtain ⟨b1, b2, b3, _⟩ := block_in (block_at hx (h i List.mem_cons_self))
    rw [long_cons, List.length_cons]
    (first | lia | omega)
theorem free_lt {x : Box} {bar : List Nat} {i : Nat} (h : i ∈ free x bar) : i < x.length ∧ i ∉ bar := by
  unfold free at h
  rw [List.mem_filter, List.mem_range] at h
  refine ⟨h.1, fun m => ?_⟩
  have e := h.2
  rw [List.contains_iff_mem.mpr m] at e
  cases e
theorem stack_lt {x : Box} {bar : List Nat} {s : Stack} (h : s ∈ stacks x bar) : ∀ i ∈ s, i < x.length := fun i m => (free_lt (((mem_stacks x bar s).mp h).2.2.subset m)).1
theorem stack_long {x : Box} (hx : BoxOk x) {bar : List Nat} {s : Stack} (h : s ∈ stacks x bar) : 10 ≤ long x s ∧ long x s ≤ 5000000 ∧ long x s % 10 = 0 := by
  obtain ⟨h1, h2, h3⟩ := long_in hx s (stack_lt h)
  obtain ⟨n0, n5, _⟩ := (mem_stacks x bar s).mp h
  have p : 1 ≤ s.length := by
    cases s with
    | nil => exact absurd rfl n0
    | cons _ _ => rw [List.length_cons]; (first | lia | omega)
  (first | lia | omega)
def nearStep (x : Box) (up : Bool) (z : Int) (o : Option Int) (s : Stack) : Option Int :=
  if (if up = true then decide (long x s < z) else decide (z < long x s)) = true then o else match o with
    | none => some (long x s)
    | some w => if up = true then some (min w (long x s)) else some (max w (long x s))
theorem near_def (x : Box) (bar : List Nat) (up : Bool) (z : Int) : nearest x bar up z = (stacks x bar).foldl (nearStep x up z) none := rfl
def side (up : Bool) (z y : Int) : Prop := if up = true then z ≤ y else y ≤ z
def nearer (up : Bool) (y w : Int) : Prop := if up = true then y ≤ w else w ≤ y
theorem near_fold {x : Box} {up : Bool} {z y : Int} : ∀ (l : List Stack) (o : Option Int), (∀ s ∈ l, side up z (long x s) → nearer up y (long x s)) → (∀ w, o = some w → nearer up y w) → (o = some y ∨ ∃ s ∈ l, long x s = y ∧ side up z y) →
    l.foldl (nearStep x up z) o = some y
  | [], o, _, _, h => by
    rcases h with h | ⟨s, m, _⟩
    · exact h
    · exact absurd m (List.not_mem_nil)
  | t :: l, o, h1, h2, h3 => by
    rw [List.foldl_cons]
    refine near_fold l _ (fun s m => h1 s (List.mem_cons_of_mem _ m)) ?_ ?_
    · intro w e
      have a := h1 t List.mem_cons_self
      unfold nearStep at e
      unfold side nearer at *
      cases up with
      | true =>
        simp only [if_true] at *
        by_cases c : long x t < z
        · rw [if_pos (by simpa using c)] at e
          exact h2 w e
        · rw [if_neg (by simpa using c)] at e
          have a' := a (by (first | lia | omega))
          cases o with
          | none =>
            have e' : long x t = w := Option.some.inj e
            (first | lia | omega)
          | some v =>
            have e' : min v (long x t) = w := Option.some.inj e
            have b := h2 v rfl
            (first | lia | omega)
      | false =>
        simp only [Bool.false_eq_true, if_false] at *
        by_cases c : z < long x t
        · rw [if_pos (by simpa using c)] at e
          exact h2 w e
        · rw [if_neg (by simpa using c)] at e
          have a' := a (by (first | lia | omega))
          cases o with
          | none =>
            have e' : long x t = w := Option.some.inj e
            (first | lia | omega)
          | some v =>
            have e' : max v (long x t) = w := Option.some.inj e
            have b := h2 v rfl
            (first | lia | omega)
    · have a := h1 t List.mem_cons_self
      rcases h3 with rfl | ⟨s, m, e, sd⟩
      · left
        unfold nearStep
        unfold side nearer at *
        cases up with
        | true =>
          simp only [if_true] at *
          by_cases c : long x t < z
          · rw [if_pos (by simpa using c)]
          · rw [if_neg (by simpa using c)]
            have a' := a (by (first | lia | omega))
            show some (min y (long x t)) = some y
            congr 1
            (first | lia | omega)
        | false =>
          simp only [Bool.false_eq_true, if_false] at *
          by_cases c : z < long x t
          · rw [if_pos (by simpa using c)]
          · rw [if_neg (by simpa using c)]
            have a' := a (by (first | lia | omega))
            show some (max y (long x t)) = some y
            congr 1
            (first | lia | omega)
      · rcases List.mem_cons.mp m with rfl | m
        · left
          unfold nearStep
          unfold side nearer at *
          cases up with
          | true =>
            simp only [if_true] at *
            rw [if_neg (by simp; (first | lia | omega))]
            cases o with
            | none => exact congrArg some e
            | some v =>
              have b := h2 v rfl
              show some (min v (long x s)) = some y
              congr 1
              (first | lia | omega)
          | false =>
            simp only [Bool.false_eq_true, if_false] at *
            rw [if_neg (by simp; (first | lia | omega))]
            cases o with
            | none => exact congrArg some e
            | some v =>
              have b := h2 v rfl
              show some (max v (long x s)) = some y
              congr 1
              (first | lia | omega)
        · exact .inr ⟨s, m, e, sd⟩
theorem near_eq {x : Box} {bar : List Nat} {up : Bool} {z y : Int} (h1 : ∃ s ∈ stacks x bar, long x s = y ∧ side up z y) (h2 : ∀ s ∈ stacks x bar, side up z (long x s) → nearer up y (long x s)) : nearest x bar up z = some y := by
  rw [near_def]
  exact near_fold _ none h2 (fun w e => nomatch e) (.inr h1)
theorem near_none {x : Box} {bar : List Nat} {up : Bool} {z : Int} (h : ∀ s ∈ stacks x bar, ¬ side up z (long x s)) : nearest x bar up z = none := by
  rw [near_def]
  generalize stacks x bar = l at h
  induction l with
  | nil => rfl
  | cons t l ih =>
    have a := h t List.mem_cons_self
    have e : nearStep x up z none t = none := by
      unfold nearStep
      unfold side at a
      cases up with
      | true =>
        simp only [if_true] at *
        rw [if_pos (by simp; (first | lia | omega))]
      | false =>
        simp only [Bool.false_eq_true, if_false] at *
        rw [if_pos (by simp; (first | lia | omega))]
    rw [List.foldl_cons, e]
    exact ih fun s m => h s (List.mem_cons_of_mem _ m)
end GA

namespace GA
open FtBlocks

theorem lessRow_asymm : ∀ s t : Stack, lessRow s t = true → lessRow t s = false
  | [], [], h => by cases h
  | [], _ :: _, _ => rfl
  | _ :: _, [], h => by cases h
  | i :: r, j :: s, h => by
    rw [lessRow] at h ⊢
    simp only [Bool.or_eq_true, Bool.and_eq_true, decide_eq_true_eq, beq_iff_eq, Bool.or_eq_false_iff, decide_eq_false_iff_not, Bool.and_eq_false_iff] at h ⊢
    rcases h with h | ⟨rfl, h⟩
    · exact ⟨by (first | lia | omega), .inl (by simp; (first | lia | omega))⟩
    · exact ⟨by (first | lia | omega), .inr (lessRow_asymm r s h)⟩
theorem lessRow_total : ∀ s t : Stack, s ≠ t → lessRow s t = true ∨ lessRow t s = true
  | [], [], h => absurd rfl h
  | [], _ :: _, _ => .inl rfl
  | _ :: _, [], _ => .inr rfl
  | i :: r, j :: s, h => by
    rw [lessRow, lessRow]
    simp only [Bool.or_eq_true, Bool.and_eq_true, decide_eq_true_eq, beq_iff_eq]
    rcases Nat.lt_trichotomy i j with a | rfl | a
    · exact .inl (.inl a)
    · rcases lessRow_total r s fun e => h (by rw [e]) with b | b
      · exact .inl (.inr ⟨rfl, b⟩)
      · exact .inr (.inr ⟨rfl, b⟩)
    · exact .inr (.inl a)
theorem better_iff (x : Box) (film : Nat) (s t : Stack) : better x film s t = true ↔ s.length < t.length ∨ (s.length = t.length ∧ (doubt x film s < doubt x film t ∨ (doubt x film s = doubt x film t ∧ lessRow s t = true))) := by
  unfold better
  simp only [Bool.or_eq_true, Bool.and_eq_true, decide_eq_true_eq, beq_iff_eq]
theorem better_asymm {x : Box} {film : Nat} {s t : Stack} (h : better x film s t = true) : better x film t s = false := by
  cases e : better x film t s with
  | false => rfl
  | true =>
    rw [better_iff] at h e
    rcases h with h | ⟨h1, h | ⟨h2, h⟩⟩
    · (first | lia | omega)
    · rcases e with e | ⟨_, e | ⟨_, e⟩⟩ <;> (first | lia | omega)
    · rcases e with e | ⟨_, e | ⟨_, e⟩⟩
      · (first | lia | omega)
      · (first | lia | omega)
      · rw [lessRow_asymm s t h] at e
        cases e
theorem better_irrefl (x : Box) (film : Nat) (s : Stack) : better x film s s = false := by
  cases e : better x film s s with
  | false => rfl
  | true => exact e.symm.trans (better_asymm e)
theorem better_total {x : Box} {film : Nat} {s t : Stack} (h : s ≠ t) : better x film s t = true ∨ better x film t s = true := by
  rw [better_iff, better_iff]
  have := lessRow_total s t h
  rcases Nat.lt_trichotomy s.length t.length with a | a | a
  · exact .inl (.inl a)
  · rcases Int.lt_trichotomy (doubt x film s) (doubt x film t) with b | b | b
    · exact .inl (.inr ⟨a, .inl b⟩)
    · rcases this with c | c
      · exact .inl (.inr ⟨a, .inr ⟨b, c⟩⟩)
      · exact .inr (.inr ⟨a.symm, .inr ⟨b.symm, c⟩⟩)
    · exact .inr (.inr ⟨a.symm, .inl b⟩)
  · exact .inr (.inl a)
theorem best_def (x : Box) (film : Nat) (bar : List Nat) (z : Int) : FtBlocks.best x film bar z = ((stacks x bar).filter fun (s : Stack) => long x s == z).foldl (pick (better x film)) none := by
  unfold FtBlocks.best
  congr 1
  funext o c
  cases o <;> rfl
theorem best_eq {x : Box} {film : Nat} {bar : List Nat} {z : Int} {s : Stack} (hs : s ∈ stacks x bar) (hz : long x s = z) (h : ∀ t ∈ stacks x bar, long x t = z → t = s ∨ better x film s t = true) : FtBlocks.best x film bar z = some s := by
  rw [best_def]
  refine pick_eq (List.mem_filter.mpr ⟨hs, by simpa using hz⟩) (fun t m => ?_) (fun t m => ?_)
  · obtain ⟨m1, m2⟩ := List.mem_filter.mp m
    rcases h t m1 (by simpa using m2) with rfl | b
    · exact better_irrefl x film t
    · exact better_asymm b
  · obtain ⟨m1, m2⟩ := List.mem_filter.mp m
    exact h t m1 (by simpa using m2)
theorem best_none {x : Box} {film : Nat} {bar : List Nat} {z : Int} (h : ∀ t ∈ stacks x bar, long x t ≠ z) : FtBlocks.best x film bar z = none := by
  rw [best_def]
  refine pick_none fun t m => ?_
  obtain ⟨m1, m2⟩ := List.mem_filter.mp m
  exact h t m1 (by simpa using m2)

end GA

set_option linter.all false
namespace GA
open Ft

def Byts (l : List Int) : Prop := ∀ b ∈ l, 0 ≤ b ∧ b ≤ 255
theorem Byts.hd {b : Int} {l : List Int} (h : Byts (b :: l)) : 0 ≤ b ∧ b ≤ 255 := h b List.mem_cons_self
theorem Byts.tl {b : Int} {l : List Int} (h : Byts (b :: l)) : Byts l := fun c m => h c (List.mem_cons_of_mem _ m)
theorem Byts.drop {l : List Int} (h : Byts l) (k : Nat) : Byts (l.drop k) := fun c m => h c (List.mem_of_mem_drop m)
def cz (b : Int) : UInt8 := UInt8.ofNat b.toNat
theorem cz_nat {b : Int} (h : 0 ≤ b ∧ b ≤ 255) : (cz b).toNat = b.toNat := by
  unfold cz
  rw [UInt8.toNat_ofNat']
  (first | lia | omega)
theorem cz_eq {b : Int} (h : 0 ≤ b ∧ b ≤ 255) {c : UInt8} : cz b = c ↔ b = (c.toNat : Int) := by
  have e := cz_nat h
  constructor
  · intro q
    rw [q] at e
    (first | lia | omega)
  · intro q
    apply UInt8.toNat_inj.mp
    (first | lia | omega)
theorem text_map (t : List Int) : FitANeutral.text t = t.map cz := rfl

def isDig (b : Int) : Bool := decide (48 ≤ b) && decide (b ≤ 57)
def isSgn (b : Int) : Bool := decide (b = 43) || decide (b = 45)
def hd (l : List Int) : Int := l.headD (-1)
def digs : Nat → List Int → Nat
  | 0, _ => 0
  | _ + 1, [] => 0
  | m + 1, b :: l => if isDig b = true then digs m l + 1 else 0
def digVal (l : List Int) : Int := l.foldl (fun (v b : Int) => v * 10 + b - 48) 0
def wholeL (l : List Int) : Nat := digs (if hd l = 48 then 1 else 9) l
def decL (l : List Int) : Nat := if digs 4 l = 4 ∧ l.getD 3 0 = 48 then 3 else digs 4 l
def numL (l : List Int) : Nat × Option Int :=
  if wholeL l = 0 then (0, none)
  else if hd (l.drop (wholeL l)) ≠ 46 then (wholeL l, some (digVal (l.take (wholeL l)) * 10000))
  else if decL (l.drop (wholeL l + 1)) = 0 ∨ (l.drop (wholeL l + 1)).getD (decL (l.drop (wholeL l + 1)) - 1) 0 = 48 then (wholeL l + 1 + decL (l.drop (wholeL l + 1)), none)
  else (wholeL l + 1 + decL (l.drop (wholeL l + 1)), some (digVal (l.take (wholeL l)) * 10000 + digVal ((l.drop (wholeL l + 1)).take (decL (l.drop (wholeL l + 1)))) * 10 ^ (4 - decL (l.drop (wholeL l + 1)))))

def run : Num → List Int → Num × Nat
  | x, [] => (x, 0)
  | x, b :: l => match x.more (cz b) with
    | some y => ((run y l).1, (run y l).2 + 1)
    | none => (x, 0)
theorem run_some {x y : Num} {b : Int} {l : List Int} (h : x.more (cz b) = some y) : run x (b :: l) = ((run y l).1, (run y l).2 + 1) := by
  show (match x.more (cz b) with | some y => ((run y l).1, (run y l).2 + 1) | none => (x, 0)) = _
  rw [h]
theorem run_none {x : Num} {b : Int} {l : List Int} (h : x.more (cz b) = none) : run x (b :: l) = (x, 0) := by
  show (match x.more (cz b) with | some y => ((run y l).1, (run y l).2 + 1) | none => (x, 0)) = _
  rw [h]

theorem more_dig {x : Num} {b : Int} (h : 0 ≤ b ∧ b ≤ 255) (hd : isDig b = true) (hp : x.point = false) :
    x.more (cz b) = if (x.digits = 1 ∧ x.val = 0) ∨ 9 ≤ x.digits then none else some { x with digits := x.digits + 1, val := 10 * x.val + (b.toNat - 48) } := by
  unfold Num.more
  rw [cz_nat h]
  simp only [isDig, Bool.and_eq_true, decide_eq_true_eq] at hd
  rw [if_pos (by (first | lia | omega))]
  dsimp only
  rw [if_pos hp]
theorem more_dec {x : Num} {b : Int} (h : 0 ≤ b ∧ b ≤ 255) (hd : isDig b = true) (hp : x.point = true) :
    x.more (cz b) = if 4 ≤ x.behind ∨ (x.behind = 3 ∧ b = 48) then none else some { x with behind := x.behind + 1, last := b.toNat - 48, val := 10 * x.val + (b.toNat - 48) } := by
  unfold Num.more
  rw [cz_nat h]
  simp only [isDig, Bool.and_eq_true, decide_eq_true_eq] at hd
  rw [if_pos (by (first | lia | omega))]
  dsimp only
  rw [if_neg (by rw [hp]; exact Bool.noConfusion)]
  have e : (b.toNat - 48 = 0) ↔ b = 48 := by (first | lia | omega)
  simp only [e]
theorem more_oth {x : Num} {b : Int} (h : 0 ≤ b ∧ b ≤ 255) (hd : isDig b = false) :
    x.more (cz b) = if b = 46 ∧ x.point = false ∧ 1 ≤ x.digits then some { x with point := true } else none := by
  unfold Num.more
  rw [cz_nat h]
  have hd' : ¬ (48 ≤ b.toNat ∧ b.toNat ≤ 57) := by
    intro q
    have : isDig b = true := by
      simp only [isDig, Bool.and_eq_true, decide_eq_true_eq]
      (first | lia | omega)
    rw [this] at hd
    cases hd
  rw [if_neg hd']
  have e : cz b = 46 ↔ b = 46 := cz_eq h
  simp only [e]

def dv (v : Nat) (l : List Int) : Nat := l.foldl (fun (v : Nat) (b : Int) => 10 * v + (b.toNat - 48)) v
theorem dv_split (l : List Int) : ∀ v : Nat, dv v l = v * 10 ^ l.length + dv 0 l := by
  induction l with
  | nil =>
    intro v
    simp [dv]
  | cons b l ih =>
    intro v
    have e1 : dv v (b :: l) = dv (10 * v + (b.toNat - 48)) l := rfl
    have e2 : dv 0 (b :: l) = dv (10 * 0 + (b.toNat - 48)) l := rfl
    rw [e1, e2, ih, ih (10 * 0 + _), List.length_cons, Nat.pow_succ]
    rw [Nat.add_mul]
    have : 10 * v * 10 ^ l.length = v * (10 ^ l.length * 10) := by
      rw [Nat.mul_comm 10 v, Nat.mul_assoc, Nat.mul_comm 10]
    rw [this]
    simp
    (first | lia | omega)
theorem dv_int (l : List Int) (h : ∀ b ∈ l, isDig b = true) : ∀ v : Nat, (dv v l : Int) = l.foldl (fun (v b : Int) => v * 10 + b - 48) v := by
  induction l with
  | nil =>
    intro v
    rfl
  | cons b l ih =>
    intro v
    have hb := h b List.mem_cons_self
    simp only [isDig, Bool.and_eq_true, decide_eq_true_eq] at hb
    have e1 : dv v (b :: l) = dv (10 * v + (b.toNat - 48)) l := rfl
    rw [e1, ih fun c m => h c (List.mem_cons_of_mem _ m)]
    rw [List.foldl_cons]
    congr 1
    (first | lia | omega)
theorem digVal_dv (l : List Int) (h : ∀ b ∈ l, isDig b = true) : digVal l = (dv 0 l : Int) := (dv_int l h 0).symm

theorem digs_le : ∀ (m : Nat) (l : List Int), digs m l ≤ m ∧ digs m l ≤ l.length
  | 0, _ => ⟨Nat.le_refl _, Nat.zero_le _⟩
  | _ + 1, [] => ⟨Nat.zero_le _, Nat.zero_le _⟩
  | m + 1, b :: l => by
    unfold digs
    have := digs_le m l
    split
    · rw [List.length_cons]
      (first | lia | omega)
    · exact ⟨Nat.zero_le _, Nat.zero_le _⟩
theorem digs_all : ∀ (m : Nat) (l : List Int), ∀ b ∈ l.take (digs m l), isDig b = true
  | 0, l => fun b h => by simp [digs] at h
  | _ + 1, [] => fun b h => by simp [digs] at h
  | m + 1, c :: l => fun b h => by
    unfold digs at h
    split at h
    · rename_i hc
      rw [List.take_succ_cons] at h
      rcases List.mem_cons.mp h with rfl | h'
      · exact hc
      · exact digs_all m l b h'
    · simp at h
theorem digs_end : ∀ (m : Nat) (l : List Int), digs m l = m ∨ isDig (GA.hd (l.drop (digs m l))) = false
  | 0, _ => .inl rfl
  | _ + 1, [] => .inr rfl
  | m + 1, c :: l => by
    unfold digs
    split
    · rcases digs_end m l with h | h
      · left
        (first | lia | omega)
      · right
        exact h
    · rename_i hc
      right
      show isDig c = false
      cases h : isDig c
      · rfl
      · exact absurd h hc

theorem run_whole {s : Nat} : ∀ (m : Nat) (l : List Int) (k v : Nat), Byts l → k + m = 9 → 1 ≤ v →
    run ⟨s, k, false, 0, 0, v⟩ l = ((run ⟨s, k + digs m l, false, 0, 0, dv v (l.take (digs m l))⟩ (l.drop (digs m l))).1, (run ⟨s, k + digs m l, false, 0, 0, dv v (l.take (digs m l))⟩ (l.drop (digs m l))).2 + digs m l)
  | 0, l, k, v, _, _, _ => by simp [digs, dv]
  | _ + 1, [], k, v, _, _, _ => by simp [digs, dv]
  | m + 1, b :: l, k, v, hb, hk, hv => by
    unfold digs
    by_cases h : isDig b = true
    · rw [if_pos h]
      have e := more_dig (x := ⟨s, k, false, 0, 0, v⟩) hb.hd h rfl
      rw [if_neg (by dsimp only; (first | lia | omega))] at e
      rw [run_some e]
      dsimp only
      rw [run_whole m l (k + 1) (10 * v + (b.toNat - 48)) hb.tl (by (first | lia | omega)) (by (first | lia | omega))]
      rw [List.take_succ_cons, List.drop_succ_cons]
      have e1 : dv v (b :: l.take (digs m l)) = dv (10 * v + (b.toNat - 48)) (l.take (digs m l)) := rfl
      rw [e1]
      have e2 : k + 1 + digs m l = k + (digs m l + 1) := by (first | lia | omega)
      rw [e2, Nat.add_assoc]
    · rw [if_neg h]
      simp [dv]
def decF (i : Nat) : List Int → Nat
  | [] => 0
  | b :: l => if isDig b = true then (if 4 ≤ i ∨ (i = 3 ∧ b = 48) then 0 else decF (i + 1) l + 1) else 0
def lastD (z : Nat) : List Int → Nat
  | [] => z
  | b :: l => lastD (b.toNat - 48) l
theorem run_dec {s d : Nat} (l : List Int) : ∀ (i z v : Nat), Byts l →
    run ⟨s, d, true, i, z, v⟩ l = (⟨s, d, true, i + decF i l, lastD z (l.take (decF i l)), dv v (l.take (decF i l))⟩, decF i l) := by
  induction l with
  | nil =>
    intro i z v _
    rfl
  | cons b l ih =>
    intro i z v hb
    by_cases h : isDig b = true
    · have e := more_dec (x := ⟨s, d, true, i, z, v⟩) hb.hd h rfl
      dsimp only at e
      by_cases h2 : 4 ≤ i ∨ (i = 3 ∧ b = 48)
      · have e3 : decF i (b :: l) = 0 := by
          unfold decF
          rw [if_pos h, if_pos h2]
        rw [if_pos h2] at e
        rw [run_none e, e3]
        rfl
      · have e3 : decF i (b :: l) = decF (i + 1) l + 1 := by
          conv => lhs; unfold decF
          rw [if_pos h, if_neg h2]
        rw [if_neg h2] at e
        have e4 : run ⟨s, d, true, i, z, v⟩ (b :: l) = ((run ⟨s, d, true, i + 1, b.toNat - 48, 10 * v + (b.toNat - 48)⟩ l).1, (run ⟨s, d, true, i + 1, b.toNat - 48, 10 * v + (b.toNat - 48)⟩ l).2 + 1) := run_some e
        have e5 := ih (i + 1) (b.toNat - 48) (10 * v + (b.toNat - 48)) hb.tl
        rw [e4, e5, e3, List.take_succ_cons]
        have e2 : i + 1 + decF (i + 1) l = i + (decF (i + 1) l + 1) := by (first | lia | omega)
        have e6 : lastD z (b :: l.take (decF (i + 1) l)) = lastD (b.toNat - 48) (l.take (decF (i + 1) l)) := rfl
        have e7 : dv v (b :: l.take (decF (i + 1) l)) = dv (10 * v + (b.toNat - 48)) (l.take (decF (i + 1) l)) := rfl
        rw [e6, e7, ← e2]
    · have e3 : decF i (b :: l) = 0 := by
        unfold decF
        rw [if_neg h]
      have e := more_oth (x := ⟨s, d, true, i, z, v⟩) hb.hd (by simpa using h)
      rw [if_neg (by dsimp only; intro q; exact absurd q.2.1 Bool.noConfusion)] at e
      rw [run_none e, e3]
      rfl
theorem decF_eq (l : List Int) : decF 0 l = decL l := by
  unfold decL
  match l with
  | [] => rfl
  | [a] =>
    cases ha : isDig a <;> simp [decF, digs, ha]
  | [a, b] =>
    cases ha : isDig a <;> cases hb : isDig b <;> simp [decF, digs, ha, hb]
  | [a, b, c] =>
    cases ha : isDig a <;> cases hb : isDig b <;> cases hc : isDig c <;> simp [decF, digs, ha, hb, hc]
  | a :: b :: c :: d :: r =>
    have q : ∀ l, decF 4 l = 0 := fun l => by cases l <;> simp [decF]
    cases ha : isDig a <;> cases hb : isDig b <;> cases hc : isDig c <;> cases hd : isDig d <;> simp [decF, digs, ha, hb, hc, hd, q]
    split <;> simp_all
theorem lastD_get (l : List Int) : ∀ (z k : Nat), k ≤ l.length → k ≠ 0 → lastD z (l.take k) = (l.getD (k - 1) 0).toNat - 48 := by
  induction l with
  | nil =>
    intro z k h h0
    simp only [List.length_nil] at h
    (first | lia | omega)
  | cons b l ih =>
    intro z k h h0
    cases k with
    | zero => exact absurd rfl h0
    | succ k =>
      rw [List.take_succ_cons]
      have e : lastD z (b :: l.take k) = lastD (b.toNat - 48) (l.take k) := rfl
      rw [e]
      cases k with
      | zero => rfl
      | succ k =>
        rw [ih _ (k + 1) (by simp only [List.length_cons] at h; (first | lia | omega)) (by (first | lia | omega))]
        rfl
theorem decL_le (l : List Int) : decL l ≤ 4 ∧ decL l ≤ digs 4 l := by
  unfold decL
  have := digs_le 4 l
  split <;> (first | lia | omega)
theorem decL_all (l : List Int) : ∀ b ∈ l.take (decL l), isDig b = true := fun b h => by
  refine digs_all 4 l b ?_
  have := (decL_le l).2
  have e : l.take (decL l) = (l.take (digs 4 l)).take (decL l) := by rw [List.take_take, Nat.min_eq_left this]
  rw [e] at h
  exact List.mem_of_mem_take h

structure NumIs (s : Nat) (l : List Int) (x : Num) : Prop where
  eat : run (.none_ s) l = (x, (numL l).1)
  at_ : x.at_ = s
  long : x.long = (numL l).1
  done : x.done = (numL l).2.isSome
  val : ∀ w, (numL l).2 = some w → w = (x.ticks : Int)
  zero : x.val = 0 ↔ x.ticks = 0
  le : x.ticks < 10000000000000
theorem zero_of (x : Num) : x.val = 0 ↔ x.ticks = 0 := by
  unfold Num.ticks
  have : 0 < 10 ^ (4 - x.behind) := Nat.pow_pos (by decide)
  constructor
  · intro h
    rw [h, Nat.zero_mul]
  · intro h
    rcases Nat.mul_eq_zero.mp h with h | h
    · exact h
    · (first | lia | omega)
theorem dv_lt (l : List Int) (h : ∀ b ∈ l, isDig b = true) : dv 0 l < 10 ^ l.length := by
  have key : ∀ (l : List Int) (v : Nat), (∀ b ∈ l, isDig b = true) → dv v l < (v + 1) * 10 ^ l.length := by
    intro l
    induction l with
    | nil =>
      intro v _
      simp [dv]
    | cons b l ih =>
      intro v h
      have e1 : dv v (b :: l) = dv (10 * v + (b.toNat - 48)) l := rfl
      have hb := h b List.mem_cons_self
      simp only [isDig, Bool.and_eq_true, decide_eq_true_eq] at hb
      have i := ih (10 * v + (b.toNat - 48)) fun c m => h c (List.mem_cons_of_mem _ m)
      rw [e1, List.length_cons, Nat.pow_succ]
      have hm : (10 * v + (b.toNat - 48) + 1) * 10 ^ l.length ≤ (v + 1) * 10 * 10 ^ l.length := Nat.mul_le_mul_right _ (by (first | lia | omega))
      have e : (v + 1) * (10 ^ l.length * 10) = (v + 1) * 10 * 10 ^ l.length := by rw [Nat.mul_assoc, Nat.mul_comm 10]
      (first | lia | omega)
  have := key l 0 h
  simpa using this
theorem hd_cons (b : Int) (l : List Int) : GA.hd (b :: l) = b := rfl
theorem hd_nil : GA.hd [] = -1 := rfl
theorem run_head {s : Nat} {l : List Int} (hb : Byts l) (h : isDig (GA.hd l) = true) : 1 ≤ wholeL l ∧ wholeL l ≤ 9 ∧ wholeL l ≤ l.length ∧ (∀ b ∈ l.take (wholeL l), isDig b = true) ∧
    run (.none_ s) l = ((run ⟨s, wholeL l, false, 0, 0, dv 0 (l.take (wholeL l))⟩ (l.drop (wholeL l))).1, (run ⟨s, wholeL l, false, 0, 0, dv 0 (l.take (wholeL l))⟩ (l.drop (wholeL l))).2 + wholeL l) ∧
    (isDig (GA.hd (l.drop (wholeL l))) = false ∨ (wholeL l = 1 ∧ dv 0 (l.take (wholeL l)) = 0) ∨ 9 ≤ wholeL l) := by
  cases l with
  | nil => exact absurd h (by decide)
  | cons b r =>
    rw [hd_cons] at h
    have e := more_dig (x := .none_ s) hb.hd h rfl
    rw [if_neg (by show ¬ ((0 = 1 ∧ 0 = 0) ∨ 9 ≤ 0); (first | lia | omega))] at e
    have e2 : run (.none_ s) (b :: r) = ((run ⟨s, 1, false, 0, 0, b.toNat - 48⟩ r).1, (run ⟨s, 1, false, 0, 0, b.toNat - 48⟩ r).2 + 1) := run_some (by rw [e]; simp [Num.none_])
    by_cases hz : b = 48
    · subst hz
      have ew : wholeL (48 :: r) = 1 := by
        unfold wholeL
        rw [hd_cons, if_pos rfl]
        unfold digs
        rw [if_pos h]
        simp [digs]
      rw [ew]
      refine ⟨Nat.le_refl _, by (first | lia | omega), by simp, ?_, ?_, .inr (.inl ⟨rfl, rfl⟩)⟩
      · intro c m
        simp at m
        rw [m]
        exact h
      · rw [e2]
        rfl
    · have ew : wholeL (b :: r) = digs 8 r + 1 := by
        unfold wholeL
        rw [hd_cons, if_neg hz]
        conv => lhs; unfold digs
        rw [if_pos h]
      have hb2 : 48 ≤ b ∧ b ≤ 57 := by simpa [isDig] using h
      have q := run_whole (s := s) 8 r 1 (b.toNat - 48) hb.tl rfl (by (first | lia | omega))
      have ed := digs_le 8 r
      rw [ew]
      refine ⟨by (first | lia | omega), by (first | lia | omega), by rw [List.length_cons]; (first | lia | omega), ?_, ?_, ?_⟩
      · intro c m
        rw [List.take_succ_cons] at m
        rcases List.mem_cons.mp m with rfl | m
        · exact h
        · exact digs_all 8 r c m
      · rw [e2, q, List.take_succ_cons, List.drop_succ_cons]
        have e7 : dv 0 (b :: r.take (digs 8 r)) = dv (b.toNat - 48) (r.take (digs 8 r)) := by
          show dv (10 * 0 + (b.toNat - 48)) _ = _
          rw [Nat.mul_zero, Nat.zero_add]
        rw [e7, Nat.add_comm 1 (digs 8 r), Nat.add_assoc]
      · rw [List.drop_succ_cons]
        rcases digs_end 8 r with z | z
        · exact .inr (.inr (by (first | lia | omega)))
        · exact .inl z
theorem run_stuck {s k v : Nat} {l : List Int} (hb : Byts l) (k1 : 1 ≤ k) (h : isDig (GA.hd l) = false ∨ (k = 1 ∧ v = 0) ∨ 9 ≤ k) :
    run ⟨s, k, false, 0, 0, v⟩ l = if GA.hd l = 46 then ((run ⟨s, k, true, 0, 0, v⟩ (l.drop 1)).1, (run ⟨s, k, true, 0, 0, v⟩ (l.drop 1)).2 + 1) else (⟨s, k, false, 0, 0, v⟩, 0) := by
  cases l with
  | nil => rfl
  | cons b r =>
    rw [hd_cons] at h ⊢
    cases hd : isDig b with
    | true =>
      have e := more_dig (x := ⟨s, k, false, 0, 0, v⟩) hb.hd hd rfl
      dsimp only at e
      rw [hd] at h
      rw [if_pos (h.resolve_left Bool.noConfusion)] at e
      have : b ≠ 46 := by
        have hb2 : 48 ≤ b ∧ b ≤ 57 := by simpa [isDig] using hd
        (first | lia | omega)
      rw [run_none e, if_neg this]
    | false =>
      have e := more_oth (x := ⟨s, k, false, 0, 0, v⟩) hb.hd hd
      dsimp only at e
      by_cases hp : b = 46
      · rw [if_pos ⟨hp, rfl, k1⟩] at e
        rw [run_some e, if_pos hp]
        rfl
      · rw [if_neg (fun z => hp z.1)] at e
        rw [run_none e, if_neg hp]
theorem numL_none {l : List Int} (h : isDig (GA.hd l) = false) : numL l = (0, none) := by
  have e : wholeL l = 0 := by
    unfold wholeL
    cases l with
    | nil =>
      split <;> rfl
    | cons b r =>
      rw [hd_cons] at h ⊢
      have : ∀ m, digs m (b :: r) = 0 := fun m => by
        cases m with
        | zero => rfl
        | succ m =>
          unfold digs
          rw [if_neg (by rw [h]; exact Bool.noConfusion)]
      exact this _
  unfold numL
  rw [if_pos e]
theorem pow4 {j : Nat} (h : j ≤ 4) (w d : Nat) : (w * 10 ^ j + d) * 10 ^ (4 - j) = w * 10000 + d * 10 ^ (4 - j) := by
  rw [Nat.add_mul, Nat.mul_assoc, ← Nat.pow_add, Nat.add_sub_of_le h]
theorem num_is (s : Nat) {l : List Int} (hb : Byts l) : ∃ x, NumIs s l x := by
  cases hd : isDig (GA.hd l) with
  | false =>
    have en := numL_none hd
    refine ⟨.none_ s, ?_, rfl, by rw [en]; rfl, by rw [en]; rfl, fun w e => (by rw [en] at e; cases e), zero_of _, (by show 0 * _ < _; rw [Nat.zero_mul]; decide)⟩
    rw [en]
    cases l with
    | nil => rfl
    | cons b r =>
      have e := more_oth (x := .none_ s) hb.hd hd
      rw [if_neg (fun z => absurd z.2.2 (by show ¬ 1 ≤ 0; (first | lia | omega)))] at e
      exact run_none e
  | true =>
    obtain ⟨w1, w9, wl, wa, er, st⟩ := run_head (s := s) hb hd
    have es := run_stuck (s := s) (hb.drop (wholeL l)) w1 st
    have wlt := dv_lt _ wa
    have wz := digVal_dv _ wa
    have lw : (l.take (wholeL l)).length = wholeL l := by rw [List.length_take]; (first | lia | omega)
    rw [lw] at wlt
    have wlt9 : dv 0 (l.take (wholeL l)) < 10 ^ 9 := Nat.lt_of_lt_of_le wlt (Nat.pow_le_pow_right (by decide) w9)
    have w0 : ¬ wholeL l = 0 := by (first | lia | omega)
    rw [es] at er
    by_cases hp : GA.hd (l.drop (wholeL l)) = 46
    · rw [if_pos hp] at er
      rw [List.drop_drop, run_dec _ _ _ _ (hb.drop _), decF_eq] at er
      have jl := decL_le (l.drop (wholeL l + 1))
      have ja := decL_all (l.drop (wholeL l + 1))
      have jd := digs_le 4 (l.drop (wholeL l + 1))
      have jlt := dv_lt _ ja
      have jz := digVal_dv _ ja
      have el : ∀ z, decL (l.drop (wholeL l + 1)) ≠ 0 → lastD z ((l.drop (wholeL l + 1)).take (decL (l.drop (wholeL l + 1)))) = ((l.drop (wholeL l + 1)).getD (decL (l.drop (wholeL l + 1)) - 1) 0).toNat - 48 := fun z h => lastD_get _ z _ (by (first | lia | omega)) h
      have lastdig : decL (l.drop (wholeL l + 1)) ≠ 0 → isDig ((l.drop (wholeL l + 1)).getD (decL (l.drop (wholeL l + 1)) - 1) 0) = true := fun h => by
        refine ja _ ?_
        have hlt : decL (l.drop (wholeL l + 1)) - 1 < (l.drop (wholeL l + 1)).length := by (first | lia | omega)
        rw [List.getD_eq_getElem?_getD, List.getElem?_eq_getElem hlt, Option.getD_some]
        refine List.mem_take_iff_getElem.mpr ⟨decL (l.drop (wholeL l + 1)) - 1, by (first | lia | omega), rfl⟩
      have lj : ((l.drop (wholeL l + 1)).take (decL (l.drop (wholeL l + 1)))).length = decL (l.drop (wholeL l + 1)) := by rw [List.length_take]; (first | lia | omega)
      have en : numL l = if decL (l.drop (wholeL l + 1)) = 0 ∨ (l.drop (wholeL l + 1)).getD (decL (l.drop (wholeL l + 1)) - 1) 0 = 48 then (wholeL l + 1 + decL (l.drop (wholeL l + 1)), none)
          else (wholeL l + 1 + decL (l.drop (wholeL l + 1)), some (digVal (l.take (wholeL l)) * 10000 + digVal ((l.drop (wholeL l + 1)).take (decL (l.drop (wholeL l + 1)))) * 10 ^ (4 - decL (l.drop (wholeL l + 1))))) := by
        unfold numL
        rw [if_neg w0, if_neg (by rw [hp]; simp)]
      have e1 : (numL l).1 = wholeL l + 1 + decL (l.drop (wholeL l + 1)) := by
        rw [en]
        split <;> rfl
      rw [Nat.zero_add, dv_split ((l.drop (wholeL l + 1)).take (decL (l.drop (wholeL l + 1)))) (dv 0 (l.take (wholeL l))), lj] at er
      rw [lj] at jlt
      have tk : (dv 0 (l.take (wholeL l)) * 10 ^ decL (l.drop (wholeL l + 1)) + dv 0 ((l.drop (wholeL l + 1)).take (decL (l.drop (wholeL l + 1))))) * 10 ^ (4 - decL (l.drop (wholeL l + 1))) = dv 0 (l.take (wholeL l)) * 10000 + dv 0 ((l.drop (wholeL l + 1)).take (decL (l.drop (wholeL l + 1)))) * 10 ^ (4 - decL (l.drop (wholeL l + 1))) := pow4 jl.1 _ _
      have tl : dv 0 ((l.drop (wholeL l + 1)).take (decL (l.drop (wholeL l + 1)))) * 10 ^ (4 - decL (l.drop (wholeL l + 1))) < 10 ^ 4 := by
        have := Nat.mul_lt_mul_of_pos_right jlt (Nat.pow_pos (n := 4 - decL (l.drop (wholeL l + 1))) (show 0 < 10 by decide))
        rw [← Nat.pow_add, Nat.add_sub_of_le jl.1] at this
        exact this
      have er' : run (.none_ s) l = (⟨s, wholeL l, true, decL (l.drop (wholeL l + 1)), lastD 0 ((l.drop (wholeL l + 1)).take (decL (l.drop (wholeL l + 1)))), dv 0 (l.take (wholeL l)) * 10 ^ decL (l.drop (wholeL l + 1)) + dv 0 ((l.drop (wholeL l + 1)).take (decL (l.drop (wholeL l + 1))))⟩, (numL l).1) := er.trans (by rw [e1]; dsimp only; congr 1; (first | lia | omega))
      refine ⟨_, er', rfl, ?_, ?_, fun w e => ?_, zero_of _, ?_⟩
      · rw [e1]
        show wholeL l + (if true = true then 1 + decL (l.drop (wholeL l + 1)) else 0) = _
        rw [if_pos rfl]
        (first | lia | omega)
      · rw [en]
        show (decide (1 ≤ wholeL l) && (!true || (decide (1 ≤ decL (l.drop (wholeL l + 1))) && lastD 0 ((l.drop (wholeL l + 1)).take (decL (l.drop (wholeL l + 1)))) != 0))) = _
        rw [decide_eq_true w1]
        by_cases hj : decL (l.drop (wholeL l + 1)) = 0
        · rw [if_pos (.inl hj), decide_eq_false (show ¬ 1 ≤ decL (l.drop (wholeL l + 1)) by (first | lia | omega))]
          rfl
        · rw [el 0 hj, decide_eq_true (show 1 ≤ decL (l.drop (wholeL l + 1)) by (first | lia | omega))]
          have ld := lastdig hj
          generalize (l.drop (wholeL l + 1)).getD (decL (l.drop (wholeL l + 1)) - 1) 0 = c at ld ⊢
          have hc : 48 ≤ c ∧ c ≤ 57 := by simpa [isDig] using ld
          by_cases hc2 : c = 48
          · rw [if_pos (.inr hc2), hc2]
            rfl
          · rw [if_neg (fun z => z.elim hj hc2)]
            have : c.toNat - 48 ≠ 0 := by (first | lia | omega)
            simp [this]
      · rw [en] at e
        split at e
        · cases e
        · cases e
          rw [wz, jz]
          show _ = (((dv 0 (l.take (wholeL l)) * 10 ^ decL (l.drop (wholeL l + 1)) + dv 0 ((l.drop (wholeL l + 1)).take (decL (l.drop (wholeL l + 1))))) * 10 ^ (4 - decL (l.drop (wholeL l + 1))) : Nat) : Int)
          rw [tk, Int.natCast_add, Int.natCast_mul, Int.natCast_mul, Int.natCast_pow]
          rfl
      · show (dv 0 (l.take (wholeL l)) * 10 ^ decL (l.drop (wholeL l + 1)) + dv 0 ((l.drop (wholeL l + 1)).take (decL (l.drop (wholeL l + 1))))) * 10 ^ (4 - decL (l.drop (wholeL l + 1))) < _
        rw [tk]
        (first | lia | omega)
    · rw [if_neg hp] at er
      have en : numL l = (wholeL l, some (digVal (l.take (wholeL l)) * 10000)) := by
        unfold numL
        rw [if_neg w0, if_pos hp]
      have er' : run (.none_ s) l = (⟨s, wholeL l, false, 0, 0, dv 0 (l.take (wholeL l))⟩, (numL l).1) := er.trans (by rw [en]; simp)
      refine ⟨_, er', rfl, ?_, ?_, fun w e => ?_, zero_of _, ?_⟩
      · rw [en]
        rfl
      · rw [en]
        show (decide (1 ≤ wholeL l) && (!false || _)) = _
        rw [decide_eq_true w1]
        rfl
      · rw [en] at e
        cases e
        rw [wz]
        show _ = ((dv 0 (l.take (wholeL l)) * 10 ^ (4 - 0) : Nat) : Int)
        rw [Int.natCast_mul]
        rfl
      · show dv 0 (l.take (wholeL l)) * 10 ^ (4 - 0) < _
        (first | lia | omega)
end GA

set_option linter.all false
namespace GA
open Ft

theorem run_le (l : List Int) : ∀ x : Num, (run x l).2 ≤ l.length := by
  induction l with
  | nil => exact fun x => Nat.le_refl _
  | cons b l ih =>
    intro x
    cases h : x.more (cz b) with
    | none =>
      rw [run_none h]
      exact Nat.zero_le _
    | some y =>
      rw [run_some h, List.length_cons]
      exact Nat.succ_le_succ (ih y)
theorem NumIs.le_len {s : Nat} {l : List Int} {x : Num} (h : NumIs s l x) : (numL l).1 ≤ l.length := by
  have := run_le l (.none_ s)
  rw [h.eat] at this
  exact this
theorem more_32 (x : Num) : x.more (cz 32) = none := by
  rw [more_oth (by (first | lia | omega)) (by decide), if_neg (by (first | lia | omega))]
def afterFirst (p : Nat) (x : Num) : List Int → Except Nat Read
  | [] => if x.done = true then .ok (.first x) else .error p
  | b :: r => if b = 32 ∧ x.done = true then readFrom (p + 1) (.behind x) (r.map cz) else .error p
def afterDev (p : Nat) (x : Num) (below : Bool) (y : Num) : List Int → Except Nat Read
  | [] => .error p
  | b :: r => if b = 32 ∧ Dev.done ⟨below, y⟩ = true then readFrom (p + 1) (.then_ x ⟨below, y⟩) (r.map cz) else .error p
def afterWays (p : Nat) (x y : Num) : List Int → Except Nat Read
  | [] => if y.done = true then .ok (.ways x y) else .error p
  | _ :: _ => .error p
def afterDevs (p : Nat) (x : Num) (d : Dev) (below : Bool) (y : Num) : List Int → Except Nat Read
  | [] => if Dev.done ⟨below, y⟩ = true then .ok (.devs x d ⟨below, y⟩) else .error p
  | _ :: _ => .error p
theorem readFrom_cons {p : Nat} {r : Read} {c : UInt8} {t : Bytes} : readFrom p r (c :: t) = match r.more p c with
    | some s => readFrom (p + 1) s t
    | none => .error p := rfl
theorem read_first (l : List Int) : ∀ (p : Nat) (x : Num), Byts l → readFrom p (.first x) (l.map cz) = afterFirst (p + (run x l).2) (run x l).1 (l.drop (run x l).2) := by
  induction l with
  | nil => exact fun p x _ => rfl
  | cons b l ih =>
    intro p x hb
    rw [List.map_cons, readFrom_cons]
    have e32 : cz b = 32 ↔ b = 32 := cz_eq hb.hd
    by_cases h : b = 32
    · have en : x.more (cz b) = none := by rw [h]; exact more_32 x
      rw [run_none en]
      show (match (if cz b = 32 then (if x.done = true then some (Read.behind x) else none) else _) with | some s => _ | none => _) = (if b = 32 ∧ x.done = true then readFrom (p + 0 + 1) (.behind x) (l.map cz) else .error (p + 0))
      rw [if_pos (e32.mpr h)]
      by_cases hd : x.done = true
      · rw [if_pos hd, if_pos ⟨h, hd⟩]
        all_goals rfl
      · rw [if_neg hd, if_neg (fun z => hd z.2)]
        rfl
    · show (match (if cz b = 32 then _ else (x.more (cz b)).map Read.first) with | some s => _ | none => _) = _
      rw [if_neg (fun z => h (e32.mp z))]
      cases hm : x.more (cz b) with
      | none =>
        rw [run_none hm]
        show Except.error p = (if b = 32 ∧ _ then _ else .error (p + 0))
        rw [if_neg (fun z => h z.1)]
        rfl
      | some y =>
        rw [run_some hm]
        show readFrom (p + 1) (.first y) (l.map cz) = _
        rw [ih (p + 1) y hb.tl, List.drop_succ_cons]
        have : p + 1 + (run y l).2 = p + ((run y l).2 + 1) := by (first | lia | omega)
        rw [this]
theorem read_dev (x : Num) (below : Bool) (l : List Int) : ∀ (p : Nat) (y : Num), Byts l → readFrom p (.dev x ⟨below, y⟩) (l.map cz) = afterDev (p + (run y l).2) x below (run y l).1 (l.drop (run y l).2) := by
  induction l with
  | nil => exact fun p x _ => rfl
  | cons b l ih =>
    intro p y hb
    rw [List.map_cons, readFrom_cons]
    have e32 : cz b = 32 ↔ b = 32 := cz_eq hb.hd
    by_cases h : b = 32
    · have en : y.more (cz b) = none := by rw [h]; exact more_32 y
      rw [run_none en]
      show (match (if cz b = 32 then (if Dev.done ⟨below, y⟩ = true then some (Read.then_ x ⟨below, y⟩) else none) else _) with | some s => _ | none => _) = (if b = 32 ∧ Dev.done ⟨below, y⟩ = true then readFrom (p + 0 + 1) (.then_ x ⟨below, y⟩) (l.map cz) else .error (p + 0))
      rw [if_pos (e32.mpr h)]
      by_cases hd : Dev.done ⟨below, y⟩ = true
      · rw [if_pos hd, if_pos ⟨h, hd⟩]
        all_goals rfl
      · rw [if_neg hd, if_neg (fun z => hd z.2)]
        rfl
    · show (match (if cz b = 32 then _ else (y.more (cz b)).map fun (y : Num) => Read.dev x ⟨below, y⟩) with | some s => _ | none => _) = _
      rw [if_neg (fun z => h (e32.mp z))]
      cases hm : y.more (cz b) with
      | none =>
        rw [run_none hm]
        show Except.error p = (if b = 32 ∧ _ then _ else .error (p + 0))
        rw [if_neg (fun z => h z.1)]
        rfl
      | some z =>
        rw [run_some hm]
        show readFrom (p + 1) (.dev x ⟨below, z⟩) (l.map cz) = _
        rw [ih (p + 1) z hb.tl, List.drop_succ_cons]
        have : p + 1 + (run z l).2 = p + ((run z l).2 + 1) := by (first | lia | omega)
        rw [this]
theorem read_ways (x : Num) (l : List Int) : ∀ (p : Nat) (y : Num), readFrom p (.ways x y) (l.map cz) = afterWays (p + (run y l).2) x (run y l).1 (l.drop (run y l).2) := by
  induction l with
  | nil => exact fun p x => rfl
  | cons b l ih =>
    intro p y
    rw [List.map_cons, readFrom_cons]
    show (match ((y.more (cz b)).map (Read.ways x)) with | some s => _ | none => _) = _
    cases hm : y.more (cz b) with
    | none =>
      rw [run_none hm]
      rfl
    | some z =>
      rw [run_some hm]
      show readFrom (p + 1) (.ways x z) (l.map cz) = _
      rw [ih (p + 1) z, List.drop_succ_cons]
      have : p + 1 + (run z l).2 = p + ((run z l).2 + 1) := by (first | lia | omega)
      rw [this]
theorem read_devs (x : Num) (d : Dev) (below : Bool) (l : List Int) : ∀ (p : Nat) (y : Num), readFrom p (.devs x d ⟨below, y⟩) (l.map cz) = afterDevs (p + (run y l).2) x d below (run y l).1 (l.drop (run y l).2) := by
  induction l with
  | nil => exact fun p x => rfl
  | cons b l ih =>
    intro p y
    rw [List.map_cons, readFrom_cons]
    show (match ((y.more (cz b)).map fun (y : Num) => Read.devs x d ⟨below, y⟩) with | some s => _ | none => _) = _
    cases hm : y.more (cz b) with
    | none =>
      rw [run_none hm]
      rfl
    | some z =>
      rw [run_some hm]
      show readFrom (p + 1) (.devs x d ⟨below, z⟩) (l.map cz) = _
      rw [ih (p + 1) z, List.drop_succ_cons]
      have : p + 1 + (run z l).2 = p + ((run z l).2 + 1) := by (first | lia | omega)
      rw [this]
def gradeL (l : List Int) : Nat × Option Int :=
  if isDig (GA.hd l) = false then (0, none)
  else if GA.hd l = 49 ∧ 48 ≤ GA.hd (l.drop 1) ∧ GA.hd (l.drop 1) ≤ 54 then (2, some (10 + GA.hd (l.drop 1) - 48))
  else (1, some (GA.hd l - 48))
theorem dig_nat {b : Int} (h : 0 ≤ b ∧ b ≤ 255) : (48 ≤ (cz b).toNat ∧ (cz b).toNat ≤ 57) ↔ isDig b = true := by
  rw [cz_nat h]
  simp only [isDig, Bool.and_eq_true, decide_eq_true_eq]
  (first | lia | omega)
theorem code_more {x : Num} {c : Nat} {g : Option Nat} {p : Nat} {u : UInt8} : (Read.code x c g).more p u = if 48 ≤ u.toNat ∧ u.toNat ≤ 57 then (match g with
      | none => some (Read.code x c (some (u.toNat - 48)))
      | some k => if k = 1 ∧ u.toNat - 48 ≤ 6 then some (Read.code x c (some (10 + (u.toNat - 48)))) else none) else none := rfl
theorem code_more2 {x : Num} {c k p : Nat} {b : Int} (hb : 0 ≤ b ∧ b ≤ 255) : (Read.code x c (some k)).more p (cz b) = if k = 1 ∧ 48 ≤ b ∧ b ≤ 54 then some (.code x c (some (10 + (b.toNat - 48)))) else none := by
  rw [code_more, cz_nat hb]
  by_cases h : k = 1 ∧ 48 ≤ b ∧ b ≤ 54
  · rw [if_pos h, if_pos (by (first | lia | omega))]
    dsimp only
    rw [if_pos (by (first | lia | omega))]
  · rw [if_neg h]
    by_cases h2 : 48 ≤ b.toNat ∧ b.toNat ≤ 57
    · rw [if_pos h2]
      dsimp only
      rw [if_neg (by (first | lia | omega))]
    · rw [if_neg h2]
theorem read_code {x : Num} {c p : Nat} {l : List Int} (hb : Byts l) : readFrom p (.code x c none) (l.map cz) = match gradeL l with
    | (_, none) => .error p
    | (k, some v) => if k = l.length then .ok (.code x c (some v.toNat)) else .error (p + k) := by
  cases l with
  | nil => rfl
  | cons b l =>
    unfold gradeL
    rw [hd_cons, List.map_cons, readFrom_cons, code_more]
    by_cases h : isDig b = true
    · rw [if_pos ((dig_nat hb.hd).mpr h), if_neg (by rw [h]; exact Bool.noConfusion), cz_nat hb.hd]
      have hb2 : 48 ≤ b ∧ b ≤ 57 := by simpa [isDig] using h
      show readFrom (p + 1) (.code x c (some (b.toNat - 48))) (l.map cz) = _
      rw [List.drop_succ_cons, List.drop_zero]
      cases l with
      | nil =>
        rw [hd_nil, if_neg (by (first | lia | omega))]
        show _ = (if 1 = 1 then Except.ok (Read.code x c (some (b - 48).toNat)) else _)
        rw [if_pos rfl]
        have : (b - 48).toNat = b.toNat - 48 := by (first | lia | omega)
        rw [this]
        rfl
      | cons d l =>
        rw [hd_cons, List.map_cons, readFrom_cons, code_more2 hb.tl.hd]
        by_cases h2 : b = 49 ∧ 48 ≤ d ∧ d ≤ 54
        · rw [if_pos h2, if_pos (by (first | lia | omega))]
          dsimp only
          cases l with
          | nil =>
            show _ = (if 2 = 2 then Except.ok (Read.code x c (some (10 + d - 48).toNat)) else _)
            rw [if_pos rfl]
            have : (10 + d - 48).toNat = 10 + (d.toNat - 48) := by (first | lia | omega)
            rw [this]
            rfl
          | cons a l =>
            rw [List.map_cons, readFrom_cons, code_more2 hb.tl.tl.hd, if_neg (by (first | lia | omega)), if_neg (show ¬ 2 = (b :: d :: a :: l).length by simp)]
        · rw [if_neg h2, if_neg (by (first | lia | omega))]
          show _ = (if 1 = (b :: d :: l).length then _ else Except.error (p + 1))
          rw [if_neg (by simp)]
    · rw [if_neg (fun z => h ((dig_nat hb.hd).mp z)), if_pos (by simpa using h)]

def at_ (t : List Int) (p : Nat) : Int := GA.hd (t.drop p)
def numA (t : List Int) (s : Nat) : Nat × Option Int := (s + (numL (t.drop s)).1, (numL (t.drop s)).2)
def negO : Option Int → Option Int
  | some w => if w = 0 then none else some (-w)
  | none => none
def devA (t : List Int) (s : Nat) : Nat × Option Int := ((numA t (s + 1)).1, if at_ t s = 43 then (numA t (s + 1)).2 else negO (numA t (s + 1)).2)
def gradeA (t : List Int) (s : Nat) : Nat × Option Int := (s + (gradeL (t.drop s)).1, (gradeL (t.drop s)).2)
def endF (t : List Int) (f : Nat × Option Int) : Int := if f.2.isSome = true ∧ f.1 = t.length then -1 else (f.1 : Int)
def devsF (t : List Int) (s : Nat) : Int := if (devA t s).2 = none ∨ at_ t (devA t s).1 ≠ 32 then ((devA t s).1 : Int) else if isSgn (at_ t ((devA t s).1 + 1)) = false then (((devA t s).1 + 1 : Nat) : Int) else endF t (devA t ((devA t s).1 + 1))
def tailF (t : List Int) (s : Nat) : Int := if at_ t s = 43 ∧ at_ t (s + 1) = 45 then endF t (numA t (s + 2)) else if isSgn (at_ t s) = true then devsF t s else if isLetter (at_ t s) = true then endF t (gradeA t (s + 1)) else (s : Int)
def shapeF (t : List Int) : Int := if (numA t 0).2.isSome = true ∧ at_ t (numA t 0).1 = 32 then tailF t ((numA t 0).1 + 1) else endF t (numA t 0)
theorem at_out {t : List Int} {p : Nat} (h : t.length ≤ p) : t.drop p = [] ∧ at_ t p = -1 := by
  have e : t.drop p = [] := List.drop_eq_nil_of_le h
  exact ⟨e, by unfold at_; rw [e]; rfl⟩
theorem at_in {t : List Int} {p : Nat} (h : p < t.length) : t.drop p = at_ t p :: t.drop (p + 1) := by
  have e := List.drop_eq_getElem_cons h
  unfold at_
  rw [e, hd_cons]
theorem at_lt {t : List Int} {p : Nat} (h : at_ t p ≠ -1) : p < t.length := by
  rcases Nat.lt_or_ge p t.length with z | z
  · exact z
  · exact absurd (at_out z).2 h
theorem at_byt {t : List Int} (hb : Byts t) {p : Nat} (h : p < t.length) : 0 ≤ at_ t p ∧ at_ t p ≤ 255 := by
  have e := hb.drop p
  rw [at_in h] at e
  exact e.hd
theorem sgn_iff (b : Int) : isSgn b = true ↔ b = 43 ∨ b = 45 := by simp [isSgn]
theorem dev_is {t : List Int} {s : Nat} {y : Num} (hy : NumIs (s + 1) (t.drop (s + 1)) y) (hs : isSgn (at_ t s) = true) :
    Dev.done ⟨decide (at_ t s = 45), y⟩ = (devA t s).2.isSome ∧ ∀ w, (devA t s).2 = some w → w = Dev.ticks ⟨decide (at_ t s = 45), y⟩ ∧ (w ≠ 0 ∨ at_ t s = 43) := by
  have hd := hy.done
  have hv := hy.val
  have hz := hy.zero
  unfold devA numA
  dsimp only
  rcases (sgn_iff _).mp hs with h | h
  · rw [if_pos h, h]
    refine ⟨?_, fun w e => ⟨?_, .inr rfl⟩⟩
    · show (y.done && !(decide ((43 : Int) = 45) && y.val == 0)) = _
      rw [hd]
      simp
    · rw [hv w e]
      rfl
  · rw [if_neg (by (first | lia | omega)), h]
    cases ho : (numL (t.drop (s + 1))).2 with
    | none =>
      refine ⟨?_, fun w e => by cases e⟩
      show (y.done && _) = _
      rw [hd, ho]
      rfl
    | some v =>
      have ev := hv v ho
      by_cases h0 : v = 0
      · have : y.val = 0 := hz.mpr (by (first | lia | omega))
        refine ⟨?_, fun w e => ?_⟩
        · show (y.done && !(decide ((45 : Int) = 45) && y.val == 0)) = (if v = 0 then (none : Option Int) else _).isSome
          rw [if_pos h0, this]
          simp
        · rw [show negO (some v) = (if v = 0 then none else some (-v)) from rfl, if_pos h0] at e
          cases e
      · have : y.val ≠ 0 := fun z => h0 (by have := hz.mp z; (first | lia | omega))
        refine ⟨?_, fun w e => ?_⟩
        · show (y.done && !(decide ((45 : Int) = 45) && y.val == 0)) = (if v = 0 then (none : Option Int) else some (-v)).isSome
          rw [if_neg h0, hd, ho]
          simp [this]
        · rw [show negO (some v) = (if v = 0 then none else some (-v)) from rfl, if_neg h0] at e
          cases e
          refine ⟨?_, .inl (by (first | lia | omega))⟩
          show -v = -(y.ticks : Int)
          rw [ev]
theorem read_then {x : Num} {d : Dev} {t : List Int} {p : Nat} (hb : Byts t) : readFrom p (.then_ x d) ((t.drop p).map cz) = if isSgn (at_ t p) = false then .error p else readFrom (p + 1) (.devs x d ⟨decide (at_ t p = 45), .none_ (p + 1)⟩) ((t.drop (p + 1)).map cz) := by
  rcases Nat.lt_or_ge p t.length with h | h
  · have hp := at_byt hb h
    rw [at_in h, List.map_cons, readFrom_cons]
    have e1 : cz (at_ t p) = 43 ↔ at_ t p = 43 := cz_eq hp
    have e2 : cz (at_ t p) = 45 ↔ at_ t p = 45 := cz_eq hp
    generalize at_ t p = b at *
    show (match (if cz b = 43 then some (Read.devs x d ⟨false, .none_ (p + 1)⟩) else if cz b = 45 then some (Read.devs x d ⟨true, .none_ (p + 1)⟩) else none) with | some s => _ | none => _) = _
    by_cases h1 : b = 43
    · rw [if_pos (e1.mpr h1), h1]
      rfl
    · rw [if_neg (fun z => h1 (e1.mp z))]
      by_cases h2 : b = 45
      · rw [if_pos (e2.mpr h2), h2]
        rfl
      · have : isSgn b = false := by simp [isSgn, h1, h2]
        rw [if_neg (fun z => h2 (e2.mp z)), if_pos this]
  · rw [(at_out h).1, (at_out h).2]
    rfl
inductive Out (t : List Int) (x : Num) (p : Nat) (R : Except Nat Read) : Prop
  | bad (q : Nat) (h : tailF t p = q) (e : R = .error q)
  | ways (h : tailF t p = -1) (a : at_ t p = 43) (b : at_ t (p + 1) = 45) (y : Num) (w : Int) (n : NumIs (p + 2) (t.drop (p + 2)) y) (v : (numA t (p + 2)).2 = some w) (e : R = .ok (.ways x y))
  | devs (h : tailF t p = -1) (a : isSgn (at_ t p) = true) (b : at_ t (p + 1) ≠ 45) (y z : Num) (v w : Int) (n : NumIs (p + 1) (t.drop (p + 1)) y) (vv : (devA t p).2 = some v) (a2 : isSgn (at_ t ((devA t p).1 + 1)) = true)
      (n2 : NumIs ((devA t p).1 + 2) (t.drop ((devA t p).1 + 2)) z) (vw : (devA t ((devA t p).1 + 1)).2 = some w) (e : R = .ok (.devs x ⟨decide (at_ t p = 45), y⟩ ⟨decide (at_ t ((devA t p).1 + 1) = 45), z⟩))
  | code (h : tailF t p = -1) (a : isLetter (at_ t p) = true) (g : Int) (v : (gradeA t (p + 1)).2 = some g) (e : R = .ok (.code x (at_ t p).toNat (some g.toNat)))
theorem endF_cases (t : List Int) (f : Nat × Option Int) : (endF t f = -1 ∧ f.2.isSome = true ∧ f.1 = t.length) ∨ (endF t f = (f.1 : Int) ∧ ¬ (f.2.isSome = true ∧ f.1 = t.length)) := by
  unfold endF
  by_cases h : f.2.isSome = true ∧ f.1 = t.length
  · rw [if_pos h]
    exact .inl ⟨rfl, h⟩
  · rw [if_neg h]
    exact .inr ⟨rfl, h⟩
theorem isSome_ex {o : Option Int} (h : o.isSome = true) : ∃ w, o = some w := Option.isSome_iff_exists.mp h
theorem out_devs2 {t : List Int} {x : Num} {d : Dev} {q : Nat} (hb : Byts t) (hs : isSgn (at_ t q) = true) :
    (endF t (devA t q) = ((devA t q).1 : Int) ∧ readFrom (q + 1) (.devs x d ⟨decide (at_ t q = 45), .none_ (q + 1)⟩) ((t.drop (q + 1)).map cz) = .error (devA t q).1) ∨
    ∃ z w, endF t (devA t q) = -1 ∧ NumIs (q + 1) (t.drop (q + 1)) z ∧ (devA t q).2 = some w ∧ readFrom (q + 1) (.devs x d ⟨decide (at_ t q = 45), .none_ (q + 1)⟩) ((t.drop (q + 1)).map cz) = .ok (.devs x d ⟨decide (at_ t q = 45), z⟩) := by
  obtain ⟨z, hz⟩ := num_is (q + 1) (hb.drop (q + 1))
  obtain ⟨dd, dt⟩ := dev_is hz hs
  rw [read_devs, hz.eat]
  have el := hz.le_len
  rw [List.length_drop] at el
  dsimp only
  rw [List.drop_drop]
  have e1 : (devA t q).1 = q + 1 + (numL (t.drop (q + 1))).1 := rfl
  have hq : q < t.length := at_lt (by rcases (sgn_iff _).mp hs with h | h <;> (first | lia | omega))
  rw [← e1]
  rcases endF_cases t (devA t q) with ⟨a, b, c⟩ | ⟨a, b⟩
  · obtain ⟨w, hw⟩ := isSome_ex b
    refine .inr ⟨z, w, a, hz, hw, ?_⟩
    rw [c, List.drop_length]
    show (if _ = true then _ else _) = _
    rw [if_pos (by rw [dd]; exact b)]
  · refine .inl ⟨a, ?_⟩
    rcases Nat.lt_or_ge (devA t q).1 t.length with h | h
    · rw [at_in h]
      rfl
    · rw [(at_out h).1]
      show (if _ = true then _ else _) = _
      rw [if_neg (fun z => b ⟨by rw [← dd]; exact z, by (first | lia | omega)⟩)]
theorem tail_out {t : List Int} {x : Num} {p : Nat} (hb : Byts t) : Out t x p (readFrom p (.behind x) ((t.drop p).map cz)) := by
  -- a deviation from p on
  have devs : isSgn (at_ t p) = true → ¬ (at_ t p = 43 ∧ at_ t (p + 1) = 45) → Out t x p (readFrom (p + 1) (.dev x ⟨decide (at_ t p = 45), .none_ (p + 1)⟩) ((t.drop (p + 1)).map cz)) := by
    intro hs hn
    have et : tailF t p = devsF t p := by
      unfold tailF
      rw [if_neg hn, if_pos hs]
    obtain ⟨y, hy⟩ := num_is (p + 1) (hb.drop (p + 1))
    obtain ⟨dd, dt⟩ := dev_is hy hs
    have hR := read_dev x (decide (at_ t p = 45)) (t.drop (p + 1)) (p + 1) (.none_ (p + 1)) (hb.drop _)
    rw [hy.eat] at hR
    dsimp only at hR
    rw [List.drop_drop] at hR
    have e1 : (devA t p).1 = p + 1 + (numL (t.drop (p + 1))).1 := rfl
    rw [← e1] at hR
    by_cases hc : (devA t p).2 = none ∨ at_ t (devA t p).1 ≠ 32
    · refine .bad (devA t p).1 ?_ ?_
      · rw [et]
        unfold devsF
        rw [if_pos hc]
      · rw [hR]
        rcases Nat.lt_or_ge (devA t p).1 t.length with h | h
        · rw [at_in h]
          show (if at_ t (devA t p).1 = 32 ∧ _ then _ else _) = _
          rw [if_neg (fun z => hc.elim (fun o => by have := z.2; rw [dd, o] at this; cases this) (fun o => o z.1))]
        · rw [(at_out h).1]
          rfl
    · have h32 : at_ t (devA t p).1 = 32 := by
        by_cases z : at_ t (devA t p).1 = 32
        · exact z
        · exact absurd (.inr z) hc
      have hsm : ∃ v, (devA t p).2 = some v := by
        cases z : (devA t p).2 with
        | none => exact absurd (.inl z) hc
        | some v => exact ⟨v, rfl⟩
      obtain ⟨v, hv⟩ := hsm
      have hlt : (devA t p).1 < t.length := at_lt (by (first | lia | omega))
      rw [at_in hlt] at hR
      have hR : _ = (if at_ t (devA t p).1 = 32 ∧ Dev.done ⟨decide (at_ t p = 45), y⟩ = true then readFrom ((devA t p).1 + 1) (.then_ x ⟨decide (at_ t p = 45), y⟩) ((t.drop ((devA t p).1 + 1)).map cz) else .error (devA t p).1) := hR
      rw [if_pos ⟨h32, by rw [dd, hv]; rfl⟩, read_then hb] at hR
      by_cases hs2 : isSgn (at_ t ((devA t p).1 + 1)) = false
      · rw [if_pos hs2] at hR
        refine .bad ((devA t p).1 + 1) ?_ hR
        rw [et]
        unfold devsF
        rw [if_neg hc, if_pos hs2]
      · rw [if_neg hs2] at hR
        have hs2' : isSgn (at_ t ((devA t p).1 + 1)) = true := by simpa using hs2
        have ef : tailF t p = endF t (devA t ((devA t p).1 + 1)) := by
          rw [et]
          unfold devsF
          rw [if_neg hc, if_neg hs2]
        rcases out_devs2 (x := x) (d := ⟨decide (at_ t p = 45), y⟩) hb hs2' with ⟨a, b⟩ | ⟨z, w, a, hz, hw, b⟩
        · exact .bad _ (ef.trans a) (hR.trans b)
        · refine .devs (ef.trans a) hs ?_ y z v w hy hv hs2' hz hw (hR.trans b)
          intro z45
          have nd : numL (t.drop (p + 1)) = (0, none) := numL_none (by show isDig (at_ t (p + 1)) = false; rw [z45]; decide)
          have : (devA t p).2 = none := by
            unfold devA numA
            rw [nd]
            dsimp only
            split <;> rfl
          rw [this] at hv
          cases hv
  rcases Nat.lt_or_ge p t.length with h | h
  · have hp := at_byt hb h
    have e1 : cz (at_ t p) = 43 ↔ at_ t p = 43 := cz_eq hp
    have e2 : cz (at_ t p) = 45 ↔ at_ t p = 45 := cz_eq hp
    rw [at_in h, List.map_cons, readFrom_cons]
    show Out t x p (match (if cz (at_ t p) = 43 then some (Read.plus x) else if cz (at_ t p) = 45 then some (Read.dev x ⟨true, .none_ (p + 1)⟩) else if (letterOf (cz (at_ t p)).toNat).isSome = true then some (Read.code x (cz (at_ t p)).toNat none) else none) with | some s => readFrom (p + 1) s ((t.drop (p + 1)).map cz) | none => .error p)
    by_cases h1 : at_ t p = 43
    · rw [if_pos (e1.mpr h1)]
      show Out t x p (readFrom (p + 1) (.plus x) ((t.drop (p + 1)).map cz))
      by_cases h2 : at_ t (p + 1) = 45
      · have hl : p + 1 < t.length := at_lt (by (first | lia | omega))
        rw [at_in hl, List.map_cons, readFrom_cons]
        have e45 : cz (at_ t (p + 1)) = 45 := (cz_eq (at_byt hb hl)).mpr h2
        show Out t x p (match (if cz (at_ t (p + 1)) = 45 then some (Read.ways x (.none_ (p + 1 + 1))) else _) with | some s => readFrom (p + 1 + 1) s ((t.drop (p + 1 + 1)).map cz) | none => .error (p + 1))
        rw [if_pos e45]
        show Out t x p (readFrom (p + 2) (.ways x (.none_ (p + 2))) ((t.drop (p + 2)).map cz))
        have ef : tailF t p = endF t (numA t (p + 2)) := by
          unfold tailF
          rw [if_pos ⟨h1, h2⟩]
        obtain ⟨y, hy⟩ := num_is (p + 2) (hb.drop (p + 2))
        have hR := read_ways x (t.drop (p + 2)) (p + 2) (.none_ (p + 2))
        rw [hy.eat] at hR
        dsimp only at hR
        rw [List.drop_drop] at hR
        have el := hy.le_len
        rw [List.length_drop] at el
        have ea : (numA t (p + 2)).1 = p + 2 + (numL (t.drop (p + 2))).1 := rfl
        have eb : (numA t (p + 2)).2 = (numL (t.drop (p + 2))).2 := rfl
        rw [← ea] at hR
        rcases endF_cases t (numA t (p + 2)) with ⟨a, b, c⟩ | ⟨a, b⟩
        · obtain ⟨w, hw⟩ := isSome_ex b
          refine .ways (ef.trans a) h1 h2 y w hy hw (hR.trans ?_)
          rw [c, List.drop_length]
          show (if _ = true then _ else _) = _
          rw [if_pos (by rw [hy.done]; exact b)]
        · refine .bad _ (ef.trans a) (hR.trans ?_)
          rcases Nat.lt_or_ge (numA t (p + 2)).1 t.length with g | g
          · rw [at_in g]
            rfl
          · rw [(at_out g).1]
            show (if _ = true then _ else _) = _
            rw [if_neg (fun z => b ⟨by rw [eb, ← hy.done]; exact z, by (first | lia | omega)⟩)]
      · have hs : isSgn (at_ t p) = true := (sgn_iff _).mpr (.inl h1)
        have D := devs hs (fun z => h2 z.2)
        have hf : decide (at_ t p = 45) = false := by rw [h1]; decide
        rw [hf] at D
        have : readFrom (p + 1) (.plus x) ((t.drop (p + 1)).map cz) = readFrom (p + 1) (.dev x ⟨false, .none_ (p + 1)⟩) ((t.drop (p + 1)).map cz) := by
          rcases Nat.lt_or_ge (p + 1) t.length with g | g
          · have gb := at_byt hb g
            have f1 : cz (at_ t (p + 1)) = 45 ↔ at_ t (p + 1) = 45 := cz_eq gb
            have f2 : cz (at_ t (p + 1)) = 32 ↔ at_ t (p + 1) = 32 := cz_eq gb
            rw [at_in g, List.map_cons, readFrom_cons, readFrom_cons]
            have m1 : (Read.plus x).more (p + 1) (cz (at_ t (p + 1))) = ((Num.none_ (p + 1)).more (cz (at_ t (p + 1)))).map fun (y : Num) => Read.dev x ⟨false, y⟩ := by
              show (if cz (at_ t (p + 1)) = 45 then _ else _) = _
              rw [if_neg (fun z => h2 (f1.mp z))]
            have m2 : (Read.dev x ⟨false, .none_ (p + 1)⟩).more (p + 1) (cz (at_ t (p + 1))) = ((Num.none_ (p + 1)).more (cz (at_ t (p + 1)))).map fun (y : Num) => Read.dev x ⟨false, y⟩ := by
              show (if cz (at_ t (p + 1)) = 32 then (if Dev.done ⟨false, .none_ (p + 1)⟩ = true then _ else none) else _) = _
              by_cases g32 : at_ t (p + 1) = 32
              · rw [if_pos (f2.mpr g32), g32, more_32]
                rfl
              · rw [if_neg (fun z => g32 (f2.mp z))]
            rw [m1, m2]
          · rw [(at_out g).1]
            rfl
        rw [this]
        exact D
    · rw [if_neg (fun z => h1 (e1.mp z))]
      by_cases h2 : at_ t p = 45
      · have D := devs ((sgn_iff _).mpr (.inr h2)) (fun z => h1 z.1)
        have hf : decide (at_ t p = 45) = true := by rw [h2]; decide
        rw [hf] at D
        rw [if_pos (e2.mpr h2)]
        exact D
      · rw [if_neg (fun z => h2 (e2.mp z)), cz_nat hp]
        have hns : ¬ isSgn (at_ t p) = true := fun z => (sgn_iff _).mp z |>.elim h1 h2
        cases hl : isLetter (at_ t p) with
        | false =>
          rw [letter_none hp.1 hl]
          refine .bad p ?_ rfl
          unfold tailF
          rw [if_neg (fun z => h1 z.1), if_neg hns, if_neg (by rw [hl]; exact Bool.noConfusion)]
        | true =>
          obtain ⟨lx, le⟩ := letter_some hp.1 hl
          rw [le]
          have ef : tailF t p = endF t (gradeA t (p + 1)) := by
            unfold tailF
            rw [if_neg (fun z => h1 z.1), if_neg hns, if_pos hl]
          show Out t x p (readFrom (p + 1) (.code x (at_ t p).toNat none) ((t.drop (p + 1)).map cz))
          have hR := read_code (x := x) (c := (at_ t p).toNat) (p := p + 1) (hb.drop (p + 1))
          have ge : gradeA t (p + 1) = (p + 1 + (gradeL (t.drop (p + 1))).1, (gradeL (t.drop (p + 1))).2) := rfl
          cases hg : gradeL (t.drop (p + 1)) with
          | mk k o =>
            rw [hg] at hR ge
            have g0 : o = none → k = 0 := fun z => by
              unfold gradeL at hg
              split at hg
              · cases hg
                rfl
              · split at hg <;> cases hg <;> cases z
            cases o with
            | none =>
              refine .bad (p + 1) (ef.trans ?_) hR
              rw [ge, g0 rfl]
              rfl
            | some g =>
              have hR : _ = (if k = (t.drop (p + 1)).length then (Except.ok (Read.code x (at_ t p).toNat (some g.toNat)) : Except Nat Read) else Except.error (p + 1 + k)) := hR
              rw [List.length_drop] at hR
              have k1 : 1 ≤ k := by
                unfold gradeL at hg
                split at hg
                · cases hg
                · split at hg <;> cases hg <;> (first | lia | omega)
              rcases endF_cases t (gradeA t (p + 1)) with ⟨a, b, c⟩ | ⟨a, b⟩
              · rw [ge] at c
                dsimp only at c
                rw [if_pos (by (first | lia | omega))] at hR
                exact .code (ef.trans a) hl g (by rw [ge]) hR
              · rw [ge] at b
                dsimp only at b
                rw [if_neg (fun z => b ⟨rfl, by (first | lia | omega)⟩)] at hR
                refine .bad _ (ef.trans a) ?_
                rw [ge]
                exact hR
  · refine .bad p ?_ ?_
    · unfold tailF
      rw [(at_out h).2]
      rfl
    · rw [(at_out h).1]
      rfl

def fitF (n lo hi form letter grade : Int) (e : Nat) : List Int := if fitsSize n lo hi = false then [-2, 5, ((e + 1 : Nat) : Int)] else [0, n, lo, hi, form, letter, grade]
def waysS (t : List Int) (n : Int) (e : Nat) : List Int :=
  if 1073741824 < (numA t (e + 3)).2.getD 0 then [-2, 3, ((e + 3 : Nat) : Int)] else fitF n (-(numA t (e + 3)).2.getD 0) ((numA t (e + 3)).2.getD 0) 1 0 0 e
def absZ (i : Int) : Int := if i < 0 then -i else i
def devsS (t : List Int) (n : Int) (e : Nat) : List Int :=
  if 1073741824 < absZ ((devA t (e + 1)).2.getD 0) then [-2, 3, ((e + 2 : Nat) : Int)]
  else if 1073741824 < absZ ((devA t ((devA t (e + 1)).1 + 1)).2.getD 0) then [-2, 3, (((devA t (e + 1)).1 + 2 : Nat) : Int)]
  else if (devA t (e + 1)).2.getD 0 < (devA t ((devA t (e + 1)).1 + 1)).2.getD 0 then [-2, 4, (((devA t (e + 1)).1 + 1 : Nat) : Int)]
  else fitF n ((devA t ((devA t (e + 1)).1 + 1)).2.getD 0) ((devA t (e + 1)).2.getD 0) 2 0 0 e
def codeS (t : List Int) (n : Int) (e : Nat) : List Int :=
  fitF n (loZ n (at_ t (e + 1)) ((gradeA t (e + 2)).2.getD 0)) (hiZ n (at_ t (e + 1)) ((gradeA t (e + 2)).2.getD 0)) 3 (at_ t (e + 1)) ((gradeA t (e + 2)).2.getD 0) e
def sizeL (t : List Int) : List Int :=
  if 0 ≤ shapeF t then [-2, 1, shapeF t]
  else if isNominal ((numA t 0).2.getD 0) = false then [-2, 2, 0]
  else if (numA t 0).1 = t.length then [0, (numA t 0).2.getD 0, 0, 0, 0, 0, 0]
  else if isLetter (at_ t ((numA t 0).1 + 1)) = true then codeS t ((numA t 0).2.getD 0) (numA t 0).1
  else if at_ t ((numA t 0).1 + 2) = 45 then waysS t ((numA t 0).2.getD 0) (numA t 0).1
  else devsS t ((numA t 0).2.getD 0) (numA t 0).1
def resOf : Except Fault Size → List Int
  | .error f => [-2, (f.1 : Int), (f.2 : Int)]
  | .ok s => [0, s.n, s.lo, s.hi, (s.form : Int), (s.letter : Int), (s.grade : Int)]
inductive Shp (t : List Int) : Except Nat Read → Prop
  | bad (q : Nat) (h : shapeF t = q) : Shp t (.error q)
  | alone (h : shapeF t = -1) (x : Num) (n : NumIs 0 t x) (w : Int) (v : (numA t 0).2 = some w) (l : (numA t 0).1 = t.length) : Shp t (.ok (.first x))
  | tail (h : shapeF t = -1) (x : Num) (n : NumIs 0 t x) (w : Int) (v : (numA t 0).2 = some w) (b : at_ t (numA t 0).1 = 32) (R : Except Nat Read) (o : Out t x ((numA t 0).1 + 1) R) (k : tailF t ((numA t 0).1 + 1) = -1) : Shp t R
theorem shape_is {t : List Int} (hb : Byts t) : Shp t (shape (t.map cz)) := by
  obtain ⟨x, hx⟩ := num_is 0 hb
  have hR : shape (t.map cz) = _ := read_first t 0 (.none_ 0) hb
  rw [hx.eat] at hR
  dsimp only at hR
  have ea : (numA t 0).1 = 0 + (numL t).1 := rfl
  have eb : (numA t 0).2 = (numL t).2 := rfl
  have ea' : (numA t 0).1 = (numL t).1 := by rw [ea, Nat.zero_add]
  rw [← ea, ← ea'] at hR
  have el := hx.le_len
  by_cases hc : (numA t 0).2.isSome = true ∧ at_ t (numA t 0).1 = 32
  · have es : shapeF t = tailF t ((numA t 0).1 + 1) := by
      unfold shapeF
      rw [if_pos hc]
    obtain ⟨w, hw⟩ := isSome_ex hc.1
    have hlt : (numA t 0).1 < t.length := at_lt (by (first | lia | omega))
    rw [at_in hlt] at hR
    have hR : _ = (if at_ t (numA t 0).1 = 32 ∧ x.done = true then readFrom ((numA t 0).1 + 1) (.behind x) ((t.drop ((numA t 0).1 + 1)).map cz) else .error (numA t 0).1) := hR
    rw [if_pos ⟨hc.2, by rw [hx.done, ← eb]; exact hc.1⟩] at hR
    rw [hR]
    have O := tail_out (x := x) (p := (numA t 0).1 + 1) hb
    have O2 := O
    cases O with
    | bad q h e =>
      rw [e]
      exact .bad q (es.trans h)
    | ways h => exact .tail (es.trans h) x hx w hw hc.2 _ O2 h
    | devs h => exact .tail (es.trans h) x hx w hw hc.2 _ O2 h
    | code h => exact .tail (es.trans h) x hx w hw hc.2 _ O2 h
  · have es : shapeF t = endF t (numA t 0) := by
      unfold shapeF
      rw [if_neg hc]
    rw [hR]
    rcases endF_cases t (numA t 0) with ⟨a, b, c⟩ | ⟨a, b⟩
    · obtain ⟨w, hw⟩ := isSome_ex b
      rw [(at_out (Nat.le_of_eq c.symm)).1]
      show Shp t (if x.done = true then _ else _)
      rw [if_pos (by rw [hx.done, ← eb]; exact b)]
      exact .alone (es.trans a) x hx w hw c
    · rcases Nat.lt_or_ge (numA t 0).1 t.length with g | g
      · rw [at_in g]
        show Shp t (if at_ t (numA t 0).1 = 32 ∧ x.done = true then _ else _)
        rw [if_neg (fun z => hc ⟨by rw [eb, ← hx.done]; exact z.2, z.1⟩)]
        exact .bad _ (es.trans a)
      · rw [(at_out g).1]
        show Shp t (if x.done = true then _ else _)
        rw [if_neg (fun z => b ⟨by rw [eb, ← hx.done]; exact z, by (first | lia | omega)⟩)]
        exact .bad _ (es.trans a)
theorem firstOf_cons (b : Bool) (f : Fault) (r : List (Bool × Fault)) : firstOf ((b, f) :: r) = if b = true then some f else firstOf r := rfl
theorem res_alone {n : Int} {e : Nat} : (if isNominal n = false then [-2, 2, 0] else [0, n, 0, 0, 0, 0, 0]) = resOf (match firstOf ((!isNominal n, (2, 0)) :: ([] ++ [(!fitsSize n 0 0, (5, e))])) with | some f => .error f | none => .ok ⟨n, 0, 0, 0, 0, 0⟩) := by
  cases hn : isNominal n with
  | false => rfl
  | true =>
    have hf : fitsSize n 0 0 = true := by
      have e : (decide (1 ≤ n) && decide (n ≤ 2147483647)) = true := hn
      have e' := Bool.and_eq_true_iff.mp e
      have e1 := of_decide_eq_true e'.1
      have e2 := of_decide_eq_true e'.2
      rw [fits_iff]
      simp
      (first | lia | omega)
    rw [hf]
    rfl
theorem res_ways {n v : Int} {p e : Nat} : (if isNominal n = false then [-2, 2, 0] else if 1073741824 < v then [-2, 3, (p : Int)] else fitF n (-v) v 1 0 0 e) = resOf (match firstOf ((!isNominal n, (2, 0)) :: ([(decide (1073741824 < v), (3, p))] ++ [(!fitsSize n (-v) v, (5, e + 1))])) with | some f => .error f | none => .ok ⟨n, -v, v, 1, 0, 0⟩) := by
  cases isNominal n with
  | false => rfl
  | true =>
    by_cases hf : 1073741824 < v
    · rw [if_pos hf, decide_eq_true hf]
      rfl
    · rw [if_neg hf, decide_eq_false hf]
      unfold fitF
      cases fitsSize n (-v) v <;> rfl
theorem res_devs {n v w : Int} {p q r e : Nat} : (if isNominal n = false then [-2, 2, 0] else if 1073741824 < absZ v then [-2, 3, (p : Int)] else if 1073741824 < absZ w then [-2, 3, (q : Int)] else if v < w then [-2, 4, (r : Int)] else fitF n w v 2 0 0 e)
    = resOf (match firstOf ((!isNominal n, (2, 0)) :: ([(decide (1073741824 < absZ v), (3, p)), (decide (1073741824 < absZ w), (3, q)), (decide (v < w), (4, r))] ++ [(!fitsSize n w v, (5, e + 1))])) with | some f => .error f | none => .ok ⟨n, w, v, 2, 0, 0⟩) := by
  cases isNominal n with
  | false => rfl
  | true =>
    by_cases hf : 1073741824 < absZ v
    · rw [if_pos hf, decide_eq_true hf]
      rfl
    · rw [if_neg hf, decide_eq_false hf]
      by_cases hg : 1073741824 < absZ w
      · rw [if_pos hg, decide_eq_true hg]
        rfl
      · rw [if_neg hg, decide_eq_false hg]
        by_cases hh : v < w
        · rw [if_pos hh, decide_eq_true hh]
          rfl
        · rw [if_neg hh, decide_eq_false hh]
          unfold fitF
          cases fitsSize n w v <;> rfl
theorem res_code {n l h c g : Int} {e : Nat} (hc : 0 ≤ c) (hg : 0 ≤ g) : (if isNominal n = false then [-2, 2, 0] else fitF n l h 3 c g e)
    = resOf (match firstOf ((!isNominal n, (2, 0)) :: ([] ++ [(!fitsSize n l h, (5, e + 1))])) with | some f => .error f | none => .ok ⟨n, l, h, 3, c.toNat, g.toNat⟩) := by
  cases isNominal n with
  | false => rfl
  | true =>
    unfold fitF
    cases fitsSize n l h with
    | false => rfl
    | true =>
      show _ = [0, n, l, h, 3, (c.toNat : Int), (g.toNat : Int)]
      rw [Int.toNat_of_nonneg hc, Int.toNat_of_nonneg hg]
      rfl
theorem tooFar_dev {b : Bool} {y : Num} {v : Int} (e : v = Dev.ticks ⟨b, y⟩) : tooFar y = decide (1073741824 < absZ v) := by
  subst e
  unfold tooFar absZ Dev.ticks FAR
  congr 1
  apply propext
  cases b <;> dsimp only <;> split <;> split <;> first | contradiction | (first | lia | omega)
theorem sizeL_tail {t : List Int} {n : Int} {e : Nat} (h : ¬ 0 ≤ shapeF t) (hn : numA t 0 = (e, some n)) (hl : ¬ e = t.length) : sizeL t = if isNominal n = false then [-2, 2, 0] else if isLetter (at_ t (e + 1)) = true then codeS t n e else if at_ t (e + 2) = 45 then waysS t n e else devsS t n e := by
  unfold sizeL
  rw [hn]
  exact (if_neg h).trans (congrArg (ite _ _) (if_neg hl))
theorem ite_in {c d : Prop} [Decidable c] [Decidable d] {a x y z : List Int} (h : d) (e : x = z) : (if c then a else if d then x else y) = if c then a else z := by rw [if_pos h, e]
theorem ite_out {c d : Prop} [Decidable c] [Decidable d] {a x y z : List Int} (h : ¬ d) (e : y = z) : (if c then a else if d then x else y) = if c then a else z := by rw [if_neg h, e]
theorem ways_is {t : List Int} {n v : Int} {e : Nat} (h : (numA t (e + 3)).2 = some v) : waysS t n e = if 1073741824 < v then [-2, 3, ((e + 3 : Nat) : Int)] else fitF n (-v) v 1 0 0 e := by
  unfold waysS
  rw [h]
  rfl
theorem devs_is {t : List Int} {n v w : Int} {e q : Nat} (h : devA t (e + 1) = (q, some v)) (h2 : (devA t (q + 1)).2 = some w) : devsS t n e = if 1073741824 < absZ v then [-2, 3, ((e + 2 : Nat) : Int)] else if 1073741824 < absZ w then [-2, 3, ((q + 2 : Nat) : Int)] else if v < w then [-2, 4, ((q + 1 : Nat) : Int)] else fitF n w v 2 0 0 e := by
  unfold devsS
  rw [h]
  dsimp only [Option.getD_some]
  rw [h2]
  rfl
theorem code_is {t : List Int} {n g : Int} {e : Nat} (h : (gradeA t (e + 2)).2 = some g) : codeS t n e = fitF n (loZ n (at_ t (e + 1)) g) (hiZ n (at_ t (e + 1)) g) 3 (at_ t (e + 1)) g e := by
  unfold codeS
  rw [h]
  rfl
theorem grade_le {l : List Int} {g : Int} (h : (gradeL l).2 = some g) : 0 ≤ g := by
  unfold gradeL at h
  split at h
  · cases h
  · rename_i hdg
    split at h
    · cases h
      (first | lia | omega)
    · cases h
      have : isDig (GA.hd l) = true := by simpa using hdg
      simp only [isDig, Bool.and_eq_true, decide_eq_true_eq] at this
      (first | lia | omega)
theorem read_ok {u : List UInt8} {s : Read} (h : shape u = .ok s) : Ft.read u = meant s := by
  unfold Ft.read
  rw [h]
theorem read_err {u : List UInt8} {q : Nat} (h : shape u = .error q) : Ft.read u = .error (1, q) := by
  unfold Ft.read
  rw [h]
theorem meant_code {x : Num} {c g : Int} {p : Bool × Int} (hlm : letterOf c.toNat = some p) : meant (.code x c.toNat (some g.toNat)) = match firstOf ((!isNominal (x.ticks : Int), (2, 0)) :: ([] ++ [(!fitsSize (x.ticks : Int) (loZ (x.ticks : Int) c g) (hiZ (x.ticks : Int) c g), (5, x.long + 1))])) with | some f => .error f | none => .ok ⟨(x.ticks : Int), loZ (x.ticks : Int) c g, hiZ (x.ticks : Int) c g, 3, c.toNat, g.toNat⟩ := by
  unfold meant
  dsimp only [Read.number]
  rw [hlm]
  dsimp only
  rw [limits_val hlm]
  rfl
theorem read_tail {t : List Int} {x : Num} {e : Nat} {u : List UInt8} {R : Except Nat Read} (hb : Byts t) (h : ¬ 0 ≤ shapeF t) (hn : numA t 0 = (e, some (x.ticks : Int))) (he : x.long = e) (hl : ¬ e = t.length) (k : tailF t (e + 1) = -1) (hu : shape u = R) (O : Out t x (e + 1) R) :
    sizeL t = resOf (Ft.read u) := by
  refine (sizeL_tail h hn hl).trans ?_
  subst he
  cases O with
  | bad q hq => (first | lia | omega)
  | ways _ a b y v hy hv hR =>
    cases hy.val v hv
    refine (ite_out (by rw [a]; decide) ((if_pos b).trans (ways_is hv))).trans (res_ways.trans (congrArg resOf (Eq.trans ?_ (read_ok (hu.trans hR)).symm)))
    rw [← hy.at_]
    rfl
  | devs _ a b y z v v2 hy hv a2 hz hv2 hR =>
    have e1 := ((dev_is hy a).2 v hv).1
    have e2 := ((dev_is hz a2).2 v2 hv2).1
    refine (ite_out (by rcases (sgn_iff _).mp a with q | q <;> rw [q] <;> decide) ((if_neg b).trans (devs_is (Prod.ext rfl hv) hv2))).trans (res_devs.trans (congrArg resOf (Eq.trans ?_ (read_ok (hu.trans hR)).symm)))
    rw [← tooFar_dev e1, ← tooFar_dev e2, e1, e2, ← hy.at_]
    have z1 : (devA t (x.long + 1)).1 + 2 = z.at_ := hz.at_.symm
    have z2 : (devA t (x.long + 1)).1 + 1 = z.at_ - 1 := by (first | lia | omega)
    rw [z1, z2]
    rfl
  | code _ a g hg hR =>
    have hlt2 : x.long + 1 < t.length := at_lt fun z => absurd (z ▸ a) (by decide)
    have lb := at_byt hb hlt2
    obtain ⟨p, hlm⟩ := letter_some lb.1 a
    exact (ite_in a (code_is hg)).trans ((res_code lb.1 (grade_le hg)).trans (congrArg resOf (((read_ok (hu.trans hR)).trans (meant_code hlm)).symm)))
theorem size_is {t : List Int} (hb : Byts t) : sizeL t = resOf (Ft.read (t.map cz)) := by
  have S := shape_is hb
  generalize hu : shape (t.map cz) = R at S
  cases S with
  | bad q h =>
    rw [read_err hu]
    unfold sizeL
    rw [h, if_pos (Int.natCast_nonneg q)]
    rfl
  | alone h x hx w hw hl =>
    cases hx.val w hw
    rw [read_ok hu]
    unfold sizeL
    rw [h, if_neg (by decide), hw, if_pos hl]
    exact res_alone
  | tail h x hx w hw hb32 _ O k =>
    cases hx.val w hw
    exact read_tail (e := (numA t 0).1) hb (by rw [h]; decide) (Prod.ext rfl hw) (hx.long.trans (Nat.zero_add _).symm) (fun z => by
      have := at_lt (t := t) (p := (numA t 0).1) (by (first | lia | omega))
      (first | lia | omega)) k hu O
end GA

set_option linter.all false
namespace GA
open Ft FtBlocks

def nlf (b : Int) : Bool := b != 10
def lineAt (t : List Int) (p : Nat) : List Int := (t.drop p).takeWhile nlf
def isBlk (l lo hi : Int) : Bool := ((decide (10 ≤ l) && decide (l ≤ 1000000)) && decide (l % 10 = 0)) && (decide (-4096 ≤ lo) && decide (hi ≤ 4096))
def blkOf (s : List Int) : Block := ⟨s.getD 1 0, s.getD 2 0, s.getD 3 0⟩
def refOf (s : List Int) (p : Nat) : List Int :=
  if s.getD 0 0 < 0 then [-2, s.getD 1 0, (p : Int) + s.getD 2 0]
  else if s.getD 4 0 = 3 ∨ isBlk (s.getD 1 0) (s.getD 2 0) (s.getD 3 0) = false then [-2, 6, (p : Int)] else []
def lineRef (t : List Int) (p k : Nat) : List Int := if k = 20 then [-2, 8, (p : Int)] else refOf (sizeL (lineAt t p)) p
def begP (t : List Int) (p : Nat) : Bool := decide (p = 0) || decide (t.getD (p - 1) 0 = 10)
def begs (t : List Int) : List Nat := (List.range t.length).filter (begP t)
def endR (t : List Int) : List Int := if t.getLast? = some 10 then [] else [-2, 7, (t.length : Int)]
def goR (t : List Int) : Nat → List Nat → List Int
  | _, [] => endR t
  | k, p :: ps => if lineRef t p k = [] then goR t (k + 1) ps else lineRef t p k
def boxRef (t : List Int) : List Int := if 4096 < t.length then [-1] else goR t 0 (begs t)
def blks (t : List Int) : Box := (begs t).map fun p => blkOf (sizeL (lineAt t p))

def begR : Bool → Nat → List Int → List Nat
  | _, _, [] => []
  | s, p, b :: l => if s = true then p :: begR (b == 10) (p + 1) l else begR (b == 10) (p + 1) l
theorem begR_filter {t : List Int} : ∀ (l : List Int) (p : Nat), t.drop p = l → (List.range' p l.length).filter (begP t) = begR (begP t p) p l := by
  intro l
  induction l with
  | nil =>
    intro p h
    rfl
  | cons b l ih =>
    intro p h
    have hl : p < t.length := by
      rcases Nat.lt_or_ge p t.length with z | z
      · exact z
      · rw [List.drop_eq_nil_of_le z] at h
        cases h
    have e := List.drop_eq_getElem_cons hl
    rw [h] at e
    injection e with e1 e2
    have hb : begP t (p + 1) = (b == 10) := by
      unfold begP
      rw [Nat.add_sub_cancel, List.getD_eq_getElem?_getD, List.getElem?_eq_getElem hl, Option.getD_some, ← e1]
      have : decide (p + 1 = 0) = false := by simp
      rw [this, Bool.false_or]
      rfl
    have i := ih (p + 1) e2.symm
    rw [List.length_cons, List.range'_succ, List.filter_cons, i, hb]
    rfl
theorem begs_eq (t : List Int) : begs t = begR true 0 t := by
  unfold begs
  rw [List.range_eq_range', begR_filter t 0 List.drop_zero]
  rfl
theorem begR_false : ∀ (l : List Int) (p : Nat), begR false p l = begR true (p + (l.takeWhile nlf).length + 1) (l.drop ((l.takeWhile nlf).length + 1)) := by
  intro l
  induction l with
  | nil =>
    intro p
    rfl
  | cons b l ih =>
    intro p
    by_cases h : b = 10
    · subst h
      rfl
    · have e : (b :: l).takeWhile nlf = b :: l.takeWhile nlf := by
        rw [List.takeWhile_cons, if_pos (by simp [nlf, h])]
      rw [e, List.length_cons, List.drop_succ_cons]
      have e2 : begR false p (b :: l) = begR (b == 10) (p + 1) l := rfl
      have e3 : (b == 10) = false := by simp [h]
      rw [e2, e3, ih]
      have : p + 1 + (l.takeWhile nlf).length + 1 = p + ((l.takeWhile nlf).length + 1) + 1 := by (first | lia | omega)
      rw [this]
theorem begR_true {l : List Int} (p : Nat) (h : l ≠ []) : begR true p l = p :: begR true (p + (l.takeWhile nlf).length + 1) (l.drop ((l.takeWhile nlf).length + 1)) := by
  cases l with
  | nil => exact absurd rfl h
  | cons b l =>
    have e2 : begR true p (b :: l) = p :: begR (b == 10) (p + 1) l := rfl
    rw [e2]
    congr 1
    by_cases h : b = 10
    · subst h
      rfl
    · have e : (b :: l).takeWhile nlf = b :: l.takeWhile nlf := by
        rw [List.takeWhile_cons, if_pos (by simp [nlf, h])]
      have e3 : (b == 10) = false := by simp [h]
      rw [e, List.length_cons, List.drop_succ_cons, e3, begR_false]
      have : p + 1 + (l.takeWhile nlf).length + 1 = p + ((l.takeWhile nlf).length + 1) + 1 := by (first | lia | omega)
      rw [this]
theorem take_map {l : List Int} (hb : Byts l) : (l.map cz).takeWhile (fun (c : UInt8) => c != 10) = (l.takeWhile nlf).map cz := by
  induction l with
  | nil => rfl
  | cons b l ih =>
    have e : cz b = 10 ↔ b = 10 := cz_eq hb.hd
    rw [List.map_cons, List.takeWhile_cons, List.takeWhile_cons]
    by_cases h : b = 10
    · rw [if_neg (by rw [e.mpr h]; decide), if_neg (by simp [nlf, h])]
      rfl
    · rw [if_pos (by simp [e, h]), if_pos (by simp [nlf, h]), ih hb.tl]
      rfl
theorem Byts.take {l : List Int} (h : Byts l) (q : Int → Bool) : Byts (l.takeWhile q) := fun c m => h c (List.takeWhile_subset _ m)
theorem firstOf_snoc : ∀ (l : List (Bool × Fault)) (b : Bool) (f : Fault), firstOf (l ++ [(b, f)]) = none → b = false
  | [], b, f, h => by
    cases b
    · rfl
    · cases h
  | (c, g) :: l, b, f, h => by
    rw [List.cons_append, firstOf_cons] at h
    split at h
    · cases h
    · exact firstOf_snoc l b f h
theorem meant_fits {r : Read} {s : Size} (h : meant r = .ok s) : fitsSize s.n s.lo s.hi = true := by
  unfold meant at h
  dsimp only at h
  split at h
  · cases h
  · rename_i hf
    rw [← List.cons_append] at hf
    have q := firstOf_snoc _ _ _ hf
    have e := Except.ok.inj h
    have en : s.n = (r.number.ticks : Int) := by
      rw [← e]
      split
      · rfl
      · rfl
      · split <;> rfl
      · rfl
    rw [e] at q
    rw [en]
    simpa using q
theorem read_fits {t : Bytes} {s : Size} (h : Ft.read t = .ok s) : fitsSize s.n s.lo s.hi = true := by
  unfold Ft.read at h
  split at h
  · cases h
  · exact meant_fits h
theorem line_is {x : List Int} (hb : Byts x) (p : Nat) : match lineBlock (x.map cz) with
    | .error (n, q) => refOf (sizeL x) p = [-2, (n : Int), ((p + q : Nat) : Int)]
    | .ok b => refOf (sizeL x) p = [] ∧ blkOf (sizeL x) = b ∧ b.right = true := by
  rw [size_is hb]
  unfold lineBlock
  cases hr : Ft.read (x.map cz) with
  | error f =>
    obtain ⟨n, q⟩ := f
    show refOf [-2, (n : Int), (q : Int)] p = _
    unfold refOf
    rw [if_pos (by show (-2 : Int) < 0; (first | lia | omega))]
    show [-2, (n : Int), (p : Int) + (q : Int)] = _
    rw [Int.natCast_add]
  | ok s =>
    have hf := read_fits hr
    rw [fits_iff] at hf
    simp only [Bool.and_eq_true, decide_eq_true_eq] at hf
    show match ((if s.form = 3 ∨ (⟨s.n, s.lo, s.hi⟩ : Block).right = false then Except.error (6, 0) else Except.ok (⟨s.n, s.lo, s.hi⟩ : Block)) : Except Fault Block) with
      | .error (n, q) => refOf [0, s.n, s.lo, s.hi, (s.form : Int), (s.letter : Int), (s.grade : Int)] p = [-2, (n : Int), ((p + q : Nat) : Int)]
      | .ok b => refOf [0, s.n, s.lo, s.hi, (s.form : Int), (s.letter : Int), (s.grade : Int)] p = [] ∧ blkOf [0, s.n, s.lo, s.hi, (s.form : Int), (s.letter : Int), (s.grade : Int)] = b ∧ b.right = true
    have er : refOf [0, s.n, s.lo, s.hi, (s.form : Int), (s.letter : Int), (s.grade : Int)] p = if (s.form : Int) = 3 ∨ isBlk s.n s.lo s.hi = false then [-2, 6, (p : Int)] else [] := by
      unfold refOf
      rw [if_neg (by show ¬ (0 : Int) < 0; (first | lia | omega))]
      rfl
    have eb : (⟨s.n, s.lo, s.hi⟩ : Block).right = isBlk s.n s.lo s.hi := by
      apply Bool.eq_iff_iff.mpr
      have f1 : LONGEST = 1000000 := rfl
      have f2 : NEAR = 4096 := rfl
      unfold Block.right isBlk
      rw [f1, f2]
      dsimp only
      simp only [Bool.and_eq_true, decide_eq_true_eq, beq_iff_eq]
      (first | lia | omega)
    rw [er, eb]
    by_cases h : s.form = 3 ∨ isBlk s.n s.lo s.hi = false
    · rw [if_pos h, if_pos (h.imp (fun z => by (first | lia | omega)) fun z => z)]
      rfl
    · rw [if_neg h, if_neg (fun z => h (z.imp (fun z => by (first | lia | omega)) fun z => z))]
      refine ⟨rfl, rfl, ?_⟩
      rw [eb]
      cases q : isBlk s.n s.lo s.hi with
      | false => exact absurd (.inr q) h
      | true => rfl
theorem lines_is {t : List Int} (hb : Byts t) : ∀ (f k p : Nat) (l : List Int), t.drop p = l → l.length ≤ f → k ≤ 20 → p ≤ t.length → (l = [] → t.getLast? = some 10) →
    match linesFrom f k p (l.map cz) with
    | .error (n, q) => goR t k (begR true p l) = [-2, (n : Int), (q : Int)]
    | .ok x => goR t k (begR true p l) = [] ∧ (begR true p l).map (fun p => blkOf (sizeL (lineAt t p))) = x ∧ BoxOk x ∧ k + x.length ≤ 20 := by
  intro f
  induction f with
  | zero =>
    intro k p l h hl hk _ he
    have : l = [] := List.length_eq_zero_iff.mp (by (first | lia | omega))
    subst this
    refine ⟨?_, rfl, fun b m => absurd m (by simp), hk⟩
    show endR t = []
    unfold endR
    rw [if_pos (he rfl)]
  | succ f ih =>
    intro k p l h hl hk hp he
    cases l with
    | nil =>
      refine ⟨?_, rfl, fun b m => absurd m (by simp), hk⟩
      show endR t = []
      unfold endR
      rw [if_pos (he rfl)]
    | cons b r =>
      have hbl : Byts (b :: r) := h ▸ hb.drop p
      have eL : lineAt t p = (b :: r).takeWhile nlf := by unfold lineAt; rw [h]
      rw [begR_true p (by simp)]
      have u : linesFrom (f + 1) k p ((b :: r).map cz) = if ((b :: r).map cz) = [] then .ok [] else if MOST ≤ k then .error (8, p) else match lineBlock (((b :: r).map cz).takeWhile fun (c : UInt8) => c != 10) with
          | .error (n, q) => .error (n, p + q)
          | .ok b' => if (((b :: r).map cz).takeWhile fun (c : UInt8) => c != 10).length = ((b :: r).map cz).length then .error (7, p + ((b :: r).map cz).length)
            else (linesFrom f (k + 1) (p + (((b :: r).map cz).takeWhile fun (c : UInt8) => c != 10).length + 1) (((b :: r).map cz).drop ((((b :: r).map cz).takeWhile fun (c : UInt8) => c != 10).length + 1))).map fun (r : Box) => b' :: r := rfl
      rw [u, if_neg (by simp)]
      by_cases h20 : k = 20
      · subst h20
        rw [if_pos (show MOST ≤ 20 from Nat.le_refl 20)]
        show (if lineRef t p 20 = [] then _ else lineRef t p 20) = _
        have : lineRef t p 20 = [-2, 8, (p : Int)] := rfl
        rw [this, if_neg (by simp)]
        rfl
      · rw [if_neg (show ¬ MOST ≤ k by show ¬ 20 ≤ k; (first | lia | omega)), take_map hbl, List.length_map, List.length_map, List.map_drop.symm]
        have LI := line_is (hbl.take nlf) p
        have lr : lineRef t p k = refOf (sizeL ((b :: r).takeWhile nlf)) p := by
          unfold lineRef
          rw [if_neg h20, eL]
        have gr : ∀ ps, goR t k (p :: ps) = if refOf (sizeL ((b :: r).takeWhile nlf)) p = [] then goR t (k + 1) ps else refOf (sizeL ((b :: r).takeWhile nlf)) p := fun ps => by
          show (if lineRef t p k = [] then _ else lineRef t p k) = _
          rw [lr]
        rw [gr, List.map_cons, eL]
        cases hlb : lineBlock (((b :: r).takeWhile nlf).map cz) with
        | error e =>
          obtain ⟨n, q⟩ := e
          rw [hlb] at LI
          have LI : refOf (sizeL ((b :: r).takeWhile nlf)) p = [-2, (n : Int), ((p + q : Nat) : Int)] := LI
          rw [LI, if_neg (by simp)]
        | ok b' =>
          rw [hlb] at LI
          have LI : refOf (sizeL ((b :: r).takeWhile nlf)) p = [] ∧ blkOf (sizeL ((b :: r).takeWhile nlf)) = b' ∧ b'.right = true := LI
          obtain ⟨l1, l2, l3⟩ := LI
          rw [if_pos l1, l2]
          have tl : ((b :: r).takeWhile nlf).length ≤ (b :: r).length := (List.takeWhile_prefix nlf).length_le
          have dl : (t.drop p).length = t.length - p := List.length_drop
          rw [h] at dl
          by_cases hx : ((b :: r).takeWhile nlf).length = (b :: r).length
          · dsimp only
            rw [if_pos hx]
            have e0 : (b :: r).drop (((b :: r).takeWhile nlf).length + 1) = [] := List.drop_eq_nil_of_le (by (first | lia | omega))
            rw [e0]
            show endR t = _
            have last : t.getLast? ≠ some 10 := by
              have full : (b :: r).takeWhile nlf = b :: r := (List.takeWhile_prefix nlf).eq_of_length hx
              have l1 : t.getLast? = (b :: r).getLast? := by
                rw [← h, List.getLast?_drop]
                rw [if_neg (by have : (b :: r).length = r.length + 1 := rfl; (first | lia | omega))]
              rw [l1]
              intro z
              have m : (10 : Int) ∈ (b :: r) := List.mem_of_getLast? z
              rw [← full] at m
              have := List.all_eq_true.mp (List.all_takeWhile (l := b :: r) (p := nlf)) _ m
              simp [nlf] at this
            unfold endR
            rw [if_neg last]
            have : p + (b :: r).length = t.length := by
              have : (b :: r).length = r.length + 1 := rfl
              (first | lia | omega)
            rw [this]
            rfl
          · dsimp only
            rw [if_neg hx]
            have pl : p + ((b :: r).takeWhile nlf).length + 1 ≤ t.length := by
              have : (b :: r).length = r.length + 1 := rfl
              (first | lia | omega)
            have nx := ih (k + 1) (p + ((b :: r).takeWhile nlf).length + 1) ((b :: r).drop (((b :: r).takeWhile nlf).length + 1)) (by rw [← h, List.drop_drop, Nat.add_assoc]) (by rw [List.length_drop]; (first | lia | omega)) (by (first | lia | omega)) pl (fun z => by
              have ll : (b :: r).length = ((b :: r).takeWhile nlf).length + 1 := by
                have := congrArg List.length z
                rw [List.length_drop] at this
                simp only [List.length_nil] at this
                (first | lia | omega)
              have l1 : t.getLast? = (b :: r).getLast? := by
                rw [← h, List.getLast?_drop]
                rw [if_neg (by have : (b :: r).length = r.length + 1 := rfl; (first | lia | omega))]
              have dw := List.takeWhile_append_dropWhile (p := nlf) (l := b :: r)
              cases hdw : (b :: r).dropWhile nlf with
              | nil =>
                rw [hdw, List.append_nil] at dw
                exact absurd (congrArg List.length dw) hx
              | cons c cs =>
                have hc : nlf c = false := by
                  have := List.head_dropWhile_not nlf (by rw [hdw]; simp : (b :: r).dropWhile nlf ≠ [])
                  simp only [hdw, List.head_cons] at this
                  exact this
                have hcs : cs = [] := by
                  have := congrArg List.length dw
                  rw [hdw, List.length_append, List.length_cons] at this
                  exact List.length_eq_zero_iff.mp (by (first | lia | omega))
                rw [l1, ← dw, hdw, hcs, List.getLast?_append]
                simp [nlf] at hc
                rw [hc]
                rfl)
            generalize hlf : linesFrom f (k + 1) (p + ((b :: r).takeWhile nlf).length + 1) (List.map cz ((b :: r).drop (((b :: r).takeWhile nlf).length + 1))) = R at nx ⊢
            cases R with
            | error e =>
              obtain ⟨n, q⟩ := e
              exact nx
            | ok x =>
              obtain ⟨n1, n2, n3, n4⟩ := nx
              refine ⟨n1, by rw [n2], fun c m => ?_, by rw [List.length_cons]; (first | lia | omega)⟩
              rcases List.mem_cons.mp m with rfl | m
              · exact l3
              · exact n3 c m
theorem box_is {t : List Int} (hb : Byts t) (hl : t.length ≤ 4096) : match readBox (t.map cz) with
    | .error (n, q) => boxRef t = [-2, (n : Int), (q : Int)]
    | .ok x => boxRef t = [] ∧ blks t = x ∧ BoxOk x ∧ x.length ≤ 20 := by
  have eb : boxRef t = goR t 0 (begR true 0 t) := by
    unfold boxRef
    rw [if_neg (by (first | lia | omega)), begs_eq]
  have ek : blks t = (begR true 0 t).map (fun p => blkOf (sizeL (lineAt t p))) := by
    unfold blks
    rw [begs_eq]
  rw [eb, ek]
  unfold readBox
  by_cases h : t = []
  · subst h
    rfl
  · rw [if_neg (by simpa using h), List.length_map]
    have := lines_is hb t.length 0 0 t List.drop_zero (Nat.le_refl _) (by (first | lia | omega)) (Nat.zero_le _) (fun z => absurd z h)
    split at this
    · exact this
    · obtain ⟨a, b, c, d⟩ := this
      exact ⟨a, b, c, by (first | lia | omega)⟩
end GA

set_option linter.all false
namespace GA
open FtBlocks

theorem sub_iff : ∀ (l : List Nat), l.Pairwise (· < ·) → ∀ s : List Nat, s.Sublist l ↔ s.Pairwise (· < ·) ∧ ∀ a ∈ s, a ∈ l := by
  intro l
  induction l with
  | nil =>
    intro _ s
    constructor
    · intro h
      have := List.sublist_nil.mp h
      subst this
      exact ⟨.nil, fun a m => absurd m (by simp)⟩
    · rintro ⟨_, h⟩
      cases s with
      | nil => exact .refl _
      | cons a s => exact absurd (h a List.mem_cons_self) (by simp)
  | cons b l ih =>
    intro hl s
    constructor
    · intro h
      exact ⟨hl.sublist h, fun a m => h.subset m⟩
    · rintro ⟨hs, hm⟩
      rw [List.pairwise_cons] at hl
      cases s with
      | nil => exact List.nil_sublist _
      | cons a s =>
        rw [List.pairwise_cons] at hs
        by_cases e : a = b
        · subst e
          refine List.Sublist.cons₂ _ ((ih hl.2 s).mpr ⟨hs.2, fun c m => ?_⟩)
          rcases List.mem_cons.mp (hm c (List.mem_cons_of_mem _ m)) with z | z
          · have := hs.1 c m
            (first | lia | omega)
          · exact z
        · have ha : a ∈ l := (List.mem_cons.mp (hm a List.mem_cons_self)).resolve_left e
          refine List.Sublist.cons _ ((ih hl.2 (a :: s)).mpr ⟨List.pairwise_cons.mpr hs, fun c m => ?_⟩)
          rcases List.mem_cons.mp m with rfl | m
          · exact ha
          · rcases List.mem_cons.mp (hm c (List.mem_cons_of_mem _ m)) with z | z
            · have h1 := hs.1 c m
              have h2 := hl.1 a ha
              (first | lia | omega)
            · exact z
def longer (rows : List (List Nat)) (fr : List Nat) : List (List Nat) := rows.flatMap fun r => (fr.filter fun i => decide (r.getLastD 0 < i)).map fun i => r ++ [i]
def rowsN (fr : List Nat) : Nat → List (List Nat)
  | 0 => fr.map fun i => [i]
  | k + 1 => longer (rowsN fr k) fr
def allTo (fr : List Nat) : Nat → List (List Nat)
  | 0 => rowsN fr 0
  | k + 1 => allTo fr k ++ rowsN fr (k + 1)
theorem le_last : ∀ (r : List Nat), r.Pairwise (· < ·) → ∀ a ∈ r, a ≤ r.getLastD 0 := by
  intro r
  induction r with
  | nil => exact fun _ a m => absurd m (by simp)
  | cons b r ih =>
    intro h a m
    rw [List.pairwise_cons] at h
    cases r with
    | nil =>
      simp at m
      rw [m]
      exact Nat.le_refl _
    | cons c r =>
      have e : (b :: c :: r).getLastD 0 = (c :: r).getLastD 0 := by simp [List.getLastD_cons]
      rw [e]
      rcases List.mem_cons.mp m with rfl | m
      · have h1 := h.1 c List.mem_cons_self
        have h2 := ih h.2 c List.mem_cons_self
        (first | lia | omega)
      · exact ih h.2 a m
theorem last_mem : ∀ (r : List Nat), r ≠ [] → r.getLastD 0 ∈ r := by
  intro r h
  rw [List.getLastD_eq_getLast?, List.getLast?_eq_some_getLast h, Option.getD_some]
  exact List.getLast_mem h
theorem mem_rowsN (fr : List Nat) : ∀ (k : Nat) (s : List Nat), s ∈ rowsN fr k ↔ s.length = k + 1 ∧ s.Pairwise (· < ·) ∧ ∀ a ∈ s, a ∈ fr := by
  intro k
  induction k with
  | zero =>
    intro s
    show s ∈ fr.map (fun i => [i]) ↔ _
    rw [List.mem_map]
    constructor
    · rintro ⟨i, hi, rfl⟩
      exact ⟨rfl, by simp, fun a m => by simp at m; rw [m]; exact hi⟩
    · rintro ⟨h1, _, h3⟩
      match s, h1 with
      | [i], _ => exact ⟨i, h3 i (by simp), rfl⟩
  | succ k ih =>
    intro s
    show s ∈ (rowsN fr k).flatMap _ ↔ _
    rw [List.mem_flatMap]
    constructor
    · rintro ⟨r, hr, hs⟩
      obtain ⟨i, hi, rfl⟩ := List.mem_map.mp hs
      obtain ⟨hi1, hi2⟩ := List.mem_filter.mp hi
      obtain ⟨r1, r2, r3⟩ := (ih r).mp hr
      refine ⟨by simp [r1], ?_, fun a m => ?_⟩
      · rw [List.pairwise_append]
        refine ⟨r2, by simp, fun a ha b hb => ?_⟩
        have hb' : b = i := by simpa using hb
        have := le_last r r2 a ha
        have hi3 : r.getLastD 0 < i := by simpa using hi2
        (first | lia | omega)
      · rcases List.mem_append.mp m with m | m
        · exact r3 a m
        · have : a = i := by simpa using m
          rw [this]
          exact hi1
    · rintro ⟨h1, h2, h3⟩
      have hn : s ≠ [] := fun z => by rw [z] at h1; simp at h1
      have e := List.dropLast_concat_getLast hn
      rw [← e] at h2
      have h2' := List.pairwise_append.mp h2
      have dl : s.dropLast.length = k + 1 := by rw [List.length_dropLast]; (first | lia | omega)
      have dn : s.dropLast ≠ [] := fun z => by rw [z] at dl; simp at dl
      refine ⟨s.dropLast, (ih _).mpr ⟨dl, h2'.1, fun a m => h3 a ((List.dropLast_sublist s).subset m)⟩, List.mem_map.mpr ⟨s.getLast hn, List.mem_filter.mpr ⟨h3 _ (List.getLast_mem hn), ?_⟩, e⟩⟩
      have := h2'.2.2 _ (last_mem _ dn) (s.getLast hn) (by simp)
      simpa using this
theorem mem_allTo (fr : List Nat) : ∀ (k : Nat) (s : List Nat), s ∈ allTo fr k ↔ s ≠ [] ∧ s.length ≤ k + 1 ∧ s.Pairwise (· < ·) ∧ ∀ a ∈ s, a ∈ fr := by
  intro k
  induction k with
  | zero =>
    intro s
    show s ∈ rowsN fr 0 ↔ _
    rw [mem_rowsN]
    constructor
    · rintro ⟨h1, h⟩
      exact ⟨fun z => by rw [z] at h1; simp at h1, by (first | lia | omega), h⟩
    · rintro ⟨h1, h2, h⟩
      have : s.length ≠ 0 := fun z => h1 (List.length_eq_zero_iff.mp z)
      exact ⟨by (first | lia | omega), h⟩
  | succ k ih =>
    intro s
    show s ∈ allTo fr k ++ rowsN fr (k + 1) ↔ _
    rw [List.mem_append, ih, mem_rowsN]
    constructor
    · rintro (⟨h1, h2, h⟩ | ⟨h1, h⟩)
      · exact ⟨h1, by (first | lia | omega), h⟩
      · exact ⟨fun z => by rw [z] at h1; simp at h1, by (first | lia | omega), h⟩
    · rintro ⟨h1, h2, h⟩
      by_cases e : s.length = k + 1 + 1
      · exact .inr ⟨e, h⟩
      · exact .inl ⟨h1, by (first | lia | omega), h⟩
theorem free_rising (x : Box) (bar : List Nat) : (free x bar).Pairwise (· < ·) := by
  unfold free
  exact List.pairwise_lt_range.filter _
theorem mem_all (x : Box) (bar : List Nat) (s : List Nat) : s ∈ allTo (free x bar) 4 ↔ s ∈ stacks x bar := by
  rw [mem_allTo, mem_stacks, sub_iff _ (free_rising x bar)]
theorem rows_len (fr : List Nat) : ∀ k, (rowsN fr k).length ≤ fr.length ^ (k + 1) := by
  intro k
  induction k with
  | zero => simp [rowsN]
  | succ k ih =>
    show ((rowsN fr k).flatMap _).length ≤ _
    rw [List.length_flatMap]
    have : ∀ (l : List (List Nat)), (l.map fun r => ((fr.filter fun i => decide (r.getLastD 0 < i)).map fun i => r ++ [i]).length).sum ≤ l.length * fr.length := by
      intro l
      induction l with
      | nil => simp
      | cons r l ih2 =>
        rw [List.map_cons, List.sum_cons, List.length_cons, Nat.succ_mul]
        have h : ((fr.filter fun i => decide (r.getLastD 0 < i)).map fun i => r ++ [i]).length ≤ fr.length := by
          rw [List.length_map]
          exact List.length_filter_le _ _
        (first | lia | omega)
    refine Nat.le_trans (this _) ?_
    rw [Nat.pow_succ]
    exact Nat.mul_le_mul_right _ ih
theorem free_len (x : Box) (bar : List Nat) : (free x bar).length ≤ x.length := by
  unfold free
  refine Nat.le_trans (List.length_filter_le _ _) ?_
  rw [List.length_range]
  exact Nat.le_refl _

theorem lessRow_trans : ∀ (s t u : Stack), lessRow s t = true → lessRow t u = true → lessRow s u = true := by
  intro s
  induction s with
  | nil =>
    intro t u h1 h2
    cases t with
    | nil => cases h1
    | cons b t =>
      cases u with
      | nil => simp [lessRow] at h2
      | cons c u => rfl
  | cons a s ih =>
    intro t u h1 h2
    cases t with
    | nil => simp [lessRow] at h1
    | cons b t =>
      cases u with
      | nil => simp [lessRow] at h2
      | cons c u =>
        simp only [lessRow, Bool.or_eq_true, Bool.and_eq_true, decide_eq_true_eq, beq_iff_eq] at h1 h2 ⊢
        rcases h1 with h1 | ⟨h1, h1'⟩ <;> rcases h2 with h2 | ⟨h2, h2'⟩
        · exact .inl (by (first | lia | omega))
        · exact .inl (by (first | lia | omega))
        · exact .inl (by (first | lia | omega))
        · exact .inr ⟨by (first | lia | omega), ih t u h1' h2'⟩
theorem better_trans {x : Box} {film : Nat} {s t u : Stack} (h1 : better x film s t = true) (h2 : better x film t u = true) : better x film s u = true := by
  rw [better_iff] at *
  rcases h1 with h1 | ⟨a1, h1⟩ <;> rcases h2 with h2 | ⟨a2, h2⟩
  · exact .inl (by (first | lia | omega))
  · exact .inl (by (first | lia | omega))
  · exact .inl (by (first | lia | omega))
  · refine .inr ⟨by (first | lia | omega), ?_⟩
    rcases h1 with h1 | ⟨b1, h1⟩ <;> rcases h2 with h2 | ⟨b2, h2⟩
    · exact .inl (by (first | lia | omega))
    · exact .inl (by (first | lia | omega))
    · exact .inl (by (first | lia | omega))
    · exact .inr ⟨by (first | lia | omega), lessRow_trans s t u h1 h2⟩
def BestInv (x : Box) (film : Nat) (z : Int) (l : List Stack) (b : Stack) : Prop :=
  (b = [] ∧ ∀ s ∈ l, long x s ≠ z) ∨ (b ≠ [] ∧ b ∈ l ∧ long x b = z ∧ ∀ s ∈ l, long x s = z → s = b ∨ better x film b s = true)
theorem best_skip0 {x : Box} {film : Nat} {z : Int} {l : List Stack} {b s : Stack} (h : BestInv x film z l b) (hz : long x s ≠ z) : BestInv x film z (l ++ [s]) b := by
  rcases h with ⟨h1, h2⟩ | ⟨h1, h2, h3, h4⟩
  · refine .inl ⟨h1, fun t m => ?_⟩
    rcases List.mem_append.mp m with m | m
    · exact h2 t m
    · have : t = s := by simpa using m
      rw [this]
      exact hz
  · refine .inr ⟨h1, List.mem_append_left _ h2, h3, fun t m e => ?_⟩
    rcases List.mem_append.mp m with m | m
    · exact h4 t m e
    · have : t = s := by simpa using m
      rw [this] at e
      exact absurd e hz
theorem best_take {x : Box} {film : Nat} {z : Int} {l : List Stack} {b s : Stack} (h : BestInv x film z l b) (hs : s ≠ []) (hz : long x s = z) (hb : b = [] ∨ better x film s b = true) : BestInv x film z (l ++ [s]) s := by
  refine .inr ⟨hs, List.mem_append_right _ (by simp), hz, fun t m e => ?_⟩
  rcases List.mem_append.mp m with m | m
  · rcases h with ⟨h1, h2⟩ | ⟨h1, h2, h3, h4⟩
    · exact absurd e (h2 t m)
    · have hb := hb.resolve_left h1
      rcases h4 t m e with rfl | q
      · exact .inr hb
      · exact .inr (better_trans hb q)
  · exact .inl (by simpa using m)
theorem best_keep {x : Box} {film : Nat} {z : Int} {l : List Stack} {b s : Stack} (h : BestInv x film z l b) (hb : b ≠ []) (hn : better x film s b = false) : BestInv x film z (l ++ [s]) b := by
  rcases h with ⟨h1, h2⟩ | ⟨h1, h2, h3, h4⟩
  · exact absurd h1 hb
  · refine .inr ⟨h1, List.mem_append_left _ h2, h3, fun t m e => ?_⟩
    rcases List.mem_append.mp m with m | m
    · exact h4 t m e
    · have e2 : t = s := by simpa using m
      subst e2
      by_cases q : t = b
      · exact .inl q
      · rcases better_total (x := x) (film := film) q with z | z
        · rw [z] at hn
          cases hn
        · exact .inr z
theorem best_end {x : Box} {film : Nat} {bar : List Nat} {z : Int} {b : Stack} {l : List Stack} (hl : ∀ s, s ∈ l ↔ s ∈ stacks x bar) (h : BestInv x film z l b) : FtBlocks.best x film bar z = if b = [] then none else some b := by
  rcases h with ⟨h1, h2⟩ | ⟨h1, h2, h3, h4⟩
  · rw [if_pos h1]
    exact best_none fun t m => h2 t ((hl t).mpr m)
  · rw [if_neg h1]
    exact best_eq ((hl b).mp h2) h3 fun t m e => h4 t ((hl t).mpr m) e

end GA

set_option linter.all false
namespace GA
open Ft FtBlocks

theorem bytes_of {t : List Int} (hb : Byts t) : NeutralIO.bytes t = true := by
  unfold NeutralIO.bytes
  rw [List.all_eq_true]
  intro b m
  have := hb b m
  simp [this.1, this.2]
theorem sizeL_cases {t : List Int} (hb : Byts t) : (∃ k p : Int, sizeL t = [-2, k, p]) ∨ ∃ n lo hi f l g : Int, sizeL t = [0, n, lo, hi, f, l, g] := by
  rw [size_is hb]
  cases Ft.read (t.map cz) with
  | error e => exact .inl ⟨_, _, rfl⟩
  | ok s => exact .inr ⟨_, _, _, _, _, _, rfl⟩
end GA

set_option linter.all false
namespace GA
open Ft FtBlocks

theorem ofBox_is {t : List Int} (hb : Byts t) (f : Box → List Int) : FitA.ofBox (FitANeutral.text t) f = if boxRef t = [] then f (blks t) else boxRef t := by
  unfold FitA.ofBox
  rw [text_map, List.length_map]
  by_cases h : 4096 < t.length
  · rw [if_pos (show FitA.BOX < t.length from h)]
    have : boxRef t = [-1] := by
      unfold boxRef
      rw [if_pos h]
    rw [this, if_neg (by simp)]
  · rw [if_neg (show ¬ FitA.BOX < t.length from h)]
    have B := box_is hb (by (first | lia | omega))
    cases hr : readBox (t.map cz) with
    | error e =>
      obtain ⟨n, q⟩ := e
      rw [hr] at B
      have B : boxRef t = [-2, (n : Int), (q : Int)] := B
      rw [B, if_neg (by simp)]
      rfl
    | ok x =>
      rw [hr] at B
      obtain ⟨b1, b2, _, _⟩ := B
      rw [b1, b2, if_pos rfl]
theorem box_ok {t : List Int} (hb : Byts t) (h : boxRef t = []) : BoxOk (blks t) ∧ (blks t).length ≤ 20 ∧ t.length ≤ 4096 := by
  have hl : t.length ≤ 4096 := by
    by_cases z : 4096 < t.length
    · unfold boxRef at h
      rw [if_pos z] at h
      cases h
    · (first | lia | omega)
  have B := box_is hb hl
  cases hr : readBox (t.map cz) with
  | error e =>
    obtain ⟨n, q⟩ := e
    rw [hr] at B
    have B : boxRef t = [-2, (n : Int), (q : Int)] := B
    rw [B] at h
    cases h
  | ok x =>
    rw [hr] at B
    obtain ⟨b1, b2, b3, b4⟩ := B
    rw [b2]
    exact ⟨b3, b4, hl⟩
def NonNeg (l : List Int) : Prop := ∀ b ∈ l, 0 ≤ b
theorem nonneg_of {l : List Int} (h : NonNeg l) : FitANeutral.nonneg l = true := by
  unfold FitANeutral.nonneg
  rw [List.all_eq_true]
  intro b m
  simp [h b m]
theorem NonNeg.cons {a : Int} {l : List Int} (h : 0 ≤ a) (hl : NonNeg l) : NonNeg (a :: l) := fun b m => by
  rcases List.mem_cons.mp m with rfl | m
  · exact h
  · exact hl b m
def listL (s : Stack) : List Int := (s.length : Int) :: s.map fun (i : Nat) => (i : Int)
theorem next_val {f z up : Int} {t bar : List Int} (hb : Byts t) (f0 : 0 ≤ f) (u0 : 0 ≤ up) (hr : NonNeg bar) : PyWqajbp.next_of f z up t bar = if boxRef t = [] then (if 1000 < f then [-3] else match (FtBlocks.nearest (blks t) (FitANeutral.nats bar) (up.toNat != 0) z).bind (FtBlocks.best (blks t) f.toNat (FitANeutral.nats bar)) with
    | none => [-5]
    | some s => listL s) else boxRef t := by
  show (match (if NeutralIO.bytes t = true ∧ FitANeutral.nonneg (f :: up :: bar) = true then some (FitA.Call.next (FitANeutral.text t) f.toNat z up.toNat (FitANeutral.nats bar)) else none) with | some x => FitA.answer x | none => []) = _
  rw [if_pos ⟨bytes_of hb, nonneg_of ((hr.cons u0).cons f0)⟩]
  have e : (FtBlocks.FILM < f.toNat) ↔ 1000 < f := by show 1000 < f.toNat ↔ _; (first | lia | omega)
  have u : FitA.answer (.next (FitANeutral.text t) f.toNat z up.toNat (FitANeutral.nats bar)) = FitA.ofBox (FitANeutral.text t) fun x => if FtBlocks.FILM < f.toNat then FitA.BAD else match (FtBlocks.nearest x (FitANeutral.nats bar) (up.toNat != 0) z).bind (FtBlocks.best x f.toNat (FitANeutral.nats bar)) with
    | none => FitA.NONE
    | some s => FitA.list s := rfl
  show FitA.answer _ = _
  rw [u, ofBox_is hb]
  simp only [e]
  rfl
end GA

namespace GBP
open PySem PySem.Spec PyProof.Rows L2 GB
def top (i : Nat) : Stmt := PySem.Challenge.pw_gaugeblocks_s12_next_of.main.body.getD i (.Pass ⟨0, 0, 0, 0⟩)
abbrev st_byte_at : Stmt := top 13
abbrev st_is_digit : Stmt := top 14
abbrev st_is_sign : Stmt := top 15
abbrev st_digits_end : Stmt := top 16
abbrev st_digits_value : Stmt := top 17
abbrev st_whole_end : Stmt := top 18
abbrev st_decimals_end : Stmt := top 19
abbrev st_number_at : Stmt := top 20
abbrev st_deviation_at : Stmt := top 21
abbrev st_grade_at : Stmt := top 22
abbrev st_is_nominal : Stmt := top 26
abbrev st_are_fit : Stmt := top 27
abbrev st_unit_of : Stmt := top 28
abbrev st_root_up : Stmt := top 29
abbrev st_width_of : Stmt := top 30
abbrev st_step_of : Stmt := top 31
abbrev st_is_shaft_letter : Stmt := top 32
abbrev st_is_hole_letter : Stmt := top 33
abbrev st_is_letter : Stmt := top 34
abbrev st_letter_number : Stmt := top 35
abbrev st_code_limits : Stmt := top 36
abbrev st_end_fault : Stmt := top 42
abbrev st_deviations_fault : Stmt := top 43
abbrev st_tail_fault : Stmt := top 44
abbrev st_shape_fault : Stmt := top 45
abbrev st_fault : Stmt := top 46
abbrev st_fit_or_fault : Stmt := top 47
abbrev st_size_both_ways : Stmt := top 48
abbrev st_size_of_deviations : Stmt := top 49
abbrev st_size_of_code : Stmt := top 50
abbrev st_size_of : Stmt := top 51
abbrev st_line_begins : Stmt := top 60
abbrev st_line_at : Stmt := top 61
abbrev st_is_block : Stmt := top 62
abbrev st_line_refusal : Stmt := top 63
abbrev st_box_refusal : Stmt := top 64
abbrev st_blocks_of : Stmt := top 65
abbrev st_length_of : Stmt := top 69
abbrev st_least_of : Stmt := top 70
abbrev st_most_of : Stmt := top 71
abbrev st_doubt_of : Stmt := top 72
abbrev st_one_longer : Stmt := top 73
abbrev st_stacks_without : Stmt := top 74
abbrev st_is_better : Stmt := top 75
abbrev st_best_stack : Stmt := top 76
abbrev st_lengths_of : Stmt := top 77
abbrev st_nearest_length : Stmt := top 78
abbrev st_box_or_film_refusal : Stmt := top 80
abbrev st_next_of : Stmt := top 81
noncomputable def hD_0 (P : Params) : List DictEntry := [⟨PyData.keyHash P "__name__", (.str "__name__" 165), (.str "gaugeblocks.sizes" 659)⟩, ⟨PyData.keyHash P "__doc__", (.str "__doc__" 166), .none⟩, ⟨PyData.keyHash P "__package__", (.str "__package__" 167), .none⟩, ⟨PyData.keyHash P "__loader__", (.str "__loader__" 168), (.builtin "__main__.__loader__#opaque")⟩, ⟨PyData.keyHash P "__spec__", (.str "__spec__" 169), .none⟩, ⟨PyData.keyHash P "__annotations__", (.str "__annotations__" 170), (.ref 6)⟩, ⟨PyData.keyHash P "__builtins__", (.str "__builtins__" 171), (.ref 4)⟩, ⟨PyData.keyHash P "__file__", (.str "__file__" 173), (.str "/claim/cut.py" 172)⟩]
noncomputable def hD_1 (P : Params) : List DictEntry := [⟨PyData.keyHash P "__cached__", (.str "__cached__" 174), .none⟩, ⟨PyData.keyHash P "BLANK", (.str "BLANK" 190), (.int (32) 189)⟩, ⟨PyData.keyHash P "PLUS", (.str "PLUS" 192), (.int (43) 191)⟩, ⟨PyData.keyHash P "MINUS", (.str "MINUS" 194), (.int (45) 193)⟩, ⟨PyData.keyHash P "POINT", (.str "POINT" 196), (.int (46) 195)⟩, ⟨PyData.keyHash P "ZERO", (.str "ZERO" 198), (.int (48) 197)⟩, ⟨PyData.keyHash P "ONE", (.str "ONE" 200), (.int (49) 199)⟩, ⟨PyData.keyHash P "SIX", (.str "SIX" 202), (.int (54) 201)⟩]
noncomputable def hD_2 (P : Params) : List DictEntry := [⟨PyData.keyHash P "NINE", (.str "NINE" 204), (.int (57) 203)⟩, ⟨PyData.keyHash P "TICKS", (.str "TICKS" 206), (.int (10000) 205)⟩, ⟨PyData.keyHash P "MOST_DIGITS", (.str "MOST_DIGITS" 208), (.int (9) 207)⟩, ⟨PyData.keyHash P "MOST_DECIMALS", (.str "MOST_DECIMALS" 210), (.int (4) 209)⟩, ⟨PyData.keyHash P "DECIMAL_TICKS", (.str "DECIMAL_TICKS" 215), (.ref 15)⟩, ⟨PyData.keyHash P "byte_at", (.str "byte_at" 223), (.ref 22)⟩, ⟨PyData.keyHash P "is_digit", (.str "is_digit" 230), (.ref 29)⟩, ⟨PyData.keyHash P "is_sign", (.str "is_sign" 237), (.ref 36)⟩]
noncomputable def hD_3 (P : Params) : List DictEntry := [⟨PyData.keyHash P "digits_end", (.str "digits_end" 247), (.ref 43)⟩, ⟨PyData.keyHash P "digits_value", (.str "digits_value" 258), (.ref 50)⟩, ⟨PyData.keyHash P "whole_end", (.str "whole_end" 266), (.ref 57)⟩, ⟨PyData.keyHash P "decimals_end", (.str "decimals_end" 275), (.ref 64)⟩, ⟨PyData.keyHash P "number_at", (.str "number_at" 286), (.ref 71)⟩, ⟨PyData.keyHash P "deviation_at", (.str "deviation_at" 295), (.ref 78)⟩, ⟨PyData.keyHash P "grade_at", (.str "grade_at" 305), (.ref 85)⟩, ⟨PyData.keyHash P "GREATEST_SIZE", (.str "GREATEST_SIZE" 309), (.int (2147483647) 308)⟩]
noncomputable def hD_4 (P : Params) : List DictEntry := [⟨PyData.keyHash P "GREATEST_DEVIATION", (.str "GREATEST_DEVIATION" 311), (.int (1073741824) 310)⟩, ⟨PyData.keyHash P "is_nominal", (.str "is_nominal" 318), (.ref 92)⟩, ⟨PyData.keyHash P "are_fit", (.str "are_fit" 327), (.ref 99)⟩, ⟨PyData.keyHash P "unit_of", (.str "unit_of" 335), (.ref 106)⟩, ⟨PyData.keyHash P "root_up", (.str "root_up" 345), (.ref 113)⟩, ⟨PyData.keyHash P "width_of", (.str "width_of" 354), (.ref 120)⟩, ⟨PyData.keyHash P "step_of", (.str "step_of" 362), (.ref 127)⟩, ⟨PyData.keyHash P "is_shaft_letter", (.str "is_shaft_letter" 369), (.ref 134)⟩]
noncomputable def hD_5 (P : Params) : List DictEntry := [⟨PyData.keyHash P "is_hole_letter", (.str "is_hole_letter" 376), (.ref 141)⟩, ⟨PyData.keyHash P "is_letter", (.str "is_letter" 383), (.ref 148)⟩, ⟨PyData.keyHash P "letter_number", (.str "letter_number" 390), (.ref 155)⟩, ⟨PyData.keyHash P "code_limits", (.str "code_limits" 402), (.ref 162)⟩, ⟨PyData.keyHash P "ALONE", (.str "ALONE" 406), (.int (0) 405)⟩, ⟨PyData.keyHash P "BOTH_WAYS", (.str "BOTH_WAYS" 408), (.int (1) 407)⟩, ⟨PyData.keyHash P "TWO_DEVIATIONS", (.str "TWO_DEVIATIONS" 410), (.int (2) 409)⟩, ⟨PyData.keyHash P "CODE", (.str "CODE" 412), (.int (3) 411)⟩]
noncomputable def hD_6 (P : Params) : List DictEntry := [⟨PyData.keyHash P "end_fault", (.str "end_fault" 420), (.ref 169)⟩, ⟨PyData.keyHash P "deviations_fault", (.str "deviations_fault" 430), (.ref 176)⟩, ⟨PyData.keyHash P "tail_fault", (.str "tail_fault" 439), (.ref 183)⟩, ⟨PyData.keyHash P "shape_fault", (.str "shape_fault" 448), (.ref 190)⟩, ⟨PyData.keyHash P "fault", (.str "fault" 456), (.ref 197)⟩, ⟨PyData.keyHash P "fit_or_fault", (.str "fit_or_fault" 464), (.ref 204)⟩, ⟨PyData.keyHash P "size_both_ways", (.str "size_both_ways" 474), (.ref 211)⟩, ⟨PyData.keyHash P "size_of_deviations", (.str "size_of_deviations" 487), (.ref 218)⟩]
noncomputable def hD_7 (P : Params) : List DictEntry := [⟨PyData.keyHash P "size_of_code", (.str "size_of_code" 499), (.ref 225)⟩, ⟨PyData.keyHash P "size_of", (.str "size_of" 510), (.ref 232)⟩, ⟨PyData.keyHash P "LINE_FEED", (.str "LINE_FEED" 514), (.int (10) 513)⟩, ⟨PyData.keyHash P "LONGEST_BOX_TEXT", (.str "LONGEST_BOX_TEXT" 516), (.int (4096) 515)⟩, ⟨PyData.keyHash P "MOST_BLOCKS", (.str "MOST_BLOCKS" 518), (.int (20) 517)⟩, ⟨PyData.keyHash P "LEAST_LENGTH", (.str "LEAST_LENGTH" 520), (.int (10) 519)⟩, ⟨PyData.keyHash P "GREATEST_LENGTH", (.str "GREATEST_LENGTH" 522), (.int (1000000) 521)⟩, ⟨PyData.keyHash P "LENGTH_STEP", (.str "LENGTH_STEP" 524), (.int (10) 523)⟩]
noncomputable def hD_8 (P : Params) : List DictEntry := [⟨PyData.keyHash P "GREATEST_LIMIT", (.str "GREATEST_LIMIT" 526), (.int (4096) 525)⟩, ⟨PyData.keyHash P "line_begins", (.str "line_begins" 532), (.ref 237)⟩, ⟨PyData.keyHash P "line_at", (.str "line_at" 541), (.ref 244)⟩, ⟨PyData.keyHash P "is_block", (.str "is_block" 551), (.ref 251)⟩, ⟨PyData.keyHash P "line_refusal", (.str "line_refusal" 561), (.ref 258)⟩, ⟨PyData.keyHash P "box_refusal", (.str "box_refusal" 571), (.ref 265)⟩, ⟨PyData.keyHash P "blocks_of", (.str "blocks_of" 577), (.ref 270)⟩, ⟨PyData.keyHash P "MOST_IN_STACK", (.str "MOST_IN_STACK" 581), (.int (5) 580)⟩]
noncomputable def hD_9 (P : Params) : List DictEntry := [⟨PyData.keyHash P "GREATEST_FILM", (.str "GREATEST_FILM" 583), (.int (1000) 582)⟩, ⟨PyData.keyHash P "length_of", (.str "length_of" 589), (.ref 275)⟩, ⟨PyData.keyHash P "least_of", (.str "least_of" 595), (.ref 280)⟩, ⟨PyData.keyHash P "most_of", (.str "most_of" 601), (.ref 285)⟩, ⟨PyData.keyHash P "doubt_of", (.str "doubt_of" 610), (.ref 292)⟩, ⟨PyData.keyHash P "one_longer", (.str "one_longer" 616), (.ref 297)⟩, ⟨PyData.keyHash P "stacks_without", (.str "stacks_without" 622), (.ref 302)⟩, ⟨PyData.keyHash P "is_better", (.str "is_better" 634), (.ref 309)⟩]
noncomputable def hD_10 (P : Params) : List DictEntry := [⟨PyData.keyHash P "best_stack", (.str "best_stack" 646), (.ref 316)⟩, ⟨PyData.keyHash P "lengths_of", (.str "lengths_of" 652), (.ref 321)⟩, ⟨PyData.keyHash P "nearest_length", (.str "nearest_length" 658), (.ref 326)⟩, ⟨PyData.keyHash P "box_or_film_refusal", (.str "box_or_film_refusal" 669), (.ref 333)⟩, ⟨PyData.keyHash P "next_of", (.str "next_of" 684), (.ref 340)⟩]
noncomputable def hD (P : Params) : List DictEntry := hD_0 P ++ hD_1 P ++ hD_2 P ++ hD_3 P ++ hD_4 P ++ hD_5 P ++ hD_6 P ++ hD_7 P ++ hD_8 P ++ hD_9 P ++ hD_10 P
noncomputable def hA_0 (P : Params) : List Obj := [⟨(.type "tuple"), none, (.seq #[(.int (1000) 211), (.int (100) 212), (.int (10) 213), (.int (1) 214)] 0), #[]⟩, ⟨(.type "function"), none, (.func (PySem.W.fnOf "byte_at" "byte_at" (defArgs (top 13)) (defBody (top 13)) (defScope (top 13)) .none .none .none (.str "gaugeblocks.figures" 187) none (.ref 21) .none)), #[]⟩, ⟨(.type "code"), none, (.fields #[(.str "byte_at" 216), (.str "byte_at" 217), (.str "/claim/cut.py" 218), (.int (14) 0), (.int (2) 0), (.int (0) 0), (.int (0) 0), (.int (3) 0), (.ref 16), (.bool true), (.int (181) 0), (.ref 17), .none, (.ref 18), (.ref 19), (.ref 20), (.int (221) 0), (.int (14) 0), (.str "/claim/cut.py" 222)]), #[]⟩, ⟨(.type "function"), none, (.func (PySem.W.fnOf "is_digit" "is_digit" (defArgs (top 14)) (defBody (top 14)) (defScope (top 14)) .none .none .none (.str "gaugeblocks.figures" 187) none (.ref 28) .none)), #[]⟩, ⟨(.type "code"), none, (.fields #[(.str "is_digit" 224), (.str "is_digit" 225), (.str "/claim/cut.py" 226), (.int (16) 0), (.int (1) 0), (.int (0) 0), (.int (0) 0), (.int (3) 0), (.ref 23), (.bool true), (.int (181) 0), (.ref 24), .none, (.ref 25), (.ref 26), (.ref 27), (.int (228) 0), (.int (16) 0), (.str "/claim/cut.py" 229)]), #[]⟩, ⟨(.type "function"), none, (.func (PySem.W.fnOf "is_sign" "is_sign" (defArgs (top 15)) (defBody (top 15)) (defScope (top 15)) .none .none .none (.str "gaugeblocks.figures" 187) none (.ref 35) .none)), #[]⟩]
noncomputable def hA_1 (P : Params) : List Obj := [⟨(.type "code"), none, (.fields #[(.str "is_sign" 231), (.str "is_sign" 232), (.str "/claim/cut.py" 233), (.int (18) 0), (.int (1) 0), (.int (0) 0), (.int (0) 0), (.int (3) 0), (.ref 30), (.bool true), (.int (181) 0), (.ref 31), .none, (.ref 32), (.ref 33), (.ref 34), (.int (235) 0), (.int (18) 0), (.str "/claim/cut.py" 236)]), #[]⟩, ⟨(.type "function"), none, (.func (PySem.W.fnOf "digits_end" "digits_end" (defArgs (top 16)) (defBody (top 16)) (defScope (top 16)) .none .none .none (.str "gaugeblocks.figures" 187) none (.ref 42) .none)), #[]⟩, ⟨(.type "code"), none, (.fields #[(.str "digits_end" 238), (.str "digits_end" 239), (.str "/claim/cut.py" 240), (.int (20) 0), (.int (3) 0), (.int (0) 0), (.int (0) 0), (.int (3) 0), (.ref 37), (.bool true), (.int (181) 0), (.ref 38), .none, (.ref 39), (.ref 40), (.ref 41), (.int (245) 0), (.int (20) 0), (.str "/claim/cut.py" 246)]), #[]⟩, ⟨(.type "function"), none, (.func (PySem.W.fnOf "digits_value" "digits_value" (defArgs (top 17)) (defBody (top 17)) (defScope (top 17)) .none .none .none (.str "gaugeblocks.figures" 187) none (.ref 49) .none)), #[]⟩, ⟨(.type "code"), none, (.fields #[(.str "digits_value" 248), (.str "digits_value" 249), (.str "/claim/cut.py" 250), (.int (25) 0), (.int (3) 0), (.int (0) 0), (.int (0) 0), (.int (3) 0), (.ref 44), (.bool true), (.int (181) 0), (.ref 45), .none, (.ref 46), (.ref 47), (.ref 48), (.int (256) 0), (.int (25) 0), (.str "/claim/cut.py" 257)]), #[]⟩, ⟨(.type "function"), none, (.func (PySem.W.fnOf "whole_end" "whole_end" (defArgs (top 18)) (defBody (top 18)) (defScope (top 18)) .none .none .none (.str "gaugeblocks.figures" 187) none (.ref 56) .none)), #[]⟩]
noncomputable def hA_2 (P : Params) : List Obj := [⟨(.type "code"), none, (.fields #[(.str "whole_end" 259), (.str "whole_end" 260), (.str "/claim/cut.py" 261), (.int (30) 0), (.int (2) 0), (.int (0) 0), (.int (0) 0), (.int (3) 0), (.ref 51), (.bool true), (.int (181) 0), (.ref 52), .none, (.ref 53), (.ref 54), (.ref 55), (.int (264) 0), (.int (30) 0), (.str "/claim/cut.py" 265)]), #[]⟩, ⟨(.type "function"), none, (.func (PySem.W.fnOf "decimals_end" "decimals_end" (defArgs (top 19)) (defBody (top 19)) (defScope (top 19)) .none .none .none (.str "gaugeblocks.figures" 187) none (.ref 63) .none)), #[]⟩, ⟨(.type "code"), none, (.fields #[(.str "decimals_end" 267), (.str "decimals_end" 268), (.str "/claim/cut.py" 269), (.int (32) 0), (.int (2) 0), (.int (0) 0), (.int (0) 0), (.int (3) 0), (.ref 58), (.bool true), (.int (181) 0), (.ref 59), .none, (.ref 60), (.ref 61), (.ref 62), (.int (273) 0), (.int (32) 0), (.str "/claim/cut.py" 274)]), #[]⟩, ⟨(.type "function"), none, (.func (PySem.W.fnOf "number_at" "number_at" (defArgs (top 20)) (defBody (top 20)) (defScope (top 20)) .none .none .none (.str "gaugeblocks.figures" 187) none (.ref 70) .none)), #[]⟩, ⟨(.type "code"), none, (.fields #[(.str "number_at" 276), (.str "number_at" 277), (.str "/claim/cut.py" 278), (.int (37) 0), (.int (2) 0), (.int (0) 0), (.int (0) 0), (.int (3) 0), (.ref 65), (.bool true), (.int (181) 0), (.ref 66), .none, (.ref 67), (.ref 68), (.ref 69), (.int (284) 0), (.int (37) 0), (.str "/claim/cut.py" 285)]), #[]⟩, ⟨(.type "function"), none, (.func (PySem.W.fnOf "deviation_at" "deviation_at" (defArgs (top 21)) (defBody (top 21)) (defScope (top 21)) .none .none .none (.str "gaugeblocks.figures" 187) none (.ref 77) .none)), #[]⟩]
noncomputable def hA_3 (P : Params) : List Obj := [⟨(.type "code"), none, (.fields #[(.str "deviation_at" 287), (.str "deviation_at" 288), (.str "/claim/cut.py" 289), (.int (48) 0), (.int (2) 0), (.int (0) 0), (.int (0) 0), (.int (3) 0), (.ref 72), (.bool true), (.int (181) 0), (.ref 73), .none, (.ref 74), (.ref 75), (.ref 76), (.int (293) 0), (.int (48) 0), (.str "/claim/cut.py" 294)]), #[]⟩, ⟨(.type "function"), none, (.func (PySem.W.fnOf "grade_at" "grade_at" (defArgs (top 22)) (defBody (top 22)) (defScope (top 22)) .none .none .none (.str "gaugeblocks.figures" 187) none (.ref 84) .none)), #[]⟩, ⟨(.type "code"), none, (.fields #[(.str "grade_at" 296), (.str "grade_at" 297), (.str "/claim/cut.py" 298), (.int (53) 0), (.int (2) 0), (.int (0) 0), (.int (0) 0), (.int (3) 0), (.ref 79), (.bool true), (.int (181) 0), (.ref 80), .none, (.ref 81), (.ref 82), (.ref 83), (.int (303) 0), (.int (53) 0), (.str "/claim/cut.py" 304)]), #[]⟩, ⟨(.type "function"), none, (.func (PySem.W.fnOf "is_nominal" "is_nominal" (defArgs (top 26)) (defBody (top 26)) (defScope (top 26)) .none .none .none (.str "gaugeblocks.limits" 306) none (.ref 91) .none)), #[]⟩, ⟨(.type "code"), none, (.fields #[(.str "is_nominal" 312), (.str "is_nominal" 313), (.str "/claim/cut.py" 314), (.int (64) 0), (.int (1) 0), (.int (0) 0), (.int (0) 0), (.int (3) 0), (.ref 86), (.bool true), (.int (181) 0), (.ref 87), .none, (.ref 88), (.ref 89), (.ref 90), (.int (316) 0), (.int (64) 0), (.str "/claim/cut.py" 317)]), #[]⟩, ⟨(.type "function"), none, (.func (PySem.W.fnOf "are_fit" "are_fit" (defArgs (top 27)) (defBody (top 27)) (defScope (top 27)) .none .none .none (.str "gaugeblocks.limits" 306) none (.ref 98) .none)), #[]⟩]
noncomputable def hA_4 (P : Params) : List Obj := [⟨(.type "code"), none, (.fields #[(.str "are_fit" 319), (.str "are_fit" 320), (.str "/claim/cut.py" 321), (.int (66) 0), (.int (3) 0), (.int (0) 0), (.int (0) 0), (.int (3) 0), (.ref 93), (.bool true), (.int (181) 0), (.ref 94), .none, (.ref 95), (.ref 96), (.ref 97), (.int (325) 0), (.int (66) 0), (.str "/claim/cut.py" 326)]), #[]⟩, ⟨(.type "function"), none, (.func (PySem.W.fnOf "unit_of" "unit_of" (defArgs (top 28)) (defBody (top 28)) (defScope (top 28)) .none .none .none (.str "gaugeblocks.limits" 306) none (.ref 105) .none)), #[]⟩, ⟨(.type "code"), none, (.fields #[(.str "unit_of" 328), (.str "unit_of" 329), (.str "/claim/cut.py" 330), (.int (68) 0), (.int (1) 0), (.int (0) 0), (.int (0) 0), (.int (3) 0), (.ref 100), (.bool true), (.int (181) 0), (.ref 101), .none, (.ref 102), (.ref 103), (.ref 104), (.int (333) 0), (.int (68) 0), (.str "/claim/cut.py" 334)]), #[]⟩, ⟨(.type "function"), none, (.func (PySem.W.fnOf "root_up" "root_up" (defArgs (top 29)) (defBody (top 29)) (defScope (top 29)) .none .none .none (.str "gaugeblocks.limits" 306) none (.ref 112) .none)), #[]⟩, ⟨(.type "code"), none, (.fields #[(.str "root_up" 336), (.str "root_up" 337), (.str "/claim/cut.py" 338), (.int (73) 0), (.int (1) 0), (.int (0) 0), (.int (0) 0), (.int (3) 0), (.ref 107), (.bool true), (.int (181) 0), (.ref 108), .none, (.ref 109), (.ref 110), (.ref 111), (.int (343) 0), (.int (73) 0), (.str "/claim/cut.py" 344)]), #[]⟩, ⟨(.type "function"), none, (.func (PySem.W.fnOf "width_of" "width_of" (defArgs (top 30)) (defBody (top 30)) (defScope (top 30)) .none .none .none (.str "gaugeblocks.limits" 306) none (.ref 119) .none)), #[]⟩]
noncomputable def hA_5 (P : Params) : List Obj := [⟨(.type "code"), none, (.fields #[(.str "width_of" 346), (.str "width_of" 347), (.str "/claim/cut.py" 348), (.int (83) 0), (.int (2) 0), (.int (0) 0), (.int (0) 0), (.int (3) 0), (.ref 114), (.bool true), (.int (181) 0), (.ref 115), .none, (.ref 116), (.ref 117), (.ref 118), (.int (352) 0), (.int (83) 0), (.str "/claim/cut.py" 353)]), #[]⟩, ⟨(.type "function"), none, (.func (PySem.W.fnOf "step_of" "step_of" (defArgs (top 31)) (defBody (top 31)) (defScope (top 31)) .none .none .none (.str "gaugeblocks.limits" 306) none (.ref 126) .none)), #[]⟩, ⟨(.type "code"), none, (.fields #[(.str "step_of" 355), (.str "step_of" 356), (.str "/claim/cut.py" 357), (.int (86) 0), (.int (2) 0), (.int (0) 0), (.int (0) 0), (.int (3) 0), (.ref 121), (.bool true), (.int (181) 0), (.ref 122), .none, (.ref 123), (.ref 124), (.ref 125), (.int (360) 0), (.int (86) 0), (.str "/claim/cut.py" 361)]), #[]⟩, ⟨(.type "function"), none, (.func (PySem.W.fnOf "is_shaft_letter" "is_shaft_letter" (defArgs (top 32)) (defBody (top 32)) (defScope (top 32)) .none .none .none (.str "gaugeblocks.limits" 306) none (.ref 133) .none)), #[]⟩, ⟨(.type "code"), none, (.fields #[(.str "is_shaft_letter" 363), (.str "is_shaft_letter" 364), (.str "/claim/cut.py" 365), (.int (88) 0), (.int (1) 0), (.int (0) 0), (.int (0) 0), (.int (3) 0), (.ref 128), (.bool true), (.int (181) 0), (.ref 129), .none, (.ref 130), (.ref 131), (.ref 132), (.int (367) 0), (.int (88) 0), (.str "/claim/cut.py" 368)]), #[]⟩, ⟨(.type "function"), none, (.func (PySem.W.fnOf "is_hole_letter" "is_hole_letter" (defArgs (top 33)) (defBody (top 33)) (defScope (top 33)) .none .none .none (.str "gaugeblocks.limits" 306) none (.ref 140) .none)), #[]⟩]
noncomputable def hA_6 (P : Params) : List Obj := [⟨(.type "code"), none, (.fields #[(.str "is_hole_letter" 370), (.str "is_hole_letter" 371), (.str "/claim/cut.py" 372), (.int (90) 0), (.int (1) 0), (.int (0) 0), (.int (0) 0), (.int (3) 0), (.ref 135), (.bool true), (.int (181) 0), (.ref 136), .none, (.ref 137), (.ref 138), (.ref 139), (.int (374) 0), (.int (90) 0), (.str "/claim/cut.py" 375)]), #[]⟩, ⟨(.type "function"), none, (.func (PySem.W.fnOf "is_letter" "is_letter" (defArgs (top 34)) (defBody (top 34)) (defScope (top 34)) .none .none .none (.str "gaugeblocks.limits" 306) none (.ref 147) .none)), #[]⟩, ⟨(.type "code"), none, (.fields #[(.str "is_letter" 377), (.str "is_letter" 378), (.str "/claim/cut.py" 379), (.int (92) 0), (.int (1) 0), (.int (0) 0), (.int (0) 0), (.int (3) 0), (.ref 142), (.bool true), (.int (181) 0), (.ref 143), .none, (.ref 144), (.ref 145), (.ref 146), (.int (381) 0), (.int (92) 0), (.str "/claim/cut.py" 382)]), #[]⟩, ⟨(.type "function"), none, (.func (PySem.W.fnOf "letter_number" "letter_number" (defArgs (top 35)) (defBody (top 35)) (defScope (top 35)) .none .none .none (.str "gaugeblocks.limits" 306) none (.ref 154) .none)), #[]⟩, ⟨(.type "code"), none, (.fields #[(.str "letter_number" 384), (.str "letter_number" 385), (.str "/claim/cut.py" 386), (.int (94) 0), (.int (1) 0), (.int (0) 0), (.int (0) 0), (.int (3) 0), (.ref 149), (.bool true), (.int (181) 0), (.ref 150), .none, (.ref 151), (.ref 152), (.ref 153), (.int (388) 0), (.int (94) 0), (.str "/claim/cut.py" 389)]), #[]⟩, ⟨(.type "function"), none, (.func (PySem.W.fnOf "code_limits" "code_limits" (defArgs (top 36)) (defBody (top 36)) (defScope (top 36)) .none .none .none (.str "gaugeblocks.limits" 306) none (.ref 161) .none)), #[]⟩]
noncomputable def hA_7 (P : Params) : List Obj := [⟨(.type "code"), none, (.fields #[(.str "code_limits" 391), (.str "code_limits" 392), (.str "/claim/cut.py" 393), (.int (96) 0), (.int (3) 0), (.int (0) 0), (.int (0) 0), (.int (3) 0), (.ref 156), (.bool true), (.int (181) 0), (.ref 157), .none, (.ref 158), (.ref 159), (.ref 160), (.int (400) 0), (.int (96) 0), (.str "/claim/cut.py" 401)]), #[]⟩, ⟨(.type "function"), none, (.func (PySem.W.fnOf "end_fault" "end_fault" (defArgs (top 42)) (defBody (top 42)) (defScope (top 42)) .none .none .none (.str "gaugeblocks.texts" 403) none (.ref 168) .none)), #[]⟩, ⟨(.type "code"), none, (.fields #[(.str "end_fault" 413), (.str "end_fault" 414), (.str "/claim/cut.py" 415), (.int (108) 0), (.int (2) 0), (.int (0) 0), (.int (0) 0), (.int (3) 0), (.ref 163), (.bool true), (.int (181) 0), (.ref 164), .none, (.ref 165), (.ref 166), (.ref 167), (.int (418) 0), (.int (108) 0), (.str "/claim/cut.py" 419)]), #[]⟩, ⟨(.type "function"), none, (.func (PySem.W.fnOf "deviations_fault" "deviations_fault" (defArgs (top 43)) (defBody (top 43)) (defScope (top 43)) .none .none .none (.str "gaugeblocks.texts" 403) none (.ref 175) .none)), #[]⟩, ⟨(.type "code"), none, (.fields #[(.str "deviations_fault" 421), (.str "deviations_fault" 422), (.str "/claim/cut.py" 423), (.int (110) 0), (.int (2) 0), (.int (0) 0), (.int (0) 0), (.int (3) 0), (.ref 170), (.bool true), (.int (181) 0), (.ref 171), .none, (.ref 172), (.ref 173), (.ref 174), (.int (428) 0), (.int (110) 0), (.str "/claim/cut.py" 429)]), #[]⟩, ⟨(.type "function"), none, (.func (PySem.W.fnOf "tail_fault" "tail_fault" (defArgs (top 44)) (defBody (top 44)) (defScope (top 44)) .none .none .none (.str "gaugeblocks.texts" 403) none (.ref 182) .none)), #[]⟩]
noncomputable def hA_8 (P : Params) : List Obj := [⟨(.type "code"), none, (.fields #[(.str "tail_fault" 431), (.str "tail_fault" 432), (.str "/claim/cut.py" 433), (.int (118) 0), (.int (2) 0), (.int (0) 0), (.int (0) 0), (.int (3) 0), (.ref 177), (.bool true), (.int (181) 0), (.ref 178), .none, (.ref 179), (.ref 180), (.ref 181), (.int (437) 0), (.int (118) 0), (.str "/claim/cut.py" 438)]), #[]⟩, ⟨(.type "function"), none, (.func (PySem.W.fnOf "shape_fault" "shape_fault" (defArgs (top 45)) (defBody (top 45)) (defScope (top 45)) .none .none .none (.str "gaugeblocks.texts" 403) none (.ref 189) .none)), #[]⟩, ⟨(.type "code"), none, (.fields #[(.str "shape_fault" 440), (.str "shape_fault" 441), (.str "/claim/cut.py" 442), (.int (127) 0), (.int (1) 0), (.int (0) 0), (.int (0) 0), (.int (3) 0), (.ref 184), (.bool true), (.int (181) 0), (.ref 185), .none, (.ref 186), (.ref 187), (.ref 188), (.int (446) 0), (.int (127) 0), (.str "/claim/cut.py" 447)]), #[]⟩, ⟨(.type "function"), none, (.func (PySem.W.fnOf "fault" "fault" (defArgs (top 46)) (defBody (top 46)) (defScope (top 46)) .none .none .none (.str "gaugeblocks.texts" 403) none (.ref 196) .none)), #[]⟩, ⟨(.type "code"), none, (.fields #[(.str "fault" 449), (.str "fault" 450), (.str "/claim/cut.py" 451), (.int (133) 0), (.int (2) 0), (.int (0) 0), (.int (0) 0), (.int (3) 0), (.ref 191), (.bool true), (.int (181) 0), (.ref 192), .none, (.ref 193), (.ref 194), (.ref 195), (.int (454) 0), (.int (133) 0), (.str "/claim/cut.py" 455)]), #[]⟩, ⟨(.type "function"), none, (.func (PySem.W.fnOf "fit_or_fault" "fit_or_fault" (defArgs (top 47)) (defBody (top 47)) (defScope (top 47)) .none .none .none (.str "gaugeblocks.texts" 403) none (.ref 203) .none)), #[]⟩]
noncomputable def hA_9 (P : Params) : List Obj := [⟨(.type "code"), none, (.fields #[(.str "fit_or_fault" 457), (.str "fit_or_fault" 458), (.str "/claim/cut.py" 459), (.int (135) 0), (.int (2) 0), (.int (0) 0), (.int (0) 0), (.int (3) 0), (.ref 198), (.bool true), (.int (181) 0), (.ref 199), .none, (.ref 200), (.ref 201), (.ref 202), (.int (462) 0), (.int (135) 0), (.str "/claim/cut.py" 463)]), #[]⟩, ⟨(.type "function"), none, (.func (PySem.W.fnOf "size_both_ways" "size_both_ways" (defArgs (top 48)) (defBody (top 48)) (defScope (top 48)) .none .none .none (.str "gaugeblocks.texts" 403) none (.ref 210) .none)), #[]⟩, ⟨(.type "code"), none, (.fields #[(.str "size_both_ways" 465), (.str "size_both_ways" 466), (.str "/claim/cut.py" 467), (.int (139) 0), (.int (3) 0), (.int (0) 0), (.int (0) 0), (.int (3) 0), (.ref 205), (.bool true), (.int (181) 0), (.ref 206), .none, (.ref 207), (.ref 208), (.ref 209), (.int (472) 0), (.int (139) 0), (.str "/claim/cut.py" 473)]), #[]⟩, ⟨(.type "function"), none, (.func (PySem.W.fnOf "size_of_deviations" "size_of_deviations" (defArgs (top 49)) (defBody (top 49)) (defScope (top 49)) .none .none .none (.str "gaugeblocks.texts" 403) none (.ref 217) .none)), #[]⟩, ⟨(.type "code"), none, (.fields #[(.str "size_of_deviations" 475), (.str "size_of_deviations" 476), (.str "/claim/cut.py" 477), (.int (144) 0), (.int (3) 0), (.int (0) 0), (.int (0) 0), (.int (3) 0), (.ref 212), (.bool true), (.int (181) 0), (.ref 213), .none, (.ref 214), (.ref 215), (.ref 216), (.int (485) 0), (.int (144) 0), (.str "/claim/cut.py" 486)]), #[]⟩, ⟨(.type "function"), none, (.func (PySem.W.fnOf "size_of_code" "size_of_code" (defArgs (top 50)) (defBody (top 50)) (defScope (top 50)) .none .none .none (.str "gaugeblocks.texts" 403) none (.ref 224) .none)), #[]⟩]
noncomputable def hA_10 (P : Params) : List Obj := [⟨(.type "code"), none, (.fields #[(.str "size_of_code" 488), (.str "size_of_code" 489), (.str "/claim/cut.py" 490), (.int (156) 0), (.int (3) 0), (.int (0) 0), (.int (0) 0), (.int (3) 0), (.ref 219), (.bool true), (.int (181) 0), (.ref 220), .none, (.ref 221), (.ref 222), (.ref 223), (.int (497) 0), (.int (156) 0), (.str "/claim/cut.py" 498)]), #[]⟩, ⟨(.type "function"), none, (.func (PySem.W.fnOf "size_of" "size_of" (defArgs (top 51)) (defBody (top 51)) (defScope (top 51)) .none .none .none (.str "gaugeblocks.texts" 403) none (.ref 231) .none)), #[]⟩, ⟨(.type "code"), none, (.fields #[(.str "size_of" 500), (.str "size_of" 501), (.str "/claim/cut.py" 502), (.int (161) 0), (.int (1) 0), (.int (0) 0), (.int (0) 0), (.int (3) 0), (.ref 226), (.bool true), (.int (181) 0), (.ref 227), .none, (.ref 228), (.ref 229), (.ref 230), (.int (508) 0), (.int (161) 0), (.str "/claim/cut.py" 509)]), #[]⟩, ⟨(.type "function"), none, (.func (PySem.W.fnOf "line_begins" "line_begins" (defArgs (top 60)) (defBody (top 60)) (defScope (top 60)) .none .none .none (.str "gaugeblocks.boxes" 511) none (.ref 236) .none)), #[]⟩, ⟨(.type "code"), none, (.fields #[(.str "line_begins" 527), (.str "line_begins" 528), (.str "/claim/cut.py" 529), (.int (185) 0), (.int (1) 0), (.int (0) 0), (.int (0) 0), (.int (3) 0), (.ref 233), (.bool true), (.int (181) 0), (.ref 234), .none, .none, .none, (.ref 235), (.int (530) 0), (.int (185) 0), (.str "/claim/cut.py" 531)]), #[]⟩, ⟨(.type "function"), none, (.func (PySem.W.fnOf "line_at" "line_at" (defArgs (top 61)) (defBody (top 61)) (defScope (top 61)) .none .none .none (.str "gaugeblocks.boxes" 511) none (.ref 243) .none)), #[]⟩]
noncomputable def hA_11 (P : Params) : List Obj := [⟨(.type "code"), none, (.fields #[(.str "line_at" 533), (.str "line_at" 534), (.str "/claim/cut.py" 535), (.int (187) 0), (.int (2) 0), (.int (0) 0), (.int (0) 0), (.int (3) 0), (.ref 238), (.bool true), (.int (181) 0), (.ref 239), .none, (.ref 240), (.ref 241), (.ref 242), (.int (539) 0), (.int (187) 0), (.str "/claim/cut.py" 540)]), #[]⟩, ⟨(.type "function"), none, (.func (PySem.W.fnOf "is_block" "is_block" (defArgs (top 62)) (defBody (top 62)) (defScope (top 62)) .none .none .none (.str "gaugeblocks.boxes" 511) none (.ref 250) .none)), #[]⟩, ⟨(.type "code"), none, (.fields #[(.str "is_block" 542), (.str "is_block" 543), (.str "/claim/cut.py" 544), (.int (192) 0), (.int (3) 0), (.int (0) 0), (.int (0) 0), (.int (3) 0), (.ref 245), (.bool true), (.int (181) 0), (.ref 246), .none, (.ref 247), (.ref 248), (.ref 249), (.int (549) 0), (.int (192) 0), (.str "/claim/cut.py" 550)]), #[]⟩, ⟨(.type "function"), none, (.func (PySem.W.fnOf "line_refusal" "line_refusal" (defArgs (top 63)) (defBody (top 63)) (defScope (top 63)) .none .none .none (.str "gaugeblocks.boxes" 511) none (.ref 257) .none)), #[]⟩, ⟨(.type "code"), none, (.fields #[(.str "line_refusal" 552), (.str "line_refusal" 553), (.str "/claim/cut.py" 554), (.int (195) 0), (.int (3) 0), (.int (0) 0), (.int (0) 0), (.int (3) 0), (.ref 252), (.bool true), (.int (181) 0), (.ref 253), .none, (.ref 254), (.ref 255), (.ref 256), (.int (559) 0), (.int (195) 0), (.str "/claim/cut.py" 560)]), #[]⟩, ⟨(.type "function"), none, (.func (PySem.W.fnOf "box_refusal" "box_refusal" (defArgs (top 64)) (defBody (top 64)) (defScope (top 64)) .none .none .none (.str "gaugeblocks.boxes" 511) none (.ref 264) .none)), #[]⟩]
noncomputable def hA_12 (P : Params) : List Obj := [⟨(.type "code"), none, (.fields #[(.str "box_refusal" 562), (.str "box_refusal" 563), (.str "/claim/cut.py" 564), (.int (204) 0), (.int (1) 0), (.int (0) 0), (.int (0) 0), (.int (3) 0), (.ref 259), (.bool true), (.int (181) 0), (.ref 260), .none, (.ref 261), (.ref 262), (.ref 263), (.int (569) 0), (.int (204) 0), (.str "/claim/cut.py" 570)]), #[]⟩, ⟨(.type "function"), none, (.func (PySem.W.fnOf "blocks_of" "blocks_of" (defArgs (top 65)) (defBody (top 65)) (defScope (top 65)) .none .none .none (.str "gaugeblocks.boxes" 511) none (.ref 269) .none)), #[]⟩, ⟨(.type "code"), none, (.fields #[(.str "blocks_of" 572), (.str "blocks_of" 573), (.str "/claim/cut.py" 574), (.int (214) 0), (.int (1) 0), (.int (0) 0), (.int (0) 0), (.int (3) 0), (.ref 266), (.bool true), (.int (181) 0), (.ref 267), .none, .none, .none, (.ref 268), (.int (575) 0), (.int (214) 0), (.str "/claim/cut.py" 576)]), #[]⟩, ⟨(.type "function"), none, (.func (PySem.W.fnOf "length_of" "length_of" (defArgs (top 69)) (defBody (top 69)) (defScope (top 69)) .none .none .none (.str "gaugeblocks.stacks" 578) none (.ref 274) .none)), #[]⟩, ⟨(.type "code"), none, (.fields #[(.str "length_of" 584), (.str "length_of" 585), (.str "/claim/cut.py" 586), (.int (219) 0), (.int (2) 0), (.int (0) 0), (.int (0) 0), (.int (3) 0), (.ref 271), (.bool true), (.int (181) 0), (.ref 272), .none, .none, .none, (.ref 273), (.int (587) 0), (.int (219) 0), (.str "/claim/cut.py" 588)]), #[]⟩, ⟨(.type "function"), none, (.func (PySem.W.fnOf "least_of" "least_of" (defArgs (top 70)) (defBody (top 70)) (defScope (top 70)) .none .none .none (.str "gaugeblocks.stacks" 578) none (.ref 279) .none)), #[]⟩]
noncomputable def hA_13 (P : Params) : List Obj := [⟨(.type "code"), none, (.fields #[(.str "least_of" 590), (.str "least_of" 591), (.str "/claim/cut.py" 592), (.int (221) 0), (.int (2) 0), (.int (0) 0), (.int (0) 0), (.int (3) 0), (.ref 276), (.bool true), (.int (181) 0), (.ref 277), .none, .none, .none, (.ref 278), (.int (593) 0), (.int (221) 0), (.str "/claim/cut.py" 594)]), #[]⟩, ⟨(.type "function"), none, (.func (PySem.W.fnOf "most_of" "most_of" (defArgs (top 71)) (defBody (top 71)) (defScope (top 71)) .none .none .none (.str "gaugeblocks.stacks" 578) none (.ref 284) .none)), #[]⟩, ⟨(.type "code"), none, (.fields #[(.str "most_of" 596), (.str "most_of" 597), (.str "/claim/cut.py" 598), (.int (223) 0), (.int (3) 0), (.int (0) 0), (.int (0) 0), (.int (3) 0), (.ref 281), (.bool true), (.int (181) 0), (.ref 282), .none, .none, .none, (.ref 283), (.int (599) 0), (.int (223) 0), (.str "/claim/cut.py" 600)]), #[]⟩, ⟨(.type "function"), none, (.func (PySem.W.fnOf "doubt_of" "doubt_of" (defArgs (top 72)) (defBody (top 72)) (defScope (top 72)) .none .none .none (.str "gaugeblocks.stacks" 578) none (.ref 291) .none)), #[]⟩, ⟨(.type "code"), none, (.fields #[(.str "doubt_of" 602), (.str "doubt_of" 603), (.str "/claim/cut.py" 604), (.int (225) 0), (.int (3) 0), (.int (0) 0), (.int (0) 0), (.int (3) 0), (.ref 286), (.bool true), (.int (181) 0), (.ref 287), .none, (.ref 288), (.ref 289), (.ref 290), (.int (608) 0), (.int (225) 0), (.str "/claim/cut.py" 609)]), #[]⟩, ⟨(.type "function"), none, (.func (PySem.W.fnOf "one_longer" "one_longer" (defArgs (top 73)) (defBody (top 73)) (defScope (top 73)) .none .none .none (.str "gaugeblocks.stacks" 578) none (.ref 296) .none)), #[]⟩]
noncomputable def hA_14 (P : Params) : List Obj := [⟨(.type "code"), none, (.fields #[(.str "one_longer" 611), (.str "one_longer" 612), (.str "/claim/cut.py" 613), (.int (227) 0), (.int (2) 0), (.int (0) 0), (.int (0) 0), (.int (3) 0), (.ref 293), (.bool true), (.int (181) 0), (.ref 294), .none, .none, .none, (.ref 295), (.int (614) 0), (.int (227) 0), (.str "/claim/cut.py" 615)]), #[]⟩, ⟨(.type "function"), none, (.func (PySem.W.fnOf "stacks_without" "stacks_without" (defArgs (top 74)) (defBody (top 74)) (defScope (top 74)) .none .none .none (.str "gaugeblocks.stacks" 578) none (.ref 301) .none)), #[]⟩, ⟨(.type "code"), none, (.fields #[(.str "stacks_without" 617), (.str "stacks_without" 618), (.str "/claim/cut.py" 619), (.int (232) 0), (.int (2) 0), (.int (0) 0), (.int (0) 0), (.int (3) 0), (.ref 298), (.bool true), (.int (181) 0), (.ref 299), .none, .none, .none, (.ref 300), (.int (620) 0), (.int (232) 0), (.str "/claim/cut.py" 621)]), #[]⟩, ⟨(.type "function"), none, (.func (PySem.W.fnOf "is_better" "is_better" (defArgs (top 75)) (defBody (top 75)) (defScope (top 75)) .none .none .none (.str "gaugeblocks.stacks" 578) none (.ref 308) .none)), #[]⟩, ⟨(.type "code"), none, (.fields #[(.str "is_better" 623), (.str "is_better" 624), (.str "/claim/cut.py" 625), (.int (240) 0), (.int (4) 0), (.int (0) 0), (.int (0) 0), (.int (3) 0), (.ref 303), (.bool true), (.int (181) 0), (.ref 304), .none, (.ref 305), (.ref 306), (.ref 307), (.int (632) 0), (.int (240) 0), (.str "/claim/cut.py" 633)]), #[]⟩, ⟨(.type "function"), none, (.func (PySem.W.fnOf "best_stack" "best_stack" (defArgs (top 76)) (defBody (top 76)) (defScope (top 76)) .none .none .none (.str "gaugeblocks.stacks" 578) none (.ref 315) .none)), #[]⟩]
noncomputable def hA_15 (P : Params) : List Obj := [⟨(.type "code"), none, (.fields #[(.str "best_stack" 635), (.str "best_stack" 636), (.str "/claim/cut.py" 637), (.int (248) 0), (.int (4) 0), (.int (0) 0), (.int (0) 0), (.int (3) 0), (.ref 310), (.bool true), (.int (181) 0), (.ref 311), .none, (.ref 312), (.ref 313), (.ref 314), (.int (644) 0), (.int (248) 0), (.str "/claim/cut.py" 645)]), #[]⟩, ⟨(.type "function"), none, (.func (PySem.W.fnOf "lengths_of" "lengths_of" (defArgs (top 77)) (defBody (top 77)) (defScope (top 77)) .none .none .none (.str "gaugeblocks.stacks" 578) none (.ref 320) .none)), #[]⟩, ⟨(.type "code"), none, (.fields #[(.str "lengths_of" 647), (.str "lengths_of" 648), (.str "/claim/cut.py" 649), (.int (254) 0), (.int (2) 0), (.int (0) 0), (.int (0) 0), (.int (3) 0), (.ref 317), (.bool true), (.int (181) 0), (.ref 318), .none, .none, .none, (.ref 319), (.int (650) 0), (.int (254) 0), (.str "/claim/cut.py" 651)]), #[]⟩, ⟨(.type "function"), none, (.func (PySem.W.fnOf "nearest_length" "nearest_length" (defArgs (top 78)) (defBody (top 78)) (defScope (top 78)) .none .none .none (.str "gaugeblocks.stacks" 578) none (.ref 325) .none)), #[]⟩, ⟨(.type "code"), none, (.fields #[(.str "nearest_length" 653), (.str "nearest_length" 654), (.str "/claim/cut.py" 655), (.int (256) 0), (.int (3) 0), (.int (0) 0), (.int (0) 0), (.int (3) 0), (.ref 322), (.bool true), (.int (181) 0), (.ref 323), .none, .none, .none, (.ref 324), (.int (656) 0), (.int (256) 0), (.str "/claim/cut.py" 657)]), #[]⟩, ⟨(.type "function"), none, (.func (PySem.W.fnOf "box_or_film_refusal" "box_or_film_refusal" (defArgs (top 80)) (defBody (top 80)) (defScope (top 80)) .none .none .none (.str "gaugeblocks.sizes" 659) none (.ref 332) .none)), #[]⟩]
noncomputable def hA_16 (P : Params) : List Obj := [⟨(.type "code"), none, (.fields #[(.str "box_or_film_refusal" 661), (.str "box_or_film_refusal" 662), (.str "/claim/cut.py" 663), (.int (261) 0), (.int (2) 0), (.int (0) 0), (.int (0) 0), (.int (3) 0), (.ref 327), (.bool true), (.int (181) 0), (.ref 328), .none, (.ref 329), (.ref 330), (.ref 331), (.int (667) 0), (.int (261) 0), (.str "/claim/cut.py" 668)]), #[]⟩, ⟨(.type "function"), none, (.func (PySem.W.fnOf "next_of" "next_of" (defArgs (top 81)) (defBody (top 81)) (defScope (top 81)) .none .none .none (.str "gaugeblocks.sizes" 659) none (.ref 339) .none)), #[]⟩, ⟨(.type "code"), none, (.fields #[(.str "next_of" 670), (.str "next_of" 671), (.str "/claim/cut.py" 672), (.int (266) 0), (.int (5) 0), (.int (0) 0), (.int (0) 0), (.int (3) 0), (.ref 334), (.bool true), (.int (181) 0), (.ref 335), .none, (.ref 336), (.ref 337), (.ref 338), (.int (682) 0), (.int (266) 0), (.str "/claim/cut.py" 683)]), #[]⟩]
noncomputable def hK (P : Params) : PySem.W.Frag :=
  (nat_lit 3, ⟨(.type "dict"), none, .dict (hD P).toArray 85, #[]⟩) ::
  (nat_lit 15, (hA_0 P).getD 0 ⟨.none, none, .plain, #[]⟩) ::
  (nat_lit 22, (hA_0 P).getD 1 ⟨.none, none, .plain, #[]⟩) ::
  (nat_lit 21, (hA_0 P).getD 2 ⟨.none, none, .plain, #[]⟩) ::
  (nat_lit 29, (hA_0 P).getD 3 ⟨.none, none, .plain, #[]⟩) ::
  (nat_lit 28, (hA_0 P).getD 4 ⟨.none, none, .plain, #[]⟩) ::
  (nat_lit 36, (hA_0 P).getD 5 ⟨.none, none, .plain, #[]⟩) ::
  (nat_lit 35, (hA_1 P).getD 0 ⟨.none, none, .plain, #[]⟩) ::
  (nat_lit 43, (hA_1 P).getD 1 ⟨.none, none, .plain, #[]⟩) ::
  (nat_lit 42, (hA_1 P).getD 2 ⟨.none, none, .plain, #[]⟩) ::
  (nat_lit 50, (hA_1 P).getD 3 ⟨.none, none, .plain, #[]⟩) ::
  (nat_lit 49, (hA_1 P).getD 4 ⟨.none, none, .plain, #[]⟩) ::
  (nat_lit 57, (hA_1 P).getD 5 ⟨.none, none, .plain, #[]⟩) ::
  (nat_lit 56, (hA_2 P).getD 0 ⟨.none, none, .plain, #[]⟩) ::
  (nat_lit 64, (hA_2 P).getD 1 ⟨.none, none, .plain, #[]⟩) ::
  (nat_lit 63, (hA_2 P).getD 2 ⟨.none, none, .plain, #[]⟩) ::
  (nat_lit 71, (hA_2 P).getD 3 ⟨.none, none, .plain, #[]⟩) ::
  (nat_lit 70, (hA_2 P).getD 4 ⟨.none, none, .plain, #[]⟩) ::
  (nat_lit 78, (hA_2 P).getD 5 ⟨.none, none, .plain, #[]⟩) ::
  (nat_lit 77, (hA_3 P).getD 0 ⟨.none, none, .plain, #[]⟩) ::
  (nat_lit 85, (hA_3 P).getD 1 ⟨.none, none, .plain, #[]⟩) ::
  (nat_lit 84, (hA_3 P).getD 2 ⟨.none, none, .plain, #[]⟩) ::
  (nat_lit 92, (hA_3 P).getD 3 ⟨.none, none, .plain, #[]⟩) ::
  (nat_lit 91, (hA_3 P).getD 4 ⟨.none, none, .plain, #[]⟩) ::
  (nat_lit 99, (hA_3 P).getD 5 ⟨.none, none, .plain, #[]⟩) ::
  (nat_lit 98, (hA_4 P).getD 0 ⟨.none, none, .plain, #[]⟩) ::
  (nat_lit 106, (hA_4 P).getD 1 ⟨.none, none, .plain, #[]⟩) ::
  (nat_lit 105, (hA_4 P).getD 2 ⟨.none, none, .plain, #[]⟩) ::
  (nat_lit 113, (hA_4 P).getD 3 ⟨.none, none, .plain, #[]⟩) ::
  (nat_lit 112, (hA_4 P).getD 4 ⟨.none, none, .plain, #[]⟩) ::
  (nat_lit 120, (hA_4 P).getD 5 ⟨.none, none, .plain, #[]⟩) ::
  (nat_lit 119, (hA_5 P).getD 0 ⟨.none, none, .plain, #[]⟩) ::
  (nat_lit 127, (hA_5 P).getD 1 ⟨.none, none, .plain, #[]⟩) ::
  (nat_lit 126, (hA_5 P).getD 2 ⟨.none, none, .plain, #[]⟩) ::
  (nat_lit 134, (hA_5 P).getD 3 ⟨.none, none, .plain, #[]⟩) ::
  (nat_lit 133, (hA_5 P).getD 4 ⟨.none, none, .plain, #[]⟩) ::
  (nat_lit 141, (hA_5 P).getD 5 ⟨.none, none, .plain, #[]⟩) ::
  (nat_lit 140, (hA_6 P).getD 0 ⟨.none, none, .plain, #[]⟩) ::
  (nat_lit 148, (hA_6 P).getD 1 ⟨.none, none, .plain, #[]⟩) ::
  (nat_lit 147, (hA_6 P).getD 2 ⟨.none, none, .plain, #[]⟩) ::
  (nat_lit 155, (hA_6 P).getD 3 ⟨.none, none, .plain, #[]⟩) ::
  (nat_lit 154, (hA_6 P).getD 4 ⟨.none, none, .plain, #[]⟩) ::
  (nat_lit 162, (hA_6 P).getD 5 ⟨.none, none, .plain, #[]⟩) ::
  (nat_lit 161, (hA_7 P).getD 0 ⟨.none, none, .plain, #[]⟩) ::
  (nat_lit 169, (hA_7 P).getD 1 ⟨.none, none, .plain, #[]⟩) ::
  (nat_lit 168, (hA_7 P).getD 2 ⟨.none, none, .plain, #[]⟩) ::
  (nat_lit 176, (hA_7 P).getD 3 ⟨.none, none, .plain, #[]⟩) ::
  (nat_lit 175, (hA_7 P).getD 4 ⟨.none, none, .plain, #[]⟩) ::
  (nat_lit 183, (hA_7 P).getD 5 ⟨.none, none, .plain, #[]⟩) ::
  (nat_lit 182, (hA_8 P).getD 0 ⟨.none, none, .plain, #[]⟩) ::
  (nat_lit 190, (hA_8 P).getD 1 ⟨.none, none, .plain, #[]⟩) ::
  (nat_lit 189, (hA_8 P).getD 2 ⟨.none, none, .plain, #[]⟩) ::
  (nat_lit 197, (hA_8 P).getD 3 ⟨.none, none, .plain, #[]⟩) ::
  (nat_lit 196, (hA_8 P).getD 4 ⟨.none, none, .plain, #[]⟩) ::
  (nat_lit 204, (hA_8 P).getD 5 ⟨.none, none, .plain, #[]⟩) ::
  (nat_lit 203, (hA_9 P).getD 0 ⟨.none, none, .plain, #[]⟩) ::
  (nat_lit 211, (hA_9 P).getD 1 ⟨.none, none, .plain, #[]⟩) ::
  (nat_lit 210, (hA_9 P).getD 2 ⟨.none, none, .plain, #[]⟩) ::
  (nat_lit 218, (hA_9 P).getD 3 ⟨.none, none, .plain, #[]⟩) ::
  (nat_lit 217, (hA_9 P).getD 4 ⟨.none, none, .plain, #[]⟩) ::
  (nat_lit 225, (hA_9 P).getD 5 ⟨.none, none, .plain, #[]⟩) ::
  (nat_lit 224, (hA_10 P).getD 0 ⟨.none, none, .plain, #[]⟩) ::
  (nat_lit 232, (hA_10 P).getD 1 ⟨.none, none, .plain, #[]⟩) ::
  (nat_lit 231, (hA_10 P).getD 2 ⟨.none, none, .plain, #[]⟩) ::
  (nat_lit 237, (hA_10 P).getD 3 ⟨.none, none, .plain, #[]⟩) ::
  (nat_lit 236, (hA_10 P).getD 4 ⟨.none, none, .plain, #[]⟩) ::
  (nat_lit 244, (hA_10 P).getD 5 ⟨.none, none, .plain, #[]⟩) ::
  (nat_lit 243, (hA_11 P).getD 0 ⟨.none, none, .plain, #[]⟩) ::
  (nat_lit 251, (hA_11 P).getD 1 ⟨.none, none, .plain, #[]⟩) ::
  (nat_lit 250, (hA_11 P).getD 2 ⟨.none, none, .plain, #[]⟩) ::
  (nat_lit 258, (hA_11 P).getD 3 ⟨.none, none, .plain, #[]⟩) ::
  (nat_lit 257, (hA_11 P).getD 4 ⟨.none, none, .plain, #[]⟩) ::
  (nat_lit 265, (hA_11 P).getD 5 ⟨.none, none, .plain, #[]⟩) ::
  (nat_lit 264, (hA_12 P).getD 0 ⟨.none, none, .plain, #[]⟩) ::
  (nat_lit 270, (hA_12 P).getD 1 ⟨.none, none, .plain, #[]⟩) ::
  (nat_lit 269, (hA_12 P).getD 2 ⟨.none, none, .plain, #[]⟩) ::
  (nat_lit 275, (hA_12 P).getD 3 ⟨.none, none, .plain, #[]⟩) ::
  (nat_lit 274, (hA_12 P).getD 4 ⟨.none, none, .plain, #[]⟩) ::
  (nat_lit 280, (hA_12 P).getD 5 ⟨.none, none, .plain, #[]⟩) ::
  (nat_lit 279, (hA_13 P).getD 0 ⟨.none, none, .plain, #[]⟩) ::
  (nat_lit 285, (hA_13 P).getD 1 ⟨.none, none, .plain, #[]⟩) ::
  (nat_lit 284, (hA_13 P).getD 2 ⟨.none, none, .plain, #[]⟩) ::
  (nat_lit 292, (hA_13 P).getD 3 ⟨.none, none, .plain, #[]⟩) ::
  (nat_lit 291, (hA_13 P).getD 4 ⟨.none, none, .plain, #[]⟩) ::
  (nat_lit 297, (hA_13 P).getD 5 ⟨.none, none, .plain, #[]⟩) ::
  (nat_lit 296, (hA_14 P).getD 0 ⟨.none, none, .plain, #[]⟩) ::
  (nat_lit 302, (hA_14 P).getD 1 ⟨.none, none, .plain, #[]⟩) ::
  (nat_lit 301, (hA_14 P).getD 2 ⟨.none, none, .plain, #[]⟩) ::
  (nat_lit 309, (hA_14 P).getD 3 ⟨.none, none, .plain, #[]⟩) ::
  (nat_lit 308, (hA_14 P).getD 4 ⟨.none, none, .plain, #[]⟩) ::
  (nat_lit 316, (hA_14 P).getD 5 ⟨.none, none, .plain, #[]⟩) ::
  (nat_lit 315, (hA_15 P).getD 0 ⟨.none, none, .plain, #[]⟩) ::
  (nat_lit 321, (hA_15 P).getD 1 ⟨.none, none, .plain, #[]⟩) ::
  (nat_lit 320, (hA_15 P).getD 2 ⟨.none, none, .plain, #[]⟩) ::
  (nat_lit 326, (hA_15 P).getD 3 ⟨.none, none, .plain, #[]⟩) ::
  (nat_lit 325, (hA_15 P).getD 4 ⟨.none, none, .plain, #[]⟩) ::
  (nat_lit 333, (hA_15 P).getD 5 ⟨.none, none, .plain, #[]⟩) ::
  (nat_lit 332, (hA_16 P).getD 0 ⟨.none, none, .plain, #[]⟩) ::
  (nat_lit 340, (hA_16 P).getD 1 ⟨.none, none, .plain, #[]⟩) ::
  (nat_lit 339, (hA_16 P).getD 2 ⟨.none, none, .plain, #[]⟩) :: []
noncomputable def hAs : List Addr := nat_lit 3 :: nat_lit 15 :: nat_lit 22 :: nat_lit 21 :: nat_lit 29 :: nat_lit 28 :: nat_lit 36 :: nat_lit 35 :: nat_lit 43 :: nat_lit 42 :: nat_lit 50 :: nat_lit 49 :: nat_lit 57 :: nat_lit 56 :: nat_lit 64 :: nat_lit 63 :: nat_lit 71 :: nat_lit 70 :: nat_lit 78 :: nat_lit 77 :: nat_lit 85 :: nat_lit 84 :: nat_lit 92 :: nat_lit 91 :: nat_lit 99 :: nat_lit 98 :: nat_lit 106 :: nat_lit 105 :: nat_lit 113 :: nat_lit 112 :: nat_lit 120 :: nat_lit 119 :: nat_lit 127 :: nat_lit 126 :: nat_lit 134 :: nat_lit 133 :: nat_lit 141 :: nat_lit 140 :: nat_lit 148 :: nat_lit 147 :: nat_lit 155 :: nat_lit 154 :: nat_lit 162 :: nat_lit 161 :: nat_lit 169 :: nat_lit 168 :: nat_lit 176 :: nat_lit 175 :: nat_lit 183 :: nat_lit 182 :: nat_lit 190 :: nat_lit 189 :: nat_lit 197 :: nat_lit 196 :: nat_lit 204 :: nat_lit 203 :: nat_lit 211 :: nat_lit 210 :: nat_lit 218 :: nat_lit 217 :: nat_lit 225 :: nat_lit 224 :: nat_lit 232 :: nat_lit 231 :: nat_lit 237 :: nat_lit 236 :: nat_lit 244 :: nat_lit 243 :: nat_lit 251 :: nat_lit 250 :: nat_lit 258 :: nat_lit 257 :: nat_lit 265 :: nat_lit 264 :: nat_lit 270 :: nat_lit 269 :: nat_lit 275 :: nat_lit 274 :: nat_lit 280 :: nat_lit 279 :: nat_lit 285 :: nat_lit 284 :: nat_lit 292 :: nat_lit 291 :: nat_lit 297 :: nat_lit 296 :: nat_lit 302 :: nat_lit 301 :: nat_lit 309 :: nat_lit 308 :: nat_lit 316 :: nat_lit 315 :: nat_lit 321 :: nat_lit 320 :: nat_lit 326 :: nat_lit 325 :: nat_lit 333 :: nat_lit 332 :: nat_lit 340 :: nat_lit 339 :: []

theorem scal_ii (i j : Int) : scal (.int i) (.int j) = true := rfl
theorem scal_bb (i j : Bool) : scal (.bl i) (.bl j) = true := rfl
theorem nominal_in {n : Int} (h : Ft.isNominal n = true) : 1 ≤ n ∧ n ≤ 2147483647 := by
  have e : (decide (1 ≤ n) && decide (n ≤ 2147483647)) = true := h
  simpa using e
theorem same_new {H : Hp} {p : Addr} {o : HO} (h : H p = none) : Same H (upd H p o) := fun b o' e => by
  rw [upd_ne (ne_of_none e h)]
  exact e
theorem iteT' {c : Bool} {A B : Prop} (h : c = true) (a : A) : if c = true then A else B := by
  rw [if_pos h]
  exact a
theorem iteF' {c : Bool} {A B : Prop} (h : c = false) (b : B) : if c = true then A else B := by
  rw [if_neg (by rw [h]; exact Bool.noConfusion)]
  exact b
def optV : Option Int → V
  | some i => .int i
  | none => .non
theorem rd_same {H H' : Hp} {a : Addr} {o : HO} (s : Same H H') (h : Rd H a o) : Rd H' a o := by
  rcases h with h | ⟨ob, h⟩
  · exact .inl (s _ _ h)
  · exact .inr ⟨ob, s _ _ h⟩
theorem sq_same {K : PySem.W.Frag} {H H' : Hp} {a : Addr} {xs : List V} (s : Same H H') (h : SqL K H a xs) : SqL K H' a xs := by
  rcases h with h | h
  · exact .inl (rd_same s h)
  · exact .inr h
theorem same_refl (H : Hp) : Same H H := fun _ _ h => h
theorem item_at {t : List Int} {p : Nat} (h : p < t.length) : atI (t.map V.int) (p : Int) = some (.int (GA.at_ t p)) := by
  refine atI_nat ?_
  rw [List.getElem?_map, List.getElem?_eq_getElem h]
  have e := List.drop_eq_getElem_cons h
  unfold GA.at_
  rw [e]
  rfl
def rowV (s : List Nat) : List V := s.map fun (i : Nat) => V.int i
theorem small_len {n : Nat} (h : n ≤ 100000) : n < sizeLine := Nat.lt_of_le_of_lt h (by decide)
theorem rowV_at {s : List Nat} {i : Nat} {v : V} (h : (rowV s)[i]? = some v) : ∃ j, s[i]? = some j ∧ v = .int (j : Nat) := by
  unfold rowV at h
  rw [List.getElem?_map] at h
  cases hs : s[i]? with
  | none =>
    rw [hs] at h
    cases h
  | some j =>
    rw [hs] at h
    cases h
    exact ⟨j, rfl, rfl⟩
theorem upd_keep {H H' : Hp} {D : Addr} {o : HO} (s : Same H H') (hD : H D = none) : Same H (upd H' D o) := fun b u e => by
  rw [upd_ne (ne_of_none e hD)]
  exact s b u e
theorem take_snoc {α : Type} {l : List α} {i : Nat} {x : α} (h : l[i]? = some x) : l.take (i + 1) = l.take i ++ [x] := by
  rw [List.take_succ, h]
  rfl

def sp_byte_at (K : PySem.W.Frag) : Sp := fun vs H Q _ => ∃ (a : Addr) (t : List Int) (p : Nat), vs = [.ref a, .int p] ∧ SqL K H a (t.map V.int) ∧ Q (.int (GA.at_ t p)) H

theorem sc_byte_at : FnScope ["text", "place"] ["text", "place"] (defScope st_byte_at) := ⟨rfl, rfl, rfl, by decide +kernel, rfl, by decide +kernel, by decide +kernel⟩
theorem ok_byte_at {P : Program} {w : World} {K : PySem.W.Frag} {mg : Str → Option Value} {base : Heap} (R : Raw K mg "byte_at" st_byte_at ["text", "place"]) (b_len : mg "len" = none) : Dn P w K mg base 1 "byte_at" ["text", "place"] (sp_byte_at K) := by
  refine R.dn fun f fd F => F.ok sc_byte_at (fun vs H Q E h => ?_) (fun cdv A outer s H vs Q E hr h => ?_)
  ·
    obtain ⟨_, _, _, rfl, _⟩ := h
    rfl
  ·
    obtain ⟨a, t, p, rfl, hS, k⟩ := h
    refine ⟨_, (pss_one (ps_ret (pe_ifExp (pt_cmpRm op_ltm (pvm 1) (pe_callB (call_len_seq) rfl b_len (by decide +kernel) (pa_cons (pvm 0) pa_nil)) (nomark _)) (pe_ix ix_listm (pvm 0) (pvm 1) (fun _ _ => rfl)) (pe_un un_negm pe_int)))), ?_⟩
    (try dsimp only [tVarm, tC, tOp, tUn, rIm, rI0m, rUm, tTestm, tChainm, tAnd, tOr, tNot, tAndVm, tOrVm, tNotVm, tIf, tSeq, tNext, tAsg, gName, tIfS, tRet, tRetN, tDrop, tCall, tCB, tCons, tNil, tLst, tTup, tAugm, ipIm, tBM, rAppend, rIxLm, rCat, tIsN, tNotN, rIxTm, rExtend, gTup, gCons, gNil, tYes, rSum, rAll, asV_is, asI_is, asB_is, asR_is, rEqm_ii, rNem_ii, scal_ii, scal_bb, rLtL, rMaxD, rMinD, L2.start, wipe, List.map_cons, List.map_nil, List.length_cons, List.length_nil, List.append_nil, List.cons_append, List.nil_append, List.replicate_succ, List.replicate_zero, List.getElem?_cons_zero, List.getElem?_cons_succ, List.set_cons_zero, List.set_cons_succ]); (try simp only [tVarm, tC, tOp, tUn, rIm, rI0m, rUm, tTestm, tChainm, tAnd, tOr, tNot, tAndVm, tOrVm, tNotVm, tIf, tSeq, tNext, tAsg, gName, tIfS, tRet, tRetN, tDrop, tCall, tCB, tCons, tNil, tLst, tTup, tAugm, ipIm, tBM, rAppend, rIxLm, rCat, tIsN, tNotN, rIxTm, rExtend, gTup, gCons, gNil, tYes, rSum, rAll, rLtL, rMaxD, rMinD, V.int.injEq, V.bl.injEq, V.str.injEq, V.ref.injEq, and_true, true_and, and_assoc, Bool.false_eq_true, List.map_cons, List.map_nil, List.length_cons, List.length_nil, List.append_nil, List.cons_append, List.nil_append, List.replicate_succ, List.replicate_zero, List.getElem?_cons_zero, List.getElem?_cons_succ, List.set_cons_zero, List.set_cons_succ, Option.some.injEq, List.cons.injEq, exists_eq_left', exists_and_left, exists_eq_left, asV_ex, asI_ex, asB_ex, asR_ex, rEqm_ex, rNem_ex, scal_ii, scal_bb, L2.start, wipe, Nat.reduceAdd, Nat.reduceSub, reduceIte])
    refine ⟨_, .inl hS, ?_⟩
    refine ite2 (fun hc => ?_) (fun hc => ?_)
    · have hp : p < t.length := by
        have := of_decide_eq_true hc
        simp only [List.length_map] at this
        (first | lia | omega)
      exact ⟨_, hS, _, item_at hp, k⟩
    · have hp : t.length ≤ p := by
        have := of_decide_eq_false (Bool.eq_false_iff.mpr hc)
        simp only [List.length_map] at this
        (first | lia | omega)
      rw [(GA.at_out hp).2] at k
      exact k
def sp_is_digit (_ : PySem.W.Frag) : Sp := fun vs H Q _ => ∃ b : Int, vs = [.int b] ∧ Q (.bl (GA.isDig b)) H

theorem sc_is_digit : FnScope ["byte"] ["byte"] (defScope st_is_digit) := ⟨rfl, rfl, rfl, by decide +kernel, rfl, by decide +kernel, by decide +kernel⟩
theorem ok_is_digit {P : Program} {w : World} {K : PySem.W.Frag} {mg : Str → Option Value} {base : Heap} (R : Raw K mg "is_digit" st_is_digit ["byte"]) {t_ZERO : Tok} (g_ZERO : mg "ZERO" = some (.int (48) t_ZERO)) {t_NINE : Tok} (g_NINE : mg "NINE" = some (.int (57) t_NINE)) : Dn P w K mg base 1 "is_digit" ["byte"] (sp_is_digit K) := by
  refine R.dn fun f fd F => F.ok sc_is_digit (fun vs H Q E h => ?_) (fun cdv A outer s H vs Q E hr h => ?_)
  ·
    obtain ⟨n, rfl, _⟩ := h
    rfl
  ·
    obtain ⟨b, rfl, k⟩ := h
    refine ⟨_, (pss_one (ps_ret (pe_chainm op_lem op_lem (pe_glob (v := .int (48)) rfl g_ZERO ⟨_, rfl⟩) (pvm 0) (pe_glob (v := .int (57)) rfl g_NINE ⟨_, rfl⟩)))), ?_⟩
    (try dsimp only [tVarm, tC, tOp, tUn, rIm, rI0m, rUm, tTestm, tChainm, tAnd, tOr, tNot, tAndVm, tOrVm, tNotVm, tIf, tSeq, tNext, tAsg, gName, tIfS, tRet, tRetN, tDrop, tCall, tCB, tCons, tNil, tLst, tTup, tAugm, ipIm, tBM, rAppend, rIxLm, rCat, tIsN, tNotN, rIxTm, rExtend, gTup, gCons, gNil, tYes, rSum, rAll, asV_is, asI_is, asB_is, asR_is, rEqm_ii, rNem_ii, scal_ii, scal_bb, rLtL, rMaxD, rMinD, L2.start, wipe, List.map_cons, List.map_nil, List.length_cons, List.length_nil, List.append_nil, List.cons_append, List.nil_append, List.replicate_succ, List.replicate_zero, List.getElem?_cons_zero, List.getElem?_cons_succ, List.set_cons_zero, List.set_cons_succ]); (try simp only [tVarm, tC, tOp, tUn, rIm, rI0m, rUm, tTestm, tChainm, tAnd, tOr, tNot, tAndVm, tOrVm, tNotVm, tIf, tSeq, tNext, tAsg, gName, tIfS, tRet, tRetN, tDrop, tCall, tCB, tCons, tNil, tLst, tTup, tAugm, ipIm, tBM, rAppend, rIxLm, rCat, tIsN, tNotN, rIxTm, rExtend, gTup, gCons, gNil, tYes, rSum, rAll, rLtL, rMaxD, rMinD, V.int.injEq, V.bl.injEq, V.str.injEq, V.ref.injEq, and_true, true_and, and_assoc, Bool.false_eq_true, List.map_cons, List.map_nil, List.length_cons, List.length_nil, List.append_nil, List.cons_append, List.nil_append, List.replicate_succ, List.replicate_zero, List.getElem?_cons_zero, List.getElem?_cons_succ, List.set_cons_zero, List.set_cons_succ, Option.some.injEq, List.cons.injEq, exists_eq_left', exists_and_left, exists_eq_left, asV_ex, asI_ex, asB_ex, asR_ex, rEqm_ex, rNem_ex, scal_ii, scal_bb, L2.start, wipe, Nat.reduceAdd, Nat.reduceSub, reduceIte])
    unfold GA.isDig at k
    by_cases h1 : (48 : Int) ≤ b
    · rw [decide_eq_true h1] at k ⊢
      exact iteT k
    · rw [decide_eq_false h1] at k ⊢
      exact iteF k
def sp_is_sign (_ : PySem.W.Frag) : Sp := fun vs H Q _ => ∃ b : Int, vs = [.int b] ∧ Q (.bl (GA.isSgn b)) H

theorem sc_is_sign : FnScope ["byte"] ["byte"] (defScope st_is_sign) := ⟨rfl, rfl, rfl, by decide +kernel, rfl, by decide +kernel, by decide +kernel⟩
theorem ok_is_sign {P : Program} {w : World} {K : PySem.W.Frag} {mg : Str → Option Value} {base : Heap} (R : Raw K mg "is_sign" st_is_sign ["byte"]) {t_PLUS : Tok} (g_PLUS : mg "PLUS" = some (.int (43) t_PLUS)) {t_MINUS : Tok} (g_MINUS : mg "MINUS" = some (.int (45) t_MINUS)) : Dn P w K mg base 1 "is_sign" ["byte"] (sp_is_sign K) := by
  refine R.dn fun f fd F => F.ok sc_is_sign (fun vs H Q E h => ?_) (fun cdv A outer s H vs Q E hr h => ?_)
  ·
    obtain ⟨n, rfl, _⟩ := h
    rfl
  ·
    obtain ⟨b, rfl, k⟩ := h
    refine ⟨_, (pss_one (ps_ret (pe_orm (pe_cmpR op_eqm (pvm 0) (pe_glob (v := .int (43)) rfl g_PLUS ⟨_, rfl⟩) (nomark _)) (pe_one (pe_cmpR op_eqm (pvm 0) (pe_glob (v := .int (45)) rfl g_MINUS ⟨_, rfl⟩) (nomark _)))))), ?_⟩
    (try dsimp only [tVarm, tC, tOp, tUn, rIm, rI0m, rUm, tTestm, tChainm, tAnd, tOr, tNot, tAndVm, tOrVm, tNotVm, tIf, tSeq, tNext, tAsg, gName, tIfS, tRet, tRetN, tDrop, tCall, tCB, tCons, tNil, tLst, tTup, tAugm, ipIm, tBM, rAppend, rIxLm, rCat, tIsN, tNotN, rIxTm, rExtend, gTup, gCons, gNil, tYes, rSum, rAll, asV_is, asI_is, asB_is, asR_is, rEqm_ii, rNem_ii, scal_ii, scal_bb, rLtL, rMaxD, rMinD, L2.start, wipe, List.map_cons, List.map_nil, List.length_cons, List.length_nil, List.append_nil, List.cons_append, List.nil_append, List.replicate_succ, List.replicate_zero, List.getElem?_cons_zero, List.getElem?_cons_succ, List.set_cons_zero, List.set_cons_succ]); (try simp only [tVarm, tC, tOp, tUn, rIm, rI0m, rUm, tTestm, tChainm, tAnd, tOr, tNot, tAndVm, tOrVm, tNotVm, tIf, tSeq, tNext, tAsg, gName, tIfS, tRet, tRetN, tDrop, tCall, tCB, tCons, tNil, tLst, tTup, tAugm, ipIm, tBM, rAppend, rIxLm, rCat, tIsN, tNotN, rIxTm, rExtend, gTup, gCons, gNil, tYes, rSum, rAll, rLtL, rMaxD, rMinD, V.int.injEq, V.bl.injEq, V.str.injEq, V.ref.injEq, and_true, true_and, and_assoc, Bool.false_eq_true, List.map_cons, List.map_nil, List.length_cons, List.length_nil, List.append_nil, List.cons_append, List.nil_append, List.replicate_succ, List.replicate_zero, List.getElem?_cons_zero, List.getElem?_cons_succ, List.set_cons_zero, List.set_cons_succ, Option.some.injEq, List.cons.injEq, exists_eq_left', exists_and_left, exists_eq_left, asV_ex, asI_ex, asB_ex, asR_ex, rEqm_ex, rNem_ex, scal_ii, scal_bb, L2.start, wipe, Nat.reduceAdd, Nat.reduceSub, reduceIte])
    unfold GA.isSgn at k
    by_cases h1 : b = 43
    · rw [decide_eq_true h1] at k ⊢
      exact iteT k
    · rw [decide_eq_false h1] at k ⊢
      exact iteF k
def sp_digits_end (K : PySem.W.Frag) : Sp := fun vs H Q _ => ∃ (a : Addr) (t : List Int) (s m : Nat), vs = [.ref a, .int s, .int m] ∧ SqL K H a (t.map V.int) ∧ Q (.int ((s + GA.digs m (t.drop s) : Nat) : Int)) H
theorem digs_yes {b : Int} {l : List Int} {m : Nat} (h : GA.isDig b = true) : GA.digs (m + 1) (b :: l) = GA.digs m l + 1 := by
  conv => lhs; unfold GA.digs
  rw [if_pos h]

theorem sc_digits_end : FnScope ["text", "start", "most", "end"] ["text", "start", "most"] (defScope st_digits_end) := ⟨rfl, rfl, rfl, by decide +kernel, rfl, by decide +kernel, by decide +kernel⟩
theorem ok_digits_end {P : Program} {w : World} {K : PySem.W.Frag} {mg : Str → Option Value} {base : Heap} (R : Raw K mg "digits_end" st_digits_end ["text", "start", "most"]) (D_is_digit : Dn P w K mg base 1 "is_digit" ["byte"] (sp_is_digit K)) (D_byte_at : Dn P w K mg base 1 "byte_at" ["text", "place"] (sp_byte_at K)) : Dn P w K mg base 2 "digits_end" ["text", "start", "most"] (sp_digits_end K) := by
  refine R.dn fun f fd F => F.ok sc_digits_end (fun vs H Q E h => ?_) (fun cdv A outer s H vs Q E hr h => ?_)
  ·
    obtain ⟨_, _, _, _, rfl, _⟩ := h
    rfl
  ·
    obtain ⟨a, t, s, m, rfl, hS, k⟩ := h
    refine ⟨_, (pss_cons (ps_set (i := 3) sc_digits_end.nd rfl (Or.inl rfl) (pvm 1)) (pss_cons (ps_while PassesOwn.never (PW.pt (pw_and (pt_cmpRm op_ltm (pvm 3) (pe_op op_addm (pvm 1) (pvm 2)) (nomark _)) (pw_and1 (pt_valm (pe_callD D_is_digit (hr.mono (by decide)) rfl (pa_cons (pe_callD D_byte_at (hr.mono (by decide)) rfl (pa_cons (pvm 0) (pa_cons (pvm 3) pa_nil))) pa_nil)))))) (pss_one (ps_augm (i := 3) sc_digits_end.nd rfl (Or.inl rfl) pe_int ip_addm))) (pss_one (ps_ret (pvm 3))))), ?_⟩
    (try dsimp only [tVarm, tC, tOp, tUn, rIm, rI0m, rUm, tTestm, tChainm, tAnd, tOr, tNot, tAndVm, tOrVm, tNotVm, tIf, tSeq, tNext, tAsg, gName, tIfS, tRet, tRetN, tDrop, tCall, tCB, tCons, tNil, tLst, tTup, tAugm, ipIm, tBM, rAppend, rIxLm, rCat, tIsN, tNotN, rIxTm, rExtend, gTup, gCons, gNil, tYes, rSum, rAll, asV_is, asI_is, asB_is, asR_is, rEqm_ii, rNem_ii, scal_ii, scal_bb, rLtL, rMaxD, rMinD, L2.start, wipe, sp_is_digit, sp_byte_at, List.map_cons, List.map_nil, List.length_cons, List.length_nil, List.append_nil, List.cons_append, List.nil_append, List.replicate_succ, List.replicate_zero, List.getElem?_cons_zero, List.getElem?_cons_succ, List.set_cons_zero, List.set_cons_succ]); (try simp only [tVarm, tC, tOp, tUn, rIm, rI0m, rUm, tTestm, tChainm, tAnd, tOr, tNot, tAndVm, tOrVm, tNotVm, tIf, tSeq, tNext, tAsg, gName, tIfS, tRet, tRetN, tDrop, tCall, tCB, tCons, tNil, tLst, tTup, tAugm, ipIm, tBM, rAppend, rIxLm, rCat, tIsN, tNotN, rIxTm, rExtend, gTup, gCons, gNil, tYes, rSum, rAll, rLtL, rMaxD, rMinD, V.int.injEq, V.bl.injEq, V.str.injEq, V.ref.injEq, and_true, true_and, and_assoc, Bool.false_eq_true, List.map_cons, List.map_nil, List.length_cons, List.length_nil, List.append_nil, List.cons_append, List.nil_append, List.replicate_succ, List.replicate_zero, List.getElem?_cons_zero, List.getElem?_cons_succ, List.set_cons_zero, List.set_cons_succ, Option.some.injEq, List.cons.injEq, exists_eq_left', exists_and_left, exists_eq_left, asV_ex, asI_ex, asB_ex, asR_ex, rEqm_ex, rNem_ex, scal_ii, scal_bb, L2.start, wipe, Nat.reduceAdd, Nat.reduceSub, reduceIte, sp_is_digit, sp_byte_at])
    refine ⟨fun z σ' H' => H' = H ∧ ∃ j : Nat, σ' = [some (.ref a), some (.int s), some (.int m), some (.int ((s + j : Nat) : Int))] ∧ z = m - j ∧ j ≤ m ∧ GA.digs m (t.drop s) = j + GA.digs (m - j) (t.drop (s + j)), ⟨_, rfl, 0, rfl, rfl, Nat.zero_le _, (Nat.zero_add _).symm⟩, ?_⟩
    rintro z σ' H' ⟨rfl, j, rfl, rfl, hj, hd⟩
    (try dsimp only [tVarm, tC, tOp, tUn, rIm, rI0m, rUm, tTestm, tChainm, tAnd, tOr, tNot, tAndVm, tOrVm, tNotVm, tIf, tSeq, tNext, tAsg, gName, tIfS, tRet, tRetN, tDrop, tCall, tCB, tCons, tNil, tLst, tTup, tAugm, ipIm, tBM, rAppend, rIxLm, rCat, tIsN, tNotN, rIxTm, rExtend, gTup, gCons, gNil, tYes, rSum, rAll, asV_is, asI_is, asB_is, asR_is, rEqm_ii, rNem_ii, scal_ii, scal_bb, rLtL, rMaxD, rMinD, L2.start, wipe, sp_is_digit, sp_byte_at, List.map_cons, List.map_nil, List.length_cons, List.length_nil, List.append_nil, List.cons_append, List.nil_append, List.replicate_succ, List.replicate_zero, List.getElem?_cons_zero, List.getElem?_cons_succ, List.set_cons_zero, List.set_cons_succ]); (try simp only [tVarm, tC, tOp, tUn, rIm, rI0m, rUm, tTestm, tChainm, tAnd, tOr, tNot, tAndVm, tOrVm, tNotVm, tIf, tSeq, tNext, tAsg, gName, tIfS, tRet, tRetN, tDrop, tCall, tCB, tCons, tNil, tLst, tTup, tAugm, ipIm, tBM, rAppend, rIxLm, rCat, tIsN, tNotN, rIxTm, rExtend, gTup, gCons, gNil, tYes, rSum, rAll, rLtL, rMaxD, rMinD, V.int.injEq, V.bl.injEq, V.str.injEq, V.ref.injEq, and_true, true_and, and_assoc, Bool.false_eq_true, List.map_cons, List.map_nil, List.length_cons, List.length_nil, List.append_nil, List.cons_append, List.nil_append, List.replicate_succ, List.replicate_zero, List.getElem?_cons_zero, List.getElem?_cons_succ, List.set_cons_zero, List.set_cons_succ, Option.some.injEq, List.cons.injEq, exists_eq_left', exists_and_left, exists_eq_left, asV_ex, asI_ex, asB_ex, asR_ex, rEqm_ex, rNem_ex, scal_ii, scal_bb, L2.start, wipe, Nat.reduceAdd, Nat.reduceSub, reduceIte, sp_is_digit, sp_byte_at])
    refine ite2 (fun hc => ?_) (fun hc => ?_)
    · have hc' : j < m := by
        have := of_decide_eq_true hc
        (first | lia | omega)
      refine ⟨t, s + j, rfl, hS, ?_⟩
      obtain ⟨m', hm'⟩ : ∃ m', m - j = m' + 1 := ⟨m - j - 1, by (first | lia | omega)⟩
      rw [hm'] at hd
      cases hg : GA.isDig (GA.at_ t (s + j)) with
      | true =>
        have hlt : s + j < t.length := GA.at_lt (by intro q; rw [q] at hg; exact absurd hg (by decide))
        rw [GA.at_in hlt, digs_yes hg] at hd
        refine iteT ⟨_, fun σ' H' q => q, ?_⟩
        (try dsimp only [tVarm, tC, tOp, tUn, rIm, rI0m, rUm, tTestm, tChainm, tAnd, tOr, tNot, tAndVm, tOrVm, tNotVm, tIf, tSeq, tNext, tAsg, gName, tIfS, tRet, tRetN, tDrop, tCall, tCB, tCons, tNil, tLst, tTup, tAugm, ipIm, tBM, rAppend, rIxLm, rCat, tIsN, tNotN, rIxTm, rExtend, gTup, gCons, gNil, tYes, rSum, rAll, asV_is, asI_is, asB_is, asR_is, rEqm_ii, rNem_ii, scal_ii, scal_bb, rLtL, rMaxD, rMinD, L2.start, wipe, sp_is_digit, sp_byte_at, List.map_cons, List.map_nil, List.length_cons, List.length_nil, List.append_nil, List.cons_append, List.nil_append, List.replicate_succ, List.replicate_zero, List.getElem?_cons_zero, List.getElem?_cons_succ, List.set_cons_zero, List.set_cons_succ]); (try simp only [tVarm, tC, tOp, tUn, rIm, rI0m, rUm, tTestm, tChainm, tAnd, tOr, tNot, tAndVm, tOrVm, tNotVm, tIf, tSeq, tNext, tAsg, gName, tIfS, tRet, tRetN, tDrop, tCall, tCB, tCons, tNil, tLst, tTup, tAugm, ipIm, tBM, rAppend, rIxLm, rCat, tIsN, tNotN, rIxTm, rExtend, gTup, gCons, gNil, tYes, rSum, rAll, rLtL, rMaxD, rMinD, V.int.injEq, V.bl.injEq, V.str.injEq, V.ref.injEq, and_true, true_and, and_assoc, Bool.false_eq_true, List.map_cons, List.map_nil, List.length_cons, List.length_nil, List.append_nil, List.cons_append, List.nil_append, List.replicate_succ, List.replicate_zero, List.getElem?_cons_zero, List.getElem?_cons_succ, List.set_cons_zero, List.set_cons_succ, Option.some.injEq, List.cons.injEq, exists_eq_left', exists_and_left, exists_eq_left, asV_ex, asI_ex, asB_ex, asR_ex, rEqm_ex, rNem_ex, scal_ii, scal_bb, L2.start, wipe, Nat.reduceAdd, Nat.reduceSub, reduceIte, sp_is_digit, sp_byte_at])
        refine ⟨_, ?_, j + 1, ?_, rfl, hc', ?_⟩
        · (first | lia | omega)
        · (first | lia | omega)
        · have e : m - (j + 1) = m' := by (first | lia | omega)
          rw [e, ← Nat.add_assoc]
          (first | lia | omega)
      | false =>
        refine iteF ?_
        (try dsimp only [tVarm, tC, tOp, tUn, rIm, rI0m, rUm, tTestm, tChainm, tAnd, tOr, tNot, tAndVm, tOrVm, tNotVm, tIf, tSeq, tNext, tAsg, gName, tIfS, tRet, tRetN, tDrop, tCall, tCB, tCons, tNil, tLst, tTup, tAugm, ipIm, tBM, rAppend, rIxLm, rCat, tIsN, tNotN, rIxTm, rExtend, gTup, gCons, gNil, tYes, rSum, rAll, asV_is, asI_is, asB_is, asR_is, rEqm_ii, rNem_ii, scal_ii, scal_bb, rLtL, rMaxD, rMinD, L2.start, wipe, sp_is_digit, sp_byte_at, List.map_cons, List.map_nil, List.length_cons, List.length_nil, List.append_nil, List.cons_append, List.nil_append, List.replicate_succ, List.replicate_zero, List.getElem?_cons_zero, List.getElem?_cons_succ, List.set_cons_zero, List.set_cons_succ]); (try simp only [tVarm, tC, tOp, tUn, rIm, rI0m, rUm, tTestm, tChainm, tAnd, tOr, tNot, tAndVm, tOrVm, tNotVm, tIf, tSeq, tNext, tAsg, gName, tIfS, tRet, tRetN, tDrop, tCall, tCB, tCons, tNil, tLst, tTup, tAugm, ipIm, tBM, rAppend, rIxLm, rCat, tIsN, tNotN, rIxTm, rExtend, gTup, gCons, gNil, tYes, rSum, rAll, rLtL, rMaxD, rMinD, V.int.injEq, V.bl.injEq, V.str.injEq, V.ref.injEq, and_true, true_and, and_assoc, Bool.false_eq_true, List.map_cons, List.map_nil, List.length_cons, List.length_nil, List.append_nil, List.cons_append, List.nil_append, List.replicate_succ, List.replicate_zero, List.getElem?_cons_zero, List.getElem?_cons_succ, List.set_cons_zero, List.set_cons_succ, Option.some.injEq, List.cons.injEq, exists_eq_left', exists_and_left, exists_eq_left, asV_ex, asI_ex, asB_ex, asR_ex, rEqm_ex, rNem_ex, scal_ii, scal_bb, L2.start, wipe, Nat.reduceAdd, Nat.reduceSub, reduceIte, sp_is_digit, sp_byte_at])
        have e : GA.digs (m' + 1) (t.drop (s + j)) = 0 := by
          rcases Nat.lt_or_ge (s + j) t.length with q | q
          · rw [GA.at_in q]
            unfold GA.digs
            rw [if_neg (by rw [hg]; exact Bool.noConfusion)]
          · rw [(GA.at_out q).1]
            rfl
        rw [hd, e, Nat.add_zero] at k
        exact k
    · have hc' : j = m := by
        have := of_decide_eq_false (Bool.eq_false_iff.mpr hc)
        (first | lia | omega)
      subst hc'
      (try dsimp only [tVarm, tC, tOp, tUn, rIm, rI0m, rUm, tTestm, tChainm, tAnd, tOr, tNot, tAndVm, tOrVm, tNotVm, tIf, tSeq, tNext, tAsg, gName, tIfS, tRet, tRetN, tDrop, tCall, tCB, tCons, tNil, tLst, tTup, tAugm, ipIm, tBM, rAppend, rIxLm, rCat, tIsN, tNotN, rIxTm, rExtend, gTup, gCons, gNil, tYes, rSum, rAll, asV_is, asI_is, asB_is, asR_is, rEqm_ii, rNem_ii, scal_ii, scal_bb, rLtL, rMaxD, rMinD, L2.start, wipe, sp_is_digit, sp_byte_at, List.map_cons, List.map_nil, List.length_cons, List.length_nil, List.append_nil, List.cons_append, List.nil_append, List.replicate_succ, List.replicate_zero, List.getElem?_cons_zero, List.getElem?_cons_succ, List.set_cons_zero, List.set_cons_succ]); (try simp only [tVarm, tC, tOp, tUn, rIm, rI0m, rUm, tTestm, tChainm, tAnd, tOr, tNot, tAndVm, tOrVm, tNotVm, tIf, tSeq, tNext, tAsg, gName, tIfS, tRet, tRetN, tDrop, tCall, tCB, tCons, tNil, tLst, tTup, tAugm, ipIm, tBM, rAppend, rIxLm, rCat, tIsN, tNotN, rIxTm, rExtend, gTup, gCons, gNil, tYes, rSum, rAll, rLtL, rMaxD, rMinD, V.int.injEq, V.bl.injEq, V.str.injEq, V.ref.injEq, and_true, true_and, and_assoc, Bool.false_eq_true, List.map_cons, List.map_nil, List.length_cons, List.length_nil, List.append_nil, List.cons_append, List.nil_append, List.replicate_succ, List.replicate_zero, List.getElem?_cons_zero, List.getElem?_cons_succ, List.set_cons_zero, List.set_cons_succ, Option.some.injEq, List.cons.injEq, exists_eq_left', exists_and_left, exists_eq_left, asV_ex, asI_ex, asB_ex, asR_ex, rEqm_ex, rNem_ex, scal_ii, scal_bb, L2.start, wipe, Nat.reduceAdd, Nat.reduceSub, reduceIte, sp_is_digit, sp_byte_at])
      rw [hd, Nat.sub_self] at k
      exact k
def sp_digits_value (K : PySem.W.Frag) : Sp := fun vs H Q _ => ∃ (a : Addr) (t : List Int) (s j : Nat), vs = [.ref a, .int s, .int ((s + j : Nat) : Int)] ∧ s + j ≤ t.length ∧ SqL K H a (t.map V.int) ∧ ∀ H', Same H H' → Q (.int (GA.digVal ((t.drop s).take j))) H'

theorem sc_digits_value : FnScope ["text", "start", "end", "value", "byte"] ["text", "start", "end"] (defScope st_digits_value) := ⟨rfl, rfl, rfl, by decide +kernel, rfl, by decide +kernel, by decide +kernel⟩
theorem ok_digits_value {P : Program} {w : World} {K : PySem.W.Frag} {mg : Str → Option Value} {base : Heap} (R : Raw K mg "digits_value" st_digits_value ["text", "start", "end"]) {t_ZERO : Tok} (g_ZERO : mg "ZERO" = some (.int (48) t_ZERO)) : Dn P w K mg base 1 "digits_value" ["text", "start", "end"] (sp_digits_value K) := by
  refine R.dn fun f fd F => F.ok sc_digits_value (fun vs H Q E h => ?_) (fun cdv A outer s H vs Q E hr h => ?_)
  ·
    obtain ⟨_, _, _, _, rfl, _⟩ := h
    rfl
  ·
    obtain ⟨a, t, s, j, rfl, hj, hS, k⟩ := h
    refine ⟨_, (pss_cons (ps_set (i := 3) sc_digits_value.nd rfl (Or.inl rfl) pe_int) (pss_cons (ps_for PassesOwn.never rfl (pi_list (pe_slice sl_list (pvm 0) (po_some (pvm 1)) (po_some (pvm 2)))) (pg_name (i := 4) sc_digits_value.nd rfl (by first | exact Or.inl rfl | exact Or.inr rfl)) (pss_one (ps_set (i := 3) sc_digits_value.nd rfl (Or.inl rfl) (pe_op op_subm (pe_op op_addm (pe_op op_mulm (pvm 3) pe_int) (pvm 4)) (pe_glob (v := .int (48)) rfl g_ZERO ⟨_, rfl⟩))))) (pss_one (ps_ret (pvm 3))))), ?_⟩
    (try dsimp only [tVarm, tC, tOp, tUn, rIm, rI0m, rUm, tTestm, tChainm, tAnd, tOr, tNot, tAndVm, tOrVm, tNotVm, tIf, tSeq, tNext, tAsg, gName, tIfS, tRet, tRetN, tDrop, tCall, tCB, tCons, tNil, tLst, tTup, tAugm, ipIm, tBM, rAppend, rIxLm, rCat, tIsN, tNotN, rIxTm, rExtend, gTup, gCons, gNil, tYes, rSum, rAll, asV_is, asI_is, asB_is, asR_is, rEqm_ii, rNem_ii, scal_ii, scal_bb, rLtL, rMaxD, rMinD, L2.start, wipe, List.map_cons, List.map_nil, List.length_cons, List.length_nil, List.append_nil, List.cons_append, List.nil_append, List.replicate_succ, List.replicate_zero, List.getElem?_cons_zero, List.getElem?_cons_succ, List.set_cons_zero, List.set_cons_succ]); (try simp only [tVarm, tC, tOp, tUn, rIm, rI0m, rUm, tTestm, tChainm, tAnd, tOr, tNot, tAndVm, tOrVm, tNotVm, tIf, tSeq, tNext, tAsg, gName, tIfS, tRet, tRetN, tDrop, tCall, tCB, tCons, tNil, tLst, tTup, tAugm, ipIm, tBM, rAppend, rIxLm, rCat, tIsN, tNotN, rIxTm, rExtend, gTup, gCons, gNil, tYes, rSum, rAll, rLtL, rMaxD, rMinD, V.int.injEq, V.bl.injEq, V.str.injEq, V.ref.injEq, and_true, true_and, and_assoc, Bool.false_eq_true, List.map_cons, List.map_nil, List.length_cons, List.length_nil, List.append_nil, List.cons_append, List.nil_append, List.replicate_succ, List.replicate_zero, List.getElem?_cons_zero, List.getElem?_cons_succ, List.set_cons_zero, List.set_cons_succ, Option.some.injEq, List.cons.injEq, exists_eq_left', exists_and_left, exists_eq_left, asV_ex, asI_ex, asB_ex, asR_ex, rEqm_ex, rNem_ex, scal_ii, scal_bb, L2.start, wipe, Nat.reduceAdd, Nat.reduceSub, reduceIte])
    refine ⟨_, rfl, _, rfl, a, _, rfl, hS, fun p hp => ⟨p, rfl, ⟨_, SqL.of upd_same⟩, ?_⟩⟩
    have ecut : cutV (t.map V.int) (some ((s : Nat) : Int)) (some ((s + j : Nat) : Int)) = ((t.drop s).take j).map V.int := by
      unfold cutV
      rw [HT.sIx_nat, HT.sIx_nat, List.length_map, Nat.min_eq_left (by (first | lia | omega)), Nat.min_eq_left (by (first | lia | omega)), Nat.add_sub_cancel_left, ← List.map_drop, ← List.map_take]
    rw [ecut]
    refine for_list (xs := ((t.drop s).take j).map V.int) (fun i σ' H' => H' = upd H p (.lst (((t.drop s).take j).map V.int)) ∧ ∃ b, σ' = [some (.ref a), some (.int s), some (.int ((s + j : Nat) : Int)), some (.int (GA.digVal (((t.drop s).take j).take i))), b]) ⟨rfl, none, rfl⟩ (fun i σ' H' _ q => ?_) (fun i x σ' H' hx q => ?_) (fun σ' H' q => ?_)
    · obtain ⟨rfl, _⟩ := q
      exact SqL.of upd_same
    · obtain ⟨rfl, b, rfl⟩ := q
      rw [List.getElem?_map] at hx
      cases hy : ((t.drop s).take j)[i]? with
      | none =>
        rw [hy] at hx
        cases hx
      | some c =>
        rw [hy] at hx
        cases hx
        (try dsimp only [tVarm, tC, tOp, tUn, rIm, rI0m, rUm, tTestm, tChainm, tAnd, tOr, tNot, tAndVm, tOrVm, tNotVm, tIf, tSeq, tNext, tAsg, gName, tIfS, tRet, tRetN, tDrop, tCall, tCB, tCons, tNil, tLst, tTup, tAugm, ipIm, tBM, rAppend, rIxLm, rCat, tIsN, tNotN, rIxTm, rExtend, gTup, gCons, gNil, tYes, rSum, rAll, asV_is, asI_is, asB_is, asR_is, rEqm_ii, rNem_ii, scal_ii, scal_bb, rLtL, rMaxD, rMinD, L2.start, wipe, List.map_cons, List.map_nil, List.length_cons, List.length_nil, List.append_nil, List.cons_append, List.nil_append, List.replicate_succ, List.replicate_zero, List.getElem?_cons_zero, List.getElem?_cons_succ, List.set_cons_zero, List.set_cons_succ]); (try simp only [tVarm, tC, tOp, tUn, rIm, rI0m, rUm, tTestm, tChainm, tAnd, tOr, tNot, tAndVm, tOrVm, tNotVm, tIf, tSeq, tNext, tAsg, gName, tIfS, tRet, tRetN, tDrop, tCall, tCB, tCons, tNil, tLst, tTup, tAugm, ipIm, tBM, rAppend, rIxLm, rCat, tIsN, tNotN, rIxTm, rExtend, gTup, gCons, gNil, tYes, rSum, rAll, rLtL, rMaxD, rMinD, V.int.injEq, V.bl.injEq, V.str.injEq, V.ref.injEq, and_true, true_and, and_assoc, Bool.false_eq_true, List.map_cons, List.map_nil, List.length_cons, List.length_nil, List.append_nil, List.cons_append, List.nil_append, List.replicate_succ, List.replicate_zero, List.getElem?_cons_zero, List.getElem?_cons_succ, List.set_cons_zero, List.set_cons_succ, Option.some.injEq, List.cons.injEq, exists_eq_left', exists_and_left, exists_eq_left, asV_ex, asI_ex, asB_ex, asR_ex, rEqm_ex, rNem_ex, scal_ii, scal_bb, L2.start, wipe, Nat.reduceAdd, Nat.reduceSub, reduceIte])
        refine ⟨.inr ⟨by (first | lia | omega), by (first | lia | omega)⟩, ?_⟩
        have e : GA.digVal (((t.drop s).take j).take (i + 1)) = GA.digVal (((t.drop s).take j).take i) * 10 + c - 48 := by
          rw [List.take_succ, hy]
          unfold GA.digVal
          rw [List.foldl_append]
          rfl
        exact ⟨e.symm, _, rfl⟩
    · obtain ⟨rfl, b, rfl⟩ := q
      (try dsimp only [tVarm, tC, tOp, tUn, rIm, rI0m, rUm, tTestm, tChainm, tAnd, tOr, tNot, tAndVm, tOrVm, tNotVm, tIf, tSeq, tNext, tAsg, gName, tIfS, tRet, tRetN, tDrop, tCall, tCB, tCons, tNil, tLst, tTup, tAugm, ipIm, tBM, rAppend, rIxLm, rCat, tIsN, tNotN, rIxTm, rExtend, gTup, gCons, gNil, tYes, rSum, rAll, asV_is, asI_is, asB_is, asR_is, rEqm_ii, rNem_ii, scal_ii, scal_bb, rLtL, rMaxD, rMinD, L2.start, wipe, List.map_cons, List.map_nil, List.length_cons, List.length_nil, List.append_nil, List.cons_append, List.nil_append, List.replicate_succ, List.replicate_zero, List.getElem?_cons_zero, List.getElem?_cons_succ, List.set_cons_zero, List.set_cons_succ]); (try simp only [tVarm, tC, tOp, tUn, rIm, rI0m, rUm, tTestm, tChainm, tAnd, tOr, tNot, tAndVm, tOrVm, tNotVm, tIf, tSeq, tNext, tAsg, gName, tIfS, tRet, tRetN, tDrop, tCall, tCB, tCons, tNil, tLst, tTup, tAugm, ipIm, tBM, rAppend, rIxLm, rCat, tIsN, tNotN, rIxTm, rExtend, gTup, gCons, gNil, tYes, rSum, rAll, rLtL, rMaxD, rMinD, V.int.injEq, V.bl.injEq, V.str.injEq, V.ref.injEq, and_true, true_and, and_assoc, Bool.false_eq_true, List.map_cons, List.map_nil, List.length_cons, List.length_nil, List.append_nil, List.cons_append, List.nil_append, List.replicate_succ, List.replicate_zero, List.getElem?_cons_zero, List.getElem?_cons_succ, List.set_cons_zero, List.set_cons_succ, Option.some.injEq, List.cons.injEq, exists_eq_left', exists_and_left, exists_eq_left, asV_ex, asI_ex, asB_ex, asR_ex, rEqm_ex, rNem_ex, scal_ii, scal_bb, L2.start, wipe, Nat.reduceAdd, Nat.reduceSub, reduceIte])
      have e : (((t.drop s).take j).map V.int).length = ((t.drop s).take j).length := List.length_map _
      rw [e, List.take_length]
      exact k _ (same_new hp)
def sp_whole_end (K : PySem.W.Frag) : Sp := fun vs H Q _ => ∃ (a : Addr) (t : List Int) (s : Nat), vs = [.ref a, .int s] ∧ SqL K H a (t.map V.int) ∧ Q (.int ((s + GA.wholeL (t.drop s) : Nat) : Int)) H

theorem sc_whole_end : FnScope ["text", "start"] ["text", "start"] (defScope st_whole_end) := ⟨rfl, rfl, rfl, by decide +kernel, rfl, by decide +kernel, by decide +kernel⟩
theorem ok_whole_end {P : Program} {w : World} {K : PySem.W.Frag} {mg : Str → Option Value} {base : Heap} (R : Raw K mg "whole_end" st_whole_end ["text", "start"]) {t_MOST_DIGITS : Tok} (g_MOST_DIGITS : mg "MOST_DIGITS" = some (.int (9) t_MOST_DIGITS)) {t_ZERO : Tok} (g_ZERO : mg "ZERO" = some (.int (48) t_ZERO)) (D_digits_end : Dn P w K mg base 2 "digits_end" ["text", "start", "most"] (sp_digits_end K)) (D_byte_at : Dn P w K mg base 1 "byte_at" ["text", "place"] (sp_byte_at K)) : Dn P w K mg base 3 "whole_end" ["text", "start"] (sp_whole_end K) := by
  refine R.dn fun f fd F => F.ok sc_whole_end (fun vs H Q E h => ?_) (fun cdv A outer s H vs Q E hr h => ?_)
  ·
    obtain ⟨_, _, _, rfl, _⟩ := h
    rfl
  ·
    obtain ⟨a, t, s, rfl, hS, k⟩ := h
    refine ⟨_, (pss_one (ps_ret (pe_callD D_digits_end (hr.mono (by decide)) rfl (pa_cons (pvm 0) (pa_cons (pvm 1) (pa_cons (pe_ifExp (pt_cmpRm op_eqm (pe_callD D_byte_at (hr.mono (by decide)) rfl (pa_cons (pvm 0) (pa_cons (pvm 1) pa_nil))) (pe_glob (v := .int (48)) rfl g_ZERO ⟨_, rfl⟩) (nomark _)) pe_int (pe_glob (v := .int (9)) rfl g_MOST_DIGITS ⟨_, rfl⟩)) pa_nil)))))), ?_⟩
    (try dsimp only [tVarm, tC, tOp, tUn, rIm, rI0m, rUm, tTestm, tChainm, tAnd, tOr, tNot, tAndVm, tOrVm, tNotVm, tIf, tSeq, tNext, tAsg, gName, tIfS, tRet, tRetN, tDrop, tCall, tCB, tCons, tNil, tLst, tTup, tAugm, ipIm, tBM, rAppend, rIxLm, rCat, tIsN, tNotN, rIxTm, rExtend, gTup, gCons, gNil, tYes, rSum, rAll, asV_is, asI_is, asB_is, asR_is, rEqm_ii, rNem_ii, scal_ii, scal_bb, rLtL, rMaxD, rMinD, L2.start, wipe, sp_digits_end, sp_byte_at, List.map_cons, List.map_nil, List.length_cons, List.length_nil, List.append_nil, List.cons_append, List.nil_append, List.replicate_succ, List.replicate_zero, List.getElem?_cons_zero, List.getElem?_cons_succ, List.set_cons_zero, List.set_cons_succ]); (try simp only [tVarm, tC, tOp, tUn, rIm, rI0m, rUm, tTestm, tChainm, tAnd, tOr, tNot, tAndVm, tOrVm, tNotVm, tIf, tSeq, tNext, tAsg, gName, tIfS, tRet, tRetN, tDrop, tCall, tCB, tCons, tNil, tLst, tTup, tAugm, ipIm, tBM, rAppend, rIxLm, rCat, tIsN, tNotN, rIxTm, rExtend, gTup, gCons, gNil, tYes, rSum, rAll, rLtL, rMaxD, rMinD, V.int.injEq, V.bl.injEq, V.str.injEq, V.ref.injEq, and_true, true_and, and_assoc, Bool.false_eq_true, List.map_cons, List.map_nil, List.length_cons, List.length_nil, List.append_nil, List.cons_append, List.nil_append, List.replicate_succ, List.replicate_zero, List.getElem?_cons_zero, List.getElem?_cons_succ, List.set_cons_zero, List.set_cons_succ, Option.some.injEq, List.cons.injEq, exists_eq_left', exists_and_left, exists_eq_left, asV_ex, asI_ex, asB_ex, asR_ex, rEqm_ex, rNem_ex, scal_ii, scal_bb, L2.start, wipe, Nat.reduceAdd, Nat.reduceSub, reduceIte, sp_digits_end, sp_byte_at])
    refine ⟨t, s, rfl, hS, ?_⟩
    unfold GA.wholeL at k
    by_cases h : GA.at_ t s = 48
    · have h' : GA.hd (t.drop s) = 48 := h
      rw [if_pos h'] at k
      rw [decide_eq_true h]
      exact iteT ⟨t, s, rfl, 1, rfl, hS, k⟩
    · have h' : ¬ GA.hd (t.drop s) = 48 := h
      rw [if_neg h'] at k
      rw [decide_eq_false h]
      exact iteF ⟨t, s, rfl, 9, rfl, hS, k⟩
def sp_decimals_end (K : PySem.W.Frag) : Sp := fun vs H Q _ => ∃ (a : Addr) (t : List Int) (s : Nat), vs = [.ref a, .int s] ∧ SqL K H a (t.map V.int) ∧ Q (.int ((s + GA.decL (t.drop s) : Nat) : Int)) H

theorem sc_decimals_end : FnScope ["text", "start", "end"] ["text", "start"] (defScope st_decimals_end) := ⟨rfl, rfl, rfl, by decide +kernel, rfl, by decide +kernel, by decide +kernel⟩
theorem ok_decimals_end {P : Program} {w : World} {K : PySem.W.Frag} {mg : Str → Option Value} {base : Heap} (R : Raw K mg "decimals_end" st_decimals_end ["text", "start"]) {t_MOST_DECIMALS : Tok} (g_MOST_DECIMALS : mg "MOST_DECIMALS" = some (.int (4) t_MOST_DECIMALS)) {t_ZERO : Tok} (g_ZERO : mg "ZERO" = some (.int (48) t_ZERO)) (D_digits_end : Dn P w K mg base 2 "digits_end" ["text", "start", "most"] (sp_digits_end K)) : Dn P w K mg base 3 "decimals_end" ["text", "start"] (sp_decimals_end K) := by
  refine R.dn fun f fd F => F.ok sc_decimals_end (fun vs H Q E h => ?_) (fun cdv A outer s H vs Q E hr h => ?_)
  ·
    obtain ⟨_, _, _, rfl, _⟩ := h
    rfl
  ·
    obtain ⟨a, t, s, rfl, hS, k⟩ := h
    refine ⟨_, (pss_cons (ps_set (i := 2) sc_decimals_end.nd rfl (Or.inl rfl) (pe_callD D_digits_end (hr.mono (by decide)) rfl (pa_cons (pvm 0) (pa_cons (pvm 1) (pa_cons (pe_glob (v := .int (4)) rfl g_MOST_DECIMALS ⟨_, rfl⟩) pa_nil))))) (pss_cons (ps_if (PW.pt (pw_and (pt_cmpRm op_eqm (pvm 2) (pe_op op_addm (pvm 1) (pe_glob (v := .int (4)) rfl g_MOST_DECIMALS ⟨_, rfl⟩)) (nomark _)) (pw_and1 (pt_cmpRm op_eqm (pe_ix ix_listm (pvm 0) (pe_op op_subm (pvm 2) pe_int) (fun _ _ => rfl)) (pe_glob (v := .int (48)) rfl g_ZERO ⟨_, rfl⟩) (nomark _))))) (pss_one (ps_ret (pe_op op_subm (pvm 2) pe_int))) pss_nil) (pss_one (ps_ret (pvm 2))))), ?_⟩
    (try dsimp only [tVarm, tC, tOp, tUn, rIm, rI0m, rUm, tTestm, tChainm, tAnd, tOr, tNot, tAndVm, tOrVm, tNotVm, tIf, tSeq, tNext, tAsg, gName, tIfS, tRet, tRetN, tDrop, tCall, tCB, tCons, tNil, tLst, tTup, tAugm, ipIm, tBM, rAppend, rIxLm, rCat, tIsN, tNotN, rIxTm, rExtend, gTup, gCons, gNil, tYes, rSum, rAll, asV_is, asI_is, asB_is, asR_is, rEqm_ii, rNem_ii, scal_ii, scal_bb, rLtL, rMaxD, rMinD, L2.start, wipe, sp_digits_end, List.map_cons, List.map_nil, List.length_cons, List.length_nil, List.append_nil, List.cons_append, List.nil_append, List.replicate_succ, List.replicate_zero, List.getElem?_cons_zero, List.getElem?_cons_succ, List.set_cons_zero, List.set_cons_succ]); (try simp only [tVarm, tC, tOp, tUn, rIm, rI0m, rUm, tTestm, tChainm, tAnd, tOr, tNot, tAndVm, tOrVm, tNotVm, tIf, tSeq, tNext, tAsg, gName, tIfS, tRet, tRetN, tDrop, tCall, tCB, tCons, tNil, tLst, tTup, tAugm, ipIm, tBM, rAppend, rIxLm, rCat, tIsN, tNotN, rIxTm, rExtend, gTup, gCons, gNil, tYes, rSum, rAll, rLtL, rMaxD, rMinD, V.int.injEq, V.bl.injEq, V.str.injEq, V.ref.injEq, and_true, true_and, and_assoc, Bool.false_eq_true, List.map_cons, List.map_nil, List.length_cons, List.length_nil, List.append_nil, List.cons_append, List.nil_append, List.replicate_succ, List.replicate_zero, List.getElem?_cons_zero, List.getElem?_cons_succ, List.set_cons_zero, List.set_cons_succ, Option.some.injEq, List.cons.injEq, exists_eq_left', exists_and_left, exists_eq_left, asV_ex, asI_ex, asB_ex, asR_ex, rEqm_ex, rNem_ex, scal_ii, scal_bb, L2.start, wipe, Nat.reduceAdd, Nat.reduceSub, reduceIte, sp_digits_end])
    refine ⟨t, s, rfl, 4, rfl, hS, ?_⟩
    unfold GA.decL at k
    have dl := GA.digs_le 4 (t.drop s)
    rw [List.length_drop] at dl
    by_cases h : GA.digs 4 (t.drop s) = 4
    · have c : decide (((s + GA.digs 4 (t.drop s) : Nat) : Int) = (s : Int) + 4) = true := decide_eq_true (by (first | lia | omega))
      rw [c]
      refine iteT ⟨_, hS, .int (GA.at_ t (s + 3)), ?_, rfl, ?_⟩
      · rw [h]
        have e : ((s + 4 : Nat) : Int) - 1 = ((s + 3 : Nat) : Int) := by (first | lia | omega)
        rw [e]
        exact item_at (by (first | lia | omega))
      · have e3 : (t.drop s).getD 3 0 = GA.at_ t (s + 3) := by
          have hlt : s + 3 < t.length := by (first | lia | omega)
          unfold GA.at_
          rw [List.getD_eq_getElem?_getD, List.getElem?_drop, List.drop_eq_getElem_cons hlt, List.getElem?_eq_getElem hlt]
          rfl
        rw [e3] at k
        by_cases h3 : GA.at_ t (s + 3) = 48
        · rw [if_pos ⟨h, h3⟩] at k
          refine ite2 (fun _ => ?_) (fun q => absurd (decide_eq_true (congrArg V.int h3)) q)
          have e : ((s + GA.digs 4 (t.drop s) : Nat) : Int) - 1 = ((s + 3 : Nat) : Int) := by (first | lia | omega)
          rw [e]
          exact k
        · rw [if_neg (fun q => h3 q.2)] at k
          exact ite2 (fun q => absurd (V.int.inj (of_decide_eq_true q)) h3) (fun _ => k)
    · have c : decide (((s + GA.digs 4 (t.drop s) : Nat) : Int) = (s : Int) + 4) = false := decide_eq_false (by (first | lia | omega))
      rw [c]
      rw [if_neg (fun q => h q.1)] at k
      exact iteF k
def sp_number_at (K : PySem.W.Frag) : Sp := fun vs H Q _ => ∃ (a : Addr) (t : List Int) (s : Nat), vs = [.ref a, .int s] ∧ SqL K H a (t.map V.int) ∧ ∀ p H', H p = none → Same H H' → H' p = some (.lst [.int (GA.numA t s).1, optV (GA.numA t s).2]) → Q (.ref p) H'

theorem sc_number_at : FnScope ["text", "start", "point", "ticks", "end"] ["text", "start"] (defScope st_number_at) := ⟨rfl, rfl, rfl, by decide +kernel, rfl, by decide +kernel, by decide +kernel⟩
theorem ok_number_at {P : Program} {w : World} {K : PySem.W.Frag} {mg : Str → Option Value} {base : Heap} (R : Raw K mg "number_at" st_number_at ["text", "start"]) {t_TICKS : Tok} (g_TICKS : mg "TICKS" = some (.int (10000) t_TICKS)) {t_POINT : Tok} (g_POINT : mg "POINT" = some (.int (46) t_POINT)) {t_ZERO : Tok} (g_ZERO : mg "ZERO" = some (.int (48) t_ZERO)) {aDT : Addr} (g_DECIMAL_TICKS : mg "DECIMAL_TICKS" = some (.ref aDT)) (q_DECIMAL_TICKS : ∀ H, SqT K H aDT [.int 1000, .int 100, .int 10, .int 1]) (D_whole_end : Dn P w K mg base 3 "whole_end" ["text", "start"] (sp_whole_end K)) (D_decimals_end : Dn P w K mg base 3 "decimals_end" ["text", "start"] (sp_decimals_end K)) (D_digits_value : Dn P w K mg base 1 "digits_value" ["text", "start", "end"] (sp_digits_value K)) (D_byte_at : Dn P w K mg base 1 "byte_at" ["text", "place"] (sp_byte_at K)) : Dn P w K mg base 4 "number_at" ["text", "start"] (sp_number_at K) := by
  refine R.dn fun f fd F => F.ok sc_number_at (fun vs H Q E h => ?_) (fun cdv A outer s H vs Q E hr h => ?_)
  ·
    obtain ⟨_, _, _, rfl, _⟩ := h
    rfl
  ·
    obtain ⟨a, t, s, rfl, hS, k⟩ := h
    refine ⟨_, (pss_cons (ps_set (i := 2) sc_number_at.nd rfl (Or.inl rfl) (pe_callD D_whole_end (hr.mono (by decide)) rfl (pa_cons (pvm 0) (pa_cons (pvm 1) pa_nil)))) (pss_cons (ps_if (pt_cmpRm op_eqm (pvm 2) (pvm 1) (nomark _)) (pss_one (ps_ret (pe_lst (pa_cons (pvm 1) (pa_cons pe_non pa_nil))))) pss_nil) (pss_cons (ps_set (i := 3) sc_number_at.nd rfl (Or.inl rfl) (pe_op op_mulm (pe_callD D_digits_value (hr.mono (by decide)) rfl (pa_cons (pvm 0) (pa_cons (pvm 1) (pa_cons (pvm 2) pa_nil)))) (pe_glob (v := .int (10000)) rfl g_TICKS ⟨_, rfl⟩))) (pss_cons (ps_if (pt_cmpRm op_nem (pe_callD D_byte_at (hr.mono (by decide)) rfl (pa_cons (pvm 0) (pa_cons (pvm 2) pa_nil))) (pe_glob (v := .int (46)) rfl g_POINT ⟨_, rfl⟩) (nomark _)) (pss_one (ps_ret (pe_lst (pa_cons (pvm 2) (pa_cons (pvm 3) pa_nil))))) pss_nil) (pss_cons (ps_set (i := 4) sc_number_at.nd rfl (Or.inl rfl) (pe_callD D_decimals_end (hr.mono (by decide)) rfl (pa_cons (pvm 0) (pa_cons (pe_op op_addm (pvm 2) pe_int) pa_nil)))) (pss_cons (ps_if (PW.pt (pw_or (pt_cmpRm op_eqm (pvm 4) (pe_op op_addm (pvm 2) pe_int) (nomark _)) (pw_or1 (pt_cmpRm op_eqm (pe_ix ix_listm (pvm 0) (pe_op op_subm (pvm 4) pe_int) (fun _ _ => rfl)) (pe_glob (v := .int (48)) rfl g_ZERO ⟨_, rfl⟩) (nomark _))))) (pss_one (ps_ret (pe_lst (pa_cons (pvm 4) (pa_cons pe_non pa_nil))))) pss_nil) (pss_one (ps_ret (pe_lst (pa_cons (pvm 4) (pa_cons (pe_op op_addm (pvm 3) (pe_op op_mulm (pe_callD D_digits_value (hr.mono (by decide)) rfl (pa_cons (pvm 0) (pa_cons (pe_op op_addm (pvm 2) pe_int) (pa_cons (pvm 4) pa_nil)))) (pe_ix ix_tupm (pe_glob (v := .ref aDT) rfl g_DECIMAL_TICKS rfl) (pe_op op_subm (pe_op op_subm (pvm 4) (pvm 2)) pe_int) (fun _ _ => rfl)))) pa_nil))))))))))), ?_⟩
    (try dsimp only [tVarm, tC, tOp, tUn, rIm, rI0m, rUm, tTestm, tChainm, tAnd, tOr, tNot, tAndVm, tOrVm, tNotVm, tIf, tSeq, tNext, tAsg, gName, tIfS, tRet, tRetN, tDrop, tCall, tCB, tCons, tNil, tLst, tTup, tAugm, ipIm, tBM, rAppend, rIxLm, rCat, tIsN, tNotN, rIxTm, rExtend, gTup, gCons, gNil, tYes, rSum, rAll, asV_is, asI_is, asB_is, asR_is, rEqm_ii, rNem_ii, scal_ii, scal_bb, rLtL, rMaxD, rMinD, L2.start, wipe, sp_whole_end, sp_decimals_end, sp_digits_value, sp_byte_at, List.map_cons, List.map_nil, List.length_cons, List.length_nil, List.append_nil, List.cons_append, List.nil_append, List.replicate_succ, List.replicate_zero, List.getElem?_cons_zero, List.getElem?_cons_succ, List.set_cons_zero, List.set_cons_succ]); (try simp only [tVarm, tC, tOp, tUn, rIm, rI0m, rUm, tTestm, tChainm, tAnd, tOr, tNot, tAndVm, tOrVm, tNotVm, tIf, tSeq, tNext, tAsg, gName, tIfS, tRet, tRetN, tDrop, tCall, tCB, tCons, tNil, tLst, tTup, tAugm, ipIm, tBM, rAppend, rIxLm, rCat, tIsN, tNotN, rIxTm, rExtend, gTup, gCons, gNil, tYes, rSum, rAll, rLtL, rMaxD, rMinD, V.int.injEq, V.bl.injEq, V.str.injEq, V.ref.injEq, and_true, true_and, and_assoc, Bool.false_eq_true, List.map_cons, List.map_nil, List.length_cons, List.length_nil, List.append_nil, List.cons_append, List.nil_append, List.replicate_succ, List.replicate_zero, List.getElem?_cons_zero, List.getElem?_cons_succ, List.set_cons_zero, List.set_cons_succ, Option.some.injEq, List.cons.injEq, exists_eq_left', exists_and_left, exists_eq_left, asV_ex, asI_ex, asB_ex, asR_ex, rEqm_ex, rNem_ex, scal_ii, scal_bb, L2.start, wipe, Nat.reduceAdd, Nat.reduceSub, reduceIte, sp_whole_end, sp_decimals_end, sp_digits_value, sp_byte_at])
    refine ⟨t, s, rfl, hS, ?_⟩
    have wle := GA.digs_le (if GA.hd (t.drop s) = 48 then 1 else 9) (t.drop s)
    rw [List.length_drop] at wle
    have wl : GA.wholeL (t.drop s) ≤ t.length - s := wle.2
    by_cases hw : GA.wholeL (t.drop s) = 0
    · have en : GA.numA t s = (s, none) := by
        unfold GA.numA GA.numL
        rw [if_pos hw]
        rfl
      rw [en] at k
      refine ite2 (fun _ => ?_) (fun q => absurd (decide_eq_true (by (first | lia | omega))) q)
      exact ⟨by decide, fun p hp => k p _ hp (same_new hp) upd_same⟩
    · refine ite2 (fun q => absurd (of_decide_eq_true q) (by (first | lia | omega))) (fun _ => ?_)
      refine ⟨t, s, rfl, GA.wholeL (t.drop s), rfl, by (first | lia | omega), hS, fun H1 s1 => ⟨.inr ⟨by (first | lia | omega), by (first | lia | omega)⟩, t, s + GA.wholeL (t.drop s), rfl, s1.seq hS, ?_⟩⟩
      have ehd : GA.hd ((t.drop s).drop (GA.wholeL (t.drop s))) = GA.at_ t (s + GA.wholeL (t.drop s)) := by
        unfold GA.at_
        rw [List.drop_drop]
      by_cases hp : GA.at_ t (s + GA.wholeL (t.drop s)) = 46
      · refine iteF' (by rw [decide_eq_true hp]; rfl) ?_
        have dd : (t.drop s).drop (GA.wholeL (t.drop s) + 1) = t.drop (s + GA.wholeL (t.drop s) + 1) := by
          rw [List.drop_drop, Nat.add_assoc]
        have dl := GA.decL_le (t.drop (s + GA.wholeL (t.drop s) + 1))
        have dl2 := GA.digs_le 4 (t.drop (s + GA.wholeL (t.drop s) + 1))
        rw [List.length_drop] at dl2
        refine ⟨t, s + GA.wholeL (t.drop s) + 1, rfl, s1.seq hS, ?_⟩
        have en : GA.numA t s = if GA.decL (t.drop (s + GA.wholeL (t.drop s) + 1)) = 0 ∨ (t.drop (s + GA.wholeL (t.drop s) + 1)).getD (GA.decL (t.drop (s + GA.wholeL (t.drop s) + 1)) - 1) 0 = 48 then (s + (GA.wholeL (t.drop s) + 1 + GA.decL (t.drop (s + GA.wholeL (t.drop s) + 1))), none)
            else (s + (GA.wholeL (t.drop s) + 1 + GA.decL (t.drop (s + GA.wholeL (t.drop s) + 1))), some (GA.digVal ((t.drop s).take (GA.wholeL (t.drop s))) * 10000 + GA.digVal ((t.drop (s + GA.wholeL (t.drop s) + 1)).take (GA.decL (t.drop (s + GA.wholeL (t.drop s) + 1)))) * 10 ^ (4 - GA.decL (t.drop (s + GA.wholeL (t.drop s) + 1))))) := by
          unfold GA.numA GA.numL
          rw [if_neg hw, if_neg (by rw [ehd, hp]; simp), dd]
          split <;> rfl
        generalize GA.decL (t.drop (s + GA.wholeL (t.drop s) + 1)) = j at dl en ⊢
        generalize GA.wholeL (t.drop s) = W at *
        by_cases hj : j = 0
        · rw [if_pos (.inl hj)] at en
          rw [en] at k
          refine ite2 (fun _ => ?_) (fun q => absurd (decide_eq_true (by (first | lia | omega))) q)
          refine ⟨by decide, fun p hp => k p _ (s1.free hp) (s1.trans (same_new hp)) ?_⟩
          rw [upd_same]
          have e : s + W + 1 + j = s + (W + 1 + j) := by (first | lia | omega)
          rw [e]
          rfl
        · refine ite2 (fun q => absurd (of_decide_eq_true q) (by (first | lia | omega))) (fun _ => ?_)
          have hlt : s + W + j < t.length := by (first | lia | omega)
          have eat : (t.drop (s + W + 1)).getD (j - 1) 0 = GA.at_ t (s + W + j) := by
            unfold GA.at_
            rw [List.getD_eq_getElem?_getD, List.getElem?_drop, List.drop_eq_getElem_cons hlt]
            have e : s + W + 1 + (j - 1) = s + W + j := by (first | lia | omega)
            rw [e, List.getElem?_eq_getElem hlt]
            rfl
          rw [eat] at en
          refine ⟨_, s1.seq hS, .int (GA.at_ t (s + W + j)), ?_, rfl, ?_⟩
          · have e : ((s + W + 1 + j : Nat) : Int) - 1 = ((s + W + j : Nat) : Int) := by (first | lia | omega)
            rw [e]
            exact item_at hlt
          · by_cases hz : GA.at_ t (s + W + j) = 48
            · rw [if_pos (.inr hz)] at en
              rw [en] at k
              refine ite2 (fun _ => ?_) (fun q => absurd (decide_eq_true (congrArg V.int hz)) q)
              refine ⟨by decide, fun p hp => k p _ (s1.free hp) (s1.trans (same_new hp)) ?_⟩
              rw [upd_same]
              have e : s + W + 1 + j = s + (W + 1 + j) := by (first | lia | omega)
              rw [e]
              rfl
            · rw [if_neg (fun q => q.elim hj hz)] at en
              rw [en] at k
              refine ite2 (fun q => absurd (V.int.inj (of_decide_eq_true q)) hz) (fun _ => ?_)
              refine ⟨t, s + W + 1, rfl, j, rfl, by (first | lia | omega), s1.seq hS, fun H2 s2 => ?_⟩
              (try dsimp only [tVarm, tC, tOp, tUn, rIm, rI0m, rUm, tTestm, tChainm, tAnd, tOr, tNot, tAndVm, tOrVm, tNotVm, tIf, tSeq, tNext, tAsg, gName, tIfS, tRet, tRetN, tDrop, tCall, tCB, tCons, tNil, tLst, tTup, tAugm, ipIm, tBM, rAppend, rIxLm, rCat, tIsN, tNotN, rIxTm, rExtend, gTup, gCons, gNil, tYes, rSum, rAll, asV_is, asI_is, asB_is, asR_is, rEqm_ii, rNem_ii, scal_ii, scal_bb, rLtL, rMaxD, rMinD, L2.start, wipe, sp_whole_end, sp_decimals_end, sp_digits_value, sp_byte_at, List.map_cons, List.map_nil, List.length_cons, List.length_nil, List.append_nil, List.cons_append, List.nil_append, List.replicate_succ, List.replicate_zero, List.getElem?_cons_zero, List.getElem?_cons_succ, List.set_cons_zero, List.set_cons_succ]); (try simp only [tVarm, tC, tOp, tUn, rIm, rI0m, rUm, tTestm, tChainm, tAnd, tOr, tNot, tAndVm, tOrVm, tNotVm, tIf, tSeq, tNext, tAsg, gName, tIfS, tRet, tRetN, tDrop, tCall, tCB, tCons, tNil, tLst, tTup, tAugm, ipIm, tBM, rAppend, rIxLm, rCat, tIsN, tNotN, rIxTm, rExtend, gTup, gCons, gNil, tYes, rSum, rAll, rLtL, rMaxD, rMinD, V.int.injEq, V.bl.injEq, V.str.injEq, V.ref.injEq, and_true, true_and, and_assoc, Bool.false_eq_true, List.map_cons, List.map_nil, List.length_cons, List.length_nil, List.append_nil, List.cons_append, List.nil_append, List.replicate_succ, List.replicate_zero, List.getElem?_cons_zero, List.getElem?_cons_succ, List.set_cons_zero, List.set_cons_succ, Option.some.injEq, List.cons.injEq, exists_eq_left', exists_and_left, exists_eq_left, asV_ex, asI_ex, asB_ex, asR_ex, rEqm_ex, rNem_ex, scal_ii, scal_bb, L2.start, wipe, Nat.reduceAdd, Nat.reduceSub, reduceIte, sp_whole_end, sp_decimals_end, sp_digits_value, sp_byte_at])
              refine ⟨_, q_DECIMAL_TICKS _, .int (10 ^ (4 - j)), ?_, ?_⟩
              · have e : ((s + W + 1 + j : Nat) : Int) - ((s + W : Nat) : Int) - 2 = ((j - 1 : Nat) : Int) := by (first | lia | omega)
                rw [e]
                refine atI_nat ?_
                obtain rfl | rfl | rfl | rfl : j = 1 ∨ j = 2 ∨ j = 3 ∨ j = 4 := by (first | lia | omega)
                all_goals rfl
              · (try dsimp only [tVarm, tC, tOp, tUn, rIm, rI0m, rUm, tTestm, tChainm, tAnd, tOr, tNot, tAndVm, tOrVm, tNotVm, tIf, tSeq, tNext, tAsg, gName, tIfS, tRet, tRetN, tDrop, tCall, tCB, tCons, tNil, tLst, tTup, tAugm, ipIm, tBM, rAppend, rIxLm, rCat, tIsN, tNotN, rIxTm, rExtend, gTup, gCons, gNil, tYes, rSum, rAll, asV_is, asI_is, asB_is, asR_is, rEqm_ii, rNem_ii, scal_ii, scal_bb, rLtL, rMaxD, rMinD, L2.start, wipe, sp_whole_end, sp_decimals_end, sp_digits_value, sp_byte_at, List.map_cons, List.map_nil, List.length_cons, List.length_nil, List.append_nil, List.cons_append, List.nil_append, List.replicate_succ, List.replicate_zero, List.getElem?_cons_zero, List.getElem?_cons_succ, List.set_cons_zero, List.set_cons_succ]); (try simp only [tVarm, tC, tOp, tUn, rIm, rI0m, rUm, tTestm, tChainm, tAnd, tOr, tNot, tAndVm, tOrVm, tNotVm, tIf, tSeq, tNext, tAsg, gName, tIfS, tRet, tRetN, tDrop, tCall, tCB, tCons, tNil, tLst, tTup, tAugm, ipIm, tBM, rAppend, rIxLm, rCat, tIsN, tNotN, rIxTm, rExtend, gTup, gCons, gNil, tYes, rSum, rAll, rLtL, rMaxD, rMinD, V.int.injEq, V.bl.injEq, V.str.injEq, V.ref.injEq, and_true, true_and, and_assoc, Bool.false_eq_true, List.map_cons, List.map_nil, List.length_cons, List.length_nil, List.append_nil, List.cons_append, List.nil_append, List.replicate_succ, List.replicate_zero, List.getElem?_cons_zero, List.getElem?_cons_succ, List.set_cons_zero, List.set_cons_succ, Option.some.injEq, List.cons.injEq, exists_eq_left', exists_and_left, exists_eq_left, asV_ex, asI_ex, asB_ex, asR_ex, rEqm_ex, rNem_ex, scal_ii, scal_bb, L2.start, wipe, Nat.reduceAdd, Nat.reduceSub, reduceIte, sp_whole_end, sp_decimals_end, sp_digits_value, sp_byte_at])
                have pw : (10 : Int) ^ (4 - j) ≤ 10000 ∧ 0 ≤ (10 : Int) ^ (4 - j) := by
                  obtain rfl | rfl | rfl | rfl : j = 1 ∨ j = 2 ∨ j = 3 ∨ j = 4 := by (first | lia | omega)
                  all_goals decide
                refine ⟨.inr ⟨by (first | lia | omega), by (first | lia | omega)⟩, by decide, fun p hp => k p _ (s1.free (s2.free hp)) (s1.trans (s2.trans (same_new hp))) ?_⟩
                rw [upd_same]
                have e : s + W + 1 + j = s + (W + 1 + j) := by (first | lia | omega)
                rw [e]
                rfl
      · have en : GA.numA t s = (s + GA.wholeL (t.drop s), some (GA.digVal ((t.drop s).take (GA.wholeL (t.drop s))) * 10000)) := by
          unfold GA.numA GA.numL
          rw [if_neg hw, if_pos (by rw [ehd]; exact hp)]
        rw [en] at k
        refine iteT' (by rw [decide_eq_false hp]; rfl) ?_
        refine ⟨by decide, fun p hp => k p _ (s1.free hp) (s1.trans (same_new hp)) ?_⟩
        rw [upd_same]
        rfl
def sp_deviation_at (K : PySem.W.Frag) : Sp := fun vs H Q _ => ∃ (a : Addr) (t : List Int) (s : Nat), vs = [.ref a, .int s] ∧ s < t.length ∧ SqL K H a (t.map V.int) ∧ ∀ p H', H p = none → Same H H' → H' p = some (.lst [.int (GA.devA t s).1, optV (GA.devA t s).2]) → Q (.ref p) H'

theorem sc_deviation_at : FnScope ["text", "start", "number"] ["text", "start"] (defScope st_deviation_at) := ⟨rfl, rfl, rfl, by decide +kernel, rfl, by decide +kernel, by decide +kernel⟩
theorem ok_deviation_at {P : Program} {w : World} {K : PySem.W.Frag} {mg : Str → Option Value} {base : Heap} (R : Raw K mg "deviation_at" st_deviation_at ["text", "start"]) {t_PLUS : Tok} (g_PLUS : mg "PLUS" = some (.int (43) t_PLUS)) (D_number_at : Dn P w K mg base 4 "number_at" ["text", "start"] (sp_number_at K)) : Dn P w K mg base 5 "deviation_at" ["text", "start"] (sp_deviation_at K) := by
  refine R.dn fun f fd F => F.ok sc_deviation_at (fun vs H Q E h => ?_) (fun cdv A outer s H vs Q E hr h => ?_)
  ·
    obtain ⟨_, _, _, rfl, _⟩ := h
    rfl
  ·
    obtain ⟨a, t, s, rfl, hs, hS, k⟩ := h
    refine ⟨_, (pss_cons (ps_set (i := 2) sc_deviation_at.nd rfl (Or.inl rfl) (pe_callD D_number_at (hr.mono (by decide)) rfl (pa_cons (pvm 0) (pa_cons (pe_op op_addm (pvm 1) pe_int) pa_nil)))) (pss_cons (ps_if (PW.pt (pw_or (pt_cmpRm op_eqm (pe_ix ix_listm (pvm 0) (pvm 1) (fun _ _ => rfl)) (pe_glob (v := .int (43)) rfl g_PLUS ⟨_, rfl⟩) (nomark _)) (pw_or1 (pt_cmpm (pc_isN (pe_ix ix_listm (pvm 2) pe_int (fun _ _ => rfl))))))) (pss_one (ps_ret (pvm 2))) pss_nil) (pss_one (ps_ret (pe_lst (pa_cons (pe_ix ix_listm (pvm 2) pe_int (fun _ _ => rfl)) (pa_cons (pe_ifExp (pt_cmpRm op_eqm (pe_ix ix_listm (pvm 2) pe_int (fun _ _ => rfl)) pe_int (nomark _)) pe_non (pe_un un_negm (pe_ix ix_listm (pvm 2) pe_int (fun _ _ => rfl)))) pa_nil))))))), ?_⟩
    (try dsimp only [tVarm, tC, tOp, tUn, rIm, rI0m, rUm, tTestm, tChainm, tAnd, tOr, tNot, tAndVm, tOrVm, tNotVm, tIf, tSeq, tNext, tAsg, gName, tIfS, tRet, tRetN, tDrop, tCall, tCB, tCons, tNil, tLst, tTup, tAugm, ipIm, tBM, rAppend, rIxLm, rCat, tIsN, tNotN, rIxTm, rExtend, gTup, gCons, gNil, tYes, rSum, rAll, asV_is, asI_is, asB_is, asR_is, rEqm_ii, rNem_ii, scal_ii, scal_bb, rLtL, rMaxD, rMinD, L2.start, wipe, sp_number_at, List.map_cons, List.map_nil, List.length_cons, List.length_nil, List.append_nil, List.cons_append, List.nil_append, List.replicate_succ, List.replicate_zero, List.getElem?_cons_zero, List.getElem?_cons_succ, List.set_cons_zero, List.set_cons_succ]); (try simp only [tVarm, tC, tOp, tUn, rIm, rI0m, rUm, tTestm, tChainm, tAnd, tOr, tNot, tAndVm, tOrVm, tNotVm, tIf, tSeq, tNext, tAsg, gName, tIfS, tRet, tRetN, tDrop, tCall, tCB, tCons, tNil, tLst, tTup, tAugm, ipIm, tBM, rAppend, rIxLm, rCat, tIsN, tNotN, rIxTm, rExtend, gTup, gCons, gNil, tYes, rSum, rAll, rLtL, rMaxD, rMinD, V.int.injEq, V.bl.injEq, V.str.injEq, V.ref.injEq, and_true, true_and, and_assoc, Bool.false_eq_true, List.map_cons, List.map_nil, List.length_cons, List.length_nil, List.append_nil, List.cons_append, List.nil_append, List.replicate_succ, List.replicate_zero, List.getElem?_cons_zero, List.getElem?_cons_succ, List.set_cons_zero, List.set_cons_succ, Option.some.injEq, List.cons.injEq, exists_eq_left', exists_and_left, exists_eq_left, asV_ex, asI_ex, asB_ex, asR_ex, rEqm_ex, rNem_ex, scal_ii, scal_bb, L2.start, wipe, Nat.reduceAdd, Nat.reduceSub, reduceIte, sp_number_at])
    refine ⟨t, s + 1, rfl, hS, fun p H1 hp s1 hP => ?_⟩
    refine ⟨_, s1.seq hS, _, item_at hs, rfl, ?_⟩
    have e1 : (GA.devA t s).1 = (GA.numA t (s + 1)).1 := rfl
    by_cases h43 : GA.at_ t s = 43
    · have e2 : (GA.devA t s).2 = (GA.numA t (s + 1)).2 := by
        unfold GA.devA
        dsimp only
        rw [if_pos h43]
      rw [e1, e2] at k
      refine ite2 (fun _ => ?_) (fun q => absurd (decide_eq_true (congrArg V.int h43)) q)
      exact k p H1 hp s1 hP
    · have e2 : (GA.devA t s).2 = GA.negO (GA.numA t (s + 1)).2 := by
        unfold GA.devA
        dsimp only
        rw [if_neg h43]
      rw [e1, e2] at k
      refine ite2 (fun q => absurd (V.int.inj (of_decide_eq_true q)) h43) (fun _ => ?_)
      refine ⟨_, SqL.of hP, _, rfl, ?_⟩
      cases hn : (GA.numA t (s + 1)).2 with
      | none =>
        rw [hn] at k hP
        exact iteT (k p H1 hp s1 hP)
      | some v =>
        rw [hn] at k hP
        refine iteF' (by exact decide_eq_false (fun q => by cases q)) ?_
        refine ⟨_, SqL.of hP, _, rfl, _, SqL.of hP, _, rfl, rfl, ?_⟩
        by_cases hv : v = 0
        · have e3 : GA.negO (some v) = none := by
            show (if v = 0 then none else some (-v)) = _
            rw [if_pos hv]
          rw [e3] at k
          refine ite2 (fun _ => ?_) (fun q => absurd (decide_eq_true (congrArg V.int hv)) q)
          exact ⟨by decide, fun p2 hp2 => k p2 _ (s1.free hp2) (s1.trans (same_new hp2)) upd_same⟩
        · have e3 : GA.negO (some v) = some (-v) := by
            show (if v = 0 then none else some (-v)) = _
            rw [if_neg hv]
          rw [e3] at k
          refine ite2 (fun q => absurd (V.int.inj (of_decide_eq_true q)) hv) (fun _ => ?_)
          exact ⟨_, SqL.of hP, _, rfl, _, rfl, by decide, fun p2 hp2 => k p2 _ (s1.free hp2) (s1.trans (same_new hp2)) upd_same⟩
def sp_grade_at (K : PySem.W.Frag) : Sp := fun vs H Q _ => ∃ (a : Addr) (t : List Int) (s : Nat), vs = [.ref a, .int s] ∧ SqL K H a (t.map V.int) ∧ ∀ p H', H p = none → Same H H' → H' p = some (.lst [.int (GA.gradeA t s).1, optV (GA.gradeA t s).2]) → Q (.ref p) H'

theorem sc_grade_at : FnScope ["text", "start", "first", "second"] ["text", "start"] (defScope st_grade_at) := ⟨rfl, rfl, rfl, by decide +kernel, rfl, by decide +kernel, by decide +kernel⟩
theorem ok_grade_at {P : Program} {w : World} {K : PySem.W.Frag} {mg : Str → Option Value} {base : Heap} (R : Raw K mg "grade_at" st_grade_at ["text", "start"]) {t_ONE : Tok} (g_ONE : mg "ONE" = some (.int (49) t_ONE)) {t_ZERO : Tok} (g_ZERO : mg "ZERO" = some (.int (48) t_ZERO)) {t_SIX : Tok} (g_SIX : mg "SIX" = some (.int (54) t_SIX)) (D_byte_at : Dn P w K mg base 1 "byte_at" ["text", "place"] (sp_byte_at K)) (D_is_digit : Dn P w K mg base 1 "is_digit" ["byte"] (sp_is_digit K)) : Dn P w K mg base 2 "grade_at" ["text", "start"] (sp_grade_at K) := by
  refine R.dn fun f fd F => F.ok sc_grade_at (fun vs H Q E h => ?_) (fun cdv A outer s H vs Q E hr h => ?_)
  ·
    obtain ⟨_, _, _, rfl, _⟩ := h
    rfl
  ·
    obtain ⟨a, t, s, rfl, hS, k⟩ := h
    refine ⟨_, (pss_cons (ps_set (i := 2) sc_grade_at.nd rfl (Or.inl rfl) (pe_callD D_byte_at (hr.mono (by decide)) rfl (pa_cons (pvm 0) (pa_cons (pvm 1) pa_nil)))) (pss_cons (ps_set (i := 3) sc_grade_at.nd rfl (Or.inl rfl) (pe_callD D_byte_at (hr.mono (by decide)) rfl (pa_cons (pvm 0) (pa_cons (pe_op op_addm (pvm 1) pe_int) pa_nil)))) (pss_cons (ps_if (pt_not (pt_valm (pe_callD D_is_digit (hr.mono (by decide)) rfl (pa_cons (pvm 2) pa_nil)))) (pss_one (ps_ret (pe_lst (pa_cons (pvm 1) (pa_cons pe_non pa_nil))))) pss_nil) (pss_cons (ps_if (PW.pt (pw_and (pt_cmpRm op_eqm (pvm 2) (pe_glob (v := .int (49)) rfl g_ONE ⟨_, rfl⟩) (nomark _)) (pw_and1 (pt_chainm op_lem op_lem (pe_glob (v := .int (48)) rfl g_ZERO ⟨_, rfl⟩) (pvm 3) (pe_glob (v := .int (54)) rfl g_SIX ⟨_, rfl⟩))))) (pss_one (ps_ret (pe_lst (pa_cons (pe_op op_addm (pvm 1) pe_int) (pa_cons (pe_op op_subm (pe_op op_addm pe_int (pvm 3)) (pe_glob (v := .int (48)) rfl g_ZERO ⟨_, rfl⟩)) pa_nil))))) pss_nil) (pss_one (ps_ret (pe_lst (pa_cons (pe_op op_addm (pvm 1) pe_int) (pa_cons (pe_op op_subm (pvm 2) (pe_glob (v := .int (48)) rfl g_ZERO ⟨_, rfl⟩)) pa_nil))))))))), ?_⟩
    (try dsimp only [tVarm, tC, tOp, tUn, rIm, rI0m, rUm, tTestm, tChainm, tAnd, tOr, tNot, tAndVm, tOrVm, tNotVm, tIf, tSeq, tNext, tAsg, gName, tIfS, tRet, tRetN, tDrop, tCall, tCB, tCons, tNil, tLst, tTup, tAugm, ipIm, tBM, rAppend, rIxLm, rCat, tIsN, tNotN, rIxTm, rExtend, gTup, gCons, gNil, tYes, rSum, rAll, asV_is, asI_is, asB_is, asR_is, rEqm_ii, rNem_ii, scal_ii, scal_bb, rLtL, rMaxD, rMinD, L2.start, wipe, sp_byte_at, sp_is_digit, List.map_cons, List.map_nil, List.length_cons, List.length_nil, List.append_nil, List.cons_append, List.nil_append, List.replicate_succ, List.replicate_zero, List.getElem?_cons_zero, List.getElem?_cons_succ, List.set_cons_zero, List.set_cons_succ]); (try simp only [tVarm, tC, tOp, tUn, rIm, rI0m, rUm, tTestm, tChainm, tAnd, tOr, tNot, tAndVm, tOrVm, tNotVm, tIf, tSeq, tNext, tAsg, gName, tIfS, tRet, tRetN, tDrop, tCall, tCB, tCons, tNil, tLst, tTup, tAugm, ipIm, tBM, rAppend, rIxLm, rCat, tIsN, tNotN, rIxTm, rExtend, gTup, gCons, gNil, tYes, rSum, rAll, rLtL, rMaxD, rMinD, V.int.injEq, V.bl.injEq, V.str.injEq, V.ref.injEq, and_true, true_and, and_assoc, Bool.false_eq_true, List.map_cons, List.map_nil, List.length_cons, List.length_nil, List.append_nil, List.cons_append, List.nil_append, List.replicate_succ, List.replicate_zero, List.getElem?_cons_zero, List.getElem?_cons_succ, List.set_cons_zero, List.set_cons_succ, Option.some.injEq, List.cons.injEq, exists_eq_left', exists_and_left, exists_eq_left, asV_ex, asI_ex, asB_ex, asR_ex, rEqm_ex, rNem_ex, scal_ii, scal_bb, L2.start, wipe, Nat.reduceAdd, Nat.reduceSub, reduceIte, sp_byte_at, sp_is_digit])
    refine ⟨t, s, rfl, hS, t, s + 1, rfl, hS, ?_⟩
    have ea : GA.gradeA t s = (s + (GA.gradeL (t.drop s)).1, (GA.gradeL (t.drop s)).2) := rfl
    have e0 : GA.hd (t.drop s) = GA.at_ t s := rfl
    have e1 : GA.hd ((t.drop s).drop 1) = GA.at_ t (s + 1) := by
      unfold GA.at_
      rw [List.drop_drop]
    unfold GA.gradeL at ea
    rw [e0, e1] at ea
    cases hd : GA.isDig (GA.at_ t s) with
    | false =>
      rw [if_pos hd] at ea
      rw [ea] at k
      exact iteT ⟨by decide, fun p hp => k p _ hp (same_new hp) upd_same⟩
    | true =>
      rw [if_neg (by rw [hd]; exact Bool.noConfusion)] at ea
      refine iteF ?_
      by_cases h1 : GA.at_ t s = 49
      · refine ite2 (fun _ => ?_) (fun q => absurd (decide_eq_true h1) q)
        by_cases h2 : 48 ≤ GA.at_ t (s + 1)
        · refine ite2 (fun _ => ?_) (fun q => absurd (decide_eq_true h2) q)
          by_cases h3 : GA.at_ t (s + 1) ≤ 54
          · refine ite2 (fun _ => ?_) (fun q => absurd (decide_eq_true h3) q)
            rw [if_pos ⟨h1, h2, h3⟩] at ea
            rw [ea] at k
            exact ⟨by decide, fun p hp => k p _ hp (same_new hp) upd_same⟩
          · refine ite2 (fun q => absurd (of_decide_eq_true q) h3) (fun _ => ?_)
            rw [if_neg (fun q => h3 q.2.2)] at ea
            rw [ea] at k
            exact ⟨by decide, fun p hp => k p _ hp (same_new hp) upd_same⟩
        · refine ite2 (fun q => absurd (of_decide_eq_true q) h2) (fun _ => ?_)
          rw [if_neg (fun q => h2 q.2.1)] at ea
          rw [ea] at k
          exact ⟨by decide, fun p hp => k p _ hp (same_new hp) upd_same⟩
      · refine ite2 (fun q => absurd (of_decide_eq_true q) h1) (fun _ => ?_)
        rw [if_neg (fun q => h1 q.1)] at ea
        rw [ea] at k
        exact ⟨by decide, fun p hp => k p _ hp (same_new hp) upd_same⟩
def sp_is_nominal (_ : PySem.W.Frag) : Sp := fun vs H Q _ => ∃ n : Int, vs = [.int n] ∧ Q (.bl (Ft.isNominal n)) H

theorem sc_is_nominal : FnScope ["n"] ["n"] (defScope st_is_nominal) := ⟨rfl, rfl, rfl, by decide +kernel, rfl, by decide +kernel, by decide +kernel⟩
theorem ok_is_nominal {P : Program} {w : World} {K : PySem.W.Frag} {mg : Str → Option Value} {base : Heap} (R : Raw K mg "is_nominal" st_is_nominal ["n"]) {t_GREATEST_SIZE : Tok} (g_GREATEST_SIZE : mg "GREATEST_SIZE" = some (.int (2147483647) t_GREATEST_SIZE)) : Dn P w K mg base 1 "is_nominal" ["n"] (sp_is_nominal K) := by
  refine R.dn fun f fd F => F.ok sc_is_nominal (fun vs H Q E h => ?_) (fun cdv A outer s H vs Q E hr h => ?_)
  ·
    obtain ⟨n, rfl, _⟩ := h
    rfl
  ·
    obtain ⟨n, rfl, k⟩ := h
    refine ⟨_, (pss_one (ps_ret (pe_chainm op_lem op_lem pe_int (pvm 0) (pe_glob (v := .int (2147483647)) rfl g_GREATEST_SIZE ⟨_, rfl⟩)))), ?_⟩
    (try dsimp only [tVarm, tC, tOp, tUn, rIm, rI0m, rUm, tTestm, tChainm, tAnd, tOr, tNot, tAndVm, tOrVm, tNotVm, tIf, tSeq, tNext, tAsg, gName, tIfS, tRet, tRetN, tDrop, tCall, tCB, tCons, tNil, tLst, tTup, tAugm, ipIm, tBM, rAppend, rIxLm, rCat, tIsN, tNotN, rIxTm, rExtend, gTup, gCons, gNil, tYes, rSum, rAll, asV_is, asI_is, asB_is, asR_is, rEqm_ii, rNem_ii, scal_ii, scal_bb, rLtL, rMaxD, rMinD, L2.start, wipe, List.map_cons, List.map_nil, List.length_cons, List.length_nil, List.append_nil, List.cons_append, List.nil_append, List.replicate_succ, List.replicate_zero, List.getElem?_cons_zero, List.getElem?_cons_succ, List.set_cons_zero, List.set_cons_succ]); (try simp only [tVarm, tC, tOp, tUn, rIm, rI0m, rUm, tTestm, tChainm, tAnd, tOr, tNot, tAndVm, tOrVm, tNotVm, tIf, tSeq, tNext, tAsg, gName, tIfS, tRet, tRetN, tDrop, tCall, tCB, tCons, tNil, tLst, tTup, tAugm, ipIm, tBM, rAppend, rIxLm, rCat, tIsN, tNotN, rIxTm, rExtend, gTup, gCons, gNil, tYes, rSum, rAll, rLtL, rMaxD, rMinD, V.int.injEq, V.bl.injEq, V.str.injEq, V.ref.injEq, and_true, true_and, and_assoc, Bool.false_eq_true, List.map_cons, List.map_nil, List.length_cons, List.length_nil, List.append_nil, List.cons_append, List.nil_append, List.replicate_succ, List.replicate_zero, List.getElem?_cons_zero, List.getElem?_cons_succ, List.set_cons_zero, List.set_cons_succ, Option.some.injEq, List.cons.injEq, exists_eq_left', exists_and_left, exists_eq_left, asV_ex, asI_ex, asB_ex, asR_ex, rEqm_ex, rNem_ex, scal_ii, scal_bb, L2.start, wipe, Nat.reduceAdd, Nat.reduceSub, reduceIte])
    have e : Ft.isNominal n = (decide (1 ≤ n) && decide (n ≤ 2147483647)) := rfl
    rw [e] at k
    by_cases h1 : 1 ≤ n
    · rw [decide_eq_true h1] at k ⊢
      exact iteT k
    · rw [decide_eq_false h1] at k ⊢
      exact iteF k
def sp_are_fit (_ : PySem.W.Frag) : Sp := fun vs H Q _ => ∃ n lo hi : Int, vs = [.int n, .int lo, .int hi] ∧ Q (.bl (Ft.fitsSize n lo hi)) H

theorem sc_are_fit : FnScope ["n", "lo", "hi"] ["n", "lo", "hi"] (defScope st_are_fit) := ⟨rfl, rfl, rfl, by decide +kernel, rfl, by decide +kernel, by decide +kernel⟩
theorem ok_are_fit {P : Program} {w : World} {K : PySem.W.Frag} {mg : Str → Option Value} {base : Heap} (R : Raw K mg "are_fit" st_are_fit ["n", "lo", "hi"]) {t_GREATEST_DEVIATION : Tok} (g_GREATEST_DEVIATION : mg "GREATEST_DEVIATION" = some (.int (1073741824) t_GREATEST_DEVIATION)) : Dn P w K mg base 1 "are_fit" ["n", "lo", "hi"] (sp_are_fit K) := by
  refine R.dn fun f fd F => F.ok sc_are_fit (fun vs H Q E h => ?_) (fun cdv A outer s H vs Q E hr h => ?_)
  ·
    obtain ⟨n, l, g, rfl, _⟩ := h
    rfl
  ·
    obtain ⟨n, lo, hi, rfl, k⟩ := h
    refine ⟨_, (pss_one (ps_ret (pe_andm (pe_cmpR op_lem (pvm 1) (pvm 2) (nomark _)) (pe_andm (pe_cmpR op_gem (pe_op op_addm (pvm 0) (pvm 1)) pe_int (nomark _)) (pe_andm (pe_cmpR op_gem (pvm 1) (pe_un un_negm (pe_glob (v := .int (1073741824)) rfl g_GREATEST_DEVIATION ⟨_, rfl⟩)) (nomark _)) (pe_one (pe_cmpR op_lem (pvm 2) (pe_glob (v := .int (1073741824)) rfl g_GREATEST_DEVIATION ⟨_, rfl⟩) (nomark _)))))))), ?_⟩
    (try dsimp only [tVarm, tC, tOp, tUn, rIm, rI0m, rUm, tTestm, tChainm, tAnd, tOr, tNot, tAndVm, tOrVm, tNotVm, tIf, tSeq, tNext, tAsg, gName, tIfS, tRet, tRetN, tDrop, tCall, tCB, tCons, tNil, tLst, tTup, tAugm, ipIm, tBM, rAppend, rIxLm, rCat, tIsN, tNotN, rIxTm, rExtend, gTup, gCons, gNil, tYes, rSum, rAll, asV_is, asI_is, asB_is, asR_is, rEqm_ii, rNem_ii, scal_ii, scal_bb, rLtL, rMaxD, rMinD, L2.start, wipe, List.map_cons, List.map_nil, List.length_cons, List.length_nil, List.append_nil, List.cons_append, List.nil_append, List.replicate_succ, List.replicate_zero, List.getElem?_cons_zero, List.getElem?_cons_succ, List.set_cons_zero, List.set_cons_succ]); (try simp only [tVarm, tC, tOp, tUn, rIm, rI0m, rUm, tTestm, tChainm, tAnd, tOr, tNot, tAndVm, tOrVm, tNotVm, tIf, tSeq, tNext, tAsg, gName, tIfS, tRet, tRetN, tDrop, tCall, tCB, tCons, tNil, tLst, tTup, tAugm, ipIm, tBM, rAppend, rIxLm, rCat, tIsN, tNotN, rIxTm, rExtend, gTup, gCons, gNil, tYes, rSum, rAll, rLtL, rMaxD, rMinD, V.int.injEq, V.bl.injEq, V.str.injEq, V.ref.injEq, and_true, true_and, and_assoc, Bool.false_eq_true, List.map_cons, List.map_nil, List.length_cons, List.length_nil, List.append_nil, List.cons_append, List.nil_append, List.replicate_succ, List.replicate_zero, List.getElem?_cons_zero, List.getElem?_cons_succ, List.set_cons_zero, List.set_cons_succ, Option.some.injEq, List.cons.injEq, exists_eq_left', exists_and_left, exists_eq_left, asV_ex, asI_ex, asB_ex, asR_ex, rEqm_ex, rNem_ex, scal_ii, scal_bb, L2.start, wipe, Nat.reduceAdd, Nat.reduceSub, reduceIte])
    rw [GA.fits_iff] at k
    revert k
    cases decide (lo ≤ hi) <;> cases decide (1 ≤ n + lo) <;> cases decide (-1073741824 ≤ lo) <;> intro k <;> simpa using k
def sp_unit_of (_ : PySem.W.Frag) : Sp := fun vs H Q _ => ∃ n : Int, vs = [.int n] ∧ 1 ≤ n ∧ n ≤ 2147483647 ∧ Q (.int (GA.unitZ n)) H

theorem sc_unit_of : FnScope ["n", "u"] ["n"] (defScope st_unit_of) := ⟨rfl, rfl, rfl, by decide +kernel, rfl, by decide +kernel, by decide +kernel⟩
theorem ok_unit_of {P : Program} {w : World} {K : PySem.W.Frag} {mg : Str → Option Value} {base : Heap} (R : Raw K mg "unit_of" st_unit_of ["n"]) : Dn P w K mg base 1 "unit_of" ["n"] (sp_unit_of K) := by
  refine R.dn fun f fd F => F.ok sc_unit_of (fun vs H Q E h => ?_) (fun cdv A outer s H vs Q E hr h => ?_)
  ·
    obtain ⟨n, rfl, _⟩ := h
    rfl
  ·
    obtain ⟨n, rfl, n1, n2, k⟩ := h
    refine ⟨_, (pss_cons (ps_set (i := 1) sc_unit_of.nd rfl (Or.inl rfl) pe_int) (pss_cons (ps_while PassesOwn.never (pt_cmpRm op_ltm (pe_op op_mulm (pe_op op_mulm (pe_op op_mulm pe_int (pvm 1)) (pvm 1)) (pvm 1)) (pvm 0) (nomark _)) (pss_one (ps_augm (i := 1) sc_unit_of.nd rfl (Or.inl rfl) pe_int ip_addm))) (pss_one (ps_ret (pvm 1))))), ?_⟩
    (try dsimp only [tVarm, tC, tOp, tUn, rIm, rI0m, rUm, tTestm, tChainm, tAnd, tOr, tNot, tAndVm, tOrVm, tNotVm, tIf, tSeq, tNext, tAsg, gName, tIfS, tRet, tRetN, tDrop, tCall, tCB, tCons, tNil, tLst, tTup, tAugm, ipIm, tBM, rAppend, rIxLm, rCat, tIsN, tNotN, rIxTm, rExtend, gTup, gCons, gNil, tYes, rSum, rAll, asV_is, asI_is, asB_is, asR_is, rEqm_ii, rNem_ii, scal_ii, scal_bb, rLtL, rMaxD, rMinD, L2.start, wipe, List.map_cons, List.map_nil, List.length_cons, List.length_nil, List.append_nil, List.cons_append, List.nil_append, List.replicate_succ, List.replicate_zero, List.getElem?_cons_zero, List.getElem?_cons_succ, List.set_cons_zero, List.set_cons_succ]); (try simp only [tVarm, tC, tOp, tUn, rIm, rI0m, rUm, tTestm, tChainm, tAnd, tOr, tNot, tAndVm, tOrVm, tNotVm, tIf, tSeq, tNext, tAsg, gName, tIfS, tRet, tRetN, tDrop, tCall, tCB, tCons, tNil, tLst, tTup, tAugm, ipIm, tBM, rAppend, rIxLm, rCat, tIsN, tNotN, rIxTm, rExtend, gTup, gCons, gNil, tYes, rSum, rAll, rLtL, rMaxD, rMinD, V.int.injEq, V.bl.injEq, V.str.injEq, V.ref.injEq, and_true, true_and, and_assoc, Bool.false_eq_true, List.map_cons, List.map_nil, List.length_cons, List.length_nil, List.append_nil, List.cons_append, List.nil_append, List.replicate_succ, List.replicate_zero, List.getElem?_cons_zero, List.getElem?_cons_succ, List.set_cons_zero, List.set_cons_succ, Option.some.injEq, List.cons.injEq, exists_eq_left', exists_and_left, exists_eq_left, asV_ex, asI_ex, asB_ex, asR_ex, rEqm_ex, rNem_ex, scal_ii, scal_bb, L2.start, wipe, Nat.reduceAdd, Nat.reduceSub, reduceIte])
    refine ⟨fun m σ' H' => H' = H ∧ ∃ u : Int, σ' = [some (.int n), some (.int u)] ∧ m = (n - u).toNat ∧ 1 ≤ u ∧ u ≤ n ∧ 111 * (u - 1) * (u - 1) * (u - 1) < n, ⟨_, rfl, 1, rfl, rfl, by (first | lia | omega), by (first | lia | omega), by (first | lia | omega)⟩, ?_⟩
    rintro m σ' H' ⟨rfl, u, rfl, rfl, u1, u2, hu⟩
    (try dsimp only [tVarm, tC, tOp, tUn, rIm, rI0m, rUm, tTestm, tChainm, tAnd, tOr, tNot, tAndVm, tOrVm, tNotVm, tIf, tSeq, tNext, tAsg, gName, tIfS, tRet, tRetN, tDrop, tCall, tCB, tCons, tNil, tLst, tTup, tAugm, ipIm, tBM, rAppend, rIxLm, rCat, tIsN, tNotN, rIxTm, rExtend, gTup, gCons, gNil, tYes, rSum, rAll, asV_is, asI_is, asB_is, asR_is, rEqm_ii, rNem_ii, scal_ii, scal_bb, rLtL, rMaxD, rMinD, L2.start, wipe, List.map_cons, List.map_nil, List.length_cons, List.length_nil, List.append_nil, List.cons_append, List.nil_append, List.replicate_succ, List.replicate_zero, List.getElem?_cons_zero, List.getElem?_cons_succ, List.set_cons_zero, List.set_cons_succ]); (try simp only [tVarm, tC, tOp, tUn, rIm, rI0m, rUm, tTestm, tChainm, tAnd, tOr, tNot, tAndVm, tOrVm, tNotVm, tIf, tSeq, tNext, tAsg, gName, tIfS, tRet, tRetN, tDrop, tCall, tCB, tCons, tNil, tLst, tTup, tAugm, ipIm, tBM, rAppend, rIxLm, rCat, tIsN, tNotN, rIxTm, rExtend, gTup, gCons, gNil, tYes, rSum, rAll, rLtL, rMaxD, rMinD, V.int.injEq, V.bl.injEq, V.str.injEq, V.ref.injEq, and_true, true_and, and_assoc, Bool.false_eq_true, List.map_cons, List.map_nil, List.length_cons, List.length_nil, List.append_nil, List.cons_append, List.nil_append, List.replicate_succ, List.replicate_zero, List.getElem?_cons_zero, List.getElem?_cons_succ, List.set_cons_zero, List.set_cons_succ, Option.some.injEq, List.cons.injEq, exists_eq_left', exists_and_left, exists_eq_left, asV_ex, asI_ex, asB_ex, asR_ex, rEqm_ex, rNem_ex, scal_ii, scal_bb, L2.start, wipe, Nat.reduceAdd, Nat.reduceSub, reduceIte])
    refine ⟨.inl ⟨by (first | lia | omega), by (first | lia | omega)⟩, .inr ⟨by (first | lia | omega), by (first | lia | omega)⟩, .inr ⟨by (first | lia | omega), by (first | lia | omega)⟩, ?_⟩
    refine ite2 (fun hc => ⟨_, fun σ' H' z => z, ?_⟩) (fun hc => ?_)
    · (try dsimp only [tVarm, tC, tOp, tUn, rIm, rI0m, rUm, tTestm, tChainm, tAnd, tOr, tNot, tAndVm, tOrVm, tNotVm, tIf, tSeq, tNext, tAsg, gName, tIfS, tRet, tRetN, tDrop, tCall, tCB, tCons, tNil, tLst, tTup, tAugm, ipIm, tBM, rAppend, rIxLm, rCat, tIsN, tNotN, rIxTm, rExtend, gTup, gCons, gNil, tYes, rSum, rAll, asV_is, asI_is, asB_is, asR_is, rEqm_ii, rNem_ii, scal_ii, scal_bb, rLtL, rMaxD, rMinD, L2.start, wipe, List.map_cons, List.map_nil, List.length_cons, List.length_nil, List.append_nil, List.cons_append, List.nil_append, List.replicate_succ, List.replicate_zero, List.getElem?_cons_zero, List.getElem?_cons_succ, List.set_cons_zero, List.set_cons_succ]); (try simp only [tVarm, tC, tOp, tUn, rIm, rI0m, rUm, tTestm, tChainm, tAnd, tOr, tNot, tAndVm, tOrVm, tNotVm, tIf, tSeq, tNext, tAsg, gName, tIfS, tRet, tRetN, tDrop, tCall, tCB, tCons, tNil, tLst, tTup, tAugm, ipIm, tBM, rAppend, rIxLm, rCat, tIsN, tNotN, rIxTm, rExtend, gTup, gCons, gNil, tYes, rSum, rAll, rLtL, rMaxD, rMinD, V.int.injEq, V.bl.injEq, V.str.injEq, V.ref.injEq, and_true, true_and, and_assoc, Bool.false_eq_true, List.map_cons, List.map_nil, List.length_cons, List.length_nil, List.append_nil, List.cons_append, List.nil_append, List.replicate_succ, List.replicate_zero, List.getElem?_cons_zero, List.getElem?_cons_succ, List.set_cons_zero, List.set_cons_succ, Option.some.injEq, List.cons.injEq, exists_eq_left', exists_and_left, exists_eq_left, asV_ex, asI_ex, asB_ex, asR_ex, rEqm_ex, rNem_ex, scal_ii, scal_bb, L2.start, wipe, Nat.reduceAdd, Nat.reduceSub, reduceIte])
      have hc' : 111 * u * u * u < n := by simpa using hc
      have q := GA.cube_ge u1
      refine ⟨_, ?_, rfl, by (first | lia | omega), by (first | lia | omega), ?_⟩
      · (first | lia | omega)
      · rw [Int.add_sub_cancel]
        exact hc'
    · (try dsimp only [tVarm, tC, tOp, tUn, rIm, rI0m, rUm, tTestm, tChainm, tAnd, tOr, tNot, tAndVm, tOrVm, tNotVm, tIf, tSeq, tNext, tAsg, gName, tIfS, tRet, tRetN, tDrop, tCall, tCB, tCons, tNil, tLst, tTup, tAugm, ipIm, tBM, rAppend, rIxLm, rCat, tIsN, tNotN, rIxTm, rExtend, gTup, gCons, gNil, tYes, rSum, rAll, asV_is, asI_is, asB_is, asR_is, rEqm_ii, rNem_ii, scal_ii, scal_bb, rLtL, rMaxD, rMinD, L2.start, wipe, List.map_cons, List.map_nil, List.length_cons, List.length_nil, List.append_nil, List.cons_append, List.nil_append, List.replicate_succ, List.replicate_zero, List.getElem?_cons_zero, List.getElem?_cons_succ, List.set_cons_zero, List.set_cons_succ]); (try simp only [tVarm, tC, tOp, tUn, rIm, rI0m, rUm, tTestm, tChainm, tAnd, tOr, tNot, tAndVm, tOrVm, tNotVm, tIf, tSeq, tNext, tAsg, gName, tIfS, tRet, tRetN, tDrop, tCall, tCB, tCons, tNil, tLst, tTup, tAugm, ipIm, tBM, rAppend, rIxLm, rCat, tIsN, tNotN, rIxTm, rExtend, gTup, gCons, gNil, tYes, rSum, rAll, rLtL, rMaxD, rMinD, V.int.injEq, V.bl.injEq, V.str.injEq, V.ref.injEq, and_true, true_and, and_assoc, Bool.false_eq_true, List.map_cons, List.map_nil, List.length_cons, List.length_nil, List.append_nil, List.cons_append, List.nil_append, List.replicate_succ, List.replicate_zero, List.getElem?_cons_zero, List.getElem?_cons_succ, List.set_cons_zero, List.set_cons_succ, Option.some.injEq, List.cons.injEq, exists_eq_left', exists_and_left, exists_eq_left, asV_ex, asI_ex, asB_ex, asR_ex, rEqm_ex, rNem_ex, scal_ii, scal_bb, L2.start, wipe, Nat.reduceAdd, Nat.reduceSub, reduceIte])
      have hc' : ¬ 111 * u * u * u < n := by simpa using hc
      rw [GA.unitZ_out n1 n2 u1 hu hc']
      exact k
def sp_root_up (_ : PySem.W.Frag) : Sp := fun vs H Q _ => ∃ s : Int, vs = [.int s] ∧ 1 ≤ s ∧ s ≤ 1099511627776 ∧ Q (.int (GA.rootZ s)) H

theorem sc_root_up : FnScope ["square", "short", "enough", "middle"] ["square"] (defScope st_root_up) := ⟨rfl, rfl, rfl, by decide +kernel, rfl, by decide +kernel, by decide +kernel⟩
theorem ok_root_up {P : Program} {w : World} {K : PySem.W.Frag} {mg : Str → Option Value} {base : Heap} (R : Raw K mg "root_up" st_root_up ["square"]) : Dn P w K mg base 1 "root_up" ["square"] (sp_root_up K) := by
  refine R.dn fun f fd F => F.ok sc_root_up (fun vs H Q E h => ?_) (fun cdv A outer s H vs Q E hr h => ?_)
  ·
    obtain ⟨n, rfl, _⟩ := h
    rfl
  ·
    obtain ⟨s, rfl, s1, s2, k⟩ := h
    refine ⟨_, (pss_cons (ps_set (i := 1) sc_root_up.nd rfl (Or.inl rfl) pe_int) (pss_cons (ps_set (i := 2) sc_root_up.nd rfl (Or.inl rfl) (pvm 0)) (pss_cons (ps_while PassesOwn.never (pt_cmpRm op_gtm (pe_op op_subm (pvm 2) (pvm 1)) pe_int (nomark _)) (pss_cons (ps_set (i := 3) sc_root_up.nd rfl (Or.inl rfl) (pe_op op_fdivm (pe_op op_addm (pvm 1) (pvm 2)) pe_int)) (pss_one (ps_if (pt_cmpRm op_ltm (pe_op op_mulm (pvm 3) (pvm 3)) (pvm 0) (nomark _)) (pss_one (ps_set (i := 1) sc_root_up.nd rfl (Or.inl rfl) (pvm 3))) (pss_one (ps_set (i := 2) sc_root_up.nd rfl (Or.inl rfl) (pvm 3))))))) (pss_one (ps_ret (pvm 2)))))), ?_⟩
    (try dsimp only [tVarm, tC, tOp, tUn, rIm, rI0m, rUm, tTestm, tChainm, tAnd, tOr, tNot, tAndVm, tOrVm, tNotVm, tIf, tSeq, tNext, tAsg, gName, tIfS, tRet, tRetN, tDrop, tCall, tCB, tCons, tNil, tLst, tTup, tAugm, ipIm, tBM, rAppend, rIxLm, rCat, tIsN, tNotN, rIxTm, rExtend, gTup, gCons, gNil, tYes, rSum, rAll, asV_is, asI_is, asB_is, asR_is, rEqm_ii, rNem_ii, scal_ii, scal_bb, rLtL, rMaxD, rMinD, L2.start, wipe, List.map_cons, List.map_nil, List.length_cons, List.length_nil, List.append_nil, List.cons_append, List.nil_append, List.replicate_succ, List.replicate_zero, List.getElem?_cons_zero, List.getElem?_cons_succ, List.set_cons_zero, List.set_cons_succ]); (try simp only [tVarm, tC, tOp, tUn, rIm, rI0m, rUm, tTestm, tChainm, tAnd, tOr, tNot, tAndVm, tOrVm, tNotVm, tIf, tSeq, tNext, tAsg, gName, tIfS, tRet, tRetN, tDrop, tCall, tCB, tCons, tNil, tLst, tTup, tAugm, ipIm, tBM, rAppend, rIxLm, rCat, tIsN, tNotN, rIxTm, rExtend, gTup, gCons, gNil, tYes, rSum, rAll, rLtL, rMaxD, rMinD, V.int.injEq, V.bl.injEq, V.str.injEq, V.ref.injEq, and_true, true_and, and_assoc, Bool.false_eq_true, List.map_cons, List.map_nil, List.length_cons, List.length_nil, List.append_nil, List.cons_append, List.nil_append, List.replicate_succ, List.replicate_zero, List.getElem?_cons_zero, List.getElem?_cons_succ, List.set_cons_zero, List.set_cons_succ, Option.some.injEq, List.cons.injEq, exists_eq_left', exists_and_left, exists_eq_left, asV_ex, asI_ex, asB_ex, asR_ex, rEqm_ex, rNem_ex, scal_ii, scal_bb, L2.start, wipe, Nat.reduceAdd, Nat.reduceSub, reduceIte])
    refine ⟨fun m σ' H' => H' = H ∧ ∃ (a b : Int) (mid : Option V), σ' = [some (.int s), some (.int a), some (.int b), mid] ∧ m = (b - a).toNat ∧ 0 ≤ a ∧ a < b ∧ b ≤ s ∧ a * a < s ∧ s ≤ b * b,
      ⟨_, rfl, 0, s, none, rfl, rfl, by (first | lia | omega), by (first | lia | omega), by (first | lia | omega), by (first | lia | omega), GA.sq_ge s1⟩, ?_⟩
    rintro m σ' H' ⟨rfl, a, b, mid, rfl, rfl, a0, ab, bs, ha, hb⟩
    (try dsimp only [tVarm, tC, tOp, tUn, rIm, rI0m, rUm, tTestm, tChainm, tAnd, tOr, tNot, tAndVm, tOrVm, tNotVm, tIf, tSeq, tNext, tAsg, gName, tIfS, tRet, tRetN, tDrop, tCall, tCB, tCons, tNil, tLst, tTup, tAugm, ipIm, tBM, rAppend, rIxLm, rCat, tIsN, tNotN, rIxTm, rExtend, gTup, gCons, gNil, tYes, rSum, rAll, asV_is, asI_is, asB_is, asR_is, rEqm_ii, rNem_ii, scal_ii, scal_bb, rLtL, rMaxD, rMinD, L2.start, wipe, List.map_cons, List.map_nil, List.length_cons, List.length_nil, List.append_nil, List.cons_append, List.nil_append, List.replicate_succ, List.replicate_zero, List.getElem?_cons_zero, List.getElem?_cons_succ, List.set_cons_zero, List.set_cons_succ]); (try simp only [tVarm, tC, tOp, tUn, rIm, rI0m, rUm, tTestm, tChainm, tAnd, tOr, tNot, tAndVm, tOrVm, tNotVm, tIf, tSeq, tNext, tAsg, gName, tIfS, tRet, tRetN, tDrop, tCall, tCB, tCons, tNil, tLst, tTup, tAugm, ipIm, tBM, rAppend, rIxLm, rCat, tIsN, tNotN, rIxTm, rExtend, gTup, gCons, gNil, tYes, rSum, rAll, rLtL, rMaxD, rMinD, V.int.injEq, V.bl.injEq, V.str.injEq, V.ref.injEq, and_true, true_and, and_assoc, Bool.false_eq_true, List.map_cons, List.map_nil, List.length_cons, List.length_nil, List.append_nil, List.cons_append, List.nil_append, List.replicate_succ, List.replicate_zero, List.getElem?_cons_zero, List.getElem?_cons_succ, List.set_cons_zero, List.set_cons_succ, Option.some.injEq, List.cons.injEq, exists_eq_left', exists_and_left, exists_eq_left, asV_ex, asI_ex, asB_ex, asR_ex, rEqm_ex, rNem_ex, scal_ii, scal_bb, L2.start, wipe, Nat.reduceAdd, Nat.reduceSub, reduceIte])
    refine ite2 (fun hc => ⟨_, fun σ' H' z => z, ?_⟩) (fun hc => ?_)
    · (try dsimp only [tVarm, tC, tOp, tUn, rIm, rI0m, rUm, tTestm, tChainm, tAnd, tOr, tNot, tAndVm, tOrVm, tNotVm, tIf, tSeq, tNext, tAsg, gName, tIfS, tRet, tRetN, tDrop, tCall, tCB, tCons, tNil, tLst, tTup, tAugm, ipIm, tBM, rAppend, rIxLm, rCat, tIsN, tNotN, rIxTm, rExtend, gTup, gCons, gNil, tYes, rSum, rAll, asV_is, asI_is, asB_is, asR_is, rEqm_ii, rNem_ii, scal_ii, scal_bb, rLtL, rMaxD, rMinD, L2.start, wipe, List.map_cons, List.map_nil, List.length_cons, List.length_nil, List.append_nil, List.cons_append, List.nil_append, List.replicate_succ, List.replicate_zero, List.getElem?_cons_zero, List.getElem?_cons_succ, List.set_cons_zero, List.set_cons_succ]); (try simp only [tVarm, tC, tOp, tUn, rIm, rI0m, rUm, tTestm, tChainm, tAnd, tOr, tNot, tAndVm, tOrVm, tNotVm, tIf, tSeq, tNext, tAsg, gName, tIfS, tRet, tRetN, tDrop, tCall, tCB, tCons, tNil, tLst, tTup, tAugm, ipIm, tBM, rAppend, rIxLm, rCat, tIsN, tNotN, rIxTm, rExtend, gTup, gCons, gNil, tYes, rSum, rAll, rLtL, rMaxD, rMinD, V.int.injEq, V.bl.injEq, V.str.injEq, V.ref.injEq, and_true, true_and, and_assoc, Bool.false_eq_true, List.map_cons, List.map_nil, List.length_cons, List.length_nil, List.append_nil, List.cons_append, List.nil_append, List.replicate_succ, List.replicate_zero, List.getElem?_cons_zero, List.getElem?_cons_succ, List.set_cons_zero, List.set_cons_succ, Option.some.injEq, List.cons.injEq, exists_eq_left', exists_and_left, exists_eq_left, asV_ex, asI_ex, asB_ex, asR_ex, rEqm_ex, rNem_ex, scal_ii, scal_bb, L2.start, wipe, Nat.reduceAdd, Nat.reduceSub, reduceIte])
      have hc' : 1 < b - a := by simpa using hc
      have h1 : a < (a + b) / 2 := by (first | lia | omega)
      have h2 : (a + b) / 2 < b := by (first | lia | omega)
      generalize (a + b) / 2 = x at h1 h2 ⊢
      refine ⟨⟨by decide, by decide⟩, .inl ⟨by (first | lia | omega), by (first | lia | omega)⟩, ?_⟩
      refine ite2 (fun hm => ?_) (fun hm => ?_)
      · (try dsimp only [tVarm, tC, tOp, tUn, rIm, rI0m, rUm, tTestm, tChainm, tAnd, tOr, tNot, tAndVm, tOrVm, tNotVm, tIf, tSeq, tNext, tAsg, gName, tIfS, tRet, tRetN, tDrop, tCall, tCB, tCons, tNil, tLst, tTup, tAugm, ipIm, tBM, rAppend, rIxLm, rCat, tIsN, tNotN, rIxTm, rExtend, gTup, gCons, gNil, tYes, rSum, rAll, asV_is, asI_is, asB_is, asR_is, rEqm_ii, rNem_ii, scal_ii, scal_bb, rLtL, rMaxD, rMinD, L2.start, wipe, List.map_cons, List.map_nil, List.length_cons, List.length_nil, List.append_nil, List.cons_append, List.nil_append, List.replicate_succ, List.replicate_zero, List.getElem?_cons_zero, List.getElem?_cons_succ, List.set_cons_zero, List.set_cons_succ]); (try simp only [tVarm, tC, tOp, tUn, rIm, rI0m, rUm, tTestm, tChainm, tAnd, tOr, tNot, tAndVm, tOrVm, tNotVm, tIf, tSeq, tNext, tAsg, gName, tIfS, tRet, tRetN, tDrop, tCall, tCB, tCons, tNil, tLst, tTup, tAugm, ipIm, tBM, rAppend, rIxLm, rCat, tIsN, tNotN, rIxTm, rExtend, gTup, gCons, gNil, tYes, rSum, rAll, rLtL, rMaxD, rMinD, V.int.injEq, V.bl.injEq, V.str.injEq, V.ref.injEq, and_true, true_and, and_assoc, Bool.false_eq_true, List.map_cons, List.map_nil, List.length_cons, List.length_nil, List.append_nil, List.cons_append, List.nil_append, List.replicate_succ, List.replicate_zero, List.getElem?_cons_zero, List.getElem?_cons_succ, List.set_cons_zero, List.set_cons_succ, Option.some.injEq, List.cons.injEq, exists_eq_left', exists_and_left, exists_eq_left, asV_ex, asI_ex, asB_ex, asR_ex, rEqm_ex, rNem_ex, scal_ii, scal_bb, L2.start, wipe, Nat.reduceAdd, Nat.reduceSub, reduceIte])
        have hm' : x * x < s := by simpa using hm
        exact ⟨_, by (first | lia | omega), rfl, by (first | lia | omega), by (first | lia | omega), by (first | lia | omega), hm', hb⟩
      · (try dsimp only [tVarm, tC, tOp, tUn, rIm, rI0m, rUm, tTestm, tChainm, tAnd, tOr, tNot, tAndVm, tOrVm, tNotVm, tIf, tSeq, tNext, tAsg, gName, tIfS, tRet, tRetN, tDrop, tCall, tCB, tCons, tNil, tLst, tTup, tAugm, ipIm, tBM, rAppend, rIxLm, rCat, tIsN, tNotN, rIxTm, rExtend, gTup, gCons, gNil, tYes, rSum, rAll, asV_is, asI_is, asB_is, asR_is, rEqm_ii, rNem_ii, scal_ii, scal_bb, rLtL, rMaxD, rMinD, L2.start, wipe, List.map_cons, List.map_nil, List.length_cons, List.length_nil, List.append_nil, List.cons_append, List.nil_append, List.replicate_succ, List.replicate_zero, List.getElem?_cons_zero, List.getElem?_cons_succ, List.set_cons_zero, List.set_cons_succ]); (try simp only [tVarm, tC, tOp, tUn, rIm, rI0m, rUm, tTestm, tChainm, tAnd, tOr, tNot, tAndVm, tOrVm, tNotVm, tIf, tSeq, tNext, tAsg, gName, tIfS, tRet, tRetN, tDrop, tCall, tCB, tCons, tNil, tLst, tTup, tAugm, ipIm, tBM, rAppend, rIxLm, rCat, tIsN, tNotN, rIxTm, rExtend, gTup, gCons, gNil, tYes, rSum, rAll, rLtL, rMaxD, rMinD, V.int.injEq, V.bl.injEq, V.str.injEq, V.ref.injEq, and_true, true_and, and_assoc, Bool.false_eq_true, List.map_cons, List.map_nil, List.length_cons, List.length_nil, List.append_nil, List.cons_append, List.nil_append, List.replicate_succ, List.replicate_zero, List.getElem?_cons_zero, List.getElem?_cons_succ, List.set_cons_zero, List.set_cons_succ, Option.some.injEq, List.cons.injEq, exists_eq_left', exists_and_left, exists_eq_left, asV_ex, asI_ex, asB_ex, asR_ex, rEqm_ex, rNem_ex, scal_ii, scal_bb, L2.start, wipe, Nat.reduceAdd, Nat.reduceSub, reduceIte])
        have hm' : ¬ x * x < s := by simpa using hm
        exact ⟨_, by (first | lia | omega), rfl, by (first | lia | omega), by (first | lia | omega), by (first | lia | omega), ha, by (first | lia | omega)⟩
    · (try dsimp only [tVarm, tC, tOp, tUn, rIm, rI0m, rUm, tTestm, tChainm, tAnd, tOr, tNot, tAndVm, tOrVm, tNotVm, tIf, tSeq, tNext, tAsg, gName, tIfS, tRet, tRetN, tDrop, tCall, tCB, tCons, tNil, tLst, tTup, tAugm, ipIm, tBM, rAppend, rIxLm, rCat, tIsN, tNotN, rIxTm, rExtend, gTup, gCons, gNil, tYes, rSum, rAll, asV_is, asI_is, asB_is, asR_is, rEqm_ii, rNem_ii, scal_ii, scal_bb, rLtL, rMaxD, rMinD, L2.start, wipe, List.map_cons, List.map_nil, List.length_cons, List.length_nil, List.append_nil, List.cons_append, List.nil_append, List.replicate_succ, List.replicate_zero, List.getElem?_cons_zero, List.getElem?_cons_succ, List.set_cons_zero, List.set_cons_succ]); (try simp only [tVarm, tC, tOp, tUn, rIm, rI0m, rUm, tTestm, tChainm, tAnd, tOr, tNot, tAndVm, tOrVm, tNotVm, tIf, tSeq, tNext, tAsg, gName, tIfS, tRet, tRetN, tDrop, tCall, tCB, tCons, tNil, tLst, tTup, tAugm, ipIm, tBM, rAppend, rIxLm, rCat, tIsN, tNotN, rIxTm, rExtend, gTup, gCons, gNil, tYes, rSum, rAll, rLtL, rMaxD, rMinD, V.int.injEq, V.bl.injEq, V.str.injEq, V.ref.injEq, and_true, true_and, and_assoc, Bool.false_eq_true, List.map_cons, List.map_nil, List.length_cons, List.length_nil, List.append_nil, List.cons_append, List.nil_append, List.replicate_succ, List.replicate_zero, List.getElem?_cons_zero, List.getElem?_cons_succ, List.set_cons_zero, List.set_cons_succ, Option.some.injEq, List.cons.injEq, exists_eq_left', exists_and_left, exists_eq_left, asV_ex, asI_ex, asB_ex, asR_ex, rEqm_ex, rNem_ex, scal_ii, scal_bb, L2.start, wipe, Nat.reduceAdd, Nat.reduceSub, reduceIte])
      have hc' : ¬ 1 < b - a := by simpa using hc
      have e : b - 1 = a := by (first | lia | omega)
      rw [GA.rootZ_out (e := b) s1 s2 (by (first | lia | omega)) hb (by rw [e]; exact ha)]
      exact k
def sp_width_of (_ : PySem.W.Frag) : Sp := fun vs H Q _ => ∃ n g : Int, vs = [.int n, .int g] ∧ 1 ≤ n ∧ n ≤ 2147483647 ∧ 0 ≤ g ∧ g ≤ 21 ∧ Q (.int (GA.widthZ n g)) H

theorem sc_width_of : FnScope ["n", "g", "u"] ["n", "g"] (defScope st_width_of) := ⟨rfl, rfl, rfl, by decide +kernel, rfl, by decide +kernel, by decide +kernel⟩
theorem ok_width_of {P : Program} {w : World} {K : PySem.W.Frag} {mg : Str → Option Value} {base : Heap} (R : Raw K mg "width_of" st_width_of ["n", "g"]) (D_unit_of : Dn P w K mg base 1 "unit_of" ["n"] (sp_unit_of K)) (D_root_up : Dn P w K mg base 1 "root_up" ["square"] (sp_root_up K)) : Dn P w K mg base 2 "width_of" ["n", "g"] (sp_width_of K) := by
  refine R.dn fun f fd F => F.ok sc_width_of (fun vs H Q E h => ?_) (fun cdv A outer s H vs Q E hr h => ?_)
  ·
    obtain ⟨n, g, rfl, _⟩ := h
    rfl
  ·
    obtain ⟨n, g, rfl, n1, n2, g0, g1, k⟩ := h
    refine ⟨_, (pss_cons (ps_set (i := 2) sc_width_of.nd rfl (Or.inl rfl) (pe_callD D_unit_of (hr.mono (by decide)) rfl (pa_cons (pvm 0) pa_nil))) (pss_one (ps_ret (pe_callD D_root_up (hr.mono (by decide)) rfl (pa_cons (pe_op op_shlm (pe_op op_mulm (pvm 2) (pvm 2)) (pvm 1)) pa_nil))))), ?_⟩
    (try dsimp only [tVarm, tC, tOp, tUn, rIm, rI0m, rUm, tTestm, tChainm, tAnd, tOr, tNot, tAndVm, tOrVm, tNotVm, tIf, tSeq, tNext, tAsg, gName, tIfS, tRet, tRetN, tDrop, tCall, tCB, tCons, tNil, tLst, tTup, tAugm, ipIm, tBM, rAppend, rIxLm, rCat, tIsN, tNotN, rIxTm, rExtend, gTup, gCons, gNil, tYes, rSum, rAll, asV_is, asI_is, asB_is, asR_is, rEqm_ii, rNem_ii, scal_ii, scal_bb, rLtL, rMaxD, rMinD, L2.start, wipe, sp_unit_of, sp_root_up, List.map_cons, List.map_nil, List.length_cons, List.length_nil, List.append_nil, List.cons_append, List.nil_append, List.replicate_succ, List.replicate_zero, List.getElem?_cons_zero, List.getElem?_cons_succ, List.set_cons_zero, List.set_cons_succ]); (try simp only [tVarm, tC, tOp, tUn, rIm, rI0m, rUm, tTestm, tChainm, tAnd, tOr, tNot, tAndVm, tOrVm, tNotVm, tIf, tSeq, tNext, tAsg, gName, tIfS, tRet, tRetN, tDrop, tCall, tCB, tCons, tNil, tLst, tTup, tAugm, ipIm, tBM, rAppend, rIxLm, rCat, tIsN, tNotN, rIxTm, rExtend, gTup, gCons, gNil, tYes, rSum, rAll, rLtL, rMaxD, rMinD, V.int.injEq, V.bl.injEq, V.str.injEq, V.ref.injEq, and_true, true_and, and_assoc, Bool.false_eq_true, List.map_cons, List.map_nil, List.length_cons, List.length_nil, List.append_nil, List.cons_append, List.nil_append, List.replicate_succ, List.replicate_zero, List.getElem?_cons_zero, List.getElem?_cons_succ, List.set_cons_zero, List.set_cons_succ, Option.some.injEq, List.cons.injEq, exists_eq_left', exists_and_left, exists_eq_left, asV_ex, asI_ex, asB_ex, asR_ex, rEqm_ex, rNem_ex, scal_ii, scal_bb, L2.start, wipe, Nat.reduceAdd, Nat.reduceSub, reduceIte, sp_unit_of, sp_root_up])
    obtain ⟨u1, u2⟩ := GA.unitZ_bounds n1 n2
    obtain ⟨q1, q2, q3, q4⟩ := GA.shift_bounds n1 n2 g1
    refine ⟨n1, n2, .inl ⟨by (first | lia | omega), by (first | lia | omega)⟩, ⟨g0, by (first | lia | omega), q3⟩, q1, q2, ?_⟩
    rw [q4]
    exact k
def sp_step_of (_ : PySem.W.Frag) : Sp := fun vs H Q _ => ∃ n j : Int, vs = [.int n, .int j] ∧ 1 ≤ n ∧ n ≤ 2147483647 ∧ 0 ≤ j ∧ j ≤ 18 ∧ Q (.int (GA.stepZ n j)) H

theorem sc_step_of : FnScope ["n", "k"] ["n", "k"] (defScope st_step_of) := ⟨rfl, rfl, rfl, by decide +kernel, rfl, by decide +kernel, by decide +kernel⟩
theorem ok_step_of {P : Program} {w : World} {K : PySem.W.Frag} {mg : Str → Option Value} {base : Heap} (R : Raw K mg "step_of" st_step_of ["n", "k"]) (D_width_of : Dn P w K mg base 2 "width_of" ["n", "g"] (sp_width_of K)) : Dn P w K mg base 3 "step_of" ["n", "k"] (sp_step_of K) := by
  refine R.dn fun f fd F => F.ok sc_step_of (fun vs H Q E h => ?_) (fun cdv A outer s H vs Q E hr h => ?_)
  ·
    obtain ⟨n, g, rfl, _⟩ := h
    rfl
  ·
    obtain ⟨n, j, rfl, n1, n2, j0, j1, k⟩ := h
    refine ⟨_, (pss_one (ps_ret (pe_ifExp (pt_cmpRm op_eqm (pvm 1) pe_int (nomark _)) pe_int (pe_callD D_width_of (hr.mono (by decide)) rfl (pa_cons (pvm 0) (pa_cons (pe_op op_addm (pvm 1) pe_int) pa_nil)))))), ?_⟩
    (try dsimp only [tVarm, tC, tOp, tUn, rIm, rI0m, rUm, tTestm, tChainm, tAnd, tOr, tNot, tAndVm, tOrVm, tNotVm, tIf, tSeq, tNext, tAsg, gName, tIfS, tRet, tRetN, tDrop, tCall, tCB, tCons, tNil, tLst, tTup, tAugm, ipIm, tBM, rAppend, rIxLm, rCat, tIsN, tNotN, rIxTm, rExtend, gTup, gCons, gNil, tYes, rSum, rAll, asV_is, asI_is, asB_is, asR_is, rEqm_ii, rNem_ii, scal_ii, scal_bb, rLtL, rMaxD, rMinD, L2.start, wipe, sp_width_of, List.map_cons, List.map_nil, List.length_cons, List.length_nil, List.append_nil, List.cons_append, List.nil_append, List.replicate_succ, List.replicate_zero, List.getElem?_cons_zero, List.getElem?_cons_succ, List.set_cons_zero, List.set_cons_succ]); (try simp only [tVarm, tC, tOp, tUn, rIm, rI0m, rUm, tTestm, tChainm, tAnd, tOr, tNot, tAndVm, tOrVm, tNotVm, tIf, tSeq, tNext, tAsg, gName, tIfS, tRet, tRetN, tDrop, tCall, tCB, tCons, tNil, tLst, tTup, tAugm, ipIm, tBM, rAppend, rIxLm, rCat, tIsN, tNotN, rIxTm, rExtend, gTup, gCons, gNil, tYes, rSum, rAll, rLtL, rMaxD, rMinD, V.int.injEq, V.bl.injEq, V.str.injEq, V.ref.injEq, and_true, true_and, and_assoc, Bool.false_eq_true, List.map_cons, List.map_nil, List.length_cons, List.length_nil, List.append_nil, List.cons_append, List.nil_append, List.replicate_succ, List.replicate_zero, List.getElem?_cons_zero, List.getElem?_cons_succ, List.set_cons_zero, List.set_cons_succ, Option.some.injEq, List.cons.injEq, exists_eq_left', exists_and_left, exists_eq_left, asV_ex, asI_ex, asB_ex, asR_ex, rEqm_ex, rNem_ex, scal_ii, scal_bb, L2.start, wipe, Nat.reduceAdd, Nat.reduceSub, reduceIte, sp_width_of])
    unfold GA.stepZ at k
    by_cases hj : j = 0
    · rw [if_pos hj] at k
      rw [decide_eq_true hj]
      exact iteT k
    · rw [if_neg hj] at k
      rw [decide_eq_false hj]
      exact iteF ⟨n1, n2, by (first | lia | omega), by (first | lia | omega), k⟩
theorem ord_a : ((PySem.Str.ofString "a").cps.getD 0 0 : Nat) = 97 := by decide +kernel
theorem ord_z : ((PySem.Str.ofString "z").cps.getD 0 0 : Nat) = 122 := by decide +kernel
theorem ord_A : ((PySem.Str.ofString "A").cps.getD 0 0 : Nat) = 65 := by decide +kernel
theorem ord_Z : ((PySem.Str.ofString "Z").cps.getD 0 0 : Nat) = 90 := by decide +kernel
theorem ord_h : ((PySem.Str.ofString "h").cps.getD 0 0 : Nat) = 104 := by decide +kernel
theorem ord_H : ((PySem.Str.ofString "H").cps.getD 0 0 : Nat) = 72 := by decide +kernel
def isShaft (l : Int) : Bool := decide (97 ≤ l) && decide (l ≤ 122)
def isHole (l : Int) : Bool := decide (65 ≤ l) && decide (l ≤ 90)
def sp_is_shaft_letter (_ : PySem.W.Frag) : Sp := fun vs H Q _ => ∃ l : Int, vs = [.int l] ∧ Q (.bl (isShaft l)) H

theorem sc_is_shaft_letter : FnScope ["letter"] ["letter"] (defScope st_is_shaft_letter) := ⟨rfl, rfl, rfl, by decide +kernel, rfl, by decide +kernel, by decide +kernel⟩
theorem ok_is_shaft_letter {P : Program} {w : World} {K : PySem.W.Frag} {mg : Str → Option Value} {base : Heap} (R : Raw K mg "is_shaft_letter" st_is_shaft_letter ["letter"]) (b_ord : mg "ord" = none) : Dn P w K mg base 1 "is_shaft_letter" ["letter"] (sp_is_shaft_letter K) := by
  refine R.dn fun f fd F => F.ok sc_is_shaft_letter (fun vs H Q E h => ?_) (fun cdv A outer s H vs Q E hr h => ?_)
  ·
    obtain ⟨n, rfl, _⟩ := h
    rfl
  ·
    obtain ⟨l, rfl, k⟩ := h
    refine ⟨_, (pss_one (ps_ret (pe_chainm op_lem op_lem (pe_callB (call_ord) rfl b_ord (by decide +kernel) (pa_cons pe_str pa_nil)) (pvm 0) (pe_callB (call_ord) rfl b_ord (by decide +kernel) (pa_cons pe_str pa_nil))))), ?_⟩
    (try dsimp only [tVarm, tC, tOp, tUn, rIm, rI0m, rUm, tTestm, tChainm, tAnd, tOr, tNot, tAndVm, tOrVm, tNotVm, tIf, tSeq, tNext, tAsg, gName, tIfS, tRet, tRetN, tDrop, tCall, tCB, tCons, tNil, tLst, tTup, tAugm, ipIm, tBM, rAppend, rIxLm, rCat, tIsN, tNotN, rIxTm, rExtend, gTup, gCons, gNil, tYes, rSum, rAll, asV_is, asI_is, asB_is, asR_is, rEqm_ii, rNem_ii, scal_ii, scal_bb, rLtL, rMaxD, rMinD, L2.start, wipe, List.map_cons, List.map_nil, List.length_cons, List.length_nil, List.append_nil, List.cons_append, List.nil_append, List.replicate_succ, List.replicate_zero, List.getElem?_cons_zero, List.getElem?_cons_succ, List.set_cons_zero, List.set_cons_succ]); (try simp only [tVarm, tC, tOp, tUn, rIm, rI0m, rUm, tTestm, tChainm, tAnd, tOr, tNot, tAndVm, tOrVm, tNotVm, tIf, tSeq, tNext, tAsg, gName, tIfS, tRet, tRetN, tDrop, tCall, tCB, tCons, tNil, tLst, tTup, tAugm, ipIm, tBM, rAppend, rIxLm, rCat, tIsN, tNotN, rIxTm, rExtend, gTup, gCons, gNil, tYes, rSum, rAll, rLtL, rMaxD, rMinD, V.int.injEq, V.bl.injEq, V.str.injEq, V.ref.injEq, and_true, true_and, and_assoc, Bool.false_eq_true, List.map_cons, List.map_nil, List.length_cons, List.length_nil, List.append_nil, List.cons_append, List.nil_append, List.replicate_succ, List.replicate_zero, List.getElem?_cons_zero, List.getElem?_cons_succ, List.set_cons_zero, List.set_cons_succ, Option.some.injEq, List.cons.injEq, exists_eq_left', exists_and_left, exists_eq_left, asV_ex, asI_ex, asB_ex, asR_ex, rEqm_ex, rNem_ex, scal_ii, scal_bb, L2.start, wipe, Nat.reduceAdd, Nat.reduceSub, reduceIte])
    refine ⟨by decide +kernel, ?_⟩
    rw [ord_a]
    unfold isShaft at k
    by_cases h1 : (97 : Int) ≤ l
    · rw [decide_eq_true h1] at k
      refine ite2 (fun _ => ?_) (fun q => absurd (decide_eq_true h1) q)
      refine ⟨by decide +kernel, ?_⟩
      rw [ord_z]
      exact k
    · rw [decide_eq_false h1] at k
      exact ite2 (fun q => absurd (of_decide_eq_true q) h1) (fun _ => k)
def sp_is_hole_letter (_ : PySem.W.Frag) : Sp := fun vs H Q _ => ∃ l : Int, vs = [.int l] ∧ Q (.bl (isHole l)) H

theorem sc_is_hole_letter : FnScope ["letter"] ["letter"] (defScope st_is_hole_letter) := ⟨rfl, rfl, rfl, by decide +kernel, rfl, by decide +kernel, by decide +kernel⟩
theorem ok_is_hole_letter {P : Program} {w : World} {K : PySem.W.Frag} {mg : Str → Option Value} {base : Heap} (R : Raw K mg "is_hole_letter" st_is_hole_letter ["letter"]) (b_ord : mg "ord" = none) : Dn P w K mg base 1 "is_hole_letter" ["letter"] (sp_is_hole_letter K) := by
  refine R.dn fun f fd F => F.ok sc_is_hole_letter (fun vs H Q E h => ?_) (fun cdv A outer s H vs Q E hr h => ?_)
  ·
    obtain ⟨n, rfl, _⟩ := h
    rfl
  ·
    obtain ⟨l, rfl, k⟩ := h
    refine ⟨_, (pss_one (ps_ret (pe_chainm op_lem op_lem (pe_callB (call_ord) rfl b_ord (by decide +kernel) (pa_cons pe_str pa_nil)) (pvm 0) (pe_callB (call_ord) rfl b_ord (by decide +kernel) (pa_cons pe_str pa_nil))))), ?_⟩
    (try dsimp only [tVarm, tC, tOp, tUn, rIm, rI0m, rUm, tTestm, tChainm, tAnd, tOr, tNot, tAndVm, tOrVm, tNotVm, tIf, tSeq, tNext, tAsg, gName, tIfS, tRet, tRetN, tDrop, tCall, tCB, tCons, tNil, tLst, tTup, tAugm, ipIm, tBM, rAppend, rIxLm, rCat, tIsN, tNotN, rIxTm, rExtend, gTup, gCons, gNil, tYes, rSum, rAll, asV_is, asI_is, asB_is, asR_is, rEqm_ii, rNem_ii, scal_ii, scal_bb, rLtL, rMaxD, rMinD, L2.start, wipe, List.map_cons, List.map_nil, List.length_cons, List.length_nil, List.append_nil, List.cons_append, List.nil_append, List.replicate_succ, List.replicate_zero, List.getElem?_cons_zero, List.getElem?_cons_succ, List.set_cons_zero, List.set_cons_succ]); (try simp only [tVarm, tC, tOp, tUn, rIm, rI0m, rUm, tTestm, tChainm, tAnd, tOr, tNot, tAndVm, tOrVm, tNotVm, tIf, tSeq, tNext, tAsg, gName, tIfS, tRet, tRetN, tDrop, tCall, tCB, tCons, tNil, tLst, tTup, tAugm, ipIm, tBM, rAppend, rIxLm, rCat, tIsN, tNotN, rIxTm, rExtend, gTup, gCons, gNil, tYes, rSum, rAll, rLtL, rMaxD, rMinD, V.int.injEq, V.bl.injEq, V.str.injEq, V.ref.injEq, and_true, true_and, and_assoc, Bool.false_eq_true, List.map_cons, List.map_nil, List.length_cons, List.length_nil, List.append_nil, List.cons_append, List.nil_append, List.replicate_succ, List.replicate_zero, List.getElem?_cons_zero, List.getElem?_cons_succ, List.set_cons_zero, List.set_cons_succ, Option.some.injEq, List.cons.injEq, exists_eq_left', exists_and_left, exists_eq_left, asV_ex, asI_ex, asB_ex, asR_ex, rEqm_ex, rNem_ex, scal_ii, scal_bb, L2.start, wipe, Nat.reduceAdd, Nat.reduceSub, reduceIte])
    refine ⟨by decide +kernel, ?_⟩
    rw [ord_A]
    unfold isHole at k
    by_cases h1 : (65 : Int) ≤ l
    · rw [decide_eq_true h1] at k
      refine ite2 (fun _ => ?_) (fun q => absurd (decide_eq_true h1) q)
      refine ⟨by decide +kernel, ?_⟩
      rw [ord_Z]
      exact k
    · rw [decide_eq_false h1] at k
      exact ite2 (fun q => absurd (of_decide_eq_true q) h1) (fun _ => k)
def sp_is_letter (_ : PySem.W.Frag) : Sp := fun vs H Q _ => ∃ b : Int, vs = [.int b] ∧ Q (.bl (GA.isLetter b)) H
theorem letter_or2 (l : Int) : GA.isLetter l = (isShaft l || isHole l) := rfl

theorem sc_is_letter : FnScope ["byte"] ["byte"] (defScope st_is_letter) := ⟨rfl, rfl, rfl, by decide +kernel, rfl, by decide +kernel, by decide +kernel⟩
theorem ok_is_letter {P : Program} {w : World} {K : PySem.W.Frag} {mg : Str → Option Value} {base : Heap} (R : Raw K mg "is_letter" st_is_letter ["byte"]) (D_is_shaft_letter : Dn P w K mg base 1 "is_shaft_letter" ["letter"] (sp_is_shaft_letter K)) (D_is_hole_letter : Dn P w K mg base 1 "is_hole_letter" ["letter"] (sp_is_hole_letter K)) : Dn P w K mg base 2 "is_letter" ["byte"] (sp_is_letter K) := by
  refine R.dn fun f fd F => F.ok sc_is_letter (fun vs H Q E h => ?_) (fun cdv A outer s H vs Q E hr h => ?_)
  ·
    obtain ⟨n, rfl, _⟩ := h
    rfl
  ·
    obtain ⟨l, rfl, k⟩ := h
    refine ⟨_, (pss_one (ps_ret (pe_orm (pe_callD D_is_shaft_letter (hr.mono (by decide)) rfl (pa_cons (pvm 0) pa_nil)) (pe_one (pe_callD D_is_hole_letter (hr.mono (by decide)) rfl (pa_cons (pvm 0) pa_nil)))))), ?_⟩
    (try dsimp only [tVarm, tC, tOp, tUn, rIm, rI0m, rUm, tTestm, tChainm, tAnd, tOr, tNot, tAndVm, tOrVm, tNotVm, tIf, tSeq, tNext, tAsg, gName, tIfS, tRet, tRetN, tDrop, tCall, tCB, tCons, tNil, tLst, tTup, tAugm, ipIm, tBM, rAppend, rIxLm, rCat, tIsN, tNotN, rIxTm, rExtend, gTup, gCons, gNil, tYes, rSum, rAll, asV_is, asI_is, asB_is, asR_is, rEqm_ii, rNem_ii, scal_ii, scal_bb, rLtL, rMaxD, rMinD, L2.start, wipe, sp_is_shaft_letter, sp_is_hole_letter, List.map_cons, List.map_nil, List.length_cons, List.length_nil, List.append_nil, List.cons_append, List.nil_append, List.replicate_succ, List.replicate_zero, List.getElem?_cons_zero, List.getElem?_cons_succ, List.set_cons_zero, List.set_cons_succ]); (try simp only [tVarm, tC, tOp, tUn, rIm, rI0m, rUm, tTestm, tChainm, tAnd, tOr, tNot, tAndVm, tOrVm, tNotVm, tIf, tSeq, tNext, tAsg, gName, tIfS, tRet, tRetN, tDrop, tCall, tCB, tCons, tNil, tLst, tTup, tAugm, ipIm, tBM, rAppend, rIxLm, rCat, tIsN, tNotN, rIxTm, rExtend, gTup, gCons, gNil, tYes, rSum, rAll, rLtL, rMaxD, rMinD, V.int.injEq, V.bl.injEq, V.str.injEq, V.ref.injEq, and_true, true_and, and_assoc, Bool.false_eq_true, List.map_cons, List.map_nil, List.length_cons, List.length_nil, List.append_nil, List.cons_append, List.nil_append, List.replicate_succ, List.replicate_zero, List.getElem?_cons_zero, List.getElem?_cons_succ, List.set_cons_zero, List.set_cons_succ, Option.some.injEq, List.cons.injEq, exists_eq_left', exists_and_left, exists_eq_left, asV_ex, asI_ex, asB_ex, asR_ex, rEqm_ex, rNem_ex, scal_ii, scal_bb, L2.start, wipe, Nat.reduceAdd, Nat.reduceSub, reduceIte, sp_is_shaft_letter, sp_is_hole_letter])
    rw [letter_or2] at k
    cases h1 : isShaft l with
    | true =>
      rw [h1] at k
      exact iteT k
    | false =>
      rw [h1] at k
      exact iteF k
def sp_letter_number (_ : PySem.W.Frag) : Sp := fun vs H Q _ => ∃ l : Int, vs = [.int l] ∧ Q (.int (l - if isShaft l = true then 104 else 72)) H

theorem sc_letter_number : FnScope ["letter"] ["letter"] (defScope st_letter_number) := ⟨rfl, rfl, rfl, by decide +kernel, rfl, by decide +kernel, by decide +kernel⟩
theorem ok_letter_number {P : Program} {w : World} {K : PySem.W.Frag} {mg : Str → Option Value} {base : Heap} (R : Raw K mg "letter_number" st_letter_number ["letter"]) (b_ord : mg "ord" = none) (D_is_shaft_letter : Dn P w K mg base 1 "is_shaft_letter" ["letter"] (sp_is_shaft_letter K)) : Dn P w K mg base 2 "letter_number" ["letter"] (sp_letter_number K) := by
  refine R.dn fun f fd F => F.ok sc_letter_number (fun vs H Q E h => ?_) (fun cdv A outer s H vs Q E hr h => ?_)
  ·
    obtain ⟨n, rfl, _⟩ := h
    rfl
  ·
    obtain ⟨l, rfl, k⟩ := h
    refine ⟨_, (pss_one (ps_ret (pe_op op_subm (pvm 0) (pe_ifExp (pt_valm (pe_callD D_is_shaft_letter (hr.mono (by decide)) rfl (pa_cons (pvm 0) pa_nil))) (pe_callB (call_ord) rfl b_ord (by decide +kernel) (pa_cons pe_str pa_nil)) (pe_callB (call_ord) rfl b_ord (by decide +kernel) (pa_cons pe_str pa_nil)))))), ?_⟩
    (try dsimp only [tVarm, tC, tOp, tUn, rIm, rI0m, rUm, tTestm, tChainm, tAnd, tOr, tNot, tAndVm, tOrVm, tNotVm, tIf, tSeq, tNext, tAsg, gName, tIfS, tRet, tRetN, tDrop, tCall, tCB, tCons, tNil, tLst, tTup, tAugm, ipIm, tBM, rAppend, rIxLm, rCat, tIsN, tNotN, rIxTm, rExtend, gTup, gCons, gNil, tYes, rSum, rAll, asV_is, asI_is, asB_is, asR_is, rEqm_ii, rNem_ii, scal_ii, scal_bb, rLtL, rMaxD, rMinD, L2.start, wipe, sp_is_shaft_letter, List.map_cons, List.map_nil, List.length_cons, List.length_nil, List.append_nil, List.cons_append, List.nil_append, List.replicate_succ, List.replicate_zero, List.getElem?_cons_zero, List.getElem?_cons_succ, List.set_cons_zero, List.set_cons_succ]); (try simp only [tVarm, tC, tOp, tUn, rIm, rI0m, rUm, tTestm, tChainm, tAnd, tOr, tNot, tAndVm, tOrVm, tNotVm, tIf, tSeq, tNext, tAsg, gName, tIfS, tRet, tRetN, tDrop, tCall, tCB, tCons, tNil, tLst, tTup, tAugm, ipIm, tBM, rAppend, rIxLm, rCat, tIsN, tNotN, rIxTm, rExtend, gTup, gCons, gNil, tYes, rSum, rAll, rLtL, rMaxD, rMinD, V.int.injEq, V.bl.injEq, V.str.injEq, V.ref.injEq, and_true, true_and, and_assoc, Bool.false_eq_true, List.map_cons, List.map_nil, List.length_cons, List.length_nil, List.append_nil, List.cons_append, List.nil_append, List.replicate_succ, List.replicate_zero, List.getElem?_cons_zero, List.getElem?_cons_succ, List.set_cons_zero, List.set_cons_succ, Option.some.injEq, List.cons.injEq, exists_eq_left', exists_and_left, exists_eq_left, asV_ex, asI_ex, asB_ex, asR_ex, rEqm_ex, rNem_ex, scal_ii, scal_bb, L2.start, wipe, Nat.reduceAdd, Nat.reduceSub, reduceIte, sp_is_shaft_letter])
    cases h1 : isShaft l with
    | true =>
      rw [h1] at k
      refine iteT ⟨by decide +kernel, ?_⟩
      rw [ord_h]
      exact k
    | false =>
      rw [h1] at k
      refine iteF ⟨by decide +kernel, ?_⟩
      rw [ord_H]
      exact k
def sp_code_limits (_ : PySem.W.Frag) : Sp := fun vs H Q _ => ∃ n l g : Int, vs = [.int n, .int l, .int g] ∧ 1 ≤ n ∧ n ≤ 2147483647 ∧ GA.isLetter l = true ∧ 0 ≤ g ∧ g ≤ 16 ∧
  ∀ p H', H p = none → Same H H' → H' p = some (.lst [.int (GA.loZ n l g), .int (GA.hiZ n l g)]) → Q (.ref p) H'
theorem lim_prog {n l g : Int} (hl : GA.isLetter l = true) :
    0 ≤ (if (l - if isShaft l = true then 104 else 72) < 0 then -(l - if isShaft l = true then 104 else 72) else l - if isShaft l = true then 104 else 72) ∧
    (if (l - if isShaft l = true then 104 else 72) < 0 then -(l - if isShaft l = true then 104 else 72) else l - if isShaft l = true then 104 else 72) ≤ 18 ∧
    (if decide (isShaft l = decide (0 < l - if isShaft l = true then 104 else 72)) = true then
      GA.loZ n l g = GA.stepZ n (if (l - if isShaft l = true then 104 else 72) < 0 then -(l - if isShaft l = true then 104 else 72) else l - if isShaft l = true then 104 else 72) ∧
      GA.hiZ n l g = GA.stepZ n (if (l - if isShaft l = true then 104 else 72) < 0 then -(l - if isShaft l = true then 104 else 72) else l - if isShaft l = true then 104 else 72) + GA.widthZ n g
    else
      GA.loZ n l g = -GA.stepZ n (if (l - if isShaft l = true then 104 else 72) < 0 then -(l - if isShaft l = true then 104 else 72) else l - if isShaft l = true then 104 else 72) - GA.widthZ n g ∧
      GA.hiZ n l g = -GA.stepZ n (if (l - if isShaft l = true then 104 else 72) < 0 then -(l - if isShaft l = true then 104 else 72) else l - if isShaft l = true then 104 else 72)) := by
  have hl' := hl
  unfold GA.isLetter at hl'
  simp only [Bool.or_eq_true, Bool.and_eq_true, decide_eq_true_eq] at hl'
  cases h1 : isShaft l with
  | true =>
    have c : 97 ≤ l ∧ l ≤ 122 := by simpa [isShaft] using h1
    rw [if_pos rfl]
    unfold GA.hiZ GA.loZ
    rw [if_pos c.1]
    by_cases hm : 104 < l
    · have e : ¬ l - 104 < 0 := by (first | lia | omega)
      have e2 : (0 < l - 104) := by (first | lia | omega)
      rw [if_pos hm, if_neg e, decide_eq_true e2]
      exact ⟨by (first | lia | omega), by (first | lia | omega), by (try simp) <;> (try (first | lia | omega))⟩
    · rw [if_neg hm, decide_eq_false (show ¬ 0 < l - 104 by (first | lia | omega))]
      by_cases hz : l - 104 < 0
      · rw [if_pos hz]
        have e : -(l - 104) = 104 - l := by (first | lia | omega)
        rw [e]
        exact ⟨by (first | lia | omega), by (first | lia | omega), by (try simp) <;> (try (first | lia | omega))⟩
      · rw [if_neg hz]
        have e : l - 104 = 104 - l := by (first | lia | omega)
        rw [e]
        exact ⟨by (first | lia | omega), by (first | lia | omega), by (try simp) <;> (try (first | lia | omega))⟩
  | false =>
    have c0 : ¬ (97 ≤ l ∧ l ≤ 122) := by simpa [isShaft] using h1
    have c : 65 ≤ l ∧ l ≤ 90 := by (first | lia | omega)
    rw [if_neg Bool.false_ne_true]
    unfold GA.hiZ GA.loZ
    rw [if_neg (show ¬ 97 ≤ l by (first | lia | omega))]
    by_cases hm : 72 < l
    · have e : ¬ l - 72 < 0 := by (first | lia | omega)
      have e2 : (0 < l - 72) := by (first | lia | omega)
      rw [if_pos hm, if_neg e, decide_eq_true e2]
      exact ⟨by (first | lia | omega), by (first | lia | omega), by (try simp) <;> (try (first | lia | omega))⟩
    · rw [if_neg hm, decide_eq_false (show ¬ 0 < l - 72 by (first | lia | omega))]
      by_cases hz : l - 72 < 0
      · rw [if_pos hz]
        have e : -(l - 72) = 72 - l := by (first | lia | omega)
        rw [e]
        exact ⟨by (first | lia | omega), by (first | lia | omega), by (try simp) <;> (try (first | lia | omega))⟩
      · rw [if_neg hz]
        have e : l - 72 = 72 - l := by (first | lia | omega)
        rw [e]
        exact ⟨by (first | lia | omega), by (first | lia | omega), by (try simp) <;> (try (first | lia | omega))⟩

theorem sc_code_limits : FnScope ["n", "letter", "g", "m", "step", "w"] ["n", "letter", "g"] (defScope st_code_limits) := ⟨rfl, rfl, rfl, by decide +kernel, rfl, by decide +kernel, by decide +kernel⟩
theorem ok_code_limits {P : Program} {w : World} {K : PySem.W.Frag} {mg : Str → Option Value} {base : Heap} (R : Raw K mg "code_limits" st_code_limits ["n", "letter", "g"]) (b_abs : mg "abs" = none) (D_letter_number : Dn P w K mg base 2 "letter_number" ["letter"] (sp_letter_number K)) (D_step_of : Dn P w K mg base 3 "step_of" ["n", "k"] (sp_step_of K)) (D_width_of : Dn P w K mg base 2 "width_of" ["n", "g"] (sp_width_of K)) (D_is_shaft_letter : Dn P w K mg base 1 "is_shaft_letter" ["letter"] (sp_is_shaft_letter K)) : Dn P w K mg base 4 "code_limits" ["n", "letter", "g"] (sp_code_limits K) := by
  refine R.dn fun f fd F => F.ok sc_code_limits (fun vs H Q E h => ?_) (fun cdv A outer s H vs Q E hr h => ?_)
  ·
    obtain ⟨n, l, g, rfl, _⟩ := h
    rfl
  ·
    obtain ⟨n, l, g, rfl, n1, n2, hl, g0, g1, k⟩ := h
    refine ⟨_, (pss_cons (ps_set (i := 3) sc_code_limits.nd rfl (Or.inl rfl) (pe_callD D_letter_number (hr.mono (by decide)) rfl (pa_cons (pvm 1) pa_nil))) (pss_cons (ps_set (i := 4) sc_code_limits.nd rfl (Or.inl rfl) (pe_callD D_step_of (hr.mono (by decide)) rfl (pa_cons (pvm 0) (pa_cons (pe_callB (call_abs) rfl b_abs (by decide +kernel) (pa_cons (pvm 3) pa_nil)) pa_nil)))) (pss_cons (ps_set (i := 5) sc_code_limits.nd rfl (Or.inl rfl) (pe_callD D_width_of (hr.mono (by decide)) rfl (pa_cons (pvm 0) (pa_cons (pvm 2) pa_nil)))) (pss_cons (ps_if (pt_cmpRm op_eqm (pe_callD D_is_shaft_letter (hr.mono (by decide)) rfl (pa_cons (pvm 1) pa_nil)) (pe_cmpR op_gtm (pvm 3) pe_int (nomark _)) (nomark _)) (pss_one (ps_ret (pe_lst (pa_cons (pvm 4) (pa_cons (pe_op op_addm (pvm 4) (pvm 5)) pa_nil))))) pss_nil) (pss_one (ps_ret (pe_lst (pa_cons (pe_op op_subm (pe_un un_negm (pvm 4)) (pvm 5)) (pa_cons (pe_un un_negm (pvm 4)) pa_nil))))))))), ?_⟩
    (try dsimp only [tVarm, tC, tOp, tUn, rIm, rI0m, rUm, tTestm, tChainm, tAnd, tOr, tNot, tAndVm, tOrVm, tNotVm, tIf, tSeq, tNext, tAsg, gName, tIfS, tRet, tRetN, tDrop, tCall, tCB, tCons, tNil, tLst, tTup, tAugm, ipIm, tBM, rAppend, rIxLm, rCat, tIsN, tNotN, rIxTm, rExtend, gTup, gCons, gNil, tYes, rSum, rAll, asV_is, asI_is, asB_is, asR_is, rEqm_ii, rNem_ii, scal_ii, scal_bb, rLtL, rMaxD, rMinD, L2.start, wipe, sp_letter_number, sp_step_of, sp_width_of, sp_is_shaft_letter, List.map_cons, List.map_nil, List.length_cons, List.length_nil, List.append_nil, List.cons_append, List.nil_append, List.replicate_succ, List.replicate_zero, List.getElem?_cons_zero, List.getElem?_cons_succ, List.set_cons_zero, List.set_cons_succ]); (try simp only [tVarm, tC, tOp, tUn, rIm, rI0m, rUm, tTestm, tChainm, tAnd, tOr, tNot, tAndVm, tOrVm, tNotVm, tIf, tSeq, tNext, tAsg, gName, tIfS, tRet, tRetN, tDrop, tCall, tCB, tCons, tNil, tLst, tTup, tAugm, ipIm, tBM, rAppend, rIxLm, rCat, tIsN, tNotN, rIxTm, rExtend, gTup, gCons, gNil, tYes, rSum, rAll, rLtL, rMaxD, rMinD, V.int.injEq, V.bl.injEq, V.str.injEq, V.ref.injEq, and_true, true_and, and_assoc, Bool.false_eq_true, List.map_cons, List.map_nil, List.length_cons, List.length_nil, List.append_nil, List.cons_append, List.nil_append, List.replicate_succ, List.replicate_zero, List.getElem?_cons_zero, List.getElem?_cons_succ, List.set_cons_zero, List.set_cons_succ, Option.some.injEq, List.cons.injEq, exists_eq_left', exists_and_left, exists_eq_left, asV_ex, asI_ex, asB_ex, asR_ex, rEqm_ex, rNem_ex, scal_ii, scal_bb, L2.start, wipe, Nat.reduceAdd, Nat.reduceSub, reduceIte, sp_letter_number, sp_step_of, sp_width_of, sp_is_shaft_letter])
    have L := lim_prog (n := n) (g := g) hl
    generalize (if (l - if isShaft l = true then 104 else 72) < 0 then -(l - if isShaft l = true then 104 else 72) else l - if isShaft l = true then 104 else 72) = j at L ⊢
    generalize decide (isShaft l = decide (0 < l - if isShaft l = true then 104 else 72)) = b at L ⊢
    obtain ⟨L1, L2, L3⟩ := L
    refine ⟨n1, n2, L1, L2, n1, n2, g0, by (first | lia | omega), ?_⟩
    cases b with
    | true =>
      rw [if_pos rfl] at L3
      refine iteT ⟨by decide, fun p hp => k p _ hp (same_new hp) ?_⟩
      rw [upd_same, L3.1, L3.2]
    | false =>
      rw [if_neg Bool.false_ne_true] at L3
      refine iteF ⟨by decide, fun p hp => k p _ hp (same_new hp) ?_⟩
      rw [upd_same, L3.1, L3.2]
def sp_end_fault (K : PySem.W.Frag) : Sp := fun vs H Q _ => ∃ (a q : Addr) (t : List Int) (f : Nat × Option Int), vs = [.ref a, .ref q] ∧ SqL K H a (t.map V.int) ∧ SqL K H q [.int f.1, optV f.2] ∧ Q (.int (GA.endF t f)) H

theorem sc_end_fault : FnScope ["text", "found"] ["text", "found"] (defScope st_end_fault) := ⟨rfl, rfl, rfl, by decide +kernel, rfl, by decide +kernel, by decide +kernel⟩
theorem ok_end_fault {P : Program} {w : World} {K : PySem.W.Frag} {mg : Str → Option Value} {base : Heap} (R : Raw K mg "end_fault" st_end_fault ["text", "found"]) (b_len : mg "len" = none) : Dn P w K mg base 1 "end_fault" ["text", "found"] (sp_end_fault K) := by
  refine R.dn fun f fd F => F.ok sc_end_fault (fun vs H Q E h => ?_) (fun cdv A outer s H vs Q E hr h => ?_)
  ·
    obtain ⟨_, _, _, _, rfl, _⟩ := h
    rfl
  ·
    obtain ⟨a, q, t, f, rfl, hS, hq, k⟩ := h
    refine ⟨_, (pss_one (ps_ret (pe_ifExp (PW.pt (pw_and (pt_cmpm (pc_notN (pe_ix ix_listm (pvm 1) pe_int (fun _ _ => rfl)))) (pw_and1 (pt_cmpRm op_eqm (pe_ix ix_listm (pvm 1) pe_int (fun _ _ => rfl)) (pe_callB (call_len_seq) rfl b_len (by decide +kernel) (pa_cons (pvm 0) pa_nil)) (nomark _))))) (pe_un un_negm pe_int) (pe_ix ix_listm (pvm 1) pe_int (fun _ _ => rfl))))), ?_⟩
    (try dsimp only [tVarm, tC, tOp, tUn, rIm, rI0m, rUm, tTestm, tChainm, tAnd, tOr, tNot, tAndVm, tOrVm, tNotVm, tIf, tSeq, tNext, tAsg, gName, tIfS, tRet, tRetN, tDrop, tCall, tCB, tCons, tNil, tLst, tTup, tAugm, ipIm, tBM, rAppend, rIxLm, rCat, tIsN, tNotN, rIxTm, rExtend, gTup, gCons, gNil, tYes, rSum, rAll, asV_is, asI_is, asB_is, asR_is, rEqm_ii, rNem_ii, scal_ii, scal_bb, rLtL, rMaxD, rMinD, L2.start, wipe, List.map_cons, List.map_nil, List.length_cons, List.length_nil, List.append_nil, List.cons_append, List.nil_append, List.replicate_succ, List.replicate_zero, List.getElem?_cons_zero, List.getElem?_cons_succ, List.set_cons_zero, List.set_cons_succ]); (try simp only [tVarm, tC, tOp, tUn, rIm, rI0m, rUm, tTestm, tChainm, tAnd, tOr, tNot, tAndVm, tOrVm, tNotVm, tIf, tSeq, tNext, tAsg, gName, tIfS, tRet, tRetN, tDrop, tCall, tCB, tCons, tNil, tLst, tTup, tAugm, ipIm, tBM, rAppend, rIxLm, rCat, tIsN, tNotN, rIxTm, rExtend, gTup, gCons, gNil, tYes, rSum, rAll, rLtL, rMaxD, rMinD, V.int.injEq, V.bl.injEq, V.str.injEq, V.ref.injEq, and_true, true_and, and_assoc, Bool.false_eq_true, List.map_cons, List.map_nil, List.length_cons, List.length_nil, List.append_nil, List.cons_append, List.nil_append, List.replicate_succ, List.replicate_zero, List.getElem?_cons_zero, List.getElem?_cons_succ, List.set_cons_zero, List.set_cons_succ, Option.some.injEq, List.cons.injEq, exists_eq_left', exists_and_left, exists_eq_left, asV_ex, asI_ex, asB_ex, asR_ex, rEqm_ex, rNem_ex, scal_ii, scal_bb, L2.start, wipe, Nat.reduceAdd, Nat.reduceSub, reduceIte])
    refine ⟨_, hq, _, rfl, ?_⟩
    unfold GA.endF at k
    cases hf : f.2 with
    | none =>
      rw [hf] at k hq
      rw [if_neg (fun z => absurd z.1 (by simp))] at k
      exact iteF' rfl ⟨_, hq, _, rfl, k⟩
    | some v =>
      rw [hf] at k hq
      refine iteT' (by rw [decide_eq_false (fun z => by cases z)]; rfl) ⟨_, hq, _, rfl, _, .inl hS, rfl, ?_⟩
      by_cases he : f.1 = t.length
      · rw [if_pos ⟨rfl, he⟩] at k
        refine ite2 (fun _ => k) (fun z => absurd (decide_eq_true ?_) z)
        rw [List.length_map, he]
      · rw [if_neg (fun z => he z.2)] at k
        refine ite2 (fun z => absurd (of_decide_eq_true z) ?_) (fun _ => ⟨_, hq, _, rfl, k⟩)
        rw [List.length_map]
        intro z
        have := V.int.inj z
        (first | lia | omega)
def sp_deviations_fault (K : PySem.W.Frag) : Sp := fun vs H Q _ => ∃ (a : Addr) (t : List Int) (s : Nat), vs = [.ref a, .int s] ∧ s < t.length ∧ SqL K H a (t.map V.int) ∧ ∀ H', Same H H' → Q (.int (GA.devsF t s)) H'

theorem sc_deviations_fault : FnScope ["text", "start", "upper", "end"] ["text", "start"] (defScope st_deviations_fault) := ⟨rfl, rfl, rfl, by decide +kernel, rfl, by decide +kernel, by decide +kernel⟩
theorem ok_deviations_fault {P : Program} {w : World} {K : PySem.W.Frag} {mg : Str → Option Value} {base : Heap} (R : Raw K mg "deviations_fault" st_deviations_fault ["text", "start"]) {t_BLANK : Tok} (g_BLANK : mg "BLANK" = some (.int (32) t_BLANK)) (D_deviation_at : Dn P w K mg base 5 "deviation_at" ["text", "start"] (sp_deviation_at K)) (D_end_fault : Dn P w K mg base 1 "end_fault" ["text", "found"] (sp_end_fault K)) (D_is_sign : Dn P w K mg base 1 "is_sign" ["byte"] (sp_is_sign K)) (D_byte_at : Dn P w K mg base 1 "byte_at" ["text", "place"] (sp_byte_at K)) : Dn P w K mg base 6 "deviations_fault" ["text", "start"] (sp_deviations_fault K) := by
  refine R.dn fun f fd F => F.ok sc_deviations_fault (fun vs H Q E h => ?_) (fun cdv A outer s H vs Q E hr h => ?_)
  ·
    obtain ⟨_, _, _, rfl, _⟩ := h
    rfl
  ·
    obtain ⟨a, t, s, rfl, hs, hS, k⟩ := h
    refine ⟨_, (pss_cons (ps_set (i := 2) sc_deviations_fault.nd rfl (Or.inl rfl) (pe_callD D_deviation_at (hr.mono (by decide)) rfl (pa_cons (pvm 0) (pa_cons (pvm 1) pa_nil)))) (pss_cons (ps_set (i := 3) sc_deviations_fault.nd rfl (Or.inl rfl) (pe_ix ix_listm (pvm 2) pe_int (fun _ _ => rfl))) (pss_cons (ps_if (PW.pt (pw_or (pt_cmpm (pc_isN (pe_ix ix_listm (pvm 2) pe_int (fun _ _ => rfl)))) (pw_or1 (pt_cmpRm op_nem (pe_callD D_byte_at (hr.mono (by decide)) rfl (pa_cons (pvm 0) (pa_cons (pvm 3) pa_nil))) (pe_glob (v := .int (32)) rfl g_BLANK ⟨_, rfl⟩) (nomark _))))) (pss_one (ps_ret (pvm 3))) pss_nil) (pss_cons (ps_if (pt_not (pt_valm (pe_callD D_is_sign (hr.mono (by decide)) rfl (pa_cons (pe_callD D_byte_at (hr.mono (by decide)) rfl (pa_cons (pvm 0) (pa_cons (pe_op op_addm (pvm 3) pe_int) pa_nil))) pa_nil)))) (pss_one (ps_ret (pe_op op_addm (pvm 3) pe_int))) pss_nil) (pss_one (ps_ret (pe_callD D_end_fault (hr.mono (by decide)) rfl (pa_cons (pvm 0) (pa_cons (pe_callD D_deviation_at (hr.mono (by decide)) rfl (pa_cons (pvm 0) (pa_cons (pe_op op_addm (pvm 3) pe_int) pa_nil))) pa_nil))))))))), ?_⟩
    (try dsimp only [tVarm, tC, tOp, tUn, rIm, rI0m, rUm, tTestm, tChainm, tAnd, tOr, tNot, tAndVm, tOrVm, tNotVm, tIf, tSeq, tNext, tAsg, gName, tIfS, tRet, tRetN, tDrop, tCall, tCB, tCons, tNil, tLst, tTup, tAugm, ipIm, tBM, rAppend, rIxLm, rCat, tIsN, tNotN, rIxTm, rExtend, gTup, gCons, gNil, tYes, rSum, rAll, asV_is, asI_is, asB_is, asR_is, rEqm_ii, rNem_ii, scal_ii, scal_bb, rLtL, rMaxD, rMinD, L2.start, wipe, sp_deviation_at, sp_end_fault, sp_is_sign, sp_byte_at, List.map_cons, List.map_nil, List.length_cons, List.length_nil, List.append_nil, List.cons_append, List.nil_append, List.replicate_succ, List.replicate_zero, List.getElem?_cons_zero, List.getElem?_cons_succ, List.set_cons_zero, List.set_cons_succ]); (try simp only [tVarm, tC, tOp, tUn, rIm, rI0m, rUm, tTestm, tChainm, tAnd, tOr, tNot, tAndVm, tOrVm, tNotVm, tIf, tSeq, tNext, tAsg, gName, tIfS, tRet, tRetN, tDrop, tCall, tCB, tCons, tNil, tLst, tTup, tAugm, ipIm, tBM, rAppend, rIxLm, rCat, tIsN, tNotN, rIxTm, rExtend, gTup, gCons, gNil, tYes, rSum, rAll, rLtL, rMaxD, rMinD, V.int.injEq, V.bl.injEq, V.str.injEq, V.ref.injEq, and_true, true_and, and_assoc, Bool.false_eq_true, List.map_cons, List.map_nil, List.length_cons, List.length_nil, List.append_nil, List.cons_append, List.nil_append, List.replicate_succ, List.replicate_zero, List.getElem?_cons_zero, List.getElem?_cons_succ, List.set_cons_zero, List.set_cons_succ, Option.some.injEq, List.cons.injEq, exists_eq_left', exists_and_left, exists_eq_left, asV_ex, asI_ex, asB_ex, asR_ex, rEqm_ex, rNem_ex, scal_ii, scal_bb, L2.start, wipe, Nat.reduceAdd, Nat.reduceSub, reduceIte, sp_deviation_at, sp_end_fault, sp_is_sign, sp_byte_at])
    refine ⟨t, s, rfl, hs, hS, fun p H1 hp s1 hP => ?_⟩
    refine ⟨_, SqL.of hP, _, rfl, _, SqL.of hP, _, rfl, ?_⟩
    unfold GA.devsF at k
    cases hn : (GA.devA t s).2 with
    | none =>
      rw [if_pos (.inl hn)] at k
      exact iteT' (decide_eq_true rfl) (k H1 s1)
    | some v =>
      refine iteF' (decide_eq_false (fun z => by cases z)) ⟨t, _, rfl, s1.seq hS, ?_⟩
      by_cases h32 : GA.at_ t (GA.devA t s).1 = 32
      · rw [if_neg (fun z => z.elim (fun z => by rw [hn] at z; cases z) (fun z => z h32))] at k
        refine iteF' (by rw [decide_eq_true h32]; rfl) ⟨_, rfl, t, (GA.devA t s).1 + 1, rfl, s1.seq hS, ?_⟩
        cases hg : GA.isSgn (GA.at_ t ((GA.devA t s).1 + 1)) with
        | false =>
          rw [if_pos hg] at k
          exact iteT ⟨_, rfl, k H1 s1⟩
        | true =>
          rw [if_neg (by rw [hg]; exact Bool.noConfusion)] at k
          have hlt : (GA.devA t s).1 + 1 < t.length := GA.at_lt (by rcases (GA.sgn_iff _).mp hg with z | z <;> (first | lia | omega))
          exact iteF ⟨_, rfl, t, (GA.devA t s).1 + 1, rfl, hlt, s1.seq hS, fun p2 H2 hp2 s2 hP2 => ⟨t, (s1.trans s2).seq hS, GA.devA t ((GA.devA t s).1 + 1), SqL.of hP2, k H2 (s1.trans s2)⟩⟩
      · rw [if_pos (.inr h32)] at k
        exact iteT' (by rw [decide_eq_false h32]; rfl) (k H1 s1)
def sp_tail_fault (K : PySem.W.Frag) : Sp := fun vs H Q _ => ∃ (a : Addr) (t : List Int) (s : Nat), vs = [.ref a, .int s] ∧ SqL K H a (t.map V.int) ∧ ∀ H', Same H H' → Q (.int (GA.tailF t s)) H'

theorem sc_tail_fault : FnScope ["text", "start", "first"] ["text", "start"] (defScope st_tail_fault) := ⟨rfl, rfl, rfl, by decide +kernel, rfl, by decide +kernel, by decide +kernel⟩
theorem ok_tail_fault {P : Program} {w : World} {K : PySem.W.Frag} {mg : Str → Option Value} {base : Heap} (R : Raw K mg "tail_fault" st_tail_fault ["text", "start"]) {t_PLUS : Tok} (g_PLUS : mg "PLUS" = some (.int (43) t_PLUS)) {t_MINUS : Tok} (g_MINUS : mg "MINUS" = some (.int (45) t_MINUS)) (D_byte_at : Dn P w K mg base 1 "byte_at" ["text", "place"] (sp_byte_at K)) (D_is_sign : Dn P w K mg base 1 "is_sign" ["byte"] (sp_is_sign K)) (D_is_letter : Dn P w K mg base 2 "is_letter" ["byte"] (sp_is_letter K)) (D_end_fault : Dn P w K mg base 1 "end_fault" ["text", "found"] (sp_end_fault K)) (D_deviations_fault : Dn P w K mg base 6 "deviations_fault" ["text", "start"] (sp_deviations_fault K)) (D_number_at : Dn P w K mg base 4 "number_at" ["text", "start"] (sp_number_at K)) (D_grade_at : Dn P w K mg base 2 "grade_at" ["text", "start"] (sp_grade_at K)) : Dn P w K mg base 7 "tail_fault" ["text", "start"] (sp_tail_fault K) := by
  refine R.dn fun f fd F => F.ok sc_tail_fault (fun vs H Q E h => ?_) (fun cdv A outer s H vs Q E hr h => ?_)
  ·
    obtain ⟨_, _, _, rfl, _⟩ := h
    rfl
  ·
    obtain ⟨a, t, s, rfl, hS, k⟩ := h
    refine ⟨_, (pss_cons (ps_set (i := 2) sc_tail_fault.nd rfl (Or.inl rfl) (pe_callD D_byte_at (hr.mono (by decide)) rfl (pa_cons (pvm 0) (pa_cons (pvm 1) pa_nil)))) (pss_cons (ps_if (PW.pt (pw_and (pt_cmpRm op_eqm (pvm 2) (pe_glob (v := .int (43)) rfl g_PLUS ⟨_, rfl⟩) (nomark _)) (pw_and1 (pt_cmpRm op_eqm (pe_callD D_byte_at (hr.mono (by decide)) rfl (pa_cons (pvm 0) (pa_cons (pe_op op_addm (pvm 1) pe_int) pa_nil))) (pe_glob (v := .int (45)) rfl g_MINUS ⟨_, rfl⟩) (nomark _))))) (pss_one (ps_ret (pe_callD D_end_fault (hr.mono (by decide)) rfl (pa_cons (pvm 0) (pa_cons (pe_callD D_number_at (hr.mono (by decide)) rfl (pa_cons (pvm 0) (pa_cons (pe_op op_addm (pvm 1) pe_int) pa_nil))) pa_nil))))) pss_nil) (pss_cons (ps_if (pt_valm (pe_callD D_is_sign (hr.mono (by decide)) rfl (pa_cons (pvm 2) pa_nil))) (pss_one (ps_ret (pe_callD D_deviations_fault (hr.mono (by decide)) rfl (pa_cons (pvm 0) (pa_cons (pvm 1) pa_nil))))) pss_nil) (pss_cons (ps_if (pt_valm (pe_callD D_is_letter (hr.mono (by decide)) rfl (pa_cons (pvm 2) pa_nil))) (pss_one (ps_ret (pe_callD D_end_fault (hr.mono (by decide)) rfl (pa_cons (pvm 0) (pa_cons (pe_callD D_grade_at (hr.mono (by decide)) rfl (pa_cons (pvm 0) (pa_cons (pe_op op_addm (pvm 1) pe_int) pa_nil))) pa_nil))))) pss_nil) (pss_one (ps_ret (pvm 1))))))), ?_⟩
    (try dsimp only [tVarm, tC, tOp, tUn, rIm, rI0m, rUm, tTestm, tChainm, tAnd, tOr, tNot, tAndVm, tOrVm, tNotVm, tIf, tSeq, tNext, tAsg, gName, tIfS, tRet, tRetN, tDrop, tCall, tCB, tCons, tNil, tLst, tTup, tAugm, ipIm, tBM, rAppend, rIxLm, rCat, tIsN, tNotN, rIxTm, rExtend, gTup, gCons, gNil, tYes, rSum, rAll, asV_is, asI_is, asB_is, asR_is, rEqm_ii, rNem_ii, scal_ii, scal_bb, rLtL, rMaxD, rMinD, L2.start, wipe, sp_byte_at, sp_is_sign, sp_is_letter, sp_end_fault, sp_deviations_fault, sp_number_at, sp_grade_at, List.map_cons, List.map_nil, List.length_cons, List.length_nil, List.append_nil, List.cons_append, List.nil_append, List.replicate_succ, List.replicate_zero, List.getElem?_cons_zero, List.getElem?_cons_succ, List.set_cons_zero, List.set_cons_succ]); (try simp only [tVarm, tC, tOp, tUn, rIm, rI0m, rUm, tTestm, tChainm, tAnd, tOr, tNot, tAndVm, tOrVm, tNotVm, tIf, tSeq, tNext, tAsg, gName, tIfS, tRet, tRetN, tDrop, tCall, tCB, tCons, tNil, tLst, tTup, tAugm, ipIm, tBM, rAppend, rIxLm, rCat, tIsN, tNotN, rIxTm, rExtend, gTup, gCons, gNil, tYes, rSum, rAll, rLtL, rMaxD, rMinD, V.int.injEq, V.bl.injEq, V.str.injEq, V.ref.injEq, and_true, true_and, and_assoc, Bool.false_eq_true, List.map_cons, List.map_nil, List.length_cons, List.length_nil, List.append_nil, List.cons_append, List.nil_append, List.replicate_succ, List.replicate_zero, List.getElem?_cons_zero, List.getElem?_cons_succ, List.set_cons_zero, List.set_cons_succ, Option.some.injEq, List.cons.injEq, exists_eq_left', exists_and_left, exists_eq_left, asV_ex, asI_ex, asB_ex, asR_ex, rEqm_ex, rNem_ex, scal_ii, scal_bb, L2.start, wipe, Nat.reduceAdd, Nat.reduceSub, reduceIte, sp_byte_at, sp_is_sign, sp_is_letter, sp_end_fault, sp_deviations_fault, sp_number_at, sp_grade_at])
    refine ⟨t, s, rfl, hS, ?_⟩
    unfold GA.tailF at k
    by_cases hw : GA.at_ t s = 43 ∧ GA.at_ t (s + 1) = 45
    · rw [if_pos hw] at k
      refine iteT' (decide_eq_true hw.1) ⟨t, s + 1, rfl, hS, ?_⟩
      exact iteT' (decide_eq_true hw.2) ⟨t, s + 2, rfl, hS, fun p H1 hp s1 hP => ⟨t, s1.seq hS, GA.numA t (s + 2), SqL.of hP, k H1 s1⟩⟩
    · rw [if_neg hw] at k
      by_cases h1 : GA.at_ t s = 43
      · refine iteT' (decide_eq_true h1) ⟨t, s + 1, rfl, hS, ?_⟩
        refine iteF' (decide_eq_false (fun z => hw ⟨h1, z⟩)) ?_
        have hg : GA.isSgn (GA.at_ t s) = true := (GA.sgn_iff _).mpr (.inl h1)
        rw [if_pos hg] at k
        have hlt : s < t.length := GA.at_lt (by (first | lia | omega))
        exact iteT' hg ⟨t, s, rfl, hlt, hS, k⟩
      · refine iteF' (decide_eq_false h1) ?_
        cases hg : GA.isSgn (GA.at_ t s) with
        | true =>
          rw [if_pos hg] at k
          have hlt : s < t.length := GA.at_lt (by rcases (GA.sgn_iff _).mp hg with z | z <;> (first | lia | omega))
          exact iteT ⟨t, s, rfl, hlt, hS, k⟩
        | false =>
          rw [if_neg (by rw [hg]; exact Bool.noConfusion)] at k
          refine iteF ?_
          cases hl : GA.isLetter (GA.at_ t s) with
          | true =>
            rw [if_pos hl] at k
            exact iteT ⟨t, s + 1, rfl, hS, fun p H1 hp s1 hP => ⟨t, s1.seq hS, GA.gradeA t (s + 1), SqL.of hP, k H1 s1⟩⟩
          | false =>
            rw [if_neg (by rw [hl]; exact Bool.noConfusion)] at k
            exact iteF (k H (Same.refl H))
def sp_shape_fault (K : PySem.W.Frag) : Sp := fun vs H Q _ => ∃ (a : Addr) (t : List Int), vs = [.ref a] ∧ SqL K H a (t.map V.int) ∧ ∀ H', Same H H' → Q (.int (GA.shapeF t)) H'

theorem sc_shape_fault : FnScope ["text", "number", "end"] ["text"] (defScope st_shape_fault) := ⟨rfl, rfl, rfl, by decide +kernel, rfl, by decide +kernel, by decide +kernel⟩
theorem ok_shape_fault {P : Program} {w : World} {K : PySem.W.Frag} {mg : Str → Option Value} {base : Heap} (R : Raw K mg "shape_fault" st_shape_fault ["text"]) {t_BLANK : Tok} (g_BLANK : mg "BLANK" = some (.int (32) t_BLANK)) (D_number_at : Dn P w K mg base 4 "number_at" ["text", "start"] (sp_number_at K)) (D_end_fault : Dn P w K mg base 1 "end_fault" ["text", "found"] (sp_end_fault K)) (D_tail_fault : Dn P w K mg base 7 "tail_fault" ["text", "start"] (sp_tail_fault K)) (D_byte_at : Dn P w K mg base 1 "byte_at" ["text", "place"] (sp_byte_at K)) : Dn P w K mg base 8 "shape_fault" ["text"] (sp_shape_fault K) := by
  refine R.dn fun f fd F => F.ok sc_shape_fault (fun vs H Q E h => ?_) (fun cdv A outer s H vs Q E hr h => ?_)
  ·
    obtain ⟨_, _, rfl, _⟩ := h
    rfl
  ·
    obtain ⟨a, t, rfl, hS, k⟩ := h
    refine ⟨_, (pss_cons (ps_set (i := 1) sc_shape_fault.nd rfl (Or.inl rfl) (pe_callD D_number_at (hr.mono (by decide)) rfl (pa_cons (pvm 0) (pa_cons pe_int pa_nil)))) (pss_cons (ps_set (i := 2) sc_shape_fault.nd rfl (Or.inl rfl) (pe_ix ix_listm (pvm 1) pe_int (fun _ _ => rfl))) (pss_cons (ps_if (PW.pt (pw_and (pt_cmpm (pc_notN (pe_ix ix_listm (pvm 1) pe_int (fun _ _ => rfl)))) (pw_and1 (pt_cmpRm op_eqm (pe_callD D_byte_at (hr.mono (by decide)) rfl (pa_cons (pvm 0) (pa_cons (pvm 2) pa_nil))) (pe_glob (v := .int (32)) rfl g_BLANK ⟨_, rfl⟩) (nomark _))))) (pss_one (ps_ret (pe_callD D_tail_fault (hr.mono (by decide)) rfl (pa_cons (pvm 0) (pa_cons (pe_op op_addm (pvm 2) pe_int) pa_nil))))) pss_nil) (pss_one (ps_ret (pe_callD D_end_fault (hr.mono (by decide)) rfl (pa_cons (pvm 0) (pa_cons (pvm 1) pa_nil)))))))), ?_⟩
    (try dsimp only [tVarm, tC, tOp, tUn, rIm, rI0m, rUm, tTestm, tChainm, tAnd, tOr, tNot, tAndVm, tOrVm, tNotVm, tIf, tSeq, tNext, tAsg, gName, tIfS, tRet, tRetN, tDrop, tCall, tCB, tCons, tNil, tLst, tTup, tAugm, ipIm, tBM, rAppend, rIxLm, rCat, tIsN, tNotN, rIxTm, rExtend, gTup, gCons, gNil, tYes, rSum, rAll, asV_is, asI_is, asB_is, asR_is, rEqm_ii, rNem_ii, scal_ii, scal_bb, rLtL, rMaxD, rMinD, L2.start, wipe, sp_number_at, sp_end_fault, sp_tail_fault, sp_byte_at, List.map_cons, List.map_nil, List.length_cons, List.length_nil, List.append_nil, List.cons_append, List.nil_append, List.replicate_succ, List.replicate_zero, List.getElem?_cons_zero, List.getElem?_cons_succ, List.set_cons_zero, List.set_cons_succ]); (try simp only [tVarm, tC, tOp, tUn, rIm, rI0m, rUm, tTestm, tChainm, tAnd, tOr, tNot, tAndVm, tOrVm, tNotVm, tIf, tSeq, tNext, tAsg, gName, tIfS, tRet, tRetN, tDrop, tCall, tCB, tCons, tNil, tLst, tTup, tAugm, ipIm, tBM, rAppend, rIxLm, rCat, tIsN, tNotN, rIxTm, rExtend, gTup, gCons, gNil, tYes, rSum, rAll, rLtL, rMaxD, rMinD, V.int.injEq, V.bl.injEq, V.str.injEq, V.ref.injEq, and_true, true_and, and_assoc, Bool.false_eq_true, List.map_cons, List.map_nil, List.length_cons, List.length_nil, List.append_nil, List.cons_append, List.nil_append, List.replicate_succ, List.replicate_zero, List.getElem?_cons_zero, List.getElem?_cons_succ, List.set_cons_zero, List.set_cons_succ, Option.some.injEq, List.cons.injEq, exists_eq_left', exists_and_left, exists_eq_left, asV_ex, asI_ex, asB_ex, asR_ex, rEqm_ex, rNem_ex, scal_ii, scal_bb, L2.start, wipe, Nat.reduceAdd, Nat.reduceSub, reduceIte, sp_number_at, sp_end_fault, sp_tail_fault, sp_byte_at])
    refine ⟨t, 0, rfl, hS, fun p H1 hp s1 hP => ?_⟩
    refine ⟨_, SqL.of hP, _, rfl, _, SqL.of hP, _, rfl, ?_⟩
    unfold GA.shapeF at k
    have fin : ¬ ((GA.numA t 0).2.isSome = true ∧ GA.at_ t (GA.numA t 0).1 = 32) → ∃ x, SqL K H1 a (List.map V.int x) ∧ ∃ f : Nat × Option Int, SqL K H1 p [V.int f.1, optV f.2] ∧ Q (V.int (GA.endF x f)) H1 := fun c => by
      rw [if_neg c] at k
      exact ⟨t, s1.seq hS, GA.numA t 0, SqL.of hP, k H1 s1⟩
    cases hn : (GA.numA t 0).2 with
    | none =>
      exact iteF' rfl (fin (fun z => by rw [hn] at z; exact absurd z.1 (by simp)))
    | some v =>
      refine iteT' (by rw [decide_eq_false (fun z => by cases z)]; rfl) ⟨t, _, rfl, s1.seq hS, ?_⟩
      by_cases h32 : GA.at_ t (GA.numA t 0).1 = 32
      · rw [if_pos ⟨by rw [hn]; rfl, h32⟩] at k
        exact iteT' (decide_eq_true h32) ⟨_, rfl, t, (GA.numA t 0).1 + 1, rfl, s1.seq hS, fun H2 s2 => k H2 (s1.trans s2)⟩
      · exact iteF' (decide_eq_false h32) (fin (fun z => h32 z.2))
def sp_fault (_ : PySem.W.Frag) : Sp := fun vs H Q _ => ∃ i j : Int, vs = [.int i, .int j] ∧ ∀ p H', H p = none → Same H H' → H' p = some (.lst [.int (-2), .int i, .int j]) → Q (.ref p) H'

theorem sc_fault : FnScope ["kind", "place"] ["kind", "place"] (defScope st_fault) := ⟨rfl, rfl, rfl, by decide +kernel, rfl, by decide +kernel, by decide +kernel⟩
theorem ok_fault {P : Program} {w : World} {K : PySem.W.Frag} {mg : Str → Option Value} {base : Heap} (R : Raw K mg "fault" st_fault ["kind", "place"]) : Dn P w K mg base 1 "fault" ["kind", "place"] (sp_fault K) := by
  refine R.dn fun f fd F => F.ok sc_fault (fun vs H Q E h => ?_) (fun cdv A outer s H vs Q E hr h => ?_)
  ·
    obtain ⟨_, _, rfl, _⟩ := h
    rfl
  ·
    obtain ⟨i, j, rfl, k⟩ := h
    refine ⟨_, (pss_one (ps_ret (pe_lst (pa_cons (pe_un un_negm pe_int) (pa_cons (pvm 0) (pa_cons (pvm 1) pa_nil)))))), ?_⟩
    (try dsimp only [tVarm, tC, tOp, tUn, rIm, rI0m, rUm, tTestm, tChainm, tAnd, tOr, tNot, tAndVm, tOrVm, tNotVm, tIf, tSeq, tNext, tAsg, gName, tIfS, tRet, tRetN, tDrop, tCall, tCB, tCons, tNil, tLst, tTup, tAugm, ipIm, tBM, rAppend, rIxLm, rCat, tIsN, tNotN, rIxTm, rExtend, gTup, gCons, gNil, tYes, rSum, rAll, asV_is, asI_is, asB_is, asR_is, rEqm_ii, rNem_ii, scal_ii, scal_bb, rLtL, rMaxD, rMinD, L2.start, wipe, List.map_cons, List.map_nil, List.length_cons, List.length_nil, List.append_nil, List.cons_append, List.nil_append, List.replicate_succ, List.replicate_zero, List.getElem?_cons_zero, List.getElem?_cons_succ, List.set_cons_zero, List.set_cons_succ]); (try simp only [tVarm, tC, tOp, tUn, rIm, rI0m, rUm, tTestm, tChainm, tAnd, tOr, tNot, tAndVm, tOrVm, tNotVm, tIf, tSeq, tNext, tAsg, gName, tIfS, tRet, tRetN, tDrop, tCall, tCB, tCons, tNil, tLst, tTup, tAugm, ipIm, tBM, rAppend, rIxLm, rCat, tIsN, tNotN, rIxTm, rExtend, gTup, gCons, gNil, tYes, rSum, rAll, rLtL, rMaxD, rMinD, V.int.injEq, V.bl.injEq, V.str.injEq, V.ref.injEq, and_true, true_and, and_assoc, Bool.false_eq_true, List.map_cons, List.map_nil, List.length_cons, List.length_nil, List.append_nil, List.cons_append, List.nil_append, List.replicate_succ, List.replicate_zero, List.getElem?_cons_zero, List.getElem?_cons_succ, List.set_cons_zero, List.set_cons_succ, Option.some.injEq, List.cons.injEq, exists_eq_left', exists_and_left, exists_eq_left, asV_ex, asI_ex, asB_ex, asR_ex, rEqm_ex, rNem_ex, scal_ii, scal_bb, L2.start, wipe, Nat.reduceAdd, Nat.reduceSub, reduceIte])
    exact ⟨by decide, fun p hp => k p _ hp (same_new hp) upd_same⟩
def sp_fit_or_fault (_ : PySem.W.Frag) : Sp := fun vs H Q _ => ∃ (q : Addr) (n lo hi f l g : Int) (e : Nat), vs = [.ref q, .int e] ∧ H q = some (.lst [.int n, .int lo, .int hi, .int f, .int l, .int g]) ∧ ∀ p H', H p = none → Same H H' → H' p = some (.lst ((GA.fitF n lo hi f l g e).map V.int)) → Q (.ref p) H'

theorem sc_fit_or_fault : FnScope ["size", "end"] ["size", "end"] (defScope st_fit_or_fault) := ⟨rfl, rfl, rfl, by decide +kernel, rfl, by decide +kernel, by decide +kernel⟩
theorem ok_fit_or_fault {P : Program} {w : World} {K : PySem.W.Frag} {mg : Str → Option Value} {base : Heap} (R : Raw K mg "fit_or_fault" st_fit_or_fault ["size", "end"]) (D_are_fit : Dn P w K mg base 1 "are_fit" ["n", "lo", "hi"] (sp_are_fit K)) (D_fault : Dn P w K mg base 1 "fault" ["kind", "place"] (sp_fault K)) : Dn P w K mg base 2 "fit_or_fault" ["size", "end"] (sp_fit_or_fault K) := by
  refine R.dn fun f fd F => F.ok sc_fit_or_fault (fun vs H Q E h => ?_) (fun cdv A outer s H vs Q E hr h => ?_)
  ·
    obtain ⟨_, _, _, _, _, _, _, _, rfl, _⟩ := h
    rfl
  ·
    obtain ⟨q, n, lo, hi, f, l, g, e, rfl, hq, k⟩ := h
    refine ⟨_, (pss_cons (ps_if (pt_not (pt_valm (pe_callD D_are_fit (hr.mono (by decide)) rfl (pa_cons (pe_ix ix_listm (pvm 0) pe_int (fun _ _ => rfl)) (pa_cons (pe_ix ix_listm (pvm 0) pe_int (fun _ _ => rfl)) (pa_cons (pe_ix ix_listm (pvm 0) pe_int (fun _ _ => rfl)) pa_nil)))))) (pss_one (ps_ret (pe_callD D_fault (hr.mono (by decide)) rfl (pa_cons pe_int (pa_cons (pe_op op_addm (pvm 1) pe_int) pa_nil))))) pss_nil) (pss_one (ps_ret (pe_op op_cat (pe_lst (pa_cons pe_int pa_nil)) (pvm 0))))), ?_⟩
    (try dsimp only [tVarm, tC, tOp, tUn, rIm, rI0m, rUm, tTestm, tChainm, tAnd, tOr, tNot, tAndVm, tOrVm, tNotVm, tIf, tSeq, tNext, tAsg, gName, tIfS, tRet, tRetN, tDrop, tCall, tCB, tCons, tNil, tLst, tTup, tAugm, ipIm, tBM, rAppend, rIxLm, rCat, tIsN, tNotN, rIxTm, rExtend, gTup, gCons, gNil, tYes, rSum, rAll, asV_is, asI_is, asB_is, asR_is, rEqm_ii, rNem_ii, scal_ii, scal_bb, rLtL, rMaxD, rMinD, L2.start, wipe, sp_are_fit, sp_fault, List.map_cons, List.map_nil, List.length_cons, List.length_nil, List.append_nil, List.cons_append, List.nil_append, List.replicate_succ, List.replicate_zero, List.getElem?_cons_zero, List.getElem?_cons_succ, List.set_cons_zero, List.set_cons_succ]); (try simp only [tVarm, tC, tOp, tUn, rIm, rI0m, rUm, tTestm, tChainm, tAnd, tOr, tNot, tAndVm, tOrVm, tNotVm, tIf, tSeq, tNext, tAsg, gName, tIfS, tRet, tRetN, tDrop, tCall, tCB, tCons, tNil, tLst, tTup, tAugm, ipIm, tBM, rAppend, rIxLm, rCat, tIsN, tNotN, rIxTm, rExtend, gTup, gCons, gNil, tYes, rSum, rAll, rLtL, rMaxD, rMinD, V.int.injEq, V.bl.injEq, V.str.injEq, V.ref.injEq, and_true, true_and, and_assoc, Bool.false_eq_true, List.map_cons, List.map_nil, List.length_cons, List.length_nil, List.append_nil, List.cons_append, List.nil_append, List.replicate_succ, List.replicate_zero, List.getElem?_cons_zero, List.getElem?_cons_succ, List.set_cons_zero, List.set_cons_succ, Option.some.injEq, List.cons.injEq, exists_eq_left', exists_and_left, exists_eq_left, asV_ex, asI_ex, asB_ex, asR_ex, rEqm_ex, rNem_ex, scal_ii, scal_bb, L2.start, wipe, Nat.reduceAdd, Nat.reduceSub, reduceIte, sp_are_fit, sp_fault])
    refine ⟨_, SqL.of hq, _, rfl, _, SqL.of hq, _, rfl, _, SqL.of hq, _, rfl, _, rfl, _, rfl, _, rfl, ?_⟩
    unfold GA.fitF at k
    cases hf : Ft.fitsSize n lo hi with
    | false =>
      rw [if_pos hf] at k
      exact iteT (fun p H1 hp s1 hP => k p H1 hp s1 hP)
    | true =>
      rw [if_neg (by rw [hf]; exact Bool.noConfusion)] at k
      refine iteF ⟨by decide, fun p hp => ⟨_, upd_same, _, (upd_ne (ne_of_none hq hp)).trans hq, (show (7 : Nat) ≤ sizeLine by decide), fun p2 hp2 => ?_⟩⟩
      exact k p2 _ ((same_new hp).free hp2) ((same_new hp).trans (same_new hp2)) upd_same
def sp_size_both_ways (K : PySem.W.Frag) : Sp := fun vs H Q _ => ∃ (a : Addr) (t : List Int) (n : Int) (e : Nat) (w : Int), vs = [.ref a, .int n, .int e] ∧ SqL K H a (t.map V.int) ∧ (GA.numA t (e + 3)).2 = some w ∧ ∀ p H', H p = none → Same H H' → H' p = some (.lst ((GA.waysS t n e).map V.int)) → Q (.ref p) H'

theorem sc_size_both_ways : FnScope ["text", "n", "end", "ticks"] ["text", "n", "end"] (defScope st_size_both_ways) := ⟨rfl, rfl, rfl, by decide +kernel, rfl, by decide +kernel, by decide +kernel⟩
theorem ok_size_both_ways {P : Program} {w : World} {K : PySem.W.Frag} {mg : Str → Option Value} {base : Heap} (R : Raw K mg "size_both_ways" st_size_both_ways ["text", "n", "end"]) {t_GREATEST_DEVIATION : Tok} (g_GREATEST_DEVIATION : mg "GREATEST_DEVIATION" = some (.int (1073741824) t_GREATEST_DEVIATION)) {t_BOTH_WAYS : Tok} (g_BOTH_WAYS : mg "BOTH_WAYS" = some (.int (1) t_BOTH_WAYS)) (D_fit_or_fault : Dn P w K mg base 2 "fit_or_fault" ["size", "end"] (sp_fit_or_fault K)) (D_number_at : Dn P w K mg base 4 "number_at" ["text", "start"] (sp_number_at K)) (D_fault : Dn P w K mg base 1 "fault" ["kind", "place"] (sp_fault K)) : Dn P w K mg base 5 "size_both_ways" ["text", "n", "end"] (sp_size_both_ways K) := by
  refine R.dn fun f fd F => F.ok sc_size_both_ways (fun vs H Q E h => ?_) (fun cdv A outer s H vs Q E hr h => ?_)
  ·
    obtain ⟨_, _, _, _, _, rfl, _⟩ := h
    rfl
  ·
    obtain ⟨a, t, n, e, w, rfl, hS, hw, k⟩ := h
    refine ⟨_, (pss_cons (ps_set (i := 3) sc_size_both_ways.nd rfl (Or.inl rfl) (pe_ix ix_listm (pe_callD D_number_at (hr.mono (by decide)) rfl (pa_cons (pvm 0) (pa_cons (pe_op op_addm (pvm 2) pe_int) pa_nil))) pe_int (fun _ _ => rfl))) (pss_cons (ps_if (pt_cmpRm op_gtm (pvm 3) (pe_glob (v := .int (1073741824)) rfl g_GREATEST_DEVIATION ⟨_, rfl⟩) (nomark _)) (pss_one (ps_ret (pe_callD D_fault (hr.mono (by decide)) rfl (pa_cons pe_int (pa_cons (pe_op op_addm (pvm 2) pe_int) pa_nil))))) pss_nil) (pss_one (ps_ret (pe_callD D_fit_or_fault (hr.mono (by decide)) rfl (pa_cons (pe_lst (pa_cons (pvm 1) (pa_cons (pe_un un_negm (pvm 3)) (pa_cons (pvm 3) (pa_cons (pe_glob (v := .int (1)) rfl g_BOTH_WAYS ⟨_, rfl⟩) (pa_cons pe_int (pa_cons pe_int pa_nil))))))) (pa_cons (pvm 2) pa_nil))))))), ?_⟩
    (try dsimp only [tVarm, tC, tOp, tUn, rIm, rI0m, rUm, tTestm, tChainm, tAnd, tOr, tNot, tAndVm, tOrVm, tNotVm, tIf, tSeq, tNext, tAsg, gName, tIfS, tRet, tRetN, tDrop, tCall, tCB, tCons, tNil, tLst, tTup, tAugm, ipIm, tBM, rAppend, rIxLm, rCat, tIsN, tNotN, rIxTm, rExtend, gTup, gCons, gNil, tYes, rSum, rAll, asV_is, asI_is, asB_is, asR_is, rEqm_ii, rNem_ii, scal_ii, scal_bb, rLtL, rMaxD, rMinD, L2.start, wipe, sp_fit_or_fault, sp_number_at, sp_fault, List.map_cons, List.map_nil, List.length_cons, List.length_nil, List.append_nil, List.cons_append, List.nil_append, List.replicate_succ, List.replicate_zero, List.getElem?_cons_zero, List.getElem?_cons_succ, List.set_cons_zero, List.set_cons_succ]); (try simp only [tVarm, tC, tOp, tUn, rIm, rI0m, rUm, tTestm, tChainm, tAnd, tOr, tNot, tAndVm, tOrVm, tNotVm, tIf, tSeq, tNext, tAsg, gName, tIfS, tRet, tRetN, tDrop, tCall, tCB, tCons, tNil, tLst, tTup, tAugm, ipIm, tBM, rAppend, rIxLm, rCat, tIsN, tNotN, rIxTm, rExtend, gTup, gCons, gNil, tYes, rSum, rAll, rLtL, rMaxD, rMinD, V.int.injEq, V.bl.injEq, V.str.injEq, V.ref.injEq, and_true, true_and, and_assoc, Bool.false_eq_true, List.map_cons, List.map_nil, List.length_cons, List.length_nil, List.append_nil, List.cons_append, List.nil_append, List.replicate_succ, List.replicate_zero, List.getElem?_cons_zero, List.getElem?_cons_succ, List.set_cons_zero, List.set_cons_succ, Option.some.injEq, List.cons.injEq, exists_eq_left', exists_and_left, exists_eq_left, asV_ex, asI_ex, asB_ex, asR_ex, rEqm_ex, rNem_ex, scal_ii, scal_bb, L2.start, wipe, Nat.reduceAdd, Nat.reduceSub, reduceIte, sp_fit_or_fault, sp_number_at, sp_fault])
    refine ⟨t, e + 3, rfl, hS, fun p H1 hp s1 hP => ?_⟩
    rw [hw] at hP
    refine ⟨_, SqL.of hP, _, rfl, _, rfl, ?_⟩
    unfold GA.waysS at k
    rw [hw, Option.getD_some] at k
    by_cases h : 1073741824 < w
    · rw [if_pos h] at k
      exact iteT' (decide_eq_true h) (fun p2 H2 hp2 s2 hP2 => k p2 H2 (s1.free hp2) (s1.trans s2) hP2)
    · rw [if_neg h] at k
      refine iteF' (decide_eq_false h) ⟨_, rfl, by decide, fun p2 hp2 => ⟨_, _, _, _, _, _, e, rfl, upd_same, fun p3 H3 hp3 s3 hP3 => ?_⟩⟩
      exact k p3 H3 (s1.free ((same_new hp2).free hp3)) (s1.trans ((same_new hp2).trans s3)) hP3
def sp_size_of_deviations (K : PySem.W.Frag) : Sp := fun vs H Q _ => ∃ (a : Addr) (t : List Int) (n : Int) (e : Nat) (v w : Int), vs = [.ref a, .int n, .int e] ∧ SqL K H a (t.map V.int) ∧ e + 1 < t.length ∧ (GA.devA t (e + 1)).2 = some v ∧ (GA.devA t (e + 1)).1 + 1 < t.length ∧ (GA.devA t ((GA.devA t (e + 1)).1 + 1)).2 = some w ∧ ∀ p H', H p = none → Same H H' → H' p = some (.lst ((GA.devsS t n e).map V.int)) → Q (.ref p) H'

theorem sc_size_of_deviations : FnScope ["text", "n", "end", "upper", "second", "hi", "lo"] ["text", "n", "end"] (defScope st_size_of_deviations) := ⟨rfl, rfl, rfl, by decide +kernel, rfl, by decide +kernel, by decide +kernel⟩
theorem ok_size_of_deviations {P : Program} {w : World} {K : PySem.W.Frag} {mg : Str → Option Value} {base : Heap} (R : Raw K mg "size_of_deviations" st_size_of_deviations ["text", "n", "end"]) {t_GREATEST_DEVIATION : Tok} (g_GREATEST_DEVIATION : mg "GREATEST_DEVIATION" = some (.int (1073741824) t_GREATEST_DEVIATION)) {t_TWO_DEVIATIONS : Tok} (g_TWO_DEVIATIONS : mg "TWO_DEVIATIONS" = some (.int (2) t_TWO_DEVIATIONS)) (b_abs : mg "abs" = none) (D_deviation_at : Dn P w K mg base 5 "deviation_at" ["text", "start"] (sp_deviation_at K)) (D_fit_or_fault : Dn P w K mg base 2 "fit_or_fault" ["size", "end"] (sp_fit_or_fault K)) (D_fault : Dn P w K mg base 1 "fault" ["kind", "place"] (sp_fault K)) : Dn P w K mg base 6 "size_of_deviations" ["text", "n", "end"] (sp_size_of_deviations K) := by
  refine R.dn fun f fd F => F.ok sc_size_of_deviations (fun vs H Q E h => ?_) (fun cdv A outer s H vs Q E hr h => ?_)
  ·
    obtain ⟨_, _, _, _, _, _, rfl, _⟩ := h
    rfl
  ·
    obtain ⟨a, t, n, e, v, w, rfl, hS, h1, hv, h2, hw, k⟩ := h
    refine ⟨_, (pss_cons (ps_set (i := 3) sc_size_of_deviations.nd rfl (Or.inl rfl) (pe_callD D_deviation_at (hr.mono (by decide)) rfl (pa_cons (pvm 0) (pa_cons (pe_op op_addm (pvm 2) pe_int) pa_nil)))) (pss_cons (ps_set (i := 4) sc_size_of_deviations.nd rfl (Or.inl rfl) (pe_op op_addm (pe_ix ix_listm (pvm 3) pe_int (fun _ _ => rfl)) pe_int)) (pss_cons (ps_set (i := 5) sc_size_of_deviations.nd rfl (Or.inl rfl) (pe_ix ix_listm (pvm 3) pe_int (fun _ _ => rfl))) (pss_cons (ps_set (i := 6) sc_size_of_deviations.nd rfl (Or.inl rfl) (pe_ix ix_listm (pe_callD D_deviation_at (hr.mono (by decide)) rfl (pa_cons (pvm 0) (pa_cons (pvm 4) pa_nil))) pe_int (fun _ _ => rfl))) (pss_cons (ps_if (pt_cmpRm op_gtm (pe_callB (call_abs) rfl b_abs (by decide +kernel) (pa_cons (pvm 5) pa_nil)) (pe_glob (v := .int (1073741824)) rfl g_GREATEST_DEVIATION ⟨_, rfl⟩) (nomark _)) (pss_one (ps_ret (pe_callD D_fault (hr.mono (by decide)) rfl (pa_cons pe_int (pa_cons (pe_op op_addm (pvm 2) pe_int) pa_nil))))) pss_nil) (pss_cons (ps_if (pt_cmpRm op_gtm (pe_callB (call_abs) rfl b_abs (by decide +kernel) (pa_cons (pvm 6) pa_nil)) (pe_glob (v := .int (1073741824)) rfl g_GREATEST_DEVIATION ⟨_, rfl⟩) (nomark _)) (pss_one (ps_ret (pe_callD D_fault (hr.mono (by decide)) rfl (pa_cons pe_int (pa_cons (pe_op op_addm (pvm 4) pe_int) pa_nil))))) pss_nil) (pss_cons (ps_if (pt_cmpRm op_gtm (pvm 6) (pvm 5) (nomark _)) (pss_one (ps_ret (pe_callD D_fault (hr.mono (by decide)) rfl (pa_cons pe_int (pa_cons (pvm 4) pa_nil))))) pss_nil) (pss_one (ps_ret (pe_callD D_fit_or_fault (hr.mono (by decide)) rfl (pa_cons (pe_lst (pa_cons (pvm 1) (pa_cons (pvm 6) (pa_cons (pvm 5) (pa_cons (pe_glob (v := .int (2)) rfl g_TWO_DEVIATIONS ⟨_, rfl⟩) (pa_cons pe_int (pa_cons pe_int pa_nil))))))) (pa_cons (pvm 2) pa_nil)))))))))))), ?_⟩
    (try dsimp only [tVarm, tC, tOp, tUn, rIm, rI0m, rUm, tTestm, tChainm, tAnd, tOr, tNot, tAndVm, tOrVm, tNotVm, tIf, tSeq, tNext, tAsg, gName, tIfS, tRet, tRetN, tDrop, tCall, tCB, tCons, tNil, tLst, tTup, tAugm, ipIm, tBM, rAppend, rIxLm, rCat, tIsN, tNotN, rIxTm, rExtend, gTup, gCons, gNil, tYes, rSum, rAll, asV_is, asI_is, asB_is, asR_is, rEqm_ii, rNem_ii, scal_ii, scal_bb, rLtL, rMaxD, rMinD, L2.start, wipe, sp_deviation_at, sp_fit_or_fault, sp_fault, List.map_cons, List.map_nil, List.length_cons, List.length_nil, List.append_nil, List.cons_append, List.nil_append, List.replicate_succ, List.replicate_zero, List.getElem?_cons_zero, List.getElem?_cons_succ, List.set_cons_zero, List.set_cons_succ]); (try simp only [tVarm, tC, tOp, tUn, rIm, rI0m, rUm, tTestm, tChainm, tAnd, tOr, tNot, tAndVm, tOrVm, tNotVm, tIf, tSeq, tNext, tAsg, gName, tIfS, tRet, tRetN, tDrop, tCall, tCB, tCons, tNil, tLst, tTup, tAugm, ipIm, tBM, rAppend, rIxLm, rCat, tIsN, tNotN, rIxTm, rExtend, gTup, gCons, gNil, tYes, rSum, rAll, rLtL, rMaxD, rMinD, V.int.injEq, V.bl.injEq, V.str.injEq, V.ref.injEq, and_true, true_and, and_assoc, Bool.false_eq_true, List.map_cons, List.map_nil, List.length_cons, List.length_nil, List.append_nil, List.cons_append, List.nil_append, List.replicate_succ, List.replicate_zero, List.getElem?_cons_zero, List.getElem?_cons_succ, List.set_cons_zero, List.set_cons_succ, Option.some.injEq, List.cons.injEq, exists_eq_left', exists_and_left, exists_eq_left, asV_ex, asI_ex, asB_ex, asR_ex, rEqm_ex, rNem_ex, scal_ii, scal_bb, L2.start, wipe, Nat.reduceAdd, Nat.reduceSub, reduceIte, sp_deviation_at, sp_fit_or_fault, sp_fault])
    refine ⟨t, e + 1, rfl, h1, hS, fun p H1 hp s1 hP => ?_⟩
    rw [hv] at hP
    refine ⟨_, SqL.of hP, _, rfl, _, rfl, _, SqL.of hP, _, rfl, t, (GA.devA t (e + 1)).1 + 1, rfl, h2, s1.seq hS, fun p2 H2 hp2 s2 hP2 => ?_⟩
    rw [hw] at hP2
    refine ⟨_, SqL.of hP2, _, rfl, _, rfl, ?_⟩
    unfold GA.devsS at k
    rw [hw, hv, Option.getD_some, Option.getD_some] at k
    by_cases c1 : 1073741824 < GA.absZ v
    · rw [if_pos c1] at k
      exact iteT' (decide_eq_true c1) (fun p3 H3 hp3 s3 hP3 => k p3 H3 (s1.free (s2.free hp3)) (s1.trans (s2.trans s3)) hP3)
    · rw [if_neg c1] at k
      refine iteF' (decide_eq_false c1) ⟨_, rfl, ?_⟩
      by_cases c2 : 1073741824 < GA.absZ w
      · rw [if_pos c2] at k
        exact iteT' (decide_eq_true c2) (fun p3 H3 hp3 s3 hP3 => k p3 H3 (s1.free (s2.free hp3)) (s1.trans (s2.trans s3)) hP3)
      · rw [if_neg c2] at k
        refine iteF' (decide_eq_false c2) ⟨_, rfl, _, rfl, ?_⟩
        by_cases c3 : v < w
        · rw [if_pos c3] at k
          exact iteT' (decide_eq_true c3) (fun p3 H3 hp3 s3 hP3 => k p3 H3 (s1.free (s2.free hp3)) (s1.trans (s2.trans s3)) hP3)
        · rw [if_neg c3] at k
          refine iteF' (decide_eq_false c3) ⟨by decide, fun p3 hp3 => ⟨_, _, _, _, _, _, e, rfl, upd_same, fun p4 H4 hp4 s4 hP4 => ?_⟩⟩
          exact k p4 H4 (s1.free (s2.free ((same_new hp3).free hp4))) (s1.trans (s2.trans ((same_new hp3).trans s4))) hP4
def sp_size_of_code (K : PySem.W.Frag) : Sp := fun vs H Q _ => ∃ (a : Addr) (t : List Int) (n : Int) (e : Nat) (g : Int), vs = [.ref a, .int n, .int e] ∧ SqL K H a (t.map V.int) ∧ 1 ≤ n ∧ n ≤ 2147483647 ∧ e + 1 < t.length ∧ GA.isLetter (GA.at_ t (e + 1)) = true ∧ (GA.gradeA t (e + 2)).2 = some g ∧ 0 ≤ g ∧ g ≤ 16 ∧ ∀ p H', H p = none → Same H H' → H' p = some (.lst ((GA.codeS t n e).map V.int)) → Q (.ref p) H'

theorem sc_size_of_code : FnScope ["text", "n", "end", "letter", "grade", "limits"] ["text", "n", "end"] (defScope st_size_of_code) := ⟨rfl, rfl, rfl, by decide +kernel, rfl, by decide +kernel, by decide +kernel⟩
theorem ok_size_of_code {P : Program} {w : World} {K : PySem.W.Frag} {mg : Str → Option Value} {base : Heap} (R : Raw K mg "size_of_code" st_size_of_code ["text", "n", "end"]) {t_CODE : Tok} (g_CODE : mg "CODE" = some (.int (3) t_CODE)) (D_code_limits : Dn P w K mg base 4 "code_limits" ["n", "letter", "g"] (sp_code_limits K)) (D_fit_or_fault : Dn P w K mg base 2 "fit_or_fault" ["size", "end"] (sp_fit_or_fault K)) (D_grade_at : Dn P w K mg base 2 "grade_at" ["text", "start"] (sp_grade_at K)) : Dn P w K mg base 5 "size_of_code" ["text", "n", "end"] (sp_size_of_code K) := by
  refine R.dn fun f fd F => F.ok sc_size_of_code (fun vs H Q E h => ?_) (fun cdv A outer s H vs Q E hr h => ?_)
  ·
    obtain ⟨_, _, _, _, _, rfl, _⟩ := h
    rfl
  ·
    obtain ⟨a, t, n, e, g, rfl, hS, n1, n2, h1, hl, hg, g0, g1, k⟩ := h
    refine ⟨_, (pss_cons (ps_set (i := 3) sc_size_of_code.nd rfl (Or.inl rfl) (pe_ix ix_listm (pvm 0) (pe_op op_addm (pvm 2) pe_int) (fun _ _ => rfl))) (pss_cons (ps_set (i := 4) sc_size_of_code.nd rfl (Or.inl rfl) (pe_ix ix_listm (pe_callD D_grade_at (hr.mono (by decide)) rfl (pa_cons (pvm 0) (pa_cons (pe_op op_addm (pvm 2) pe_int) pa_nil))) pe_int (fun _ _ => rfl))) (pss_cons (ps_set (i := 5) sc_size_of_code.nd rfl (Or.inl rfl) (pe_callD D_code_limits (hr.mono (by decide)) rfl (pa_cons (pvm 1) (pa_cons (pvm 3) (pa_cons (pvm 4) pa_nil))))) (pss_one (ps_ret (pe_callD D_fit_or_fault (hr.mono (by decide)) rfl (pa_cons (pe_lst (pa_cons (pvm 1) (pa_cons (pe_ix ix_listm (pvm 5) pe_int (fun _ _ => rfl)) (pa_cons (pe_ix ix_listm (pvm 5) pe_int (fun _ _ => rfl)) (pa_cons (pe_glob (v := .int (3)) rfl g_CODE ⟨_, rfl⟩) (pa_cons (pvm 3) (pa_cons (pvm 4) pa_nil))))))) (pa_cons (pvm 2) pa_nil)))))))), ?_⟩
    (try dsimp only [tVarm, tC, tOp, tUn, rIm, rI0m, rUm, tTestm, tChainm, tAnd, tOr, tNot, tAndVm, tOrVm, tNotVm, tIf, tSeq, tNext, tAsg, gName, tIfS, tRet, tRetN, tDrop, tCall, tCB, tCons, tNil, tLst, tTup, tAugm, ipIm, tBM, rAppend, rIxLm, rCat, tIsN, tNotN, rIxTm, rExtend, gTup, gCons, gNil, tYes, rSum, rAll, asV_is, asI_is, asB_is, asR_is, rEqm_ii, rNem_ii, scal_ii, scal_bb, rLtL, rMaxD, rMinD, L2.start, wipe, sp_code_limits, sp_fit_or_fault, sp_grade_at, List.map_cons, List.map_nil, List.length_cons, List.length_nil, List.append_nil, List.cons_append, List.nil_append, List.replicate_succ, List.replicate_zero, List.getElem?_cons_zero, List.getElem?_cons_succ, List.set_cons_zero, List.set_cons_succ]); (try simp only [tVarm, tC, tOp, tUn, rIm, rI0m, rUm, tTestm, tChainm, tAnd, tOr, tNot, tAndVm, tOrVm, tNotVm, tIf, tSeq, tNext, tAsg, gName, tIfS, tRet, tRetN, tDrop, tCall, tCB, tCons, tNil, tLst, tTup, tAugm, ipIm, tBM, rAppend, rIxLm, rCat, tIsN, tNotN, rIxTm, rExtend, gTup, gCons, gNil, tYes, rSum, rAll, rLtL, rMaxD, rMinD, V.int.injEq, V.bl.injEq, V.str.injEq, V.ref.injEq, and_true, true_and, and_assoc, Bool.false_eq_true, List.map_cons, List.map_nil, List.length_cons, List.length_nil, List.append_nil, List.cons_append, List.nil_append, List.replicate_succ, List.replicate_zero, List.getElem?_cons_zero, List.getElem?_cons_succ, List.set_cons_zero, List.set_cons_succ, Option.some.injEq, List.cons.injEq, exists_eq_left', exists_and_left, exists_eq_left, asV_ex, asI_ex, asB_ex, asR_ex, rEqm_ex, rNem_ex, scal_ii, scal_bb, L2.start, wipe, Nat.reduceAdd, Nat.reduceSub, reduceIte, sp_code_limits, sp_fit_or_fault, sp_grade_at])
    refine ⟨_, hS, _, item_at h1, t, e + 2, rfl, hS, fun p H1 hp s1 hP => ?_⟩
    rw [hg] at hP
    refine ⟨_, SqL.of hP, _, rfl, _, rfl, _, rfl, n1, n2, hl, g0, g1, fun p2 H2 hp2 s2 hP2 => ?_⟩
    refine ⟨_, SqL.of hP2, _, rfl, _, SqL.of hP2, _, rfl, by decide, fun p3 hp3 => ⟨_, _, _, _, _, _, e, rfl, upd_same, fun p4 H4 hp4 s4 hP4 => ?_⟩⟩
    unfold GA.codeS at k
    rw [hg, Option.getD_some] at k
    exact k p4 H4 (s1.free (s2.free ((same_new hp3).free hp4))) (s1.trans (s2.trans ((same_new hp3).trans s4))) hP4
def sp_size_of (K : PySem.W.Frag) : Sp := fun vs H Q _ => ∃ (a : Addr) (t : List Int), vs = [.ref a] ∧ SqL K H a (t.map V.int) ∧ GA.Byts t ∧ ∀ p H', H p = none → Same H H' → H' p = some (.lst ((GA.sizeL t).map V.int)) → Q (.ref p) H'
inductive SzC (t : List Int) (e : Nat) : Prop
  | code (h1 : e + 1 < t.length) (l : GA.isLetter (GA.at_ t (e + 1)) = true) (g : Int) (hg : (GA.gradeA t (e + 2)).2 = some g) (g0 : 0 ≤ g) (g1 : g ≤ 16)
  | ways (h2 : e + 2 < t.length) (l : GA.isLetter (GA.at_ t (e + 1)) = false) (b : GA.at_ t (e + 2) = 45) (w : Int) (hw : (GA.numA t (e + 3)).2 = some w)
  | devs (h2 : e + 2 < t.length) (l : GA.isLetter (GA.at_ t (e + 1)) = false) (b : GA.at_ t (e + 2) ≠ 45) (v w : Int) (hv : (GA.devA t (e + 1)).2 = some v) (h3 : (GA.devA t (e + 1)).1 + 1 < t.length) (hw : (GA.devA t ((GA.devA t (e + 1)).1 + 1)).2 = some w)
theorem size_cases {t : List Int} (hb : GA.Byts t) (h : ¬ 0 ≤ GA.shapeF t) : ∃ w, (GA.numA t 0).2 = some w ∧ ((GA.numA t 0).1 = t.length ∨ ((GA.numA t 0).1 ≠ t.length ∧ SzC t (GA.numA t 0).1)) := by
  have S := GA.shape_is hb
  generalize Ft.shape (t.map GA.cz) = R at S
  cases S with
  | bad q hq => (first | lia | omega)
  | alone _ x hx w hw hl => exact ⟨w, hw, .inl hl⟩
  | tail _ x hx w hw hb32 _ O kk =>
    have hlt : (GA.numA t 0).1 < t.length := GA.at_lt (by (first | lia | omega))
    refine ⟨w, hw, .inr ⟨by (first | lia | omega), ?_⟩⟩
    generalize (GA.numA t 0).1 = e at *
    cases O with
    | bad q hq => (first | lia | omega)
    | ways _ a b y v hy hv hR =>
      exact .ways (GA.at_lt (show GA.at_ t (e + 2) ≠ -1 by have : GA.at_ t (e + 2) = 45 := b; (first | lia | omega))) (by rw [a]; decide) b v hv
    | devs _ a b y z v v2 hy hv a2 hz hv2 hR =>
      have hl : GA.isLetter (GA.at_ t (e + 1)) = false := by
        rcases (GA.sgn_iff _).mp a with q | q <;> rw [q] <;> decide
      have h2 : e + 2 < t.length := by
        refine GA.at_lt (fun z => ?_)
        have nd : GA.numL (t.drop (e + 1 + 1)) = (0, none) := GA.numL_none (by show GA.isDig (GA.at_ t (e + 2)) = false; rw [z]; decide)
        have : (GA.devA t (e + 1)).2 = none := by
          unfold GA.devA GA.numA
          rw [nd]
          dsimp only
          split <;> rfl
        rw [this] at hv
        cases hv
      refine .devs h2 hl b v v2 hv (GA.at_lt ?_) hv2
      rcases (GA.sgn_iff _).mp a2 with q | q <;> (first | lia | omega)
    | code _ a g hg hR =>
      have h1 : e + 1 < t.length := GA.at_lt (by intro z; rw [z] at a; exact absurd a (by decide))
      have g0 : 0 ≤ g ∧ g ≤ 16 := by
        have hg' : (GA.gradeL (t.drop (e + 1 + 1))).2 = some g := hg
        unfold GA.gradeL at hg'
        split at hg'
        · cases hg'
        · rename_i hdg
          split at hg'
          · cases hg'
            (first | lia | omega)
          · cases hg'
            have : GA.isDig (GA.hd (t.drop (e + 1 + 1))) = true := by simpa using hdg
            simp only [GA.isDig, Bool.and_eq_true, decide_eq_true_eq] at this
            (first | lia | omega)
      exact .code h1 a g hg g0.1 g0.2

theorem sc_size_of : FnScope ["text", "wrong", "number", "end", "n"] ["text"] (defScope st_size_of) := ⟨rfl, rfl, rfl, by decide +kernel, rfl, by decide +kernel, by decide +kernel⟩
theorem ok_size_of {P : Program} {w : World} {K : PySem.W.Frag} {mg : Str → Option Value} {base : Heap} (R : Raw K mg "size_of" st_size_of ["text"]) {t_MINUS : Tok} (g_MINUS : mg "MINUS" = some (.int (45) t_MINUS)) {t_ALONE : Tok} (g_ALONE : mg "ALONE" = some (.int (0) t_ALONE)) (b_len : mg "len" = none) (D_shape_fault : Dn P w K mg base 8 "shape_fault" ["text"] (sp_shape_fault K)) (D_number_at : Dn P w K mg base 4 "number_at" ["text", "start"] (sp_number_at K)) (D_is_letter : Dn P w K mg base 2 "is_letter" ["byte"] (sp_is_letter K)) (D_size_of_deviations : Dn P w K mg base 6 "size_of_deviations" ["text", "n", "end"] (sp_size_of_deviations K)) (D_fault : Dn P w K mg base 1 "fault" ["kind", "place"] (sp_fault K)) (D_is_nominal : Dn P w K mg base 1 "is_nominal" ["n"] (sp_is_nominal K)) (D_size_of_code : Dn P w K mg base 5 "size_of_code" ["text", "n", "end"] (sp_size_of_code K)) (D_size_both_ways : Dn P w K mg base 5 "size_both_ways" ["text", "n", "end"] (sp_size_both_ways K)) : Dn P w K mg base 9 "size_of" ["text"] (sp_size_of K) := by
  refine R.dn fun f fd F => F.ok sc_size_of (fun vs H Q E h => ?_) (fun cdv A outer s H vs Q E hr h => ?_)
  ·
    obtain ⟨_, _, rfl, _⟩ := h
    rfl
  ·
    obtain ⟨a, t, rfl, hS, hb, k⟩ := h
    refine ⟨_, (pss_cons (ps_set (i := 1) sc_size_of.nd rfl (Or.inl rfl) (pe_callD D_shape_fault (hr.mono (by decide)) rfl (pa_cons (pvm 0) pa_nil))) (pss_cons (ps_if (pt_cmpRm op_gem (pvm 1) pe_int (nomark _)) (pss_one (ps_ret (pe_callD D_fault (hr.mono (by decide)) rfl (pa_cons pe_int (pa_cons (pvm 1) pa_nil))))) pss_nil) (pss_cons (ps_set (i := 2) sc_size_of.nd rfl (Or.inl rfl) (pe_callD D_number_at (hr.mono (by decide)) rfl (pa_cons (pvm 0) (pa_cons pe_int pa_nil)))) (pss_cons (ps_set (i := 3) sc_size_of.nd rfl (Or.inl rfl) (pe_ix ix_listm (pvm 2) pe_int (fun _ _ => rfl))) (pss_cons (ps_set (i := 4) sc_size_of.nd rfl (Or.inl rfl) (pe_ix ix_listm (pvm 2) pe_int (fun _ _ => rfl))) (pss_cons (ps_if (pt_not (pt_valm (pe_callD D_is_nominal (hr.mono (by decide)) rfl (pa_cons (pvm 4) pa_nil)))) (pss_one (ps_ret (pe_callD D_fault (hr.mono (by decide)) rfl (pa_cons pe_int (pa_cons pe_int pa_nil))))) pss_nil) (pss_cons (ps_if (pt_cmpRm op_eqm (pvm 3) (pe_callB (call_len_seq) rfl b_len (by decide +kernel) (pa_cons (pvm 0) pa_nil)) (nomark _)) (pss_one (ps_ret (pe_lst (pa_cons pe_int (pa_cons (pvm 4) (pa_cons pe_int (pa_cons pe_int (pa_cons (pe_glob (v := .int (0)) rfl g_ALONE ⟨_, rfl⟩) (pa_cons pe_int (pa_cons pe_int pa_nil)))))))))) pss_nil) (pss_cons (ps_if (pt_valm (pe_callD D_is_letter (hr.mono (by decide)) rfl (pa_cons (pe_ix ix_listm (pvm 0) (pe_op op_addm (pvm 3) pe_int) (fun _ _ => rfl)) pa_nil))) (pss_one (ps_ret (pe_callD D_size_of_code (hr.mono (by decide)) rfl (pa_cons (pvm 0) (pa_cons (pvm 4) (pa_cons (pvm 3) pa_nil)))))) pss_nil) (pss_cons (ps_if (pt_cmpRm op_eqm (pe_ix ix_listm (pvm 0) (pe_op op_addm (pvm 3) pe_int) (fun _ _ => rfl)) (pe_glob (v := .int (45)) rfl g_MINUS ⟨_, rfl⟩) (nomark _)) (pss_one (ps_ret (pe_callD D_size_both_ways (hr.mono (by decide)) rfl (pa_cons (pvm 0) (pa_cons (pvm 4) (pa_cons (pvm 3) pa_nil)))))) pss_nil) (pss_one (ps_ret (pe_callD D_size_of_deviations (hr.mono (by decide)) rfl (pa_cons (pvm 0) (pa_cons (pvm 4) (pa_cons (pvm 3) pa_nil))))))))))))))), ?_⟩
    (try dsimp only [tVarm, tC, tOp, tUn, rIm, rI0m, rUm, tTestm, tChainm, tAnd, tOr, tNot, tAndVm, tOrVm, tNotVm, tIf, tSeq, tNext, tAsg, gName, tIfS, tRet, tRetN, tDrop, tCall, tCB, tCons, tNil, tLst, tTup, tAugm, ipIm, tBM, rAppend, rIxLm, rCat, tIsN, tNotN, rIxTm, rExtend, gTup, gCons, gNil, tYes, rSum, rAll, asV_is, asI_is, asB_is, asR_is, rEqm_ii, rNem_ii, scal_ii, scal_bb, rLtL, rMaxD, rMinD, L2.start, wipe, sp_shape_fault, sp_number_at, sp_is_letter, sp_size_of_deviations, sp_fault, sp_is_nominal, sp_size_of_code, sp_size_both_ways, List.map_cons, List.map_nil, List.length_cons, List.length_nil, List.append_nil, List.cons_append, List.nil_append, List.replicate_succ, List.replicate_zero, List.getElem?_cons_zero, List.getElem?_cons_succ, List.set_cons_zero, List.set_cons_succ]); (try simp only [tVarm, tC, tOp, tUn, rIm, rI0m, rUm, tTestm, tChainm, tAnd, tOr, tNot, tAndVm, tOrVm, tNotVm, tIf, tSeq, tNext, tAsg, gName, tIfS, tRet, tRetN, tDrop, tCall, tCB, tCons, tNil, tLst, tTup, tAugm, ipIm, tBM, rAppend, rIxLm, rCat, tIsN, tNotN, rIxTm, rExtend, gTup, gCons, gNil, tYes, rSum, rAll, rLtL, rMaxD, rMinD, V.int.injEq, V.bl.injEq, V.str.injEq, V.ref.injEq, and_true, true_and, and_assoc, Bool.false_eq_true, List.map_cons, List.map_nil, List.length_cons, List.length_nil, List.append_nil, List.cons_append, List.nil_append, List.replicate_succ, List.replicate_zero, List.getElem?_cons_zero, List.getElem?_cons_succ, List.set_cons_zero, List.set_cons_succ, Option.some.injEq, List.cons.injEq, exists_eq_left', exists_and_left, exists_eq_left, asV_ex, asI_ex, asB_ex, asR_ex, rEqm_ex, rNem_ex, scal_ii, scal_bb, L2.start, wipe, Nat.reduceAdd, Nat.reduceSub, reduceIte, sp_shape_fault, sp_number_at, sp_is_letter, sp_size_of_deviations, sp_fault, sp_is_nominal, sp_size_of_code, sp_size_both_ways])
    refine ⟨t, hS, fun H1 s1 => ?_⟩
    unfold GA.sizeL at k
    by_cases hsh : 0 ≤ GA.shapeF t
    · rw [if_pos hsh] at k
      exact iteT' (decide_eq_true hsh) (fun p H2 hp s2 hP => k p H2 (s1.free hp) (s1.trans s2) hP)
    · rw [if_neg hsh] at k
      refine iteF' (decide_eq_false hsh) ⟨t, 0, rfl, s1.seq hS, fun p H2 hp s2 hP => ?_⟩
      obtain ⟨w, hw, C⟩ := size_cases hb hsh
      rw [hw] at hP
      rw [hw, Option.getD_some] at k
      have s12 := s1.trans s2
      refine ⟨_, SqL.of hP, _, rfl, _, SqL.of hP, _, rfl, _, rfl, ?_⟩
      cases hn : Ft.isNominal w with
      | false =>
        rw [if_pos hn] at k
        exact iteT (fun p3 H3 hp3 s3 hP3 => k p3 H3 (s12.free hp3) (s12.trans s3) hP3)
      | true =>
        rw [if_neg (by rw [hn]; exact Bool.noConfusion)] at k
        obtain ⟨n1, n2⟩ := nominal_in hn
        refine iteF ⟨_, .inl (s12.seq hS), rfl, ?_⟩
        rw [List.length_map]
        rcases C with C | ⟨ne, C⟩
        · rw [if_pos C] at k
          exact iteT' (decide_eq_true (by rw [C])) ⟨by decide, fun p3 hp3 => k p3 _ (s12.free hp3) (s12.trans (same_new hp3)) upd_same⟩
        · rw [if_neg ne] at k
          refine iteF' (decide_eq_false (fun z => ne (by have := V.int.inj z; (first | lia | omega)))) ⟨_, rfl, ?_⟩
          cases C with
          | code h1 l g hg g0 g1 =>
            rw [if_pos l] at k
            refine ⟨_, s12.seq hS, _, item_at h1, _, rfl, iteT' l ?_⟩
            exact ⟨t, _, rfl, _, rfl, s12.seq hS, n1, n2, h1, l, g, hg, g0, g1, fun p3 H3 hp3 s3 hP3 => k p3 H3 (s12.free hp3) (s12.trans s3) hP3⟩
          | ways h2 l b v hv =>
            rw [if_neg (by rw [l]; exact Bool.noConfusion), if_pos b] at k
            refine ⟨_, s12.seq hS, _, item_at (show (GA.numA t 0).1 + 1 < t.length by (first | lia | omega)), _, rfl, iteF' l ?_⟩
            refine ⟨_, rfl, _, s12.seq hS, _, item_at h2, rfl, iteT' (decide_eq_true (congrArg V.int b)) ?_⟩
            exact ⟨t, _, rfl, _, rfl, s12.seq hS, v, hv, fun p3 H3 hp3 s3 hP3 => k p3 H3 (s12.free hp3) (s12.trans s3) hP3⟩
          | devs h2 l b v v2 hv h3 hv2 =>
            rw [if_neg (by rw [l]; exact Bool.noConfusion), if_neg b] at k
            refine ⟨_, s12.seq hS, _, item_at (show (GA.numA t 0).1 + 1 < t.length by (first | lia | omega)), _, rfl, iteF' l ?_⟩
            refine ⟨_, rfl, _, s12.seq hS, _, item_at h2, rfl, iteF' (decide_eq_false (fun z => b (V.int.inj z))) ?_⟩
            exact ⟨t, _, rfl, _, rfl, s12.seq hS, by (first | lia | omega), v, hv, h3, v2, hv2, fun p3 H3 hp3 s3 hP3 => k p3 H3 (s12.free hp3) (s12.trans s3) hP3⟩
def sp_line_begins (K : PySem.W.Frag) : Sp := fun vs H Q _ => ∃ (a : Addr) (t : List Int), vs = [.ref a] ∧ SqL K H a (t.map V.int) ∧ t.length ≤ 4300 ∧ ∀ p H', H p = none → Same H H' → H' p = some (.lst ((GA.begs t).map fun (i : Nat) => V.int i)) → Q (.ref p) H'

theorem sc_line_begins : FnScope ["text", "place"] ["text"] (defScope st_line_begins) := ⟨rfl, rfl, rfl, by decide +kernel, rfl, by decide +kernel, by decide +kernel⟩
theorem ok_line_begins {P : Program} {w : World} {K : PySem.W.Frag} {mg : Str → Option Value} {base : Heap} (R : Raw K mg "line_begins" st_line_begins ["text"]) {t_LINE_FEED : Tok} (g_LINE_FEED : mg "LINE_FEED" = some (.int (10) t_LINE_FEED)) (b_range : mg "range" = none) (b_len : mg "len" = none) : Dn P w K mg base 1 "line_begins" ["text"] (sp_line_begins K) := by
  refine R.dn fun f fd F => F.ok sc_line_begins (fun vs H Q E h => ?_) (fun cdv A outer s H vs Q E hr h => ?_)
  ·
    obtain ⟨_, _, rfl, _⟩ := h
    rfl
  ·
    obtain ⟨a, t, rfl, hS, hl, k⟩ := h
    refine ⟨_, (pss_one (ps_ret (pe_lc rfl sc_line_begins.nd (pi_range1 rfl b_range (pa_cons (pe_callB (call_len_seq) rfl b_len (by decide +kernel) (pa_cons (pvm 0) pa_nil)) pa_nil)) (own := [("place", 1)]) (blkOk_by (N := ["text", "place"]) (sc := defScope st_line_begins) (by decide +kernel)) (fun _ _ _ _ _ => (pg_name (i := 1) sc_line_begins.nd rfl (by first | exact Or.inl rfl | exact Or.inr rfl))) (fun _ _ _ _ _ => (pts_one (PW.pt (pw_or (pt_cmpRm op_eqm (pvm 1) pe_int (nomark _)) (pw_or1 (pt_cmpRm op_eqm (pe_ix (ix_listKm K) (pvm 0) (pe_op op_subm (pvm 1) pe_int) (fun _ _ => rfl)) (pe_glob (v := .int (10)) rfl g_LINE_FEED ⟨_, rfl⟩) (nomark _))))))) (fun _ _ _ _ _ => (pvm 1))))), ?_⟩
    (try dsimp only [tVarm, tC, tOp, tUn, rIm, rI0m, rUm, tTestm, tChainm, tAnd, tOr, tNot, tAndVm, tOrVm, tNotVm, tIf, tSeq, tNext, tAsg, gName, tIfS, tRet, tRetN, tDrop, tCall, tCB, tCons, tNil, tLst, tTup, tAugm, ipIm, tBM, rAppend, rIxLm, rCat, tIsN, tNotN, rIxTm, rExtend, gTup, gCons, gNil, tYes, rSum, rAll, asV_is, asI_is, asB_is, asR_is, rEqm_ii, rNem_ii, scal_ii, scal_bb, rLtL, rMaxD, rMinD, L2.start, wipe, List.map_cons, List.map_nil, List.length_cons, List.length_nil, List.append_nil, List.cons_append, List.nil_append, List.replicate_succ, List.replicate_zero, List.getElem?_cons_zero, List.getElem?_cons_succ, List.set_cons_zero, List.set_cons_succ]); (try simp only [tVarm, tC, tOp, tUn, rIm, rI0m, rUm, tTestm, tChainm, tAnd, tOr, tNot, tAndVm, tOrVm, tNotVm, tIf, tSeq, tNext, tAsg, gName, tIfS, tRet, tRetN, tDrop, tCall, tCB, tCons, tNil, tLst, tTup, tAugm, ipIm, tBM, rAppend, rIxLm, rCat, tIsN, tNotN, rIxTm, rExtend, gTup, gCons, gNil, tYes, rSum, rAll, rLtL, rMaxD, rMinD, V.int.injEq, V.bl.injEq, V.str.injEq, V.ref.injEq, and_true, true_and, and_assoc, Bool.false_eq_true, List.map_cons, List.map_nil, List.length_cons, List.length_nil, List.append_nil, List.cons_append, List.nil_append, List.replicate_succ, List.replicate_zero, List.getElem?_cons_zero, List.getElem?_cons_succ, List.set_cons_zero, List.set_cons_succ, Option.some.injEq, List.cons.injEq, exists_eq_left', exists_and_left, exists_eq_left, asV_ex, asI_ex, asB_ex, asR_ex, rEqm_ex, rNem_ex, scal_ii, scal_bb, L2.start, wipe, Nat.reduceAdd, Nat.reduceSub, reduceIte])
    refine ⟨a, rfl, _, .inl hS, _, rfl, by rw [List.length_map]; (first | lia | omega), by rw [List.length_map]; (first | lia | omega), fun D hD => ?_⟩
    rw [List.length_map, Int.toNat_natCast]
    refine lc_range (lo := 0) (n := t.length) (Qd := fun H' => Q (.ref D) H') (fun i H' => Same H H' ∧ H' D = some (.lst (((List.range i).filter (GA.begP t)).map fun (p : Nat) => V.int p))) ⟨same_new hD, upd_same⟩ (fun i H' hlt q => ?_) (fun H' q => ?_)
    · obtain ⟨s1, hP⟩ := q
      (try dsimp only [tVarm, tC, tOp, tUn, rIm, rI0m, rUm, tTestm, tChainm, tAnd, tOr, tNot, tAndVm, tOrVm, tNotVm, tIf, tSeq, tNext, tAsg, gName, tIfS, tRet, tRetN, tDrop, tCall, tCB, tCons, tNil, tLst, tTup, tAugm, ipIm, tBM, rAppend, rIxLm, rCat, tIsN, tNotN, rIxTm, rExtend, gTup, gCons, gNil, tYes, rSum, rAll, asV_is, asI_is, asB_is, asR_is, rEqm_ii, rNem_ii, scal_ii, scal_bb, rLtL, rMaxD, rMinD, L2.start, wipe, List.map_cons, List.map_nil, List.length_cons, List.length_nil, List.append_nil, List.cons_append, List.nil_append, List.replicate_succ, List.replicate_zero, List.getElem?_cons_zero, List.getElem?_cons_succ, List.set_cons_zero, List.set_cons_succ]); (try simp only [tVarm, tC, tOp, tUn, rIm, rI0m, rUm, tTestm, tChainm, tAnd, tOr, tNot, tAndVm, tOrVm, tNotVm, tIf, tSeq, tNext, tAsg, gName, tIfS, tRet, tRetN, tDrop, tCall, tCB, tCons, tNil, tLst, tTup, tAugm, ipIm, tBM, rAppend, rIxLm, rCat, tIsN, tNotN, rIxTm, rExtend, gTup, gCons, gNil, tYes, rSum, rAll, rLtL, rMaxD, rMinD, V.int.injEq, V.bl.injEq, V.str.injEq, V.ref.injEq, and_true, true_and, and_assoc, Bool.false_eq_true, List.map_cons, List.map_nil, List.length_cons, List.length_nil, List.append_nil, List.cons_append, List.nil_append, List.replicate_succ, List.replicate_zero, List.getElem?_cons_zero, List.getElem?_cons_succ, List.set_cons_zero, List.set_cons_succ, Option.some.injEq, List.cons.injEq, exists_eq_left', exists_and_left, exists_eq_left, asV_ex, asI_ex, asB_ex, asR_ex, rEqm_ex, rNem_ex, scal_ii, scal_bb, L2.start, wipe, Nat.reduceAdd, Nat.reduceSub, reduceIte])
      have hacc : (((List.range i).filter (GA.begP t)).map fun (p : Nat) => V.int p).length < sizeLine := by
        rw [List.length_map]
        refine Nat.lt_of_le_of_lt (List.length_filter_le _ _) ?_
        rw [List.length_range]
        exact Nat.lt_of_lt_of_le (show i < 4300 by (first | lia | omega)) (by decide)
      have yes : GA.begP t i = true → (Same H (upd H' D (.lst ((((List.range i).filter (GA.begP t)).map fun (p : Nat) => V.int p) ++ [V.int (0 + i)]))) ∧ (upd H' D (.lst ((((List.range i).filter (GA.begP t)).map fun (p : Nat) => V.int p) ++ [V.int (0 + i)]))) D = some (.lst (((List.range (i + 1)).filter (GA.begP t)).map fun (p : Nat) => V.int p))) := fun hb => by
        refine ⟨fun b o e => ?_, ?_⟩
        · rw [upd_ne (ne_of_none e hD)]
          exact s1 b o e
        · rw [upd_same, List.range_succ, List.filter_append, List.map_append]
          have e1 : [i].filter (GA.begP t) = [i] := by
            rw [List.filter_cons, if_pos hb]
            rfl
          rw [e1, Int.zero_add]
          rfl
      have no : GA.begP t i = false → H' D = some (.lst (((List.range (i + 1)).filter (GA.begP t)).map fun (p : Nat) => V.int p)) := fun hb => by
        rw [hP, List.range_succ, List.filter_append]
        have e1 : [i].filter (GA.begP t) = [] := by
          rw [List.filter_cons, if_neg (by rw [hb]; exact Bool.noConfusion)]
          rfl
        rw [e1, List.append_nil]
      by_cases hi0 : i = 0
      · have hb : GA.begP t i = true := by
          unfold GA.begP
          rw [decide_eq_true hi0]
          rfl
        exact iteT' (decide_eq_true (by (first | lia | omega))) ⟨_, hP, hacc, yes hb⟩
      · refine iteF' (decide_eq_false (by (first | lia | omega))) ⟨_, s1.seq hS, .int (GA.at_ t (i - 1)), ?_, rfl, ?_⟩
        · have e : (0 : Int) + (i : Int) - 1 = ((i - 1 : Nat) : Int) := by (first | lia | omega)
          rw [e]
          exact item_at (by (first | lia | omega))
        · have eat : t.getD (i - 1) 0 = GA.at_ t (i - 1) := by
            have hl1 : i - 1 < t.length := by (first | lia | omega)
            unfold GA.at_
            rw [List.getD_eq_getElem?_getD, List.drop_eq_getElem_cons hl1, List.getElem?_eq_getElem hl1]
            rfl
          by_cases h10 : GA.at_ t (i - 1) = 10
          · have hb : GA.begP t i = true := by
              unfold GA.begP
              rw [eat, decide_eq_true h10, Bool.or_true]
            exact iteT' (decide_eq_true (congrArg V.int h10)) ⟨_, hP, hacc, yes hb⟩
          · have hb : GA.begP t i = false := by
              unfold GA.begP
              rw [eat, decide_eq_false h10, decide_eq_false hi0]
              rfl
            exact iteF' (decide_eq_false (fun z => h10 (V.int.inj z))) ⟨s1, no hb⟩
    · obtain ⟨s1, hP⟩ := q
      exact k D H' hD s1 hP
def sp_line_at (K : PySem.W.Frag) : Sp := fun vs H Q _ => ∃ (a : Addr) (t : List Int) (b : Nat), vs = [.ref a, .int b] ∧ SqL K H a (t.map V.int) ∧ b ≤ t.length ∧ ∀ p H', H p = none → Same H H' → H' p = some (.lst ((GA.lineAt t b).map V.int)) → Q (.ref p) H'
theorem line_go {t : List Int} {p : Nat} (h : p < t.length) (hn : GA.at_ t p ≠ 10) : GA.lineAt t p = GA.at_ t p :: GA.lineAt t (p + 1) := by
  unfold GA.lineAt
  rw [GA.at_in h, List.takeWhile_cons, if_pos (by simp [GA.nlf, hn])]
theorem line_stop {t : List Int} {p : Nat} (h : GA.at_ t p = 10 ∨ t.length ≤ p) : GA.lineAt t p = [] := by
  unfold GA.lineAt
  rcases Nat.lt_or_ge p t.length with q | q
  · rw [GA.at_in q, List.takeWhile_cons, if_neg (by simp [GA.nlf, h.resolve_right (by (first | lia | omega))])]
  · rw [(GA.at_out q).1]
    rfl
theorem line_cut {t : List Int} {b j : Nat} (hb : b + j ≤ t.length) (h : (GA.lineAt t b).length = j) : cutV (t.map V.int) (some ((b : Nat) : Int)) (some ((b + j : Nat) : Int)) = (GA.lineAt t b).map V.int := by
  unfold cutV
  rw [HT.sIx_nat, HT.sIx_nat, List.length_map, Nat.min_eq_left (by (first | lia | omega)), Nat.min_eq_left (by (first | lia | omega)), Nat.add_sub_cancel_left, ← List.map_drop, ← List.map_take]
  congr 1
  rw [← h]
  exact (List.prefix_iff_eq_take.mp (List.takeWhile_prefix GA.nlf)).symm

theorem sc_line_at : FnScope ["text", "begin", "end"] ["text", "begin"] (defScope st_line_at) := ⟨rfl, rfl, rfl, by decide +kernel, rfl, by decide +kernel, by decide +kernel⟩
theorem ok_line_at {P : Program} {w : World} {K : PySem.W.Frag} {mg : Str → Option Value} {base : Heap} (R : Raw K mg "line_at" st_line_at ["text", "begin"]) {t_LINE_FEED : Tok} (g_LINE_FEED : mg "LINE_FEED" = some (.int (10) t_LINE_FEED)) (b_len : mg "len" = none) : Dn P w K mg base 1 "line_at" ["text", "begin"] (sp_line_at K) := by
  refine R.dn fun f fd F => F.ok sc_line_at (fun vs H Q E h => ?_) (fun cdv A outer s H vs Q E hr h => ?_)
  ·
    obtain ⟨_, _, _, rfl, _⟩ := h
    rfl
  ·
    obtain ⟨a, t, b, rfl, hS, hl, k⟩ := h
    refine ⟨_, (pss_cons (ps_set (i := 2) sc_line_at.nd rfl (Or.inl rfl) (pvm 1)) (pss_cons (ps_while PassesOwn.never (PW.pt (pw_and (pt_cmpRm op_ltm (pvm 2) (pe_callB (call_len_seq) rfl b_len (by decide +kernel) (pa_cons (pvm 0) pa_nil)) (nomark _)) (pw_and1 (pt_cmpRm op_nem (pe_ix ix_listm (pvm 0) (pvm 2) (fun _ _ => rfl)) (pe_glob (v := .int (10)) rfl g_LINE_FEED ⟨_, rfl⟩) (nomark _))))) (pss_one (ps_augm (i := 2) sc_line_at.nd rfl (Or.inl rfl) pe_int ip_addm))) (pss_one (ps_ret (pe_slice sl_list (pvm 0) (po_some (pvm 1)) (po_some (pvm 2))))))), ?_⟩
    (try dsimp only [tVarm, tC, tOp, tUn, rIm, rI0m, rUm, tTestm, tChainm, tAnd, tOr, tNot, tAndVm, tOrVm, tNotVm, tIf, tSeq, tNext, tAsg, gName, tIfS, tRet, tRetN, tDrop, tCall, tCB, tCons, tNil, tLst, tTup, tAugm, ipIm, tBM, rAppend, rIxLm, rCat, tIsN, tNotN, rIxTm, rExtend, gTup, gCons, gNil, tYes, rSum, rAll, asV_is, asI_is, asB_is, asR_is, rEqm_ii, rNem_ii, scal_ii, scal_bb, rLtL, rMaxD, rMinD, L2.start, wipe, List.map_cons, List.map_nil, List.length_cons, List.length_nil, List.append_nil, List.cons_append, List.nil_append, List.replicate_succ, List.replicate_zero, List.getElem?_cons_zero, List.getElem?_cons_succ, List.set_cons_zero, List.set_cons_succ]); (try simp only [tVarm, tC, tOp, tUn, rIm, rI0m, rUm, tTestm, tChainm, tAnd, tOr, tNot, tAndVm, tOrVm, tNotVm, tIf, tSeq, tNext, tAsg, gName, tIfS, tRet, tRetN, tDrop, tCall, tCB, tCons, tNil, tLst, tTup, tAugm, ipIm, tBM, rAppend, rIxLm, rCat, tIsN, tNotN, rIxTm, rExtend, gTup, gCons, gNil, tYes, rSum, rAll, rLtL, rMaxD, rMinD, V.int.injEq, V.bl.injEq, V.str.injEq, V.ref.injEq, and_true, true_and, and_assoc, Bool.false_eq_true, List.map_cons, List.map_nil, List.length_cons, List.length_nil, List.append_nil, List.cons_append, List.nil_append, List.replicate_succ, List.replicate_zero, List.getElem?_cons_zero, List.getElem?_cons_succ, List.set_cons_zero, List.set_cons_succ, Option.some.injEq, List.cons.injEq, exists_eq_left', exists_and_left, exists_eq_left, asV_ex, asI_ex, asB_ex, asR_ex, rEqm_ex, rNem_ex, scal_ii, scal_bb, L2.start, wipe, Nat.reduceAdd, Nat.reduceSub, reduceIte])
    refine ⟨fun z σ' H' => H' = H ∧ ∃ j : Nat, σ' = [some (.ref a), some (.int b), some (.int ((b + j : Nat) : Int))] ∧ z = t.length - (b + j) ∧ b + j ≤ t.length ∧ (GA.lineAt t b).length = j + (GA.lineAt t (b + j)).length, ⟨_, rfl, 0, rfl, rfl, hl, (Nat.zero_add _).symm⟩, ?_⟩
    rintro z σ' H' ⟨rfl, j, rfl, rfl, hj, hd⟩
    (try dsimp only [tVarm, tC, tOp, tUn, rIm, rI0m, rUm, tTestm, tChainm, tAnd, tOr, tNot, tAndVm, tOrVm, tNotVm, tIf, tSeq, tNext, tAsg, gName, tIfS, tRet, tRetN, tDrop, tCall, tCB, tCons, tNil, tLst, tTup, tAugm, ipIm, tBM, rAppend, rIxLm, rCat, tIsN, tNotN, rIxTm, rExtend, gTup, gCons, gNil, tYes, rSum, rAll, asV_is, asI_is, asB_is, asR_is, rEqm_ii, rNem_ii, scal_ii, scal_bb, rLtL, rMaxD, rMinD, L2.start, wipe, List.map_cons, List.map_nil, List.length_cons, List.length_nil, List.append_nil, List.cons_append, List.nil_append, List.replicate_succ, List.replicate_zero, List.getElem?_cons_zero, List.getElem?_cons_succ, List.set_cons_zero, List.set_cons_succ]); (try simp only [tVarm, tC, tOp, tUn, rIm, rI0m, rUm, tTestm, tChainm, tAnd, tOr, tNot, tAndVm, tOrVm, tNotVm, tIf, tSeq, tNext, tAsg, gName, tIfS, tRet, tRetN, tDrop, tCall, tCB, tCons, tNil, tLst, tTup, tAugm, ipIm, tBM, rAppend, rIxLm, rCat, tIsN, tNotN, rIxTm, rExtend, gTup, gCons, gNil, tYes, rSum, rAll, rLtL, rMaxD, rMinD, V.int.injEq, V.bl.injEq, V.str.injEq, V.ref.injEq, and_true, true_and, and_assoc, Bool.false_eq_true, List.map_cons, List.map_nil, List.length_cons, List.length_nil, List.append_nil, List.cons_append, List.nil_append, List.replicate_succ, List.replicate_zero, List.getElem?_cons_zero, List.getElem?_cons_succ, List.set_cons_zero, List.set_cons_succ, Option.some.injEq, List.cons.injEq, exists_eq_left', exists_and_left, exists_eq_left, asV_ex, asI_ex, asB_ex, asR_ex, rEqm_ex, rNem_ex, scal_ii, scal_bb, L2.start, wipe, Nat.reduceAdd, Nat.reduceSub, reduceIte])
    refine ⟨_, .inl hS, ?_⟩
    rw [List.length_map]
    by_cases c1 : b + j < t.length
    · refine iteT' (decide_eq_true (by (first | lia | omega))) ⟨_, hS, _, item_at c1, rfl, ?_⟩
      by_cases c2 : GA.at_ t (b + j) = 10
      · rw [line_stop (.inl c2), List.length_nil, Nat.add_zero] at hd
        refine iteF' (by rw [decide_eq_true (congrArg V.int c2)]; rfl) ⟨_, rfl, _, rfl, a, _, rfl, hS, fun p hp => k p _ hp (same_new hp) ?_⟩
        rw [upd_same, line_cut hj hd]
      · refine iteT' (by rw [decide_eq_false (fun z => c2 (V.int.inj z))]; rfl) ⟨_, fun σ' H' q => q, _, ?_, rfl, j + 1, rfl, rfl, c1, ?_⟩
        · (first | lia | omega)
        · rw [line_go c1 c2, List.length_cons] at hd
          rw [← Nat.add_assoc]
          (first | lia | omega)
    · refine iteF' (decide_eq_false (by (first | lia | omega))) ⟨_, rfl, _, rfl, a, _, rfl, hS, fun p hp => k p _ hp (same_new hp) ?_⟩
      rw [line_stop (t := t) (p := b + j) (.inr (by (first | lia | omega))), List.length_nil, Nat.add_zero] at hd
      rw [upd_same, line_cut hj hd]
def sp_is_block (_ : PySem.W.Frag) : Sp := fun vs H Q _ => ∃ l lo hi : Int, vs = [.int l, .int lo, .int hi] ∧ Q (.bl (GA.isBlk l lo hi)) H

theorem sc_is_block : FnScope ["length", "lo", "hi", "in_steps"] ["length", "lo", "hi"] (defScope st_is_block) := ⟨rfl, rfl, rfl, by decide +kernel, rfl, by decide +kernel, by decide +kernel⟩
theorem ok_is_block {P : Program} {w : World} {K : PySem.W.Frag} {mg : Str → Option Value} {base : Heap} (R : Raw K mg "is_block" st_is_block ["length", "lo", "hi"]) {t_LEAST_LENGTH : Tok} (g_LEAST_LENGTH : mg "LEAST_LENGTH" = some (.int (10) t_LEAST_LENGTH)) {t_GREATEST_LENGTH : Tok} (g_GREATEST_LENGTH : mg "GREATEST_LENGTH" = some (.int (1000000) t_GREATEST_LENGTH)) {t_GREATEST_LIMIT : Tok} (g_GREATEST_LIMIT : mg "GREATEST_LIMIT" = some (.int (4096) t_GREATEST_LIMIT)) {t_LENGTH_STEP : Tok} (g_LENGTH_STEP : mg "LENGTH_STEP" = some (.int (10) t_LENGTH_STEP)) : Dn P w K mg base 1 "is_block" ["length", "lo", "hi"] (sp_is_block K) := by
  refine R.dn fun f fd F => F.ok sc_is_block (fun vs H Q E h => ?_) (fun cdv A outer s H vs Q E hr h => ?_)
  ·
    obtain ⟨_, _, _, rfl, _⟩ := h
    rfl
  ·
    obtain ⟨l, lo, hi, rfl, k⟩ := h
    refine ⟨_, (pss_cons (ps_set (i := 3) sc_is_block.nd rfl (Or.inl rfl) (pe_andm (pe_chainm op_lem op_lem (pe_glob (v := .int (10)) rfl g_LEAST_LENGTH ⟨_, rfl⟩) (pvm 0) (pe_glob (v := .int (1000000)) rfl g_GREATEST_LENGTH ⟨_, rfl⟩)) (pe_one (pe_cmpR op_eqm (pe_op op_modm (pvm 0) (pe_glob (v := .int (10)) rfl g_LENGTH_STEP ⟨_, rfl⟩)) pe_int (nomark _))))) (pss_one (ps_ret (pe_andm (pvm 3) (pe_andm (pe_cmpR op_gem (pvm 1) (pe_un un_negm (pe_glob (v := .int (4096)) rfl g_GREATEST_LIMIT ⟨_, rfl⟩)) (nomark _)) (pe_one (pe_cmpR op_lem (pvm 2) (pe_glob (v := .int (4096)) rfl g_GREATEST_LIMIT ⟨_, rfl⟩) (nomark _)))))))), ?_⟩
    (try dsimp only [tVarm, tC, tOp, tUn, rIm, rI0m, rUm, tTestm, tChainm, tAnd, tOr, tNot, tAndVm, tOrVm, tNotVm, tIf, tSeq, tNext, tAsg, gName, tIfS, tRet, tRetN, tDrop, tCall, tCB, tCons, tNil, tLst, tTup, tAugm, ipIm, tBM, rAppend, rIxLm, rCat, tIsN, tNotN, rIxTm, rExtend, gTup, gCons, gNil, tYes, rSum, rAll, asV_is, asI_is, asB_is, asR_is, rEqm_ii, rNem_ii, scal_ii, scal_bb, rLtL, rMaxD, rMinD, L2.start, wipe, List.map_cons, List.map_nil, List.length_cons, List.length_nil, List.append_nil, List.cons_append, List.nil_append, List.replicate_succ, List.replicate_zero, List.getElem?_cons_zero, List.getElem?_cons_succ, List.set_cons_zero, List.set_cons_succ]); (try simp only [tVarm, tC, tOp, tUn, rIm, rI0m, rUm, tTestm, tChainm, tAnd, tOr, tNot, tAndVm, tOrVm, tNotVm, tIf, tSeq, tNext, tAsg, gName, tIfS, tRet, tRetN, tDrop, tCall, tCB, tCons, tNil, tLst, tTup, tAugm, ipIm, tBM, rAppend, rIxLm, rCat, tIsN, tNotN, rIxTm, rExtend, gTup, gCons, gNil, tYes, rSum, rAll, rLtL, rMaxD, rMinD, V.int.injEq, V.bl.injEq, V.str.injEq, V.ref.injEq, and_true, true_and, and_assoc, Bool.false_eq_true, List.map_cons, List.map_nil, List.length_cons, List.length_nil, List.append_nil, List.cons_append, List.nil_append, List.replicate_succ, List.replicate_zero, List.getElem?_cons_zero, List.getElem?_cons_succ, List.set_cons_zero, List.set_cons_succ, Option.some.injEq, List.cons.injEq, exists_eq_left', exists_and_left, exists_eq_left, asV_ex, asI_ex, asB_ex, asR_ex, rEqm_ex, rNem_ex, scal_ii, scal_bb, L2.start, wipe, Nat.reduceAdd, Nat.reduceSub, reduceIte])
    unfold GA.isBlk at k
    by_cases c1 : 10 ≤ l
    · refine iteT' (decide_eq_true c1) ?_
      by_cases c2 : l ≤ 1000000
      · refine iteT' (decide_eq_true c2) ⟨by decide, ?_⟩
        by_cases c3 : l % 10 = 0
        · refine iteT' (decide_eq_true c3) ?_
          rw [decide_eq_true c1, decide_eq_true c2, decide_eq_true c3] at k
          by_cases c4 : -4096 ≤ lo
          · rw [decide_eq_true c4] at k
            exact iteT' (decide_eq_true c4) k
          · rw [decide_eq_false c4] at k
            exact iteF' (decide_eq_false c4) k
        · rw [decide_eq_false c3, Bool.and_false, Bool.false_and] at k
          exact iteF' (decide_eq_false c3) k
      · rw [decide_eq_false c2, Bool.and_false, Bool.false_and, Bool.false_and] at k
        exact iteF' (decide_eq_false c2) k
    · rw [decide_eq_false c1, Bool.false_and, Bool.false_and, Bool.false_and] at k
      exact iteF' (decide_eq_false c1) k
def sp_line_refusal (K : PySem.W.Frag) : Sp := fun vs H Q _ => ∃ (a : Addr) (t : List Int) (b n : Nat), vs = [.ref a, .int b, .int n] ∧ SqL K H a (t.map V.int) ∧ GA.Byts t ∧ b ≤ t.length ∧ ∀ p H', H p = none → Same H H' → H' p = some (.lst ((GA.lineRef t b n).map V.int)) → Q (.ref p) H'

theorem sc_line_refusal : FnScope ["text", "begin", "number", "size"] ["text", "begin", "number"] (defScope st_line_refusal) := ⟨rfl, rfl, rfl, by decide +kernel, rfl, by decide +kernel, by decide +kernel⟩
theorem ok_line_refusal {P : Program} {w : World} {K : PySem.W.Frag} {mg : Str → Option Value} {base : Heap} (R : Raw K mg "line_refusal" st_line_refusal ["text", "begin", "number"]) {t_MOST_BLOCKS : Tok} (g_MOST_BLOCKS : mg "MOST_BLOCKS" = some (.int (20) t_MOST_BLOCKS)) {t_CODE : Tok} (g_CODE : mg "CODE" = some (.int (3) t_CODE)) (D_size_of : Dn P w K mg base 9 "size_of" ["text"] (sp_size_of K)) (D_line_at : Dn P w K mg base 1 "line_at" ["text", "begin"] (sp_line_at K)) (D_is_block : Dn P w K mg base 1 "is_block" ["length", "lo", "hi"] (sp_is_block K)) : Dn P w K mg base 10 "line_refusal" ["text", "begin", "number"] (sp_line_refusal K) := by
  refine R.dn fun f fd F => F.ok sc_line_refusal (fun vs H Q E h => ?_) (fun cdv A outer s H vs Q E hr h => ?_)
  ·
    obtain ⟨_, _, _, _, rfl, _⟩ := h
    rfl
  ·
    obtain ⟨a, t, b, n, rfl, hS, hb, hl, k⟩ := h
    refine ⟨_, (pss_cons (ps_if (pt_cmpRm op_eqm (pvm 2) (pe_glob (v := .int (20)) rfl g_MOST_BLOCKS ⟨_, rfl⟩) (nomark _)) (pss_one (ps_ret (pe_lst (pa_cons (pe_un un_negm pe_int) (pa_cons pe_int (pa_cons (pvm 1) pa_nil)))))) pss_nil) (pss_cons (ps_set (i := 3) sc_line_refusal.nd rfl (Or.inl rfl) (pe_callD D_size_of (hr.mono (by decide)) rfl (pa_cons (pe_callD D_line_at (hr.mono (by decide)) rfl (pa_cons (pvm 0) (pa_cons (pvm 1) pa_nil))) pa_nil))) (pss_cons (ps_if (pt_cmpRm op_ltm (pe_ix ix_listm (pvm 3) pe_int (fun _ _ => rfl)) pe_int (nomark _)) (pss_one (ps_ret (pe_lst (pa_cons (pe_un un_negm pe_int) (pa_cons (pe_ix ix_listm (pvm 3) pe_int (fun _ _ => rfl)) (pa_cons (pe_op op_addm (pvm 1) (pe_ix ix_listm (pvm 3) pe_int (fun _ _ => rfl))) pa_nil)))))) pss_nil) (pss_cons (ps_if (PW.pt (pw_or (pt_cmpRm op_eqm (pe_ix ix_listm (pvm 3) pe_int (fun _ _ => rfl)) (pe_glob (v := .int (3)) rfl g_CODE ⟨_, rfl⟩) (nomark _)) (pw_or1 (pt_not (pt_valm (pe_callD D_is_block (hr.mono (by decide)) rfl (pa_cons (pe_ix ix_listm (pvm 3) pe_int (fun _ _ => rfl)) (pa_cons (pe_ix ix_listm (pvm 3) pe_int (fun _ _ => rfl)) (pa_cons (pe_ix ix_listm (pvm 3) pe_int (fun _ _ => rfl)) pa_nil))))))))) (pss_one (ps_ret (pe_lst (pa_cons (pe_un un_negm pe_int) (pa_cons pe_int (pa_cons (pvm 1) pa_nil)))))) pss_nil) (pss_one (ps_ret (pe_lst pa_nil))))))), ?_⟩
    (try dsimp only [tVarm, tC, tOp, tUn, rIm, rI0m, rUm, tTestm, tChainm, tAnd, tOr, tNot, tAndVm, tOrVm, tNotVm, tIf, tSeq, tNext, tAsg, gName, tIfS, tRet, tRetN, tDrop, tCall, tCB, tCons, tNil, tLst, tTup, tAugm, ipIm, tBM, rAppend, rIxLm, rCat, tIsN, tNotN, rIxTm, rExtend, gTup, gCons, gNil, tYes, rSum, rAll, asV_is, asI_is, asB_is, asR_is, rEqm_ii, rNem_ii, scal_ii, scal_bb, rLtL, rMaxD, rMinD, L2.start, wipe, sp_size_of, sp_line_at, sp_is_block, List.map_cons, List.map_nil, List.length_cons, List.length_nil, List.append_nil, List.cons_append, List.nil_append, List.replicate_succ, List.replicate_zero, List.getElem?_cons_zero, List.getElem?_cons_succ, List.set_cons_zero, List.set_cons_succ]); (try simp only [tVarm, tC, tOp, tUn, rIm, rI0m, rUm, tTestm, tChainm, tAnd, tOr, tNot, tAndVm, tOrVm, tNotVm, tIf, tSeq, tNext, tAsg, gName, tIfS, tRet, tRetN, tDrop, tCall, tCB, tCons, tNil, tLst, tTup, tAugm, ipIm, tBM, rAppend, rIxLm, rCat, tIsN, tNotN, rIxTm, rExtend, gTup, gCons, gNil, tYes, rSum, rAll, rLtL, rMaxD, rMinD, V.int.injEq, V.bl.injEq, V.str.injEq, V.ref.injEq, and_true, true_and, and_assoc, Bool.false_eq_true, List.map_cons, List.map_nil, List.length_cons, List.length_nil, List.append_nil, List.cons_append, List.nil_append, List.replicate_succ, List.replicate_zero, List.getElem?_cons_zero, List.getElem?_cons_succ, List.set_cons_zero, List.set_cons_succ, Option.some.injEq, List.cons.injEq, exists_eq_left', exists_and_left, exists_eq_left, asV_ex, asI_ex, asB_ex, asR_ex, rEqm_ex, rNem_ex, scal_ii, scal_bb, L2.start, wipe, Nat.reduceAdd, Nat.reduceSub, reduceIte, sp_size_of, sp_line_at, sp_is_block])
    unfold GA.lineRef at k
    by_cases c : n = 20
    · rw [if_pos c] at k
      exact iteT' (decide_eq_true (by (first | lia | omega))) ⟨by decide, fun p hp => k p _ hp (same_new hp) upd_same⟩
    · rw [if_neg c] at k
      refine iteF' (decide_eq_false (by (first | lia | omega))) ⟨t, b, rfl, hS, hl, fun p H1 hp s1 hP => ⟨_, SqL.of hP, (hb.drop b).take GA.nlf, fun p2 H2 hp2 s2 hP2 => ?_⟩⟩
      have s12 := s1.trans s2
      unfold GA.refOf at k
      rcases GA.sizeL_cases ((hb.drop b).take GA.nlf) with ⟨kk, pp, e⟩ | ⟨n', lo, hi, f', l, g, e⟩
      · have e' : GA.sizeL (GA.lineAt t b) = [-2, kk, pp] := e
        rw [e'] at hP2 k
        rw [if_pos (by show (-2 : Int) < 0; decide)] at k
        refine ⟨_, SqL.of hP2, _, rfl, _, rfl, iteT' (decide_eq_true (by decide)) ?_⟩
        refine ⟨_, SqL.of hP2, _, rfl, _, SqL.of hP2, _, rfl, _, rfl, by decide, fun p3 hp3 => k p3 _ (s12.free hp3) (s12.trans (same_new hp3)) upd_same⟩
      · have e' : GA.sizeL (GA.lineAt t b) = [0, n', lo, hi, f', l, g] := e
        rw [e'] at hP2 k
        rw [if_neg (by show ¬ (0 : Int) < 0; decide)] at k
        refine ⟨_, SqL.of hP2, _, rfl, _, rfl, iteF' (decide_eq_false (by decide)) ⟨_, SqL.of hP2, _, rfl, rfl, ?_⟩⟩
        have k : ∀ (p : Addr) (H' : Hp), H p = none → Same H H' → H' p = some (HO.lst (List.map V.int (if f' = 3 ∨ GA.isBlk n' lo hi = false then [-2, 6, (b : Int)] else []))) → Q (V.ref p) H' := k
        by_cases c3 : f' = 3
        · rw [if_pos (.inl c3)] at k
          exact iteT' (decide_eq_true (congrArg V.int c3)) ⟨by decide, fun p3 hp3 => k p3 _ (s12.free hp3) (s12.trans (same_new hp3)) upd_same⟩
        · refine iteF' (decide_eq_false (fun z => c3 (V.int.inj z))) ?_
          refine ⟨_, SqL.of hP2, _, rfl, _, SqL.of hP2, _, rfl, _, SqL.of hP2, _, rfl, _, rfl, _, rfl, _, rfl, ?_⟩
          cases c4 : GA.isBlk n' lo hi with
          | false =>
            rw [if_pos (.inr c4)] at k
            exact iteT ⟨by decide, fun p3 hp3 => k p3 _ (s12.free hp3) (s12.trans (same_new hp3)) upd_same⟩
          | true =>
            rw [if_neg (fun z => z.elim c3 (fun z => by rw [c4] at z; cases z))] at k
            exact iteF ⟨by decide, fun p3 hp3 => k p3 _ (s12.free hp3) (s12.trans (same_new hp3)) upd_same⟩
def sp_box_refusal (K : PySem.W.Frag) : Sp := fun vs H Q _ => ∃ (a : Addr) (t : List Int), vs = [.ref a] ∧ SqL K H a (t.map V.int) ∧ GA.Byts t ∧ t.length ≤ 4300 ∧ ∀ p H', H p = none → Same H H' → H' p = some (.lst ((GA.boxRef t).map V.int)) → Q (.ref p) H'
theorem begs_lt {t : List Int} {p : Nat} (h : p ∈ GA.begs t) : p < t.length := by
  unfold GA.begs at h
  exact List.mem_range.mp (List.mem_filter.mp h).1
theorem goR_cons (t : List Int) (k p : Nat) (ps : List Nat) : GA.goR t k (p :: ps) = if GA.lineRef t p k = [] then GA.goR t (k + 1) ps else GA.lineRef t p k := rfl
theorem goR_nil (t : List Int) (k : Nat) : GA.goR t k [] = GA.endR t := rfl
theorem cut_last {t : List Int} {c : Int} (h : t.getLast? = some c) : cutV (t.map V.int) (some (-1)) none = [V.int c] := by
  obtain ⟨l, rfl⟩ : ∃ l, t = l ++ [c] := by
    have hn : t ≠ [] := fun z => by rw [z] at h; cases h
    refine ⟨t.dropLast, ?_⟩
    rw [List.getLast?_eq_some_getLast hn] at h
    rw [← Option.some.inj h]
    exact (List.dropLast_concat_getLast hn).symm
  unfold cutV HT.sIx
  rw [List.length_map, List.length_append]
  simp only [List.length_cons, List.length_nil]
  rw [if_pos (by decide)]
  have e : (-1 + ((l.length + (0 + 1) : Nat) : Int)).toNat = l.length := by (first | lia | omega)
  rw [e, List.map_append, List.drop_append_of_le_length (by simp), List.drop_eq_nil_of_le (by simp), List.nil_append]
  have e2 : l.length + (0 + 1) - l.length = 1 := by (first | lia | omega)
  rw [e2]
  rfl

theorem sc_box_refusal : FnScope ["text", "number", "begin", "refusal"] ["text"] (defScope st_box_refusal) := ⟨rfl, rfl, rfl, by decide +kernel, rfl, by decide +kernel, by decide +kernel⟩
theorem ok_box_refusal {P : Program} {w : World} {K : PySem.W.Frag} {mg : Str → Option Value} {base : Heap} (R : Raw K mg "box_refusal" st_box_refusal ["text"]) {t_LONGEST_BOX_TEXT : Tok} (g_LONGEST_BOX_TEXT : mg "LONGEST_BOX_TEXT" = some (.int (4096) t_LONGEST_BOX_TEXT)) {t_LINE_FEED : Tok} (g_LINE_FEED : mg "LINE_FEED" = some (.int (10) t_LINE_FEED)) (b_enumerate : mg "enumerate" = none) (b_len : mg "len" = none) (D_line_begins : Dn P w K mg base 1 "line_begins" ["text"] (sp_line_begins K)) (D_line_refusal : Dn P w K mg base 10 "line_refusal" ["text", "begin", "number"] (sp_line_refusal K)) : Dn P w K mg base 11 "box_refusal" ["text"] (sp_box_refusal K) := by
  refine R.dn fun f fd F => F.ok sc_box_refusal (fun vs H Q E h => ?_) (fun cdv A outer s H vs Q E hr h => ?_)
  ·
    obtain ⟨_, _, rfl, _⟩ := h
    rfl
  ·
    obtain ⟨a, t, rfl, hS, hb, hl, k⟩ := h
    refine ⟨_, (pss_cons (ps_if (pt_cmpRm op_gtm (pe_callB (call_len_seq) rfl b_len (by decide +kernel) (pa_cons (pvm 0) pa_nil)) (pe_glob (v := .int (4096)) rfl g_LONGEST_BOX_TEXT ⟨_, rfl⟩) (nomark _)) (pss_one (ps_ret (pe_lst (pa_cons (pe_un un_negm pe_int) pa_nil)))) pss_nil) (pss_cons (ps_for PassesOwn.never rfl (pi_enum rfl b_enumerate (pa_cons (pe_callD D_line_begins (hr.mono (by decide)) rfl (pa_cons (pvm 0) pa_nil)) pa_nil)) (pg_tup rfl (pgs_cons (pg_name (i := 1) sc_box_refusal.nd rfl (by first | exact Or.inl rfl | exact Or.inr rfl)) (pgs_cons (pg_name (i := 2) sc_box_refusal.nd rfl (by first | exact Or.inl rfl | exact Or.inr rfl)) pgs_nil))) (pss_cons (ps_set (i := 3) sc_box_refusal.nd rfl (Or.inl rfl) (pe_callD D_line_refusal (hr.mono (by decide)) rfl (pa_cons (pvm 0) (pa_cons (pvm 2) (pa_cons (pvm 1) pa_nil))))) (pss_one (ps_if (pt_truth (pvm 3) (fun _ => rfl)) (pss_one (ps_ret (pvm 3))) pss_nil)))) (pss_cons (ps_if (pt_cmpRm (op_neD hr.units) (pe_slice sl_list (pvm 0) (po_some (pe_un un_negm pe_int)) po_none) (pe_lst (pa_cons (pe_glob (v := .int (10)) rfl g_LINE_FEED ⟨_, rfl⟩) pa_nil)) (nomark _)) (pss_one (ps_ret (pe_lst (pa_cons (pe_un un_negm pe_int) (pa_cons pe_int (pa_cons (pe_callB (call_len_seq) rfl b_len (by decide +kernel) (pa_cons (pvm 0) pa_nil)) pa_nil)))))) pss_nil) (pss_one (ps_ret (pe_lst pa_nil)))))), ?_⟩
    (try dsimp only [tVarm, tC, tOp, tUn, rIm, rI0m, rUm, tTestm, tChainm, tAnd, tOr, tNot, tAndVm, tOrVm, tNotVm, tIf, tSeq, tNext, tAsg, gName, tIfS, tRet, tRetN, tDrop, tCall, tCB, tCons, tNil, tLst, tTup, tAugm, ipIm, tBM, rAppend, rIxLm, rCat, tIsN, tNotN, rIxTm, rExtend, gTup, gCons, gNil, tYes, rSum, rAll, asV_is, asI_is, asB_is, asR_is, rEqm_ii, rNem_ii, scal_ii, scal_bb, rLtL, rMaxD, rMinD, L2.start, wipe, sp_line_begins, sp_line_refusal, List.map_cons, List.map_nil, List.length_cons, List.length_nil, List.append_nil, List.cons_append, List.nil_append, List.replicate_succ, List.replicate_zero, List.getElem?_cons_zero, List.getElem?_cons_succ, List.set_cons_zero, List.set_cons_succ]); (try simp only [tVarm, tC, tOp, tUn, rIm, rI0m, rUm, tTestm, tChainm, tAnd, tOr, tNot, tAndVm, tOrVm, tNotVm, tIf, tSeq, tNext, tAsg, gName, tIfS, tRet, tRetN, tDrop, tCall, tCB, tCons, tNil, tLst, tTup, tAugm, ipIm, tBM, rAppend, rIxLm, rCat, tIsN, tNotN, rIxTm, rExtend, gTup, gCons, gNil, tYes, rSum, rAll, rLtL, rMaxD, rMinD, V.int.injEq, V.bl.injEq, V.str.injEq, V.ref.injEq, and_true, true_and, and_assoc, Bool.false_eq_true, List.map_cons, List.map_nil, List.length_cons, List.length_nil, List.append_nil, List.cons_append, List.nil_append, List.replicate_succ, List.replicate_zero, List.getElem?_cons_zero, List.getElem?_cons_succ, List.set_cons_zero, List.set_cons_succ, Option.some.injEq, List.cons.injEq, exists_eq_left', exists_and_left, exists_eq_left, asV_ex, asI_ex, asB_ex, asR_ex, rEqm_ex, rNem_ex, scal_ii, scal_bb, L2.start, wipe, Nat.reduceAdd, Nat.reduceSub, reduceIte, sp_line_begins, sp_line_refusal])
    refine ⟨_, .inl hS, ?_⟩
    rw [List.length_map]
    unfold GA.boxRef at k
    by_cases c : 4096 < t.length
    · rw [if_pos c] at k
      exact iteT' (decide_eq_true (by (first | lia | omega))) ⟨by decide, fun p hp => k p _ hp (same_new hp) upd_same⟩
    · rw [if_neg c] at k
      refine iteF' (decide_eq_false (by (first | lia | omega))) ⟨a, t, rfl, hS, by (first | lia | omega), fun p H1 hp s1 hP => ⟨p, _, rfl, SqL.of hP, ?_⟩⟩
      refine for_enum (xs := (GA.begs t).map fun (i : Nat) => V.int i) (fun i σ' H' => Same H1 H' ∧ ∃ x1 x2 x3, σ' = [some (.ref a), x1, x2, x3] ∧ GA.goR t 0 (GA.begs t) = GA.goR t i ((GA.begs t).drop i)) ⟨Same.refl H1, none, none, none, rfl, rfl⟩ (fun i σ' H' _ q => SqL.of (q.1 p _ hP)) (fun i x σ' H' T hx q hT => ?_) (fun σ' H' q => ?_)
      · obtain ⟨s2, x1, x2, x3, rfl, inv⟩ := q
        rw [List.getElem?_map] at hx
        cases hy : (GA.begs t)[i]? with
        | none =>
          rw [hy] at hx
          cases hx
        | some b =>
          rw [hy] at hx
          cases hx
          have hlt : i < (GA.begs t).length := (List.getElem?_eq_some_iff.mp hy).1
          have hbl : b < t.length := begs_lt (List.mem_of_getElem? hy)
          have ed : (GA.begs t).drop i = b :: (GA.begs t).drop (i + 1) := by
            rw [List.drop_eq_getElem_cons hlt]
            congr 1
            exact (List.getElem?_eq_some_iff.mp hy).2
          rw [ed, goR_cons] at inv
          (try dsimp only [tVarm, tC, tOp, tUn, rIm, rI0m, rUm, tTestm, tChainm, tAnd, tOr, tNot, tAndVm, tOrVm, tNotVm, tIf, tSeq, tNext, tAsg, gName, tIfS, tRet, tRetN, tDrop, tCall, tCB, tCons, tNil, tLst, tTup, tAugm, ipIm, tBM, rAppend, rIxLm, rCat, tIsN, tNotN, rIxTm, rExtend, gTup, gCons, gNil, tYes, rSum, rAll, asV_is, asI_is, asB_is, asR_is, rEqm_ii, rNem_ii, scal_ii, scal_bb, rLtL, rMaxD, rMinD, L2.start, wipe, sp_line_begins, sp_line_refusal, List.map_cons, List.map_nil, List.length_cons, List.length_nil, List.append_nil, List.cons_append, List.nil_append, List.replicate_succ, List.replicate_zero, List.getElem?_cons_zero, List.getElem?_cons_succ, List.set_cons_zero, List.set_cons_succ]); (try simp only [tVarm, tC, tOp, tUn, rIm, rI0m, rUm, tTestm, tChainm, tAnd, tOr, tNot, tAndVm, tOrVm, tNotVm, tIf, tSeq, tNext, tAsg, gName, tIfS, tRet, tRetN, tDrop, tCall, tCB, tCons, tNil, tLst, tTup, tAugm, ipIm, tBM, rAppend, rIxLm, rCat, tIsN, tNotN, rIxTm, rExtend, gTup, gCons, gNil, tYes, rSum, rAll, rLtL, rMaxD, rMinD, V.int.injEq, V.bl.injEq, V.str.injEq, V.ref.injEq, and_true, true_and, and_assoc, Bool.false_eq_true, List.map_cons, List.map_nil, List.length_cons, List.length_nil, List.append_nil, List.cons_append, List.nil_append, List.replicate_succ, List.replicate_zero, List.getElem?_cons_zero, List.getElem?_cons_succ, List.set_cons_zero, List.set_cons_succ, Option.some.injEq, List.cons.injEq, exists_eq_left', exists_and_left, exists_eq_left, asV_ex, asI_ex, asB_ex, asR_ex, rEqm_ex, rNem_ex, scal_ii, scal_bb, L2.start, wipe, Nat.reduceAdd, Nat.reduceSub, reduceIte, sp_line_begins, sp_line_refusal])
          refine ⟨_, SqT.of upd_same, rfl, ?_⟩
          (try dsimp only [tVarm, tC, tOp, tUn, rIm, rI0m, rUm, tTestm, tChainm, tAnd, tOr, tNot, tAndVm, tOrVm, tNotVm, tIf, tSeq, tNext, tAsg, gName, tIfS, tRet, tRetN, tDrop, tCall, tCB, tCons, tNil, tLst, tTup, tAugm, ipIm, tBM, rAppend, rIxLm, rCat, tIsN, tNotN, rIxTm, rExtend, gTup, gCons, gNil, tYes, rSum, rAll, asV_is, asI_is, asB_is, asR_is, rEqm_ii, rNem_ii, scal_ii, scal_bb, rLtL, rMaxD, rMinD, L2.start, wipe, sp_line_begins, sp_line_refusal, List.map_cons, List.map_nil, List.length_cons, List.length_nil, List.append_nil, List.cons_append, List.nil_append, List.replicate_succ, List.replicate_zero, List.getElem?_cons_zero, List.getElem?_cons_succ, List.set_cons_zero, List.set_cons_succ]); (try simp only [tVarm, tC, tOp, tUn, rIm, rI0m, rUm, tTestm, tChainm, tAnd, tOr, tNot, tAndVm, tOrVm, tNotVm, tIf, tSeq, tNext, tAsg, gName, tIfS, tRet, tRetN, tDrop, tCall, tCB, tCons, tNil, tLst, tTup, tAugm, ipIm, tBM, rAppend, rIxLm, rCat, tIsN, tNotN, rIxTm, rExtend, gTup, gCons, gNil, tYes, rSum, rAll, rLtL, rMaxD, rMinD, V.int.injEq, V.bl.injEq, V.str.injEq, V.ref.injEq, and_true, true_and, and_assoc, Bool.false_eq_true, List.map_cons, List.map_nil, List.length_cons, List.length_nil, List.append_nil, List.cons_append, List.nil_append, List.replicate_succ, List.replicate_zero, List.getElem?_cons_zero, List.getElem?_cons_succ, List.set_cons_zero, List.set_cons_succ, Option.some.injEq, List.cons.injEq, exists_eq_left', exists_and_left, exists_eq_left, asV_ex, asI_ex, asB_ex, asR_ex, rEqm_ex, rNem_ex, scal_ii, scal_bb, L2.start, wipe, Nat.reduceAdd, Nat.reduceSub, reduceIte, sp_line_begins, sp_line_refusal])
          have sT := same_new (o := .tup [.int (i : Nat), .int (b : Nat)]) hT
          refine ⟨t, b, rfl, i, rfl, sT.seq (s2.seq (s1.seq hS)), hb, by (first | lia | omega), fun p2 H2 hp2 s3 hP2 => ⟨!((GA.lineRef t b i).map V.int).isEmpty, .inl ⟨_, SqL.of hP2, rfl⟩, ?_⟩⟩
          by_cases cl : GA.lineRef t b i = []
          · rw [if_pos cl] at inv
            rw [cl]
            exact iteF' rfl ⟨s2.trans (sT.trans s3), inv⟩
          · rw [if_neg cl] at inv
            rw [inv] at k
            refine iteT' ?_ (k p2 H2 (s1.free (s2.free (sT.free hp2))) (s1.trans (s2.trans (sT.trans s3))) hP2)
            cases hc : GA.lineRef t b i with
            | nil => exact absurd hc cl
            | cons _ _ => rfl
      · obtain ⟨s2, x1, x2, x3, rfl, inv⟩ := q
        have ed : (GA.begs t).drop ((GA.begs t).map fun (i : Nat) => V.int i).length = [] := by
          rw [List.length_map, List.drop_length]
        rw [ed, goR_nil] at inv
        rw [inv] at k
        have s12 := s1.trans s2
        (try dsimp only [tVarm, tC, tOp, tUn, rIm, rI0m, rUm, tTestm, tChainm, tAnd, tOr, tNot, tAndVm, tOrVm, tNotVm, tIf, tSeq, tNext, tAsg, gName, tIfS, tRet, tRetN, tDrop, tCall, tCB, tCons, tNil, tLst, tTup, tAugm, ipIm, tBM, rAppend, rIxLm, rCat, tIsN, tNotN, rIxTm, rExtend, gTup, gCons, gNil, tYes, rSum, rAll, asV_is, asI_is, asB_is, asR_is, rEqm_ii, rNem_ii, scal_ii, scal_bb, rLtL, rMaxD, rMinD, L2.start, wipe, sp_line_begins, sp_line_refusal, List.map_cons, List.map_nil, List.length_cons, List.length_nil, List.append_nil, List.cons_append, List.nil_append, List.replicate_succ, List.replicate_zero, List.getElem?_cons_zero, List.getElem?_cons_succ, List.set_cons_zero, List.set_cons_succ]); (try simp only [tVarm, tC, tOp, tUn, rIm, rI0m, rUm, tTestm, tChainm, tAnd, tOr, tNot, tAndVm, tOrVm, tNotVm, tIf, tSeq, tNext, tAsg, gName, tIfS, tRet, tRetN, tDrop, tCall, tCB, tCons, tNil, tLst, tTup, tAugm, ipIm, tBM, rAppend, rIxLm, rCat, tIsN, tNotN, rIxTm, rExtend, gTup, gCons, gNil, tYes, rSum, rAll, rLtL, rMaxD, rMinD, V.int.injEq, V.bl.injEq, V.str.injEq, V.ref.injEq, and_true, true_and, and_assoc, Bool.false_eq_true, List.map_cons, List.map_nil, List.length_cons, List.length_nil, List.append_nil, List.cons_append, List.nil_append, List.replicate_succ, List.replicate_zero, List.getElem?_cons_zero, List.getElem?_cons_succ, List.set_cons_zero, List.set_cons_succ, Option.some.injEq, List.cons.injEq, exists_eq_left', exists_and_left, exists_eq_left, asV_ex, asI_ex, asB_ex, asR_ex, rEqm_ex, rNem_ex, scal_ii, scal_bb, L2.start, wipe, Nat.reduceAdd, Nat.reduceSub, reduceIte, sp_line_begins, sp_line_refusal])
        refine ⟨-1, rfl, a, _, rfl, s12.seq hS, fun p2 hp2 => ⟨by decide, fun p3 hp3 => ?_⟩⟩
        have s23 := (same_new (o := .lst (cutV (t.map V.int) (some (-1)) none)) hp2).trans (same_new (o := .lst [.int 10]) hp3)
        have q2 : (upd (upd H' p2 (.lst (cutV (t.map V.int) (some (-1)) none))) p3 (.lst [.int 10])) p2 = some (.lst (cutV (t.map V.int) (some (-1)) none)) := same_new hp3 _ _ upd_same
        unfold GA.endR at k
        cases hgl : t.getLast? with
        | none =>
          have ht : t = [] := List.getLast?_eq_none_iff.mp hgl
          subst ht
          rw [if_neg (by simp)] at k
          refine ⟨.list [], .list [.int 10], .lst (SqL.of q2) .nil, .lst (SqL.of upd_same) (.cons (.int 10) .nil), rfl, rfl, _, rfl, iteT' rfl ?_⟩
          exact ⟨_, .inl (s23.seq (s12.seq hS)), by decide, fun p4 hp4 => k p4 _ (s12.free (s23.free hp4)) (s12.trans (s23.trans (same_new hp4))) upd_same⟩
        | some c =>
          rw [cut_last hgl] at q2 s23 hp3 ⊢
          refine ⟨.list [.int c], .list [.int 10], .lst (SqL.of q2) (.cons (.int c) .nil), .lst (SqL.of upd_same) (.cons (.int 10) .nil), rfl, rfl, _, rfl, ?_⟩
          have ev : PyData.eqv (.list [.int c]) (.list [.int 10]) = ((c == 10) && true) := rfl
          rw [ev, Bool.and_true]
          rw [hgl] at k
          by_cases h10 : c = 10
          · rw [if_pos (by rw [h10])] at k
            refine iteF' (by rw [h10]; rfl) ⟨by decide, fun p4 hp4 => k p4 _ (s12.free (s23.free hp4)) (s12.trans (s23.trans (same_new hp4))) upd_same⟩
          · rw [if_neg (fun z => h10 (Option.some.inj z))] at k
            refine iteT' (by simp [h10]) ⟨_, .inl (s23.seq (s12.seq hS)), by decide, fun p4 hp4 => k p4 _ (s12.free (s23.free hp4)) (s12.trans (s23.trans (same_new hp4))) ?_⟩
            rw [upd_same, List.length_map]
            rfl
def BlkAt (H : Hp) (q : Addr) (b : FtBlocks.Block) : Prop := H q = some (.lst [.int b.l, .int b.lo, .int b.hi])
def sp_blocks_of (K : PySem.W.Frag) : Sp := fun vs H Q _ => ∃ (a : Addr) (t : List Int), vs = [.ref a] ∧ SqL K H a (t.map V.int) ∧ GA.Byts t ∧ GA.boxRef t = [] ∧ ∀ p H' ps, H p = none → Same H H' → H' p = some (.lst (ps.map V.ref)) → Paired (BlkAt H') ps (GA.blks t) → Q (.ref p) H'
theorem paired_snoc {α β : Type} {R : α → β → Prop} : ∀ {xs : List α} {ys : List β}, Paired R xs ys → ∀ {x : α} {y : β}, R x y → Paired R (xs ++ [x]) (ys ++ [y])
  | _, _, .nil, _, _, h => .cons h .nil
  | _, _, .cons a b, _, _, h => .cons a (paired_snoc b h)
theorem goR_all {t : List Int} : ∀ (ps : List Nat) (k : Nat), GA.goR t k ps = [] → ∀ (i p : Nat), ps[i]? = some p → GA.lineRef t p (k + i) = [] := by
  intro ps
  induction ps with
  | nil =>
    intro k _ i p h
    simp at h
  | cons q ps ih =>
    intro k h i p hp
    rw [goR_cons] at h
    by_cases c : GA.lineRef t q k = []
    · rw [if_pos c] at h
      cases i with
      | zero =>
        simp at hp
        subst hp
        exact c
      | succ i =>
        have := ih (k + 1) h i p (by simpa using hp)
        rwa [Nat.add_assoc, Nat.add_comm 1 i] at this
    · rw [if_neg c] at h
      exact absurd h c
theorem line_size {t : List Int} (hb : GA.Byts t) {p k : Nat} (h : GA.lineRef t p k = []) : ∃ n lo hi f l g : Int, GA.sizeL (GA.lineAt t p) = [0, n, lo, hi, f, l, g] := by
  rcases GA.sizeL_cases ((hb.drop p).take GA.nlf) with ⟨kk, pp, e⟩ | e
  · have e' : GA.sizeL (GA.lineAt t p) = [-2, kk, pp] := e
    unfold GA.lineRef at h
    split at h
    · cases h
    · unfold GA.refOf at h
      rw [e', if_pos (by show (-2 : Int) < 0; decide)] at h
      cases h
  · exact e
theorem paired_at {α β : Type} {R : α → β → Prop} : ∀ {xs : List α} {ys : List β}, Paired R xs ys → ∀ {i : Nat} {x : α}, xs[i]? = some x → ∃ y, ys[i]? = some y ∧ R x y
  | _, _, .nil, i, x, h => by simp at h
  | _, _, .cons a b, 0, x, h => by
    simp at h
    subst h
    exact ⟨_, rfl, a⟩
  | _, _, .cons a b, i + 1, x, h => by
    obtain ⟨y, e, r⟩ := paired_at b (by simpa using h)
    exact ⟨y, by simpa using e, r⟩

theorem sc_blocks_of : FnScope ["text", "begin"] ["text"] (defScope st_blocks_of) := ⟨rfl, rfl, rfl, by decide +kernel, rfl, by decide +kernel, by decide +kernel⟩
theorem ok_blocks_of {P : Program} {w : World} {K : PySem.W.Frag} {mg : Str → Option Value} {base : Heap} (R : Raw K mg "blocks_of" st_blocks_of ["text"]) (D_size_of : Dn P w K mg base 9 "size_of" ["text"] (sp_size_of K)) (D_line_begins : Dn P w K mg base 1 "line_begins" ["text"] (sp_line_begins K)) (D_line_at : Dn P w K mg base 1 "line_at" ["text", "begin"] (sp_line_at K)) : Dn P w K mg base 10 "blocks_of" ["text"] (sp_blocks_of K) := by
  refine R.dn fun f fd F => F.ok sc_blocks_of (fun vs H Q E h => ?_) (fun cdv A outer s H vs Q E hr h => ?_)
  ·
    obtain ⟨_, _, rfl, _⟩ := h
    rfl
  ·
    obtain ⟨a, t, rfl, hS, hb, hbr, k⟩ := h
    refine ⟨_, (pss_one (ps_ret (pe_lc rfl sc_blocks_of.nd (pi_list (pe_callD D_line_begins (hr.mono (by decide)) rfl (pa_cons (pvm 0) pa_nil))) (own := [("begin", 1)]) (blkOk_by (N := ["text", "begin"]) (sc := defScope st_blocks_of) (by decide +kernel)) (fun _ _ _ _ _ => (pg_name (i := 1) sc_blocks_of.nd rfl (by first | exact Or.inl rfl | exact Or.inr rfl))) (fun _ _ _ _ _ => pts_nil) (fun _ _ _ _ _ => (pe_slice (sl_listK K) (pe_callD D_size_of (hr.mono (by decide)) rfl (pa_cons (pe_callD D_line_at (hr.mono (by decide)) rfl (pa_cons (pvm 0) (pa_cons (pvm 1) pa_nil))) pa_nil)) (po_some pe_int) (po_some pe_int)))))), ?_⟩
    obtain ⟨bok, blen, tlen⟩ := GA.box_ok hb hbr
    (try dsimp only [tVarm, tC, tOp, tUn, rIm, rI0m, rUm, tTestm, tChainm, tAnd, tOr, tNot, tAndVm, tOrVm, tNotVm, tIf, tSeq, tNext, tAsg, gName, tIfS, tRet, tRetN, tDrop, tCall, tCB, tCons, tNil, tLst, tTup, tAugm, ipIm, tBM, rAppend, rIxLm, rCat, tIsN, tNotN, rIxTm, rExtend, gTup, gCons, gNil, tYes, rSum, rAll, asV_is, asI_is, asB_is, asR_is, rEqm_ii, rNem_ii, scal_ii, scal_bb, rLtL, rMaxD, rMinD, L2.start, wipe, sp_size_of, sp_line_begins, sp_line_at, List.map_cons, List.map_nil, List.length_cons, List.length_nil, List.append_nil, List.cons_append, List.nil_append, List.replicate_succ, List.replicate_zero, List.getElem?_cons_zero, List.getElem?_cons_succ, List.set_cons_zero, List.set_cons_succ]); (try simp only [tVarm, tC, tOp, tUn, rIm, rI0m, rUm, tTestm, tChainm, tAnd, tOr, tNot, tAndVm, tOrVm, tNotVm, tIf, tSeq, tNext, tAsg, gName, tIfS, tRet, tRetN, tDrop, tCall, tCB, tCons, tNil, tLst, tTup, tAugm, ipIm, tBM, rAppend, rIxLm, rCat, tIsN, tNotN, rIxTm, rExtend, gTup, gCons, gNil, tYes, rSum, rAll, rLtL, rMaxD, rMinD, V.int.injEq, V.bl.injEq, V.str.injEq, V.ref.injEq, and_true, true_and, and_assoc, Bool.false_eq_true, List.map_cons, List.map_nil, List.length_cons, List.length_nil, List.append_nil, List.cons_append, List.nil_append, List.replicate_succ, List.replicate_zero, List.getElem?_cons_zero, List.getElem?_cons_succ, List.set_cons_zero, List.set_cons_succ, Option.some.injEq, List.cons.injEq, exists_eq_left', exists_and_left, exists_eq_left, asV_ex, asI_ex, asB_ex, asR_ex, rEqm_ex, rNem_ex, scal_ii, scal_bb, L2.start, wipe, Nat.reduceAdd, Nat.reduceSub, reduceIte, sp_size_of, sp_line_begins, sp_line_at])
    refine ⟨a, t, rfl, hS, by (first | lia | omega), fun p H1 hp s1 hP => ⟨p, rfl, ⟨_, SqL.of hP⟩, fun D hD => ?_⟩⟩
    have hall : ∀ (i b : Nat), (GA.begs t)[i]? = some b → GA.lineRef t b (0 + i) = [] := by
      refine goR_all (GA.begs t) 0 ?_
      unfold GA.boxRef at hbr
      rw [if_neg (by (first | lia | omega))] at hbr
      exact hbr
    refine lc_list (xs := (GA.begs t).map fun (i : Nat) => V.int i) (Qd := fun H' => Q (.ref D) H') (fun i H' => Same H1 H' ∧ ∃ ps, H' D = some (.lst (ps.map V.ref)) ∧ Paired (BlkAt H') ps (((GA.begs t).take i).map fun p => GA.blkOf (GA.sizeL (GA.lineAt t p)))) ⟨same_new hD, [], upd_same, .nil⟩ (fun i H' _ q => SqL.of (q.1 p _ hP)) (fun i x H' hx q => ?_) (fun H' q => ?_)
    · obtain ⟨s2, ps, hps, pr⟩ := q
      rw [List.getElem?_map] at hx
      cases hy : (GA.begs t)[i]? with
      | none =>
        rw [hy] at hx
        cases hx
      | some b =>
        rw [hy] at hx
        cases hx
        have hbl : b < t.length := begs_lt (List.mem_of_getElem? hy)
        obtain ⟨n, lo, hi, f', l, g, es⟩ := line_size hb (hall i b hy)
        (try dsimp only [tVarm, tC, tOp, tUn, rIm, rI0m, rUm, tTestm, tChainm, tAnd, tOr, tNot, tAndVm, tOrVm, tNotVm, tIf, tSeq, tNext, tAsg, gName, tIfS, tRet, tRetN, tDrop, tCall, tCB, tCons, tNil, tLst, tTup, tAugm, ipIm, tBM, rAppend, rIxLm, rCat, tIsN, tNotN, rIxTm, rExtend, gTup, gCons, gNil, tYes, rSum, rAll, asV_is, asI_is, asB_is, asR_is, rEqm_ii, rNem_ii, scal_ii, scal_bb, rLtL, rMaxD, rMinD, L2.start, wipe, sp_size_of, sp_line_begins, sp_line_at, List.map_cons, List.map_nil, List.length_cons, List.length_nil, List.append_nil, List.cons_append, List.nil_append, List.replicate_succ, List.replicate_zero, List.getElem?_cons_zero, List.getElem?_cons_succ, List.set_cons_zero, List.set_cons_succ]); (try simp only [tVarm, tC, tOp, tUn, rIm, rI0m, rUm, tTestm, tChainm, tAnd, tOr, tNot, tAndVm, tOrVm, tNotVm, tIf, tSeq, tNext, tAsg, gName, tIfS, tRet, tRetN, tDrop, tCall, tCB, tCons, tNil, tLst, tTup, tAugm, ipIm, tBM, rAppend, rIxLm, rCat, tIsN, tNotN, rIxTm, rExtend, gTup, gCons, gNil, tYes, rSum, rAll, rLtL, rMaxD, rMinD, V.int.injEq, V.bl.injEq, V.str.injEq, V.ref.injEq, and_true, true_and, and_assoc, Bool.false_eq_true, List.map_cons, List.map_nil, List.length_cons, List.length_nil, List.append_nil, List.cons_append, List.nil_append, List.replicate_succ, List.replicate_zero, List.getElem?_cons_zero, List.getElem?_cons_succ, List.set_cons_zero, List.set_cons_succ, Option.some.injEq, List.cons.injEq, exists_eq_left', exists_and_left, exists_eq_left, asV_ex, asI_ex, asB_ex, asR_ex, rEqm_ex, rNem_ex, scal_ii, scal_bb, L2.start, wipe, Nat.reduceAdd, Nat.reduceSub, reduceIte, sp_size_of, sp_line_begins, sp_line_at])
        refine ⟨a, t, b, rfl, s2.seq (s1.seq hS), by (first | lia | omega), fun p2 H2 hp2 s3 hP2 => ⟨p2, _, rfl, SqL.of hP2, (hb.drop b).take GA.nlf, fun p3 H3 hp3 s4 hP3 => ⟨1, rfl, 4, rfl, p3, _, rfl, SqL.of hP3, fun p4 hp4 => ?_⟩⟩⟩
        have s34 := s3.trans s4
        have hD3 := s34 D _ hps
        have n4 : p4 ≠ D := fun z => by rw [z, hD3] at hp4; cases hp4
        refine ⟨_, (upd_ne (Ne.symm n4)).trans hD3, ?_, ?_, ps ++ [p4], ?_, ?_⟩
        · have := pr.length
          rw [List.length_map] at this ⊢
          have h2 := List.length_take_le i (GA.begs t)
          have h3 : (GA.begs t).length ≤ t.length := by
            unfold GA.begs
            refine Nat.le_trans (List.length_filter_le _ _) ?_
            rw [List.length_range]
            exact Nat.le_refl _
          exact Nat.lt_of_le_of_lt (show ps.length ≤ 4300 by have h4 : ((GA.begs t).take i).length ≤ (GA.begs t).length := by rw [List.length_take]; (first | lia | omega)
                                                             (first | lia | omega)) (by decide)
        · intro b' o' e'
          have nD : b' ≠ D := ne_of_none e' hD
          rw [upd_ne nD]
          exact same_new hp4 _ _ (s34 _ _ (s2 _ _ e'))
        · rw [upd_same, List.map_append]
          rfl
        · have et : (GA.begs t).take (i + 1) = (GA.begs t).take i ++ [b] := by
            rw [List.take_succ, hy]
            rfl
          rw [et, List.map_append]
          have keep : ∀ q c, BlkAt H' q c → BlkAt (upd (upd H3 p4 (.lst (cutV ((GA.sizeL (GA.lineAt t b)).map V.int) (some 1) (some 4)))) D (.lst (ps.map V.ref ++ [V.ref p4]))) q c := fun q c h => by
            unfold BlkAt at h ⊢
            have nq : q ≠ D := fun z => by
              rw [z, hps] at h
              have h1 := HO.lst.inj (Option.some.inj h)
              cases ps with
              | nil => cases h1
              | cons u us =>
                rw [List.map_cons] at h1
                injection h1 with h2
                cases h2
            rw [upd_ne nq]
            exact same_new hp4 _ _ (s34 _ _ h)
          refine paired_snoc (Paired.mapP pr keep) ?_
          show (upd (upd H3 p4 (.lst (cutV ((GA.sizeL (GA.lineAt t b)).map V.int) (some 1) (some 4)))) D (.lst (ps.map V.ref ++ [V.ref p4]))) p4 = some (.lst [.int (GA.blkOf (GA.sizeL (GA.lineAt t b))).l, .int (GA.blkOf (GA.sizeL (GA.lineAt t b))).lo, .int (GA.blkOf (GA.sizeL (GA.lineAt t b))).hi])
          rw [upd_ne n4, upd_same, es]
          rfl
    · obtain ⟨s2, ps, hps, pr⟩ := q
      have et : (GA.begs t).take ((GA.begs t).map fun (i : Nat) => V.int i).length = GA.begs t := by
        rw [List.length_map, List.take_length]
      rw [et] at pr
      exact k D H' ps (s1.free hD) (s1.trans s2) hps pr
def BoxAt (H : Hp) (a : Addr) (x : FtBlocks.Box) : Prop := ∃ ps : List Addr, H a = some (.lst (ps.map V.ref)) ∧ Paired (BlkAt H) ps x
def sp_length_of (K : PySem.W.Frag) : Sp := fun vs H Q _ => ∃ (a r : Addr) (x : FtBlocks.Box) (s : List Nat), vs = [.ref a, .ref r] ∧ BoxAt H a x ∧ SqL K H r (rowV s) ∧ s.length ≤ 100 ∧ (∀ i ∈ s, i < x.length) ∧ ∀ H', Same H H' → Q (.int (FtBlocks.long x s)) H'
theorem BoxAt.same {H H' : Hp} {a : Addr} {x : FtBlocks.Box} (s : Same H H') (h : BoxAt H a x) : BoxAt H' a x := by
  obtain ⟨ps, h1, h2⟩ := h
  exact ⟨ps, s _ _ h1, Paired.mapP h2 fun q b e => s _ _ e⟩
theorem blk_at {H : Hp} {a : Addr} {x : FtBlocks.Box} {j : Nat} (hB : BoxAt H a x) (hj : j < x.length) : ∃ (ps : List Addr) (q : Addr), H a = some (.lst (ps.map V.ref)) ∧ atI (ps.map V.ref) ((j : Nat) : Int) = some (.ref q) ∧
    H q = some (.lst [.int (FtBlocks.Box.block x j).l, .int (FtBlocks.Box.block x j).lo, .int (FtBlocks.Box.block x j).hi]) := by
  obtain ⟨ps, h1, h2⟩ := hB
  have pl : ps.length = x.length := h2.length
  have hj' : j < ps.length := by (first | lia | omega)
  obtain ⟨b, hb, r⟩ := paired_at h2 (List.getElem?_eq_getElem hj')
  refine ⟨ps, ps[j], h1, atI_nat (by rw [List.getElem?_map, List.getElem?_eq_getElem hj']; rfl), ?_⟩
  have e : FtBlocks.Box.block x j = b := by
    unfold FtBlocks.Box.block
    rw [List.getD_eq_getElem?_getD, hb]
    rfl
  rw [e]
  exact r

theorem sc_length_of : FnScope ["blocks", "row", "number"] ["blocks", "row"] (defScope st_length_of) := ⟨rfl, rfl, rfl, by decide +kernel, rfl, by decide +kernel, by decide +kernel⟩
theorem ok_length_of {P : Program} {w : World} {K : PySem.W.Frag} {mg : Str → Option Value} {base : Heap} (R : Raw K mg "length_of" st_length_of ["blocks", "row"]) (b_sum : mg "sum" = none) : Dn P w K mg base 1 "length_of" ["blocks", "row"] (sp_length_of K) := by
  refine R.dn fun f fd F => F.ok sc_length_of (fun vs H Q E h => ?_) (fun cdv A outer s H vs Q E hr h => ?_)
  ·
    obtain ⟨_, _, _, _, rfl, _⟩ := h
    rfl
  ·
    obtain ⟨a, r, x, st, rfl, hB, hS, hl, hi, k⟩ := h
    refine ⟨_, (pss_one (ps_ret (pe_callB (cr_sum rfl) rfl b_sum (by decide +kernel) (pa_cons (pe_lc rfl sc_length_of.nd (pi_list (pvm 1)) (own := [("number", 2)]) (blkOk_by (N := ["blocks", "row", "number"]) (sc := defScope st_length_of) (by decide +kernel)) (fun _ _ _ _ _ => (pg_name (i := 2) sc_length_of.nd rfl (by first | exact Or.inl rfl | exact Or.inr rfl))) (fun _ _ _ _ _ => pts_nil) (fun _ _ _ _ _ => (pe_ix (ix_listKm K) (pe_ix (ix_listKm K) (pvm 0) (pvm 2) (fun _ _ => rfl)) pe_int (fun _ _ => rfl)))) pa_nil)))), ?_⟩
    (try dsimp only [tVarm, tC, tOp, tUn, rIm, rI0m, rUm, tTestm, tChainm, tAnd, tOr, tNot, tAndVm, tOrVm, tNotVm, tIf, tSeq, tNext, tAsg, gName, tIfS, tRet, tRetN, tDrop, tCall, tCB, tCons, tNil, tLst, tTup, tAugm, ipIm, tBM, rAppend, rIxLm, rCat, tIsN, tNotN, rIxTm, rExtend, gTup, gCons, gNil, tYes, rSum, rAll, asV_is, asI_is, asB_is, asR_is, rEqm_ii, rNem_ii, scal_ii, scal_bb, rLtL, rMaxD, rMinD, L2.start, wipe, List.map_cons, List.map_nil, List.length_cons, List.length_nil, List.append_nil, List.cons_append, List.nil_append, List.replicate_succ, List.replicate_zero, List.getElem?_cons_zero, List.getElem?_cons_succ, List.set_cons_zero, List.set_cons_succ]); (try simp only [tVarm, tC, tOp, tUn, rIm, rI0m, rUm, tTestm, tChainm, tAnd, tOr, tNot, tAndVm, tOrVm, tNotVm, tIf, tSeq, tNext, tAsg, gName, tIfS, tRet, tRetN, tDrop, tCall, tCB, tCons, tNil, tLst, tTup, tAugm, ipIm, tBM, rAppend, rIxLm, rCat, tIsN, tNotN, rIxTm, rExtend, gTup, gCons, gNil, tYes, rSum, rAll, rLtL, rMaxD, rMinD, V.int.injEq, V.bl.injEq, V.str.injEq, V.ref.injEq, and_true, true_and, and_assoc, Bool.false_eq_true, List.map_cons, List.map_nil, List.length_cons, List.length_nil, List.append_nil, List.cons_append, List.nil_append, List.replicate_succ, List.replicate_zero, List.getElem?_cons_zero, List.getElem?_cons_succ, List.set_cons_zero, List.set_cons_succ, Option.some.injEq, List.cons.injEq, exists_eq_left', exists_and_left, exists_eq_left, asV_ex, asI_ex, asB_ex, asR_ex, rEqm_ex, rNem_ex, scal_ii, scal_bb, L2.start, wipe, Nat.reduceAdd, Nat.reduceSub, reduceIte])
    refine ⟨r, rfl, ⟨_, hS⟩, fun D hD => ?_⟩
    refine lc_list (xs := rowV st) (fun i H' => Same H H' ∧ H' D = some (.lst (((st.take i).map fun (j : Nat) => (FtBlocks.Box.block x j).l).map V.int))) ⟨same_new hD, upd_same⟩ (fun i H' _ q => q.1.seq hS) (fun i v H' hv q => ?_) (fun H' q => ?_)
    · obtain ⟨s1, hP⟩ := q
      obtain ⟨j, hj, rfl⟩ := rowV_at hv
      obtain ⟨ps, q, h1, h2, hq⟩ := blk_at (hB.same s1) (hi j (List.mem_of_getElem? hj))
      (try dsimp only [tVarm, tC, tOp, tUn, rIm, rI0m, rUm, tTestm, tChainm, tAnd, tOr, tNot, tAndVm, tOrVm, tNotVm, tIf, tSeq, tNext, tAsg, gName, tIfS, tRet, tRetN, tDrop, tCall, tCB, tCons, tNil, tLst, tTup, tAugm, ipIm, tBM, rAppend, rIxLm, rCat, tIsN, tNotN, rIxTm, rExtend, gTup, gCons, gNil, tYes, rSum, rAll, asV_is, asI_is, asB_is, asR_is, rEqm_ii, rNem_ii, scal_ii, scal_bb, rLtL, rMaxD, rMinD, L2.start, wipe, List.map_cons, List.map_nil, List.length_cons, List.length_nil, List.append_nil, List.cons_append, List.nil_append, List.replicate_succ, List.replicate_zero, List.getElem?_cons_zero, List.getElem?_cons_succ, List.set_cons_zero, List.set_cons_succ]); (try simp only [tVarm, tC, tOp, tUn, rIm, rI0m, rUm, tTestm, tChainm, tAnd, tOr, tNot, tAndVm, tOrVm, tNotVm, tIf, tSeq, tNext, tAsg, gName, tIfS, tRet, tRetN, tDrop, tCall, tCB, tCons, tNil, tLst, tTup, tAugm, ipIm, tBM, rAppend, rIxLm, rCat, tIsN, tNotN, rIxTm, rExtend, gTup, gCons, gNil, tYes, rSum, rAll, rLtL, rMaxD, rMinD, V.int.injEq, V.bl.injEq, V.str.injEq, V.ref.injEq, and_true, true_and, and_assoc, Bool.false_eq_true, List.map_cons, List.map_nil, List.length_cons, List.length_nil, List.append_nil, List.cons_append, List.nil_append, List.replicate_succ, List.replicate_zero, List.getElem?_cons_zero, List.getElem?_cons_succ, List.set_cons_zero, List.set_cons_succ, Option.some.injEq, List.cons.injEq, exists_eq_left', exists_and_left, exists_eq_left, asV_ex, asI_ex, asB_ex, asR_ex, rEqm_ex, rNem_ex, scal_ii, scal_bb, L2.start, wipe, Nat.reduceAdd, Nat.reduceSub, reduceIte])
      refine ⟨_, SqL.of h1, _, h2, q, rfl, _, SqL.of hq, _, rfl, _, hP, small_len ?_, upd_keep s1 hD, ?_⟩
      · rw [List.length_map, List.length_map, List.length_take]
        (first | lia | omega)
      · rw [upd_same, take_snoc hj, List.map_append, List.map_append]
        rfl
    · obtain ⟨s1, hP⟩ := q
      have et : st.take (rowV st).length = st := by
        unfold rowV
        rw [List.length_map, List.take_length]
      rw [et] at hP
      exact ⟨D, rfl, _, SqL.of hP, k H' s1⟩
def sp_least_of (K : PySem.W.Frag) : Sp := fun vs H Q _ => ∃ (a r : Addr) (x : FtBlocks.Box) (s : List Nat), vs = [.ref a, .ref r] ∧ BoxAt H a x ∧ SqL K H r (rowV s) ∧ s.length ≤ 100 ∧ (∀ i ∈ s, i < x.length) ∧ ∀ H', Same H H' → Q (.int (FtBlocks.least_ x s)) H'

theorem sc_least_of : FnScope ["blocks", "row", "number"] ["blocks", "row"] (defScope st_least_of) := ⟨rfl, rfl, rfl, by decide +kernel, rfl, by decide +kernel, by decide +kernel⟩
theorem ok_least_of {P : Program} {w : World} {K : PySem.W.Frag} {mg : Str → Option Value} {base : Heap} (R : Raw K mg "least_of" st_least_of ["blocks", "row"]) (b_sum : mg "sum" = none) : Dn P w K mg base 1 "least_of" ["blocks", "row"] (sp_least_of K) := by
  refine R.dn fun f fd F => F.ok sc_least_of (fun vs H Q E h => ?_) (fun cdv A outer s H vs Q E hr h => ?_)
  ·
    obtain ⟨_, _, _, _, rfl, _⟩ := h
    rfl
  ·
    obtain ⟨a, r, x, st, rfl, hB, hS, hl, hi, k⟩ := h
    refine ⟨_, (pss_one (ps_ret (pe_callB (cr_sum rfl) rfl b_sum (by decide +kernel) (pa_cons (pe_lc rfl sc_least_of.nd (pi_list (pvm 1)) (own := [("number", 2)]) (blkOk_by (N := ["blocks", "row", "number"]) (sc := defScope st_least_of) (by decide +kernel)) (fun _ _ _ _ _ => (pg_name (i := 2) sc_least_of.nd rfl (by first | exact Or.inl rfl | exact Or.inr rfl))) (fun _ _ _ _ _ => pts_nil) (fun _ _ _ _ _ => (pe_op op_addm (pe_ix (ix_listKm K) (pe_ix (ix_listKm K) (pvm 0) (pvm 2) (fun _ _ => rfl)) pe_int (fun _ _ => rfl)) (pe_ix (ix_listKm K) (pe_ix (ix_listKm K) (pvm 0) (pvm 2) (fun _ _ => rfl)) pe_int (fun _ _ => rfl))))) pa_nil)))), ?_⟩
    (try dsimp only [tVarm, tC, tOp, tUn, rIm, rI0m, rUm, tTestm, tChainm, tAnd, tOr, tNot, tAndVm, tOrVm, tNotVm, tIf, tSeq, tNext, tAsg, gName, tIfS, tRet, tRetN, tDrop, tCall, tCB, tCons, tNil, tLst, tTup, tAugm, ipIm, tBM, rAppend, rIxLm, rCat, tIsN, tNotN, rIxTm, rExtend, gTup, gCons, gNil, tYes, rSum, rAll, asV_is, asI_is, asB_is, asR_is, rEqm_ii, rNem_ii, scal_ii, scal_bb, rLtL, rMaxD, rMinD, L2.start, wipe, List.map_cons, List.map_nil, List.length_cons, List.length_nil, List.append_nil, List.cons_append, List.nil_append, List.replicate_succ, List.replicate_zero, List.getElem?_cons_zero, List.getElem?_cons_succ, List.set_cons_zero, List.set_cons_succ]); (try simp only [tVarm, tC, tOp, tUn, rIm, rI0m, rUm, tTestm, tChainm, tAnd, tOr, tNot, tAndVm, tOrVm, tNotVm, tIf, tSeq, tNext, tAsg, gName, tIfS, tRet, tRetN, tDrop, tCall, tCB, tCons, tNil, tLst, tTup, tAugm, ipIm, tBM, rAppend, rIxLm, rCat, tIsN, tNotN, rIxTm, rExtend, gTup, gCons, gNil, tYes, rSum, rAll, rLtL, rMaxD, rMinD, V.int.injEq, V.bl.injEq, V.str.injEq, V.ref.injEq, and_true, true_and, and_assoc, Bool.false_eq_true, List.map_cons, List.map_nil, List.length_cons, List.length_nil, List.append_nil, List.cons_append, List.nil_append, List.replicate_succ, List.replicate_zero, List.getElem?_cons_zero, List.getElem?_cons_succ, List.set_cons_zero, List.set_cons_succ, Option.some.injEq, List.cons.injEq, exists_eq_left', exists_and_left, exists_eq_left, asV_ex, asI_ex, asB_ex, asR_ex, rEqm_ex, rNem_ex, scal_ii, scal_bb, L2.start, wipe, Nat.reduceAdd, Nat.reduceSub, reduceIte])
    refine ⟨r, rfl, ⟨_, hS⟩, fun D hD => ?_⟩
    refine lc_list (xs := rowV st) (fun i H' => Same H H' ∧ H' D = some (.lst (((st.take i).map fun (j : Nat) => (FtBlocks.Box.block x j).l + (FtBlocks.Box.block x j).lo).map V.int))) ⟨same_new hD, upd_same⟩ (fun i H' _ q => q.1.seq hS) (fun i v H' hv q => ?_) (fun H' q => ?_)
    · obtain ⟨s1, hP⟩ := q
      obtain ⟨j, hj, rfl⟩ := rowV_at hv
      obtain ⟨ps, q, h1, h2, hq⟩ := blk_at (hB.same s1) (hi j (List.mem_of_getElem? hj))
      (try dsimp only [tVarm, tC, tOp, tUn, rIm, rI0m, rUm, tTestm, tChainm, tAnd, tOr, tNot, tAndVm, tOrVm, tNotVm, tIf, tSeq, tNext, tAsg, gName, tIfS, tRet, tRetN, tDrop, tCall, tCB, tCons, tNil, tLst, tTup, tAugm, ipIm, tBM, rAppend, rIxLm, rCat, tIsN, tNotN, rIxTm, rExtend, gTup, gCons, gNil, tYes, rSum, rAll, asV_is, asI_is, asB_is, asR_is, rEqm_ii, rNem_ii, scal_ii, scal_bb, rLtL, rMaxD, rMinD, L2.start, wipe, List.map_cons, List.map_nil, List.length_cons, List.length_nil, List.append_nil, List.cons_append, List.nil_append, List.replicate_succ, List.replicate_zero, List.getElem?_cons_zero, List.getElem?_cons_succ, List.set_cons_zero, List.set_cons_succ]); (try simp only [tVarm, tC, tOp, tUn, rIm, rI0m, rUm, tTestm, tChainm, tAnd, tOr, tNot, tAndVm, tOrVm, tNotVm, tIf, tSeq, tNext, tAsg, gName, tIfS, tRet, tRetN, tDrop, tCall, tCB, tCons, tNil, tLst, tTup, tAugm, ipIm, tBM, rAppend, rIxLm, rCat, tIsN, tNotN, rIxTm, rExtend, gTup, gCons, gNil, tYes, rSum, rAll, rLtL, rMaxD, rMinD, V.int.injEq, V.bl.injEq, V.str.injEq, V.ref.injEq, and_true, true_and, and_assoc, Bool.false_eq_true, List.map_cons, List.map_nil, List.length_cons, List.length_nil, List.append_nil, List.cons_append, List.nil_append, List.replicate_succ, List.replicate_zero, List.getElem?_cons_zero, List.getElem?_cons_succ, List.set_cons_zero, List.set_cons_succ, Option.some.injEq, List.cons.injEq, exists_eq_left', exists_and_left, exists_eq_left, asV_ex, asI_ex, asB_ex, asR_ex, rEqm_ex, rNem_ex, scal_ii, scal_bb, L2.start, wipe, Nat.reduceAdd, Nat.reduceSub, reduceIte])
      refine ⟨_, SqL.of h1, _, h2, q, rfl, _, SqL.of hq, _, rfl, _, SqL.of h1, _, h2, q, rfl, _, SqL.of hq, _, rfl, _, rfl, _, rfl, _, hP, small_len ?_, upd_keep s1 hD, ?_⟩
      · rw [List.length_map, List.length_map, List.length_take]
        (first | lia | omega)
      · rw [upd_same, take_snoc hj, List.map_append, List.map_append]
        rfl
    · obtain ⟨s1, hP⟩ := q
      have et : st.take (rowV st).length = st := by
        unfold rowV
        rw [List.length_map, List.take_length]
      rw [et] at hP
      exact ⟨D, rfl, _, SqL.of hP, k H' s1⟩
def sp_most_of (K : PySem.W.Frag) : Sp := fun vs H Q _ => ∃ (a r : Addr) (x : FtBlocks.Box) (s : List Nat) (f : Int), vs = [.ref a, .ref r, .int f] ∧ BoxAt H a x ∧ SqL K H r (rowV s) ∧ s.length ≤ 100 ∧ (∀ i ∈ s, i < x.length) ∧ 0 ≤ f ∧ f ≤ 1000 ∧ ∀ H', Same H H' → Q (.int (FtBlocks.most_ x f.toNat s)) H'

theorem sc_most_of : FnScope ["blocks", "row", "f", "number"] ["blocks", "row", "f"] (defScope st_most_of) := ⟨rfl, rfl, rfl, by decide +kernel, rfl, by decide +kernel, by decide +kernel⟩
theorem ok_most_of {P : Program} {w : World} {K : PySem.W.Frag} {mg : Str → Option Value} {base : Heap} (R : Raw K mg "most_of" st_most_of ["blocks", "row", "f"]) (b_sum : mg "sum" = none) (b_len : mg "len" = none) : Dn P w K mg base 1 "most_of" ["blocks", "row", "f"] (sp_most_of K) := by
  refine R.dn fun f fd F => F.ok sc_most_of (fun vs H Q E h => ?_) (fun cdv A outer s H vs Q E hr h => ?_)
  ·
    obtain ⟨_, _, _, _, _, rfl, _⟩ := h
    rfl
  ·
    obtain ⟨a, r, x, st, f', rfl, hB, hS, hl, hi, f0, f1, k⟩ := h
    refine ⟨_, (pss_one (ps_ret (pe_op op_addm (pe_callB (cr_sum rfl) rfl b_sum (by decide +kernel) (pa_cons (pe_lc rfl sc_most_of.nd (pi_list (pvm 1)) (own := [("number", 3)]) (blkOk_by (N := ["blocks", "row", "f", "number"]) (sc := defScope st_most_of) (by decide +kernel)) (fun _ _ _ _ _ => (pg_name (i := 3) sc_most_of.nd rfl (by first | exact Or.inl rfl | exact Or.inr rfl))) (fun _ _ _ _ _ => pts_nil) (fun _ _ _ _ _ => (pe_op op_addm (pe_ix (ix_listKm K) (pe_ix (ix_listKm K) (pvm 0) (pvm 3) (fun _ _ => rfl)) pe_int (fun _ _ => rfl)) (pe_ix (ix_listKm K) (pe_ix (ix_listKm K) (pvm 0) (pvm 3) (fun _ _ => rfl)) pe_int (fun _ _ => rfl))))) pa_nil)) (pe_op op_mulm (pvm 2) (pe_op op_subm (pe_callB (call_len_seq) rfl b_len (by decide +kernel) (pa_cons (pvm 1) pa_nil)) pe_int))))), ?_⟩
    (try dsimp only [tVarm, tC, tOp, tUn, rIm, rI0m, rUm, tTestm, tChainm, tAnd, tOr, tNot, tAndVm, tOrVm, tNotVm, tIf, tSeq, tNext, tAsg, gName, tIfS, tRet, tRetN, tDrop, tCall, tCB, tCons, tNil, tLst, tTup, tAugm, ipIm, tBM, rAppend, rIxLm, rCat, tIsN, tNotN, rIxTm, rExtend, gTup, gCons, gNil, tYes, rSum, rAll, asV_is, asI_is, asB_is, asR_is, rEqm_ii, rNem_ii, scal_ii, scal_bb, rLtL, rMaxD, rMinD, L2.start, wipe, List.map_cons, List.map_nil, List.length_cons, List.length_nil, List.append_nil, List.cons_append, List.nil_append, List.replicate_succ, List.replicate_zero, List.getElem?_cons_zero, List.getElem?_cons_succ, List.set_cons_zero, List.set_cons_succ]); (try simp only [tVarm, tC, tOp, tUn, rIm, rI0m, rUm, tTestm, tChainm, tAnd, tOr, tNot, tAndVm, tOrVm, tNotVm, tIf, tSeq, tNext, tAsg, gName, tIfS, tRet, tRetN, tDrop, tCall, tCB, tCons, tNil, tLst, tTup, tAugm, ipIm, tBM, rAppend, rIxLm, rCat, tIsN, tNotN, rIxTm, rExtend, gTup, gCons, gNil, tYes, rSum, rAll, rLtL, rMaxD, rMinD, V.int.injEq, V.bl.injEq, V.str.injEq, V.ref.injEq, and_true, true_and, and_assoc, Bool.false_eq_true, List.map_cons, List.map_nil, List.length_cons, List.length_nil, List.append_nil, List.cons_append, List.nil_append, List.replicate_succ, List.replicate_zero, List.getElem?_cons_zero, List.getElem?_cons_succ, List.set_cons_zero, List.set_cons_succ, Option.some.injEq, List.cons.injEq, exists_eq_left', exists_and_left, exists_eq_left, asV_ex, asI_ex, asB_ex, asR_ex, rEqm_ex, rNem_ex, scal_ii, scal_bb, L2.start, wipe, Nat.reduceAdd, Nat.reduceSub, reduceIte])
    refine ⟨r, rfl, ⟨_, hS⟩, fun D hD => ?_⟩
    refine lc_list (xs := rowV st) (fun i H' => Same H H' ∧ H' D = some (.lst (((st.take i).map fun (j : Nat) => (FtBlocks.Box.block x j).l + (FtBlocks.Box.block x j).hi).map V.int))) ⟨same_new hD, upd_same⟩ (fun i H' _ q => q.1.seq hS) (fun i v H' hv q => ?_) (fun H' q => ?_)
    · obtain ⟨s1, hP⟩ := q
      obtain ⟨j, hj, rfl⟩ := rowV_at hv
      obtain ⟨ps, q, h1, h2, hq⟩ := blk_at (hB.same s1) (hi j (List.mem_of_getElem? hj))
      (try dsimp only [tVarm, tC, tOp, tUn, rIm, rI0m, rUm, tTestm, tChainm, tAnd, tOr, tNot, tAndVm, tOrVm, tNotVm, tIf, tSeq, tNext, tAsg, gName, tIfS, tRet, tRetN, tDrop, tCall, tCB, tCons, tNil, tLst, tTup, tAugm, ipIm, tBM, rAppend, rIxLm, rCat, tIsN, tNotN, rIxTm, rExtend, gTup, gCons, gNil, tYes, rSum, rAll, asV_is, asI_is, asB_is, asR_is, rEqm_ii, rNem_ii, scal_ii, scal_bb, rLtL, rMaxD, rMinD, L2.start, wipe, List.map_cons, List.map_nil, List.length_cons, List.length_nil, List.append_nil, List.cons_append, List.nil_append, List.replicate_succ, List.replicate_zero, List.getElem?_cons_zero, List.getElem?_cons_succ, List.set_cons_zero, List.set_cons_succ]); (try simp only [tVarm, tC, tOp, tUn, rIm, rI0m, rUm, tTestm, tChainm, tAnd, tOr, tNot, tAndVm, tOrVm, tNotVm, tIf, tSeq, tNext, tAsg, gName, tIfS, tRet, tRetN, tDrop, tCall, tCB, tCons, tNil, tLst, tTup, tAugm, ipIm, tBM, rAppend, rIxLm, rCat, tIsN, tNotN, rIxTm, rExtend, gTup, gCons, gNil, tYes, rSum, rAll, rLtL, rMaxD, rMinD, V.int.injEq, V.bl.injEq, V.str.injEq, V.ref.injEq, and_true, true_and, and_assoc, Bool.false_eq_true, List.map_cons, List.map_nil, List.length_cons, List.length_nil, List.append_nil, List.cons_append, List.nil_append, List.replicate_succ, List.replicate_zero, List.getElem?_cons_zero, List.getElem?_cons_succ, List.set_cons_zero, List.set_cons_succ, Option.some.injEq, List.cons.injEq, exists_eq_left', exists_and_left, exists_eq_left, asV_ex, asI_ex, asB_ex, asR_ex, rEqm_ex, rNem_ex, scal_ii, scal_bb, L2.start, wipe, Nat.reduceAdd, Nat.reduceSub, reduceIte])
      refine ⟨_, SqL.of h1, _, h2, q, rfl, _, SqL.of hq, _, rfl, _, SqL.of h1, _, h2, q, rfl, _, SqL.of hq, _, rfl, _, rfl, _, rfl, _, hP, small_len ?_, upd_keep s1 hD, ?_⟩
      · rw [List.length_map, List.length_map, List.length_take]
        (first | lia | omega)
      · rw [upd_same, take_snoc hj, List.map_append, List.map_append]
        rfl
    · obtain ⟨s1, hP⟩ := q
      have et : st.take (rowV st).length = st := by
        unfold rowV
        rw [List.length_map, List.take_length]
      rw [et] at hP
      have el : (rowV st).length = st.length := by
        unfold rowV
        rw [List.length_map]
      refine ⟨D, rfl, _, SqL.of hP, _, .inl (s1.seq hS), .inl ⟨by (first | lia | omega), by (first | lia | omega)⟩, ?_⟩
      have k := k H' s1
      unfold FtBlocks.most_ at k
      rw [Int.toNat_of_nonneg f0] at k
      rw [el]
      exact k
def sp_doubt_of (K : PySem.W.Frag) : Sp := fun vs H Q _ => ∃ (a r : Addr) (x : FtBlocks.Box) (s : List Nat) (f : Int), vs = [.ref a, .ref r, .int f] ∧ BoxAt H a x ∧ SqL K H r (rowV s) ∧ s.length ≤ 100 ∧ (∀ i ∈ s, i < x.length) ∧ 0 ≤ f ∧ f ≤ 1000 ∧ ∀ H', Same H H' → Q (.int (FtBlocks.doubt x f.toNat s)) H'

theorem sc_doubt_of : FnScope ["blocks", "row", "f"] ["blocks", "row", "f"] (defScope st_doubt_of) := ⟨rfl, rfl, rfl, by decide +kernel, rfl, by decide +kernel, by decide +kernel⟩
theorem ok_doubt_of {P : Program} {w : World} {K : PySem.W.Frag} {mg : Str → Option Value} {base : Heap} (R : Raw K mg "doubt_of" st_doubt_of ["blocks", "row", "f"]) (D_most_of : Dn P w K mg base 1 "most_of" ["blocks", "row", "f"] (sp_most_of K)) (D_least_of : Dn P w K mg base 1 "least_of" ["blocks", "row"] (sp_least_of K)) : Dn P w K mg base 2 "doubt_of" ["blocks", "row", "f"] (sp_doubt_of K) := by
  refine R.dn fun f fd F => F.ok sc_doubt_of (fun vs H Q E h => ?_) (fun cdv A outer s H vs Q E hr h => ?_)
  ·
    obtain ⟨_, _, _, _, _, rfl, _⟩ := h
    rfl
  ·
    obtain ⟨a, r, x, st, f', rfl, hB, hS, hl, hi, f0, f1, k⟩ := h
    refine ⟨_, (pss_one (ps_ret (pe_op op_subm (pe_callD D_most_of (hr.mono (by decide)) rfl (pa_cons (pvm 0) (pa_cons (pvm 1) (pa_cons (pvm 2) pa_nil)))) (pe_callD D_least_of (hr.mono (by decide)) rfl (pa_cons (pvm 0) (pa_cons (pvm 1) pa_nil)))))), ?_⟩
    (try dsimp only [tVarm, tC, tOp, tUn, rIm, rI0m, rUm, tTestm, tChainm, tAnd, tOr, tNot, tAndVm, tOrVm, tNotVm, tIf, tSeq, tNext, tAsg, gName, tIfS, tRet, tRetN, tDrop, tCall, tCB, tCons, tNil, tLst, tTup, tAugm, ipIm, tBM, rAppend, rIxLm, rCat, tIsN, tNotN, rIxTm, rExtend, gTup, gCons, gNil, tYes, rSum, rAll, asV_is, asI_is, asB_is, asR_is, rEqm_ii, rNem_ii, scal_ii, scal_bb, rLtL, rMaxD, rMinD, L2.start, wipe, sp_most_of, sp_least_of, List.map_cons, List.map_nil, List.length_cons, List.length_nil, List.append_nil, List.cons_append, List.nil_append, List.replicate_succ, List.replicate_zero, List.getElem?_cons_zero, List.getElem?_cons_succ, List.set_cons_zero, List.set_cons_succ]); (try simp only [tVarm, tC, tOp, tUn, rIm, rI0m, rUm, tTestm, tChainm, tAnd, tOr, tNot, tAndVm, tOrVm, tNotVm, tIf, tSeq, tNext, tAsg, gName, tIfS, tRet, tRetN, tDrop, tCall, tCB, tCons, tNil, tLst, tTup, tAugm, ipIm, tBM, rAppend, rIxLm, rCat, tIsN, tNotN, rIxTm, rExtend, gTup, gCons, gNil, tYes, rSum, rAll, rLtL, rMaxD, rMinD, V.int.injEq, V.bl.injEq, V.str.injEq, V.ref.injEq, and_true, true_and, and_assoc, Bool.false_eq_true, List.map_cons, List.map_nil, List.length_cons, List.length_nil, List.append_nil, List.cons_append, List.nil_append, List.replicate_succ, List.replicate_zero, List.getElem?_cons_zero, List.getElem?_cons_succ, List.set_cons_zero, List.set_cons_succ, Option.some.injEq, List.cons.injEq, exists_eq_left', exists_and_left, exists_eq_left, asV_ex, asI_ex, asB_ex, asR_ex, rEqm_ex, rNem_ex, scal_ii, scal_bb, L2.start, wipe, Nat.reduceAdd, Nat.reduceSub, reduceIte, sp_most_of, sp_least_of])
    exact ⟨x, hB, st, hS, hl, hi, f0, f1, fun H1 s1 => ⟨x, hB.same s1, st, s1.seq hS, hl, hi, fun H2 s2 => k H2 (s1.trans s2)⟩⟩
def RowsAt (H : Hp) (a : Addr) (l : List (List Nat)) : Prop := ∃ qs : List Addr, H a = some (.lst (qs.map V.ref)) ∧ Paired (fun q s => H q = some (.lst (rowV s))) qs l
theorem RowsAt.same {H H' : Hp} {a : Addr} {l : List (List Nat)} (s : Same H H') (h : RowsAt H a l) : RowsAt H' a l := by
  obtain ⟨ps, h1, h2⟩ := h
  exact ⟨ps, s _ _ h1, Paired.mapP h2 fun q b e => s _ _ e⟩
def sp_one_longer (K : PySem.W.Frag) : Sp := fun vs H Q _ => ∃ (a b : Addr) (l : List (List Nat)) (fr : List Nat), vs = [.ref a, .ref b] ∧ RowsAt H a l ∧ SqL K H b (rowV fr) ∧ (∀ s ∈ l, s ≠ []) ∧ (∀ s ∈ l, s.length ≤ 10) ∧ (GA.longer l fr).length ≤ 10000000 ∧ fr.length ≤ 20 ∧ ∀ p H', H p = none → Same H H' → RowsAt H' p (GA.longer l fr) → Q (.ref p) H'
theorem row_ne {H : Hp} {p q : Addr} {s : List Nat} {qs : List Addr} (hs : s ≠ []) (hq : H q = some (.lst (rowV s))) (hp : H p = some (.lst (qs.map V.ref))) : q ≠ p := fun z => by
  rw [z, hp] at hq
  have h1 := HO.lst.inj (Option.some.inj hq)
  cases s with
  | nil => exact hs rfl
  | cons i s =>
    cases qs with
    | nil => cases h1
    | cons u us =>
      have h2 : V.ref u :: us.map V.ref = V.int (i : Nat) :: rowV s := h1
      injection h2 with h3
      cases h3
theorem longer_append (l m : List (List Nat)) (fr : List Nat) : GA.longer (l ++ m) fr = GA.longer l fr ++ GA.longer m fr := by
  unfold GA.longer
  rw [List.flatMap_append]
theorem longer_take_le (l : List (List Nat)) (fr : List Nat) (i : Nat) : (GA.longer (l.take i) fr).length ≤ (GA.longer l fr).length := by
  have e : GA.longer l fr = GA.longer (l.take i) fr ++ GA.longer (l.drop i) fr := by
    rw [← longer_append, List.take_append_drop]
  rw [e, List.length_append]
  (first | lia | omega)
theorem longer_one (s : List Nat) (fr : List Nat) : GA.longer [s] fr = (fr.filter fun i => decide (s.getLastD 0 < i)).map fun i => s ++ [i] := by
  unfold GA.longer
  rw [List.flatMap_cons, List.flatMap_nil, List.append_nil]
theorem longer_ne {l : List (List Nat)} {fr : List Nat} {s : List Nat} (h : s ∈ GA.longer l fr) : s ≠ [] := by
  unfold GA.longer at h
  obtain ⟨r, _, h2⟩ := List.mem_flatMap.mp h
  obtain ⟨i, _, rfl⟩ := List.mem_map.mp h2
  simp
theorem paired_append {α β : Type} {R : α → β → Prop} : ∀ {xs : List α} {ys : List β}, Paired R xs ys → ∀ {us : List α} {vs : List β}, Paired R us vs → Paired R (xs ++ us) (ys ++ vs)
  | _, _, .nil, _, _, h => h
  | _, _, .cons a b, _, _, h => .cons a (paired_append b h)
theorem paired_mem {α β : Type} {R S : α → β → Prop} : ∀ {xs : List α} {ys : List β}, Paired R xs ys → (∀ a b, b ∈ ys → R a b → S a b) → Paired S xs ys
  | _, _, .nil, _ => .nil
  | _, _, .cons a b, h => .cons (h _ _ List.mem_cons_self a) (paired_mem b fun x y m => h x y (List.mem_cons_of_mem _ m))
theorem row_last {s : List Nat} (h : s ≠ []) : atI (rowV s) (-1) = some (.int ((s.getLastD 0 : Nat) : Int)) := by
  obtain ⟨l, j, rfl⟩ : ∃ l j, s = l ++ [j] := ⟨s.dropLast, s.getLast h, (List.dropLast_concat_getLast h).symm⟩
  unfold rowV
  rw [List.map_append]
  have e2 : (l ++ [j]).getLastD 0 = j := by simp
  rw [e2]
  exact atI_last _ _
theorem big_ok {n : Nat} (h : n ≤ 10000000) : n ≤ sizeLine := Nat.le_trans h (by decide)
theorem big_lt {n : Nat} (h : n ≤ 10000000) : n < sizeLine := Nat.lt_of_le_of_lt h (by decide)
/-- a list of rows that grows -/
theorem rows_more {H : Hp} {p : Addr} {l m : List (List Nat)} {qs us : List Addr} (hp : H p = some (.lst (qs.map V.ref))) (h1 : Paired (fun q s => H q = some (.lst (rowV s))) qs l) (h2 : Paired (fun q s => H q = some (.lst (rowV s))) us m) (n1 : ∀ s ∈ l, s ≠ []) (n2 : ∀ s ∈ m, s ≠ []) :
    RowsAt (upd H p (.lst (qs.map V.ref ++ us.map V.ref))) p (l ++ m) := by
  refine ⟨qs ++ us, by rw [upd_same, List.map_append], paired_append (paired_mem h1 fun q s ms e => ?_) (paired_mem h2 fun q s ms e => ?_)⟩
  · rw [upd_ne (row_ne (n1 s ms) e hp)]
    exact e
  · rw [upd_ne (row_ne (n2 s ms) e hp)]
    exact e

theorem sc_one_longer : FnScope ["rows", "free", "longer", "row", "number"] ["rows", "free"] (defScope st_one_longer) := ⟨rfl, rfl, rfl, by decide +kernel, rfl, by decide +kernel, by decide +kernel⟩
theorem ok_one_longer {P : Program} {w : World} {K : PySem.W.Frag} {mg : Str → Option Value} {base : Heap} (R : Raw K mg "one_longer" st_one_longer ["rows", "free"]) : Dn P w K mg base 1 "one_longer" ["rows", "free"] (sp_one_longer K) := by
  refine R.dn fun f fd F => F.ok sc_one_longer (fun vs H Q E h => ?_) (fun cdv A outer s H vs Q E hr h => ?_)
  ·
    obtain ⟨_, _, _, _, rfl, _⟩ := h
    rfl
  ·
    obtain ⟨a, b, l, fr, rfl, hA, hF, hne, hll, hlen, hfl, k⟩ := h
    refine ⟨_, (pss_cons (ps_set (i := 2) sc_one_longer.nd rfl (Or.inl rfl) (pe_lst pa_nil)) (pss_cons (ps_for PassesOwn.never rfl (pi_list (pvm 0)) (pg_name (i := 3) sc_one_longer.nd rfl (by first | exact Or.inl rfl | exact Or.inr rfl)) (pss_one (ps_expr (pe_bm PySem.F.plainAttrs_list PySem.F.slot_list_extend PySem.F.type_list_extend mt_extend (pvm 2) (pa_cons (pe_lc rfl sc_one_longer.nd (pi_list (pvm 1)) (own := [("number", 4)]) (blkOk_by (N := ["rows", "free", "longer", "row", "number"]) (sc := defScope st_one_longer) (by decide +kernel)) (fun _ _ _ _ _ => (pg_name (i := 4) sc_one_longer.nd rfl (by first | exact Or.inl rfl | exact Or.inr rfl))) (fun _ _ _ _ _ => (pts_one (pt_cmpRm op_gtm (pvm 4) (pe_ix (ix_listKm K) (pvm 3) (pe_un un_negm pe_int) (fun _ _ => rfl)) (nomark _)))) (fun _ _ _ _ _ => (pe_op op_cat (pvm 3) (pe_lst (pa_cons (pvm 4) pa_nil))))) pa_nil))))) (pss_one (ps_ret (pvm 2))))), ?_⟩
    (try dsimp only [tVarm, tC, tOp, tUn, rIm, rI0m, rUm, tTestm, tChainm, tAnd, tOr, tNot, tAndVm, tOrVm, tNotVm, tIf, tSeq, tNext, tAsg, gName, tIfS, tRet, tRetN, tDrop, tCall, tCB, tCons, tNil, tLst, tTup, tAugm, ipIm, tBM, rAppend, rIxLm, rCat, tIsN, tNotN, rIxTm, rExtend, gTup, gCons, gNil, tYes, rSum, rAll, asV_is, asI_is, asB_is, asR_is, rEqm_ii, rNem_ii, scal_ii, scal_bb, rLtL, rMaxD, rMinD, L2.start, wipe, List.map_cons, List.map_nil, List.length_cons, List.length_nil, List.append_nil, List.cons_append, List.nil_append, List.replicate_succ, List.replicate_zero, List.getElem?_cons_zero, List.getElem?_cons_succ, List.set_cons_zero, List.set_cons_succ]); (try simp only [tVarm, tC, tOp, tUn, rIm, rI0m, rUm, tTestm, tChainm, tAnd, tOr, tNot, tAndVm, tOrVm, tNotVm, tIf, tSeq, tNext, tAsg, gName, tIfS, tRet, tRetN, tDrop, tCall, tCB, tCons, tNil, tLst, tTup, tAugm, ipIm, tBM, rAppend, rIxLm, rCat, tIsN, tNotN, rIxTm, rExtend, gTup, gCons, gNil, tYes, rSum, rAll, rLtL, rMaxD, rMinD, V.int.injEq, V.bl.injEq, V.str.injEq, V.ref.injEq, and_true, true_and, and_assoc, Bool.false_eq_true, List.map_cons, List.map_nil, List.length_cons, List.length_nil, List.append_nil, List.cons_append, List.nil_append, List.replicate_succ, List.replicate_zero, List.getElem?_cons_zero, List.getElem?_cons_succ, List.set_cons_zero, List.set_cons_succ, Option.some.injEq, List.cons.injEq, exists_eq_left', exists_and_left, exists_eq_left, asV_ex, asI_ex, asB_ex, asR_ex, rEqm_ex, rNem_ex, scal_ii, scal_bb, L2.start, wipe, Nat.reduceAdd, Nat.reduceSub, reduceIte])
    refine ⟨by decide, fun p hp => ?_⟩
    obtain ⟨qs, hq1, hq2⟩ := hA
    refine ⟨a, rfl, ⟨_, SqL.of (same_new hp _ _ hq1)⟩, ?_⟩
    have ql : qs.length = l.length := hq2.length
    refine for_list (xs := qs.map V.ref) (fun i σ' H' => Same H H' ∧ (∃ x3 x4, σ' = [some (.ref a), some (.ref b), some (.ref p), x3, x4]) ∧ RowsAt H' p (GA.longer (l.take i) fr)) ⟨same_new hp, ⟨none, none, rfl⟩, [], upd_same, .nil⟩ (fun i σ' H' _ q => SqL.of (q.1 a _ hq1)) (fun i v σ' H' hv q => ?_) (fun σ' H' q => ?_)
    · obtain ⟨s1, ⟨x3, x4, rfl⟩, hRA⟩ := q
      obtain ⟨us, hu1, hu2⟩ := hRA
      rw [List.getElem?_map] at hv
      cases hy : qs[i]? with
      | none =>
        rw [hy] at hv
        cases hv
      | some r =>
        rw [hy] at hv
        cases hv
        obtain ⟨st, hst, hr'⟩ := paired_at hq2 hy
        have hRr := s1 _ _ hr'
        have mst : st ∈ l := List.mem_of_getElem? hst
        have nst := hne st mst
        have et := take_snoc hst
        (try dsimp only [tVarm, tC, tOp, tUn, rIm, rI0m, rUm, tTestm, tChainm, tAnd, tOr, tNot, tAndVm, tOrVm, tNotVm, tIf, tSeq, tNext, tAsg, gName, tIfS, tRet, tRetN, tDrop, tCall, tCB, tCons, tNil, tLst, tTup, tAugm, ipIm, tBM, rAppend, rIxLm, rCat, tIsN, tNotN, rIxTm, rExtend, gTup, gCons, gNil, tYes, rSum, rAll, asV_is, asI_is, asB_is, asR_is, rEqm_ii, rNem_ii, scal_ii, scal_bb, rLtL, rMaxD, rMinD, L2.start, wipe, List.map_cons, List.map_nil, List.length_cons, List.length_nil, List.append_nil, List.cons_append, List.nil_append, List.replicate_succ, List.replicate_zero, List.getElem?_cons_zero, List.getElem?_cons_succ, List.set_cons_zero, List.set_cons_succ]); (try simp only [tVarm, tC, tOp, tUn, rIm, rI0m, rUm, tTestm, tChainm, tAnd, tOr, tNot, tAndVm, tOrVm, tNotVm, tIf, tSeq, tNext, tAsg, gName, tIfS, tRet, tRetN, tDrop, tCall, tCB, tCons, tNil, tLst, tTup, tAugm, ipIm, tBM, rAppend, rIxLm, rCat, tIsN, tNotN, rIxTm, rExtend, gTup, gCons, gNil, tYes, rSum, rAll, rLtL, rMaxD, rMinD, V.int.injEq, V.bl.injEq, V.str.injEq, V.ref.injEq, and_true, true_and, and_assoc, Bool.false_eq_true, List.map_cons, List.map_nil, List.length_cons, List.length_nil, List.append_nil, List.cons_append, List.nil_append, List.replicate_succ, List.replicate_zero, List.getElem?_cons_zero, List.getElem?_cons_succ, List.set_cons_zero, List.set_cons_succ, Option.some.injEq, List.cons.injEq, exists_eq_left', exists_and_left, exists_eq_left, asV_ex, asI_ex, asB_ex, asR_ex, rEqm_ex, rNem_ex, scal_ii, scal_bb, L2.start, wipe, Nat.reduceAdd, Nat.reduceSub, reduceIte])
        refine ⟨.inl ⟨rfl, _, SqL.of hu1⟩, ?_⟩
        refine ⟨b, rfl, ⟨_, s1.seq hF⟩, fun D hD => ?_⟩
        refine lc_list (xs := rowV fr) (fun j H2 => Same H' H2 ∧ RowsAt H2 D (((fr.take j).filter fun n => decide (st.getLastD 0 < n)).map fun n => st ++ [n])) ⟨same_new hD, [], upd_same, .nil⟩ (fun j H2 _ q => q.1.seq (s1.seq hF)) (fun j v H2 hv q => ?_) (fun H2 q => ?_)
        · obtain ⟨s2, ws, hw1, hw2⟩ := q
          obtain ⟨n, hn, rfl⟩ := rowV_at hv
          have etn := take_snoc hn
          (try dsimp only [tVarm, tC, tOp, tUn, rIm, rI0m, rUm, tTestm, tChainm, tAnd, tOr, tNot, tAndVm, tOrVm, tNotVm, tIf, tSeq, tNext, tAsg, gName, tIfS, tRet, tRetN, tDrop, tCall, tCB, tCons, tNil, tLst, tTup, tAugm, ipIm, tBM, rAppend, rIxLm, rCat, tIsN, tNotN, rIxTm, rExtend, gTup, gCons, gNil, tYes, rSum, rAll, asV_is, asI_is, asB_is, asR_is, rEqm_ii, rNem_ii, scal_ii, scal_bb, rLtL, rMaxD, rMinD, L2.start, wipe, List.map_cons, List.map_nil, List.length_cons, List.length_nil, List.append_nil, List.cons_append, List.nil_append, List.replicate_succ, List.replicate_zero, List.getElem?_cons_zero, List.getElem?_cons_succ, List.set_cons_zero, List.set_cons_succ]); (try simp only [tVarm, tC, tOp, tUn, rIm, rI0m, rUm, tTestm, tChainm, tAnd, tOr, tNot, tAndVm, tOrVm, tNotVm, tIf, tSeq, tNext, tAsg, gName, tIfS, tRet, tRetN, tDrop, tCall, tCB, tCons, tNil, tLst, tTup, tAugm, ipIm, tBM, rAppend, rIxLm, rCat, tIsN, tNotN, rIxTm, rExtend, gTup, gCons, gNil, tYes, rSum, rAll, rLtL, rMaxD, rMinD, V.int.injEq, V.bl.injEq, V.str.injEq, V.ref.injEq, and_true, true_and, and_assoc, Bool.false_eq_true, List.map_cons, List.map_nil, List.length_cons, List.length_nil, List.append_nil, List.cons_append, List.nil_append, List.replicate_succ, List.replicate_zero, List.getElem?_cons_zero, List.getElem?_cons_succ, List.set_cons_zero, List.set_cons_succ, Option.some.injEq, List.cons.injEq, exists_eq_left', exists_and_left, exists_eq_left, asV_ex, asI_ex, asB_ex, asR_ex, rEqm_ex, rNem_ex, scal_ii, scal_bb, L2.start, wipe, Nat.reduceAdd, Nat.reduceSub, reduceIte])
          refine ⟨_, SqL.of (s2 _ _ hRr), _, row_last nst, _, rfl, ?_⟩
          have wl : ws.length ≤ 20 := by
            have h1 := hw2.length
            rw [List.length_map] at h1
            have h2 := List.length_filter_le (fun n => decide (st.getLastD 0 < n)) (fr.take j)
            rw [List.length_take] at h2
            (first | lia | omega)
          by_cases c : st.getLastD 0 < n
          · refine iteT' (decide_eq_true (by (first | lia | omega))) ?_
            refine ⟨by decide, fun p3 hp3 => ⟨_, same_new hp3 _ _ (s2 _ _ hRr), _, upd_same, ?_, fun p4 hp4 => ?_⟩⟩
            · have := hll st mst
              unfold rowV
              rw [List.length_map]
              exact Nat.le_trans (show _ ≤ 100 by simp only [List.length_cons, List.length_nil]; (first | lia | omega)) (by decide)
            have s3 := (same_new (o := .lst [.int (n : Nat)]) hp3).trans (same_new (o := .lst (rowV st ++ [.int (n : Nat)])) hp4)
            have hD4 := s3 _ _ hw1
            refine ⟨_, hD4, ?_, upd_keep (s2.trans s3) hD, ?_⟩
            · rw [List.length_map]
              exact small_len (by (first | lia | omega))
            · have ef : ((fr.take (j + 1)).filter fun n => decide (st.getLastD 0 < n)).map (fun n => st ++ [n]) = (((fr.take j).filter fun n => decide (st.getLastD 0 < n)).map fun n => st ++ [n]) ++ [st ++ [n]] := by
                rw [etn, List.filter_append, List.map_append]
                have : [n].filter (fun n => decide (st.getLastD 0 < n)) = [n] := by
                  rw [List.filter_cons, if_pos (by simpa using c)]
                  rfl
                rw [this]
                rfl
              rw [ef]
              refine rows_more (us := [p4]) hD4 (Paired.mapP hw2 fun q s e => s3 _ _ e) (.cons ?_ .nil) (fun s m => ?_) (fun s m => ?_)
              · rw [upd_same]
                unfold rowV
                rw [List.map_append]
                rfl
              · obtain ⟨n', _, rfl⟩ := List.mem_map.mp m
                simp
              · have : s = st ++ [n] := by simpa using m
                rw [this]
                simp
          · refine iteF' (decide_eq_false (by (first | lia | omega))) ⟨s2, ?_⟩
            have ef : ((fr.take (j + 1)).filter fun n => decide (st.getLastD 0 < n)).map (fun n => st ++ [n]) = (((fr.take j).filter fun n => decide (st.getLastD 0 < n)).map fun n => st ++ [n]) := by
              rw [etn, List.filter_append, List.map_append]
              have : [n].filter (fun n => decide (st.getLastD 0 < n)) = [] := by
                rw [List.filter_cons, if_neg (by simpa using c)]
                rfl
              rw [this]
              exact List.append_nil _
            rw [ef]
            exact ⟨ws, hw1, hw2⟩
        · obtain ⟨s2, ws, hw1, hw2⟩ := q
          have ef : fr.take (rowV fr).length = fr := by
            unfold rowV
            rw [List.length_map, List.take_length]
          rw [ef, ← longer_one] at hw2
          have e1 : GA.longer (l.take (i + 1)) fr = GA.longer (l.take i) fr ++ GA.longer [st] fr := by
            rw [et, longer_append]
          have u1 : us.length = (GA.longer (l.take i) fr).length := hu2.length
          have w1 : ws.length = (GA.longer [st] fr).length := hw2.length
          refine ⟨D, rfl, _, s2 _ _ hu1, _, hw1, big_ok ?_, upd_keep (s1.trans s2) hp, ⟨_, rfl⟩, ?_⟩
          · rw [List.length_map, List.length_map, u1, w1]
            have h1 := longer_take_le l fr (i + 1)
            rw [e1, List.length_append] at h1
            (first | lia | omega)
          · rw [e1]
            exact rows_more (s2 _ _ hu1) (Paired.mapP hu2 fun q s e => s2 _ _ e) hw2 (fun s m => longer_ne m) (fun s m => longer_ne m)
    · obtain ⟨s1, ⟨x3, x4, rfl⟩, hRA⟩ := q
      (try dsimp only [tVarm, tC, tOp, tUn, rIm, rI0m, rUm, tTestm, tChainm, tAnd, tOr, tNot, tAndVm, tOrVm, tNotVm, tIf, tSeq, tNext, tAsg, gName, tIfS, tRet, tRetN, tDrop, tCall, tCB, tCons, tNil, tLst, tTup, tAugm, ipIm, tBM, rAppend, rIxLm, rCat, tIsN, tNotN, rIxTm, rExtend, gTup, gCons, gNil, tYes, rSum, rAll, asV_is, asI_is, asB_is, asR_is, rEqm_ii, rNem_ii, scal_ii, scal_bb, rLtL, rMaxD, rMinD, L2.start, wipe, List.map_cons, List.map_nil, List.length_cons, List.length_nil, List.append_nil, List.cons_append, List.nil_append, List.replicate_succ, List.replicate_zero, List.getElem?_cons_zero, List.getElem?_cons_succ, List.set_cons_zero, List.set_cons_succ]); (try simp only [tVarm, tC, tOp, tUn, rIm, rI0m, rUm, tTestm, tChainm, tAnd, tOr, tNot, tAndVm, tOrVm, tNotVm, tIf, tSeq, tNext, tAsg, gName, tIfS, tRet, tRetN, tDrop, tCall, tCB, tCons, tNil, tLst, tTup, tAugm, ipIm, tBM, rAppend, rIxLm, rCat, tIsN, tNotN, rIxTm, rExtend, gTup, gCons, gNil, tYes, rSum, rAll, rLtL, rMaxD, rMinD, V.int.injEq, V.bl.injEq, V.str.injEq, V.ref.injEq, and_true, true_and, and_assoc, Bool.false_eq_true, List.map_cons, List.map_nil, List.length_cons, List.length_nil, List.append_nil, List.cons_append, List.nil_append, List.replicate_succ, List.replicate_zero, List.getElem?_cons_zero, List.getElem?_cons_succ, List.set_cons_zero, List.set_cons_succ, Option.some.injEq, List.cons.injEq, exists_eq_left', exists_and_left, exists_eq_left, asV_ex, asI_ex, asB_ex, asR_ex, rEqm_ex, rNem_ex, scal_ii, scal_bb, L2.start, wipe, Nat.reduceAdd, Nat.reduceSub, reduceIte])
      have et : l.take (qs.map V.ref).length = l := by
        rw [List.length_map, ql, List.take_length]
      rw [et] at hRA
      exact k p H' hp s1 hRA
def sp_stacks_without (K : PySem.W.Frag) : Sp := fun vs H Q _ => ∃ (b : Addr) (x : FtBlocks.Box) (bar : List Int), vs = [.int (x.length : Nat), .ref b] ∧ SqL K H b (bar.map V.int) ∧ GA.NonNeg bar ∧ x.length ≤ 20 ∧ ∀ p H', H p = none → Same H H' → RowsAt H' p (GA.allTo (GA.free x (FitANeutral.nats bar)) 4) → Q (.ref p) H'
theorem bar_in {bar : List Int} (hnn : GA.NonNeg bar) (j : Nat) : inV (.int (j : Nat)) (bar.map V.int) = (FitANeutral.nats bar).contains j := by
  induction bar with
  | nil => rfl
  | cons c bar ih =>
    have hc := hnn c List.mem_cons_self
    have i := ih fun d m => hnn d (List.mem_cons_of_mem _ m)
    have e1 : inV (.int (j : Nat)) ((c :: bar).map V.int) = ((c == ((j : Nat) : Int)) || inV (.int (j : Nat)) (bar.map V.int)) := rfl
    have e2 : (FitANeutral.nats (c :: bar)).contains j = ((j == c.toNat) || (FitANeutral.nats bar).contains j) := by
      show (c.toNat :: FitANeutral.nats bar).contains j = _
      rw [List.contains_cons]
    rw [e1, e2, i]
    congr 1
    apply Bool.eq_iff_iff.mpr
    simp only [beq_iff_eq]
    (first | lia | omega)
theorem bar_flat (bar : List Int) : (bar.map V.int).all flatV = true := by
  rw [List.all_eq_true]
  intro v m
  obtain ⟨c, _, rfl⟩ := List.mem_map.mp m
  rfl
theorem rowsN_ne {fr : List Nat} {k : Nat} {s : List Nat} (h : s ∈ GA.rowsN fr k) : s ≠ [] := fun z => by
  have := ((GA.mem_rowsN fr k s).mp h).1
  rw [z] at this
  simp at this
theorem rowsN_le {fr : List Nat} {k : Nat} {s : List Nat} (h : s ∈ GA.rowsN fr k) : s.length ≤ k + 1 := Nat.le_of_eq ((GA.mem_rowsN fr k s).mp h).1
theorem pow20 {fr : List Nat} (h : fr.length ≤ 20) (k : Nat) : (GA.rowsN fr k).length ≤ 20 ^ (k + 1) := Nat.le_trans (GA.rows_len fr k) (Nat.pow_le_pow_left h _)
theorem allTo_ne {fr : List Nat} {k : Nat} {s : List Nat} (h : s ∈ GA.allTo fr k) : s ≠ [] := ((GA.mem_allTo fr k s).mp h).1
theorem allTo_len {fr : List Nat} (h : fr.length ≤ 20) : ∀ k : Nat, k ≤ 4 → (GA.allTo fr k).length ≤ (k + 1) * 20 ^ (k + 1)
  | 0, _ => by
    have := pow20 h 0
    show (GA.rowsN fr 0).length ≤ _
    (first | lia | omega)
  | k + 1, hk => by
    have h1 := allTo_len h k (by (first | lia | omega))
    have h2 := pow20 h (k + 1)
    show (GA.allTo fr k ++ GA.rowsN fr (k + 1)).length ≤ _
    rw [List.length_append]
    have h3 : 20 ^ (k + 1) ≤ 20 ^ (k + 1 + 1) := Nat.pow_le_pow_right (by decide) (by (first | lia | omega))
    have h4 : (k + 1) * 20 ^ (k + 1) ≤ (k + 1) * 20 ^ (k + 1 + 1) := Nat.mul_le_mul_left _ h3
    have h5 : (k + 1 + 1) * 20 ^ (k + 1 + 1) = (k + 1) * 20 ^ (k + 1 + 1) + 20 ^ (k + 1 + 1) := by rw [Nat.add_mul, Nat.one_mul]
    (first | lia | omega)
theorem pow_le_5 {k : Nat} (h : k ≤ 5) : 20 ^ k ≤ 3200000 := Nat.le_trans (Nat.pow_le_pow_right (by decide) h) (by decide)

theorem sc_stacks_without : FnScope ["count", "barred", "free", "rows", "stacks", "size", "number"] ["count", "barred"] (defScope st_stacks_without) := ⟨rfl, rfl, rfl, by decide +kernel, rfl, by decide +kernel, by decide +kernel⟩
theorem ok_stacks_without {P : Program} {w : World} {K : PySem.W.Frag} {mg : Str → Option Value} {base : Heap} (R : Raw K mg "stacks_without" st_stacks_without ["count", "barred"]) {t_MOST_IN_STACK : Tok} (g_MOST_IN_STACK : mg "MOST_IN_STACK" = some (.int (5) t_MOST_IN_STACK)) (b_list : mg "list" = none) (b_range : mg "range" = none) (D_one_longer : Dn P w K mg base 1 "one_longer" ["rows", "free"] (sp_one_longer K)) : Dn P w K mg base 2 "stacks_without" ["count", "barred"] (sp_stacks_without K) := by
  refine R.dn fun f fd F => F.ok sc_stacks_without (fun vs H Q E h => ?_) (fun cdv A outer s H vs Q E hr h => ?_)
  ·
    obtain ⟨_, _, _, rfl, _⟩ := h
    rfl
  ·
    obtain ⟨b, x, bar, rfl, hS, hnn, hx, k⟩ := h
    refine ⟨_, (pss_cons (ps_setLc (i := 2) rfl sc_stacks_without.nd rfl rfl (sw_true rfl rfl (by decide) (by decide +kernel)) (pi_range1 rfl b_range (pa_cons (pvm 0) pa_nil)) (own := [("number", 6)]) (blkOk_by (N := ["count", "barred", "free", "rows", "stacks", "size", "number"]) (sc := defScope st_stacks_without) (by decide +kernel)) (fun _ _ _ _ _ => (pg_name (i := 6) sc_stacks_without.nd rfl (by first | exact Or.inl rfl | exact Or.inr rfl))) (fun _ _ _ _ _ => (pts_one (pt_cmpRm (op_notIn_seqK K) (pvm 6) (pvm 1) (by with_unfolding_all rfl)))) (fun _ _ _ _ _ => (pvm 6))) (pss_cons (ps_setLc (i := 3) rfl sc_stacks_without.nd rfl rfl (sw_true rfl rfl (by decide) (by decide +kernel)) (pi_list (pvm 2)) (own := [("number", 6)]) (blkOk_by (N := ["count", "barred", "free", "rows", "stacks", "size", "number"]) (sc := defScope st_stacks_without) (by decide +kernel)) (fun _ _ _ _ _ => (pg_name (i := 6) sc_stacks_without.nd rfl (by first | exact Or.inl rfl | exact Or.inr rfl))) (fun _ _ _ _ _ => pts_nil) (fun _ _ _ _ _ => (pe_lst (pa_cons (pvm 6) pa_nil)))) (pss_cons (ps_set (i := 4) sc_stacks_without.nd rfl (Or.inl rfl) (pe_callTy (call_list_of) rfl b_list (by decide +kernel) (pa_cons (pvm 3) pa_nil))) (pss_cons (ps_for PassesOwn.never rfl (pi_range2 rfl b_range (pa_cons pe_int (pa_cons (pe_op op_addm (pe_glob (v := .int (5)) rfl g_MOST_IN_STACK ⟨_, rfl⟩) pe_int) pa_nil))) (pg_name (i := 5) sc_stacks_without.nd rfl (by first | exact Or.inl rfl | exact Or.inr rfl)) (pss_cons (ps_set (i := 3) sc_stacks_without.nd rfl (Or.inl rfl) (pe_callD D_one_longer (hr.mono (by decide)) rfl (pa_cons (pvm 3) (pa_cons (pvm 2) pa_nil)))) (pss_one (ps_expr (pe_bm PySem.F.plainAttrs_list PySem.F.slot_list_extend PySem.F.type_list_extend mt_extend (pvm 4) (pa_cons (pvm 3) pa_nil)))))) (pss_one (ps_ret (pvm 4))))))), ?_⟩
    (try dsimp only [tVarm, tC, tOp, tUn, rIm, rI0m, rUm, tTestm, tChainm, tAnd, tOr, tNot, tAndVm, tOrVm, tNotVm, tIf, tSeq, tNext, tAsg, gName, tIfS, tRet, tRetN, tDrop, tCall, tCB, tCons, tNil, tLst, tTup, tAugm, ipIm, tBM, rAppend, rIxLm, rCat, tIsN, tNotN, rIxTm, rExtend, gTup, gCons, gNil, tYes, rSum, rAll, asV_is, asI_is, asB_is, asR_is, rEqm_ii, rNem_ii, scal_ii, scal_bb, rLtL, rMaxD, rMinD, L2.start, wipe, sp_one_longer, List.map_cons, List.map_nil, List.length_cons, List.length_nil, List.append_nil, List.cons_append, List.nil_append, List.replicate_succ, List.replicate_zero, List.getElem?_cons_zero, List.getElem?_cons_succ, List.set_cons_zero, List.set_cons_succ]); (try simp only [tVarm, tC, tOp, tUn, rIm, rI0m, rUm, tTestm, tChainm, tAnd, tOr, tNot, tAndVm, tOrVm, tNotVm, tIf, tSeq, tNext, tAsg, gName, tIfS, tRet, tRetN, tDrop, tCall, tCB, tCons, tNil, tLst, tTup, tAugm, ipIm, tBM, rAppend, rIxLm, rCat, tIsN, tNotN, rIxTm, rExtend, gTup, gCons, gNil, tYes, rSum, rAll, rLtL, rMaxD, rMinD, V.int.injEq, V.bl.injEq, V.str.injEq, V.ref.injEq, and_true, true_and, and_assoc, Bool.false_eq_true, List.map_cons, List.map_nil, List.length_cons, List.length_nil, List.append_nil, List.cons_append, List.nil_append, List.replicate_succ, List.replicate_zero, List.getElem?_cons_zero, List.getElem?_cons_succ, List.set_cons_zero, List.set_cons_succ, Option.some.injEq, List.cons.injEq, exists_eq_left', exists_and_left, exists_eq_left, asV_ex, asI_ex, asB_ex, asR_ex, rEqm_ex, rNem_ex, scal_ii, scal_bb, L2.start, wipe, Nat.reduceAdd, Nat.reduceSub, reduceIte, sp_one_longer])
    refine ⟨_, rfl, by (first | lia | omega), by (first | lia | omega), fun D hD => ?_⟩
    rw [Int.toNat_natCast]
    have fdef : GA.free x (FitANeutral.nats bar) = (List.range x.length).filter fun (i : Nat) => !(FitANeutral.nats bar).contains i := rfl
    have frl := Nat.le_trans (GA.free_len x (FitANeutral.nats bar)) hx
    refine lc_range (lo := 0) (n := x.length) (fun i H' => Same H H' ∧ H' D = some (.lst (rowV ((List.range i).filter fun (i : Nat) => !(FitANeutral.nats bar).contains i)))) ⟨same_new hD, upd_same⟩ (fun i H' hlt q => ?_) (fun H1 q => ?_)
    · obtain ⟨s1, hP⟩ := q
      (try dsimp only [tVarm, tC, tOp, tUn, rIm, rI0m, rUm, tTestm, tChainm, tAnd, tOr, tNot, tAndVm, tOrVm, tNotVm, tIf, tSeq, tNext, tAsg, gName, tIfS, tRet, tRetN, tDrop, tCall, tCB, tCons, tNil, tLst, tTup, tAugm, ipIm, tBM, rAppend, rIxLm, rCat, tIsN, tNotN, rIxTm, rExtend, gTup, gCons, gNil, tYes, rSum, rAll, asV_is, asI_is, asB_is, asR_is, rEqm_ii, rNem_ii, scal_ii, scal_bb, rLtL, rMaxD, rMinD, L2.start, wipe, sp_one_longer, List.map_cons, List.map_nil, List.length_cons, List.length_nil, List.append_nil, List.cons_append, List.nil_append, List.replicate_succ, List.replicate_zero, List.getElem?_cons_zero, List.getElem?_cons_succ, List.set_cons_zero, List.set_cons_succ]); (try simp only [tVarm, tC, tOp, tUn, rIm, rI0m, rUm, tTestm, tChainm, tAnd, tOr, tNot, tAndVm, tOrVm, tNotVm, tIf, tSeq, tNext, tAsg, gName, tIfS, tRet, tRetN, tDrop, tCall, tCB, tCons, tNil, tLst, tTup, tAugm, ipIm, tBM, rAppend, rIxLm, rCat, tIsN, tNotN, rIxTm, rExtend, gTup, gCons, gNil, tYes, rSum, rAll, rLtL, rMaxD, rMinD, V.int.injEq, V.bl.injEq, V.str.injEq, V.ref.injEq, and_true, true_and, and_assoc, Bool.false_eq_true, List.map_cons, List.map_nil, List.length_cons, List.length_nil, List.append_nil, List.cons_append, List.nil_append, List.replicate_succ, List.replicate_zero, List.getElem?_cons_zero, List.getElem?_cons_succ, List.set_cons_zero, List.set_cons_succ, Option.some.injEq, List.cons.injEq, exists_eq_left', exists_and_left, exists_eq_left, asV_ex, asI_ex, asB_ex, asR_ex, rEqm_ex, rNem_ex, scal_ii, scal_bb, L2.start, wipe, Nat.reduceAdd, Nat.reduceSub, reduceIte, sp_one_longer])
      refine ⟨b, _, rfl, .inl (s1.seq hS), rfl, bar_flat bar, _, rfl, ?_⟩
      have e0 : (0 : Int) + (i : Int) = ((i : Nat) : Int) := by (first | lia | omega)
      rw [e0, if_pos rfl, bar_in hnn]
      have hacc : (rowV ((List.range i).filter fun (i : Nat) => !(FitANeutral.nats bar).contains i)).length < sizeLine := by
        unfold rowV
        rw [List.length_map]
        refine Nat.lt_of_le_of_lt (List.length_filter_le _ _) ?_
        rw [List.length_range]
        exact small_len (by (first | lia | omega))
      cases hc : (FitANeutral.nats bar).contains i with
      | false =>
        refine iteT' rfl ⟨_, hP, hacc, upd_keep s1 hD, ?_⟩
        rw [upd_same, List.range_succ, List.filter_append]
        have : [i].filter (fun (i : Nat) => !(FitANeutral.nats bar).contains i) = [i] := by
          rw [List.filter_cons, if_pos (by rw [hc]; rfl)]
          rfl
        rw [this]
        unfold rowV
        rw [List.map_append]
        rfl
      | true =>
        refine iteF' rfl ⟨s1, ?_⟩
        rw [hP, List.range_succ, List.filter_append]
        have : [i].filter (fun (i : Nat) => !(FitANeutral.nats bar).contains i) = [] := by
          rw [List.filter_cons, if_neg (by rw [hc]; exact Bool.noConfusion)]
          rfl
        rw [this, List.append_nil]
    · obtain ⟨s1, hP⟩ := q
      rw [← fdef] at hP
      generalize GA.free x (FitANeutral.nats bar) = fr at *
      refine ⟨D, rfl, ⟨_, SqL.of hP⟩, fun D2 hD2 => ?_⟩
      refine lc_list (xs := rowV fr) (fun j H2 => Same H1 H2 ∧ RowsAt H2 D2 ((fr.take j).map fun n => [n])) ⟨same_new hD2, [], upd_same, .nil⟩ (fun j H2 _ q => SqL.of (q.1 D _ hP)) (fun j v H2 hv q => ?_) (fun H2 q => ?_)
      · obtain ⟨s2, ws, hw1, hw2⟩ := q
        obtain ⟨n, hn, rfl⟩ := rowV_at hv
        have etn := take_snoc hn
        have wl : ws.length ≤ 20 := by
          have h1 := hw2.length
          rw [List.length_map, List.length_take] at h1
          (first | lia | omega)
        (try dsimp only [tVarm, tC, tOp, tUn, rIm, rI0m, rUm, tTestm, tChainm, tAnd, tOr, tNot, tAndVm, tOrVm, tNotVm, tIf, tSeq, tNext, tAsg, gName, tIfS, tRet, tRetN, tDrop, tCall, tCB, tCons, tNil, tLst, tTup, tAugm, ipIm, tBM, rAppend, rIxLm, rCat, tIsN, tNotN, rIxTm, rExtend, gTup, gCons, gNil, tYes, rSum, rAll, asV_is, asI_is, asB_is, asR_is, rEqm_ii, rNem_ii, scal_ii, scal_bb, rLtL, rMaxD, rMinD, L2.start, wipe, sp_one_longer, List.map_cons, List.map_nil, List.length_cons, List.length_nil, List.append_nil, List.cons_append, List.nil_append, List.replicate_succ, List.replicate_zero, List.getElem?_cons_zero, List.getElem?_cons_succ, List.set_cons_zero, List.set_cons_succ]); (try simp only [tVarm, tC, tOp, tUn, rIm, rI0m, rUm, tTestm, tChainm, tAnd, tOr, tNot, tAndVm, tOrVm, tNotVm, tIf, tSeq, tNext, tAsg, gName, tIfS, tRet, tRetN, tDrop, tCall, tCB, tCons, tNil, tLst, tTup, tAugm, ipIm, tBM, rAppend, rIxLm, rCat, tIsN, tNotN, rIxTm, rExtend, gTup, gCons, gNil, tYes, rSum, rAll, rLtL, rMaxD, rMinD, V.int.injEq, V.bl.injEq, V.str.injEq, V.ref.injEq, and_true, true_and, and_assoc, Bool.false_eq_true, List.map_cons, List.map_nil, List.length_cons, List.length_nil, List.append_nil, List.cons_append, List.nil_append, List.replicate_succ, List.replicate_zero, List.getElem?_cons_zero, List.getElem?_cons_succ, List.set_cons_zero, List.set_cons_succ, Option.some.injEq, List.cons.injEq, exists_eq_left', exists_and_left, exists_eq_left, asV_ex, asI_ex, asB_ex, asR_ex, rEqm_ex, rNem_ex, scal_ii, scal_bb, L2.start, wipe, Nat.reduceAdd, Nat.reduceSub, reduceIte, sp_one_longer])
        refine ⟨by decide, fun p3 hp3 => ?_⟩
        have s3 := same_new (o := .lst [.int (n : Nat)]) hp3
        have hD3 := s3 _ _ hw1
        refine ⟨_, hD3, ?_, upd_keep (s2.trans s3) hD2, ?_⟩
        · rw [List.length_map]
          exact small_len (by (first | lia | omega))
        · rw [etn, List.map_append]
          refine rows_more (us := [p3]) hD3 (Paired.mapP hw2 fun q s e => s3 _ _ e) (.cons upd_same .nil) (fun s m => ?_) (fun s m => ?_)
          · obtain ⟨n', _, rfl⟩ := List.mem_map.mp m
            simp
          · have : s = [n] := by simpa using m
            rw [this]
            simp
      · obtain ⟨s2, ws, hw1, hw2⟩ := q
        have ef : fr.take (rowV fr).length = fr := by
          unfold rowV
          rw [List.length_map, List.take_length]
        rw [ef] at hw2
        have hw2 : Paired (fun q s => H2 q = some (.lst (rowV s))) ws (GA.rowsN fr 0) := hw2
        refine ⟨D2, rfl, _, .inl (SqL.of hw1), fun L hL => ?_⟩
        have sL := same_new (o := .lst (ws.map V.ref)) hL
        have s02 := s1.trans s2
        refine ⟨_, _, rfl, ⟨by decide, by decide, by decide, by decide⟩, ?_⟩
        have e4 : ((5 : Int) + 1 - 2).toNat = 4 := rfl
        rw [e4]
        refine for_range (lo := 2) (n := 4) (fun i σ' H' => Same H2 H' ∧ (∃ rw x5 x6, σ' = [some (.int (x.length : Nat)), some (.ref b), some (.ref D), some (.ref rw), some (.ref L), x5, x6] ∧ RowsAt H' rw (GA.rowsN fr i)) ∧ RowsAt H' L (GA.allTo fr i)) ⟨sL, ⟨D2, none, none, rfl, ws, sL _ _ hw1, Paired.mapP hw2 fun q s e => sL _ _ e⟩, ws, upd_same, Paired.mapP hw2 fun q s e => sL _ _ e⟩ (fun i σ' H' hi4 q => ?_) (fun σ' H' q => ?_)
        · obtain ⟨s3, ⟨rw, x5, x6, rfl, hRw⟩, us, hu1, hu2⟩ := q
          (try dsimp only [tVarm, tC, tOp, tUn, rIm, rI0m, rUm, tTestm, tChainm, tAnd, tOr, tNot, tAndVm, tOrVm, tNotVm, tIf, tSeq, tNext, tAsg, gName, tIfS, tRet, tRetN, tDrop, tCall, tCB, tCons, tNil, tLst, tTup, tAugm, ipIm, tBM, rAppend, rIxLm, rCat, tIsN, tNotN, rIxTm, rExtend, gTup, gCons, gNil, tYes, rSum, rAll, asV_is, asI_is, asB_is, asR_is, rEqm_ii, rNem_ii, scal_ii, scal_bb, rLtL, rMaxD, rMinD, L2.start, wipe, sp_one_longer, List.map_cons, List.map_nil, List.length_cons, List.length_nil, List.append_nil, List.cons_append, List.nil_append, List.replicate_succ, List.replicate_zero, List.getElem?_cons_zero, List.getElem?_cons_succ, List.set_cons_zero, List.set_cons_succ]); (try simp only [tVarm, tC, tOp, tUn, rIm, rI0m, rUm, tTestm, tChainm, tAnd, tOr, tNot, tAndVm, tOrVm, tNotVm, tIf, tSeq, tNext, tAsg, gName, tIfS, tRet, tRetN, tDrop, tCall, tCB, tCons, tNil, tLst, tTup, tAugm, ipIm, tBM, rAppend, rIxLm, rCat, tIsN, tNotN, rIxTm, rExtend, gTup, gCons, gNil, tYes, rSum, rAll, rLtL, rMaxD, rMinD, V.int.injEq, V.bl.injEq, V.str.injEq, V.ref.injEq, and_true, true_and, and_assoc, Bool.false_eq_true, List.map_cons, List.map_nil, List.length_cons, List.length_nil, List.append_nil, List.cons_append, List.nil_append, List.replicate_succ, List.replicate_zero, List.getElem?_cons_zero, List.getElem?_cons_succ, List.set_cons_zero, List.set_cons_succ, Option.some.injEq, List.cons.injEq, exists_eq_left', exists_and_left, exists_eq_left, asV_ex, asI_ex, asB_ex, asR_ex, rEqm_ex, rNem_ex, scal_ii, scal_bb, L2.start, wipe, Nat.reduceAdd, Nat.reduceSub, reduceIte, sp_one_longer])
          have e1 : GA.longer (GA.rowsN fr i) fr = GA.rowsN fr (i + 1) := rfl
          refine ⟨_, hRw, fr, SqL.of ((s2.trans s3) D _ hP), fun s m => rowsN_ne m, fun s m => by have := rowsN_le m; (first | lia | omega), ?_, frl, fun p H3 hp s4 hR3 => ?_⟩
          · rw [e1]
            exact Nat.le_trans (pow20 frl (i + 1)) (Nat.le_trans (pow_le_5 (by (first | lia | omega))) (by decide))
          obtain ⟨ws2, hv1, hv2⟩ := hR3
          rw [e1] at hv2
          have hL3 := s4 _ _ hu1
          have pL : p ≠ L := fun z => by rw [z, hu1] at hp; cases hp
          refine ⟨.inl ⟨rfl, _, SqL.of hL3⟩, _, hL3, _, hv1, big_ok ?_, upd_keep (s3.trans s4) hL, ⟨ws2, (upd_ne pL).trans hv1, paired_mem hv2 fun q s m e => ?_⟩, ?_⟩
          · have h1 : us.length = (GA.allTo fr i).length := hu2.length
            have h2 : ws2.length = (GA.rowsN fr (i + 1)).length := hv2.length
            have h3 := allTo_len frl i (by (first | lia | omega))
            have h4 := pow20 frl (i + 1)
            have h5 := pow_le_5 (k := i + 1) (by (first | lia | omega))
            have h6 := pow_le_5 (k := i + 1 + 1) (by (first | lia | omega))
            have h7 : (i + 1) * 20 ^ (i + 1) ≤ 4 * 20 ^ (i + 1) := Nat.mul_le_mul_right _ (by (first | lia | omega))
            have h8 : 20 ^ (i + 1) ≤ 160000 := Nat.le_trans (Nat.pow_le_pow_right (by decide) (show i + 1 ≤ 4 by (first | lia | omega))) (by decide)
            rw [List.length_map, List.length_map]
            (first | lia | omega)
          · rw [upd_ne (row_ne (rowsN_ne m) e hL3)]
            exact e
          · exact rows_more hL3 (Paired.mapP hu2 fun q s e => s4 _ _ e) hv2 (fun s m => allTo_ne m) (fun s m => rowsN_ne m)
        · obtain ⟨s3, ⟨rw, x5, x6, rfl, hRw⟩, hRL⟩ := q
          (try dsimp only [tVarm, tC, tOp, tUn, rIm, rI0m, rUm, tTestm, tChainm, tAnd, tOr, tNot, tAndVm, tOrVm, tNotVm, tIf, tSeq, tNext, tAsg, gName, tIfS, tRet, tRetN, tDrop, tCall, tCB, tCons, tNil, tLst, tTup, tAugm, ipIm, tBM, rAppend, rIxLm, rCat, tIsN, tNotN, rIxTm, rExtend, gTup, gCons, gNil, tYes, rSum, rAll, asV_is, asI_is, asB_is, asR_is, rEqm_ii, rNem_ii, scal_ii, scal_bb, rLtL, rMaxD, rMinD, L2.start, wipe, sp_one_longer, List.map_cons, List.map_nil, List.length_cons, List.length_nil, List.append_nil, List.cons_append, List.nil_append, List.replicate_succ, List.replicate_zero, List.getElem?_cons_zero, List.getElem?_cons_succ, List.set_cons_zero, List.set_cons_succ]); (try simp only [tVarm, tC, tOp, tUn, rIm, rI0m, rUm, tTestm, tChainm, tAnd, tOr, tNot, tAndVm, tOrVm, tNotVm, tIf, tSeq, tNext, tAsg, gName, tIfS, tRet, tRetN, tDrop, tCall, tCB, tCons, tNil, tLst, tTup, tAugm, ipIm, tBM, rAppend, rIxLm, rCat, tIsN, tNotN, rIxTm, rExtend, gTup, gCons, gNil, tYes, rSum, rAll, rLtL, rMaxD, rMinD, V.int.injEq, V.bl.injEq, V.str.injEq, V.ref.injEq, and_true, true_and, and_assoc, Bool.false_eq_true, List.map_cons, List.map_nil, List.length_cons, List.length_nil, List.append_nil, List.cons_append, List.nil_append, List.replicate_succ, List.replicate_zero, List.getElem?_cons_zero, List.getElem?_cons_succ, List.set_cons_zero, List.set_cons_succ, Option.some.injEq, List.cons.injEq, exists_eq_left', exists_and_left, exists_eq_left, asV_ex, asI_ex, asB_ex, asR_ex, rEqm_ex, rNem_ex, scal_ii, scal_bb, L2.start, wipe, Nat.reduceAdd, Nat.reduceSub, reduceIte, sp_one_longer])
          exact k L H' (s02.free hL) (s02.trans s3) hRL
def sp_is_better (K : PySem.W.Frag) : Sp := fun vs H Q _ => ∃ (a r o : Addr) (x : FtBlocks.Box) (s t : List Nat) (f : Int), vs = [.ref a, .int f, .ref r, .ref o] ∧ BoxAt H a x ∧ SqL K H r (rowV s) ∧ SqL K H o (rowV t) ∧ s.length ≤ 100 ∧ t.length ≤ 100 ∧ (∀ i ∈ s, i < x.length) ∧ (∀ i ∈ t, i < x.length) ∧ 0 ≤ f ∧ f ≤ 1000 ∧ ∀ H', Same H H' → Q (.bl (FtBlocks.better x f.toNat s t)) H'
def zsN (l : List Nat) : List Int := l.map fun (c : Nat) => (c : Int)
theorem zs_row (s : List Nat) : (zsN s).map V.int = rowV s := by
  unfold zsN rowV
  rw [List.map_map]
  rfl
theorem lex_row : ∀ (s t : List Nat), HT.lexLt (zsN s) (zsN t) = FtBlocks.lessRow s t := by
  intro s
  induction s with
  | nil =>
    intro t
    cases t <;> rfl
  | cons i s ih =>
    intro t
    cases t with
    | nil => rfl
    | cons j t =>
      have e : HT.lexLt (zsN (i :: s)) (zsN (j :: t)) = if ((i : Nat) : Int) = ((j : Nat) : Int) then HT.lexLt (zsN s) (zsN t) else decide (((i : Nat) : Int) < ((j : Nat) : Int)) := rfl
      have e2 : FtBlocks.lessRow (i :: s) (j :: t) = (decide (i < j) || (i == j && FtBlocks.lessRow s t)) := rfl
      rw [e, e2, ih]
      by_cases c : i = j
      · subst c
        rw [if_pos rfl, decide_eq_false (Nat.lt_irrefl i)]
        simp
      · rw [if_neg (by (first | lia | omega))]
        have e3 : (i == j) = false := by simp [c]
        rw [e3, Bool.false_and, Bool.or_false]
        congr 1
        apply propext
        (first | lia | omega)

theorem sc_is_better : FnScope ["blocks", "f", "row", "other", "doubt", "other_doubt"] ["blocks", "f", "row", "other"] (defScope st_is_better) := ⟨rfl, rfl, rfl, by decide +kernel, rfl, by decide +kernel, by decide +kernel⟩
theorem ok_is_better {P : Program} {w : World} {K : PySem.W.Frag} {mg : Str → Option Value} {base : Heap} (R : Raw K mg "is_better" st_is_better ["blocks", "f", "row", "other"]) (b_len : mg "len" = none) (D_doubt_of : Dn P w K mg base 2 "doubt_of" ["blocks", "row", "f"] (sp_doubt_of K)) : Dn P w K mg base 3 "is_better" ["blocks", "f", "row", "other"] (sp_is_better K) := by
  refine R.dn fun f fd F => F.ok sc_is_better (fun vs H Q E h => ?_) (fun cdv A outer s H vs Q E hr h => ?_)
  ·
    obtain ⟨_, _, _, _, _, _, _, rfl, _⟩ := h
    rfl
  ·
    obtain ⟨a, r, o, x, st, tt, f', rfl, hB, hS, hT, hl, hl2, hi, hi2, f0, f1, k⟩ := h
    refine ⟨_, (pss_cons (ps_if (pt_cmpRm op_nem (pe_callB (call_len_seq) rfl b_len (by decide +kernel) (pa_cons (pvm 2) pa_nil)) (pe_callB (call_len_seq) rfl b_len (by decide +kernel) (pa_cons (pvm 3) pa_nil)) (nomark _)) (pss_one (ps_ret (pe_cmpR op_ltm (pe_callB (call_len_seq) rfl b_len (by decide +kernel) (pa_cons (pvm 2) pa_nil)) (pe_callB (call_len_seq) rfl b_len (by decide +kernel) (pa_cons (pvm 3) pa_nil)) (nomark _)))) pss_nil) (pss_cons (ps_set (i := 4) sc_is_better.nd rfl (Or.inl rfl) (pe_callD D_doubt_of (hr.mono (by decide)) rfl (pa_cons (pvm 0) (pa_cons (pvm 2) (pa_cons (pvm 1) pa_nil))))) (pss_cons (ps_set (i := 5) sc_is_better.nd rfl (Or.inl rfl) (pe_callD D_doubt_of (hr.mono (by decide)) rfl (pa_cons (pvm 0) (pa_cons (pvm 3) (pa_cons (pvm 1) pa_nil))))) (pss_cons (ps_if (pt_cmpRm op_nem (pvm 4) (pvm 5) (nomark _)) (pss_one (ps_ret (pe_cmpR op_ltm (pvm 4) (pvm 5) (nomark _)))) pss_nil) (pss_one (ps_ret (pe_cmpR (op_ltL hr.units) (pvm 2) (pvm 3) (nomark _)))))))), ?_⟩
    (try dsimp only [tVarm, tC, tOp, tUn, rIm, rI0m, rUm, tTestm, tChainm, tAnd, tOr, tNot, tAndVm, tOrVm, tNotVm, tIf, tSeq, tNext, tAsg, gName, tIfS, tRet, tRetN, tDrop, tCall, tCB, tCons, tNil, tLst, tTup, tAugm, ipIm, tBM, rAppend, rIxLm, rCat, tIsN, tNotN, rIxTm, rExtend, gTup, gCons, gNil, tYes, rSum, rAll, asV_is, asI_is, asB_is, asR_is, rEqm_ii, rNem_ii, scal_ii, scal_bb, rLtL, rMaxD, rMinD, L2.start, wipe, sp_doubt_of, List.map_cons, List.map_nil, List.length_cons, List.length_nil, List.append_nil, List.cons_append, List.nil_append, List.replicate_succ, List.replicate_zero, List.getElem?_cons_zero, List.getElem?_cons_succ, List.set_cons_zero, List.set_cons_succ]); (try simp only [tVarm, tC, tOp, tUn, rIm, rI0m, rUm, tTestm, tChainm, tAnd, tOr, tNot, tAndVm, tOrVm, tNotVm, tIf, tSeq, tNext, tAsg, gName, tIfS, tRet, tRetN, tDrop, tCall, tCB, tCons, tNil, tLst, tTup, tAugm, ipIm, tBM, rAppend, rIxLm, rCat, tIsN, tNotN, rIxTm, rExtend, gTup, gCons, gNil, tYes, rSum, rAll, rLtL, rMaxD, rMinD, V.int.injEq, V.bl.injEq, V.str.injEq, V.ref.injEq, and_true, true_and, and_assoc, Bool.false_eq_true, List.map_cons, List.map_nil, List.length_cons, List.length_nil, List.append_nil, List.cons_append, List.nil_append, List.replicate_succ, List.replicate_zero, List.getElem?_cons_zero, List.getElem?_cons_succ, List.set_cons_zero, List.set_cons_succ, Option.some.injEq, List.cons.injEq, exists_eq_left', exists_and_left, exists_eq_left, asV_ex, asI_ex, asB_ex, asR_ex, rEqm_ex, rNem_ex, scal_ii, scal_bb, L2.start, wipe, Nat.reduceAdd, Nat.reduceSub, reduceIte, sp_doubt_of])
    have el : ∀ u : List Nat, (rowV u).length = u.length := fun u => by
      unfold rowV
      rw [List.length_map]
    refine ⟨_, .inl hS, _, .inl hT, ?_⟩
    rw [el, el]
    have bb : FtBlocks.better x f'.toNat st tt = (decide (st.length < tt.length) || (st.length == tt.length && (decide (FtBlocks.doubt x f'.toNat st < FtBlocks.doubt x f'.toNat tt) || (FtBlocks.doubt x f'.toNat st == FtBlocks.doubt x f'.toNat tt && FtBlocks.lessRow st tt)))) := rfl
    by_cases c1 : st.length = tt.length
    · refine iteF' (by rw [decide_eq_true (show (st.length : Int) = (tt.length : Int) by (first | lia | omega))]; rfl) ?_
      refine ⟨x, hB, st, hS, hl, hi, f0, f1, fun H1 s1 => ⟨x, hB.same s1, tt, s1.seq hT, hl2, hi2, f0, f1, fun H2 s2 => ?_⟩⟩
      have s12 := s1.trans s2
      have e1 : decide (st.length < tt.length) = false := decide_eq_false (by (first | lia | omega))
      have e2 : (st.length == tt.length) = true := by simp [c1]
      rw [e1, e2, Bool.false_or, Bool.true_and] at bb
      by_cases c2 : FtBlocks.doubt x f'.toNat st = FtBlocks.doubt x f'.toNat tt
      · refine iteF' (by rw [decide_eq_true c2]; rfl) ?_
        have e3 : decide (FtBlocks.doubt x f'.toNat st < FtBlocks.doubt x f'.toNat tt) = false := decide_eq_false (by (first | lia | omega))
        have e4 : (FtBlocks.doubt x f'.toNat st == FtBlocks.doubt x f'.toNat tt) = true := by simp [c2]
        rw [e3, e4, Bool.false_or, Bool.true_and] at bb
        refine ⟨zsN st, by rw [zs_row]; exact s12.seq hS, zsN tt, by rw [zs_row]; exact s12.seq hT, ?_⟩
        rw [lex_row, ← bb]
        exact k H2 s12
      · refine iteT' (by rw [decide_eq_false c2]; rfl) ?_
        have e4 : (FtBlocks.doubt x f'.toNat st == FtBlocks.doubt x f'.toNat tt) = false := by simp [c2]
        rw [e4, Bool.false_and, Bool.or_false] at bb
        rw [← bb]
        exact k H2 s12
    · refine iteT' (by rw [decide_eq_false (show ¬ (st.length : Int) = (tt.length : Int) by (first | lia | omega))]; rfl) ⟨_, .inl hS, _, .inl hT, ?_⟩
      rw [el, el]
      have e2 : (st.length == tt.length) = false := by simp [c1]
      rw [e2, Bool.false_and, Bool.or_false] at bb
      have e5 : decide ((st.length : Int) < (tt.length : Int)) = decide (st.length < tt.length) := by
        congr 1
        apply propext
        (first | lia | omega)
      rw [e5, ← bb]
      exact k H (Same.refl H)
def sp_best_stack (K : PySem.W.Frag) : Sp := fun vs H Q _ => ∃ (a b : Addr) (x : FtBlocks.Box) (l : List (List Nat)) (f z : Int), vs = [.ref a, .ref b, .int f, .int z] ∧ BoxAt H a x ∧ RowsAt H b l ∧ (∀ s ∈ l, s ≠ []) ∧ (∀ s ∈ l, s.length ≤ 10) ∧ (∀ s ∈ l, ∀ i ∈ s, i < x.length) ∧ 0 ≤ f ∧ f ≤ 1000 ∧ ∀ p H' s, Same H H' → H' p = some (.lst (rowV s)) → GA.BestInv x f.toNat z l s → Q (.ref p) H'

theorem sc_best_stack : FnScope ["blocks", "stacks", "f", "length", "best", "row"] ["blocks", "stacks", "f", "length"] (defScope st_best_stack) := ⟨rfl, rfl, rfl, by decide +kernel, rfl, by decide +kernel, by decide +kernel⟩
theorem ok_best_stack {P : Program} {w : World} {K : PySem.W.Frag} {mg : Str → Option Value} {base : Heap} (R : Raw K mg "best_stack" st_best_stack ["blocks", "stacks", "f", "length"]) (D_length_of : Dn P w K mg base 1 "length_of" ["blocks", "row"] (sp_length_of K)) (D_is_better : Dn P w K mg base 3 "is_better" ["blocks", "f", "row", "other"] (sp_is_better K)) : Dn P w K mg base 4 "best_stack" ["blocks", "stacks", "f", "length"] (sp_best_stack K) := by
  refine R.dn fun f fd F => F.ok sc_best_stack (fun vs H Q E h => ?_) (fun cdv A outer s H vs Q E hr h => ?_)
  ·
    obtain ⟨_, _, _, _, _, _, rfl, _⟩ := h
    rfl
  ·
    obtain ⟨a, b, x, l, f', z, rfl, hB, hR, hne, hll, hin, f0, f1, k⟩ := h
    refine ⟨_, (pss_cons (ps_set (i := 4) sc_best_stack.nd rfl (Or.inl rfl) (pe_lst pa_nil)) (pss_cons (ps_for PassesOwn.never rfl (pi_list (pvm 1)) (pg_name (i := 5) sc_best_stack.nd rfl (by first | exact Or.inl rfl | exact Or.inr rfl)) (pss_one (ps_if (PW.pt (pw_and (pt_cmpRm op_eqm (pe_callD D_length_of (hr.mono (by decide)) rfl (pa_cons (pvm 0) (pa_cons (pvm 5) pa_nil))) (pvm 3) (nomark _)) (pw_and1 (PW.pt (pw_or (pt_not (pt_truth (pvm 4) (fun _ => rfl))) (pw_or1 (pt_valm (pe_callD D_is_better (hr.mono (by decide)) rfl (pa_cons (pvm 0) (pa_cons (pvm 2) (pa_cons (pvm 5) (pa_cons (pvm 4) pa_nil)))))))))))) (pss_one (ps_set (i := 4) sc_best_stack.nd rfl (Or.inl rfl) (pvm 5))) pss_nil))) (pss_one (ps_ret (pvm 4))))), ?_⟩
    (try dsimp only [tVarm, tC, tOp, tUn, rIm, rI0m, rUm, tTestm, tChainm, tAnd, tOr, tNot, tAndVm, tOrVm, tNotVm, tIf, tSeq, tNext, tAsg, gName, tIfS, tRet, tRetN, tDrop, tCall, tCB, tCons, tNil, tLst, tTup, tAugm, ipIm, tBM, rAppend, rIxLm, rCat, tIsN, tNotN, rIxTm, rExtend, gTup, gCons, gNil, tYes, rSum, rAll, asV_is, asI_is, asB_is, asR_is, rEqm_ii, rNem_ii, scal_ii, scal_bb, rLtL, rMaxD, rMinD, L2.start, wipe, sp_length_of, sp_is_better, List.map_cons, List.map_nil, List.length_cons, List.length_nil, List.append_nil, List.cons_append, List.nil_append, List.replicate_succ, List.replicate_zero, List.getElem?_cons_zero, List.getElem?_cons_succ, List.set_cons_zero, List.set_cons_succ]); (try simp only [tVarm, tC, tOp, tUn, rIm, rI0m, rUm, tTestm, tChainm, tAnd, tOr, tNot, tAndVm, tOrVm, tNotVm, tIf, tSeq, tNext, tAsg, gName, tIfS, tRet, tRetN, tDrop, tCall, tCB, tCons, tNil, tLst, tTup, tAugm, ipIm, tBM, rAppend, rIxLm, rCat, tIsN, tNotN, rIxTm, rExtend, gTup, gCons, gNil, tYes, rSum, rAll, rLtL, rMaxD, rMinD, V.int.injEq, V.bl.injEq, V.str.injEq, V.ref.injEq, and_true, true_and, and_assoc, Bool.false_eq_true, List.map_cons, List.map_nil, List.length_cons, List.length_nil, List.append_nil, List.cons_append, List.nil_append, List.replicate_succ, List.replicate_zero, List.getElem?_cons_zero, List.getElem?_cons_succ, List.set_cons_zero, List.set_cons_succ, Option.some.injEq, List.cons.injEq, exists_eq_left', exists_and_left, exists_eq_left, asV_ex, asI_ex, asB_ex, asR_ex, rEqm_ex, rNem_ex, scal_ii, scal_bb, L2.start, wipe, Nat.reduceAdd, Nat.reduceSub, reduceIte, sp_length_of, sp_is_better])
    refine ⟨by decide, fun p hp => ?_⟩
    have hR0 := hR
    obtain ⟨qs, hq1, hq2⟩ := hR
    refine ⟨b, rfl, ⟨_, SqL.of (same_new hp _ _ hq1)⟩, ?_⟩
    have ql : qs.length = l.length := hq2.length
    refine for_list (xs := qs.map V.ref) (fun i σ' H' => Same H H' ∧ ∃ q x5 sb, σ' = [some (.ref a), some (.ref b), some (.int f'), some (.int z), some (.ref q), x5] ∧ H' q = some (.lst (rowV sb)) ∧ GA.BestInv x f'.toNat z (l.take i) sb) ⟨same_new hp, p, none, [], rfl, upd_same, .inl ⟨rfl, fun s m => by simp at m⟩⟩ (fun i σ' H' _ q => SqL.of (q.1 b _ hq1)) (fun i v σ' H' hv q => ?_) (fun σ' H' q => ?_)
    · obtain ⟨s1, q, x5, sb, rfl, hQ, inv⟩ := q
      rw [List.getElem?_map] at hv
      cases hy : qs[i]? with
      | none =>
        rw [hy] at hv
        cases hv
      | some r =>
        rw [hy] at hv
        cases hv
        obtain ⟨st, hst, hr'⟩ := paired_at hq2 hy
        have hRr := s1 _ _ hr'
        have mst : st ∈ l := List.mem_of_getElem? hst
        have et := take_snoc hst
        (try dsimp only [tVarm, tC, tOp, tUn, rIm, rI0m, rUm, tTestm, tChainm, tAnd, tOr, tNot, tAndVm, tOrVm, tNotVm, tIf, tSeq, tNext, tAsg, gName, tIfS, tRet, tRetN, tDrop, tCall, tCB, tCons, tNil, tLst, tTup, tAugm, ipIm, tBM, rAppend, rIxLm, rCat, tIsN, tNotN, rIxTm, rExtend, gTup, gCons, gNil, tYes, rSum, rAll, asV_is, asI_is, asB_is, asR_is, rEqm_ii, rNem_ii, scal_ii, scal_bb, rLtL, rMaxD, rMinD, L2.start, wipe, sp_length_of, sp_is_better, List.map_cons, List.map_nil, List.length_cons, List.length_nil, List.append_nil, List.cons_append, List.nil_append, List.replicate_succ, List.replicate_zero, List.getElem?_cons_zero, List.getElem?_cons_succ, List.set_cons_zero, List.set_cons_succ]); (try simp only [tVarm, tC, tOp, tUn, rIm, rI0m, rUm, tTestm, tChainm, tAnd, tOr, tNot, tAndVm, tOrVm, tNotVm, tIf, tSeq, tNext, tAsg, gName, tIfS, tRet, tRetN, tDrop, tCall, tCB, tCons, tNil, tLst, tTup, tAugm, ipIm, tBM, rAppend, rIxLm, rCat, tIsN, tNotN, rIxTm, rExtend, gTup, gCons, gNil, tYes, rSum, rAll, rLtL, rMaxD, rMinD, V.int.injEq, V.bl.injEq, V.str.injEq, V.ref.injEq, and_true, true_and, and_assoc, Bool.false_eq_true, List.map_cons, List.map_nil, List.length_cons, List.length_nil, List.append_nil, List.cons_append, List.nil_append, List.replicate_succ, List.replicate_zero, List.getElem?_cons_zero, List.getElem?_cons_succ, List.set_cons_zero, List.set_cons_succ, Option.some.injEq, List.cons.injEq, exists_eq_left', exists_and_left, exists_eq_left, asV_ex, asI_ex, asB_ex, asR_ex, rEqm_ex, rNem_ex, scal_ii, scal_bb, L2.start, wipe, Nat.reduceAdd, Nat.reduceSub, reduceIte, sp_length_of, sp_is_better])
        have l10 : st.length ≤ 100 := by have := hll st mst; (first | lia | omega)
        refine ⟨x, hB.same s1, st, SqL.of hRr, l10, hin st mst, fun H2 s2 => ?_⟩
        have s12 := s1.trans s2
        rw [et]
        by_cases hz : FtBlocks.long x st = z
        · refine iteT' (decide_eq_true hz) ⟨!(rowV sb).isEmpty, .inl ⟨_, SqL.of (s2 _ _ hQ), rfl⟩, ?_⟩
          by_cases hsb : sb = []
          · exact iteT' (by rw [hsb]; rfl) ⟨s12, st, s2 _ _ hRr, GA.best_take inv (hne st mst) hz (.inl hsb)⟩
          · have msb : sb ∈ l := by
              rcases inv with ⟨e, _⟩ | ⟨_, m, _⟩
              · exact absurd e hsb
              · exact List.mem_of_mem_take m
            refine iteF' ?_ ⟨x, hB.same s12, st, SqL.of (s2 _ _ hRr), sb, SqL.of (s2 _ _ hQ), l10, by have := hll sb msb; (first | lia | omega), hin st mst, hin sb msb, f0, f1, fun H3 s3 => ?_⟩
            · cases sb with
              | nil => exact absurd rfl hsb
              | cons _ _ => rfl
            · cases hbt : FtBlocks.better x f'.toNat st sb with
              | true => exact iteT ⟨s12.trans s3, st, s3 _ _ (s2 _ _ hRr), GA.best_take inv (hne st mst) hz (.inr hbt)⟩
              | false => exact iteF ⟨s12.trans s3, sb, s3 _ _ (s2 _ _ hQ), GA.best_keep inv hsb hbt⟩
        · exact iteF' (decide_eq_false hz) ⟨s12, sb, s2 _ _ hQ, GA.best_skip0 inv hz⟩
    · obtain ⟨s1, q, x5, sb, rfl, hQ, inv⟩ := q
      (try dsimp only [tVarm, tC, tOp, tUn, rIm, rI0m, rUm, tTestm, tChainm, tAnd, tOr, tNot, tAndVm, tOrVm, tNotVm, tIf, tSeq, tNext, tAsg, gName, tIfS, tRet, tRetN, tDrop, tCall, tCB, tCons, tNil, tLst, tTup, tAugm, ipIm, tBM, rAppend, rIxLm, rCat, tIsN, tNotN, rIxTm, rExtend, gTup, gCons, gNil, tYes, rSum, rAll, asV_is, asI_is, asB_is, asR_is, rEqm_ii, rNem_ii, scal_ii, scal_bb, rLtL, rMaxD, rMinD, L2.start, wipe, sp_length_of, sp_is_better, List.map_cons, List.map_nil, List.length_cons, List.length_nil, List.append_nil, List.cons_append, List.nil_append, List.replicate_succ, List.replicate_zero, List.getElem?_cons_zero, List.getElem?_cons_succ, List.set_cons_zero, List.set_cons_succ]); (try simp only [tVarm, tC, tOp, tUn, rIm, rI0m, rUm, tTestm, tChainm, tAnd, tOr, tNot, tAndVm, tOrVm, tNotVm, tIf, tSeq, tNext, tAsg, gName, tIfS, tRet, tRetN, tDrop, tCall, tCB, tCons, tNil, tLst, tTup, tAugm, ipIm, tBM, rAppend, rIxLm, rCat, tIsN, tNotN, rIxTm, rExtend, gTup, gCons, gNil, tYes, rSum, rAll, rLtL, rMaxD, rMinD, V.int.injEq, V.bl.injEq, V.str.injEq, V.ref.injEq, and_true, true_and, and_assoc, Bool.false_eq_true, List.map_cons, List.map_nil, List.length_cons, List.length_nil, List.append_nil, List.cons_append, List.nil_append, List.replicate_succ, List.replicate_zero, List.getElem?_cons_zero, List.getElem?_cons_succ, List.set_cons_zero, List.set_cons_succ, Option.some.injEq, List.cons.injEq, exists_eq_left', exists_and_left, exists_eq_left, asV_ex, asI_ex, asB_ex, asR_ex, rEqm_ex, rNem_ex, scal_ii, scal_bb, L2.start, wipe, Nat.reduceAdd, Nat.reduceSub, reduceIte, sp_length_of, sp_is_better])
      have et : l.take (qs.map V.ref).length = l := by
        rw [List.length_map, ql, List.take_length]
      rw [et] at inv
      exact k q H' sb s1 hQ inv
def sp_lengths_of (K : PySem.W.Frag) : Sp := fun vs H Q _ => ∃ (a b : Addr) (x : FtBlocks.Box) (l : List (List Nat)), vs = [.ref a, .ref b] ∧ BoxAt H a x ∧ RowsAt H b l ∧ (∀ s ∈ l, s.length ≤ 10) ∧ (∀ s ∈ l, ∀ i ∈ s, i < x.length) ∧ l.length ≤ 10000000 ∧ ∀ p H', H p = none → Same H H' → H' p = some (.lst ((l.map fun s => FtBlocks.long x s).map V.int)) → Q (.ref p) H'

theorem sc_lengths_of : FnScope ["blocks", "stacks", "row"] ["blocks", "stacks"] (defScope st_lengths_of) := ⟨rfl, rfl, rfl, by decide +kernel, rfl, by decide +kernel, by decide +kernel⟩
theorem ok_lengths_of {P : Program} {w : World} {K : PySem.W.Frag} {mg : Str → Option Value} {base : Heap} (R : Raw K mg "lengths_of" st_lengths_of ["blocks", "stacks"]) (D_length_of : Dn P w K mg base 1 "length_of" ["blocks", "row"] (sp_length_of K)) : Dn P w K mg base 2 "lengths_of" ["blocks", "stacks"] (sp_lengths_of K) := by
  refine R.dn fun f fd F => F.ok sc_lengths_of (fun vs H Q E h => ?_) (fun cdv A outer s H vs Q E hr h => ?_)
  ·
    obtain ⟨_, _, _, _, rfl, _⟩ := h
    rfl
  ·
    obtain ⟨a, b, x, l, rfl, hB, hR, hll, hin, hlen, k⟩ := h
    refine ⟨_, (pss_one (ps_ret (pe_lc rfl sc_lengths_of.nd (pi_list (pvm 1)) (own := [("row", 2)]) (blkOk_by (N := ["blocks", "stacks", "row"]) (sc := defScope st_lengths_of) (by decide +kernel)) (fun _ _ _ _ _ => (pg_name (i := 2) sc_lengths_of.nd rfl (by first | exact Or.inl rfl | exact Or.inr rfl))) (fun _ _ _ _ _ => pts_nil) (fun _ _ _ _ _ => (pe_callD D_length_of (hr.mono (by decide)) rfl (pa_cons (pvm 0) (pa_cons (pvm 2) pa_nil))))))), ?_⟩
    (try dsimp only [tVarm, tC, tOp, tUn, rIm, rI0m, rUm, tTestm, tChainm, tAnd, tOr, tNot, tAndVm, tOrVm, tNotVm, tIf, tSeq, tNext, tAsg, gName, tIfS, tRet, tRetN, tDrop, tCall, tCB, tCons, tNil, tLst, tTup, tAugm, ipIm, tBM, rAppend, rIxLm, rCat, tIsN, tNotN, rIxTm, rExtend, gTup, gCons, gNil, tYes, rSum, rAll, asV_is, asI_is, asB_is, asR_is, rEqm_ii, rNem_ii, scal_ii, scal_bb, rLtL, rMaxD, rMinD, L2.start, wipe, sp_length_of, List.map_cons, List.map_nil, List.length_cons, List.length_nil, List.append_nil, List.cons_append, List.nil_append, List.replicate_succ, List.replicate_zero, List.getElem?_cons_zero, List.getElem?_cons_succ, List.set_cons_zero, List.set_cons_succ]); (try simp only [tVarm, tC, tOp, tUn, rIm, rI0m, rUm, tTestm, tChainm, tAnd, tOr, tNot, tAndVm, tOrVm, tNotVm, tIf, tSeq, tNext, tAsg, gName, tIfS, tRet, tRetN, tDrop, tCall, tCB, tCons, tNil, tLst, tTup, tAugm, ipIm, tBM, rAppend, rIxLm, rCat, tIsN, tNotN, rIxTm, rExtend, gTup, gCons, gNil, tYes, rSum, rAll, rLtL, rMaxD, rMinD, V.int.injEq, V.bl.injEq, V.str.injEq, V.ref.injEq, and_true, true_and, and_assoc, Bool.false_eq_true, List.map_cons, List.map_nil, List.length_cons, List.length_nil, List.append_nil, List.cons_append, List.nil_append, List.replicate_succ, List.replicate_zero, List.getElem?_cons_zero, List.getElem?_cons_succ, List.set_cons_zero, List.set_cons_succ, Option.some.injEq, List.cons.injEq, exists_eq_left', exists_and_left, exists_eq_left, asV_ex, asI_ex, asB_ex, asR_ex, rEqm_ex, rNem_ex, scal_ii, scal_bb, L2.start, wipe, Nat.reduceAdd, Nat.reduceSub, reduceIte, sp_length_of])
    obtain ⟨qs, hq1, hq2⟩ := hR
    have ql : qs.length = l.length := hq2.length
    refine ⟨b, rfl, ⟨_, SqL.of hq1⟩, fun D hD => ?_⟩
    refine lc_list (xs := qs.map V.ref) (fun i H' => Same H H' ∧ H' D = some (.lst (((l.take i).map fun s => FtBlocks.long x s).map V.int))) ⟨same_new hD, upd_same⟩ (fun i H' _ q => SqL.of (q.1 b _ hq1)) (fun i v H' hv q => ?_) (fun H' q => ?_)
    · obtain ⟨s1, hP⟩ := q
      rw [List.getElem?_map] at hv
      cases hy : qs[i]? with
      | none =>
        rw [hy] at hv
        cases hv
      | some r =>
        rw [hy] at hv
        cases hv
        obtain ⟨st, hst, hr'⟩ := paired_at hq2 hy
        have mst : st ∈ l := List.mem_of_getElem? hst
        have hlt : i < l.length := (List.getElem?_eq_some_iff.mp hst).1
        (try dsimp only [tVarm, tC, tOp, tUn, rIm, rI0m, rUm, tTestm, tChainm, tAnd, tOr, tNot, tAndVm, tOrVm, tNotVm, tIf, tSeq, tNext, tAsg, gName, tIfS, tRet, tRetN, tDrop, tCall, tCB, tCons, tNil, tLst, tTup, tAugm, ipIm, tBM, rAppend, rIxLm, rCat, tIsN, tNotN, rIxTm, rExtend, gTup, gCons, gNil, tYes, rSum, rAll, asV_is, asI_is, asB_is, asR_is, rEqm_ii, rNem_ii, scal_ii, scal_bb, rLtL, rMaxD, rMinD, L2.start, wipe, sp_length_of, List.map_cons, List.map_nil, List.length_cons, List.length_nil, List.append_nil, List.cons_append, List.nil_append, List.replicate_succ, List.replicate_zero, List.getElem?_cons_zero, List.getElem?_cons_succ, List.set_cons_zero, List.set_cons_succ]); (try simp only [tVarm, tC, tOp, tUn, rIm, rI0m, rUm, tTestm, tChainm, tAnd, tOr, tNot, tAndVm, tOrVm, tNotVm, tIf, tSeq, tNext, tAsg, gName, tIfS, tRet, tRetN, tDrop, tCall, tCB, tCons, tNil, tLst, tTup, tAugm, ipIm, tBM, rAppend, rIxLm, rCat, tIsN, tNotN, rIxTm, rExtend, gTup, gCons, gNil, tYes, rSum, rAll, rLtL, rMaxD, rMinD, V.int.injEq, V.bl.injEq, V.str.injEq, V.ref.injEq, and_true, true_and, and_assoc, Bool.false_eq_true, List.map_cons, List.map_nil, List.length_cons, List.length_nil, List.append_nil, List.cons_append, List.nil_append, List.replicate_succ, List.replicate_zero, List.getElem?_cons_zero, List.getElem?_cons_succ, List.set_cons_zero, List.set_cons_succ, Option.some.injEq, List.cons.injEq, exists_eq_left', exists_and_left, exists_eq_left, asV_ex, asI_ex, asB_ex, asR_ex, rEqm_ex, rNem_ex, scal_ii, scal_bb, L2.start, wipe, Nat.reduceAdd, Nat.reduceSub, reduceIte, sp_length_of])
        refine ⟨x, hB.same s1, st, SqL.of (s1 _ _ hr'), by have := hll st mst; (first | lia | omega), hin st mst, fun H2 s2 => ⟨_, s2 _ _ hP, big_lt ?_, upd_keep (s1.trans s2) hD, ?_⟩⟩
        · rw [List.length_map, List.length_map, List.length_take]
          (first | lia | omega)
        · rw [upd_same, take_snoc hst, List.map_append, List.map_append]
          rfl
    · obtain ⟨s1, hP⟩ := q
      have et : l.take (qs.map V.ref).length = l := by
        rw [List.length_map, ql, List.take_length]
      rw [et] at hP
      exact k D H' hD s1 hP
def NearIs (ns : List Int) (z up r : Int) : Prop :=
  if up = 0 then ((∀ n ∈ ns, ¬ n ≤ z) ∧ r = 0) ∨ (r ∈ ns ∧ r ≤ z ∧ ∀ n ∈ ns, n ≤ z → n ≤ r)
  else ((∀ n ∈ ns, ¬ z ≤ n) ∧ r = 0) ∨ (r ∈ ns ∧ z ≤ r ∧ ∀ n ∈ ns, z ≤ n → r ≤ n)
def sp_nearest_length (K : PySem.W.Frag) : Sp := fun vs H Q _ => ∃ (a : Addr) (ns : List Int) (z up : Int), vs = [.ref a, .int z, .int up] ∧ SqL K H a (ns.map V.int) ∧ ns.length ≤ 10000000 ∧ ∀ H' r, Same H H' → NearIs ns z up r → Q (.int r) H'

theorem sc_nearest_length : FnScope ["lengths", "z", "up", "length"] ["lengths", "z", "up"] (defScope st_nearest_length) := ⟨rfl, rfl, rfl, by decide +kernel, rfl, by decide +kernel, by decide +kernel⟩
theorem ok_nearest_length {P : Program} {w : World} {K : PySem.W.Frag} {mg : Str → Option Value} {base : Heap} (R : Raw K mg "nearest_length" st_nearest_length ["lengths", "z", "up"]) (b_min : mg "min" = none) (b_max : mg "max" = none) : Dn P w K mg base 1 "nearest_length" ["lengths", "z", "up"] (sp_nearest_length K) := by
  refine R.dn fun f fd F => F.ok sc_nearest_length (fun vs H Q E h => ?_) (fun cdv A outer s H vs Q E hr h => ?_)
  ·
    obtain ⟨_, _, _, _, rfl, _⟩ := h
    rfl
  ·
    obtain ⟨a, ns, z, up, rfl, hS, hnl, k⟩ := h
    refine ⟨_, (pss_cons (ps_if (pt_cmpRm op_eqm (pvm 2) pe_int (nomark _)) (pss_one (ps_ret (pe_callBK (cr_maxD rfl) rfl b_max (by decide +kernel) (pa_cons (pe_lc rfl sc_nearest_length.nd (pi_list (pvm 0)) (own := [("length", 3)]) (blkOk_by (N := ["lengths", "z", "up", "length"]) (sc := defScope st_nearest_length) (by decide +kernel)) (fun _ _ _ _ _ => (pg_name (i := 3) sc_nearest_length.nd rfl (by first | exact Or.inl rfl | exact Or.inr rfl))) (fun _ _ _ _ _ => (pts_one (pt_cmpRm op_lem (pvm 3) (pvm 1) (nomark _)))) (fun _ _ _ _ _ => (pvm 3))) pa_nil) (pk_cons pe_int pk_nil)))) pss_nil) (pss_one (ps_ret (pe_callBK (cr_minD rfl) rfl b_min (by decide +kernel) (pa_cons (pe_lc rfl sc_nearest_length.nd (pi_list (pvm 0)) (own := [("length", 3)]) (blkOk_by (N := ["lengths", "z", "up", "length"]) (sc := defScope st_nearest_length) (by decide +kernel)) (fun _ _ _ _ _ => (pg_name (i := 3) sc_nearest_length.nd rfl (by first | exact Or.inl rfl | exact Or.inr rfl))) (fun _ _ _ _ _ => (pts_one (pt_cmpRm op_gem (pvm 3) (pvm 1) (nomark _)))) (fun _ _ _ _ _ => (pvm 3))) pa_nil) (pk_cons pe_int pk_nil))))), ?_⟩
    (try dsimp only [tVarm, tC, tOp, tUn, rIm, rI0m, rUm, tTestm, tChainm, tAnd, tOr, tNot, tAndVm, tOrVm, tNotVm, tIf, tSeq, tNext, tAsg, gName, tIfS, tRet, tRetN, tDrop, tCall, tCB, tCons, tNil, tLst, tTup, tAugm, ipIm, tBM, rAppend, rIxLm, rCat, tIsN, tNotN, rIxTm, rExtend, gTup, gCons, gNil, tYes, rSum, rAll, asV_is, asI_is, asB_is, asR_is, rEqm_ii, rNem_ii, scal_ii, scal_bb, rLtL, rMaxD, rMinD, L2.start, wipe, List.map_cons, List.map_nil, List.length_cons, List.length_nil, List.append_nil, List.cons_append, List.nil_append, List.replicate_succ, List.replicate_zero, List.getElem?_cons_zero, List.getElem?_cons_succ, List.set_cons_zero, List.set_cons_succ]); (try simp only [tVarm, tC, tOp, tUn, rIm, rI0m, rUm, tTestm, tChainm, tAnd, tOr, tNot, tAndVm, tOrVm, tNotVm, tIf, tSeq, tNext, tAsg, gName, tIfS, tRet, tRetN, tDrop, tCall, tCB, tCons, tNil, tLst, tTup, tAugm, ipIm, tBM, rAppend, rIxLm, rCat, tIsN, tNotN, rIxTm, rExtend, gTup, gCons, gNil, tYes, rSum, rAll, rLtL, rMaxD, rMinD, V.int.injEq, V.bl.injEq, V.str.injEq, V.ref.injEq, and_true, true_and, and_assoc, Bool.false_eq_true, List.map_cons, List.map_nil, List.length_cons, List.length_nil, List.append_nil, List.cons_append, List.nil_append, List.replicate_succ, List.replicate_zero, List.getElem?_cons_zero, List.getElem?_cons_succ, List.set_cons_zero, List.set_cons_succ, Option.some.injEq, List.cons.injEq, exists_eq_left', exists_and_left, exists_eq_left, asV_ex, asI_ex, asB_ex, asR_ex, rEqm_ex, rNem_ex, scal_ii, scal_bb, L2.start, wipe, Nat.reduceAdd, Nat.reduceSub, reduceIte])
    by_cases hu : up = 0
    · refine iteT' (decide_eq_true hu) ?_
      refine ⟨a, rfl, ⟨_, hS⟩, fun D hD => ?_⟩
      refine lc_list (xs := ns.map V.int) (fun i H' => Same H H' ∧ H' D = some (.lst (((ns.take i).filter fun n => decide (n ≤ z)).map V.int))) ⟨same_new hD, upd_same⟩ (fun i H' _ q => q.1.seq hS) (fun i v H' hv q => ?_) (fun H' q => ?_)
      · obtain ⟨s1, hP⟩ := q
        rw [List.getElem?_map] at hv
        cases hy : ns[i]? with
        | none =>
          rw [hy] at hv
          cases hv
        | some n =>
          rw [hy] at hv
          cases hv
          have hlt : i < ns.length := (List.getElem?_eq_some_iff.mp hy).1
          have et := take_snoc hy
          (try dsimp only [tVarm, tC, tOp, tUn, rIm, rI0m, rUm, tTestm, tChainm, tAnd, tOr, tNot, tAndVm, tOrVm, tNotVm, tIf, tSeq, tNext, tAsg, gName, tIfS, tRet, tRetN, tDrop, tCall, tCB, tCons, tNil, tLst, tTup, tAugm, ipIm, tBM, rAppend, rIxLm, rCat, tIsN, tNotN, rIxTm, rExtend, gTup, gCons, gNil, tYes, rSum, rAll, asV_is, asI_is, asB_is, asR_is, rEqm_ii, rNem_ii, scal_ii, scal_bb, rLtL, rMaxD, rMinD, L2.start, wipe, List.map_cons, List.map_nil, List.length_cons, List.length_nil, List.append_nil, List.cons_append, List.nil_append, List.replicate_succ, List.replicate_zero, List.getElem?_cons_zero, List.getElem?_cons_succ, List.set_cons_zero, List.set_cons_succ]); (try simp only [tVarm, tC, tOp, tUn, rIm, rI0m, rUm, tTestm, tChainm, tAnd, tOr, tNot, tAndVm, tOrVm, tNotVm, tIf, tSeq, tNext, tAsg, gName, tIfS, tRet, tRetN, tDrop, tCall, tCB, tCons, tNil, tLst, tTup, tAugm, ipIm, tBM, rAppend, rIxLm, rCat, tIsN, tNotN, rIxTm, rExtend, gTup, gCons, gNil, tYes, rSum, rAll, rLtL, rMaxD, rMinD, V.int.injEq, V.bl.injEq, V.str.injEq, V.ref.injEq, and_true, true_and, and_assoc, Bool.false_eq_true, List.map_cons, List.map_nil, List.length_cons, List.length_nil, List.append_nil, List.cons_append, List.nil_append, List.replicate_succ, List.replicate_zero, List.getElem?_cons_zero, List.getElem?_cons_succ, List.set_cons_zero, List.set_cons_succ, Option.some.injEq, List.cons.injEq, exists_eq_left', exists_and_left, exists_eq_left, asV_ex, asI_ex, asB_ex, asR_ex, rEqm_ex, rNem_ex, scal_ii, scal_bb, L2.start, wipe, Nat.reduceAdd, Nat.reduceSub, reduceIte])
          rw [et, List.filter_append]
          by_cases c : n ≤ z
          · have e1 : [n].filter (fun n => decide (n ≤ z)) = [n] := by
              rw [List.filter_cons, if_pos (decide_eq_true c)]
              rfl
            rw [e1]
            refine iteT' (decide_eq_true c) ⟨_, hP, big_lt ?_, upd_keep s1 hD, ?_⟩
            · rw [List.length_map]
              have := List.length_filter_le (fun n => decide (n ≤ z)) (ns.take i)
              rw [List.length_take] at this
              (first | lia | omega)
            · rw [upd_same, List.map_append]
              rfl
          · have e1 : [n].filter (fun n => decide (n ≤ z)) = [] := by
              rw [List.filter_cons, if_neg (by simpa using c)]
              rfl
            rw [e1, List.append_nil]
            exact iteF' (decide_eq_false c) ⟨s1, hP⟩
      · obtain ⟨s1, hP⟩ := q
        have et : ns.take (ns.map V.int).length = ns := by
          rw [List.length_map, List.take_length]
        rw [et] at hP
        have mem : ∀ n, n ∈ ns.filter (fun n => decide (n ≤ z)) ↔ n ∈ ns ∧ n ≤ z := fun n => by
          rw [List.mem_filter]
          simp
        refine ⟨D, rfl, _, SqL.of hP, fun e => k H' 0 s1 ?_, fun e m hm hy => k H' m s1 ?_⟩
        · unfold NearIs
          rw [if_pos hu]
          refine .inl ⟨fun n hn c => ?_, rfl⟩
          have := (mem n).mpr ⟨hn, c⟩
          rw [e] at this
          simp at this
        · unfold NearIs
          rw [if_pos hu]
          exact .inr ⟨((mem m).mp hm).1, ((mem m).mp hm).2, fun n hn c => hy n ((mem n).mpr ⟨hn, c⟩)⟩

    · refine iteF' (decide_eq_false hu) ?_
      refine ⟨a, rfl, ⟨_, hS⟩, fun D hD => ?_⟩
      refine lc_list (xs := ns.map V.int) (fun i H' => Same H H' ∧ H' D = some (.lst (((ns.take i).filter fun n => decide (z ≤ n)).map V.int))) ⟨same_new hD, upd_same⟩ (fun i H' _ q => q.1.seq hS) (fun i v H' hv q => ?_) (fun H' q => ?_)
      · obtain ⟨s1, hP⟩ := q
        rw [List.getElem?_map] at hv
        cases hy : ns[i]? with
        | none =>
          rw [hy] at hv
          cases hv
        | some n =>
          rw [hy] at hv
          cases hv
          have hlt : i < ns.length := (List.getElem?_eq_some_iff.mp hy).1
          have et := take_snoc hy
          (try dsimp only [tVarm, tC, tOp, tUn, rIm, rI0m, rUm, tTestm, tChainm, tAnd, tOr, tNot, tAndVm, tOrVm, tNotVm, tIf, tSeq, tNext, tAsg, gName, tIfS, tRet, tRetN, tDrop, tCall, tCB, tCons, tNil, tLst, tTup, tAugm, ipIm, tBM, rAppend, rIxLm, rCat, tIsN, tNotN, rIxTm, rExtend, gTup, gCons, gNil, tYes, rSum, rAll, asV_is, asI_is, asB_is, asR_is, rEqm_ii, rNem_ii, scal_ii, scal_bb, rLtL, rMaxD, rMinD, L2.start, wipe, List.map_cons, List.map_nil, List.length_cons, List.length_nil, List.append_nil, List.cons_append, List.nil_append, List.replicate_succ, List.replicate_zero, List.getElem?_cons_zero, List.getElem?_cons_succ, List.set_cons_zero, List.set_cons_succ]); (try simp only [tVarm, tC, tOp, tUn, rIm, rI0m, rUm, tTestm, tChainm, tAnd, tOr, tNot, tAndVm, tOrVm, tNotVm, tIf, tSeq, tNext, tAsg, gName, tIfS, tRet, tRetN, tDrop, tCall, tCB, tCons, tNil, tLst, tTup, tAugm, ipIm, tBM, rAppend, rIxLm, rCat, tIsN, tNotN, rIxTm, rExtend, gTup, gCons, gNil, tYes, rSum, rAll, rLtL, rMaxD, rMinD, V.int.injEq, V.bl.injEq, V.str.injEq, V.ref.injEq, and_true, true_and, and_assoc, Bool.false_eq_true, List.map_cons, List.map_nil, List.length_cons, List.length_nil, List.append_nil, List.cons_append, List.nil_append, List.replicate_succ, List.replicate_zero, List.getElem?_cons_zero, List.getElem?_cons_succ, List.set_cons_zero, List.set_cons_succ, Option.some.injEq, List.cons.injEq, exists_eq_left', exists_and_left, exists_eq_left, asV_ex, asI_ex, asB_ex, asR_ex, rEqm_ex, rNem_ex, scal_ii, scal_bb, L2.start, wipe, Nat.reduceAdd, Nat.reduceSub, reduceIte])
          rw [et, List.filter_append]
          by_cases c : z ≤ n
          · have e1 : [n].filter (fun n => decide (z ≤ n)) = [n] := by
              rw [List.filter_cons, if_pos (decide_eq_true c)]
              rfl
            rw [e1]
            refine iteT' (decide_eq_true c) ⟨_, hP, big_lt ?_, upd_keep s1 hD, ?_⟩
            · rw [List.length_map]
              have := List.length_filter_le (fun n => decide (z ≤ n)) (ns.take i)
              rw [List.length_take] at this
              (first | lia | omega)
            · rw [upd_same, List.map_append]
              rfl
          · have e1 : [n].filter (fun n => decide (z ≤ n)) = [] := by
              rw [List.filter_cons, if_neg (by simpa using c)]
              rfl
            rw [e1, List.append_nil]
            exact iteF' (decide_eq_false c) ⟨s1, hP⟩
      · obtain ⟨s1, hP⟩ := q
        have et : ns.take (ns.map V.int).length = ns := by
          rw [List.length_map, List.take_length]
        rw [et] at hP
        have mem : ∀ n, n ∈ ns.filter (fun n => decide (z ≤ n)) ↔ n ∈ ns ∧ z ≤ n := fun n => by
          rw [List.mem_filter]
          simp
        refine ⟨D, rfl, _, SqL.of hP, fun e => k H' 0 s1 ?_, fun e m hm hy => k H' m s1 ?_⟩
        · unfold NearIs
          rw [if_neg hu]
          refine .inl ⟨fun n hn c => ?_, rfl⟩
          have := (mem n).mpr ⟨hn, c⟩
          rw [e] at this
          simp at this
        · unfold NearIs
          rw [if_neg hu]
          exact .inr ⟨((mem m).mp hm).1, ((mem m).mp hm).2, fun n hn c => hy n ((mem n).mpr ⟨hn, c⟩)⟩
def sp_box_or_film_refusal (K : PySem.W.Frag) : Sp := fun vs H Q _ => ∃ (a : Addr) (t : List Int) (f : Int), vs = [.ref a, .int f] ∧ SqL K H a (t.map V.int) ∧ GA.Byts t ∧ t.length ≤ 4300 ∧ ∀ p H', H p = none → Same H H' → H' p = some (.lst ((if GA.boxRef t = [] then (if 1000 < f then [-3] else []) else GA.boxRef t).map V.int)) → Q (.ref p) H'

theorem sc_box_or_film_refusal : FnScope ["box", "f", "refusal"] ["box", "f"] (defScope st_box_or_film_refusal) := ⟨rfl, rfl, rfl, by decide +kernel, rfl, by decide +kernel, by decide +kernel⟩
theorem ok_box_or_film_refusal {P : Program} {w : World} {K : PySem.W.Frag} {mg : Str → Option Value} {base : Heap} (R : Raw K mg "box_or_film_refusal" st_box_or_film_refusal ["box", "f"]) {t_GREATEST_FILM : Tok} (g_GREATEST_FILM : mg "GREATEST_FILM" = some (.int (1000) t_GREATEST_FILM)) (D_box_refusal : Dn P w K mg base 11 "box_refusal" ["text"] (sp_box_refusal K)) : Dn P w K mg base 12 "box_or_film_refusal" ["box", "f"] (sp_box_or_film_refusal K) := by
  refine R.dn fun f fd F => F.ok sc_box_or_film_refusal (fun vs H Q E h => ?_) (fun cdv A outer s H vs Q E hr h => ?_)
  ·
    obtain ⟨_, _, _, rfl, _⟩ := h
    rfl
  ·
    obtain ⟨a, t, f', rfl, hS, hb, hl, k⟩ := h
    refine ⟨_, (pss_cons (ps_set (i := 2) sc_box_or_film_refusal.nd rfl (Or.inl rfl) (pe_callD D_box_refusal (hr.mono (by decide)) rfl (pa_cons (pvm 0) pa_nil))) (pss_cons (ps_if (PW.pt (pw_and (pt_not (pt_truth (pvm 2) (fun _ => rfl))) (pw_and1 (pt_cmpRm op_gtm (pvm 1) (pe_glob (v := .int (1000)) rfl g_GREATEST_FILM ⟨_, rfl⟩) (nomark _))))) (pss_one (ps_ret (pe_lst (pa_cons (pe_un un_negm pe_int) pa_nil)))) pss_nil) (pss_one (ps_ret (pvm 2))))), ?_⟩
    (try dsimp only [tVarm, tC, tOp, tUn, rIm, rI0m, rUm, tTestm, tChainm, tAnd, tOr, tNot, tAndVm, tOrVm, tNotVm, tIf, tSeq, tNext, tAsg, gName, tIfS, tRet, tRetN, tDrop, tCall, tCB, tCons, tNil, tLst, tTup, tAugm, ipIm, tBM, rAppend, rIxLm, rCat, tIsN, tNotN, rIxTm, rExtend, gTup, gCons, gNil, tYes, rSum, rAll, asV_is, asI_is, asB_is, asR_is, rEqm_ii, rNem_ii, scal_ii, scal_bb, rLtL, rMaxD, rMinD, L2.start, wipe, sp_box_refusal, List.map_cons, List.map_nil, List.length_cons, List.length_nil, List.append_nil, List.cons_append, List.nil_append, List.replicate_succ, List.replicate_zero, List.getElem?_cons_zero, List.getElem?_cons_succ, List.set_cons_zero, List.set_cons_succ]); (try simp only [tVarm, tC, tOp, tUn, rIm, rI0m, rUm, tTestm, tChainm, tAnd, tOr, tNot, tAndVm, tOrVm, tNotVm, tIf, tSeq, tNext, tAsg, gName, tIfS, tRet, tRetN, tDrop, tCall, tCB, tCons, tNil, tLst, tTup, tAugm, ipIm, tBM, rAppend, rIxLm, rCat, tIsN, tNotN, rIxTm, rExtend, gTup, gCons, gNil, tYes, rSum, rAll, rLtL, rMaxD, rMinD, V.int.injEq, V.bl.injEq, V.str.injEq, V.ref.injEq, and_true, true_and, and_assoc, Bool.false_eq_true, List.map_cons, List.map_nil, List.length_cons, List.length_nil, List.append_nil, List.cons_append, List.nil_append, List.replicate_succ, List.replicate_zero, List.getElem?_cons_zero, List.getElem?_cons_succ, List.set_cons_zero, List.set_cons_succ, Option.some.injEq, List.cons.injEq, exists_eq_left', exists_and_left, exists_eq_left, asV_ex, asI_ex, asB_ex, asR_ex, rEqm_ex, rNem_ex, scal_ii, scal_bb, L2.start, wipe, Nat.reduceAdd, Nat.reduceSub, reduceIte, sp_box_refusal])
    refine ⟨t, hS, hb, hl, fun p H1 hp s1 hP => ⟨!((GA.boxRef t).map V.int).isEmpty, .inl ⟨_, SqL.of hP, rfl⟩, ?_⟩⟩
    by_cases c : GA.boxRef t = []
    · rw [if_pos c] at k
      rw [c] at hP
      refine iteT' (by rw [c]; rfl) ?_
      by_cases c2 : 1000 < f'
      · rw [if_pos c2] at k
        exact iteT' (decide_eq_true c2) ⟨by decide, fun p2 hp2 => k p2 _ (s1.free hp2) (s1.trans (same_new hp2)) upd_same⟩
      · rw [if_neg c2] at k
        exact iteF' (decide_eq_false c2) (k p H1 hp s1 hP)
    · rw [if_neg c] at k
      refine iteF' ?_ (k p H1 hp s1 hP)
      cases hc : GA.boxRef t with
      | nil => exact absurd hc c
      | cons _ _ => rfl
def sp_next_of (K : PySem.W.Frag) : Sp := fun vs H Q _ => ∃ (a b : Addr) (t bar : List Int) (f z up : Int), vs = [.int f, .int z, .int up, .ref a, .ref b] ∧ SqL K H a (t.map V.int) ∧ SqL K H b (bar.map V.int) ∧ GA.Byts t ∧ t.length ≤ 4300 ∧ GA.NonNeg bar ∧ 0 ≤ f ∧ 0 ≤ up ∧ ∀ p H', Same H H' → SqL K H' p ((PyWqajbp.next_of f z up t bar).map V.int) → Q (.ref p) H'
theorem told_row (sb : List Nat) : some (HO.lst ([V.int ((rowV sb).length : Nat)] ++ rowV sb)) = some (HO.lst ((GA.listL sb).map V.int)) := by
  unfold GA.listL rowV
  rw [List.length_map, List.map_cons, List.map_map]
  rfl
theorem near_best {x : FtBlocks.Box} {bar : List Nat} {l : List (List Nat)} {f z up r : Int} {sb : List Nat} (bok : GA.BoxOk x) (mall : ∀ s, s ∈ l ↔ s ∈ FtBlocks.stacks x bar) (u0 : 0 ≤ up) (N : NearIs (l.map fun s => FtBlocks.long x s) z up r) (inv : GA.BestInv x f.toNat r l sb) :
    ((FtBlocks.nearest x bar (up.toNat != 0) z).bind (FtBlocks.best x f.toNat bar)) = if sb = [] then none else some sb := by
  have none_case : FtBlocks.nearest x bar (up.toNat != 0) z = none → r = 0 → ((FtBlocks.nearest x bar (up.toNat != 0) z).bind (FtBlocks.best x f.toNat bar)) = if sb = [] then none else some sb := fun e r0 => by
    rw [e]
    rcases inv with ⟨e2, _⟩ | ⟨_, m, lz, _⟩
    · rw [if_pos e2]
      rfl
    · have := (GA.stack_long bok ((mall sb).mp m)).1
      (first | lia | omega)
  have some_case : FtBlocks.nearest x bar (up.toNat != 0) z = some r → ((FtBlocks.nearest x bar (up.toNat != 0) z).bind (FtBlocks.best x f.toNat bar)) = if sb = [] then none else some sb := fun e => by
    rw [e]
    exact GA.best_end mall inv
  unfold NearIs at N
  by_cases hu : up = 0
  · rw [if_pos hu] at N
    have eu : (up.toNat != 0) = false := by rw [hu]; rfl
    rw [eu] at none_case some_case ⊢
    rcases N with ⟨n1, n2⟩ | ⟨n1, n2, n3⟩
    · refine none_case (GA.near_none fun s m q => ?_) n2
      unfold GA.side at q
      rw [if_neg Bool.false_ne_true] at q
      exact n1 _ (List.mem_map.mpr ⟨s, (mall s).mpr m, rfl⟩) q
    · obtain ⟨s, m, e⟩ := List.mem_map.mp n1
      refine some_case (GA.near_eq ⟨s, (mall s).mp m, e, ?_⟩ fun s' m' q => ?_)
      · unfold GA.side
        rw [if_neg Bool.false_ne_true]
        exact n2
      · unfold GA.side at q
        unfold GA.nearer
        rw [if_neg Bool.false_ne_true] at q ⊢
        exact n3 _ (List.mem_map.mpr ⟨s', (mall s').mpr m', rfl⟩) q
  · rw [if_neg hu] at N
    have eu : (up.toNat != 0) = true := by simp; (first | lia | omega)
    rw [eu] at none_case some_case ⊢
    rcases N with ⟨n1, n2⟩ | ⟨n1, n2, n3⟩
    · refine none_case (GA.near_none fun s m q => ?_) n2
      unfold GA.side at q
      rw [if_pos rfl] at q
      exact n1 _ (List.mem_map.mpr ⟨s, (mall s).mpr m, rfl⟩) q
    · obtain ⟨s, m, e⟩ := List.mem_map.mp n1
      refine some_case (GA.near_eq ⟨s, (mall s).mp m, e, ?_⟩ fun s' m' q => ?_)
      · unfold GA.side
        rw [if_pos rfl]
        exact n2
      · unfold GA.side at q
        unfold GA.nearer
        rw [if_pos rfl] at q ⊢
        exact n3 _ (List.mem_map.mpr ⟨s', (mall s').mpr m', rfl⟩) q

theorem sc_next_of : FnScope ["f", "z", "up", "box", "barred", "refusal", "blocks", "stacks", "best"] ["f", "z", "up", "box", "barred"] (defScope st_next_of) := ⟨rfl, rfl, rfl, by decide +kernel, rfl, by decide +kernel, by decide +kernel⟩
theorem ok_next_of {P : Program} {w : World} {K : PySem.W.Frag} {mg : Str → Option Value} {base : Heap} (R : Raw K mg "next_of" st_next_of ["f", "z", "up", "box", "barred"]) (b_len : mg "len" = none) (D_box_or_film_refusal : Dn P w K mg base 12 "box_or_film_refusal" ["box", "f"] (sp_box_or_film_refusal K)) (D_blocks_of : Dn P w K mg base 10 "blocks_of" ["text"] (sp_blocks_of K)) (D_stacks_without : Dn P w K mg base 2 "stacks_without" ["count", "barred"] (sp_stacks_without K)) (D_best_stack : Dn P w K mg base 4 "best_stack" ["blocks", "stacks", "f", "length"] (sp_best_stack K)) (D_nearest_length : Dn P w K mg base 1 "nearest_length" ["lengths", "z", "up"] (sp_nearest_length K)) (D_lengths_of : Dn P w K mg base 2 "lengths_of" ["blocks", "stacks"] (sp_lengths_of K)) : Dn P w K mg base 13 "next_of" ["f", "z", "up", "box", "barred"] (sp_next_of K) := by
  refine R.dn fun f fd F => F.ok sc_next_of (fun vs H Q E h => ?_) (fun cdv A outer s H vs Q E hr h => ?_)
  ·
    obtain ⟨_, _, _, _, _, _, _, rfl, _⟩ := h
    rfl
  ·
    obtain ⟨a, b, t, bar, f', z, up, rfl, hS, hR, hb, hl, hnn, f0, u0, k⟩ := h
    refine ⟨_, (pss_cons (ps_set (i := 5) sc_next_of.nd rfl (Or.inl rfl) (pe_callD D_box_or_film_refusal (hr.mono (by decide)) rfl (pa_cons (pvm 3) (pa_cons (pvm 0) pa_nil)))) (pss_cons (ps_if (pt_truth (pvm 5) (fun _ => rfl)) (pss_one (ps_ret (pvm 5))) pss_nil) (pss_cons (ps_set (i := 6) sc_next_of.nd rfl (Or.inl rfl) (pe_callD D_blocks_of (hr.mono (by decide)) rfl (pa_cons (pvm 3) pa_nil))) (pss_cons (ps_set (i := 7) sc_next_of.nd rfl (Or.inl rfl) (pe_callD D_stacks_without (hr.mono (by decide)) rfl (pa_cons (pe_callB (call_len_seq) rfl b_len (by decide +kernel) (pa_cons (pvm 6) pa_nil)) (pa_cons (pvm 4) pa_nil)))) (pss_cons (ps_set (i := 8) sc_next_of.nd rfl (Or.inl rfl) (pe_callD D_best_stack (hr.mono (by decide)) rfl (pa_cons (pvm 6) (pa_cons (pvm 7) (pa_cons (pvm 0) (pa_cons (pe_callD D_nearest_length (hr.mono (by decide)) rfl (pa_cons (pe_callD D_lengths_of (hr.mono (by decide)) rfl (pa_cons (pvm 6) (pa_cons (pvm 7) pa_nil))) (pa_cons (pvm 1) (pa_cons (pvm 2) pa_nil)))) pa_nil)))))) (pss_one (ps_ret (pe_ifExp (pt_truth (pvm 8) (fun _ => rfl)) (pe_op op_cat (pe_lst (pa_cons (pe_callB (call_len_seq) rfl b_len (by decide +kernel) (pa_cons (pvm 8) pa_nil)) pa_nil)) (pvm 8)) (pe_lst (pa_cons (pe_un un_negm pe_int) pa_nil)))))))))), ?_⟩
    rw [GA.next_val hb f0 u0 hnn] at k
    (try dsimp only [tVarm, tC, tOp, tUn, rIm, rI0m, rUm, tTestm, tChainm, tAnd, tOr, tNot, tAndVm, tOrVm, tNotVm, tIf, tSeq, tNext, tAsg, gName, tIfS, tRet, tRetN, tDrop, tCall, tCB, tCons, tNil, tLst, tTup, tAugm, ipIm, tBM, rAppend, rIxLm, rCat, tIsN, tNotN, rIxTm, rExtend, gTup, gCons, gNil, tYes, rSum, rAll, asV_is, asI_is, asB_is, asR_is, rEqm_ii, rNem_ii, scal_ii, scal_bb, rLtL, rMaxD, rMinD, L2.start, wipe, sp_box_or_film_refusal, sp_blocks_of, sp_stacks_without, sp_best_stack, sp_nearest_length, sp_lengths_of, List.map_cons, List.map_nil, List.length_cons, List.length_nil, List.append_nil, List.cons_append, List.nil_append, List.replicate_succ, List.replicate_zero, List.getElem?_cons_zero, List.getElem?_cons_succ, List.set_cons_zero, List.set_cons_succ]); (try simp only [tVarm, tC, tOp, tUn, rIm, rI0m, rUm, tTestm, tChainm, tAnd, tOr, tNot, tAndVm, tOrVm, tNotVm, tIf, tSeq, tNext, tAsg, gName, tIfS, tRet, tRetN, tDrop, tCall, tCB, tCons, tNil, tLst, tTup, tAugm, ipIm, tBM, rAppend, rIxLm, rCat, tIsN, tNotN, rIxTm, rExtend, gTup, gCons, gNil, tYes, rSum, rAll, rLtL, rMaxD, rMinD, V.int.injEq, V.bl.injEq, V.str.injEq, V.ref.injEq, and_true, true_and, and_assoc, Bool.false_eq_true, List.map_cons, List.map_nil, List.length_cons, List.length_nil, List.append_nil, List.cons_append, List.nil_append, List.replicate_succ, List.replicate_zero, List.getElem?_cons_zero, List.getElem?_cons_succ, List.set_cons_zero, List.set_cons_succ, Option.some.injEq, List.cons.injEq, exists_eq_left', exists_and_left, exists_eq_left, asV_ex, asI_ex, asB_ex, asR_ex, rEqm_ex, rNem_ex, scal_ii, scal_bb, L2.start, wipe, Nat.reduceAdd, Nat.reduceSub, reduceIte, sp_box_or_film_refusal, sp_blocks_of, sp_stacks_without, sp_best_stack, sp_nearest_length, sp_lengths_of])
    refine ⟨t, hS, hb, hl, fun p H1 hp s1 hP => ?_⟩
    refine ⟨!((if GA.boxRef t = [] then (if 1000 < f' then [-3] else []) else GA.boxRef t).map V.int).isEmpty, .inl ⟨_, SqL.of hP, rfl⟩, ?_⟩
    by_cases c : GA.boxRef t = []
    · rw [if_pos c] at k hP
      rw [if_pos c]
      by_cases c2 : 1000 < f'
      · rw [if_pos c2] at k hP
        rw [if_pos c2]
        exact iteT' rfl (k p H1 s1 (SqL.of hP))
      · rw [if_neg c2] at k
        rw [if_neg c2]
        obtain ⟨bok, blen, tlen⟩ := GA.box_ok hb c
        refine iteF' rfl ⟨t, s1.seq hS, hb, c, fun p2 H2 ps hp2 s2 hP2 pr => ?_⟩
        have s12 := s1.trans s2
        have pl : ps.length = (GA.blks t).length := pr.length
        have hB : BoxAt H2 p2 (GA.blks t) := ⟨ps, hP2, pr⟩
        refine ⟨_, .inl (SqL.of hP2), b, GA.blks t, by rw [List.length_map, pl], rfl, bar, s12.seq hR, hnn, blen, fun p3 H3 hp3 s3 hR3 => ?_⟩
        have mall := GA.mem_all (GA.blks t) (FitANeutral.nats bar)
        have frl := Nat.le_trans (GA.free_len (GA.blks t) (FitANeutral.nats bar)) blen
        have len5 : ∀ s ∈ GA.allTo (GA.free (GA.blks t) (FitANeutral.nats bar)) 4, s.length ≤ 10 := fun s m => by
          have := ((GA.mem_allTo _ 4 s).mp m).2.1
          (first | lia | omega)
        have inb : ∀ s ∈ GA.allTo (GA.free (GA.blks t) (FitANeutral.nats bar)) 4, ∀ i ∈ s, i < (GA.blks t).length := fun s m i mi => GA.stack_lt ((mall s).mp m) i mi
        have a4 : (GA.allTo (GA.free (GA.blks t) (FitANeutral.nats bar)) 4).length ≤ 4000000 := by
          have h1 := allTo_len frl 3 (by (first | lia | omega))
          have h2 := pow20 frl 4
          show (GA.allTo (GA.free (GA.blks t) (FitANeutral.nats bar)) 3 ++ GA.rowsN (GA.free (GA.blks t) (FitANeutral.nats bar)) 4).length ≤ _
          rw [List.length_append]
          (first | lia | omega)
        refine ⟨_, hB.same s3, _, hR3, len5, inb, by (first | lia | omega), fun p4 H4 hp4 s4 hP4 => ⟨_, SqL.of hP4, by rw [List.length_map]; (first | lia | omega), fun H5 r s5 N => ?_⟩⟩
        refine ⟨_, hB.same (s3.trans (s4.trans s5)), _, hR3.same (s4.trans s5), fun s m => allTo_ne m, len5, inb, f0, by (first | lia | omega), fun p6 H6 sb s6 hP6 inv => ?_⟩
        have s16 := s12.trans (s3.trans (s4.trans (s5.trans s6)))
        have ev : ((FtBlocks.nearest (GA.blks t) (FitANeutral.nats bar) (up.toNat != 0) z).bind (FtBlocks.best (GA.blks t) f'.toNat (FitANeutral.nats bar))) = if sb = [] then none else some sb := near_best bok mall u0 N inv
        rw [ev] at k
        refine ⟨!(rowV sb).isEmpty, .inl ⟨_, SqL.of hP6, rfl⟩, ?_⟩
        by_cases hsb : sb = []
        · rw [if_pos hsb] at k
          exact iteF' (by rw [hsb]; rfl) ⟨by decide, fun p7 hp7 => k p7 _ (s16.trans (same_new hp7)) (SqL.of upd_same)⟩
        · rw [if_neg hsb] at k
          have lsb : sb.length ≤ 5 := by
            rcases inv with ⟨e, _⟩ | ⟨_, m, _⟩
            · exact absurd e hsb
            · exact ((GA.mem_allTo _ 4 sb).mp m).2.1
          refine iteT' ?_ ⟨_, .inl (SqL.of hP6), by decide, fun p7 hp7 => ⟨_, upd_same, _, same_new hp7 _ _ hP6, ?_, fun p8 hp8 => k p8 _ (s16.trans ((same_new hp7).trans (same_new hp8))) (SqL.of ?_)⟩⟩
          · cases sb with
            | nil => exact absurd rfl hsb
            | cons _ _ => rfl
          · unfold rowV
            rw [List.length_map]
            exact big_ok (by simp only [List.length_cons, List.length_nil]; (first | lia | omega))
          · rw [upd_same, told_row]
    · rw [if_neg c] at k hP
      rw [if_neg c]
      refine iteT' ?_ (k p H1 s1 (SqL.of hP))
      cases hc : GA.boxRef t with
      | nil => exact absurd hc c
      | cons _ _ => rfl
theorem len_1 {us : List Value} (h : us.length = 1) : ∃ u0, us = [u0] := by
  cases us with
  | nil => simp at h
  | cons u0 us =>
  cases us with
  | nil => exact ⟨u0, rfl⟩
  | cons _ _ => simp at h

theorem len_2 {us : List Value} (h : us.length = 2) : ∃ u0 u1, us = [u0, u1] := by
  cases us with
  | nil => simp at h
  | cons u0 us =>
  simp only [List.length_cons, Nat.add_right_cancel_iff] at h
  cases us with
  | nil => simp at h
  | cons u1 us =>
  cases us with
  | nil => exact ⟨u0, u1, rfl⟩
  | cons _ _ => simp at h

theorem len_3 {us : List Value} (h : us.length = 3) : ∃ u0 u1 u2, us = [u0, u1, u2] := by
  cases us with
  | nil => simp at h
  | cons u0 us =>
  simp only [List.length_cons, Nat.add_right_cancel_iff] at h
  cases us with
  | nil => simp at h
  | cons u1 us =>
  simp only [List.length_cons, Nat.add_right_cancel_iff] at h
  cases us with
  | nil => simp at h
  | cons u2 us =>
  cases us with
  | nil => exact ⟨u0, u1, u2, rfl⟩
  | cons _ _ => simp at h

theorem len_4 {us : List Value} (h : us.length = 4) : ∃ u0 u1 u2 u3, us = [u0, u1, u2, u3] := by
  cases us with
  | nil => simp at h
  | cons u0 us =>
  simp only [List.length_cons, Nat.add_right_cancel_iff] at h
  cases us with
  | nil => simp at h
  | cons u1 us =>
  simp only [List.length_cons, Nat.add_right_cancel_iff] at h
  cases us with
  | nil => simp at h
  | cons u2 us =>
  simp only [List.length_cons, Nat.add_right_cancel_iff] at h
  cases us with
  | nil => simp at h
  | cons u3 us =>
  cases us with
  | nil => exact ⟨u0, u1, u2, u3, rfl⟩
  | cons _ _ => simp at h

theorem len_5 {us : List Value} (h : us.length = 5) : ∃ u0 u1 u2 u3 u4, us = [u0, u1, u2, u3, u4] := by
  cases us with
  | nil => simp at h
  | cons u0 us =>
  simp only [List.length_cons, Nat.add_right_cancel_iff] at h
  cases us with
  | nil => simp at h
  | cons u1 us =>
  simp only [List.length_cons, Nat.add_right_cancel_iff] at h
  cases us with
  | nil => simp at h
  | cons u2 us =>
  simp only [List.length_cons, Nat.add_right_cancel_iff] at h
  cases us with
  | nil => simp at h
  | cons u3 us =>
  simp only [List.length_cons, Nat.add_right_cancel_iff] at h
  cases us with
  | nil => simp at h
  | cons u4 us =>
  cases us with
  | nil => exact ⟨u0, u1, u2, u3, u4, rfl⟩
  | cons _ _ => simp at h

set_option maxHeartbeats 0 in
theorem all_mk {P : Program} {w : World} {K : PySem.W.Frag} {h base : Heap} {mg : Str → Option Value} (X : K.In h) (G : h.Ns mainGlobals mg)
    {f0 : Addr} {od0 an0 : Option Addr} {sl0 : Array (Option Value)} {oc0 kV0 dc0 pm0 cd0 ct0 : Value}
    {f1 : Addr} {od1 an1 : Option Addr} {sl1 : Array (Option Value)} {oc1 kV1 dc1 pm1 cd1 ct1 : Value}
    {f2 : Addr} {od2 an2 : Option Addr} {sl2 : Array (Option Value)} {oc2 kV2 dc2 pm2 cd2 ct2 : Value}
    {f3 : Addr} {od3 an3 : Option Addr} {sl3 : Array (Option Value)} {oc3 kV3 dc3 pm3 cd3 ct3 : Value}
    {f4 : Addr} {od4 an4 : Option Addr} {sl4 : Array (Option Value)} {oc4 kV4 dc4 pm4 cd4 ct4 : Value}
    {f5 : Addr} {od5 an5 : Option Addr} {sl5 : Array (Option Value)} {oc5 kV5 dc5 pm5 cd5 ct5 : Value}
    {f6 : Addr} {od6 an6 : Option Addr} {sl6 : Array (Option Value)} {oc6 kV6 dc6 pm6 cd6 ct6 : Value}
    {f7 : Addr} {od7 an7 : Option Addr} {sl7 : Array (Option Value)} {oc7 kV7 dc7 pm7 cd7 ct7 : Value}
    {f8 : Addr} {od8 an8 : Option Addr} {sl8 : Array (Option Value)} {oc8 kV8 dc8 pm8 cd8 ct8 : Value}
    {f9 : Addr} {od9 an9 : Option Addr} {sl9 : Array (Option Value)} {oc9 kV9 dc9 pm9 cd9 ct9 : Value}
    {f10 : Addr} {od10 an10 : Option Addr} {sl10 : Array (Option Value)} {oc10 kV10 dc10 pm10 cd10 ct10 : Value}
    {f11 : Addr} {od11 an11 : Option Addr} {sl11 : Array (Option Value)} {oc11 kV11 dc11 pm11 cd11 ct11 : Value}
    {f12 : Addr} {od12 an12 : Option Addr} {sl12 : Array (Option Value)} {oc12 kV12 dc12 pm12 cd12 ct12 : Value}
    {f13 : Addr} {od13 an13 : Option Addr} {sl13 : Array (Option Value)} {oc13 kV13 dc13 pm13 cd13 ct13 : Value}
    {f14 : Addr} {od14 an14 : Option Addr} {sl14 : Array (Option Value)} {oc14 kV14 dc14 pm14 cd14 ct14 : Value}
    {f15 : Addr} {od15 an15 : Option Addr} {sl15 : Array (Option Value)} {oc15 kV15 dc15 pm15 cd15 ct15 : Value}
    {f16 : Addr} {od16 an16 : Option Addr} {sl16 : Array (Option Value)} {oc16 kV16 dc16 pm16 cd16 ct16 : Value}
    {f17 : Addr} {od17 an17 : Option Addr} {sl17 : Array (Option Value)} {oc17 kV17 dc17 pm17 cd17 ct17 : Value}
    {f18 : Addr} {od18 an18 : Option Addr} {sl18 : Array (Option Value)} {oc18 kV18 dc18 pm18 cd18 ct18 : Value}
    {f19 : Addr} {od19 an19 : Option Addr} {sl19 : Array (Option Value)} {oc19 kV19 dc19 pm19 cd19 ct19 : Value}
    {f20 : Addr} {od20 an20 : Option Addr} {sl20 : Array (Option Value)} {oc20 kV20 dc20 pm20 cd20 ct20 : Value}
    {f21 : Addr} {od21 an21 : Option Addr} {sl21 : Array (Option Value)} {oc21 kV21 dc21 pm21 cd21 ct21 : Value}
    {f22 : Addr} {od22 an22 : Option Addr} {sl22 : Array (Option Value)} {oc22 kV22 dc22 pm22 cd22 ct22 : Value}
    {f23 : Addr} {od23 an23 : Option Addr} {sl23 : Array (Option Value)} {oc23 kV23 dc23 pm23 cd23 ct23 : Value}
    {f24 : Addr} {od24 an24 : Option Addr} {sl24 : Array (Option Value)} {oc24 kV24 dc24 pm24 cd24 ct24 : Value}
    {f25 : Addr} {od25 an25 : Option Addr} {sl25 : Array (Option Value)} {oc25 kV25 dc25 pm25 cd25 ct25 : Value}
    {f26 : Addr} {od26 an26 : Option Addr} {sl26 : Array (Option Value)} {oc26 kV26 dc26 pm26 cd26 ct26 : Value}
    {f27 : Addr} {od27 an27 : Option Addr} {sl27 : Array (Option Value)} {oc27 kV27 dc27 pm27 cd27 ct27 : Value}
    {f28 : Addr} {od28 an28 : Option Addr} {sl28 : Array (Option Value)} {oc28 kV28 dc28 pm28 cd28 ct28 : Value}
    {f29 : Addr} {od29 an29 : Option Addr} {sl29 : Array (Option Value)} {oc29 kV29 dc29 pm29 cd29 ct29 : Value}
    {f30 : Addr} {od30 an30 : Option Addr} {sl30 : Array (Option Value)} {oc30 kV30 dc30 pm30 cd30 ct30 : Value}
    {f31 : Addr} {od31 an31 : Option Addr} {sl31 : Array (Option Value)} {oc31 kV31 dc31 pm31 cd31 ct31 : Value}
    {f32 : Addr} {od32 an32 : Option Addr} {sl32 : Array (Option Value)} {oc32 kV32 dc32 pm32 cd32 ct32 : Value}
    {f33 : Addr} {od33 an33 : Option Addr} {sl33 : Array (Option Value)} {oc33 kV33 dc33 pm33 cd33 ct33 : Value}
    {f34 : Addr} {od34 an34 : Option Addr} {sl34 : Array (Option Value)} {oc34 kV34 dc34 pm34 cd34 ct34 : Value}
    {f35 : Addr} {od35 an35 : Option Addr} {sl35 : Array (Option Value)} {oc35 kV35 dc35 pm35 cd35 ct35 : Value}
    {f36 : Addr} {od36 an36 : Option Addr} {sl36 : Array (Option Value)} {oc36 kV36 dc36 pm36 cd36 ct36 : Value}
    {f37 : Addr} {od37 an37 : Option Addr} {sl37 : Array (Option Value)} {oc37 kV37 dc37 pm37 cd37 ct37 : Value}
    {f38 : Addr} {od38 an38 : Option Addr} {sl38 : Array (Option Value)} {oc38 kV38 dc38 pm38 cd38 ct38 : Value}
    {f39 : Addr} {od39 an39 : Option Addr} {sl39 : Array (Option Value)} {oc39 kV39 dc39 pm39 cd39 ct39 : Value}
    {f40 : Addr} {od40 an40 : Option Addr} {sl40 : Array (Option Value)} {oc40 kV40 dc40 pm40 cd40 ct40 : Value}
    {f41 : Addr} {od41 an41 : Option Addr} {sl41 : Array (Option Value)} {oc41 kV41 dc41 pm41 cd41 ct41 : Value}
    {f42 : Addr} {od42 an42 : Option Addr} {sl42 : Array (Option Value)} {oc42 kV42 dc42 pm42 cd42 ct42 : Value}
    {f43 : Addr} {od43 an43 : Option Addr} {sl43 : Array (Option Value)} {oc43 kV43 dc43 pm43 cd43 ct43 : Value}
    {f44 : Addr} {od44 an44 : Option Addr} {sl44 : Array (Option Value)} {oc44 kV44 dc44 pm44 cd44 ct44 : Value}
    {f45 : Addr} {od45 an45 : Option Addr} {sl45 : Array (Option Value)} {oc45 kV45 dc45 pm45 cd45 ct45 : Value}
    {f46 : Addr} {od46 an46 : Option Addr} {sl46 : Array (Option Value)} {oc46 kV46 dc46 pm46 cd46 ct46 : Value}
    {f47 : Addr} {od47 an47 : Option Addr} {sl47 : Array (Option Value)} {oc47 kV47 dc47 pm47 cd47 ct47 : Value}
    {f48 : Addr} {od48 an48 : Option Addr} {sl48 : Array (Option Value)} {oc48 kV48 dc48 pm48 cd48 ct48 : Value}
    {t_ZERO : Tok}
    {t_NINE : Tok}
    {t_PLUS : Tok}
    {t_MINUS : Tok}
    {t_MOST_DIGITS : Tok}
    {t_MOST_DECIMALS : Tok}
    {t_TICKS : Tok}
    {t_POINT : Tok}
    {aDT : Addr} {odDT : Option Addr} {nDT : Nat} {slDT : Array (Option Value)} {tDT1 tDT2 tDT3 tDT4 : Tok}
    {t_ONE : Tok}
    {t_SIX : Tok}
    {t_GREATEST_SIZE : Tok}
    {t_GREATEST_DEVIATION : Tok}
    {t_BLANK : Tok}
    {t_BOTH_WAYS : Tok}
    {t_TWO_DEVIATIONS : Tok}
    {t_CODE : Tok}
    {t_ALONE : Tok}
    {t_LINE_FEED : Tok}
    {t_LEAST_LENGTH : Tok}
    {t_GREATEST_LENGTH : Tok}
    {t_GREATEST_LIMIT : Tok}
    {t_LENGTH_STEP : Tok}
    {t_MOST_BLOCKS : Tok}
    {t_LONGEST_BOX_TEXT : Tok}
    {t_MOST_IN_STACK : Tok}
    {t_GREATEST_FILM : Tok}
    (a0 : PySem.W.nsIn K mainGlobals "byte_at" = some (some (.ref f0)))
    (l0 : K.lookup f0 = some ⟨oc0, od0, .func (PySem.W.fnOf "byte_at" "byte_at" (defArgs st_byte_at) (defBody st_byte_at) (defScope st_byte_at) .none kV0 dc0 pm0 an0 cd0 ct0), sl0⟩)
    (c0 : PySem.W.codeIn K cd0 "byte_at" = true)
    (k0 : PySem.W.keepIn K (.ref f0) = true)
    (a1 : PySem.W.nsIn K mainGlobals "is_digit" = some (some (.ref f1)))
    (l1 : K.lookup f1 = some ⟨oc1, od1, .func (PySem.W.fnOf "is_digit" "is_digit" (defArgs st_is_digit) (defBody st_is_digit) (defScope st_is_digit) .none kV1 dc1 pm1 an1 cd1 ct1), sl1⟩)
    (c1 : PySem.W.codeIn K cd1 "is_digit" = true)
    (k1 : PySem.W.keepIn K (.ref f1) = true)
    (a2 : PySem.W.nsIn K mainGlobals "is_sign" = some (some (.ref f2)))
    (l2 : K.lookup f2 = some ⟨oc2, od2, .func (PySem.W.fnOf "is_sign" "is_sign" (defArgs st_is_sign) (defBody st_is_sign) (defScope st_is_sign) .none kV2 dc2 pm2 an2 cd2 ct2), sl2⟩)
    (c2 : PySem.W.codeIn K cd2 "is_sign" = true)
    (k2 : PySem.W.keepIn K (.ref f2) = true)
    (a3 : PySem.W.nsIn K mainGlobals "digits_end" = some (some (.ref f3)))
    (l3 : K.lookup f3 = some ⟨oc3, od3, .func (PySem.W.fnOf "digits_end" "digits_end" (defArgs st_digits_end) (defBody st_digits_end) (defScope st_digits_end) .none kV3 dc3 pm3 an3 cd3 ct3), sl3⟩)
    (c3 : PySem.W.codeIn K cd3 "digits_end" = true)
    (k3 : PySem.W.keepIn K (.ref f3) = true)
    (a4 : PySem.W.nsIn K mainGlobals "digits_value" = some (some (.ref f4)))
    (l4 : K.lookup f4 = some ⟨oc4, od4, .func (PySem.W.fnOf "digits_value" "digits_value" (defArgs st_digits_value) (defBody st_digits_value) (defScope st_digits_value) .none kV4 dc4 pm4 an4 cd4 ct4), sl4⟩)
    (c4 : PySem.W.codeIn K cd4 "digits_value" = true)
    (k4 : PySem.W.keepIn K (.ref f4) = true)
    (a5 : PySem.W.nsIn K mainGlobals "whole_end" = some (some (.ref f5)))
    (l5 : K.lookup f5 = some ⟨oc5, od5, .func (PySem.W.fnOf "whole_end" "whole_end" (defArgs st_whole_end) (defBody st_whole_end) (defScope st_whole_end) .none kV5 dc5 pm5 an5 cd5 ct5), sl5⟩)
    (c5 : PySem.W.codeIn K cd5 "whole_end" = true)
    (k5 : PySem.W.keepIn K (.ref f5) = true)
    (a6 : PySem.W.nsIn K mainGlobals "decimals_end" = some (some (.ref f6)))
    (l6 : K.lookup f6 = some ⟨oc6, od6, .func (PySem.W.fnOf "decimals_end" "decimals_end" (defArgs st_decimals_end) (defBody st_decimals_end) (defScope st_decimals_end) .none kV6 dc6 pm6 an6 cd6 ct6), sl6⟩)
    (c6 : PySem.W.codeIn K cd6 "decimals_end" = true)
    (k6 : PySem.W.keepIn K (.ref f6) = true)
    (a7 : PySem.W.nsIn K mainGlobals "number_at" = some (some (.ref f7)))
    (l7 : K.lookup f7 = some ⟨oc7, od7, .func (PySem.W.fnOf "number_at" "number_at" (defArgs st_number_at) (defBody st_number_at) (defScope st_number_at) .none kV7 dc7 pm7 an7 cd7 ct7), sl7⟩)
    (c7 : PySem.W.codeIn K cd7 "number_at" = true)
    (k7 : PySem.W.keepIn K (.ref f7) = true)
    (a8 : PySem.W.nsIn K mainGlobals "deviation_at" = some (some (.ref f8)))
    (l8 : K.lookup f8 = some ⟨oc8, od8, .func (PySem.W.fnOf "deviation_at" "deviation_at" (defArgs st_deviation_at) (defBody st_deviation_at) (defScope st_deviation_at) .none kV8 dc8 pm8 an8 cd8 ct8), sl8⟩)
    (c8 : PySem.W.codeIn K cd8 "deviation_at" = true)
    (k8 : PySem.W.keepIn K (.ref f8) = true)
    (a9 : PySem.W.nsIn K mainGlobals "grade_at" = some (some (.ref f9)))
    (l9 : K.lookup f9 = some ⟨oc9, od9, .func (PySem.W.fnOf "grade_at" "grade_at" (defArgs st_grade_at) (defBody st_grade_at) (defScope st_grade_at) .none kV9 dc9 pm9 an9 cd9 ct9), sl9⟩)
    (c9 : PySem.W.codeIn K cd9 "grade_at" = true)
    (k9 : PySem.W.keepIn K (.ref f9) = true)
    (a10 : PySem.W.nsIn K mainGlobals "is_nominal" = some (some (.ref f10)))
    (l10 : K.lookup f10 = some ⟨oc10, od10, .func (PySem.W.fnOf "is_nominal" "is_nominal" (defArgs st_is_nominal) (defBody st_is_nominal) (defScope st_is_nominal) .none kV10 dc10 pm10 an10 cd10 ct10), sl10⟩)
    (c10 : PySem.W.codeIn K cd10 "is_nominal" = true)
    (k10 : PySem.W.keepIn K (.ref f10) = true)
    (a11 : PySem.W.nsIn K mainGlobals "are_fit" = some (some (.ref f11)))
    (l11 : K.lookup f11 = some ⟨oc11, od11, .func (PySem.W.fnOf "are_fit" "are_fit" (defArgs st_are_fit) (defBody st_are_fit) (defScope st_are_fit) .none kV11 dc11 pm11 an11 cd11 ct11), sl11⟩)
    (c11 : PySem.W.codeIn K cd11 "are_fit" = true)
    (k11 : PySem.W.keepIn K (.ref f11) = true)
    (a12 : PySem.W.nsIn K mainGlobals "unit_of" = some (some (.ref f12)))
    (l12 : K.lookup f12 = some ⟨oc12, od12, .func (PySem.W.fnOf "unit_of" "unit_of" (defArgs st_unit_of) (defBody st_unit_of) (defScope st_unit_of) .none kV12 dc12 pm12 an12 cd12 ct12), sl12⟩)
    (c12 : PySem.W.codeIn K cd12 "unit_of" = true)
    (k12 : PySem.W.keepIn K (.ref f12) = true)
    (a13 : PySem.W.nsIn K mainGlobals "root_up" = some (some (.ref f13)))
    (l13 : K.lookup f13 = some ⟨oc13, od13, .func (PySem.W.fnOf "root_up" "root_up" (defArgs st_root_up) (defBody st_root_up) (defScope st_root_up) .none kV13 dc13 pm13 an13 cd13 ct13), sl13⟩)
    (c13 : PySem.W.codeIn K cd13 "root_up" = true)
    (k13 : PySem.W.keepIn K (.ref f13) = true)
    (a14 : PySem.W.nsIn K mainGlobals "width_of" = some (some (.ref f14)))
    (l14 : K.lookup f14 = some ⟨oc14, od14, .func (PySem.W.fnOf "width_of" "width_of" (defArgs st_width_of) (defBody st_width_of) (defScope st_width_of) .none kV14 dc14 pm14 an14 cd14 ct14), sl14⟩)
    (c14 : PySem.W.codeIn K cd14 "width_of" = true)
    (k14 : PySem.W.keepIn K (.ref f14) = true)
    (a15 : PySem.W.nsIn K mainGlobals "step_of" = some (some (.ref f15)))
    (l15 : K.lookup f15 = some ⟨oc15, od15, .func (PySem.W.fnOf "step_of" "step_of" (defArgs st_step_of) (defBody st_step_of) (defScope st_step_of) .none kV15 dc15 pm15 an15 cd15 ct15), sl15⟩)
    (c15 : PySem.W.codeIn K cd15 "step_of" = true)
    (k15 : PySem.W.keepIn K (.ref f15) = true)
    (a16 : PySem.W.nsIn K mainGlobals "is_shaft_letter" = some (some (.ref f16)))
    (l16 : K.lookup f16 = some ⟨oc16, od16, .func (PySem.W.fnOf "is_shaft_letter" "is_shaft_letter" (defArgs st_is_shaft_letter) (defBody st_is_shaft_letter) (defScope st_is_shaft_letter) .none kV16 dc16 pm16 an16 cd16 ct16), sl16⟩)
    (c16 : PySem.W.codeIn K cd16 "is_shaft_letter" = true)
    (k16 : PySem.W.keepIn K (.ref f16) = true)
    (a17 : PySem.W.nsIn K mainGlobals "is_hole_letter" = some (some (.ref f17)))
    (l17 : K.lookup f17 = some ⟨oc17, od17, .func (PySem.W.fnOf "is_hole_letter" "is_hole_letter" (defArgs st_is_hole_letter) (defBody st_is_hole_letter) (defScope st_is_hole_letter) .none kV17 dc17 pm17 an17 cd17 ct17), sl17⟩)
    (c17 : PySem.W.codeIn K cd17 "is_hole_letter" = true)
    (k17 : PySem.W.keepIn K (.ref f17) = true)
    (a18 : PySem.W.nsIn K mainGlobals "is_letter" = some (some (.ref f18)))
    (l18 : K.lookup f18 = some ⟨oc18, od18, .func (PySem.W.fnOf "is_letter" "is_letter" (defArgs st_is_letter) (defBody st_is_letter) (defScope st_is_letter) .none kV18 dc18 pm18 an18 cd18 ct18), sl18⟩)
    (c18 : PySem.W.codeIn K cd18 "is_letter" = true)
    (k18 : PySem.W.keepIn K (.ref f18) = true)
    (a19 : PySem.W.nsIn K mainGlobals "letter_number" = some (some (.ref f19)))
    (l19 : K.lookup f19 = some ⟨oc19, od19, .func (PySem.W.fnOf "letter_number" "letter_number" (defArgs st_letter_number) (defBody st_letter_number) (defScope st_letter_number) .none kV19 dc19 pm19 an19 cd19 ct19), sl19⟩)
    (c19 : PySem.W.codeIn K cd19 "letter_number" = true)
    (k19 : PySem.W.keepIn K (.ref f19) = true)
    (a20 : PySem.W.nsIn K mainGlobals "code_limits" = some (some (.ref f20)))
    (l20 : K.lookup f20 = some ⟨oc20, od20, .func (PySem.W.fnOf "code_limits" "code_limits" (defArgs st_code_limits) (defBody st_code_limits) (defScope st_code_limits) .none kV20 dc20 pm20 an20 cd20 ct20), sl20⟩)
    (c20 : PySem.W.codeIn K cd20 "code_limits" = true)
    (k20 : PySem.W.keepIn K (.ref f20) = true)
    (a21 : PySem.W.nsIn K mainGlobals "end_fault" = some (some (.ref f21)))
    (l21 : K.lookup f21 = some ⟨oc21, od21, .func (PySem.W.fnOf "end_fault" "end_fault" (defArgs st_end_fault) (defBody st_end_fault) (defScope st_end_fault) .none kV21 dc21 pm21 an21 cd21 ct21), sl21⟩)
    (c21 : PySem.W.codeIn K cd21 "end_fault" = true)
    (k21 : PySem.W.keepIn K (.ref f21) = true)
    (a22 : PySem.W.nsIn K mainGlobals "deviations_fault" = some (some (.ref f22)))
    (l22 : K.lookup f22 = some ⟨oc22, od22, .func (PySem.W.fnOf "deviations_fault" "deviations_fault" (defArgs st_deviations_fault) (defBody st_deviations_fault) (defScope st_deviations_fault) .none kV22 dc22 pm22 an22 cd22 ct22), sl22⟩)
    (c22 : PySem.W.codeIn K cd22 "deviations_fault" = true)
    (k22 : PySem.W.keepIn K (.ref f22) = true)
    (a23 : PySem.W.nsIn K mainGlobals "tail_fault" = some (some (.ref f23)))
    (l23 : K.lookup f23 = some ⟨oc23, od23, .func (PySem.W.fnOf "tail_fault" "tail_fault" (defArgs st_tail_fault) (defBody st_tail_fault) (defScope st_tail_fault) .none kV23 dc23 pm23 an23 cd23 ct23), sl23⟩)
    (c23 : PySem.W.codeIn K cd23 "tail_fault" = true)
    (k23 : PySem.W.keepIn K (.ref f23) = true)
    (a24 : PySem.W.nsIn K mainGlobals "shape_fault" = some (some (.ref f24)))
    (l24 : K.lookup f24 = some ⟨oc24, od24, .func (PySem.W.fnOf "shape_fault" "shape_fault" (defArgs st_shape_fault) (defBody st_shape_fault) (defScope st_shape_fault) .none kV24 dc24 pm24 an24 cd24 ct24), sl24⟩)
    (c24 : PySem.W.codeIn K cd24 "shape_fault" = true)
    (k24 : PySem.W.keepIn K (.ref f24) = true)
    (a25 : PySem.W.nsIn K mainGlobals "fault" = some (some (.ref f25)))
    (l25 : K.lookup f25 = some ⟨oc25, od25, .func (PySem.W.fnOf "fault" "fault" (defArgs st_fault) (defBody st_fault) (defScope st_fault) .none kV25 dc25 pm25 an25 cd25 ct25), sl25⟩)
    (c25 : PySem.W.codeIn K cd25 "fault" = true)
    (k25 : PySem.W.keepIn K (.ref f25) = true)
    (a26 : PySem.W.nsIn K mainGlobals "fit_or_fault" = some (some (.ref f26)))
    (l26 : K.lookup f26 = some ⟨oc26, od26, .func (PySem.W.fnOf "fit_or_fault" "fit_or_fault" (defArgs st_fit_or_fault) (defBody st_fit_or_fault) (defScope st_fit_or_fault) .none kV26 dc26 pm26 an26 cd26 ct26), sl26⟩)
    (c26 : PySem.W.codeIn K cd26 "fit_or_fault" = true)
    (k26 : PySem.W.keepIn K (.ref f26) = true)
    (a27 : PySem.W.nsIn K mainGlobals "size_both_ways" = some (some (.ref f27)))
    (l27 : K.lookup f27 = some ⟨oc27, od27, .func (PySem.W.fnOf "size_both_ways" "size_both_ways" (defArgs st_size_both_ways) (defBody st_size_both_ways) (defScope st_size_both_ways) .none kV27 dc27 pm27 an27 cd27 ct27), sl27⟩)
    (c27 : PySem.W.codeIn K cd27 "size_both_ways" = true)
    (k27 : PySem.W.keepIn K (.ref f27) = true)
    (a28 : PySem.W.nsIn K mainGlobals "size_of_deviations" = some (some (.ref f28)))
    (l28 : K.lookup f28 = some ⟨oc28, od28, .func (PySem.W.fnOf "size_of_deviations" "size_of_deviations" (defArgs st_size_of_deviations) (defBody st_size_of_deviations) (defScope st_size_of_deviations) .none kV28 dc28 pm28 an28 cd28 ct28), sl28⟩)
    (c28 : PySem.W.codeIn K cd28 "size_of_deviations" = true)
    (k28 : PySem.W.keepIn K (.ref f28) = true)
    (a29 : PySem.W.nsIn K mainGlobals "size_of_code" = some (some (.ref f29)))
    (l29 : K.lookup f29 = some ⟨oc29, od29, .func (PySem.W.fnOf "size_of_code" "size_of_code" (defArgs st_size_of_code) (defBody st_size_of_code) (defScope st_size_of_code) .none kV29 dc29 pm29 an29 cd29 ct29), sl29⟩)
    (c29 : PySem.W.codeIn K cd29 "size_of_code" = true)
    (k29 : PySem.W.keepIn K (.ref f29) = true)
    (a30 : PySem.W.nsIn K mainGlobals "size_of" = some (some (.ref f30)))
    (l30 : K.lookup f30 = some ⟨oc30, od30, .func (PySem.W.fnOf "size_of" "size_of" (defArgs st_size_of) (defBody st_size_of) (defScope st_size_of) .none kV30 dc30 pm30 an30 cd30 ct30), sl30⟩)
    (c30 : PySem.W.codeIn K cd30 "size_of" = true)
    (k30 : PySem.W.keepIn K (.ref f30) = true)
    (a31 : PySem.W.nsIn K mainGlobals "line_begins" = some (some (.ref f31)))
    (l31 : K.lookup f31 = some ⟨oc31, od31, .func (PySem.W.fnOf "line_begins" "line_begins" (defArgs st_line_begins) (defBody st_line_begins) (defScope st_line_begins) .none kV31 dc31 pm31 an31 cd31 ct31), sl31⟩)
    (c31 : PySem.W.codeIn K cd31 "line_begins" = true)
    (k31 : PySem.W.keepIn K (.ref f31) = true)
    (a32 : PySem.W.nsIn K mainGlobals "line_at" = some (some (.ref f32)))
    (l32 : K.lookup f32 = some ⟨oc32, od32, .func (PySem.W.fnOf "line_at" "line_at" (defArgs st_line_at) (defBody st_line_at) (defScope st_line_at) .none kV32 dc32 pm32 an32 cd32 ct32), sl32⟩)
    (c32 : PySem.W.codeIn K cd32 "line_at" = true)
    (k32 : PySem.W.keepIn K (.ref f32) = true)
    (a33 : PySem.W.nsIn K mainGlobals "is_block" = some (some (.ref f33)))
    (l33 : K.lookup f33 = some ⟨oc33, od33, .func (PySem.W.fnOf "is_block" "is_block" (defArgs st_is_block) (defBody st_is_block) (defScope st_is_block) .none kV33 dc33 pm33 an33 cd33 ct33), sl33⟩)
    (c33 : PySem.W.codeIn K cd33 "is_block" = true)
    (k33 : PySem.W.keepIn K (.ref f33) = true)
    (a34 : PySem.W.nsIn K mainGlobals "line_refusal" = some (some (.ref f34)))
    (l34 : K.lookup f34 = some ⟨oc34, od34, .func (PySem.W.fnOf "line_refusal" "line_refusal" (defArgs st_line_refusal) (defBody st_line_refusal) (defScope st_line_refusal) .none kV34 dc34 pm34 an34 cd34 ct34), sl34⟩)
    (c34 : PySem.W.codeIn K cd34 "line_refusal" = true)
    (k34 : PySem.W.keepIn K (.ref f34) = true)
    (a35 : PySem.W.nsIn K mainGlobals "box_refusal" = some (some (.ref f35)))
    (l35 : K.lookup f35 = some ⟨oc35, od35, .func (PySem.W.fnOf "box_refusal" "box_refusal" (defArgs st_box_refusal) (defBody st_box_refusal) (defScope st_box_refusal) .none kV35 dc35 pm35 an35 cd35 ct35), sl35⟩)
    (c35 : PySem.W.codeIn K cd35 "box_refusal" = true)
    (k35 : PySem.W.keepIn K (.ref f35) = true)
    (a36 : PySem.W.nsIn K mainGlobals "blocks_of" = some (some (.ref f36)))
    (l36 : K.lookup f36 = some ⟨oc36, od36, .func (PySem.W.fnOf "blocks_of" "blocks_of" (defArgs st_blocks_of) (defBody st_blocks_of) (defScope st_blocks_of) .none kV36 dc36 pm36 an36 cd36 ct36), sl36⟩)
    (c36 : PySem.W.codeIn K cd36 "blocks_of" = true)
    (k36 : PySem.W.keepIn K (.ref f36) = true)
    (a37 : PySem.W.nsIn K mainGlobals "length_of" = some (some (.ref f37)))
    (l37 : K.lookup f37 = some ⟨oc37, od37, .func (PySem.W.fnOf "length_of" "length_of" (defArgs st_length_of) (defBody st_length_of) (defScope st_length_of) .none kV37 dc37 pm37 an37 cd37 ct37), sl37⟩)
    (c37 : PySem.W.codeIn K cd37 "length_of" = true)
    (k37 : PySem.W.keepIn K (.ref f37) = true)
    (a38 : PySem.W.nsIn K mainGlobals "least_of" = some (some (.ref f38)))
    (l38 : K.lookup f38 = some ⟨oc38, od38, .func (PySem.W.fnOf "least_of" "least_of" (defArgs st_least_of) (defBody st_least_of) (defScope st_least_of) .none kV38 dc38 pm38 an38 cd38 ct38), sl38⟩)
    (c38 : PySem.W.codeIn K cd38 "least_of" = true)
    (k38 : PySem.W.keepIn K (.ref f38) = true)
    (a39 : PySem.W.nsIn K mainGlobals "most_of" = some (some (.ref f39)))
    (l39 : K.lookup f39 = some ⟨oc39, od39, .func (PySem.W.fnOf "most_of" "most_of" (defArgs st_most_of) (defBody st_most_of) (defScope st_most_of) .none kV39 dc39 pm39 an39 cd39 ct39), sl39⟩)
    (c39 : PySem.W.codeIn K cd39 "most_of" = true)
    (k39 : PySem.W.keepIn K (.ref f39) = true)
    (a40 : PySem.W.nsIn K mainGlobals "doubt_of" = some (some (.ref f40)))
    (l40 : K.lookup f40 = some ⟨oc40, od40, .func (PySem.W.fnOf "doubt_of" "doubt_of" (defArgs st_doubt_of) (defBody st_doubt_of) (defScope st_doubt_of) .none kV40 dc40 pm40 an40 cd40 ct40), sl40⟩)
    (c40 : PySem.W.codeIn K cd40 "doubt_of" = true)
    (k40 : PySem.W.keepIn K (.ref f40) = true)
    (a41 : PySem.W.nsIn K mainGlobals "one_longer" = some (some (.ref f41)))
    (l41 : K.lookup f41 = some ⟨oc41, od41, .func (PySem.W.fnOf "one_longer" "one_longer" (defArgs st_one_longer) (defBody st_one_longer) (defScope st_one_longer) .none kV41 dc41 pm41 an41 cd41 ct41), sl41⟩)
    (c41 : PySem.W.codeIn K cd41 "one_longer" = true)
    (k41 : PySem.W.keepIn K (.ref f41) = true)
    (a42 : PySem.W.nsIn K mainGlobals "stacks_without" = some (some (.ref f42)))
    (l42 : K.lookup f42 = some ⟨oc42, od42, .func (PySem.W.fnOf "stacks_without" "stacks_without" (defArgs st_stacks_without) (defBody st_stacks_without) (defScope st_stacks_without) .none kV42 dc42 pm42 an42 cd42 ct42), sl42⟩)
    (c42 : PySem.W.codeIn K cd42 "stacks_without" = true)
    (k42 : PySem.W.keepIn K (.ref f42) = true)
    (a43 : PySem.W.nsIn K mainGlobals "is_better" = some (some (.ref f43)))
    (l43 : K.lookup f43 = some ⟨oc43, od43, .func (PySem.W.fnOf "is_better" "is_better" (defArgs st_is_better) (defBody st_is_better) (defScope st_is_better) .none kV43 dc43 pm43 an43 cd43 ct43), sl43⟩)
    (c43 : PySem.W.codeIn K cd43 "is_better" = true)
    (k43 : PySem.W.keepIn K (.ref f43) = true)
    (a44 : PySem.W.nsIn K mainGlobals "best_stack" = some (some (.ref f44)))
    (l44 : K.lookup f44 = some ⟨oc44, od44, .func (PySem.W.fnOf "best_stack" "best_stack" (defArgs st_best_stack) (defBody st_best_stack) (defScope st_best_stack) .none kV44 dc44 pm44 an44 cd44 ct44), sl44⟩)
    (c44 : PySem.W.codeIn K cd44 "best_stack" = true)
    (k44 : PySem.W.keepIn K (.ref f44) = true)
    (a45 : PySem.W.nsIn K mainGlobals "lengths_of" = some (some (.ref f45)))
    (l45 : K.lookup f45 = some ⟨oc45, od45, .func (PySem.W.fnOf "lengths_of" "lengths_of" (defArgs st_lengths_of) (defBody st_lengths_of) (defScope st_lengths_of) .none kV45 dc45 pm45 an45 cd45 ct45), sl45⟩)
    (c45 : PySem.W.codeIn K cd45 "lengths_of" = true)
    (k45 : PySem.W.keepIn K (.ref f45) = true)
    (a46 : PySem.W.nsIn K mainGlobals "nearest_length" = some (some (.ref f46)))
    (l46 : K.lookup f46 = some ⟨oc46, od46, .func (PySem.W.fnOf "nearest_length" "nearest_length" (defArgs st_nearest_length) (defBody st_nearest_length) (defScope st_nearest_length) .none kV46 dc46 pm46 an46 cd46 ct46), sl46⟩)
    (c46 : PySem.W.codeIn K cd46 "nearest_length" = true)
    (k46 : PySem.W.keepIn K (.ref f46) = true)
    (a47 : PySem.W.nsIn K mainGlobals "box_or_film_refusal" = some (some (.ref f47)))
    (l47 : K.lookup f47 = some ⟨oc47, od47, .func (PySem.W.fnOf "box_or_film_refusal" "box_or_film_refusal" (defArgs st_box_or_film_refusal) (defBody st_box_or_film_refusal) (defScope st_box_or_film_refusal) .none kV47 dc47 pm47 an47 cd47 ct47), sl47⟩)
    (c47 : PySem.W.codeIn K cd47 "box_or_film_refusal" = true)
    (k47 : PySem.W.keepIn K (.ref f47) = true)
    (a48 : PySem.W.nsIn K mainGlobals "next_of" = some (some (.ref f48)))
    (l48 : K.lookup f48 = some ⟨oc48, od48, .func (PySem.W.fnOf "next_of" "next_of" (defArgs st_next_of) (defBody st_next_of) (defScope st_next_of) .none kV48 dc48 pm48 an48 cd48 ct48), sl48⟩)
    (c48 : PySem.W.codeIn K cd48 "next_of" = true)
    (k48 : PySem.W.keepIn K (.ref f48) = true)
    (z_ZERO : PySem.W.nsIn K mainGlobals "ZERO" = some (some (.int (48) t_ZERO)))
    (z_NINE : PySem.W.nsIn K mainGlobals "NINE" = some (some (.int (57) t_NINE)))
    (z_PLUS : PySem.W.nsIn K mainGlobals "PLUS" = some (some (.int (43) t_PLUS)))
    (z_MINUS : PySem.W.nsIn K mainGlobals "MINUS" = some (some (.int (45) t_MINUS)))
    (z_MOST_DIGITS : PySem.W.nsIn K mainGlobals "MOST_DIGITS" = some (some (.int (9) t_MOST_DIGITS)))
    (z_MOST_DECIMALS : PySem.W.nsIn K mainGlobals "MOST_DECIMALS" = some (some (.int (4) t_MOST_DECIMALS)))
    (z_TICKS : PySem.W.nsIn K mainGlobals "TICKS" = some (some (.int (10000) t_TICKS)))
    (z_POINT : PySem.W.nsIn K mainGlobals "POINT" = some (some (.int (46) t_POINT)))
    (z_DT : PySem.W.nsIn K mainGlobals "DECIMAL_TICKS" = some (some (.ref aDT)))
    (zl_DT : K.lookup aDT = some ⟨.type "tuple", odDT, .seq #[.int 1000 tDT1, .int 100 tDT2, .int 10 tDT3, .int 1 tDT4] nDT, slDT⟩)
    (z_ONE : PySem.W.nsIn K mainGlobals "ONE" = some (some (.int (49) t_ONE)))
    (z_SIX : PySem.W.nsIn K mainGlobals "SIX" = some (some (.int (54) t_SIX)))
    (z_GREATEST_SIZE : PySem.W.nsIn K mainGlobals "GREATEST_SIZE" = some (some (.int (2147483647) t_GREATEST_SIZE)))
    (z_GREATEST_DEVIATION : PySem.W.nsIn K mainGlobals "GREATEST_DEVIATION" = some (some (.int (1073741824) t_GREATEST_DEVIATION)))
    (z_BLANK : PySem.W.nsIn K mainGlobals "BLANK" = some (some (.int (32) t_BLANK)))
    (z_BOTH_WAYS : PySem.W.nsIn K mainGlobals "BOTH_WAYS" = some (some (.int (1) t_BOTH_WAYS)))
    (z_TWO_DEVIATIONS : PySem.W.nsIn K mainGlobals "TWO_DEVIATIONS" = some (some (.int (2) t_TWO_DEVIATIONS)))
    (z_CODE : PySem.W.nsIn K mainGlobals "CODE" = some (some (.int (3) t_CODE)))
    (z_ALONE : PySem.W.nsIn K mainGlobals "ALONE" = some (some (.int (0) t_ALONE)))
    (z_LINE_FEED : PySem.W.nsIn K mainGlobals "LINE_FEED" = some (some (.int (10) t_LINE_FEED)))
    (z_LEAST_LENGTH : PySem.W.nsIn K mainGlobals "LEAST_LENGTH" = some (some (.int (10) t_LEAST_LENGTH)))
    (z_GREATEST_LENGTH : PySem.W.nsIn K mainGlobals "GREATEST_LENGTH" = some (some (.int (1000000) t_GREATEST_LENGTH)))
    (z_GREATEST_LIMIT : PySem.W.nsIn K mainGlobals "GREATEST_LIMIT" = some (some (.int (4096) t_GREATEST_LIMIT)))
    (z_LENGTH_STEP : PySem.W.nsIn K mainGlobals "LENGTH_STEP" = some (some (.int (10) t_LENGTH_STEP)))
    (z_MOST_BLOCKS : PySem.W.nsIn K mainGlobals "MOST_BLOCKS" = some (some (.int (20) t_MOST_BLOCKS)))
    (z_LONGEST_BOX_TEXT : PySem.W.nsIn K mainGlobals "LONGEST_BOX_TEXT" = some (some (.int (4096) t_LONGEST_BOX_TEXT)))
    (z_MOST_IN_STACK : PySem.W.nsIn K mainGlobals "MOST_IN_STACK" = some (some (.int (5) t_MOST_IN_STACK)))
    (z_GREATEST_FILM : PySem.W.nsIn K mainGlobals "GREATEST_FILM" = some (some (.int (1000) t_GREATEST_FILM)))
    (y_len : PySem.W.nsIn K mainGlobals "len" = some none)
    (y_ord : PySem.W.nsIn K mainGlobals "ord" = some none)
    (y_abs : PySem.W.nsIn K mainGlobals "abs" = some none)
    (y_range : PySem.W.nsIn K mainGlobals "range" = some none)
    (y_enumerate : PySem.W.nsIn K mainGlobals "enumerate" = some none)
    (y_sum : PySem.W.nsIn K mainGlobals "sum" = some none)
    (y_list : PySem.W.nsIn K mainGlobals "list" = some none)
    (y_min : PySem.W.nsIn K mainGlobals "min" = some none)
    (y_max : PySem.W.nsIn K mainGlobals "max" = some none) : Dn P w K mg base 13 "next_of" ["f", "z", "up", "box", "barred"] (sp_next_of K) := by
  have R_byte_at : Raw K mg "byte_at" st_byte_at ["text", "place"] := raw_mk X G a0 l0 c0 k0 fun _ _ _ _ _ _ us hl => by obtain ⟨_, _, rfl⟩ := len_2 hl; rfl
  have R_is_digit : Raw K mg "is_digit" st_is_digit ["byte"] := raw_mk X G a1 l1 c1 k1 fun _ _ _ _ _ _ us hl => by obtain ⟨_, rfl⟩ := len_1 hl; rfl
  have R_is_sign : Raw K mg "is_sign" st_is_sign ["byte"] := raw_mk X G a2 l2 c2 k2 fun _ _ _ _ _ _ us hl => by obtain ⟨_, rfl⟩ := len_1 hl; rfl
  have R_digits_end : Raw K mg "digits_end" st_digits_end ["text", "start", "most"] := raw_mk X G a3 l3 c3 k3 fun _ _ _ _ _ _ us hl => by obtain ⟨_, _, _, rfl⟩ := len_3 hl; rfl
  have R_digits_value : Raw K mg "digits_value" st_digits_value ["text", "start", "end"] := raw_mk X G a4 l4 c4 k4 fun _ _ _ _ _ _ us hl => by obtain ⟨_, _, _, rfl⟩ := len_3 hl; rfl
  have R_whole_end : Raw K mg "whole_end" st_whole_end ["text", "start"] := raw_mk X G a5 l5 c5 k5 fun _ _ _ _ _ _ us hl => by obtain ⟨_, _, rfl⟩ := len_2 hl; rfl
  have R_decimals_end : Raw K mg "decimals_end" st_decimals_end ["text", "start"] := raw_mk X G a6 l6 c6 k6 fun _ _ _ _ _ _ us hl => by obtain ⟨_, _, rfl⟩ := len_2 hl; rfl
  have R_number_at : Raw K mg "number_at" st_number_at ["text", "start"] := raw_mk X G a7 l7 c7 k7 fun _ _ _ _ _ _ us hl => by obtain ⟨_, _, rfl⟩ := len_2 hl; rfl
  have R_deviation_at : Raw K mg "deviation_at" st_deviation_at ["text", "start"] := raw_mk X G a8 l8 c8 k8 fun _ _ _ _ _ _ us hl => by obtain ⟨_, _, rfl⟩ := len_2 hl; rfl
  have R_grade_at : Raw K mg "grade_at" st_grade_at ["text", "start"] := raw_mk X G a9 l9 c9 k9 fun _ _ _ _ _ _ us hl => by obtain ⟨_, _, rfl⟩ := len_2 hl; rfl
  have R_is_nominal : Raw K mg "is_nominal" st_is_nominal ["n"] := raw_mk X G a10 l10 c10 k10 fun _ _ _ _ _ _ us hl => by obtain ⟨_, rfl⟩ := len_1 hl; rfl
  have R_are_fit : Raw K mg "are_fit" st_are_fit ["n", "lo", "hi"] := raw_mk X G a11 l11 c11 k11 fun _ _ _ _ _ _ us hl => by obtain ⟨_, _, _, rfl⟩ := len_3 hl; rfl
  have R_unit_of : Raw K mg "unit_of" st_unit_of ["n"] := raw_mk X G a12 l12 c12 k12 fun _ _ _ _ _ _ us hl => by obtain ⟨_, rfl⟩ := len_1 hl; rfl
  have R_root_up : Raw K mg "root_up" st_root_up ["square"] := raw_mk X G a13 l13 c13 k13 fun _ _ _ _ _ _ us hl => by obtain ⟨_, rfl⟩ := len_1 hl; rfl
  have R_width_of : Raw K mg "width_of" st_width_of ["n", "g"] := raw_mk X G a14 l14 c14 k14 fun _ _ _ _ _ _ us hl => by obtain ⟨_, _, rfl⟩ := len_2 hl; rfl
  have R_step_of : Raw K mg "step_of" st_step_of ["n", "k"] := raw_mk X G a15 l15 c15 k15 fun _ _ _ _ _ _ us hl => by obtain ⟨_, _, rfl⟩ := len_2 hl; rfl
  have R_is_shaft_letter : Raw K mg "is_shaft_letter" st_is_shaft_letter ["letter"] := raw_mk X G a16 l16 c16 k16 fun _ _ _ _ _ _ us hl => by obtain ⟨_, rfl⟩ := len_1 hl; rfl
  have R_is_hole_letter : Raw K mg "is_hole_letter" st_is_hole_letter ["letter"] := raw_mk X G a17 l17 c17 k17 fun _ _ _ _ _ _ us hl => by obtain ⟨_, rfl⟩ := len_1 hl; rfl
  have R_is_letter : Raw K mg "is_letter" st_is_letter ["byte"] := raw_mk X G a18 l18 c18 k18 fun _ _ _ _ _ _ us hl => by obtain ⟨_, rfl⟩ := len_1 hl; rfl
  have R_letter_number : Raw K mg "letter_number" st_letter_number ["letter"] := raw_mk X G a19 l19 c19 k19 fun _ _ _ _ _ _ us hl => by obtain ⟨_, rfl⟩ := len_1 hl; rfl
  have R_code_limits : Raw K mg "code_limits" st_code_limits ["n", "letter", "g"] := raw_mk X G a20 l20 c20 k20 fun _ _ _ _ _ _ us hl => by obtain ⟨_, _, _, rfl⟩ := len_3 hl; rfl
  have R_end_fault : Raw K mg "end_fault" st_end_fault ["text", "found"] := raw_mk X G a21 l21 c21 k21 fun _ _ _ _ _ _ us hl => by obtain ⟨_, _, rfl⟩ := len_2 hl; rfl
  have R_deviations_fault : Raw K mg "deviations_fault" st_deviations_fault ["text", "start"] := raw_mk X G a22 l22 c22 k22 fun _ _ _ _ _ _ us hl => by obtain ⟨_, _, rfl⟩ := len_2 hl; rfl
  have R_tail_fault : Raw K mg "tail_fault" st_tail_fault ["text", "start"] := raw_mk X G a23 l23 c23 k23 fun _ _ _ _ _ _ us hl => by obtain ⟨_, _, rfl⟩ := len_2 hl; rfl
  have R_shape_fault : Raw K mg "shape_fault" st_shape_fault ["text"] := raw_mk X G a24 l24 c24 k24 fun _ _ _ _ _ _ us hl => by obtain ⟨_, rfl⟩ := len_1 hl; rfl
  have R_fault : Raw K mg "fault" st_fault ["kind", "place"] := raw_mk X G a25 l25 c25 k25 fun _ _ _ _ _ _ us hl => by obtain ⟨_, _, rfl⟩ := len_2 hl; rfl
  have R_fit_or_fault : Raw K mg "fit_or_fault" st_fit_or_fault ["size", "end"] := raw_mk X G a26 l26 c26 k26 fun _ _ _ _ _ _ us hl => by obtain ⟨_, _, rfl⟩ := len_2 hl; rfl
  have R_size_both_ways : Raw K mg "size_both_ways" st_size_both_ways ["text", "n", "end"] := raw_mk X G a27 l27 c27 k27 fun _ _ _ _ _ _ us hl => by obtain ⟨_, _, _, rfl⟩ := len_3 hl; rfl
  have R_size_of_deviations : Raw K mg "size_of_deviations" st_size_of_deviations ["text", "n", "end"] := raw_mk X G a28 l28 c28 k28 fun _ _ _ _ _ _ us hl => by obtain ⟨_, _, _, rfl⟩ := len_3 hl; rfl
  have R_size_of_code : Raw K mg "size_of_code" st_size_of_code ["text", "n", "end"] := raw_mk X G a29 l29 c29 k29 fun _ _ _ _ _ _ us hl => by obtain ⟨_, _, _, rfl⟩ := len_3 hl; rfl
  have R_size_of : Raw K mg "size_of" st_size_of ["text"] := raw_mk X G a30 l30 c30 k30 fun _ _ _ _ _ _ us hl => by obtain ⟨_, rfl⟩ := len_1 hl; rfl
  have R_line_begins : Raw K mg "line_begins" st_line_begins ["text"] := raw_mk X G a31 l31 c31 k31 fun _ _ _ _ _ _ us hl => by obtain ⟨_, rfl⟩ := len_1 hl; rfl
  have R_line_at : Raw K mg "line_at" st_line_at ["text", "begin"] := raw_mk X G a32 l32 c32 k32 fun _ _ _ _ _ _ us hl => by obtain ⟨_, _, rfl⟩ := len_2 hl; rfl
  have R_is_block : Raw K mg "is_block" st_is_block ["length", "lo", "hi"] := raw_mk X G a33 l33 c33 k33 fun _ _ _ _ _ _ us hl => by obtain ⟨_, _, _, rfl⟩ := len_3 hl; rfl
  have R_line_refusal : Raw K mg "line_refusal" st_line_refusal ["text", "begin", "number"] := raw_mk X G a34 l34 c34 k34 fun _ _ _ _ _ _ us hl => by obtain ⟨_, _, _, rfl⟩ := len_3 hl; rfl
  have R_box_refusal : Raw K mg "box_refusal" st_box_refusal ["text"] := raw_mk X G a35 l35 c35 k35 fun _ _ _ _ _ _ us hl => by obtain ⟨_, rfl⟩ := len_1 hl; rfl
  have R_blocks_of : Raw K mg "blocks_of" st_blocks_of ["text"] := raw_mk X G a36 l36 c36 k36 fun _ _ _ _ _ _ us hl => by obtain ⟨_, rfl⟩ := len_1 hl; rfl
  have R_length_of : Raw K mg "length_of" st_length_of ["blocks", "row"] := raw_mk X G a37 l37 c37 k37 fun _ _ _ _ _ _ us hl => by obtain ⟨_, _, rfl⟩ := len_2 hl; rfl
  have R_least_of : Raw K mg "least_of" st_least_of ["blocks", "row"] := raw_mk X G a38 l38 c38 k38 fun _ _ _ _ _ _ us hl => by obtain ⟨_, _, rfl⟩ := len_2 hl; rfl
  have R_most_of : Raw K mg "most_of" st_most_of ["blocks", "row", "f"] := raw_mk X G a39 l39 c39 k39 fun _ _ _ _ _ _ us hl => by obtain ⟨_, _, _, rfl⟩ := len_3 hl; rfl
  have R_doubt_of : Raw K mg "doubt_of" st_doubt_of ["blocks", "row", "f"] := raw_mk X G a40 l40 c40 k40 fun _ _ _ _ _ _ us hl => by obtain ⟨_, _, _, rfl⟩ := len_3 hl; rfl
  have R_one_longer : Raw K mg "one_longer" st_one_longer ["rows", "free"] := raw_mk X G a41 l41 c41 k41 fun _ _ _ _ _ _ us hl => by obtain ⟨_, _, rfl⟩ := len_2 hl; rfl
  have R_stacks_without : Raw K mg "stacks_without" st_stacks_without ["count", "barred"] := raw_mk X G a42 l42 c42 k42 fun _ _ _ _ _ _ us hl => by obtain ⟨_, _, rfl⟩ := len_2 hl; rfl
  have R_is_better : Raw K mg "is_better" st_is_better ["blocks", "f", "row", "other"] := raw_mk X G a43 l43 c43 k43 fun _ _ _ _ _ _ us hl => by obtain ⟨_, _, _, _, rfl⟩ := len_4 hl; rfl
  have R_best_stack : Raw K mg "best_stack" st_best_stack ["blocks", "stacks", "f", "length"] := raw_mk X G a44 l44 c44 k44 fun _ _ _ _ _ _ us hl => by obtain ⟨_, _, _, _, rfl⟩ := len_4 hl; rfl
  have R_lengths_of : Raw K mg "lengths_of" st_lengths_of ["blocks", "stacks"] := raw_mk X G a45 l45 c45 k45 fun _ _ _ _ _ _ us hl => by obtain ⟨_, _, rfl⟩ := len_2 hl; rfl
  have R_nearest_length : Raw K mg "nearest_length" st_nearest_length ["lengths", "z", "up"] := raw_mk X G a46 l46 c46 k46 fun _ _ _ _ _ _ us hl => by obtain ⟨_, _, _, rfl⟩ := len_3 hl; rfl
  have R_box_or_film_refusal : Raw K mg "box_or_film_refusal" st_box_or_film_refusal ["box", "f"] := raw_mk X G a47 l47 c47 k47 fun _ _ _ _ _ _ us hl => by obtain ⟨_, _, rfl⟩ := len_2 hl; rfl
  have R_next_of : Raw K mg "next_of" st_next_of ["f", "z", "up", "box", "barred"] := raw_mk X G a48 l48 c48 k48 fun _ _ _ _ _ _ us hl => by obtain ⟨_, _, _, _, _, rfl⟩ := len_5 hl; rfl
  have g_ZERO := PySem.W.mg_of X G z_ZERO
  have g_NINE := PySem.W.mg_of X G z_NINE
  have g_PLUS := PySem.W.mg_of X G z_PLUS
  have g_MINUS := PySem.W.mg_of X G z_MINUS
  have g_MOST_DIGITS := PySem.W.mg_of X G z_MOST_DIGITS
  have g_MOST_DECIMALS := PySem.W.mg_of X G z_MOST_DECIMALS
  have g_TICKS := PySem.W.mg_of X G z_TICKS
  have g_POINT := PySem.W.mg_of X G z_POINT
  have g_DECIMAL_TICKS := PySem.W.mg_of X G z_DT
  have q_DECIMAL_TICKS : ∀ H, SqT K H aDT [.int 1000, .int 100, .int 10, .int 1] := fun H => .inr ⟨_, _, _, zl_DT, rfl, rfl, (by show 4 ≤ sizeLine; decide), .cons ⟨_, rfl⟩ (.cons ⟨_, rfl⟩ (.cons ⟨_, rfl⟩ (.cons ⟨_, rfl⟩ .nil)))⟩
  have g_ONE := PySem.W.mg_of X G z_ONE
  have g_SIX := PySem.W.mg_of X G z_SIX
  have g_GREATEST_SIZE := PySem.W.mg_of X G z_GREATEST_SIZE
  have g_GREATEST_DEVIATION := PySem.W.mg_of X G z_GREATEST_DEVIATION
  have g_BLANK := PySem.W.mg_of X G z_BLANK
  have g_BOTH_WAYS := PySem.W.mg_of X G z_BOTH_WAYS
  have g_TWO_DEVIATIONS := PySem.W.mg_of X G z_TWO_DEVIATIONS
  have g_CODE := PySem.W.mg_of X G z_CODE
  have g_ALONE := PySem.W.mg_of X G z_ALONE
  have g_LINE_FEED := PySem.W.mg_of X G z_LINE_FEED
  have g_LEAST_LENGTH := PySem.W.mg_of X G z_LEAST_LENGTH
  have g_GREATEST_LENGTH := PySem.W.mg_of X G z_GREATEST_LENGTH
  have g_GREATEST_LIMIT := PySem.W.mg_of X G z_GREATEST_LIMIT
  have g_LENGTH_STEP := PySem.W.mg_of X G z_LENGTH_STEP
  have g_MOST_BLOCKS := PySem.W.mg_of X G z_MOST_BLOCKS
  have g_LONGEST_BOX_TEXT := PySem.W.mg_of X G z_LONGEST_BOX_TEXT
  have g_MOST_IN_STACK := PySem.W.mg_of X G z_MOST_IN_STACK
  have g_GREATEST_FILM := PySem.W.mg_of X G z_GREATEST_FILM
  have b_len := PySem.W.mg_none_of X G y_len
  have b_ord := PySem.W.mg_none_of X G y_ord
  have b_abs := PySem.W.mg_none_of X G y_abs
  have b_range := PySem.W.mg_none_of X G y_range
  have b_enumerate := PySem.W.mg_none_of X G y_enumerate
  have b_sum := PySem.W.mg_none_of X G y_sum
  have b_list := PySem.W.mg_none_of X G y_list
  have b_min := PySem.W.mg_none_of X G y_min
  have b_max := PySem.W.mg_none_of X G y_max
  have D_byte_at : Dn P w K mg base 1 "byte_at" ["text", "place"] (sp_byte_at K) := ok_byte_at R_byte_at b_len
  have D_is_digit : Dn P w K mg base 1 "is_digit" ["byte"] (sp_is_digit K) := ok_is_digit R_is_digit g_ZERO g_NINE
  have D_is_sign : Dn P w K mg base 1 "is_sign" ["byte"] (sp_is_sign K) := ok_is_sign R_is_sign g_PLUS g_MINUS
  have D_digits_end : Dn P w K mg base 2 "digits_end" ["text", "start", "most"] (sp_digits_end K) := ok_digits_end R_digits_end D_is_digit D_byte_at
  have D_digits_value : Dn P w K mg base 1 "digits_value" ["text", "start", "end"] (sp_digits_value K) := ok_digits_value R_digits_value g_ZERO
  have D_whole_end : Dn P w K mg base 3 "whole_end" ["text", "start"] (sp_whole_end K) := ok_whole_end R_whole_end g_MOST_DIGITS g_ZERO D_digits_end D_byte_at
  have D_decimals_end : Dn P w K mg base 3 "decimals_end" ["text", "start"] (sp_decimals_end K) := ok_decimals_end R_decimals_end g_MOST_DECIMALS g_ZERO D_digits_end
  have D_number_at : Dn P w K mg base 4 "number_at" ["text", "start"] (sp_number_at K) := ok_number_at R_number_at g_TICKS g_POINT g_ZERO g_DECIMAL_TICKS q_DECIMAL_TICKS D_whole_end D_decimals_end D_digits_value D_byte_at
  have D_deviation_at : Dn P w K mg base 5 "deviation_at" ["text", "start"] (sp_deviation_at K) := ok_deviation_at R_deviation_at g_PLUS D_number_at
  have D_grade_at : Dn P w K mg base 2 "grade_at" ["text", "start"] (sp_grade_at K) := ok_grade_at R_grade_at g_ONE g_ZERO g_SIX D_byte_at D_is_digit
  have D_is_nominal : Dn P w K mg base 1 "is_nominal" ["n"] (sp_is_nominal K) := ok_is_nominal R_is_nominal g_GREATEST_SIZE
  have D_are_fit : Dn P w K mg base 1 "are_fit" ["n", "lo", "hi"] (sp_are_fit K) := ok_are_fit R_are_fit g_GREATEST_DEVIATION
  have D_unit_of : Dn P w K mg base 1 "unit_of" ["n"] (sp_unit_of K) := ok_unit_of R_unit_of
  have D_root_up : Dn P w K mg base 1 "root_up" ["square"] (sp_root_up K) := ok_root_up R_root_up
  have D_width_of : Dn P w K mg base 2 "width_of" ["n", "g"] (sp_width_of K) := ok_width_of R_width_of D_unit_of D_root_up
  have D_step_of : Dn P w K mg base 3 "step_of" ["n", "k"] (sp_step_of K) := ok_step_of R_step_of D_width_of
  have D_is_shaft_letter : Dn P w K mg base 1 "is_shaft_letter" ["letter"] (sp_is_shaft_letter K) := ok_is_shaft_letter R_is_shaft_letter b_ord
  have D_is_hole_letter : Dn P w K mg base 1 "is_hole_letter" ["letter"] (sp_is_hole_letter K) := ok_is_hole_letter R_is_hole_letter b_ord
  have D_is_letter : Dn P w K mg base 2 "is_letter" ["byte"] (sp_is_letter K) := ok_is_letter R_is_letter D_is_shaft_letter D_is_hole_letter
  have D_letter_number : Dn P w K mg base 2 "letter_number" ["letter"] (sp_letter_number K) := ok_letter_number R_letter_number b_ord D_is_shaft_letter
  have D_code_limits : Dn P w K mg base 4 "code_limits" ["n", "letter", "g"] (sp_code_limits K) := ok_code_limits R_code_limits b_abs D_letter_number D_step_of D_width_of D_is_shaft_letter
  have D_end_fault : Dn P w K mg base 1 "end_fault" ["text", "found"] (sp_end_fault K) := ok_end_fault R_end_fault b_len
  have D_deviations_fault : Dn P w K mg base 6 "deviations_fault" ["text", "start"] (sp_deviations_fault K) := ok_deviations_fault R_deviations_fault g_BLANK D_deviation_at D_end_fault D_is_sign D_byte_at
  have D_tail_fault : Dn P w K mg base 7 "tail_fault" ["text", "start"] (sp_tail_fault K) := ok_tail_fault R_tail_fault g_PLUS g_MINUS D_byte_at D_is_sign D_is_letter D_end_fault D_deviations_fault D_number_at D_grade_at
  have D_shape_fault : Dn P w K mg base 8 "shape_fault" ["text"] (sp_shape_fault K) := ok_shape_fault R_shape_fault g_BLANK D_number_at D_end_fault D_tail_fault D_byte_at
  have D_fault : Dn P w K mg base 1 "fault" ["kind", "place"] (sp_fault K) := ok_fault R_fault
  have D_fit_or_fault : Dn P w K mg base 2 "fit_or_fault" ["size", "end"] (sp_fit_or_fault K) := ok_fit_or_fault R_fit_or_fault D_are_fit D_fault
  have D_size_both_ways : Dn P w K mg base 5 "size_both_ways" ["text", "n", "end"] (sp_size_both_ways K) := ok_size_both_ways R_size_both_ways g_GREATEST_DEVIATION g_BOTH_WAYS D_fit_or_fault D_number_at D_fault
  have D_size_of_deviations : Dn P w K mg base 6 "size_of_deviations" ["text", "n", "end"] (sp_size_of_deviations K) := ok_size_of_deviations R_size_of_deviations g_GREATEST_DEVIATION g_TWO_DEVIATIONS b_abs D_deviation_at D_fit_or_fault D_fault
  have D_size_of_code : Dn P w K mg base 5 "size_of_code" ["text", "n", "end"] (sp_size_of_code K) := ok_size_of_code R_size_of_code g_CODE D_code_limits D_fit_or_fault D_grade_at
  have D_size_of : Dn P w K mg base 9 "size_of" ["text"] (sp_size_of K) := ok_size_of R_size_of g_MINUS g_ALONE b_len D_shape_fault D_number_at D_is_letter D_size_of_deviations D_fault D_is_nominal D_size_of_code D_size_both_ways
  have D_line_begins : Dn P w K mg base 1 "line_begins" ["text"] (sp_line_begins K) := ok_line_begins R_line_begins g_LINE_FEED b_range b_len
  have D_line_at : Dn P w K mg base 1 "line_at" ["text", "begin"] (sp_line_at K) := ok_line_at R_line_at g_LINE_FEED b_len
  have D_is_block : Dn P w K mg base 1 "is_block" ["length", "lo", "hi"] (sp_is_block K) := ok_is_block R_is_block g_LEAST_LENGTH g_GREATEST_LENGTH g_GREATEST_LIMIT g_LENGTH_STEP
  have D_line_refusal : Dn P w K mg base 10 "line_refusal" ["text", "begin", "number"] (sp_line_refusal K) := ok_line_refusal R_line_refusal g_MOST_BLOCKS g_CODE D_size_of D_line_at D_is_block
  have D_box_refusal : Dn P w K mg base 11 "box_refusal" ["text"] (sp_box_refusal K) := ok_box_refusal R_box_refusal g_LONGEST_BOX_TEXT g_LINE_FEED b_enumerate b_len D_line_begins D_line_refusal
  have D_blocks_of : Dn P w K mg base 10 "blocks_of" ["text"] (sp_blocks_of K) := ok_blocks_of R_blocks_of D_size_of D_line_begins D_line_at
  have D_length_of : Dn P w K mg base 1 "length_of" ["blocks", "row"] (sp_length_of K) := ok_length_of R_length_of b_sum
  have D_least_of : Dn P w K mg base 1 "least_of" ["blocks", "row"] (sp_least_of K) := ok_least_of R_least_of b_sum
  have D_most_of : Dn P w K mg base 1 "most_of" ["blocks", "row", "f"] (sp_most_of K) := ok_most_of R_most_of b_sum b_len
  have D_doubt_of : Dn P w K mg base 2 "doubt_of" ["blocks", "row", "f"] (sp_doubt_of K) := ok_doubt_of R_doubt_of D_most_of D_least_of
  have D_one_longer : Dn P w K mg base 1 "one_longer" ["rows", "free"] (sp_one_longer K) := ok_one_longer R_one_longer
  have D_stacks_without : Dn P w K mg base 2 "stacks_without" ["count", "barred"] (sp_stacks_without K) := ok_stacks_without R_stacks_without g_MOST_IN_STACK b_list b_range D_one_longer
  have D_is_better : Dn P w K mg base 3 "is_better" ["blocks", "f", "row", "other"] (sp_is_better K) := ok_is_better R_is_better b_len D_doubt_of
  have D_best_stack : Dn P w K mg base 4 "best_stack" ["blocks", "stacks", "f", "length"] (sp_best_stack K) := ok_best_stack R_best_stack D_length_of D_is_better
  have D_lengths_of : Dn P w K mg base 2 "lengths_of" ["blocks", "stacks"] (sp_lengths_of K) := ok_lengths_of R_lengths_of D_length_of
  have D_nearest_length : Dn P w K mg base 1 "nearest_length" ["lengths", "z", "up"] (sp_nearest_length K) := ok_nearest_length R_nearest_length b_min b_max
  have D_box_or_film_refusal : Dn P w K mg base 12 "box_or_film_refusal" ["box", "f"] (sp_box_or_film_refusal K) := ok_box_or_film_refusal R_box_or_film_refusal g_GREATEST_FILM D_box_refusal
  have D_next_of : Dn P w K mg base 13 "next_of" ["f", "z", "up", "box", "barred"] (sp_next_of K) := ok_next_of R_next_of b_len D_box_or_film_refusal D_blocks_of D_stacks_without D_best_stack D_nearest_length D_lengths_of
  exact D_next_of
theorem request : ∀ args, PySem.Challenge.rw_gaugeblocks_s12_next_of.pre args = true → ∃ (gs : List Ag) (res : List Int), args = gs.map Ag.dat ∧ (∀ ns, Ag.l ns ∈ gs → ns.length ≤ sizeLine) ∧ PySem.Challenge.rw_gaugeblocks_s12_next_of.post args (.list (res.map PySem.W.WData.int)) = true ∧
    ∀ (K : PySem.W.Frag) (H : Hp) (vs : List V), Only H → Paired (AgAt K H) gs vs → sp_next_of K vs H (Ans K res) E0 := by
  intro args hpre
  obtain ⟨a, hd, _⟩ := PySem.W.os_pre_some hpre
  obtain ⟨d1, r1, rfl, h1, h2⟩ := dec_one hd
  obtain ⟨e1, lo1, hi1⟩ := decI h1
  obtain ⟨d2, r2, rfl, h3, h4⟩ := dec_one h2
  obtain ⟨e2, lo2, hi2⟩ := decI h3
  obtain ⟨d3, r3, rfl, h5, h6⟩ := dec_one h4
  obtain ⟨e3, lo3, hi3⟩ := decI h5
  obtain ⟨d4, r4, rfl, h7, h8⟩ := dec_one h6
  obtain ⟨e4, len4, b4⟩ := decL h7
  obtain ⟨d5, r5, rfl, h9, h10⟩ := dec_one h8
  obtain ⟨e5, len5, b5⟩ := decL h9
  have e6 := dec_end h10
  subst e1 e2 e3 e4 e5 e6
  refine ⟨[.z a.1, .z a.2.1, .z a.2.2.1, .l a.2.2.2.1, .l a.2.2.2.2.1], PyWqajbp.next_of a.1 a.2.1 a.2.2.1 a.2.2.2.1 a.2.2.2.2.1, rfl, fun ns m => ?_, post_of hd rfl, ?_⟩
  · simp at m
    rcases m with rfl | rfl
    · exact Nat.le_trans len4 (by decide)
    · exact Nat.le_trans len5 (by decide)
  rintro K H vs hO (_ | ⟨p1, _ | ⟨p2, _ | ⟨p3, _ | ⟨p4, _ | ⟨p5, _ | _⟩⟩⟩⟩⟩)
  obtain rfl : _ = V.int a.1 := p1
  obtain rfl : _ = V.int a.2.1 := p2
  obtain rfl : _ = V.int a.2.2.1 := p3
  obtain ⟨p, rfl, hp⟩ := p4
  obtain ⟨q, rfl, hq⟩ := p5
  exact ⟨p, q, a.2.2.2.1, a.2.2.2.2.1, a.1, a.2.1, a.2.2.1, rfl, hp, hq, b4, len4, fun c m => (b5 c m).1, lo1, lo3, fun r H' _ hr => ⟨r, rfl, hr⟩⟩


end GBP
open PySem PySem.W PyProof.Rows
set_option maxRecDepth 100000 in
set_option maxHeartbeats 0 in
theorem PySem.Challenge.cw_gaugeblocks_s12_next_of_holds : PySem.Challenge.rw_gaugeblocks_s12_next_of.Holds := by
  w_on; o_headS (kHook GBP.hK GBP.hAs (fun _ => by kernel_rfl)); (case hw => exact ⟨[.int 0, .int 0, .int 0, .list [], .list []], by decide +kernel, by decide +kernel⟩)
  k_fillS
  refine GB.spec_walk (r := PySem.Challenge.rw_gaugeblocks_s12_next_of) (k := 13) (ps := ["f", "z", "up", "box", "barred"]) (sp := GBP.sp_next_of) rfl ⟨rfl, by decide, by decide⟩ (fun w h Y => PySem.W.kIn_of Y) ?F ?S
  case F =>
    intro w mg h KX G base
    refine' GBP.all_mk KX G ?a0 ?l0 ?c0 ?k0 ?a1 ?l1 ?c1 ?k1 ?a2 ?l2 ?c2 ?k2 ?a3 ?l3 ?c3 ?k3 ?a4 ?l4 ?c4 ?k4 ?a5 ?l5 ?c5 ?k5 ?a6 ?l6 ?c6 ?k6 ?a7 ?l7 ?c7 ?k7 ?a8 ?l8 ?c8 ?k8 ?a9 ?l9 ?c9 ?k9 ?a10 ?l10 ?c10 ?k10 ?a11 ?l11 ?c11 ?k11 ?a12 ?l12 ?c12 ?k12 ?a13 ?l13 ?c13 ?k13 ?a14 ?l14 ?c14 ?k14 ?a15 ?l15 ?c15 ?k15 ?a16 ?l16 ?c16 ?k16 ?a17 ?l17 ?c17 ?k17 ?a18 ?l18 ?c18 ?k18 ?a19 ?l19 ?c19 ?k19 ?a20 ?l20 ?c20 ?k20 ?a21 ?l21 ?c21 ?k21 ?a22 ?l22 ?c22 ?k22 ?a23 ?l23 ?c23 ?k23 ?a24 ?l24 ?c24 ?k24 ?a25 ?l25 ?c25 ?k25 ?a26 ?l26 ?c26 ?k26 ?a27 ?l27 ?c27 ?k27 ?a28 ?l28 ?c28 ?k28 ?a29 ?l29 ?c29 ?k29 ?a30 ?l30 ?c30 ?k30 ?a31 ?l31 ?c31 ?k31 ?a32 ?l32 ?c32 ?k32 ?a33 ?l33 ?c33 ?k33 ?a34 ?l34 ?c34 ?k34 ?a35 ?l35 ?c35 ?k35 ?a36 ?l36 ?c36 ?k36 ?a37 ?l37 ?c37 ?k37 ?a38 ?l38 ?c38 ?k38 ?a39 ?l39 ?c39 ?k39 ?a40 ?l40 ?c40 ?k40 ?a41 ?l41 ?c41 ?k41 ?a42 ?l42 ?c42 ?k42 ?a43 ?l43 ?c43 ?k43 ?a44 ?l44 ?c44 ?k44 ?a45 ?l45 ?c45 ?k45 ?a46 ?l46 ?c46 ?k46 ?a47 ?l47 ?c47 ?k47 ?a48 ?l48 ?c48 ?k48 ?z_ZERO ?z_NINE ?z_PLUS ?z_MINUS ?z_MOST_DIGITS ?z_MOST_DECIMALS ?z_TICKS ?z_POINT ?z_DT ?zl_DT ?z_ONE ?z_SIX ?z_GREATEST_SIZE ?z_GREATEST_DEVIATION ?z_BLANK ?z_BOTH_WAYS ?z_TWO_DEVIATIONS ?z_CODE ?z_ALONE ?z_LINE_FEED ?z_LEAST_LENGTH ?z_GREATEST_LENGTH ?z_GREATEST_LIMIT ?z_LENGTH_STEP ?z_MOST_BLOCKS ?z_LONGEST_BOX_TEXT ?z_MOST_IN_STACK ?z_GREATEST_FILM ?y_len ?y_ord ?y_abs ?y_range ?y_enumerate ?y_sum ?y_list ?y_min ?y_max
    (case a0 => k_is)
    (case l0 => k_is)
    (case c0 => k_is)
    (case k0 => k_is)
    (case a1 => k_is)
    (case l1 => k_is)
    (case c1 => k_is)
    (case k1 => k_is)
    (case a2 => k_is)
    (case l2 => k_is)
    (case c2 => k_is)
    (case k2 => k_is)
    (case a3 => k_is)
    (case l3 => k_is)
    (case c3 => k_is)
    (case k3 => k_is)
    (case a4 => k_is)
    (case l4 => k_is)
    (case c4 => k_is)
    (case k4 => k_is)
    (case a5 => k_is)
    (case l5 => k_is)
    (case c5 => k_is)
    (case k5 => k_is)
    (case a6 => k_is)
    (case l6 => k_is)
    (case c6 => k_is)
    (case k6 => k_is)
    (case a7 => k_is)
    (case l7 => k_is)
    (case c7 => k_is)
    (case k7 => k_is)
    (case a8 => k_is)
    (case l8 => k_is)
    (case c8 => k_is)
    (case k8 => k_is)
    (case a9 => k_is)
    (case l9 => k_is)
    (case c9 => k_is)
    (case k9 => k_is)
    (case a10 => k_is)
    (case l10 => k_is)
    (case c10 => k_is)
    (case k10 => k_is)
    (case a11 => k_is)
    (case l11 => k_is)
    (case c11 => k_is)
    (case k11 => k_is)
    (case a12 => k_is)
    (case l12 => k_is)
    (case c12 => k_is)
    (case k12 => k_is)
    (case a13 => k_is)
    (case l13 => k_is)
    (case c13 => k_is)
    (case k13 => k_is)
    (case a14 => k_is)
    (case l14 => k_is)
    (case c14 => k_is)
    (case k14 => k_is)
    (case a15 => k_is)
    (case l15 => k_is)
    (case c15 => k_is)
    (case k15 => k_is)
    (case a16 => k_is)
    (case l16 => k_is)
    (case c16 => k_is)
    (case k16 => k_is)
    (case a17 => k_is)
    (case l17 => k_is)
    (case c17 => k_is)
    (case k17 => k_is)
    (case a18 => k_is)
    (case l18 => k_is)
    (case c18 => k_is)
    (case k18 => k_is)
    (case a19 => k_is)
    (case l19 => k_is)
    (case c19 => k_is)
    (case k19 => k_is)
    (case a20 => k_is)
    (case l20 => k_is)
    (case c20 => k_is)
    (case k20 => k_is)
    (case a21 => k_is)
    (case l21 => k_is)
    (case c21 => k_is)
    (case k21 => k_is)
    (case a22 => k_is)
    (case l22 => k_is)
    (case c22 => k_is)
    (case k22 => k_is)
    (case a23 => k_is)
    (case l23 => k_is)
    (case c23 => k_is)
    (case k23 => k_is)
    (case a24 => k_is)
    (case l24 => k_is)
    (case c24 => k_is)
    (case k24 => k_is)
    (case a25 => k_is)
    (case l25 => k_is)
    (case c25 => k_is)
    (case k25 => k_is)
    (case a26 => k_is)
    (case l26 => k_is)
    (case c26 => k_is)
    (case k26 => k_is)
    (case a27 => k_is)
    (case l27 => k_is)
    (case c27 => k_is)
    (case k27 => k_is)
    (case a28 => k_is)
    (case l28 => k_is)
    (case c28 => k_is)
    (case k28 => k_is)
    (case a29 => k_is)
    (case l29 => k_is)
    (case c29 => k_is)
    (case k29 => k_is)
    (case a30 => k_is)
    (case l30 => k_is)
    (case c30 => k_is)
    (case k30 => k_is)
    (case a31 => k_is)
    (case l31 => k_is)
    (case c31 => k_is)
    (case k31 => k_is)
    (case a32 => k_is)
    (case l32 => k_is)
    (case c32 => k_is)
    (case k32 => k_is)
    (case a33 => k_is)
    (case l33 => k_is)
    (case c33 => k_is)
    (case k33 => k_is)
    (case a34 => k_is)
    (case l34 => k_is)
    (case c34 => k_is)
    (case k34 => k_is)
    (case a35 => k_is)
    (case l35 => k_is)
    (case c35 => k_is)
    (case k35 => k_is)
    (case a36 => k_is)
    (case l36 => k_is)
    (case c36 => k_is)
    (case k36 => k_is)
    (case a37 => k_is)
    (case l37 => k_is)
    (case c37 => k_is)
    (case k37 => k_is)
    (case a38 => k_is)
    (case l38 => k_is)
    (case c38 => k_is)
    (case k38 => k_is)
    (case a39 => k_is)
    (case l39 => k_is)
    (case c39 => k_is)
    (case k39 => k_is)
    (case a40 => k_is)
    (case l40 => k_is)
    (case c40 => k_is)
    (case k40 => k_is)
    (case a41 => k_is)
    (case l41 => k_is)
    (case c41 => k_is)
    (case k41 => k_is)
    (case a42 => k_is)
    (case l42 => k_is)
    (case c42 => k_is)
    (case k42 => k_is)
    (case a43 => k_is)
    (case l43 => k_is)
    (case c43 => k_is)
    (case k43 => k_is)
    (case a44 => k_is)
    (case l44 => k_is)
    (case c44 => k_is)
    (case k44 => k_is)
    (case a45 => k_is)
    (case l45 => k_is)
    (case c45 => k_is)
    (case k45 => k_is)
    (case a46 => k_is)
    (case l46 => k_is)
    (case c46 => k_is)
    (case k46 => k_is)
    (case a47 => k_is)
    (case l47 => k_is)
    (case c47 => k_is)
    (case k47 => k_is)
    (case a48 => k_is)
    (case l48 => k_is)
    (case c48 => k_is)
    (case k48 => k_is)
    (case z_ZERO => k_is)
    (case z_NINE => k_is)
    (case z_PLUS => k_is)
    (case z_MINUS => k_is)
    (case z_MOST_DIGITS => k_is)
    (case z_MOST_DECIMALS => k_is)
    (case z_TICKS => k_is)
    (case z_POINT => k_is)
    (case z_DT => k_is)
    (case zl_DT => k_is)
    (case z_ONE => k_is)
    (case z_SIX => k_is)
    (case z_GREATEST_SIZE => k_is)
    (case z_GREATEST_DEVIATION => k_is)
    (case z_BLANK => k_is)
    (case z_BOTH_WAYS => k_is)
    (case z_TWO_DEVIATIONS => k_is)
    (case z_CODE => k_is)
    (case z_ALONE => k_is)
    (case z_LINE_FEED => k_is)
    (case z_LEAST_LENGTH => k_is)
    (case z_GREATEST_LENGTH => k_is)
    (case z_GREATEST_LIMIT => k_is)
    (case z_LENGTH_STEP => k_is)
    (case z_MOST_BLOCKS => k_is)
    (case z_LONGEST_BOX_TEXT => k_is)
    (case z_MOST_IN_STACK => k_is)
    (case z_GREATEST_FILM => k_is)
    (case y_len => k_is)
    (case y_ord => k_is)
    (case y_abs => k_is)
    (case y_range => k_is)
    (case y_enumerate => k_is)
    (case y_sum => k_is)
    (case y_list => k_is)
    (case y_min => k_is)
    (case y_max => k_is)
  case S => exact GBP.request
#print axioms PySem.Challenge.cw_gaugeblocks_s12_next_of_holds

