import PyProof.Rows.All
import Wide.All
import OpenK.AllK
import Wide.FinOn
import PyProof.EqAt
import PyProof.EqKinds
import PyProof.TupleCall
import KE.BitLaws
import Open.SpecLaws
import KE.OsHead
import KE.OsGo
import PySem.Challenge.RW_steppedover_s01_answers
set_option Elab.async false
set_option linter.all false
set_option maxRecDepth 100000
namespace L2
open PySem PySem.Spec PyProof.Rows
abbrev Key := Sum Int Str
def keyIs : Key → Value → Bool
  | .inl k, v => Value.isInt k v
  | .inr x, v => Value.isStrOf x v
def keyH (w : World) : Key → Int
  | .inl k => hashInt k
  | .inr x => hashStr w x
theorem keyIs_shape : ∀ {k : Key} {v : Value}, keyIs k v = true → (∃ i t, k = Sum.inl i ∧ v = Value.int i t) ∨ (∃ x t, k = Sum.inr x ∧ v = Value.str x t)
  | .inl i, v, h => by
    obtain ⟨t, e⟩ := Value.isInt_shape (k := i) (v := v) h
    exact .inl ⟨i, t, rfl, e⟩
  | .inr x, v, h => by
    obtain ⟨t, e⟩ := Value.isStrOf_shape (x := x) (v := v) h
    exact .inr ⟨x, t, rfl, e⟩
theorem key_ll (a b : Int) : decide ((Sum.inl a : Key) = Sum.inl b) = (a == b) := by
  by_cases e : a = b
  · subst e; simp
  · have h : ¬ (Sum.inl a : Key) = Sum.inl b := fun q => e (Sum.inl.inj q)
    rw [decide_eq_false h]
    exact (beq_eq_false_iff_ne.mpr e).symm
theorem key_rr (a b : Str) : decide ((Sum.inr a : Key) = Sum.inr b) = decide (a = b) := by
  by_cases e : a = b
  · subst e; simp
  · have h : ¬ (Sum.inr a : Key) = Sum.inr b := fun q => e (Sum.inr.inj q)
    rw [decide_eq_false h, decide_eq_false e]
theorem key_lr (a : Int) (b : Str) : decide ((Sum.inl a : Key) = Sum.inr b) = false := decide_eq_false (fun q => nomatch q)
theorem key_rl (a : Str) (b : Int) : decide ((Sum.inr a : Key) = Sum.inl b) = false := decide_eq_false (fun q => nomatch q)

def mixKind (prog : Program) (w : World) : PySem.KeyKind prog w Key where
  is := keyIs
  hash := keyH w
  inj := fun v a b ha hb => by
    rcases keyIs_shape ha with ⟨i, t, rfl, rfl⟩ | ⟨x, t, rfl, rfl⟩
    · rcases keyIs_shape hb with ⟨j, u, rfl, e⟩ | ⟨y, u, rfl, e⟩
      · injection e with e1 _; rw [e1]
      · exact nomatch e
    · rcases keyIs_shape hb with ⟨j, u, rfl, e⟩ | ⟨y, u, rfl, e⟩
      · exact nomatch e
      · injection e with e1 _; rw [e1]
  byValue := fun k v h => by
    rcases keyIs_shape h with ⟨i, t, rfl, rfl⟩ | ⟨x, t, rfl, rfl⟩ <;> rfl
  pyHash := fun hv h => by
    rcases keyIs_shape hv with ⟨i, t, rfl, rfl⟩ | ⟨x, t, rfl, rfl⟩
    · exact wpAny_pyHash_int h
    · exact wpAny_pyHash_str h
  eqBool := fun hu hv h => by
    rcases keyIs_shape hu with ⟨i, t, rfl, rfl⟩ | ⟨x, t, rfl, rfl⟩
    · rcases keyIs_shape hv with ⟨j, u, rfl, rfl⟩ | ⟨y, u, rfl, rfl⟩
      · rw [key_ll] at h; exact wpAny_eqBool_int h
      · rw [key_lr] at h; exact SeqAt.EqAt.int_str i t y u _ _ _ _ h
    · rcases keyIs_shape hv with ⟨j, u, rfl, rfl⟩ | ⟨y, u, rfl, rfl⟩
      · rw [key_rl] at h; exact SeqAt.EqAt.str_int x t j u _ _ _ _ h
      · rw [key_rr] at h; exact wpAny_eqBool_str h
  «strs» := fun k x t v h => by
    rcases keyIs_shape h with ⟨i, u, rfl, e⟩ | ⟨y, u, rfl, e⟩
    · exact nomatch e
    · injection e with e1 _
      subst e1
      cases v <;> rfl

end L2
namespace L2
open PySem PySem.Spec PyProof.Rows
inductive V where
  | non | bl (b : Bool) | int (i : Int) | str (x : Str) | byt (b : Array UInt8) | flt (b : UInt64) | ref (a : Addr) | ty (n : String)
  deriving DecidableEq

def RelV : V → Value → Prop
  | .non, u => u = Value.none
  | .bl b, u => u = Value.bool b
  | .int i, u => ∃ t, u = Value.int i t
  | .str x, u => ∃ t, u = Value.str x t
  | .byt b, u => ∃ t, u = Value.bytes b t
  | .flt b, u => ∃ t, u = Value.float b t
  | .ref a, u => u = Value.ref a
  | .ty n, u => u = Value.type n

abbrev Vals : List V → List Value → Prop := Paired RelV
theorem Vals.length {xs : List V} {us : List Value} (r : Vals xs us) : xs.length = us.length := Paired.length r
theorem Vals.get : ∀ {xs : List V} {us : List Value} {i : Nat} {x : V}, Vals xs us → xs[i]? = some x → ∃ u, us[i]? = some u ∧ RelV x u
  | _, _, _, _, .nil, e => by simp at e
  | _, _, 0, _, .cons r _, e => by simp at e; subst e; exact ⟨_, rfl, r⟩
  | _, _, i + 1, x, .cons _ t, e => by
    obtain ⟨u, h1, h2⟩ := Vals.get (i := i) (x := x) t (by simpa using e)
    exact ⟨u, by simpa using h1, h2⟩
theorem Vals.set {x : V} {u : Value} (r : RelV x u) : ∀ {xs : List V} {us : List Value} (i : Nat), Vals xs us → Vals (xs.set i x) (us.set i u)
  | _, _, _, .nil => .nil
  | _, _, 0, .cons _ t => .cons r t
  | _, _, i + 1, .cons q t => .cons q (Vals.set r i t)
theorem Vals.append : ∀ {xs ys : List V} {us ws : List Value}, Vals xs us → Vals ys ws → Vals (xs ++ ys) (us ++ ws)
  | _, _, _, _, .nil, s => s
  | _, _, _, _, .cons r t, s => .cons r (Vals.append t s)
theorem Vals.take : ∀ {xs : List V} {us : List Value} (n : Nat), Vals xs us → Vals (xs.take n) (us.take n)
  | _, _, 0, _ => .nil
  | _, _, _ + 1, .nil => .nil
  | _, _, n + 1, .cons r t => .cons r (Vals.take n t)
theorem Vals.drop : ∀ {xs : List V} {us : List Value} (n : Nat), Vals xs us → Vals (xs.drop n) (us.drop n)
  | _, _, 0, r => r
  | _, _, _ + 1, .nil => .nil
  | _, _, n + 1, .cons _ t => Vals.drop n t
def RelO : Option V → Option Value → Prop
  | some v, some u => RelV v u
  | none, none => True
  | _, _ => False
def KV {κ : Type} : List (κ × V) → List (κ × Value) → Prop := Paired fun (p : κ × V) (q : κ × Value) => p.1 = q.1 ∧ RelV p.2 q.2

def kV : Key → V
  | .inl i => .int i
  | .inr x => .str x

inductive HO where
  /-- a list -/
  | lst (xs : List V)
  /-- a tuple (never changes) -/
  | tup (xs : List V)
  /-- a dict whose keys are ints and texts; one whose keys are tuples of ints and texts (the empty one is both) -/
  | dK (kvs : List (Key × V)) | dT (kvs : List (List Key × V))
  /-- a set of ints: its members, its size -/
  | set (S : Int → Bool) (n : Nat)
  /-- an instance of the class at C, its dict at dx, its attributes -/
  | ins (C dx : Addr) (fs : List (Str × V))
  /-- the dict of the instance at x -/
  | own (x : Addr)
  /-- the dict of an exception -/
  | xd (fs : List (Str × V))
  /-- a bound method, f of x -/
  | met (f x : Addr)
  /-- a range object lo, lo + 1, .. below hi -/
  | rng (lo hi : Int)
  /-- a thing that is known to the object (the script; a dict while a loop walks it): read, never written while it is so -/
  | frz (o : Obj) (u : HO)
  /-- a code object's table -/
  | tbl (ps : Array Value)
  /-- any other thing, by what is true of its one object (a def of one's own: SetO a S n := HO.ext fun h => ..) -/
  | ext (φ : Heap → Prop)

abbrev Hp := Addr → Option HO
def upd (H : Hp) (a : Addr) (o : HO) : Hp := fun b => if b = a then some o else H b
theorem upd_same {H : Hp} {a : Addr} {o : HO} : upd H a o a = some o := by unfold upd; rw [if_pos rfl]
theorem upd_ne {H : Hp} {a b : Addr} {o : HO} (h : b ≠ a) : upd H a o b = H b := by unfold upd; rw [if_neg h]
theorem ne_of_none {H : Hp} {a b : Addr} {o : HO} (h : H a = some o) (h' : H b = none) : a ≠ b := by
  intro e; subst e; rw [h] at h'; cases h'

section
variable (P : Program) (w : World)
def ObjOk (H : Hp) (h : Heap) (a : Addr) : HO → Prop
  | .lst xs => xs.length ≤ sizeLine ∧ ∃ (its : List Value) (n : Nat), Vals xs its ∧ h.get? a = some { cls := .type "list", data := .seq its.toArray n }
  | .tup xs => xs.length ≤ sizeLine ∧ ∃ its : List Value, Vals xs its ∧ IsTup h a its.toArray
  | .dK kvs => kvs.length ≤ sizeLine ∧ (a == sysModules) = false ∧ ∃ vs, KV kvs vs ∧ h.DictOf (mixKind P w) a vs
  | .dT kvs => kvs.length ≤ sizeLine ∧ (a == sysModules) = false ∧ ∃ xs : List (List Key × Addr × Value),
      Paired (fun (p : List Key × V) (q : List Key × Addr × Value) => p.1 = q.1 ∧ H q.2.1 = some (.tup (p.1.map kV)) ∧ RelV p.2 q.2.2) kvs xs ∧
      ∃ o es ep, h.get? a = some o ∧ o.ExactDict ∧ o.data = .dict es ep ∧ es.toList = xs.map (entryOfKey (tupleKind (mixKind P w))) ∧ (xs.map (·.1)).Nodup
  | .set S n => h.SetOf (intKind P w) a S n
  | .ins C dx fs => H dx = some (.own a) ∧ fs.length ≤ 1000 ∧ dx ≠ a ∧ h.get? a = some (PySem.W.instObj C dx) ∧
      ∃ mA, h.Ns1 dx mA ∧ (∀ f, RelO (fs.lookup f) (mA f)) ∧ PySem.Within mA (fs.map (·.1))
  | .own _ => ∃ o, h.get? a = some o
  | .xd fs => ∃ mA, h.Ns1 a mA ∧ ∀ f, RelO (fs.lookup f) (mA f)
  | .rng lo hi => ∃ t u v, h.get? a = some { cls := .type "range", data := .fields #[.int lo t, .int hi u, .int 1 v] }
  | .frz o u => h.get? a = some o ∧ ObjOk H h a u
  | .tbl ps => h.get? a = some { cls := .none, data := .fields ps }
  | .met f x => h.get? a = some (PySem.W.methodObj (.ref f) (.ref x))
  | .ext φ => φ h ∧ (∃ o, h.get? a = some o) ∧ ∀ h1 h2 : Heap, φ h1 → (∀ o, h1.get? a = some o → h2.get? a = some o) → φ h2
def HOk (H : Hp) (h : Heap) : Prop := ∀ a o, H a = some o → ObjOk P w H h a o
end
section
variable {P : Program} {w : World} {H H' : Hp} {h h' : Heap} {a : Addr} {o : HO}
theorem ObjOk.lt (x : ObjOk P w H h a o) : a < h.objs.size := by
  cases o with
  | lst xs => obtain ⟨_, _, _, _, e⟩ := x; exact Heap.lt_size e
  | tup xs => obtain ⟨_, _, _, p⟩ := x; exact p.lt
  | dK kvs => obtain ⟨_, _, _, _, o, _, _, e, _⟩ := x; exact Heap.lt_size e
  | dT kvs => obtain ⟨_, _, _, _, o, _, _, e, _⟩ := x; exact Heap.lt_size e
  | set S n => obtain ⟨o, _, _, _, e, _⟩ := x; exact Heap.lt_size e
  | ins C dx fs => obtain ⟨_, _, _, e, _⟩ := x; exact Heap.lt_size e
  | own y => obtain ⟨_, e⟩ := x; exact Heap.lt_size e
  | xd fs => obtain ⟨_, ⟨_, _, _, e, _⟩, _⟩ := x; exact Heap.lt_size e
  | rng lo hi => obtain ⟨_, _, _, e⟩ := x; exact Heap.lt_size e
  | frz ob u => obtain ⟨e, _⟩ := x; exact Heap.lt_size e
  | tbl ps => exact Heap.lt_size (show h.get? a = some _ from x)
  | met f y => exact Heap.lt_size (show h.get? a = some _ from x)
  | ext φ => obtain ⟨_, ⟨_, e⟩, _⟩ := x; exact Heap.lt_size e
theorem Paired.mapP {α β : Type} {F G : α → β → Prop} : ∀ {l₁ : List α} {l₂ : List β}, Paired F l₁ l₂ → (∀ a b, F a b → G a b) → Paired G l₁ l₂
  | _, _, .nil, _ => .nil
  | _, _, .cons r t, f => .cons (f _ _ r) (Paired.mapP t f)
theorem ObjOk.stay (x : ObjOk P w H h a o) (k : ∀ b u, (b = a ∨ H b = some (.own a)) → h.get? b = some u → h'.get? b = some u)
    (ho : ∀ b, H b = some (.own a) → H' b = some (.own a)) (ht : ∀ b xs, H b = some (.tup xs) → H' b = some (.tup xs)) : ObjOk P w H' h' a o := by
  induction o with
  | lst xs => obtain ⟨z, its, n, r, e⟩ := x; exact ⟨z, its, n, r, k _ _ (.inl rfl) e⟩
  | tup xs => obtain ⟨z, its, r, ob, e, c⟩ := x; exact ⟨z, its, r, ob, k _ _ (.inl rfl) e, c⟩
  | dK kvs => obtain ⟨z, y, vs, r, ob, es, ep, e, c⟩ := x; exact ⟨z, y, vs, r, ob, es, ep, k _ _ (.inl rfl) e, c⟩
  | dT kvs =>
    obtain ⟨z, y, xs, r, ob, es, ep, e, c⟩ := x
    exact ⟨z, y, xs, Paired.mapP r fun p q z => ⟨z.1, ht _ _ z.2.1, z.2.2⟩, ob, es, ep, k _ _ (.inl rfl) e, c⟩
  | set S n => obtain ⟨ob, es, ep, t, e, c⟩ := x; exact ⟨ob, es, ep, t, k _ _ (.inl rfl) e, c⟩
  | ins C dx fs =>
    obtain ⟨d, z, ne, e, mA, ⟨od, es, ep, e2, c⟩, r⟩ := x
    exact ⟨ho _ d, z, ne, k _ _ (.inl rfl) e, mA, ⟨od, es, ep, k _ _ (.inr d) e2, c⟩, r⟩
  | own y => obtain ⟨ob, e⟩ := x; exact ⟨ob, k _ _ (.inl rfl) e⟩
  | xd fs => obtain ⟨mA, ⟨od, es, ep, e, c⟩, r⟩ := x; exact ⟨mA, ⟨od, es, ep, k _ _ (.inl rfl) e, c⟩, r⟩
  | rng lo hi => obtain ⟨t, u, v, e⟩ := x; exact ⟨t, u, v, k _ _ (.inl rfl) e⟩
  | frz ob u ih => obtain ⟨e, q⟩ := x; exact ⟨k _ _ (.inl rfl) e, ih q⟩
  | tbl ps =>
    have e : h.get? a = some { cls := .none, data := .fields ps } := x
    show h'.get? a = some { cls := .none, data := .fields ps }
    exact k a _ (.inl rfl) e
  | met f y =>
    have e : h.get? a = some (PySem.W.methodObj (.ref f) (.ref y)) := x
    show h'.get? a = some (PySem.W.methodObj (.ref f) (.ref y))
    exact k a _ (.inl rfl) e
  | ext φ => obtain ⟨p, ⟨o, e⟩, st⟩ := x; exact ⟨st _ _ p fun o q => k _ _ (.inl rfl) q, ⟨o, k _ _ (.inl rfl) e⟩, st⟩
theorem HOk.lt (x : HOk P w H h) (e : H a = some o) : a < h.objs.size := (x a o e).lt
theorem HOk.fresh (x : HOk P w H h) (e : h.objs.size ≤ a) : H a = none := by
  cases q : H a with
  | none => rfl
  | some u => exact absurd (Nat.lt_of_lt_of_le (x.lt q) e) (Nat.lt_irrefl _)
theorem HOk.kept (x : HOk P w H h) (k : ∀ b u, h.get? b = some u → h'.get? b = some u) : HOk P w H h' := fun a o e =>
  (x a o e).stay (fun b u _ q => k b u q) (fun _ q => q) fun _ _ q => q
theorem HOk.laid (x : HOk P w H h) (k : ∀ b u, h.get? b = some u → h'.get? b = some u) (hp : h.objs.size ≤ a) (new : ObjOk P w (upd H a o) h' a o) : HOk P w (upd H a o) h' := fun b u e => by
  have hn := x.fresh hp
  by_cases hb : b = a
  · subst hb; rw [upd_same] at e; cases e; exact new
  · rw [upd_ne hb] at e
    exact (x b u e).stay (fun c v _ q => k c v q) (fun c q => by rw [upd_ne (ne_of_none q hn)]; exact q) fun c xs q => by rw [upd_ne (ne_of_none q hn)]; exact q
end
def Rd (H : Hp) (a : Addr) (u : HO) : Prop := H a = some u ∨ ∃ o, H a = some (.frz o u)
theorem Rd.of {H : Hp} {a : Addr} {u : HO} (h : H a = some u) : Rd H a u := .inl h
theorem Rd.ok {P : Program} {w : World} {H : Hp} {h : Heap} {a : Addr} {u : HO} (r : Rd H a u) (x : HOk P w H h) : ObjOk P w H h a u := by
  rcases r with r | ⟨o, r⟩
  · exact x a u r
  · obtain ⟨_, q⟩ := x a _ r
    exact q
def Mut : Option HO → Prop
  | some (.lst _) => True
  | some (.dK _) => True
  | some (.dT _) => True
  | some (.set _ _) => True
  | some (.ins _ _ _) => True
  | some (.ext _) => True
  | _ => False
section
variable {P : Program} {w : World} {H : Hp} {h h' : Heap} {x e : Addr} {o' : HO}
theorem HOk.write (ok : HOk P w H h) (mu : Mut (H x)) (he : e = x ∨ H e = some (.own x)) (k : ∀ b u, b ≠ e → h.get? b = some u → h'.get? b = some u) (heo : ∃ u, h'.get? e = some u)
    (new : ObjOk P w (upd H x o') h' x o') : HOk P w (upd H x o') h' := fun b u q => by
  have nown : ∀ c y, H c = some (.own y) → c ≠ x := fun c y r z => by subst z; rw [r] at mu; exact mu
  have ntup : ∀ c xs, H c = some (.tup xs) → c ≠ x := fun c xs r z => by subst z; rw [r] at mu; exact mu
  by_cases hb : b = x
  · subst hb; rw [upd_same] at q; cases q; exact new
  · rw [upd_ne hb] at q
    by_cases hbe : b = e
    · have q' : H b = some (.own x) := by
        rcases he with z | z
        · exact absurd (hbe.trans z) hb
        · rw [hbe]; exact z
      rw [q] at q'; cases q'
      obtain ⟨v, hv⟩ := heo
      exact ⟨v, by rw [hbe]; exact hv⟩
    · refine (ok b u q).stay (fun c v hc r => k c v ?_ r) (fun c r => by rw [upd_ne (nown c b r)]; exact r) fun c xs r => by rw [upd_ne (ntup c xs r)]; exact r
      rcases hc with rfl | hc
      · exact hbe
      · rintro rfl
        rcases he with z | z
        · exact nown c b hc z
        · rw [hc] at z; cases z; exact hb rfl
end
structure Un (fs ex : List Addr) (H H' : Hp) (h h' : Heap) : Prop where
  keep : ∀ b o, h.get? b = some o → H b = none → b ∉ fs → b ∉ ex → h'.get? b = some o
  slot : ∀ b o, h.get? b = some o → H b = none → b ∈ fs → b ∉ ex → ∃ sl, h'.get? b = some { o with slots := sl }
  free : ∀ b o, h.get? b = some o → H b = none → b ∉ ex → H' b = none
  there : ∀ b o, h.get? b = some o → b ∉ ex → ∃ o', h'.get? b = some o'
  tups : ∀ b xs, H b = some (.tup xs) → H' b = some (.tup xs)
  frzs : ∀ b o u, H b = some (.frz o u) → H' b = some (.frz o u)
  tbls : ∀ b ps, H b = some (.tbl ps) → ∃ more, H' b = some (.tbl (ps ++ more))
section
variable {fs fs' ex ex' : List Addr} {H H1 H2 : Hp} {h h1 h2 h' : Heap} {a x e : Addr} {o : HO}
theorem Un.any (u : Un fs ex H H1 h h1) {b : Addr} {ob : Obj} (q : h.get? b = some ob) (n : H b = none) (hx : b ∉ ex) : ∃ sl, h1.get? b = some { ob with slots := sl } := by
  by_cases hb : b ∈ fs
  · exact u.slot b ob q n hb hx
  · exact ⟨ob.slots, u.keep b ob q n hb hx⟩
theorem Un.trans (a : Un fs ex H H1 h h1) (b : Un fs ex H1 H2 h1 h2) : Un fs ex H H2 h h2 where
  keep := fun c ob q n hc hx => b.keep c ob (a.keep c ob q n hc hx) (a.free c ob q n hx) hc hx
  slot := fun c ob q n hc hx => by
    obtain ⟨sl, e1⟩ := a.slot c ob q n hc hx
    obtain ⟨sl', e2⟩ := b.slot c _ e1 (a.free c ob q n hx) hc hx
    exact ⟨sl', e2⟩
  free := fun c ob q n hx => by
    obtain ⟨o', e1⟩ := a.there c ob q hx
    exact b.free c o' e1 (a.free c ob q n hx) hx
  there := fun c ob q hx => by
    obtain ⟨o', e1⟩ := a.there c ob q hx
    exact b.there c o' e1 hx
  tups := fun c xs q => b.tups c xs (a.tups c xs q)
  frzs := fun c ob xs q => b.frzs c ob xs (a.frzs c ob xs q)
  tbls := fun c ps q => by
    obtain ⟨m1, e1⟩ := a.tbls c ps q
    obtain ⟨m2, e2⟩ := b.tbls c _ e1
    exact ⟨m1 ++ m2, by rw [e2, Array.append_assoc]⟩
theorem Un.kept (k : ∀ b u, h.get? b = some u → h'.get? b = some u) : Un fs ex H H h h' :=
  ⟨fun b ob q _ _ _ => k b ob q, fun b ob q _ _ _ => ⟨ob.slots, k b ob q⟩, fun _ _ _ n _ => n, fun b ob q _ => ⟨ob, k b ob q⟩, fun _ _ q => q, fun _ _ _ q => q, fun _ ps q => ⟨#[], by rw [q]; simp⟩⟩
theorem Un.refl : Un fs ex H H h h := Un.kept fun _ _ q => q
theorem Un.laid (k : ∀ b u, h.get? b = some u → h'.get? b = some u) (hp : h.objs.size ≤ a) (hn : H a = none) : Un fs ex H (upd H a o) h h' where
  keep := fun b u q _ _ _ => k b u q
  slot := fun b u q _ _ _ => ⟨u.slots, k b u q⟩
  free := fun b u q n _ => by rw [upd_ne (Nat.ne_of_lt (Nat.lt_of_lt_of_le (Heap.lt_size q) hp))]; exact n
  there := fun b u q _ => ⟨u, k b u q⟩
  tups := fun b xs q => by rw [upd_ne (ne_of_none q hn)]; exact q
  frzs := fun b u xs q => by rw [upd_ne (ne_of_none q hn)]; exact q
  tbls := fun b ps q => ⟨#[], by rw [upd_ne (ne_of_none q hn), q]; simp⟩
theorem Un.write (mu : Mut (H x)) (he : e = x ∨ H e = some (.own x)) (k : ∀ b u, b ≠ e → h.get? b = some u → h'.get? b = some u) (heo : ∃ u, h'.get? e = some u) : Un fs ex H (upd H x o) h h' := by
  have hx : ∀ b, H b = none → b ≠ x := fun b n z => by subst z; rw [n] at mu; exact mu
  have hb : ∀ b, H b = none → b ≠ e := fun b n z => by
    subst z
    rcases he with r | r
    · exact hx b n r
    · rw [n] at r; cases r
  have hm : ∀ b u, H b = some u → ¬ Mut (some u) → b ≠ x := fun b u q nm z => by subst z; rw [q] at mu; exact nm mu
  refine ⟨fun b u q n _ _ => k b u (hb b n) q, fun b u q n _ _ => ⟨u.slots, k b u (hb b n) q⟩, fun b u q n _ => by rw [upd_ne (hx b n)]; exact n, fun b u q _ => ?_,
    fun b xs q => by rw [upd_ne (hm b _ q fun z => z)]; exact q, fun b u xs q => by rw [upd_ne (hm b _ q fun z => z)]; exact q, fun b ps q => ⟨#[], by rw [upd_ne (hm b _ q fun z => z), q]; simp⟩⟩
  by_cases hbe : b = e
  · subst hbe; exact heo
  · exact ⟨u, k b u hbe q⟩
theorem Un.mono (u : Un fs ex H H1 h h1) (hs : ∀ b ∈ fs, b ∈ fs') (hx : ∀ b ∈ ex, b ∈ ex') : Un fs' ex' H H1 h h1 :=
  ⟨fun b ob q n hb he => u.keep b ob q n (fun z => hb (hs b z)) fun z => he (hx b z), fun _ _ q n _ he => u.any q n fun z => he (hx _ z), fun b ob q n he => u.free b ob q n fun z => he (hx b z), fun b ob q he => u.there b ob q fun z => he (hx b z), u.tups, u.frzs, u.tbls⟩
end
def trk (h : Heap) (H : Hp) : List Addr := (List.range h.objs.size).filter fun a => (H a).isSome
def hidT (h : Heap) (H : Hp) : Heap := PySem.W.hideAll h (trk h H)
theorem hidT_size (h : Heap) (H : Hp) : (hidT h H).objs.size = h.objs.size := PySem.W.hideAll_size _ _
theorem hidT_get {h : Heap} {H : Hp} {b : Addr} {o : Obj} (e : h.get? b = some o) (n : H b = none) : (hidT h H).get? b = some o :=
  PySem.W.hideAll_get _ e fun hm => by
    have q : (H b).isSome = true := (List.mem_filter.mp hm).2
    rw [n] at q; simp at q
theorem of_hidT {h : Heap} {H : Hp} {b : Addr} {o : Obj} (e : (hidT h H).get? b = some o) : h.get? b = some o ∧ H b = none := by
  have e' : h.get? b = some o := PySem.W.of_hideAll (trk h H) e
  refine ⟨e', ?_⟩
  cases q : H b with
  | none => rfl
  | some x =>
    have hm : b ∈ trk h H := List.mem_filter.mpr ⟨List.mem_range.mpr (Heap.lt_size e'), by simp [q]⟩
    have z : (hidT h H).get? b = none := PySem.W.hideAll_none (trk h H) hm
    rw [z] at e; cases e

def allNews (g h : Heap) (L : Addr) : List (Addr × Obj) := (List.range h.objs.size).filterMap fun a => if a = L ∨ (g.get? a).isSome = true then none else (h.get? a).map fun o => (a, o)
def rest (g h : Heap) (L d : Addr) : List (Addr × Obj) := (allNews g h L).filter fun p => decide (p.1 ≠ d)
end L2
namespace L2
open PySem PySem.Spec PyProof.Rows
structure Mod (K : PySem.W.Frag) (mg : Str → Option Value) (base : Heap) : Prop where
  kin : K.In base
  glob : base.Ns mainGlobals mg
  blt : ∃ mb, base.Ns builtinsNs mb ∧ ∀ x : Str, x ≠ "__name__" → mb x = bootBuiltins x
  nolimit : base.NoLimit

structure Cx where
  prog : Program
  w : World
  K : PySem.W.Frag
  mg : Str → Option Value
  base : Heap
  A : Around
  N : List Str
  s_0 : Shared
  H_0 : Hp
  env : Env
  outer : List Env
  stack : List Env
  ex : List Addr
  fn : Str → Bool
  calm : Bool
  pn : List (Addr × Obj)
  xe : Value → Shared → Prop
def frs (l : List Env) : List Addr := l.filterMap (·.frame)
abbrev Cx.fs (X : Cx) : List Addr := frs X.outer

def Vis (sc : Scope) (x : Str) : Prop := sc.names.lookup x = some .local ∨ sc.names.lookup x = some .cell ∨ sc.names.lookup x = some .free
def Loc (sc : Scope) (x : Str) : Prop := sc.names.lookup x = some .local ∨ sc.names.lookup x = some .cell
def Look (env : Env) (h : Heap) (m : Str → Option Value) (x : Str) (u : Value) : Prop :=
  (env.kindOf x = some .local ∧ m x = some u) ∨ ((env.kindOf x = some .cell ∨ env.kindOf x = some .free) ∧ ∃ c, env.cells.lookup x = some c ∧ h.IsCell c (some u))

structure Cx.Ok (X : Cx) : Prop where
  mod : Mod X.K X.mg X.base
  kind : X.env.scope.kind = .function
  glob : X.env.globals = mainGlobals
  blt : X.env.builtins = builtinsNs
  above : X.s_0.heap.objs.size ≤ X.env.locals
  inj : ∀ x y c, X.env.cells.lookup x = some c → X.env.cells.lookup y = some c → x = y
  has : ∀ x, (X.env.kindOf x = some .cell ∨ X.env.kindOf x = some .free) → ∃ c, X.env.cells.lookup x = some c
  cab : ∀ x c, X.fn x = true → X.env.cells.lookup x = some c → X.s_0.heap.objs.size ≤ c
  hd : X.calm = true → X.A.handled = none
  frames : X.A.frames = some X.stack
  stk : X.stack = X.outer ∨ (X.stack = X.env :: X.outer ∧ X.env.frame = some X.env.locals)
  exf : ∀ b ∈ X.ex, b ≠ X.env.locals ∧ ∀ x c, X.env.cells.lookup x = some c → c ≠ b
  bs : ∀ b o, X.base.get? b = some o → X.s_0.heap.get? b = some o ∧ X.H_0 b = none
  bsz : X.base.objs.size ≤ X.s_0.heap.objs.size
  noex : ∀ b o, X.base.get? b = some o → b ∉ X.ex
  exfs : ∀ b ∈ X.ex, b ∉ X.fs
  funs : X.s_0.heap.FunFrames X.base X.outer
  frf : ∀ b ∈ X.fs, X.H_0 b = none

structure Inv (X : Cx) (pins : List (Addr × Obj)) (σ : List (Option V)) (H : Hp) (s : Shared) : Prop where
  ok : X.Ok
  os : s.os = X.s_0.os
  bare : AllBare s.gens
  base : Un X.fs X.ex X.H_0 H X.s_0.heap s.heap
  loc : ∃ m, s.heap.Ns X.env.locals m ∧ ∀ (i : Nat) (x : Str) (v : V), X.N[i]? = some x → σ[i]? = some (some v) → Vis X.env.scope x → ∃ u, RelV v u ∧ Look X.env s.heap m x u
  cell : ∀ x c, X.env.cells.lookup x = some c → ∃ v, s.heap.IsCell c v
  free : H X.env.locals = none
  freeC : ∀ x c, X.env.cells.lookup x = some c → H c = none
  pin : ∀ p ∈ X.pn ++ pins, s.heap.get? p.1 = some p.2 ∧ H p.1 = none ∧ p.1 ≠ X.env.locals ∧ p.1 ∉ X.fs ∧ ∀ v, p.2.data ≠ .cell v
  hok : HOk X.prog X.w H s.heap
  len : σ.length = X.N.length

section
variable {X : Cx} {pins : List (Addr × Obj)} {σ : List (Option V)} {H H' : Hp} {s : Shared} {h' : Heap}
theorem Cx.Ok.nofr (ok : X.Ok) {b : Addr} {o : Obj} (e : X.base.get? b = some o) : b ∉ X.fs := fun hb => by
  have := (ok.funs.mem hb).1
  rw [e] at this; cases this
theorem Inv.bs (I : Inv X pins σ H s) : ∀ b o, X.base.get? b = some o → s.heap.get? b = some o ∧ H b = none := fun b o e =>
  ⟨I.base.keep b o (I.ok.bs b o e).1 (I.ok.bs b o e).2 (I.ok.nofr e) (I.ok.noex b o e), I.base.free b o (I.ok.bs b o e).1 (I.ok.bs b o e).2 (I.ok.noex b o e)⟩
theorem Inv.bk (I : Inv X pins σ H s) : ∀ b o, X.base.get? b = some o → s.heap.get? b = some o := fun b o e => (I.bs b o e).1
theorem Inv.mod (I : Inv X pins σ H s) : Mod X.K X.mg X.base := I.ok.mod
theorem Inv.kIn (I : Inv X pins σ H s) : X.K.In s.heap := I.ok.mod.kin.keeps I.bk
theorem Inv.nolimit (I : Inv X pins σ H s) : s.heap.NoLimit := I.ok.mod.nolimit.keeps I.bk
theorem Inv.lt (I : Inv X pins σ H s) : X.env.locals < s.heap.objs.size := let ⟨_, hn, _⟩ := I.loc; hn.lt
theorem Inv.sz (I : Inv X pins σ H s) : X.s_0.heap.objs.size ≤ s.heap.objs.size := Nat.le_trans I.ok.above (Nat.le_of_lt I.lt)
theorem Inv.nofs (I : Inv X pins σ H s) {a : Addr} (h : s.heap.objs.size ≤ a) : a ∉ X.fs := fun hb => by
  obtain ⟨_, o, ho, _⟩ := I.ok.funs.mem hb
  exact absurd (Nat.lt_of_lt_of_le (Heap.lt_size ho) (Nat.le_trans I.sz h)) (Nat.lt_irrefl _)
theorem Inv.cne (I : Inv X pins σ H s) : ∀ x c, X.env.cells.lookup x = some c → c ≠ X.env.locals := fun x c e z => by
  obtain ⟨v, o, ho, hd⟩ := I.cell x c e
  obtain ⟨m, ⟨o', es, ep, ho', hd', _⟩, _⟩ := I.loc
  rw [z, ho'] at ho; cases ho; rw [hd'] at hd; cases hd
theorem Inv.funs (I : Inv X pins σ H s) : s.heap.FunFrames X.base X.outer := by
  have all : ∀ (l : List Env), (∀ b ∈ frs l, b ∈ X.fs) → X.s_0.heap.FunFrames X.base l → s.heap.FunFrames X.base l := by
    intro l
    induction l with
    | nil => intro _ _; trivial
    | cons env r ih =>
      intro hs hl
      obtain ⟨hk, ⟨L, o, hf, hn, ho, hd⟩, hr⟩ := hl
      have hL : L ∈ X.fs := hs L (by unfold frs; rw [List.filterMap_cons, hf]; exact List.mem_cons_self)
      obtain ⟨sl, e⟩ := I.base.slot L o ho (I.ok.frf L hL) hL fun z => I.ok.exfs L z hL
      exact ⟨hk, ⟨L, _, hf, hn, e, hd⟩, ih (fun b hb => hs b (by unfold frs; rw [List.filterMap_cons, hf]; exact List.mem_cons_of_mem _ hb)) hr⟩
  exact all X.outer (fun _ hb => hb) I.ok.funs

theorem Inv.stack (I : Inv X pins σ H s) : s.heap.FunFrames X.base X.stack := by
  rcases I.ok.stk with e | ⟨e, hf⟩
  · rw [e]; exact I.funs
  · rw [e]
    obtain ⟨m, hn, _⟩ := I.loc
    refine .cons (by rw [I.ok.kind]; decide) hf hn ?_ I.funs
    exact Heap.get?_none_of_le (Nat.le_trans I.ok.bsz I.ok.above)
theorem Inv.stkSub (I : Inv X pins σ H s) : ∀ b ∈ frs X.stack, b ∈ X.env.locals :: X.fs := fun b hb => by
  rcases I.ok.stk with e | ⟨e, hf⟩
  · rw [e] at hb; exact List.mem_cons_of_mem _ hb
  · rw [e] at hb
    unfold frs at hb
    rw [List.filterMap_cons, hf] at hb
    exact hb
theorem Inv.stkFree (I : Inv X pins σ H s) : ∀ b ∈ frs X.stack, H b = none := fun b hb => by
  rcases List.mem_cons.mp (I.stkSub b hb) with e | hb
  · rw [e]; exact I.free
  · obtain ⟨_, o, ho, _⟩ := I.ok.funs.mem hb
    exact I.base.free b o ho (I.ok.frf b hb) fun z => I.ok.exfs b z hb

theorem Inv.step {g' : Array GenState} {t' : Nat} {d' : Drawn} {ch : List Addr} (I : Inv X pins σ H s)
    (hch : ∀ b ∈ ch, (b ∈ X.ex ∨ X.s_0.heap.objs.size ≤ b) ∧ b ≠ X.env.locals ∧ (∀ x c, X.env.cells.lookup x = some c → c ≠ b) ∧ ∀ p ∈ X.pn ++ pins, p.1 ≠ b)
    (keep : ∀ b o, b ≠ X.env.locals → b ∉ X.fs → b ∉ ch → s.heap.get? b = some o → H b = none → h'.get? b = some o)
    (slot : ∀ b o, b ≠ X.env.locals → b ∈ X.fs → b ∉ ch → s.heap.get? b = some o → H b = none → ∃ sl, h'.get? b = some { o with slots := sl }) (free : ∀ b o, b ∉ ch → s.heap.get? b = some o → H b = none → H' b = none)
    (there : ∀ b o, b ∉ ch → s.heap.get? b = some o → ∃ o', h'.get? b = some o')
    (tups : ∀ b xs, H b = some (.tup xs) → H' b = some (.tup xs)) (frzs : ∀ b o u, H b = some (.frz o u) → H' b = some (.frz o u)) (tbls : ∀ b ps, H b = some (.tbl ps) → ∃ more, H' b = some (.tbl (ps ++ more)))
    (ns : ∀ m, s.heap.Ns X.env.locals m → h'.Ns X.env.locals m) (hok : HOk X.prog X.w H' h') (hg : AllBare g') :
    Inv X pins σ H' { s with heap := h', gens := g', drawn := d', toks := t' } := by
  have neL : ∀ b o, X.s_0.heap.get? b = some o → b ≠ X.env.locals := fun b o e => Nat.ne_of_lt (Nat.lt_of_lt_of_le (Heap.lt_size e) I.ok.above)
  have neC : ∀ b o, X.s_0.heap.get? b = some o → b ∉ X.ex → b ∉ ch := fun b o e hx hb => by
    rcases (hch b hb).1 with z | z
    · exact hx z
    · exact absurd (Nat.lt_of_lt_of_le (Heap.lt_size e) z) (Nat.lt_irrefl _)
  have cellK : ∀ x c, X.env.cells.lookup x = some c → ∀ v, s.heap.IsCell c v → h'.IsCell c v := fun x c e v ⟨o, ho, hd⟩ => by
    have nch : c ∉ ch := fun z => (hch c z).2.2.1 x c e rfl
    by_cases hc : c ∈ X.fs
    · obtain ⟨sl, q⟩ := slot c o (I.cne x c e) hc nch ho (I.freeC x c e)
      exact ⟨_, q, hd⟩
    · exact ⟨o, keep c o (I.cne x c e) hc nch ho (I.freeC x c e), hd⟩
  refine ⟨I.ok, I.os, hg, ⟨fun b o e n hb hx => ?_, fun b o e n hb hx => ?_, fun b o e n hx => ?_, fun b o e hx => ?_, fun b xs e => tups b xs (I.base.tups b xs e), fun b o xs e => frzs b o xs (I.base.frzs b o xs e), fun b ps e => ?_⟩, ?_, fun x c e => ?_, ?_, fun x c e => ?_, fun p hp => ?_, hok, I.len⟩
  · exact keep b o (neL b o e) hb (neC b o e hx) (I.base.keep b o e n hb hx) (I.base.free b o e n hx)
  · obtain ⟨sl, e1⟩ := I.base.slot b o e n hb hx
    obtain ⟨sl', e2⟩ := slot b _ (neL b o e) hb (neC b o e hx) e1 (I.base.free b o e n hx)
    exact ⟨sl', e2⟩
  · obtain ⟨o', e1⟩ := I.base.there b o e hx
    exact free b o' (neC b o e hx) e1 (I.base.free b o e n hx)
  · obtain ⟨o', e1⟩ := I.base.there b o e hx
    exact there b o' (neC b o e hx) e1
  · obtain ⟨m1, e1⟩ := I.base.tbls b ps e
    obtain ⟨m2, e2⟩ := tbls b _ e1
    exact ⟨m1 ++ m2, by rw [e2, Array.append_assoc]⟩
  · obtain ⟨m, hn, hl⟩ := I.loc
    refine ⟨m, ns m hn, fun i x v e1 e2 e3 => ?_⟩
    obtain ⟨u, r, l⟩ := hl i x v e1 e2 e3
    refine ⟨u, r, ?_⟩
    rcases l with l | ⟨k, c, e, z⟩
    · exact .inl l
    · exact .inr ⟨k, c, e, cellK x c e _ z⟩
  · obtain ⟨v, z⟩ := I.cell x c e
    exact ⟨v, cellK x c e v z⟩
  · obtain ⟨m, ⟨o, _, _, ho, _⟩, _⟩ := I.loc
    exact free _ o (fun z => (hch _ z).2.1 rfl) ho I.free
  · obtain ⟨v, o, ho, hd⟩ := I.cell x c e
    exact free c o (fun z => (hch c z).2.2.1 x c e rfl) ho (I.freeC x c e)
  · obtain ⟨e, n, ne, nf, d⟩ := I.pin p hp
    have nch : p.1 ∉ ch := fun z => (hch p.1 z).2.2.2 p hp rfl
    exact ⟨keep p.1 p.2 ne nf nch e n, free p.1 p.2 nch e n, ne, nf, d⟩
theorem Inv.un {t' : Nat} (I : Inv X pins σ H s) (u : Un X.fs [] H H' s.heap h') (hok : HOk X.prog X.w H' h') : Inv X pins σ H' { s with heap := h', toks := t' } := by
  obtain ⟨m, ⟨o, es, ep, ho, r⟩, _⟩ := id I.loc
  obtain ⟨sl, hL⟩ := u.any ho I.free (by simp)
  exact I.step (g' := s.gens) (d' := s.drawn) (ch := []) (fun _ z => nomatch z) (fun b o _ hb _ e n => u.keep b o e n hb (by simp)) (fun b o _ hb _ e n => u.slot b o e n hb (by simp)) (fun b o _ e n => u.free b o e n (by simp)) (fun b o _ e => u.there b o e (by simp)) u.tups u.frzs u.tbls (fun m' hm => by
    obtain ⟨o', es', ep', ho', r'⟩ := hm
    rw [ho] at ho'; cases ho'
    exact ⟨_, es', ep', hL, r'⟩) hok I.bare
theorem Inv.call {g' : Array GenState} {t' : Nat} {d' : Drawn} {ch : List Addr} (I : Inv X pins σ H s) (u : Un (frs X.stack) ch H H' s.heap h') (hok : HOk X.prog X.w H' h') (hg : AllBare g')
    (hch : ∀ b ∈ ch, (b ∈ X.ex ∨ X.s_0.heap.objs.size ≤ b) ∧ b ≠ X.env.locals ∧ (∀ x c, X.env.cells.lookup x = some c → c ≠ b) ∧ ∀ p ∈ X.pn ++ pins, p.1 ≠ b) :
    Inv X pins σ H' { s with heap := h', gens := g', drawn := d', toks := t' } := by
  obtain ⟨m, ⟨o, es, ep, ho, r⟩, _⟩ := id I.loc
  obtain ⟨sl, hL⟩ := u.any ho I.free fun z => (hch _ z).2.1 rfl
  exact I.step (ch := ch) hch (fun b o hL hb hc e n => u.keep b o e n (fun z => (List.mem_cons.mp (I.stkSub b z)).elim hL hb) hc) (fun b o _ _ hc e n => u.any e n hc) (fun b o hc e n => u.free b o e n hc) (fun b o hc e => u.there b o e hc) u.tups u.frzs u.tbls (fun m' hm => by
    obtain ⟨o', es', ep', ho', r'⟩ := hm
    rw [ho] at ho'; cases ho'
    exact ⟨_, es', ep', hL, r'⟩) hok hg
theorem Inv.turned {t' : Nat} {it : Addr} (I : Inv X pins σ H s) (k : ∀ b o, b ≠ it → s.heap.get? b = some o → h'.get? b = some o) (hn : H it = none) (hL : it ≠ X.env.locals)
    (h1 : it ∈ X.ex ∨ X.s_0.heap.objs.size ≤ it) (h2 : ∀ x c, X.env.cells.lookup x = some c → c ≠ it) (h3 : ∀ p ∈ X.pn ++ pins, p.1 ≠ it) : Inv X pins σ H { s with heap := h', toks := t' } := by
  have nit : ∀ b u, H b = some u → b ≠ it := fun b u e z => by rw [z, hn] at e; cases e
  refine I.step (g' := s.gens) (d' := s.drawn) (ch := [it]) (fun b hb => ?_) (fun b o _ _ hc e _ => k b o (fun z => hc (by simp [z])) e) (fun b o _ _ hc e _ => ⟨o.slots, k b o (fun z => hc (by simp [z])) e⟩) (fun _ _ _ _ n => n)
    (fun b o hc e => ⟨o, k b o (fun z => hc (by simp [z])) e⟩) (fun _ _ e => e) (fun _ _ _ e => e) (fun b ps e => ⟨#[], by rw [e]; simp⟩) (fun m hm => ?_) (fun b u e => ?_) I.bare
  · have e : b = it := by simpa using hb
    subst e
    exact ⟨h1, hL, h2, h3⟩
  · obtain ⟨o, es, ep, ho, r⟩ := hm
    exact ⟨o, es, ep, k _ o (Ne.symm hL) ho, r⟩
  · refine (I.hok b u e).stay (fun c v hc q => k c v ?_ q) (fun _ q => q) fun _ _ q => q
    rcases hc with z | z
    · rw [z]; exact nit b u e
    · exact nit c _ z
theorem Inv.tok (I : Inv X pins σ H s) (t : Nat) : Inv X pins σ H { s with toks := t } := I.un (h' := s.heap) (t' := t) Un.refl I.hok
theorem Inv.kept {t' : Nat} (I : Inv X pins σ H s) (k : ∀ b u, s.heap.get? b = some u → h'.get? b = some u) : Inv X pins σ H { s with heap := h', toks := t' } := I.un (Un.kept k) (I.hok.kept k)
theorem Inv.laid {a : Addr} {o : HO} {t' : Nat} (I : Inv X pins σ H s) (k : ∀ b u, s.heap.get? b = some u → h'.get? b = some u) (hp : s.heap.objs.size ≤ a) (new : ObjOk X.prog X.w (upd H a o) h' a o) :
    Inv X pins σ (upd H a o) { s with heap := h', toks := t' } := I.un (Un.laid k hp (I.hok.fresh hp)) (I.hok.laid k hp new)
theorem Inv.write {x e : Addr} {o : HO} {t' : Nat} (I : Inv X pins σ H s) (mu : Mut (H x)) (he : e = x ∨ H e = some (.own x)) (k : ∀ b u, b ≠ e → s.heap.get? b = some u → h'.get? b = some u) (heo : ∃ u, h'.get? e = some u)
    (new : ObjOk X.prog X.w (upd H x o) h' x o) : Inv X pins σ (upd H x o) { s with heap := h', toks := t' } := I.un (Un.write mu he k heo) (I.hok.write mu he k heo new)
theorem Inv.weak {σ' : List (Option V)} (I : Inv X pins σ H s) (hl : σ'.length = σ.length) (w : ∀ (i : Nat) v, σ'[i]? = some (some v) → σ[i]? = some (some v)) : Inv X pins σ' H s :=
  ⟨I.ok, I.os, I.bare, I.base, let ⟨m, hn, hl'⟩ := I.loc; ⟨m, hn, fun i x v e1 e2 e3 => hl' i x v e1 (w i v e2) e3⟩, I.cell, I.free, I.freeC, I.pin, I.hok, hl.trans I.len⟩
theorem Inv.pins_of {pins' : List (Addr × Obj)} (I : Inv X pins σ H s) (h : ∀ p ∈ pins', s.heap.get? p.1 = some p.2 ∧ H p.1 = none ∧ p.1 ≠ X.env.locals ∧ p.1 ∉ X.fs ∧ ∀ v, p.2.data ≠ .cell v) : Inv X pins' σ H s :=
  ⟨I.ok, I.os, I.bare, I.base, I.loc, I.cell, I.free, I.freeC, fun p hp => (List.mem_append.mp hp).elim (fun z => I.pin p (List.mem_append_left _ z)) (h p), I.hok, I.len⟩

theorem nodup_ix {N : List Str} (hN : N.Nodup) {i j : Nat} {x : Str} (a : N[i]? = some x) (b : N[j]? = some x) : i = j := by
  obtain ⟨h1, e1⟩ := List.getElem?_eq_some_iff.mp a
  obtain ⟨h2, e2⟩ := List.getElem?_eq_some_iff.mp b
  exact (List.getElem_inj hN).mp (e1.trans e2.symm)

theorem store_ok2 {M : Model} {A : Around} {E : Value → Shared → Prop} {i : Nat} {x : Str} {v : V} {u : Value} {Q : Unit → Shared → Prop} (I : Inv X pins σ H s) (hN : X.N.Nodup) (hi : X.N[i]? = some x) (hx : Loc X.env.scope x) (r : RelV v u)
    (h : ∀ s', Inv X pins (σ.set i (some v)) H s' → (∃ a, Heap.SameBut a s.heap s'.heap ∧ (a = X.env.locals ∨ X.env.cells.lookup x = some a)) → Q () s') (hf : X.fn x = true ∨ X.env.scope.names.lookup x = some .local := by first | exact .inl rfl | exact .inr rfl | assumption) : wpAny M A (storeName X.env x u) Q E s := by
  obtain ⟨m, hn, hl⟩ := id I.loc
  have hcls : (X.env.scope.kind == .class || (X.env.scope.kind == .module && X.env.locals != X.env.globals)) = false := by rw [I.ok.kind]; rfl
  have hiσ : i < σ.length := by rw [I.len]; exact (List.getElem?_eq_some_iff.mp hi).1
  have cne := I.cne
  have tracked : ∀ {a : Addr} {h' : Heap}, (∃ o, s.heap.get? a = some o ∧ H a = none) → Heap.SameBut a s.heap h' → HOk X.prog X.w H h' := fun {a h'} ha hs b ob e => by
    obtain ⟨_, _, hfree⟩ := ha
    refine (I.hok b ob e).stay (fun c w' hc q => (hs.2 c ?_).trans q) (fun _ q => q) fun _ _ q => q
    rintro rfl
    rcases hc with rfl | hc
    · rw [hfree] at e; cases e
    · rw [hfree] at hc; cases hc
  rcases hx with hk | hk
  · refine wpAny_storeName_local hk hn (fun h' hn' hs => ?_) hcls
    obtain ⟨oL, _, _, hoL, _⟩ := id hn
    refine h _ ⟨I.ok, I.os, I.bare, ⟨fun b o e n hb hx => ?_, fun b o e n hb hx => ?_, I.base.free, fun b o e hx => ?_, I.base.tups, I.base.frzs, I.base.tbls⟩, ⟨_, hn', fun j y v' e1 e2 e3 => ?_⟩, fun y c e => ?_, I.free, I.freeC, fun p hp => ?_, tracked ⟨oL, hoL, I.free⟩ hs, by simpa using I.len⟩ ⟨_, hs, .inl rfl⟩
    · exact (hs.2 b (Nat.ne_of_lt (Nat.lt_of_lt_of_le (Heap.lt_size e) I.ok.above))).trans (I.base.keep b o e n hb hx)
    · obtain ⟨sl, e1⟩ := I.base.slot b o e n hb hx
      exact ⟨sl, (hs.2 b (Nat.ne_of_lt (Nat.lt_of_lt_of_le (Heap.lt_size e) I.ok.above))).trans e1⟩
    · obtain ⟨o', e1⟩ := I.base.there b o e hx
      exact ⟨o', (hs.2 b (Nat.ne_of_lt (Nat.lt_of_lt_of_le (Heap.lt_size e) I.ok.above))).trans e1⟩
    · by_cases hj : j = i
      · subst hj
        rw [hi] at e1; cases e1
        rw [List.getElem?_set_self hiσ] at e2
        cases e2
        exact ⟨u, r, .inl ⟨hk, by simp⟩⟩
      · rw [List.getElem?_set_ne (Ne.symm hj)] at e2
        obtain ⟨u', r', q⟩ := hl j y v' e1 e2 e3
        refine ⟨u', r', ?_⟩
        rcases q with ⟨k, e⟩ | ⟨k, c, e, z⟩
        · refine .inl ⟨k, ?_⟩
          have : y ≠ x := fun e => hj (nodup_ix hN e1 (e ▸ hi))
          simp [this, e]
        · exact .inr ⟨k, c, e, z.sameBut hs (cne y c e)⟩
    · obtain ⟨w', z⟩ := I.cell y c e
      exact ⟨w', z.sameBut hs (cne y c e)⟩
    · obtain ⟨e, n, ne, nf, d⟩ := I.pin p hp
      exact ⟨(hs.2 p.1 ne).trans e, n, ne, nf, d⟩
  · have hfn : X.fn x = true := by
      rcases hf with z | z
      · exact z
      · rw [z] at hk; cases hk
    obtain ⟨c, hc⟩ := I.ok.has x (.inl hk)
    obtain ⟨w', z⟩ := I.cell x c hc
    refine wpAny_storeName_cell I.ok.kind hk hc z (fun h' hc' hs => ?_)
    obtain ⟨oc, hoc, hocd⟩ := id z
    refine h { s with heap := h' } ⟨I.ok, I.os, I.bare, ⟨fun b o e n hb hx => ?_, fun b o e n hb hx => ?_, I.base.free, fun b o e hx => ?_, I.base.tups, I.base.frzs, I.base.tbls⟩, ⟨m, hn.sameBut hs (Ne.symm (cne x c hc)), fun j y v' e1 e2 e3 => ?_⟩, fun y c' e => ?_, I.free, I.freeC, fun p hp => ?_, tracked ⟨oc, hoc, I.freeC x c hc⟩ hs, by simpa using I.len⟩ ⟨c, hs, .inr hc⟩
    · exact (hs.2 b (Nat.ne_of_lt (Nat.lt_of_lt_of_le (Heap.lt_size e) (I.ok.cab x c hfn hc)))).trans (I.base.keep b o e n hb hx)
    · obtain ⟨sl, e1⟩ := I.base.slot b o e n hb hx
      exact ⟨sl, (hs.2 b (Nat.ne_of_lt (Nat.lt_of_lt_of_le (Heap.lt_size e) (I.ok.cab x c hfn hc)))).trans e1⟩
    · obtain ⟨o', e1⟩ := I.base.there b o e hx
      exact ⟨o', (hs.2 b (Nat.ne_of_lt (Nat.lt_of_lt_of_le (Heap.lt_size e) (I.ok.cab x c hfn hc)))).trans e1⟩
    · by_cases hj : j = i
      · subst hj
        rw [hi] at e1; cases e1
        rw [List.getElem?_set_self hiσ] at e2
        cases e2
        exact ⟨u, r, .inr ⟨.inl hk, c, hc, hc'⟩⟩
      · rw [List.getElem?_set_ne (Ne.symm hj)] at e2
        obtain ⟨u', r', q⟩ := hl j y v' e1 e2 e3
        refine ⟨u', r', ?_⟩
        rcases q with q | ⟨k, c', e, z'⟩
        · exact .inl q
        · refine .inr ⟨k, c', e, z'.sameBut hs ?_⟩
          rintro rfl
          exact hj (nodup_ix hN e1 (I.ok.inj _ _ _ e hc ▸ hi))
    · by_cases hcc : c' = c
      · subst hcc; exact ⟨_, hc'⟩
      · obtain ⟨w2, z2⟩ := I.cell y c' e
        exact ⟨w2, z2.sameBut hs hcc⟩
    · obtain ⟨e, n, ne, nf, d⟩ := I.pin p hp
      refine ⟨(hs.2 p.1 ?_).trans e, n, ne, nf, d⟩
      intro q
      rw [q, hoc] at e
      have q' : oc = p.2 := Option.some.inj e
      exact d w' (by rw [← q']; exact hocd)
theorem store_ok {M : Model} {A : Around} {E : Value → Shared → Prop} {i : Nat} {x : Str} {v : V} {u : Value} {Q : Unit → Shared → Prop} (I : Inv X pins σ H s) (hN : X.N.Nodup) (hi : X.N[i]? = some x) (hx : Loc X.env.scope x) (r : RelV v u)
    (h : ∀ s', Inv X pins (σ.set i (some v)) H s' → Q () s') (hf : X.fn x = true ∨ X.env.scope.names.lookup x = some .local := by first | exact .inl rfl | exact .inr rfl | assumption) : wpAny M A (storeName X.env x u) Q E s :=
  store_ok2 I hN hi hx r (fun s' I' _ => h s' I') hf
theorem Inv.call' {s' : Shared} {ch : List Addr} (I : Inv X pins σ H s) (ho : s'.os = s.os) (u : Un (frs X.stack) ch H H' s.heap s'.heap) (hok : HOk X.prog X.w H' s'.heap) (hg : AllBare s'.gens)
    (hch : ∀ b ∈ ch, (b ∈ X.ex ∨ X.s_0.heap.objs.size ≤ b) ∧ b ≠ X.env.locals ∧ (∀ x c, X.env.cells.lookup x = some c → c ≠ b) ∧ ∀ p ∈ X.pn ++ pins, p.1 ≠ b) : Inv X pins σ H' s' := by
  obtain ⟨h', g', d', t', o'⟩ := s'
  have e : o' = s.os := ho
  subst e
  exact I.call (g' := g') (t' := t') (d' := d') u hok hg hch
end
abbrev XK := Value → Option Addr → Hp → Prop
abbrev St := List (Option V)
abbrev VK := V → Hp → Prop
abbrev TE := St → Hp → VK → Prop
abbrev TT := St → Hp → (Bool → Hp → Prop) → Prop
abbrev TA := St → Hp → (List V → Hp → Prop) → Prop
structure Ends where
  nx : St → Hp → Prop
  rt : VK
  bk : St → Hp → Prop := fun _ _ => False
  ct : St → Hp → Prop := fun _ _ => False
abbrev TS := Ends → St → Hp → Prop

def EP (X : Cx) (pins : List (Addr × Obj)) (σ : St) (Q : VK) (u : Value) (s' : Shared) : Prop := ∃ v H', Inv X pins σ H' s' ∧ RelV v u ∧ Q v H'
def TP (X : Cx) (pins : List (Addr × Obj)) (σ : St) (Q : Bool → Hp → Prop) (b : Bool) (s' : Shared) : Prop := ∃ H', Inv X pins σ H' s' ∧ Q b H'
def AP (X : Cx) (pins : List (Addr × Obj)) (σ : St) (Q : List V → Hp → Prop) (us : List Value) (s' : Shared) : Prop := ∃ vs H', Inv X pins σ H' s' ∧ Vals vs us ∧ Q vs H'
def SP (X : Cx) (pins : List (Addr × Obj)) (D : Ends) (f : Flow) (s' : Shared) : Prop :=
  match f with
  | .next => ∃ σ' H', Inv X pins σ' H' s' ∧ D.nx σ' H'
  | .brk => ∃ σ' H', Inv X pins σ' H' s' ∧ D.bk σ' H'
  | .cont => ∃ σ' H', Inv X pins σ' H' s' ∧ D.ct σ' H'
  | .ret u => ∃ v σ' H', Inv X pins σ' H' s' ∧ RelV v u ∧ D.rt v H'

def PE (X : Cx) (e : Expr) (t : TE) : Prop :=
  ∀ (pins : List (Addr × Obj)) (s : Shared) (σ : St) (H : Hp) (Q : VK), Inv X pins σ H s → t σ H Q → wpAny (model X.prog X.w) X.A (eval e X.env) (EP X pins σ Q) X.xe s
def PT (X : Cx) (e : Expr) (t : TT) : Prop :=
  ∀ (pins : List (Addr × Obj)) (s : Shared) (σ : St) (H : Hp) (Q : Bool → Hp → Prop), Inv X pins σ H s → t σ H Q → wpAny (model X.prog X.w) X.A (isTrue e X.env (eval e X.env)) (TP X pins σ Q) X.xe s
def PW (X : Cx) (e : Expr) (t : TT) : Prop :=
  ∀ (whole : Sem Value) (pins : List (Addr × Obj)) (s : Shared) (σ : St) (H : Hp) (Q : Bool → Hp → Prop), Inv X pins σ H s → t σ H Q → wpAny (model X.prog X.w) X.A (isTrue e X.env whole) (TP X pins σ Q) X.xe s
theorem PW.pt {X : Cx} {e : Expr} {t : TT} (h : PW X e t) : PT X e t := h _
def PA (X : Cx) (es : List Expr) (t : TA) : Prop :=
  ∀ (pos : Pos) (pins : List (Addr × Obj)) (s : Shared) (σ : St) (H : Hp) (Q : List V → Hp → Prop), Inv X pins σ H s → t σ H Q → wpAny (model X.prog X.w) X.A (spliced (backTo pos (starEach es X.env))) (AP X pins σ Q) X.xe s
def PS (X : Cx) (st : Stmt) (t : TS) : Prop :=
  ∀ (pins : List (Addr × Obj)) (s : Shared) (σ : St) (H : Hp) (D : Ends), Inv X pins σ H s → t D σ H → wpAny (model X.prog X.w) X.A (exec st X.env) (SP X pins D) X.xe s
def PSs (X : Cx) (st : List Stmt) (t : TS) : Prop :=
  ∀ (pins : List (Addr × Obj)) (s : Shared) (σ : St) (H : Hp) (D : Ends), Inv X pins σ H s → t D σ H → wpAny (model X.prog X.w) X.A (execs st X.env) (SP X pins D) X.xe s
theorem thn {α : Type} {t : Sem α} {Q Q' : α → Shared → Prop} {M : Model} {A : Around} {E : Value → Shared → Prop} {s : Shared} (h : wpAny M A t Q E s) (hQ : ∀ a s, Q a s → Q' a s) : wpAny M A t Q' E s := wpAny_mono h hQ fun _ _ x => x
end L2
namespace L2
open PySem PySem.Spec PyProof.Rows
section
variable {X : Cx}
def tVar (i : Nat) : TE := fun σ H Q => ∃ v, σ[i]? = some (some v) ∧ Q v H
def tC (v : V) : TE := fun _ H Q => Q v H
theorem pe_var {i : Nat} {x : Str} {pos : Pos} (hN : X.N[i]? = some x) (hv : Vis X.env.scope x) (hd : (x == ("__debug__" : Str)) = false := by decide) (hcd : (x == ("__classdict__" : Str)) = false := by decide) : PE X (.Name x pos) (tVar i) := by
  intro pins s σ H Q I h
  obtain ⟨v, e, h⟩ := h
  obtain ⟨m, hn, hl⟩ := I.loc
  obtain ⟨u, r, l⟩ := hl i x v hN e hv
  have fin : EP X pins σ Q u s := ⟨v, H, I, r, h⟩
  rcases l with ⟨hk, hm⟩ | ⟨hk, c, hc, hcell⟩
  · exact wpAny_Name (wpAny_loadName_local I.ok.kind hk hn hm fin) hd
  · rcases hk with hk | hk
    · exact wpAny_Name (wpAny_loadName_cell I.ok.kind hk hc hcell fin) hd
    · exact wpAny_Name (wpAny_loadName_free I.ok.kind hk hc hcell fin hcd) hd
theorem pe_int {i j pos} : PE X (.Constant (.int i) j pos) (tC (.int i)) := fun _ _ _ H _ I h => wpAny_Constant_int ⟨.int i, H, I.tok _, ⟨_, rfl⟩, h⟩
theorem pe_bl {b j pos} : PE X (.Constant (.bool b) j pos) (tC (.bl b)) := fun _ _ _ H _ I h => Constant_bool ⟨.bl b, H, I, rfl, h⟩
def Gl (X : Cx) (x : Str) : Prop := X.env.kindOf x = some .globalImplicit
theorem ld_glob {E : Value → Shared → Prop} {pins : List (Addr × Obj)} {s : Shared} {σ : St} {H : Hp} {x : Str} {u : Value} {pos : Pos} {Q : Value → Shared → Prop} (I : Inv X pins σ H s) (hg : Gl X x) (hm : X.mg x = some u) (h : Q u s)
    (hd : (x == ("__debug__" : Str)) = false := by decide) : wpAny (model X.prog X.w) X.A (eval (.Name x pos) X.env) Q E s :=
  Calls.Name_function_global I.ok.kind hg (Calls.loadGlobal_global (by rw [I.ok.glob]; exact I.mod.glob.keeps I.bk) hm h) hd
theorem ld_blt {E : Value → Shared → Prop} {pins : List (Addr × Obj)} {s : Shared} {σ : St} {H : Hp} {x : Str} {u : Value} {pos : Pos} {Q : Value → Shared → Prop} (I : Inv X pins σ H s) (hg : Gl X x) (hm : X.mg x = none) (hv : bootBuiltins x = some u) (h : Q u s)
    (hn : x ≠ "__name__" := by decide) (hd : (x == ("__debug__" : Str)) = false := by decide) : wpAny (model X.prog X.w) X.A (eval (.Name x pos) X.env) Q E s := by
  obtain ⟨mb, h1, h2⟩ := I.mod.blt
  exact Calls.Name_function_global I.ok.kind hg (Calls.loadGlobal_builtin (by rw [I.ok.glob]; exact I.mod.glob.keeps I.bk) hm (by rw [I.ok.blt]; exact h1.keeps I.bk) ((h2 x hn).trans hv) h) hd
theorem pe_glob {x : Str} {v : V} {u : Value} {pos : Pos} (hg : Gl X x) (hm : X.mg x = some u) (r : RelV v u) (hd : (x == ("__debug__" : Str)) = false := by decide) : PE X (.Name x pos) (tC v) :=
  fun _ _ _ H _ I h => ld_glob I hg hm ⟨v, H, I, r, h⟩ hd
variable {a b : Expr} {ta tb : TE} {pos : Pos}
def tB (t : TE) : TT := fun σ H Q => t σ H fun x H1 => ∃ c, x = .bl c ∧ Q c H1
theorem pt_val {e : Expr} {t : TE} (h : PE X e t) (he : ∀ whole, isTrue e X.env whole = (do let v ← whole; standAt e.pos; holding [v] (truthy v)) := by intro _; rfl) : PT X e (tB t) := by
  intro pins s σ H Q I hw
  refine isTrue_plain (thn (h pins s σ H _ I hw) fun v s1 ⟨x, H1, I1, r1, q1⟩ => ?_) (he _)
  obtain ⟨d, rfl, q⟩ := q1
  cases r1
  exact wpAny_truthy_bool ⟨H1, I1, q⟩

variable {tA tB' : TT} {rest : List Expr}
def tOr (t u : TT) : TT := fun σ H Q => t σ H fun c H1 => if c = true then Q true H1 else u σ H1 Q
def tNot (t : TT) : TT := fun σ H Q => t σ H fun c H1 => Q (!c) H1
theorem pw_or1 (ha : PT X a tA) : PW X (.BoolOp .Or [a] pos) tA := by
  intro wh pins s σ H Q I h
  refine isTrue_or (thn (ha pins s σ H Q I h) fun c s1 e => ?_)
  cases c with
  | false => exact isTrue_or_nil e
  | true => exact e
theorem pw_or (ha : PT X a tA) (hb : PW X (.BoolOp .Or (b :: rest) pos) tB') : PW X (.BoolOp .Or (a :: b :: rest) pos) (tOr tA tB') := by
  intro wh pins s σ H Q I h
  refine isTrue_or (thn (ha pins s σ H _ I h) fun c s1 ⟨H1, I1, q1⟩ => ?_)
  cases c with
  | true => exact ⟨H1, I1, q1⟩
  | false => exact hb wh pins s1 σ H1 Q I1 q1
theorem pt_not (ha : PT X a tA) : PT X (.UnaryOp .Not a pos) (tNot tA) := by
  intro pins s σ H Q I h
  exact isTrue_not (ha pins s σ H (fun c H1 => Q (!c) H1) I h)
def tAndV (ta tb : TE) : TE := fun σ H Q => ta σ H fun x H1 => ∃ c, x = .bl c ∧ if c = true then tb σ H1 Q else Q (.bl false) H1
theorem pe_one {op} {t : TE} (h : PE X a t) : PE X (.BoolOp op [a] pos) t := fun pins s σ H Q I hw => BoolOp_one (h pins s σ H Q I hw)
theorem pe_and (ha : PE X a ta) (hb : PE X (.BoolOp .And (b :: rest) pos) tb) : PE X (.BoolOp .And (a :: b :: rest) pos) (tAndV ta tb) := by
  intro pins s σ H Q I h
  refine BoolOp_and (thn (ha pins s σ H _ I h) fun v s1 ⟨x, H1, I1, r1, q1⟩ => ?_)
  obtain ⟨c, rfl, q1⟩ := q1
  cases r1
  refine wpAny_truthy_bool ?_
  cases c with
  | true => exact hb pins s1 σ H1 Q I1 q1
  | false => exact ⟨.bl false, H1, I1, rfl, q1⟩
end
end L2
namespace L2
open PySem PySem.Spec PyProof.Rows
def SqL (K : PySem.W.Frag) (H : Hp) (a : Addr) (xs : List V) : Prop :=
  Rd H a (.lst xs) ∨
    ∃ (o : Obj) (its : Array Value) (n : Nat), K.lookup a = some o ∧ o.cls = .type "list" ∧ o.dict = none ∧ o.data = .seq its n ∧ its.size ≤ sizeLine ∧ Vals xs its.toList
def SqT (K : PySem.W.Frag) (H : Hp) (a : Addr) (xs : List V) : Prop :=
  Rd H a (.tup xs) ∨
    ∃ (o : Obj) (its : Array Value) (n : Nat), K.lookup a = some o ∧ o.cls = .type "tuple" ∧ o.data = .seq its n ∧ its.size ≤ sizeLine ∧ Vals xs its.toList
def absV : Value → Option V
  | .none => some .non
  | .bool b => some (.bl b)
  | .int i _ => some (.int i)
  | .str x _ => some (.str x)
  | .bytes b _ => some (.byt b)
  | .float b _ => some (.flt b)
  | .ref a => some (.ref a)
  | .type n => some (.ty n)
  | _ => none
theorem RelV.abs {x : V} {u : Value} (r : RelV x u) : absV u = some x := by
  cases x with
  | non => cases r; rfl
  | bl _ => cases r; rfl
  | int _ => obtain ⟨t, rfl⟩ := r; rfl
  | str _ => obtain ⟨t, rfl⟩ := r; rfl
  | byt _ => obtain ⟨t, rfl⟩ := r; rfl
  | flt _ => obtain ⟨t, rfl⟩ := r; rfl
  | ref _ => cases r; rfl
  | ty _ => cases r; rfl
theorem RelV.inj {x y : V} {u : Value} (r : RelV x u) (q : RelV y u) : x = y := Option.some.inj (r.abs.symm.trans q.abs)
theorem Vals.inj : ∀ {xs ys : List V} {us : List Value}, Vals xs us → Vals ys us → xs = ys
  | _, _, _, .nil, .nil => rfl
  | _, _, _, .cons r t, .cons r' t' => by rw [r.inj r', Vals.inj t t']
section
variable {X : Cx} {pins : List (Addr × Obj)} {σ : St} {H : Hp} {s : Shared} {a : Addr} {xs ys : List V}
theorem SqL.of {K : PySem.W.Frag} (h : H a = some (.lst xs)) : SqL K H a xs := .inl (.inl h)
theorem SqT.of {K : PySem.W.Frag} (h : H a = some (.tup xs)) : SqT K H a xs := .inl (.inl h)
theorem Inv.list (I : Inv X pins σ H s) (h : SqL X.K H a xs) : ∃ its : List Value, Vals xs its ∧ PlainL s.heap a its.toArray ∧ xs.length ≤ sizeLine := by
  rcases h with h | ⟨o, its, n, hk, hc, hd, hs, hz, r⟩
  · obtain ⟨z, its, n, r, e⟩ := h.ok I.hok
    exact ⟨its, r, ⟨_, n, e, rfl, rfl, rfl⟩, z⟩
  · refine ⟨its.toList, r, ⟨o, n, I.kIn a o hk, hc, hd, by simpa using hs⟩, ?_⟩
    have e := r.length
    simp only [Array.length_toList] at e
    omega
theorem Inv.tuple (I : Inv X pins σ H s) (h : SqT X.K H a xs) : ∃ its : List Value, Vals xs its ∧ IsTup s.heap a its.toArray ∧ xs.length ≤ sizeLine := by
  rcases h with h | ⟨o, its, n, hk, hc, hs, hz, r⟩
  · obtain ⟨z, its, r, p⟩ := h.ok I.hok
    exact ⟨its, r, p, z⟩
  · refine ⟨its.toList, r, ⟨o, I.kIn a o hk, hc, n, by simpa using hs⟩, ?_⟩
    have e := r.length
    simp only [Array.length_toList] at e
    omega
theorem Inv.list_inj (I : Inv X pins σ H s) (h : SqL X.K H a xs) (h' : SqL X.K H a ys) : xs = ys := by
  obtain ⟨its, r, ⟨o, n, e, _, _, d⟩, _⟩ := I.list h
  obtain ⟨its', r', ⟨o', n', e', _, _, d'⟩, _⟩ := I.list h'
  rw [e] at e'; cases e'
  rw [d] at d'
  injection d' with d1 _
  have : its = its' := by simpa using congrArg Array.toList d1
  subst this
  exact r.inj r'
end
abbrev Cx.wish (X : Cx) (E : Value → Shared → Prop) : Cx := { X with xe := E }
abbrev Cx.nox (X : Cx) : Cx := X.wish fun _ _ => False
theorem Cx.Ok.wish {X : Cx} (ok : X.Ok) (E : Value → Shared → Prop) : (X.wish E).Ok :=
  ⟨ok.mod, ok.kind, ok.glob, ok.blt, ok.above, ok.inj, ok.has, ok.cab, ok.hd, ok.frames, ok.stk, ok.exf, ok.bs, ok.bsz, ok.noex, ok.exfs, ok.funs, ok.frf⟩
theorem Cx.Ok.unwish {X : Cx} {E : Value → Shared → Prop} (ok : (X.wish E).Ok) : X.Ok :=
  ⟨ok.mod, ok.kind, ok.glob, ok.blt, ok.above, ok.inj, ok.has, ok.cab, ok.hd, ok.frames, ok.stk, ok.exf, ok.bs, ok.bsz, ok.noex, ok.exfs, ok.funs, ok.frf⟩
section
variable {X : Cx} {pins : List (Addr × Obj)} {σ : St} {H : Hp} {s : Shared} {E : Value → Shared → Prop}
theorem Inv.wish (I : Inv X pins σ H s) (E : Value → Shared → Prop) : Inv (X.wish E) pins σ H s := ⟨I.ok.wish E, I.os, I.bare, I.base, I.loc, I.cell, I.free, I.freeC, I.pin, I.hok, I.len⟩
theorem Inv.unwish (I : Inv (X.wish E) pins σ H s) : Inv X pins σ H s := ⟨I.ok.unwish, I.os, I.bare, I.base, I.loc, I.cell, I.free, I.freeC, I.pin, I.hok, I.len⟩
theorem SP.unwish {D : Ends} {f : Flow} {s' : Shared} (h : SP (X.wish E) pins D f s') : SP X pins D f s' := by
  cases f with
  | next => obtain ⟨σ', H', I, q⟩ := h; exact ⟨σ', H', I.unwish, q⟩
  | brk => obtain ⟨σ', H', I, q⟩ := h; exact ⟨σ', H', I.unwish, q⟩
  | cont => obtain ⟨σ', H', I, q⟩ := h; exact ⟨σ', H', I.unwish, q⟩
  | ret u => obtain ⟨v, σ', H', I, r, q⟩ := h; exact ⟨v, σ', H', I.unwish, r, q⟩
theorem PE.nox {e : Expr} {t : TE} (h : PE X.nox e t) : PE X e t := fun pins s σ H Q I hw =>
  wpAny_mono (h pins s σ H Q (I.wish _) hw) (fun _ _ ⟨v, H', I', r, q⟩ => ⟨v, H', I'.unwish, r, q⟩) fun _ _ z => False.elim z
theorem PT.nox {e : Expr} {t : TT} (h : PT X.nox e t) : PT X e t := fun pins s σ H Q I hw =>
  wpAny_mono (h pins s σ H Q (I.wish _) hw) (fun _ _ ⟨H', I', q⟩ => ⟨H', I'.unwish, q⟩) fun _ _ z => False.elim z
theorem PSs.nox {st : List Stmt} {t : TS} (h : PSs X.nox st t) : PSs X st t := fun pins s σ H D I hw =>
  wpAny_mono (h pins s σ H D (I.wish _) hw) (fun _ _ q => q.unwish) fun _ _ z => False.elim z
end
section
variable {X : Cx} {st : Stmt} {rest : List Stmt} {t u : TS} {e : Expr} {te : TE} {pos : Pos}
def tNext : TS := fun D σ H => D.nx σ H
def tSeq (t u : TS) : TS := fun D σ H => t { D with nx := u D } σ H
theorem pss_nil : PSs X [] tNext := fun _ _ σ H _ I h => wpAny_execs_nil ⟨σ, H, I, h⟩
theorem pss_cons (h1 : PS X st t) (h2 : PSs X rest u) : PSs X (st :: rest) (tSeq t u) := by
  intro pins s σ H D I h
  refine wpAny_execs_cons (thn (h1 pins s σ H { D with nx := u D } I h) fun f s1 q => ?_)
  cases f with
  | next =>
    obtain ⟨σ', H', I', q⟩ := q
    exact h2 pins s1 σ' H' D I' q
  | ret v => exact q
  | brk => exact q
  | cont => exact q
theorem pss_one (h1 : PS X st t) : PSs X [st] t := by
  intro pins s σ H D I h
  refine wpAny_execs_cons (thn (h1 pins s σ H D I h) fun f s1 q => ?_)
  cases f with
  | next => exact wpAny_execs_nil q
  | ret v => exact q
  | brk => exact q
  | cont => exact q
theorem Inv.quiet {pins : List (Addr × Obj)} {σ : St} {H : Hp} {s : Shared} (I : Inv X pins σ H s) : interactive X.env = false := by simp [interactive, I.ok.kind]
def tDrop (te : TE) : TS := fun D σ H => te σ H fun _ H1 => D.nx σ H1
theorem ps_expr (he : PE X e te) (hs : swapsWith e none pos.line X.env = pure false := by rfl) : PS X (.Expr e pos) (tDrop te) := by
  intro pins s σ H D I h
  exact wpAny_Expr_any (thn (he pins s σ H _ I h) fun v s1 ⟨x, H1, I1, r1, q1⟩ => ⟨σ, H1, I1, q1⟩) I.quiet hs
def tRet (te : TE) : TS := fun D σ H => te σ H D.rt
theorem ps_ret (he : PE X e te) : PS X (.Return (some e) pos) (tRet te) := by
  intro pins s σ H D I h
  exact wpAny_Return_some (thn (he pins s σ H _ I h) fun v s1 ⟨x, H1, I1, r1, q1⟩ => ⟨x, σ, H1, I1, r1, q1⟩)
def tIfS (c : TT) (t u : TS) : TS := fun D σ H => c σ H fun b H1 => if b = true then t D σ H1 else u D σ H1
theorem ps_if {c : Expr} {a b : List Stmt} {tc : TT} (hc : PT X c tc) (ha : PSs X a t) (hb : PSs X b u) : PS X (.If c a b pos) (tIfS tc t u) := by
  intro pins s σ H D I h
  refine wpAny_If (thn (hc pins s σ H _ I h) fun d s1 ⟨H1, I1, q1⟩ => ?_)
  cases d with
  | true => exact ha pins s1 σ H1 D I1 q1
  | false => exact hb pins s1 σ H1 D I1 q1
end
abbrev TG := V → St → Hp → (St → Hp → Prop) → Prop
abbrev TGs := List V → St → Hp → (St → Hp → Prop) → Prop
def PG (X : Cx) (target : Expr) (t : TG) : Prop :=
  ∀ (pins : List (Addr × Obj)) (s : Shared) (σ : St) (H : Hp) (v : V) (u : Value) (Q : St → Hp → Prop), Inv X pins σ H s → RelV v u → t v σ H Q →
    wpAny (model X.prog X.w) X.A (assign target X.env u) (fun _ s' => ∃ σ' H', Inv X pins σ' H' s' ∧ Q σ' H') X.xe s
def PGs (X : Cx) (ts : List Expr) (t : TGs) : Prop :=
  ∀ (pins : List (Addr × Obj)) (s : Shared) (σ : St) (H : Hp) (vs : List V) (us : List Value) (Q : St → Hp → Prop), Inv X pins σ H s → Vals vs us → t vs σ H Q →
    wpAny (model X.prog X.w) X.A (assignInOrder ((assignEach ts X.env).map (·.2)) us) (fun _ s' => ∃ σ' H', Inv X pins σ' H' s' ∧ Q σ' H') X.xe s
abbrev TSet := V → V → V → Hp → (Hp → Prop) → Prop
def PSet (X : Cx) (t : TSet) : Prop :=
  ∀ (pins : List (Addr × Obj)) (s : Shared) (σ : St) (H : Hp) (o i v : V) (ov iv u : Value) (Q : Hp → Prop), Inv X pins σ H s → RelV o ov → RelV i iv → RelV v u → t o i v H Q →
    wpAny (model X.prog X.w) X.A (setItem ov iv u) (fun _ s' => ∃ H', Inv X pins σ H' s' ∧ Q H') X.xe s
section
variable {X : Cx} {pos : Pos}
def gName (i : Nat) : TG := fun v σ H Q => Q (σ.set i (some v)) H
theorem pg_name {i : Nat} {x : Str} (hN : X.N.Nodup) (hi : X.N[i]? = some x) (hx : Loc X.env.scope x) (hf : X.fn x = true ∨ X.env.scope.names.lookup x = some .local := by first | exact .inl rfl | exact .inr rfl | assumption) : PG X (.Name x pos) (gName i) := by
  intro pins s σ H v u Q I r h
  exact wpAny_assign_Name (store_ok I hN hi hx r (fun s' I' => ⟨_, H, I', h⟩) hf)
def gNil : TGs := fun vs σ H Q => vs = [] ∧ Q σ H
def gCons (t : TG) (u : TGs) : TGs := fun vs σ H Q => ∃ v r, vs = v :: r ∧ t v σ H fun σ' H' => u r σ' H' Q
theorem pgs_nil : PGs X [] gNil := by
  intro pins s σ H vs us Q I r h
  obtain ⟨e, h⟩ := h
  subst e
  cases r
  exact assignInOrder_nil ⟨σ, H, I, h⟩
theorem pgs_cons {e : Expr} {es : List Expr} {t : TG} {u : TGs} (h1 : PG X e t) (h2 : PGs X es u)
    (hs : (assignEach (e :: es) X.env).map (·.2) = assign e X.env :: (assignEach es X.env).map (·.2) := by rfl) : PGs X (e :: es) (gCons t u) := by
  intro pins s σ H vs us Q I r h
  obtain ⟨v, vr, e1, h⟩ := h
  subst e1
  cases r with
  | cons r rr =>
    rw [hs]
    refine assignInOrder_cons (thn (h1 pins s σ H _ _ _ I r h) fun _ s1 ⟨σ1, H1, I1, q1⟩ => ?_)
    exact h2 pins s1 σ1 H1 _ _ Q I1 rr q1
def gTup (K : PySem.W.Frag) (n : Nat) (t : TGs) : TG := fun v σ H Q => ∃ a xs, v = .ref a ∧ SqT K H a xs ∧ xs.length = n ∧ t xs σ H Q
theorem pg_tup {es : List Expr} {k : Nat} {t : TGs} {n : Nat} (hc : X.calm = true) (h : PGs X es t)
    (hn : (assignEach es X.env).length = n := by rfl) (hst : (assignEach es X.env).findIdx? (·.1) = none := by rfl) : PG X (.Tuple es k pos) (gTup X.K n t) := by
  intro pins s σ H v u Q I r hw
  obtain ⟨a, xs, e1, hq, hl, hw⟩ := hw
  subst e1
  cases r
  obtain ⟨its, rv, ht, hz⟩ := I.tuple hq
  refine assign_Tuple_tuple (I.ok.hd hc) ht (by simp [hn, ← hl, rv.length]) hst fun h' hx => ?_
  have I1 : Inv X pins σ H { s with heap := h' } := I.kept (t' := s.toks) fun b o e => hx b o (Nat.ne_of_lt (Heap.lt_size e)) e
  exact h pins _ σ H xs _ Q I1 (by simpa using rv) hw
def gSub (to ti : TE) (t : TSet) : TG := fun v σ H Q => to σ H fun o H1 => ti σ H1 fun i H2 => t o i v H2 fun H3 => Q σ H3
theorem pg_sub {o i : Expr} {to ti : TE} {t : TSet} (ho : PE X o to) (hi : PE X i ti) (hs : PSet X t)
    (ha : ∀ v, assign (.Subscript o i pos) X.env v = (do
      let ov ← holding [v] (eval o X.env)
      let iv ← holding [v, ov] (eval i X.env)
      standAt pos
      holding [v, ov, iv] (setItem ov iv v)
      release [v, ov, iv] []) := by intro _; rfl) : PG X (.Subscript o i pos) (gSub to ti t) := by
  intro pins s σ H v u Q I r h
  rw [ha]
  refine wpAny_bind (wpAny_holding (thn (ho pins s σ H _ I h) fun ov s1 ⟨x, H1, I1, r1, q1⟩ => ?_))
  refine wpAny_bind (wpAny_holding (thn (hi pins s1 σ H1 _ I1 q1) fun iv s2 ⟨y, H2, I2, r2, q2⟩ => ?_))
  refine wpAny_bind (wpAny_standAt (wpAny_bind (wpAny_holding (thn (hs pins s2 σ H2 x y v ov iv u _ I2 r1 r2 r q2) fun _ s3 ⟨H3, I3, q3⟩ => ?_))))
  exact wpAny_release ⟨σ, H3, I3, q3⟩
def tAsg (te : TE) (g : TG) : TS := fun D σ H => te σ H fun x H1 => g x σ H1 D.nx
theorem ps_asg {tg e : Expr} {te : TE} {g : TG} (he : PE X e te) (hg : PG X tg g) (hs : swapsWithSole [tg] e pos.line X.env = pure false := by rfl) (hw : swappedStores [tg] e X.env = pure none := by rfl)
    (h1 : (assignEach [tg] X.env).map (·.2) = [assign tg X.env] := by rfl) : PS X (.Assign [tg] e pos) (tAsg te g) := by
  intro pins s σ H D I h
  refine wpAny_Assign_stores (thn (he pins s σ H _ I h) fun v s1 ⟨x, H1, I1, r1, q1⟩ => ?_) hs hw
  rw [h1]
  exact thn (hg pins s1 σ H1 x v _ I1 r1 q1) fun _ s2 q => q
theorem ps_set {i : Nat} {x : Str} {e : Expr} {te : TE} {pos' : Pos} (hN : X.N.Nodup) (hi : X.N[i]? = some x) (hx : Loc X.env.scope x) (he : PE X e te) (hs : swapsWith e (some (.Name x pos')) pos.line X.env = pure false := by rfl) (hf : X.fn x = true ∨ X.env.scope.names.lookup x = some .local := by first | exact .inl rfl | exact .inr rfl | assumption) :
    PS X (.Assign [.Name x pos'] e pos) (tAsg te (gName i)) := by
  intro pins s σ H D I h
  refine wpAny_Assign_Name (thn (he pins s σ H _ I h) fun v s1 ⟨y, H1, I1, r1, q1⟩ => ?_) hs
  exact store_ok I1 hN hi hx r1 (fun s2 I2 => ⟨_, H1, I2, q1⟩) hf
end
section
variable {X : Cx} {pos : Pos}
def tWhile (c : TT) (tb : TS) : TS := fun D σ H => ∃ W : Nat → St → Hp → Prop, (∃ m, W m σ H) ∧ ∀ m σ H, W m σ H →
  c σ H fun b H1 => if b = true then ∃ N : St → Hp → Prop, (∀ σ' H', N σ' H' → ∃ m', m' < m ∧ W m' σ' H') ∧ tb { D with nx := N, ct := N, bk := D.nx } σ H1 else D.nx σ H1
theorem ps_while {c : Expr} {body : List Stmt} {tc : TT} {tb : TS} (hp : PassesOwn (model X.prog X.w) X.A X.env X.xe) (hc : PT X c tc) (hb : PSs X body tb) : PS X (.While c body [] pos) (tWhile tc tb) := by
  intro pins s σ H D I h
  obtain ⟨W, ⟨m0, w0⟩, turn⟩ := h
  refine wpAny_While (codeAny_whileLoop (fun n s' => ∃ σ' H', Inv X pins σ' H' s' ∧ W n σ' H') ?_ m0 ⟨σ, H, I, w0⟩)
  rintro n s1 ⟨σ1, H1, I1, w1⟩
  refine wpAny_passesOwn hp (thn (hc pins s1 σ1 H1 _ I1 (turn n σ1 H1 w1)) fun b s2 ⟨H2, I2, q2⟩ => ?_)
  cases b with
  | true =>
    obtain ⟨N, hN, q2⟩ := q2
    rw [if_pos rfl]
    refine wpAny_passesOwn hp (thn (hb pins s2 σ1 H2 _ I2 q2) fun f s3 q3 => ?_)
    cases f with
    | next =>
      obtain ⟨σ3, H3, I3, n3⟩ := q3
      obtain ⟨m', hm, w3⟩ := hN σ3 H3 n3
      exact ⟨m', hm, σ3, H3, I3, w3⟩
    | cont =>
      obtain ⟨σ3, H3, I3, n3⟩ := q3
      obtain ⟨m', hm, w3⟩ := hN σ3 H3 n3
      exact ⟨m', hm, σ3, H3, I3, w3⟩
    | brk => exact q3
    | ret v => exact q3
  | false =>
    rw [if_neg Bool.false_ne_true]
    exact wpAny_execs_nil ⟨σ1, H2, I2, q2⟩
end
structure It where
  go : Nat → Hp → Prop
  yld : Nat → Hp → V → Hp → Prop
  stop : Nat → Hp → Prop
def FpOk (X : Cx) (pins : List (Addr × Obj)) (H : Hp) (b : Addr) : Prop :=
  H b = none ∧ b ≠ X.env.locals ∧ b ∉ X.fs ∧ (b ∈ X.ex ∨ X.s_0.heap.objs.size ≤ b) ∧ (∀ x c, X.env.cells.lookup x = some c → c ≠ b) ∧ ∀ p ∈ X.pn ++ pins, p.1 ≠ b
theorem Inv.fpOk {X : Cx} {pins : List (Addr × Obj)} {σ : St} {H H' : Hp} {s : Shared} {b : Addr} (I : Inv X pins σ H s) (hb : s.heap.objs.size ≤ b) (hn : H' b = none) : FpOk X pins H' b := by
  refine ⟨hn, Nat.ne_of_gt (Nat.lt_of_lt_of_le I.lt hb), I.nofs hb, .inr (Nat.le_trans I.sz hb), fun x c e z => ?_, fun p hp z => ?_⟩
  · obtain ⟨v, q⟩ := I.cell x c e
    exact absurd (Nat.lt_of_lt_of_le q.lt (by rw [z]; exact hb)) (Nat.lt_irrefl _)
  · exact absurd (Nat.lt_of_lt_of_le (Heap.lt_size (I.pin p hp).1) (by rw [z]; exact hb)) (Nat.lt_irrefl _)
structure Turn (P : Program) (w : World) (K : PySem.W.Frag) (tg : Expr) (J : It) (fp : List Addr) (it : Addr) (tn : Nat → Heap → Prop) : Prop where
  mem : it ∈ fp
  obj : ∀ i h, tn i h → ∀ b ∈ fp, ∃ o, h.get? b = some o ∧ ∀ v, o.data ≠ .cell v
  keep : ∀ i h h', tn i h → (∀ b ∈ fp, ∀ o, h.get? b = some o → h'.get? b = some o) → tn i h'
  item : ∀ (X : Cx), X.prog = P → X.w = w → X.K = K → X.calm = true → ∀ (i : Nat) (pins : List (Addr × Obj)) (s : Shared) (σ : St) (H : Hp) (E : Value → Shared → Prop), Inv X pins σ H s → (∀ b ∈ fp, FpOk X pins H b) → tn i s.heap → J.go i H →
    wpAny (model P w) X.A (pyNext (.ref it)) (fun r s1 => ∃ u, r = some u ∧
      wpAny (model P w) X.A (letOwnedTupleGo tg (.ref it) u) (fun _ s2 => ∃ x H', Inv X pins σ H' s2 ∧ RelV x u ∧ J.yld i H x H' ∧ tn (i + 1) s2.heap ∧ ∀ b ∈ fp, H' b = none) E s1) E s
  done : ∀ (X : Cx), X.prog = P → X.w = w → X.K = K → X.calm = true → ∀ (i : Nat) (pins : List (Addr × Obj)) (s : Shared) (σ : St) (H : Hp) (E : Value → Shared → Prop), Inv X pins σ H s → (∀ b ∈ fp, FpOk X pins H b) → tn i s.heap → J.stop i H →
    wpAny (model P w) X.A (pyNext (.ref it)) (fun r s1 => r = none ∧ Inv X pins σ H s1) E s
  self : ∀ (A : Around) (i : Nat) (s : Shared) (Q : Value → Shared → Prop) (E : Value → Shared → Prop), tn i s.heap → Q (.ref it) s → wpAny (model P w) A (pyIter (.ref it)) Q E s
abbrev TI := St → Hp → (It → Hp → Prop) → Prop
def PIE (X : Cx) (pins : List (Addr × Obj)) (σ : St) (tg : Expr) (R : It → Hp → Prop) (itv : Value) (s2 : Shared) : Prop :=
  ∃ (it : Addr) (fp : List Addr) (tn : Nat → Heap → Prop) (J : It) (H' : Hp), itv = .ref it ∧ Inv X pins σ H' s2 ∧ Turn X.prog X.w X.K tg J fp it tn ∧ tn 0 s2.heap ∧ (∀ b ∈ fp, FpOk X pins H' b) ∧ R J H'
def PI (X : Cx) (tg iter : Expr) (wi : TI) : Prop :=
  ∀ (pins : List (Addr × Obj)) (s : Shared) (σ : St) (H : Hp) (R : It → Hp → Prop), Inv X pins σ H s → wi σ H R →
    wpAny (model X.prog X.w) X.A (eval iter X.env) (fun v s1 => wpAny (model X.prog X.w) X.A (pyIter v) (PIE X pins σ tg R) X.xe s1) X.xe s

theorem go_of {M : Model} {A : Around} {E : Value → Shared → Prop} {s : Shared} {tg : Expr} {it : Addr} {u : Value} {o : Obj} {n : String} {vs : Array Value} {Q : Unit → Shared → Prop} (ho : s.heap.get? it = some o) (hc : o.cls = .type n) (hd : o.data = .fields vs)
    (hn : ["enumerate", "zip", "dict_itemiterator", "dict_reverseitemiterator", "odict_iterator", "itertools.zip_longest", "itertools.pairwise"].contains n = false) (hQ : Q () s) : wpAny M A (letOwnedTupleGo tg (.ref it) u) Q E s := by
  unfold letOwnedTupleGo
  cases tg <;> first
    | exact wpAny_pure hQ
    | (cases u <;> first
        | exact wpAny_pure hQ
        | (refine wpAny_bind (wpAny_load ho ?_)
           rw [hc, hd]
           show wpAny M A (if (["enumerate", "zip", "dict_itemiterator", "dict_reverseitemiterator", "odict_iterator", "itertools.zip_longest", "itertools.pairwise"].contains n && vs[0]? == some (rawInt _)) = true then _ else _) Q E s
           rw [if_neg (by intro h; rw [hn, Bool.false_and] at h; cases h)]
           exact wpAny_pure hQ))

def Itl (K : PySem.W.Frag) (a : Addr) : It :=
  ⟨fun i H => ∃ xs x, SqL K H a xs ∧ xs[i]? = some x, fun i H x H' => H' = H ∧ ∀ xs, SqL K H a xs → xs[i]? = some x, fun i H => ∃ xs, SqL K H a xs ∧ xs.length ≤ i⟩
def Itr (lo : Int) (n : Nat) : It := ⟨fun i _ => i < n, fun i H x H' => H' = H ∧ x = .int (lo + i), fun i _ => n ≤ i⟩
theorem turn_list {P : Program} {w : World} {K : PySem.W.Frag} {tg : Expr} (a it : Addr) : Turn P w K tg (Itl K a) [it] it (fun i h => h.IsListIter it a i) where
  mem := by simp
  obj := fun i h st b hb => by
    have e : b = it := by simpa using hb
    subst e
    obtain ⟨o, e, c, d⟩ := st
    exact ⟨o, e, fun v z => by rw [d] at z; cases z⟩
  keep := fun i h h' st k => st.at fun o e => k it (by simp) o e
  item := by
    intro X hP hw hK hc i pins s σ H E I hf st hg
    subst hP hw hK
    obtain ⟨xs, x, hq, hx⟩ := hg
    obtain ⟨its, rv, p, hz⟩ := I.list hq
    obtain ⟨u, hu, ru⟩ := rv.get hx
    obtain ⟨f0, f1, f2, f3, f4, f5⟩ := hf it (by simp)
    refine wpAny_pyNext_list_item st p.isList (x := u) (by simpa using hu) fun h' st' sb => ?_
    have I1 : Inv X pins σ H { s with heap := h' } := I.turned (t' := s.toks) (fun b o hb e => (sb.2 b hb).trans e) f0 f1 f3 f4 f5
    obtain ⟨o, e, c, d⟩ := id st'
    exact ⟨u, rfl, go_of (s := { s with heap := h' }) e c d (by decide) ⟨x, H, I1, ru, ⟨rfl, fun ys hy => by rw [I.list_inj hy hq]; exact hx⟩, st', fun b hb => (hf b hb).1⟩⟩
  done := by
    intro X hP hw hK hc i pins s σ H E I hf st hg
    subst hP hw hK
    obtain ⟨xs, hq, hx⟩ := hg
    obtain ⟨its, rv, p, hz⟩ := I.list hq
    obtain ⟨f0, f1, f2, f3, f4, f5⟩ := hf it (by simp)
    have hl := rv.length
    exact wpAny_pyNext_list_end (I.ok.hd hc) st p.isList (by simp; omega) fun h' eb => ⟨rfl, I.turned (t' := s.toks) (fun b o hb e => eb b o hb e) f0 f1 f3 f4 f5⟩
  self := fun _ _ _ _ _ st h => wpAny_pyIter_listiter st h
theorem turn_range {P : Program} {w : World} {K : PySem.W.Frag} {tg : Expr} (it : Addr) (lo : Int) (n : Nat) : Turn P w K tg (Itr lo n) [it] it (fun i h => IsRangeIter h it (lo + (i : Nat) * 1) ((n : Int) - (i : Nat)) 1) where
  mem := by simp
  obj := fun i h st b hb => by
    have e : b = it := by simpa using hb
    subst e
    exact ⟨_, st, fun v z => by
      have z' : Data.fields _ = Data.cell v := z
      cases z'⟩
  keep := fun i h h' st k => k it (by simp) _ st
  item := by
    intro X hP hw hK hc i pins s σ H E I hf st hg
    subst hP hw hK
    obtain ⟨f0, f1, f2, f3, f4, f5⟩ := hf it (by simp)
    have W := Walks.range (prog := X.prog) (w := X.w) (I.ok.hd hc) it lo 1 n
    refine W.item i s _ _ hg st fun v h' tk hv st' kk => ?_
    obtain ⟨t, rfl⟩ := hv
    have I1 : Inv X pins σ H { s with heap := h', toks := tk } := I.turned (fun b o hb e => kk b o (by simpa using hb) e) f0 f1 f3 f4 f5
    refine ⟨_, rfl, go_of (s := { s with heap := h', toks := tk }) (n := "range_iterator") st' rfl rfl (by decide) ⟨.int (lo + i), H, I1, ⟨t, ?_⟩, ⟨rfl, rfl⟩, st', fun b hb => (hf b hb).1⟩⟩
    rw [Int.mul_one]
  done := by
    intro X hP hw hK hc i pins s σ H E I hf st hg
    subst hP hw hK
    obtain ⟨f0, f1, f2, f3, f4, f5⟩ := hf it (by simp)
    exact wpAny_pyNext_range_end (I.ok.hd hc) st (by have : n ≤ i := hg; omega) fun h' eb => ⟨rfl, I.turned (t' := s.toks) (fun b o hb e => eb b o hb e) f0 f1 f3 f4 f5⟩
  self := fun _ _ _ _ _ st h => wpAny_pyIter_rangeiter st h
end L2
namespace L2
open PySem PySem.Spec PyProof.Rows
section
variable {X : Cx} {tg : Expr}
def iList (K : PySem.W.Frag) (tl : TE) : TI := fun σ H R => tl σ H fun x H1 => ∃ a, x = .ref a ∧ (∃ xs, SqL K H1 a xs) ∧ R (Itl K a) H1
theorem pi_list {l : Expr} {tl : TE} (hl : PE X l tl) : PI X tg l (iList X.K tl) := by
  intro pins s σ H R I h
  refine thn (hl pins s σ H _ I h) fun v s1 ⟨x, H1, I1, r1, q1⟩ => ?_
  obtain ⟨a, e, ⟨xs, hq⟩, q⟩ := q1
  subst e
  cases r1
  obtain ⟨its, rv, p, hz⟩ := I1.list hq
  refine wpAny_pyIter_list p.isList ?_
  refine ⟨s1.heap.objs.size, [s1.heap.objs.size], _, _, H1, rfl, I1.kept (t' := s1.toks) fun b o e => Heap.get?_push_of_some _ e, turn_list a _, ⟨_, Heap.get?_push_size _ rfl, rfl, rfl⟩, fun b hb => ?_, q⟩
  have e : b = s1.heap.objs.size := by simpa using hb
  subst e
  exact I1.fpOk (Nat.le_refl _) (I1.hok.fresh (Nat.le_refl _))
theorem range_it {pins : List (Addr × Obj)} {σ : St} {H : Hp} {s : Shared} {R : It → Hp → Prop} {E : Value → Shared → Prop} {lo hi : Int} {t u v : Tok} {tk : Nat} (I : Inv X pins σ H s) (h1 : -(2 ^ 62) ≤ lo) (h2 : lo < 2 ^ 62) (h3 : -(2 ^ 62) ≤ hi) (h4 : hi < 2 ^ 62)
    (q : R (Itr lo (hi - lo).toNat) H) : wpAny (model X.prog X.w) X.A (pyIter (.ref s.heap.objs.size)) (PIE X pins σ tg R) E { s with heap := s.heap.push { cls := .type "range", data := .fields #[.int lo t, .int hi u, .int 1 v] }, toks := tk } := by
  refine wpAny_pyIter_range (IsRange.new ..) (small_one h1 h2 h3 h4) ?_
  have I1 : Inv X pins σ H { s with heap := s.heap.push { cls := .type "range", data := .fields #[.int lo t, .int hi u, .int 1 v] }, toks := tk } := I.kept fun b o e => Heap.get?_push_of_some _ e
  refine ⟨(s.heap.push { cls := .type "range", data := .fields #[.int lo t, .int hi u, .int 1 v] }).objs.size, [(s.heap.push { cls := .type "range", data := .fields #[.int lo t, .int hi u, .int 1 v] }).objs.size], _, _, H, rfl,
    I1.kept (t' := tk) fun b o e => Heap.get?_push_of_some _ e, turn_range _ lo (hi - lo).toNat, ?_, fun b hb => ?_, q⟩
  · have e1 : lo + ((0 : Nat) : Int) * 1 = lo := by simp
    have e2 : (((hi - lo).toNat : Nat) : Int) - ((0 : Nat) : Int) = Builtin.Range.rangeSize lo hi 1 := by rw [rangeSize_one]; split <;> omega
    show IsRangeIter _ _ (lo + ((0 : Nat) : Int) * 1) ((((hi - lo).toNat : Nat) : Int) - ((0 : Nat) : Int)) 1
    rw [e1, e2]
    exact Heap.get?_push_size _ rfl
  · have e : b = (s.heap.push { cls := .type "range", data := .fields #[.int lo t, .int hi u, .int 1 v] }).objs.size := by simpa using hb
    subst e
    exact I1.fpOk (Nat.le_refl _) (I1.hok.fresh (Nat.le_refl _))
def iRng1 (ta : TA) : TI := fun σ H R => ta σ H fun vs H1 => ∃ j : Int, vs = [.int j] ∧ -(2 ^ 62) ≤ j ∧ j < 2 ^ 62 ∧ R (Itr 0 j.toNat) H1
def iRng2 (ta : TA) : TI := fun σ H R => ta σ H fun vs H1 => ∃ i j : Int, vs = [.int i, .int j] ∧ (-(2 ^ 62) ≤ i ∧ i < 2 ^ 62 ∧ -(2 ^ 62) ≤ j ∧ j < 2 ^ 62) ∧ R (Itr i (j - i).toNat) H1
theorem pi_range1 {a : Expr} {ta : TA} {p pos : Pos} (hg : Gl X "range") (hm : X.mg "range" = none) (ha : PA X [a] ta) (hs : starEach [a] X.env = [(false, eval a X.env)] := by rfl) : PI X tg (.Call (.Name "range" p) [a] [] pos) (iRng1 ta) := by
  intro pins s σ H R I h
  refine Call_ (ld_blt I hg hm boot_range (PyProof.Rows.callWith_type1 (thn (ha pos pins s σ H _ I h) fun us s1 ⟨vs, H1, I1, r1, q1⟩ => ?_) hs rfl))
  obtain ⟨j, e, q1, q2, q⟩ := q1
  subst e
  cases r1 with
  | cons r rr =>
    cases rr
    obtain ⟨t, rfl⟩ := r
    exact call_range_1 (range_it I1 (by omega) (by omega) q1 q2 (by simpa using q))
theorem pi_range2 {a b : Expr} {ta : TA} {p pos : Pos} (hg : Gl X "range") (hm : X.mg "range" = none) (ha : PA X [a, b] ta) (hs : starEach [a, b] X.env = [(false, eval a X.env), (false, eval b X.env)] := by rfl) (hs2 : starEach [b] X.env = [(false, eval b X.env)] := by rfl) :
    PI X tg (.Call (.Name "range" p) [a, b] [] pos) (iRng2 ta) := by
  intro pins s σ H R I h
  refine Call_ (ld_blt I hg hm boot_range (PyProof.Rows.callWith_type1 (thn (ha pos pins s σ H _ I h) fun us s1 ⟨vs, H1, I1, r1, q1⟩ => ?_) (by rw [hs, hs2]) (by rw [hs2]; rfl)))
  obtain ⟨i, j, e, ⟨q1, q2, q3, q4⟩, q⟩ := q1
  subst e
  cases r1 with
  | cons r rr =>
    cases rr with
    | cons r' rr =>
      cases rr
      obtain ⟨t, rfl⟩ := r
      obtain ⟨t', rfl⟩ := r'
      exact call_range_2 (range_it I1 q1 q2 q3 q4 q)

def tFor (wi : TI) (g : TG) (tb : TS) : TS := fun D σ H => wi σ H fun J H1 => ∃ W : Nat → Nat → St → Hp → Prop, (∃ m, W 0 m σ H1) ∧ ∀ i m σ H, W i m σ H →
  (J.stop i H ∧ D.nx σ H) ∨ (J.go i H ∧ ∃ N : St → Hp → Prop, (∀ σ' H', N σ' H' → ∃ m', m' < m ∧ W (i + 1) m' σ' H') ∧ ∀ x H', J.yld i H x H' → g x σ H' fun σ2 H2 => tb { D with nx := N, ct := N, bk := D.nx } σ2 H2)
def pinsAt (fp : List Addr) (h : Heap) : List (Addr × Obj) := fp.filterMap fun b => (h.get? b).map fun o => (b, o)
theorem mem_pinsAt {fp : List Addr} {h : Heap} {b : Addr} {o : Obj} (hb : b ∈ fp) (e : h.get? b = some o) : (b, o) ∈ pinsAt fp h := List.mem_filterMap.mpr ⟨b, hb, by rw [e]; rfl⟩
theorem of_pinsAt {fp : List Addr} {h : Heap} {p : Addr × Obj} (hp : p ∈ pinsAt fp h) : p.1 ∈ fp ∧ h.get? p.1 = some p.2 := by
  obtain ⟨b, hb, e⟩ := List.mem_filterMap.mp hp
  cases q : h.get? b with
  | none => rw [q] at e; cases e
  | some o =>
    rw [q] at e
    have e' : (b, o) = p := Option.some.inj e
    subst e'
    exact ⟨hb, q⟩
theorem Inv.pinned {pins : List (Addr × Obj)} {σ : St} {H : Hp} {s : Shared} {fp : List Addr} (I : Inv X pins σ H s) (hf : ∀ b ∈ fp, FpOk X pins H b) (ho : ∀ b ∈ fp, ∃ o, s.heap.get? b = some o ∧ ∀ v, o.data ≠ .cell v) : Inv X (pins ++ pinsAt fp s.heap) σ H s :=
  I.pins_of fun p hp => (List.mem_append.mp hp).elim (fun z => I.pin p (List.mem_append_right _ z)) fun z => by
    obtain ⟨hb, e⟩ := of_pinsAt z
    obtain ⟨f0, f1, f2, _⟩ := hf p.1 hb
    obtain ⟨o, e', d⟩ := ho p.1 hb
    rw [e] at e'; cases e'
    exact ⟨e, f0, f1, f2, d⟩
theorem Inv.unpinned {pins pl : List (Addr × Obj)} {σ : St} {H : Hp} {s : Shared} (I : Inv X (pins ++ pl) σ H s) : Inv X pins σ H s := I.pins_of fun p hp => I.pin p (List.mem_append_right _ (List.mem_append_left _ hp))
theorem ps_for {iter : Expr} {body : List Stmt} {wi : TI} {g : TG} {tb : TS} {pos : Pos} (hp : PassesOwn (model X.prog X.w) X.A X.env X.xe) (hc : X.calm = true) (hi : PI X tg iter wi) (hg : PG X tg g) (hb : PSs X body tb)
    (hs : ∀ x, foldedSetIterable iter X.env x = pure x := by intro _; rfl) : PS X (.For tg iter body [] pos) (tFor wi g tb) := by
  intro pins s σ H D I h
  refine wpAny_For (thn (hi pins s σ H _ I h) fun v s1 h1 => thn h1 fun itv s2 h2 => ?_) hs
  obtain ⟨it, fp, tn, J, H2, e, I2, T, st2, f2, W, ⟨m0, w0⟩, turn⟩ := h2
  subst e
  -- what stays true of the iterator's objects through the loop
  have stat : ∀ {H' : Hp}, (∀ b ∈ fp, H' b = none) → ∀ b ∈ fp, FpOk X pins H' b := fun hn b hb => ⟨hn b hb, (f2 b hb).2⟩
  refine codeAny_forLoop_any (fun n s' => ∃ i σ' H', Inv X pins σ' H' s' ∧ tn i s'.heap ∧ (∀ b ∈ fp, H' b = none) ∧ W i n σ' H') ?_ m0 ⟨0, σ, H2, I2, st2, fun b hb => (f2 b hb).1, w0⟩
  rintro n s3 ⟨i, σ3, H3, I3, st3, fr3, w3⟩
  rcases turn i n σ3 H3 w3 with ⟨stop, qn⟩ | ⟨go, N, hN, step⟩
  · refine wpAny_passesOwn hp (thn (T.done X rfl rfl rfl hc i pins s3 σ3 H3 X.xe I3 (stat fr3) st3 stop) fun r s4 ⟨hr, I4⟩ => ?_)
    subst hr
    exact wpAny_execs_nil ⟨σ3, H3, I4, qn⟩
  · refine wpAny_passesOwn hp (thn (T.item X rfl rfl rfl hc i pins s3 σ3 H3 X.xe I3 (stat fr3) st3 go) fun r s4 ⟨u, hr, h4⟩ => ?_)
    subst hr
    refine wpAny_passesOwn hp (thn h4 fun _ s5 ⟨x, H5, I5, r5, y5, st5, fr5⟩ => ?_)
    have I5' := I5.pinned (stat fr5) (T.obj _ _ st5)
    refine wpAny_passesOwn hp (thn (hg _ s5 σ3 H5 x u _ I5' r5 (step x H5 y5)) fun _ s6 ⟨σ6, H6, I6, q6⟩ => ?_)
    refine wpAny_passesOwn hp (thn (hb _ s6 σ6 H6 _ I6 q6) fun f s7 q7 => ?_)
    have again : ∀ {σ7 : St} {H7 : Hp}, Inv X (pins ++ pinsAt fp s5.heap) σ7 H7 s7 → N σ7 H7 → ∃ m, m < n ∧ ∃ i σ' H', Inv X pins σ' H' s7 ∧ tn i s7.heap ∧ (∀ b ∈ fp, H' b = none) ∧ W i m σ' H' := fun {σ7 H7} I7 n7 => by
      obtain ⟨m', hm, w7⟩ := hN σ7 H7 n7
      refine ⟨m', hm, i + 1, σ7, H7, I7.unpinned, T.keep _ _ _ st5 fun b hb o e => (I7.pin (b, o) (List.mem_append_right _ (List.mem_append_right _ (mem_pinsAt hb e)))).1, fun b hb => ?_, w7⟩
      obtain ⟨o, e, d⟩ := T.obj _ _ st5 b hb
      exact (I7.pin (b, o) (List.mem_append_right _ (List.mem_append_right _ (mem_pinsAt hb e)))).2.1
    cases f with
    | next => obtain ⟨σ7, H7, I7, n7⟩ := q7; exact again I7 n7
    | cont => obtain ⟨σ7, H7, I7, n7⟩ := q7; exact again I7 n7
    | brk => obtain ⟨σ7, H7, I7, q7⟩ := q7; exact ⟨σ7, H7, I7.unpinned, q7⟩
    | ret v => obtain ⟨x7, σ7, H7, I7, r7, q7⟩ := q7; exact ⟨x7, σ7, H7, I7.unpinned, r7, q7⟩
end
theorem for_list {K : PySem.W.Frag} {a : Addr} {xs : List V} {g : TG} {tb : TS} {D : Ends} {σ : St} {H : Hp} (Pv : Nat → St → Hp → Prop) (h0 : Pv 0 σ H) (hl : ∀ i σ H, i ≤ xs.length → Pv i σ H → SqL K H a xs)
    (hs : ∀ i x σ H, xs[i]? = some x → Pv i σ H → g x σ H fun σ2 H2 => tb { D with nx := Pv (i + 1), ct := Pv (i + 1), bk := D.nx } σ2 H2) (hd : ∀ σ H, Pv xs.length σ H → D.nx σ H) :
    ∃ W : Nat → Nat → St → Hp → Prop, (∃ m, W 0 m σ H) ∧ ∀ i m σ H, W i m σ H →
      ((Itl K a).stop i H ∧ D.nx σ H) ∨ ((Itl K a).go i H ∧ ∃ N : St → Hp → Prop, (∀ σ' H', N σ' H' → ∃ m', m' < m ∧ W (i + 1) m' σ' H') ∧ ∀ x H', (Itl K a).yld i H x H' → g x σ H' fun σ2 H2 => tb { D with nx := N, ct := N, bk := D.nx } σ2 H2) := by
  refine ⟨fun i m σ H => m = xs.length - i ∧ i ≤ xs.length ∧ Pv i σ H, ⟨xs.length, by simp, Nat.zero_le _, h0⟩, ?_⟩
  rintro i m σ H ⟨rfl, hi, p⟩
  have q := hl i σ H hi p
  by_cases hlt : i < xs.length
  · refine .inr ⟨⟨xs, xs[i], q, by simp [hlt]⟩, Pv (i + 1), fun σ' H' p' => ⟨xs.length - (i + 1), by omega, rfl, hlt, p'⟩, fun x H' y => ?_⟩
    obtain ⟨e, y⟩ := y
    subst e
    exact hs i x σ _ (y xs q) p
  · have e : i = xs.length := by omega
    subst e
    exact .inl ⟨⟨xs, q, Nat.le_refl _⟩, hd σ H p⟩
theorem for_range {lo : Int} {n : Nat} {g : TG} {tb : TS} {D : Ends} {σ : St} {H : Hp} (Pv : Nat → St → Hp → Prop) (h0 : Pv 0 σ H)
    (hs : ∀ i σ H, i < n → Pv i σ H → g (.int (lo + i)) σ H fun σ2 H2 => tb { D with nx := Pv (i + 1), ct := Pv (i + 1), bk := D.nx } σ2 H2) (hd : ∀ σ H, Pv n σ H → D.nx σ H) :
    ∃ W : Nat → Nat → St → Hp → Prop, (∃ m, W 0 m σ H) ∧ ∀ i m σ H, W i m σ H →
      ((Itr lo n).stop i H ∧ D.nx σ H) ∨ ((Itr lo n).go i H ∧ ∃ N : St → Hp → Prop, (∀ σ' H', N σ' H' → ∃ m', m' < m ∧ W (i + 1) m' σ' H') ∧ ∀ x H', (Itr lo n).yld i H x H' → g x σ H' fun σ2 H2 => tb { D with nx := N, ct := N, bk := D.nx } σ2 H2) := by
  refine ⟨fun i m σ H => m = n - i ∧ i ≤ n ∧ Pv i σ H, ⟨n, by simp, Nat.zero_le _, h0⟩, ?_⟩
  rintro i m σ H ⟨rfl, hi, p⟩
  by_cases hlt : i < n
  · refine .inr ⟨hlt, Pv (i + 1), fun σ' H' p' => ⟨n - (i + 1), by omega, rfl, hlt, p'⟩, fun x H' y => ?_⟩
    obtain ⟨e, y⟩ := y
    subst e y
    exact hs i σ _ hlt p
  · have e : i = n := by omega
    subst e
    exact .inl ⟨Nat.le_refl _, hd σ H p⟩
end L2
namespace L2
open PySem PySem.Spec PyProof.Rows
abbrev R2 := V → V → Hp → VK → Prop
def OpR (X : Cx) (f : Value → Value → Sem Value) (r : R2) : Prop :=
  ∀ (pins : List (Addr × Obj)) (s : Shared) (σ : St) (H : Hp) (x y : V) (v u : Value) (Q : VK), Inv X pins σ H s → RelV x v → RelV y u → r x y H Q →
    wpAny (model X.prog X.w) X.A (f v u) (EP X pins σ Q) X.xe s
def CallR (X : Cx) (f : Value) (r : List V → Hp → VK → Prop) : Prop :=
  ∀ (pins : List (Addr × Obj)) (s : Shared) (σ : St) (H : Hp) (xs : List V) (us : List Value) (Q : VK), Inv X pins σ H s → Vals xs us → r xs H Q →
    wpAny (model X.prog X.w) X.A (call f us) (EP X pins σ Q) X.xe s
def tOp (r : R2) (ta tb : TE) : TE := fun σ H Q => ta σ H fun x H1 => tb σ H1 fun y H2 => r x y H2 Q
def rI (C : Int → Int → Prop) (g : Int → Int → V) : R2 := fun x y H Q => ∃ i j, x = .int i ∧ y = .int j ∧ C i j ∧ Q (g i j) H
def rI0 (g : Int → Int → V) : R2 := fun x y H Q => ∃ i j, x = .int i ∧ y = .int j ∧ Q (g i j) H
section
variable {X : Cx} {a b c : Expr} {ta tb tc : TE} {pos : Pos}
theorem binT (ha : PE X a ta) (hb : PE X b tb) {pins : List (Addr × Obj)} {s : Shared} {σ : St} {H : Hp} {R : V → V → Hp → Prop} (I : Inv X pins σ H s)
    (h : ta σ H fun x H1 => tb σ H1 fun y H2 => R x y H2) {Q : Value → Shared → Prop} {f : Value → Value → Sem Value}
    (hf : ∀ v u s2 x y H2, Inv X pins σ H2 s2 → RelV x v → RelV y u → R x y H2 → wpAny (model X.prog X.w) X.A (f v u) Q X.xe s2) :
    wpAny (model X.prog X.w) X.A (eval a X.env) (fun v s₁ => wpAny (model X.prog X.w) X.A (eval b X.env) (fun u s₂ => wpAny (model X.prog X.w) X.A (f v u) Q X.xe s₂) X.xe s₁) X.xe s := by
  refine thn (ha pins s σ H _ I h) fun v s1 ⟨x, H1, I1, r1, q1⟩ => ?_
  refine thn (hb pins s1 σ H1 _ I1 q1) fun u s2 ⟨y, H2, I2, r2, q2⟩ => ?_
  exact hf v u s2 x y H2 I2 r1 r2 q2

theorem pe_op {op : Operator} {r : R2} (ho : OpR X (binaryOp op) r) (ha : PE X a ta) (hb : PE X b tb) : PE X (.BinOp a op b pos) (tOp r ta tb) := by
  intro pins s σ H Q I h
  exact wpAny_BinOp (binT ha hb I h fun v u s2 x y H2 I2 rx ry q => ho pins s2 σ H2 x y v u Q I2 rx ry q)
theorem opI {f : Value → Value → Sem Value} {C : Int → Int → Prop} {g : Int → Int → Int}
    (rule : ∀ (i j : Int) (t u : Tok) (s : Shared) (Q : Value → Shared → Prop) (E : Value → Shared → Prop), C i j → Q (.int (g i j) s.toks) { s with toks := s.toks + 1 } → wpAny (model X.prog X.w) X.A (f (.int i t) (.int j u)) Q E s) :
    OpR X f (rI C fun i j => .int (g i j)) := by
  intro pins s σ H x y v u Q I rx ry h
  obtain ⟨i, j, rfl, rfl, hc, q⟩ := h
  obtain ⟨t, rfl⟩ := rx
  obtain ⟨t', rfl⟩ := ry
  exact rule i j t t' s _ _ hc ⟨.int (g i j), H, I.tok _, ⟨_, rfl⟩, q⟩
theorem opI0 {f : Value → Value → Sem Value} {g : Int → Int → Int}
    (rule : ∀ (i j : Int) (t u : Tok) (s : Shared) (Q : Value → Shared → Prop) (E : Value → Shared → Prop), Q (.int (g i j) s.toks) { s with toks := s.toks + 1 } → wpAny (model X.prog X.w) X.A (f (.int i t) (.int j u)) Q E s) :
    OpR X f (rI0 fun i j => .int (g i j)) := by
  intro pins s σ H x y v u Q I rx ry h
  obtain ⟨i, j, rfl, rfl, q⟩ := h
  obtain ⟨t, rfl⟩ := rx
  obtain ⟨t', rfl⟩ := ry
  exact rule i j t t' s _ _ ⟨.int (g i j), H, I.tok _, ⟨_, rfl⟩, q⟩
theorem opB0 {f : Value → Value → Sem Value} {g : Int → Int → Bool}
    (rule : ∀ (i j : Int) (t u : Tok) (s : Shared) (Q : Value → Shared → Prop) (E : Value → Shared → Prop), Q (.bool (g i j)) s → wpAny (model X.prog X.w) X.A (f (.int i t) (.int j u)) Q E s) :
    OpR X f (rI0 fun i j => .bl (g i j)) := by
  intro pins s σ H x y v u Q I rx ry h
  obtain ⟨i, j, rfl, rfl, q⟩ := h
  obtain ⟨t, rfl⟩ := rx
  obtain ⟨t', rfl⟩ := ry
  exact rule i j t t' s _ _ ⟨.bl (g i j), H, I, rfl, q⟩

def CMul (i j : Int) : Prop := (-(2 ^ 64) < i ∧ i < 2 ^ 64) ∨ (-(2 ^ 64) < j ∧ j < 2 ^ 64)
theorem CMul.ok {i j : Int} (h : CMul i j) : IntMulOk i j := by
  rcases h with ⟨h1, h2⟩ | ⟨h1, h2⟩
  · exact .of_left (intBits_le_64 h1 h2)
  · exact .of_right (intBits_le_64 h1 h2)
theorem op_add : OpR X (binaryOp .Add) (rI0 fun i j => .int (i + j)) := opI0 fun _ _ _ _ _ _ _ q => add_int q
theorem op_sub : OpR X (binaryOp .Sub) (rI0 fun i j => .int (i - j)) := opI0 fun _ _ _ _ _ _ _ q => sub_int q
theorem op_mod : OpR X (binaryOp .Mod) (rI (fun _ j => 0 < j) fun i j => .int (i % j)) := opI fun i j _ _ _ _ _ hc q => by
  have h1 : (0 : Int) < j := hc
  exact mod_int' (by omega) (by rw [Int.fmod_eq_emod_of_nonneg i (by omega)]; exact q)
end
def scal : V → V → Bool
  | .non, .non => true | .non, .int _ => true | .int _, .non => true | .non, .bl _ => true | .bl _, .non => true | .non, .str _ => true | .str _, .non => true
  | .int _, .int _ => true | .bl _, .bl _ => true | .str _, .str _ => true | .byt _, .byt _ => true
  | .int _, .str _ => true | .str _, .int _ => true | .bl _, .str _ => true | .str _, .bl _ => true
  | _, _ => false
def rEq : R2 := fun x y H Q => scal x y = true ∧ Q (.bl (decide (x = y))) H
theorem dec_int {i j : Int} : decide (V.int i = V.int j) = (i == j) := by
  rw [Bool.eq_iff_iff]
  simp
theorem dec_bl {i j : Bool} : decide (V.bl i = V.bl j) = (i == j) := by
  rw [Bool.eq_iff_iff]
  simp
theorem dec_str {i j : Str} : decide (V.str i = V.str j) = (i == j) := by
  rw [Bool.eq_iff_iff]
  simp
theorem dec_byt {i j : Array UInt8} : decide (V.byt i = V.byt j) = (i.toList == j.toList) := by
  rw [Bool.eq_iff_iff]
  cases i
  cases j
  simp

section
variable {X : Cx} {a b c : Expr} {ta tb tc : TE} {pos : Pos}
theorem fin_bl {pins : List (Addr × Obj)} {σ : St} {H : Hp} {s : Shared} {Q : VK} {k k' : Bool} (I : Inv X pins σ H s) (q : Q (.bl k) H) (e : k = k') : EP X pins σ Q (.bool k') s := by
  subst e
  exact ⟨.bl k, H, I, rfl, q⟩
theorem op_eq : OpR X (compareOp .Eq) rEq := by
  intro pins s σ H x y v u Q I rx ry h
  obtain ⟨hs, q⟩ := h
  cases x with
  | non =>
    cases rx
    cases y with
    | non => cases ry; exact PySem.EqNone.eq_none_none (fin_bl I q (by simp))
    | bl j => cases ry; exact PySem.EqNone.eq_none_bool (fin_bl I q (by simp))
    | int j => obtain ⟨t', rfl⟩ := ry; exact PySem.EqNone.eq_none_int (fin_bl I q (by simp))
    | str j => obtain ⟨t', rfl⟩ := ry; exact PySem.EqNone.eq_none_str (fin_bl I q (by simp))
    | _ => exact absurd (show false = true from hs) Bool.false_ne_true
  | bl i =>
    cases rx
    cases y with
    | non => cases ry; exact PySem.EqNone.eq_bool_none (fin_bl I q (by simp))
    | bl j => cases ry; exact eq_bool (fin_bl I q dec_bl)
    | str j => obtain ⟨t', rfl⟩ := ry; exact PySem.EqMixed.eq_bool_str (fin_bl I q (by simp))
    | _ => exact absurd (show false = true from hs) Bool.false_ne_true
  | int i =>
    obtain ⟨t, rfl⟩ := rx
    cases y with
    | non => cases ry; exact PySem.EqNone.eq_int_none (fin_bl I q (by simp))
    | int j => obtain ⟨t', rfl⟩ := ry; exact eq_int (fin_bl I q dec_int)
    | str j => obtain ⟨t', rfl⟩ := ry; exact PySem.EqMixed.eq_int_str (fin_bl I q (by simp))
    | _ => exact absurd (show false = true from hs) Bool.false_ne_true
  | str i =>
    obtain ⟨t, rfl⟩ := rx
    cases y with
    | non => cases ry; exact PySem.EqNone.eq_str_none (fin_bl I q (by simp))
    | bl j => cases ry; exact PySem.EqMixed.eq_str_bool (fin_bl I q (by simp))
    | int j => obtain ⟨t', rfl⟩ := ry; exact PySem.EqMixed.eq_str_int (fin_bl I q (by simp))
    | str j => obtain ⟨t', rfl⟩ := ry; exact eq_str (fin_bl I q dec_str)
    | _ => exact absurd (show false = true from hs) Bool.false_ne_true
  | byt i =>
    obtain ⟨t, rfl⟩ := rx
    cases y with
    | byt j => obtain ⟨t', rfl⟩ := ry; exact PySem.W.eq_bytes (fin_bl I q dec_byt)
    | _ => exact absurd (show false = true from hs) Bool.false_ne_true
  | _ => cases y <;> exact absurd (show false = true from hs) Bool.false_ne_true
theorem op_lt : OpR X (compareOp .Lt) (rI0 fun i j => .bl (decide (i < j))) := opB0 fun _ _ _ _ _ _ _ q => lt_int q
theorem op_le : OpR X (compareOp .LtE) (rI0 fun i j => .bl (decide (i ≤ j))) := opB0 fun _ _ _ _ _ _ _ q => le_int q
theorem op_gt : OpR X (compareOp .Gt) (rI0 fun i j => .bl (decide (j < i))) := opB0 fun _ _ _ _ _ _ _ q => gt_int q
theorem op_ge : OpR X (compareOp .GtE) (rI0 fun i j => .bl (decide (j ≤ i))) := opB0 fun _ _ _ _ _ _ _ q => ge_int q
theorem nomark (b : Expr) {op : CmpOp} (h : op ≠ .In := by decide) (h2 : op ≠ .NotIn := by decide) : behindInMarks op b = false := by
  have e1 : (op == CmpOp.In) = false := by cases op <;> first | rfl | exact absurd rfl h
  have e2 : (op == CmpOp.NotIn) = false := by cases op <;> first | rfl | exact absurd rfl h2
  cases b <;> simp [behindInMarks, e1, e2]
theorem pe_cmpR {op : CmpOp} {r : R2} (ho : OpR X (compareOp op) r) (ha : PE X a ta) (hb : PE X b tb) (hm : behindInMarks op b = false) : PE X (.Compare a [op] [b] pos) (tOp r ta tb) := by
  intro pins s σ H Q I h
  exact wpAny_Compare1 (binT ha hb I h fun v u s2 x y H2 I2 rx ry q => ho pins s2 σ H2 x y v u Q I2 rx ry q) hm
def tTest (t : TE) : TT := fun σ H Q => t σ H fun x H' => ∃ k, x = .bl k ∧ Q k H'
theorem pt_cmpR {op : CmpOp} {r : R2} (ho : OpR X (compareOp op) r) (ha : PE X a ta) (hb : PE X b tb) (hm : behindInMarks op b = false) : PT X (.Compare a [op] [b] pos) (tTest (tOp r ta tb)) := by
  intro pins s σ H Q I h
  refine wpAny_isTrue_Compare1 (thn (ha pins s σ H _ I h) fun v s1 ⟨x, H1, I1, r1, q1⟩ => thn (hb pins s1 σ H1 _ I1 q1) fun u s2 ⟨y, H2, I2, r2, q2⟩ =>
    thn (ho pins s2 σ H2 x y v u _ I2 r1 r2 q2) fun c s3 ⟨z, H3, I3, r3, k, e, q3⟩ => ?_) hm
  subst e
  cases r3
  exact wpAny_truthy_bool ⟨H3, I3, q3⟩
theorem line63 : (sizeLine : Nat) < 2 ^ 63 := by rw [sizeLine_eq]; decide
theorem vals1 {x : V} {us : List Value} (r : Vals [x] us) : ∃ u, us = [u] ∧ RelV x u := by
  cases r with
  | cons r1 r2 => cases r2; exact ⟨_, rfl, r1⟩
theorem vals2 {x y : V} {us : List Value} (r : Vals [x, y] us) : ∃ u w', us = [u, w'] ∧ RelV x u ∧ RelV y w' := by
  cases r with
  | cons r1 r2 =>
    cases r2 with
    | cons r3 r4 => cases r4; exact ⟨_, _, rfl, r1, r3⟩
theorem call_min2 (hc : X.calm = true) : CallR X (.builtin "min") (fun xs H Q => ∃ i j, xs = [.int i, .int j] ∧ Q (.int (if j < i then j else i)) H) := by
  intro pins s σ H xs us Q I r h
  obtain ⟨i, j, rfl, q⟩ := h
  obtain ⟨u, w', rfl, ⟨t, rfl⟩, ⟨t', rfl⟩⟩ := vals2 r
  refine min_two_ints (I.ok.hd hc) fun h' tk k => ⟨_, H, I.kept k, ?_, q⟩
  by_cases hj : j < i
  · rw [if_pos hj, if_pos hj]; exact ⟨_, rfl⟩
  · rw [if_neg hj, if_neg hj]; exact ⟨_, rfl⟩
end
end L2
namespace L2
open PySem PySem.Spec PyProof.Rows
structure ObjM (h : Heap) (x dx C : Addr) (mA : Str → Option Value) : Prop where
  obj : h.get? x = some (PySem.W.instObj C dx)
  ns : h.Ns1 dx mA
  ne : dx ≠ x

theorem lookIn_ns {h : Heap} {dx : Addr} {mA : Str → Option Value} (n : h.Ns1 dx mA) : ∃ od, h.get? dx = some od ∧ ∀ name, PySem.W.lookIn name od = some (mA name) := by
  obtain ⟨o, es, ep, ho, hd, hk, _, hm⟩ := n
  refine ⟨o, ho, fun name => ?_⟩
  have e := hm name
  unfold nsFind findBy at e
  rw [← Array.find?_toList] at e
  unfold PySem.W.lookIn
  rw [hd]
  dsimp only
  split
  · rename_i y q
    rw [q] at e
    exact congrArg some e
  · rename_i q
    rw [q] at e
    have a : es.toList.any (·.refKey) = false := by
      rw [List.any_eq_false]
      intro y hy
      obtain ⟨z, t, hkey⟩ := hk y (Array.mem_toList_iff.mp hy)
      simp [DictEntry.refKey, hkey]
    have a' : ¬ es.toList.any (·.refKey) = true := by rw [a]; exact Bool.false_ne_true
    rw [if_neg a']
    exact congrArg some e

theorem ObjM.look {h : Heap} {x dx C : Addr} {mA : Str → Option Value} (I : ObjM h x dx C mA) : ∃ od, PySem.W.InstAt h x (PySem.W.instObj C dx) C (some od) ∧ ∀ name, PySem.W.lookIn name od = some (mA name) :=
  let ⟨od, ho, hl⟩ := lookIn_ns I.ns
  ⟨od, ⟨I.obj, rfl, rfl, ho⟩, hl⟩

section
variable {prog : Program} {w : World} {A : Around} {E : Value → Shared → Prop} {s : Shared} {K : PySem.W.Frag} {x dx C f : Addr} {mA : Str → Option Value} {name : Str} {v : Value}
theorem get_map {expr : Bool} {Q : Value → Shared → Prop} (X : K.In s.heap) (I : ObjM s.heap x dx C mA) (hg : PySem.W.plainGet K C name = true) (hh : PySem.W.hasDictIn K C = true)
    (ha : PySem.W.findIn K (.ref C) name = some none) (hv : mA name = some v) (hv' : PySem.W.handedIn v = true) (h : Q v { s with toks := s.toks + 1 }) :
    wpAny (model prog w) A (getAttr (.ref x) name expr) Q E s := by
  obtain ⟨od, J, hl⟩ := I.look
  exact PySem.W.get_value X J (PySem.W.plainGet_of hg).1 (PySem.W.findObj_own hh ha rfl (by rw [hl, hv])) hv' h

theorem set_map {ns : List Str} {Q : Unit → Shared → Prop} (X : K.In s.heap) (I : ObjM s.heap x dx C mA)
    (hs : PySem.W.findIn K (.ref C) "__setattr__" = some (some (.builtin "object.__setattr__"))) (hp : PySem.W.plainOver K C = true) (ht : PySem.W.takerIn K C name = some none) (hh : PySem.W.hasDictIn K C = true)
    (hw : PySem.Within mA ns) (hsz : ns.length ≤ sizeLine)
    (h : ∀ h', ObjM h' x dx C (fun y => if y = name then some v else mA y) → Heap.SameBut dx s.heap h' → Q () { s with heap := h', toks := s.toks + 2 }) :
    wpAny (model prog w) A (setAttr (.ref x) name v) Q E s := by
  obtain ⟨od, J, hl⟩ := I.look
  refine PySem.W.set_plain X J hs (PySem.W.osa_open (s := { s with toks := s.toks + 1 }) (r := none) X J hp ht fun b => ?_)
  obtain ⟨cd, hc, hd'⟩ := PySem.W.any_some hh
  have hx : s.heap.get? x = some ⟨.ref C, some dx, .plain, #[]⟩ := I.obj
  refine wpAny_bind (wpAny_pure (wpAny_bind (wpAny_bind (wpAny_loadPart hx (wpAny_bind (PySem.W.Looks.here (s := { s with toks := s.toks + 1 }) (PySem.W.looks_clsIn X hc) ?_))))))
  rw [hd']
  refine wpAny_pure (a := some dx) (wpAny_bind (wpAny_pure (wpAny_bind ?_)))
  refine wpAny_nsSet1 (s := { s with toks := s.toks + 1 }) I.ns fun h' hn2 hs2 => ?_
  obtain ⟨oD, esD, epD, hoD, hdD, hcD⟩ := hn2.count (PySem.Within.cons name v hw)
  refine wpAny_bind (wpAny_lookBehind hoD (by rw [hdD]; exact pastItsLine_dict (Nat.le_trans hcD (by rw [List.length_cons]; omega))) ?_)
  exact wpAny_pure (h _ ⟨(hs2.2 _ (Ne.symm I.ne)).trans I.obj, hn2, I.ne⟩ hs2)

theorem make_map {R : Result → Shared → Prop} {vs : List Value} {kw : List (Str × Value)} (X : K.In s.heap) (hm : PySem.W.makesIn K C = true)
    (hi : PySem.W.findIn K (.ref C) "__init__" = some (some (.ref f))) (hf : PySem.W.typeIn K (.ref f) = some (.type "function"))
    (h : codeAny (model prog w) (A.under (.builtin "type.__call__" ⟨.ref C :: vs, kw⟩)) (.call (.ref f) ⟨.ref (s.heap.objs.size + 1) :: vs, kw⟩) (PySem.W.InitBack (s.heap.objs.size + 1) R)
      { s with heap := (s.heap.push PySem.W.emptyDict).push (PySem.W.instObj C s.heap.objs.size) }) :
    codeAny (model prog w) A (.call (.ref C) ⟨vs, kw⟩) R s := by
  obtain ⟨hh, g, d, t, os⟩ := s
  exact PySem.W.make_core (PySem.W.makes_of X hm) (PySem.W.looks_findIn X hi) (fun self => PySem.W.bind_fn X self hf) (.inl rfl) h
end
def putF (f : Str) (v : V) : List (Str × V) → List (Str × V)
  | [] => [(f, v)]
  | (g, x) :: r => if g = f then (g, v) :: r else (g, x) :: putF f v r
theorem lookup_putF (f g : Str) (v : V) : ∀ fs : List (Str × V), (putF f v fs).lookup g = if g = f then some v else fs.lookup g
  | [] => by
    show List.lookup g [(f, v)] = _
    by_cases h : g = f
    · have hb : (g == f) = true := beq_iff_eq.mpr h
      simp only [List.lookup, hb, if_pos h]
    · have hb : (g == f) = false := beq_eq_false_iff_ne.mpr h
      simp only [List.lookup, hb, if_neg h]
  | (k, x) :: r => by
    have ih := lookup_putF f g v r
    rw [show putF f v ((k, x) :: r) = (if k = f then (k, v) :: r else (k, x) :: putF f v r) from rfl]
    by_cases hk : k = f
    · rw [if_pos hk]
      by_cases h : g = k
      · have hb : (g == k) = true := beq_iff_eq.mpr h
        simp only [List.lookup, hb, if_pos (h.trans hk)]
      · have hb : (g == k) = false := beq_eq_false_iff_ne.mpr h
        simp only [List.lookup, hb, if_neg (fun e : g = f => h (e.trans hk.symm))]
    · rw [if_neg hk]
      by_cases h : g = k
      · have hb : (g == k) = true := beq_iff_eq.mpr h
        simp only [List.lookup, hb, if_neg (fun e : g = f => hk (h.symm.trans e))]
      · have hb : (g == k) = false := beq_eq_false_iff_ne.mpr h
        simp only [List.lookup, hb]
        exact ih
theorem keys_putF (f : Str) (v : V) : ∀ fs : List (Str × V), f ∈ (putF f v fs).map (·.1) ∧ ∀ g, g ∈ fs.map (·.1) → g ∈ (putF f v fs).map (·.1)
  | [] => ⟨by simp [putF], fun g h => by simp at h⟩
  | (k, x) :: r => by
    obtain ⟨i1, i2⟩ := keys_putF f v r
    rw [show putF f v ((k, x) :: r) = (if k = f then (k, v) :: r else (k, x) :: putF f v r) from rfl]
    by_cases hk : k = f
    · rw [if_pos hk]
      subst hk
      exact ⟨by simp, fun g h => by simpa using h⟩
    · rw [if_neg hk]
      refine ⟨?_, fun g h => ?_⟩
      · rw [List.map_cons]
        exact List.mem_cons_of_mem _ i1
      · rw [List.map_cons] at h ⊢
        rcases List.mem_cons.mp h with e | e
        · exact List.mem_cons.mpr (.inl e)
        · exact List.mem_cons_of_mem _ (i2 g e)
theorem length_putF (f : Str) (v : V) : ∀ fs : List (Str × V), (putF f v fs).length ≤ fs.length + 1
  | [] => by simp [putF]
  | (k, x) :: r => by
    have ih := length_putF f v r
    rw [show putF f v ((k, x) :: r) = (if k = f then (k, v) :: r else (k, x) :: putF f v r) from rfl]
    by_cases hk : k = f
    · rw [if_pos hk, List.length_cons, List.length_cons]; omega
    · rw [if_neg hk, List.length_cons, List.length_cons]; omega

theorem RelO.some_of {v : V} {o : Option Value} (r : RelO (some v) o) : ∃ u, o = some u ∧ RelV v u := by
  cases o with
  | none => exact (show False from r).elim
  | some u => exact ⟨u, rfl, r⟩
theorem handed_of {v : V} {u : Value} (r : RelV v u) : PySem.W.handedIn u = true := by
  cases v with
  | non => cases (show u = Value.none from r); rfl
  | bl b => cases (show u = Value.bool b from r); rfl
  | int i => obtain ⟨t, e⟩ := (show ∃ t, u = Value.int i t from r); cases e; rfl
  | str x => obtain ⟨t, e⟩ := (show ∃ t, u = Value.str x t from r); cases e; rfl
  | byt b => obtain ⟨t, e⟩ := (show ∃ t, u = Value.bytes b t from r); cases e; rfl
  | flt b => obtain ⟨t, e⟩ := (show ∃ t, u = Value.float b t from r); cases e; rfl
  | ref a => cases (show u = Value.ref a from r); rfl
  | ty n => cases (show u = Value.type n from r); rfl

section
variable {P : Program} {w : World} {H H' : Hp} {h h' : Heap} {a C dx : Addr} {fs fs' : List (Str × V)}
theorem ins_get (hok : HOk P w H h) (e : H a = some (.ins C dx fs)) : ∃ mA, ObjM h a dx C mA ∧ (∀ f, RelO (fs.lookup f) (mA f)) ∧ PySem.Within mA (fs.map (·.1)) ∧ fs.length ≤ 1000 ∧ H dx = some (.own a) := by
  obtain ⟨d, z, ne, ob, mA, n, r, q⟩ := (show ObjOk P w H h a (.ins C dx fs) from hok a _ e)
  exact ⟨mA, ⟨ob, n, ne⟩, r, q, z, d⟩
end
structure Cls (K : PySem.W.Frag) (C : Addr) : Prop where
  pg : PySem.W.plainGet K C Str.empty = true
  hd : PySem.W.hasDictIn K C = true
  po : PySem.W.plainOver K C = true
  sa : PySem.W.findIn K (.ref C) "__setattr__" = some (some (.builtin "object.__setattr__"))
theorem Cls.get {K : PySem.W.Frag} {C : Addr} (c : Cls K C) (f : Str) : PySem.W.plainGet K C f = true := c.pg
def NoAttr (K : PySem.W.Frag) (C : Addr) (f : Str) : Prop := PySem.W.findIn K (.ref C) f = some none
theorem NoAttr.taker {K : PySem.W.Frag} {C : Addr} {f : Str} (n : NoAttr K C f) : PySem.W.takerIn K C f = some none := by
  unfold PySem.W.takerIn
  rw [show PySem.W.findIn K (.ref C) f = some none from n]
  rfl
section
variable {X : Cx} {pins : List (Addr × Obj)} {σ : St} {H : Hp} {s : Shared} {a C dx : Addr} {fs : List (Str × V)} {f : Str} {v : V} {A : Around} {E : Value → Shared → Prop}
theorem getattr_ok {b : Bool} {Q : Value → Shared → Prop} (I : Inv X pins σ H s) (e : H a = some (.ins C dx fs)) (c : Cls X.K C) (n : NoAttr X.K C f) (l : fs.lookup f = some v)
    (h : ∀ u s', Inv X pins σ H s' → RelV v u → Q u s') : wpAny (model X.prog X.w) A (getAttr (.ref a) f b) Q E s := by
  obtain ⟨mA, O, r, _, _, _⟩ := ins_get I.hok e
  obtain ⟨u, hu, ru⟩ := RelO.some_of (v := v) (o := mA f) (by rw [← l]; exact r f)
  exact get_map I.kIn O (c.get f) c.hd n hu (handed_of ru) (h u _ (I.tok _) ru)

theorem setattr_ok {y : V} {u : Value} {Q : Unit → Shared → Prop} (I : Inv X pins σ H s) (e : H a = some (.ins C dx fs)) (c : Cls X.K C) (n : NoAttr X.K C f) (hl : fs.length < 1000) (ry : RelV y u)
    (h : ∀ s', Inv X pins σ (upd H a (.ins C dx (putF f y fs))) s' → Q () s') : wpAny (model X.prog X.w) A (setAttr (.ref a) f u) Q E s := by
  obtain ⟨mA, O, r, wi, _, ho⟩ := ins_get I.hok e
  have hz : (fs.map (·.1)).length ≤ sizeLine := by rw [List.length_map, sizeLine_eq]; omega
  refine set_map I.kIn O c.sa c.po n.taker c.hd wi hz fun h' O' sb => h _ ?_
  have hd : ∃ o, h'.get? dx = some o := let ⟨o, _, _, e', _⟩ := O'.ns; ⟨o, e'⟩
  refine I.write (x := a) (e := dx) (by rw [e]; exact True.intro) (.inr ho) (fun b q hb z => (sb.2 b hb).trans z) hd ?_
  refine ⟨by rw [upd_ne O.ne]; exact ho, ?_, O.ne, O'.obj, _, O'.ns, fun g => ?_, fun g hg => ?_⟩
  · have := length_putF f y fs; omega
  · show RelO ((putF f y fs).lookup g) (if g = f then some u else mA g)
    rw [lookup_putF]
    by_cases q : g = f
    · rw [if_pos q, if_pos q]; exact ry
    · rw [if_neg q, if_neg q]; exact r g
  · by_cases q : g = f
    · rw [q]; exact (keys_putF f y fs).1
    · refine (keys_putF f y fs).2 g (wi g fun z => hg ?_)
      show (if g = f then some u else mA g) = none
      rw [if_neg q]; exact z

theorem Inv.made (I : Inv X pins σ H s) : Inv X pins σ (upd (upd H s.heap.objs.size (.own (s.heap.objs.size + 1))) (s.heap.objs.size + 1) (.ins C s.heap.objs.size []))
    { s with heap := (s.heap.push PySem.W.emptyDict).push (PySem.W.instObj C s.heap.objs.size) } := by
  have e1 : (s.heap.push PySem.W.emptyDict).get? s.heap.objs.size = some PySem.W.emptyDict := Heap.get?_push_size s.heap rfl
  have e2 : ((s.heap.push PySem.W.emptyDict).push (PySem.W.instObj C s.heap.objs.size)).get? (s.heap.objs.size + 1) = some (PySem.W.instObj C s.heap.objs.size) := by
    have := Heap.get?_push_size (s.heap.push PySem.W.emptyDict) (o := PySem.W.instObj C s.heap.objs.size) rfl
    rwa [Heap.size_push] at this
  have e3 : (s.heap.push PySem.W.emptyDict).Ns s.heap.objs.size (fun _ => none) := ⟨PySem.W.emptyDict, #[], _, e1, rfl, (fun e he => absurd he (by simp)), fun _ => rfl⟩
  have I1 := I.laid (a := s.heap.objs.size) (o := .own (s.heap.objs.size + 1)) (h' := s.heap.push PySem.W.emptyDict) (t' := s.toks) (fun b u q => Heap.get?_push_of_some _ q) (Nat.le_refl _) ⟨_, e1⟩
  refine I1.laid (a := s.heap.objs.size + 1) (o := .ins C s.heap.objs.size []) (t' := s.toks) (fun b u q => Heap.get?_push_of_some _ q) (Nat.le_of_eq (Heap.size_push _ _)) ?_
  have ne : s.heap.objs.size ≠ s.heap.objs.size + 1 := Nat.ne_of_lt (Nat.lt_succ_self _)
  refine ⟨by rw [upd_ne ne, upd_same], Nat.zero_le _, ne, e2, fun _ => none, (Heap.Ns1.of_empty e3).at fun o q => Heap.get?_push_of_some _ q, fun _ => True.intro, fun y hy => absurd rfl hy⟩

theorem attr_of {prog : Program} {w : World} {env : Env} {e : Expr} {f : Str} {pos : Pos} {s : Shared} {Q : Value → Shared → Prop} (hb : attributeBase e f env (eval e env) = eval e env)
    (h : wpAny (model prog w) A (eval e env) (fun o s₁ => wpAny (model prog w) A (getAttr o f true) Q E s₁) E s) : wpAny (model prog w) A (eval (.Attribute e f pos) env) Q E s :=
  Attribute_any_ h (by rw [arm_eval_Attribute, hb])
end
def tFld (K : PySem.W.Frag) (ta : TE) (f : Str) : TE := fun σ H Q => ta σ H fun x H1 => ∃ a C dx fs v, x = .ref a ∧ H1 a = some (.ins C dx fs) ∧ Cls K C ∧ NoAttr K C f ∧ fs.lookup f = some v ∧ Q v H1
def sFld (K : PySem.W.Frag) (ta tv : TE) (f : Str) : TS := fun D σ H => tv σ H fun y H1 => ta σ H1 fun x H2 => ∃ a C dx fs, x = .ref a ∧ H2 a = some (.ins C dx fs) ∧ Cls K C ∧ NoAttr K C f ∧ fs.length < 1000 ∧
  D.nx σ (upd H2 a (.ins C dx (putF f y fs)))
section
variable {X : Cx} {o e value : Expr} {f : Str} {pos pos' tpos : Pos} {ta tv : TE}
theorem pe_fld (he : PE X e ta) (hb : attributeBase e f X.env (eval e X.env) = eval e X.env) : PE X (.Attribute e f pos) (tFld X.K ta f) := by
  intro pins s σ H Q I h
  refine attr_of hb (thn (he pins s σ H _ I h) fun u s1 ⟨x, H1, I1, rx, a, C, dx, fs, v, ex, ea, c, n, l, q⟩ => ?_)
  subst ex
  obtain rfl : u = Value.ref a := rx
  exact getattr_ok I1 ea c n l fun u' s2 I2 ru => ⟨v, H1, I2, ru, q⟩
theorem ps_fld (ha : PE X o ta) (hv : PE X value tv) (hs : swapsWith value (some (.Attribute o f pos')) pos.line X.env = pure false) : PS X (.Assign [.Attribute o f pos'] value pos) (sFld X.K ta tv f) := by
  intro pins s σ H D I h
  refine plainObj_wpAny_Assign_Attribute (thn (hv pins s σ H _ I h) fun u s1 ⟨y, H1, I1, ry, q⟩ => thn (ha pins s1 σ H1 _ I1 q) fun ov s2 ⟨x, H2, I2, rx, a, C, dx, fs, ex, ea, c, n, l, q2⟩ => ?_) hs
  subst ex
  obtain rfl : ov = Value.ref a := rx
  exact setattr_ok I2 ea c n l ry fun s3 I3 => ⟨σ, _, I3, q2⟩
end
section
variable {X : Cx} {pins : List (Addr × Obj)} {σ : St} {H : Hp} {s : Shared} {A : Around} {E : Value → Shared → Prop} {Q : Value → Shared → Prop} {c : Value} {b : Bool}
end
end L2
namespace L2
open PySem PySem.Spec PyProof.Rows
structure Room (k : Nat) (A : Around) : Prop where
  hd : A.handled = none
  dp : A.depth + 3 * k + 5 < recursionLimit
  un : A.units + 16 * k + 200 < cLine
theorem Room.mono {j k : Nat} {A : Around} (r : Room k A) (h : j ≤ k) : Room j A := ⟨r.hd, by have := r.dp; omega, by have := r.un; omega⟩
theorem Room.deeper {k : Nat} {A : Around} (r : Room (k + 1) A) (env : Env) : Room k (A.deeper env) :=
  ⟨r.hd, by have := r.dp; show A.depth + 1 + 3 * k + 5 < _; omega, by have := r.un; show A.units + 3 + 16 * k + 200 < _; omega⟩
theorem Room.in1 {k : Nat} {A : Around} (r : Room (k + 1) A) : Room k A.in1 :=
  ⟨r.hd, by have := r.dp; show A.depth + 3 * k + 5 < _; omega, by have := r.un; show A.units + 1 + 16 * k + 200 < _; omega⟩
theorem make_depth {A : Around} {C : Addr} {us : List Value} {kw : List (Str × Value)} : (A.under (.builtin "type.__call__" ⟨.ref C :: us, kw⟩)).depth = A.depth + 1 := by
  first | rfl | simp [Around.under, Code.weight, Code.isCreation, Code.isGuard, Code.isCaller, Code.frames, Code.isFrame, guardIds]
theorem make_units {A : Around} {C : Addr} {us : List Value} {kw : List (Str × Value)} : (A.under (.builtin "type.__call__" ⟨.ref C :: us, kw⟩)).units = A.units + 1 := by
  first | rfl | simp [Around.under, Code.cUnits, Code.frames, Code.isFrame]
theorem Room.make {k : Nat} {A : Around} (r : Room (k + 1) A) (C : Addr) (us : List Value) (kw : List (Str × Value)) : Room k (A.under (.builtin "type.__call__" ⟨.ref C :: us, kw⟩)) :=
  ⟨r.hd, by have := r.dp; rw [make_depth]; omega, by have := r.un; rw [make_units]; omega⟩
theorem Room.depth {k : Nat} {A : Around} (r : Room k A) : A.depth < recursionLimit := by have := r.dp; omega
theorem Room.units {k : Nat} {A : Around} (r : Room k A) : A.units + 64 < cLine := by have := r.un; omega
def tNil : TA := fun _ H Q => Q [] H
def tCons (ta : TE) (tr : TA) : TA := fun σ H Q => ta σ H fun x H1 => tr σ H1 fun xs H2 => Q (x :: xs) H2
section
variable {X : Cx} {e : Expr} {es : List Expr} {te : TE} {t : TA} {pos : Pos}
theorem pa_nil : PA X [] tNil := fun _ _ _ _ H Q I h => Calls.spliced_nil ⟨[], H, I, .nil, h⟩
theorem pa_cons (ha : PE X e te) (hr : PA X es t) (hs : starEach (e :: es) X.env = (false, eval e X.env) :: starEach es X.env := by rfl) : PA X (e :: es) (tCons te t) := by
  intro pos pins s σ H Q I h
  rw [hs]
  show wpAny _ _ (spliced ((false, eval e X.env) :: backTo pos (starEach es X.env))) _ _ s
  refine Calls.spliced_cons (thn (ha pins s σ H _ I h) fun u s1 ⟨x, H1, I1, r1, q1⟩ => ?_)
  exact thn (hr pos pins s1 σ H1 _ I1 q1) fun us s2 ⟨xs, H2, I2, r2, q2⟩ => ⟨x :: xs, H2, I2, .cons r1 r2, q2⟩

def tLst (t : TA) : TE := fun σ H Q => t σ H fun xs H1 => xs.length ≤ sizeLine ∧ ∀ p, H1 p = none → Q (.ref p) (upd H1 p (.lst xs))
theorem pe_lst (h : PA X es t) : PE X (.List es pos) (tLst t) := by
  intro pins s σ H Q I hq
  refine wpAny_List_spliced (thn (h pos pins s σ H _ I hq) fun us s1 ⟨xs, H1, I1, r, z, q⟩ => ⟨by rw [← r.length]; exact z, ?_⟩)
  have hf : H1 s1.heap.objs.size = none := I1.hok.fresh (Nat.le_refl _)
  refine ⟨.ref s1.heap.objs.size, upd H1 s1.heap.objs.size (.lst xs), I1.laid (t' := s1.toks) (fun b u e => Heap.get?_push_of_some _ e) (Nat.le_refl _) ?_, rfl, q _ hf⟩
  exact ⟨z, us, 0, r, Heap.get?_push_size _ rfl⟩
end
abbrev Sp := List V → Hp → VK → XK → Prop
abbrev CXT := List Env → Hp → Shared → XK → Value → Shared → Prop

structure Env0 (P : Program) (w : World) (K : PySem.W.Frag) (mg : Str → Option Value) (base : Heap) (A : Around) (outer : List Env) (s : Shared) (H : Hp) : Prop where
  frames : A.frames = some outer
  mod : Mod K mg base
  bs : ∀ b o, base.get? b = some o → s.heap.get? b = some o ∧ H b = none
  bsz : base.objs.size ≤ s.heap.objs.size
  funs : s.heap.FunFrames base outer
  frf : ∀ b ∈ frs outer, H b = none
  hok : HOk P w H s.heap
  bare : AllBare s.gens
def CE (outer : List Env) (P : Program) (w : World) (H : Hp) (s : Shared) (Q : VK) (u : Value) (s' : Shared) : Prop :=
  ∃ v H', s'.os = s.os ∧ AllBare s'.gens ∧ Un (frs outer) [] H H' s.heap s'.heap ∧ HOk P w H' s'.heap ∧ RelV v u ∧ Q v H'
def CR (CX : CXT) (outer : List Env) (P : Program) (w : World) (H : Hp) (s : Shared) (Q : VK) (E : XK) (r : Result) (s' : Shared) : Prop :=
  match r with
  | .ok (.ret u) => CE outer P w H s Q u s'
  | .ok _ => False
  | .error e => CX outer H s E e s'
structure FnOk (P : Program) (w : World) (K : PySem.W.Frag) (mg : Str → Option Value) (base : Heap) (CX : CXT) (k : Nat) (f : Addr) (fd : FuncData) (ps : List Str) (sp : Sp) : Prop where
  len : ∀ vs H Q E, sp vs H Q E → vs.length = ps.length
  run : ∀ (A : Around) (outer : List Env) (s : Shared) (H : Hp) (args : Args) (us : List Value) (vs : List V) (Q : VK) (E : XK), Room k A → Env0 P w K mg base A outer s H → BindsTo s fd args (ps.zip us) → Vals vs us → sp vs H Q E →
    codeAny (model P w) A (.call (.ref f) args) (CR CX outer P w H s Q E) s
theorem FnOk.mono {P : Program} {w : World} {K : PySem.W.Frag} {mg : Str → Option Value} {base : Heap} {CX : CXT} {j k : Nat} {f : Addr} {fd : FuncData} {ps : List Str} {sp : Sp} (F : FnOk P w K mg base CX j f fd ps sp) (h : j ≤ k) :
    FnOk P w K mg base CX k f fd ps sp := ⟨F.len, fun A outer s H args us vs Q E hr => F.run A outer s H args us vs Q E (hr.mono h)⟩
theorem Env0.make {P : Program} {w : World} {K : PySem.W.Frag} {mg : Str → Option Value} {base : Heap} {A : Around} {outer : List Env} {s : Shared} {H : Hp} (e : Env0 P w K mg base A outer s H) (C : Addr) (us : List Value) (kw : List (Str × Value)) :
    Env0 P w K mg base (A.under (.builtin "type.__call__" ⟨.ref C :: us, kw⟩)) outer s H := ⟨by first | exact e.frames | (simpa [Around.under, Code.envs, Code.isFrame, pushEnvs] using e.frames), e.mod, e.bs, e.bsz, e.funs, e.frf, e.hok, e.bare⟩
theorem Env0.in1 {P : Program} {w : World} {K : PySem.W.Frag} {mg : Str → Option Value} {base : Heap} {A : Around} {outer : List Env} {s : Shared} {H : Hp} (e : Env0 P w K mg base A outer s H) :
    Env0 P w K mg base A.in1 outer s H := ⟨e.frames, e.mod, e.bs, e.bsz, e.funs, e.frf, e.hok, e.bare⟩

section
variable {X : Cx} {pins : List (Addr × Obj)} {σ : St} {H : Hp} {s s' : Shared}
theorem Inv.env0 (I : Inv X pins σ H s) : Env0 X.prog X.w X.K X.mg X.base X.A X.stack s H :=
  ⟨I.ok.frames, I.ok.mod, I.bs, Nat.le_trans I.ok.bsz I.sz, I.stack, I.stkFree, I.hok, I.bare⟩
theorem Inv.after {Q : VK} {u : Value} (I : Inv X pins σ H s) (h : CE X.stack X.prog X.w H s Q u s') : EP X pins σ Q u s' := by
  obtain ⟨v, H', os, bare, un, hok, r, q⟩ := h
  obtain ⟨hh, g, d, t, os'⟩ := s'
  obtain rfl : os' = s.os := os
  exact ⟨v, H', I.call (h' := hh) (g' := g) (d' := d) (t' := t) (ch := []) un hok bare (fun b z => absurd z (by simp)), r, q⟩
end
def tCall (sp : Sp) (dvs : List V) (E : XK) (t : TA) : TE := fun σ H Q => t σ H fun vs H1 => sp (vs ++ dvs) H1 Q E
def tMake (C : Addr) (sp : Sp) (dvs : List V) (E : XK) (t : TA) : TE := fun σ H Q => t σ H fun vs H1 => ∀ x dx, H1 x = none → H1 dx = none → dx ≠ x →
  sp (.ref x :: (vs ++ dvs)) (upd (upd H1 dx (.own x)) x (.ins C dx [])) (fun v H2 => v = .non ∧ Q (.ref x) H2) E

def Binds (K : PySem.W.Frag) (fd : FuncData) (ps : List Str) (ds : List Value) : Prop :=
  ∀ (s : Shared) (us : List Value), K.In s.heap → (us ++ ds).length = ps.length → BindsTo s fd ⟨us, []⟩ (ps.zip (us ++ ds))
theorem Binds.all {K : PySem.W.Frag} {fd : FuncData} {ps : List Str} (h : ∀ us : List Value, us.length = ps.length → bindArgs fd ⟨us, []⟩ = pure (ps.zip us)) : Binds K fd ps [] := fun s us _ hl => by
  rw [List.append_nil] at hl ⊢
  exact .of_eq (h us hl)

def Passes (CX : CXT) (X : Cx) (E : XK) : Prop := ∀ (pins : List (Addr × Obj)) (σ : St) (H : Hp) (s : Shared) (e : Value) (s' : Shared), Inv X pins σ H s → CX X.stack H s E e s' → X.xe e s'

section
variable {X : Cx} {CX : CXT} {k : Nat} {f C : Addr} {fd : FuncData} {ps : List Str} {sp : Sp} {dvs : List V} {ds : List Value} {E : XK} {x m : Str} {p pos apos : Pos} {e o : Expr} {es : List Expr} {ta : TE} {t : TA}
theorem run_fn {pins : List (Addr × Obj)} {σ : St} {H : Hp} {s : Shared} {Q : VK} {us : List Value} {vs : List V} (F : FnOk X.prog X.w X.K X.mg X.base CX k f fd ps sp) (hr : Room k X.A) (hb : Binds X.K fd ps ds) (hd : Vals dvs ds) (hx : Passes CX X E)
    (I : Inv X pins σ H s) (r : Vals vs us) (h : sp (vs ++ dvs) H Q E) : wpAny (model X.prog X.w) X.A (call (.ref f) us) (EP X pins σ Q) X.xe s := by
  have r2 : Vals (vs ++ dvs) (us ++ ds) := r.append hd
  have hl : (us ++ ds).length = ps.length := by rw [← r2.length]; exact F.len _ _ _ _ h
  refine wpAny_call (codeAny_mono (F.run X.A X.stack s H ⟨us, []⟩ (us ++ ds) (vs ++ dvs) Q E hr I.env0 (hb s us I.kIn hl) r2 h) fun r s' hq => ?_)
  cases r with
  | error e => exact hx pins σ H s e s' I hq
  | ok fl =>
    cases fl with
    | ret u => exact I.after hq
    | next => exact False.elim hq
    | brk => exact False.elim hq
    | cont => exact False.elim hq

theorem pe_call (F : FnOk X.prog X.w X.K X.mg X.base CX k f fd ps sp) (hr : Room k X.A) (hg : Gl X x) (hm : X.mg x = some (.ref f)) (hk : PySem.W.keepIn X.K (.ref f) = true) (hb : Binds X.K fd ps ds) (hd : Vals dvs ds) (hx : Passes CX X E)
    (ha : PA X (e :: es) t) (hdb : (x == ("__debug__" : Str)) = false := by decide) (he : starEach (e :: es) X.env = (false, eval e X.env) :: starEach es X.env := by rfl) (hpl : (backTo pos (starEach es X.env)).any (·.1) = false := by rfl) :
    PE X (.Call (.Name x p) (e :: es) [] pos) (tCall sp dvs E t) := by
  intro pins s σ H Q I h
  refine wpAny_Call_Name_kw (ld_glob I hg hm ?_ hdb)
  refine PySem.W.callWith_K (h₀ := X.base) I.ok.mod.kin hk (thn (ha pos pins s σ H _ I h) fun us s1 ⟨vs, H1, I1, r, q⟩ => ⟨I1.kIn, ?_⟩) he hpl
  exact run_fn F hr hb hd hx I1 r q
structure Mk (K : PySem.W.Frag) (C f : Addr) : Prop where
  makes : PySem.W.makesIn K C = true
  init : PySem.W.findIn K (.ref C) "__init__" = some (some (.ref f))
  fn : PySem.W.isFn K (.ref f) = true
  kp : PySem.W.keepIn K (.ref C) = true

theorem run_make {pins : List (Addr × Obj)} {σ : St} {H : Hp} {s : Shared} {Q : VK} {us : List Value} {vs : List V} (M : Mk X.K C f) (F : FnOk X.prog X.w X.K X.mg X.base CX k f fd ps sp) (hr : Room (k + 1) X.A) (hb : Binds X.K fd ps ds) (hd : Vals dvs ds)
    (hx : Passes CX X E) (I : Inv X pins σ H s) (r : Vals vs us)
    (h : ∀ x dx, H x = none → H dx = none → dx ≠ x → sp (.ref x :: (vs ++ dvs)) (upd (upd H dx (.own x)) x (.ins C dx [])) (fun v H2 => v = .non ∧ Q (.ref x) H2) E) :
    wpAny (model X.prog X.w) X.A (call (.ref C) us) (EP X pins σ Q) X.xe s := by
  have hq := h (s.heap.objs.size + 1) s.heap.objs.size (I.hok.fresh (Nat.le_succ _)) (I.hok.fresh (Nat.le_refl _)) (Nat.ne_of_lt (Nat.lt_succ_self _))
  have I2 := Inv.made (C := C) I
  have r2 : Vals (V.ref (s.heap.objs.size + 1) :: (vs ++ dvs)) (Value.ref (s.heap.objs.size + 1) :: (us ++ ds)) := .cons rfl (r.append hd)
  have hl : (Value.ref (s.heap.objs.size + 1) :: us ++ ds).length = ps.length := by
    have e := r2.length
    rw [F.len _ _ _ _ hq] at e
    exact e.symm
  refine wpAny_call (make_map (f := f) I.kIn M.makes M.init (beq_iff_eq.mp M.fn) (codeAny_mono (F.run _ X.stack _ _ ⟨Value.ref (s.heap.objs.size + 1) :: us, []⟩ (Value.ref (s.heap.objs.size + 1) :: (us ++ ds)) _ _ E (hr.make C us [])
    (I2.env0.make C us []) (hb _ (Value.ref (s.heap.objs.size + 1) :: us) I2.kIn hl) r2 hq) fun r s' hq' => ?_))
  cases r with
  | error e => exact hx pins σ _ _ e s' I2 hq'
  | ok fl =>
    cases fl with
    | ret u =>
      obtain ⟨v, H', I3, rv, ev, q3⟩ := I2.after hq'
      subst ev
      exact ⟨rv, ⟨V.ref (s.heap.objs.size + 1), H', I3, rfl, q3⟩⟩
    | next => exact False.elim hq'
    | brk => exact False.elim hq'
    | cont => exact False.elim hq'
theorem pe_make0 (M : Mk X.K C f) (F : FnOk X.prog X.w X.K X.mg X.base CX k f fd ps sp) (hr : Room (k + 1) X.A) (hg : Gl X x) (hm : X.mg x = some (.ref C)) (hb : Binds X.K fd ps ds) (hd : Vals dvs ds) (hx : Passes CX X E)
    (hdb : (x == ("__debug__" : Str)) = false := by decide) : PE X (.Call (.Name x p) [] [] pos) (tMake C sp dvs E tNil) := by
  intro pins s σ H Q I h
  refine wpAny_Call_Name_kw (ld_glob I hg hm ?_ hdb)
  exact PySem.W.callWith_K0 I.kIn M.kp (run_make (us := []) M F hr hb hd hx I .nil h)
end
def PK (X : Cx) (kws : List Keyword) (t : TA) : Prop :=
  ∀ (pos : Pos) (pins : List (Addr × Obj)) (s : Shared) (σ : St) (H : Hp) (Q : List V → Hp → Prop), Inv X pins σ H s → t σ H Q → wpAny (model X.prog X.w) X.A (evalAll ((backToKw pos (keywordEach kws X.env)).map (·.2))) (AP X pins σ Q) X.xe s
section
variable {X : Cx} {CX : CXT} {k : Nat} {f C : Addr} {fd : FuncData} {ps ks : List Str} {sp : Sp} {E : XK} {x m : Str} {p pos apos kpos : Pos} {e o : Expr} {es : List Expr} {kws : List Keyword} {te ta : TE} {t tk : TA} {nm : Option Str}
theorem pk_nil : PK X [] tNil := fun _ _ _ _ H Q I h => wpAny_evalAll_nil ⟨[], H, I, .nil, h⟩
theorem pk_cons (ha : PE X e te) (hr : PK X kws t) : PK X (⟨nm, e, kpos⟩ :: kws) (tCons te t) := by
  intro pos pins s σ H Q I h
  show wpAny _ _ (evalAll ((do let v ← eval e X.env; standAt pos; pure v) :: (backToKw pos (keywordEach kws X.env)).map (·.2))) _ _ s
  refine wpAny_evalAll_cons (wpAny_bind (thn (ha pins s σ H _ I h) fun u s1 ⟨x, H1, I1, r1, q1⟩ => wpAny_bind (wpAny_standAt (wpAny_pure ?_))))
  exact thn (hr pos pins s1 σ H1 _ I1 q1) fun us s2 ⟨xs, H2, I2, r2, q2⟩ => ⟨x :: xs, H2, I2, .cons r1 r2, q2⟩

variable {g : List Value → List Value → List Value} {gV : List V → List V → List V}
end
structure FnScope (N P : List Str) (sc : Scope) : Prop where
  kind : sc.kind = .function
  co : sc.isCoroutine = false
  gen : sc.isGenerator = false
  nd : N.Nodup
  pre : N.take P.length = P
  par : ∀ x ∈ P, sc.names.lookup x = some .local ∨ sc.names.lookup x = some .cell
  nofree : ∀ y ∈ sc.names, y.2 ≠ .free

theorem bindL_out {kindOf : Str → Option NameKind} {x : Str} : ∀ {binds : List (Str × Value)} {m : Str → Option Value}, (∀ v, (x, v) ∉ binds) → bindL kindOf binds m x = m x
  | [], _, _ => rfl
  | (n, v) :: r, m, h => by
    unfold bindL
    rw [bindL_out fun w hw => h w (List.mem_cons_of_mem _ hw)]
    split
    · have : x ≠ n := by rintro rfl; exact h v List.mem_cons_self
      simp [this]
    · rfl
theorem bindC_out {kindOf : Str → Option NameKind} {x : Str} : ∀ {binds : List (Str × Value)} {m : Str → Option Value}, (∀ v, (x, v) ∉ binds) → bindC kindOf binds m x = m x
  | [], _, _ => rfl
  | (n, v) :: r, m, h => by
    unfold bindC
    rw [bindC_out fun w hw => h w (List.mem_cons_of_mem _ hw)]
    split
    · rfl
    · have : x ≠ n := by rintro rfl; exact h v List.mem_cons_self
      simp [this]
theorem bindL_get {kindOf : Str → Option NameKind} {x : Str} {v : Value} : ∀ {P : List Str} {vs : List Value} {i : Nat} {m : Str → Option Value}, P.Nodup → P[i]? = some x → vs[i]? = some v → kindOf x = some .local →
    bindL kindOf (P.zip vs) m x = some v
  | [], _, _, _, _, h, _, _ => by simp at h
  | _ :: _, [], _, _, _, _, h, _ => by simp at h
  | p :: P, w :: vs, 0, m, nd, h1, h2, hk => by
    simp at h1 h2; subst h1; subst h2
    show bindL kindOf ((p, w) :: P.zip vs) m p = _
    unfold bindL
    rw [bindL_out fun v hv => (List.nodup_cons.mp nd).1 (List.of_mem_zip hv).1, if_pos hk]
    simp
  | p :: P, w :: vs, i + 1, m, nd, h1, h2, hk => by
    show bindL kindOf ((p, w) :: P.zip vs) m x = _
    unfold bindL
    exact bindL_get (i := i) (List.nodup_cons.mp nd).2 (by simpa using h1) (by simpa using h2) hk
theorem bindC_get {kindOf : Str → Option NameKind} {x : Str} {v : Value} : ∀ {P : List Str} {vs : List Value} {i : Nat} {m : Str → Option Value}, P.Nodup → P[i]? = some x → vs[i]? = some v → kindOf x ≠ some .local →
    bindC kindOf (P.zip vs) m x = some v
  | [], _, _, _, _, h, _, _ => by simp at h
  | _ :: _, [], _, _, _, _, h, _ => by simp at h
  | p :: P, w :: vs, 0, m, nd, h1, h2, hk => by
    simp at h1 h2; subst h1; subst h2
    show bindC kindOf ((p, w) :: P.zip vs) m p = _
    unfold bindC
    rw [bindC_out fun v hv => (List.nodup_cons.mp nd).1 (List.of_mem_zip hv).1, if_neg hk]
    simp
  | p :: P, w :: vs, i + 1, m, nd, h1, h2, hk => by
    show bindC kindOf ((p, w) :: P.zip vs) m x = _
    unfold bindC
    exact bindC_get (i := i) (List.nodup_cons.mp nd).2 (by simpa using h1) (by simpa using h2) hk

def start (N : List Str) (vs : List V) : St := vs.map some ++ List.replicate (N.length - vs.length) none

def cxOf (CX : CXT) (P : Program) (w : World) (K : PySem.W.Frag) (mg : Str → Option Value) (base : Heap) (N : List Str) (qual : Str) (scope : Scope) (f : Addr) (cd : Value) (A : Around) (outer : List Env) (s : Shared) (H : Hp) (E : XK) : Cx where
  prog := P
  w := w
  K := K
  mg := mg
  base := base
  A := A.deeper (envOfC qual scope s.heap.objs.size f cd)
  N := N
  s_0 := s
  H_0 := H
  env := envOfC qual scope s.heap.objs.size f cd
  outer := outer
  stack := envOfC qual scope s.heap.objs.size f cd :: outer
  ex := []
  calm := true
  fn := fun _ => true
  pn := []
  xe := fun e s' => wpAny (model P w) (A.deeper (envOfC qual scope s.heap.objs.size f cd)) (leaving (envOfC qual scope s.heap.objs.size f cd) e) (fun _ s'' => CX outer H s E e s'') (fun e' s'' => CX outer H s E e' s'') s'

theorem cell_has {sc : Scope} {n : Nat} {x : Str} (h : sc.names.lookup x = some .cell) : ∃ c, (cellsFrom n sc.names []).lookup x = some c := by
  have q := PySem.W.cellsFrom_some sc.names n [] (.inl h)
  exact Option.isSome_iff_exists.mp q

theorem inv_start {CX : CXT} {P : Program} {w : World} {K : PySem.W.Frag} {mg : Str → Option Value} {base : Heap} {N ps : List Str} {qual : Str} {scope : Scope} {f : Addr} {cd : Value} {A : Around} {outer : List Env} {s s1 : Shared} {H : Hp} {E : XK} {us : List Value} {vs : List V}
    (S : FnScope N ps scope) (hd : A.handled = none) (e0 : Env0 P w K mg base A outer s H) (hl : vs.length = ps.length) (r : Vals vs us)
    (x : InCallC s s.heap.objs.size (bindL (envOfC qual scope s.heap.objs.size f cd).kindOf (ps.zip us) fun _ => none) (cellsFrom (s.heap.objs.size + 1) scope.names []) (bindC (envOfC qual scope s.heap.objs.size f cd).kindOf (ps.zip us) fun _ => none) s1) :
    Inv (cxOf CX P w K mg base N qual scope f cd A outer s H E) [] (start N vs) H s1 := by
  have hpl : ps.length ≤ N.length := by have := congrArg List.length S.pre; rw [List.length_take] at this; omega
  obtain ⟨h1, tk, rfl, hk⟩ := x.done
  have noA : ∀ b : Addr, b ∉ (cxOf CX P w K mg base N qual scope f cd A outer s H E).ex := fun b z => absurd (show b ∈ ([] : List Addr) from z) (by simp)
  refine ⟨⟨e0.mod, S.kind, rfl, rfl, Nat.le_refl _, fun y z c h1 h2 => ?_, fun y hy => ?_, fun y c _ h => ?_, fun _ => hd, Around.frames_deeper e0.frames, .inr ⟨rfl, rfl⟩, fun b z => absurd z (noA b), e0.bs, e0.bsz, fun b _ _ => noA b, fun b z => absurd z (noA b), e0.funs, e0.frf⟩,
    rfl, e0.bare, Un.kept hk, ⟨_, x.toInCall.ns, fun i y v h1 h2 h3 => ?_⟩, fun y c h => ⟨_, x.cell y c h⟩, e0.hok.fresh (Nat.le_refl _), fun y c h => ?_, fun p hp => absurd (show p ∈ ([] : List (Addr × Obj)) from hp) (by simp), e0.hok.kept hk, ?_⟩
  · exact name_of_addr x.apart (PySem.mem_of_lookup h1) (PySem.mem_of_lookup h2)
  · have hy : scope.names.lookup y = some .cell ∨ scope.names.lookup y = some .free := hy
    rcases hy with hy | hy
    · exact cell_has hy
    · exact absurd rfl (S.nofree _ (PySem.mem_of_lookup hy))
  · exact Nat.le_of_lt (x.above y c (PySem.mem_of_lookup h))
  · have hi : i < vs.length := by
      unfold start at h2
      by_cases hi : i < vs.length
      · exact hi
      · rw [List.getElem?_append_right (by simpa using hi)] at h2
        rw [List.getElem?_replicate] at h2
        split at h2 <;> cases h2
    have ha : vs[i]? = some v := by
      unfold start at h2
      rw [List.getElem?_append_left (by simpa using hi), List.getElem?_map] at h2
      cases e : vs[i]? with
      | none => rw [e] at h2; cases h2
      | some a => rw [e] at h2; cases h2; rfl
    obtain ⟨u, hu, rv⟩ := r.get ha
    have hp : ps[i]? = some y := by
      rw [← S.pre, List.getElem?_take_of_lt (by omega)]; exact h1
    have ndP : ps.Nodup := by rw [← S.pre]; exact S.nd.sublist (List.take_sublist _ _)
    refine ⟨u, rv, ?_⟩
    rcases S.par y (List.mem_of_getElem? hp) with k | k
    · exact .inl ⟨k, bindL_get ndP hp hu k⟩
    · obtain ⟨c, e⟩ := cell_has (n := s.heap.objs.size + 1) k
      refine .inr ⟨.inl k, c, e, ?_⟩
      have q := x.cell y c e
      rw [bindC_get ndP hp hu (by show scope.names.lookup y ≠ _; rw [k]; decide)] at q
      exact q
  · exact e0.hok.fresh (Nat.le_of_lt (x.above y c (PySem.mem_of_lookup h)))
  · unfold start
    show _ = N.length
    rw [List.length_append, List.length_map, List.length_replicate]
    omega

theorem fn_of {CX : CXT} {P : Program} {w : World} {K : PySem.W.Frag} {mg : Str → Option Value} {base : Heap} {k : Nat} {f : Addr} {name qual : Str} {params : Arguments} {body : List Stmt} {scope : Scope} {dV kV doc pm cdv ct oc : Value} {an od : Option Addr}
    {osl : Array (Option Value)} {N ps : List Str} {sp : Sp} (lk : K.lookup f = some ⟨oc, od, .func (PySem.W.fnOf name qual params body scope dV kV doc pm an cdv ct), osl⟩) (hcd : PySem.W.codeIn K cdv qual = true) (S : FnScope N ps scope)
    (len : ∀ vs H Q E, sp vs H Q E → vs.length = ps.length)
    (hbody : ∀ (A : Around) (outer : List Env) (s : Shared) (H : Hp) (vs : List V) (Q : VK) (E : XK), Room k (A.deeper (envOfC qual scope s.heap.objs.size f cdv)) → sp vs H Q E →
      ∃ t, PSs (cxOf CX P w K mg base N qual scope f cdv A outer s H E) body t ∧ t { nx := fun _ H' => Q .non H', rt := Q } (start N vs) H) :
    FnOk P w K mg base CX (k + 1) f (PySem.W.fnOf name qual params body scope dV kV doc pm an cdv ct) ps sp := by
  refine ⟨len, fun A outer s H args us vs Q E hr e0 hb r hsp => ?_⟩
  have hl := len _ _ _ _ hsp
  have KX : K.In s.heap := e0.mod.kin.keeps fun b o e => (e0.bs b o e).1
  have lim : s.heap.NoLimit := e0.mod.nolimit.keeps fun b o e => (e0.bs b o e).1
  have hkind : ∀ y ∈ ps.zip us, scope.names.lookup y.1 = some .local ∨ (scope.names.lookup y.1 = some .cell ∧ ((cellsFrom (s.heap.objs.size + 1) scope.names []).lookup y.1).isSome = true) := fun ⟨n, v⟩ hy => by
    rcases S.par n (List.of_mem_zip hy).1 with q | q
    · exact .inl q
    · exact .inr ⟨q, PySem.W.cellsFrom_some _ _ _ (.inl q)⟩
  refine codeAny_call_function hr.depth (KX _ _ lk) rfl S.co S.gen rfl (PySem.W.codeRec_of KX hcd) (hb _ _ _ _ ?_)
  refine wpAny_newFunctionEnv_cells S.kind hkind fun env he s1 x => ?_
  subst he
  refine ⟨lim.keeps x.toInCall.keep, codeAny_func ?_⟩
  obtain ⟨t, ht, hq⟩ := hbody A outer s H vs Q E (hr.deeper _) hsp
  have I : Inv (cxOf CX P w K mg base N qual scope f cdv A outer s H E) [] (start N vs) H s1 := inv_start S hr.hd e0 hl r x
  refine wpAny_mono (ht [] s1 (start N vs) H _ I hq) (fun fl s' hs => ?_) fun e s' hs => hs
  have fin : ∀ {σ' : St} {H' : Hp} {v : V} {u : Value}, Inv (cxOf CX P w K mg base N qual scope f cdv A outer s H E) [] σ' H' s' → RelV v u → Q v H' → CE outer P w H s Q u s' :=
    fun {σ' H' v u} J rv q => ⟨v, H', J.os, J.bare, J.base, J.hok, rv, q⟩
  cases fl with
  | ret u =>
    obtain ⟨v, σ', H', J, rv, q⟩ := hs
    exact fin J rv q
  | next =>
    obtain ⟨σ', H', J, q⟩ := hs
    exact fin (v := V.non) (u := Value.none) J rfl q
  | brk =>
    obtain ⟨_, _, _, q⟩ := hs
    exact False.elim q
  | cont =>
    obtain ⟨_, _, _, q⟩ := hs
    exact False.elim q
end L2
namespace L2
open PySem PySem.Spec PyProof.Rows
section
variable {X : Cx} {x : Str} {p pos : Pos} {e : Expr} {es : List Expr} {t : TA} {id T : String} {r : List V → Hp → VK → Prop}
def tCB (r : List V → Hp → VK → Prop) (t : TA) : TE := fun σ H Q => t σ H fun vs H1 => r vs H1 Q
theorem pe_callB (hc : CallR X (.builtin id) r) (hg : Gl X x) (hm : X.mg x = none) (hv : bootBuiltins x = some (.builtin id)) (ha : PA X (e :: es) t) (hn : x ≠ "__name__" := by decide) (hdb : (x == ("__debug__" : Str)) = false := by decide)
    (he : starEach (e :: es) X.env = (false, eval e X.env) :: starEach es X.env := by rfl) (hpl : (backTo pos (starEach es X.env)).any (·.1) = false := by rfl) : PE X (.Call (.Name x p) (e :: es) [] pos) (tCB r t) := by
  intro pins s σ H Q I h
  refine wpAny_Call_Name_kw (ld_blt I hg hm hv ?_ hn hdb)
  exact PyProof.Rows.callWith_builtin1 (thn (ha pos pins s σ H _ I h) fun us s1 ⟨vs, H1, I1, r1, q1⟩ => hc pins s1 σ H1 vs us Q I1 r1 q1) he hpl
theorem pe_callTy (hc : CallR X (.type T) r) (hg : Gl X x) (hm : X.mg x = none) (hv : bootBuiltins x = some (.type T)) (ha : PA X (e :: es) t) (hn : x ≠ "__name__" := by decide) (hdb : (x == ("__debug__" : Str)) = false := by decide)
    (he : starEach (e :: es) X.env = (false, eval e X.env) :: starEach es X.env := by rfl) (hpl : (backTo pos (starEach es X.env)).any (·.1) = false := by rfl) : PE X (.Call (.Name x p) (e :: es) [] pos) (tCB r t) := by
  intro pins s σ H Q I h
  refine wpAny_Call_Name_kw (ld_blt I hg hm hv ?_ hn hdb)
  exact PyProof.Rows.callWith_type1 (thn (ha pos pins s σ H _ I h) fun us s1 ⟨vs, H1, I1, r1, q1⟩ => hc pins s1 σ H1 vs us Q I1 r1 q1) he hpl
end
end L2
namespace HT
open PySem PyProof.Rows
section
open PySem.SeqAt
open PySem.AutoSeq1 (wpAny_loadPart')
open PySem.MeetsSeq PySem.MeetsSeq2 PySem.MeetsSeq3
end
section
variable {prog : Program} {w : World} {A : Around} {E : Value → Shared → Prop} {s : Shared}
def sIx (n d : Nat) : Option Int → Nat
  | none => d
  | some v => if v < 0 then (v + (n : Int)).toNat else min v.toNat n
theorem sIx_none (n d : Nat) : sIx n d none = d := rfl
theorem sIx_nat (n d k : Nat) : sIx n d (some (k : Int)) = min k n := by
  show (if (k : Int) < 0 then ((k : Int) + (n : Int)).toNat else min (k : Int).toNat n) = min k n
  rw [if_neg (by omega), Int.toNat_natCast]
end
end HT
namespace L2
open PySem PySem.Spec PyProof.Rows
abbrev TO := St → Hp → (Option Int → Hp → Prop) → Prop
def PO (X : Cx) (e : Option Expr) (t : TO) : Prop :=
  ∀ (pins : List (Addr × Obj)) (s : Shared) (σ : St) (H : Hp) (Q : Option Int → Hp → Prop), Inv X pins σ H s → t σ H Q →
    wpAny (model X.prog X.w) X.A (evalPart e X.env) (fun u s' => ∃ o H', Inv X pins σ H' s' ∧ IsPart u o ∧ Q o H') X.xe s
def tNoPart : TO := fun _ H Q => Q none H
def tPart (t : TE) : TO := fun σ H Q => t σ H fun x H1 => ∃ i, x = .int i ∧ Q (some i) H1

section
variable {X : Cx} {e : Expr} {te : TE} {lo hi : Option Expr} {tl th : TO} {pos p2 : Pos}
theorem po_none : PO X none tNoPart := by
  intro pins s σ H Q I h
  rw [evalPart_none]
  exact wpAny_pure ⟨none, H, I, .none, h⟩
theorem po_some (h : PE X e te) : PO X (some e) (tPart te) := by
  intro pins s σ H Q I hw
  rw [evalPart_some]
  refine thn (h pins s σ H _ I hw) fun u s1 ⟨x, H1, I1, r1, q1⟩ => ?_
  obtain ⟨i, rfl, q⟩ := q1
  obtain ⟨t, rfl⟩ := r1
  exact ⟨some i, H1, I1, .int i t, q⟩

def SlR (X : Cx) (r : V → Option Int → Option Int → Hp → VK → Prop) : Prop :=
  ∀ (pins : List (Addr × Obj)) (s : Shared) (σ : St) (H : Hp) (x : V) (v vl vu : Value) (lo hi : Option Int) (sl : Addr) (Q : VK), Inv X pins σ H s → RelV x v → s.heap.IsSliceOf sl vl vu .none → IsPart vl lo → IsPart vu hi → r x lo hi H Q →
    ∃ T id, typeLookup (.type T) "__getitem__" = pure (some (.builtin id)) ∧ s.TypeIs v T ∧ wpAny (model X.prog X.w) X.A (getItem v (.ref sl)) (EP X pins σ Q) X.xe s
def tSl (r : V → Option Int → Option Int → Hp → VK → Prop) (te : TE) (tl th : TO) : TE := fun σ H Q => te σ H fun x H1 => tl σ H1 fun l H2 => th σ H2 fun u H3 => r x l u H3 Q
theorem pe_slice {r : V → Option Int → Option Int → Hp → VK → Prop} (hr : SlR X r) (he : PE X e te) (hl : PO X lo tl) (hu : PO X hi th) : PE X (.Subscript e (.Slice lo hi none p2) pos) (tSl r te tl th) := by
  intro pins s σ H Q I h
  refine Subscript_ (thn (he pins s σ H _ I h) fun v s1 ⟨x, H1, I1, r1, q1⟩ => ?_)
  refine wpAny_Slice (thn (hl pins s1 σ H1 _ I1 q1) fun vl s2 ⟨l, H2, I2, pl, q2⟩ => thn (hu pins s2 σ H2 _ I2 q2) fun vu s3 ⟨u, H3, I3, pu, q3⟩ => ?_)
  rw [evalPart_none]
  refine wpAny_pure ?_
  have I4 : Inv X pins σ H3 { s3 with heap := s3.heap.push { cls := .type "slice", data := .fields #[vl, vu, .none] } } := I3.kept (t' := s3.toks) fun b ob q => Heap.get?_push_of_some _ q
  obtain ⟨T, id, hT, ht, hg⟩ := hr pins { s3 with heap := s3.heap.push { cls := .type "slice", data := .fields #[vl, vu, .none] } } σ H3 x v vl vu l u s3.heap.objs.size Q I4 r1 (Heap.IsSliceOf.new ..) pl pu q3
  show wpAny (model X.prog X.w) X.A (subscriptTail e (.Slice lo hi none p2) v (.ref s3.heap.objs.size)) (EP X pins σ Q) X.xe { s3 with heap := s3.heap.push { cls := .type "slice", data := .fields #[vl, vu, .none] } }
  exact tail_any (ops := [.ref s3.heap.objs.size, v]) ht hT hg (by with_unfolding_all rfl)

def cutV (xs : List V) (lo hi : Option Int) : List V := (xs.drop (HT.sIx xs.length 0 lo)).take (HT.sIx xs.length xs.length hi - HT.sIx xs.length 0 lo)
theorem cutV_length (xs : List V) (lo hi : Option Int) : (cutV xs lo hi).length ≤ xs.length := by
  unfold cutV
  rw [List.length_take, List.length_drop]
  omega
end
end L2
namespace L2
open PySem PySem.Spec PyProof.Rows
def ixN (n : Nat) (i : Int) : Option Nat := if 0 ≤ i then (if i < n then some i.toNat else none) else if -(n : Int) ≤ i then some (i + n).toNat else none
def atI {α : Type} (xs : List α) (i : Int) : Option α := (ixN xs.length i).bind fun j => xs[j]?
theorem ixN_seq {n : Nat} {i : Int} {j : Nat} (h : ixN n i = some j) : seqIndex? i n = some j ∧ j < n ∧ -(n : Int) ≤ i ∧ i < n := by
  unfold ixN at h
  by_cases h0 : 0 ≤ i
  · rw [if_pos h0] at h
    by_cases h1 : i < n
    · rw [if_pos h1] at h
      have e : i.toNat = j := Option.some.inj h
      exact ⟨by rw [seqIndex_of h0 h1, e], by omega, by omega, h1⟩
    · rw [if_neg h1] at h; cases h
  · rw [if_neg h0] at h
    by_cases h1 : -(n : Int) ≤ i
    · rw [if_pos h1] at h
      have e : (i + n).toNat = j := Option.some.inj h
      exact ⟨by rw [seqIndex_neg (by omega) h1, e], by omega, h1, by omega⟩
    · rw [if_neg h1] at h; cases h
theorem atI_get {α : Type} {xs : List α} {i : Int} {v : α} (h : atI xs i = some v) : ∃ j, seqIndex? i xs.length = some j ∧ xs[j]? = some v ∧ j < xs.length ∧ -(xs.length : Int) ≤ i ∧ i < xs.length := by
  unfold atI at h
  cases e : ixN xs.length i with
  | none => rw [e] at h; cases h
  | some j =>
    rw [e] at h
    obtain ⟨h1, h2, h3, h4⟩ := ixN_seq e
    exact ⟨j, h1, h, h2, h3, h4⟩
theorem atI_nat {α : Type} {xs : List α} {j : Nat} {v : α} (h : xs[j]? = some v) : atI xs (j : Int) = some v := by
  have hj : j < xs.length := (List.getElem?_eq_some_iff.mp h).1
  have e : ixN xs.length (j : Int) = some j := by
    unfold ixN
    rw [if_pos (by omega), if_pos (by omega)]; simp
  unfold atI; rw [e]; exact h
def PlainIx (b : Expr) : Prop := ∀ o i, subscripted b false o i = operate [o, i] (getItem o i)
def IxR (X : Cx) (r : R2) : Prop :=
  ∀ (value slice : Expr) (pins : List (Addr × Obj)) (s : Shared) (σ : St) (H : Hp) (x y : V) (v u : Value) (Q : VK), Inv X pins σ H s → RelV x v → RelV y u → r x y H Q →
    subscripted slice false v u = operate [v, u] (getItem v u) → wpAny (model X.prog X.w) X.A (subscriptTail value slice v u) (EP X pins σ Q) X.xe s
def MtR (X : Cx) (id : String) (r : V → List V → Hp → VK → Prop) : Prop :=
  ∀ (pins : List (Addr × Obj)) (s : Shared) (σ : St) (H : Hp) (x : V) (xs : List V) (v : Value) (us : List Value) (Q : VK), Inv X pins σ H s → RelV x v → Vals xs us → r x xs H Q →
    wpAny (model X.prog X.w) X.A (call (.builtin id) (v :: us)) (EP X pins σ Q) X.xe s
section
variable {X : Cx} {a b : Expr} {ta tb : TE} {pos : Pos}
theorem pe_ix {r : R2} (hr : IxR X r) (ha : PE X a ta) (hb : PE X b tb) (hs : PlainIx b) : PE X (.Subscript a b pos) (tOp r ta tb) := by
  intro pins s σ H Q I h
  exact Subscript_ (binT ha hb I h fun v u s2 x y H2 I2 rx ry q => hr a b pins s2 σ H2 x y v u Q I2 rx ry q (hs _ _))

def rIxL (K : PySem.W.Frag) : R2 := fun x y H Q => ∃ p xs i v, x = .ref p ∧ y = .int i ∧ SqL K H p xs ∧ atI xs i = some v ∧ Q v H
def rIxT (K : PySem.W.Frag) : R2 := fun x y H Q => ∃ p xs i v, x = .ref p ∧ y = .int i ∧ SqT K H p xs ∧ atI xs i = some v ∧ Q v H
theorem ix_list : IxR X (rIxL X.K) := by
  intro value slice pins s σ H x y v u Q I rx ry h hs
  obtain ⟨p, xs, i, z, rfl, rfl, hq, he, q⟩ := h
  cases rx
  obtain ⟨t, rfl⟩ := ry
  obtain ⟨its, r, pl, hz⟩ := I.list hq
  obtain ⟨j, h1, h2, h3, h4, h5⟩ := atI_get he
  obtain ⟨w, ew, rw'⟩ := r.get h2
  have hl := r.length
  have hn := line63
  have fin : EP X pins σ Q w s := ⟨z, H, I, rw', q⟩
  by_cases h0 : 0 ≤ i
  · have hj : i.toNat = j := by
      rw [seqIndex_of h0 h5] at h1
      exact Option.some.inj h1
    exact item_listR pl.isList h0 (by omega) (by rw [hj]; simpa using ew) fin hs
  · have hj : (i + (its.toArray.size : Int)).toNat = j := by
      rw [seqIndex_neg (by omega) h4] at h1
      rw [List.size_toArray, ← hl]
      exact Option.some.inj h1
    exact subscriptTail_builtinR (x := w) pl.isList.typeIs slot_list_getitem.lookup
      (wpAny_getItem_list_neg (Q := fun r s' => r = w ∧ EP X pins σ Q r s') pl.isList (by omega) (by rw [List.size_toArray] <;> omega) (by omega) (by rw [hj]; simpa using ew) ⟨rfl, fin⟩) hs
theorem ix_tup : IxR X (rIxT X.K) := by
  intro value slice pins s σ H x y v u Q I rx ry h hs
  obtain ⟨p, xs, i, z, rfl, rfl, hq, he, q⟩ := h
  cases rx
  obtain ⟨t, rfl⟩ := ry
  obtain ⟨its, r, pl, hz⟩ := I.tuple hq
  obtain ⟨j, h1, h2, h3, h4, h5⟩ := atI_get he
  obtain ⟨w, ew, rw'⟩ := r.get h2
  have hl := r.length
  have hn := line63
  have fin : EP X pins σ Q w s := ⟨z, H, I, rw', q⟩
  exact subscriptTail_builtinR (x := w) pl.typeIs slot_tuple_getitem.lookup
    (getItem_tuple (j := j) (Q := fun r s' => r = w ∧ EP X pins σ Q r s') pl (by omega) (by omega) (by rw [List.size_toArray, ← hl]; exact h1) (by simpa using ew) ⟨rfl, fin⟩) hs
theorem mapSeq_set (its : List Value) (n j : Nat) (u : Value) : Obj.mapSeq (·.setIfInBounds j u) { cls := .type "list", data := .seq its.toArray n } = { cls := .type "list", data := .seq (its.set j u).toArray n } := by
  simp [Obj.mapSeq]
theorem Inv.lst {pins : List (Addr × Obj)} {σ : St} {H : Hp} {s : Shared} {p : Addr} {xs : List V} (I : Inv X pins σ H s) (h : H p = some (.lst xs)) :
    ∃ (its : List Value) (n : Nat), Vals xs its ∧ s.heap.get? p = some { cls := .type "list", data := .seq its.toArray n } ∧ xs.length ≤ sizeLine := by
  obtain ⟨z, its, n, r, e⟩ := I.hok p _ h
  exact ⟨its, n, r, e, z⟩
theorem Inv.lstUpd {pins : List (Addr × Obj)} {σ : St} {H : Hp} {s : Shared} {p : Addr} {xs ys : List V} {its its' : List Value} {n n' : Nat} {f : Obj → Obj} (I : Inv X pins σ H s) (h : H p = some (.lst xs))
    (ho : s.heap.get? p = some { cls := .type "list", data := .seq its.toArray n }) (hf : f { cls := .type "list", data := .seq its.toArray n } = { cls := .type "list", data := .seq its'.toArray n' }) (r : Vals ys its') (hz : ys.length ≤ sizeLine) (t : Nat) :
    Inv X pins σ (upd H p (.lst ys)) { s with heap := s.heap.update p f, toks := t } := by
  have e : (s.heap.update p f).get? p = some { cls := .type "list", data := .seq its'.toArray n' } := by
    rw [Heap.get?_update_self f ho (by rw [hf] <;> rfl), hf]
  refine I.write (x := p) (e := p) (by rw [h]; trivial) (.inl rfl) (fun b u hb q => (Heap.get?_update_other _ _ (Ne.symm hb)).trans q) ⟨_, e⟩ ?_
  exact ⟨hz, its', n', r, e⟩
def rSetL : V → V → V → Hp → (Hp → Prop) → Prop := fun o i v H Q => ∃ p xs k j, o = .ref p ∧ i = .int k ∧ H p = some (.lst xs) ∧ ixN xs.length k = some j ∧ Q (upd H p (.lst (xs.set j v)))
theorem set_list : PSet X rSetL := by
  intro pins s σ H o i v ov iv u Q I ro ri rv h
  obtain ⟨p, xs, k, j, rfl, rfl, hp, hj, q⟩ := h
  cases ro
  obtain ⟨t, rfl⟩ := ri
  obtain ⟨its, n, r, ho, hz⟩ := I.lst hp
  obtain ⟨h1, h2, h3, h4⟩ := ixN_seq hj
  have hl := r.length
  have hn := line63
  have I' : Inv X pins σ (upd H p (.lst (xs.set j v))) { s with heap := s.heap.update p (Obj.mapSeq (·.setIfInBounds j u)) } :=
    I.lstUpd hp ho (mapSeq_set its n j u) (r.set rv j) (by rw [List.length_set]; exact hz) s.toks
  by_cases h0 : 0 ≤ k
  · have hk : k.toNat = j := by
      rw [seqIndex_of h0 h4] at h1
      exact Option.some.inj h1
    exact PySem.W.ki_setAt ho h0 (by omega) (by rw [List.size_toArray, ← hl]; exact h4) (by rw [hk]; exact ⟨_, I', q⟩)
  · have hk : (k + (its.toArray.size : Int)).toNat = j := by
      rw [seqIndex_neg (by omega) h3] at h1
      rw [List.size_toArray, ← hl]
      exact Option.some.inj h1
    exact PySem.W.ki_setBack ho (by omega) (by rw [List.size_toArray, ← hl]; exact h3) (by omega) (by rw [hk]; exact ⟨_, I', q⟩)

theorem slice_bounds (lo hi : Option Int) (n : Nat) : (sliceBounds lo hi none n).1 = ((HT.sIx n 0 lo : Nat) : Int) ∧ (sliceBounds lo hi none n).2.1 = ((HT.sIx n n hi : Nat) : Int) ∧ (sliceBounds lo hi none n).2.2 = 1 := by
  refine ⟨?_, ?_, rfl⟩
  · cases lo with
    | none => simp [sliceBounds, HT.sIx]
    | some i =>
      simp only [sliceBounds, HT.sIx, Option.getD_none, show (1 : Int) > 0 by decide, if_true]
      by_cases h : i < 0
      · simp only [h, if_true] <;> omega
      · simp only [h, if_false] <;> omega
  · cases hi with
    | none => simp [sliceBounds, HT.sIx]
    | some i =>
      simp only [sliceBounds, HT.sIx, Option.getD_none, show (1 : Int) > 0 by decide, if_true]
      by_cases h : i < 0
      · simp only [h, if_true] <;> omega
      · simp only [h, if_false] <;> omega
theorem slicePick_cut (its : List Value) (lo hi : Option Int) : slicePick its.toArray lo hi none = ((its.drop (HT.sIx its.length 0 lo)).take (HT.sIx its.length its.length hi - HT.sIx its.length 0 lo)).toArray := by
  obtain ⟨h1, h2, h3⟩ := slice_bounds lo hi its.toArray.size
  unfold slicePick
  rw [h1, h2, h3]
  simp only [sliceRange_one, pick_run, List.size_toArray] <;> rfl
def rSlL (K : PySem.W.Frag) : V → Option Int → Option Int → Hp → VK → Prop := fun x lo hi H Q => ∃ a xs, x = .ref a ∧ SqL K H a xs ∧ ∀ p, H p = none → Q (.ref p) (upd H p (.lst (cutV xs lo hi)))
theorem sl_list : SlR X (rSlL X.K) := by
  intro pins s σ H x v vl vu lo hi sl Q I rx hs pl pu h
  obtain ⟨a, xs, rfl, hx, q⟩ := h
  cases rx
  obtain ⟨its, r, ht, hz⟩ := I.list hx
  have hlen := r.length
  refine ⟨"list", _, slot_list_getitem.lookup, ht.isList.typeIs, ?_⟩
  refine wpAny_getItem_list_slice ht.isList hs pl pu .none (by simp) ?_ (by rw [List.size_toArray] <;> omega)
  rw [slicePick_cut, ← hlen]
  refine ⟨.ref s.heap.objs.size, _, I.laid (t' := s.toks) (o := .lst (cutV xs lo hi)) (fun b ob q => Heap.get?_push_of_some _ q) (Nat.le_refl _) ?_, rfl, q _ (I.hok.fresh (Nat.le_refl _))⟩
  exact ⟨Nat.le_trans (cutV_length xs lo hi) hz, _, 0, (r.drop (HT.sIx xs.length 0 lo)).take (HT.sIx xs.length xs.length hi - HT.sIx xs.length 0 lo), Heap.get?_push_size _ rfl⟩

def flatV : V → Bool
  | .non => true
  | .bl _ => true
  | .int _ => true
  | .str _ => true
  | _ => false
def eqV : V → V → Bool
  | .non, .non => true
  | .bl a, .bl b => a == b
  | .bl a, .int b => (if a then 1 else 0) == b
  | .int a, .bl b => a == (if b then 1 else 0)
  | .int a, .int b => a == b
  | .str a, .str b => a == b
  | _, _ => false
theorem eqAt_V {A : Around} {s : Shared} {y x : V} {u v : Value} (ry : RelV y u) (rx : RelV x v) (fy : flatV y = true) (fx : flatV x = true) : SeqAt.EqAt A s u v (eqV y x) := by
  cases y with
  | non =>
    cases ry
    cases x with
    | non => cases rx; exact SeqAt.EqAt.same _
    | bl b => cases rx; exact SeqAt.EqAt.none_bool b
    | int b => obtain ⟨t, rfl⟩ := rx; exact SeqAt.EqAt.none_int b t
    | str b => obtain ⟨t, rfl⟩ := rx; exact SeqAt.EqAt.none_str b t
    | _ => exact absurd (show false = true from fx) Bool.false_ne_true
  | bl a =>
    cases ry
    cases x with
    | non => cases rx; exact SeqAt.EqAt.bool_none a
    | bl b => cases rx; exact SeqAt.EqAt.bool_bool a b
    | int b => obtain ⟨t, rfl⟩ := rx; exact SeqAt.EqAt.bool_int a b t
    | str b => obtain ⟨t, rfl⟩ := rx; exact SeqAt.EqAt.bool_str a b t
    | _ => exact absurd (show false = true from fx) Bool.false_ne_true
  | int a =>
    obtain ⟨t', rfl⟩ := ry
    cases x with
    | non => cases rx; exact SeqAt.EqAt.int_none a t'
    | bl b => cases rx; exact SeqAt.EqAt.int_bool a t' b
    | int b => obtain ⟨t, rfl⟩ := rx; exact SeqAt.EqAt.int_int a t' b t
    | str b => obtain ⟨t, rfl⟩ := rx; exact SeqAt.EqAt.int_str a t' b t
    | _ => exact absurd (show false = true from fx) Bool.false_ne_true
  | str a =>
    obtain ⟨t', rfl⟩ := ry
    cases x with
    | non => cases rx; exact SeqAt.EqAt.str_none a t'
    | bl b => cases rx; exact SeqAt.EqAt.str_bool a t' b
    | int b => obtain ⟨t, rfl⟩ := rx; exact SeqAt.EqAt.str_int a t' b t
    | str b => obtain ⟨t, rfl⟩ := rx; exact SeqAt.EqAt.str_str a t' b t
    | _ => exact absurd (show false = true from fx) Bool.false_ne_true
  | _ => exact absurd (show false = true from fy) Bool.false_ne_true
def eqU (x : V) (u : Value) : Bool := match u with
  | .none => eqV .non x
  | .bool b => eqV (.bl b) x
  | .int i _ => eqV (.int i) x
  | .str z _ => eqV (.str z) x
  | _ => false
theorem eqU_of {x y : V} {u : Value} (r : RelV y u) (f : flatV y = true) : eqU x u = eqV y x := by
  cases y with
  | non => cases r; rfl
  | bl b => cases r; rfl
  | int i => obtain ⟨t, rfl⟩ := r; rfl
  | str z => obtain ⟨t, rfl⟩ := r; rfl
  | _ => exact absurd (show false = true from f) Bool.false_ne_true
theorem mem_eqAt {A : Around} {s : Shared} {x : V} {v : Value} (rx : RelV x v) (fx : flatV x = true) : ∀ {xs : List V} {us : List Value}, Vals xs us → xs.all flatV = true → ∀ u ∈ us, SeqAt.EqAt A s u v (eqU x u)
  | _, _, .nil, _ => fun u hu => by cases hu
  | y :: xs, u :: us, .cons r t, f => fun u' hu => by
    rw [List.all_cons, Bool.and_eq_true] at f
    rcases List.mem_cons.mp hu with rfl | hu
    · rw [eqU_of r f.1]; exact eqAt_V r rx f.1 fx
    · exact mem_eqAt rx fx t f.2 u' hu
theorem call_len_seq : CallR X (.builtin "len") (fun xs H Q => ∃ p ys, xs = [.ref p] ∧ (SqL X.K H p ys ∨ SqT X.K H p ys) ∧ Q (.int ys.length) H) := by
  intro pins s σ H xs us Q I r h
  obtain ⟨p, ys, rfl, hq, q⟩ := h
  obtain ⟨u, rfl, rx⟩ := vals1 r
  cases rx
  have hn := line63
  rcases hq with hq | hq
  · obtain ⟨its, r', pl, hz⟩ := I.list hq
    have hlen := r'.length
    exact Calls.call_len_list pl.isList (by simp only [List.size_toArray] <;> omega) ⟨.int ys.length, H, I.tok _, ⟨s.toks + 1, by rw [List.size_toArray, hlen]⟩, q⟩
  · obtain ⟨its, r', pl, hz⟩ := I.tuple hq
    have hlen := r'.length
    exact len_tuple pl (by simp only [List.size_toArray] <;> omega) ⟨.int ys.length, H, I.tok _, ⟨s.toks + 1, by rw [List.size_toArray, hlen]⟩, q⟩
theorem call_list_of : CallR X (.type "list") (fun xs H Q => ∃ p ys, xs = [.ref p] ∧ (SqL X.K H p ys ∨ SqT X.K H p ys) ∧ ∀ l, H l = none → Q (.ref l) (upd H l (.lst ys))) := by
  intro pins s σ H xs us Q I r h
  obtain ⟨p, ys, rfl, hq, q⟩ := h
  obtain ⟨u, rfl, rx⟩ := vals1 r
  cases rx
  have fin : ∀ (its : List Value), Vals ys its → ys.length ≤ sizeLine → ∀ (h' : Heap) (c' : Nat), (∀ b o', s.heap.get? b = some o' → h'.get? b = some o') →
      h'.get? s.heap.objs.size = some { cls := .type "list", dict := none, data := .seq its.toArray c', slots := #[] } → EP X pins σ Q (.ref s.heap.objs.size) { s with heap := h' } := fun its r' hz h' c' kp e =>
    ⟨.ref s.heap.objs.size, _, I.laid (t' := s.toks) kp (Nat.le_refl _) (show ObjOk X.prog X.w _ h' _ (.lst ys) from ⟨hz, its, c', r', e⟩), rfl, q _ (I.hok.fresh (Nat.le_refl _))⟩
  rcases hq with hq | hq
  · obtain ⟨its, r', pl, hz⟩ := I.list hq
    have hlen := r'.length
    obtain ⟨o, ho, hc, n, hd⟩ := pl.isList
    exact call_list_seq p (.inl rfl) ho hc hd (fun h' c' kp e => fin its r' hz h' c' kp e) (by simp only [List.size_toArray] <;> omega)
  · obtain ⟨its, r', pl, hz⟩ := I.tuple hq
    have hlen := r'.length
    obtain ⟨o, ho, hc, n, hd⟩ := pl
    exact call_list_seq p (.inr rfl) ho hc hd (fun h' c' kp e => fin its r' hz h' c' kp e) (by simp only [List.size_toArray] <;> omega)
def tyV (K : PySem.W.Frag) (T : String) (x : V) (H : Hp) : Prop := match x with
  | .str _ => T = "str"
  | .int _ => T = "int"
  | .ref p => (T = "list" ∧ ∃ xs, SqL K H p xs) ∨ (T = "tuple" ∧ ∃ o, K.lookup p = some o ∧ o.cls = .type "tuple" ∧ o.dict = none) ∨
      (T = "dict" ∧ ((∃ kvs, H p = some (.dK kvs)) ∨ ∃ kvs, H p = some (.dT kvs))) ∨ (T = "set" ∧ ∃ S n, H p = some (.set S n))
  | _ => False
theorem tyV_is {pins : List (Addr × Obj)} {σ : St} {H : Hp} {s : Shared} {T : String} {x : V} {v : Value} (I : Inv X pins σ H s) (r : RelV x v) (ty : tyV X.K T x H) :
    s.TypeIs v T ∧ ∀ a, v = .ref a → ∃ ob, s.heap.get? a = some ob ∧ ob.dict = none := by
  cases x with
  | str z =>
    obtain ⟨t, rfl⟩ := r
    cases (show T = "str" from ty)
    exact ⟨typeIs_str s z t, fun _ e => nomatch e⟩
  | int i =>
    obtain ⟨t, rfl⟩ := r
    cases (show T = "int" from ty)
    exact ⟨typeIs_int s i t, fun _ e => nomatch e⟩
  | ref p =>
    cases r
    rcases ty with ⟨rfl, xs, hq⟩ | ⟨rfl, o, hk, hc, hd⟩ | ⟨rfl, hk⟩ | ⟨rfl, S, n, hk⟩
    · obtain ⟨its, _, pl, _⟩ := I.list hq
      refine ⟨pl.isList.typeIs, fun a e => ?_⟩
      cases e
      obtain ⟨o, n, e, c, hd, _⟩ := pl
      exact ⟨o, e, hd⟩
    · refine ⟨⟨o, I.kIn p o hk, hc⟩, fun a e => ?_⟩
      cases e
      exact ⟨o, I.kIn _ o hk, hd⟩
    · have z : ∃ o, s.heap.get? p = some o ∧ o.ExactDict := by
        rcases hk with ⟨kvs, hk⟩ | ⟨kvs, hk⟩
        · obtain ⟨_, _, _, _, o, _, _, e, ex, _⟩ := I.hok p _ hk
          exact ⟨o, e, ex⟩
        · obtain ⟨_, _, _, _, o, _, _, e, ex, _⟩ := I.hok p _ hk
          exact ⟨o, e, ex⟩
      obtain ⟨o, e, ex⟩ := z
      refine ⟨⟨o, e, ex.1⟩, fun a e2 => ?_⟩
      cases e2
      exact ⟨o, e, ex.2.1⟩
    · obtain ⟨o, _, _, _, e, ex, _⟩ := I.hok p _ hk
      refine ⟨⟨o, e, ex.1⟩, fun a e2 => ?_⟩
      cases e2
      exact ⟨o, e, ex.2.1⟩
  | _ => exact False.elim ty
def tBM (K : PySem.W.Frag) (T : String) (r : V → List V → Hp → VK → Prop) (to : TE) (t : TA) : TE := fun σ H Q => to σ H fun x H1 => tyV K T x H1 ∧ t σ H1 fun xs H2 => r x xs H2 Q
variable {o e : Expr} {es : List Expr} {to : TE} {t : TA} {name : Str} {apos cpos : Pos} {T id : String} {r : V → List V → Hp → VK → Prop}
theorem pe_bm (pa : PlainAttrs T) (slot : Slot T name id) (hty : typeOf (.builtin id) = pure (.type "method_descriptor")) (hm : MtR X id r) (ho : PE X o to) (ha : PA X (e :: es) t)
    (hbase : attributeBase o name X.env (eval o X.env) = eval o X.env := by rfl)
    (hfew : ((backTo cpos (starEach (e :: es) X.env)).all (fun x => !x.1) && (backToKw cpos (keywordEach [] X.env)).all (fun x => x.1.isSome)
      && decide ((e :: es).length + ([] : List Keyword).length + (if ([] : List Keyword).isEmpty then 0 else 1) < 30)) = true := by rfl)
    (hline : (apos.endLine == cpos.line) = true := by rfl) (hs : starEach (e :: es) X.env = (false, eval e X.env) :: starEach es X.env := by rfl) (hplain : (backTo cpos (starEach es X.env)).any (·.1) = false := by rfl) :
    PE X (.Call (.Attribute o name apos) (e :: es) [] cpos) (tBM X.K T r to t) := by
  intro pins s σ H Q I h
  refine wpAny_Call_method_late hbase hfew hline rfl (thn (ho pins s σ H _ I h) fun v s1 ⟨x, H1, I1, r1, ty, q1⟩ => ?_)
  obtain ⟨h1, h2⟩ := tyV_is I1 r1 ty
  refine ⟨T, id, pa, slot, hty, h1, h2, ?_⟩
  have hA := ha cpos pins s1 σ H1 _ I1 q1
  rw [hs] at hA ⊢
  refine Calls.callWith_builtin (by show (false || (backTo cpos (starEach es X.env)).any (·.1)) = false; rw [hplain] <;> rfl) (Calls.evalArgs_plain ?_)
  exact thn hA fun us s2 ⟨vs, H2, I2, r2, q2⟩ => hm pins s2 σ H2 x vs v us Q I2 r1 r2 q2
end
end L2
namespace L2
open PySem PySem.Spec PyProof.Rows
def MtM (X : Cx) (id : String) (r : V → List V → Hp → VK → Prop) : Prop :=
  ∀ (pins : List (Addr × Obj)) (s : Shared) (σ : St) (H : Hp) (x : V) (xs : List V) (v : Value) (us : List Value) (Q : VK), Inv X pins σ H s → RelV x v → Vals xs us → r x xs H Q →
    wpAny (model X.prog X.w) X.A (call (.builtin id) (v :: us)) (EP X pins σ Q) X.xe s

theorem Vals.one : ∀ {x : V} {us : List Value}, Vals [x] us → ∃ u, us = [u] ∧ RelV x u
  | _, _, .cons r .nil => ⟨_, rfl, r⟩
theorem Vals.zero : ∀ {us : List Value}, Vals [] us → us = []
  | _, .nil => rfl
theorem Vals.rep {xs : List V} {us : List Value} (h : Vals xs us) : ∀ k : Nat, Vals (List.replicate k xs).flatten (List.replicate k us).flatten
  | 0 => .nil
  | k + 1 => by
    rw [List.replicate_succ, List.replicate_succ, List.flatten_cons, List.flatten_cons]
    exact Vals.append h (Vals.rep h k)
theorem foldl_rep (its : List Value) : ∀ (k : Nat) (acc : List Value),
    List.foldl (fun x1 x2 => x1 ++ x2) acc.toArray (List.replicate k its.toArray) = (acc ++ (List.replicate k its).flatten).toArray
  | 0, acc => by simp
  | k + 1, acc => by
    have e : acc.toArray ++ its.toArray = (acc ++ its).toArray := by simp
    have e2 : (acc ++ its) ++ (List.replicate k its).flatten = acc ++ (List.replicate (k + 1) its).flatten := by
      rw [List.replicate_succ, List.flatten_cons, List.append_assoc]
    rw [← e2, ← foldl_rep its k (acc ++ its), ← e, List.replicate_succ, List.foldl_cons]

section
variable {X : Cx} {pins : List (Addr × Obj)} {σ : St} {H : Hp} {s : Shared} {l b : Addr} {xs ys zs : List V}
theorem Inv.lset {its its' : List Value} {n : Nat} {f : Array Value → Array Value} {t' : Nat} (I : Inv X pins σ H s) (hH : H l = some (.lst xs))
    (e : s.heap.get? l = some { cls := .type "list", data := .seq its.toArray n }) (hf : f its.toArray = its'.toArray) (hv : Vals ys its') (hz : ys.length ≤ sizeLine) :
    Inv X pins σ (upd H l (.lst ys)) { s with heap := s.heap.update l (Obj.mapSeq f), toks := t' } := by
  have q := PySem.IsL.update e f
  rw [hf] at q
  refine I.write (x := l) (e := l) (by rw [hH]; exact trivial) (.inl rfl) (fun b' u hb hu => (Heap.get?_update_other s.heap (Obj.mapSeq f) (Ne.symm hb)).trans hu) ⟨_, q⟩ ?_
  exact ⟨hz, its', _, hv, q⟩
theorem Inv.lnew {its : List Value} {t' : Nat} (I : Inv X pins σ H s) (hv : Vals ys its) (hz : ys.length ≤ sizeLine) :
    Inv X pins σ (upd H s.heap.objs.size (.lst ys)) { s with heap := s.heap.push { cls := .type "list", data := .seq its.toArray }, toks := t' } :=
  I.laid (fun _ _ q => Heap.get?_push_of_some _ q) (Nat.le_refl _) ⟨hz, its, 0, hv, Heap.get?_push_size _ rfl⟩
theorem Inv.fresh (I : Inv X pins σ H s) : H s.heap.objs.size = none := I.hok.fresh (Nat.le_refl _)
theorem Inv.lstM (I : Inv X pins σ H s) (hH : H l = some (.lst xs)) : xs.length ≤ sizeLine ∧ ∃ (its : List Value) (n : Nat), Vals xs its ∧ xs.length = its.length ∧ s.heap.get? l = some { cls := .type "list", data := .seq its.toArray n } := by
  obtain ⟨z, its, n, r, e⟩ := I.hok l _ hH
  exact ⟨z, its, n, r, r.length, e⟩

theorem notLongL {n : Nat} (h : n ≤ sizeLine) : Builtin.List.listTooLong n = false := by
  unfold Builtin.List.listTooLong
  exact decide_eq_false (by omega)
end
section
variable {X : Cx}
def rAppend : V → List V → Hp → VK → Prop := fun x vs H Q => ∃ l xs y, x = .ref l ∧ vs = [y] ∧ H l = some (.lst xs) ∧ xs.length < sizeLine ∧ Q .non (upd H l (.lst (xs ++ [y])))
theorem mt_append : MtM X "list.append" rAppend := by
  intro pins s σ H x vs v us Q I rx rv h
  obtain ⟨l, xs, y, rfl, rfl, hH, hz, q⟩ := h
  cases rx
  obtain ⟨u, rfl, ru⟩ := rv.one
  obtain ⟨z, its, n, r, hl, e⟩ := I.lstM hH
  refine call_meets F.slot_list_append ⟨_, e, rfl⟩ F.entry_list_append (F.args_list_append_2 _ _) (PySem.list_append l its.toArray n u (by rw [List.size_toArray]; omega)) ⟨e, ?_⟩
  refine ⟨.non, _, I.lset (its' := its ++ [u]) hH e (by simp) (r.append (.cons ru .nil)) ?_, rfl, q⟩
  rw [List.length_append, List.length_singleton]
  omega

def rExtend : V → List V → Hp → VK → Prop := fun x vs H Q => ∃ l b xs zs, x = .ref l ∧ vs = [.ref b] ∧ H l = some (.lst xs) ∧ H b = some (.lst zs) ∧ xs.length + zs.length ≤ sizeLine ∧ Q .non (upd H l (.lst (xs ++ zs)))
theorem mt_extend : MtM X "list.extend" rExtend := by
  intro pins s σ H x vs v us Q I rx rv h
  obtain ⟨l, b, xs, zs, rfl, rfl, hH, hB, hz, q⟩ := h
  cases rx
  obtain ⟨u, rfl, ru⟩ := rv.one
  cases ru
  obtain ⟨z, its, n, r, hl, e⟩ := I.lstM hH
  obtain ⟨z2, its2, n2, r2, hl2, e2⟩ := I.lstM hB
  have hsz : its.toArray.size + its2.toArray.size ≤ sizeLine := by rw [List.size_toArray, List.size_toArray]; omega
  have hlong : ¬ (!its.toArray.isEmpty && Builtin.List.listTooLong (its.toArray.size + its2.toArray.size)) = true := by
    rw [notLongL hsz, Bool.and_false]
    exact Bool.false_ne_true
  refine call_meets F.slot_list_extend ⟨_, e, rfl⟩ F.entry_list_extend (F.args_list_extend_2 _ _)
    (AutoSeq1.list_extend_list_list_0 l its.toArray n b its2.toArray n2 hlong (by rw [List.size_toArray]; omega) (by omega)) ⟨e, e2, ?_⟩
  refine ⟨.non, _, I.lset (its' := its ++ its2) hH e (by simp) (r.append r2) ?_, rfl, q⟩
  rw [List.length_append]
  omega

def rCat : R2 := fun x y H Q => ∃ l b xs zs, x = .ref l ∧ y = .ref b ∧ H l = some (.lst xs) ∧ H b = some (.lst zs) ∧ xs.length + zs.length ≤ sizeLine ∧ ∀ p, H p = none → Q (.ref p) (upd H p (.lst (xs ++ zs)))
theorem op_cat : OpR X (binaryOp .Add) rCat := by
  intro pins s σ H x y v u Q I rx ry h
  obtain ⟨l, b, xs, zs, rfl, rfl, hH, hB, hz, q⟩ := h
  cases rx
  cases ry
  obtain ⟨z, its, n, r, hl, e⟩ := I.lstM hH
  obtain ⟨z2, its2, n2, r2, hl2, e2⟩ := I.lstM hB
  refine PySem.P.add_list e e2 ?_ (by rw [List.size_toArray, List.size_toArray]; omega)
  have ea : its.toArray ++ its2.toArray = (its ++ its2).toArray := by simp
  rw [ea]
  exact ⟨.ref _, _, I.lnew (t' := s.toks) (r.append r2) (by rw [List.length_append]; omega), rfl, q _ I.fresh⟩
def rRep : R2 := fun x y H Q => ∃ l k xs, x = .ref l ∧ y = .int k ∧ H l = some (.lst xs) ∧ -(2 ^ 63) ≤ k ∧ k < 2 ^ 63 ∧ xs.length * k.toNat ≤ sizeLine ∧
  ∀ p, H p = none → Q (.ref p) (upd H p (.lst (List.replicate k.toNat xs).flatten))
theorem len_rep {α : Type} (xs : List α) (k : Nat) : (List.replicate k xs).flatten.length = k * xs.length := by
  induction k with
  | zero => simp
  | succ k ih => rw [List.replicate_succ, List.flatten_cons, List.length_append, ih, Nat.succ_mul, Nat.add_comm]
theorem op_rep : OpR X (binaryOp .Mult) rRep := by
  intro pins s σ H x y v u Q I rx ry h
  obtain ⟨l, k, xs, rfl, rfl, hH, h1, h2, hz, q⟩ := h
  cases rx
  obtain ⟨t, rfl⟩ := ry
  obtain ⟨z, its, n, r, hl, e⟩ := I.lstM hH
  have hlen : its.toArray.size * k.toNat ≤ sizeLine := by rw [List.size_toArray, ← hl]; exact hz
  have hcap : ¬ its.toArray.size * k.toNat > (2 ^ 63 - 1) / 8 := by
    have : (sizeLine : Nat) ≤ (2 ^ 63 - 1) / 8 := by decide
    omega
  have hfit : ¬ (!Builtin.List.listFitsIndex k) = true := by
    rw [fitsIndex_both h1 h2]
    exact Bool.false_ne_true
  have hlong : ¬ Builtin.List.listTooLong (its.toArray.size * k.toNat) = true := by
    rw [notLongL hlen]
    exact Bool.false_ne_true
  have hnew : List.foldl (fun x1 x2 => x1 ++ x2) #[] (List.replicate (if its.toArray.isEmpty = true then 0 else k.toNat) its.toArray) = (List.replicate k.toNat its).flatten.toArray := by
    have f0 : ∀ m : Nat, List.foldl (fun x1 x2 => x1 ++ x2) #[] (List.replicate m its.toArray) = (List.replicate m its).flatten.toArray := fun m => by
      have := foldl_rep its m []
      rw [List.nil_append] at this
      exact this
    rw [f0]
    cases its with
    | nil => simp
    | cons a r' => rw [if_neg (by simp)]
  refine wpAny_binaryOp_repeat_ref (T := "list") (U := "int") (by decide) ⟨_, e, rfl⟩ (fun s' => typeIs_int s' k t) noFill_list_mul F.fills_int_mul F.slot_int_rmul repeat_list F.slot_int_index.lookup
    (call_meets F.slot_int_rmul (typeIs_int s k t) F.entry_int_rmul (F.args_int_rmul_2 _ _) (int___rmul___int_list k t l its.toArray n)
      ⟨e, rfl, ⟨_, e, rfl⟩, call_meets F.slot_list_mul ⟨_, e, rfl⟩ F.entry_list_mul (F.args_list_mul_2 _ _) (AutoListH.list___mul___list_int_3 l its.toArray n k t hfit hcap hlong) ⟨e, ?_⟩⟩)
  rw [hnew]
  exact ⟨.ref _, _, I.lnew (t' := s.toks) (r.rep k.toNat) (by rw [len_rep, Nat.mul_comm]; exact hz), rfl, q _ I.fresh⟩

end
section
variable {prog : Program} {w : World} {A : Around} {E : Value → Shared → Prop} {s : Shared}
end
section
variable {X : Cx}
end
end L2
namespace L2
open PySem PySem.Spec PyProof.Rows
theorem Vals.ints : ∀ {ns : List Int} {us : List Value}, Vals (ns.map V.int) us → IntsAre us ns
  | [], us, h => by
    rw [List.map_nil] at h
    cases h
    exact IntsAre.nil
  | n :: ns, us, h => by
    rw [List.map_cons] at h
    cases h with
    | cons r t =>
      obtain ⟨k, rfl⟩ := r
      exact IntsAre.cons n k (Vals.ints t)
theorem Vals.bls : ∀ {bs : List Bool} {us : List Value}, Vals (bs.map V.bl) us → us = bs.map Value.bool
  | [], us, h => by
    rw [List.map_nil] at h
    cases h
    rfl
  | b :: bs, us, h => by
    rw [List.map_cons] at h
    cases h with
    | cons r t =>
      cases r
      rw [Vals.bls t, List.map_cons]
theorem Vals.ref1 {a : Addr} {us : List Value} (r : Vals [V.ref a] us) : us = [Value.ref a] := by
  cases r with
  | cons r t =>
    cases t
    cases r
    rfl
section
variable {prog : Program} {w : World} {A : Around} {E : Value → Shared → Prop} {s : Shared} {l : Addr} {its : List Value} {ns : List Int} {Q : Value → Shared → Prop}
theorem sum_raw (hh : A.handled = none) (hl : s.heap.IsList l its.toArray) (hi : IntsAre its ns)
    (h : ∀ h' tk t', (∀ b o, s.heap.get? b = some o → h'.get? b = some o) → Q (.int ns.sum t') { s with heap := h', toks := tk }) : wpAny (model prog w) A (call (.builtin "sum") [.ref l]) Q E s := by
  obtain ⟨xs, e⟩ := hi.allInts.items
  have hn : numsOf (intItems xs).toList = ns := by rw [← e]; exact hi.numsOf
  rw [nums_intItems] at hn
  rw [e] at hl
  refine PySem.sum_intListG hh hl fun h' tk t' hk => ?_
  have := h h' tk t' hk
  rw [preSum_eq, List.take_of_length_le (by simp), hn]; exact this
theorem max_raw (hh : A.handled = none) (hl : s.heap.IsList l its.toArray) (hi : IntsAre its ns) (hne : 0 < ns.length)
    (h : ∀ h' tk M t', (∀ b o, s.heap.get? b = some o → h'.get? b = some o) → M ∈ ns → (∀ a, a ∈ ns → a ≤ M) → Q (.int M t') { s with heap := h', toks := tk }) : wpAny (model prog w) A (call (.builtin "max") [.ref l]) Q E s := by
  obtain ⟨xs, e⟩ := hi.allInts.items
  have hn : numsOf (intItems xs).toList = ns := by rw [← e]; exact hi.numsOf
  rw [nums_intItems] at hn
  subst hn
  rw [e] at hl
  have hsz : 0 < xs.size := by simpa using hne
  refine PySem.max_intList hh hl hsz fun v h' tk hv hk => ?_
  obtain ⟨t, rfl⟩ := intItems_at hv
  obtain ⟨h1, h2⟩ := argBest_gt (numAt xs) (xs.size - 1)
  refine h h' tk _ t hk ?_ fun a ha => ?_
  · rw [numAt_eq]; exact PySem.getD_mem (by rw [List.length_map, Array.length_toList]; omega)
  · obtain ⟨j, hj, rfl⟩ := mem_getD ha
    rw [List.length_map, Array.length_toList] at hj
    rw [← numAt_eq]; exact h2 j (by omega)
theorem min_raw (hh : A.handled = none) (hl : s.heap.IsList l its.toArray) (hi : IntsAre its ns) (hne : 0 < ns.length)
    (h : ∀ h' tk M t', (∀ b o, s.heap.get? b = some o → h'.get? b = some o) → M ∈ ns → (∀ a, a ∈ ns → M ≤ a) → Q (.int M t') { s with heap := h', toks := tk }) : wpAny (model prog w) A (call (.builtin "min") [.ref l]) Q E s := by
  obtain ⟨xs, e⟩ := hi.allInts.items
  have hn : numsOf (intItems xs).toList = ns := by rw [← e]; exact hi.numsOf
  rw [nums_intItems] at hn
  subst hn
  rw [e] at hl
  have hsz : 0 < xs.size := by simpa using hne
  refine PySem.min_intList hh hl hsz fun v h' tk hv hk => ?_
  obtain ⟨t, rfl⟩ := intItems_at hv
  obtain ⟨h1, h2⟩ := argBest_lt (numAt xs) (xs.size - 1)
  refine h h' tk _ t hk ?_ fun a ha => ?_
  · rw [numAt_eq]; exact PySem.getD_mem (by rw [List.length_map, Array.length_toList]; omega)
  · obtain ⟨j, hj, rfl⟩ := mem_getD ha
    rw [List.length_map, Array.length_toList] at hj
    rw [← numAt_eq]; exact h2 j (by omega)
end
section
variable {X : Cx}
def rSum (K : PySem.W.Frag) : List V → Hp → VK → Prop := fun vs H Q => ∃ (a : Addr) (ns : List Int), vs = [V.ref a] ∧ SqL K H a (ns.map V.int) ∧ Q (.int ns.sum) H
def rMax (K : PySem.W.Frag) : List V → Hp → VK → Prop := fun vs H Q => ∃ (a : Addr) (ns : List Int), vs = [V.ref a] ∧ SqL K H a (ns.map V.int) ∧ 0 < ns.length ∧ ∀ m, m ∈ ns → (∀ y, y ∈ ns → y ≤ m) → Q (.int m) H
def rMin (K : PySem.W.Frag) : List V → Hp → VK → Prop := fun vs H Q => ∃ (a : Addr) (ns : List Int), vs = [V.ref a] ∧ SqL K H a (ns.map V.int) ∧ 0 < ns.length ∧ ∀ m, m ∈ ns → (∀ y, y ∈ ns → m ≤ y) → Q (.int m) H
theorem cr_sum (hc : X.calm = true) : CallR X (.builtin "sum") (rSum X.K) := by
  intro pins s σ H vs us Q I r h
  obtain ⟨a, ns, rfl, hs, q⟩ := h
  obtain ⟨its, rv, hl, _⟩ := I.list hs
  rw [Vals.ref1 r]
  exact sum_raw (I.ok.hd hc) hl.isList rv.ints fun h' tk t' hk => ⟨.int _, H, I.kept hk, ⟨_, rfl⟩, q⟩
theorem cr_max (hc : X.calm = true) : CallR X (.builtin "max") (rMax X.K) := by
  intro pins s σ H vs us Q I r h
  obtain ⟨a, ns, rfl, hs, hne, q⟩ := h
  obtain ⟨its, rv, hl, _⟩ := I.list hs
  rw [Vals.ref1 r]
  exact max_raw (I.ok.hd hc) hl.isList rv.ints hne fun h' tk m t' hk h1 h2 => ⟨.int _, H, I.kept hk, ⟨_, rfl⟩, q m h1 h2⟩
theorem cr_min (hc : X.calm = true) : CallR X (.builtin "min") (rMin X.K) := by
  intro pins s σ H vs us Q I r h
  obtain ⟨a, ns, rfl, hs, hne, q⟩ := h
  obtain ⟨its, rv, hl, _⟩ := I.list hs
  rw [Vals.ref1 r]
  exact min_raw (I.ok.hd hc) hl.isList rv.ints hne fun h' tk m t' hk h1 h2 => ⟨.int _, H, I.kept hk, ⟨_, rfl⟩, q m h1 h2⟩

end
section
variable {X : Cx}
def rIndex (K : PySem.W.Frag) : V → List V → Hp → VK → Prop := fun x xs H Q => ∃ (a : Addr) (ys : List V) (y : V) (j : Nat) (z : V), x = V.ref a ∧ xs = [y] ∧ SqL K H a ys ∧ flatV y = true ∧ ys.all flatV = true ∧ ys[j]? = some z ∧ eqV z y = true ∧
  (∀ (m : Nat) (z' : V), m < j → ys[m]? = some z' → eqV z' y = false) ∧ Q (.int (j : Nat)) H
theorem flat_at {ys : List V} (f : ys.all flatV = true) {j : Nat} {z : V} (h : ys[j]? = some z) : flatV z = true := List.all_eq_true.mp f z (List.mem_of_getElem? h)
theorem mt_index : MtR X "list.index" (rIndex X.K) := by
  intro pins s σ H x xs v us Q I rx rxs h
  obtain ⟨a, ys, y, j, z, rfl, rfl, hs, fy, fys, hz, hzj, hno, q⟩ := h
  cases rx
  cases rxs with
  | cons ry rt =>
    rename_i uy ut
    cases rt
    obtain ⟨its, rv, ⟨⟨cls, dd, data, sl⟩, n, ho, hc, hdn, hd⟩, hlen⟩ := I.list hs
    simp only at hc hd
    subst hc hd
    obtain ⟨u, hu, ru⟩ := rv.get hz
    obtain ⟨hjl, hje⟩ := List.getElem?_eq_some_iff.mp hu
    have hvl := rv.length
    have hj : j < its.toArray.size := by simpa using hjl
    have hsl := sizeLine_eq
    refine call_meets PySem.F.slot_list_index ⟨_, ho, rfl⟩ PySem.F.entry_list_index (PySem.F.args_list_index_2 _ _)
      (SeqAt.list_indexAt a its.toArray n dd sl uy (eqU y) j hj (by omega) ?_ ?_) ⟨ho, fun u' hu' => mem_eqAt ry fy rv fys u' (by simpa using hu'), ?_⟩
    · have e1 : its.toArray[j] = u := by simpa using hje
      rw [e1, eqU_of ru (flat_at fys hz)]
      exact hzj
    · intro m hm hmj
      have hml : m < its.length := by simpa using hm
      have hmy : m < ys.length := by omega
      have hy' : ys[m]? = some ys[m] := List.getElem?_eq_getElem hmy
      obtain ⟨u2, hu2, ru2⟩ := rv.get hy'
      obtain ⟨_, hme⟩ := List.getElem?_eq_some_iff.mp hu2
      have e1 : its.toArray[m] = u2 := by simpa using hme
      rw [e1, eqU_of ru2 (flat_at fys hy')]
      exact hno m _ hmj hy'
    · exact ⟨.int (j : Nat), H, I.tok _, ⟨_, rfl⟩, q⟩
end
section
variable {X : Cx}
end
theorem iter_any {prog : Program} {w : World} {A : Around} {E : Value → Shared → Prop} {s : Shared} {l : Addr} {items : Array Value} {Q : Value → Shared → Prop} (hl : s.heap.IsList l items)
    (h : ∀ s₂ : Shared, s₂ = { s with heap := s.heap.push { cls := .type "list_iterator", data := .fields #[.ref l, .int 0 0] } } →
      (s₂.heap.IsListIter s.heap.objs.size l 0 ∧ s₂.heap.IsList l items) → l ≠ s.heap.objs.size → Q (.ref s.heap.objs.size) s₂) : wpAny (model prog w) A (pyIter (.ref l)) Q E s := by
  have hlt : l < s.heap.objs.size := by obtain ⟨_, e, _⟩ := hl; exact Heap.lt_size e
  exact wpAny_pyIter_list hl (h _ rfl ⟨⟨_, Heap.get?_push_size _ rfl, rfl, rfl⟩, hl.push _⟩ (Nat.ne_of_lt hlt))
theorem truth_bools {prog : Program} {w : World} {A : Around} {bs : List Bool} {its : List Value} (e : its = bs.map Value.bool) :
    TruthOf prog w A (fun i v => its.toArray[i]? = some v) (fun i => bs.getD i false) := fun i v s Q E hv hq => by
  have hv' : its[i]? = some v := by simpa using hv
  rw [e, List.getElem?_map] at hv'
  obtain ⟨b, hb, rfl⟩ := Option.map_eq_some_iff.mp hv'
  have hg : bs.getD i false = b := by rw [List.getD_eq_getElem?_getD, hb] <;> rfl
  have hq' : Q (bs.getD i false) s := hq
  rw [hg] at hq'
  exact wpAny_truthy_bool hq'
theorem all_range : ∀ bs : List Bool, (List.range bs.length).all (fun i => bs.getD i false) = bs.all id
  | [] => rfl
  | b :: bs => by
    rw [List.length_cons, List.range_succ_eq_map, List.all_cons, List.all_map, List.all_cons, ← all_range bs]
    all_goals rfl
section
variable {X : Cx}
def rAll (K : PySem.W.Frag) : List V → Hp → VK → Prop := fun vs H Q => ∃ (a : Addr) (bs : List Bool), vs = [V.ref a] ∧ SqL K H a (bs.map V.bl) ∧ Q (.bl (bs.all id)) H
theorem cr_all (hc : X.calm = true) : CallR X (.builtin "all") (rAll X.K) := by
  intro pins s σ H vs us Q I r h
  obtain ⟨a, bs, rfl, hs, q⟩ := h
  obtain ⟨its, rv, hl, _⟩ := I.list hs
  rw [Vals.ref1 r]
  have hb := rv.bls
  refine call_all_walk (iter_any hl.isList fun s₂ e2 st hne => ?_)
  subst e2
  refine ⟨_, _, _, _, _, _, _, rfl, Walks.list (A := X.A.in1) (I.ok.hd hc) _ a hne its.toArray, st, truth_bools hb, fun h' tk hk => ?_⟩
  refine ⟨.bl _, H, I.kept fun b o eo => hk b o (fun hmem => ?_) (Heap.get?_push_of_some _ eo), ?_, q⟩
  · rcases List.mem_cons.mp hmem with e1 | hmem
    · exact absurd (e1 ▸ Heap.lt_size eo) (Nat.lt_irrefl _)
    · cases hmem
  · show Value.bool _ = Value.bool _
    rw [← all_range, hb, List.size_toArray, List.length_map]
end
mutual
inductive Dp (K : PySem.W.Frag) (H : Hp) : V → PyData → Prop
  | non : Dp K H .non .none
  | bl (b : Bool) : Dp K H (.bl b) (.bool b)
  | int (i : Int) : Dp K H (.int i) (.int i)
  | str (x : Str) : Dp K H (.str x) (.str x)
  | lst {a : Addr} {xs : List V} {ds : List PyData} : SqL K H a xs → DpAll K H xs ds → Dp K H (.ref a) (.list ds)
  | tup {a : Addr} {xs : List V} {ds : List PyData} : SqT K H a xs → DpAll K H xs ds → Dp K H (.ref a) (.tuple ds)
inductive DpAll (K : PySem.W.Frag) (H : Hp) : List V → List PyData → Prop
  | nil : DpAll K H [] []
  | cons {v : V} {vs : List V} {d : PyData} {ds : List PyData} : Dp K H v d → DpAll K H vs ds → DpAll K H (v :: vs) (d :: ds)
end
section
variable {X : Cx} {pins : List (Addr × Obj)} {σ : St} {H : Hp} {s : Shared}
mutual
theorem Dp.reads (I : Inv X pins σ H s) : ∀ (d : PyData) (v : V) (u : Value), Dp X.K H v d → RelV v u → ∃ as, Reads s.heap u d as
  | .none, _, _, h, r => by
    cases h
    cases r
    exact ⟨_, Reads.none⟩
  | .bool b, _, _, h, r => by
    cases h
    cases r
    exact ⟨_, Reads.bool b⟩
  | .int i, _, _, h, r => by
    cases h
    obtain ⟨t, rfl⟩ := r
    exact ⟨_, Reads.int i t⟩
  | .str x, _, _, h, r => by
    cases h
    obtain ⟨t, rfl⟩ := r
    exact ⟨_, Reads.str x t⟩
  | .list ds, _, _, h, r => by
    cases h with
    | lst hs ha =>
      cases r
      obtain ⟨its, rv, ⟨o, n, ho, hc, _, hd⟩, _⟩ := I.list hs
      obtain ⟨as, hr⟩ := Dp.readsAll I ds _ its ha rv
      exact ⟨_, Reads.list ho hc hd hr⟩
  | .tuple ds, _, _, h, r => by
    cases h with
    | tup hs ha =>
      cases r
      obtain ⟨its, rv, ⟨o, ho, hc, n, hd⟩, _⟩ := I.tuple hs
      obtain ⟨as, hr⟩ := Dp.readsAll I ds _ its ha rv
      exact ⟨_, Reads.tuple ho hc hd hr⟩
  | .dict _, _, _, h, _ => by cases h
theorem Dp.readsAll (I : Inv X pins σ H s) : ∀ (ds : List PyData) (vs : List V) (us : List Value), DpAll X.K H vs ds → Vals vs us → ∃ as, ReadsAll s.heap us ds as
  | [], _, _, h, r => by
    cases h
    cases r
    exact ⟨_, ReadsAll.nil⟩
  | d :: ds, _, _, h, r => by
    cases h with
    | cons h1 h2 =>
      cases r with
      | cons r1 r2 =>
        obtain ⟨as, q1⟩ := Dp.reads I d _ _ h1 r1
        obtain ⟨bs, q2⟩ := Dp.readsAll I ds _ _ h2 r2
        exact ⟨_, ReadsAll.cons q1 q2⟩
end
end
section
variable {X : Cx}
end
end L2
namespace L2
open PySem PySem.Spec PyProof.Rows
abbrev CellAt (h : Heap) (c : Addr) (v : Option Value) : Prop := h.IsCell c v
def relS (scope sc : Scope) : Scope :=
  { scope with names := scope.names.map fun (n, k) => if (k == .free && sc.kind == .function && sc.names.lookup n == some .cell) then (n, .cell) else (n, k) }

def cloFrom (cells : List (Str × Addr)) : List (Str × NameKind) → List (Str × Addr) → List (Str × Addr)
  | [], acc => acc
  | (n, k) :: r, acc => if k == .free then cloFrom cells r ((n, (cells.lookup n).getD 0) :: acc) else cloFrom cells r acc

theorem closure_loop (env : Env) (f : Str × NameKind → List (Str × Addr) → Sem (ForInStep (List (Str × Addr))))
    (hf : ∀ n k c, f (n, k) c = if k == .free then (do let a ← cellOf env n; pure (.yield ((n, a) :: c))) else pure (.yield c)) :
    ∀ (names : List (Str × NameKind)) (acc : List (Str × Addr)), (∀ y ∈ names, y.2 = .free → ∃ c, env.cells.lookup y.1 = some c) → forIn names acc f = pure (cloFrom env.cells names acc)
  | [], acc, _ => by rw [List.forIn_nil]; rfl
  | (n, k) :: r, acc, h => by
    rw [List.forIn_cons, hf]
    have ih := fun acc => closure_loop env f hf r acc fun y hy => h y (List.mem_cons_of_mem _ hy)
    unfold cloFrom
    by_cases hk : (k == NameKind.free) = true
    · rw [if_pos hk, if_pos hk]
      obtain ⟨c, hc⟩ := h (n, k) List.mem_cons_self (by simpa using hk)
      have e : cellOf env n = pure c := by unfold cellOf; rw [hc]
      rw [e]
      have e2 : (env.cells.lookup n).getD 0 = c := by rw [hc]; rfl
      rw [e2]
      exact ih _
    · rw [if_neg hk, if_neg hk]
      exact ih _
theorem closure_ok {scope : Scope} {env : Env} (h : ∀ y ∈ scope.names, y.2 = .free → ∃ c, env.cells.lookup y.1 = some c) : closureFor scope env = pure (cloFrom env.cells scope.names []) := by
  simp only [closureFor]
  rw [closure_loop env _ (fun n k c => rfl) scope.names [] h]
  rfl

theorem mem_lookup {α : Type} : ∀ {l : List (Str × α)} {n : Str} {c : α}, (n, c) ∈ l → ∃ c', l.lookup n = some c'
  | (k, v) :: r, n, c, h => by
    rw [List.lookup_cons]
    cases hb : n == k with
    | true => exact ⟨_, rfl⟩
    | false =>
      rcases List.mem_cons.mp h with e | h
      · cases e; simp at hb
      · exact mem_lookup h

theorem cloFrom_mem {cells : List (Str × Addr)} : ∀ {names : List (Str × NameKind)} {acc : List (Str × Addr)} {n : Str} {c : Addr}, (n, c) ∈ cloFrom cells names acc → (n, c) ∈ acc ∨ ((n, .free) ∈ names ∧ c = (cells.lookup n).getD 0)
  | [], _, _, _, h => .inl h
  | (m, k) :: r, acc, n, c, h => by
    unfold cloFrom at h
    split at h
    · rename_i hk
      have hk : k = .free := by simpa using hk
      rcases cloFrom_mem h with h | ⟨h1, h2⟩
      · rcases List.mem_cons.mp h with e | h
        · cases e; exact .inr ⟨hk ▸ List.mem_cons_self, rfl⟩
        · exact .inl h
      · exact .inr ⟨List.mem_cons_of_mem _ h1, h2⟩
    · rcases cloFrom_mem h with h | ⟨h1, h2⟩
      · exact .inl h
      · exact .inr ⟨List.mem_cons_of_mem _ h1, h2⟩
theorem cloFrom_acc {cells : List (Str × Addr)} : ∀ {names : List (Str × NameKind)} {acc : List (Str × Addr)} {p : Str × Addr}, p ∈ acc → p ∈ cloFrom cells names acc
  | [], _, _, h => h
  | (m, k) :: r, acc, p, h => by
    unfold cloFrom
    split
    · exact cloFrom_acc (List.mem_cons_of_mem _ h)
    · exact cloFrom_acc h
theorem cloFrom_has {cells : List (Str × Addr)} : ∀ {names : List (Str × NameKind)} {acc : List (Str × Addr)} {n : Str}, (n, .free) ∈ names → (n, (cells.lookup n).getD 0) ∈ cloFrom cells names acc
  | (m, k) :: r, acc, n, h => by
    unfold cloFrom
    rcases List.mem_cons.mp h with e | h
    · cases e
      exact cloFrom_acc List.mem_cons_self
    · split
      · exact cloFrom_has h
      · exact cloFrom_has h

theorem cells_mem : ∀ {names : List (Str × NameKind)} {h : Heap} {acc : List (Str × Addr)} {x : Str} {c : Addr}, (x, c) ∈ cellsFrom h.objs.size names acc →
    (x, c) ∈ acc ∨ ((x, .cell) ∈ names ∧ h.objs.size ≤ c ∧ CellAt (pushCells h names) c none)
  | [], _, _, _, _, h => .inl h
  | (n, k) :: r, h, acc, x, c, hm => by
    unfold cellsFrom at hm
    unfold pushCells
    split at hm
    · rename_i hk
      rw [if_pos hk]
      have hk : k = .cell := by simpa using hk
      rw [← Heap.size_push h { cls := .type "cell", data := .cell none }] at hm
      rcases cells_mem hm with hm | ⟨h1, h2, h3⟩
      · rcases List.mem_cons.mp hm with e | hm
        · cases e
          exact .inr ⟨hk ▸ List.mem_cons_self, Nat.le_refl _, _, pushCells_keeps r _ _ _ (Heap.get?_push_size _ rfl), rfl⟩
        · exact .inl hm
      · rw [Heap.size_push] at h2
        exact .inr ⟨List.mem_cons_of_mem _ h1, Nat.le_of_succ_le h2, h3⟩
    · rename_i hk
      rw [if_neg hk]
      rcases cells_mem hm with hm | ⟨h1, h2, h3⟩
      · exact .inl hm
      · exact .inr ⟨List.mem_cons_of_mem _ h1, h2, h3⟩
theorem cells_acc : ∀ {names : List (Str × NameKind)} {n : Nat} {acc : List (Str × Addr)} {p : Str × Addr}, p ∈ acc → p ∈ cellsFrom n names acc
  | [], _, _, _, h => h
  | (m, k) :: r, n, acc, p, h => by
    unfold cellsFrom
    split
    · exact cells_acc (List.mem_cons_of_mem _ h)
    · exact cells_acc h
theorem cells_has : ∀ {names : List (Str × NameKind)} {n : Nat} {acc : List (Str × Addr)} {x : Str}, (x, .cell) ∈ names → ∃ c, (x, c) ∈ cellsFrom n names acc
  | (m, k) :: r, n, acc, x, h => by
    unfold cellsFrom
    rcases List.mem_cons.mp h with e | h
    · cases e
      exact ⟨n, cells_acc List.mem_cons_self⟩
    · split
      · exact cells_has h
      · exact cells_has h
theorem cells_inj : ∀ {names : List (Str × NameKind)} {h : Heap} {acc : List (Str × Addr)} {x y : Str} {c : Addr}, (∀ p ∈ acc, p.2 < h.objs.size) → (∀ x y c, (x, c) ∈ acc → (y, c) ∈ acc → x = y) →
    (x, c) ∈ cellsFrom h.objs.size names acc → (y, c) ∈ cellsFrom h.objs.size names acc → x = y
  | [], _, _, _, _, _, _, hi, h1, h2 => hi _ _ _ h1 h2
  | (n, k) :: r, h, acc, x, y, c, hl, hi, h1, h2 => by
    unfold cellsFrom at h1 h2
    split at h1
    · rename_i hk
      rw [if_pos hk] at h2
      rw [← Heap.size_push h { cls := .type "cell", data := .cell none }] at h1 h2
      refine cells_inj (h := h.push _) (fun p hp => ?_) (fun x y c a b => ?_) h1 h2
      · rw [Heap.size_push]
        rcases List.mem_cons.mp hp with rfl | hp
        · exact Nat.lt_succ_self _
        · exact Nat.lt_succ_of_lt (hl p hp)
      · rcases List.mem_cons.mp a with e | a <;> rcases List.mem_cons.mp b with e' | b
        · cases e; cases e'; rfl
        · cases e; exact absurd (hl _ b) (Nat.lt_irrefl _)
        · cases e'; exact absurd (hl _ a) (Nat.lt_irrefl _)
        · exact hi _ _ _ a b
    · rename_i hk
      rw [if_neg hk] at h2
      exact cells_inj hl hi h1 h2

theorem newEnv_comp {M : Model} {A : Around} {E : Value → Shared → Prop} {s : Shared} {scope : Scope} {globals : Addr} {closure : List (Str × Addr)} {qual : Str} {func : Option Addr} {code : Value} {around : Env} {builtins : Addr} {Q : Env → Shared → Prop}
    (h : Q (newEnv scope s.heap.objs.size globals (cellsFrom (s.heap.objs.size + 1) scope.names closure) qual func code (some around) builtins)
      { s with heap := pushCells (s.heap.push { cls := .type "dict", data := .dict #[] }) scope.names }) :
    wpAny M A (newFunctionEnv scope globals closure [] qual func code (some around) builtins) Q E s := by
  simp only [newFunctionEnv, Option.isSome_some, if_true]
  refine wpAny_bind (wpAny_alloc ?_)
  refine wpAny_bind (wpAny_layCells _ (fun n k c => rfl) scope.names closure _ _ ?_)
  rw [show ({ s with heap := s.heap.push { cls := .type "dict", data := .dict #[] } } : Shared).heap.objs.size = s.heap.objs.size + 1 from Heap.size_push ..]
  rw [List.forIn_nil]
  exact wpAny_bind (wpAny_pure (wpAny_pure h))

theorem lookup_relS {sc : Scope} : ∀ {names : List (Str × NameKind)} {x : Str} {k : NameKind},
    (names.map fun (n, k) => if (k == NameKind.free && sc.kind == .function && sc.names.lookup n == some .cell) then (n, NameKind.cell) else (n, k)).lookup x = some k →
    ∃ k', names.lookup x = some k' ∧ (k = k' ∨ (k' = .free ∧ k = .cell))
  | [], _, _, h => by simp at h
  | (n, k₀) :: r, x, k, h => by
    have ih := @lookup_relS sc r x k
    have h' : List.lookup x ((if (k₀ == NameKind.free && sc.kind == .function && sc.names.lookup n == some .cell) = true then (n, NameKind.cell) else (n, k₀)) :: (r.map _)) = some k := h
    cases hx : x == n with
    | true =>
      simp only [List.lookup_cons, hx]
      by_cases hc : (k₀ == NameKind.free && sc.kind == .function && sc.names.lookup n == some .cell) = true
      · rw [if_pos hc] at h'
        simp only [List.lookup_cons, hx] at h'
        cases h'
        simp only [Bool.and_eq_true, beq_iff_eq] at hc
        exact ⟨k₀, rfl, .inr ⟨hc.1.1, rfl⟩⟩
      · rw [if_neg hc] at h'
        simp only [List.lookup_cons, hx] at h'
        cases h'
        exact ⟨_, rfl, .inl rfl⟩
    | false =>
      simp only [List.lookup_cons, hx]
      by_cases hc : (k₀ == NameKind.free && sc.kind == .function && sc.names.lookup n == some .cell) = true
      · rw [if_pos hc] at h'
        simp only [List.lookup_cons, hx] at h'
        exact ih h'
      · rw [if_neg hc] at h'
        simp only [List.lookup_cons, hx] at h'
        exact ih h'
structure BlkOk (N : List Str) (sc scope : Scope) (own : List (Str × Nat)) : Prop where
  kind : scope.kind = .function
  uniq : ∀ y ∈ scope.names, scope.names.lookup y.1 = some y.2
  ix : ∀ p ∈ own, N[p.2]? = some p.1
  free : ∀ y ∈ scope.names, y.2 = .free → sc.names.lookup y.1 = some .cell ∨ sc.names.lookup y.1 = some .free
  own : ∀ y ∈ scope.names, y.2 = .local ∨ y.2 = .cell → y.1 ∈ own.map (·.1) ∨ y.1 ∉ N
def wipe (σ : St) : List Nat → St
  | [] => σ
  | v :: vs => (wipe σ vs).set v none
theorem wipe_length (σ : St) : ∀ vs : List Nat, (wipe σ vs).length = σ.length
  | [] => rfl
  | v :: vs => by unfold wipe; rw [List.length_set, wipe_length σ vs]
theorem wipe_some {σ : St} {i : Nat} {x : V} : ∀ {vs : List Nat}, (wipe σ vs)[i]? = some (some x) → σ[i]? = some (some x) ∧ i ∉ vs
  | [], h => ⟨h, by simp⟩
  | v :: vs, h => by
    unfold wipe at h
    by_cases hi : v = i
    · subst hi
      by_cases hv : v < (wipe σ vs).length
      · rw [List.getElem?_set_self hv] at h; cases h
      · rw [List.getElem?_eq_none (by simpa using hv)] at h; cases h
    · rw [List.getElem?_set_ne hi] at h
      obtain ⟨h1, h2⟩ := wipe_some h
      exact ⟨h1, by simp only [List.mem_cons, not_or]; exact ⟨fun e => hi e.symm, h2⟩⟩

abbrev Cx.blk (X : Cx) (s : Shared) (H : Hp) (scope : Scope) (cenv : Env) (fp : List Addr) : Cx := { X with s_0 := s, H_0 := H, env := cenv, outer := X.stack, ex := fp, fn := fun x => scope.names.lookup x == some .cell, pn := [], xe := fun _ _ => False }
section
variable {X : Cx} {pins : List (Addr × Obj)} {σ : St} {H : Hp} {s : Shared}
theorem block_start {scope : Scope} {own : List (Str × Nat)} {fp : List Addr} (I : Inv X pins σ H s) (ok : BlkOk X.N X.env.scope scope own) (hN : X.N.Nodup) (hfp : ∀ b ∈ fp, FpOk X pins H b ∧ b < s.heap.objs.size) :
    Inv (X.blk s H scope (compEnvC scope (cellsFrom (s.heap.objs.size + 1) scope.names (cloFrom X.env.cells scope.names [])) s.heap.objs.size X.env) fp) [] (wipe σ (own.map (·.2))) H { s with heap := pushCells (s.heap.push { cls := .type "dict", data := .dict #[] }) scope.names } := by
  have hfree : ∀ y ∈ scope.names, y.2 = .free → ∃ c, X.env.cells.lookup y.1 = some c := fun y hy e => by
    rcases ok.free y hy e with k | k
    · exact I.ok.has _ (.inl k)
    · exact I.ok.has _ (.inr k)
  generalize hcenv : compEnvC scope (cellsFrom (s.heap.objs.size + 1) scope.names (cloFrom X.env.cells scope.names [])) s.heap.objs.size X.env = cenv
  have kp : ∀ b o, s.heap.get? b = some o → (pushCells (s.heap.push { cls := .type "dict", data := .dict #[] }) scope.names).get? b = some o := fun b o e => pushCells_keeps _ _ _ _ (Heap.get?_push_of_some _ e)
  have hL : cenv.locals = s.heap.objs.size := by rw [← hcenv]; rfl
  have hcl : cenv.cells = cellsFrom (s.heap.objs.size + 1) scope.names (cloFrom X.env.cells scope.names []) := by rw [← hcenv]; rfl
  have hsc : cenv.scope = relS scope X.env.scope := by rw [← hcenv]; rfl
  rw [← Heap.size_push s.heap { cls := .type "dict", data := .dict #[] }] at hcl
  have cm : ∀ {y c}, (y, c) ∈ cloFrom X.env.cells scope.names [] → X.env.cells.lookup y = some c ∧ c < s.heap.objs.size := fun {y c} hm => by
    rcases cloFrom_mem hm with hm | ⟨h1, rfl⟩
    · cases hm
    · obtain ⟨c, hc⟩ := hfree _ h1 rfl
      rw [hc]
      obtain ⟨w, z⟩ := I.cell _ _ hc
      exact ⟨rfl, z.lt⟩
  have mem : ∀ {y c}, cenv.cells.lookup y = some c → (X.env.cells.lookup y = some c ∧ c < s.heap.objs.size) ∨ (s.heap.objs.size + 1 ≤ c ∧ CellAt (pushCells (s.heap.push { cls := .type "dict", data := .dict #[] }) scope.names) c none) := fun {y c} e => by
    rw [hcl] at e
    rcases cells_mem (PySem.mem_of_lookup e) with hm | ⟨_, h2, h3⟩
    · exact .inl (cm hm)
    · rw [Heap.size_push] at h2; exact .inr ⟨h2, h3⟩
  have look : ∀ {y}, scope.names.lookup y = some .free → ∃ c, cenv.cells.lookup y = some c ∧ X.env.cells.lookup y = some c := fun {y} hl => by
    have hy : (y, NameKind.free) ∈ scope.names := PySem.mem_of_lookup hl
    obtain ⟨c', e'⟩ := mem_lookup (cells_acc (names := scope.names) (n := (s.heap.push { cls := .type "dict", data := .dict #[] }).objs.size) (cloFrom_has (cells := X.env.cells) (acc := []) hy))
    rw [← hcl] at e'
    refine ⟨c', e', ?_⟩
    rw [hcl] at e'
    rcases cells_mem (PySem.mem_of_lookup e') with hm | ⟨h1, _, _⟩
    · exact (cm hm).1
    · have := ok.uniq _ h1
      rw [hl] at this; cases this
  have okB : (X.blk s H scope cenv fp).Ok := by
    refine ⟨I.ok.mod, by show cenv.scope.kind = _; rw [hsc]; exact ok.kind, by show cenv.globals = _; rw [← hcenv]; exact I.ok.glob, by show cenv.builtins = _; rw [← hcenv]; exact I.ok.blt, by show s.heap.objs.size ≤ cenv.locals; rw [hL]; exact Nat.le_refl _,
      fun y z c e1 e2 => ?_, fun y hy => ?_, fun y c z e => ?_, I.ok.hd, I.ok.frames, .inl rfl, fun b hb => ⟨?_, fun y c e z => ?_⟩, I.bs, Nat.le_trans I.ok.bsz I.sz, fun b o e hb => ?_, fun b hb z => ?_, I.stack, I.stkFree⟩
    · have e1 : cenv.cells.lookup y = some c := e1
      have e2 : cenv.cells.lookup z = some c := e2
      rw [hcl] at e1 e2
      refine cells_inj (fun p hp => ?_) (fun y z c a b => I.ok.inj y z c (cm a).1 (cm b).1) (PySem.mem_of_lookup e1) (PySem.mem_of_lookup e2)
      rw [Heap.size_push]
      exact Nat.lt_succ_of_lt (cm (y := p.1) (c := p.2) hp).2
    · show ∃ c, cenv.cells.lookup y = some c
      have key : ∀ k, cenv.kindOf y = some k → (k = .cell ∨ k = .free) → ∃ c, cenv.cells.lookup y = some c := fun k hk hk' => by
        unfold Env.kindOf at hk
        rw [hsc] at hk
        obtain ⟨k', e, r⟩ := lookup_relS hk
        have : k' = .cell ∨ k' = .free := by
          rcases r with rfl | ⟨rfl, _⟩
          · exact hk'
          · exact .inr rfl
        rcases this with rfl | rfl
        · obtain ⟨c, hm⟩ := cells_has (n := (s.heap.push { cls := .type "dict", data := .dict #[] }).objs.size) (acc := cloFrom X.env.cells scope.names []) (PySem.mem_of_lookup e)
          obtain ⟨c', e'⟩ := mem_lookup hm
          exact ⟨c', by rw [hcl]; exact e'⟩
        · obtain ⟨c, h1, _⟩ := look e
          exact ⟨c, h1⟩
      rcases hy with hy | hy
      · exact key _ hy (.inl rfl)
      · exact key _ hy (.inr rfl)
    · have z : (scope.names.lookup y == some NameKind.cell) = true := z
      have z : scope.names.lookup y = some .cell := by simpa using z
      have e : cenv.cells.lookup y = some c := e
      rw [hcl] at e
      rcases cells_mem (PySem.mem_of_lookup e) with hm | ⟨_, h2, _⟩
      · rcases cloFrom_mem hm with hm | ⟨h1, _⟩
        · cases hm
        · have q := ok.uniq _ h1
          rw [z] at q; cases q
      · rw [Heap.size_push] at h2
        exact Nat.le_of_succ_le h2
    · show b ≠ cenv.locals
      rw [hL]; exact Nat.ne_of_lt (hfp b hb).2
    · have e : cenv.cells.lookup y = some c := e
      rcases mem e with ⟨h1, _⟩ | ⟨h1, _⟩
      · exact (hfp b hb).1.2.2.2.2.1 y c h1 z
      · have h2 : s.heap.objs.size + 1 ≤ b := by rw [← z]; exact h1
        exact absurd (Nat.lt_of_lt_of_le (hfp b hb).2 (Nat.le_of_succ_le h2)) (Nat.lt_irrefl _)
    · rcases (hfp b hb).1.2.2.2.1 with z | z
      · exact I.ok.noex b o e z
      · exact absurd (Nat.lt_of_lt_of_le (Heap.lt_size e) (Nat.le_trans I.ok.bsz z)) (Nat.lt_irrefl _)
    · rcases List.mem_cons.mp (I.stkSub b z) with z | z
      · exact (hfp b hb).1.2.1 z
      · exact (hfp b hb).1.2.2.1 z
  refine ⟨okB, rfl, I.bare, Un.kept kp, ⟨fun _ => none, ?_, fun i y av e1 e2 e3 => ?_⟩, fun y c e => ?_, ?_, fun y c e => ?_, fun p hp => ?_, I.hok.kept kp, by rw [wipe_length]; exact I.len⟩
  · show Heap.Ns _ cenv.locals _
    rw [hL]
    exact Heap.Ns.keeps (Heap.Ns.new ..) fun b o e => pushCells_keeps _ _ _ _ e
  · obtain ⟨e2, hne⟩ := wipe_some e2
    have hfr : scope.names.lookup y = some .free ∧ (cenv.kindOf y = some .cell ∨ cenv.kindOf y = some .free) := by
      have key : ∀ k, cenv.scope.names.lookup y = some k → k = .local ∨ k = .cell ∨ k = .free → scope.names.lookup y = some .free ∧ (cenv.kindOf y = some .cell ∨ cenv.kindOf y = some .free) := fun k hk hk' => by
        have hk0 := hk
        rw [hsc] at hk
        obtain ⟨k', e, r⟩ := lookup_relS hk
        have no : ¬ (k' = .local ∨ k' = .cell) := fun hh => by
          rcases ok.own _ (PySem.mem_of_lookup e) hh with e' | e'
          · obtain ⟨p, hp, hpy⟩ := List.mem_map.mp e'
            have e3 := ok.ix p hp
            have : p.1 = y := hpy
            rw [this] at e3
            exact hne (List.mem_map.mpr ⟨p, hp, nodup_ix hN e3 e1⟩)
          · exact e' (List.mem_of_getElem? e1)
        rcases r with rfl | ⟨rfl, rfl⟩
        · rcases hk' with rfl | rfl | rfl
          · exact absurd (.inl rfl) no
          · exact absurd (.inr rfl) no
          · exact ⟨e, .inr hk0⟩
        · exact ⟨e, .inl hk0⟩
      have e3 : Vis cenv.scope y := e3
      rcases e3 with e3 | e3 | e3
      · exact key _ e3 (.inl rfl)
      · exact key _ e3 (.inr (.inl rfl))
      · exact key _ e3 (.inr (.inr rfl))
    obtain ⟨m, hn, hl⟩ := I.loc
    have hvis : Vis X.env.scope y := (ok.free _ (PySem.mem_of_lookup hfr.1) rfl).elim (fun k => .inr (.inl k)) (fun k => .inr (.inr k))
    obtain ⟨w, r, q⟩ := hl i y av e1 e2 hvis
    refine ⟨w, r, .inr ⟨hfr.2, ?_⟩⟩
    obtain ⟨c, h1, h2⟩ := look hfr.1
    rcases q with ⟨k, _⟩ | ⟨_, c', e', z⟩
    · have k : X.env.scope.names.lookup y = some .local := k
      rcases ok.free _ (PySem.mem_of_lookup hfr.1) rfl with k' | k' <;> rw [show X.env.scope.names.lookup y = _ from k'] at k <;> cases k
    · rw [h2] at e'; cases e'
      exact ⟨c, h1, z.keeps kp⟩
  · have e : cenv.cells.lookup y = some c := e
    rcases mem e with ⟨h1, _⟩ | ⟨_, z⟩
    · obtain ⟨w, z⟩ := I.cell y c h1
      exact ⟨w, z.keeps kp⟩
    · exact ⟨_, z⟩
  · show H cenv.locals = none
    rw [hL]; exact I.hok.fresh (Nat.le_refl _)
  · have e : cenv.cells.lookup y = some c := e
    rcases mem e with ⟨h1, _⟩ | ⟨h1, _⟩
    · exact I.freeC y c h1
    · exact I.hok.fresh (Nat.le_of_succ_le h1)
  · exact absurd (show p ∈ ([] : List (Addr × Obj)) ++ [] from hp) (by simp)

theorem app_ok {E : Value → Shared → Prop} {D : Addr} {xs : List V} {y : V} {v : Value} {Q : Value → Shared → Prop} (I : Inv X pins σ H s) (hD : H D = some (.lst xs)) (hz : xs.length < sizeLine) (r : RelV y v)
    (h : ∀ s', Inv X pins σ (upd H D (.lst (xs ++ [y]))) s' → Q .none s') : wpAny (model X.prog X.w) X.A (call (.builtin "list.append") [.ref D, v]) Q E s := by
  obtain ⟨hz', its, n, ri, e⟩ := I.hok D _ hD
  have hl := ri.length
  refine append_at (hsz := by rw [List.size_toArray]; omega) e fun h' sb ho' => ?_
  refine h { s with heap := h' } (I.write (t' := s.toks) (by rw [hD]; trivial) (.inl rfl) (fun b u hb q => (sb.2 b hb).trans q) ⟨_, ho'⟩ ⟨by rw [List.length_append]; exact hz, its ++ [v], n + 1, ri.append (.cons r .nil), ?_⟩)
  rw [ho']
  simp

def PTs (X : Cx) (ifs : List Expr) (t : TT) : Prop :=
  ∀ (pins : List (Addr × Obj)) (s : Shared) (σ : St) (H : Hp) (Q : Bool → Hp → Prop), Inv X pins σ H s → t σ H Q →
    wpAny (model X.prog X.w) X.A (forIn ifs true fun c r => if r = true then do let ok ← isTrue c X.env (eval c X.env); pure (ForInStep.yield ok) else pure (ForInStep.yield r)) (TP X pins σ Q) X.xe s
def tYes : TT := fun _ H Q => Q true H
theorem pts_nil : PTs X [] tYes := fun _ _ _ H _ I h => wpAny_tests_nil ⟨H, I, h⟩
end
theorem thnF {α : Type} {t : Sem α} {Q Q' : α → Shared → Prop} {M : Model} {A : Around} {E : Value → Shared → Prop} {s : Shared} (h : wpAny M A t Q (fun _ _ => False) s) (hQ : ∀ a s, Q a s → Q' a s) : wpAny M A t Q' E s := wpAny_mono h hQ fun _ _ z => False.elim z

theorem compLoop_any {prog : Program} {w : World} {A : Around} {R : Result → Shared → Prop} {s : Shared} {elt target iter : Expr} {ifs : List Expr} {scope : Scope} {pos : Pos} {it acc : Value} {env : Env} (I : Nat → Shared → Prop)
    (turn : ∀ n s, I n s → wpAny (model prog w) A (pyNext it) (fun r s₁ => match r with
      | none => R (.ok .next) s₁
      | some v => wpAny (model prog w) A (letOwnedTupleGo target it v) (fun _ s₁' => wpAny (model prog w) A (assign target env v) (fun _ s₂ =>
          wpAny (model prog w) A (forIn ifs true fun c r => if r = true then do let ok ← isTrue c env (eval c env); pure (ForInStep.yield ok) else pure (ForInStep.yield r)) (fun ok s₃ =>
            if ok = true then wpAny (model prog w) A (eval elt env) (fun x s₄ =>
              wpAny (model prog w) A (call (.builtin "list.append") [acc, x]) (fun _ s₅ => ∃ m, m < n ∧ I m s₅) (notedBy (model prog w) A env fun e s' => R (.error e) s') s₄) (notedBy (model prog w) A env fun e s' => R (.error e) s') s₃
            else ∃ m, m < n ∧ I m s₃) (notedBy (model prog w) A env fun e s' => R (.error e) s') s₂) (notedBy (model prog w) A env fun e s' => R (.error e) s') s₁') (notedBy (model prog w) A env fun e s' => R (.error e) s') s₁) (notedBy (model prog w) A env fun e s' => R (.error e) s') s)
    (n : Nat) (h : I n s) :
    codeAny (model prog w) A (.compLoop (.ListComp elt [⟨target, iter, ifs, 0⟩] scope pos) 0 it acc env) R s := by
  refine codeAny_loop rfl I (fun n s hI => ?_) n h
  show wpAny _ A ((compTurn (.ListComp elt [⟨target, iter, ifs, 0⟩] scope pos) 0 it acc env).onRaise (fun x => do noteFrame x env; theTreesLotGoes x)) _ _ s
  refine wpAny_noted ?_
  rw [compTurn_list]
  refine wpAny_bind (wpAny_standAt (wpAny_bind (wpAny_mono (turn n s hI) (fun r s₁ h₁ => ?_) fun _ _ h' => h')))
  cases r with
  | none => exact wpAny_pure h₁
  | some v =>
    refine wpAny_bind (wpAny_mono h₁ (fun _ s₁' h₁' => ?_) fun _ _ h' => h')
    refine wpAny_bind (wpAny_mono h₁' (fun _ s₂ h₂ => wpAny_bind (wpAny_mono h₂ (fun ok s₃ h₃ => ?_) fun _ _ h' => h')) fun _ _ h' => h')
    cases ok with
    | false => exact wpAny_pure ⟨rfl, h₃⟩
    | true =>
      exact wpAny_bind (wpAny_bind (wpAny_mono h₃ (fun x s₄ h₄ => wpAny_bind (wpAny_mono h₄ (fun _ s₅ h₅ => wpAny_pure (wpAny_pure ⟨rfl, h₅⟩)) fun _ _ h' => h')) fun _ _ h' => h'))

section
variable {X : Cx}
def tLc (wi : TI) (g : TG) (tt : TT) (te : TE) (vs : List Nat) : TE := fun σ H Q => wi σ H fun J H1 => ∀ D, H1 D = none → ∃ W : Nat → Nat → Hp → Prop, (∃ m, W 0 m (upd H1 D (.lst []))) ∧ ∀ i m H, W i m H →
  (J.stop i H ∧ Q (.ref D) H) ∨ (J.go i H ∧ ∃ Nx : Hp → Prop, (∀ H', Nx H' → ∃ m', m' < m ∧ W (i + 1) m' H') ∧ ∀ x H', J.yld i H x H' → g x (wipe σ vs) H' fun σ2 H2 => wipe σ2 vs = wipe σ vs ∧ tt σ2 H2 fun b H3 =>
    if b = true then te σ2 H3 fun y H4 => ∃ acc, H4 D = some (.lst acc) ∧ acc.length < sizeLine ∧ Nx (upd H4 D (.lst (acc ++ [y]))) else Nx H3)
theorem lc_core {pins : List (Addr × Obj)} {s : Shared} {σ : St} {H : Hp} {Q : VK} {elt tg iter : Expr} {ifs : List Expr} {scope : Scope} {own : List (Str × Nat)} {pos pos' : Pos} {wi : TI} {g : TG} {tt : TT} {te : TE} {use : Option (Value → Sem Unit)} {Qf : Value → Shared → Prop}
    (hc : X.calm = true) (hN : X.N.Nodup) (I : Inv X pins σ H s) (hi : PI X tg iter wi) (ok : BlkOk X.N X.env.scope scope own)
    (hg : ∀ (s : Shared) (H : Hp) (C : Addr) (cl : List (Str × Addr)) (fp : List Addr), PG (X.blk s H scope (compEnvC scope cl C X.env) fp) tg g) (ht : ∀ (s : Shared) (H : Hp) (C : Addr) (cl : List (Str × Addr)) (fp : List Addr), PTs (X.blk s H scope (compEnvC scope cl C X.env) fp) ifs tt)
    (he : ∀ (s : Shared) (H : Hp) (C : Addr) (cl : List (Str × Addr)) (fp : List Addr), PE (X.blk s H scope (compEnvC scope cl C X.env) fp) elt te) (hs : ∀ x, foldedSetIterable iter X.env x = pure x)
    (h : tLc wi g tt te (own.map (·.2)) σ H Q)
    (hRR : ∀ D C s' m H', Inv X pins σ H' s' → Q (.ref D) H' → s'.heap.Ns C m → FpOk X pins H' C → compPost (model X.prog X.w) X.A X.xe use Qf (.ref D) C (.ok .next) s') :
    wpAny (model X.prog X.w) X.A (comprehension (.ListComp elt [⟨tg, iter, ifs, 0⟩] scope pos) scope X.env pos' (newList []) false (eval iter X.env) use) Qf X.xe s := by
  have hfree : ∀ y ∈ scope.names, y.2 = .free → ∃ c, X.env.cells.lookup y.1 = some c := fun y hy e => by
    rcases ok.free y hy e with k | k
    · exact I.ok.has _ (.inl k)
    · exact I.ok.has _ (.inr k)
  refine wpAny_comprehension_free (use := use) rfl hs (closure_ok hfree) ok.kind (fun y hy e => by rw [ok.uniq y hy, e])
    (thn (hi pins s σ H _ I h) fun xv s1 hx => thn hx fun itv s2 h2 => ?_)
  obtain ⟨it, fp, tn, J, H2, e, I2, T, st2, f2, q⟩ := h2
  subst e
  refine wpAny_newObj_type (newEnv_comp ?_) (by show 0 ≤ sizeLine; decide)
  generalize hD : s2.heap.objs.size = D
  have hDn : H2 D = none := I2.hok.fresh (Nat.le_of_eq hD)
  obtain ⟨W, ⟨m0, w0⟩, turn⟩ := q D hDn
  -- the new list
  generalize hs3 : ({ s2 with heap := s2.heap.push { cls := .type "list", data := .seq ([] : List Value).toArray } } : Shared) = s3
  have I3 : Inv X pins σ (upd H2 D (.lst [])) s3 := by
    rw [← hs3]
    refine I2.laid (t' := s2.toks) (fun b o e => Heap.get?_push_of_some _ e) (Nat.le_of_eq hD) ⟨Nat.zero_le _, [], 0, .nil, ?_⟩
    rw [← hD]
    exact Heap.get?_push_size _ rfl
  have h3 : s3.heap = s2.heap.push { cls := .type "list", data := .seq ([] : List Value).toArray } := by rw [← hs3]
  have sz : ∀ b ∈ fp, b < s2.heap.objs.size := fun b hb => by
    obtain ⟨o, e, _⟩ := T.obj _ _ st2 b hb
    exact Heap.lt_size e
  have f3 : ∀ b ∈ fp, FpOk X pins (upd H2 D (.lst [])) b ∧ b < s3.heap.objs.size := fun b hb => by
    have hlt := sz b hb
    refine ⟨⟨?_, (f2 b hb).2⟩, by rw [h3, Heap.size_push]; exact Nat.lt_succ_of_lt hlt⟩
    rw [upd_ne (by rw [← hD]; exact Nat.ne_of_lt hlt)]
    exact (f2 b hb).1
  have st3 : tn 0 s3.heap := T.keep _ _ _ st2 fun b _ o e => by rw [h3]; exact Heap.get?_push_of_some _ e
  have I4 := block_start I3 ok hN f3
  have pg := hg s3 (upd H2 D (.lst [])) s3.heap.objs.size (cellsFrom (s3.heap.objs.size + 1) scope.names (cloFrom X.env.cells scope.names [])) fp
  have pt := ht s3 (upd H2 D (.lst [])) s3.heap.objs.size (cellsFrom (s3.heap.objs.size + 1) scope.names (cloFrom X.env.cells scope.names [])) fp
  have pe := he s3 (upd H2 D (.lst [])) s3.heap.objs.size (cellsFrom (s3.heap.objs.size + 1) scope.names (cloFrom X.env.cells scope.names [])) fp
  show codeAny _ _ (.compStart (.ListComp elt [⟨tg, iter, ifs, 0⟩] scope pos) 0 (.ref it) (.ref D) (compEnvC scope (cellsFrom (s3.heap.objs.size + 1) scope.names (cloFrom X.env.cells scope.names [])) s3.heap.objs.size X.env)) (compPost (model X.prog X.w) X.A X.xe use Qf (.ref D) s3.heap.objs.size) { s3 with heap := pushCells (s3.heap.push { cls := .type "dict", data := .dict #[] }) scope.names }
  have nfp : ∀ b ∈ fp, (upd H2 D (.lst [])) b = none := fun b hb => (f3 b hb).1.1
  generalize hce : compEnvC scope (cellsFrom (s3.heap.objs.size + 1) scope.names (cloFrom X.env.cells scope.names [])) s3.heap.objs.size X.env = ce at I4 pg pt pe ⊢
  have cL : ce.locals = s3.heap.objs.size := by subst hce; rfl
  generalize hH3 : upd H2 D (.lst []) = H3 at I3 I4 pg pt pe w0 nfp f3
  generalize hs4 : ({ s3 with heap := pushCells (s3.heap.push { cls := .type "dict", data := .dict #[] }) scope.names } : Shared) = s4 at I4 ⊢
  have st4 : tn 0 s4.heap := T.keep _ _ _ st3 fun b _ o e => by rw [← hs4]; exact pushCells_keeps _ _ _ _ (Heap.get?_push_of_some _ e)
  have stat : ∀ {σ' : St} {H' : Hp} {s' : Shared}, Inv (X.blk s3 H3 scope ce fp) [] σ' H' s' → (∀ b ∈ fp, H' b = none) → ∀ b ∈ fp, FpOk (X.blk s3 H3 scope ce fp) [] H' b := fun {σ' H' s'} I' hn b hb =>
    ⟨hn b hb, (I'.ok.exf b hb).1, I'.ok.exfs b hb, .inl hb, fun x c e => (I'.ok.exf b hb).2 x c e, fun p hp => absurd (show p ∈ ([] : List (Addr × Obj)) ++ [] from hp) (by simp)⟩
  have loop : codeAny (model X.prog X.w) X.A (.compLoop (.ListComp elt [⟨tg, iter, ifs, 0⟩] scope pos) 0 (.ref it) (.ref D) ce) (compPost (model X.prog X.w) X.A X.xe use Qf (.ref D) s3.heap.objs.size) s4 := by
    refine compLoop_any (fun n s' => ∃ i H', Inv (X.blk s3 H3 scope ce fp) [] (wipe σ (own.map (·.2))) H' s' ∧ tn i s'.heap ∧ (∀ b ∈ fp, H' b = none) ∧ W i n H') ?_ m0 ⟨0, H3, I4, st4, nfp, w0⟩
    rintro n s5 ⟨i, H5, I5, st5, n5, w5⟩
    rcases turn i n H5 w5 with ⟨stop, qq⟩ | ⟨go, Nx, hNx, step⟩
    · have td := T.done (X.blk s3 H3 scope ce fp) rfl rfl rfl hc i [] s5 _ H5 (fun _ _ => False) I5 (stat I5 n5) st5 stop
      refine thnF td fun r s6 ⟨hr, I6⟩ => ?_
      subst hr
      -- back in the def's context
      have I7 : Inv X pins σ H5 s6 := I3.call' (ch := fp) I6.os I6.base I6.hok I6.bare fun b hb => ⟨(f3 b hb).1.2.2.2.1, (f3 b hb).1.2.1, (f3 b hb).1.2.2.2.2.1, (f3 b hb).1.2.2.2.2.2⟩
      have nC : H5 s3.heap.objs.size = none := by
        have z : H5 ce.locals = none := I6.free
        rw [cL] at z
        exact z
      obtain ⟨m, hn, _⟩ := I6.loc
      have hn : s6.heap.Ns ce.locals m := hn
      rw [cL] at hn
      exact hRR D s3.heap.objs.size s6 m H5 I7 qq hn (I3.fpOk (Nat.le_refl _) nC)
    · have ti := T.item (X.blk s3 H3 scope ce fp) rfl rfl rfl hc i [] s5 _ H5 (fun _ _ => False) I5 (stat I5 n5) st5 go
      refine thnF ti fun r s6 ⟨u, hr, h6⟩ => ?_
      subst hr
      refine thnF h6 fun _ s7 ⟨x, H7, I7, r7, y7, st7, n7⟩ => ?_
      have I7' := I7.pinned (stat I7 n7) (T.obj _ _ st7)
      refine thnF (pg _ s7 _ H7 x u _ I7' r7 (step x H7 y7)) fun _ s8 ⟨σ8, H8, I8, hw8, q8⟩ => ?_
      refine thnF (pt _ s8 σ8 H8 _ I8 q8) fun b s9 ⟨H9, I9, q9⟩ => ?_
      -- the turn's end
      have fin : ∀ {s' : Shared} {H' : Hp}, Inv (X.blk s3 H3 scope ce fp) ([] ++ pinsAt fp s7.heap) σ8 H' s' → Nx H' → ∃ m, m < n ∧ ∃ i H', Inv (X.blk s3 H3 scope ce fp) [] (wipe σ (own.map (·.2))) H' s' ∧ tn i s'.heap ∧ (∀ b ∈ fp, H' b = none) ∧ W i m H' := fun {s' H'} I' nx => by
        obtain ⟨m', hm, w'⟩ := hNx H' nx
        have pin' : ∀ b ∈ fp, ∀ o, s7.heap.get? b = some o → s'.heap.get? b = some o ∧ H' b = none := fun b hb o e =>
          let z := I'.pin (b, o) (List.mem_append_right _ (List.mem_append_right _ (mem_pinsAt hb e)))
          ⟨z.1, z.2.1⟩
        have hl : (wipe σ (own.map (·.2))).length = σ8.length := by rw [← hw8, wipe_length]
        refine ⟨m', hm, i + 1, H', (I'.unpinned (pins := [])).weak hl (fun j v e => ?_), T.keep _ _ _ st7 fun b hb o e => (pin' b hb o e).1, fun b hb => ?_, w'⟩
        · rw [← hw8] at e
          exact (wipe_some e).1
        · obtain ⟨o, e, _⟩ := T.obj _ _ st7 b hb
          exact (pin' b hb o e).2
      cases b with
      | false =>
        simp only [Bool.false_eq_true, if_false] at q9 ⊢
        exact fin I9 q9
      | true =>
        simp only [if_true] at q9 ⊢
        refine thnF (pe _ s9 σ8 H9 _ I9 q9) fun z s10 ⟨yv, H10, I10, r10, acc, hD10, hz10, nx⟩ => ?_
        exact app_ok (X := X.blk s3 H3 scope ce fp) I10 hD10 hz10 r10 fun s11 I11 => fin I11 nx
  exact codeAny_compStart_list loop (T.self X.A 0 _ _ _ st4 loop)
theorem pe_lc {elt tg iter : Expr} {ifs : List Expr} {scope : Scope} {own : List (Str × Nat)} {pos : Pos} {wi : TI} {g : TG} {tt : TT} {te : TE} (hc : X.calm = true) (hN : X.N.Nodup) (hi : PI X tg iter wi) (ok : BlkOk X.N X.env.scope scope own)
    (hg : ∀ (s : Shared) (H : Hp) (C : Addr) (cl : List (Str × Addr)) (fp : List Addr), PG (X.blk s H scope (compEnvC scope cl C X.env) fp) tg g) (ht : ∀ (s : Shared) (H : Hp) (C : Addr) (cl : List (Str × Addr)) (fp : List Addr), PTs (X.blk s H scope (compEnvC scope cl C X.env) fp) ifs tt)
    (he : ∀ (s : Shared) (H : Hp) (C : Addr) (cl : List (Str × Addr)) (fp : List Addr), PE (X.blk s H scope (compEnvC scope cl C X.env) fp) elt te) (hs : ∀ x, foldedSetIterable iter X.env x = pure x := by intro _; rfl) :
    PE X (.ListComp elt [⟨tg, iter, ifs, 0⟩] scope pos) (tLc wi g tt te (own.map (·.2))) := by
  intro pins s σ H Q I h
  rw [eval_ListComp]
  refine lc_core hc hN I hi ok hg ht he hs h fun D C s' m H' I' q hn f => ⟨m, hn, fun h'' sb => ?_⟩
  obtain ⟨f0, f1, f2, f3, f4, f5⟩ := f
  exact ⟨.ref D, H', I'.turned (t' := s'.toks) (fun b o hb e => (sb.2 b hb).trans e) f0 f1 f3 f4 f5, rfl, q⟩
theorem ps_setLc {i : Nat} {y : Str} {py : Pos} {elt tg iter : Expr} {ifs : List Expr} {scope : Scope} {own : List (Str × Nat)} {pos spos : Pos} {wi : TI} {g : TG} {tt : TT} {te : TE} (hc : X.calm = true) (hN : X.N.Nodup) (hy : X.N[i]? = some y) (hyl : X.env.scope.names.lookup y = some .local)
    (hsw : swapsWith (.ListComp elt [⟨tg, iter, ifs, 0⟩] scope pos) (some (.Name y py)) spos.line X.env = pure true) (hi : PI X tg iter wi) (ok : BlkOk X.N X.env.scope scope own)
    (hg : ∀ (s : Shared) (H : Hp) (C : Addr) (cl : List (Str × Addr)) (fp : List Addr), PG (X.blk s H scope (compEnvC scope cl C X.env) fp) tg g) (ht : ∀ (s : Shared) (H : Hp) (C : Addr) (cl : List (Str × Addr)) (fp : List Addr), PTs (X.blk s H scope (compEnvC scope cl C X.env) fp) ifs tt)
    (he : ∀ (s : Shared) (H : Hp) (C : Addr) (cl : List (Str × Addr)) (fp : List Addr), PE (X.blk s H scope (compEnvC scope cl C X.env) fp) elt te) (hs : ∀ x, foldedSetIterable iter X.env x = pure x := by intro _; rfl) :
    PS X (.Assign [.Name y py] (.ListComp elt [⟨tg, iter, ifs, 0⟩] scope pos) spos) (tAsg (tLc wi g tt te (own.map (·.2))) (gName i)) := by
  intro pins s σ H D I h
  rw [exec_Assign_Name_used _ _ _ _ hsw]
  refine wpAny_bind (wpAny_standAt (wpAny_bind ?_))
  show wpAny _ X.A (do let _ ← comprehension (.ListComp elt [⟨tg, iter, ifs, 0⟩] scope pos) scope X.env (firstIterPos [⟨tg, iter, ifs, 0⟩] pos) (newList []) false (eval iter X.env) (some (assign (.Name y py) X.env))) _ _ s
  have h : tLc wi g tt te (own.map (·.2)) σ H (fun x H1 => gName i x σ H1 D.nx) := h
  refine wpAny_bind (thn (lc_core (Qf := fun _ s' => SP X pins D .next s') hc hN I hi ok hg ht he hs h fun L C s' m H' I' q hn f => ?_) fun _ s' hq => wpAny_pure (wpAny_pure hq))
  show wpAny _ _ (assign (.Name y py) X.env (.ref L)) _ _ _
  refine wpAny_assign_Name (store_ok2 (v := V.ref L) I' hN hy (.inl hyl) rfl (fun s2 I2 ⟨a, sb, ha⟩ => ?_) (.inr hyl))
  obtain ⟨f0, f1, f2, f3, f4, f5⟩ := f
  have haC : C ≠ a := by
    rcases ha with z | z
    · rw [z]; exact f1
    · exact fun e => f4 y a z e.symm
  refine ⟨m, hn.sameBut sb haC, fun h3 sb3 => ?_⟩
  exact ⟨_, H', I2.turned (t' := s2.toks) (fun b o hb e => (sb3.2 b hb).trans e) f0 f1 f3 f4 f5, q⟩
end
theorem lc_range {lo : Int} {n : Nat} {g : TG} {tt : TT} {te : TE} {vs : List Nat} {σ : St} {H1 : Hp} {D : Addr} {Qd : Hp → Prop} (Pv : Nat → Hp → Prop) (h0 : Pv 0 (upd H1 D (.lst [])))
    (hs : ∀ i H, i < n → Pv i H → g (.int (lo + i)) (wipe σ vs) H fun σ2 H2 => wipe σ2 vs = wipe σ vs ∧ tt σ2 H2 fun b H3 =>
      if b = true then te σ2 H3 fun y H4 => ∃ acc, H4 D = some (.lst acc) ∧ acc.length < sizeLine ∧ Pv (i + 1) (upd H4 D (.lst (acc ++ [y]))) else Pv (i + 1) H3) (hd : ∀ H, Pv n H → Qd H) :
    ∃ W : Nat → Nat → Hp → Prop, (∃ m, W 0 m (upd H1 D (.lst []))) ∧ ∀ i m H, W i m H →
      ((Itr lo n).stop i H ∧ Qd H) ∨ ((Itr lo n).go i H ∧ ∃ Nx : Hp → Prop, (∀ H', Nx H' → ∃ m', m' < m ∧ W (i + 1) m' H') ∧ ∀ x H', (Itr lo n).yld i H x H' → g x (wipe σ vs) H' fun σ2 H2 => wipe σ2 vs = wipe σ vs ∧ tt σ2 H2 fun b H3 =>
        if b = true then te σ2 H3 fun y H4 => ∃ acc, H4 D = some (.lst acc) ∧ acc.length < sizeLine ∧ Nx (upd H4 D (.lst (acc ++ [y]))) else Nx H3) := by
  refine ⟨fun i m H => m = n - i ∧ i ≤ n ∧ Pv i H, ⟨n, by simp, Nat.zero_le _, h0⟩, ?_⟩
  rintro i m H ⟨rfl, hi, p⟩
  by_cases hlt : i < n
  · refine .inr ⟨hlt, Pv (i + 1), fun H' p' => ⟨n - (i + 1), by omega, rfl, hlt, p'⟩, fun x H' y => ?_⟩
    obtain ⟨e, y⟩ := y
    subst e y
    exact hs i _ hlt p
  · have e : i = n := by omega
    subst e
    exact .inl ⟨Nat.le_refl _, hd H p⟩
theorem lc_list {K : PySem.W.Frag} {a : Addr} {xs : List V} {g : TG} {tt : TT} {te : TE} {vs : List Nat} {σ : St} {H1 : Hp} {D : Addr} {Qd : Hp → Prop} (Pv : Nat → Hp → Prop) (h0 : Pv 0 (upd H1 D (.lst []))) (hl : ∀ i H, i ≤ xs.length → Pv i H → SqL K H a xs)
    (hs : ∀ i x H, xs[i]? = some x → Pv i H → g x (wipe σ vs) H fun σ2 H2 => wipe σ2 vs = wipe σ vs ∧ tt σ2 H2 fun b H3 =>
      if b = true then te σ2 H3 fun y H4 => ∃ acc, H4 D = some (.lst acc) ∧ acc.length < sizeLine ∧ Pv (i + 1) (upd H4 D (.lst (acc ++ [y]))) else Pv (i + 1) H3) (hd : ∀ H, Pv xs.length H → Qd H) :
    ∃ W : Nat → Nat → Hp → Prop, (∃ m, W 0 m (upd H1 D (.lst []))) ∧ ∀ i m H, W i m H →
      ((Itl K a).stop i H ∧ Qd H) ∨ ((Itl K a).go i H ∧ ∃ Nx : Hp → Prop, (∀ H', Nx H' → ∃ m', m' < m ∧ W (i + 1) m' H') ∧ ∀ x H', (Itl K a).yld i H x H' → g x (wipe σ vs) H' fun σ2 H2 => wipe σ2 vs = wipe σ vs ∧ tt σ2 H2 fun b H3 =>
        if b = true then te σ2 H3 fun y H4 => ∃ acc, H4 D = some (.lst acc) ∧ acc.length < sizeLine ∧ Nx (upd H4 D (.lst (acc ++ [y]))) else Nx H3) := by
  refine ⟨fun i m H => m = xs.length - i ∧ i ≤ xs.length ∧ Pv i H, ⟨xs.length, by simp, Nat.zero_le _, h0⟩, ?_⟩
  rintro i m H ⟨rfl, hi, p⟩
  have q := hl i H hi p
  by_cases hlt : i < xs.length
  · refine .inr ⟨⟨xs, xs[i], q, by simp [hlt]⟩, Pv (i + 1), fun H' p' => ⟨xs.length - (i + 1), by omega, rfl, hlt, p'⟩, fun x H' y => ?_⟩
    obtain ⟨e, y⟩ := y
    subst e
    exact hs i x _ (y xs q) p
  · have e : i = xs.length := by omega
    subst e
    exact .inl ⟨⟨xs, q, Nat.le_refl _⟩, hd H p⟩
end L2
namespace L2
open PySem PySem.Spec PyProof.Rows
section
variable {prog : Program} {w : World} {A : Around} {R : Result → Shared → Prop} {s : Shared} {elt t0 i0 t1 i1 : Expr} {ifs0 ifs1 : List Expr} {scope : Scope} {pos : Pos} {it acc : Value} {env : Env}
end
section
variable {X : Cx}
end
end L2
namespace L2
open PySem PySem.Spec PyProof.Rows
section
variable {κ : Type} [DecidableEq κ]
def valV (kvs : List (κ × V)) (k : κ) : Option V := (kvs.find? fun kv => decide (kv.1 = k)).map (·.2)
def putK (kvs : List (κ × V)) (k : κ) (v : V) : List (κ × V) :=
  if (kvs.any fun kv => decide (kv.1 = k)) = true then kvs.map (fun kv => if kv.1 = k then (kv.1, v) else kv) else kvs ++ [(k, v)]
def dropK (kvs : List (κ × V)) (k : κ) : List (κ × V) := kvs.filter fun kv => decide (kv.1 ≠ k)

theorem RelO.getD {o : Option V} {u : Option Value} {d : V} {d' : Value} (r : RelO o u) (rd : RelV d d') : RelV (o.getD d) (u.getD d') := by
  cases o with
  | none => cases u with
    | none => exact rd
    | some _ => exact (show False from r).elim
  | some _ => cases u with
    | none => exact (show False from r).elim
    | some _ => exact r

theorem KV.any {kvs : List (κ × V)} {vs : List (κ × Value)} (r : KV kvs vs) (k : κ) : (kvs.any fun kv => decide (kv.1 = k)) = vs.any fun kv => decide (kv.1 = k) := by
  unfold KV at r
  induction r with
  | nil => rfl
  | cons h t ih => rw [List.any_cons, List.any_cons, ih, h.1]
theorem KV.drop {kvs : List (κ × V)} {vs : List (κ × Value)} (r : KV kvs vs) (k : κ) : KV (dropK kvs k) (without vs k) := by
  unfold KV at r ⊢
  unfold dropK without
  induction r with
  | nil => exact .nil
  | @cons p q ps qs h t ih =>
    obtain ⟨h1, h2⟩ := h
    rw [List.filter_cons, List.filter_cons]
    by_cases e : p.1 = k
    · have a : ¬ decide (p.1 ≠ k) = true := by simp [e]
      have b : ¬ decide (q.1 ≠ k) = true := by simp [h1.symm.trans e]
      rw [if_neg a, if_neg b]; exact ih
    · have e' : ¬ q.1 = k := fun z => e (h1.trans z)
      have a : decide (p.1 ≠ k) = true := by simp [e]
      have b : decide (q.1 ≠ k) = true := by simp [e']
      rw [if_pos a, if_pos b]; exact .cons ⟨h1, h2⟩ ih
theorem KV.keys {kvs : List (κ × V)} {vs : List (κ × Value)} (r : KV kvs vs) : kvs.map (·.1) = vs.map (·.1) := by
  unfold KV at r
  induction r with
  | nil => rfl
  | cons h t ih => rw [List.map_cons, List.map_cons, ih, h.1]
theorem KV.length {kvs : List (κ × V)} {vs : List (κ × Value)} (r : KV kvs vs) : kvs.length = vs.length := Paired.length r
end
abbrev KT (H : Hp) : List (List Key × V) → List (List Key × Addr × Value) → Prop := Paired fun p q => p.1 = q.1 ∧ H q.2.1 = some (.tup (p.1.map kV)) ∧ RelV p.2 q.2.2
theorem KT.keeps {H H' : Hp} {kvs : List (List Key × V)} {xs : List (List Key × Addr × Value)} (r : KT H kvs xs) (ht : ∀ b ys, H b = some (.tup ys) → H' b = some (.tup ys)) : KT H' kvs xs :=
  Paired.mapP r fun _ _ z => ⟨z.1, ht _ _ z.2.1, z.2.2⟩

section
variable {P : Program} {w : World} {H : Hp} {h : Heap} {a : Addr}
end
def DGet (H : Hp) (a : Addr) (y : V) (r : Option V) : Prop :=
  (∃ kvs k, Rd H a (.dK kvs) ∧ y = kV k ∧ r = valV kvs k) ∨ ∃ kvs k b, Rd H a (.dT kvs) ∧ y = .ref b ∧ H b = some (.tup (k.map kV)) ∧ r = valV kvs k
def DPut (H : Hp) (a : Addr) (y v : V) (H' : Hp) : Prop :=
  (∃ kvs k, H a = some (.dK kvs) ∧ y = kV k ∧ kvs.length < sizeLine ∧ H' = upd H a (.dK (putK kvs k v))) ∨
  ∃ kvs k b, H a = some (.dT kvs) ∧ y = .ref b ∧ H b = some (.tup (k.map kV)) ∧ kvs.length < sizeLine ∧ H' = upd H a (.dT (putK kvs k v))
theorem DGet.k {H : Hp} {a : Addr} {kvs : List (Key × V)} {k : Key} (e : H a = some (.dK kvs)) : DGet H a (kV k) (valV kvs k) := .inl ⟨kvs, k, .inl e, rfl, rfl⟩
theorem DGet.t {H : Hp} {a b : Addr} {kvs : List (List Key × V)} {k : List Key} (e : H a = some (.dT kvs)) (eb : H b = some (.tup (k.map kV))) : DGet H a (.ref b) (valV kvs k) := .inr ⟨kvs, k, b, .inl e, rfl, eb, rfl⟩
theorem DPut.k {H : Hp} {a : Addr} {kvs : List (Key × V)} {k : Key} {v : V} (e : H a = some (.dK kvs)) (hl : kvs.length < sizeLine) : DPut H a (kV k) v (upd H a (.dK (putK kvs k v))) := .inl ⟨kvs, k, e, rfl, hl, rfl⟩
theorem DPut.t {H : Hp} {a b : Addr} {kvs : List (List Key × V)} {k : List Key} {v : V} (e : H a = some (.dT kvs)) (eb : H b = some (.tup (k.map kV))) (hl : kvs.length < sizeLine) :
    DPut H a (.ref b) v (upd H a (.dT (putK kvs k v))) := .inr ⟨kvs, k, b, e, rfl, eb, hl, rfl⟩


section
variable {X : Cx} {pins : List (Addr × Obj)} {σ : St} {H : Hp} {s : Shared} {a : Addr} {y v : V} {u r : Value} {o : Option V} {A : Around} {E : Value → Shared → Prop}
end
section
variable {X : Cx} {pins : List (Addr × Obj)} {σ : St} {H : Hp} {s : Shared} {a : Addr} {kvs : List (Key × V)} {k : Key} {u : Value} {A : Around} {E : Value → Shared → Prop}
end
section
variable {X : Cx} {o i e value : Expr} {pos pos' tpos : Pos} {td ty tv : TE}
end
section
variable {X : Cx} {pos : Pos}
end
structure M1 (X : Cx) (o : Expr) (m : Str) (apos : Pos) (e : Expr) (cpos : Pos) : Prop where
  base : attributeBase o m X.env (eval o X.env) = eval o X.env
  few : ((backTo cpos (starEach [e] X.env)).all (fun x => !x.1) && (backToKw cpos (keywordEach [] X.env)).all (fun x => x.1.isSome)
    && decide (([e] : List Expr).length + ([] : List Keyword).length + (if ([] : List Keyword).isEmpty then 0 else 1) < 30)) = true
  line : (apos.endLine == cpos.line) = true
  trees : backTo cpos (starEach [e] X.env) = [(false, eval e X.env)]
structure M2 (X : Cx) (o : Expr) (m : Str) (apos : Pos) (e f : Expr) (cpos : Pos) : Prop where
  base : attributeBase o m X.env (eval o X.env) = eval o X.env
  few : ((backTo cpos (starEach [e, f] X.env)).all (fun x => !x.1) && (backToKw cpos (keywordEach [] X.env)).all (fun x => x.1.isSome)
    && decide (([e, f] : List Expr).length + ([] : List Keyword).length + (if ([] : List Keyword).isEmpty then 0 else 1) < 30)) = true
  line : (apos.endLine == cpos.line) = true
  trees : backTo cpos (starEach [e, f] X.env) = [(false, eval e X.env), (false, eval f X.env)]

section
variable {X : Cx} {pins : List (Addr × Obj)} {σ : St} {H : Hp} {s : Shared} {a : Addr} {y d : V} {u r : Value} {o : Option V} {A : Around} {E : Value → Shared → Prop}
end
section
variable {X : Cx} {o e f : Expr} {apos cpos : Pos} {td ty tx : TE}
end
section
variable {X : Cx} {pins : List (Addr × Obj)} {σ : St} {H : Hp} {s : Shared} {a : Addr} {kvs : List (Key × V)} {A : Around} {E : Value → Shared → Prop}
end
section
variable {X : Cx} {pins : List (Addr × Obj)} {σ : St} {H : Hp} {s : Shared} {a : Addr} {y : V} {u : Value} {A : Around} {E : Value → Shared → Prop}
end
end L2
namespace L2
open PySem PySem.Spec PyProof.Rows
section
variable {prog : Program} {w : World} {A : Around} {E : Value → Shared → Prop}
end
section
variable {X : Cx}
end
end L2
namespace L2
open PySem PySem.Spec PyProof.Rows
section
variable {X : Cx} {pins : List (Addr × Obj)} {σ : St} {H : Hp} {s : Shared} {h' : Heap}
theorem Inv.turnedL {t' : Nat} {ch : List Addr} (I : Inv X pins σ H s) (k : ∀ b o, b ∉ ch → s.heap.get? b = some o → h'.get? b = some o) (hf : ∀ b ∈ ch, FpOk X pins H b) : Inv X pins σ H { s with heap := h', toks := t' } := by
  have nit : ∀ b u, H b = some u → b ∉ ch := fun b u e z => by
    have q := (hf b z).1
    rw [q] at e; cases e
  refine I.step (g' := s.gens) (d' := s.drawn) (ch := ch) (fun b hb => ⟨(hf b hb).2.2.2.1, (hf b hb).2.1, (hf b hb).2.2.2.2.1, (hf b hb).2.2.2.2.2⟩) (fun b o _ _ hc e _ => k b o hc e) (fun b o _ _ hc e _ => ⟨o.slots, k b o hc e⟩)
    (fun _ _ _ _ n => n) (fun b o hc e => ⟨o, k b o hc e⟩) (fun _ _ e => e) (fun _ _ _ e => e) (fun b ps e => ⟨#[], by rw [e]; simp⟩) (fun m hm => ?_) (fun b u e => ?_) I.bare
  · obtain ⟨o, es, ep, ho, r⟩ := hm
    exact ⟨o, es, ep, k _ o (fun z => (hf _ z).2.1 rfl) ho, r⟩
  · refine (I.hok b u e).stay (fun c v hc q => k c v ?_ q) (fun _ q => q) fun _ _ q => q
    rcases hc with z | z
    · rw [z]; exact nit b u e
    · exact nit c _ z
theorem Inv.turnedNew {t' : Nat} {ch : List Addr} {T : Addr} {ob : HO} (I : Inv X pins σ H s) (k : ∀ b o, b ∉ ch → s.heap.get? b = some o → h'.get? b = some o) (hf : ∀ b ∈ ch, FpOk X pins H b) (hT : s.heap.objs.size ≤ T)
    (new : ObjOk X.prog X.w (upd H T ob) h' T ob) : Inv X pins σ (upd H T ob) { s with heap := h', toks := t' } := by
  have hn : H T = none := I.hok.fresh hT
  have nit : ∀ b u, H b = some u → b ∉ ch := fun b u e z => by
    have q := (hf b z).1
    rw [q] at e; cases e
  refine I.step (g' := s.gens) (d' := s.drawn) (ch := ch) (fun b hb => ⟨(hf b hb).2.2.2.1, (hf b hb).2.1, (hf b hb).2.2.2.2.1, (hf b hb).2.2.2.2.2⟩) (fun b o _ _ hc e _ => k b o hc e) (fun b o _ _ hc e _ => ⟨o.slots, k b o hc e⟩)
    (fun b o _ e n => ?_) (fun b o hc e => ⟨o, k b o hc e⟩) (fun b xs e => ?_) (fun b o u e => ?_) (fun b ps e => ⟨#[], ?_⟩) (fun m hm => ?_) (fun b u e => ?_) I.bare
  · rw [upd_ne (Nat.ne_of_lt (Nat.lt_of_lt_of_le (Heap.lt_size e) hT))]; exact n
  · rw [upd_ne (ne_of_none e hn)]; exact e
  · rw [upd_ne (ne_of_none e hn)]; exact e
  · rw [upd_ne (ne_of_none e hn), e]; simp
  · obtain ⟨o, es, ep, ho, r⟩ := hm
    exact ⟨o, es, ep, k _ o (fun z => (hf _ z).2.1 rfl) ho, r⟩
  · by_cases hb : b = T
    · subst hb
      rw [upd_same] at e
      cases e
      exact new
    · rw [upd_ne hb] at e
      refine (I.hok b u e).stay (fun c v hc q => k c v ?_ q) (fun c q => by rw [upd_ne (ne_of_none q hn)]; exact q) fun c xs q => by rw [upd_ne (ne_of_none q hn)]; exact q
      rcases hc with z | z
      · rw [z]; exact nit b u e
      · exact nit c _ z

end
section
variable {X : Cx}
end
section
variable {X : Cx} {tg : Expr}
end
section
variable {X : Cx} {tg : Expr}
end
section
variable {prog : Program} {w : World} {A : Around} {E : Value → Shared → Prop} {s : Shared}
end
section
variable {X : Cx} {pins : List (Addr × Obj)} {σ : St} {H : Hp} {s : Shared} {d : Addr} {o : Obj}
end
section
variable {P : Program} {w : World} {K : PySem.W.Frag} {tg : Expr} {d : Addr} {o : Obj} {es : Array DictEntry} {ep : Nat}
end
section
variable {X : Cx} {tg e : Expr} {td : TE} {apos cpos : Pos}
end
def Ite (K : PySem.W.Frag) (a : Addr) : It :=
  ⟨fun i H => ∃ (xs : List V) (x : V), SqL K H a xs ∧ xs[i]? = some x, fun i H v H' => ∃ T x, v = .ref T ∧ H T = none ∧ H' = upd H T (.tup [.int (i : Nat), x]) ∧ ∀ xs, SqL K H a xs → xs[i]? = some x, fun i H => ∃ xs : List V, SqL K H a xs ∧ xs.length ≤ i⟩
theorem turn_enum {P : Program} {w : World} {K : PySem.W.Frag} {elts : List Expr} {kk : Nat} {tpos : Pos} (a e it : Addr) :
    Turn P w K (.Tuple elts kk tpos) (Ite K a) [e, it] e (fun i h => (∃ old, IsEnum h e it ((i : Nat) : Int) old) ∧ h.IsListIter it a i ∧ e ≠ it) where
  mem := by simp
  obj := fun i h st b hb => by
    obtain ⟨⟨old, he⟩, ⟨o, ho, hc, hd⟩, _⟩ := st
    have e' : b = e ∨ b = it := by simpa using hb
    rcases e' with z | z
    · rw [z]; exact ⟨_, he, fun v q => nomatch q⟩
    · rw [z]; exact ⟨o, ho, fun v q => by rw [hd] at q; cases q⟩
  keep := fun i h h' st k => let ⟨⟨old, he⟩, hi, hne⟩ := st; ⟨⟨old, k e (by simp) _ he⟩, hi.at fun o q => k it (by simp) o q, hne⟩
  item := by
    intro X hP hw hK hc i pins s σ H E I hf st hg
    subst hP hw hK
    obtain ⟨⟨old, he⟩, hit, hne⟩ := st
    obtain ⟨xs, x, hq, hx⟩ := hg
    obtain ⟨its, rv, p, hz⟩ := I.list hq
    obtain ⟨u, hu, ru⟩ := rv.get hx
    have hel : e < s.heap.objs.size := Heap.lt_size he
    have hil : it < s.heap.objs.size := by obtain ⟨_, q, _⟩ := hit; exact Heap.lt_size q
    refine wpAny_pyNext_enum_item he hit p.isList (x := u) (by simpa using hu) hne fun h' ho hit' hT hsz hk => ?_
    refine ⟨_, rfl, wpAny_letOwnedTupleGo_enum (s := { s with heap := h', toks := s.toks + 1 }) ho fun h'' he' sb => ?_⟩
    have hT2 : h''.get? s.heap.objs.size = some { cls := .type "tuple", data := .seq #[.int i s.toks, u] } := (sb.2 _ (Nat.ne_of_gt hel)).trans hT
    have new : ObjOk X.prog X.w (upd H s.heap.objs.size (.tup [.int (i : Nat), x])) h'' s.heap.objs.size (.tup [.int (i : Nat), x]) :=
      ⟨by show 2 ≤ sizeLine; decide, [.int i s.toks, u], .cons ⟨_, rfl⟩ (.cons ru .nil), ⟨_, hT2, rfl, _, rfl⟩⟩
    have I1 : Inv X pins σ (upd H s.heap.objs.size (.tup [.int (i : Nat), x])) { s with heap := h'', toks := s.toks + 1 } :=
      I.turnedNew (ch := [e, it]) (fun b ob hb q => (sb.2 b (fun z => hb (by simp [z]))).trans (hk b ob (fun z => hb (by simp [z])) (fun z => hb (by simp [z])) q)) hf (Nat.le_refl _) new
    refine ⟨.ref s.heap.objs.size, _, I1, rfl, ⟨_, x, rfl, I.hok.fresh (Nat.le_refl _), rfl, fun ys hy => by rw [I.list_inj hy hq]; exact hx⟩, ⟨⟨u, ?_⟩, hit'.at fun o q => (sb.2 it (Ne.symm hne)).trans q, hne⟩, fun b hb => ?_⟩
    · have e1 : ((i + 1 : Nat) : Int) = (i : Int) + 1 := by omega
      rw [e1]; exact he'
    · have hb' : b < s.heap.objs.size := by
        have e' : b = e ∨ b = it := by simpa using hb
        rcases e' with z | z
        · rw [z]; exact hel
        · rw [z]; exact hil
      rw [upd_ne (Nat.ne_of_lt hb')]
      exact (hf b hb).1
  done := by
    intro X hP hw hK hc i pins s σ H E I hf st hg
    subst hP hw hK
    obtain ⟨⟨old, he⟩, hit, hne⟩ := st
    obtain ⟨xs, hq, hx⟩ := hg
    obtain ⟨its, rv, p, hz⟩ := I.list hq
    obtain ⟨f0, f1, f2, f3, f4, f5⟩ := hf it (by simp)
    have hl := rv.length
    exact wpAny_pyNext_enum_end (I.ok.hd hc) he hit p.isList (by simp; omega) fun h' eb => ⟨rfl, I.turned (t' := s.toks) (fun b o hb q => eb b o hb q) f0 f1 f3 f4 f5⟩
  self := fun A i s Q E st h => let ⟨⟨_, he⟩, _⟩ := st; wpAny_pyIter_enum he h
def iEnum (K : PySem.W.Frag) (ta : TA) : TI := fun σ H R => ta σ H fun vs H1 => ∃ a xs, vs = [.ref a] ∧ SqL K H1 a xs ∧ R (Ite K a) H1
theorem pi_enum {X : Cx} {e : Expr} {ta : TA} {p pos tpos : Pos} {elts : List Expr} {kk : Nat} (hg : Gl X "enumerate") (hm : X.mg "enumerate" = none) (ha : PA X [e] ta) (hs : starEach [e] X.env = [(false, eval e X.env)] := by rfl) :
    PI X (.Tuple elts kk tpos) (.Call (.Name "enumerate" p) [e] [] pos) (iEnum X.K ta) := by
  intro pins s σ H R I h
  refine Call_ (ld_blt I hg hm boot_enumerate (PyProof.Rows.callWith_type1 (thn (ha pos pins s σ H _ I h) fun us s1 ⟨vs, H1, I1, r1, q1⟩ => ?_) hs rfl))
  obtain ⟨a, xs, ex, hq, q⟩ := q1
  subst ex
  cases r1 with
  | cons r rr =>
    cases rr
    cases r
    obtain ⟨its, rv, p', hz⟩ := I1.list hq
    refine call_enumerate_list p'.isList fun h' he hit hsz hk => wpAny_pyIter_enum he ?_
    have I2 : Inv X pins σ H1 { s1 with heap := h' } := I1.kept (t' := s1.toks) hk
    refine ⟨s1.heap.objs.size + 1, [s1.heap.objs.size + 1, s1.heap.objs.size], _, _, H1, rfl, I2, turn_enum a (s1.heap.objs.size + 1) s1.heap.objs.size, ⟨⟨.none, he⟩, hit, Nat.succ_ne_self _⟩, fun b hb => ?_, q⟩
    have e' : b = s1.heap.objs.size + 1 ∨ b = s1.heap.objs.size := by simpa using hb
    have hle : s1.heap.objs.size ≤ b := by
      rcases e' with z | z
      · rw [z]; exact Nat.le_add_right _ _
      · rw [z]; exact Nat.le_refl _
    exact I1.fpOk hle (I1.hok.fresh hle)
theorem boot_zip5 : bootBuiltins "zip" = some (.type "zip") := by decide +kernel
def Itz (K : PySem.W.Frag) (a b : Addr) : It :=
  ⟨fun i H => ∃ (xs ys : List V) (x y : V), SqL K H a xs ∧ SqL K H b ys ∧ xs[i]? = some x ∧ ys[i]? = some y,
    fun i H v H' => ∃ T x y, v = .ref T ∧ H T = none ∧ H' = upd H T (.tup [x, y]) ∧ (∀ xs, SqL K H a xs → xs[i]? = some x) ∧ ∀ ys, SqL K H b ys → ys[i]? = some y,
    fun i H => ∃ xs ys : List V, SqL K H a xs ∧ SqL K H b ys ∧ (xs.length ≤ i ∨ ys.length ≤ i)⟩
theorem turn_zip {P : Program} {w : World} {K : PySem.W.Frag} {elts : List Expr} {kk : Nat} {tpos : Pos} {a b z TI TO i1 i2 : Addr} (D : ZipApart z TI TO i1 i2 a b) :
    Turn P w K (.Tuple elts kk tpos) (Itz K a b) [z, TI, TO, i1, i2] z (fun i h => IsZip h z TI TO .none ∧ IsPair h TI (.ref i1) (.ref i2) ∧ (∃ x y, IsPair h TO x y) ∧ h.IsListIter i1 a i ∧ h.IsListIter i2 b i) where
  mem := by simp
  obj := fun i h st c hc => by
    obtain ⟨hz, hTI, ⟨x, y, hTO⟩, ⟨o1, e1, _, d1⟩, ⟨o2, e2, _, d2⟩⟩ := st
    have e' : c = z ∨ c = TI ∨ c = TO ∨ c = i1 ∨ c = i2 := by simpa using hc
    rcases e' with q | q | q | q | q
    · rw [q]; exact ⟨_, hz, fun v q => nomatch q⟩
    · rw [q]; exact ⟨_, hTI, fun v q => nomatch q⟩
    · rw [q]; exact ⟨_, hTO, fun v q => nomatch q⟩
    · rw [q]; exact ⟨o1, e1, fun v q => by rw [d1] at q; cases q⟩
    · rw [q]; exact ⟨o2, e2, fun v q => by rw [d2] at q; cases q⟩
  keep := fun i h h' st k => by
    obtain ⟨hz, hTI, ⟨x, y, hTO⟩, h1, h2⟩ := st
    exact ⟨k z (by simp) _ hz, k TI (by simp) _ hTI, ⟨x, y, k TO (by simp) _ hTO⟩, h1.at fun o q => k i1 (by simp) o q, h2.at fun o q => k i2 (by simp) o q⟩
  item := by
    intro X hP hw hK hc i pins s σ H E I hf st hg
    subst hP hw hK
    obtain ⟨hz, hTI, ⟨x0, y0, hTO⟩, h1, h2⟩ := st
    obtain ⟨xs, ys, x, y, hqx, hqy, hx, hy⟩ := hg
    obtain ⟨its, rv, p, _⟩ := I.list hqx
    obtain ⟨its2, rv2, p2, _⟩ := I.list hqy
    obtain ⟨u, hu, ru⟩ := rv.get hx
    obtain ⟨u2, hu2, ru2⟩ := rv2.get hy
    have hzl : z < s.heap.objs.size := Heap.lt_size hz
    refine wpAny_pyNext_zip_item D hz hTI hTO h1 h2 p.isList p2.isList (x := u) (y := u2) (by simpa using hu) (by simpa using hu2) fun h' z' TO' h1' h2' hT hsz hk => ?_
    refine ⟨_, rfl, wpAny_letOwnedTupleGo_zip (s := { s with heap := h' }) z' fun h'' z'' sb => ?_⟩
    have hT2 : h''.get? s.heap.objs.size = some { cls := .type "tuple", data := .seq #[u, u2] } := (sb.2 _ (Nat.ne_of_gt hzl)).trans hT
    have new : ObjOk X.prog X.w (upd H s.heap.objs.size (.tup [x, y])) h'' s.heap.objs.size (.tup [x, y]) :=
      ⟨by show 2 ≤ sizeLine; decide, [u, u2], .cons ru (.cons ru2 .nil), ⟨_, hT2, rfl, _, rfl⟩⟩
    have I1 : Inv X pins σ (upd H s.heap.objs.size (.tup [x, y])) { s with heap := h'' } :=
      I.turnedNew (t' := s.toks) (ch := [z, TI, TO, i1, i2]) (fun c o hb q => (sb.2 c (fun q' => hb (by simp [q']))).trans (hk c o (fun q' => hb (by simp [q'])) (fun q' => hb (by simp [q'])) (fun q' => hb (by simp [q'])) (fun q' => hb (by simp [q'])) q)) hf (Nat.le_refl _) new
    refine ⟨.ref s.heap.objs.size, _, I1, rfl, ⟨_, x, y, rfl, I.hok.fresh (Nat.le_refl _), rfl, fun l hl => by rw [I.list_inj hl hqx]; exact hx, fun l hl => by rw [I.list_inj hl hqy]; exact hy⟩, ⟨z'', ?_, ⟨u, u2, ?_⟩, ?_, ?_⟩, fun c hcm => ?_⟩
    · exact (sb.2 _ D.TIz).trans (hk _ _ D.TIz D.TITO D.TIi1 D.TIi2 hTI)
    · exact (sb.2 _ D.TOz).trans TO'
    · exact h1'.at fun o q => (sb.2 _ D.i1z).trans q
    · exact h2'.at fun o q => (sb.2 _ D.i2z).trans q
    · have hlt : c < s.heap.objs.size := by
        have e' : c = z ∨ c = TI ∨ c = TO ∨ c = i1 ∨ c = i2 := by simpa using hcm
        rcases e' with q | q | q | q | q
        · rw [q]; exact hzl
        · rw [q]; exact Heap.lt_size hTI
        · rw [q]; exact Heap.lt_size hTO
        · rw [q]; obtain ⟨_, e1, _⟩ := h1; exact Heap.lt_size e1
        · rw [q]; obtain ⟨_, e2, _⟩ := h2; exact Heap.lt_size e2
      rw [upd_ne (Nat.ne_of_lt hlt)]
      exact (hf c hcm).1
  done := by
    intro X hP hw hK hc i pins s σ H E I hf st hg
    subst hP hw hK
    obtain ⟨hz, hTI, ⟨x0, y0, hTO⟩, h1, h2⟩ := st
    obtain ⟨xs, ys, hqx, hqy, hend⟩ := hg
    obtain ⟨its, rv, p, _⟩ := I.list hqx
    obtain ⟨its2, rv2, p2, _⟩ := I.list hqy
    have l1 := rv.length
    have l2 := rv2.length
    have he : its.toArray[i]? = none ∨ its2.toArray[i]? = none := by
      rcases hend with q | q
      · exact .inl (by simp; omega)
      · exact .inr (by simp; omega)
    exact wpAny_pyNext_zip_end (I.ok.hd hc) D hz hTI hTO h1 h2 p.isList p2.isList he fun h' hk => ⟨rfl, I.turnedL (t' := s.toks) (ch := [z, TI, TO, i1, i2]) (fun c o hb q =>
      hk c o (fun q' => hb (by simp [q'])) (fun q' => hb (by simp [q'])) (fun q' => hb (by simp [q'])) (fun q' => hb (by simp [q'])) q) hf⟩
  self := fun A i s Q E st h => wpAny_pyIter_zip st.1 h
def iZip (K : PySem.W.Frag) (ta : TA) : TI := fun σ H R => ta σ H fun vs H1 => ∃ a b xs ys, vs = [.ref a, .ref b] ∧ SqL K H1 a xs ∧ SqL K H1 b ys ∧ R (Itz K a b) H1
theorem pi_zip {X : Cx} {e e2 : Expr} {ta : TA} {p pos tpos : Pos} {elts : List Expr} {kk : Nat} (hg : Gl X "zip") (hm : X.mg "zip" = none) (ha : PA X [e, e2] ta)
    (hs : starEach [e, e2] X.env = (false, eval e X.env) :: starEach [e2] X.env := by rfl) (hpl : (backTo pos (starEach [e2] X.env)).any (·.1) = false := by rfl) :
    PI X (.Tuple elts kk tpos) (.Call (.Name "zip" p) [e, e2] [] pos) (iZip X.K ta) := by
  intro pins s σ H R I h
  refine Call_ (ld_blt I hg hm boot_zip5 (PyProof.Rows.callWith_type1 (thn (ha pos pins s σ H _ I h) fun us s1 ⟨vs, H1, I1, r1, q1⟩ => ?_) hs hpl))
  obtain ⟨a, b, xs, ys, ex, hqx, hqy, q⟩ := q1
  subst ex
  cases r1 with
  | cons r rr =>
    cases rr with
    | cons r' rr =>
      cases rr
      cases r
      cases r'
      obtain ⟨its, rv, p1, _⟩ := I1.list hqx
      obtain ⟨its2, rv2, p2, _⟩ := I1.list hqy
      have la : a < s1.heap.objs.size := p1.lt
      have lb : b < s1.heap.objs.size := p2.lt
      refine call_zip_2 p1.isList p2.isList fun h' hz hTI hTO h1 h2 hsz hk => wpAny_pyIter_zip hz ?_
      have I2 : Inv X pins σ H1 { s1 with heap := h' } := I1.kept (t' := s1.toks) hk
      refine ⟨s1.heap.objs.size + 4, [s1.heap.objs.size + 4, s1.heap.objs.size + 2, s1.heap.objs.size + 3, s1.heap.objs.size, s1.heap.objs.size + 1], _, _, H1, rfl, I2, turn_zip (PySem.W.ktu_apart s1.heap.objs.size a b la lb), ⟨hz, hTI, ⟨_, _, hTO⟩, h1, h2⟩, fun c hcm => ?_, q⟩
      have e' : c = s1.heap.objs.size + 4 ∨ c = s1.heap.objs.size + 2 ∨ c = s1.heap.objs.size + 3 ∨ c = s1.heap.objs.size ∨ c = s1.heap.objs.size + 1 := by simpa using hcm
      have hle : s1.heap.objs.size ≤ c := by
        rcases e' with z | z | z | z | z
        · rw [z]; exact Nat.le_add_right _ _
        · rw [z]; exact Nat.le_add_right _ _
        · rw [z]; exact Nat.le_add_right _ _
        · rw [z]; exact Nat.le_refl _
        · rw [z]; exact Nat.le_add_right _ _
      exact I1.fpOk hle (I1.hok.fresh hle)
end L2
section 
namespace Bits
open PySem PyProof.Rows
end Bits
end 
section 
namespace TL
open PySem PySem.Builtin PySem.Builtin.Str PySem.StrLaws
abbrev tl (x : Str) : List Nat := x.cps.toList
def pre (S l : List Nat) : Bool := l.take S.length == S
def par (S : List Nat) : List Nat → List Nat → Option (List Nat × List Nat)
  | _, [] => none
  | acc, c :: r => if pre S (c :: r) = true then some (acc, (c :: r).drop S.length) else par S (acc ++ [c]) r

end TL
end 
namespace L2
open PySem PySem.Spec PyProof.Rows
section
variable {X : Cx} {pins : List (Addr × Obj)} {σ : St} {H : Hp} {s : Shared} {Q : VK}
end
section
variable {X : Cx}
end
section
variable {X : Cx} {o e : Expr} {to te : TE}
end
end L2
namespace L2
open PySem PySem.Spec PyProof.Rows
section
variable {X : Cx}
end
end L2
namespace Att
open PySem PySem.W PySem.Calls PyProof.Rows
section
variable {prog : Program} {w : World} {A : Around} {E : Value → Shared → Prop} {s : Shared} {K : Frag}
end
end Att
namespace L2
open PySem PySem.Spec PyProof.Rows
end L2
namespace L2
open PySem PySem.Spec PyProof.Rows
end L2
namespace L2
open PySem PySem.Spec PyProof.Rows
def inClass (s : Stmt) (j : Nat) : Stmt := match s with
  | .ClassDef _ _ _ body _ _ _ _ _ _ _ => body.getD j (.Pass ⟨0, 0, 0, 0⟩)
  | _ => .Pass ⟨0, 0, 0, 0⟩
def defArgs (s : Stmt) : Arguments := match s with
  | .FunctionDef _ a _ _ _ _ _ _ _ _ => a
  | _ => { posonlyargs := [], args := [], vararg := none, kwonlyargs := [], kw_defaults := [], kwarg := none, defaults := [] }
def defBody (s : Stmt) : List Stmt := match s with
  | .FunctionDef _ _ b _ _ _ _ _ _ _ => b
  | _ => []
def defScope (s : Stmt) : Scope := match s with
  | .FunctionDef _ _ _ _ _ _ sc _ _ _ => sc
  | _ => { kind := .function, names := [], isGenerator := false, isCoroutine := false }

abbrev CX0 : CXT := fun _ _ _ _ _ _ => False
abbrev E0 : XK := fun _ _ _ => False
theorem pass0 {X : Cx} : Passes CX0 X E0 := fun _ _ _ _ _ _ _ h => h.elim

structure Fun (K : PySem.W.Frag) (x qual : Str) (st : Stmt) (f : Addr) (fd : FuncData) : Prop where
  ex : ∃ (oc : Value) (od : Option Addr) (kV doc pm : Value) (an : Option Addr) (cdv ct : Value) (osl : Array (Option Value)),
    fd = PySem.W.fnOf x qual (defArgs st) (defBody st) (defScope st) .none kV doc pm an cdv ct ∧ K.lookup f = some ⟨oc, od, .func fd, osl⟩ ∧ PySem.W.codeIn K cdv qual = true
  kp : PySem.W.keepIn K (.ref f) = true
section
variable {P : Program} {w : World} {K : PySem.W.Frag} {mg : Str → Option Value} {base : Heap}
theorem Fun.ok {x qual : Str} {st : Stmt} {f : Addr} {fd : FuncData} {N ps : List Str} {k : Nat} {sp : Sp} (F : Fun K x qual st f fd) (S : FnScope N ps (defScope st)) (len : ∀ vs H Q E, sp vs H Q E → vs.length = ps.length)
    (hbody : ∀ (cdv : Value) (A : Around) (outer : List Env) (s : Shared) (H : Hp) (vs : List V) (Q : VK) (E : XK), Room k (A.deeper (envOfC qual (defScope st) s.heap.objs.size f cdv)) → sp vs H Q E →
      ∃ t, PSs (cxOf CX0 P w K mg base N qual (defScope st) f cdv A outer s H E).nox (defBody st) t ∧ t { nx := fun _ H' => Q .non H', rt := Q } (start N vs) H) : FnOk P w K mg base CX0 (k + 1) f fd ps sp := by
  obtain ⟨oc, od, kV, doc, pm, an, cdv, ct, osl, rfl, lk, hcd⟩ := F.ex
  refine fn_of lk hcd S len fun A outer s H vs Q E hr hsp => ?_
  obtain ⟨t, h, q⟩ := hbody cdv A outer s H vs Q E hr hsp
  exact ⟨t, h.nox, q⟩
theorem Fun.binds {x qual : Str} {st : Stmt} {f : Addr} {fd : FuncData} {ps : List Str} (F : Fun K x qual st f fd)
    (h : ∀ (kV doc pm : Value) (an : Option Addr) (cdv ct : Value) (us : List Value), us.length = ps.length → bindArgs (PySem.W.fnOf x qual (defArgs st) (defBody st) (defScope st) .none kV doc pm an cdv ct) ⟨us, []⟩ = pure (ps.zip us)) : Binds K fd ps [] := by
  obtain ⟨oc, od, kV, doc, pm, an, cdv, ct, osl, rfl, lk, hcd⟩ := F.ex
  exact .all (h kV doc pm an cdv ct)
theorem fun_mk {x qual : Str} {st : Stmt} {f : Addr} {oc : Value} {od an : Option Addr} {osl : Array (Option Value)} {kV doc pm cdv ct : Value} (l : K.lookup f = some ⟨oc, od, .func (PySem.W.fnOf x qual (defArgs st) (defBody st) (defScope st) .none kV doc pm an cdv ct), osl⟩)
    (c : PySem.W.codeIn K cdv qual = true) (k : PySem.W.keepIn K (.ref f) = true) : Fun K x qual st f (PySem.W.fnOf x qual (defArgs st) (defBody st) (defScope st) .none kV doc pm an cdv ct) := ⟨⟨oc, od, kV, doc, pm, an, cdv, ct, osl, rfl, l, c⟩, k⟩
end
section
variable {X : Cx}
theorem pv (i : Nat) {x : Str} {pos : Pos} (hN : X.N[i]? = some x := by rfl) (hv : Vis X.env.scope x := by first | exact Or.inl rfl | exact Or.inr (Or.inl rfl) | exact Or.inr (Or.inr rfl)) (hd : (x == ("__debug__" : Str)) = false := by decide)
    (hcd : (x == ("__classdict__" : Str)) = false := by decide) : PE X (.Name x pos) (tVar i) := pe_var hN hv hd hcd
end
theorem ite2 {c A B : Prop} [Decidable c] (h1 : c → A) (h2 : ¬ c → B) : if c then A else B := by
  by_cases h : c
  · rw [if_pos h]
    exact h1 h
  · rw [if_neg h]
    exact h2 h
def Same (H H' : Hp) : Prop := ∀ b o, H b = some o → H' b = some o
theorem Same.refl (H : Hp) : Same H H := fun _ _ h => h
theorem Same.trans {H H1 H2 : Hp} (a : Same H H1) (b : Same H1 H2) : Same H H2 := fun c o h => b c o (a c o h)
theorem Same.free {H H' : Hp} (e : Same H H') {l : Addr} (h : H' l = Option.none) : H l = Option.none := by
  cases q : H l with
  | none => rfl
  | some o =>
    rw [e l o q] at h
    cases h
theorem Same.seq {K : PySem.W.Frag} {H H' : Hp} {a : Addr} {xs : List V} (e : Same H H') (h : SqL K H a xs) : SqL K H' a xs := by
  rcases h with (h | ⟨o, h⟩) | h
  · exact .inl (.inl (e _ _ h))
  · exact .inl (.inr ⟨o, e _ _ h⟩)
  · exact .inr h

section
variable {κ : Type} [DecidableEq κ]
end
theorem at_of {xs : List V} {z : Int} {j : Nat} {v : V} (e : z = (j : Int)) (h : xs[j]? = some v) : atI xs z = some v := by
  rw [e]
  exact atI_nat h
theorem nd_ix {α : Type} {l : List α} (hN : l.Nodup) {i j : Nat} {x : α} (a : l[i]? = some x) (b : l[j]? = some x) : i = j := by
  obtain ⟨h1, e1⟩ := List.getElem?_eq_some_iff.mp a
  obtain ⟨h2, e2⟩ := List.getElem?_eq_some_iff.mp b
  exact (List.getElem_inj hN).mp (e1.trans e2.symm)
theorem Same.made {H H1 : Hp} {x dx C : Addr} (nx : H x = Option.none) (nd : H dx = Option.none) (k : ∀ b o, (upd (upd H dx (.own x)) x (.ins C dx [])) b = some o → b ≠ x → H1 b = some o) : Same H H1 := fun b o e =>
  k b o (by rw [upd_ne (ne_of_none e nx), upd_ne (ne_of_none e nd)]; exact e) (ne_of_none e nx)
end L2
section
set_option Elab.async false
set_option linter.all false
set_option maxRecDepth 100000
set_option maxHeartbeats 2000000
namespace L2
open PySem PySem.Spec PyProof.Rows
open PySem.W (WData Codec OpenSpec Well WellAll ReadsW ReadsAllW)
mutual
inductive Dw (K : PySem.W.Frag) (H : Hp) : V → WData → Prop
  | non : Dw K H .non .none
  | bl (b : Bool) : Dw K H (.bl b) (.bool b)
  | int (i : Int) : Dw K H (.int i) (.int i)
  | str (x : Str) : Dw K H (.str x) (.str x)
  | byt (b : Array UInt8) : Dw K H (.byt b) (.bytes b.toList)
  | lst {a : Addr} {xs : List V} {ds : List WData} : SqL K H a xs → DwAll K H xs ds → Dw K H (.ref a) (.list ds)
  | tup {a : Addr} {xs : List V} {ds : List WData} : SqT K H a xs → DwAll K H xs ds → Dw K H (.ref a) (.tuple ds)
inductive DwAll (K : PySem.W.Frag) (H : Hp) : List V → List WData → Prop
  | nil : DwAll K H [] []
  | cons {v : V} {vs : List V} {d : WData} {ds : List WData} : Dw K H v d → DwAll K H vs ds → DwAll K H (v :: vs) (d :: ds)
end
theorem dw_ints {K : PySem.W.Frag} {H : Hp} : ∀ ns : List Int, DwAll K H (ns.map V.int) (ns.map WData.int)
  | [] => .nil
  | n :: r => .cons (.int n) (dw_ints r)
theorem ints_dw {K : PySem.W.Frag} {H : Hp} : ∀ (ns : List Int) (xs : List V), DwAll K H xs (ns.map WData.int) → xs = ns.map V.int
  | [], xs, h => by
    cases h
    rfl
  | n :: r, xs, h => by
    cases h with
    | cons h1 h2 =>
      cases h1
      rw [ints_dw r _ h2] <;> rfl
section
variable {P : Program} {w : World} {K : PySem.W.Frag} {H : Hp} {h : Heap} {R : PySem.W.WRecords} {cl : Str → Option Addr}
theorem sqL_at {a : Addr} {xs : List V} (hok : HOk P w H h) (KX : K.In h) (q : SqL K H a xs) : ∃ (its : List Value) (o : Obj) (n : Nat), Vals xs its ∧ h.get? a = some o ∧ o.cls = .type "list" ∧ o.data = .seq its.toArray n := by
  rcases q with q | ⟨o, its, n, e, hc, _, hd, _, hv⟩
  · obtain ⟨_, its, n, hv, e⟩ := (show ObjOk P w H h a (.lst xs) from q.ok hok)
    exact ⟨its, _, n, hv, e, rfl, rfl⟩
  · exact ⟨its.toList, o, n, hv, KX _ _ e, hc, by simp [hd]⟩
theorem sqT_at {a : Addr} {xs : List V} (hok : HOk P w H h) (KX : K.In h) (q : SqT K H a xs) : ∃ (its : List Value) (o : Obj) (n : Nat), Vals xs its ∧ h.get? a = some o ∧ o.cls = .type "tuple" ∧ o.data = .seq its.toArray n := by
  rcases q with q | ⟨o, its, n, e, hc, hd, _, hv⟩
  · obtain ⟨_, its, hv, o, e, hc, n, hd⟩ := (show ObjOk P w H h a (.tup xs) from q.ok hok)
    exact ⟨its, o, n, hv, e, hc, hd⟩
  · exact ⟨its.toList, o, n, hv, KX _ _ e, hc, by simp [hd]⟩
mutual
theorem Dw.reads (hok : HOk P w H h) (KX : K.In h) : ∀ (d : WData) (v : V) (u : Value), Dw K H v d → RelV v u → ∃ as, ReadsW R cl h u d as
  | .none, _, _, x, r => by
    cases x
    cases r
    exact ⟨_, ReadsW.none⟩
  | .bool b, _, _, x, r => by
    cases x
    cases r
    exact ⟨_, ReadsW.bool b⟩
  | .int i, _, _, x, r => by
    cases x
    obtain ⟨t, rfl⟩ := r
    exact ⟨_, ReadsW.int i t⟩
  | .str s, _, _, x, r => by
    cases x
    obtain ⟨t, rfl⟩ := r
    exact ⟨_, ReadsW.str s t⟩
  | .bytes b, _, _, x, r => by
    cases x
    obtain ⟨t, rfl⟩ := r
    exact ⟨_, ReadsW.bytes _ t⟩
  | .list ds, _, _, x, r => by
    cases x with
    | lst hs ha =>
      cases r
      obtain ⟨its, o, n, rv, ho, hc, hd⟩ := sqL_at hok KX hs
      obtain ⟨as, hr⟩ := Dw.readsAll hok KX ds _ its ha rv
      exact ⟨_, ReadsW.list ho hc hd hr⟩
  | .tuple ds, _, _, x, r => by
    cases x with
    | tup hs ha =>
      cases r
      obtain ⟨its, o, n, rv, ho, hc, hd⟩ := sqT_at hok KX hs
      obtain ⟨as, hr⟩ := Dw.readsAll hok KX ds _ its ha rv
      exact ⟨_, ReadsW.tuple ho hc hd hr⟩
  | .float _, _, _, x, _ => by cases x
  | .dict _, _, _, x, _ => by cases x
  | .bytearray _, _, _, x, _ => by cases x
  | .set _, _, _, x, _ => by cases x
  | .frozenset _, _, _, x, _ => by cases x
  | .obj _ _, _, _, x, _ => by cases x
theorem Dw.readsAll (hok : HOk P w H h) (KX : K.In h) : ∀ (ds : List WData) (vs : List V) (us : List Value), DwAll K H vs ds → Vals vs us → ∃ as, ReadsAllW R cl h us ds as
  | [], _, _, x, r => by
    cases x
    cases r
    exact ⟨_, ReadsAllW.nil⟩
  | d :: ds, _, _, x, r => by
    cases x with
    | cons h1 h2 =>
      cases r with
      | cons r1 r2 =>
        obtain ⟨as, q1⟩ := Dw.reads hok KX d _ _ h1 r1
        obtain ⟨bs, q2⟩ := Dw.readsAll hok KX ds _ _ h2 r2
        exact ⟨_, ReadsAllW.cons q1 q2⟩
end
end
mutual
def plW : WData → Bool
  | .none => true
  | .bool _ => true
  | .int _ => true
  | .str _ => true
  | .bytes _ => true
  | .list xs => plWs xs
  | .tuple xs => plWs xs
  | _ => false
def plWs : List WData → Bool
  | [] => true
  | x :: r => plW x && plWs r
end
theorem plWs_map {α : Type} {f : α → WData} (h : ∀ a, plW (f a) = true) : ∀ l : List α, plWs (l.map f) = true
  | [] => rfl
  | x :: r => by
    show (plW (f x) && plWs (r.map f)) = true
    rw [h x, plWs_map h r] <;> rfl
theorem pl_enc : ∀ (c : Codec) (a : c.denote), plW (c.enc a) = true
  | .unit, _ => rfl
  | .bool, _ => rfl
  | .int _ _, _ => rfl
  | .nat _ _, _ => rfl
  | .u8, _ => rfl
  | .bytes _ _, _ => rfl
  | .text _ _ _ _, _ => rfl
  | .list _ _ c, a => plWs_map (fun x => pl_enc c x) a
  | .pair c d, a => by
    show (plW (c.enc a.1) && (plW (d.enc a.2) && true)) = true
    rw [pl_enc c a.1, pl_enc d a.2] <;> rfl
  | .triple c d e, a => by
    show (plW (c.enc a.1) && (plW (d.enc a.2.1) && (plW (e.enc a.2.2) && true))) = true
    rw [pl_enc c a.1, pl_enc d a.2.1, pl_enc e a.2.2] <;> rfl
  | .option c, none => rfl
  | .option c, some x => pl_enc c x
theorem pl_encAll : ∀ (cs : List Codec) (a : Codec.denoteAll cs), plWs (Codec.encAll cs a) = true
  | [], _ => rfl
  | c :: cs, a => by
    show (plW (c.enc a.1) && plWs (Codec.encAll cs a.2)) = true
    rw [pl_enc c a.1, pl_encAll cs a.2] <;> rfl
theorem weight_mem : ∀ {xs : List WData} {d : WData}, d ∈ xs → d.weight ≤ WData.weightAll xs
  | [], d, h => absurd h (by simp)
  | x :: r, d, h => by
    show d.weight ≤ x.weight + 1 + WData.weightAll r
    rcases List.mem_cons.mp h with e | m
    · rw [e]
      omega
    · have z := weight_mem m
      omega
def toV : Value → V
  | .none => .non
  | .bool b => .bl b
  | .int i _ => .int i
  | .str x _ => .str x
  | .bytes b _ => .byt b
  | .ref a => .ref a
  | _ => .non
def OkU (A : List Addr) : Value → Prop
  | .none => True
  | .bool _ => True
  | .int _ _ => True
  | .str _ _ => True
  | .bytes _ _ => True
  | .ref a => a ∈ A
  | _ => False
theorem OkU.mono {A B : List Addr} (h : ∀ a ∈ A, a ∈ B) : ∀ {u : Value}, OkU A u → OkU B u := fun {u} x => by
  cases u with
  | ref a => exact h a x
  | none => trivial
  | bool b => trivial
  | int i t => trivial
  | str s t => trivial
  | bytes b t => trivial
  | _ => exact False.elim x
theorem relV_toV {A : List Addr} {u : Value} (x : OkU A u) : RelV (toV u) u := by
  cases u with
  | ref a => rfl
  | none => rfl
  | bool b => rfl
  | int i t => exact ⟨t, rfl⟩
  | str s t => exact ⟨t, rfl⟩
  | bytes b t => exact ⟨t, rfl⟩
  | _ => exact False.elim x
theorem vals_toV {A : List Addr} : ∀ {vs : List Value}, (∀ u ∈ vs, OkU A u) → Vals (vs.map toV) vs
  | [], _ => .nil
  | u :: r, h => .cons (relV_toV (h u (List.mem_cons_self ..))) (vals_toV fun x hx => h x (List.mem_cons_of_mem _ hx))
def ArgOb (h : Heap) (A : List Addr) (a : Addr) : Prop := ∃ vs : List Value, vs.length ≤ sizeLine ∧ (∀ u ∈ vs, OkU A u) ∧
  (h.get? a = some { cls := .type "list", data := .seq vs.toArray } ∨ h.get? a = some { cls := .type "tuple", data := .seq vs.toArray })
theorem ArgOb.mono {h : Heap} {A B : List Addr} {a : Addr} (k : ∀ a ∈ A, a ∈ B) (x : ArgOb h A a) : ArgOb h B a := by
  obtain ⟨vs, h1, h2, h3⟩ := x
  exact ⟨vs, h1, fun u hu => (h2 u hu).mono k, h3⟩
theorem wellAll_len {P : Params} {h : Heap} : ∀ {vs : List Value} {ds : List WData}, WellAll P h vs ds → vs.length = ds.length
  | _, _, .nil => rfl
  | _, _, .cons _ b => by
    show _ + 1 = _ + 1
    rw [wellAll_len b]
theorem well_list {P : Params} {h : Heap} {v : Value} {ds : List WData} (x : Well P h v (.list ds)) : ∃ (a : Addr) (vs : List Value), v = .ref a ∧ h.get? a = some { cls := .type "list", data := .seq vs.toArray } ∧ WellAll P h vs ds := by
  cases x with
  | list ho hall => exact ⟨_, _, rfl, ho, hall⟩
theorem well_tuple {P : Params} {h : Heap} {v : Value} {ds : List WData} (x : Well P h v (.tuple ds)) : ∃ (a : Addr) (vs : List Value), v = .ref a ∧ h.get? a = some { cls := .type "tuple", data := .seq vs.toArray } ∧ WellAll P h vs ds := by
  cases x with
  | tuple ho hall => exact ⟨_, _, rfl, ho, hall⟩
theorem well_cons {P : Params} {h : Heap} {us : List Value} {d : WData} {ds : List WData} (x : WellAll P h us (d :: ds)) : ∃ (v : Value) (vs : List Value), us = v :: vs ∧ Well P h v d ∧ WellAll P h vs ds := by
  cases x with
  | cons a b => exact ⟨_, _, rfl, a, b⟩
theorem line_of {n : Nat} (h : n ≤ 1048576) : n ≤ sizeLine := Nat.le_trans h (by decide)
section
variable {P : Params} {h : Heap}
mutual
theorem area_one : ∀ (d : WData) (v : Value), Well P h v d → plW d = true → d.weight ≤ 1048576 → ∃ A : List Addr, OkU A v ∧ ∀ a ∈ A, ArgOb h A a
  | .none, _, x, _, _ => by
    cases x
    exact ⟨[], trivial, fun a m => absurd m (by simp)⟩
  | .bool b, _, x, _, _ => by
    cases x
    exact ⟨[], trivial, fun a m => absurd m (by simp)⟩
  | .int i, _, x, _, _ => by
    cases x
    exact ⟨[], trivial, fun a m => absurd m (by simp)⟩
  | .str s, _, x, _, _ => by
    cases x
    exact ⟨[], trivial, fun a m => absurd m (by simp)⟩
  | .bytes b, _, x, _, _ => by
    cases x
    exact ⟨[], trivial, fun a m => absurd m (by simp)⟩
  | .list ds, _, x, p, z => by
    obtain ⟨a, vs, rfl, ho, hall⟩ := well_list x
    have z2 : WData.weightAll ds ≤ 1048576 := z
    obtain ⟨A, h1, h2⟩ := area_all ds _ hall p fun d hd => Nat.le_trans (weight_mem hd) z2
    have k : ∀ b ∈ A, b ∈ a :: A := fun b hb => List.mem_cons_of_mem _ hb
    refine ⟨a :: A, List.mem_cons_self .., fun b hb => ?_⟩
    rcases List.mem_cons.mp hb with e | m
    · rw [e]
      exact ⟨vs, line_of (by rw [wellAll_len hall]; exact Nat.le_trans (PySem.W.length_le_weightAllW ds) z2), fun u hu => (h1 u hu).mono k, .inl ho⟩
    · exact (h2 b m).mono k
  | .tuple ds, _, x, p, z => by
    obtain ⟨a, vs, rfl, ho, hall⟩ := well_tuple x
    have z2 : WData.weightAll ds ≤ 1048576 := z
    obtain ⟨A, h1, h2⟩ := area_all ds _ hall p fun d hd => Nat.le_trans (weight_mem hd) z2
    have k : ∀ b ∈ A, b ∈ a :: A := fun b hb => List.mem_cons_of_mem _ hb
    refine ⟨a :: A, List.mem_cons_self .., fun b hb => ?_⟩
    rcases List.mem_cons.mp hb with e | m
    · rw [e]
      exact ⟨vs, line_of (by rw [wellAll_len hall]; exact Nat.le_trans (PySem.W.length_le_weightAllW ds) z2), fun u hu => (h1 u hu).mono k, .inr ho⟩
    · exact (h2 b m).mono k
  | .float _, _, _, p, _ => Bool.noConfusion (show false = true from p)
  | .dict _, _, _, p, _ => Bool.noConfusion (show false = true from p)
  | .bytearray _, _, _, p, _ => Bool.noConfusion (show false = true from p)
  | .set _, _, _, p, _ => Bool.noConfusion (show false = true from p)
  | .frozenset _, _, _, p, _ => Bool.noConfusion (show false = true from p)
  | .obj _ _, _, _, p, _ => Bool.noConfusion (show false = true from p)
theorem area_all : ∀ (ds : List WData) (vs : List Value), WellAll P h vs ds → plWs ds = true → (∀ d ∈ ds, d.weight ≤ 1048576) → ∃ A : List Addr, (∀ u ∈ vs, OkU A u) ∧ ∀ a ∈ A, ArgOb h A a
  | [], _, x, _, _ => by
    cases x
    exact ⟨[], fun u m => absurd m (by simp), fun a m => absurd m (by simp)⟩
  | d :: ds, _, x, p, z => by
    obtain ⟨v, vs, rfl, x1, x2⟩ := well_cons x
    have q : plW d = true ∧ plWs ds = true := Bool.and_eq_true_iff.mp p
    obtain ⟨A, a1, a2⟩ := area_one d v x1 q.1 (z d (List.mem_cons_self ..))
    obtain ⟨B, b1, b2⟩ := area_all ds vs x2 q.2 fun e he => z e (List.mem_cons_of_mem _ he)
    have kA : ∀ b ∈ A, b ∈ A ++ B := fun b hb => List.mem_append.mpr (.inl hb)
    have kB : ∀ b ∈ B, b ∈ A ++ B := fun b hb => List.mem_append.mpr (.inr hb)
    refine ⟨A ++ B, fun u hu => ?_, fun b hb => ?_⟩
    · rcases List.mem_cons.mp hu with e | m
      · rw [e]
        exact a1.mono kA
      · exact (b1 u m).mono kB
    · rcases List.mem_append.mp hb with m | m
      · exact (a2 b m).mono kA
      · exact (b2 b m).mono kB
end
end
def hoOf (o : Obj) : Option HO := match o.data with
  | .seq vs _ => if (o.cls == Value.type "list") = true then some (.frz o (.lst (vs.toList.map toV))) else some (.frz o (.tup (vs.toList.map toV)))
  | _ => none
def argH (K : PySem.W.Frag) (h : Heap) (A : List Addr) : Hp := fun b => if b ∈ A then (if (K.lookup b).isNone = true then (h.get? b).bind hoOf else none) else none
def OnlyF (H : Hp) : Prop := ∀ b, H b = none ∨ ∃ o u, H b = some (.frz o u)
theorem hoOf_lst (vs : List Value) : hoOf { cls := .type "list", data := .seq vs.toArray } = some (.frz { cls := .type "list", data := .seq vs.toArray } (.lst (vs.map toV))) := by
  show (if (Value.type "list" == Value.type "list") = true then some (HO.frz { cls := .type "list", data := .seq vs.toArray } (.lst (vs.toArray.toList.map toV))) else some (HO.frz { cls := .type "list", data := .seq vs.toArray } (.tup (vs.toArray.toList.map toV)))) = _
  rw [if_pos (beq_self_eq_true _)]
theorem hoOf_tup (vs : List Value) : hoOf { cls := .type "tuple", data := .seq vs.toArray } = some (.frz { cls := .type "tuple", data := .seq vs.toArray } (.tup (vs.map toV))) := by
  show (if (Value.type "tuple" == Value.type "list") = true then some (HO.frz { cls := .type "tuple", data := .seq vs.toArray } (.lst (vs.toArray.toList.map toV))) else some (HO.frz { cls := .type "tuple", data := .seq vs.toArray } (.tup (vs.toArray.toList.map toV)))) = _
  rw [if_neg (by decide)]
section
variable {P : Program} {w : World} {K : PySem.W.Frag} {h : Heap} {A : List Addr}
theorem argH_at {b : Addr} {o : Obj} (hb : b ∈ A) (hk : K.lookup b = none) (e : h.get? b = some o) : argH K h A b = hoOf o := by
  unfold argH
  rw [if_pos hb, hk, if_pos (show (none : Option Obj).isNone = true from rfl), e] <;> rfl
theorem of_argH {b : Addr} {u : HO} (q : argH K h A b = some u) : b ∈ A ∧ K.lookup b = none := by
  unfold argH at q
  by_cases hb : b ∈ A
  · rw [if_pos hb] at q
    cases hk : K.lookup b with
    | none => exact ⟨hb, rfl⟩
    | some o =>
      rw [hk, if_neg (by simp)] at q
      cases q
  · rw [if_neg hb] at q
    cases q
theorem argH_is (ar : ∀ a ∈ A, ArgOb h A a) {b : Addr} {u : HO} (q : argH K h A b = some u) : K.lookup b = none ∧ ∃ vs : List Value, vs.length ≤ sizeLine ∧ (∀ u ∈ vs, OkU A u) ∧
    ((h.get? b = some { cls := .type "list", data := .seq vs.toArray } ∧ u = .frz { cls := .type "list", data := .seq vs.toArray } (.lst (vs.map toV))) ∨
     (h.get? b = some { cls := .type "tuple", data := .seq vs.toArray } ∧ u = .frz { cls := .type "tuple", data := .seq vs.toArray } (.tup (vs.map toV)))) := by
  obtain ⟨hb, hk⟩ := of_argH q
  obtain ⟨vs, h1, h2, h3⟩ := ar b hb
  refine ⟨hk, vs, h1, h2, ?_⟩
  rcases h3 with e | e
  · rw [argH_at hb hk e, hoOf_lst] at q
    exact .inl ⟨e, (Option.some.inj q).symm⟩
  · rw [argH_at hb hk e, hoOf_tup] at q
    exact .inr ⟨e, (Option.some.inj q).symm⟩
theorem argH_only (ar : ∀ a ∈ A, ArgOb h A a) : OnlyF (argH K h A) := fun b => by
  cases q : argH K h A b with
  | none => exact .inl rfl
  | some u =>
    obtain ⟨_, vs, _, _, ⟨_, e⟩ | ⟨_, e⟩⟩ := argH_is ar q
    · exact .inr ⟨_, _, by rw [e]⟩
    · exact .inr ⟨_, _, by rw [e]⟩
theorem argH_ok (ar : ∀ a ∈ A, ArgOb h A a) : HOk P w (argH K h A) h := fun b u q => by
  obtain ⟨_, vs, h1, h2, ⟨e, rfl⟩ | ⟨e, rfl⟩⟩ := argH_is ar q
  · exact ⟨e, by rw [List.length_map]; exact h1, vs, _, vals_toV h2, e⟩
  · exact ⟨e, by rw [List.length_map]; exact h1, vs, vals_toV h2, _, e, rfl, _, rfl⟩
theorem seq_inj {c c' : Value} {vs us : List Value} (e : (some { cls := c, data := .seq vs.toArray } : Option Obj) = some { cls := c', data := .seq us.toArray }) : c = c' ∧ vs = us := by
  have e1 := Option.some.inj e
  have e2 : c = c' := congrArg Obj.cls e1
  have e3 : Data.seq vs.toArray = Data.seq us.toArray := congrArg Obj.data e1
  injection e3 with e4
  refine ⟨e2, ?_⟩
  have e5 := congrArg Array.toList e4
  simpa using e5
theorem argL (KX : K.In h) (ar : ∀ a ∈ A, ArgOb h A a) {a : Addr} {vs : List Value} (ha : a ∈ A) (e : h.get? a = some { cls := .type "list", data := .seq vs.toArray }) : (∀ u ∈ vs, OkU A u) ∧ SqL K (argH K h A) a (vs.map toV) := by
  obtain ⟨us, h1, h2, h3⟩ := ar a ha
  have hu : us = vs := by
    rcases h3 with q | q
    · rw [e] at q
      exact (seq_inj q).2.symm
    · rw [e] at q
      exact absurd (Value.type.inj (seq_inj q).1) (by decide)
  subst hu
  refine ⟨h2, ?_⟩
  cases hk : K.lookup a with
  | none => exact .inl (.inr ⟨_, by rw [argH_at ha hk e, hoOf_lst]⟩)
  | some o =>
    have e2 := KX a o hk
    rw [e] at e2
    obtain rfl := Option.some.inj e2
    exact .inr ⟨_, us.toArray, _, hk, rfl, rfl, rfl, by rw [List.size_toArray]; exact h1, by simpa using vals_toV h2⟩
theorem argT (KX : K.In h) (ar : ∀ a ∈ A, ArgOb h A a) {a : Addr} {vs : List Value} (ha : a ∈ A) (e : h.get? a = some { cls := .type "tuple", data := .seq vs.toArray }) : (∀ u ∈ vs, OkU A u) ∧ SqT K (argH K h A) a (vs.map toV) := by
  obtain ⟨us, h1, h2, h3⟩ := ar a ha
  have hu : us = vs := by
    rcases h3 with q | q
    · rw [e] at q
      exact absurd (Value.type.inj (seq_inj q).1) (by decide)
    · rw [e] at q
      exact (seq_inj q).2.symm
  subst hu
  refine ⟨h2, ?_⟩
  cases hk : K.lookup a with
  | none => exact .inl (.inr ⟨_, by rw [argH_at ha hk e, hoOf_tup]⟩)
  | some o =>
    have e2 := KX a o hk
    rw [e] at e2
    obtain rfl := Option.some.inj e2
    exact .inr ⟨_, us.toArray, _, hk, rfl, rfl, by rw [List.size_toArray]; exact h1, by simpa using vals_toV h2⟩
mutual
theorem dw_one {Pm : Params} (KX : K.In h) (ar : ∀ a ∈ A, ArgOb h A a) : ∀ (d : WData) (v : Value), Well Pm h v d → plW d = true → OkU A v → Dw K (argH K h A) (toV v) d
  | .none, _, x, _, _ => by
    cases x
    exact .non
  | .bool b, _, x, _, _ => by
    cases x
    exact .bl b
  | .int i, _, x, _, _ => by
    cases x
    exact .int i
  | .str s, _, x, _, _ => by
    cases x
    exact .str s
  | .bytes b, _, x, _, _ => by
    cases x
    have z := Dw.byt (K := K) (H := argH K h A) b.toArray
    exact z
  | .list ds, _, x, p, hu => by
    obtain ⟨a, vs, rfl, ho, hall⟩ := well_list x
    obtain ⟨h2, hs⟩ := argL KX ar hu ho
    exact .lst hs (dw_all KX ar ds _ hall p h2)
  | .tuple ds, _, x, p, hu => by
    obtain ⟨a, vs, rfl, ho, hall⟩ := well_tuple x
    obtain ⟨h2, hs⟩ := argT KX ar hu ho
    exact .tup hs (dw_all KX ar ds _ hall p h2)
  | .float _, _, _, p, _ => Bool.noConfusion (show false = true from p)
  | .dict _, _, _, p, _ => Bool.noConfusion (show false = true from p)
  | .bytearray _, _, _, p, _ => Bool.noConfusion (show false = true from p)
  | .set _, _, _, p, _ => Bool.noConfusion (show false = true from p)
  | .frozenset _, _, _, p, _ => Bool.noConfusion (show false = true from p)
  | .obj _ _, _, _, p, _ => Bool.noConfusion (show false = true from p)
theorem dw_all {Pm : Params} (KX : K.In h) (ar : ∀ a ∈ A, ArgOb h A a) : ∀ (ds : List WData) (vs : List Value), WellAll Pm h vs ds → plWs ds = true → (∀ u ∈ vs, OkU A u) → DwAll K (argH K h A) (vs.map toV) ds
  | [], _, x, _, _ => by
    cases x
    exact .nil
  | d :: ds, _, x, p, hu => by
    obtain ⟨v, vs, rfl, x1, x2⟩ := well_cons x
    have q : plW d = true ∧ plWs ds = true := Bool.and_eq_true_iff.mp p
    exact .cons (dw_one KX ar d v x1 q.1 (hu _ (List.mem_cons_self ..))) (dw_all KX ar ds vs x2 q.2 fun u m => hu u (List.mem_cons_of_mem _ m))
end
end
theorem spec_call {P : Program} {w : World} {K : PySem.W.Frag} {mg mb : Str → Option Value} {CX : CXT} {k : Nat} {fa : Addr} {fd : FuncData} {ps : List Str} {sp : Sp} {s₁ : Shared} {vals : List Value} {ds : List WData} {R : PySem.W.WRecords} {cl : Str → Option Addr} {d0 : WData}
    (KX : K.In s₁.heap) (hns : s₁.heap.Ns mainGlobals mg) (hb : s₁.heap.Ns builtinsNs mb) (hbb : ∀ x : Str, x ≠ "__name__" → mb x = bootBuiltins x) (hlim : s₁.heap.NoLimit) (hg : s₁.gens = #[])
    (hwl : WellAll w.params s₁.heap vals ds) (hpl : plWs ds = true) (hwt : ∀ d ∈ ds, d.weight ≤ 1048576) (hr : Room k callerA)
    (F : ∀ base : Heap, K.In base → base.Ns mainGlobals mg → FnOk P w K mg base CX k fa fd ps sp) (hbind : ∀ (s : Shared) (us : List Value), us.length = ps.length → BindsTo s fd ⟨us, []⟩ (ps.zip us)) (hlen : ds.length = ps.length)
    (hsp : ∀ (H : Hp) (xs : List V), OnlyF H → DwAll K H xs ds → sp xs H (fun v H' => Dw K H' v d0) fun _ _ _ => False)
    (hCX : ∀ H e s', CX [] H s₁ (fun _ _ _ => False) e s' → False) :
    codeAny (model P w) callerA (.call (.ref fa) ⟨vals, []⟩) (fun r s' => ∃ u as, r = .ok (.ret u) ∧ ReadsW R cl s'.heap u d0 as ∧ OldK s₁.heap s'.heap ∧ s'.os = s₁.os ∧ AllBare s'.gens) s₁ := by
  obtain ⟨A, ho, ar⟩ := area_all ds vals hwl hpl hwt
  have hO : OnlyF (argH K s₁.heap A) := argH_only ar
  have hok : HOk P w (argH K s₁.heap A) s₁.heap := argH_ok ar
  have hS := dw_all KX ar ds vals hwl hpl ho
  have hV := vals_toV ho
  have hK : ∀ b u, argH K s₁.heap A b = some u → K.lookup b = none := fun b u q => (argH_is ar q).1
  have noA : ∀ {b : Addr} {o : Obj} {es : Array DictEntry} {ep : Nat}, s₁.heap.get? b = some o → o.data = .dict es ep → argH K s₁.heap A b = none := fun {b o es ep} e d => by
    cases q : argH K s₁.heap A b with
    | none => rfl
    | some u =>
      obtain ⟨_, vs, _, _, ⟨e2, _⟩ | ⟨e2, _⟩⟩ := argH_is ar q
      · rw [e2] at e
        cases e
        have d' : Data.seq vs.toArray _ = Data.dict es ep := d
        cases d'
      · rw [e2] at e
        cases e
        have d' : Data.seq vs.toArray _ = Data.dict es ep := d
        cases d'
  generalize argH K s₁.heap A = H at hO hok hS hK noA
  have base_of : ∀ {b : Addr} {o : Obj}, s₁.heap.get? b = some o → H b = none → (hidT s₁.heap H).get? b = some o := fun e n => hidT_get e n
  have nsK : ∀ {b : Addr} {m : Str → Option Value}, s₁.heap.Ns b m → (hidT s₁.heap H).Ns b m := fun {b m} ⟨o, es, ep, e, d, r⟩ => ⟨o, es, ep, base_of e (noA e d), d, r⟩
  have nK : ∀ b o, K.lookup b = some o → H b = none := fun b o e => by
    cases q : H b with
    | none => rfl
    | some u =>
      rw [hK b u q] at e
      cases e
  have hKb : K.In (hidT s₁.heap H) := fun b o e => base_of (KX b o e) (nK b o e)
  have hM : Mod K mg (hidT s₁.heap H) := ⟨hKb, nsK hns, ⟨mb, nsK hb, hbb⟩, let ⟨mc, h1, h2⟩ := hlim; ⟨mc, nsK h1, h2⟩⟩
  have e0 : Env0 P w K mg (hidT s₁.heap H) callerA [] s₁ H := ⟨rfl, hM, fun b o e => of_hidT e, Nat.le_of_eq (hidT_size _ _), trivial, fun b hb => absurd (show b ∈ ([] : List Addr) from hb) (by simp), hok, .of_eq hg⟩
  have hl : vals.length = ps.length := by rw [wellAll_len hwl]; exact hlen
  refine codeAny_mono ((F _ hKb (nsK hns)).run callerA [] s₁ H ⟨vals, []⟩ vals (vals.map toV) _ _ hr e0 (hbind s₁ vals hl) hV (hsp H _ hO hS)) fun r s' x => ?_
  cases r with
  | error e => exact (hCX H e s' x).elim
  | ok fl =>
    cases fl with
    | next => exact False.elim x
    | brk => exact False.elim x
    | cont => exact False.elim x
    | ret u =>
      obtain ⟨v, H', os, bare, un, hok', r', q⟩ := x
      have kept : ∀ b o, s₁.heap.get? b = some o → s'.heap.get? b = some o := fun b o e => by
        cases q2 : H b with
        | none => exact un.keep b o e q2 (by intro z; exact absurd (show b ∈ ([] : List Addr) from z) (by simp)) (by simp)
        | some u2 =>
          rcases hO b with z | ⟨ob, u3, z⟩
          · rw [q2] at z
            cases z
          · have z2 := un.frzs b ob _ z
            obtain ⟨e1, _⟩ := hok b _ z
            obtain ⟨e2, _⟩ := hok' b _ z2
            rw [e] at e1
            cases e1
            exact e2
      have KX' : K.In s'.heap := fun b o e => kept b o (KX b o e)
      obtain ⟨as, hrd⟩ := Dw.reads (R := R) (cl := cl) hok' KX' d0 v u q r'
      exact ⟨u, as, rfl, hrd, OldK.of_keep kept, os, bare⟩
theorem layable_weight {ds : List WData} (h : WData.layableAll ds = true) : ∀ d ∈ ds, d.weight ≤ 1048576 := fun d hd =>
  (PySem.W.layableW_iff.mp (List.all_eq_true.mp h d hd)).2.2
theorem encAll_len : ∀ (cs : List Codec) (a : Codec.denoteAll cs), (Codec.encAll cs a).length = cs.length
  | [], _ => rfl
  | c :: cs, a => by
    show (Codec.encAll cs a.2).length + 1 = cs.length + 1
    rw [encAll_len cs a.2]
theorem walk_spec {r : OpenSpec} {k : Nat} {q : Program} {loose : List Str} {XP : (Str → Option Value) → Heap → Prop} {YP : World → Heap → Prop} {d : DefRec} {K : Params → PySem.W.Frag} {CX : World → CXT} {ps : List Str} {sp : World → Sp}
    (hwell : r.wellSaid = true) (hdf : d.params.defaults = []) (hlen : r.args.length = ps.length) (hr : Room k callerA)
    (hY : ∀ (w : World) (h : Heap), YP w h → (K w.params).In h)
    (F : ∀ (w : World) (mg : Str → Option Value) (fa : Addr) (h : Heap), YP w h → (K w.params).In h → h.Ns mainGlobals mg → mg d.name = some (.ref fa) →
      ∃ fd : FuncData, (∀ (s : Shared) (us : List Value), us.length = ps.length → BindsTo s fd ⟨us, []⟩ (ps.zip us)) ∧
        ∀ base : Heap, (K w.params).In base → base.Ns mainGlobals mg → FnOk r.prog w (K w.params) mg base (CX w) k fa fd ps (sp w))
    (hsp : ∀ (w : World) (H : Hp) (xs : List V) (a : Codec.denoteAll r.args), OnlyF H → Codec.withinAll r.args a = true → Codec.app r.args r.asked a = true → DwAll (K w.params) H xs (Codec.encAll r.args a) →
      sp w xs H (fun v H' => Dw (K w.params) H' v (r.ret.enc (Codec.app r.args r.f a))) fun _ _ _ => False)
    (hCX : ∀ (w : World) (H : Hp) (s : Shared) (e : Value) (s' : Shared), CX w [] H s (fun _ _ _ => False) e s' → False) :
    PySem.W.WalkOS q loose XP YP r d [] (fun f vs => PySem.call f vs) := by
  intro w s_0 s₁ mg mb G Y fa o pm cd doc dV kV ho hd hcd hD hmg hg args vals as hpre hlay hrd hwl hlo
  obtain ⟨a, e1, e2⟩ := PySem.W.os_pre_some hpre
  obtain ⟨e3, hwi⟩ := Codec.encAll_of_decAll r.args args a e1
  subst e3
  have KX := hY w _ Y
  obtain ⟨fd, hb, hF⟩ := F w mg fa _ Y KX G.T.g hmg
  refine PySem.W.enter_call (codeAny_mono (spec_call (R := []) (cl := classAt s_0.heap) (d0 := r.ret.enc (Codec.app r.args r.f a)) KX G.T.g G.T.b G.T.builtins G.T.nolimit hg hwl (pl_encAll _ _) (layable_weight hlay) hr hF hb (by rw [encAll_len]; exact hlen)
    (fun H xs hO hS => hsp w H xs a hO hwi e2 hS) fun H e s' => hCX w H s₁ e s') fun r' s' hq => ?_)
  obtain ⟨u, as', rfl, h1, h2, h3, h4⟩ := hq
  exact ⟨.inl ⟨u, _, as', rfl, fun _ => rfl, h1, (OpenSpec.post_iff hwell hwi _ _).mpr rfl, fun z => Bool.noConfusion (show false = true from z)⟩, h2, h3, h4⟩
theorem walk_specK {r : OpenSpec} {k : Nat} {q : Program} {loose : List Str} {XP : (Str → Option Value) → Heap → Prop} {YP : World → Heap → Prop} {d : DefRec} {K : Params → PySem.W.Frag} {CX : CXT} {ps : List Str} {sp : PySem.W.Frag → Sp}
    (hwell : r.wellSaid = true) (hdf : d.params.defaults = []) (hlen : r.args.length = ps.length) (hr : Room k callerA)
    (hY : ∀ (w : World) (h : Heap), YP w h → (K w.params).In h)
    (F : ∀ (w : World) (mg : Str → Option Value) (fa : Addr) (h : Heap), YP w h → (K w.params).In h → h.Ns mainGlobals mg → mg d.name = some (.ref fa) →
      ∃ fd : FuncData, (∀ (s : Shared) (us : List Value), us.length = ps.length → BindsTo s fd ⟨us, []⟩ (ps.zip us)) ∧
        ∀ base : Heap, (K w.params).In base → base.Ns mainGlobals mg → FnOk r.prog w (K w.params) mg base CX k fa fd ps (sp (K w.params)))
    (hsp : ∀ (K : PySem.W.Frag) (H : Hp) (xs : List V) (a : Codec.denoteAll r.args), OnlyF H → Codec.withinAll r.args a = true → Codec.app r.args r.asked a = true → DwAll K H xs (Codec.encAll r.args a) →
      sp K xs H (fun v H' => Dw K H' v (r.ret.enc (Codec.app r.args r.f a))) fun _ _ _ => False)
    (hCX : ∀ (H : Hp) (s : Shared) (e : Value) (s' : Shared), CX [] H s (fun _ _ _ => False) e s' → False) :
    PySem.W.WalkOS q loose XP YP r d [] (fun f vs => PySem.call f vs) :=
  walk_spec (K := K) (CX := fun _ => CX) (sp := fun w => sp (K w.params)) hwell hdf hlen hr hY F (fun w H xs a h1 h2 h3 h4 => hsp (K w.params) H xs a h1 h2 h3 h4) fun _ H s e s' => hCX H s e s'
end L2
end

set_option Elab.async false
set_option linter.all false
set_option maxRecDepth 100000
set_option maxHeartbeats 4000000
namespace PySem
open Sem (wp)
open AutoSeq1 (wpAny_loadPart')
section
variable {prog : Program} {w : World} {A : Around} {E : Value → Shared → Prop} {s : Shared}
theorem rv_object_init {T newId : String} {self : Value} {rest : List Value} {kw : List (Str × Value)} (hl : typeLookup (.type T) "__init__" = pure (some (.builtin "object.__init__"))) (hm : Bind.madeBy (.type T) = pure (some newId)) (hne : (some newId != some "object.__new__") = true) (hr : rest ≠ []) :
    Meets (Builtin.«object.__init__» ⟨self :: rest, kw⟩) (fun _ R s => s.TypeIs self T ∧ R (.ok (.ret .none)) s) := by
  refine Meets.of_wp fun prog w A R s hs => ?_
  obtain ⟨hT, hq⟩ := hs
  cases rest with
  | nil => exact absurd rfl hr
  | cons a rest =>
    repeat any_goals (first | assumption | wp_step)
    exact ⟨_, rfl, hq⟩

theorem rv_callType_kw {T newId initId : String} {Bn Bi : Builtin} {args : List Value} {kw : List (Str × Value)} {S : Spec} {Q Q₁ : Value → Shared → Prop} (ft : TypeCalled T newId initId) (hct : checkTypeCall T ⟨args, kw⟩ = pure ()) (hcn : checkBuiltinCall newId ⟨.type T :: args, kw⟩ = pure ())
    (entryN : entryFor table newId = some Bn) (entryI : entryFor table initId = some Bi) (g : Meets (Bn ⟨.type T :: args, kw⟩) S) (h : S A.in1 (wants Q₁ E) s)
    (hnext : ∀ obj s₁, Q₁ obj s₁ → s₁.TypeIs obj T ∧ argsOk initId ⟨obj :: args, kw⟩ ∧ ∃ Si, Meets (Bi ⟨obj :: args, kw⟩) Si ∧ Si A.in1 (wants (fun r s₂ => r = .none ∧ Q obj s₂) E) s₁) :
    wpAny (model prog w) A (call (.type T) args kw) Q E s := by
  obtain ⟨c, tl, hmro⟩ := ft.mro
  have hmade := ft.made
  have hsub := ft.sub
  refine wpAny_call (codeAny_of_tree ?_)
  show wpAny _ _ (callAny (.type T) _) _ _ _
  refine wpAny_pure ⟨Code.quiet_builtin _ (by decide +kernel), codeAny_builtin F.entry_type_call ?_⟩
  rw [Around.under_plain (weight_type_call_type T args kw) (units_type_call_type T args kw)]
  have h1 := ft.notType
  have h2 := ft.canCreate
  repeat any_goals (first | assumption | wp_step)
  refine codeAny_mono (codeAny_call_builtin ft.plain entryN (wpAny_of_eq hcn (g prog w A.in1 _ s h))) fun r s₁ hr => ?_
  cases r with
  | error e => exact hr
  | ok fl =>
    cases fl with
    | ret obj =>
      obtain ⟨hT, hok, Si, gi, hsi⟩ := hnext _ _ hr
      have hli := ft.init.lookup
      have hbi := ft.init.bind obj
      repeat any_goals (first | assumption | wp_step)
      refine codeAny_mono (codeAny_call_builtin ft.init.plain entryI (ft.init.check _ _ _ _ _ _ _ _ hT hok (gi prog w A.in1 _ s₁ hsi))) fun r₂ s₂ hr₂ => ?_
      cases r₂ with
      | error e => exact hr₂
      | ok fl₂ =>
        cases fl₂ with
        | ret r =>
          obtain ⟨rfl, hq⟩ := hr₂
          repeat any_goals (first | assumption | wp_step)
        | _ => exact hr₂.elim
    | _ => exact hr.elim
end

theorem rv_typeCall (a b : Value) : checkTypeCall "enumerate" ⟨[a], [(Str.ofString "start", b)]⟩ = pure () := by kernel_rfl
theorem rv_newCall (a b : Value) : checkBuiltinCall "enumerate.__new__" ⟨[.type "enumerate", a], [(Str.ofString "start", b)]⟩ = pure () := by kernel_rfl
theorem rv_initArgs (o a b : Value) : argsOk "object.__init__" ⟨[o, a], [(Str.ofString "start", b)]⟩ := by
  unfold argsOk
  rw [signature?_of (id := "object.__init__") (n := ['_', '_', 't', 'i', 'n', 'i', '_', '_']) (o := ['t', 'c', 'e', 'j', 'b', 'o']) (by kernel_rfl) F.owner_object]
  kernel_rfl
theorem rv_meets_enum (l : Addr) (items : Array Value) (n : Nat) (dct : Option Addr) (sl : Array (Option Value)) (t : Tok) :
    Meets (Builtin.«enumerate.__new__» ⟨[.type "enumerate", .ref l], [(Str.ofString "start", .int 1 t)]⟩) (fun _ R s => s.heap.get? l = some { cls := .type "list", dict := dct, data := .seq items n, slots := sl } ∧ R (.ok (.ret (.ref (s.heap.push { cls := .type "list_iterator", data := .fields #[.ref l, .int 0 0] }).objs.size))) { s with heap := (s.heap.push { cls := .type "list_iterator", data := .fields #[.ref l, .int 0 0] }).push { cls := .type "enumerate", data := .fields #[.none, .bool false, .ref s.heap.objs.size, rawInt 1, .none, .none] } }) :=
  .of_wp fun prog w A R s h => by
    obtain ⟨hp, g, d, tk, os⟩ := s
    obtain ⟨hl, h⟩ := h
    have hsub := sub_enumerate
    have hL : Heap.IsList (Shared.heap ⟨hp, g, d, tk, os⟩) l items := ⟨_, hl, rfl, n, rfl⟩
    wp_walk using wpAny_loadPart' hl
    refine wpAny_stack_any fun st => wpAny_pure ?_
    split
    · rename_i c _ _ _ _ _
      cases (c == Value.type "enumerate")
      · wp_walk using wpAny_loadPart' hl, wpAny_pyIter_list hL
        exact ⟨_, rfl, h⟩
      · wp_walk using wpAny_loadPart' hl, wpAny_pyIter_list hL
        exact ⟨_, rfl, h⟩
    · wp_walk using wpAny_loadPart' hl, wpAny_pyIter_list hL
      exact ⟨_, rfl, h⟩

section
variable {prog : Program} {w : World} {A : Around} {E : Value → Shared → Prop} {s : Shared}
theorem rv_call_enum {l : Addr} {items : Array Value} {t : Tok} {Q : Value → Shared → Prop} (hL : s.heap.IsList l items)
    (h : ∀ h', IsEnum h' (s.heap.objs.size + 1) s.heap.objs.size 1 .none → h'.IsListIter s.heap.objs.size l 0 → (∀ b o, s.heap.get? b = some o → h'.get? b = some o) → Q (.ref (s.heap.objs.size + 1)) { s with heap := h' }) :
    wpAny (model prog w) A (call (.type "enumerate") [.ref l] [(Str.ofString "start", .int 1 t)]) Q E s := by
  obtain ⟨⟨c, dct, dt, sl⟩, hl, hc, n, hd⟩ := hL
  replace hc : c = .type "list" := hc
  replace hd : dt = .seq items n := hd
  subst hc hd
  refine rv_callType_kw (Q₁ := fun obj s₁ => s₁.TypeIs obj "enumerate" ∧ Q obj s₁) F.called_enumerate (rv_typeCall _ _) (rv_newCall _ _) F.entry_enumerate_new F.entry_object_init (rv_meets_enum l items n dct sl t) ⟨hl, ?_⟩
    (fun obj s₁ hq => ⟨hq.1, rv_initArgs obj _ _, _, rv_object_init F.called_enumerate.init.lookup F.called_enumerate.made (by decide) (by simp), hq.1, rfl, hq.2⟩)
  have hz : (s.heap.push { cls := .type "list_iterator", data := .fields #[.ref l, .int 0 0] }).objs.size = s.heap.objs.size + 1 := Heap.size_push ..
  have he : IsEnum ((s.heap.push { cls := .type "list_iterator", data := .fields #[.ref l, .int 0 0] }).push { cls := .type "enumerate", data := .fields #[.none, .bool false, .ref s.heap.objs.size, rawInt 1, .none, .none] }) (s.heap.objs.size + 1) s.heap.objs.size 1 .none := by
    have z := Heap.get?_push_size (s.heap.push { cls := .type "list_iterator", data := .fields #[.ref l, .int 0 0] }) (o := { cls := .type "enumerate", data := .fields #[.none, .bool false, .ref s.heap.objs.size, rawInt 1, .none, .none] }) rfl
    rw [hz] at z
    exact z
  show Shared.TypeIs _ (.ref (s.heap.push { cls := .type "list_iterator", data := .fields #[.ref l, .int 0 0] }).objs.size) "enumerate" ∧ Q (.ref (s.heap.push { cls := .type "list_iterator", data := .fields #[.ref l, .int 0 0] }).objs.size) _
  rw [hz]
  exact ⟨⟨_, he, rfl⟩, h _ he ⟨_, Heap.get?_push_of_some _ (Heap.get?_push_size _ rfl), rfl, rfl⟩ fun b o x => Heap.get?_push_of_some _ (Heap.get?_push_of_some _ x)⟩
end
end PySem

namespace Rv
open PySem PySem.Spec PyProof.Rows L2
section
variable {M : Model} {A : Around} {E : Value → Shared → Prop} {s : Shared} {env : Env}
theorem callWith_type_kw {pos : Pos} {T : String} {e : Expr} {rest : List Expr} {kws : List Keyword} {Q : Value → Shared → Prop}
    (h : wpAny M A (spliced (backTo pos (starEach (e :: rest) env))) (fun vs s₁ => wpAny M A (evalAll ((backToKw pos (keywordEach kws env)).map (·.2))) (fun kvs s₂ => wpAny M A (call (.type T) vs (((backToKw pos (keywordEach kws env)).filterMap (·.1)).zip kvs)) Q E s₂) E s₁) E s)
    (he : backTo pos (starEach (e :: rest) env) = (false, eval e env) :: backTo pos (starEach rest env)) (hplain : (backTo pos (starEach (e :: rest) env)).any (·.1) = false) (hall : (backToKw pos (keywordEach kws env)).all (·.1.isSome) = true) (hkw : (backToKw pos (keywordEach kws env)).any (·.1.isNone) = false) :
    wpAny M A (callWith pos (.type T) [] (backTo pos (starEach (e :: rest) env)) (backToKw pos (keywordEach kws env))) Q E s := by
  have h2 : wpAny M A (evalArgs (.type T) true (backTo pos (starEach (e :: rest) env)) (backToKw pos (keywordEach kws env))) (fun a s₁ => wpAny M A (call (.type T) ([] ++ a.pos) a.kw) Q E s₁) E s := by
    rw [he] at h ⊢
    exact evalArgs_kwB hall h
  unfold callWith
  refine wpAny_bind (wpAny_holding (wpAny_mono h2 (fun a s₁ h₁ => wpAny_bind (wpAny_standAt ?_)) fun _ _ x => x))
  simp only [hplain, hkw, Bool.or_false]
  refine wpAny_bind (wpAny_pure ?_)
  exact wpAny_bind (wpAny_mono h₁ (fun r s₂ hr => wpAny_bind (wpAny_holding (wpAny_point (wpAny_pure hr)))) fun _ _ x => x)
end
theorem draws_up {prog : Program} {w : World} {A : Around} {it : Addr} {fp : List Addr} {n : Nat} {P : Nat → Value → Prop} {St : Nat → Heap → Prop} (D : Draws prog w A it fp n P St) :
    Draws prog w A it fp (n + 1) (fun i v => ∃ j, i = j + 1 ∧ P j v) (fun i h => ∃ j, i = j + 1 ∧ St j h) where
  live := fun i h ⟨j, _, st⟩ => D.live j h st
  frame := fun i h h' ⟨j, e, st⟩ k => ⟨j, e, D.frame j h h' st k⟩
  item := fun i s Q E hi ⟨j, e, st⟩ hQ => D.item j s Q E (by omega) st fun x h' tk p st' sb => hQ x h' tk ⟨j, e, p⟩ ⟨j + 1, by omega, st'⟩ sb
  done := fun s Q E ⟨j, e, st⟩ hE => D.done s Q E (by
    have z : j = n := by omega
    rw [← z]
    exact st) hE
theorem rv_enum_end {prog : Program} {w : World} {A : Around} {E : Value → Shared → Prop} {s : Shared} {e it l : Addr} {i : Nat} {z : Int} {items : Array Value} {old : Value} {Q : Option Value → Shared → Prop} (hh : A.handled = none) (he : IsEnum s.heap e it z old) (hit : s.heap.IsListIter it l i) (hl : s.heap.IsList l items) (hx : items[i]? = none)
    (hQ : ∀ h', Heap.ExtBut it s.heap h' → Q none { s with heap := h' }) : wpAny (model prog w) A (pyNext (.ref e)) Q E s := by
  have hT : s.TypeIs (.ref e) "enumerate" := ⟨_, he, rfl⟩
  unfold pyNext
  refine wpAny_bind (wpAny_attempt (wpAny_callSpecial?_slot (name := Str.ofString "__next__") hT F.slot_enumerate_next (wpAny_call_entry F.slot_enumerate_next hT F.entry_enumerate_next ?_ (F.args_enumerate_next_1 _))))
  show wpAny _ _ (field (.ref e) 2 >>= _) _ _ _
  refine wpAny_bind (wpAny_field he rfl (x := .ref it) rfl ?_)
  refine wpAny_bind (wpAny_nextOf_list_end hh hit hl hx fun h' x he' hx' => ?_)
  obtain ⟨o, ho, hc⟩ := hx'
  refine wpAny_bind (wpAny_isInstance (T := "StopIteration") (b := true) ⟨o, ho, hc⟩ isSubtype_stop ?_)
  exact wpAny_pure (hQ _ he')
/-- enumerate(list, start=1): the list at a as it stands at each turn, each item in a new pair -/
def Ite1 (K : PySem.W.Frag) (a : Addr) : It :=
  ⟨fun i H => ∃ (xs : List V) (x : V), SqL K H a xs ∧ xs[i]? = some x, fun i H v H' => ∃ T x, v = .ref T ∧ H T = none ∧ H' = upd H T (.tup [.int ((i : Int) + 1), x]) ∧ ∀ xs, SqL K H a xs → xs[i]? = some x, fun i H => ∃ xs : List V, SqL K H a xs ∧ xs.length ≤ i⟩
theorem turn_enum1 {P : Program} {w : World} {K : PySem.W.Frag} {elts : List Expr} {kk : Nat} {tpos : Pos} (a e it : Addr) :
    Turn P w K (.Tuple elts kk tpos) (Ite1 K a) [e, it] e (fun i h => (∃ old, IsEnum h e it ((i + 1 : Nat) : Int) old) ∧ h.IsListIter it a i ∧ e ≠ it) where
  mem := by simp
  obj := fun i h st b hb => by
    obtain ⟨⟨old, he⟩, ⟨o, ho, hc, hd⟩, _⟩ := st
    have e' : b = e ∨ b = it := by simpa using hb
    rcases e' with z | z
    · rw [z]; exact ⟨_, he, fun v q => nomatch q⟩
    · rw [z]; exact ⟨o, ho, fun v q => by rw [hd] at q; cases q⟩
  keep := fun i h h' st k => let ⟨⟨old, he⟩, hi, hne⟩ := st; ⟨⟨old, k e (by simp) _ he⟩, hi.at fun o q => k it (by simp) o q, hne⟩
  item := by
    intro X hP hw hK hc i pins s σ H E I hf st hg
    subst hP hw hK
    obtain ⟨⟨old, he⟩, hit, hne⟩ := st
    obtain ⟨xs, x, hq, hx⟩ := hg
    obtain ⟨its, rv, p, hz⟩ := I.list hq
    obtain ⟨u, hu, ru⟩ := rv.get hx
    have hel : e < s.heap.objs.size := Heap.lt_size he
    have hil : it < s.heap.objs.size := by obtain ⟨_, q, _⟩ := hit; exact Heap.lt_size q
    obtain ⟨ol, hol, hocl, _⟩ := p.isList
    have hea : e ≠ a := fun z => by
      have he2 := he
      unfold IsEnum at he2
      rw [z, hol] at he2
      rw [Option.some.inj he2] at hocl
      exact absurd (show (Value.type "enumerate" : Value) = Value.type "list" from hocl) (by decide)
    have hia : it ≠ a := fun z => by
      obtain ⟨oi, hoi, hci, _⟩ := hit
      rw [z, hol] at hoi
      rw [← Option.some.inj hoi] at hci
      rw [hci] at hocl
      exact absurd hocl (by decide)
    have hef : e ∉ [it, a] := fun z => by
      rcases List.mem_cons.mp z with z | z
      · exact hne z
      · exact hea (List.mem_singleton.mp z)
    have hlt : i < its.toArray.size := by
      obtain ⟨q, _⟩ := List.getElem?_eq_some_iff.mp hu
      simpa using q
    refine wpAny_pyNext_enum_itemD (i := i + 1) (draws_up (Draws.list (A := X.A.in1) (I.ok.hd hc) it a (Ne.symm hia) its.toArray)) he ⟨i, rfl, hit, p.isList⟩ (Nat.succ_lt_succ hlt) hne hef fun y h' tk hP ho hst' hT hsz hk => ?_
    obtain ⟨j, ej, hPj⟩ := hP
    obtain ⟨j2, ej2, hit', _⟩ := hst'
    obtain rfl : j = i := by omega
    obtain rfl : j2 = j + 1 := by omega
    obtain rfl : y = u := Option.some.inj (hPj.symm.trans (by simpa using hu))
    refine ⟨_, rfl, wpAny_letOwnedTupleGo_enum (s := { s with heap := h', toks := tk + 1 }) ho fun h'' he' sb => ?_⟩
    have ei : ((j + 1 : Nat) : Int) = (j : Int) + 1 := by omega
    rw [ei] at hT
    have hT2 : h''.get? s.heap.objs.size = some { cls := .type "tuple", data := .seq #[.int ((j : Int) + 1) tk, y] } := (sb.2 _ (Nat.ne_of_gt hel)).trans hT
    have new : ObjOk X.prog X.w (upd H s.heap.objs.size (.tup [.int ((j : Int) + 1), x])) h'' s.heap.objs.size (.tup [.int ((j : Int) + 1), x]) :=
      ⟨by show 2 ≤ sizeLine; decide, [.int ((j : Int) + 1) tk, y], .cons ⟨_, rfl⟩ (.cons ru .nil), ⟨_, hT2, rfl, _, rfl⟩⟩
    have I1 : Inv X pins σ (upd H s.heap.objs.size (.tup [.int ((j : Int) + 1), x])) { s with heap := h'', toks := tk + 1 } :=
      I.turnedNew (ch := [e, it]) (fun b ob hb q => (sb.2 b (fun z => hb (by simp [z]))).trans (hk b ob (fun z => hb (by simp [z])) (fun z => hb (by simp [z])) q)) hf (Nat.le_refl _) new
    refine ⟨.ref s.heap.objs.size, _, I1, rfl, ⟨_, x, rfl, I.hok.fresh (Nat.le_refl _), rfl, fun ys hy => by rw [I.list_inj hy hq]; exact hx⟩, ⟨⟨y, ?_⟩, hit'.at fun o q => (sb.2 it (Ne.symm hne)).trans q, hne⟩, fun b hb => ?_⟩
    · have e1 : ((j + 1 + 1 : Nat) : Int) = ((j + 1 : Nat) : Int) + 1 := by omega
      rw [e1]; exact he'
    · have hb' : b < s.heap.objs.size := by
        have e' : b = e ∨ b = it := by simpa using hb
        rcases e' with z | z
        · rw [z]; exact hel
        · rw [z]; exact hil
      rw [upd_ne (Nat.ne_of_lt hb')]
      exact (hf b hb).1
  done := by
    intro X hP hw hK hc i pins s σ H E I hf st hg
    subst hP hw hK
    obtain ⟨⟨old, he⟩, hit, hne⟩ := st
    obtain ⟨xs, hq, hx⟩ := hg
    obtain ⟨its, rv, p, hz⟩ := I.list hq
    obtain ⟨f0, f1, f2, f3, f4, f5⟩ := hf it (by simp)
    have hl := rv.length
    obtain ⟨ol, hol, hocl, _⟩ := p.isList
    have hia : it ≠ a := fun z => by
      obtain ⟨oi, hoi, hci, _⟩ := hit
      rw [z, hol] at hoi
      rw [← Option.some.inj hoi] at hci
      rw [hci] at hocl
      exact absurd hocl (by decide)
    exact rv_enum_end (I.ok.hd hc) he hit p.isList (by simp; omega) fun h' eb => ⟨rfl, I.turned (t' := s.toks) (fun b o hb q => eb b o hb q) f0 f1 f3 f4 f5⟩
  self := fun A i s Q E st h => let ⟨⟨_, he⟩, _⟩ := st; wpAny_pyIter_enum he h
def iEnum1 (K : PySem.W.Frag) (ta : TA) : TI := fun σ H R => ta σ H fun vs H1 => ∃ a xs, vs = [.ref a] ∧ SqL K H1 a xs ∧ R (Ite1 K a) H1
theorem pi_enum1 {X : Cx} {e : Expr} {ta : TA} {p pos tpos kp kp' : Pos} {j : Nat} {elts : List Expr} {kk : Nat} (hg : Gl X "enumerate") (hm : X.mg "enumerate" = none) (ha : PA X [e] ta) (hs : starEach [e] X.env = [(false, eval e X.env)] := by rfl) :
    PI X (.Tuple elts kk tpos) (.Call (.Name "enumerate" p) [e] [⟨some "start", .Constant (.int 1) j kp, kp'⟩] pos) (iEnum1 X.K ta) := by
  intro pins s σ H R I h
  refine wpAny_Call_Name_kw (ld_blt I hg hm boot_enumerate (callWith_type_kw (thn (ha pos pins s σ H _ I h) fun us s1 ⟨vs, H1, I1, r1, q1⟩ => ?_) (by rw [hs]; rfl) (by rw [hs]; rfl) rfl rfl))
  obtain ⟨a, xs, ex, hq, q⟩ := q1
  subst ex
  cases r1 with
  | cons r rr =>
    cases rr
    cases r
    refine thn (pk_cons (kpos := kp') (nm := some "start") (pe_int (i := 1) (j := j) (pos := kp)) pk_nil pos pins s1 σ H1 (fun zs H2 => zs = [.int 1] ∧ H2 = H1) I1 ⟨rfl, rfl⟩) fun ws s2 ⟨zs, H2, I2, rz, ez, eh⟩ => ?_
    subst ez eh
    cases rz with
    | cons r2 rr2 =>
      cases rr2
      obtain ⟨t, rfl⟩ := r2
      obtain ⟨its, rv, p', hz⟩ := I2.list hq
      refine rv_call_enum p'.isList fun h' he hit hk => wpAny_pyIter_enum he ?_
      have I3 : Inv X pins σ H2 { s2 with heap := h' } := I2.kept (t' := s2.toks) hk
      refine ⟨s2.heap.objs.size + 1, [s2.heap.objs.size + 1, s2.heap.objs.size], _, _, H2, rfl, I3, turn_enum1 a (s2.heap.objs.size + 1) s2.heap.objs.size, ⟨⟨.none, he⟩, hit, Nat.succ_ne_self _⟩, fun b hb => ?_, q⟩
      have e' : b = s2.heap.objs.size + 1 ∨ b = s2.heap.objs.size := by simpa using hb
      have hle : s2.heap.objs.size ≤ b := by
        rcases e' with z | z
        · rw [z]; exact Nat.le_add_right _ _
        · rw [z]; exact Nat.le_refl _
      exact I2.fpOk hle (I2.hok.fresh hle)
end Rv

set_option Elab.async false
set_option linter.all false
set_option maxRecDepth 100000
set_option maxHeartbeats 2000000
namespace Rv
open PySem PySem.Spec PyProof.Rows L2
open PySem.W (Codec)

def top (i : Nat) : Stmt := PySem.Challenge.pw_steppedover_s01_answers.main.body.getD i (.Pass ⟨0, 0, 0, 0⟩)
abbrev sLeapFits : Stmt := top 22
abbrev sPeopleFit : Stmt := top 23
abbrev sFarBank : Stmt := top 24
abbrev sSums : Stmt := top 25
abbrev sCan : Stmt := top 26

/-- a number of the file's top -/
def Gi (mg : Str → Option Value) (x : Str) (i : Int) : Prop := ∃ t, mg x = some (Value.int i t)
theorem pe_gi {X : Cx} {x : Str} {i : Int} {pos : Pos} (hg : Gl X x) (h : Gi X.mg x i) (hd : (x == ("__debug__" : Str)) = false := by decide) : PE X (.Name x pos) (tC (.int i)) := by
  obtain ⟨t, h⟩ := h
  exact pe_glob hg h ⟨t, rfl⟩ hd

/-- a def of the text that can be called -/
def Def (P : Program) (w : World) (K : PySem.W.Frag) (mg : Str → Option Value) (base : Heap) (k : Nat) (x : Str) (ps : List Str) (sp : Sp) : Prop :=
  ∃ f fd, FnOk P w K mg base CX0 k f fd ps sp ∧ mg x = some (.ref f) ∧ PySem.W.keepIn K (.ref f) = true ∧ Binds K fd ps []
theorem pe_def {X : Cx} {k : Nat} {x : Str} {ps : List Str} {sp : Sp} {e : Expr} {es : List Expr} {t : TA} {p pos : Pos} (D : Def X.prog X.w X.K X.mg X.base k x ps sp) (hr : Room k X.A) (hg : Gl X x) (ha : PA X (e :: es) t)
    (hdb : (x == ("__debug__" : Str)) = false := by decide)
    (he : starEach (e :: es) X.env = (false, eval e X.env) :: starEach es X.env := by rfl) (hpl : (backTo pos (starEach es X.env)).any (·.1) = false := by rfl) : PE X (.Call (.Name x p) (e :: es) [] pos) (tCall sp [] E0 t) := by
  obtain ⟨f, fd, F, hm, hk, hb⟩ := D
  exact pe_call F hr hg hm hk hb .nil pass0 ha hdb he hpl

abbrev nv (l : List Nat) : List V := l.map (fun (n : Nat) => V.int (n : Int))

/-! ### small defs -/
def spLeapFits : Sp := fun vs H Q _ => ∃ n : Nat, vs = [.int n] ∧ Q (.bl (Mu48.isLeap n)) H
def spPeopleFit : Sp := fun vs H Q _ => ∃ n : Nat, vs = [.int n] ∧ Q (.bl (Mu48.isMany n)) H
def spFarBank (K : PySem.W.Frag) : Sp := fun vs H Q _ => ∃ (a : Addr) (bs : List Nat), vs = [.ref a] ∧ SqL K H a (nv bs) ∧ Q (.int (Mu48.bank bs)) H

section
variable {P : Program} {w : World} {K : PySem.W.Frag} {mg : Str → Option Value} {base : Heap}
theorem sc_leap : FnScope ["leap"] ["leap"] (defScope sLeapFits) := ⟨rfl, rfl, rfl, by decide +kernel, rfl, by decide +kernel, by decide +kernel⟩
theorem ok_leap {f : Addr} {fd : FuncData} (F : Fun K "leap_fits" "leap_fits" sLeapFits f fd) (g : Gi mg "LONGEST_LEAP" 12) : FnOk P w K mg base CX0 1 f fd ["leap"] spLeapFits := by
  refine F.ok sc_leap (fun vs H Q E h => ?_) (fun cdv A outer s H vs Q E hr h => ?_)
  · obtain ⟨n, rfl, _⟩ := h
    rfl
  · obtain ⟨n, rfl, k⟩ := h
    refine ⟨_, pss_one (ps_ret (pe_and (pe_cmpR op_le pe_int (pv 0) (nomark _)) (pe_one (pe_cmpR op_le (pv 0) (pe_gi rfl g) (nomark _))))), ?_⟩
    refine ⟨_, rfl, _, _, rfl, rfl, _, rfl, ite2 (fun h1 => ?_) (fun h1 => ?_)⟩
    · refine ⟨_, rfl, _, _, rfl, rfl, ?_⟩
      have h1 : (1 : Int) ≤ (n : Int) := of_decide_eq_true h1
      have e : Mu48.isLeap n = decide ((n : Int) ≤ 12) := by
        unfold Mu48.isLeap
        rw [decide_eq_true (show 1 ≤ n by omega), Bool.true_and]
        exact decide_eq_decide.mpr (by omega)
      rw [e] at k
      exact k
    · have h1 : ¬ (1 : Int) ≤ (n : Int) := fun z => h1 (decide_eq_true z)
      have e : Mu48.isLeap n = false := by
        unfold Mu48.isLeap
        rw [decide_eq_false (show ¬ 1 ≤ n by omega), Bool.false_and]
      rw [e] at k
      exact k
theorem sc_people : FnScope ["people"] ["people"] (defScope sPeopleFit) := ⟨rfl, rfl, rfl, by decide +kernel, rfl, by decide +kernel, by decide +kernel⟩
theorem ok_people {f : Addr} {fd : FuncData} (F : Fun K "people_fit" "people_fit" sPeopleFit f fd) (g : Gi mg "MOST_PEOPLE" 20) : FnOk P w K mg base CX0 1 f fd ["people"] spPeopleFit := by
  refine F.ok sc_people (fun vs H Q E h => ?_) (fun cdv A outer s H vs Q E hr h => ?_)
  · obtain ⟨n, rfl, _⟩ := h
    rfl
  · obtain ⟨n, rfl, k⟩ := h
    refine ⟨_, pss_one (ps_ret (pe_and (pe_cmpR op_le pe_int (pv 0) (nomark _)) (pe_one (pe_cmpR op_le (pv 0) (pe_gi rfl g) (nomark _))))), ?_⟩
    refine ⟨_, rfl, _, _, rfl, rfl, _, rfl, ite2 (fun h1 => ?_) (fun h1 => ?_)⟩
    · refine ⟨_, rfl, _, _, rfl, rfl, ?_⟩
      have h1 : (1 : Int) ≤ (n : Int) := of_decide_eq_true h1
      have e : Mu48.isMany n = decide ((n : Int) ≤ 20) := by
        unfold Mu48.isMany Mu48.MANY
        rw [decide_eq_true (show 1 ≤ n by omega), Bool.true_and]
        exact decide_eq_decide.mpr (by omega)
      rw [e] at k
      exact k
    · have h1 : ¬ (1 : Int) ≤ (n : Int) := fun z => h1 (decide_eq_true z)
      have e : Mu48.isMany n = false := by
        unfold Mu48.isMany
        rw [decide_eq_false (show ¬ 1 ≤ n by omega), Bool.false_and]
      rw [e] at k
      exact k
theorem sc_far : FnScope ["bears"] ["bears"] (defScope sFarBank) := ⟨rfl, rfl, rfl, by decide +kernel, rfl, by decide +kernel, by decide +kernel⟩
theorem ok_far {f : Addr} {fd : FuncData} (F : Fun K "far_bank" "far_bank" sFarBank f fd) (gl : mg "len" = none) : FnOk P w K mg base CX0 1 f fd ["bears"] (spFarBank K) := by
  refine F.ok sc_far (fun vs H Q E h => ?_) (fun cdv A outer s H vs Q E hr h => ?_)
  · obtain ⟨a, bs, rfl, _⟩ := h
    rfl
  · obtain ⟨a, bs, rfl, hS, k⟩ := h
    refine ⟨_, pss_one (ps_ret (pe_op op_add (pe_callB call_len_seq (by rfl) gl PySem.boot_len (pa_cons (pv 0) pa_nil)) pe_int)), ?_⟩
    refine ⟨_, rfl, a, _, rfl, .inl hS, _, _, rfl, rfl, ?_⟩
    have e : (((nv bs).length : Nat) : Int) + 1 = ((Mu48.bank bs : Nat) : Int) := by
      unfold Mu48.bank nv
      rw [List.length_map]
      omega
    show Q (.int ((((nv bs).length : Nat) : Int) + 1)) H
    rw [e]
    exact k
end
end Rv

set_option Elab.async false
set_option linter.all false
set_option maxRecDepth 100000
set_option maxHeartbeats 2000000
namespace Rv
open PySem PySem.Spec PyProof.Rows L2

/-! ### lists -/
theorem nv_ints (l : List Nat) : nv l = (l.map (fun (n : Nat) => (n : Int))).map V.int := by
  unfold nv
  rw [List.map_map]
  rfl
theorem nv_length (l : List Nat) : (nv l).length = l.length := List.length_map _
theorem take_snoc {α : Type} : ∀ {l : List α} {i : Nat} {x : α}, l[i]? = some x → l.take (i + 1) = l.take i ++ [x]
  | [], i, x, h => by simp at h
  | a :: l, 0, x, h => by
    have e : a = x := Option.some.inj h
    subst e
    rfl
  | a :: l, i + 1, x, h => by
    have ih := take_snoc (l := l) (i := i) (x := x) h
    show a :: l.take (i + 1) = a :: l.take i ++ [x]
    rw [ih]
    rfl
theorem foldl_add : ∀ (l : List Nat) (z : Nat), l.foldl (fun (a b : Nat) => a + b) z = z + l.foldl (fun (a b : Nat) => a + b) 0
  | [], z => rfl
  | a :: l, z => by
    show l.foldl (fun (a b : Nat) => a + b) (z + a) = z + l.foldl (fun (a b : Nat) => a + b) (0 + a)
    rw [foldl_add l (z + a), foldl_add l (0 + a)]
    omega
theorem total_cons (a : Nat) (l : List Nat) : Mu48.total (a :: l) = a + Mu48.total l := by
  unfold Mu48.total
  show l.foldl (fun (a b : Nat) => a + b) (0 + a) = _
  rw [foldl_add]
  omega
theorem total_nil : Mu48.total [] = 0 := rfl
theorem total_append : ∀ (l m : List Nat), Mu48.total (l ++ m) = Mu48.total l + Mu48.total m
  | [], m => by rw [total_nil, Nat.zero_add]; rfl
  | a :: l, m => by
    show Mu48.total (a :: (l ++ m)) = _
    rw [total_cons, total_cons, total_append l m]
    omega
theorem sum_total : ∀ l : List Nat, (l.map (fun (n : Nat) => (n : Int))).sum = (Mu48.total l : Int)
  | [] => rfl
  | a :: l => by
    rw [List.map_cons, List.sum_cons, sum_total l, total_cons]
    omega
theorem cut_nat (xs : List V) (a m : Nat) {z y : Int} (hz : z = (a : Int)) (hy : y = ((a + m : Nat) : Int)) : cutV xs (some z) (some y) = (xs.drop a).take m := by
  subst hz hy
  unfold cutV
  rw [HT.sIx_nat, HT.sIx_nat]
  by_cases h : a ≤ xs.length
  · rw [Nat.min_eq_left h]
    by_cases h2 : a + m ≤ xs.length
    · rw [Nat.min_eq_left h2, Nat.add_sub_cancel_left]
    · rw [Nat.min_eq_right (by omega), List.take_of_length_le (by rw [List.length_drop]; omega), List.take_of_length_le (by rw [List.length_drop]; omega)]
  · rw [Nat.min_eq_right (by omega), List.drop_of_length_le (by omega), List.drop_of_length_le (by omega), List.take_nil, List.take_nil]
theorem nv_cut (bs : List Nat) (a m : Nat) {z y : Int} (hz : z = (a : Int)) (hy : y = ((a + m : Nat) : Int)) : cutV (nv bs) (some z) (some y) = nv ((bs.drop a).take m) := by
  rw [cut_nat _ a m hz hy]
  unfold nv
  rw [List.map_take, List.map_drop]
theorem nv_snoc (l : List Nat) (n : Nat) {z : Int} (h : z = (n : Int)) : nv l ++ [V.int z] = nv (l ++ [n]) := by
  subst h
  unfold nv
  rw [List.map_append]
  rfl
theorem Same.laid {H : Hp} {a : Addr} {o : HO} (h : H a = none) : Same H (upd H a o) := fun b u e => by
  rw [upd_ne (ne_of_none e h)]
  exact e
theorem Same.laid' {H H' : Hp} {a : Addr} {o : HO} (h : H a = none) (s : Same H H') : Same H (upd H' a o) := fun b u e => by
  rw [upd_ne (ne_of_none e h)]
  exact s b u e

theorem small1000' {n : Nat} (h : n ≤ 100000) : n < sizeLine := Nat.lt_of_le_of_lt h (by decide)
/-! ### comprehensions -/
theorem lc_range {lo : Int} {n : Nat} {g : TG} {tt : TT} {te : TE} {vs : List Nat} {σ : L2.St} {R : Hp → Prop} {H1 : Hp} {D : Addr} (Pv : Nat → Hp → Prop) (h0 : Pv 0 (upd H1 D (.lst [])))
    (turn : ∀ i H, i < n → Pv i H → g (.int (lo + i)) (wipe σ vs) H fun σ2 H2 => wipe σ2 vs = wipe σ vs ∧ tt σ2 H2 fun b H3 => if b = true then te σ2 H3 fun y H4 => ∃ acc, H4 D = some (.lst acc) ∧ acc.length < sizeLine ∧ Pv (i + 1) (upd H4 D (.lst (acc ++ [y]))) else Pv (i + 1) H3)
    (fin : ∀ H, Pv n H → R H) :
    ∃ W : Nat → Nat → Hp → Prop, (∃ m, W 0 m (upd H1 D (.lst []))) ∧ ∀ i m H, W i m H →
      ((Itr lo n).stop i H ∧ R H) ∨ ((Itr lo n).go i H ∧ ∃ Nx : Hp → Prop, (∀ H', Nx H' → ∃ m', m' < m ∧ W (i + 1) m' H') ∧ ∀ x H', (Itr lo n).yld i H x H' → g x (wipe σ vs) H' fun σ2 H2 => wipe σ2 vs = wipe σ vs ∧ tt σ2 H2 fun b H3 =>
        if b = true then te σ2 H3 fun y H4 => ∃ acc, H4 D = some (.lst acc) ∧ acc.length < sizeLine ∧ Nx (upd H4 D (.lst (acc ++ [y]))) else Nx H3) := by
  refine ⟨fun i m H => m = n - i ∧ i ≤ n ∧ Pv i H, ⟨n, by simp, Nat.zero_le _, h0⟩, ?_⟩
  rintro i m H ⟨rfl, hi, p⟩
  by_cases hlt : i < n
  · refine .inr ⟨hlt, Pv (i + 1), fun H' p' => ⟨n - (i + 1), by omega, rfl, hlt, p'⟩, fun x H' y => ?_⟩
    obtain ⟨rfl, rfl⟩ := y
    exact turn i H' hlt p
  · have e : i = n := by omega
    subst e
    exact .inl ⟨Nat.le_refl _, fin H p⟩
theorem lc_list {K : PySem.W.Frag} {a : Addr} {xs : List V} {g : TG} {tt : TT} {te : TE} {vs : List Nat} {σ : L2.St} {R : Hp → Prop} {H1 : Hp} {D : Addr} (Pv : Nat → Hp → Prop) (h0 : Pv 0 (upd H1 D (.lst []))) (hl : ∀ i H, i ≤ xs.length → Pv i H → SqL K H a xs)
    (turn : ∀ i x H, xs[i]? = some x → Pv i H → g x (wipe σ vs) H fun σ2 H2 => wipe σ2 vs = wipe σ vs ∧ tt σ2 H2 fun b H3 => if b = true then te σ2 H3 fun y H4 => ∃ acc, H4 D = some (.lst acc) ∧ acc.length < sizeLine ∧ Pv (i + 1) (upd H4 D (.lst (acc ++ [y]))) else Pv (i + 1) H3)
    (fin : ∀ H, Pv xs.length H → R H) :
    ∃ W : Nat → Nat → Hp → Prop, (∃ m, W 0 m (upd H1 D (.lst []))) ∧ ∀ i m H, W i m H →
      ((Itl K a).stop i H ∧ R H) ∨ ((Itl K a).go i H ∧ ∃ Nx : Hp → Prop, (∀ H', Nx H' → ∃ m', m' < m ∧ W (i + 1) m' H') ∧ ∀ x H', (Itl K a).yld i H x H' → g x (wipe σ vs) H' fun σ2 H2 => wipe σ2 vs = wipe σ vs ∧ tt σ2 H2 fun b H3 =>
        if b = true then te σ2 H3 fun y H4 => ∃ acc, H4 D = some (.lst acc) ∧ acc.length < sizeLine ∧ Nx (upd H4 D (.lst (acc ++ [y]))) else Nx H3) := by
  refine ⟨fun i m H => m = xs.length - i ∧ i ≤ xs.length ∧ Pv i H, ⟨xs.length, by simp, Nat.zero_le _, h0⟩, ?_⟩
  rintro i m H ⟨rfl, hi, p⟩
  have q := hl i H hi p
  by_cases hlt : i < xs.length
  · refine .inr ⟨⟨xs, xs[i], q, by simp [hlt]⟩, Pv (i + 1), fun H' p' => ⟨xs.length - (i + 1), by omega, rfl, hlt, p'⟩, fun x H' y => ?_⟩
    obtain ⟨rfl, hx⟩ := y
    exact turn i x H' (hx xs q) p
  · have e : i = xs.length := by omega
    subst e
    exact .inl ⟨⟨xs, q, Nat.le_refl _⟩, fin H p⟩

def lcScope : Expr → Scope
  | .ListComp _ _ sc _ => sc
  | _ => { kind := .function, names := [], isGenerator := false, isCoroutine := false }
def retOf : List Stmt → Expr
  | [.Return (some e) _] => e
  | _ => .Constant .none 0 ⟨0, 0, 0, 0⟩
/-! ### stretch_sums -/
def sumsOf (bs : List Nat) (n : Nat) : List Nat := (Mu48.stretches bs n).map (fun (x : Nat) => Mu48.stretch bs x n)
theorem sumsOf_length (bs : List Nat) (n : Nat) : (sumsOf bs n).length = Mu48.bank bs - n := by
  unfold sumsOf Mu48.stretches
  rw [List.length_map, List.length_map, List.length_range]
theorem sumsOf_at {bs : List Nat} {n i : Nat} (h : i < Mu48.bank bs - n) : (sumsOf bs n)[i]? = some (Mu48.total ((bs.drop i).take n)) := by
  unfold sumsOf Mu48.stretches
  rw [List.map_map, List.getElem?_map, List.getElem?_range h]
  rfl
def spSums (K : PySem.W.Frag) : Sp := fun vs H Q _ => ∃ (a : Addr) (bs : List Nat) (n : Nat), vs = [.ref a, .int n] ∧ SqL K H a (nv bs) ∧ bs.length ≤ 1000 ∧ n ≤ 1000 ∧
  ∀ (H' : Hp) (p : Addr), Same H H' → H p = none → H' p = some (.lst (nv (sumsOf bs n))) → Q (.ref p) H'
section
variable {P : Program} {w : World} {K : PySem.W.Frag} {mg : Str → Option Value} {base : Heap}
theorem blk_sums : BlkOk ["bears", "leap", "start"] (defScope sSums) (lcScope (retOf (defBody sSums))) [("start", 2)] := ⟨rfl, by decide +kernel, by decide +kernel, by decide +kernel, by decide +kernel⟩
theorem sc_sums : FnScope ["bears", "leap", "start"] ["bears", "leap"] (defScope sSums) := ⟨rfl, rfl, rfl, by decide +kernel, rfl, by decide +kernel, by decide +kernel⟩
theorem ok_sums {f : Addr} {fd : FuncData} (F : Fun K "stretch_sums" "stretch_sums" sSums f fd) (gl : mg "len" = none) (gr : mg "range" = none) (gs : mg "sum" = none) : FnOk P w K mg base CX0 1 f fd ["bears", "leap"] (spSums K) := by
  refine F.ok sc_sums (fun vs H Q E h => ?_) (fun cdv A outer s H vs Q E hr h => ?_)
  · obtain ⟨a, bs, n, rfl, _⟩ := h
    rfl
  · obtain ⟨a, bs, n, rfl, hS, hb, hn, k⟩ := h
    refine ⟨_, pss_one (ps_ret (pe_lc (own := [("start", 2)]) rfl sc_sums.nd (pi_range1 rfl gr (pa_cons (pe_op op_add (pe_op op_sub (pe_callB call_len_seq (by rfl) gl PySem.boot_len (pa_cons (pv 0) pa_nil)) (pv 1)) pe_int) pa_nil))
      blk_sums (fun s H C cl fp => pg_name (i := 2) sc_sums.nd rfl (Or.inl rfl)) (fun s H C cl fp => pts_nil)
      (fun s H C cl fp => pe_callB (show CallR _ (.builtin "sum") (rSum K) from cr_sum rfl) (by rfl) gs PyProof.Rows.boot_sum (pa_cons (pe_slice (show SlR _ (rSlL K) from sl_list) (pv 0) (po_some (pv 2)) (po_some (pe_op op_add (pv 2) (pv 1)))) pa_nil)))), ?_⟩
    refine ⟨_, rfl, a, _, rfl, .inl hS, _, rfl, _, _, rfl, rfl, _, _, rfl, rfl, _, rfl, ?_, ?_, ?_⟩
    · rw [nv_length]; omega
    · rw [nv_length]; omega
    have ec : (((nv bs).length : Nat) : Int) - (n : Int) + 1 = ((bs.length : Nat) : Int) - (n : Int) + 1 := by rw [nv_length]
    have en : ((((nv bs).length : Nat) : Int) - (n : Int) + 1).toNat = Mu48.bank bs - n := by
      rw [ec]
      unfold Mu48.bank
      omega
    rw [en]
    intro D hD
    refine lc_range (fun i H' => Same H H' ∧ H' D = some (.lst (nv ((sumsOf bs n).take i)))) ⟨Same.laid hD, upd_same⟩ ?_ ?_
    · rintro i H' hi ⟨hs, hd⟩
      refine ⟨rfl, ?_⟩
      refine ⟨_, rfl, _, rfl, _, rfl, _, rfl, _, rfl, _, _, rfl, rfl, _, rfl, a, _, rfl, hs.seq hS, fun p hp => ?_⟩
      have hpD : p ≠ D := fun z => by rw [z, hd] at hp; cases hp
      have hat := sumsOf_at hi
      rw [nv_cut bs i n (z := 0 + (i : Int)) (y := 0 + (i : Int) + (n : Int)) (by omega) (by omega)]
      refine ⟨p, (((bs.drop i).take n).map (fun (n : Nat) => (n : Int))), rfl, SqL.of (by rw [upd_same, nv_ints]), _, Eq.trans (upd_ne (Ne.symm hpD)) hd, ?_, ?_, ?_⟩
      · rw [nv_length, List.length_take, sumsOf_length]
        refine Nat.lt_of_le_of_lt (Nat.min_le_right _ _) (Nat.lt_of_le_of_lt (Nat.sub_le _ _) (small1000' ?_))
        unfold Mu48.bank
        omega
      · exact Same.laid' hD (Same.laid' (hs.free hp) hs)
      · rw [upd_same, nv_snoc _ _ (sum_total _), take_snoc hat]
    · rintro H' ⟨hs, hd⟩
      rw [List.take_of_length_le (by rw [sumsOf_length]; exact Nat.le_refl _)] at hd
      exact k H' D hs hD hd
end
end Rv

set_option Elab.async false
set_option linter.all false
namespace Rv
/-! ### the narrowest stretch -/
def nstep (f : Nat → Nat) (m : Option (Nat × Nat)) (x : Nat) : Option (Nat × Nat) := match m with
  | none => some (f x, x)
  | some y => if f x < y.1 then some (f x, x) else some y
theorem nfold (f : Nat → Nat) : ∀ (l : List Nat) (x0 : Nat), ∃ x, l.foldl (nstep f) (some (f x0, x0)) = some (f x, x) ∧
    ((x = x0 ∧ ∀ y ∈ l, f x0 ≤ f y) ∨ ∃ pre post, l = pre ++ x :: post ∧ f x < f x0 ∧ (∀ y ∈ pre, f x < f y) ∧ ∀ y ∈ post, f x ≤ f y)
  | [], x0 => ⟨x0, rfl, .inl ⟨rfl, fun y h => by cases h⟩⟩
  | a :: l, x0 => by
    have e : (a :: l).foldl (nstep f) (some (f x0, x0)) = l.foldl (nstep f) (if f a < f x0 then some (f a, a) else some (f x0, x0)) := rfl
    rw [e]
    by_cases h : f a < f x0
    · rw [if_pos h]
      obtain ⟨x, e1, h1⟩ := nfold f l a
      refine ⟨x, e1, .inr ?_⟩
      rcases h1 with ⟨rfl, h2⟩ | ⟨pre, post, rfl, h3, h4, h5⟩
      · exact ⟨[], l, rfl, h, fun y hy => (by cases hy), h2⟩
      · refine ⟨a :: pre, post, rfl, by omega, fun y hy => ?_, h5⟩
        rcases List.mem_cons.mp hy with z | z
        · rw [z]; exact h3
        · exact h4 y z
    · rw [if_neg h]
      obtain ⟨x, e1, h1⟩ := nfold f l x0
      refine ⟨x, e1, ?_⟩
      rcases h1 with ⟨rfl, h2⟩ | ⟨pre, post, rfl, h3, h4, h5⟩
      · refine .inl ⟨rfl, fun y hy => ?_⟩
        rcases List.mem_cons.mp hy with z | z
        · rw [z]; omega
        · exact h2 y z
      · refine .inr ⟨a :: pre, post, rfl, h3, fun y hy => ?_, h5⟩
        rcases List.mem_cons.mp hy with z | z
        · rw [z]; omega
        · exact h4 y z
theorem nfold0 (f : Nat → Nat) (l : List Nat) : (l = [] ∧ l.foldl (nstep f) none = none) ∨ ∃ x pre post, l.foldl (nstep f) none = some (f x, x) ∧ l = pre ++ x :: post ∧ (∀ y ∈ pre, f x < f y) ∧ ∀ y ∈ post, f x ≤ f y := by
  cases l with
  | nil => exact .inl ⟨rfl, rfl⟩
  | cons a l =>
    obtain ⟨x, e1, h1⟩ := nfold f l a
    refine .inr ?_
    rcases h1 with ⟨rfl, h2⟩ | ⟨pre, post, rfl, h3, h4, h5⟩
    · exact ⟨x, [], l, e1, rfl, fun y hy => (by cases hy), h2⟩
    · refine ⟨x, a :: pre, post, e1, rfl, fun y hy => ?_, h5⟩
      rcases List.mem_cons.mp hy with z | z
      · rw [z]; exact h3
      · exact h4 y z
theorem narrowest_fold (bs : List Nat) (n : Nat) : Mu48.narrowest bs n = (Mu48.stretches bs n).foldl (nstep fun x => Mu48.stretch bs x n) none := rfl
theorem stretches_split {bs : List Nat} {n x : Nat} {pre post : List Nat} (h : Mu48.stretches bs n = pre ++ x :: post) : x = pre.length + 1 := by
  have h1 : (Mu48.stretches bs n)[pre.length]? = some x := by
    rw [h, List.getElem?_append_right (Nat.le_refl _), Nat.sub_self]
    rfl
  unfold Mu48.stretches at h1
  rw [List.getElem?_map] at h1
  cases q : (List.range (Mu48.bank bs - n))[pre.length]? with
  | none =>
    rw [q] at h1
    cases h1
  | some y =>
    rw [q] at h1
    have h2 : y + 1 = x := Option.some.inj h1
    obtain ⟨h3, h4⟩ := List.getElem?_eq_some_iff.mp q
    rw [List.getElem_range] at h4
    omega
/-- what narrowest says, by the list of the stretches' sums -/
theorem narrowest_sums (bs : List Nat) (n : Nat) : (sumsOf bs n = [] ∧ Mu48.narrowest bs n = none) ∨ ∃ m j, Mu48.narrowest bs n = some (m, j + 1) ∧ (sumsOf bs n)[j]? = some m ∧ (∀ y ∈ sumsOf bs n, m ≤ y) ∧ ∀ i z, i < j → (sumsOf bs n)[i]? = some z → m < z := by
  rw [narrowest_fold]
  rcases nfold0 (fun x => Mu48.stretch bs x n) (Mu48.stretches bs n) with ⟨e, h⟩ | ⟨x, pre, post, h1, h2, h3, h4⟩
  · refine .inl ⟨?_, h⟩
    unfold sumsOf
    rw [e]
    rfl
  · have ex := stretches_split h2
    have es : sumsOf bs n = pre.map (fun x => Mu48.stretch bs x n) ++ Mu48.stretch bs x n :: post.map (fun x => Mu48.stretch bs x n) := by
      unfold sumsOf
      rw [h2, List.map_append, List.map_cons]
    refine .inr ⟨Mu48.stretch bs x n, pre.length, by rw [h1, ← ex], ?_, fun y hy => ?_, fun i z hi hz => ?_⟩
    · rw [es, List.getElem?_append_right (by rw [List.length_map]; exact Nat.le_refl _), List.length_map, Nat.sub_self]
      rfl
    · rw [es] at hy
      rcases List.mem_append.mp hy with hy | hy
      · obtain ⟨q, hq, rfl⟩ := List.mem_map.mp hy
        exact Nat.le_of_lt (h3 q hq)
      · rcases List.mem_cons.mp hy with hy | hy
        · rw [hy]; exact Nat.le_refl _
        · obtain ⟨q, hq, rfl⟩ := List.mem_map.mp hy
          exact h4 q hq
    · rw [es, List.getElem?_append_left (by rw [List.length_map]; exact hi)] at hz
      obtain ⟨q, hq, rfl⟩ := List.mem_map.mp (List.mem_of_getElem? hz)
      exact h3 q hq
theorem can_sums (bs : List Nat) (n k : Nat) : Mu48.can bs n k = (sumsOf bs n).all (fun s => decide (k ≤ s)) := by
  unfold Mu48.can Mu48.most
  rcases narrowest_sums bs n with ⟨e, h⟩ | ⟨m, j, h1, h2, h3, h4⟩
  · rw [h, e]
    rfl
  · rw [h1]
    show decide (k ≤ m) = _
    by_cases h : k ≤ m
    · rw [decide_eq_true h]
      refine (List.all_eq_true.mpr fun y hy => decide_eq_true ?_).symm
      have := h3 y hy
      omega
    · rw [decide_eq_false h]
      refine (Bool.eq_false_iff.mpr fun z => h ?_).symm
      exact of_decide_eq_true (List.all_eq_true.mp z m (List.mem_of_getElem? h2))
end Rv

set_option Elab.async false
set_option linter.all false
set_option maxRecDepth 100000
set_option maxHeartbeats 2000000
namespace Rv
open PySem PySem.Spec PyProof.Rows L2
abbrev sMost : Stmt := top 28
abbrev sNarrowest : Stmt := top 29
abbrev iv (l : List Int) : List V := l.map V.int
/-- a def gives back a new list of ints, and leaves what stood as it was -/
def Fresh (H : Hp) (Q : VK) (l : List Int) : Prop := ∀ (H' : Hp) (p : Addr), Same H H' → H p = none → H' p = some (.lst (iv l)) → Q (.ref p) H'
/-- a river stands at r, its list at l -/
def RvAt (C : Addr) (H : Hp) (r l : Addr) (bs : List Nat) : Prop := (∃ dx fs, H r = some (.ins C dx fs) ∧ fs.lookup ("bears" : Str) = some (.ref l)) ∧ H l = some (.lst (nv bs))
theorem RvAt.same {C : Addr} {H H' : Hp} {r l : Addr} {bs : List Nat} (h : RvAt C H r l bs) (s : Same H H') : RvAt C H' r l bs :=
  let ⟨⟨dx, fs, h1, h2⟩, h3⟩ := h
  ⟨⟨dx, fs, s _ _ h1, h2⟩, s _ _ h3⟩
structure Cl (K : PySem.W.Frag) (C : Addr) : Prop where
  cl : Cls K C
  nB : NoAttr K C "bears"
theorem ite_not {c : Bool} {A B : Prop} (h1 : c = false → A) (h2 : c = true → B) : if (!c) = true then A else B := by
  cases c with
  | false => exact h1 rfl
  | true => exact h2 rfl
theorem ite_zero {n : Nat} {A B : Prop} (h1 : n = 0 → A) (h2 : n ≠ 0 → B) : if decide (V.int (n : Int) = V.int 0) = true then A else B := by
  by_cases h : n = 0
  · rw [if_pos (by subst h; rfl)]
    exact h1 h
  · rw [if_neg (fun z => h (by have := V.int.inj (of_decide_eq_true z); omega))]
    exact h2 h
theorem nv_at {l : List Nat} {j m : Nat} (h : l[j]? = some m) : (nv l)[j]? = some (V.int (m : Int)) := by
  unfold nv
  rw [List.getElem?_map, h]
  rfl
theorem nv_of_at {l : List Nat} {j : Nat} {x : V} (h : (nv l)[j]? = some x) : ∃ m : Nat, l[j]? = some m ∧ x = V.int (m : Int) := by
  unfold nv at h
  rw [List.getElem?_map] at h
  cases e : l[j]? with
  | none =>
    rw [e] at h
    cases h
  | some z =>
    rw [e] at h
    exact ⟨z, rfl, (Option.some.inj h).symm⟩
theorem nv_flat (l : List Nat) : (nv l).all flatV = true := by
  refine List.all_eq_true.mpr fun x hx => ?_
  obtain ⟨y, _, rfl⟩ := List.mem_map.mp hx
  rfl
theorem eqV_self (i : Int) : eqV (V.int i) (V.int i) = true := by simp [eqV]
theorem eqV_ne {i j : Int} (h : i ≠ j) : eqV (V.int i) (V.int j) = false := by simp [eqV, h]
theorem line2 : ([] : List V).length + 1 + 1 ≤ sizeLine := by decide
theorem line1 : ([] : List V).length + 1 ≤ sizeLine := by decide

def spCan (K : PySem.W.Frag) : Sp := fun vs H Q _ => ∃ (a : Addr) (bs : List Nat) (n k : Nat), vs = [.ref a, .int n, .int k] ∧ SqL K H a (nv bs) ∧ bs.length ≤ 1000 ∧ n ≤ 1000 ∧
  ∀ (H' : Hp), Same H H' → Q (.bl (Mu48.can bs n k)) H'
def mostA (bs : List Nat) (n : Nat) : List Int := if Mu48.isLeap n = false then [-1] else match Mu48.most bs n with
    | none => [-8]
    | some m => [(m : Int)]
def narrowestA (bs : List Nat) (n : Nat) : List Int := if Mu48.isLeap n = false then [-1] else match Mu48.narrowest bs n with
    | none => [-8]
    | some x => Mu48.nums [x.1, x.2]
def spMost (C : Addr) : Sp := fun vs H Q _ => ∃ (r l : Addr) (bs : List Nat) (n : Nat), vs = [.ref r, .int n] ∧ RvAt C H r l bs ∧ bs.length ≤ 1000 ∧ n ≤ 1000 ∧ Fresh H Q (mostA bs n)
def spNarrowest (C : Addr) : Sp := fun vs H Q _ => ∃ (r l : Addr) (bs : List Nat) (n : Nat), vs = [.ref r, .int n] ∧ RvAt C H r l bs ∧ bs.length ≤ 1000 ∧ n ≤ 1000 ∧ Fresh H Q (narrowestA bs n)
section
variable {P : Program} {w : World} {K : PySem.W.Frag} {mg : Str → Option Value} {base : Heap}
def allArg : Expr → Expr
  | .Call _ (e :: _) _ _ => e
  | e => e
theorem blk_can : BlkOk ["bears", "leap", "people", "borne"] (defScope sCan) (lcScope (allArg (retOf (defBody sCan)))) [("borne", 3)] := ⟨rfl, by decide +kernel, by decide +kernel, by decide +kernel, by decide +kernel⟩
theorem sc_can : FnScope ["bears", "leap", "people", "borne"] ["bears", "leap", "people"] (defScope sCan) := ⟨rfl, rfl, rfl, by decide +kernel, rfl, by decide +kernel, by decide +kernel⟩
theorem ok_can {f : Addr} {fd : FuncData} (F : Fun K "can_get_over" "can_get_over" sCan f fd) (DS : Def P w K mg base 1 "stretch_sums" ["bears", "leap"] (spSums K)) (ga : mg "all" = none) : FnOk P w K mg base CX0 2 f fd ["bears", "leap", "people"] (spCan K) := by
  refine F.ok sc_can (fun vs H Q E h => ?_) (fun cdv A outer s H vs Q E hr h => ?_)
  · obtain ⟨a, bs, n, k, rfl, _⟩ := h
    rfl
  · obtain ⟨a, bs, n, k, rfl, hS, hb, hn, kk⟩ := h
    refine ⟨_, pss_one (ps_ret (pe_callB (cr_all rfl) (by rfl) ga PyProof.Rows.boot_all (pa_cons (pe_lc (own := [("borne", 3)]) rfl sc_can.nd (pi_list (pe_def DS hr (by rfl) (pa_cons (pv 0) (pa_cons (pv 1) pa_nil))))
      blk_can (fun s H C cl fp => pg_name (i := 3) sc_can.nd rfl (Or.inl rfl)) (fun s H C cl fp => pts_nil)
      (fun s H C cl fp => pe_cmpR op_ge (pv 3) (pv 2) (nomark _))) pa_nil))), ?_⟩
    refine ⟨_, rfl, _, rfl, a, bs, n, rfl, hS, hb, hn, fun H1 p s1 hp h1 => ?_⟩
    refine ⟨p, rfl, ⟨_, SqL.of h1⟩, fun D hD => ?_⟩
    refine lc_list (K := K) (xs := nv (sumsOf bs n)) (fun i H' => Same H1 H' ∧ H' D = some (.lst ((((sumsOf bs n).take i).map (fun s => decide (k ≤ s))).map V.bl))) ⟨Same.laid hD, upd_same⟩ (fun i H' _ ⟨s2, _⟩ => SqL.of (s2 _ _ h1)) ?_ ?_
    · rintro i x H' hx ⟨hs, hd⟩
      refine ⟨rfl, ?_⟩
      obtain ⟨z, hz, rfl⟩ : ∃ z, (sumsOf bs n)[i]? = some z ∧ x = V.int (z : Nat) := by
        unfold nv at hx
        rw [List.getElem?_map] at hx
        cases e : (sumsOf bs n)[i]? with
        | none =>
          rw [e] at hx
          cases hx
        | some z =>
          rw [e] at hx
          exact ⟨z, rfl, (Option.some.inj hx).symm⟩
      refine ⟨_, rfl, _, rfl, _, _, rfl, rfl, _, hd, ?_, Same.laid' hD hs, ?_⟩
      · rw [List.length_map, List.length_map, List.length_take, sumsOf_length]
        refine Nat.lt_of_le_of_lt (Nat.min_le_right _ _) (Nat.lt_of_le_of_lt (Nat.sub_le _ _) (small1000' ?_))
        unfold Mu48.bank
        omega
      · rw [upd_same, take_snoc hz, List.map_append, List.map_append]
        have e : decide ((k : Int) ≤ (z : Int)) = decide (k ≤ z) := decide_eq_decide.mpr (by omega)
        dsimp only
        rw [e]
        rfl
    · rintro H' ⟨hs, hd⟩
      rw [nv_length, List.take_length] at hd
      refine ⟨D, _, rfl, SqL.of hd, ?_⟩
      have e : ((sumsOf bs n).map (fun s => decide (k ≤ s))).all id = Mu48.can bs n k := by
        rw [can_sums, List.all_map]
        rfl
      rw [e]
      exact kk H' (s1.trans hs)
theorem sc_most : FnScope ["river", "leap", "sums"] ["river", "leap"] (defScope sMost) := ⟨rfl, rfl, rfl, by decide +kernel, rfl, by decide +kernel, by decide +kernel⟩
theorem ok_most {f C : Addr} {fd : FuncData} (F : Fun K "most" "most" sMost f fd) (T : Cl K C) (DL : Def P w K mg base 1 "leap_fits" ["leap"] spLeapFits) (DS : Def P w K mg base 1 "stretch_sums" ["bears", "leap"] (spSums K))
    (g1 : Gi mg "DOES_NOT_FIT" (-1)) (g8 : Gi mg "NO_STRETCH" (-8)) (gl : mg "len" = none) (gm : mg "min" = none) : FnOk P w K mg base CX0 2 f fd ["river", "leap"] (spMost C) := by
  refine F.ok sc_most (fun vs H Q E h => ?_) (fun cdv A outer s H vs Q E hr h => ?_)
  · obtain ⟨r, l, bs, n, rfl, _⟩ := h
    rfl
  · obtain ⟨r, l, bs, n, rfl, ⟨⟨dx, fs, hR, hf⟩, hS⟩, hb, hn, k⟩ := h
    refine ⟨_, pss_cons (ps_if (pt_not (pt_val (pe_def DL hr (by rfl) (pa_cons (pv 1) pa_nil)))) (pss_one (ps_ret (pe_lst (pa_cons (pe_gi rfl g1) pa_nil)))) pss_nil)
      (pss_cons (ps_set (i := 2) sc_most.nd rfl (Or.inl rfl) (pe_def DS hr (by rfl) (pa_cons (pe_fld (pv 0) rfl) (pa_cons (pv 1) pa_nil))))
      (pss_cons (ps_if (pt_cmpR op_eq (pe_callB call_len_seq (by rfl) gl PySem.boot_len (pa_cons (pv 2) pa_nil)) pe_int (nomark _)) (pss_one (ps_ret (pe_lst (pa_cons (pe_gi rfl g8) pa_nil)))) pss_nil)
      (pss_one (ps_ret (pe_lst (pa_cons (pe_callB (cr_min rfl) (by rfl) gm PyProof.Rows.boot_min (pa_cons (pv 2) pa_nil)) pa_nil)))))), ?_⟩
    refine ⟨_, rfl, n, rfl, _, rfl, ite_not (fun h1 => ?_) (fun h1 => ?_)⟩
    · refine ⟨line1, fun p hp => k _ p (Same.laid hp) hp ?_⟩
      unfold mostA
      rw [if_pos h1]
      exact upd_same
    · have ea : mostA bs n = match Mu48.most bs n with
          | none => [-8]
          | some m => [(m : Int)] := by
        unfold mostA
        rw [if_neg (by rw [h1]; decide)]
      rw [ea] at k
      refine ⟨_, rfl, r, C, dx, fs, _, rfl, hR, T.cl, T.nB, hf, _, rfl, l, bs, n, rfl, SqL.of hS, hb, hn, fun H1 p s1 hp h1 => ?_⟩
      refine ⟨_, rfl, p, _, rfl, .inl (SqL.of h1), rfl, _, rfl, ?_⟩
      rw [nv_length]
      refine ite_zero (fun z => ?_) (fun z => ?_)
      · have e0 : sumsOf bs n = [] := List.eq_nil_of_length_eq_zero z
        refine ⟨line1, fun q hq => ?_⟩
        rcases narrowest_sums bs n with ⟨_, h⟩ | ⟨m, j, _, h2, _⟩
        · unfold Mu48.most at k
          rw [h] at k
          exact k _ q (Same.laid' (s1.free hq) s1) (s1.free hq) upd_same
        · rw [e0] at h2
          cases h2
      · refine ⟨_, rfl, p, ((sumsOf bs n).map (fun (n : Nat) => (n : Int))), rfl, SqL.of (by rw [h1, nv_ints]), (by rw [List.length_map]; omega), fun m hm hall => ⟨line1, fun q hq => ?_⟩⟩
        rcases narrowest_sums bs n with ⟨h, _⟩ | ⟨m', j, h2, h3, h4, _⟩
        · rw [h] at z
          exact absurd rfl z
        · unfold Mu48.most at k
          rw [h2] at k
          have em : m = (m' : Int) := by
            obtain ⟨y, hy, rfl⟩ := List.mem_map.mp hm
            have a1 := h4 y hy
            have a2 := hall (m' : Int) (List.mem_map.mpr ⟨m', List.mem_of_getElem? h3, rfl⟩)
            omega
          subst em
          exact k _ q (Same.laid' (s1.free hq) s1) (s1.free hq) upd_same
theorem sc_narrowest : FnScope ["river", "leap", "sums", "borne"] ["river", "leap"] (defScope sNarrowest) := ⟨rfl, rfl, rfl, by decide +kernel, rfl, by decide +kernel, by decide +kernel⟩
theorem ok_narrowest {f C : Addr} {fd : FuncData} (F : Fun K "narrowest" "narrowest" sNarrowest f fd) (T : Cl K C) (DL : Def P w K mg base 1 "leap_fits" ["leap"] spLeapFits) (DS : Def P w K mg base 1 "stretch_sums" ["bears", "leap"] (spSums K))
    (g1 : Gi mg "DOES_NOT_FIT" (-1)) (g8 : Gi mg "NO_STRETCH" (-8)) (gl : mg "len" = none) (gm : mg "min" = none) : FnOk P w K mg base CX0 2 f fd ["river", "leap"] (spNarrowest C) := by
  refine F.ok sc_narrowest (fun vs H Q E h => ?_) (fun cdv A outer s H vs Q E hr h => ?_)
  · obtain ⟨r, l, bs, n, rfl, _⟩ := h
    rfl
  · obtain ⟨r, l, bs, n, rfl, ⟨⟨dx, fs, hR, hf⟩, hS⟩, hb, hn, k⟩ := h
    refine ⟨_, pss_cons (ps_if (pt_not (pt_val (pe_def DL hr (by rfl) (pa_cons (pv 1) pa_nil)))) (pss_one (ps_ret (pe_lst (pa_cons (pe_gi rfl g1) pa_nil)))) pss_nil)
      (pss_cons (ps_set (i := 2) sc_narrowest.nd rfl (Or.inl rfl) (pe_def DS hr (by rfl) (pa_cons (pe_fld (pv 0) rfl) (pa_cons (pv 1) pa_nil))))
      (pss_cons (ps_if (pt_cmpR op_eq (pe_callB call_len_seq (by rfl) gl PySem.boot_len (pa_cons (pv 2) pa_nil)) pe_int (nomark _)) (pss_one (ps_ret (pe_lst (pa_cons (pe_gi rfl g8) pa_nil)))) pss_nil)
      (pss_cons (ps_set (i := 3) sc_narrowest.nd rfl (Or.inl rfl) (pe_callB (cr_min rfl) (by rfl) gm PyProof.Rows.boot_min (pa_cons (pv 2) pa_nil)))
      (pss_one (ps_ret (pe_lst (pa_cons (pv 3) (pa_cons (pe_op op_add (pe_bm PySem.F.plainAttrs_list PySem.F.slot_list_index PySem.F.type_list_index mt_index (pv 2) (pa_cons (pv 3) pa_nil)) pe_int) pa_nil)))))))), ?_⟩
    refine ⟨_, rfl, n, rfl, _, rfl, ite_not (fun h1 => ?_) (fun h1 => ?_)⟩
    · refine ⟨line1, fun p hp => k _ p (Same.laid hp) hp ?_⟩
      unfold narrowestA
      rw [if_pos h1]
      exact upd_same
    · have ea : narrowestA bs n = match Mu48.narrowest bs n with
          | none => [-8]
          | some x => Mu48.nums [x.1, x.2] := by
        unfold narrowestA
        rw [if_neg (by rw [h1]; decide)]
      rw [ea] at k
      refine ⟨_, rfl, r, C, dx, fs, _, rfl, hR, T.cl, T.nB, hf, _, rfl, l, bs, n, rfl, SqL.of hS, hb, hn, fun H1 p s1 hp h1 => ?_⟩
      refine ⟨_, rfl, p, _, rfl, .inl (SqL.of h1), rfl, _, rfl, ?_⟩
      rw [nv_length]
      refine ite_zero (fun z => ?_) (fun z => ?_)
      · have e0 : sumsOf bs n = [] := List.eq_nil_of_length_eq_zero z
        refine ⟨line1, fun q hq => ?_⟩
        rcases narrowest_sums bs n with ⟨_, h⟩ | ⟨m, j, _, h2, _⟩
        · rw [h] at k
          exact k _ q (Same.laid' (s1.free hq) s1) (s1.free hq) upd_same
        · rw [e0] at h2
          cases h2
      · refine ⟨_, rfl, p, ((sumsOf bs n).map (fun (n : Nat) => (n : Int))), rfl, SqL.of (by rw [h1, nv_ints]), (by rw [List.length_map]; omega), fun m hm hall => ?_⟩
        rcases narrowest_sums bs n with ⟨h, _⟩ | ⟨m', j, h2, h3, h4, h5⟩
        · rw [h] at z
          exact absurd rfl z
        · rw [h2] at k
          have em : m = (m' : Int) := by
            obtain ⟨y, hy, rfl⟩ := List.mem_map.mp hm
            have a1 := h4 y hy
            have a2 := hall (m' : Int) (List.mem_map.mpr ⟨m', List.mem_of_getElem? h3, rfl⟩)
            omega
          subst em
          refine ⟨_, rfl, _, rfl, .inl ⟨rfl, _, SqL.of h1⟩, _, rfl, p, _, _, j, _, rfl, rfl, SqL.of h1, rfl, nv_flat _, nv_at h3, eqV_self _, fun i z hi hz => ?_, _, _, rfl, rfl, line2, fun q hq => ?_⟩
          · obtain ⟨y, hy, rfl⟩ := nv_of_at hz
            exact eqV_ne (by have := h5 i y hi hy; omega)
          · exact k _ q (Same.laid' (s1.free hq) s1) (s1.free hq) upd_same
end
end Rv

set_option Elab.async false
set_option linter.all false
namespace Rv
/-! ### the fewest steps -/
def fs (bs : List Nat) (here n : Nat) : Option Nat := ((List.range n).map fun (d : Nat) => here + n - d).find? fun (x : Nat) => decide (here < x) && Mu48.bears bs x != 0
theorem fs_at {bs : List Nat} {here n d : Nat} (hd : d < n) (h0 : ∀ d', d' < d → Mu48.bears bs (here + n - d') = 0) (h1 : Mu48.bears bs (here + n - d) ≠ 0) : fs bs here n = some (here + n - d) := by
  unfold fs
  refine List.find?_eq_some_iff_getElem.mpr ⟨?_, d, by rw [List.length_map, List.length_range]; exact hd, ?_, fun j hj => ?_⟩
  · rw [decide_eq_true (show here < here + n - d by omega), Bool.true_and]
    exact bne_iff_ne.mpr h1
  · rw [List.getElem_map, List.getElem_range]
  · rw [List.getElem_map, List.getElem_range, h0 j hj]
    simp
theorem fs_some {bs : List Nat} {here n x : Nat} (h : fs bs here n = some x) : ∃ d, d < n ∧ x = here + n - d ∧ here < x ∧ Mu48.bears bs x ≠ 0 := by
  unfold fs at h
  have h1 := List.find?_some h
  have h2 := List.mem_of_find?_eq_some h
  obtain ⟨d, hd, rfl⟩ := List.mem_map.mp h2
  rw [Bool.and_eq_true] at h1
  exact ⟨d, List.mem_range.mp hd, rfl, of_decide_eq_true h1.1, bne_iff_ne.mp h1.2⟩
theorem fs_first {bs : List Nat} {here n : Nat} : ∀ (d : Nat), d ≤ n → (∀ d', d' < d → Mu48.bears bs (here + n - d') = 0) → ∀ e, e < n → Mu48.bears bs (here + n - e) ≠ 0 → d ≤ e := fun d _ h0 e _ he => by
  rcases Nat.lt_or_ge e d with z | z
  · exact absurd (h0 e z) he
  · exact z
theorem bears_at (bs : List Nat) (i : Nat) : Mu48.bears bs (i + 1) = bs.getD i 0 := by
  unfold Mu48.bears
  rw [if_neg (Nat.succ_ne_zero i)]
  rfl
theorem total_zero : ∀ {l : List Nat}, Mu48.total l = 0 → ∀ (i : Nat), l.getD i 0 = 0
  | [], _, i => by simp
  | a :: l, h, i => by
    rw [total_cons] at h
    cases i with
    | zero =>
      show a = 0
      omega
    | succ i => exact total_zero (l := l) (by omega) i
theorem total_pos : ∀ {l : List Nat}, 1 ≤ Mu48.total l → ∃ i, i < l.length ∧ l.getD i 0 ≠ 0
  | [], h => by
    rw [total_nil] at h
    omega
  | a :: l, h => by
    rw [total_cons] at h
    by_cases ha : a = 0
    · obtain ⟨i, hi, hn⟩ := total_pos (l := l) (by omega)
      exact ⟨i + 1, Nat.succ_lt_succ hi, hn⟩
    · exact ⟨0, Nat.succ_pos _, ha⟩
theorem getD_cut (bs : List Nat) (a n i : Nat) (h : i < n) : ((bs.drop a).take n).getD i 0 = bs.getD (a + i) 0 := by
  rw [List.getD_eq_getElem?_getD, List.getD_eq_getElem?_getD, List.getElem?_take_of_lt h, List.getElem?_drop]
theorem fs_there {bs : List Nat} {here n : Nat} (h : 1 ≤ Mu48.total ((bs.drop here).take n)) : ∃ x, fs bs here n = some x := by
  obtain ⟨i, hi, hn⟩ := total_pos h
  have hin : i < n := by
    rw [List.length_take] at hi
    omega
  rw [getD_cut bs here n i hin] at hn
  cases e : fs bs here n with
  | some x => exact ⟨x, rfl⟩
  | none =>
    unfold fs at e
    have h1 := List.find?_eq_none.mp e (here + i + 1) (List.mem_map.mpr ⟨n - 1 - i, List.mem_range.mpr (by omega), by omega⟩)
    rw [bears_at, decide_eq_true (show here < here + i + 1 by omega), Bool.true_and] at h1
    exact absurd (bne_iff_ne.mpr hn) h1
theorem can_one {bs : List Nat} {n i : Nat} (h : Mu48.can bs n 1 = true) (hi : i < Mu48.bank bs - n) : 1 ≤ Mu48.total ((bs.drop i).take n) := by
  rw [can_sums] at h
  exact of_decide_eq_true (List.all_eq_true.mp h _ (List.mem_of_getElem? (sumsOf_at hi)))
theorem cannot_one {bs : List Nat} {n : Nat} (h : Mu48.can bs n 1 = false) : ∃ i, i < Mu48.bank bs - n ∧ Mu48.total ((bs.drop i).take n) = 0 := by
  rw [can_sums] at h
  obtain ⟨y, hy, hz⟩ := List.all_eq_false.mp h
  obtain ⟨i, hi⟩ := List.getElem?_of_mem hy
  have hl : i < Mu48.bank bs - n := by
    rw [← sumsOf_length]
    exact (List.getElem?_eq_some_iff.mp hi).1
  rw [sumsOf_at hl] at hi
  refine ⟨i, hl, ?_⟩
  have e := Option.some.inj hi
  have z : ¬ 1 ≤ y := fun q => hz (decide_eq_true q)
  omega
theorem walk_end (bs : List Nat) (n f here : Nat) (h : Mu48.bank bs ≤ here + n) : Mu48.walk bs n f here = some [] := by
  cases f with
  | zero => exact if_pos h
  | succ f => exact if_pos h
theorem walk_go {bs : List Nat} {n f here x : Nat} (h : ¬ Mu48.bank bs ≤ here + n) (hx : fs bs here n = some x) : Mu48.walk bs n (f + 1) here = (Mu48.walk bs n f x).map fun p => x :: p := by
  unfold fs at hx
  show (if Mu48.bank bs ≤ here + n then some [] else _) = _
  rw [if_neg h, hx]
theorem walk_none {bs : List Nat} {n i : Nat} (hi : i < Mu48.bank bs - n) (hz : Mu48.total ((bs.drop i).take n) = 0) : ∀ (f here : Nat), here ≤ i → Mu48.walk bs n f here = none
  | 0, here, h => if_neg (by omega)
  | f + 1, here, h => by
    have hb : ¬ Mu48.bank bs ≤ here + n := by omega
    cases e : fs bs here n with
    | none =>
      unfold fs at e
      show (if Mu48.bank bs ≤ here + n then some [] else _) = _
      rw [if_neg hb, e]
    | some x =>
      rw [walk_go hb e]
      obtain ⟨d, hd, ex, hx, hn⟩ := fs_some e
      have hxi : x ≤ i := by
        rcases Nat.lt_or_ge i x with z | z
        · have q := total_zero hz (x - 1 - i)
          rw [getD_cut bs i n _ (by omega)] at q
          have q2 := bears_at bs (x - 1)
          rw [show x - 1 + 1 = x by omega] at q2
          rw [show i + (x - 1 - i) = x - 1 by omega, ← q2] at q
          exact absurd q hn
        · exact z
      rw [walk_none hi hz f x hxi]
      rfl
theorem fewest_none {bs : List Nat} {n : Nat} (h : Mu48.can bs n 1 = false) : Mu48.fewest bs n = none := by
  obtain ⟨i, hi, hz⟩ := cannot_one h
  exact walk_none hi hz _ 0 (Nat.zero_le _)
end Rv

set_option Elab.async false
set_option linter.all false
set_option maxRecDepth 100000
set_option maxHeartbeats 2000000
namespace Rv
open PySem PySem.Spec PyProof.Rows L2
abbrev sFarthest : Stmt := top 30
abbrev sFewest : Stmt := top 31
theorem getD_some {bs : List Nat} {i : Nat} (h : i < bs.length) : bs[i]? = some (bs.getD i 0) := by
  rw [List.getD_eq_getElem?_getD, List.getElem?_eq_getElem h]
  rfl
/-- the value at a place, as the program reads it -/
theorem at_place {bs : List Nat} {x : Nat} {z : Int} (h1 : 1 ≤ x) (h2 : x < Mu48.bank bs) (hz : z = (x : Int) - 1) : atI (nv bs) z = some (V.int (Mu48.bears bs x : Nat)) := by
  obtain ⟨y, rfl⟩ : ∃ y, x = y + 1 := ⟨x - 1, by omega⟩
  rw [bears_at]
  refine at_of (j := y) (by omega) (nv_at (getD_some ?_))
  unfold Mu48.bank at h2
  omega
def spFarthest (K : PySem.W.Frag) : Sp := fun vs H Q _ => ∃ (a : Addr) (bs : List Nat) (here n x : Nat), vs = [.ref a, .int here, .int n] ∧ SqL K H a (nv bs) ∧ here + n < Mu48.bank bs ∧ fs bs here n = some x ∧ Q (.int x) H
def fewestA (bs : List Nat) (n : Nat) : List Int := if Mu48.isLeap n = false then [-1] else match Mu48.fewest bs n with
    | none => [-6]
    | some p => Mu48.nums (p.length :: p)
def spFewest (C : Addr) : Sp := fun vs H Q _ => ∃ (r l : Addr) (bs : List Nat) (n : Nat), vs = [.ref r, .int n] ∧ RvAt C H r l bs ∧ bs.length ≤ 1000 ∧ n ≤ 1000 ∧ Fresh H Q (fewestA bs n)
section
variable {P : Program} {w : World} {K : PySem.W.Frag} {mg : Str → Option Value} {base : Heap}
theorem sc_farthest : FnScope ["bears", "stand", "leap", "place"] ["bears", "stand", "leap"] (defScope sFarthest) := ⟨rfl, rfl, rfl, by decide +kernel, rfl, by decide +kernel, by decide +kernel⟩
theorem ok_farthest {f : Addr} {fd : FuncData} (F : Fun K "farthest_stone" "farthest_stone" sFarthest f fd) : FnOk P w K mg base CX0 1 f fd ["bears", "stand", "leap"] (spFarthest K) := by
  refine F.ok sc_farthest (fun vs H Q E h => ?_) (fun cdv A outer s H vs Q E hr h => ?_)
  · obtain ⟨a, bs, here, n, x, rfl, _⟩ := h
    rfl
  · obtain ⟨a, bs, here, n, x, rfl, hS, hb, hx, k⟩ := h
    refine ⟨_, pss_cons (ps_set (i := 3) sc_farthest.nd rfl (Or.inl rfl) (pe_op op_add (pv 1) (pv 2)))
      (pss_cons (ps_while PassesOwn.never (pt_cmpR op_eq (pe_ix ix_list (pv 0) (pe_op op_sub (pv 3) pe_int) (fun _ _ => rfl)) pe_int (nomark _)) (pss_one (ps_set (i := 3) sc_farthest.nd rfl (Or.inl rfl) (pe_op op_sub (pv 3) pe_int))))
      (pss_one (ps_ret (pv 3)))), ?_⟩
    obtain ⟨dx, hdx, ex, hxh, hxn⟩ := fs_some hx
    refine ⟨_, rfl, _, rfl, _, _, rfl, rfl, ?_⟩
    refine ⟨fun m σ H' => H' = H ∧ ∃ d, m = n - d ∧ d < n ∧ σ = [some (.ref a), some (.int here), some (.int n), some (.int ((here + n - d : Nat) : Int))] ∧ ∀ d', d' < d → Mu48.bears bs (here + n - d') = 0, ⟨n, rfl, 0, rfl, by omega, ?_, fun d' z => absurd z (Nat.not_lt_zero _)⟩, ?_⟩
    · show [some (V.ref a), some (V.int here), some (V.int n), some (V.int ((here : Int) + (n : Int)))] = _
      rw [show ((here + n - 0 : Nat) : Int) = (here : Int) + (n : Int) by omega]
    · rintro m σ H' ⟨rfl, d, rfl, hd, rfl, h0⟩
      have hle : d ≤ dx := fs_first d (Nat.le_of_lt hd) h0 dx hdx (by rw [← ex]; exact hxn)
      refine ⟨_, rfl, _, rfl, _, _, rfl, rfl, a, _, _, _, rfl, rfl, hS, at_place (x := here + n - d) (by omega) (by omega) rfl, rfl, _, rfl, ?_⟩
      refine ite_zero (fun z => ?_) (fun z => ?_)
      · have hne : d ≠ dx := fun q => hxn (by rw [ex, ← q]; exact z)
        refine ⟨fun σ' H'' => H'' = H' ∧ σ' = [some (.ref a), some (.int here), some (.int n), some (.int ((here + n - (d + 1) : Nat) : Int))], ?_, ?_⟩
        · rintro σ' H'' ⟨rfl, rfl⟩
          refine ⟨n - (d + 1), by omega, rfl, d + 1, rfl, by omega, rfl, fun d' hd' => ?_⟩
          rcases Nat.lt_or_ge d' d with q | q
          · exact h0 d' q
          · rw [show d' = d by omega]
            exact z
        · refine ⟨_, rfl, _, _, rfl, rfl, rfl, ?_⟩
          show [some (V.ref a), some (V.int here), some (V.int n), some (V.int (((here + n - d : Nat) : Int) - 1))] = _
          rw [show ((here + n - d : Nat) : Int) - 1 = ((here + n - (d + 1) : Nat) : Int) by omega]
      · have e := fs_at hd h0 z
        rw [hx] at e
        have e' := Option.some.inj e
        refine ⟨_, rfl, ?_⟩
        rw [← e']
        exact k
theorem sc_fewest : FnScope ["river", "leap", "path", "stand"] ["river", "leap"] (defScope sFewest) := ⟨rfl, rfl, rfl, by decide +kernel, rfl, by decide +kernel, by decide +kernel⟩
theorem ok_fewest {f C : Addr} {fd : FuncData} (F : Fun K "fewest" "fewest" sFewest f fd) (T : Cl K C) (DL : Def P w K mg base 1 "leap_fits" ["leap"] spLeapFits) (DC : Def P w K mg base 2 "can_get_over" ["bears", "leap", "people"] (spCan K))
    (DF : Def P w K mg base 1 "farthest_stone" ["bears", "stand", "leap"] (spFarthest K)) (DB : Def P w K mg base 1 "far_bank" ["bears"] (spFarBank K))
    (g1 : Gi mg "DOES_NOT_FIT" (-1)) (g6 : Gi mg "BEARS_TOO_LITTLE" (-6)) (gl : mg "len" = none) : FnOk P w K mg base CX0 3 f fd ["river", "leap"] (spFewest C) := by
  refine F.ok sc_fewest (fun vs H Q E h => ?_) (fun cdv A outer s H vs Q E hr h => ?_)
  · obtain ⟨r, l, bs, n, rfl, _⟩ := h
    rfl
  · obtain ⟨r, l, bs, n, rfl, hRv, hb, hn, k⟩ := h
    have hr1 : Room 1 _ := hr.mono (by decide)
    refine ⟨_, pss_cons (ps_if (pt_not (pt_val (pe_def DL hr1 (by rfl) (pa_cons (pv 1) pa_nil)))) (pss_one (ps_ret (pe_lst (pa_cons (pe_gi rfl g1) pa_nil)))) pss_nil)
      (pss_cons (ps_if (pt_not (pt_val (pe_def DC hr (by rfl) (pa_cons (pe_fld (pv 0) rfl) (pa_cons (pv 1) (pa_cons pe_int pa_nil)))))) (pss_one (ps_ret (pe_lst (pa_cons (pe_gi rfl g6) pa_nil)))) pss_nil)
      (pss_cons (ps_set (i := 2) sc_fewest.nd rfl (Or.inl rfl) (pe_lst pa_nil))
      (pss_cons (ps_set (i := 3) sc_fewest.nd rfl (Or.inl rfl) pe_int)
      (pss_cons (ps_while PassesOwn.never (pt_cmpR op_lt (pe_op op_add (pv 3) (pv 1)) (pe_def DB hr1 (by rfl) (pa_cons (pe_fld (pv 0) rfl) pa_nil)) (nomark _))
        (pss_cons (ps_set (i := 3) sc_fewest.nd rfl (Or.inl rfl) (pe_def DF hr1 (by rfl) (pa_cons (pe_fld (pv 0) rfl) (pa_cons (pv 3) (pa_cons (pv 1) pa_nil)))))
        (pss_one (ps_expr (pe_bm PySem.F.plainAttrs_list PySem.F.slot_list_append PySem.F.type_list_append mt_append (pv 2) (pa_cons (pv 3) pa_nil))))))
      (pss_one (ps_ret (pe_op op_cat (pe_lst (pa_cons (pe_callB call_len_seq (by rfl) gl PySem.boot_len (pa_cons (pv 2) pa_nil)) pa_nil)) (pv 2)))))))), ?_⟩
    refine ⟨_, rfl, n, rfl, _, rfl, ite_not (fun h1 => ?_) (fun h1 => ?_)⟩
    · refine ⟨line1, fun p hp => k _ p (Same.laid hp) hp ?_⟩
      unfold fewestA
      rw [if_pos h1]
      exact upd_same
    · have ea : fewestA bs n = match Mu48.fewest bs n with
          | none => [-6]
          | some p => Mu48.nums (p.length :: p) := by
        unfold fewestA
        rw [if_neg (by rw [h1]; decide)]
      rw [ea] at k
      have hn1 : 1 ≤ n := by
        unfold Mu48.isLeap at h1
        rw [Bool.and_eq_true] at h1
        exact of_decide_eq_true h1.1
      obtain ⟨⟨dx, fs', hR, hf⟩, hS⟩ := hRv
      refine ⟨_, rfl, r, C, dx, fs', _, rfl, hR, T.cl, T.nB, hf, _, rfl, l, bs, n, 1, rfl, SqL.of hS, hb, hn, fun H1 s1 => ?_⟩
      refine ⟨_, rfl, ite_not (fun h2 => ?_) (fun h2 => ?_)⟩
      · rw [fewest_none h2] at k
        exact ⟨line1, fun q hq => k _ q (Same.laid' (s1.free hq) s1) (s1.free hq) upd_same⟩
      · refine ⟨Nat.zero_le _, fun q hq => ?_⟩
        have hq0 : H q = none := s1.free hq
        refine ⟨fun m σ H' => ∃ (pre : List Nat) (here fuel : Nat), m = Mu48.bank bs - here ∧ σ = [some (.ref r), some (.int n), some (.ref q), some (.int here)] ∧ Same H H' ∧ H' q = some (.lst (nv pre)) ∧ pre.length ≤ here ∧ here < Mu48.bank bs ∧ Mu48.bank bs ≤ fuel + here ∧ Mu48.fewest bs n = (Mu48.walk bs n fuel here).map (fun p => pre ++ p),
          ⟨Mu48.bank bs, [], 0, Mu48.bank bs, rfl, rfl, Same.laid' hq0 s1, upd_same, Nat.zero_le _, Nat.succ_pos _, Nat.le_refl _, ?_⟩, ?_⟩
        · show Mu48.walk bs n (Mu48.bank bs) 0 = _
          cases Mu48.walk bs n (Mu48.bank bs) 0 <;> rfl
        · rintro m σ H' ⟨pre, here, fuel, rfl, rfl, s2, hq2, hp, hh, hfu, hw⟩
          have hR2 := s2 _ _ hR
          have hS2 := s2 _ _ hS
          refine ⟨_, rfl, _, rfl, _, _, rfl, rfl, _, rfl, r, C, dx, fs', _, rfl, hR2, T.cl, T.nB, hf, l, bs, rfl, SqL.of hS2, _, _, rfl, rfl, _, rfl, ite2 (fun h3 => ?_) (fun h3 => ?_)⟩
          · have h3 : (here : Int) + (n : Int) < (Mu48.bank bs : Nat) := of_decide_eq_true h3
            have hlt : here + n < Mu48.bank bs := by omega
            obtain ⟨x, hx⟩ := fs_there (can_one h2 (show here < Mu48.bank bs - n by omega))
            obtain ⟨d, hd, ex, hxh, _⟩ := fs_some hx
            obtain ⟨fu, rfl⟩ : ∃ fu, fuel = fu + 1 := ⟨fuel - 1, by omega⟩
            refine ⟨fun σ' H'' => ∃ m', m' < Mu48.bank bs - here ∧ _, fun σ' H'' z => z, ?_⟩
            refine ⟨_, rfl, r, C, dx, fs', _, rfl, hR2, T.cl, T.nB, hf, _, rfl, _, rfl, l, bs, here, n, x, rfl, SqL.of hS2, hlt, hx, ?_⟩
            refine ⟨_, rfl, .inl ⟨rfl, _, SqL.of hq2⟩, _, rfl, q, _, _, rfl, rfl, hq2, ?_, ?_⟩
            · rw [nv_length]
              refine small1000' ?_
              unfold Mu48.bank at hh
              omega
            · refine ⟨Mu48.bank bs - x, by omega, pre ++ [x], x, fu, rfl, rfl, Same.laid' hq0 s2, ?_, ?_, by omega, by omega, ?_⟩
              · rw [upd_same, nv_snoc _ _ rfl]
              · rw [List.length_append]
                show pre.length + 1 ≤ x
                omega
              · rw [hw, walk_go (by omega) hx]
                cases Mu48.walk bs n fu x with
                | none => rfl
                | some p =>
                  show some (pre ++ x :: p) = some (pre ++ [x] ++ p)
                  rw [List.append_assoc]
                  rfl
          · have h3 : ¬ (here : Int) + (n : Int) < (Mu48.bank bs : Nat) := fun z => h3 (decide_eq_true z)
            rw [walk_end bs n fuel here (by omega)] at hw
            have hw : Mu48.fewest bs n = some pre := by
              rw [hw]
              show some (pre ++ []) = _
              rw [List.append_nil]
            rw [hw] at k
            refine ⟨_, rfl, q, _, rfl, .inl (SqL.of hq2), line1, fun p hp2 => ?_⟩
            have hpq : q ≠ p := ne_of_none hq2 hp2
            refine ⟨_, rfl, p, q, _, _, rfl, rfl, upd_same, Eq.trans (upd_ne hpq) hq2, ?_, fun t ht => ?_⟩
            · rw [nv_length]
              refine Nat.le_of_lt (small1000' ?_)
              unfold Mu48.bank at hh
              show 1 + pre.length ≤ _
              omega
            · have hp0 : H p = none := s2.free hp2
              have ht1 : H' t = none := by
                rw [upd_ne (fun z => by rw [z, upd_same] at ht; cases ht)] at ht
                exact ht
              refine k _ t (Same.laid' (s2.free ht1) (Same.laid' hp0 s2)) (s2.free ht1) ?_
              rw [upd_same, nv_length]
              show some (HO.lst ([V.int (pre.length : Nat)] ++ nv pre)) = some (HO.lst (iv (Mu48.nums (pre.length :: pre))))
              unfold iv Mu48.nums nv
              rw [List.map_map]
              rfl
end
end Rv

set_option Elab.async false
set_option linter.all false
namespace Rv
/-! ### the plan -/
def stepsTo (bs : List Nat) (k i : Nat) : List Nat := (List.range i).flatMap fun (j : Nat) => List.replicate (min (bs.getD j 0) k) (j + 1)
theorem steps_to (bs : List Nat) (k : Nat) : Mu48.steps bs k = stepsTo bs k bs.length := rfl
theorem stepsTo_succ (bs : List Nat) (k i : Nat) : stepsTo bs k (i + 1) = stepsTo bs k i ++ List.replicate (min (bs.getD i 0) k) (i + 1) := by
  unfold stepsTo
  rw [List.range_succ, List.flatMap_append]
  congr 1
  rw [List.flatMap_cons, List.flatMap_nil, List.append_nil]
theorem stepsTo_length (bs : List Nat) (k : Nat) : ∀ i, (stepsTo bs k i).length ≤ i * k
  | 0 => by rw [Nat.zero_mul]; exact Nat.le_refl 0
  | i + 1 => by
    rw [stepsTo_succ, List.length_append, List.length_replicate, Nat.succ_mul]
    have := stepsTo_length bs k i
    omega
theorem stepsTo_mem {bs : List Nat} {k i x : Nat} (h : x ∈ stepsTo bs k i) : 1 ≤ x ∧ x ≤ i := by
  unfold stepsTo at h
  obtain ⟨j, hj, hx⟩ := List.mem_flatMap.mp h
  have := List.eq_of_mem_replicate hx
  have := List.mem_range.mp hj
  omega
theorem mod_succ (m k : Nat) (hk : 1 ≤ k) : (m + 1) % k = if m % k = k - 1 then 0 else m % k + 1 := by
  have h1 : (m + 1) % k = (m % k + 1) % k := (Nat.mod_add_mod m k 1).symm
  have h2 := Nat.mod_lt m hk
  rw [h1]
  by_cases h : m % k = k - 1
  · rw [if_pos h, show m % k + 1 = k by omega, Nat.mod_self]
  · rw [if_neg h, Nat.mod_eq_of_lt (by omega)]
theorem every_snoc {k : Nat} (hk : 1 ≤ k) (x : Nat) : ∀ (l : List Nat) (j : Nat), j < k → Mu48.every k j (l ++ [x]) = Mu48.every k j l ++ (if l.length % k = j then [x] else [])
  | [], 0, _ => by
    show [x] = [] ++ (if 0 % k = 0 then [x] else [])
    rw [Nat.zero_mod, if_pos rfl]
    rfl
  | [], j + 1, h => by
    show [] = [] ++ (if 0 % k = j + 1 then [x] else [])
    rw [Nat.zero_mod, if_neg (by omega)]
    rfl
  | a :: l, 0, _ => by
    have ih := every_snoc hk x l (k - 1) (by omega)
    show a :: Mu48.every k (k - 1) (l ++ [x]) = (a :: Mu48.every k (k - 1) l) ++ (if (l.length + 1) % k = 0 then [x] else [])
    rw [ih, mod_succ _ k hk]
    by_cases h : l.length % k = k - 1
    · rw [if_pos h, if_pos h, if_pos rfl]
      rfl
    · rw [if_neg h, if_neg h, if_neg (by omega)]
      rfl
  | a :: l, j + 1, hj => by
    have ih := every_snoc hk x l j (by omega)
    show Mu48.every k j (l ++ [x]) = Mu48.every k j l ++ (if (l.length + 1) % k = j + 1 then [x] else [])
    rw [ih, mod_succ _ k hk]
    by_cases h : l.length % k = j
    · rw [if_pos h, if_neg (show ¬ l.length % k = k - 1 by omega), if_pos (by omega)]
    · rw [if_neg h]
      by_cases h2 : l.length % k = k - 1
      · rw [if_pos h2, if_neg (by omega)]
      · rw [if_neg h2, if_neg (by omega)]
/-- where somebody stands behind a path -/
def standOf : Nat → List Nat → Nat
  | here, [] => here
  | _, a :: l => standOf a l
theorem standOf_snoc (x : Nat) : ∀ (l : List Nat) (here : Nat), standOf here (l ++ [x]) = x
  | [], _ => rfl
  | a :: l, _ => standOf_snoc x l a
theorem short_snoc (n b x : Nat) : ∀ (l : List Nat) (here : Nat), Mu48.short n b here (l ++ [x]) = if b ≤ standOf here (Mu48.short n b here l) + n then Mu48.short n b here l else Mu48.short n b here l ++ [x]
  | [], here => rfl
  | a :: l, here => by
    show (if b ≤ here + n then [] else a :: Mu48.short n b a (l ++ [x])) = _
    by_cases h : b ≤ here + n
    · have e : Mu48.short n b here (a :: l) = [] := if_pos h
      rw [if_pos h, e]
      show [] = if b ≤ here + n then [] else [] ++ [x]
      rw [if_pos h]
    · have e : Mu48.short n b here (a :: l) = a :: Mu48.short n b a l := if_neg h
      rw [if_neg h, e, short_snoc n b x l a]
      show a :: _ = if b ≤ standOf a (Mu48.short n b a l) + n then _ else _
      by_cases h2 : b ≤ standOf a (Mu48.short n b a l) + n
      · rw [if_pos h2, if_pos h2]
      · rw [if_neg h2, if_neg h2]
        rfl
/-- the path of the j-th of k when so many steps are dealt out -/
def pathAt (bs : List Nat) (n k t j : Nat) : List Nat := Mu48.short n (Mu48.bank bs) 0 (Mu48.every k j ((Mu48.steps bs k).take t))
theorem pathAt_zero (bs : List Nat) (n k j : Nat) : pathAt bs n k 0 j = [] := by
  unfold pathAt
  rw [List.take_zero]
  cases j <;> rfl
theorem pathAt_other {bs : List Nat} {n k t j x : Nat} (hk : 1 ≤ k) (hj : j < k) (hx : (Mu48.steps bs k)[t]? = some x) (h : t % k ≠ j) : pathAt bs n k (t + 1) j = pathAt bs n k t j := by
  unfold pathAt
  have hl : ((Mu48.steps bs k).take t).length = t := by
    rw [List.length_take]
    have := (List.getElem?_eq_some_iff.mp hx).1
    omega
  rw [take_snoc hx, every_snoc hk x _ j hj, hl, if_neg h, List.append_nil]
theorem pathAt_own {bs : List Nat} {n k t x : Nat} (hk : 1 ≤ k) (hx : (Mu48.steps bs k)[t]? = some x) : pathAt bs n k (t + 1) (t % k) = if Mu48.bank bs ≤ standOf 0 (pathAt bs n k t (t % k)) + n then pathAt bs n k t (t % k) else pathAt bs n k t (t % k) ++ [x] := by
  unfold pathAt
  have hl : ((Mu48.steps bs k).take t).length = t := by
    rw [List.length_take]
    have := (List.getElem?_eq_some_iff.mp hx).1
    omega
  rw [take_snoc hx, every_snoc hk x _ _ (Nat.mod_lt t hk), hl, if_pos rfl, short_snoc]
theorem plan_at (bs : List Nat) (n k : Nat) : Mu48.plan bs n k = (List.range k).map (fun j => pathAt bs n k (Mu48.steps bs k).length j) := by
  unfold Mu48.plan pathAt
  rw [List.take_length]
theorem every_length (k : Nat) : ∀ (l : List Nat) (j : Nat), (Mu48.every k j l).length ≤ l.length
  | [], 0 => Nat.le_refl _
  | [], _ + 1 => Nat.le_refl _
  | a :: l, 0 => by
    show (Mu48.every k (k - 1) l).length + 1 ≤ l.length + 1
    have := every_length k l (k - 1)
    omega
  | a :: l, j + 1 => by
    show (Mu48.every k j l).length ≤ l.length + 1
    have := every_length k l j
    omega
theorem short_length (n b : Nat) : ∀ (l : List Nat) (here : Nat), (Mu48.short n b here l).length ≤ l.length
  | [], _ => Nat.le_refl _
  | a :: l, here => by
    by_cases h : b ≤ here + n
    · have e : Mu48.short n b here (a :: l) = [] := if_pos h
      rw [e]
      exact Nat.zero_le _
    · have e : Mu48.short n b here (a :: l) = a :: Mu48.short n b a l := if_neg h
      rw [e]
      show _ + 1 ≤ _ + 1
      have := short_length n b l a
      omega
theorem pathAt_length (bs : List Nat) (n k t j : Nat) : (pathAt bs n k t j).length ≤ bs.length * k := by
  unfold pathAt
  have h1 := short_length n (Mu48.bank bs) (Mu48.every k j ((Mu48.steps bs k).take t)) 0
  have h2 := every_length k ((Mu48.steps bs k).take t) j
  have h3 := stepsTo_length bs k bs.length
  rw [steps_to] at *
  rw [List.length_take] at h2
  omega
end Rv

set_option Elab.async false
set_option linter.all false
set_option maxRecDepth 100000
set_option maxHeartbeats 2000000
namespace Rv
open PySem PySem.Spec PyProof.Rows L2
abbrev sSteps : Stmt := top 32
abbrev sPaths : Stmt := top 33
abbrev sPlan : Stmt := top 34
theorem for_enum {K : PySem.W.Frag} {a : Addr} {xs : List V} {g : TG} {tb : TS} {D : Ends} {σ : L2.St} {H : Hp} (Pv : Nat → L2.St → Hp → Prop) (h0 : Pv 0 σ H) (hl : ∀ i σ H, i ≤ xs.length → Pv i σ H → SqL K H a xs)
    (hs : ∀ i x σ H T, xs[i]? = some x → Pv i σ H → H T = none → g (.ref T) σ (upd H T (.tup [.int (i : Nat), x])) fun σ2 H2 => tb { D with nx := Pv (i + 1), ct := Pv (i + 1), bk := D.nx } σ2 H2) (hd : ∀ σ H, Pv xs.length σ H → D.nx σ H) :
    ∃ W : Nat → Nat → L2.St → Hp → Prop, (∃ m, W 0 m σ H) ∧ ∀ i m σ H, W i m σ H →
      ((Ite K a).stop i H ∧ D.nx σ H) ∨ ((Ite K a).go i H ∧ ∃ N : L2.St → Hp → Prop, (∀ σ' H', N σ' H' → ∃ m', m' < m ∧ W (i + 1) m' σ' H') ∧ ∀ x H', (Ite K a).yld i H x H' → g x σ H' fun σ2 H2 => tb { D with nx := N, ct := N, bk := D.nx } σ2 H2) := by
  refine ⟨fun i m σ H => m = xs.length - i ∧ i ≤ xs.length ∧ Pv i σ H, ⟨xs.length, by simp, Nat.zero_le _, h0⟩, ?_⟩
  rintro i m σ H ⟨rfl, hi, p⟩
  have q := hl i σ H hi p
  by_cases hlt : i < xs.length
  · refine .inr ⟨⟨xs, xs[i], q, by simp [hlt]⟩, Pv (i + 1), fun σ' H' p' => ⟨xs.length - (i + 1), by omega, rfl, hlt, p'⟩, fun v H' y => ?_⟩
    obtain ⟨T, x, rfl, hT, rfl, hx⟩ := y
    exact hs i x σ _ T (hx xs q) p hT
  · have e : i = xs.length := by omega
    subst e
    exact .inl ⟨⟨xs, q, Nat.le_refl _⟩, hd σ H p⟩
theorem for_enum1 {K : PySem.W.Frag} {a : Addr} {xs : List V} {g : TG} {tb : TS} {D : Ends} {σ : L2.St} {H : Hp} (Pv : Nat → L2.St → Hp → Prop) (h0 : Pv 0 σ H) (hl : ∀ i σ H, i ≤ xs.length → Pv i σ H → SqL K H a xs)
    (hs : ∀ i x σ H T, xs[i]? = some x → Pv i σ H → H T = none → g (.ref T) σ (upd H T (.tup [.int ((i : Int) + 1), x])) fun σ2 H2 => tb { D with nx := Pv (i + 1), ct := Pv (i + 1), bk := D.nx } σ2 H2) (hd : ∀ σ H, Pv xs.length σ H → D.nx σ H) :
    ∃ W : Nat → Nat → L2.St → Hp → Prop, (∃ m, W 0 m σ H) ∧ ∀ i m σ H, W i m σ H →
      ((Ite1 K a).stop i H ∧ D.nx σ H) ∨ ((Ite1 K a).go i H ∧ ∃ N : L2.St → Hp → Prop, (∀ σ' H', N σ' H' → ∃ m', m' < m ∧ W (i + 1) m' σ' H') ∧ ∀ x H', (Ite1 K a).yld i H x H' → g x σ H' fun σ2 H2 => tb { D with nx := N, ct := N, bk := D.nx } σ2 H2) := by
  refine ⟨fun i m σ H => m = xs.length - i ∧ i ≤ xs.length ∧ Pv i σ H, ⟨xs.length, by simp, Nat.zero_le _, h0⟩, ?_⟩
  rintro i m σ H ⟨rfl, hi, p⟩
  have q := hl i σ H hi p
  by_cases hlt : i < xs.length
  · refine .inr ⟨⟨xs, xs[i], q, by simp [hlt]⟩, Pv (i + 1), fun σ' H' p' => ⟨xs.length - (i + 1), by omega, rfl, hlt, p'⟩, fun v H' y => ?_⟩
    obtain ⟨T, x, rfl, hT, rfl, hx⟩ := y
    exact hs i x σ _ T (hx xs q) p hT
  · have e : i = xs.length := by omega
    subst e
    exact .inl ⟨⟨xs, q, Nat.le_refl _⟩, hd σ H p⟩
theorem none_of_upd {H : Hp} {a b : Addr} {o : HO} (h : upd H a o b = none) : H b = none ∧ b ≠ a := by
  by_cases e : b = a
  · subst e
    rw [upd_same] at h
    cases h
  · rw [upd_ne e] at h
    exact ⟨h, e⟩
theorem nv_append (l m : List Nat) : nv l ++ nv m = nv (l ++ m) := by
  unfold nv
  rw [List.map_append]
theorem nv_nums (l : List Nat) : iv (Mu48.nums l) = nv l := by
  unfold iv Mu48.nums nv
  rw [List.map_map]
  rfl
theorem rep_nv (m x : Nat) {z y : Int} (hz : z = (m : Int)) (hy : y = (x : Int)) : (List.replicate z.toNat [V.int y]).flatten = nv (List.replicate m x) := by
  subst hz hy
  rw [Int.toNat_natCast, List.flatten_replicate_singleton]
  unfold nv
  rw [List.map_replicate]
theorem min_int (b k : Nat) : (if (k : Int) < (b : Int) then (k : Int) else (b : Int)) = ((min b k : Nat) : Int) := by
  by_cases h : k < b
  · rw [if_pos (by omega)]
    omega
  · rw [if_neg (by omega)]
    omega
def spSteps (K : PySem.W.Frag) : Sp := fun vs H Q _ => ∃ (a : Addr) (bs : List Nat) (k : Nat), vs = [.ref a, .int k] ∧ SqL K H a (nv bs) ∧ bs.length ≤ 1000 ∧ k ≤ 50 ∧
  ∀ (H' : Hp) (p : Addr), Same H H' → H p = none → H' p = some (.lst (nv (Mu48.steps bs k))) → Q (.ref p) H'
section
variable {P : Program} {w : World} {K : PySem.W.Frag} {mg : Str → Option Value} {base : Heap}
theorem sc_steps : FnScope ["bears", "people", "places", "place", "borne"] ["bears", "people"] (defScope sSteps) := ⟨rfl, rfl, rfl, by decide +kernel, rfl, by decide +kernel, by decide +kernel⟩
theorem ok_steps {f : Addr} {fd : FuncData} (F : Fun K "steps_in_a_row" "steps_in_a_row" sSteps f fd) (ge : mg "enumerate" = none) (gm : mg "min" = none) : FnOk P w K mg base CX0 1 f fd ["bears", "people"] (spSteps K) := by
  refine F.ok sc_steps (fun vs H Q E h => ?_) (fun cdv A outer s H vs Q E hr h => ?_)
  · obtain ⟨a, bs, k, rfl, _⟩ := h
    rfl
  · obtain ⟨a, bs, k, rfl, hS, hb, hk, kk⟩ := h
    refine ⟨_, pss_cons (ps_set (i := 2) sc_steps.nd rfl (Or.inl rfl) (pe_lst pa_nil))
      (pss_cons (ps_for PassesOwn.never rfl (pi_enum1 rfl ge (pa_cons (pv 0) pa_nil)) (pg_tup rfl (pgs_cons (pg_name (i := 3) sc_steps.nd rfl (Or.inl rfl)) (pgs_cons (pg_name (i := 4) sc_steps.nd rfl (Or.inl rfl)) pgs_nil)))
        (pss_one (ps_expr (pe_bm PySem.F.plainAttrs_list PySem.F.slot_list_extend PySem.F.type_list_extend mt_extend (pv 2) (pa_cons (pe_op op_rep (pe_lst (pa_cons (pv 3) pa_nil)) (pe_callB (call_min2 rfl) (by rfl) gm PyProof.Rows.boot_min (pa_cons (pv 4) (pa_cons (pv 1) pa_nil)))) pa_nil)))))
      (pss_one (ps_ret (pv 2)))), ?_⟩
    refine ⟨Nat.zero_le _, fun q hq => ?_⟩
    refine ⟨_, rfl, a, _, rfl, (Same.laid hq).seq hS, ?_⟩
    refine for_enum1 (K := K) (a := a) (xs := nv bs) (fun i σ H' => ∃ v3 v4 : Option V, σ = [some (.ref a), some (.int k), some (.ref q), v3, v4] ∧ Same H H' ∧ H' q = some (.lst (nv (stepsTo bs k i))))
      ⟨none, none, rfl, Same.laid hq, upd_same⟩ (fun i σ H' _ ⟨_, _, _, s1, _⟩ => s1.seq hS) ?_ ?_
    · rintro i x σ H' T hx ⟨v3, v4, rfl, s1, hq1⟩ hT
      obtain ⟨b, hb1, rfl⟩ := nv_of_at hx
      have hTq : q ≠ T := ne_of_none hq1 hT
      have hi : i < bs.length := (List.getElem?_eq_some_iff.mp hb1).1
      have hbd : bs.getD i 0 = b := by rw [List.getD_eq_getElem?_getD, hb1]; rfl
      have hlen := stepsTo_length bs k i
      have hmul : i * k ≤ 1000 * 50 := Nat.mul_le_mul (by omega) hk
      refine ⟨T, _, rfl, SqT.of upd_same, rfl, _, _, rfl, _, _, rfl, rfl, ?_⟩
      refine ⟨_, rfl, .inl ⟨rfl, _, SqL.of (Eq.trans (upd_ne hTq) hq1)⟩, _, rfl, line1, fun p hp => ?_⟩
      obtain ⟨hp1, hpT⟩ := none_of_upd hp
      have hpq : q ≠ p := ne_of_none hq1 hp1
      refine ⟨_, rfl, _, rfl, _, _, rfl, ?_⟩
      rw [min_int]
      refine ⟨p, _, _, rfl, rfl, upd_same, by omega, by omega, ?_, fun t ht => ?_⟩
      · rw [Int.toNat_natCast]
        refine Nat.le_of_lt (small1000' ?_)
        show 1 * _ ≤ _
        omega
      · obtain ⟨ht1, htp⟩ := none_of_upd ht
        obtain ⟨ht2, htT⟩ := none_of_upd ht1
        have htq : q ≠ t := ne_of_none hq1 ht2
        rw [rep_nv (min b k) (i + 1) rfl (by omega)]
        refine ⟨q, t, _, _, rfl, rfl, Eq.trans (upd_ne htq) (Eq.trans (upd_ne hpq) (Eq.trans (upd_ne hTq) hq1)), upd_same, ?_, ?_⟩
        · rw [nv_length, nv_length, List.length_replicate]
          refine Nat.le_of_lt (small1000' ?_)
          omega
        · refine ⟨_, _, rfl, Same.laid' hq (Same.laid' (s1.free ht2) (Same.laid' (s1.free hp1) (Same.laid' (s1.free hT) s1))), ?_⟩
          rw [upd_same, nv_append, stepsTo_succ, hbd]
    · rintro σ H' ⟨v3, v4, rfl, s1, hq1⟩
      rw [nv_length, ← steps_to] at hq1
      exact ⟨_, rfl, kk H' q s1 hq hq1⟩
end
end Rv

set_option Elab.async false
set_option linter.all false
set_option maxRecDepth 100000
set_option maxHeartbeats 2000000
namespace Rv
open PySem PySem.Spec PyProof.Rows L2
/-- a list of lists of places stands at p -/
def PathsAt (H0 H : Hp) (p : Addr) (ps : List (List Nat)) : Prop := ∃ as : List Addr, H p = some (.lst (as.map V.ref)) ∧ as.length = ps.length ∧ (∀ c ∈ as, H0 c = none ∧ c ≠ p) ∧ ∀ (j : Nat) (c : Addr) (q : List Nat), as[j]? = some c → ps[j]? = some q → H c = some (.lst (nv q))
def spPaths (K : PySem.W.Frag) : Sp := fun vs H Q _ => ∃ (a : Addr) (bs : List Nat) (n k : Nat), vs = [.ref a, .int n, .int k] ∧ SqL K H a (nv bs) ∧ bs.length ≤ 1000 ∧ n ≤ 1000 ∧ 1 ≤ k ∧ k ≤ 50 ∧
  ∀ (H' : Hp) (p : Addr), Same H H' → H p = none → PathsAt H H' p (Mu48.plan bs n k) → Q (.ref p) H'
theorem set_range {f g : Nat → Nat} {k j x : Nat} {z : Int} (hz : z = (x : Int)) (h1 : g j = x) (h2 : ∀ i, i < k → i ≠ j → g i = f i) : (nv ((List.range k).map f)).set j (V.int z) = nv ((List.range k).map g) := by
  subst hz
  unfold nv
  rw [List.map_map, List.map_map]
  refine List.ext_getElem (by rw [List.length_set, List.length_map, List.length_map]) fun i a1 a2 => ?_
  rw [List.length_map, List.length_range] at a2
  rw [List.getElem_set]
  by_cases e : j = i
  · rw [if_pos e, List.getElem_map, List.getElem_range, ← h1, e]
    rfl
  · rw [if_neg e, List.getElem_map, List.getElem_map, List.getElem_range]
    show V.int (f i : Nat) = V.int (g i : Nat)
    rw [h2 i a2 (fun q => e q.symm)]
theorem ixN_nat {n j : Nat} {z : Int} (hz : z = (j : Int)) (h : j < n) : ixN n z = some j := by
  subst hz
  unfold ixN
  rw [if_pos (by omega), if_pos (by omega), Int.toNat_natCast]
theorem range_at {f : Nat → Nat} {k j : Nat} (h : j < k) : ((List.range k).map f)[j]? = some (f j) := by
  rw [List.getElem?_map, List.getElem?_range h]
  rfl
section
variable {P : Program} {w : World} {K : PySem.W.Frag} {mg : Str → Option Value} {base : Heap}
def asgVal : List Stmt → Expr
  | .Assign _ e _ :: _ => e
  | _ => .Constant .none 0 ⟨0, 0, 0, 0⟩
theorem blk_paths : BlkOk ["bears", "leap", "people", "paths", "stands", "turn", "place", "person"] (defScope sPaths) (lcScope (asgVal (defBody sPaths))) [("person", 7)] := ⟨rfl, by decide +kernel, by decide +kernel, by decide +kernel, by decide +kernel⟩
theorem sc_paths : FnScope ["bears", "leap", "people", "paths", "stands", "turn", "place", "person"] ["bears", "leap", "people"] (defScope sPaths) := ⟨rfl, rfl, rfl, by decide +kernel, rfl, by decide +kernel, by decide +kernel⟩
theorem ok_paths {f : Addr} {fd : FuncData} (F : Fun K "planned_paths" "planned_paths" sPaths f fd) (DT : Def P w K mg base 1 "steps_in_a_row" ["bears", "people"] (spSteps K)) (DB : Def P w K mg base 1 "far_bank" ["bears"] (spFarBank K))
    (ge : mg "enumerate" = none) (gr : mg "range" = none) : FnOk P w K mg base CX0 2 f fd ["bears", "leap", "people"] (spPaths K) := by
  refine F.ok sc_paths (fun vs H Q E h => ?_) (fun cdv A outer s H vs Q E hr h => ?_)
  · obtain ⟨a, bs, n, k, rfl, _⟩ := h
    rfl
  · obtain ⟨a, bs, n, k, rfl, hS, hb, hn, hk1, hk, kk⟩ := h
    refine ⟨_, pss_cons (ps_setLc (i := 3) (own := [("person", 7)]) rfl sc_paths.nd rfl rfl rfl (pi_range1 rfl gr (pa_cons (pv 2) pa_nil)) blk_paths
        (fun s H C cl fp => pg_name (i := 7) sc_paths.nd rfl (Or.inl rfl)) (fun s H C cl fp => pts_nil) (fun s H C cl fp => pe_lst pa_nil))
      (pss_cons (ps_set (i := 4) sc_paths.nd rfl (Or.inl rfl) (pe_op op_rep (pe_lst (pa_cons pe_int pa_nil)) (pv 2)))
      (pss_cons (ps_for PassesOwn.never rfl (pi_enum rfl ge (pa_cons (pe_def DT hr (by rfl) (pa_cons (pv 0) (pa_cons (pv 2) pa_nil))) pa_nil)) (pg_tup rfl (pgs_cons (pg_name (i := 5) sc_paths.nd rfl (Or.inl rfl)) (pgs_cons (pg_name (i := 6) sc_paths.nd rfl (Or.inl rfl)) pgs_nil)))
        (pss_cons (ps_set (i := 7) sc_paths.nd rfl (Or.inl rfl) (pe_op op_mod (pv 5) (pv 2)))
        (pss_one (ps_if (pt_cmpR op_lt (pe_op op_add (pe_ix ix_list (pv 4) (pv 7) (fun _ _ => rfl)) (pv 1)) (pe_def DB hr (by rfl) (pa_cons (pv 0) pa_nil)) (nomark _))
          (pss_cons (ps_expr (pe_bm PySem.F.plainAttrs_list PySem.F.slot_list_append PySem.F.type_list_append mt_append (pe_ix ix_list (pv 3) (pv 7) (fun _ _ => rfl)) (pa_cons (pv 6) pa_nil)))
          (pss_one (ps_asg (pv 6) (pg_sub (pv 4) (pv 7) set_list))))
          pss_nil))))
      (pss_one (ps_ret (pv 3))))), ?_⟩
    refine ⟨_, rfl, _, rfl, by omega, by omega, ?_⟩
    rw [Int.toNat_natCast]
    intro D hD
    refine lc_range (fun i H' => Same H H' ∧ ∃ as : List Addr, H' D = some (.lst (as.map V.ref)) ∧ as.length = i ∧ as.Nodup ∧ ∀ c ∈ as, H' c = some (.lst []) ∧ H c = none ∧ c ≠ D) ⟨Same.laid hD, [], upd_same, rfl, List.nodup_nil, fun c hc => by cases hc⟩ ?_ ?_
    · rintro i H' hi ⟨s1, as, hd, hl, hnd, hc⟩
      refine ⟨rfl, Nat.zero_le _, fun p hp => ?_⟩
      have hpD : D ≠ p := ne_of_none hd hp
      refine ⟨_, Eq.trans (upd_ne hpD) hd, ?_, Same.laid' hD (Same.laid' (s1.free hp) s1), as ++ [p], ?_, ?_, ?_, ?_⟩
      · rw [List.length_map, hl]
        exact small1000' (by omega)
      · rw [upd_same, List.map_append]
        rfl
      · rw [List.length_append, hl]
        rfl
      · refine List.nodup_append.mpr ⟨hnd, by simp, fun x hx y hy => ?_⟩
        rw [List.mem_singleton.mp hy]
        exact ne_of_none (hc x hx).1 hp
      · intro c hcm
        rcases List.mem_append.mp hcm with z | z
        · obtain ⟨c1, c2, c3⟩ := hc c z
          exact ⟨Eq.trans (upd_ne c3) (Eq.trans (upd_ne (ne_of_none c1 hp)) c1), c2, c3⟩
        · rw [List.mem_singleton.mp z]
          exact ⟨Eq.trans (upd_ne (Ne.symm hpD)) upd_same, s1.free hp, Ne.symm hpD⟩
    · rintro H1 ⟨s1, as, hd, hl, hnd, hc⟩
      -- stands
      refine ⟨line1, fun p hp => ?_⟩
      refine ⟨_, rfl, p, _, _, rfl, rfl, upd_same, by omega, by omega, ?_, fun st hst => ?_⟩
      · rw [Int.toNat_natCast]
        refine Nat.le_of_lt (small1000' ?_)
        show 1 * _ ≤ _
        omega
      obtain ⟨hst1, hstp⟩ := none_of_upd hst
      have s2 : Same H1 (upd (upd H1 p (.lst [V.int 0])) st (.lst (List.replicate (Int.toNat (k : Int)) [V.int 0]).flatten)) := Same.laid' hst1 (Same.laid hp)
      have s02 := s1.trans s2
      rw [rep_nv k 0 (z := (k : Int)) (y := 0) rfl rfl] at s2 s02
      rw [rep_nv k 0 (z := (k : Int)) (y := 0) rfl rfl]
      -- the steps
      refine ⟨_, rfl, _, rfl, a, bs, k, rfl, s02.seq hS, hb, hk, fun H3 sp s3 hsp h3 => ?_⟩
      have s13 := s2.trans s3
      have s03 := s02.trans s3
      have hstH : H st = none := s1.free hst1
      have hspH : H sp = none := s02.free hsp
      have dD := s13 _ _ hd
      have dst : H3 st = some (.lst (nv (List.replicate k 0))) := s3 _ _ upd_same
      have nDst : D ≠ st := ne_of_none hd hst1
      have nDsp : D ≠ sp := ne_of_none (s2 _ _ hd) hsp
      have nstsp : st ≠ sp := ne_of_none upd_same hsp
      have ncst : ∀ c ∈ as, c ≠ st := fun c z => ne_of_none (hc c z).1 hst1
      have ncsp : ∀ c ∈ as, c ≠ sp := fun c z => ne_of_none (s2 _ _ (hc c z).1) hsp
      have ncD : ∀ c ∈ as, c ≠ D := fun c z => (hc c z).2.2
      have ncH : ∀ c ∈ as, H c = none := fun c z => (hc c z).2.1
      refine ⟨sp, _, rfl, SqL.of h3, ?_⟩
      refine for_enum (K := K) (a := sp) (xs := nv (Mu48.steps bs k)) (fun t σ H' => ∃ v5 v6 v7 : Option V, σ = [some (.ref a), some (.int n), some (.int k), some (.ref D), some (.ref st), v5, v6, v7] ∧ Same H H' ∧ H' sp = some (.lst (nv (Mu48.steps bs k))) ∧ H' D = some (.lst (as.map V.ref)) ∧
          H' st = some (.lst (nv ((List.range k).map fun j => standOf 0 (pathAt bs n k t j)))) ∧ ∀ (j : Nat) (c : Addr), as[j]? = some c → H' c = some (.lst (nv (pathAt bs n k t j))))
        ⟨none, none, none, rfl, s03, h3, dD, ?_, ?_⟩ (fun i σ H' _ ⟨_, _, _, _, _, h, _⟩ => SqL.of h) ?_ ?_
      · rw [dst]
        congr 3
        refine List.ext_getElem (by rw [List.length_replicate, List.length_map, List.length_range]) fun i a1 a2 => ?_
        rw [List.getElem_replicate, List.getElem_map, pathAt_zero]
        rfl
      · intro j c hj
        rw [pathAt_zero]
        exact s13 _ _ (hc c (List.mem_of_getElem? hj)).1
      · rintro t y σ H' T hy ⟨v5, v6, v7, rfl, s4, hsp4, hD4, hst4, hpa⟩ hT
        obtain ⟨x, hx, rfl⟩ := nv_of_at hy
        have hj : t % k < k := Nat.mod_lt t hk1
        obtain ⟨c, hcj⟩ : ∃ c, as[t % k]? = some c := ⟨_, List.getElem?_eq_getElem (by rw [hl]; exact hj)⟩
        have hcm := List.mem_of_getElem? hcj
        have hc4 := hpa _ _ hcj
        have em : (t : Int) % (k : Int) = ((t % k : Nat) : Int) := (Int.natCast_emod t k).symm
        have tT : ∀ {b : Addr} {o : HO}, H' b = some o → upd H' T (.tup [.int (t : Nat), .int (x : Nat)]) b = some o := fun {b o} e => Eq.trans (upd_ne (ne_of_none e hT)) e
        have s5 : Same H (upd H' T (.tup [.int (t : Nat), .int (x : Nat)])) := Same.laid' (s4.free hT) s4
        refine ⟨T, _, rfl, SqT.of upd_same, rfl, _, _, rfl, _, _, rfl, rfl, ?_⟩
        refine ⟨_, rfl, _, rfl, _, _, rfl, rfl, by omega, ?_⟩
        refine ⟨_, rfl, _, rfl, st, _, _, _, rfl, rfl, SqL.of (tT hst4), at_of em (nv_at (range_at hj)), _, rfl, _, _, rfl, rfl, _, rfl, a, bs, rfl, s5.seq hS, _, _, rfl, rfl, _, rfl, ite2 (fun h1 => ?_) (fun h1 => ?_)⟩
        · have h1 : ((standOf 0 (pathAt bs n k t (t % k)) : Nat) : Int) + (n : Int) < (Mu48.bank bs : Nat) := of_decide_eq_true h1
          have own : pathAt bs n k (t + 1) (t % k) = pathAt bs n k t (t % k) ++ [x] := by
            rw [pathAt_own hk1 hx, if_neg (by omega)]
          refine ⟨_, rfl, _, rfl, D, _, _, _, rfl, rfl, SqL.of (tT hD4), at_of (v := V.ref c) em (by rw [List.getElem?_map, hcj]; rfl), .inl ⟨rfl, _, SqL.of (tT hc4)⟩, _, rfl, c, _, _, rfl, rfl, tT hc4, ?_, ?_⟩
          · rw [nv_length]
            have q1 := pathAt_length bs n k t (t % k)
            have q2 : bs.length * k ≤ 1000 * 50 := Nat.mul_le_mul hb hk
            exact small1000' (by omega)
          · refine ⟨_, rfl, _, rfl, _, rfl, st, _, _, t % k, rfl, rfl, Eq.trans (upd_ne (Ne.symm (ncst c hcm))) (tT hst4), ixN_nat em (by rw [nv_length, List.length_map, List.length_range]; exact hj), ?_⟩
            refine ⟨_, _, _, rfl, Same.laid' hstH (Same.laid' (ncH c hcm) s5), ?_, ?_, ?_, ?_⟩
            · exact Eq.trans (upd_ne (Ne.symm nstsp)) (Eq.trans (upd_ne (Ne.symm (ncsp c hcm))) (tT hsp4))
            · exact Eq.trans (upd_ne nDst) (Eq.trans (upd_ne (Ne.symm (ncD c hcm))) (tT hD4))
            · rw [upd_same, set_range (g := fun j => standOf 0 (pathAt bs n k (t + 1) j)) rfl]
              · show standOf 0 (pathAt bs n k (t + 1) (t % k)) = x
                rw [own, standOf_snoc]
              · intro i hi hne
                show standOf 0 (pathAt bs n k (t + 1) i) = standOf 0 (pathAt bs n k t i)
                rw [pathAt_other hk1 hi hx (Ne.symm hne)]
            · intro j c' hj'
              have hcm' := List.mem_of_getElem? hj'
              rw [upd_ne (ncst c' hcm')]
              by_cases e : c' = c
              · have ej : j = t % k := nd_ix hnd hj' (by rw [e]; exact hcj)
                rw [e, upd_same, ej, own, nv_snoc _ _ rfl]
              · have ej : t % k ≠ j := fun z => e (by rw [← z, hcj] at hj'; exact (Option.some.inj hj').symm)
                have hjk : j < k := by
                  rw [← hl]
                  exact (List.getElem?_eq_some_iff.mp hj').1
                rw [upd_ne e, tT (hpa j c' hj'), pathAt_other hk1 hjk hx ej]
        · have h1 : ¬ ((standOf 0 (pathAt bs n k t (t % k)) : Nat) : Int) + (n : Int) < (Mu48.bank bs : Nat) := fun z => h1 (decide_eq_true z)
          have all : ∀ j, j < k → pathAt bs n k (t + 1) j = pathAt bs n k t j := fun j hj' => by
            by_cases e : t % k = j
            · subst e
              rw [pathAt_own hk1 hx, if_pos (by omega)]
            · exact pathAt_other hk1 hj' hx e
          refine ⟨_, _, _, rfl, s5, tT hsp4, tT hD4, ?_, ?_⟩
          · rw [tT hst4]
            congr 3
            refine List.map_congr_left fun j hj' => ?_
            rw [all j (List.mem_range.mp hj')]
          · intro j c' hj'
            have hjk : j < k := by
              rw [← hl]
              exact (List.getElem?_eq_some_iff.mp hj').1
            rw [all j hjk]
            exact tT (hpa j c' hj')
      · rintro σ H' ⟨v5, v6, v7, rfl, s4, hsp4, hD4, hst4, hpa⟩
        rw [nv_length] at hpa
        refine ⟨_, rfl, kk H' D s4 hD ⟨as, hD4, ?_, fun c z => ⟨ncH c z, ncD c z⟩, fun j c q hj hq => ?_⟩⟩
        · rw [hl, plan_at, List.length_map, List.length_range]
        · have hjk : j < k := by
            rw [← hl]
            exact (List.getElem?_eq_some_iff.mp hj).1
          rw [plan_at, List.getElem?_map, List.getElem?_range hjk] at hq
          rw [← Option.some.inj hq]
          exact hpa j c hj
end
end Rv

set_option Elab.async false
set_option linter.all false
set_option maxRecDepth 100000
set_option maxHeartbeats 2000000
namespace Rv
open PySem PySem.Spec PyProof.Rows L2
abbrev sRises : Stmt := top 35
abbrev sHind : Stmt := top 36
def planA (bs : List Nat) (n k : Nat) : List Int := if (Mu48.isLeap n && Mu48.isMany k) = false then [-1] else if Mu48.can bs n k = false then [-6] else Mu48.nums ((Mu48.plan bs n k).flatMap fun (p : List Nat) => p.length :: p)
def spPlan (C : Addr) : Sp := fun vs H Q _ => ∃ (r l : Addr) (bs : List Nat) (n k : Nat), vs = [.ref r, .int n, .int k] ∧ RvAt C H r l bs ∧ bs.length ≤ 1000 ∧ n ≤ 1000 ∧ Fresh H Q (planA bs n k)
theorem flat_take {ps : List (List Nat)} {i : Nat} {q : List Nat} (h : ps[i]? = some q) : (ps.take (i + 1)).flatMap (fun (p : List Nat) => p.length :: p) = (ps.take i).flatMap (fun (p : List Nat) => p.length :: p) ++ [q.length] ++ q := by
  rw [take_snoc h, List.flatMap_append, List.flatMap_cons, List.flatMap_nil, List.append_nil, List.append_assoc]
  rfl
theorem flat_length {ps : List (List Nat)} {m : Nat} (h : ∀ q ∈ ps, q.length ≤ m) : ∀ i, ((ps.take i).flatMap (fun (p : List Nat) => p.length :: p)).length ≤ i * (m + 1)
  | 0 => by
    rw [List.take_zero]
    exact Nat.zero_le _
  | i + 1 => by
    cases e : ps[i]? with
    | none =>
      have hl := List.getElem?_eq_none_iff.mp e
      rw [List.take_of_length_le (by omega), ← List.take_of_length_le hl, Nat.succ_mul]
      have := flat_length h i
      omega
    | some q =>
      rw [flat_take e, List.length_append, List.length_append, Nat.succ_mul]
      have := flat_length h i
      have := h q (List.mem_of_getElem? e)
      show _ + 1 + _ ≤ _
      omega
theorem plan_length (bs : List Nat) (n k : Nat) : (Mu48.plan bs n k).length = k := by
  rw [plan_at, List.length_map, List.length_range]
theorem plan_lengths (bs : List Nat) (n k : Nat) : ∀ q ∈ Mu48.plan bs n k, q.length ≤ bs.length * k := fun q hq => by
  rw [plan_at] at hq
  obtain ⟨j, _, rfl⟩ := List.mem_map.mp hq
  exact pathAt_length bs n k _ j
theorem ite_or {c d : Bool} {A B : Prop} (h1 : (c && d) = false → A) (h2 : c = true → d = true → B) : if (!c) = true then A else if (!d) = true then A else B := by
  cases c with
  | false => exact h1 rfl
  | true =>
    cases d with
    | false => exact h1 rfl
    | true => exact h2 rfl rfl
section
variable {P : Program} {w : World} {K : PySem.W.Frag} {mg : Str → Option Value} {base : Heap}
theorem sc_plan : FnScope ["river", "leap", "people", "numbers", "path"] ["river", "leap", "people"] (defScope sPlan) := ⟨rfl, rfl, rfl, by decide +kernel, rfl, by decide +kernel, by decide +kernel⟩
theorem ok_plan {f C : Addr} {fd : FuncData} (F : Fun K "plan" "plan" sPlan f fd) (T : Cl K C) (DL : Def P w K mg base 1 "leap_fits" ["leap"] spLeapFits) (DM : Def P w K mg base 1 "people_fit" ["people"] spPeopleFit)
    (DC : Def P w K mg base 2 "can_get_over" ["bears", "leap", "people"] (spCan K)) (DP : Def P w K mg base 2 "planned_paths" ["bears", "leap", "people"] (spPaths K))
    (g1 : Gi mg "DOES_NOT_FIT" (-1)) (g6 : Gi mg "BEARS_TOO_LITTLE" (-6)) (gl : mg "len" = none) : FnOk P w K mg base CX0 3 f fd ["river", "leap", "people"] (spPlan C) := by
  refine F.ok sc_plan (fun vs H Q E h => ?_) (fun cdv A outer s H vs Q E hr h => ?_)
  · obtain ⟨r, l, bs, n, k, rfl, _⟩ := h
    rfl
  · obtain ⟨r, l, bs, n, k, rfl, hRv, hb, hn, kk⟩ := h
    have hr1 : Room 1 _ := hr.mono (by decide)
    refine ⟨_, pss_cons (ps_if (PW.pt (pw_or (pt_not (pt_val (pe_def DL hr1 (by rfl) (pa_cons (pv 1) pa_nil)))) (pw_or1 (pt_not (pt_val (pe_def DM hr1 (by rfl) (pa_cons (pv 2) pa_nil))))))) (pss_one (ps_ret (pe_lst (pa_cons (pe_gi rfl g1) pa_nil)))) pss_nil)
      (pss_cons (ps_if (pt_not (pt_val (pe_def DC hr (by rfl) (pa_cons (pe_fld (pv 0) rfl) (pa_cons (pv 1) (pa_cons (pv 2) pa_nil)))))) (pss_one (ps_ret (pe_lst (pa_cons (pe_gi rfl g6) pa_nil)))) pss_nil)
      (pss_cons (ps_set (i := 3) sc_plan.nd rfl (Or.inl rfl) (pe_lst pa_nil))
      (pss_cons (ps_for PassesOwn.never rfl (pi_list (pe_def DP hr (by rfl) (pa_cons (pe_fld (pv 0) rfl) (pa_cons (pv 1) (pa_cons (pv 2) pa_nil))))) (pg_name (i := 4) sc_plan.nd rfl (Or.inl rfl))
        (pss_cons (ps_expr (pe_bm PySem.F.plainAttrs_list PySem.F.slot_list_append PySem.F.type_list_append mt_append (pv 3) (pa_cons (pe_callB call_len_seq (by rfl) gl PySem.boot_len (pa_cons (pv 4) pa_nil)) pa_nil)))
        (pss_one (ps_expr (pe_bm PySem.F.plainAttrs_list PySem.F.slot_list_extend PySem.F.type_list_extend mt_extend (pv 3) (pa_cons (pv 4) pa_nil))))))
      (pss_one (ps_ret (pv 3)))))), ?_⟩
    refine ⟨_, rfl, n, rfl, _, rfl, ?_⟩
    have first : (Mu48.isLeap n && Mu48.isMany k) = false → ([] : List V).length + 1 ≤ sizeLine ∧ ∀ p, H p = none → Q (.ref p) (upd H p (.lst [V.int (-1)])) := fun h1 => by
      refine ⟨line1, fun p hp => kk _ p (Same.laid hp) hp ?_⟩
      unfold planA
      rw [if_pos h1]
      exact upd_same
    cases h1 : Mu48.isLeap n with
    | false => exact first (by rw [h1]; rfl)
    | true =>
      refine ⟨_, rfl, k, rfl, _, rfl, ite_not (fun h2 => ?_) (fun h2 => ?_)⟩
      · exact first (by rw [h1, h2]; rfl)
      · have hk : 1 ≤ k ∧ k ≤ 20 := by
          unfold Mu48.isMany Mu48.MANY at h2
          rw [Bool.and_eq_true] at h2
          exact ⟨of_decide_eq_true h2.1, of_decide_eq_true h2.2⟩
        have ea : planA bs n k = if Mu48.can bs n k = false then [-6] else Mu48.nums ((Mu48.plan bs n k).flatMap fun (p : List Nat) => p.length :: p) := by
          unfold planA
          rw [if_neg (by rw [h1, h2]; decide)]
        rw [ea] at kk
        obtain ⟨⟨dx, fs', hR, hf⟩, hS⟩ := hRv
        refine ⟨_, rfl, r, C, dx, fs', _, rfl, hR, T.cl, T.nB, hf, _, rfl, _, rfl, l, bs, n, k, rfl, SqL.of hS, hb, hn, fun H1 s1 => ?_⟩
        refine ⟨_, rfl, ite_not (fun h3 => ?_) (fun h3 => ?_)⟩
        · rw [if_pos h3] at kk
          exact ⟨line1, fun q hq => kk _ q (Same.laid' (s1.free hq) s1) (s1.free hq) upd_same⟩
        · rw [if_neg (by rw [h3]; decide)] at kk
          refine ⟨Nat.zero_le _, fun q hq => ?_⟩
          have hq0 : H q = none := s1.free hq
          have s2 := Same.laid' (o := .lst []) hq0 s1
          refine ⟨_, rfl, r, C, dx, fs', _, rfl, s2 _ _ hR, T.cl, T.nB, hf, _, rfl, _, rfl, l, bs, n, k, rfl, SqL.of (s2 _ _ hS), hb, hn, hk.1, by omega, fun H3 p s3 hp hP => ?_⟩
          obtain ⟨as, hpp, hal, hfr, hat⟩ := hP
          have hpq : p ≠ q := fun z => by rw [z, upd_same] at hp; cases hp
          have hcq : ∀ c ∈ as, c ≠ q := fun c hc z => by
            have := (hfr c hc).1
            rw [z, upd_same] at this
            cases this
          refine ⟨p, rfl, ⟨_, SqL.of hpp⟩, ?_⟩
          refine for_list (K := K) (a := p) (xs := as.map V.ref) (fun i σ H' => ∃ v : Option V, σ = [some (.ref r), some (.int n), some (.int k), some (.ref q), v] ∧ Same H H' ∧ (∀ b o, H3 b = some o → b ≠ q → H' b = some o) ∧ H' q = some (.lst (nv (((Mu48.plan bs n k).take i).flatMap fun (p : List Nat) => p.length :: p))))
            ⟨none, rfl, s2.trans s3, fun b o e _ => e, s3 _ _ upd_same⟩ (fun i σ H' _ ⟨_, _, _, h, _⟩ => SqL.of (h _ _ hpp hpq)) ?_ ?_
          · rintro i y σ H' hy ⟨v, rfl, s4, keep, hq4⟩
            obtain ⟨c, hc, rfl⟩ : ∃ c, as[i]? = some c ∧ y = V.ref c := by
              rw [List.getElem?_map] at hy
              cases e : as[i]? with
              | none =>
                rw [e] at hy
                cases hy
              | some c =>
                rw [e] at hy
                exact ⟨c, rfl, (Option.some.inj hy).symm⟩
            have hcm := List.mem_of_getElem? hc
            have hil : i < (Mu48.plan bs n k).length := by
              rw [← hal]
              exact (List.getElem?_eq_some_iff.mp hc).1
            obtain ⟨pt, hpt⟩ : ∃ pt, (Mu48.plan bs n k)[i]? = some pt := ⟨_, List.getElem?_eq_getElem hil⟩
            have hc4 := keep _ _ (hat i c pt hc hpt) (hcq c hcm)
            have hlen := flat_length (plan_lengths bs n k) i
            have hptl := plan_lengths bs n k pt (List.mem_of_getElem? hpt)
            have q2 : bs.length * k ≤ 1000 * 20 := Nat.mul_le_mul hb hk.2
            rw [plan_length] at hil
            have q3 : i * (bs.length * k + 1) ≤ 20 * (1000 * 20 + 1) := Nat.mul_le_mul (by omega) (by omega)
            have hz : sizeLine = 16777216 := sizeLine_eq
            refine ⟨_, rfl, .inl ⟨rfl, _, SqL.of hq4⟩, _, rfl, c, _, rfl, .inl (SqL.of hc4), q, _, _, rfl, rfl, hq4, ?_, ?_⟩
            · rw [nv_length]
              omega
            · refine ⟨_, rfl, .inl ⟨rfl, _, SqL.of upd_same⟩, _, rfl, q, c, _, _, rfl, rfl, upd_same, Eq.trans (upd_ne (hcq c hcm)) hc4, ?_, ?_⟩
              · rw [List.length_append, nv_length, nv_length]
                show _ + 1 + _ ≤ _
                omega
              · refine ⟨_, rfl, Same.laid' hq0 (Same.laid' hq0 s4), fun b o e hb' => ?_, ?_⟩
                · rw [upd_ne hb', upd_ne hb']
                  exact keep b o e hb'
                · rw [upd_same, nv_snoc _ pt.length (by rw [nv_length]), nv_append, flat_take hpt]
          · rintro σ H' ⟨v, rfl, s4, keep, hq4⟩
            rw [List.length_map, hal, List.take_length] at hq4
            refine ⟨_, rfl, kk H' q s4 hq0 ?_⟩
            rw [hq4, nv_nums]
end
end Rv

set_option Elab.async false
set_option linter.all false
namespace Rv
/-! ### a path that rises between the banks; what stands against one -/
def riseFrom (b : Nat) : Nat → List Nat → Bool
  | _, [] => true
  | s, x :: l => if x ≤ s ∨ b ≤ x then false else riseFrom b x l
def goes (bs p : List Nat) : Bool := Mu48.rising p && !(p.any fun (x : Nat) => x == 0 || decide (Mu48.bank bs ≤ x))
theorem rising_lt : ∀ {l : List Nat} {x : Nat}, Mu48.rising (x :: l) = true → ∀ y ∈ l, x < y
  | [], _, _, y, hy => by cases hy
  | a :: l, x, h, y, hy => by
    have h' : (decide (x < a) && Mu48.rising (a :: l)) = true := h
    rw [Bool.and_eq_true] at h'
    have h1 : x < a := of_decide_eq_true h'.1
    rcases List.mem_cons.mp hy with z | z
    · rw [z]; exact h1
    · have := rising_lt h'.2 y z
      omega
theorem riseFrom_eq (b : Nat) : ∀ (l : List Nat) (s : Nat), riseFrom b s l = (Mu48.rising (s :: l) && l.all fun x => decide (x < b))
  | [], s => rfl
  | a :: l, s => by
    have e : Mu48.rising (s :: a :: l) = (decide (s < a) && Mu48.rising (a :: l)) := rfl
    show (if a ≤ s ∨ b ≤ a then false else riseFrom b a l) = _
    rw [e, List.all_cons, riseFrom_eq b l a]
    by_cases h1 : a ≤ s
    · rw [if_pos (.inl h1), decide_eq_false (show ¬ s < a by omega)]
      simp
    · by_cases h2 : b ≤ a
      · rw [if_pos (.inr h2), decide_eq_false (show ¬ a < b by omega)]
        simp
      · rw [if_neg (by omega), decide_eq_true (show s < a by omega), decide_eq_true (show a < b by omega)]
        simp
theorem rise_goes (bs p : List Nat) : riseFrom (Mu48.bank bs) 0 p = goes bs p := by
  rw [riseFrom_eq]
  unfold goes
  cases p with
  | nil => rfl
  | cons a l =>
    have e : Mu48.rising (0 :: a :: l) = (decide (0 < a) && Mu48.rising (a :: l)) := rfl
    rw [e]
    cases hr : Mu48.rising (a :: l) with
    | false => simp
    | true =>
      rw [Bool.and_true, Bool.true_and]
      by_cases ha : 0 < a
      · rw [decide_eq_true ha, Bool.true_and, Bool.eq_iff_iff]
        have hpos : ∀ y ∈ a :: l, y ≠ 0 := fun y hy => by
          rcases List.mem_cons.mp hy with z | z
          · omega
          · have := rising_lt hr y z
            omega
        constructor
        · intro h
          rw [Bool.not_eq_true', List.any_eq_false]
          intro y hy
          have h1 := of_decide_eq_true (List.all_eq_true.mp h y hy)
          simp [hpos y hy]
          omega
        · intro h
          rw [Bool.not_eq_true', List.any_eq_false] at h
          refine List.all_eq_true.mpr fun y hy => decide_eq_true ?_
          have h1 := h y hy
          simp [hpos y hy] at h1
          omega
      · have e0 : a = 0 := by omega
        subst e0
        simp
theorem goes_place {bs p : List Nat} (h : goes bs p = true) : ∀ x ∈ p, 1 ≤ x ∧ x < Mu48.bank bs := fun x hx => by
  unfold goes at h
  rw [Bool.and_eq_true, Bool.not_eq_true', List.any_eq_false] at h
  have := h.2 x hx
  simp at this
  omega
theorem goes_rising {bs p : List Nat} (h : goes bs p = true) : Mu48.rising p = true := by
  unfold goes at h
  rw [Bool.and_eq_true] at h
  exact h.1
theorem rising_nodup : ∀ {p : List Nat}, Mu48.rising p = true → p.Nodup
  | [], _ => List.nodup_nil
  | [a], _ => by simp
  | a :: b :: l, h => by
    have h1 := rising_lt h
    have h' : (decide (a < b) && Mu48.rising (b :: l)) = true := h
    rw [Bool.and_eq_true] at h'
    refine List.nodup_cons.mpr ⟨fun z => ?_, rising_nodup h'.2⟩
    have := h1 a z
    omega
theorem rising_length {b : Nat} : ∀ {p : List Nat} {s : Nat}, Mu48.rising (s :: p) = true → (∀ x ∈ p, x < b) → s < b → p.length + s < b
  | [], s, _, _, hs => by
    show 0 + s < b
    omega
  | a :: l, s, h, hb, hs => by
    have h' : (decide (s < a) && Mu48.rising (a :: l)) = true := h
    rw [Bool.and_eq_true] at h'
    have h1 : s < a := of_decide_eq_true h'.1
    have := rising_length (b := b) h'.2 (fun x hx => hb x (List.mem_cons_of_mem _ hx)) (hb a List.mem_cons_self)
    show l.length + 1 + s < b
    omega
theorem used_getD (bs p : List Nat) {i : Nat} (h : i < bs.length) : (Mu48.used bs p).getD i 0 = bs.getD i 0 - (p.filter fun (x : Nat) => x == i + 1).length := by
  unfold Mu48.used
  rw [List.getD_eq_getElem?_getD, List.getElem?_map, List.getElem?_range h]
  rfl
/-- a step into a place takes one off -/
theorem used_snoc (bs p : List Nat) (x : Nat) : Mu48.used bs (p ++ [x + 1]) = (Mu48.used bs p).set x ((Mu48.used bs p).getD x 0 - 1) := by
  unfold Mu48.used
  refine List.ext_getElem (by rw [List.length_set, List.length_map, List.length_map]) fun i a1 a2 => ?_
  rw [List.length_map, List.length_range] at a1
  rw [List.getElem_set, List.getElem_map, List.getElem_range, List.filter_append, List.length_append]
  by_cases e : x = i
  · subst e
    have q := used_getD bs p a1
    unfold Mu48.used at q
    rw [if_pos rfl, q]
    have ef : List.filter (fun y => y == x + 1) [x + 1] = [x + 1] := by simp
    rw [ef]
    show _ - (_ + 1) = _ - _ - 1
    omega
  · rw [if_neg e, List.getElem_map, List.getElem_range]
    have ef : List.filter (fun y => y == i + 1) [x + 1] = [] := by simp [e]
    rw [ef]
    rfl
theorem used_nil (bs : List Nat) : Mu48.used bs [] = bs := by
  unfold Mu48.used
  refine List.ext_getElem (by rw [List.length_map, List.length_range]) fun i a1 a2 => ?_
  rw [List.getElem_map, List.getElem_range, List.getD_eq_getElem?_getD, List.getElem?_eq_getElem a2]
  rfl
theorem used_length (bs p : List Nat) : (Mu48.used bs p).length = bs.length := by
  unfold Mu48.used
  rw [List.length_map, List.length_range]
theorem against_bears {bs : List Nat} {n : Nat} : ∀ {p : List Nat} {here : Nat}, Mu48.against bs n here p = none → ∀ x ∈ p, Mu48.bears bs x ≠ 0
  | [], _, _, x, hx => by cases hx
  | a :: l, here, h, x, hx => by
    have h' : (if here + n < a then some ((-7 : Int), a) else if Mu48.bears bs a = 0 then some (-6, a) else Mu48.against bs n a l) = none := h
    by_cases h1 : here + n < a
    · rw [if_pos h1] at h'
      cases h'
    · rw [if_neg h1] at h'
      by_cases h2 : Mu48.bears bs a = 0
      · rw [if_pos h2] at h'
        cases h'
      · rw [if_neg h2] at h'
        rcases List.mem_cons.mp hx with z | z
        · rw [z]; exact h2
        · exact against_bears h' x z
end Rv

set_option Elab.async false
set_option linter.all false
set_option maxRecDepth 100000
set_option maxHeartbeats 2000000
namespace Rv
open PySem PySem.Spec PyProof.Rows L2
def spRises (K : PySem.W.Frag) : Sp := fun vs H Q _ => ∃ (a c : Addr) (bs p : List Nat), vs = [.ref a, .ref c] ∧ SqL K H a (nv bs) ∧ SqL K H c (nv p) ∧ Q (.bl (goes bs p)) H
def hindA (bs : List Nat) (n : Nat) (p : List Nat) : List Int := match Mu48.against bs n 0 p with
  | none => []
  | some x => [x.1, (x.2 : Int)]
def spHind (K : PySem.W.Frag) : Sp := fun vs H Q _ => ∃ (a c : Addr) (bs p : List Nat) (n : Nat), vs = [.ref a, .int n, .ref c] ∧ SqL K H a (nv bs) ∧ SqL K H c (nv p) ∧ (∀ x ∈ p, 1 ≤ x ∧ x < Mu48.bank bs) ∧ Fresh H Q (hindA bs n p)
theorem drop_at {l : List Nat} {i x : Nat} (h : l[i]? = some x) : l.drop i = x :: l.drop (i + 1) := by
  obtain ⟨h1, h2⟩ := List.getElem?_eq_some_iff.mp h
  rw [← h2]
  exact List.drop_eq_getElem_cons h1
section
variable {P : Program} {w : World} {K : PySem.W.Frag} {mg : Str → Option Value} {base : Heap}
theorem sc_rises : FnScope ["bears", "path", "stand", "place"] ["bears", "path"] (defScope sRises) := ⟨rfl, rfl, rfl, by decide +kernel, rfl, by decide +kernel, by decide +kernel⟩
theorem ok_rises {f : Addr} {fd : FuncData} (F : Fun K "rises_between_banks" "rises_between_banks" sRises f fd) (DB : Def P w K mg base 1 "far_bank" ["bears"] (spFarBank K)) : FnOk P w K mg base CX0 2 f fd ["bears", "path"] (spRises K) := by
  refine F.ok sc_rises (fun vs H Q E h => ?_) (fun cdv A outer s H vs Q E hr h => ?_)
  · obtain ⟨a, c, bs, p, rfl, _⟩ := h
    rfl
  · obtain ⟨a, c, bs, p, rfl, hS, hC, k⟩ := h
    refine ⟨_, pss_cons (ps_set (i := 2) sc_rises.nd rfl (Or.inl rfl) pe_int)
      (pss_cons (ps_for PassesOwn.never rfl (pi_list (pv 1)) (pg_name (i := 3) sc_rises.nd rfl (Or.inl rfl))
        (pss_cons (ps_if (PW.pt (pw_or (pt_cmpR op_le (pv 3) (pv 2) (nomark _)) (pw_or1 (pt_cmpR op_ge (pv 3) (pe_def DB hr (by rfl) (pa_cons (pv 0) pa_nil)) (nomark _))))) (pss_one (ps_ret pe_bl)) pss_nil)
        (pss_one (ps_set (i := 2) sc_rises.nd rfl (Or.inl rfl) (pv 3)))))
      (pss_one (ps_ret pe_bl))), ?_⟩
    rw [← rise_goes] at k
    refine ⟨_, rfl, c, rfl, ⟨_, hC⟩, ?_⟩
    refine for_list (K := K) (a := c) (xs := nv p) (fun i σ H' => H' = H ∧ ∃ (s : Nat) (v : Option V), σ = [some (.ref a), some (.ref c), some (.int s), v] ∧ riseFrom (Mu48.bank bs) 0 p = riseFrom (Mu48.bank bs) s (p.drop i))
      ⟨rfl, 0, none, rfl, rfl⟩ (fun i σ H' _ ⟨e, _⟩ => by rw [e]; exact hC) ?_ ?_
    · rintro i y σ H' hy ⟨rfl, s', v, rfl, hw⟩
      obtain ⟨x, hx, rfl⟩ := nv_of_at hy
      rw [drop_at hx] at hw
      have hw' : riseFrom (Mu48.bank bs) 0 p = if x ≤ s' ∨ Mu48.bank bs ≤ x then false else riseFrom (Mu48.bank bs) x (p.drop (i + 1)) := hw
      refine ⟨_, rfl, _, rfl, _, _, rfl, rfl, _, rfl, ite2 (fun h1 => ?_) (fun h1 => ?_)⟩
      · have h1 : (x : Int) ≤ (s' : Int) := of_decide_eq_true h1
        rw [if_pos (.inl (by omega))] at hw'
        rw [hw'] at k
        exact k
      · have h1 : ¬ (x : Int) ≤ (s' : Int) := fun z => h1 (decide_eq_true z)
        refine ⟨_, rfl, _, rfl, a, bs, rfl, hS, _, _, rfl, rfl, _, rfl, ite2 (fun h2 => ?_) (fun h2 => ?_)⟩
        · have h2 : ((Mu48.bank bs : Nat) : Int) ≤ (x : Int) := of_decide_eq_true h2
          rw [if_pos (.inr (by omega))] at hw'
          rw [hw'] at k
          exact k
        · have h2 : ¬ ((Mu48.bank bs : Nat) : Int) ≤ (x : Int) := fun z => h2 (decide_eq_true z)
          rw [if_neg (by omega)] at hw'
          exact ⟨_, rfl, rfl, x, _, rfl, hw'⟩
    · rintro σ H' ⟨rfl, s', v, rfl, hw⟩
      rw [nv_length, List.drop_length] at hw
      rw [hw] at k
      exact k
theorem sc_hind : FnScope ["bears", "leap", "path", "stand", "place"] ["bears", "leap", "path"] (defScope sHind) := ⟨rfl, rfl, rfl, by decide +kernel, rfl, by decide +kernel, by decide +kernel⟩
theorem ok_hind {f : Addr} {fd : FuncData} (F : Fun K "first_hindrance" "first_hindrance" sHind f fd) (DB : Def P w K mg base 1 "far_bank" ["bears"] (spFarBank K)) (g6 : Gi mg "BEARS_TOO_LITTLE" (-6)) (g7 : Gi mg "TOO_FAR" (-7)) : FnOk P w K mg base CX0 2 f fd ["bears", "leap", "path"] (spHind K) := by
  refine F.ok sc_hind (fun vs H Q E h => ?_) (fun cdv A outer s H vs Q E hr h => ?_)
  · obtain ⟨a, c, bs, p, n, rfl, _⟩ := h
    rfl
  · obtain ⟨a, c, bs, p, n, rfl, hS, hC, hp, k⟩ := h
    refine ⟨_, pss_cons (ps_set (i := 3) sc_hind.nd rfl (Or.inl rfl) pe_int)
      (pss_cons (ps_for PassesOwn.never rfl (pi_list (pv 2)) (pg_name (i := 4) sc_hind.nd rfl (Or.inl rfl))
        (pss_cons (ps_if (pt_cmpR op_gt (pe_op op_sub (pv 4) (pv 3)) (pv 1) (nomark _)) (pss_one (ps_ret (pe_lst (pa_cons (pe_gi rfl g7) (pa_cons (pv 4) pa_nil))))) pss_nil)
        (pss_cons (ps_if (pt_cmpR op_eq (pe_ix ix_list (pv 0) (pe_op op_sub (pv 4) pe_int) (fun _ _ => rfl)) pe_int (nomark _)) (pss_one (ps_ret (pe_lst (pa_cons (pe_gi rfl g6) (pa_cons (pv 4) pa_nil))))) pss_nil)
        (pss_one (ps_set (i := 3) sc_hind.nd rfl (Or.inl rfl) (pv 4))))))
      (pss_cons (ps_if (pt_cmpR op_gt (pe_op op_sub (pe_def DB hr (by rfl) (pa_cons (pv 0) pa_nil)) (pv 3)) (pv 1) (nomark _)) (pss_one (ps_ret (pe_lst (pa_cons (pe_gi rfl g7) (pa_cons (pe_def DB hr (by rfl) (pa_cons (pv 0) pa_nil)) pa_nil))))) pss_nil)
      (pss_one (ps_ret (pe_lst pa_nil))))), ?_⟩
    unfold hindA at k
    refine ⟨_, rfl, c, rfl, ⟨_, hC⟩, ?_⟩
    refine for_list (K := K) (a := c) (xs := nv p) (fun i σ H' => H' = H ∧ ∃ (s : Nat) (v : Option V), σ = [some (.ref a), some (.int n), some (.ref c), some (.int s), v] ∧ Mu48.against bs n 0 p = Mu48.against bs n s (p.drop i))
      ⟨rfl, 0, none, rfl, rfl⟩ (fun i σ H' _ ⟨e, _⟩ => by rw [e]; exact hC) ?_ ?_
    · rintro i y σ H' hy ⟨rfl, s', v, rfl, hw⟩
      obtain ⟨x, hx, rfl⟩ := nv_of_at hy
      obtain ⟨hx1, hx2⟩ := hp x (List.mem_of_getElem? hx)
      rw [drop_at hx] at hw
      have hw' : Mu48.against bs n 0 p = if s' + n < x then some ((-7 : Int), x) else if Mu48.bears bs x = 0 then some (-6, x) else Mu48.against bs n x (p.drop (i + 1)) := hw
      refine ⟨_, rfl, _, rfl, _, _, rfl, rfl, _, rfl, _, _, rfl, rfl, _, rfl, ite2 (fun h1 => ?_) (fun h1 => ?_)⟩
      · have h1 : (n : Int) < (x : Int) - (s' : Int) := of_decide_eq_true h1
        rw [if_pos (by omega)] at hw'
        rw [hw'] at k
        exact ⟨_, rfl, line2, fun q hq => k _ q (Same.laid hq) hq upd_same⟩
      · have h1 : ¬ (n : Int) < (x : Int) - (s' : Int) := fun z => h1 (decide_eq_true z)
        rw [if_neg (by omega)] at hw'
        refine ⟨_, rfl, _, rfl, _, _, rfl, rfl, a, _, _, _, rfl, rfl, hS, at_place (x := x) hx1 hx2 rfl, rfl, _, rfl, ite_zero (fun h2 => ?_) (fun h2 => ?_)⟩
        · rw [if_pos h2] at hw'
          rw [hw'] at k
          exact ⟨_, rfl, line2, fun q hq => k _ q (Same.laid hq) hq upd_same⟩
        · rw [if_neg h2] at hw'
          exact ⟨_, rfl, rfl, x, _, rfl, hw'⟩
    · rintro σ H' ⟨rfl, s', v, rfl, hw⟩
      rw [nv_length, List.drop_length] at hw
      have hw' : Mu48.against bs n 0 p = if Mu48.bank bs ≤ s' + n then none else some (-7, Mu48.bank bs) := hw
      refine ⟨_, rfl, a, bs, rfl, hS, _, rfl, _, _, rfl, rfl, _, rfl, _, _, rfl, rfl, _, rfl, ite2 (fun h1 => ?_) (fun h1 => ?_)⟩
      · have h1 : (n : Int) < ((Mu48.bank bs : Nat) : Int) - (s' : Int) := of_decide_eq_true h1
        rw [if_neg (by omega)] at hw'
        rw [hw'] at k
        exact ⟨_, rfl, a, bs, rfl, hS, line2, fun q hq => k _ q (Same.laid hq) hq upd_same⟩
      · have h1 : ¬ (n : Int) < ((Mu48.bank bs : Nat) : Int) - (s' : Int) := fun z => h1 (decide_eq_true z)
        rw [if_pos (by omega)] at hw'
        rw [hw'] at k
        exact ⟨Nat.zero_le _, fun q hq => k _ q (Same.laid hq) hq upd_same⟩
end
end Rv

set_option Elab.async false
set_option linter.all false
set_option maxRecDepth 100000
namespace Rv
/-! ### the calls in their one list -/
def needs : List Nat := [0, 1, 1, 1, 2, 1, 2, 2, 2, 2, 0]
def hasRow (q : Nat) : Bool := q == 0 || q == 5
theorem shape_some {p : Int} {n k : Nat} (h : PyMu48.shape p = some (n, k)) : ∃ q : Nat, p = (q : Int) ∧ q ≤ 10 ∧ needs[q]? = some n ∧ k = (if hasRow q = true then 1 else 0) := by
  unfold PyMu48.shape at h
  by_cases h0 : p = 0
  · rw [if_pos h0] at h; cases h; exact ⟨0, h0, by decide, rfl, rfl⟩
  rw [if_neg h0] at h
  by_cases h1 : p = 1
  · rw [if_pos h1] at h; cases h; exact ⟨1, h1, by decide, rfl, rfl⟩
  rw [if_neg h1] at h
  by_cases h2 : p = 2
  · rw [if_pos h2] at h; cases h; exact ⟨2, h2, by decide, rfl, rfl⟩
  rw [if_neg h2] at h
  by_cases h3 : p = 3
  · rw [if_pos h3] at h; cases h; exact ⟨3, h3, by decide, rfl, rfl⟩
  rw [if_neg h3] at h
  by_cases h4 : p = 4
  · rw [if_pos h4] at h; cases h; exact ⟨4, h4, by decide, rfl, rfl⟩
  rw [if_neg h4] at h
  by_cases h5 : p = 5
  · rw [if_pos h5] at h; cases h; exact ⟨5, h5, by decide, rfl, rfl⟩
  rw [if_neg h5] at h
  by_cases h6 : p = 6
  · rw [if_pos h6] at h; cases h; exact ⟨6, h6, by decide, rfl, rfl⟩
  rw [if_neg h6] at h
  by_cases h7 : p = 7
  · rw [if_pos h7] at h; cases h; exact ⟨7, h7, by decide, rfl, rfl⟩
  rw [if_neg h7] at h
  by_cases h8 : p = 8
  · rw [if_pos h8] at h; cases h; exact ⟨8, h8, by decide, rfl, rfl⟩
  rw [if_neg h8] at h
  by_cases h9 : p = 9
  · rw [if_pos h9] at h; cases h; exact ⟨9, h9, by decide, rfl, rfl⟩
  rw [if_neg h9] at h
  by_cases h10 : p = 10
  · rw [if_pos h10] at h; cases h; exact ⟨10, h10, by decide, rfl, rfl⟩
  rw [if_neg h10] at h
  cases h
theorem parse_step {f : Nat} {p : Int} {r : List Int} {cs : List (List (List Int))} (h : PyFlat.calls PyMu48.shape f (p :: r) = some cs) :
    ∃ f' n k xs t cs', PyMu48.shape p = some (n, k) ∧ n ≤ r.length ∧ PyFlat.rows k (r.drop n) = some (xs, t) ∧ cs = ((p :: r.take n) :: xs) :: cs' ∧ PyFlat.calls PyMu48.shape f' t = some cs' := by
  cases f with
  | zero => cases h
  | succ f =>
    have h' : (match PyFlat.call PyMu48.shape (p :: r) with
      | none => none
      | some (c, t) => match PyFlat.calls PyMu48.shape f t with
        | none => none
        | some cs => some (c :: cs)) = some cs := h
    cases e : PyFlat.call PyMu48.shape (p :: r) with
    | none => rw [e] at h'; cases h'
    | some ct =>
      obtain ⟨c, t⟩ := ct
      rw [e] at h'
      have h2 : (match PyFlat.calls PyMu48.shape f t with
        | none => none
        | some cs => some (c :: cs)) = some cs := h'
      cases e2 : PyFlat.calls PyMu48.shape f t with
      | none => rw [e2] at h2; cases h2
      | some cs' =>
        rw [e2] at h2
        have h3 : c :: cs' = cs := Option.some.inj h2
        have e' : (match PyMu48.shape p with
          | none => none
          | some (n, k) => if r.length < n then none else match PyFlat.rows k (r.drop n) with
            | none => none
            | some (xs, t) => some ((p :: r.take n) :: xs, t)) = some (c, t) := e
        cases e3 : PyMu48.shape p with
        | none => rw [e3] at e'; cases e'
        | some nk =>
          obtain ⟨n, k⟩ := nk
          rw [e3] at e'
          have e4 : (if r.length < n then none else match PyFlat.rows k (r.drop n) with
            | none => none
            | some (xs, t) => some ((p :: r.take n) :: xs, t)) = some (c, t) := e'
          by_cases hl : r.length < n
          · rw [if_pos hl] at e4; cases e4
          · rw [if_neg hl] at e4
            cases e5 : PyFlat.rows k (r.drop n) with
            | none => rw [e5] at e4; cases e4
            | some xt =>
              obtain ⟨xs, t'⟩ := xt
              rw [e5] at e4
              obtain ⟨a1, a2⟩ := Prod.mk.inj (Option.some.inj e4)
              subst a1 a2 h3
              exact ⟨f, n, k, xs, t', cs', rfl, by omega, e5, rfl, e2⟩
theorem rows_zero {l : List Int} {xs : List (List Int)} {t : List Int} (h : PyFlat.rows 0 l = some (xs, t)) : xs = [] ∧ t = l := by
  obtain ⟨a, b⟩ := Prod.mk.inj (Option.some.inj h)
  exact ⟨a.symm, b.symm⟩
theorem rows_one {l : List Int} {xs : List (List Int)} {t : List Int} (h : PyFlat.rows 1 l = some (xs, t)) : ∃ m r, l = m :: r ∧ 0 ≤ m ∧ m.toNat ≤ r.length ∧ xs = [r.take m.toNat] ∧ t = r.drop m.toNat := by
  cases l with
  | nil => cases h
  | cons m r =>
    have h' : (match (if 0 ≤ m ∧ m.toNat ≤ r.length then some (r.take m.toNat, r.drop m.toNat) else none) with
      | none => none
      | some (x, s) => some ([x], s)) = some (xs, t) := h
    by_cases hc : 0 ≤ m ∧ m.toNat ≤ r.length
    · rw [if_pos hc] at h'
      obtain ⟨a1, a2⟩ := Prod.mk.inj (Option.some.inj h')
      exact ⟨m, r, rfl, hc.1, hc.2, a1.symm, a2.symm⟩
    · rw [if_neg hc] at h'
      cases h'
/-- the call as a call of the river's -/
def cOf : Nat → List Nat → List Nat → Option Mu48.Call
  | 0, [], r => some (.begin_ r)
  | 1, [n], _ => some (.most n)
  | 2, [n], _ => some (.narrowest n)
  | 3, [n], _ => some (.fewest n)
  | 4, [n, k], _ => some (.plan n k)
  | 5, [n], p => some (.go n p)
  | 6, [n, k], _ => some (.cross n k)
  | 7, [x, m], _ => some (.lay x m)
  | 8, [n, k], _ => some (.mend n k)
  | 9, [n, k], _ => some (.do_ n k)
  | 10, [], _ => some .look
  | _, _, _ => none
theorem call_of : ∀ {q : Nat} {n : Nat} {xs : List Int} {rows : List (List Int)}, q ≤ 10 → needs[q]? = some n → xs.length = n → rows.length = (if hasRow q = true then 1 else 0) →
    ∃ c, cOf q (Mu48Neutral.nats xs) (Mu48Neutral.nats (rows.headD [])) = some c ∧ ∀ o, Mu48Neutral.step o (PyMu48.whole (((q : Int) :: xs) :: rows)) = Mu48.step o c
  | 0, n, xs, rows, _, hn, hx, hr => by
    cases hn
    obtain rfl := List.eq_nil_of_length_eq_zero hx
    match rows, hr with
    | [r], _ => exact ⟨_, rfl, fun o => rfl⟩
  | 1, n, xs, rows, _, hn, hx, hr => by
    cases hn
    obtain rfl := List.eq_nil_of_length_eq_zero hr
    match xs, hx with
    | [a], _ => exact ⟨_, rfl, fun o => rfl⟩
  | 2, n, xs, rows, _, hn, hx, hr => by
    cases hn
    obtain rfl := List.eq_nil_of_length_eq_zero hr
    match xs, hx with
    | [a], _ => exact ⟨_, rfl, fun o => rfl⟩
  | 3, n, xs, rows, _, hn, hx, hr => by
    cases hn
    obtain rfl := List.eq_nil_of_length_eq_zero hr
    match xs, hx with
    | [a], _ => exact ⟨_, rfl, fun o => rfl⟩
  | 4, n, xs, rows, _, hn, hx, hr => by
    cases hn
    obtain rfl := List.eq_nil_of_length_eq_zero hr
    match xs, hx with
    | [a, b], _ => exact ⟨_, rfl, fun o => rfl⟩
  | 5, n, xs, rows, _, hn, hx, hr => by
    cases hn
    match xs, hx, rows, hr with
    | [a], _, [r], _ => exact ⟨_, rfl, fun o => rfl⟩
  | 6, n, xs, rows, _, hn, hx, hr => by
    cases hn
    obtain rfl := List.eq_nil_of_length_eq_zero hr
    match xs, hx with
    | [a, b], _ => exact ⟨_, rfl, fun o => rfl⟩
  | 7, n, xs, rows, _, hn, hx, hr => by
    cases hn
    obtain rfl := List.eq_nil_of_length_eq_zero hr
    match xs, hx with
    | [a, b], _ => exact ⟨_, rfl, fun o => rfl⟩
  | 8, n, xs, rows, _, hn, hx, hr => by
    cases hn
    obtain rfl := List.eq_nil_of_length_eq_zero hr
    match xs, hx with
    | [a, b], _ => exact ⟨_, rfl, fun o => rfl⟩
  | 9, n, xs, rows, _, hn, hx, hr => by
    cases hn
    obtain rfl := List.eq_nil_of_length_eq_zero hr
    match xs, hx with
    | [a, b], _ => exact ⟨_, rfl, fun o => rfl⟩
  | 10, n, xs, rows, _, hn, hx, hr => by
    cases hn
    obtain rfl := List.eq_nil_of_length_eq_zero hr
    obtain rfl := List.eq_nil_of_length_eq_zero hx
    exact ⟨_, rfl, fun o => rfl⟩
  | q + 11, _, _, _, h, _, _, _ => by omega
end Rv

set_option Elab.async false
set_option linter.all false
set_option maxRecDepth 100000
set_option maxHeartbeats 4000000
namespace Rv
open PySem PySem.Spec PyProof.Rows L2
abbrev sAnswers : Stmt := top 49
/-- how a river stands: at r, its list at l -/
abbrev Stand := Hp → Addr → Addr → Mu48.Abs → Prop
structure Stand.Ok (R : Stand) : Prop where
  keep : ∀ H H' r l o, H' r = H r → H' l = H l → R H r l o → R H' r l o
  atR : ∀ H r l o, R H r l o → ∃ u, H r = some u
  atL : ∀ H r l o, R H r l o → ∃ u, H l = some u
  ne : ∀ H r l o, R H r l o → r ≠ l
theorem Stand.Ok.same {R : Stand} (h : R.Ok) {H H' : Hp} {r l : Addr} {o : Mu48.Abs} (s : Same H H') (x : R H r l o) : R H' r l o := by
  obtain ⟨u, hu⟩ := h.atR _ _ _ _ x
  obtain ⟨v, hv⟩ := h.atL _ _ _ _ x
  exact h.keep H H' r l o ((s _ _ hu).trans hu.symm) ((s _ _ hv).trans hv.symm) x
/-- __init__ -/
def spInit (C : Addr) (R : Stand) : Sp := fun vs H Q _ => ∃ (p dx : Addr), vs = [.ref p] ∧ H p = some (.ins C dx []) ∧ ∀ (H' : Hp) (l : Addr), R H' p l none → H l = none → l ≠ p → (∀ b o, H b = some o → b ≠ p → H' b = some o) → Q .non H'
/-- answer_of -/
def spAnswerOf (R : Stand) : Sp := fun vs H Q _ => ∃ (r l nb rw : Addr) (o : Mu48.Abs) (q : Nat) (xs ys : List Nat) (c : Mu48.Call), vs = [.ref r, .int q, .ref nb, .ref rw] ∧ R H r l o ∧ H nb = some (.lst (nv xs)) ∧ H rw = some (.lst (nv ys)) ∧ rw ≠ r ∧ rw ≠ l ∧ r ≠ l ∧
  q ≤ 10 ∧ cOf q xs ys = some c ∧ (∀ x ∈ xs, x ≤ 40) ∧ (∀ y ∈ ys, y ≤ 40) ∧ ys.length ≤ 40 ∧
  ∀ (H' : Hp) (t l' : Addr), R H' r l' (Mu48.step o c).1 → (l' = l ∨ (H l' = none ∧ l' ≠ r)) → (∀ b u, H b = some u → b ≠ r → b ≠ l → H' b = some u) → H t = none → H' t = some (.lst (iv (Mu48.step o c).2)) → Q (.ref t) H'
/-- answers -/
def spAnswers (K : PySem.W.Frag) : Sp := fun vs H Q _ => ∃ (a : Addr) (ns : List Int), vs = [.ref a] ∧ SqL K H a (ns.map V.int) ∧ ns.length ≤ 1100 ∧ (∀ x ∈ ns, 0 ≤ x ∧ x ≤ 40) ∧ PyMu48.answers_asked ns = true ∧ ∀ (H' : Hp) (p : Addr), H' p = some (.lst ((PyMu48.answers ns).map V.int)) → Q (.ref p) H'
theorem ints_nats : ∀ {ns : List Int}, (∀ x ∈ ns, 0 ≤ x ∧ x ≤ 40) → ns.map V.int = nv (Mu48Neutral.nats ns)
  | [], _ => rfl
  | a :: l, h => by
    have e : ((a.toNat : Nat) : Int) = a := Int.toNat_of_nonneg (h a List.mem_cons_self).1
    show V.int a :: l.map V.int = V.int ((a.toNat : Nat) : Int) :: nv (Mu48Neutral.nats l)
    rw [e, ints_nats (fun x hx => h x (List.mem_cons_of_mem _ hx))]
theorem nats_drop (l : List Int) (i : Nat) : (Mu48Neutral.nats l).drop i = Mu48Neutral.nats (l.drop i) := by
  unfold Mu48Neutral.nats
  rw [List.map_drop]
theorem nats_take (l : List Int) (i : Nat) : (Mu48Neutral.nats l).take i = Mu48Neutral.nats (l.take i) := by
  unfold Mu48Neutral.nats
  rw [List.map_take]
theorem nats_length (l : List Int) : (Mu48Neutral.nats l).length = l.length := List.length_map _
theorem nats_at {l : List Int} {i : Nat} {p : Int} (h : l[i]? = some p) : (Mu48Neutral.nats l)[i]? = some p.toNat := by
  unfold Mu48Neutral.nats
  rw [List.getElem?_map, h]
  rfl
theorem nats_le {l : List Int} (h : ∀ x ∈ l, 0 ≤ x ∧ x ≤ 40) : ∀ x ∈ Mu48Neutral.nats l, x ≤ 40 := fun x hx => by
  obtain ⟨y, hy, rfl⟩ := List.mem_map.mp hx
  have := h y hy
  omega
theorem drop_head {l : List Int} {i : Nat} {p : Int} {r : List Int} (h : l.drop i = p :: r) : l[i]? = some p ∧ r = l.drop (i + 1) := by
  refine ⟨?_, ?_⟩
  · have := congrArg (fun z => z[0]?) h
    simpa using this
  · have := congrArg List.tail h
    simpa using this.symm
theorem told_cons (a : List Int) (l : List (List Int)) : PyFlat.told (a :: l) = (a.length : Int) :: (a ++ PyFlat.told l) := rfl
theorem iv_snoc (l : List Int) (z : Int) : iv l ++ [V.int z] = iv (l ++ [z]) := by
  unfold iv
  rw [List.map_append]
  rfl
theorem iv_append (l m : List Int) : iv l ++ iv m = iv (l ++ m) := by
  unfold iv
  rw [List.map_append]
theorem iv_length (l : List Int) : (iv l).length = l.length := List.length_map _
theorem ite_eqn {q j : Nat} {A B : Prop} (h1 : q = j → A) (h2 : q ≠ j → B) : if decide (V.int (q : Int) = V.int (j : Int)) = true then A else B := by
  by_cases h : q = j
  · rw [if_pos (by rw [h]; exact decide_eq_true rfl)]
    exact h1 h
  · rw [if_neg (fun z => h (by have := V.int.inj (of_decide_eq_true z); omega))]
    exact h2 h
theorem needs_ints {q n : Nat} (h : needs[q]? = some n) : (needs.map (fun (n : Nat) => V.int (n : Int)))[q]? = some (V.int (n : Int)) := nv_at h
theorem row_of {xs : List (List Int)} {q : Nat} (h : hasRow q = false) (hx : xs.length = (if hasRow q = true then 1 else 0)) : xs = [] := by
  rw [h] at hx
  exact List.eq_nil_of_length_eq_zero hx
section
variable {P : Program} {w : World} {K : PySem.W.Frag} {mg : Str → Option Value} {base : Heap}
theorem sc_answers : FnScope ["calls", "river", "told", "at", "call", "numbers", "row", "answer"] ["calls"] (defScope sAnswers) := ⟨rfl, rfl, rfl, by decide +kernel, rfl, by decide +kernel, by decide +kernel⟩
theorem ok_answers {f C fI tu : Addr} {fd fdI : FuncData} {R : Stand} {kk : Nat} (hR : R.Ok) (F : Fun K "answers" "answers" sAnswers f fd) (M : Mk K C fI) (GI : FnOk P w K mg base CX0 1 fI fdI ["self"] (spInit C R)) (bI : Binds K fdI ["self"] []) (mC : mg "River" = some (.ref C))
    (DA : Def P w K mg base (kk + 2) "answer_of" ["river", "call", "numbers", "row"] (spAnswerOf R)) (hU : ∀ H, SqT K H tu (nv needs)) (mU : mg "NUMBERS_OF_CALL" = some (.ref tu)) (g0 : Gi mg "BEGIN" 0) (g5 : Gi mg "GO" 5) (gl : mg "len" = none) :
    FnOk P w K mg base CX0 (kk + 3) f fd ["calls"] (spAnswers K) := by
  refine F.ok sc_answers (fun vs H Q E h => ?_) (fun cdv A outer s H vs Q E hr h => ?_)
  · obtain ⟨a, ns, rfl, _⟩ := h
    rfl
  · obtain ⟨a, ns, rfl, hS, hlen, hns, hask, k⟩ := h
    rw [ints_nats hns] at hS
    refine ⟨_, pss_cons (ps_set (i := 1) sc_answers.nd rfl (Or.inl rfl) (pe_make0 M GI (hr.mono (by omega)) rfl mC bI .nil pass0))
      (pss_cons (ps_set (i := 2) sc_answers.nd rfl (Or.inl rfl) (pe_lst pa_nil))
      (pss_cons (ps_set (i := 3) sc_answers.nd rfl (Or.inl rfl) pe_int)
      (pss_cons (ps_while PassesOwn.never (pt_cmpR op_lt (pv 3) (pe_callB call_len_seq (by rfl) gl PySem.boot_len (pa_cons (pv 0) pa_nil)) (nomark _))
        (pss_cons (ps_set (i := 4) sc_answers.nd rfl (Or.inl rfl) (pe_ix ix_list (pv 0) (pv 3) (fun _ _ => rfl)))
        (pss_cons (ps_set (i := 3) sc_answers.nd rfl (Or.inl rfl) (pe_op op_add (pv 3) pe_int))
        (pss_cons (ps_set (i := 5) sc_answers.nd rfl (Or.inl rfl) (pe_slice sl_list (pv 0) (po_some (pv 3)) (po_some (pe_op op_add (pv 3) (pe_ix ix_tup (pe_glob rfl mU (v := .ref tu) rfl) (pv 4) (fun _ _ => rfl))))))
        (pss_cons (ps_set (i := 3) sc_answers.nd rfl (Or.inl rfl) (pe_op op_add (pv 3) (pe_callB call_len_seq (by rfl) gl PySem.boot_len (pa_cons (pv 5) pa_nil))))
        (pss_cons (ps_set (i := 6) sc_answers.nd rfl (Or.inl rfl) (pe_lst pa_nil))
        (pss_cons (ps_if (PW.pt (pw_or (pt_cmpR op_eq (pv 4) (pe_gi rfl g0) (nomark _)) (pw_or1 (pt_cmpR op_eq (pv 4) (pe_gi rfl g5) (nomark _)))))
          (pss_cons (ps_set (i := 6) sc_answers.nd rfl (Or.inl rfl) (pe_slice sl_list (pv 0) (po_some (pe_op op_add (pv 3) pe_int)) (po_some (pe_op op_add (pe_op op_add (pv 3) pe_int) (pe_ix ix_list (pv 0) (pv 3) (fun _ _ => rfl))))))
          (pss_one (ps_set (i := 3) sc_answers.nd rfl (Or.inl rfl) (pe_op op_add (pe_op op_add (pv 3) pe_int) (pe_callB call_len_seq (by rfl) gl PySem.boot_len (pa_cons (pv 6) pa_nil))))))
          pss_nil)
        (pss_cons (ps_set (i := 7) sc_answers.nd rfl (Or.inl rfl) (pe_def DA hr (by rfl) (pa_cons (pv 1) (pa_cons (pv 4) (pa_cons (pv 5) (pa_cons (pv 6) pa_nil))))))
        (pss_cons (ps_expr (pe_bm PySem.F.plainAttrs_list PySem.F.slot_list_append PySem.F.type_list_append mt_append (pv 2) (pa_cons (pe_callB call_len_seq (by rfl) gl PySem.boot_len (pa_cons (pv 7) pa_nil)) pa_nil)))
        (pss_one (ps_expr (pe_bm PySem.F.plainAttrs_list PySem.F.slot_list_extend PySem.F.type_list_extend mt_extend (pv 2) (pa_cons (pv 7) pa_nil)))))))))))))
      (pss_one (ps_ret (pv 2)))))), ?_⟩
    -- what is asked, and what is due
    obtain ⟨cs, hcs, hans, hshort⟩ : ∃ cs, PyFlat.calls PyMu48.shape ns.length ns = some cs ∧ PyMu48.answers ns = PyFlat.told (PyFlat.played Mu48Neutral.step Mu48Neutral.start (cs.map PyMu48.whole)) ∧ (PyMu48.answers ns).length ≤ 10000000 := by
      have h2 := hask
      unfold PyMu48.answers_asked at h2
      cases e : PyFlat.calls PyMu48.shape ns.length ns with
      | none =>
        rw [e] at h2
        cases h2
      | some cs =>
        rw [e] at h2
        have h3 : (!cs.isEmpty && PyFlat.atMost 60 cs && PyInside.calls PyMu48.bound cs && Mu48Neutral.asked (cs.map PyMu48.whole) && PyFlat.short 10000000 (PyMu48.answers ns)) = true := h2
        rw [Bool.and_eq_true] at h3
        refine ⟨cs, rfl, ?_, of_decide_eq_true h3.2⟩
        unfold PyMu48.answers PyMu48.calls
        rw [e]
    have hz : sizeLine = 16777216 := sizeLine_eq
    -- river = River()
    intro r dx hr0 hd0 hne
    refine ⟨r, dx, rfl, upd_same, fun H1 l hR1 hl1 hlr keep1 => ⟨rfl, ?_⟩⟩
    obtain ⟨hl2, hlr2⟩ := none_of_upd hl1
    obtain ⟨hl3, _⟩ := none_of_upd hl2
    have s1 : Same H H1 := fun b o e => keep1 b o (by rw [upd_ne (ne_of_none e hr0), upd_ne (ne_of_none e hd0)]; exact e) (ne_of_none e hr0)
    -- told = []
    refine ⟨Nat.zero_le _, fun td htd => ?_⟩
    obtain ⟨u1, hu1⟩ := hR.atR _ _ _ _ hR1
    obtain ⟨v1, hv1⟩ := hR.atL _ _ _ _ hR1
    have htdr : td ≠ r := Ne.symm (ne_of_none hu1 htd)
    have htdl0 : td ≠ l := Ne.symm (ne_of_none hv1 htd)
    have htdH : H td = none := s1.free htd
    have hstart : PyMu48.answers ns = [] ++ PyFlat.told (PyFlat.played Mu48Neutral.step (none : Mu48.Abs) (cs.map PyMu48.whole)) := hans
    refine ⟨fun m σ H' => ∃ (at_ : Nat) (l : Addr) (o : Mu48.Abs) (T : List Int) (f : Nat) (cs : List (List (List Int))) (v4 v5 v6 v7 : Option V), m = ns.length - at_ ∧ σ = [some (.ref a), some (.ref r), some (.ref td), some (.int (at_ : Nat)), v4, v5, v6, v7] ∧ at_ ≤ ns.length ∧ Same H H' ∧ H l = none ∧ td ≠ l ∧ R H' r l o ∧ H' td = some (.lst (iv T)) ∧
        PyFlat.calls PyMu48.shape f (ns.drop at_) = some cs ∧ PyMu48.answers ns = T ++ PyFlat.told (PyFlat.played Mu48Neutral.step o (cs.map PyMu48.whole)),
      ⟨_, 0, l, none, [], ns.length, cs, none, none, none, none, rfl, rfl, Nat.zero_le _, Same.laid' htdH s1, hl3, htdl0, hR.same (Same.laid htd) hR1, upd_same, hcs, hstart⟩, ?_⟩
    clear hl1 hl2 hl3 hlr hlr2 hv1 htdl0 hR1 hstart
    rintro m σ H' ⟨at_, l, o, T, f, cs, v4, v5, v6, v7, rfl, rfl, hat, s2, hlH, htdl, hRo, htdT, hcs, hT⟩
    refine ⟨_, rfl, _, rfl, a, _, rfl, .inl (s2.seq hS), _, _, rfl, rfl, _, rfl, ?_⟩
    rw [nv_length, nats_length]
    refine ite2 (fun h1 => ?_) (fun h1 => ?_)
    · have h1 : (at_ : Int) < (ns.length : Int) := of_decide_eq_true h1
      have h1 : at_ < ns.length := by omega
      obtain ⟨p, rest, hpr⟩ : ∃ p rest, ns.drop at_ = p :: rest := ⟨_, _, List.drop_eq_getElem_cons h1⟩
      obtain ⟨hp, hrest⟩ := drop_head hpr
      rw [hpr] at hcs
      obtain ⟨f', n, k', xs, t', cs', hshape, hnl, hrows, rfl, hcs'⟩ := parse_step hcs
      obtain ⟨q, rfl, hq10, hneed, hk⟩ := shape_some hshape
      have hrl : rest.length = ns.length - (at_ + 1) := by rw [hrest, List.length_drop]
      have hxn : (rest.take n).length = n := by rw [List.length_take]; omega
      have hxl : (nv (Mu48Neutral.nats (rest.take n))).length = n := by rw [nv_length, nats_length, hxn]
      have hq : (Mu48Neutral.nats ns)[at_]? = some q := by rw [nats_at hp, Int.toNat_natCast]
      have hxs40 : ∀ x ∈ Mu48Neutral.nats (rest.take n), x ≤ 40 := nats_le fun x hx => hns x (List.mem_of_mem_drop (by rw [hrest] at hx; exact List.mem_of_mem_take hx))
      obtain ⟨ru, hru⟩ := hR.atR _ _ _ _ hRo
      obtain ⟨lu, hlu⟩ := hR.atL _ _ _ _ hRo
      refine ⟨fun σ' H'' => ∃ m', m' < ns.length - at_ ∧ _, fun σ' H'' z => z, ?_⟩
      -- call, numbers
      refine ⟨_, rfl, _, rfl, a, _, _, _, rfl, rfl, s2.seq hS, at_of rfl (nv_at hq), ?_⟩
      refine ⟨_, rfl, _, _, rfl, rfl, ?_⟩
      refine ⟨_, rfl, _, rfl, _, rfl, _, rfl, _, rfl, tu, _, _, _, rfl, rfl, hU _, at_of rfl (nv_at hneed), _, _, rfl, rfl, _, rfl, a, _, rfl, s2.seq hS, fun nb hnb => ?_⟩
      rw [nv_cut (Mu48Neutral.nats ns) (at_ + 1) n (by omega) (by omega), nats_drop, nats_take, ← hrest]
      refine ⟨_, rfl, _, rfl, nb, _, rfl, .inl (SqL.of upd_same), _, _, rfl, rfl, ?_⟩
      refine ⟨Nat.zero_le _, fun rw0 hrw0 => ?_⟩
      obtain ⟨hrw0', hrwnb⟩ := none_of_upd hrw0
      have s4 : Same H' (upd (upd H' nb (.lst (nv (Mu48Neutral.nats (rest.take n))))) rw0 (.lst [])) := Same.laid' hrw0' (Same.laid hnb)
      have hnb4 : (upd (upd H' nb (.lst (nv (Mu48Neutral.nats (rest.take n))))) rw0 (.lst [])) nb = some (.lst (nv (Mu48Neutral.nats (rest.take n)))) := Eq.trans (upd_ne (Ne.symm hrwnb)) upd_same
      refine ⟨_, rfl, rfl, _, rfl, ite_eqn (fun h0 => ?_) (fun h0 => ?_)⟩
      · have hrow : hasRow q = true := by rw [h0]; rfl
        rw [hrow] at hk
        rw [hk] at hrows
        obtain ⟨m, r2, hr2, hm0, hml, rfl, rfl⟩ := rows_one (show PyFlat.rows 1 (rest.drop n) = _ from hrows)
        rw [hrest, List.drop_drop] at hr2
        obtain ⟨hm1, hr3⟩ := drop_head hr2
        have hm40 := hns m (List.mem_of_getElem? hm1)
        have hml2 : at_ + 1 + n < ns.length := (List.getElem?_eq_some_iff.mp hm1).1
        have hr3l : r2.length = ns.length - (at_ + 1 + n + 1) := by rw [hr3, List.length_drop]
        refine ⟨_, rfl, _, rfl, _, _, rfl, rfl, _, rfl, _, rfl, _, _, rfl, rfl, _, rfl, _, rfl, a, _, _, _, rfl, rfl, (s2.trans s4).seq hS, at_of (j := at_ + 1 + n) (by rw [hxl]; omega) (nv_at (nats_at hm1)), _, _, rfl, rfl, _, rfl, a, _, rfl, (s2.trans s4).seq hS, fun rw1 hrw1 => ?_⟩
        rw [nv_cut (Mu48Neutral.nats ns) (at_ + 1 + n + 1) m.toNat (by rw [hxl]; omega) (by rw [hxl]; omega), nats_drop, nats_take, ← hr3]
        have hyl : (nv (Mu48Neutral.nats (r2.take m.toNat))).length = m.toNat := by rw [nv_length, nats_length, List.length_take]; omega
        refine ⟨_, rfl, _, _, rfl, rfl, _, rfl, rw1, _, rfl, .inl (SqL.of upd_same), _, _, rfl, rfl, ?_⟩
        have s5 : Same H' (upd (upd (upd H' nb (.lst (nv (Mu48Neutral.nats (rest.take n))))) rw0 (.lst [])) rw1 (.lst (nv (Mu48Neutral.nats (r2.take m.toNat))))) := Same.laid' (s4.free hrw1) s4
        have hnb5 : (upd (upd (upd H' nb (.lst (nv (Mu48Neutral.nats (rest.take n))))) rw0 (.lst [])) rw1 (.lst (nv (Mu48Neutral.nats (r2.take m.toNat))))) nb = some (.lst (nv (Mu48Neutral.nats (rest.take n)))) := Eq.trans (upd_ne (ne_of_none hnb4 hrw1)) hnb4
        have hrw5 : (upd (upd (upd H' nb (.lst (nv (Mu48Neutral.nats (rest.take n))))) rw0 (.lst [])) rw1 (.lst (nv (Mu48Neutral.nats (r2.take m.toNat))))) rw1 = some (.lst (nv (Mu48Neutral.nats (r2.take m.toNat)))) := upd_same
        have hrwr : rw1 ≠ r := Ne.symm (ne_of_none (s4 _ _ hru) hrw1)
        have hrwl : rw1 ≠ l := Ne.symm (ne_of_none (s4 _ _ hlu) hrw1)
        obtain ⟨c, hc, hcstep⟩ := call_of (xs := rest.take n) (rows := [r2.take m.toNat]) hq10 hneed hxn (by rw [hrow]; rfl)
        have hr2m : ∀ x ∈ r2.take m.toNat, 0 ≤ x ∧ x ≤ 40 := fun x hx => hns x (List.mem_of_mem_drop (by rw [hr3] at hx; exact List.mem_of_mem_take hx))
        have hcs5 : PyFlat.calls PyMu48.shape f' (ns.drop (at_ + 1 + n + 1 + m.toNat)) = some cs' := by
          rw [← List.drop_drop, ← hr3]
          exact hcs'
        -- answer = answer_of(river, call, numbers, row)
        have hR5 : R _ r l o := hR.same s5 hRo
        refine ⟨_, rfl, _, rfl, _, rfl, _, rfl, r, l, nb, rw1, o, q, _, _, c, rfl, hR5, hnb5, hrw5, hrwr, hrwl, hR.ne _ _ _ _ hRo, hq10, hc, hxs40, nats_le hr2m, (by rw [nats_length, List.length_take]; omega), fun H6 t l' hR6 hl' keep6 ht ht6 => ?_⟩
        have htd5 := s5 _ _ htdT
        have htd6 := keep6 td _ htd5 htdr htdl
        have httd : t ≠ td := fun z => by rw [z, htd5] at ht; cases ht
        have hfull : PyMu48.answers ns = (T ++ [((Mu48.step o c).2.length : Int)] ++ (Mu48.step o c).2) ++ PyFlat.told (PyFlat.played Mu48Neutral.step (Mu48.step o c).1 (cs'.map PyMu48.whole)) := by
          rw [hT, List.map_cons]
          show T ++ PyFlat.told ((Mu48Neutral.step o _).2 :: PyFlat.played Mu48Neutral.step (Mu48Neutral.step o _).1 _) = _
          rw [hcstep, told_cons]
          simp [List.append_assoc]
        have hTl : T.length + 1 + (Mu48.step o c).2.length ≤ 10000000 := by
          have q1 := congrArg List.length hfull
          rw [List.length_append, List.length_append, List.length_append] at q1
          have q2 : ([((Mu48.step o c).2.length : Int)] : List Int).length = 1 := rfl
          omega
        refine ⟨_, rfl, .inl ⟨rfl, _, SqL.of htd6⟩, _, rfl, t, _, rfl, .inl (SqL.of ht6), td, _, _, rfl, rfl, htd6, by rw [iv_length]; omega, ?_⟩
        refine ⟨_, rfl, .inl ⟨rfl, _, SqL.of upd_same⟩, _, rfl, td, t, _, _, rfl, rfl, upd_same, Eq.trans (upd_ne httd) ht6, ?_, ?_⟩
        · rw [List.length_append, iv_length, iv_length]
          show T.length + 1 + _ ≤ _
          omega
        refine ⟨ns.length - (at_ + 1 + n + 1 + m.toNat), by omega, (at_ + 1 + n + 1 + m.toNat), l', _, T ++ [((Mu48.step o c).2.length : Int)] ++ (Mu48.step o c).2, f', cs', some (.int (q : Int)), some (.ref nb), some (.ref rw1), some (.ref t), rfl, ?_, by omega, ?_, ?_, ?_, ?_, ?_, hcs5, hfull⟩
        · show [some (V.ref a), some (V.ref r), some (V.ref td), some (V.int _), _, _, _, _] = [some (V.ref a), some (V.ref r), some (V.ref td), some (V.int _), _, _, _, _]
          rw [show ((at_ : Int) + 1 + (((nv (Mu48Neutral.nats (rest.take n))).length : Nat) : Int) + 1 + (((nv (Mu48Neutral.nats (r2.take m.toNat))).length : Nat) : Int)) = ((at_ + 1 + n + 1 + m.toNat : Nat) : Int) by rw [hxl, hyl]; omega]
        · intro b u e
          have e1 := s2 _ _ e
          have e2 := s5 _ _ e1
          have nb1 : b ≠ r := ne_of_none e hr0
          have nb2 : b ≠ l := ne_of_none e hlH
          have nb3 : b ≠ td := ne_of_none e htdH
          rw [upd_ne nb3, upd_ne nb3]
          exact keep6 b u e2 nb1 nb2
        · rcases hl' with z | z
          · rw [z]; exact hlH
          · exact s2.free (s5.free z.1)
        · rcases hl' with z | z
          · rw [z]; exact htdl
          · exact ne_of_none htd5 z.1
        · have ntl : l' ≠ td := fun y => by
            rcases hl' with z | z
            · exact htdl (by rw [← y, z])
            · rw [y, htd5] at z; cases z.1
          refine hR.keep H6 _ r l' _ ?_ ?_ hR6
          · rw [upd_ne (Ne.symm htdr), upd_ne (Ne.symm htdr)]
          · rw [upd_ne ntl, upd_ne ntl]
        · rw [upd_same, iv_length, iv_snoc, iv_append]
      · refine ⟨_, rfl, rfl, _, rfl, ite_eqn (fun h5 => ?_) (fun h5 => ?_)⟩
        · have hrow : hasRow q = true := by rw [h5]; rfl
          rw [hrow] at hk
          rw [hk] at hrows
          obtain ⟨m, r2, hr2, hm0, hml, rfl, rfl⟩ := rows_one (show PyFlat.rows 1 (rest.drop n) = _ from hrows)
          rw [hrest, List.drop_drop] at hr2
          obtain ⟨hm1, hr3⟩ := drop_head hr2
          have hm40 := hns m (List.mem_of_getElem? hm1)
          have hml2 : at_ + 1 + n < ns.length := (List.getElem?_eq_some_iff.mp hm1).1
          have hr3l : r2.length = ns.length - (at_ + 1 + n + 1) := by rw [hr3, List.length_drop]
          refine ⟨_, rfl, _, rfl, _, _, rfl, rfl, _, rfl, _, rfl, _, _, rfl, rfl, _, rfl, _, rfl, a, _, _, _, rfl, rfl, (s2.trans s4).seq hS, at_of (j := at_ + 1 + n) (by rw [hxl]; omega) (nv_at (nats_at hm1)), _, _, rfl, rfl, _, rfl, a, _, rfl, (s2.trans s4).seq hS, fun rw1 hrw1 => ?_⟩
          rw [nv_cut (Mu48Neutral.nats ns) (at_ + 1 + n + 1) m.toNat (by rw [hxl]; omega) (by rw [hxl]; omega), nats_drop, nats_take, ← hr3]
          have hyl : (nv (Mu48Neutral.nats (r2.take m.toNat))).length = m.toNat := by rw [nv_length, nats_length, List.length_take]; omega
          refine ⟨_, rfl, _, _, rfl, rfl, _, rfl, rw1, _, rfl, .inl (SqL.of upd_same), _, _, rfl, rfl, ?_⟩
          have s5 : Same H' (upd (upd (upd H' nb (.lst (nv (Mu48Neutral.nats (rest.take n))))) rw0 (.lst [])) rw1 (.lst (nv (Mu48Neutral.nats (r2.take m.toNat))))) := Same.laid' (s4.free hrw1) s4
          have hnb5 : (upd (upd (upd H' nb (.lst (nv (Mu48Neutral.nats (rest.take n))))) rw0 (.lst [])) rw1 (.lst (nv (Mu48Neutral.nats (r2.take m.toNat))))) nb = some (.lst (nv (Mu48Neutral.nats (rest.take n)))) := Eq.trans (upd_ne (ne_of_none hnb4 hrw1)) hnb4
          have hrw5 : (upd (upd (upd H' nb (.lst (nv (Mu48Neutral.nats (rest.take n))))) rw0 (.lst [])) rw1 (.lst (nv (Mu48Neutral.nats (r2.take m.toNat))))) rw1 = some (.lst (nv (Mu48Neutral.nats (r2.take m.toNat)))) := upd_same
          have hrwr : rw1 ≠ r := Ne.symm (ne_of_none (s4 _ _ hru) hrw1)
          have hrwl : rw1 ≠ l := Ne.symm (ne_of_none (s4 _ _ hlu) hrw1)
          obtain ⟨c, hc, hcstep⟩ := call_of (xs := rest.take n) (rows := [r2.take m.toNat]) hq10 hneed hxn (by rw [hrow]; rfl)
          have hr2m : ∀ x ∈ r2.take m.toNat, 0 ≤ x ∧ x ≤ 40 := fun x hx => hns x (List.mem_of_mem_drop (by rw [hr3] at hx; exact List.mem_of_mem_take hx))
          have hcs5 : PyFlat.calls PyMu48.shape f' (ns.drop (at_ + 1 + n + 1 + m.toNat)) = some cs' := by
            rw [← List.drop_drop, ← hr3]
            exact hcs'
          -- answer = answer_of(river, call, numbers, row)
          have hR5 : R _ r l o := hR.same s5 hRo
          refine ⟨_, rfl, _, rfl, _, rfl, _, rfl, r, l, nb, rw1, o, q, _, _, c, rfl, hR5, hnb5, hrw5, hrwr, hrwl, hR.ne _ _ _ _ hRo, hq10, hc, hxs40, nats_le hr2m, (by rw [nats_length, List.length_take]; omega), fun H6 t l' hR6 hl' keep6 ht ht6 => ?_⟩
          have htd5 := s5 _ _ htdT
          have htd6 := keep6 td _ htd5 htdr htdl
          have httd : t ≠ td := fun z => by rw [z, htd5] at ht; cases ht
          have hfull : PyMu48.answers ns = (T ++ [((Mu48.step o c).2.length : Int)] ++ (Mu48.step o c).2) ++ PyFlat.told (PyFlat.played Mu48Neutral.step (Mu48.step o c).1 (cs'.map PyMu48.whole)) := by
            rw [hT, List.map_cons]
            show T ++ PyFlat.told ((Mu48Neutral.step o _).2 :: PyFlat.played Mu48Neutral.step (Mu48Neutral.step o _).1 _) = _
            rw [hcstep, told_cons]
            simp [List.append_assoc]
          have hTl : T.length + 1 + (Mu48.step o c).2.length ≤ 10000000 := by
            have q1 := congrArg List.length hfull
            rw [List.length_append, List.length_append, List.length_append] at q1
            have q2 : ([((Mu48.step o c).2.length : Int)] : List Int).length = 1 := rfl
            omega
          refine ⟨_, rfl, .inl ⟨rfl, _, SqL.of htd6⟩, _, rfl, t, _, rfl, .inl (SqL.of ht6), td, _, _, rfl, rfl, htd6, by rw [iv_length]; omega, ?_⟩
          refine ⟨_, rfl, .inl ⟨rfl, _, SqL.of upd_same⟩, _, rfl, td, t, _, _, rfl, rfl, upd_same, Eq.trans (upd_ne httd) ht6, ?_, ?_⟩
          · rw [List.length_append, iv_length, iv_length]
            show T.length + 1 + _ ≤ _
            omega
          refine ⟨ns.length - (at_ + 1 + n + 1 + m.toNat), by omega, (at_ + 1 + n + 1 + m.toNat), l', _, T ++ [((Mu48.step o c).2.length : Int)] ++ (Mu48.step o c).2, f', cs', some (.int (q : Int)), some (.ref nb), some (.ref rw1), some (.ref t), rfl, ?_, by omega, ?_, ?_, ?_, ?_, ?_, hcs5, hfull⟩
          · show [some (V.ref a), some (V.ref r), some (V.ref td), some (V.int _), _, _, _, _] = [some (V.ref a), some (V.ref r), some (V.ref td), some (V.int _), _, _, _, _]
            rw [show ((at_ : Int) + 1 + (((nv (Mu48Neutral.nats (rest.take n))).length : Nat) : Int) + 1 + (((nv (Mu48Neutral.nats (r2.take m.toNat))).length : Nat) : Int)) = ((at_ + 1 + n + 1 + m.toNat : Nat) : Int) by rw [hxl, hyl]; omega]
          · intro b u e
            have e1 := s2 _ _ e
            have e2 := s5 _ _ e1
            have nb1 : b ≠ r := ne_of_none e hr0
            have nb2 : b ≠ l := ne_of_none e hlH
            have nb3 : b ≠ td := ne_of_none e htdH
            rw [upd_ne nb3, upd_ne nb3]
            exact keep6 b u e2 nb1 nb2
          · rcases hl' with z | z
            · rw [z]; exact hlH
            · exact s2.free (s5.free z.1)
          · rcases hl' with z | z
            · rw [z]; exact htdl
            · exact ne_of_none htd5 z.1
          · have ntl : l' ≠ td := fun y => by
              rcases hl' with z | z
              · exact htdl (by rw [← y, z])
              · rw [y, htd5] at z; cases z.1
            refine hR.keep H6 _ r l' _ ?_ ?_ hR6
            · rw [upd_ne (Ne.symm htdr), upd_ne (Ne.symm htdr)]
            · rw [upd_ne ntl, upd_ne ntl]
          · rw [upd_same, iv_length, iv_snoc, iv_append]
        · have hrow : hasRow q = false := by
            unfold hasRow
            rw [beq_false_of_ne h0, beq_false_of_ne h5]
            rfl
          rw [hrow] at hk
          rw [hk] at hrows
          obtain ⟨rfl, rfl⟩ := rows_zero (show PyFlat.rows 0 (rest.drop n) = _ from hrows)
          have s5 := s4
          have hnb5 := hnb4
          have hrw5 : (upd (upd H' nb (.lst (nv (Mu48Neutral.nats (rest.take n))))) rw0 (.lst [])) rw0 = some (.lst (nv (Mu48Neutral.nats []))) := upd_same
          have hrwr : rw0 ≠ r := Ne.symm (ne_of_none hru hrw0')
          have hrwl : rw0 ≠ l := Ne.symm (ne_of_none hlu hrw0')
          obtain ⟨c, hc, hcstep⟩ := call_of (xs := rest.take n) (rows := []) hq10 hneed hxn (by rw [hrow]; rfl)
          have hcs5 : PyFlat.calls PyMu48.shape f' (ns.drop (at_ + 1 + n)) = some cs' := by
            rw [← List.drop_drop, ← hrest]
            exact hcs'
          -- answer = answer_of(river, call, numbers, row)
          have hR5 : R _ r l o := hR.same s5 hRo
          refine ⟨_, rfl, _, rfl, _, rfl, _, rfl, r, l, nb, rw0, o, q, _, _, c, rfl, hR5, hnb5, hrw5, hrwr, hrwl, hR.ne _ _ _ _ hRo, hq10, hc, hxs40, (fun y hy => by cases hy), (Nat.zero_le _), fun H6 t l' hR6 hl' keep6 ht ht6 => ?_⟩
          have htd5 := s5 _ _ htdT
          have htd6 := keep6 td _ htd5 htdr htdl
          have httd : t ≠ td := fun z => by rw [z, htd5] at ht; cases ht
          have hfull : PyMu48.answers ns = (T ++ [((Mu48.step o c).2.length : Int)] ++ (Mu48.step o c).2) ++ PyFlat.told (PyFlat.played Mu48Neutral.step (Mu48.step o c).1 (cs'.map PyMu48.whole)) := by
            rw [hT, List.map_cons]
            show T ++ PyFlat.told ((Mu48Neutral.step o _).2 :: PyFlat.played Mu48Neutral.step (Mu48Neutral.step o _).1 _) = _
            rw [hcstep, told_cons]
            simp [List.append_assoc]
          have hTl : T.length + 1 + (Mu48.step o c).2.length ≤ 10000000 := by
            have q1 := congrArg List.length hfull
            rw [List.length_append, List.length_append, List.length_append] at q1
            have q2 : ([((Mu48.step o c).2.length : Int)] : List Int).length = 1 := rfl
            omega
          refine ⟨_, rfl, .inl ⟨rfl, _, SqL.of htd6⟩, _, rfl, t, _, rfl, .inl (SqL.of ht6), td, _, _, rfl, rfl, htd6, by rw [iv_length]; omega, ?_⟩
          refine ⟨_, rfl, .inl ⟨rfl, _, SqL.of upd_same⟩, _, rfl, td, t, _, _, rfl, rfl, upd_same, Eq.trans (upd_ne httd) ht6, ?_, ?_⟩
          · rw [List.length_append, iv_length, iv_length]
            show T.length + 1 + _ ≤ _
            omega
          refine ⟨ns.length - (at_ + 1 + n), by omega, (at_ + 1 + n), l', _, T ++ [((Mu48.step o c).2.length : Int)] ++ (Mu48.step o c).2, f', cs', some (.int (q : Int)), some (.ref nb), some (.ref rw0), some (.ref t), rfl, ?_, by omega, ?_, ?_, ?_, ?_, ?_, hcs5, hfull⟩
          · show [some (V.ref a), some (V.ref r), some (V.ref td), some (V.int _), _, _, _, _] = [some (V.ref a), some (V.ref r), some (V.ref td), some (V.int _), _, _, _, _]
            rw [show ((at_ : Int) + 1 + (((nv (Mu48Neutral.nats (rest.take n))).length : Nat) : Int)) = ((at_ + 1 + n : Nat) : Int) by rw [hxl]; omega]
          · intro b u e
            have e1 := s2 _ _ e
            have e2 := s5 _ _ e1
            have nb1 : b ≠ r := ne_of_none e hr0
            have nb2 : b ≠ l := ne_of_none e hlH
            have nb3 : b ≠ td := ne_of_none e htdH
            rw [upd_ne nb3, upd_ne nb3]
            exact keep6 b u e2 nb1 nb2
          · rcases hl' with z | z
            · rw [z]; exact hlH
            · exact s2.free (s5.free z.1)
          · rcases hl' with z | z
            · rw [z]; exact htdl
            · exact ne_of_none htd5 z.1
          · have ntl : l' ≠ td := fun y => by
              rcases hl' with z | z
              · exact htdl (by rw [← y, z])
              · rw [y, htd5] at z; cases z.1
            refine hR.keep H6 _ r l' _ ?_ ?_ hR6
            · rw [upd_ne (Ne.symm htdr), upd_ne (Ne.symm htdr)]
            · rw [upd_ne ntl, upd_ne ntl]
          · rw [upd_same, iv_length, iv_snoc, iv_append]
    · have h1 : ¬ (at_ : Int) < (ns.length : Int) := fun z => h1 (decide_eq_true z)
      have e : ns.drop at_ = [] := List.drop_of_length_le (by omega)
      rw [e] at hcs
      have ec : cs = [] := by
        cases f with
        | zero => exact (Option.some.inj hcs).symm
        | succ f => exact (Option.some.inj hcs).symm
      subst ec
      have hT' : PyMu48.answers ns = T := by
        rw [hT]
        show T ++ [] = T
        exact List.append_nil T
      refine ⟨_, rfl, k H' td ?_⟩
      rw [hT']
      exact htdT
end
end Rv

set_option Elab.async false
set_option linter.all false
set_option maxRecDepth 100000
namespace Rv
/-! ### how often a place is stepped on -/
def cnt (x : Nat) (l : List Nat) : Nat := (l.filter fun (y : Nat) => y == x).length
theorem cnt_append (x : Nat) (l m : List Nat) : cnt x (l ++ m) = cnt x l + cnt x m := by
  unfold cnt
  rw [List.filter_append, List.length_append]
theorem cnt_one (x y : Nat) : cnt x [y] = if y = x then 1 else 0 := by
  unfold cnt
  by_cases h : y = x
  · rw [if_pos h]
    simp [h]
  · rw [if_neg h]
    simp [h]
theorem cnt_cons (x y : Nat) (l : List Nat) : cnt x (y :: l) = (if y = x then 1 else 0) + cnt x l := by
  rw [← cnt_one x y, ← cnt_append]
  rfl
theorem cnt_nil (x : Nat) : cnt x [] = 0 := rfl
theorem cnt_replicate (x m y : Nat) : cnt x (List.replicate m y) = if y = x then m else 0 := by
  induction m with
  | zero =>
    rw [List.replicate_zero, cnt_nil]
    split <;> rfl
  | succ m ih =>
    rw [List.replicate_succ, cnt_cons, ih]
    by_cases h : y = x
    · rw [if_pos h, if_pos h, if_pos h]
      omega
    · rw [if_neg h, if_neg h, if_neg h]
theorem cnt_short (x n b : Nat) : ∀ (l : List Nat) (here : Nat), cnt x (Mu48.short n b here l) ≤ cnt x l
  | [], _ => Nat.le_refl _
  | a :: l, here => by
    by_cases h : b ≤ here + n
    · have e : Mu48.short n b here (a :: l) = [] := if_pos h
      rw [e, cnt_nil]
      exact Nat.zero_le _
    · have e : Mu48.short n b here (a :: l) = a :: Mu48.short n b a l := if_neg h
      rw [e, cnt_cons, cnt_cons]
      have := cnt_short x n b l a
      omega
theorem total_map_le {f g : Nat → Nat} : ∀ {l : List Nat}, (∀ j ∈ l, f j ≤ g j) → Mu48.total (l.map f) ≤ Mu48.total (l.map g)
  | [], _ => Nat.le_refl _
  | a :: l, h => by
    rw [List.map_cons, List.map_cons, total_cons, total_cons]
    have h1 := h a List.mem_cons_self
    have h2 := total_map_le (l := l) (fun j hj => h j (List.mem_cons_of_mem _ hj))
    omega
theorem total_range_one (f : Nat → Nat) (m c : Nat) : ∀ k, Mu48.total ((List.range k).map fun j => f j + if m = j then c else 0) = Mu48.total ((List.range k).map f) + if m < k then c else 0
  | 0 => by
    rw [if_neg (by omega)]
    rfl
  | k + 1 => by
    rw [List.range_succ, List.map_append, List.map_append, total_append, total_append, total_range_one f m c k, List.map_cons, List.map_cons, List.map_nil, total_cons, total_cons, List.map_nil, total_nil]
    by_cases h1 : m = k
    · rw [if_pos h1, if_neg (by omega), if_pos (by omega)]
      omega
    · rw [if_neg h1]
      by_cases h2 : m < k
      · rw [if_pos h2, if_pos (by omega)]
        omega
      · rw [if_neg h2, if_neg (by omega)]
        omega
theorem every_nil (k j : Nat) : Mu48.every k j [] = [] := by cases j <;> rfl
theorem cnt_every {k : Nat} (hk : 1 ≤ k) (x : Nat) (l : List Nat) : Mu48.total ((List.range k).map fun j => cnt x (Mu48.every k j l)) = cnt x l := by
  have main : ∀ t, t ≤ l.length → Mu48.total ((List.range k).map fun j => cnt x (Mu48.every k j (l.take t))) = cnt x (l.take t) := by
    intro t
    induction t with
    | zero =>
      intro _
      rw [List.take_zero, cnt_nil]
      have e : (List.range k).map (fun j => cnt x (Mu48.every k j [])) = (List.range k).map (fun _ => 0) := List.map_congr_left fun j _ => by rw [every_nil, cnt_nil]
      rw [e]
      have z : ∀ m, Mu48.total ((List.range m).map fun _ => 0) = 0 := fun m => by
        induction m with
        | zero => rfl
        | succ m ih => rw [List.range_succ, List.map_append, total_append, ih]; rfl
      exact z k
    | succ t ih =>
      intro ht
      have hx : l[t]? = some l[t] := List.getElem?_eq_getElem (by omega)
      have hl : (l.take t).length = t := by rw [List.length_take]; omega
      rw [take_snoc hx, cnt_append, ← ih (by omega)]
      have e : (List.range k).map (fun j => cnt x (Mu48.every k j (l.take t ++ [l[t]]))) = (List.range k).map (fun j => cnt x (Mu48.every k j (l.take t)) + if t % k = j then cnt x [l[t]] else 0) := by
        refine List.map_congr_left fun j hj => ?_
        rw [every_snoc hk _ _ j (List.mem_range.mp hj), hl, cnt_append]
        by_cases h : t % k = j
        · rw [if_pos h, if_pos h]
        · rw [if_neg h, if_neg h, cnt_nil]
      rw [e, total_range_one, if_pos (Nat.mod_lt t hk)]
  have := main l.length (Nat.le_refl _)
  rw [List.take_length] at this
  exact this
theorem cnt_steps (bs : List Nat) (k x : Nat) : ∀ i, cnt x (stepsTo bs k i) ≤ if 1 ≤ x ∧ x ≤ i then min (bs.getD (x - 1) 0) k else 0
  | 0 => by
    rw [if_neg (by omega)]
    exact Nat.le_refl _
  | i + 1 => by
    rw [stepsTo_succ, cnt_append, cnt_replicate]
    have ih := cnt_steps bs k x i
    by_cases h : i + 1 = x
    · rw [if_pos h, if_pos (by omega)]
      rw [if_neg (by omega)] at ih
      rw [show x - 1 = i by omega]
      omega
    · rw [if_neg h]
      by_cases h2 : 1 ≤ x ∧ x ≤ i
      · rw [if_pos h2] at ih
        rw [if_pos (by omega)]
        omega
      · rw [if_neg h2] at ih
        omega
theorem cnt_flatten (x : Nat) : ∀ ps : List (List Nat), cnt x ps.flatten = Mu48.total (ps.map (cnt x))
  | [] => rfl
  | p :: ps => by
    rw [List.flatten_cons, cnt_append, List.map_cons, total_cons, cnt_flatten x ps]
/-- the plan steps on no place oftener than its stone bears -/
theorem plan_count {bs : List Nat} {n k : Nat} (hk : 1 ≤ k) (x : Nat) : cnt x (Mu48.plan bs n k).flatten ≤ Mu48.bears bs x := by
  rw [cnt_flatten]
  unfold Mu48.plan
  rw [List.map_map]
  have h1 : Mu48.total ((List.range k).map (cnt x ∘ fun j => Mu48.short n (Mu48.bank bs) 0 (Mu48.every k j (Mu48.steps bs k)))) ≤ Mu48.total ((List.range k).map fun j => cnt x (Mu48.every k j (Mu48.steps bs k))) :=
    total_map_le fun j _ => cnt_short x n _ _ _
  rw [cnt_every hk] at h1
  have h2 := cnt_steps bs k x bs.length
  rw [← steps_to] at h2
  unfold Mu48.bears
  by_cases h : x = 0
  · rw [if_neg (by omega)] at h2
    rw [if_pos h]
    omega
  · rw [if_neg h]
    by_cases h3 : 1 ≤ x ∧ x ≤ bs.length
    · rw [if_pos h3] at h2
      omega
    · rw [if_neg h3] at h2
      omega
theorem plan_place {bs : List Nat} {n k : Nat} (hk : 1 ≤ k) {p : List Nat} (hp : p ∈ Mu48.plan bs n k) {x : Nat} (hx : x ∈ p) : 1 ≤ x ∧ x < Mu48.bank bs := by
  have h1 : 1 ≤ cnt x (Mu48.plan bs n k).flatten := by
    have h2 : x ∈ (Mu48.plan bs n k).flatten := List.mem_flatten.mpr ⟨p, hp, hx⟩
    unfold cnt
    exact List.length_pos_of_mem (List.mem_filter.mpr ⟨h2, beq_self_eq_true x⟩)
  have h2 := plan_count (bs := bs) (n := n) hk x
  unfold Mu48.bears at h2
  by_cases h : x = 0
  · rw [if_pos h] at h2
    omega
  · rw [if_neg h] at h2
    refine ⟨by omega, ?_⟩
    unfold Mu48.bank
    rcases Nat.lt_or_ge (x - 1) bs.length with z | z
    · omega
    · rw [List.getD_eq_getElem?_getD, List.getElem?_eq_none_iff.mpr z] at h2
      have : (none : Option Nat).getD 0 = 0 := rfl
      omega
theorem used_used (bs p q : List Nat) : Mu48.used (Mu48.used bs p) q = Mu48.used bs (p ++ q) := by
  refine List.ext_getElem (by rw [used_length, used_length, used_length]) fun i a1 a2 => ?_
  rw [used_length, used_length] at a1
  have e1 : (Mu48.used (Mu48.used bs p) q)[i] = (Mu48.used (Mu48.used bs p) q).getD i 0 := by
    rw [List.getD_eq_getElem?_getD, List.getElem?_eq_getElem (by rw [used_length, used_length]; exact a1)]
    rfl
  have e2 : (Mu48.used bs (p ++ q))[i] = (Mu48.used bs (p ++ q)).getD i 0 := by
    rw [List.getD_eq_getElem?_getD, List.getElem?_eq_getElem (by rw [used_length]; exact a1)]
    rfl
  rw [e1, e2, used_getD _ _ (by rw [used_length]; exact a1), used_getD _ _ a1, used_getD _ _ a1, List.filter_append, List.length_append]
  omega
theorem trodden_flatten : ∀ (ps : List (List Nat)) (bs : List Nat), Mu48.trodden bs ps = Mu48.used bs ps.flatten
  | [], bs => (used_nil bs).symm
  | p :: ps, bs => by
    show Mu48.trodden (Mu48.used bs p) ps = _
    rw [trodden_flatten ps, used_used]
    rfl
theorem total_lengths : ∀ ps : List (List Nat), Mu48.total (ps.map List.length) = ps.flatten.length
  | [] => rfl
  | p :: ps => by
    rw [List.map_cons, total_cons, total_lengths ps, List.flatten_cons, List.length_append]
end Rv

set_option Elab.async false
set_option linter.all false
set_option maxRecDepth 100000
namespace Rv
/-! ### what is laid -/
def Low (r : List Nat) : Prop := ∀ b ∈ r, b ≤ 5
theorem getD_low {r : List Nat} (h : Low r) (i : Nat) : r.getD i 0 ≤ 5 := by
  rw [List.getD_eq_getElem?_getD]
  cases e : r[i]? with
  | none => exact Nat.zero_le _
  | some b => exact h b (List.mem_of_getElem? e)
theorem bears_low {r : List Nat} (h : Low r) (x : Nat) : Mu48.bears r x ≤ 5 := by
  unfold Mu48.bears
  by_cases e : x = 0
  · rw [if_pos e]
    exact Nat.zero_le _
  · rw [if_neg e]
    exact getD_low h _
theorem low_set {r : List Nat} (h : Low r) (i v : Nat) (hv : v ≤ 5) : Low (r.set i v) := fun b hb => by
  rcases List.mem_or_eq_of_mem_set hb with z | z
  · exact h b z
  · rw [z]; exact hv
theorem bears_set (r : List Nat) (x v : Nat) {y : Nat} (hy : y < x) : Mu48.bears (r.set (x - 1) v) y = Mu48.bears r y := by
  unfold Mu48.bears
  by_cases e : y = 0
  · rw [if_pos e, if_pos e]
  · rw [if_neg e, if_neg e, List.getD_eq_getElem?_getD, List.getD_eq_getElem?_getD, List.getElem?_set_ne (by omega)]
def room (r : List Nat) : Nat → Nat → Nat
  | 0, _ => 0
  | f + 1, x => (5 - Mu48.bears r x) + room r f (x - 1)
theorem room_set (r : List Nat) (x v : Nat) : ∀ (f y : Nat), y < x → room (r.set (x - 1) v) f y = room r f y
  | 0, _, _ => rfl
  | f + 1, y, h => by
    show (5 - Mu48.bears (r.set (x - 1) v) y) + room (r.set (x - 1) v) f (y - 1) = (5 - Mu48.bears r y) + room r f (y - 1)
    rw [bears_set r x v h, room_set r x v f (y - 1) (by omega)]
theorem fill_step (f x m : Nat) (r : List Nat) : Mu48.fill (f + 1) x m r = Mu48.fill f (x - 1) (m - min m (5 - Mu48.bears r x)) (r.set (x - 1) (Mu48.bears r x + min m (5 - Mu48.bears r x))) := rfl
theorem fill_rest : ∀ (f x m : Nat) (r : List Nat), f ≤ x → (Mu48.fill f x m r).2 = m - room r f x
  | 0, x, m, r, _ => rfl
  | f + 1, x, m, r, h => by
    rw [fill_step, fill_rest f (x - 1) _ _ (by omega), room_set r x _ f (x - 1) (by omega)]
    show _ = m - ((5 - Mu48.bears r x) + room r f (x - 1))
    omega
theorem fill_length : ∀ (f x m : Nat) (r : List Nat), (Mu48.fill f x m r).1.length = r.length
  | 0, _, _, _ => rfl
  | f + 1, x, m, r => by rw [fill_step, fill_length f, List.length_set]
theorem fill_low : ∀ (f x m : Nat) (r : List Nat), Low r → Low (Mu48.fill f x m r).1
  | 0, _, _, _, h => h
  | f + 1, x, m, r, h => by
    rw [fill_step]
    refine fill_low f _ _ _ (low_set h _ _ ?_)
    have := bears_low h x
    omega
theorem room_stretch {r : List Nat} (h : Low r) (a : Nat) : ∀ n, a + n ≤ r.length → room r n (a + n) + Mu48.total ((r.drop a).take n) = 5 * n
  | 0, _ => by
    rw [List.take_zero]
    rfl
  | n + 1, hn => by
    have ih := room_stretch h a n (by omega)
    have e1 : (r.drop a)[n]? = some (r.getD (a + n) 0) := by
      rw [List.getElem?_drop, getD_some (by omega)]
    rw [take_snoc e1, total_append, total_cons, total_nil]
    show (5 - Mu48.bears r (a + (n + 1))) + room r n (a + (n + 1) - 1) + _ = _
    rw [show a + (n + 1) - 1 = a + n by omega, show a + (n + 1) = (a + n) + 1 by omega, bears_at]
    have := getD_low h (a + n)
    omega
/-- all stretches of a river laid for k, one after another -/
def mfill (n k : Nat) (s : List Nat) (x : Nat) : List Nat := (Mu48.fill n (x + n - 1) (k - Mu48.stretch s x n) s).1
def mstep (n k : Nat) (m : Option (List Nat)) (x : Nat) : Option (List Nat) := match m with
  | none => none
  | some s =>
    let y := Mu48.fill n (x + n - 1) (k - Mu48.stretch s x n) s
    if y.2 = 0 then some y.1 else none
theorem mended_fold (r : List Nat) (n k : Nat) : Mu48.mended r n k = (Mu48.stretches r n).foldl (mstep n k) (some r) := rfl
theorem fill_stretch {s : List Nat} (h : Low s) {n x : Nat} (k : Nat) (hx : 1 ≤ x) (hl : x + n - 1 ≤ s.length) : ((Mu48.fill n (x + n - 1) (k - Mu48.stretch s x n) s).2 = 0) ↔ k ≤ 5 * n := by
  rw [fill_rest n _ _ _ (by omega)]
  have e := room_stretch h (x - 1) n (by omega)
  rw [show x - 1 + n = x + n - 1 by omega] at e
  unfold Mu48.stretch
  omega
theorem mstep_none (n k : Nat) : ∀ l : List Nat, l.foldl (mstep n k) none = none
  | [] => rfl
  | _ :: l => mstep_none n k l
theorem fold_ok {n k : Nat} (hk : k ≤ 5 * n) : ∀ (l : List Nat) (s : List Nat), Low s → (∀ x ∈ l, 1 ≤ x ∧ x + n - 1 ≤ s.length) → l.foldl (mstep n k) (some s) = some (l.foldl (mfill n k) s)
  | [], _, _, _ => rfl
  | x :: l, s, h, hl => by
    obtain ⟨h1, h2⟩ := hl x List.mem_cons_self
    have e : mstep n k (some s) x = some (mfill n k s x) := if_pos ((fill_stretch h k h1 h2).mpr hk)
    rw [List.foldl_cons, List.foldl_cons, e]
    refine fold_ok hk l _ (fill_low _ _ _ _ h) fun y hy => ?_
    have := hl y (List.mem_cons_of_mem _ hy)
    unfold mfill
    rw [fill_length]
    exact this
theorem fold_low {n k : Nat} : ∀ (l : List Nat) (s : List Nat), Low s → Low (l.foldl (mfill n k) s) ∧ (l.foldl (mfill n k) s).length = s.length
  | [], s, h => ⟨h, rfl⟩
  | x :: l, s, h => by
    obtain ⟨a, b⟩ := fold_low (n := n) (k := k) l (mfill n k s x) (fill_low _ _ _ _ h)
    refine ⟨a, b.trans ?_⟩
    unfold mfill
    rw [fill_length]
theorem stretches_mem {r : List Nat} {n x : Nat} (h : x ∈ Mu48.stretches r n) : 1 ≤ x ∧ x + n - 1 ≤ r.length := by
  unfold Mu48.stretches at h
  obtain ⟨i, hi, rfl⟩ := List.mem_map.mp h
  have := List.mem_range.mp hi
  unfold Mu48.bank at this
  omega
theorem mended_some {r : List Nat} {n k : Nat} (h : Low r) (hk : k ≤ 5 * n) : Mu48.mended r n k = some ((Mu48.stretches r n).foldl (mfill n k) r) := by
  rw [mended_fold]
  exact fold_ok hk _ r h fun x hx => stretches_mem hx
theorem mended_far {r : List Nat} {n k : Nat} (h : Mu48.bank r ≤ n) : Mu48.mended r n k = some r := by
  have e : Mu48.stretches r n = [] := by
    unfold Mu48.stretches
    rw [show Mu48.bank r - n = 0 by omega]
    rfl
  rw [mended_fold, e]
  rfl
theorem mended_none {r : List Nat} {n k : Nat} (h : Low r) (hk : 5 * n < k) (hn : n < Mu48.bank r) : Mu48.mended r n k = none := by
  obtain ⟨m, hm⟩ : ∃ m, Mu48.bank r - n = m + 1 := ⟨Mu48.bank r - n - 1, by omega⟩
  have e : Mu48.stretches r n = 1 :: ((List.range m).map fun i => i + 1 + 1) := by
    unfold Mu48.stretches
    rw [hm, List.range_succ_eq_map, List.map_cons, List.map_map]
    rfl
  have hx := stretches_mem (r := r) (n := n) (x := 1) (by rw [e]; exact List.mem_cons_self)
  rw [mended_fold, e, List.foldl_cons]
  have e2 : mstep n k (some r) 1 = none := if_neg fun z => by
    have := (fill_stretch h k hx.1 hx.2).mp z
    omega
  rw [e2, mstep_none]
theorem sums_full (L n : Nat) : ∀ y ∈ sumsOf (List.replicate L 5) n, y = 5 * n := fun y hy => by
  obtain ⟨i, hi⟩ := List.getElem?_of_mem hy
  have hl : i < Mu48.bank (List.replicate L 5) - n := by
    rw [← sumsOf_length]
    exact (List.getElem?_eq_some_iff.mp hi).1
  rw [sumsOf_at hl] at hi
  rw [← Option.some.inj hi, List.drop_replicate, List.take_replicate]
  have hm : min n (L - i) = n := by
    unfold Mu48.bank at hl
    rw [List.length_replicate] at hl
    omega
  rw [hm]
  have z : ∀ m, Mu48.total (List.replicate m 5) = 5 * m := fun m => by
    induction m with
    | zero => rfl
    | succ m ih => rw [List.replicate_succ, total_cons, ih]; omega
  exact z n
/-- mend's refusal, by what the places could bear at most -/
theorem mended_can {r : List Nat} {n k : Nat} (h : Low r) : Mu48.mended r n k = if Mu48.can (List.replicate r.length 5) n k = true then some ((Mu48.stretches r n).foldl (mfill n k) r) else none := by
  rw [can_sums]
  have hb : Mu48.bank (List.replicate r.length 5) = Mu48.bank r := by
    unfold Mu48.bank
    rw [List.length_replicate]
  by_cases hk : k ≤ 5 * n
  · rw [mended_some h hk, if_pos (List.all_eq_true.mpr fun y hy => decide_eq_true (by rw [sums_full _ _ y hy]; exact hk))]
  · by_cases hn : n < Mu48.bank r
    · rw [mended_none h (by omega) hn, if_neg]
      intro z
      have hi : (sumsOf (List.replicate r.length 5) n)[0]? = some (Mu48.total (((List.replicate r.length 5).drop 0).take n)) := sumsOf_at (by omega)
      have hy := List.mem_of_getElem? hi
      have e1 := sums_full _ _ _ hy
      have e2 := of_decide_eq_true (List.all_eq_true.mp z _ hy)
      omega
    · have e : Mu48.stretches r n = [] := by
        unfold Mu48.stretches
        rw [show Mu48.bank r - n = 0 by omega]
        rfl
      have e2 : sumsOf (List.replicate r.length 5) n = [] := List.eq_nil_of_length_eq_zero (by rw [sumsOf_length]; omega)
      rw [mended_far (by omega), e2, e]
      rfl
end Rv

set_option Elab.async false
set_option linter.all false
set_option maxRecDepth 100000
set_option maxHeartbeats 4000000
namespace Rv
open PySem PySem.Spec PyProof.Rows L2
abbrev sInit : Stmt := inClass (top 21) 0
abbrev sBegin : Stmt := top 27
abbrev sGetOver : Stmt := top 37
abbrev sGo : Stmt := top 38
abbrev sCross : Stmt := top 39
abbrev sLayOn : Stmt := top 40
abbrev sLay : Stmt := top 41
abbrev sCould : Stmt := top 42
abbrev sBorne : Stmt := top 43
abbrev sLaidFor : Stmt := top 44
abbrev sMend : Stmt := top 45
abbrev sDo : Stmt := top 46
abbrev sLook : Stmt := top 47
abbrev sAnswerOf : Stmt := top 48
/-! ### a river with all its fields -/
abbrev flds (l : Addr) (a b c : Nat) : List (Str × V) := [("bears", V.ref l), ("people", V.int (a : Int)), ("steps", V.int (b : Int)), ("laid", V.int (c : Int))]
def RvS (C : Addr) (H : Hp) (r l : Addr) (bs : List Nat) (a b c : Nat) : Prop := (∃ dx, H r = some (.ins C dx (flds l a b c))) ∧ H l = some (.lst (nv bs))
structure Cl4 (K : PySem.W.Frag) (C : Addr) : Prop where
  c : Cl K C
  nP : NoAttr K C "people"
  nS : NoAttr K C "steps"
  nL : NoAttr K C "laid"
section
variable {C : Addr} {H H' : Hp} {r l : Addr} {bs : List Nat} {a b c : Nat}
theorem RvS.rv (h : RvS C H r l bs a b c) : RvAt C H r l bs := by
  obtain ⟨⟨dx, h1⟩, h2⟩ := h
  exact ⟨⟨dx, _, h1, rfl⟩, h2⟩
theorem RvS.ne (h : RvS C H r l bs a b c) : r ≠ l := fun e => by
  obtain ⟨⟨dx, h1⟩, h2⟩ := h
  rw [e, h2] at h1
  cases h1
theorem RvS.neL (h : RvS C H r l bs a b c) {x : Addr} {xs : List V} (hx : H x = some (.lst xs)) : x ≠ r := fun e => by
  obtain ⟨⟨dx, h1⟩, h2⟩ := h
  rw [e, h1] at hx
  cases hx
theorem RvS.keep (h : RvS C H r l bs a b c) (h1 : H' r = H r) (h2 : H' l = H l) : RvS C H' r l bs a b c := by
  obtain ⟨⟨dx, e1⟩, e2⟩ := h
  exact ⟨⟨dx, h1.trans e1⟩, h2.trans e2⟩
theorem RvS.same (h : RvS C H r l bs a b c) (s : Same H H') : RvS C H' r l bs a b c := by
  obtain ⟨⟨dx, e1⟩, e2⟩ := h
  exact ⟨⟨dx, s _ _ e1⟩, s _ _ e2⟩
theorem RvS.atR (h : RvS C H r l bs a b c) : ∃ u, H r = some u := by
  obtain ⟨⟨dx, e1⟩, e2⟩ := h
  exact ⟨_, e1⟩
end
theorem put_people (l : Addr) (a b c : Nat) (v : Nat) {z : Int} (h : z = (v : Int)) : putF "people" (V.int z) (flds l a b c) = flds l v b c := by
  subst h
  rfl
theorem put_steps (l : Addr) (a b c : Nat) (v : Nat) {z : Int} (h : z = (v : Int)) : putF "steps" (V.int z) (flds l a b c) = flds l a v c := by
  subst h
  rfl
theorem put_laid (l : Addr) (a b c : Nat) (v : Nat) {z : Int} (h : z = (v : Int)) : putF "laid" (V.int z) (flds l a b c) = flds l a b v := by
  subst h
  rfl
theorem put_bears (l l' : Addr) (a b c : Nat) : putF "bears" (V.ref l') (flds l a b c) = flds l' a b c := rfl
theorem nv_set {l : List Nat} {j y : Nat} {z : Int} (h : z = (y : Int)) : (nv l).set j (V.int z) = nv (l.set j y) := by
  subst h
  unfold nv
  rw [List.map_set]
/-- how a river stands, by the document -/
def Rst (C : Addr) : Stand := fun H r l o => match o with
  | none => RvS C H r l [] 0 0 0
  | some s => RvS C H r l s.river s.over s.trod s.laid ∧ Low s.river ∧ 1 ≤ s.river.length ∧ s.river.length ≤ 11
theorem rst_ok (C : Addr) : (Rst C).Ok where
  keep := fun H H' r l o h1 h2 h => by
    cases o with
    | none => exact RvS.keep (C := C) h h1 h2
    | some s => exact ⟨h.1.keep h1 h2, h.2⟩
  atR := fun H r l o h => by
    cases o with
    | none => exact RvS.atR (C := C) h
    | some s => exact h.1.atR
  atL := fun H r l o h => by
    cases o with
    | none => exact ⟨_, (show RvS C H r l [] 0 0 0 from h).2⟩
    | some s => exact ⟨_, h.1.2⟩
  ne := fun H r l o h => by
    cases o with
    | none => exact RvS.ne (C := C) h
    | some s => exact h.1.ne
abbrev badB (ys : List Nat) : Prop := ys.isEmpty = true ∨ Mu48.WIDE < ys.length ∨ ys.any (fun (x : Nat) => decide (Mu48.HOLD < x)) = true
def spBegin (C : Addr) : Sp := fun vs H Q _ => ∃ (r l c : Addr) (bs ys : List Nat) (a b e : Nat), vs = [.ref r, .ref c] ∧ RvS C H r l bs a b e ∧ H c = some (.lst (nv ys)) ∧
  (badB ys → Fresh H Q [-1]) ∧ (¬ badB ys → ∀ (H' : Hp) (t l' : Addr), RvS C H' r l' ys 0 0 0 → H l' = none → l' ≠ r → (∀ b u, H b = some u → b ≠ r → H' b = some u) → H t = none → H' t = some (.lst (iv [0])) → Q (.ref t) H')
def spGetOver (C : Addr) : Sp := fun vs H Q _ => ∃ (r l c : Addr) (bs p : List Nat) (a b e : Nat), vs = [.ref r, .ref c] ∧ RvS C H r l bs a b e ∧ H c = some (.lst (nv p)) ∧ c ≠ l ∧ (∀ x ∈ p, 1 ≤ x ∧ x < Mu48.bank bs) ∧ (∀ x, cnt x p ≤ Mu48.bears bs x) ∧
  ∀ H' : Hp, RvS C H' r l (Mu48.used bs p) (a + 1) (b + p.length) e → (∀ x, x ≠ r → x ≠ l → H' x = H x) → Q .non H'
def spLayOn (C : Addr) : Sp := fun vs H Q _ => ∃ (r l : Addr) (bs : List Nat) (a b e x m : Nat), vs = [.ref r, .int x, .int m] ∧ RvS C H r l bs a b e ∧ 1 ≤ x ∧ x < Mu48.bank bs ∧
  ∀ H' : Hp, RvS C H' r l (bs.set (x - 1) (Mu48.bears bs x + m)) a b (e + m) → (∀ x, x ≠ r → x ≠ l → H' x = H x) → Q .non H'
def spLook (C : Addr) : Sp := fun vs H Q _ => ∃ (r l : Addr) (bs : List Nat) (a b e : Nat), vs = [.ref r] ∧ RvS C H r l bs a b e ∧ bs.length ≤ 1000 ∧ Fresh H Q (Mu48.nums ([a, b, e, bs.length] ++ bs))
theorem bl_lt {i j : Int} {A B : Prop} (h1 : i < j → A) (h2 : ¬ i < j → B) : if decide (i < j) = true then A else B := by
  by_cases h : i < j
  · rw [if_pos (decide_eq_true h)]
    exact h1 h
  · rw [if_neg (fun z => h (of_decide_eq_true z))]
    exact h2 h
section
variable {P : Program} {w : World} {K : PySem.W.Frag} {mg : Str → Option Value} {base : Heap}
theorem sc_init : FnScope ["self"] ["self"] (defScope sInit) := ⟨rfl, rfl, rfl, by decide +kernel, rfl, by decide +kernel, by decide +kernel⟩
theorem ok_init {f C : Addr} {fd : FuncData} (F : Fun K "__init__" "River.__init__" sInit f fd) (T : Cl4 K C) : FnOk P w K mg base CX0 1 f fd ["self"] (spInit C (Rst C)) := by
  refine F.ok sc_init (fun vs H Q E h => ?_) (fun cdv A outer s H vs Q E hr h => ?_)
  · obtain ⟨p, dx, rfl, _⟩ := h
    rfl
  · obtain ⟨p, dx, rfl, hp, k⟩ := h
    refine ⟨_, pss_cons (ps_fld (pv 0) (pe_lst pa_nil) rfl) (pss_cons (ps_fld (pv 0) pe_int rfl) (pss_cons (ps_fld (pv 0) pe_int rfl) (pss_one (ps_fld (pv 0) pe_int rfl)))), ?_⟩
    refine ⟨Nat.zero_le _, fun l hl => ?_⟩
    have hlp : p ≠ l := ne_of_none hp hl
    refine ⟨_, rfl, p, C, dx, [], rfl, Eq.trans (upd_ne hlp) hp, T.c.cl, T.c.nB, (by show (0 : Nat) < 1000; decide), ?_⟩
    refine ⟨_, rfl, p, C, dx, _, rfl, upd_same, T.c.cl, T.nP, (by show (1 : Nat) < 1000; decide), ?_⟩
    refine ⟨_, rfl, p, C, dx, _, rfl, upd_same, T.c.cl, T.nS, (by show (2 : Nat) < 1000; decide), ?_⟩
    refine ⟨_, rfl, p, C, dx, _, rfl, upd_same, T.c.cl, T.nL, (by show (3 : Nat) < 1000; decide), ?_⟩
    refine k _ l ⟨⟨dx, upd_same⟩, ?_⟩ hl (Ne.symm hlp) ?_
    · rw [upd_ne (Ne.symm hlp), upd_ne (Ne.symm hlp), upd_ne (Ne.symm hlp), upd_ne (Ne.symm hlp)]
      exact upd_same
    · intro b o hb hbp
      rw [upd_ne hbp, upd_ne hbp, upd_ne hbp, upd_ne hbp, upd_ne (ne_of_none hb hl)]
      exact hb
theorem sc_getover : FnScope ["river", "path", "place"] ["river", "path"] (defScope sGetOver) := ⟨rfl, rfl, rfl, by decide +kernel, rfl, by decide +kernel, by decide +kernel⟩
theorem ok_getover {f C : Addr} {fd : FuncData} (F : Fun K "get_over" "get_over" sGetOver f fd) (T : Cl4 K C) (gl : mg "len" = none) : FnOk P w K mg base CX0 1 f fd ["river", "path"] (spGetOver C) := by
  refine F.ok sc_getover (fun vs H Q E h => ?_) (fun cdv A outer s H vs Q E hr h => ?_)
  · obtain ⟨r, l, c, bs, p, a, b, e, rfl, _⟩ := h
    rfl
  · obtain ⟨r, l, c, bs, p, a, b, e, rfl, hRv, hc, hcl, hpl, hcn, k⟩ := h
    have hcr := hRv.neL hc
    have hrl := hRv.ne
    obtain ⟨⟨dx, hR⟩, hL⟩ := hRv
    refine ⟨_, pss_cons (ps_for PassesOwn.never rfl (pi_list (pv 1)) (pg_name (i := 2) sc_getover.nd rfl (Or.inl rfl))
        (pss_one (ps_asg (pe_op op_sub (pe_ix ix_list (pe_fld (pv 0) rfl) (pe_op op_sub (pv 2) pe_int) (fun _ _ => rfl)) pe_int) (pg_sub (pe_fld (pv 0) rfl) (pe_op op_sub (pv 2) pe_int) set_list))))
      (pss_cons (ps_fld (pv 0) (pe_op op_add (pe_fld (pv 0) rfl) pe_int) rfl)
      (pss_one (ps_fld (pv 0) (pe_op op_add (pe_fld (pv 0) rfl) (pe_callB call_len_seq (by rfl) gl PySem.boot_len (pa_cons (pv 1) pa_nil))) rfl))), ?_⟩
    refine ⟨_, rfl, c, rfl, ⟨_, SqL.of hc⟩, ?_⟩
    refine for_list (K := K) (a := c) (xs := nv p) (fun i σ H' => ∃ v : Option V, σ = [some (.ref r), some (.ref c), v] ∧ H' l = some (.lst (nv (Mu48.used bs (p.take i)))) ∧ ∀ x, x ≠ l → H' x = H x)
      ⟨none, rfl, by rw [List.take_zero, used_nil]; exact hL, fun x _ => rfl⟩ (fun i σ H' _ ⟨_, _, _, h⟩ => SqL.of ((h c hcl).trans hc)) ?_ ?_
    · rintro i y σ H' hy ⟨v, rfl, hl1, kp⟩
      obtain ⟨x, hx, rfl⟩ := nv_of_at hy
      obtain ⟨hx1, hx2⟩ := hpl x (List.mem_of_getElem? hx)
      obtain ⟨z, rfl⟩ : ∃ z, x = z + 1 := ⟨x - 1, by omega⟩
      have hR1 : H' r = some (.ins C dx (flds l a b e)) := (kp r hrl).trans hR
      have hz : z < bs.length := by unfold Mu48.bank at hx2; omega
      have hpos : 1 ≤ (Mu48.used bs (p.take i)).getD z 0 := by
        rw [used_getD bs _ hz]
        have q1 := hcn (z + 1)
        rw [bears_at] at q1
        have q2 : cnt (z + 1) p = cnt (z + 1) (p.take (i + 1)) + cnt (z + 1) (p.drop (i + 1)) := by rw [← cnt_append, List.take_append_drop]
        rw [take_snoc hx, cnt_append, cnt_one, if_pos rfl] at q2
        have q3 : cnt (z + 1) (p.take i) = ((p.take i).filter fun (x : Nat) => x == z + 1).length := rfl
        omega
      have hb2 : Mu48.bank (Mu48.used bs (p.take i)) = Mu48.bank bs := by unfold Mu48.bank; rw [used_length]
      refine ⟨_, rfl, r, C, dx, _, _, rfl, hR1, T.c.cl, T.c.nB, rfl, _, rfl, _, _, rfl, rfl, l, _, _, _, rfl, rfl, SqL.of hl1, at_place (x := z + 1) hx1 (by rw [hb2]; exact hx2) rfl, _, _, rfl, rfl, ?_⟩
      refine ⟨_, rfl, r, C, dx, _, _, rfl, hR1, T.c.cl, T.c.nB, rfl, _, rfl, _, _, rfl, rfl, l, _, _, z, rfl, rfl, hl1, ixN_nat (by omega) (by rw [nv_length, used_length]; exact hz), ?_⟩
      refine ⟨_, rfl, ?_, fun x hx' => (upd_ne hx').trans (kp x hx')⟩
      rw [upd_same, take_snoc hx, used_snoc, bears_at, nv_set (y := (Mu48.used bs (p.take i)).getD z 0 - 1) (by omega)]
    · rintro σ H' ⟨v, rfl, hl1, kp⟩
      rw [nv_length, List.take_length] at hl1
      have hR1 : H' r = some (.ins C dx (flds l a b e)) := (kp r hrl).trans hR
      have hc1 : H' c = some (.lst (nv p)) := (kp c hcl).trans hc
      refine ⟨_, rfl, r, C, dx, _, _, rfl, hR1, T.c.cl, T.nP, rfl, _, _, rfl, rfl, _, rfl, r, C, dx, _, rfl, hR1, T.c.cl, T.nP, (by show (4 : Nat) < 1000; decide), ?_⟩
      rw [put_people l a b e (a + 1) (by omega)]
      refine ⟨_, rfl, r, C, dx, _, _, rfl, upd_same, T.c.cl, T.nS, rfl, _, rfl, c, _, rfl, .inl (SqL.of (Eq.trans (upd_ne hcr) hc1)), _, _, rfl, rfl, _, rfl, r, C, dx, _, rfl, upd_same, T.c.cl, T.nS, (by show (4 : Nat) < 1000; decide), ?_⟩
      rw [put_steps l (a + 1) b e (b + p.length) (by rw [nv_length]; omega)]
      refine k _ ⟨⟨dx, upd_same⟩, ?_⟩ fun x h1 h2 => ?_
      · rw [upd_ne (Ne.symm hrl), upd_ne (Ne.symm hrl)]
        exact hl1
      · rw [upd_ne h1, upd_ne h1]
        exact kp x h2
theorem sc_layon : FnScope ["river", "place", "steps"] ["river", "place", "steps"] (defScope sLayOn) := ⟨rfl, rfl, rfl, by decide +kernel, rfl, by decide +kernel, by decide +kernel⟩
theorem ok_layon {f C : Addr} {fd : FuncData} (F : Fun K "lay_on" "lay_on" sLayOn f fd) (T : Cl4 K C) : FnOk P w K mg base CX0 1 f fd ["river", "place", "steps"] (spLayOn C) := by
  refine F.ok sc_layon (fun vs H Q E h => ?_) (fun cdv A outer s H vs Q E hr h => ?_)
  · obtain ⟨r, l, bs, a, b, e, x, m, rfl, _⟩ := h
    rfl
  · obtain ⟨r, l, bs, a, b, e, x, m, rfl, hRv, hx1, hx2, k⟩ := h
    have hrl := hRv.ne
    obtain ⟨⟨dx, hR⟩, hL⟩ := hRv
    refine ⟨_, pss_cons (ps_asg (pe_op op_add (pe_ix ix_list (pe_fld (pv 0) rfl) (pe_op op_sub (pv 1) pe_int) (fun _ _ => rfl)) (pv 2)) (pg_sub (pe_fld (pv 0) rfl) (pe_op op_sub (pv 1) pe_int) set_list))
      (pss_one (ps_fld (pv 0) (pe_op op_add (pe_fld (pv 0) rfl) (pv 2)) rfl)), ?_⟩
    have hz : x - 1 < bs.length := by unfold Mu48.bank at hx2; omega
    refine ⟨_, rfl, r, C, dx, _, _, rfl, hR, T.c.cl, T.c.nB, rfl, _, rfl, _, _, rfl, rfl, l, _, _, _, rfl, rfl, SqL.of hL, at_place (x := x) hx1 hx2 rfl, _, rfl, _, _, rfl, rfl, ?_⟩
    refine ⟨_, rfl, r, C, dx, _, _, rfl, hR, T.c.cl, T.c.nB, rfl, _, rfl, _, _, rfl, rfl, l, _, _, x - 1, rfl, rfl, hL, ixN_nat (by omega) (by rw [nv_length]; exact hz), ?_⟩
    rw [nv_set (y := Mu48.bears bs x + m) (by omega)]
    have hR1 : (upd H l (.lst (nv (bs.set (x - 1) (Mu48.bears bs x + m))))) r = some (.ins C dx (flds l a b e)) := (upd_ne hrl).trans hR
    refine ⟨_, rfl, r, C, dx, _, _, rfl, hR1, T.c.cl, T.nL, rfl, _, rfl, _, _, rfl, rfl, _, rfl, r, C, dx, _, rfl, hR1, T.c.cl, T.nL, (by show (4 : Nat) < 1000; decide), ?_⟩
    rw [put_laid l a b e (e + m) (by omega)]
    refine k _ ⟨⟨dx, upd_same⟩, ?_⟩ fun x h1 h2 => ?_
    · rw [upd_ne (Ne.symm hrl)]
      exact upd_same
    · rw [upd_ne h1, upd_ne h2]
theorem sc_look : FnScope ["river"] ["river"] (defScope sLook) := ⟨rfl, rfl, rfl, by decide +kernel, rfl, by decide +kernel, by decide +kernel⟩
theorem ok_look {f C : Addr} {fd : FuncData} (F : Fun K "look" "look" sLook f fd) (T : Cl4 K C) (gl : mg "len" = none) : FnOk P w K mg base CX0 1 f fd ["river"] (spLook C) := by
  refine F.ok sc_look (fun vs H Q E h => ?_) (fun cdv A outer s H vs Q E hr h => ?_)
  · obtain ⟨r, l, bs, a, b, e, rfl, _⟩ := h
    rfl
  · obtain ⟨r, l, bs, a, b, e, rfl, hRv, hbs, k⟩ := h
    have hrl := hRv.ne
    obtain ⟨⟨dx, hR⟩, hL⟩ := hRv
    refine ⟨_, pss_one (ps_ret (pe_op op_cat (pe_lst (pa_cons (pe_fld (pv 0) rfl) (pa_cons (pe_fld (pv 0) rfl) (pa_cons (pe_fld (pv 0) rfl) (pa_cons (pe_callB call_len_seq (by rfl) gl PySem.boot_len (pa_cons (pe_fld (pv 0) rfl) pa_nil)) pa_nil))))) (pe_fld (pv 0) rfl))), ?_⟩
    refine ⟨_, rfl, r, C, dx, _, _, rfl, hR, T.c.cl, T.nP, rfl, _, rfl, r, C, dx, _, _, rfl, hR, T.c.cl, T.nS, rfl, _, rfl, r, C, dx, _, _, rfl, hR, T.c.cl, T.nL, rfl, _, rfl, r, C, dx, _, _, rfl, hR, T.c.cl, T.c.nB, rfl, l, _, rfl, .inl (SqL.of hL), ?_, fun p hp => ?_⟩
    · show (4 : Nat) ≤ sizeLine
      decide
    · have hpl : l ≠ p := ne_of_none hL hp
      have hpr : r ≠ p := ne_of_none hR hp
      refine ⟨_, rfl, r, C, dx, _, _, rfl, Eq.trans (upd_ne hpr) hR, T.c.cl, T.c.nB, rfl, p, l, _, _, rfl, rfl, upd_same, Eq.trans (upd_ne hpl) hL, ?_, fun q hq => ?_⟩
      · rw [nv_length]
        refine Nat.le_of_lt (small1000' ?_)
        show 4 + _ ≤ _
        omega
      · obtain ⟨hq1, hqp⟩ := none_of_upd hq
        refine k _ q (Same.laid' hq1 (Same.laid hp)) hq1 ?_
        rw [upd_same, nv_nums, nv_length]
        rfl
end
end Rv

set_option Elab.async false
set_option linter.all false
set_option maxRecDepth 100000
set_option maxHeartbeats 4000000
namespace Rv
open PySem PySem.Spec PyProof.Rows L2
/-- what is neither the river nor its list stays -/
def Kp (H H' : Hp) (r l : Addr) : Prop := ∀ b u, H b = some u → b ≠ r → b ≠ l → H' b = some u
theorem cnt_none {x : Nat} : ∀ {l : List Nat}, x ∉ l → cnt x l = 0
  | [], _ => rfl
  | y :: l, h => by
    rw [cnt_cons, cnt_none (fun z => h (List.mem_cons_of_mem _ z)), if_neg (fun e => h (by rw [e]; exact List.mem_cons_self))]
theorem cnt_once {x : Nat} : ∀ {l : List Nat}, l.Nodup → cnt x l ≤ 1
  | [], _ => Nat.zero_le _
  | y :: l, h => by
    have h' := List.nodup_cons.mp h
    rw [cnt_cons]
    by_cases e : y = x
    · rw [if_pos e, cnt_none (by rw [← e]; exact h'.1)]
      exact Nat.le_refl _
    · rw [if_neg e]
      have := cnt_once (x := x) h'.2
      omega
theorem go_cnt {bs p : List Nat} {n : Nat} (h1 : goes bs p = true) (h2 : Mu48.against bs n 0 p = none) (x : Nat) : cnt x p ≤ Mu48.bears bs x := by
  by_cases h : x ∈ p
  · have q1 := against_bears h2 x h
    have q2 := cnt_once (x := x) (rising_nodup (goes_rising h1))
    omega
  · rw [cnt_none h]
    exact Nat.zero_le _
theorem bears_used (bs p : List Nat) (x : Nat) : Mu48.bears (Mu48.used bs p) x = Mu48.bears bs x - cnt x p := by
  cases x with
  | zero =>
    unfold Mu48.bears
    rw [if_pos rfl, if_pos rfl]
    omega
  | succ z =>
    rw [bears_at, bears_at]
    by_cases h : z < bs.length
    · rw [used_getD bs p h]
      rfl
    · rw [List.getD_eq_getElem?_getD, List.getD_eq_getElem?_getD, List.getElem?_eq_none_iff.mpr (by rw [used_length]; omega), List.getElem?_eq_none_iff.mpr (by omega)]
      show 0 = 0 - _
      omega
def spGo (C : Addr) : Sp := fun vs H Q _ => ∃ (r l c : Addr) (bs p : List Nat) (n a b e : Nat), vs = [.ref r, .int n, .ref c] ∧ RvS C H r l bs a b e ∧ H c = some (.lst (nv p)) ∧ c ≠ l ∧
  ((Mu48.isLeap n && goes bs p) = false → Fresh H Q [-1]) ∧ (Mu48.isLeap n = true → goes bs p = true → ∀ x, Mu48.against bs n 0 p = some x → Fresh H Q [x.1, (x.2 : Int)]) ∧
  (Mu48.isLeap n = true → goes bs p = true → Mu48.against bs n 0 p = none → ∀ (H' : Hp) (t : Addr), RvS C H' r l (Mu48.used bs p) (a + 1) (b + p.length) e → Kp H H' r l → H t = none → H' t = some (.lst (iv [(p.length : Int)])) → Q (.ref t) H')
def spCross (C : Addr) : Sp := fun vs H Q _ => ∃ (r l : Addr) (bs : List Nat) (n k a b e : Nat), vs = [.ref r, .int n, .int k] ∧ RvS C H r l bs a b e ∧ bs.length ≤ 1000 ∧ n ≤ 1000 ∧
  ((Mu48.isLeap n && Mu48.isMany k) = false → Fresh H Q [-1]) ∧ ((Mu48.isLeap n && Mu48.isMany k) = true → Mu48.can bs n k = false → Fresh H Q [-6]) ∧
  ((Mu48.isLeap n && Mu48.isMany k) = true → Mu48.can bs n k = true → ∀ (H' : Hp) (t : Addr), RvS C H' r l (Mu48.trodden bs (Mu48.plan bs n k)) (a + k) (b + Mu48.total ((Mu48.plan bs n k).map List.length)) e → Kp H H' r l → H t = none →
    H' t = some (.lst (iv [((Mu48.total ((Mu48.plan bs n k).map List.length) : Nat) : Int)])) → Q (.ref t) H')
abbrev badL (bs : List Nat) (x m : Nat) : Prop := x = 0 ∨ Mu48.bank bs ≤ x ∨ m = 0 ∨ Mu48.HOLD < Mu48.bears bs x + m
def spLay (C : Addr) : Sp := fun vs H Q _ => ∃ (r l : Addr) (bs : List Nat) (x m a b e : Nat), vs = [.ref r, .int x, .int m] ∧ RvS C H r l bs a b e ∧ (badL bs x m → Fresh H Q [-1]) ∧
  (¬ badL bs x m → ∀ (H' : Hp) (t : Addr), RvS C H' r l (bs.set (x - 1) (Mu48.bears bs x + m)) a b (e + m) → Kp H H' r l → H t = none → H' t = some (.lst (iv [((Mu48.bears bs x + m : Nat) : Int)])) → Q (.ref t) H')
def spCould (K : PySem.W.Frag) : Sp := fun vs H Q _ => ∃ (a : Addr) (bs : List Nat) (n k : Nat), vs = [.ref a, .int n, .int k] ∧ SqL K H a (nv bs) ∧ bs.length ≤ 1000 ∧ n ≤ 1000 ∧
  ∀ (H' : Hp), Same H H' → Q (.bl (Mu48.can (List.replicate bs.length 5) n k)) H'
section
variable {P : Program} {w : World} {K : PySem.W.Frag} {mg : Str → Option Value} {base : Heap}
theorem sc_begin : FnScope ["river", "bears"] ["river", "bears"] (defScope sBegin) := ⟨rfl, rfl, rfl, by decide +kernel, rfl, by decide +kernel, by decide +kernel⟩
theorem ok_begin {f C : Addr} {fd : FuncData} (F : Fun K "begin" "begin" sBegin f fd) (T : Cl4 K C) (g1 : Gi mg "DOES_NOT_FIT" (-1)) (gw : Gi mg "MOST_PLACES" 11) (gh : Gi mg "MOST_BORNE" 5)
    (gl : mg "len" = none) (gm : mg "max" = none) (gli : mg "list" = none) : FnOk P w K mg base CX0 1 f fd ["river", "bears"] (spBegin C) := by
  refine F.ok sc_begin (fun vs H Q E h => ?_) (fun cdv A outer s H vs Q E hr h => ?_)
  · obtain ⟨r, l, c, bs, ys, a, b, e, rfl, _⟩ := h
    rfl
  · obtain ⟨r, l, c, bs, ys, a, b, e, rfl, hRv, hc, k1, k2⟩ := h
    have hcr := hRv.neL hc
    obtain ⟨⟨dx, hR⟩, hL⟩ := hRv
    refine ⟨_, pss_cons (ps_if (PW.pt (pw_or (pt_cmpR op_lt (pe_callB call_len_seq (by rfl) gl PySem.boot_len (pa_cons (pv 1) pa_nil)) pe_int (nomark _)) (pw_or (pt_cmpR op_gt (pe_callB call_len_seq (by rfl) gl PySem.boot_len (pa_cons (pv 1) pa_nil)) (pe_gi rfl gw) (nomark _))
          (pw_or1 (pt_cmpR op_gt (pe_callB (cr_max rfl) (by rfl) gm PyProof.Rows.boot_max (pa_cons (pv 1) pa_nil)) (pe_gi rfl gh) (nomark _)))))) (pss_one (ps_ret (pe_lst (pa_cons (pe_gi rfl g1) pa_nil)))) pss_nil)
      (pss_cons (ps_fld (pv 0) (pe_callTy call_list_of (by rfl) gli PyProof.Rows.boot_list (pa_cons (pv 1) pa_nil)) rfl)
      (pss_cons (ps_fld (pv 0) pe_int rfl) (pss_cons (ps_fld (pv 0) pe_int rfl) (pss_cons (ps_fld (pv 0) pe_int rfl) (pss_one (ps_ret (pe_lst (pa_cons pe_int pa_nil)))))))), ?_⟩
    have first : badB ys → ([] : List V).length + 1 ≤ sizeLine ∧ ∀ p, H p = none → Q (.ref p) (upd H p (.lst [V.int (-1)])) := fun hb => ⟨line1, fun p hp => k1 hb _ p (Same.laid hp) hp upd_same⟩
    refine ⟨_, rfl, c, _, rfl, .inl (SqL.of hc), _, _, rfl, rfl, _, rfl, ite2 (fun h1 => ?_) (fun h1 => ?_)⟩
    · have h1 : (((nv ys).length : Nat) : Int) < 1 := of_decide_eq_true h1
      rw [nv_length] at h1
      exact first (.inl (by rw [List.isEmpty_iff]; exact List.eq_nil_of_length_eq_zero (by omega)))
    · have h1 : ¬ (((nv ys).length : Nat) : Int) < 1 := fun z => h1 (decide_eq_true z)
      rw [nv_length] at h1
      refine ⟨_, rfl, c, _, rfl, .inl (SqL.of hc), _, _, rfl, rfl, _, rfl, ite2 (fun h2 => ?_) (fun h2 => ?_)⟩
      · have h2 : (11 : Int) < (((nv ys).length : Nat) : Int) := of_decide_eq_true h2
        rw [nv_length] at h2
        exact first (.inr (.inl (by unfold Mu48.WIDE; omega)))
      · have h2 : ¬ (11 : Int) < (((nv ys).length : Nat) : Int) := fun z => h2 (decide_eq_true z)
        rw [nv_length] at h2
        refine ⟨_, rfl, c, (ys.map (fun (n : Nat) => (n : Int))), rfl, SqL.of (by rw [hc, nv_ints]), (by rw [List.length_map]; omega), fun m hm hall => ?_⟩
        obtain ⟨y, hy, rfl⟩ := List.mem_map.mp hm
        refine ⟨_, _, rfl, rfl, _, rfl, ite2 (fun h3 => ?_) (fun h3 => ?_)⟩
        · have h3 : (5 : Int) < (y : Int) := of_decide_eq_true h3
          exact first (.inr (.inr (List.any_eq_true.mpr ⟨y, hy, decide_eq_true (by unfold Mu48.HOLD; omega)⟩)))
        · have h3 : ¬ (5 : Int) < (y : Int) := fun z => h3 (decide_eq_true z)
          have good : ¬ badB ys := by
            rintro (z | z | z)
            · rw [List.isEmpty_iff] at z
              rw [z] at hy
              cases hy
            · unfold Mu48.WIDE at z
              omega
            · obtain ⟨x, hx, hx5⟩ := List.any_eq_true.mp z
              have q1 := of_decide_eq_true hx5
              have q2 := hall (x : Int) (List.mem_map.mpr ⟨x, hx, rfl⟩)
              unfold Mu48.HOLD at q1
              omega
          refine ⟨_, rfl, c, _, rfl, .inl (SqL.of hc), fun l' hl' => ?_⟩
          have hlr : r ≠ l' := ne_of_none hR hl'
          refine ⟨_, rfl, r, C, dx, _, rfl, Eq.trans (upd_ne hlr) hR, T.c.cl, T.c.nB, (by show (4 : Nat) < 1000; decide), ?_⟩
          rw [put_bears]
          refine ⟨_, rfl, r, C, dx, _, rfl, upd_same, T.c.cl, T.nP, (by show (4 : Nat) < 1000; decide), ?_⟩
          rw [put_people l' a b e 0 (z := 0) rfl]
          refine ⟨_, rfl, r, C, dx, _, rfl, upd_same, T.c.cl, T.nS, (by show (4 : Nat) < 1000; decide), ?_⟩
          rw [put_steps l' 0 b e 0 (z := 0) rfl]
          refine ⟨_, rfl, r, C, dx, _, rfl, upd_same, T.c.cl, T.nL, (by show (4 : Nat) < 1000; decide), ?_⟩
          rw [put_laid l' 0 0 e 0 (z := 0) rfl]
          refine ⟨line1, fun t ht => ?_⟩
          obtain ⟨ht1, htr⟩ := none_of_upd ht
          obtain ⟨ht2, _⟩ := none_of_upd ht1
          obtain ⟨ht3, _⟩ := none_of_upd ht2
          obtain ⟨ht4, _⟩ := none_of_upd ht3
          obtain ⟨ht5, htl⟩ := none_of_upd ht4
          refine k2 good _ t l' ⟨⟨dx, ?_⟩, ?_⟩ hl' (Ne.symm hlr) ?_ ht5 upd_same
          · rw [upd_ne (Ne.symm htr)]
            exact upd_same
          · rw [upd_ne (Ne.symm htl), upd_ne (Ne.symm hlr), upd_ne (Ne.symm hlr), upd_ne (Ne.symm hlr), upd_ne (Ne.symm hlr)]
            exact upd_same
          · intro b' u hb hbr
            rw [upd_ne (ne_of_none hb ht5), upd_ne hbr, upd_ne hbr, upd_ne hbr, upd_ne hbr, upd_ne (ne_of_none hb hl')]
            exact hb
theorem sc_go : FnScope ["river", "leap", "path", "hindrance"] ["river", "leap", "path"] (defScope sGo) := ⟨rfl, rfl, rfl, by decide +kernel, rfl, by decide +kernel, by decide +kernel⟩
theorem ok_go {f C : Addr} {fd : FuncData} (F : Fun K "go" "go" sGo f fd) (T : Cl4 K C) (DL : Def P w K mg base 1 "leap_fits" ["leap"] spLeapFits) (DR : Def P w K mg base 2 "rises_between_banks" ["bears", "path"] (spRises K))
    (DH : Def P w K mg base 2 "first_hindrance" ["bears", "leap", "path"] (spHind K)) (DG : Def P w K mg base 1 "get_over" ["river", "path"] (spGetOver C)) (g1 : Gi mg "DOES_NOT_FIT" (-1)) (gl : mg "len" = none) : FnOk P w K mg base CX0 3 f fd ["river", "leap", "path"] (spGo C) := by
  refine F.ok sc_go (fun vs H Q E h => ?_) (fun cdv A outer s H vs Q E hr h => ?_)
  · obtain ⟨r, l, c, bs, p, n, a, b, e, rfl, _⟩ := h
    rfl
  · obtain ⟨r, l, c, bs, p, n, a, b, e, rfl, hRv, hc, hcl, k1, k2, k3⟩ := h
    have hr1 : Room 1 _ := hr.mono (by decide)
    have hcr := hRv.neL hc
    have hRv0 := hRv
    obtain ⟨⟨dx, hR⟩, hL⟩ := hRv
    refine ⟨_, pss_cons (ps_if (PW.pt (pw_or (pt_not (pt_val (pe_def DL hr1 (by rfl) (pa_cons (pv 1) pa_nil)))) (pw_or1 (pt_not (pt_val (pe_def DR hr (by rfl) (pa_cons (pe_fld (pv 0) rfl) (pa_cons (pv 2) pa_nil)))))))) (pss_one (ps_ret (pe_lst (pa_cons (pe_gi rfl g1) pa_nil)))) pss_nil)
      (pss_cons (ps_set (i := 3) sc_go.nd rfl (Or.inl rfl) (pe_def DH hr (by rfl) (pa_cons (pe_fld (pv 0) rfl) (pa_cons (pv 1) (pa_cons (pv 2) pa_nil)))))
      (pss_cons (ps_if (pt_cmpR op_gt (pe_callB call_len_seq (by rfl) gl PySem.boot_len (pa_cons (pv 3) pa_nil)) pe_int (nomark _)) (pss_one (ps_ret (pv 3))) pss_nil)
      (pss_cons (ps_expr (pe_def DG hr1 (by rfl) (pa_cons (pv 0) (pa_cons (pv 2) pa_nil))))
      (pss_one (ps_ret (pe_lst (pa_cons (pe_callB call_len_seq (by rfl) gl PySem.boot_len (pa_cons (pv 2) pa_nil)) pa_nil))))))), ?_⟩
    have first : (Mu48.isLeap n && goes bs p) = false → ([] : List V).length + 1 ≤ sizeLine ∧ ∀ p, H p = none → Q (.ref p) (upd H p (.lst [V.int (-1)])) := fun h1 => ⟨line1, fun p hp => k1 h1 _ p (Same.laid hp) hp upd_same⟩
    refine ⟨_, rfl, n, rfl, _, rfl, ?_⟩
    cases h1 : Mu48.isLeap n with
    | false => exact first (by rw [h1]; rfl)
    | true =>
      refine ⟨_, rfl, r, C, dx, _, _, rfl, hR, T.c.cl, T.c.nB, rfl, _, rfl, l, c, bs, p, rfl, SqL.of hL, SqL.of hc, _, rfl, ite_not (fun h2 => ?_) (fun h2 => ?_)⟩
      · exact first (by rw [h1, h2]; rfl)
      · refine ⟨_, rfl, r, C, dx, _, _, rfl, hR, T.c.cl, T.c.nB, rfl, _, rfl, _, rfl, l, c, bs, p, n, rfl, SqL.of hL, SqL.of hc, goes_place h2, fun H1 q s1 hq hq1 => ?_⟩
        refine ⟨_, rfl, q, _, rfl, .inl (SqL.of hq1), _, _, rfl, rfl, _, rfl, ?_⟩
        cases h3 : Mu48.against bs n 0 p with
        | some x =>
          have eh : hindA bs n p = [x.1, (x.2 : Int)] := by
            unfold hindA
            rw [h3]
          rw [eh] at hq1 ⊢
          exact ⟨_, rfl, k2 h1 h2 x h3 H1 q s1 hq hq1⟩
        | none =>
          have eh : hindA bs n p = [] := by
            unfold hindA
            rw [h3]
          rw [eh] at hq1 ⊢
          refine ⟨_, rfl, _, rfl, r, l, c, bs, p, a, b, e, rfl, hRv0.same s1, s1 _ _ hc, hcl, goes_place h2, go_cnt h2 h3, fun H2 hR2 kp2 => ?_⟩
          refine ⟨_, rfl, c, _, rfl, .inl (SqL.of ((kp2 c hcr hcl).trans (s1 _ _ hc))), line1, fun t ht => ?_⟩
          rw [nv_length]
          have htr : t ≠ r := fun z => by
            obtain ⟨u, hu⟩ := hR2.atR
            rw [z, hu] at ht
            cases ht
          have htl : t ≠ l := fun z => by
            rw [z, hR2.2] at ht
            cases ht
          have ht1 : H1 t = none := by rw [← kp2 t htr htl]; exact ht
          refine k3 h1 h2 h3 _ t (hR2.same (Same.laid ht)) (fun b u hb hbr hbl => ?_) (s1.free ht1) upd_same
          rw [upd_ne (ne_of_none hb (s1.free ht1)), kp2 b hbr hbl]
          exact s1 _ _ hb
theorem sc_lay : FnScope ["river", "place", "steps"] ["river", "place", "steps"] (defScope sLay) := ⟨rfl, rfl, rfl, by decide +kernel, rfl, by decide +kernel, by decide +kernel⟩
theorem ok_lay {f C : Addr} {fd : FuncData} (F : Fun K "lay" "lay" sLay f fd) (T : Cl4 K C) (DB : Def P w K mg base 1 "far_bank" ["bears"] (spFarBank K)) (DO : Def P w K mg base 1 "lay_on" ["river", "place", "steps"] (spLayOn C))
    (g1 : Gi mg "DOES_NOT_FIT" (-1)) (gh : Gi mg "MOST_BORNE" 5) : FnOk P w K mg base CX0 2 f fd ["river", "place", "steps"] (spLay C) := by
  refine F.ok sc_lay (fun vs H Q E h => ?_) (fun cdv A outer s H vs Q E hr h => ?_)
  · obtain ⟨r, l, bs, x, m, a, b, e, rfl, _⟩ := h
    rfl
  · obtain ⟨r, l, bs, x, m, a, b, e, rfl, hRv, k1, k2⟩ := h
    have hRv0 := hRv
    obtain ⟨⟨dx, hR⟩, hL⟩ := hRv
    refine ⟨_, pss_cons (ps_if (PW.pt (pw_or (pt_cmpR op_lt (pv 1) pe_int (nomark _)) (pw_or (pt_cmpR op_ge (pv 1) (pe_def DB hr (by rfl) (pa_cons (pe_fld (pv 0) rfl) pa_nil)) (nomark _)) (pw_or1 (pt_cmpR op_eq (pv 2) pe_int (nomark _)))))) (pss_one (ps_ret (pe_lst (pa_cons (pe_gi rfl g1) pa_nil)))) pss_nil)
      (pss_cons (ps_if (pt_cmpR op_gt (pe_op op_add (pe_ix ix_list (pe_fld (pv 0) rfl) (pe_op op_sub (pv 1) pe_int) (fun _ _ => rfl)) (pv 2)) (pe_gi rfl gh) (nomark _)) (pss_one (ps_ret (pe_lst (pa_cons (pe_gi rfl g1) pa_nil)))) pss_nil)
      (pss_cons (ps_expr (pe_def DO hr (by rfl) (pa_cons (pv 0) (pa_cons (pv 1) (pa_cons (pv 2) pa_nil)))))
      (pss_one (ps_ret (pe_lst (pa_cons (pe_ix ix_list (pe_fld (pv 0) rfl) (pe_op op_sub (pv 1) pe_int) (fun _ _ => rfl)) pa_nil)))))), ?_⟩
    have first : badL bs x m → ([] : List V).length + 1 ≤ sizeLine ∧ ∀ p, H p = none → Q (.ref p) (upd H p (.lst [V.int (-1)])) := fun h1 => ⟨line1, fun p hp => k1 h1 _ p (Same.laid hp) hp upd_same⟩
    refine ⟨_, rfl, _, _, rfl, rfl, _, rfl, ite2 (fun h1 => ?_) (fun h1 => ?_)⟩
    · have h1 : (x : Int) < 1 := of_decide_eq_true h1
      exact first (.inl (by omega))
    · have h1 : ¬ (x : Int) < 1 := fun z => h1 (decide_eq_true z)
      refine ⟨_, rfl, _, rfl, r, C, dx, _, _, rfl, hR, T.c.cl, T.c.nB, rfl, l, bs, rfl, SqL.of hL, _, _, rfl, rfl, _, rfl, ite2 (fun h2 => ?_) (fun h2 => ?_)⟩
      · have h2 : ((Mu48.bank bs : Nat) : Int) ≤ (x : Int) := of_decide_eq_true h2
        exact first (.inr (.inl (by omega)))
      · have h2 : ¬ ((Mu48.bank bs : Nat) : Int) ≤ (x : Int) := fun z => h2 (decide_eq_true z)
        refine ⟨_, rfl, rfl, _, rfl, ite_zero (fun h3 => ?_) (fun h3 => ?_)⟩
        · exact first (.inr (.inr (.inl h3)))
        · refine ⟨_, rfl, r, C, dx, _, _, rfl, hR, T.c.cl, T.c.nB, rfl, _, rfl, _, _, rfl, rfl, l, _, _, _, rfl, rfl, SqL.of hL, at_place (x := x) (by omega) (by omega) rfl, _, rfl, _, _, rfl, rfl, _, _, rfl, rfl, _, rfl, ite2 (fun h4 => ?_) (fun h4 => ?_)⟩
          · have h4 : (5 : Int) < ((Mu48.bears bs x : Nat) : Int) + (m : Int) := of_decide_eq_true h4
            exact first (.inr (.inr (.inr (by unfold Mu48.HOLD; omega))))
          · have h4 : ¬ (5 : Int) < ((Mu48.bears bs x : Nat) : Int) + (m : Int) := fun z => h4 (decide_eq_true z)
            have good : ¬ badL bs x m := by
              rintro (z | z | z | z)
              · omega
              · omega
              · omega
              · unfold Mu48.HOLD at z
                omega
            refine ⟨_, rfl, _, rfl, _, rfl, r, l, bs, a, b, e, x, m, rfl, hRv0, by omega, by omega, fun H2 hR2 kp2 => ?_⟩
            obtain ⟨⟨dx2, hr2⟩, hl2⟩ := hR2
            have hbk : Mu48.bank (bs.set (x - 1) (Mu48.bears bs x + m)) = Mu48.bank bs := by unfold Mu48.bank; rw [List.length_set]
            have hbe : Mu48.bears (bs.set (x - 1) (Mu48.bears bs x + m)) x = Mu48.bears bs x + m := by
              obtain ⟨z, rfl⟩ : ∃ z, x = z + 1 := ⟨x - 1, by omega⟩
              have hz : z < bs.length := by unfold Mu48.bank at h2; omega
              rw [bears_at (bs.set _ _), Nat.add_sub_cancel, List.getD_eq_getElem?_getD, List.getElem?_set_self hz]
              rfl
            refine ⟨_, rfl, r, C, dx2, _, _, rfl, hr2, T.c.cl, T.c.nB, rfl, _, rfl, _, _, rfl, rfl, l, _, _, _, rfl, rfl, SqL.of hl2, at_place (x := x) (by omega) (by rw [hbk]; omega) rfl, line1, fun t ht => ?_⟩
            rw [hbe]
            have htr : t ≠ r := fun z => by
              rw [z, hr2] at ht
              cases ht
            have htl : t ≠ l := fun z => by
              rw [z, hl2] at ht
              cases ht
            have ht1 : H t = none := by rw [← kp2 t htr htl]; exact ht
            refine k2 good _ t (RvS.same ⟨⟨dx2, hr2⟩, hl2⟩ (Same.laid ht)) (fun b u hb hbr hbl => ?_) ht1 upd_same
            rw [upd_ne (ne_of_none hb ht1), kp2 b hbr hbl]
            exact hb
theorem sc_could : FnScope ["bears", "leap", "people"] ["bears", "leap", "people"] (defScope sCould) := ⟨rfl, rfl, rfl, by decide +kernel, rfl, by decide +kernel, by decide +kernel⟩
theorem ok_could {f : Addr} {fd : FuncData} (F : Fun K "could_be_mended" "could_be_mended" sCould f fd) (DC : Def P w K mg base 2 "can_get_over" ["bears", "leap", "people"] (spCan K)) (gh : Gi mg "MOST_BORNE" 5) (gl : mg "len" = none) : FnOk P w K mg base CX0 3 f fd ["bears", "leap", "people"] (spCould K) := by
  refine F.ok sc_could (fun vs H Q E h => ?_) (fun cdv A outer s H vs Q E hr h => ?_)
  · obtain ⟨a, bs, n, k, rfl, _⟩ := h
    rfl
  · obtain ⟨a, bs, n, k, rfl, hS, hb, hn, kk⟩ := h
    refine ⟨_, pss_one (ps_ret (pe_def DC hr (by rfl) (pa_cons (pe_op op_rep (pe_lst (pa_cons (pe_gi rfl gh) pa_nil)) (pe_callB call_len_seq (by rfl) gl PySem.boot_len (pa_cons (pv 0) pa_nil))) (pa_cons (pv 1) (pa_cons (pv 2) pa_nil))))), ?_⟩
    refine ⟨line1, fun p hp => ?_⟩
    refine ⟨_, rfl, a, _, rfl, .inl ((Same.laid hp).seq hS), ?_⟩
    rw [nv_length]
    refine ⟨p, _, _, rfl, rfl, upd_same, by omega, by omega, ?_, fun q hq => ?_⟩
    · rw [Int.toNat_natCast]
      refine Nat.le_of_lt (small1000' ?_)
      show 1 * _ ≤ _
      omega
    · obtain ⟨hq1, hqp⟩ := none_of_upd hq
      rw [rep_nv bs.length 5 (z := (bs.length : Int)) (y := 5) rfl rfl]
      exact ⟨_, rfl, _, rfl, q, List.replicate bs.length 5, n, k, rfl, SqL.of upd_same, by rw [List.length_replicate]; exact hb, hn, fun H' s' => kk H' ((Same.laid' hq1 (Same.laid hp)).trans s')⟩
end
end Rv

set_option Elab.async false
set_option linter.all false
set_option maxRecDepth 100000
namespace Rv
/-! ### what is laid, once more -/
theorem can_full {L n k : Nat} (h : Mu48.can (List.replicate L 5) n k = true) (hn : n < L + 1) : k ≤ 5 * n := by
  rw [can_sums] at h
  have hi : (sumsOf (List.replicate L 5) n)[0]? = some (Mu48.total (((List.replicate L 5).drop 0).take n)) := sumsOf_at (by unfold Mu48.bank; rw [List.length_replicate]; omega)
  have hy := List.mem_of_getElem? hi
  have e1 := sums_full _ _ _ hy
  have e2 := of_decide_eq_true (List.all_eq_true.mp h _ hy)
  omega
theorem set_own {r : List Nat} {x : Nat} (h1 : 1 ≤ x) : r.set (x - 1) (Mu48.bears r x) = r := by
  obtain ⟨z, rfl⟩ : ∃ z, x = z + 1 := ⟨x - 1, by omega⟩
  rw [bears_at, Nat.add_sub_cancel]
  refine List.ext_getElem? fun i => ?_
  rw [List.getElem?_set]
  by_cases e : z = i
  · subst e
    rw [if_pos rfl]
    by_cases h : z < r.length
    · rw [if_pos h, getD_some h]
    · rw [if_neg h, List.getElem?_eq_none_iff.mpr (by omega)]
  · rw [if_neg e]
theorem fill_zero : ∀ (f x : Nat) (r : List Nat), f ≤ x → Mu48.fill f x 0 r = (r, 0)
  | 0, _, _, _ => rfl
  | f + 1, x, r, h => by
    rw [fill_step, Nat.zero_min, Nat.add_zero, set_own (by omega), Nat.sub_zero]
    exact fill_zero f (x - 1) r (by omega)
theorem fill_ge : ∀ (f x m : Nat) (r : List Nat), f ≤ x → ∀ i, r.getD i 0 ≤ (Mu48.fill f x m r).1.getD i 0
  | 0, _, _, _, _, _ => Nat.le_refl _
  | f + 1, x, m, r, h, i => by
    rw [fill_step]
    refine Nat.le_trans ?_ (fill_ge f (x - 1) _ _ (by omega) i)
    obtain ⟨z, rfl⟩ : ∃ z, x = z + 1 := ⟨x - 1, by omega⟩
    rw [bears_at, Nat.add_sub_cancel]
    rw [List.getD_eq_getElem?_getD (l := r.set _ _), List.getElem?_set]
    by_cases e : z = i
    · subst e
      rw [if_pos rfl]
      by_cases h : z < r.length
      · rw [if_pos h]
        show _ ≤ _ + _
        omega
      · rw [if_neg h, List.getD_eq_getElem?_getD, List.getElem?_eq_none_iff.mpr (by omega)]
        exact Nat.le_refl _
    · rw [if_neg e, List.getD_eq_getElem?_getD]
      exact Nat.le_refl _
theorem fold_ge {n k : Nat} : ∀ (l : List Nat) (s : List Nat), (∀ x ∈ l, 1 ≤ x) → ∀ i, s.getD i 0 ≤ (l.foldl (mfill n k) s).getD i 0
  | [], _, _, _ => Nat.le_refl _
  | x :: l, s, h, i => by
    have hx := h x List.mem_cons_self
    refine Nat.le_trans ?_ (fold_ge l (mfill n k s x) (fun y hy => h y (List.mem_cons_of_mem _ hy)) i)
    unfold mfill
    exact fill_ge n (x + n - 1) _ s (by omega) i
theorem total_zip : ∀ (s r : List Nat), s.length = r.length → (∀ i, r.getD i 0 ≤ s.getD i 0) → Mu48.total (List.zipWith (fun (a b : Nat) => a - b) s r) + Mu48.total r = Mu48.total s
  | [], [], _, _ => rfl
  | [], _ :: _, h, _ => by cases h
  | _ :: _, [], h, _ => by cases h
  | a :: s, b :: r, h, hi => by
    have h0 : b ≤ a := hi 0
    have ih := total_zip s r (Nat.succ.inj h) fun i => hi (i + 1)
    rw [List.zipWith_cons_cons, total_cons, total_cons, total_cons]
    omega
theorem zip_at {s r : List Nat} {i : Nat} (h1 : i < s.length) (h2 : i < r.length) : (List.zipWith (fun (a b : Nat) => a - b) s r)[i]? = some (s.getD i 0 - r.getD i 0) := by
  rw [List.getElem?_zipWith, getD_some h1, getD_some h2]
/-- the river that is laid for k -/
def laidR (bs : List Nat) (n k : Nat) : List Nat := (Mu48.stretches bs n).foldl (mfill n k) bs
def laidTo (bs : List Nat) (n k i : Nat) : List Nat := ((Mu48.stretches bs n).take i).foldl (mfill n k) bs
theorem stretches_length (bs : List Nat) (n : Nat) : (Mu48.stretches bs n).length = Mu48.bank bs - n := by
  unfold Mu48.stretches
  rw [List.length_map, List.length_range]
theorem laidTo_all (bs : List Nat) (n k : Nat) : laidTo bs n k (Mu48.bank bs - n) = laidR bs n k := by
  unfold laidTo laidR
  rw [List.take_of_length_le (by rw [stretches_length]; exact Nat.le_refl _)]
theorem laidTo_succ {bs : List Nat} {n k i : Nat} (h : i < Mu48.bank bs - n) : laidTo bs n k (i + 1) = mfill n k (laidTo bs n k i) (i + 1) := by
  have e : (Mu48.stretches bs n)[i]? = some (i + 1) := by
    unfold Mu48.stretches
    rw [List.getElem?_map, List.getElem?_range h]
    rfl
  unfold laidTo
  rw [take_snoc e, List.foldl_append]
  rfl
theorem laidTo_low {bs : List Nat} (h : Low bs) (n k i : Nat) : Low (laidTo bs n k i) ∧ (laidTo bs n k i).length = bs.length := fold_low _ _ h
theorem laidR_low {bs : List Nat} (h : Low bs) (n k : Nat) : Low (laidR bs n k) ∧ (laidR bs n k).length = bs.length := fold_low _ _ h
theorem laidR_ge (bs : List Nat) (n k : Nat) : ∀ i, bs.getD i 0 ≤ (laidR bs n k).getD i 0 := fold_ge _ _ fun x hx => (stretches_mem hx).1
theorem mended_laid {bs : List Nat} {n k : Nat} (h : Low bs) : Mu48.mended bs n k = if Mu48.can (List.replicate bs.length 5) n k = true then some (laidR bs n k) else none := mended_can h
theorem low_used {bs : List Nat} (h : Low bs) (p : List Nat) : Low (Mu48.used bs p) := fun b hb => by
  unfold Mu48.used at hb
  obtain ⟨i, _, rfl⟩ := List.mem_map.mp hb
  have := getD_low h i
  omega
theorem splice_set {s r : List Nat} {i : Nat} (hi : i < r.length) (hl : s.length = r.length) {v : Nat} (hv : v = s.getD i 0) : (s.take i ++ r.drop i).set i v = s.take (i + 1) ++ r.drop (i + 1) := by
  have e1 : (s.take i).length = i := by rw [List.length_take]; omega
  have e2 : r.drop i = r[i] :: r.drop (i + 1) := List.drop_eq_getElem_cons hi
  rw [List.set_append_right _ _ (by omega), e1, Nat.sub_self, e2, List.set_cons_zero, take_snoc (getD_some (by omega : i < s.length)), List.append_assoc, hv]
  rfl
theorem splice_bears {s r : List Nat} {i : Nat} (hi : i < r.length) (hl : s.length = r.length) : Mu48.bears (s.take i ++ r.drop i) (i + 1) = r.getD i 0 := by
  have e1 : (s.take i).length = i := by rw [List.length_take]; omega
  rw [bears_at, List.getD_eq_getElem?_getD, List.getElem?_append_right (by omega), e1, Nat.sub_self, List.getElem?_drop, List.getD_eq_getElem?_getD, Nat.add_zero]
theorem splice_length {s r : List Nat} {i : Nat} (hi : i ≤ r.length) (hl : s.length = r.length) : (s.take i ++ r.drop i).length = r.length := by
  rw [List.length_append, List.length_take, List.length_drop]
  omega
end Rv

set_option Elab.async false
set_option linter.all false
set_option maxRecDepth 100000
set_option maxHeartbeats 4000000
namespace Rv
open PySem PySem.Spec PyProof.Rows L2
def lastE : List Stmt → Expr
  | [.Return (some e) _] => e
  | _ :: l => lastE l
  | [] => .Constant .none 0 ⟨0, 0, 0, 0⟩
def lstHd : Expr → Expr
  | .List (e :: _) _ => e
  | e => e
theorem total_take {l : List Nat} {i x : Nat} (h : l[i]? = some x) : Mu48.total (l.take (i + 1)) = Mu48.total (l.take i) + x := by
  rw [take_snoc h, total_append, total_cons, total_nil]
  omega
theorem map_at {ps : List (List Nat)} {i : Nat} {q : List Nat} (h : ps[i]? = some q) : (ps.map List.length)[i]? = some q.length := by
  rw [List.getElem?_map, h]
  rfl
section
variable {P : Program} {w : World} {K : PySem.W.Frag} {mg : Str → Option Value} {base : Heap}
theorem blk_cross : BlkOk ["river", "leap", "people", "paths", "path"] (defScope sCross) (lcScope (allArg (lstHd (lastE (defBody sCross))))) [("path", 4)] := ⟨rfl, by decide +kernel, by decide +kernel, by decide +kernel, by decide +kernel⟩
theorem sc_cross : FnScope ["river", "leap", "people", "paths", "path"] ["river", "leap", "people"] (defScope sCross) := ⟨rfl, rfl, rfl, by decide +kernel, rfl, by decide +kernel, by decide +kernel⟩
theorem ok_cross {f C : Addr} {fd : FuncData} (F : Fun K "cross" "cross" sCross f fd) (T : Cl4 K C) (DL : Def P w K mg base 1 "leap_fits" ["leap"] spLeapFits) (DM : Def P w K mg base 1 "people_fit" ["people"] spPeopleFit)
    (DC : Def P w K mg base 2 "can_get_over" ["bears", "leap", "people"] (spCan K)) (DP : Def P w K mg base 2 "planned_paths" ["bears", "leap", "people"] (spPaths K)) (DG : Def P w K mg base 1 "get_over" ["river", "path"] (spGetOver C))
    (g1 : Gi mg "DOES_NOT_FIT" (-1)) (g6 : Gi mg "BEARS_TOO_LITTLE" (-6)) (gl : mg "len" = none) (gs : mg "sum" = none) : FnOk P w K mg base CX0 3 f fd ["river", "leap", "people"] (spCross C) := by
  refine F.ok sc_cross (fun vs H Q E h => ?_) (fun cdv A outer s H vs Q E hr h => ?_)
  · obtain ⟨r, l, bs, n, k, a, b, e, rfl, _⟩ := h
    rfl
  · obtain ⟨r, l, bs, n, k, a, b, e, rfl, hRv, hb, hn, k1, k2, k3⟩ := h
    have hr1 : Room 1 _ := hr.mono (by decide)
    refine ⟨_, pss_cons (ps_if (PW.pt (pw_or (pt_not (pt_val (pe_def DL hr1 (by rfl) (pa_cons (pv 1) pa_nil)))) (pw_or1 (pt_not (pt_val (pe_def DM hr1 (by rfl) (pa_cons (pv 2) pa_nil))))))) (pss_one (ps_ret (pe_lst (pa_cons (pe_gi rfl g1) pa_nil)))) pss_nil)
      (pss_cons (ps_if (pt_not (pt_val (pe_def DC hr (by rfl) (pa_cons (pe_fld (pv 0) rfl) (pa_cons (pv 1) (pa_cons (pv 2) pa_nil)))))) (pss_one (ps_ret (pe_lst (pa_cons (pe_gi rfl g6) pa_nil)))) pss_nil)
      (pss_cons (ps_set (i := 3) sc_cross.nd rfl (Or.inl rfl) (pe_def DP hr (by rfl) (pa_cons (pe_fld (pv 0) rfl) (pa_cons (pv 1) (pa_cons (pv 2) pa_nil)))))
      (pss_cons (ps_for PassesOwn.never rfl (pi_list (pv 3)) (pg_name (i := 4) sc_cross.nd rfl (Or.inl rfl)) (pss_one (ps_expr (pe_def DG hr1 (by rfl) (pa_cons (pv 0) (pa_cons (pv 4) pa_nil))))))
      (pss_one (ps_ret (pe_lst (pa_cons (pe_callB (cr_sum rfl) (by rfl) gs PyProof.Rows.boot_sum (pa_cons (pe_lc (own := [("path", 4)]) rfl sc_cross.nd (pi_list (pv 3)) blk_cross
        (fun s H C cl fp => pg_name (i := 4) sc_cross.nd rfl (Or.inl rfl)) (fun s H C cl fp => pts_nil)
        (fun s H C cl fp => pe_callB (show CallR _ (.builtin "len") (fun xs H Q => ∃ p ys, xs = [.ref p] ∧ (SqL K H p ys ∨ SqT K H p ys) ∧ Q (.int ys.length) H) from call_len_seq) (by rfl) gl PySem.boot_len (pa_cons (pv 4) pa_nil))) pa_nil)) pa_nil))))))), ?_⟩
    have first : (Mu48.isLeap n && Mu48.isMany k) = false → ([] : List V).length + 1 ≤ sizeLine ∧ ∀ p, H p = none → Q (.ref p) (upd H p (.lst [V.int (-1)])) := fun h1 => ⟨line1, fun p hp => k1 h1 _ p (Same.laid hp) hp upd_same⟩
    refine ⟨_, rfl, n, rfl, _, rfl, ?_⟩
    cases h1 : Mu48.isLeap n with
    | false => exact first (by rw [h1]; rfl)
    | true =>
      refine ⟨_, rfl, k, rfl, _, rfl, ite_not (fun h2 => ?_) (fun h2 => ?_)⟩
      · exact first (by rw [h1, h2]; rfl)
      · have hk : 1 ≤ k ∧ k ≤ 20 := by
          unfold Mu48.isMany Mu48.MANY at h2
          rw [Bool.and_eq_true] at h2
          exact ⟨of_decide_eq_true h2.1, of_decide_eq_true h2.2⟩
        have h12 : (Mu48.isLeap n && Mu48.isMany k) = true := by rw [h1, h2]; rfl
        have hRv0 := hRv
        obtain ⟨⟨dx, hR⟩, hL⟩ := hRv
        refine ⟨_, rfl, r, C, dx, _, _, rfl, hR, T.c.cl, T.c.nB, rfl, _, rfl, _, rfl, l, bs, n, k, rfl, SqL.of hL, hb, hn, fun H1 s1 => ?_⟩
        refine ⟨_, rfl, ite_not (fun h3 => ?_) (fun h3 => ?_)⟩
        · exact ⟨line1, fun q hq => k2 h12 h3 _ q (Same.laid' (s1.free hq) s1) (s1.free hq) upd_same⟩
        · refine ⟨_, rfl, r, C, dx, _, _, rfl, s1 _ _ hR, T.c.cl, T.c.nB, rfl, _, rfl, _, rfl, l, bs, n, k, rfl, SqL.of (s1 _ _ hL), hb, hn, hk.1, by omega, fun H3 p s3 hp hP => ?_⟩
          obtain ⟨as, hpp, hal, hfr, hat⟩ := hP
          have s13 := s1.trans s3
          have hpr : p ≠ r := Ne.symm (ne_of_none (s1 _ _ hR) hp)
          have hpl : p ≠ l := Ne.symm (ne_of_none (s1 _ _ hL) hp)
          have hcr : ∀ c ∈ as, c ≠ r := fun c hc => Ne.symm (ne_of_none (s1 _ _ hR) (hfr c hc).1)
          have hcl : ∀ c ∈ as, c ≠ l := fun c hc => Ne.symm (ne_of_none (s1 _ _ hL) (hfr c hc).1)
          have hlp : (Mu48.plan bs n k).length = k := plan_length bs n k
          refine ⟨_, rfl, p, rfl, ⟨_, SqL.of hpp⟩, ?_⟩
          refine for_list (K := K) (a := p) (xs := as.map V.ref) (fun i σ H' => ∃ v : Option V, σ = [some (.ref r), some (.int n), some (.int k), some (.ref p), v] ∧
              RvS C H' r l (Mu48.used bs ((Mu48.plan bs n k).take i).flatten) (a + i) (b + Mu48.total (((Mu48.plan bs n k).map List.length).take i)) e ∧ ∀ x, x ≠ r → x ≠ l → H' x = H3 x)
            ⟨none, rfl, ?_, fun x _ _ => rfl⟩ (fun i σ H' _ ⟨_, _, _, h⟩ => SqL.of ((h p hpr hpl).trans hpp)) ?_ ?_
          · rw [List.take_zero, List.take_zero, List.flatten_nil, used_nil]
            exact hRv0.same s13
          · rintro i y σ H' hy ⟨v, rfl, hRi, kp⟩
            obtain ⟨c, hc, rfl⟩ : ∃ c, as[i]? = some c ∧ y = V.ref c := by
              rw [List.getElem?_map] at hy
              cases e : as[i]? with
              | none =>
                rw [e] at hy
                cases hy
              | some c =>
                rw [e] at hy
                exact ⟨c, rfl, (Option.some.inj hy).symm⟩
            have hcm := List.mem_of_getElem? hc
            have hil : i < (Mu48.plan bs n k).length := by
              rw [← hal]
              exact (List.getElem?_eq_some_iff.mp hc).1
            obtain ⟨pt, hpt⟩ : ∃ pt, (Mu48.plan bs n k)[i]? = some pt := ⟨_, List.getElem?_eq_getElem hil⟩
            have hc4 := (kp c (hcr c hcm) (hcl c hcm)).trans (hat i c pt hc hpt)
            have hptm := List.mem_of_getElem? hpt
            have hfl : ((Mu48.plan bs n k).take (i + 1)).flatten = ((Mu48.plan bs n k).take i).flatten ++ pt := by
              rw [take_snoc hpt, List.flatten_append, List.flatten_singleton]
            refine ⟨_, rfl, _, rfl, r, l, c, _, pt, _, _, e, rfl, hRi, hc4, hcl c hcm, fun x hx => ?_, fun x => ?_, fun H4 hR4 kp4 => ?_⟩
            · have := plan_place hk.1 hptm hx
              unfold Mu48.bank at this ⊢
              rw [used_length]
              exact this
            · rw [bears_used]
              have q1 := plan_count (bs := bs) (n := n) hk.1 x
              have q2 : cnt x (Mu48.plan bs n k).flatten = cnt x ((Mu48.plan bs n k).take (i + 1)).flatten + cnt x ((Mu48.plan bs n k).drop (i + 1)).flatten := by
                rw [← cnt_append, ← List.flatten_append, List.take_append_drop]
              rw [hfl, cnt_append] at q2
              omega
            · refine ⟨_, rfl, ?_, fun x h1 h2 => (kp4 x h1 h2).trans (kp x h1 h2)⟩
              rw [hfl, ← used_used, total_take (map_at hpt), ← Nat.add_assoc b]
              exact hR4
          · rintro σ H' ⟨v, rfl, hRi, kp⟩
            rw [List.length_map, hal, List.take_length, ← trodden_flatten, List.take_of_length_le (by rw [List.length_map]; exact Nat.le_refl _)] at hRi
            have hp4 : H' p = some (.lst (as.map V.ref)) := (kp p hpr hpl).trans hpp
            refine ⟨_, rfl, p, rfl, ⟨_, SqL.of hp4⟩, fun D hD => ?_⟩
            refine lc_list (K := K) (xs := as.map V.ref) (fun i H'' => Same H' H'' ∧ H'' D = some (.lst (nv (((Mu48.plan bs n k).map List.length).take i)))) ⟨Same.laid hD, upd_same⟩ (fun i H'' _ ⟨s2, _⟩ => SqL.of (s2 _ _ hp4)) ?_ ?_
            · rintro i x H'' hx ⟨hs, hd⟩
              refine ⟨rfl, ?_⟩
              obtain ⟨c, hc, rfl⟩ : ∃ c, as[i]? = some c ∧ x = V.ref c := by
                rw [List.getElem?_map] at hx
                cases e : as[i]? with
                | none =>
                  rw [e] at hx
                  cases hx
                | some c =>
                  rw [e] at hx
                  exact ⟨c, rfl, (Option.some.inj hx).symm⟩
              have hcm := List.mem_of_getElem? hc
              have hil : i < (Mu48.plan bs n k).length := by
                rw [← hal]
                exact (List.getElem?_eq_some_iff.mp hc).1
              obtain ⟨pt, hpt⟩ : ∃ pt, (Mu48.plan bs n k)[i]? = some pt := ⟨_, List.getElem?_eq_getElem hil⟩
              have hc4 := hs _ _ ((kp c (hcr c hcm) (hcl c hcm)).trans (hat i c pt hc hpt))
              refine ⟨_, rfl, c, _, rfl, .inl (SqL.of hc4), _, hd, ?_, Same.laid' hD hs, ?_⟩
              · rw [nv_length, List.length_take, List.length_map, hlp]
                exact Nat.lt_of_le_of_lt (Nat.min_le_right _ _) (small1000' (by omega))
              · rw [upd_same, nv_snoc _ pt.length (by rw [nv_length]), take_snoc (map_at hpt)]
            · rintro H'' ⟨hs, hd⟩
              rw [List.length_map, hal, List.take_of_length_le (by rw [List.length_map]; exact Nat.le_refl _)] at hd
              refine ⟨D, (((Mu48.plan bs n k).map List.length).map (fun (n : Nat) => (n : Int))), rfl, SqL.of (by rw [hd, nv_ints]), line1, fun t ht => ?_⟩
              rw [sum_total]
              have hRv5 := hRi.same hs
              have ht1 := hs.free ht
              have htr : t ≠ r := fun z => by
                obtain ⟨u, hu⟩ := hRi.atR
                rw [z, hu] at ht1
                cases ht1
              have htl : t ≠ l := fun z => by
                rw [z, hRi.2] at ht1
                cases ht1
              have ht2 : H3 t = none := by rw [← kp t htr htl]; exact ht1
              have ht3 : H t = none := s13.free ht2
              rw [hlp] at hRv5
              refine k3 h12 h3 _ t (hRv5.same (Same.laid ht)) (fun b u hb hbr hbl => ?_) ht3 upd_same
              rw [upd_ne (ne_of_none hb ht3)]
              exact hs _ _ ((kp b hbr hbl).trans (s13 _ _ hb))
end
end Rv

set_option Elab.async false
set_option linter.all false
set_option maxRecDepth 100000
set_option maxHeartbeats 4000000
namespace Rv
open PySem PySem.Spec PyProof.Rows L2
def spBorne (K : PySem.W.Frag) : Sp := fun vs H Q _ => ∃ (a : Addr) (bs : List Nat) (n k : Nat), vs = [.ref a, .int n, .int k] ∧ SqL K H a (nv bs) ∧ Low bs ∧ bs.length ≤ 1000 ∧ n ≤ 1000 ∧ Mu48.can (List.replicate bs.length 5) n k = true ∧
  ∀ (H' : Hp) (p : Addr), Same H H' → H p = none → H' p = some (.lst (nv (laidR bs n k))) → Q (.ref p) H'
def spLaidFor (K : PySem.W.Frag) : Sp := fun vs H Q _ => ∃ (a : Addr) (bs : List Nat) (n k : Nat), vs = [.ref a, .int n, .int k] ∧ SqL K H a (nv bs) ∧ Low bs ∧ bs.length ≤ 1000 ∧ n ≤ 1000 ∧ Mu48.can (List.replicate bs.length 5) n k = true ∧
  ∀ (H' : Hp) (p : Addr), Same H H' → H p = none → H' p = some (.lst (nv (List.zipWith (fun (a b : Nat) => a - b) (laidR bs n k) bs))) → Q (.ref p) H'
def mendA (bs : List Nat) (n k : Nat) : List Int := if (Mu48.isLeap n && Mu48.isMany k) = false then [-1] else match Mu48.mended bs n k with
    | none => [-6]
    | some r => Mu48.nums ((Mu48.total r - Mu48.total bs) :: List.zipWith (fun (a b : Nat) => a - b) r bs)
def spMend (C : Addr) : Sp := fun vs H Q _ => ∃ (r l : Addr) (bs : List Nat) (n k : Nat), vs = [.ref r, .int n, .int k] ∧ RvAt C H r l bs ∧ Low bs ∧ bs.length ≤ 1000 ∧ n ≤ 1000 ∧ Fresh H Q (mendA bs n k)
theorem lc_zip {K : PySem.W.Frag} {a b : Addr} {xs ys : List V} {g : TG} {tt : TT} {te : TE} {vs : List Nat} {σ : L2.St} {R : Hp → Prop} {H1 : Hp} {D : Addr} (hxy : xs.length = ys.length) (Pv : Nat → Hp → Prop) (h0 : Pv 0 (upd H1 D (.lst []))) (hl : ∀ i H, i ≤ xs.length → Pv i H → SqL K H a xs ∧ SqL K H b ys)
    (turn : ∀ i x y H T, xs[i]? = some x → ys[i]? = some y → Pv i H → H T = none → g (.ref T) (wipe σ vs) (upd H T (.tup [x, y])) fun σ2 H2 => wipe σ2 vs = wipe σ vs ∧ tt σ2 H2 fun b H3 => if b = true then te σ2 H3 fun y H4 => ∃ acc, H4 D = some (.lst acc) ∧ acc.length < sizeLine ∧ Pv (i + 1) (upd H4 D (.lst (acc ++ [y]))) else Pv (i + 1) H3)
    (fin : ∀ H, Pv xs.length H → R H) :
    ∃ W : Nat → Nat → Hp → Prop, (∃ m, W 0 m (upd H1 D (.lst []))) ∧ ∀ i m H, W i m H →
      ((Itz K a b).stop i H ∧ R H) ∨ ((Itz K a b).go i H ∧ ∃ Nx : Hp → Prop, (∀ H', Nx H' → ∃ m', m' < m ∧ W (i + 1) m' H') ∧ ∀ x H', (Itz K a b).yld i H x H' → g x (wipe σ vs) H' fun σ2 H2 => wipe σ2 vs = wipe σ vs ∧ tt σ2 H2 fun b H3 =>
        if b = true then te σ2 H3 fun y H4 => ∃ acc, H4 D = some (.lst acc) ∧ acc.length < sizeLine ∧ Nx (upd H4 D (.lst (acc ++ [y]))) else Nx H3) := by
  refine ⟨fun i m H => m = xs.length - i ∧ i ≤ xs.length ∧ Pv i H, ⟨xs.length, by simp, Nat.zero_le _, h0⟩, ?_⟩
  rintro i m H ⟨rfl, hi, p⟩
  obtain ⟨q1, q2⟩ := hl i H hi p
  by_cases hlt : i < xs.length
  · refine .inr ⟨⟨xs, ys, xs[i], ys[i]'(by omega), q1, q2, by simp [hlt], by simp [hxy ▸ hlt]⟩, Pv (i + 1), fun H' p' => ⟨xs.length - (i + 1), by omega, rfl, hlt, p'⟩, fun x H' y => ?_⟩
    obtain ⟨T, u, v, rfl, hT, rfl, hx, hy⟩ := y
    exact turn i u v _ T (hx xs q1) (hy ys q2) p hT
  · have e : i = xs.length := by omega
    subst e
    exact .inl ⟨⟨xs, ys, q1, q2, .inl (Nat.le_refl _)⟩, fin H p⟩
theorem cut_tail (x : Nat) (l : List Nat) : cutV (nv (x :: l)) (some 1) none = nv l := by
  unfold cutV
  have e : HT.sIx (nv (x :: l)).length 0 (some (1 : Int)) = 1 := by
    rw [show (1 : Int) = ((1 : Nat) : Int) from rfl, HT.sIx_nat, nv_length]
    exact Nat.min_eq_left (Nat.succ_le_succ (Nat.zero_le _))
  rw [e, HT.sIx_none]
  show ((nv l).take ((nv (x :: l)).length - 1)) = nv l
  rw [List.take_of_length_le]
  rw [nv_length, nv_length]
  exact Nat.le_refl _
section
variable {P : Program} {w : World} {K : PySem.W.Frag} {mg : Str → Option Value} {base : Heap}
theorem sc_borne : FnScope ["bears", "leap", "people", "borne", "last", "missing", "place", "more"] ["bears", "leap", "people"] (defScope sBorne) := ⟨rfl, rfl, rfl, by decide +kernel, rfl, by decide +kernel, by decide +kernel⟩
theorem ok_borne {f : Addr} {fd : FuncData} (F : Fun K "borne_when_mended" "borne_when_mended" sBorne f fd) (DB : Def P w K mg base 1 "far_bank" ["bears"] (spFarBank K)) (gh : Gi mg "MOST_BORNE" 5)
    (gli : mg "list" = none) (gr : mg "range" = none) (gs : mg "sum" = none) (gm : mg "min" = none) : FnOk P w K mg base CX0 2 f fd ["bears", "leap", "people"] (spBorne K) := by
  refine F.ok sc_borne (fun vs H Q E h => ?_) (fun cdv A outer s H vs Q E hr h => ?_)
  · obtain ⟨a, bs, n, k, rfl, _⟩ := h
    rfl
  · obtain ⟨a, bs, n, k, rfl, hS, hlow, hb, hn, hcan, kk⟩ := h
    refine ⟨_, pss_cons (ps_set (i := 3) sc_borne.nd rfl (Or.inl rfl) (pe_callTy call_list_of (by rfl) gli PyProof.Rows.boot_list (pa_cons (pv 0) pa_nil)))
      (pss_cons (ps_for PassesOwn.never rfl (pi_range2 rfl gr (pa_cons (pv 1) (pa_cons (pe_def DB hr (by rfl) (pa_cons (pv 0) pa_nil)) pa_nil))) (pg_name (i := 4) sc_borne.nd rfl (Or.inl rfl))
        (pss_cons (ps_set (i := 5) sc_borne.nd rfl (Or.inl rfl) (pe_op op_sub (pv 2) (pe_callB (cr_sum rfl) (by rfl) gs PyProof.Rows.boot_sum (pa_cons (pe_slice sl_list (pv 3) (po_some (pe_op op_sub (pv 4) (pv 1))) (po_some (pv 4))) pa_nil))))
        (pss_cons (ps_set (i := 6) sc_borne.nd rfl (Or.inl rfl) (pv 4))
        (pss_one (ps_while PassesOwn.never (pt_cmpR op_gt (pv 5) pe_int (nomark _))
          (pss_cons (ps_set (i := 7) sc_borne.nd rfl (Or.inl rfl) (pe_callB (call_min2 rfl) (by rfl) gm PyProof.Rows.boot_min (pa_cons (pv 5) (pa_cons (pe_op op_sub (pe_gi rfl gh) (pe_ix ix_list (pv 3) (pe_op op_sub (pv 6) pe_int) (fun _ _ => rfl))) pa_nil))))
          (pss_cons (ps_asg (pe_op op_add (pe_ix ix_list (pv 3) (pe_op op_sub (pv 6) pe_int) (fun _ _ => rfl)) (pv 7)) (pg_sub (pv 3) (pe_op op_sub (pv 6) pe_int) set_list))
          (pss_cons (ps_set (i := 5) sc_borne.nd rfl (Or.inl rfl) (pe_op op_sub (pv 5) (pv 7)))
          (pss_one (ps_set (i := 6) sc_borne.nd rfl (Or.inl rfl) (pe_op op_sub (pv 6) pe_int)))))))))))
      (pss_one (ps_ret (pv 3)))), ?_⟩
    refine ⟨_, rfl, a, _, rfl, .inl hS, fun q hq => ?_⟩
    have s1 : Same H (upd H q (.lst (nv bs))) := Same.laid hq
    have hbk : Mu48.bank bs ≤ 1001 := by unfold Mu48.bank; omega
    refine ⟨_, rfl, _, rfl, a, bs, rfl, s1.seq hS, _, _, rfl, ⟨by omega, by omega, by omega, by omega⟩, ?_⟩
    rw [show (((Mu48.bank bs : Nat) : Int) - (n : Int)).toNat = Mu48.bank bs - n by omega]
    refine for_range (fun i σ H' => ∃ v4 v5 v6 v7 : Option V, σ = [some (.ref a), some (.int n), some (.int k), some (.ref q), v4, v5, v6, v7] ∧ Same H H' ∧ H' q = some (.lst (nv (laidTo bs n k i))))
      ⟨none, none, none, none, rfl, s1, upd_same⟩ ?_ ?_
    · rintro i σ H' hi ⟨v4, v5, v6, v7, rfl, s2, hq2⟩
      obtain ⟨lowS, lenS⟩ := laidTo_low hlow n k i
      have hin : i + n ≤ bs.length := by unfold Mu48.bank at hi; omega
      have hk5 : k ≤ 5 * n := can_full hcan (by unfold Mu48.bank at hi; omega)
      have hrest : (Mu48.fill n (i + 1 + n - 1) (k - Mu48.stretch (laidTo bs n k i) (i + 1) n) (laidTo bs n k i)).2 = 0 := (fill_stretch lowS k (by omega) (by omega)).mpr hk5
      have hdone : laidTo bs n k (i + 1) = (Mu48.fill n (i + 1 + n - 1) (k - Mu48.stretch (laidTo bs n k i) (i + 1) n) (laidTo bs n k i)).1 := laidTo_succ hi
      rw [show i + 1 + n - 1 = i + n by omega] at hrest hdone
      have hst : Mu48.stretch (laidTo bs n k i) (i + 1) n = Mu48.total (((laidTo bs n k i).drop i).take n) := rfl
      rw [hst] at hrest hdone
      refine ⟨_, rfl, _, rfl, _, rfl, _, rfl, _, _, rfl, rfl, _, rfl, _, rfl, _, rfl, q, _, rfl, SqL.of hq2, fun c hc => ?_⟩
      rw [nv_cut (laidTo bs n k i) i n (by omega) (by omega)]
      refine ⟨c, ((((laidTo bs n k i).drop i).take n).map (fun (n : Nat) => (n : Int))), rfl, SqL.of (by rw [upd_same, nv_ints]), _, _, rfl, rfl, ?_⟩
      rw [sum_total]
      have hqc : q ≠ c := ne_of_none hq2 hc
      refine ⟨_, rfl, ?_⟩
      refine ⟨fun m σ H'' => ∃ (f x : Nat) (z : Int) (s : List Nat) (v7 : Option V), m = f ∧ σ = [some (.ref a), some (.int n), some (.int k), some (.ref q), some (.int ((n : Int) + (i : Int))), some (.int z), some (.int (x : Nat)), v7] ∧ Same H H'' ∧ H'' q = some (.lst (nv s)) ∧ Low s ∧ s.length = bs.length ∧ f ≤ x ∧ x ≤ bs.length ∧
          Mu48.fill f x z.toNat s = Mu48.fill n (i + n) (k - Mu48.total (((laidTo bs n k i).drop i).take n)) (laidTo bs n k i),
        ⟨n, n, i + n, (k : Int) - (Mu48.total (((laidTo bs n k i).drop i).take n) : Nat), laidTo bs n k i, v7, rfl, ?_, Same.laid' (s2.free hc) s2, Eq.trans (upd_ne hqc) hq2, lowS, lenS, by omega, hin, ?_⟩, ?_⟩
      · show [some (V.ref a), some (V.int n), some (V.int k), some (V.ref q), some (V.int ((n : Int) + (i : Int))), some (V.int _), some (V.int ((n : Int) + (i : Int))), v7] = _
        rw [show ((n : Int) + (i : Int)) = ((i + n : Nat) : Int) by omega]
      · rw [show ((k : Int) - (Mu48.total (((laidTo bs n k i).drop i).take n) : Nat)).toNat = k - Mu48.total (((laidTo bs n k i).drop i).take n) by omega]
      · rintro m σ H'' ⟨f, x, z, s', v7', rfl, rfl, s3, hq3, low3, len3, hfx, hxl, hfill⟩
        refine ⟨_, rfl, _, _, rfl, rfl, _, rfl, ite2 (fun h1 => ?_) (fun h1 => ?_)⟩
        · have h1 : (0 : Int) < z := of_decide_eq_true h1
          obtain ⟨g, rfl⟩ : ∃ g, m = g + 1 := by
            cases m with
            | zero =>
              exfalso
              rw [← hfill] at hrest
              have : z.toNat = 0 := hrest
              omega
            | succ g => exact ⟨g, rfl⟩
          have hbear := bears_low low3 x
          have hx2 : x < Mu48.bank s' := by unfold Mu48.bank; omega
          refine ⟨fun σ' H4 => ∃ m', m' < g + 1 ∧ _, fun σ' H4 h => h, ?_⟩
          refine ⟨_, rfl, _, rfl, _, rfl, _, _, rfl, rfl, q, _, _, _, rfl, rfl, SqL.of hq3, at_place (x := x) (by omega) hx2 rfl, _, _, rfl, rfl, _, _, rfl, ?_⟩
          have em : (if (5 : Int) - ((Mu48.bears s' x : Nat) : Int) < z then (5 : Int) - ((Mu48.bears s' x : Nat) : Int) else z) = ((min z.toNat (5 - Mu48.bears s' x) : Nat) : Int) := by
            by_cases h : (5 : Int) - ((Mu48.bears s' x : Nat) : Int) < z
            · rw [if_pos h]
              omega
            · rw [if_neg h]
              omega
          rw [em]
          refine ⟨_, rfl, _, rfl, _, _, rfl, rfl, q, _, _, _, rfl, rfl, SqL.of hq3, at_place (x := x) (by omega) hx2 rfl, _, rfl, _, _, rfl, rfl, ?_⟩
          refine ⟨_, rfl, _, rfl, _, _, rfl, rfl, q, _, _, x - 1, rfl, rfl, hq3, ixN_nat (by omega) (by rw [nv_length]; omega), ?_⟩
          rw [nv_set (y := Mu48.bears s' x + min z.toNat (5 - Mu48.bears s' x)) (by omega)]
          refine ⟨_, rfl, _, rfl, _, _, rfl, rfl, ?_⟩
          refine ⟨_, rfl, _, _, rfl, rfl, ?_⟩
          refine ⟨g, Nat.lt_succ_self g, g, x - 1, z - ((min z.toNat (5 - Mu48.bears s' x) : Nat) : Int), s'.set (x - 1) (Mu48.bears s' x + min z.toNat (5 - Mu48.bears s' x)), some (.int ((min z.toNat (5 - Mu48.bears s' x) : Nat) : Int)), rfl, ?_, Same.laid' hq s3, upd_same, low_set low3 _ _ (by omega), by rw [List.length_set]; exact len3, by omega, by omega, ?_⟩
          · show [some (V.ref a), some (V.int n), some (V.int k), some (V.ref q), some (V.int ((n : Int) + (i : Int))), some (V.int (z - _)), some (V.int ((x : Int) - 1)), _] = _
            rw [show ((x : Int) - 1) = ((x - 1 : Nat) : Int) by omega]
          · rw [← hfill, fill_step]
            congr 1
            omega
        · have h1 : ¬ (0 : Int) < z := fun y => h1 (decide_eq_true y)
          rw [show z.toNat = 0 by omega, fill_zero m x s' hfx] at hfill
          refine ⟨_, _, _, _, rfl, s3, ?_⟩
          rw [hdone, ← hfill]
          exact hq3
    · rintro σ H' ⟨v4, v5, v6, v7, rfl, s2, hq2⟩
      rw [laidTo_all] at hq2
      exact ⟨_, rfl, kk H' q s2 hq hq2⟩
end
end Rv

set_option Elab.async false
set_option linter.all false
set_option maxRecDepth 100000
set_option maxHeartbeats 4000000
namespace Rv
open PySem PySem.Spec PyProof.Rows L2
def spDo (C : Addr) : Sp := fun vs H Q _ => ∃ (r l : Addr) (bs : List Nat) (n k a b e : Nat), vs = [.ref r, .int n, .int k] ∧ RvS C H r l bs a b e ∧ Low bs ∧ bs.length ≤ 1000 ∧ n ≤ 1000 ∧
  ((Mu48.isLeap n && Mu48.isMany k) = false → Fresh H Q [-1]) ∧ ((Mu48.isLeap n && Mu48.isMany k) = true → Mu48.mended bs n k = none → Fresh H Q [-6]) ∧
  ((Mu48.isLeap n && Mu48.isMany k) = true → ∀ x, Mu48.mended bs n k = some x → ∀ (H' : Hp) (t : Addr), RvS C H' r l x a b (e + (Mu48.total x - Mu48.total bs)) → Kp H H' r l → H t = none →
    H' t = some (.lst (iv [((Mu48.total x - Mu48.total bs : Nat) : Int)])) → Q (.ref t) H')
section
variable {P : Program} {w : World} {K : PySem.W.Frag} {mg : Str → Option Value} {base : Heap}
theorem blk_laidfor : BlkOk ["bears", "leap", "people", "then", "now"] (defScope sLaidFor) (lcScope (retOf (defBody sLaidFor))) [("then", 3), ("now", 4)] := ⟨rfl, by decide +kernel, by decide +kernel, by decide +kernel, by decide +kernel⟩
theorem sc_laidfor : FnScope ["bears", "leap", "people", "then", "now"] ["bears", "leap", "people"] (defScope sLaidFor) := ⟨rfl, rfl, rfl, by decide +kernel, rfl, by decide +kernel, by decide +kernel⟩
theorem ok_laidfor {f : Addr} {fd : FuncData} (F : Fun K "laid_for" "laid_for" sLaidFor f fd) (DB : Def P w K mg base 2 "borne_when_mended" ["bears", "leap", "people"] (spBorne K)) (gz : mg "zip" = none) : FnOk P w K mg base CX0 3 f fd ["bears", "leap", "people"] (spLaidFor K) := by
  refine F.ok sc_laidfor (fun vs H Q E h => ?_) (fun cdv A outer s H vs Q E hr h => ?_)
  · obtain ⟨a, bs, n, k, rfl, _⟩ := h
    rfl
  · obtain ⟨a, bs, n, k, rfl, hS, hlow, hb, hn, hcan, kk⟩ := h
    refine ⟨_, pss_one (ps_ret (pe_lc (own := [("then", 3), ("now", 4)]) rfl sc_laidfor.nd (pi_zip (by rfl) gz (pa_cons (pe_def DB hr (by rfl) (pa_cons (pv 0) (pa_cons (pv 1) (pa_cons (pv 2) pa_nil)))) (pa_cons (pv 0) pa_nil)))
      blk_laidfor (fun s H C cl fp => show PG _ _ (gTup K 2 (gCons (gName 3) (gCons (gName 4) gNil))) from pg_tup rfl (pgs_cons (pg_name (i := 3) sc_laidfor.nd rfl (Or.inl rfl)) (pgs_cons (pg_name (i := 4) sc_laidfor.nd rfl (Or.inl rfl)) pgs_nil))) (fun s H C cl fp => pts_nil)
      (fun s H C cl fp => pe_op op_sub (pv 3) (pv 4)))), ?_⟩
    obtain ⟨lowR, lenR⟩ := laidR_low hlow n k
    refine ⟨_, rfl, _, rfl, _, rfl, a, bs, n, k, rfl, hS, hlow, hb, hn, hcan, fun H1 p s1 hp h1 => ?_⟩
    refine ⟨_, rfl, p, a, _, _, rfl, SqL.of h1, s1.seq hS, fun D hD => ?_⟩
    refine lc_zip (K := K) (xs := nv (laidR bs n k)) (ys := nv bs) (by rw [nv_length, nv_length]; exact lenR) (fun i H' => Same H1 H' ∧ H' D = some (.lst (nv ((List.zipWith (fun (a b : Nat) => a - b) (laidR bs n k) bs).take i)))) ⟨Same.laid hD, upd_same⟩ (fun i H' _ ⟨s2, _⟩ => ⟨SqL.of (s2 _ _ h1), s2.seq (s1.seq hS)⟩) ?_ ?_
    · rintro i x y H' T' hx hy ⟨hs, hd⟩ hT
      obtain ⟨u, hu, rfl⟩ := nv_of_at hx
      obtain ⟨v, hv, rfl⟩ := nv_of_at hy
      have hi1 : i < (laidR bs n k).length := (List.getElem?_eq_some_iff.mp hu).1
      have hi2 : i < bs.length := (List.getElem?_eq_some_iff.mp hv).1
      have eu : (laidR bs n k).getD i 0 = u := by rw [List.getD_eq_getElem?_getD, hu]; rfl
      have ev : bs.getD i 0 = v := by rw [List.getD_eq_getElem?_getD, hv]; rfl
      have hge := laidR_ge bs n k i
      rw [eu, ev] at hge
      have hat := zip_at hi1 hi2
      rw [eu, ev] at hat
      have hDT : D ≠ T' := ne_of_none hd hT
      refine ⟨T', _, rfl, SqT.of upd_same, rfl, _, _, rfl, _, _, rfl, rfl, rfl, ?_⟩
      refine ⟨_, rfl, _, rfl, _, _, rfl, rfl, _, Eq.trans (upd_ne hDT) hd, ?_, Same.laid' hD (Same.laid' (hs.free hT) hs), ?_⟩
      · rw [nv_length, List.length_take, List.length_zipWith, lenR]
        exact Nat.lt_of_le_of_lt (Nat.min_le_right _ _) (small1000' (by omega))
      · rw [upd_same, nv_snoc _ (u - v) (by omega), take_snoc hat]
    · rintro H' ⟨hs, hd⟩
      rw [nv_length, List.take_of_length_le (by rw [List.length_zipWith]; omega)] at hd
      exact kk H' D (s1.trans hs) (s1.free hD) hd
theorem sc_mend : FnScope ["river", "leap", "people", "laid"] ["river", "leap", "people"] (defScope sMend) := ⟨rfl, rfl, rfl, by decide +kernel, rfl, by decide +kernel, by decide +kernel⟩
theorem ok_mend {f C : Addr} {fd : FuncData} (F : Fun K "mend" "mend" sMend f fd) (T : Cl4 K C) (DL : Def P w K mg base 1 "leap_fits" ["leap"] spLeapFits) (DM : Def P w K mg base 1 "people_fit" ["people"] spPeopleFit)
    (DC : Def P w K mg base 3 "could_be_mended" ["bears", "leap", "people"] (spCould K)) (DF : Def P w K mg base 3 "laid_for" ["bears", "leap", "people"] (spLaidFor K))
    (g1 : Gi mg "DOES_NOT_FIT" (-1)) (g6 : Gi mg "BEARS_TOO_LITTLE" (-6)) (gs : mg "sum" = none) : FnOk P w K mg base CX0 4 f fd ["river", "leap", "people"] (spMend C) := by
  refine F.ok sc_mend (fun vs H Q E h => ?_) (fun cdv A outer s H vs Q E hr h => ?_)
  · obtain ⟨r, l, bs, n, k, rfl, _⟩ := h
    rfl
  · obtain ⟨r, l, bs, n, k, rfl, hRv, hlow, hb, hn, kk⟩ := h
    have hr1 : Room 1 _ := hr.mono (by decide)
    refine ⟨_, pss_cons (ps_if (PW.pt (pw_or (pt_not (pt_val (pe_def DL hr1 (by rfl) (pa_cons (pv 1) pa_nil)))) (pw_or1 (pt_not (pt_val (pe_def DM hr1 (by rfl) (pa_cons (pv 2) pa_nil))))))) (pss_one (ps_ret (pe_lst (pa_cons (pe_gi rfl g1) pa_nil)))) pss_nil)
      (pss_cons (ps_if (pt_not (pt_val (pe_def DC hr (by rfl) (pa_cons (pe_fld (pv 0) rfl) (pa_cons (pv 1) (pa_cons (pv 2) pa_nil)))))) (pss_one (ps_ret (pe_lst (pa_cons (pe_gi rfl g6) pa_nil)))) pss_nil)
      (pss_cons (ps_set (i := 3) sc_mend.nd rfl (Or.inl rfl) (pe_def DF hr (by rfl) (pa_cons (pe_fld (pv 0) rfl) (pa_cons (pv 1) (pa_cons (pv 2) pa_nil)))))
      (pss_one (ps_ret (pe_op op_cat (pe_lst (pa_cons (pe_callB (cr_sum rfl) (by rfl) gs PyProof.Rows.boot_sum (pa_cons (pv 3) pa_nil)) pa_nil)) (pv 3)))))), ?_⟩
    have first : (Mu48.isLeap n && Mu48.isMany k) = false → ([] : List V).length + 1 ≤ sizeLine ∧ ∀ p, H p = none → Q (.ref p) (upd H p (.lst [V.int (-1)])) := fun h1 => by
      refine ⟨line1, fun p hp => kk _ p (Same.laid hp) hp ?_⟩
      unfold mendA
      rw [if_pos h1]
      exact upd_same
    refine ⟨_, rfl, n, rfl, _, rfl, ?_⟩
    cases h1 : Mu48.isLeap n with
    | false => exact first (by rw [h1]; rfl)
    | true =>
      refine ⟨_, rfl, k, rfl, _, rfl, ite_not (fun h2 => ?_) (fun h2 => ?_)⟩
      · exact first (by rw [h1, h2]; rfl)
      · have ea : mendA bs n k = match Mu48.mended bs n k with
            | none => [-6]
            | some r => Mu48.nums ((Mu48.total r - Mu48.total bs) :: List.zipWith (fun (a b : Nat) => a - b) r bs) := by
          unfold mendA
          exact if_neg (by rw [h1, h2]; decide)
        rw [ea, mended_laid hlow] at kk
        obtain ⟨⟨dx, fs', hR, hf⟩, hL⟩ := hRv
        refine ⟨_, rfl, r, C, dx, fs', _, rfl, hR, T.c.cl, T.c.nB, hf, _, rfl, _, rfl, l, bs, n, k, rfl, SqL.of hL, hb, hn, fun H1 s1 => ?_⟩
        refine ⟨_, rfl, ite_not (fun h3 => ?_) (fun h3 => ?_)⟩
        · rw [if_neg (by rw [h3]; decide)] at kk
          exact ⟨line1, fun q hq => kk _ q (Same.laid' (s1.free hq) s1) (s1.free hq) upd_same⟩
        · rw [if_pos h3] at kk
          obtain ⟨lowR, lenR⟩ := laidR_low hlow n k
          have htz := total_zip (laidR bs n k) bs lenR (laidR_ge bs n k)
          refine ⟨_, rfl, r, C, dx, fs', _, rfl, s1 _ _ hR, T.c.cl, T.c.nB, hf, _, rfl, _, rfl, l, bs, n, k, rfl, SqL.of (s1 _ _ hL), hlow, hb, hn, h3, fun H2 p s2 hp hp2 => ?_⟩
          have s12 := s1.trans s2
          refine ⟨_, rfl, p, ((List.zipWith (fun (a b : Nat) => a - b) (laidR bs n k) bs).map (fun (n : Nat) => (n : Int))), rfl, SqL.of (by rw [hp2, nv_ints]), line1, fun q hq => ?_⟩
          rw [sum_total]
          have hpq : p ≠ q := ne_of_none hp2 hq
          refine ⟨_, rfl, q, p, _, _, rfl, rfl, upd_same, Eq.trans (upd_ne hpq) hp2, ?_, fun t ht => ?_⟩
          · rw [nv_length, List.length_zipWith]
            refine Nat.le_of_lt (small1000' ?_)
            show 1 + _ ≤ _
            omega
          · obtain ⟨ht1, htq⟩ := none_of_upd ht
            refine kk _ t (Same.laid' (s12.free ht1) (Same.laid' (s12.free hq) s12)) (s12.free ht1) ?_
            rw [upd_same]
            show _ = some (HO.lst (iv (Mu48.nums ((Mu48.total (laidR bs n k) - Mu48.total bs) :: List.zipWith (fun (a b : Nat) => a - b) (laidR bs n k) bs))))
            rw [nv_nums, show Mu48.total (laidR bs n k) - Mu48.total bs = Mu48.total (List.zipWith (fun (a b : Nat) => a - b) (laidR bs n k) bs) by omega]
            rfl
theorem sc_do : FnScope ["river", "leap", "people", "told", "place", "steps"] ["river", "leap", "people"] (defScope sDo) := ⟨rfl, rfl, rfl, by decide +kernel, rfl, by decide +kernel, by decide +kernel⟩
theorem ok_do {f C : Addr} {fd : FuncData} (F : Fun K "do" "do" sDo f fd) (T : Cl4 K C) (DM : Def P w K mg base 4 "mend" ["river", "leap", "people"] (spMend C)) (DO : Def P w K mg base 1 "lay_on" ["river", "place", "steps"] (spLayOn C)) (ge : mg "enumerate" = none) :
    FnOk P w K mg base CX0 5 f fd ["river", "leap", "people"] (spDo C) := by
  refine F.ok sc_do (fun vs H Q E h => ?_) (fun cdv A outer s H vs Q E hr h => ?_)
  · obtain ⟨r, l, bs, n, k, a, b, e, rfl, _⟩ := h
    rfl
  · obtain ⟨r, l, bs, n, k, a, b, e, rfl, hRv, hlow, hb, hn, k1, k2, k3⟩ := h
    have hr1 : Room 1 _ := hr.mono (by decide)
    refine ⟨_, pss_cons (ps_set (i := 3) sc_do.nd rfl (Or.inl rfl) (pe_def DM hr (by rfl) (pa_cons (pv 0) (pa_cons (pv 1) (pa_cons (pv 2) pa_nil)))))
      (pss_cons (ps_if (pt_cmpR op_lt (pe_ix ix_list (pv 3) pe_int (fun _ _ => rfl)) pe_int (nomark _)) (pss_one (ps_ret (pv 3))) pss_nil)
      (pss_cons (ps_for PassesOwn.never rfl (pi_enum1 rfl ge (pa_cons (pe_slice sl_list (pv 3) (po_some pe_int) po_none) pa_nil)) (pg_tup rfl (pgs_cons (pg_name (i := 4) sc_do.nd rfl (Or.inl rfl)) (pgs_cons (pg_name (i := 5) sc_do.nd rfl (Or.inl rfl)) pgs_nil)))
        (pss_one (ps_expr (pe_def DO hr1 (by rfl) (pa_cons (pv 0) (pa_cons (pv 4) (pa_cons (pv 5) pa_nil)))))))
      (pss_one (ps_ret (pe_lst (pa_cons (pe_ix ix_list (pv 3) pe_int (fun _ _ => rfl)) pa_nil)))))), ?_⟩
    refine ⟨_, rfl, _, rfl, _, rfl, r, l, bs, n, k, rfl, hRv.rv, hlow, hb, hn, fun H1 q s1 hq hq1 => ?_⟩
    have mA : mendA bs n k = if (Mu48.isLeap n && Mu48.isMany k) = false then [-1] else match Mu48.mended bs n k with
        | none => [-6]
        | some r => Mu48.nums ((Mu48.total r - Mu48.total bs) :: List.zipWith (fun (a b : Nat) => a - b) r bs) := rfl
    cases h12 : (Mu48.isLeap n && Mu48.isMany k) with
    | false =>
      rw [h12, if_pos rfl] at mA
      rw [mA] at hq1
      exact ⟨_, rfl, q, _, _, _, rfl, rfl, SqL.of hq1, at_of (j := 0) rfl rfl, _, _, rfl, rfl, _, rfl, ite2 (fun _ => ⟨_, rfl, k1 h12 H1 q s1 hq hq1⟩) (fun h => absurd (decide_eq_true (by decide)) h)⟩
    | true =>
      rw [h12, if_neg (by decide)] at mA
      cases hm : Mu48.mended bs n k with
      | none =>
        rw [hm] at mA
        have mA' : mendA bs n k = [-6] := mA
        rw [mA'] at hq1
        exact ⟨_, rfl, q, _, _, _, rfl, rfl, SqL.of hq1, at_of (j := 0) rfl rfl, _, _, rfl, rfl, _, rfl, ite2 (fun _ => ⟨_, rfl, k2 h12 hm H1 q s1 hq hq1⟩) (fun h => absurd (decide_eq_true (by decide)) h)⟩
      | some x =>
        rw [hm] at mA
        have mA' : mendA bs n k = Mu48.nums ((Mu48.total x - Mu48.total bs) :: List.zipWith (fun (a b : Nat) => a - b) x bs) := mA
        rw [mA', nv_nums] at hq1
        have hx : x = laidR bs n k := by
          have q := hm
          rw [mended_laid hlow] at q
          by_cases h : Mu48.can (List.replicate bs.length 5) n k = true
          · rw [if_pos h] at q
            exact (Option.some.inj q).symm
          · rw [if_neg h] at q
            cases q
        have lenX : x.length = bs.length := by rw [hx]; exact (laidR_low hlow n k).2
        have geX : ∀ i, bs.getD i 0 ≤ x.getD i 0 := by rw [hx]; exact laidR_ge bs n k
        have htz := total_zip x bs lenX geX
        have lenZ : (List.zipWith (fun (a b : Nat) => a - b) x bs).length = bs.length := by rw [List.length_zipWith, lenX, Nat.min_self]
        obtain ⟨ru, hru⟩ := hRv.atR
        have hqr : q ≠ r := Ne.symm (ne_of_none hru hq)
        have hql : q ≠ l := Ne.symm (ne_of_none hRv.2 hq)
        refine ⟨_, rfl, q, _, _, _, rfl, rfl, SqL.of hq1, at_of (j := 0) rfl (nv_at (m := Mu48.total x - Mu48.total bs) rfl), _, _, rfl, rfl, _, rfl, ite2 (fun h => absurd (of_decide_eq_true h) (by omega)) (fun _ => ?_)⟩
        refine ⟨_, rfl, _, rfl, q, _, rfl, SqL.of hq1, fun q2 hq2 => ?_⟩
        rw [cut_tail]
        have hq2r : q2 ≠ r := Ne.symm (ne_of_none (s1 _ _ hru) hq2)
        have hq2l : q2 ≠ l := Ne.symm (ne_of_none (s1 _ _ hRv.2) hq2)
        refine ⟨q2, _, rfl, SqL.of upd_same, ?_⟩
        refine for_enum1 (K := K) (a := q2) (xs := nv (List.zipWith (fun (a b : Nat) => a - b) x bs)) (fun i σ H' => ∃ v4 v5 : Option V, σ = [some (.ref r), some (.int n), some (.int k), some (.ref q), v4, v5] ∧
            RvS C H' r l (x.take i ++ bs.drop i) a b (e + Mu48.total ((List.zipWith (fun (a b : Nat) => a - b) x bs).take i)) ∧ Kp H1 H' r l ∧ H' q2 = some (.lst (nv (List.zipWith (fun (a b : Nat) => a - b) x bs))))
          ⟨none, none, rfl, ?_, fun c u hc _ _ => Eq.trans (upd_ne (ne_of_none hc hq2)) hc, upd_same⟩ (fun i σ H' _ ⟨_, _, _, _, _, h⟩ => SqL.of h) ?_ ?_
        · exact (hRv.same s1).same (Same.laid hq2)
        · rintro i y σ H' T' hy ⟨v4, v5, rfl, hRi, kp, hq2'⟩ hT
          obtain ⟨m, hm', rfl⟩ := nv_of_at hy
          have hi : i < bs.length := by
            rw [← lenZ]
            exact (List.getElem?_eq_some_iff.mp hm').1
          have hz := zip_at (s := x) (r := bs) (i := i) (by omega) hi
          have em : m = x.getD i 0 - bs.getD i 0 := Option.some.inj (hm'.symm.trans hz)
          have hge := geX i
          refine ⟨T', _, rfl, SqT.of upd_same, rfl, _, _, rfl, _, _, rfl, rfl, ?_⟩
          refine ⟨_, rfl, _, rfl, _, rfl, r, l, _, a, b, _, i + 1, m, rfl, hRi.same (Same.laid hT), by omega, by unfold Mu48.bank; rw [splice_length (by omega) lenX]; omega, fun H4 hR4 kp4 => ?_⟩
          rw [Nat.add_sub_cancel, splice_bears hi lenX, splice_set hi lenX (by omega)] at hR4
          refine ⟨_, _, rfl, ?_, fun c u hc hcr hcl => Eq.trans (kp4 c hcr hcl) (Eq.trans (upd_ne (ne_of_none (kp c u hc hcr hcl) hT)) (kp c u hc hcr hcl)), Eq.trans (kp4 q2 hq2r hq2l) (Eq.trans (upd_ne (ne_of_none hq2' hT)) hq2')⟩
          rw [total_take hm', ← Nat.add_assoc]
          exact hR4
        · rintro σ H' ⟨v4, v5, rfl, hRi, kp, hq2'⟩
          rw [nv_length, List.take_length, lenZ, List.take_of_length_le (by omega), List.drop_length, List.append_nil] at hRi
          have hq4 := kp q _ hq1 hqr hql
          refine ⟨_, rfl, q, _, _, _, rfl, rfl, SqL.of hq4, at_of (j := 0) rfl (nv_at (m := Mu48.total x - Mu48.total bs) rfl), line1, fun t ht => ?_⟩
          rw [show Mu48.total (List.zipWith (fun (a b : Nat) => a - b) x bs) = Mu48.total x - Mu48.total bs by omega] at hRi
          have htr : t ≠ r := fun z => by
            obtain ⟨u, hu⟩ := hRi.atR
            rw [z, hu] at ht
            cases ht
          have htl : t ≠ l := fun z => by
            rw [z, hRi.2] at ht
            cases ht
          have ht1 : H1 t = none := by
            cases h : H1 t with
            | none => rfl
            | some u =>
              rw [kp t u h htr htl] at ht
              cases ht
          have ht2 := s1.free ht1
          refine k3 h12 x hm _ t (hRi.same (Same.laid ht)) (fun b u hb hbr hbl => ?_) ht2 upd_same
          rw [upd_ne (ne_of_none hb ht2)]
          exact kp b u (s1 _ _ hb) hbr hbl
end
end Rv

set_option Elab.async false
set_option linter.all false
set_option maxRecDepth 100000
set_option maxHeartbeats 4000000
namespace Rv
open PySem PySem.Spec PyProof.Rows L2
/-! ### the calls, one by one -/
theorem cOf_0 {ys : List Nat} {c : Mu48.Call} : ∀ {xs : List Nat}, cOf 0 xs ys = some c → c = .begin_ ys
  | [], h => (Option.some.inj h).symm
  | _ :: _, h => by
    have h' : none = some c := h
    cases h'
theorem cOf_1 {ys : List Nat} {c : Mu48.Call} : ∀ {xs : List Nat}, cOf 1 xs ys = some c → ∃ n, xs = [n] ∧ c = .most n
  | [], h => by
    have h' : none = some c := h
    cases h'
  | [n], h => ⟨n, rfl, (Option.some.inj h).symm⟩
  | _ :: _ :: _, h => by
    have h' : none = some c := h
    cases h'
theorem cOf_2 {ys : List Nat} {c : Mu48.Call} : ∀ {xs : List Nat}, cOf 2 xs ys = some c → ∃ n, xs = [n] ∧ c = .narrowest n
  | [], h => by
    have h' : none = some c := h
    cases h'
  | [n], h => ⟨n, rfl, (Option.some.inj h).symm⟩
  | _ :: _ :: _, h => by
    have h' : none = some c := h
    cases h'
theorem cOf_3 {ys : List Nat} {c : Mu48.Call} : ∀ {xs : List Nat}, cOf 3 xs ys = some c → ∃ n, xs = [n] ∧ c = .fewest n
  | [], h => by
    have h' : none = some c := h
    cases h'
  | [n], h => ⟨n, rfl, (Option.some.inj h).symm⟩
  | _ :: _ :: _, h => by
    have h' : none = some c := h
    cases h'
theorem cOf_4 {ys : List Nat} {c : Mu48.Call} : ∀ {xs : List Nat}, cOf 4 xs ys = some c → ∃ n k, xs = [n, k] ∧ c = .plan n k
  | [], h => by
    have h' : none = some c := h
    cases h'
  | [_], h => by
    have h' : none = some c := h
    cases h'
  | [n, k], h => ⟨n, k, rfl, (Option.some.inj h).symm⟩
  | _ :: _ :: _ :: _, h => by
    have h' : none = some c := h
    cases h'
theorem cOf_5 {ys : List Nat} {c : Mu48.Call} : ∀ {xs : List Nat}, cOf 5 xs ys = some c → ∃ n, xs = [n] ∧ c = .go n ys
  | [], h => by
    have h' : none = some c := h
    cases h'
  | [n], h => ⟨n, rfl, (Option.some.inj h).symm⟩
  | _ :: _ :: _, h => by
    have h' : none = some c := h
    cases h'
theorem cOf_6 {ys : List Nat} {c : Mu48.Call} : ∀ {xs : List Nat}, cOf 6 xs ys = some c → ∃ n k, xs = [n, k] ∧ c = .cross n k
  | [], h => by
    have h' : none = some c := h
    cases h'
  | [_], h => by
    have h' : none = some c := h
    cases h'
  | [n, k], h => ⟨n, k, rfl, (Option.some.inj h).symm⟩
  | _ :: _ :: _ :: _, h => by
    have h' : none = some c := h
    cases h'
theorem cOf_7 {ys : List Nat} {c : Mu48.Call} : ∀ {xs : List Nat}, cOf 7 xs ys = some c → ∃ n k, xs = [n, k] ∧ c = .lay n k
  | [], h => by
    have h' : none = some c := h
    cases h'
  | [_], h => by
    have h' : none = some c := h
    cases h'
  | [n, k], h => ⟨n, k, rfl, (Option.some.inj h).symm⟩
  | _ :: _ :: _ :: _, h => by
    have h' : none = some c := h
    cases h'
theorem cOf_8 {ys : List Nat} {c : Mu48.Call} : ∀ {xs : List Nat}, cOf 8 xs ys = some c → ∃ n k, xs = [n, k] ∧ c = .mend n k
  | [], h => by
    have h' : none = some c := h
    cases h'
  | [_], h => by
    have h' : none = some c := h
    cases h'
  | [n, k], h => ⟨n, k, rfl, (Option.some.inj h).symm⟩
  | _ :: _ :: _ :: _, h => by
    have h' : none = some c := h
    cases h'
theorem cOf_9 {ys : List Nat} {c : Mu48.Call} : ∀ {xs : List Nat}, cOf 9 xs ys = some c → ∃ n k, xs = [n, k] ∧ c = .do_ n k
  | [], h => by
    have h' : none = some c := h
    cases h'
  | [_], h => by
    have h' : none = some c := h
    cases h'
  | [n, k], h => ⟨n, k, rfl, (Option.some.inj h).symm⟩
  | _ :: _ :: _ :: _, h => by
    have h' : none = some c := h
    cases h'
theorem cOf_10 {ys : List Nat} {c : Mu48.Call} : ∀ {xs : List Nat}, cOf 10 xs ys = some c → c = .look
  | [], h => (Option.some.inj h).symm
  | _ :: _, h => by
    have h' : none = some c := h
    cases h'
theorem step_none {c : Mu48.Call} (h : ∀ r, c ≠ .begin_ r) : Mu48.step none c = (none, [-9]) := by
  cases c with
  | begin_ r => exact absurd rfl (h r)
  | _ => rfl
theorem cOf_begin {ys : List Nat} {c : Mu48.Call} : ∀ {q : Nat} {xs : List Nat}, q ≠ 0 → q ≤ 10 → cOf q xs ys = some c → ∀ r, c ≠ .begin_ r
  | 0, _, h, _, _ => absurd rfl h
  | 1, _, _, _, h => by obtain ⟨n, _, rfl⟩ := cOf_1 h; exact fun r z => by cases z
  | 2, _, _, _, h => by obtain ⟨n, _, rfl⟩ := cOf_2 h; exact fun r z => by cases z
  | 3, _, _, _, h => by obtain ⟨n, _, rfl⟩ := cOf_3 h; exact fun r z => by cases z
  | 4, _, _, _, h => by obtain ⟨n, k, _, rfl⟩ := cOf_4 h; exact fun r z => by cases z
  | 5, _, _, _, h => by obtain ⟨n, _, rfl⟩ := cOf_5 h; exact fun r z => by cases z
  | 6, _, _, _, h => by obtain ⟨n, k, _, rfl⟩ := cOf_6 h; exact fun r z => by cases z
  | 7, _, _, _, h => by obtain ⟨n, k, _, rfl⟩ := cOf_7 h; exact fun r z => by cases z
  | 8, _, _, _, h => by obtain ⟨n, k, _, rfl⟩ := cOf_8 h; exact fun r z => by cases z
  | 9, _, _, _, h => by obtain ⟨n, k, _, rfl⟩ := cOf_9 h; exact fun r z => by cases z
  | 10, _, _, _, h => by cases cOf_10 h; exact fun r z => by cases z
  | n + 11, _, _, h, _ => absurd h (by omega)
/-! ### what is due -/
theorem step_begin_bad {o : Mu48.Abs} {ys : List Nat} (h : badB ys) : Mu48.step o (.begin_ ys) = (o, [-1]) := by
  show (if badB ys then (o, [-1]) else (some ⟨ys, 0, 0, 0⟩, [0])) = _
  exact if_pos h
theorem step_begin {o : Mu48.Abs} {ys : List Nat} (h : ¬ badB ys) : Mu48.step o (.begin_ ys) = (some ⟨ys, 0, 0, 0⟩, [0]) := by
  show (if badB ys then (o, [-1]) else (some ⟨ys, 0, 0, 0⟩, [0])) = _
  exact if_neg h
theorem begin_low {ys : List Nat} (h : ¬ badB ys) : Low ys ∧ 1 ≤ ys.length ∧ ys.length ≤ 11 := by
  refine ⟨fun b hb => ?_, ?_, ?_⟩
  · by_cases q : b ≤ 5
    · exact q
    · exact absurd (.inr (.inr (List.any_eq_true.mpr ⟨b, hb, decide_eq_true (by unfold Mu48.HOLD; omega)⟩))) h
  · cases ys with
    | nil => exact absurd (.inl rfl) h
    | cons a l => exact Nat.succ_le_succ (Nat.zero_le _)
  · by_cases q : ys.length ≤ 11
    · exact q
    · exact absurd (.inr (.inl (by unfold Mu48.WIDE; omega))) h
theorem step_most (s : Mu48.State) (n : Nat) : Mu48.step (some s) (.most n) = (some s, mostA s.river n) := rfl
theorem step_narrowest (s : Mu48.State) (n : Nat) : Mu48.step (some s) (.narrowest n) = (some s, narrowestA s.river n) := rfl
theorem step_fewest (s : Mu48.State) (n : Nat) : Mu48.step (some s) (.fewest n) = (some s, fewestA s.river n) := rfl
theorem step_plan (s : Mu48.State) (n k : Nat) : Mu48.step (some s) (.plan n k) = (some s, planA s.river n k) := rfl
theorem step_mend (s : Mu48.State) (n k : Nat) : Mu48.step (some s) (.mend n k) = (some s, mendA s.river n k) := rfl
theorem step_look (s : Mu48.State) : Mu48.step (some s) .look = (some s, Mu48.nums ([s.over, s.trod, s.laid, s.river.length] ++ s.river)) := rfl
theorem go_bad {n : Nat} {bs p : List Nat} (h : (Mu48.isLeap n && goes bs p) = false) : Mu48.isLeap n = false ∨ Mu48.rising p = false ∨ p.any (fun (x : Nat) => x == 0 || decide (Mu48.bank bs ≤ x)) = true := by
  cases h1 : Mu48.isLeap n with
  | false => exact .inl rfl
  | true =>
    rw [h1, Bool.true_and] at h
    unfold goes at h
    cases h2 : Mu48.rising p with
    | false => exact .inr (.inl rfl)
    | true =>
      rw [h2, Bool.true_and, Bool.not_eq_false'] at h
      exact .inr (.inr h)
theorem go_good {n : Nat} {bs p : List Nat} (h1 : Mu48.isLeap n = true) (h : goes bs p = true) : ¬ (Mu48.isLeap n = false ∨ Mu48.rising p = false ∨ p.any (fun (x : Nat) => x == 0 || decide (Mu48.bank bs ≤ x)) = true) := by
  unfold goes at h
  rw [Bool.and_eq_true, Bool.not_eq_true'] at h
  rintro (z | z | z)
  · rw [h1] at z
    cases z
  · rw [h.1] at z
    cases z
  · rw [h.2] at z
    cases z
theorem step_go_bad {s : Mu48.State} {n : Nat} {p : List Nat} (h : (Mu48.isLeap n && goes s.river p) = false) : Mu48.step (some s) (.go n p) = (some s, [-1]) := if_pos (go_bad h)
theorem step_go_some {s : Mu48.State} {n : Nat} {p : List Nat} (h1 : Mu48.isLeap n = true) (h2 : goes s.river p = true) {x : Int × Nat} (h3 : Mu48.against s.river n 0 p = some x) : Mu48.step (some s) (.go n p) = (some s, [x.1, (x.2 : Int)]) := by
  refine Eq.trans (if_neg (go_good h1 h2)) ?_
  rw [h3]
theorem step_go_none {s : Mu48.State} {n : Nat} {p : List Nat} (h1 : Mu48.isLeap n = true) (h2 : goes s.river p = true) (h3 : Mu48.against s.river n 0 p = none) :
    Mu48.step (some s) (.go n p) = (some ⟨Mu48.used s.river p, s.over + 1, s.trod + p.length, s.laid⟩, [(p.length : Int)]) := by
  refine Eq.trans (if_neg (go_good h1 h2)) ?_
  rw [h3]
theorem step_cross_bad {s : Mu48.State} {n k : Nat} (h : (Mu48.isLeap n && Mu48.isMany k) = false) : Mu48.step (some s) (.cross n k) = (some s, [-1]) := if_pos h
theorem step_cross_none {s : Mu48.State} {n k : Nat} (h : (Mu48.isLeap n && Mu48.isMany k) = true) (h2 : Mu48.can s.river n k = false) : Mu48.step (some s) (.cross n k) = (some s, [-6]) :=
  Eq.trans (if_neg (by rw [h]; decide)) (if_pos h2)
theorem step_cross {s : Mu48.State} {n k : Nat} (h : (Mu48.isLeap n && Mu48.isMany k) = true) (h2 : Mu48.can s.river n k = true) :
    Mu48.step (some s) (.cross n k) = (some ⟨Mu48.trodden s.river (Mu48.plan s.river n k), s.over + k, s.trod + Mu48.total ((Mu48.plan s.river n k).map List.length), s.laid⟩, [((Mu48.total ((Mu48.plan s.river n k).map List.length) : Nat) : Int)]) :=
  Eq.trans (if_neg (by rw [h]; decide)) (if_neg (by rw [h2]; decide))
theorem step_lay_bad {s : Mu48.State} {x m : Nat} (h : badL s.river x m) : Mu48.step (some s) (.lay x m) = (some s, [-1]) := if_pos h
theorem step_lay {s : Mu48.State} {x m : Nat} (h : ¬ badL s.river x m) : Mu48.step (some s) (.lay x m) = (some ⟨s.river.set (x - 1) (Mu48.bears s.river x + m), s.over, s.trod, s.laid + m⟩, [((Mu48.bears s.river x + m : Nat) : Int)]) := if_neg h
theorem step_do_bad {s : Mu48.State} {n k : Nat} (h : (Mu48.isLeap n && Mu48.isMany k) = false) : Mu48.step (some s) (.do_ n k) = (some s, [-1]) := if_pos h
theorem step_do_none {s : Mu48.State} {n k : Nat} (h : (Mu48.isLeap n && Mu48.isMany k) = true) (h2 : Mu48.mended s.river n k = none) : Mu48.step (some s) (.do_ n k) = (some s, [-6]) := by
  refine Eq.trans (if_neg (by rw [h]; decide)) ?_
  rw [h2]
theorem step_do {s : Mu48.State} {n k : Nat} (h : (Mu48.isLeap n && Mu48.isMany k) = true) {x : List Nat} (h2 : Mu48.mended s.river n k = some x) :
    Mu48.step (some s) (.do_ n k) = (some ⟨x, s.over, s.trod, s.laid + (Mu48.total x - Mu48.total s.river)⟩, [((Mu48.total x - Mu48.total s.river : Nat) : Int)]) := by
  refine Eq.trans (if_neg (by rw [h]; decide)) ?_
  rw [h2]
theorem mended_low {bs : List Nat} {n k : Nat} (h : Low bs) {x : List Nat} (h2 : Mu48.mended bs n k = some x) : Low x ∧ x.length = bs.length := by
  rw [mended_laid h] at h2
  by_cases q : Mu48.can (List.replicate bs.length 5) n k = true
  · rw [if_pos q] at h2
    rw [← Option.some.inj h2]
    exact laidR_low h n k
  · rw [if_neg q] at h2
    cases h2
section
variable {P : Program} {w : World} {K : PySem.W.Frag} {mg : Str → Option Value} {base : Heap}
theorem sc_answerof : FnScope ["river", "call", "numbers", "row"] ["river", "call", "numbers", "row"] (defScope sAnswerOf) := ⟨rfl, rfl, rfl, by decide +kernel, rfl, by decide +kernel, by decide +kernel⟩
theorem ok_answerof {f C : Addr} {fd : FuncData} (F : Fun K "answer_of" "answer_of" sAnswerOf f fd) (T : Cl4 K C) (DBegin : Def P w K mg base 1 "begin" ["river", "bears"] (spBegin C)) (DMost : Def P w K mg base 2 "most" ["river", "leap"] (spMost C)) (DNar : Def P w K mg base 2 "narrowest" ["river", "leap"] (spNarrowest C))
    (DFew : Def P w K mg base 3 "fewest" ["river", "leap"] (spFewest C)) (DPlan : Def P w K mg base 3 "plan" ["river", "leap", "people"] (spPlan C)) (DGo : Def P w K mg base 3 "go" ["river", "leap", "path"] (spGo C))
    (DCross : Def P w K mg base 3 "cross" ["river", "leap", "people"] (spCross C)) (DLay : Def P w K mg base 2 "lay" ["river", "place", "steps"] (spLay C)) (DMend : Def P w K mg base 4 "mend" ["river", "leap", "people"] (spMend C))
    (DDo : Def P w K mg base 5 "do" ["river", "leap", "people"] (spDo C)) (DLook : Def P w K mg base 1 "look" ["river"] (spLook C))
    (g0 : Gi mg "BEGIN" 0) (g1 : Gi mg "MOST" 1) (g2 : Gi mg "NARROWEST" 2) (g3 : Gi mg "FEWEST" 3) (g4 : Gi mg "PLAN" 4) (g5 : Gi mg "GO" 5) (g6 : Gi mg "CROSS" 6) (g7 : Gi mg "LAY" 7) (g8 : Gi mg "MEND" 8) (g9 : Gi mg "DO" 9) (gr9 : Gi mg "NO_RIVER" (-9)) (gl : mg "len" = none) : FnOk P w K mg base CX0 6 f fd ["river", "call", "numbers", "row"] (spAnswerOf (Rst C)) := by
  refine F.ok sc_answerof (fun vs H Q E h => ?_) (fun cdv A outer s H vs Q E hr h => ?_)
  · obtain ⟨r, l, nb, rw, o, q, xs, ys, c, rfl, _⟩ := h
    rfl
  · obtain ⟨r, l, nb, rw_, o, q, xs, ys, c, rfl, hRo, hnb, hrw, hrwr, hrwl, hrl, hq10, hc, hxs, hys, hyl, k⟩ := h
    refine ⟨_, pss_cons (ps_if (pt_cmpR op_eq (pv 1) (pe_gi rfl g0) (nomark _)) (pss_one (ps_ret (pe_def DBegin (hr.mono (by decide)) (by rfl) (pa_cons (pv 0) (pa_cons (pv 3) pa_nil))))) pss_nil)
      (pss_cons (ps_if (pt_cmpR op_eq (pe_callB call_len_seq (by rfl) gl PySem.boot_len (pa_cons (pe_fld (pv 0) rfl) pa_nil)) pe_int (nomark _)) (pss_one (ps_ret (pe_lst (pa_cons (pe_gi rfl gr9) pa_nil)))) pss_nil)
      (pss_cons (ps_if (pt_cmpR op_eq (pv 1) (pe_gi rfl g1) (nomark _)) (pss_one (ps_ret (pe_def DMost (hr.mono (by decide)) (by rfl) (pa_cons (pv 0) (pa_cons (pe_ix ix_list (pv 2) pe_int (fun _ _ => rfl)) pa_nil))))) pss_nil)
      (pss_cons (ps_if (pt_cmpR op_eq (pv 1) (pe_gi rfl g2) (nomark _)) (pss_one (ps_ret (pe_def DNar (hr.mono (by decide)) (by rfl) (pa_cons (pv 0) (pa_cons (pe_ix ix_list (pv 2) pe_int (fun _ _ => rfl)) pa_nil))))) pss_nil)
      (pss_cons (ps_if (pt_cmpR op_eq (pv 1) (pe_gi rfl g3) (nomark _)) (pss_one (ps_ret (pe_def DFew (hr.mono (by decide)) (by rfl) (pa_cons (pv 0) (pa_cons (pe_ix ix_list (pv 2) pe_int (fun _ _ => rfl)) pa_nil))))) pss_nil)
      (pss_cons (ps_if (pt_cmpR op_eq (pv 1) (pe_gi rfl g4) (nomark _)) (pss_one (ps_ret (pe_def DPlan (hr.mono (by decide)) (by rfl) (pa_cons (pv 0) (pa_cons (pe_ix ix_list (pv 2) pe_int (fun _ _ => rfl)) (pa_cons (pe_ix ix_list (pv 2) pe_int (fun _ _ => rfl)) pa_nil)))))) pss_nil)
      (pss_cons (ps_if (pt_cmpR op_eq (pv 1) (pe_gi rfl g5) (nomark _)) (pss_one (ps_ret (pe_def DGo (hr.mono (by decide)) (by rfl) (pa_cons (pv 0) (pa_cons (pe_ix ix_list (pv 2) pe_int (fun _ _ => rfl)) (pa_cons (pv 3) pa_nil)))))) pss_nil)
      (pss_cons (ps_if (pt_cmpR op_eq (pv 1) (pe_gi rfl g6) (nomark _)) (pss_one (ps_ret (pe_def DCross (hr.mono (by decide)) (by rfl) (pa_cons (pv 0) (pa_cons (pe_ix ix_list (pv 2) pe_int (fun _ _ => rfl)) (pa_cons (pe_ix ix_list (pv 2) pe_int (fun _ _ => rfl)) pa_nil)))))) pss_nil)
      (pss_cons (ps_if (pt_cmpR op_eq (pv 1) (pe_gi rfl g7) (nomark _)) (pss_one (ps_ret (pe_def DLay (hr.mono (by decide)) (by rfl) (pa_cons (pv 0) (pa_cons (pe_ix ix_list (pv 2) pe_int (fun _ _ => rfl)) (pa_cons (pe_ix ix_list (pv 2) pe_int (fun _ _ => rfl)) pa_nil)))))) pss_nil)
      (pss_cons (ps_if (pt_cmpR op_eq (pv 1) (pe_gi rfl g8) (nomark _)) (pss_one (ps_ret (pe_def DMend (hr.mono (by decide)) (by rfl) (pa_cons (pv 0) (pa_cons (pe_ix ix_list (pv 2) pe_int (fun _ _ => rfl)) (pa_cons (pe_ix ix_list (pv 2) pe_int (fun _ _ => rfl)) pa_nil)))))) pss_nil)
      (pss_cons (ps_if (pt_cmpR op_eq (pv 1) (pe_gi rfl g9) (nomark _)) (pss_one (ps_ret (pe_def DDo (hr.mono (by decide)) (by rfl) (pa_cons (pv 0) (pa_cons (pe_ix ix_list (pv 2) pe_int (fun _ _ => rfl)) (pa_cons (pe_ix ix_list (pv 2) pe_int (fun _ _ => rfl)) pa_nil)))))) pss_nil)
      (pss_one (ps_ret (pe_def DLook (hr.mono (by decide)) (by rfl) (pa_cons (pv 0) pa_nil)))))))))))))), ?_⟩
    -- a call that changes nothing, and one that changes the river
    have still : ∀ a : List Int, Mu48.step o c = (o, a) → Fresh H Q a := fun a ha H' p s1 hp h1 => by
      refine k H' p l ?_ (.inl rfl) (fun b u hb _ _ => s1 _ _ hb) hp ?_
      · rw [ha]
        exact (rst_ok C).same s1 hRo
      · rw [ha]
        exact h1
    have moved : ∀ (a : List Int) (o' : Mu48.Abs), Mu48.step o c = (o', a) → ∀ (H' : Hp) (t : Addr), Rst C H' r l o' → Kp H H' r l → H t = none → H' t = some (.lst (iv a)) → Q (.ref t) H' := fun a o' ha H' t hR' kp ht h1 => by
      refine k H' t l ?_ (.inl rfl) kp ht ?_
      · rw [ha]
        exact hR'
      · rw [ha]
        exact h1
    obtain ⟨bs, a, b, e, hRv, hcase⟩ : ∃ bs a b e, RvS C H r l bs a b e ∧ ((o = none ∧ bs = []) ∨ (o = some ⟨bs, a, b, e⟩ ∧ Low bs ∧ 1 ≤ bs.length ∧ bs.length ≤ 11)) := by
      cases o with
      | none => exact ⟨_, _, _, _, hRo, .inl ⟨rfl, rfl⟩⟩
      | some s => exact ⟨_, _, _, _, hRo.1, .inr ⟨rfl, hRo.2⟩⟩
    refine ⟨_, rfl, rfl, _, rfl, ite_eqn (j := 0) (fun h0 => ?_) (fun h0 => ?_)⟩
    · subst h0
      cases cOf_0 hc
      refine ⟨_, rfl, _, rfl, r, l, rw_, bs, ys, a, b, e, rfl, hRv, hrw, fun hb => still _ (step_begin_bad hb), fun hb H' t l' hR' hl' hlr kp ht h1 => ?_⟩
      refine k H' t l' ?_ (.inr ⟨hl', hlr⟩) (fun b u hb' hbr _ => kp b u hb' hbr) ht ?_
      · rw [step_begin hb]
        exact ⟨hR', begin_low hb⟩
      · rw [step_begin hb]
        exact h1
    have hRv0 := hRv
    obtain ⟨⟨dx, hR⟩, hL⟩ := hRv0
    refine ⟨_, rfl, r, C, dx, _, _, rfl, hR, T.c.cl, T.c.nB, rfl, l, _, rfl, .inl (SqL.of hL), rfl, _, rfl, ?_⟩
    rw [nv_length]
    rcases hcase with ⟨rfl, rfl⟩ | ⟨rfl, hlow, hl1, hl11⟩
    · refine ite_zero (fun _ => ?_) (fun z => absurd rfl z)
      exact ⟨line1, fun p hp => still [-9] (step_none (cOf_begin h0 hq10 hc)) _ p (Same.laid hp) hp upd_same⟩
    refine ite_zero (fun z => absurd z (by omega)) (fun _ => ?_)
    have at0 : ∀ {n : Nat} {t : List Nat}, xs = n :: t → atI (nv xs) 0 = some (V.int (n : Int)) := fun {n t} h => by
      rw [h]
      exact at_of (j := 0) rfl (nv_at rfl)
    have at1 : ∀ {m n : Nat} {t : List Nat}, xs = m :: n :: t → atI (nv xs) 1 = some (V.int (n : Int)) := fun {m n t} h => by
      rw [h]
      exact at_of (j := 1) rfl (nv_at rfl)
    refine ⟨_, rfl, rfl, _, rfl, ite_eqn (j := 1) (fun h => ?_) (fun h1 => ?_)⟩
    · subst h
      obtain ⟨n, ex, rfl⟩ := cOf_1 hc
      have hn := hxs n (by rw [ex]; exact List.mem_cons_self)
      exact ⟨_, rfl, _, rfl, nb, _, _, _, rfl, rfl, SqL.of hnb, at0 ex, r, l, bs, n, rfl, hRv.rv, by omega, by omega, still _ (step_most _ n)⟩
    refine ⟨_, rfl, rfl, _, rfl, ite_eqn (j := 2) (fun h => ?_) (fun h2 => ?_)⟩
    · subst h
      obtain ⟨n, ex, rfl⟩ := cOf_2 hc
      have hn := hxs n (by rw [ex]; exact List.mem_cons_self)
      exact ⟨_, rfl, _, rfl, nb, _, _, _, rfl, rfl, SqL.of hnb, at0 ex, r, l, bs, n, rfl, hRv.rv, by omega, by omega, still _ (step_narrowest _ n)⟩
    refine ⟨_, rfl, rfl, _, rfl, ite_eqn (j := 3) (fun h => ?_) (fun h3 => ?_)⟩
    · subst h
      obtain ⟨n, ex, rfl⟩ := cOf_3 hc
      have hn := hxs n (by rw [ex]; exact List.mem_cons_self)
      exact ⟨_, rfl, _, rfl, nb, _, _, _, rfl, rfl, SqL.of hnb, at0 ex, r, l, bs, n, rfl, hRv.rv, by omega, by omega, still _ (step_fewest _ n)⟩
    refine ⟨_, rfl, rfl, _, rfl, ite_eqn (j := 4) (fun h => ?_) (fun h4 => ?_)⟩
    · subst h
      obtain ⟨n, k', ex, rfl⟩ := cOf_4 hc
      have hn := hxs n (by rw [ex]; exact List.mem_cons_self)
      exact ⟨_, rfl, _, rfl, nb, _, _, _, rfl, rfl, SqL.of hnb, at0 ex, _, rfl, nb, _, _, _, rfl, rfl, SqL.of hnb, at1 ex, r, l, bs, n, k', rfl, hRv.rv, by omega, by omega, still _ (step_plan _ n k')⟩
    refine ⟨_, rfl, rfl, _, rfl, ite_eqn (j := 5) (fun h => ?_) (fun h5 => ?_)⟩
    · subst h
      obtain ⟨n, ex, rfl⟩ := cOf_5 hc
      exact ⟨_, rfl, _, rfl, nb, _, _, _, rfl, rfl, SqL.of hnb, at0 ex, _, rfl, r, l, rw_, bs, ys, n, a, b, e, rfl, hRv, hrw, hrwl, fun g => still _ (step_go_bad (s := ⟨bs, a, b, e⟩) g), fun g1 g2 x g3 => still _ (step_go_some (s := ⟨bs, a, b, e⟩) g1 g2 g3),
        fun g1 g2 g3 H' t hR' kp ht ht' => moved _ _ (step_go_none (s := ⟨bs, a, b, e⟩) g1 g2 g3) H' t ⟨hR', low_used hlow ys, by rw [used_length]; exact hl1, by rw [used_length]; exact hl11⟩ kp ht ht'⟩
    refine ⟨_, rfl, rfl, _, rfl, ite_eqn (j := 6) (fun h => ?_) (fun h6 => ?_)⟩
    · subst h
      obtain ⟨n, k', ex, rfl⟩ := cOf_6 hc
      have hn := hxs n (by rw [ex]; exact List.mem_cons_self)
      exact ⟨_, rfl, _, rfl, nb, _, _, _, rfl, rfl, SqL.of hnb, at0 ex, _, rfl, nb, _, _, _, rfl, rfl, SqL.of hnb, at1 ex, r, l, bs, n, k', a, b, e, rfl, hRv, by omega, by omega, fun g => still _ (step_cross_bad (s := ⟨bs, a, b, e⟩) g), fun g1 g2 => still _ (step_cross_none (s := ⟨bs, a, b, e⟩) g1 g2),
        fun g1 g2 H' t hR' kp ht ht' => moved _ _ (step_cross (s := ⟨bs, a, b, e⟩) g1 g2) H' t ⟨hR', by rw [trodden_flatten]; exact low_used hlow _, by rw [trodden_flatten, used_length]; exact hl1, by rw [trodden_flatten, used_length]; exact hl11⟩ kp ht ht'⟩
    refine ⟨_, rfl, rfl, _, rfl, ite_eqn (j := 7) (fun h => ?_) (fun h7 => ?_)⟩
    · subst h
      obtain ⟨x, m, ex, rfl⟩ := cOf_7 hc
      exact ⟨_, rfl, _, rfl, nb, _, _, _, rfl, rfl, SqL.of hnb, at0 ex, _, rfl, nb, _, _, _, rfl, rfl, SqL.of hnb, at1 ex, r, l, bs, x, m, a, b, e, rfl, hRv, fun g => still _ (step_lay_bad (s := ⟨bs, a, b, e⟩) g),
        fun g H' t hR' kp ht ht' => moved _ _ (step_lay (s := ⟨bs, a, b, e⟩) g) H' t ⟨hR', low_set hlow _ _ (by
          by_cases w5 : Mu48.bears bs x + m ≤ 5
          · exact w5
          · exact absurd (.inr (.inr (.inr (by unfold Mu48.HOLD; omega)))) g), by rw [List.length_set]; exact hl1, by rw [List.length_set]; exact hl11⟩ kp ht ht'⟩
    refine ⟨_, rfl, rfl, _, rfl, ite_eqn (j := 8) (fun h => ?_) (fun h8 => ?_)⟩
    · subst h
      obtain ⟨n, k', ex, rfl⟩ := cOf_8 hc
      have hn := hxs n (by rw [ex]; exact List.mem_cons_self)
      exact ⟨_, rfl, _, rfl, nb, _, _, _, rfl, rfl, SqL.of hnb, at0 ex, _, rfl, nb, _, _, _, rfl, rfl, SqL.of hnb, at1 ex, r, l, bs, n, k', rfl, hRv.rv, hlow, by omega, by omega, still _ (step_mend _ n k')⟩
    refine ⟨_, rfl, rfl, _, rfl, ite_eqn (j := 9) (fun h => ?_) (fun h9 => ?_)⟩
    · subst h
      obtain ⟨n, k', ex, rfl⟩ := cOf_9 hc
      have hn := hxs n (by rw [ex]; exact List.mem_cons_self)
      exact ⟨_, rfl, _, rfl, nb, _, _, _, rfl, rfl, SqL.of hnb, at0 ex, _, rfl, nb, _, _, _, rfl, rfl, SqL.of hnb, at1 ex, r, l, bs, n, k', a, b, e, rfl, hRv, hlow, by omega, by omega, fun g => still _ (step_do_bad (s := ⟨bs, a, b, e⟩) g), fun g1 g2 => still _ (step_do_none (s := ⟨bs, a, b, e⟩) g1 g2),
        fun g1 x g2 H' t hR' kp ht ht' => moved _ _ (step_do (s := ⟨bs, a, b, e⟩) g1 g2) H' t ⟨hR', (mended_low hlow g2).1, by rw [(mended_low hlow g2).2]; exact hl1, by rw [(mended_low hlow g2).2]; exact hl11⟩ kp ht ht'⟩
    have hq : q = 10 := by omega
    subst hq
    cases cOf_10 hc
    exact ⟨_, rfl, r, l, bs, a, b, e, rfl, hRv, by omega, still _ (step_look _)⟩
end
end Rv

set_option Elab.async false
set_option linter.all false
set_option maxRecDepth 100000
set_option maxHeartbeats 2000000
namespace Rv
open PySem PySem.Spec PyProof.Rows L2
open PySem.W (Codec)
theorem asked_ok : ∀ (K : PySem.W.Frag) (H : Hp) (xs : List V) (a : Codec.denoteAll PySem.Challenge.rw_steppedover_s01_answers.args), OnlyF H → Codec.withinAll PySem.Challenge.rw_steppedover_s01_answers.args a = true → Codec.app PySem.Challenge.rw_steppedover_s01_answers.args PySem.Challenge.rw_steppedover_s01_answers.asked a = true → DwAll K H xs (Codec.encAll PySem.Challenge.rw_steppedover_s01_answers.args a) →
      spAnswers K xs H (fun v H' => Dw K H' v (PySem.Challenge.rw_steppedover_s01_answers.ret.enc (Codec.app PySem.Challenge.rw_steppedover_s01_answers.args PySem.Challenge.rw_steppedover_s01_answers.f a))) fun _ _ _ => False := by
  intro K H xs a hO hwi hask hx
  cases hx with
  | cons h1 h2 =>
    cases h2
    cases h1 with
    | lst hs ha =>
      have e := L2.ints_dw a.1 _ ha
      subst e
      have q : ((Codec.inLen 0 1100 a.1 && a.1.all (Codec.inInt 0 40)) && true) = true := hwi
      rw [Bool.and_eq_true, Bool.and_eq_true] at q
      exact ⟨_, a.1, rfl, hs, (Codec.inNat_iff.mp q.1.1).2, fun x hx => Codec.inInt_iff.mp (List.all_eq_true.mp q.1.2 x hx), hask, fun H' p hp => .lst (L2.SqL.of hp) (L2.dw_ints _)⟩
theorem all_mk {P : Program} {w : World} {K : PySem.W.Frag} {h : Heap} {mg : Str → Option Value} {fa : Addr} {f0 : Addr} {od0 an0 : Option Addr} {sl0 : Array (Option Value)} {oc0 kV0 dc0 pm0 cd0 ct0 : Value} {f1 : Addr} {od1 an1 : Option Addr} {sl1 : Array (Option Value)} {oc1 kV1 dc1 pm1 cd1 ct1 : Value} {f2 : Addr} {od2 an2 : Option Addr} {sl2 : Array (Option Value)} {oc2 kV2 dc2 pm2 cd2 ct2 : Value} {f3 : Addr} {od3 an3 : Option Addr} {sl3 : Array (Option Value)} {oc3 kV3 dc3 pm3 cd3 ct3 : Value} {f4 : Addr} {od4 an4 : Option Addr} {sl4 : Array (Option Value)} {oc4 kV4 dc4 pm4 cd4 ct4 : Value} {f5 : Addr} {od5 an5 : Option Addr} {sl5 : Array (Option Value)} {oc5 kV5 dc5 pm5 cd5 ct5 : Value} {f6 : Addr} {od6 an6 : Option Addr} {sl6 : Array (Option Value)} {oc6 kV6 dc6 pm6 cd6 ct6 : Value} {f7 : Addr} {od7 an7 : Option Addr} {sl7 : Array (Option Value)} {oc7 kV7 dc7 pm7 cd7 ct7 : Value} {f8 : Addr} {od8 an8 : Option Addr} {sl8 : Array (Option Value)} {oc8 kV8 dc8 pm8 cd8 ct8 : Value} {f9 : Addr} {od9 an9 : Option Addr} {sl9 : Array (Option Value)} {oc9 kV9 dc9 pm9 cd9 ct9 : Value} {f10 : Addr} {od10 an10 : Option Addr} {sl10 : Array (Option Value)} {oc10 kV10 dc10 pm10 cd10 ct10 : Value} {f11 : Addr} {od11 an11 : Option Addr} {sl11 : Array (Option Value)} {oc11 kV11 dc11 pm11 cd11 ct11 : Value} {f12 : Addr} {od12 an12 : Option Addr} {sl12 : Array (Option Value)} {oc12 kV12 dc12 pm12 cd12 ct12 : Value} {f13 : Addr} {od13 an13 : Option Addr} {sl13 : Array (Option Value)} {oc13 kV13 dc13 pm13 cd13 ct13 : Value} {f14 : Addr} {od14 an14 : Option Addr} {sl14 : Array (Option Value)} {oc14 kV14 dc14 pm14 cd14 ct14 : Value} {f15 : Addr} {od15 an15 : Option Addr} {sl15 : Array (Option Value)} {oc15 kV15 dc15 pm15 cd15 ct15 : Value} {f16 : Addr} {od16 an16 : Option Addr} {sl16 : Array (Option Value)} {oc16 kV16 dc16 pm16 cd16 ct16 : Value} {f17 : Addr} {od17 an17 : Option Addr} {sl17 : Array (Option Value)} {oc17 kV17 dc17 pm17 cd17 ct17 : Value} {f18 : Addr} {od18 an18 : Option Addr} {sl18 : Array (Option Value)} {oc18 kV18 dc18 pm18 cd18 ct18 : Value} {f19 : Addr} {od19 an19 : Option Addr} {sl19 : Array (Option Value)} {oc19 kV19 dc19 pm19 cd19 ct19 : Value} {f20 : Addr} {od20 an20 : Option Addr} {sl20 : Array (Option Value)} {oc20 kV20 dc20 pm20 cd20 ct20 : Value} {f21 : Addr} {od21 an21 : Option Addr} {sl21 : Array (Option Value)} {oc21 kV21 dc21 pm21 cd21 ct21 : Value} {f22 : Addr} {od22 an22 : Option Addr} {sl22 : Array (Option Value)} {oc22 kV22 dc22 pm22 cd22 ct22 : Value} {f23 : Addr} {od23 an23 : Option Addr} {sl23 : Array (Option Value)} {oc23 kV23 dc23 pm23 cd23 ct23 : Value} {f24 : Addr} {od24 an24 : Option Addr} {sl24 : Array (Option Value)} {oc24 kV24 dc24 pm24 cd24 ct24 : Value} {f25 : Addr} {od25 an25 : Option Addr} {sl25 : Array (Option Value)} {oc25 kV25 dc25 pm25 cd25 ct25 : Value} {f26 : Addr} {od26 an26 : Option Addr} {sl26 : Array (Option Value)} {oc26 kV26 dc26 pm26 cd26 ct26 : Value} {f27 : Addr} {od27 an27 : Option Addr} {sl27 : Array (Option Value)} {oc27 kV27 dc27 pm27 cd27 ct27 : Value} {f28 : Addr} {od28 an28 : Option Addr} {sl28 : Array (Option Value)} {oc28 kV28 dc28 pm28 cd28 ct28 : Value} {tk0 : Tok} {tk1 : Tok} {tk2 : Tok} {tk3 : Tok} {tk4 : Tok} {tk5 : Tok} {tk6 : Tok} {tk7 : Tok} {tk8 : Tok} {tk9 : Tok} {tk10 : Tok} {tk11 : Tok} {tk12 : Tok} {tk13 : Tok} {tk14 : Tok} {tk15 : Tok} {tk16 : Tok} {tk17 : Tok} {tk18 : Tok} {tu0 nu0 : Nat} {tt0_0 tt0_1 tt0_2 tt0_3 tt0_4 tt0_5 tt0_6 tt0_7 tt0_8 tt0_9 tt0_10 : Tok} {ou0 : Option Addr} {su0 : Array (Option Value)} {C : Addr}
    (X : K.In h) (G : h.Ns mainGlobals mg) (hfa : mg "answers" = some (.ref fa))
    (aC : PySem.W.nsIn K mainGlobals "River" = some (some (.ref C)))
    (a0 : PySem.W.nsIn K mainGlobals "leap_fits" = some (some (.ref f0)))
    (l0 : K.lookup f0 = some ⟨oc0, od0, .func (PySem.W.fnOf "leap_fits" "leap_fits" (defArgs sLeapFits) (defBody sLeapFits) (defScope sLeapFits) .none kV0 dc0 pm0 an0 cd0 ct0), sl0⟩)
    (c0 : PySem.W.codeIn K cd0 "leap_fits" = true)
    (k0 : PySem.W.keepIn K (.ref f0) = true)
    (a1 : PySem.W.nsIn K mainGlobals "people_fit" = some (some (.ref f1)))
    (l1 : K.lookup f1 = some ⟨oc1, od1, .func (PySem.W.fnOf "people_fit" "people_fit" (defArgs sPeopleFit) (defBody sPeopleFit) (defScope sPeopleFit) .none kV1 dc1 pm1 an1 cd1 ct1), sl1⟩)
    (c1 : PySem.W.codeIn K cd1 "people_fit" = true)
    (k1 : PySem.W.keepIn K (.ref f1) = true)
    (a2 : PySem.W.nsIn K mainGlobals "far_bank" = some (some (.ref f2)))
    (l2 : K.lookup f2 = some ⟨oc2, od2, .func (PySem.W.fnOf "far_bank" "far_bank" (defArgs sFarBank) (defBody sFarBank) (defScope sFarBank) .none kV2 dc2 pm2 an2 cd2 ct2), sl2⟩)
    (c2 : PySem.W.codeIn K cd2 "far_bank" = true)
    (k2 : PySem.W.keepIn K (.ref f2) = true)
    (a3 : PySem.W.nsIn K mainGlobals "stretch_sums" = some (some (.ref f3)))
    (l3 : K.lookup f3 = some ⟨oc3, od3, .func (PySem.W.fnOf "stretch_sums" "stretch_sums" (defArgs sSums) (defBody sSums) (defScope sSums) .none kV3 dc3 pm3 an3 cd3 ct3), sl3⟩)
    (c3 : PySem.W.codeIn K cd3 "stretch_sums" = true)
    (k3 : PySem.W.keepIn K (.ref f3) = true)
    (a4 : PySem.W.nsIn K mainGlobals "can_get_over" = some (some (.ref f4)))
    (l4 : K.lookup f4 = some ⟨oc4, od4, .func (PySem.W.fnOf "can_get_over" "can_get_over" (defArgs sCan) (defBody sCan) (defScope sCan) .none kV4 dc4 pm4 an4 cd4 ct4), sl4⟩)
    (c4 : PySem.W.codeIn K cd4 "can_get_over" = true)
    (k4 : PySem.W.keepIn K (.ref f4) = true)
    (a5 : PySem.W.nsIn K mainGlobals "begin" = some (some (.ref f5)))
    (l5 : K.lookup f5 = some ⟨oc5, od5, .func (PySem.W.fnOf "begin" "begin" (defArgs sBegin) (defBody sBegin) (defScope sBegin) .none kV5 dc5 pm5 an5 cd5 ct5), sl5⟩)
    (c5 : PySem.W.codeIn K cd5 "begin" = true)
    (k5 : PySem.W.keepIn K (.ref f5) = true)
    (a6 : PySem.W.nsIn K mainGlobals "most" = some (some (.ref f6)))
    (l6 : K.lookup f6 = some ⟨oc6, od6, .func (PySem.W.fnOf "most" "most" (defArgs sMost) (defBody sMost) (defScope sMost) .none kV6 dc6 pm6 an6 cd6 ct6), sl6⟩)
    (c6 : PySem.W.codeIn K cd6 "most" = true)
    (k6 : PySem.W.keepIn K (.ref f6) = true)
    (a7 : PySem.W.nsIn K mainGlobals "narrowest" = some (some (.ref f7)))
    (l7 : K.lookup f7 = some ⟨oc7, od7, .func (PySem.W.fnOf "narrowest" "narrowest" (defArgs sNarrowest) (defBody sNarrowest) (defScope sNarrowest) .none kV7 dc7 pm7 an7 cd7 ct7), sl7⟩)
    (c7 : PySem.W.codeIn K cd7 "narrowest" = true)
    (k7 : PySem.W.keepIn K (.ref f7) = true)
    (a8 : PySem.W.nsIn K mainGlobals "farthest_stone" = some (some (.ref f8)))
    (l8 : K.lookup f8 = some ⟨oc8, od8, .func (PySem.W.fnOf "farthest_stone" "farthest_stone" (defArgs sFarthest) (defBody sFarthest) (defScope sFarthest) .none kV8 dc8 pm8 an8 cd8 ct8), sl8⟩)
    (c8 : PySem.W.codeIn K cd8 "farthest_stone" = true)
    (k8 : PySem.W.keepIn K (.ref f8) = true)
    (a9 : PySem.W.nsIn K mainGlobals "fewest" = some (some (.ref f9)))
    (l9 : K.lookup f9 = some ⟨oc9, od9, .func (PySem.W.fnOf "fewest" "fewest" (defArgs sFewest) (defBody sFewest) (defScope sFewest) .none kV9 dc9 pm9 an9 cd9 ct9), sl9⟩)
    (c9 : PySem.W.codeIn K cd9 "fewest" = true)
    (k9 : PySem.W.keepIn K (.ref f9) = true)
    (a10 : PySem.W.nsIn K mainGlobals "steps_in_a_row" = some (some (.ref f10)))
    (l10 : K.lookup f10 = some ⟨oc10, od10, .func (PySem.W.fnOf "steps_in_a_row" "steps_in_a_row" (defArgs sSteps) (defBody sSteps) (defScope sSteps) .none kV10 dc10 pm10 an10 cd10 ct10), sl10⟩)
    (c10 : PySem.W.codeIn K cd10 "steps_in_a_row" = true)
    (k10 : PySem.W.keepIn K (.ref f10) = true)
    (a11 : PySem.W.nsIn K mainGlobals "planned_paths" = some (some (.ref f11)))
    (l11 : K.lookup f11 = some ⟨oc11, od11, .func (PySem.W.fnOf "planned_paths" "planned_paths" (defArgs sPaths) (defBody sPaths) (defScope sPaths) .none kV11 dc11 pm11 an11 cd11 ct11), sl11⟩)
    (c11 : PySem.W.codeIn K cd11 "planned_paths" = true)
    (k11 : PySem.W.keepIn K (.ref f11) = true)
    (a12 : PySem.W.nsIn K mainGlobals "plan" = some (some (.ref f12)))
    (l12 : K.lookup f12 = some ⟨oc12, od12, .func (PySem.W.fnOf "plan" "plan" (defArgs sPlan) (defBody sPlan) (defScope sPlan) .none kV12 dc12 pm12 an12 cd12 ct12), sl12⟩)
    (c12 : PySem.W.codeIn K cd12 "plan" = true)
    (k12 : PySem.W.keepIn K (.ref f12) = true)
    (a13 : PySem.W.nsIn K mainGlobals "rises_between_banks" = some (some (.ref f13)))
    (l13 : K.lookup f13 = some ⟨oc13, od13, .func (PySem.W.fnOf "rises_between_banks" "rises_between_banks" (defArgs sRises) (defBody sRises) (defScope sRises) .none kV13 dc13 pm13 an13 cd13 ct13), sl13⟩)
    (c13 : PySem.W.codeIn K cd13 "rises_between_banks" = true)
    (k13 : PySem.W.keepIn K (.ref f13) = true)
    (a14 : PySem.W.nsIn K mainGlobals "first_hindrance" = some (some (.ref f14)))
    (l14 : K.lookup f14 = some ⟨oc14, od14, .func (PySem.W.fnOf "first_hindrance" "first_hindrance" (defArgs sHind) (defBody sHind) (defScope sHind) .none kV14 dc14 pm14 an14 cd14 ct14), sl14⟩)
    (c14 : PySem.W.codeIn K cd14 "first_hindrance" = true)
    (k14 : PySem.W.keepIn K (.ref f14) = true)
    (a15 : PySem.W.nsIn K mainGlobals "get_over" = some (some (.ref f15)))
    (l15 : K.lookup f15 = some ⟨oc15, od15, .func (PySem.W.fnOf "get_over" "get_over" (defArgs sGetOver) (defBody sGetOver) (defScope sGetOver) .none kV15 dc15 pm15 an15 cd15 ct15), sl15⟩)
    (c15 : PySem.W.codeIn K cd15 "get_over" = true)
    (k15 : PySem.W.keepIn K (.ref f15) = true)
    (a16 : PySem.W.nsIn K mainGlobals "go" = some (some (.ref f16)))
    (l16 : K.lookup f16 = some ⟨oc16, od16, .func (PySem.W.fnOf "go" "go" (defArgs sGo) (defBody sGo) (defScope sGo) .none kV16 dc16 pm16 an16 cd16 ct16), sl16⟩)
    (c16 : PySem.W.codeIn K cd16 "go" = true)
    (k16 : PySem.W.keepIn K (.ref f16) = true)
    (a17 : PySem.W.nsIn K mainGlobals "cross" = some (some (.ref f17)))
    (l17 : K.lookup f17 = some ⟨oc17, od17, .func (PySem.W.fnOf "cross" "cross" (defArgs sCross) (defBody sCross) (defScope sCross) .none kV17 dc17 pm17 an17 cd17 ct17), sl17⟩)
    (c17 : PySem.W.codeIn K cd17 "cross" = true)
    (k17 : PySem.W.keepIn K (.ref f17) = true)
    (a18 : PySem.W.nsIn K mainGlobals "lay_on" = some (some (.ref f18)))
    (l18 : K.lookup f18 = some ⟨oc18, od18, .func (PySem.W.fnOf "lay_on" "lay_on" (defArgs sLayOn) (defBody sLayOn) (defScope sLayOn) .none kV18 dc18 pm18 an18 cd18 ct18), sl18⟩)
    (c18 : PySem.W.codeIn K cd18 "lay_on" = true)
    (k18 : PySem.W.keepIn K (.ref f18) = true)
    (a19 : PySem.W.nsIn K mainGlobals "lay" = some (some (.ref f19)))
    (l19 : K.lookup f19 = some ⟨oc19, od19, .func (PySem.W.fnOf "lay" "lay" (defArgs sLay) (defBody sLay) (defScope sLay) .none kV19 dc19 pm19 an19 cd19 ct19), sl19⟩)
    (c19 : PySem.W.codeIn K cd19 "lay" = true)
    (k19 : PySem.W.keepIn K (.ref f19) = true)
    (a20 : PySem.W.nsIn K mainGlobals "could_be_mended" = some (some (.ref f20)))
    (l20 : K.lookup f20 = some ⟨oc20, od20, .func (PySem.W.fnOf "could_be_mended" "could_be_mended" (defArgs sCould) (defBody sCould) (defScope sCould) .none kV20 dc20 pm20 an20 cd20 ct20), sl20⟩)
    (c20 : PySem.W.codeIn K cd20 "could_be_mended" = true)
    (k20 : PySem.W.keepIn K (.ref f20) = true)
    (a21 : PySem.W.nsIn K mainGlobals "borne_when_mended" = some (some (.ref f21)))
    (l21 : K.lookup f21 = some ⟨oc21, od21, .func (PySem.W.fnOf "borne_when_mended" "borne_when_mended" (defArgs sBorne) (defBody sBorne) (defScope sBorne) .none kV21 dc21 pm21 an21 cd21 ct21), sl21⟩)
    (c21 : PySem.W.codeIn K cd21 "borne_when_mended" = true)
    (k21 : PySem.W.keepIn K (.ref f21) = true)
    (a22 : PySem.W.nsIn K mainGlobals "laid_for" = some (some (.ref f22)))
    (l22 : K.lookup f22 = some ⟨oc22, od22, .func (PySem.W.fnOf "laid_for" "laid_for" (defArgs sLaidFor) (defBody sLaidFor) (defScope sLaidFor) .none kV22 dc22 pm22 an22 cd22 ct22), sl22⟩)
    (c22 : PySem.W.codeIn K cd22 "laid_for" = true)
    (k22 : PySem.W.keepIn K (.ref f22) = true)
    (a23 : PySem.W.nsIn K mainGlobals "mend" = some (some (.ref f23)))
    (l23 : K.lookup f23 = some ⟨oc23, od23, .func (PySem.W.fnOf "mend" "mend" (defArgs sMend) (defBody sMend) (defScope sMend) .none kV23 dc23 pm23 an23 cd23 ct23), sl23⟩)
    (c23 : PySem.W.codeIn K cd23 "mend" = true)
    (k23 : PySem.W.keepIn K (.ref f23) = true)
    (a24 : PySem.W.nsIn K mainGlobals "do" = some (some (.ref f24)))
    (l24 : K.lookup f24 = some ⟨oc24, od24, .func (PySem.W.fnOf "do" "do" (defArgs sDo) (defBody sDo) (defScope sDo) .none kV24 dc24 pm24 an24 cd24 ct24), sl24⟩)
    (c24 : PySem.W.codeIn K cd24 "do" = true)
    (k24 : PySem.W.keepIn K (.ref f24) = true)
    (a25 : PySem.W.nsIn K mainGlobals "look" = some (some (.ref f25)))
    (l25 : K.lookup f25 = some ⟨oc25, od25, .func (PySem.W.fnOf "look" "look" (defArgs sLook) (defBody sLook) (defScope sLook) .none kV25 dc25 pm25 an25 cd25 ct25), sl25⟩)
    (c25 : PySem.W.codeIn K cd25 "look" = true)
    (k25 : PySem.W.keepIn K (.ref f25) = true)
    (a26 : PySem.W.nsIn K mainGlobals "answer_of" = some (some (.ref f26)))
    (l26 : K.lookup f26 = some ⟨oc26, od26, .func (PySem.W.fnOf "answer_of" "answer_of" (defArgs sAnswerOf) (defBody sAnswerOf) (defScope sAnswerOf) .none kV26 dc26 pm26 an26 cd26 ct26), sl26⟩)
    (c26 : PySem.W.codeIn K cd26 "answer_of" = true)
    (k26 : PySem.W.keepIn K (.ref f26) = true)
    (a27 : PySem.W.nsIn K mainGlobals "answers" = some (some (.ref f27)))
    (l27 : K.lookup f27 = some ⟨oc27, od27, .func (PySem.W.fnOf "answers" "answers" (defArgs sAnswers) (defBody sAnswers) (defScope sAnswers) .none kV27 dc27 pm27 an27 cd27 ct27), sl27⟩)
    (c27 : PySem.W.codeIn K cd27 "answers" = true)
    (k27 : PySem.W.keepIn K (.ref f27) = true)
    (a28 : PySem.W.findIn K (.ref C) "__init__" = some (some (.ref f28)))
    (i28 : PySem.W.isFn K (.ref f28) = true)
    (l28 : K.lookup f28 = some ⟨oc28, od28, .func (PySem.W.fnOf "__init__" "River.__init__" (defArgs sInit) (defBody sInit) (defScope sInit) .none kV28 dc28 pm28 an28 cd28 ct28), sl28⟩)
    (c28 : PySem.W.codeIn K cd28 "River.__init__" = true)
    (k28 : PySem.W.keepIn K (.ref f28) = true)
    (g0 : PySem.W.nsIn K mainGlobals "BEGIN" = some (some (.int (0) tk0)))
    (g1 : PySem.W.nsIn K mainGlobals "MOST" = some (some (.int (1) tk1)))
    (g2 : PySem.W.nsIn K mainGlobals "NARROWEST" = some (some (.int (2) tk2)))
    (g3 : PySem.W.nsIn K mainGlobals "FEWEST" = some (some (.int (3) tk3)))
    (g4 : PySem.W.nsIn K mainGlobals "PLAN" = some (some (.int (4) tk4)))
    (g5 : PySem.W.nsIn K mainGlobals "GO" = some (some (.int (5) tk5)))
    (g6 : PySem.W.nsIn K mainGlobals "CROSS" = some (some (.int (6) tk6)))
    (g7 : PySem.W.nsIn K mainGlobals "LAY" = some (some (.int (7) tk7)))
    (g8 : PySem.W.nsIn K mainGlobals "MEND" = some (some (.int (8) tk8)))
    (g9 : PySem.W.nsIn K mainGlobals "DO" = some (some (.int (9) tk9)))
    (g10 : PySem.W.nsIn K mainGlobals "MOST_PLACES" = some (some (.int (11) tk10)))
    (g11 : PySem.W.nsIn K mainGlobals "MOST_BORNE" = some (some (.int (5) tk11)))
    (g12 : PySem.W.nsIn K mainGlobals "LONGEST_LEAP" = some (some (.int (12) tk12)))
    (g13 : PySem.W.nsIn K mainGlobals "MOST_PEOPLE" = some (some (.int (20) tk13)))
    (g14 : PySem.W.nsIn K mainGlobals "DOES_NOT_FIT" = some (some (.int (-1) tk14)))
    (g15 : PySem.W.nsIn K mainGlobals "BEARS_TOO_LITTLE" = some (some (.int (-6) tk15)))
    (g16 : PySem.W.nsIn K mainGlobals "TOO_FAR" = some (some (.int (-7) tk16)))
    (g17 : PySem.W.nsIn K mainGlobals "NO_STRETCH" = some (some (.int (-8) tk17)))
    (g18 : PySem.W.nsIn K mainGlobals "NO_RIVER" = some (some (.int (-9) tk18)))
    (z0 : PySem.W.nsIn K mainGlobals "len" = some none)
    (z1 : PySem.W.nsIn K mainGlobals "range" = some none)
    (z2 : PySem.W.nsIn K mainGlobals "sum" = some none)
    (z3 : PySem.W.nsIn K mainGlobals "all" = some none)
    (z4 : PySem.W.nsIn K mainGlobals "min" = some none)
    (z5 : PySem.W.nsIn K mainGlobals "max" = some none)
    (z6 : PySem.W.nsIn K mainGlobals "enumerate" = some none)
    (z7 : PySem.W.nsIn K mainGlobals "list" = some none)
    (z8 : PySem.W.nsIn K mainGlobals "zip" = some none)
    (u0 : PySem.W.nsIn K mainGlobals "NUMBERS_OF_CALL" = some (some (.ref tu0)))
    (v0 : K.lookup tu0 = some ⟨.type "tuple", ou0, .seq #[.int 0 tt0_0, .int 1 tt0_1, .int 1 tt0_2, .int 1 tt0_3, .int 2 tt0_4, .int 1 tt0_5, .int 2 tt0_6, .int 2 tt0_7, .int 2 tt0_8, .int 2 tt0_9, .int 0 tt0_10] nu0, su0⟩)
    (pg : PySem.W.plainGet K C Str.empty = true)
    (hd : PySem.W.hasDictIn K C = true)
    (po : PySem.W.plainOver K C = true)
    (sa : PySem.W.findIn K (.ref C) "__setattr__" = some (some (.builtin "object.__setattr__")))
    (mk : PySem.W.makesIn K C = true)
    (kc : PySem.W.keepIn K (.ref C) = true)
    (n0 : PySem.W.findIn K (.ref C) "bears" = some none)
    (n1 : PySem.W.findIn K (.ref C) "people" = some none)
    (n2 : PySem.W.findIn K (.ref C) "steps" = some none)
    (n3 : PySem.W.findIn K (.ref C) "laid" = some none)
    : ∃ fd : FuncData, (∀ (s : Shared) (us : List Value), us.length = (["calls"] : List Str).length → BindsTo s fd ⟨us, []⟩ ((["calls"] : List Str).zip us)) ∧ ∀ base : Heap, K.In base → base.Ns mainGlobals mg → FnOk P w K mg base CX0 7 fa fd ["calls"] (spAnswers K) := by
  have e := hfa.symm.trans (PySem.W.mg_of X G a27)
  cases e
  have F0 := fun_mk (st := sLeapFits) l0 c0 k0
  have b0 := F0.binds (ps := ["leap"]) fun _ _ _ _ _ _ us hl => match us, hl with | [_], _ => rfl
  have m0 := PySem.W.mg_of X G a0
  have F1 := fun_mk (st := sPeopleFit) l1 c1 k1
  have b1 := F1.binds (ps := ["people"]) fun _ _ _ _ _ _ us hl => match us, hl with | [_], _ => rfl
  have m1 := PySem.W.mg_of X G a1
  have F2 := fun_mk (st := sFarBank) l2 c2 k2
  have b2 := F2.binds (ps := ["bears"]) fun _ _ _ _ _ _ us hl => match us, hl with | [_], _ => rfl
  have m2 := PySem.W.mg_of X G a2
  have F3 := fun_mk (st := sSums) l3 c3 k3
  have b3 := F3.binds (ps := ["bears", "leap"]) fun _ _ _ _ _ _ us hl => match us, hl with | [_, _], _ => rfl
  have m3 := PySem.W.mg_of X G a3
  have F4 := fun_mk (st := sCan) l4 c4 k4
  have b4 := F4.binds (ps := ["bears", "leap", "people"]) fun _ _ _ _ _ _ us hl => match us, hl with | [_, _, _], _ => rfl
  have m4 := PySem.W.mg_of X G a4
  have F5 := fun_mk (st := sBegin) l5 c5 k5
  have b5 := F5.binds (ps := ["river", "bears"]) fun _ _ _ _ _ _ us hl => match us, hl with | [_, _], _ => rfl
  have m5 := PySem.W.mg_of X G a5
  have F6 := fun_mk (st := sMost) l6 c6 k6
  have b6 := F6.binds (ps := ["river", "leap"]) fun _ _ _ _ _ _ us hl => match us, hl with | [_, _], _ => rfl
  have m6 := PySem.W.mg_of X G a6
  have F7 := fun_mk (st := sNarrowest) l7 c7 k7
  have b7 := F7.binds (ps := ["river", "leap"]) fun _ _ _ _ _ _ us hl => match us, hl with | [_, _], _ => rfl
  have m7 := PySem.W.mg_of X G a7
  have F8 := fun_mk (st := sFarthest) l8 c8 k8
  have b8 := F8.binds (ps := ["bears", "stand", "leap"]) fun _ _ _ _ _ _ us hl => match us, hl with | [_, _, _], _ => rfl
  have m8 := PySem.W.mg_of X G a8
  have F9 := fun_mk (st := sFewest) l9 c9 k9
  have b9 := F9.binds (ps := ["river", "leap"]) fun _ _ _ _ _ _ us hl => match us, hl with | [_, _], _ => rfl
  have m9 := PySem.W.mg_of X G a9
  have F10 := fun_mk (st := sSteps) l10 c10 k10
  have b10 := F10.binds (ps := ["bears", "people"]) fun _ _ _ _ _ _ us hl => match us, hl with | [_, _], _ => rfl
  have m10 := PySem.W.mg_of X G a10
  have F11 := fun_mk (st := sPaths) l11 c11 k11
  have b11 := F11.binds (ps := ["bears", "leap", "people"]) fun _ _ _ _ _ _ us hl => match us, hl with | [_, _, _], _ => rfl
  have m11 := PySem.W.mg_of X G a11
  have F12 := fun_mk (st := sPlan) l12 c12 k12
  have b12 := F12.binds (ps := ["river", "leap", "people"]) fun _ _ _ _ _ _ us hl => match us, hl with | [_, _, _], _ => rfl
  have m12 := PySem.W.mg_of X G a12
  have F13 := fun_mk (st := sRises) l13 c13 k13
  have b13 := F13.binds (ps := ["bears", "path"]) fun _ _ _ _ _ _ us hl => match us, hl with | [_, _], _ => rfl
  have m13 := PySem.W.mg_of X G a13
  have F14 := fun_mk (st := sHind) l14 c14 k14
  have b14 := F14.binds (ps := ["bears", "leap", "path"]) fun _ _ _ _ _ _ us hl => match us, hl with | [_, _, _], _ => rfl
  have m14 := PySem.W.mg_of X G a14
  have F15 := fun_mk (st := sGetOver) l15 c15 k15
  have b15 := F15.binds (ps := ["river", "path"]) fun _ _ _ _ _ _ us hl => match us, hl with | [_, _], _ => rfl
  have m15 := PySem.W.mg_of X G a15
  have F16 := fun_mk (st := sGo) l16 c16 k16
  have b16 := F16.binds (ps := ["river", "leap", "path"]) fun _ _ _ _ _ _ us hl => match us, hl with | [_, _, _], _ => rfl
  have m16 := PySem.W.mg_of X G a16
  have F17 := fun_mk (st := sCross) l17 c17 k17
  have b17 := F17.binds (ps := ["river", "leap", "people"]) fun _ _ _ _ _ _ us hl => match us, hl with | [_, _, _], _ => rfl
  have m17 := PySem.W.mg_of X G a17
  have F18 := fun_mk (st := sLayOn) l18 c18 k18
  have b18 := F18.binds (ps := ["river", "place", "steps"]) fun _ _ _ _ _ _ us hl => match us, hl with | [_, _, _], _ => rfl
  have m18 := PySem.W.mg_of X G a18
  have F19 := fun_mk (st := sLay) l19 c19 k19
  have b19 := F19.binds (ps := ["river", "place", "steps"]) fun _ _ _ _ _ _ us hl => match us, hl with | [_, _, _], _ => rfl
  have m19 := PySem.W.mg_of X G a19
  have F20 := fun_mk (st := sCould) l20 c20 k20
  have b20 := F20.binds (ps := ["bears", "leap", "people"]) fun _ _ _ _ _ _ us hl => match us, hl with | [_, _, _], _ => rfl
  have m20 := PySem.W.mg_of X G a20
  have F21 := fun_mk (st := sBorne) l21 c21 k21
  have b21 := F21.binds (ps := ["bears", "leap", "people"]) fun _ _ _ _ _ _ us hl => match us, hl with | [_, _, _], _ => rfl
  have m21 := PySem.W.mg_of X G a21
  have F22 := fun_mk (st := sLaidFor) l22 c22 k22
  have b22 := F22.binds (ps := ["bears", "leap", "people"]) fun _ _ _ _ _ _ us hl => match us, hl with | [_, _, _], _ => rfl
  have m22 := PySem.W.mg_of X G a22
  have F23 := fun_mk (st := sMend) l23 c23 k23
  have b23 := F23.binds (ps := ["river", "leap", "people"]) fun _ _ _ _ _ _ us hl => match us, hl with | [_, _, _], _ => rfl
  have m23 := PySem.W.mg_of X G a23
  have F24 := fun_mk (st := sDo) l24 c24 k24
  have b24 := F24.binds (ps := ["river", "leap", "people"]) fun _ _ _ _ _ _ us hl => match us, hl with | [_, _, _], _ => rfl
  have m24 := PySem.W.mg_of X G a24
  have F25 := fun_mk (st := sLook) l25 c25 k25
  have b25 := F25.binds (ps := ["river"]) fun _ _ _ _ _ _ us hl => match us, hl with | [_], _ => rfl
  have m25 := PySem.W.mg_of X G a25
  have F26 := fun_mk (st := sAnswerOf) l26 c26 k26
  have b26 := F26.binds (ps := ["river", "call", "numbers", "row"]) fun _ _ _ _ _ _ us hl => match us, hl with | [_, _, _, _], _ => rfl
  have m26 := PySem.W.mg_of X G a26
  have F27 := fun_mk (st := sAnswers) l27 c27 k27
  have b27 := F27.binds (ps := ["calls"]) fun _ _ _ _ _ _ us hl => match us, hl with | [_], _ => rfl
  have m27 := PySem.W.mg_of X G a27
  have F28 := fun_mk (st := sInit) l28 c28 k28
  have b28 := F28.binds (ps := ["self"]) fun _ _ _ _ _ _ us hl => match us, hl with | [_], _ => rfl
  have G0 : Gi mg "BEGIN" (0) := ⟨_, PySem.W.mg_of X G g0⟩
  have G1 : Gi mg "MOST" (1) := ⟨_, PySem.W.mg_of X G g1⟩
  have G2 : Gi mg "NARROWEST" (2) := ⟨_, PySem.W.mg_of X G g2⟩
  have G3 : Gi mg "FEWEST" (3) := ⟨_, PySem.W.mg_of X G g3⟩
  have G4 : Gi mg "PLAN" (4) := ⟨_, PySem.W.mg_of X G g4⟩
  have G5 : Gi mg "GO" (5) := ⟨_, PySem.W.mg_of X G g5⟩
  have G6 : Gi mg "CROSS" (6) := ⟨_, PySem.W.mg_of X G g6⟩
  have G7 : Gi mg "LAY" (7) := ⟨_, PySem.W.mg_of X G g7⟩
  have G8 : Gi mg "MEND" (8) := ⟨_, PySem.W.mg_of X G g8⟩
  have G9 : Gi mg "DO" (9) := ⟨_, PySem.W.mg_of X G g9⟩
  have G10 : Gi mg "MOST_PLACES" (11) := ⟨_, PySem.W.mg_of X G g10⟩
  have G11 : Gi mg "MOST_BORNE" (5) := ⟨_, PySem.W.mg_of X G g11⟩
  have G12 : Gi mg "LONGEST_LEAP" (12) := ⟨_, PySem.W.mg_of X G g12⟩
  have G13 : Gi mg "MOST_PEOPLE" (20) := ⟨_, PySem.W.mg_of X G g13⟩
  have G14 : Gi mg "DOES_NOT_FIT" (-1) := ⟨_, PySem.W.mg_of X G g14⟩
  have G15 : Gi mg "BEARS_TOO_LITTLE" (-6) := ⟨_, PySem.W.mg_of X G g15⟩
  have G16 : Gi mg "TOO_FAR" (-7) := ⟨_, PySem.W.mg_of X G g16⟩
  have G17 : Gi mg "NO_STRETCH" (-8) := ⟨_, PySem.W.mg_of X G g17⟩
  have G18 : Gi mg "NO_RIVER" (-9) := ⟨_, PySem.W.mg_of X G g18⟩
  have Z0 := PySem.W.mg_none_of X G z0
  have Z1 := PySem.W.mg_none_of X G z1
  have Z2 := PySem.W.mg_none_of X G z2
  have Z3 := PySem.W.mg_none_of X G z3
  have Z4 := PySem.W.mg_none_of X G z4
  have Z5 := PySem.W.mg_none_of X G z5
  have Z6 := PySem.W.mg_none_of X G z6
  have Z7 := PySem.W.mg_none_of X G z7
  have Z8 := PySem.W.mg_none_of X G z8
  have U0 := PySem.W.mg_of X G u0
  have MC := PySem.W.mg_of X G aC
  refine ⟨PySem.W.fnOf "answers" "answers" (defArgs sAnswers) (defBody sAnswers) (defScope sAnswers) .none kV27 dc27 pm27 an27 cd27 ct27, fun s us hu => match us, hu with | [_], _ => .of_eq rfl, fun base _ _ => ?_⟩
  have T : Cl K C := ⟨⟨pg, hd, po, sa⟩, n0⟩
  have T4 : Cl4 K C := ⟨T, n1, n2, n3⟩
  have D0 : Def P w K mg base 1 "leap_fits" ["leap"] spLeapFits := ⟨_, _, ok_leap F0 G12, m0, k0, b0⟩
  have D1 : Def P w K mg base 1 "people_fit" ["people"] spPeopleFit := ⟨_, _, ok_people F1 G13, m1, k1, b1⟩
  have D2 : Def P w K mg base 1 "far_bank" ["bears"] (spFarBank K) := ⟨_, _, ok_far F2 Z0, m2, k2, b2⟩
  have D3 : Def P w K mg base 1 "stretch_sums" ["bears", "leap"] (spSums K) := ⟨_, _, ok_sums F3 Z0 Z1 Z2, m3, k3, b3⟩
  have D4 : Def P w K mg base 2 "can_get_over" ["bears", "leap", "people"] (spCan K) := ⟨_, _, ok_can F4 D3 Z3, m4, k4, b4⟩
  have D5 : Def P w K mg base 1 "begin" ["river", "bears"] (spBegin C) := ⟨_, _, ok_begin F5 T4 G14 G10 G11 Z0 Z5 Z7, m5, k5, b5⟩
  have D6 : Def P w K mg base 2 "most" ["river", "leap"] (spMost C) := ⟨_, _, ok_most F6 T D0 D3 G14 G17 Z0 Z4, m6, k6, b6⟩
  have D7 : Def P w K mg base 2 "narrowest" ["river", "leap"] (spNarrowest C) := ⟨_, _, ok_narrowest F7 T D0 D3 G14 G17 Z0 Z4, m7, k7, b7⟩
  have D8 : Def P w K mg base 1 "farthest_stone" ["bears", "stand", "leap"] (spFarthest K) := ⟨_, _, ok_farthest F8, m8, k8, b8⟩
  have D9 : Def P w K mg base 3 "fewest" ["river", "leap"] (spFewest C) := ⟨_, _, ok_fewest F9 T D0 D4 D8 D2 G14 G15 Z0, m9, k9, b9⟩
  have D10 : Def P w K mg base 1 "steps_in_a_row" ["bears", "people"] (spSteps K) := ⟨_, _, ok_steps F10 Z6 Z4, m10, k10, b10⟩
  have D11 : Def P w K mg base 2 "planned_paths" ["bears", "leap", "people"] (spPaths K) := ⟨_, _, ok_paths F11 D10 D2 Z6 Z1, m11, k11, b11⟩
  have D12 : Def P w K mg base 3 "plan" ["river", "leap", "people"] (spPlan C) := ⟨_, _, ok_plan F12 T D0 D1 D4 D11 G14 G15 Z0, m12, k12, b12⟩
  have D13 : Def P w K mg base 2 "rises_between_banks" ["bears", "path"] (spRises K) := ⟨_, _, ok_rises F13 D2, m13, k13, b13⟩
  have D14 : Def P w K mg base 2 "first_hindrance" ["bears", "leap", "path"] (spHind K) := ⟨_, _, ok_hind F14 D2 G15 G16, m14, k14, b14⟩
  have D15 : Def P w K mg base 1 "get_over" ["river", "path"] (spGetOver C) := ⟨_, _, ok_getover F15 T4 Z0, m15, k15, b15⟩
  have D16 : Def P w K mg base 3 "go" ["river", "leap", "path"] (spGo C) := ⟨_, _, ok_go F16 T4 D0 D13 D14 D15 G14 Z0, m16, k16, b16⟩
  have D17 : Def P w K mg base 3 "cross" ["river", "leap", "people"] (spCross C) := ⟨_, _, ok_cross F17 T4 D0 D1 D4 D11 D15 G14 G15 Z0 Z2, m17, k17, b17⟩
  have D18 : Def P w K mg base 1 "lay_on" ["river", "place", "steps"] (spLayOn C) := ⟨_, _, ok_layon F18 T4, m18, k18, b18⟩
  have D19 : Def P w K mg base 2 "lay" ["river", "place", "steps"] (spLay C) := ⟨_, _, ok_lay F19 T4 D2 D18 G14 G11, m19, k19, b19⟩
  have D20 : Def P w K mg base 3 "could_be_mended" ["bears", "leap", "people"] (spCould K) := ⟨_, _, ok_could F20 D4 G11 Z0, m20, k20, b20⟩
  have D21 : Def P w K mg base 2 "borne_when_mended" ["bears", "leap", "people"] (spBorne K) := ⟨_, _, ok_borne F21 D2 G11 Z7 Z1 Z2 Z4, m21, k21, b21⟩
  have D22 : Def P w K mg base 3 "laid_for" ["bears", "leap", "people"] (spLaidFor K) := ⟨_, _, ok_laidfor F22 D21 Z8, m22, k22, b22⟩
  have D23 : Def P w K mg base 4 "mend" ["river", "leap", "people"] (spMend C) := ⟨_, _, ok_mend F23 T4 D0 D1 D20 D22 G14 G15 Z2, m23, k23, b23⟩
  have D24 : Def P w K mg base 5 "do" ["river", "leap", "people"] (spDo C) := ⟨_, _, ok_do F24 T4 D23 D18 Z6, m24, k24, b24⟩
  have D25 : Def P w K mg base 1 "look" ["river"] (spLook C) := ⟨_, _, ok_look F25 T4 Z0, m25, k25, b25⟩
  have D26 : Def P w K mg base 6 "answer_of" ["river", "call", "numbers", "row"] (spAnswerOf (Rst C)) := ⟨_, _, ok_answerof F26 T4 D5 D6 D7 D9 D12 D16 D17 D19 D23 D24 D25 G0 G1 G2 G3 G4 G5 G6 G7 G8 G9 G18 Z0, m26, k26, b26⟩
  have U : ∀ H, SqT K H tu0 (nv needs) := fun H => .inr ⟨_, _, _, v0, rfl, rfl, (by show 11 ≤ sizeLine; decide), .cons ⟨_, rfl⟩ (.cons ⟨_, rfl⟩ (.cons ⟨_, rfl⟩ (.cons ⟨_, rfl⟩ (.cons ⟨_, rfl⟩ (.cons ⟨_, rfl⟩ (.cons ⟨_, rfl⟩ (.cons ⟨_, rfl⟩ (.cons ⟨_, rfl⟩ (.cons ⟨_, rfl⟩ (.cons ⟨_, rfl⟩ (.nil)))))))))))⟩
  exact ok_answers (kk := 4) (rst_ok C) F27 ⟨mk, a28, i28, kc⟩ (ok_init F28 T4) b28 MC D26 U U0 G0 G5 Z0
end Rv
open PySem PySem.W PyProof.Rows
set_option maxRecDepth 100000 in
set_option maxHeartbeats 0 in
theorem PySem.Challenge.cw_steppedover_s01_answers_holds : PySem.Challenge.rw_steppedover_s01_answers.Holds := by
  w_on; k_headS; (case hw => exact ⟨[.list [.int 10]], by decide +kernel, by decide +kernel⟩)
  k_fillS
  refine L2.walk_specK (r := PySem.Challenge.rw_steppedover_s01_answers) (k := 7) (CX := L2.CX0) (ps := ["calls"]) (sp := Rv.spAnswers) (by decide +kernel) rfl rfl ⟨rfl, by decide, by decide⟩ (fun w h Y => PySem.W.kIn_of Y) ?F ?S (fun _ _ _ _ z => z)
  case F =>
    intro w mg fa h Y KX G hmg
    refine' Rv.all_mk KX G hmg ?rvq_aC ?rvq_a0 ?rvq_l0 ?rvq_c0 ?rvq_k0 ?rvq_a1 ?rvq_l1 ?rvq_c1 ?rvq_k1 ?rvq_a2 ?rvq_l2 ?rvq_c2 ?rvq_k2 ?rvq_a3 ?rvq_l3 ?rvq_c3 ?rvq_k3 ?rvq_a4 ?rvq_l4 ?rvq_c4 ?rvq_k4 ?rvq_a5 ?rvq_l5 ?rvq_c5 ?rvq_k5 ?rvq_a6 ?rvq_l6 ?rvq_c6 ?rvq_k6 ?rvq_a7 ?rvq_l7 ?rvq_c7 ?rvq_k7 ?rvq_a8 ?rvq_l8 ?rvq_c8 ?rvq_k8 ?rvq_a9 ?rvq_l9 ?rvq_c9 ?rvq_k9 ?rvq_a10 ?rvq_l10 ?rvq_c10 ?rvq_k10 ?rvq_a11 ?rvq_l11 ?rvq_c11 ?rvq_k11 ?rvq_a12 ?rvq_l12 ?rvq_c12 ?rvq_k12 ?rvq_a13 ?rvq_l13 ?rvq_c13 ?rvq_k13 ?rvq_a14 ?rvq_l14 ?rvq_c14 ?rvq_k14 ?rvq_a15 ?rvq_l15 ?rvq_c15 ?rvq_k15 ?rvq_a16 ?rvq_l16 ?rvq_c16 ?rvq_k16 ?rvq_a17 ?rvq_l17 ?rvq_c17 ?rvq_k17 ?rvq_a18 ?rvq_l18 ?rvq_c18 ?rvq_k18 ?rvq_a19 ?rvq_l19 ?rvq_c19 ?rvq_k19 ?rvq_a20 ?rvq_l20 ?rvq_c20 ?rvq_k20 ?rvq_a21 ?rvq_l21 ?rvq_c21 ?rvq_k21 ?rvq_a22 ?rvq_l22 ?rvq_c22 ?rvq_k22 ?rvq_a23 ?rvq_l23 ?rvq_c23 ?rvq_k23 ?rvq_a24 ?rvq_l24 ?rvq_c24 ?rvq_k24 ?rvq_a25 ?rvq_l25 ?rvq_c25 ?rvq_k25 ?rvq_a26 ?rvq_l26 ?rvq_c26 ?rvq_k26 ?rvq_a27 ?rvq_l27 ?rvq_c27 ?rvq_k27 ?rvq_a28 ?rvq_i28 ?rvq_l28 ?rvq_c28 ?rvq_k28 ?rvq_g0 ?rvq_g1 ?rvq_g2 ?rvq_g3 ?rvq_g4 ?rvq_g5 ?rvq_g6 ?rvq_g7 ?rvq_g8 ?rvq_g9 ?rvq_g10 ?rvq_g11 ?rvq_g12 ?rvq_g13 ?rvq_g14 ?rvq_g15 ?rvq_g16 ?rvq_g17 ?rvq_g18 ?rvq_z0 ?rvq_z1 ?rvq_z2 ?rvq_z3 ?rvq_z4 ?rvq_z5 ?rvq_z6 ?rvq_z7 ?rvq_z8 ?rvq_u0 ?rvq_v0 ?rvq_pg ?rvq_hd ?rvq_po ?rvq_sa ?rvq_mk ?rvq_kc ?rvq_n0 ?rvq_n1 ?rvq_n2 ?rvq_n3
    (case rvq_aC => k_is)
    (case rvq_a0 => k_is)
    (case rvq_l0 => k_is)
    (case rvq_c0 => k_is)
    (case rvq_k0 => k_is)
    (case rvq_a1 => k_is)
    (case rvq_l1 => k_is)
    (case rvq_c1 => k_is)
    (case rvq_k1 => k_is)
    (case rvq_a2 => k_is)
    (case rvq_l2 => k_is)
    (case rvq_c2 => k_is)
    (case rvq_k2 => k_is)
    (case rvq_a3 => k_is)
    (case rvq_l3 => k_is)
    (case rvq_c3 => k_is)
    (case rvq_k3 => k_is)
    (case rvq_a4 => k_is)
    (case rvq_l4 => k_is)
    (case rvq_c4 => k_is)
    (case rvq_k4 => k_is)
    (case rvq_a5 => k_is)
    (case rvq_l5 => k_is)
    (case rvq_c5 => k_is)
    (case rvq_k5 => k_is)
    (case rvq_a6 => k_is)
    (case rvq_l6 => k_is)
    (case rvq_c6 => k_is)
    (case rvq_k6 => k_is)
    (case rvq_a7 => k_is)
    (case rvq_l7 => k_is)
    (case rvq_c7 => k_is)
    (case rvq_k7 => k_is)
    (case rvq_a8 => k_is)
    (case rvq_l8 => k_is)
    (case rvq_c8 => k_is)
    (case rvq_k8 => k_is)
    (case rvq_a9 => k_is)
    (case rvq_l9 => k_is)
    (case rvq_c9 => k_is)
    (case rvq_k9 => k_is)
    (case rvq_a10 => k_is)
    (case rvq_l10 => k_is)
    (case rvq_c10 => k_is)
    (case rvq_k10 => k_is)
    (case rvq_a11 => k_is)
    (case rvq_l11 => k_is)
    (case rvq_c11 => k_is)
    (case rvq_k11 => k_is)
    (case rvq_a12 => k_is)
    (case rvq_l12 => k_is)
    (case rvq_c12 => k_is)
    (case rvq_k12 => k_is)
    (case rvq_a13 => k_is)
    (case rvq_l13 => k_is)
    (case rvq_c13 => k_is)
    (case rvq_k13 => k_is)
    (case rvq_a14 => k_is)
    (case rvq_l14 => k_is)
    (case rvq_c14 => k_is)
    (case rvq_k14 => k_is)
    (case rvq_a15 => k_is)
    (case rvq_l15 => k_is)
    (case rvq_c15 => k_is)
    (case rvq_k15 => k_is)
    (case rvq_a16 => k_is)
    (case rvq_l16 => k_is)
    (case rvq_c16 => k_is)
    (case rvq_k16 => k_is)
    (case rvq_a17 => k_is)
    (case rvq_l17 => k_is)
    (case rvq_c17 => k_is)
    (case rvq_k17 => k_is)
    (case rvq_a18 => k_is)
    (case rvq_l18 => k_is)
    (case rvq_c18 => k_is)
    (case rvq_k18 => k_is)
    (case rvq_a19 => k_is)
    (case rvq_l19 => k_is)
    (case rvq_c19 => k_is)
    (case rvq_k19 => k_is)
    (case rvq_a20 => k_is)
    (case rvq_l20 => k_is)
    (case rvq_c20 => k_is)
    (case rvq_k20 => k_is)
    (case rvq_a21 => k_is)
    (case rvq_l21 => k_is)
    (case rvq_c21 => k_is)
    (case rvq_k21 => k_is)
    (case rvq_a22 => k_is)
    (case rvq_l22 => k_is)
    (case rvq_c22 => k_is)
    (case rvq_k22 => k_is)
    (case rvq_a23 => k_is)
    (case rvq_l23 => k_is)
    (case rvq_c23 => k_is)
    (case rvq_k23 => k_is)
    (case rvq_a24 => k_is)
    (case rvq_l24 => k_is)
    (case rvq_c24 => k_is)
    (case rvq_k24 => k_is)
    (case rvq_a25 => k_is)
    (case rvq_l25 => k_is)
    (case rvq_c25 => k_is)
    (case rvq_k25 => k_is)
    (case rvq_a26 => k_is)
    (case rvq_l26 => k_is)
    (case rvq_c26 => k_is)
    (case rvq_k26 => k_is)
    (case rvq_a27 => k_is)
    (case rvq_l27 => k_is)
    (case rvq_c27 => k_is)
    (case rvq_k27 => k_is)
    (case rvq_a28 => k_is)
    (case rvq_i28 => k_is)
    (case rvq_l28 => k_is)
    (case rvq_c28 => k_is)
    (case rvq_k28 => k_is)
    (case rvq_g0 => k_is)
    (case rvq_g1 => k_is)
    (case rvq_g2 => k_is)
    (case rvq_g3 => k_is)
    (case rvq_g4 => k_is)
    (case rvq_g5 => k_is)
    (case rvq_g6 => k_is)
    (case rvq_g7 => k_is)
    (case rvq_g8 => k_is)
    (case rvq_g9 => k_is)
    (case rvq_g10 => k_is)
    (case rvq_g11 => k_is)
    (case rvq_g12 => k_is)
    (case rvq_g13 => k_is)
    (case rvq_g14 => k_is)
    (case rvq_g15 => k_is)
    (case rvq_g16 => k_is)
    (case rvq_g17 => k_is)
    (case rvq_g18 => k_is)
    (case rvq_z0 => k_is)
    (case rvq_z1 => k_is)
    (case rvq_z2 => k_is)
    (case rvq_z3 => k_is)
    (case rvq_z4 => k_is)
    (case rvq_z5 => k_is)
    (case rvq_z6 => k_is)
    (case rvq_z7 => k_is)
    (case rvq_z8 => k_is)
    (case rvq_u0 => k_is)
    (case rvq_v0 => k_is)
    (case rvq_pg => k_is)
    (case rvq_hd => k_is)
    (case rvq_po => k_is)
    (case rvq_sa => k_is)
    (case rvq_mk => k_is)
    (case rvq_kc => k_is)
    (case rvq_n0 => k_is)
    (case rvq_n1 => k_is)
    (case rvq_n2 => k_is)
    (case rvq_n3 => k_is)
  case S =>
    exact Rv.asked_ok

