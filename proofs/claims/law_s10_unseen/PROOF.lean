import PyProof.Rows.All
import Wide.All
import OpenK.AllK
import Wide.FinOn
import PyProof.EqAt
import PyProof.EqKinds
import PyProof.TupleCall
import KE.BitLaws
import Open.SpecLaws
import KE.OsHead
import KE.OsGo
import PyProof.ExcInit
import PyProof.InstStoreFacts
import PyProof.ExcBaseAll.ValueError
import PyProof.ExcArgsOwn
import PyProof.RulesAs
import PyProof.StationsW
import PyProof.Draws
import PyProof.EnumMake
import PyProof.TupleIter
import PySem.Challenge.RW_lettershapesdesk_s10_unseen
set_option Elab.async false
set_option linter.all false
set_option maxRecDepth 100000
namespace L2
open PySem PySem.Spec PyProof.Rows
abbrev Key := Sum Int Str
def keyIs : Key → Value → Bool
  | .inl k, v => Value.isInt k v
  | .inr x, v => Value.isStrOf x v
def keyH (w : World) : Key → Int
  | .inl k => hashInt k
  | .inr x => hashStr w x
theorem keyIs_shape : ∀ {k : Key} {v : Value}, keyIs k v = true → (∃ i t, k = Sum.inl i ∧ v = Value.int i t) ∨ (∃ x t, k = Sum.inr x ∧ v = Value.str x t)
  | .inl i, v, h => by
    obtain ⟨t, e⟩ := Value.isInt_shape (k := i) (v := v) h
    exact .inl ⟨i, t, rfl, e⟩
  | .inr x, v, h => by
    obtain ⟨t, e⟩ := Value.isStrOf_shape (x := x) (v := v) h
    exact .inr ⟨x, t, rfl, e⟩
theorem key_ll (a b : Int) : decide ((Sum.inl a : Key) = Sum.inl b) = (a == b) := by
  by_cases e : a = b
  · subst e; simp
  · have h : ¬ (Sum.inl a : Key) = Sum.inl b := fun q => e (Sum.inl.inj q)
    rw [decide_eq_false h]
    exact (beq_eq_false_iff_ne.mpr e).symm
theorem key_rr (a b : Str) : decide ((Sum.inr a : Key) = Sum.inr b) = decide (a = b) := by
  by_cases e : a = b
  · subst e; simp
  · have h : ¬ (Sum.inr a : Key) = Sum.inr b := fun q => e (Sum.inr.inj q)
    rw [decide_eq_false h, decide_eq_false e]
theorem key_lr (a : Int) (b : Str) : decide ((Sum.inl a : Key) = Sum.inr b) = false := decide_eq_false (fun q => nomatch q)
theorem key_rl (a : Str) (b : Int) : decide ((Sum.inr a : Key) = Sum.inl b) = false := decide_eq_false (fun q => nomatch q)
def mixKind (prog : Program) (w : World) : PySem.KeyKind prog w Key where
  is := keyIs
  hash := keyH w
  inj := fun v a b ha hb => by
    rcases keyIs_shape ha with ⟨i, t, rfl, rfl⟩ | ⟨x, t, rfl, rfl⟩
    · rcases keyIs_shape hb with ⟨j, u, rfl, e⟩ | ⟨y, u, rfl, e⟩
      · injection e with e1 _; rw [e1]
      · exact nomatch e
    · rcases keyIs_shape hb with ⟨j, u, rfl, e⟩ | ⟨y, u, rfl, e⟩
      · exact nomatch e
      · injection e with e1 _; rw [e1]
  byValue := fun k v h => by
    rcases keyIs_shape h with ⟨i, t, rfl, rfl⟩ | ⟨x, t, rfl, rfl⟩ <;> rfl
  pyHash := fun hv h => by
    rcases keyIs_shape hv with ⟨i, t, rfl, rfl⟩ | ⟨x, t, rfl, rfl⟩
    · exact wpAny_pyHash_int h
    · exact wpAny_pyHash_str h
  eqBool := fun hu hv h => by
    rcases keyIs_shape hu with ⟨i, t, rfl, rfl⟩ | ⟨x, t, rfl, rfl⟩
    · rcases keyIs_shape hv with ⟨j, u, rfl, rfl⟩ | ⟨y, u, rfl, rfl⟩
      · rw [key_ll] at h; exact wpAny_eqBool_int h
      · rw [key_lr] at h; exact SeqAt.EqAt.int_str i t y u _ _ _ _ h
    · rcases keyIs_shape hv with ⟨j, u, rfl, rfl⟩ | ⟨y, u, rfl, rfl⟩
      · rw [key_rl] at h; exact SeqAt.EqAt.str_int x t j u _ _ _ _ h
      · rw [key_rr] at h; exact wpAny_eqBool_str h
  «strs» := fun k x t v h => by
    rcases keyIs_shape h with ⟨i, u, rfl, e⟩ | ⟨y, u, rfl, e⟩
    · exact nomatch e
    · injection e with e1 _
      subst e1
      cases v <;> rfl
end L2
namespace L2
open PySem PySem.Spec PyProof.Rows
inductive V where
  | non | bl (b : Bool) | int (i : Int) | str (x : Str) | byt (b : Array UInt8) | flt (b : UInt64) | ref (a : Addr) | ty (n : String)
  deriving DecidableEq
def RelV : V → Value → Prop
  | .non, u => u = Value.none
  | .bl b, u => u = Value.bool b
  | .int i, u => ∃ t, u = Value.int i t
  | .str x, u => ∃ t, u = Value.str x t
  | .byt b, u => ∃ t, u = Value.bytes b t
  | .flt b, u => ∃ t, u = Value.float b t
  | .ref a, u => u = Value.ref a
  | .ty n, u => u = Value.type n
abbrev Vals : List V → List Value → Prop := Paired RelV
theorem Vals.length {xs : List V} {us : List Value} (r : Vals xs us) : xs.length = us.length := Paired.length r
theorem Vals.get : ∀ {xs : List V} {us : List Value} {i : Nat} {x : V}, Vals xs us → xs[i]? = some x → ∃ u, us[i]? = some u ∧ RelV x u
  | _, _, _, _, .nil, e => by simp at e
  | _, _, 0, _, .cons r _, e => by simp at e; subst e; exact ⟨_, rfl, r⟩
  | _, _, i + 1, x, .cons _ t, e => by
    obtain ⟨u, h1, h2⟩ := Vals.get (i := i) (x := x) t (by simpa using e)
    exact ⟨u, by simpa using h1, h2⟩
theorem Vals.append : ∀ {xs ys : List V} {us ws : List Value}, Vals xs us → Vals ys ws → Vals (xs ++ ys) (us ++ ws)
  | _, _, _, _, .nil, s => s
  | _, _, _, _, .cons r t, s => .cons r (Vals.append t s)
theorem Vals.take : ∀ {xs : List V} {us : List Value} (n : Nat), Vals xs us → Vals (xs.take n) (us.take n)
  | _, _, 0, _ => .nil
  | _, _, _ + 1, .nil => .nil
  | _, _, n + 1, .cons r t => .cons r (Vals.take n t)
theorem Vals.drop : ∀ {xs : List V} {us : List Value} (n : Nat), Vals xs us → Vals (xs.drop n) (us.drop n)
  | _, _, 0, r => r
  | _, _, _ + 1, .nil => .nil
  | _, _, n + 1, .cons _ t => Vals.drop n t
def RelO : Option V → Option Value → Prop
  | some v, some u => RelV v u
  | none, none => True
  | _, _ => False
def KV {κ : Type} : List (κ × V) → List (κ × Value) → Prop := Paired fun (p : κ × V) (q : κ × Value) => p.1 = q.1 ∧ RelV p.2 q.2
def kV : Key → V
  | .inl i => .int i
  | .inr x => .str x
inductive HO where
  /-- a list -/
  | lst (xs : List V)
  /-- a tuple (never changes) -/
  | tup (xs : List V)
  /-- a dict whose keys are ints and texts; one whose keys are tuples of ints and texts (the empty one is both) -/
  | dK (kvs : List (Key × V)) | dT (kvs : List (List Key × V))
  /-- a set of ints: its members, its size -/
  | set (S : Int → Bool) (n : Nat)
  /-- an instance of the class at C, its dict at dx, its attributes -/
  | ins (C dx : Addr) (fs : List (Str × V))
  /-- the dict of the instance at x -/
  | own (x : Addr)
  /-- the dict of an exception -/
  | xd (fs : List (Str × V))
  /-- a bound method, f of x -/
  | met (f x : Addr)
  /-- a range object lo, lo + 1, .. below hi -/
  | rng (lo hi : Int)
  /-- a thing that is known to the object (the script; a dict while a loop walks it): read, never written while it is so -/
  | frz (o : Obj) (u : HO)
  /-- a code object's table -/
  | tbl (ps : Array Value)
  /-- any other thing, by what is true of its one object (a def of one's own: SetO a S n := HO.ext fun h => ..) -/
  | ext (φ : Heap → Prop)
abbrev Hp := Addr → Option HO
def upd (H : Hp) (a : Addr) (o : HO) : Hp := fun b => if b = a then some o else H b
theorem upd_same {H : Hp} {a : Addr} {o : HO} : upd H a o a = some o := by unfold upd; rw [if_pos rfl]
theorem upd_ne {H : Hp} {a b : Addr} {o : HO} (h : b ≠ a) : upd H a o b = H b := by unfold upd; rw [if_neg h]
theorem ne_of_none {H : Hp} {a b : Addr} {o : HO} (h : H a = some o) (h' : H b = none) : a ≠ b := by
  intro e; subst e; rw [h] at h'; cases h'
section
variable (P : Program) (w : World)
def ObjOk (H : Hp) (h : Heap) (a : Addr) : HO → Prop
  | .lst xs => xs.length ≤ sizeLine ∧ ∃ (its : List Value) (n : Nat), Vals xs its ∧ h.get? a = some { cls := .type "list", data := .seq its.toArray n }
  | .tup xs => xs.length ≤ sizeLine ∧ ∃ its : List Value, Vals xs its ∧ IsTup h a its.toArray
  | .dK kvs => kvs.length ≤ sizeLine ∧ (a == sysModules) = false ∧ ∃ vs, KV kvs vs ∧ h.DictOf (mixKind P w) a vs
  | .dT kvs => kvs.length ≤ sizeLine ∧ (a == sysModules) = false ∧ ∃ xs : List (List Key × Addr × Value),
      Paired (fun (p : List Key × V) (q : List Key × Addr × Value) => p.1 = q.1 ∧ H q.2.1 = some (.tup (p.1.map kV)) ∧ RelV p.2 q.2.2) kvs xs ∧
      ∃ o es ep, h.get? a = some o ∧ o.ExactDict ∧ o.data = .dict es ep ∧ es.toList = xs.map (entryOfKey (tupleKind (mixKind P w))) ∧ (xs.map (·.1)).Nodup
  | .set S n => h.SetOf (intKind P w) a S n
  | .ins C dx fs => H dx = some (.own a) ∧ fs.length ≤ 1000 ∧ dx ≠ a ∧ h.get? a = some (PySem.W.instObj C dx) ∧
      ∃ mA, h.Ns1 dx mA ∧ (∀ f, RelO (fs.lookup f) (mA f)) ∧ PySem.Within mA (fs.map (·.1))
  | .own _ => ∃ o, h.get? a = some o
  | .xd fs => ∃ mA, h.Ns1 a mA ∧ ∀ f, RelO (fs.lookup f) (mA f)
  | .rng lo hi => ∃ t u v, h.get? a = some { cls := .type "range", data := .fields #[.int lo t, .int hi u, .int 1 v] }
  | .frz o u => h.get? a = some o ∧ ObjOk H h a u
  | .tbl ps => h.get? a = some { cls := .none, data := .fields ps }
  | .met f x => h.get? a = some (PySem.W.methodObj (.ref f) (.ref x))
  | .ext φ => φ h ∧ (∃ o, h.get? a = some o) ∧ ∀ h1 h2 : Heap, φ h1 → (∀ o, h1.get? a = some o → h2.get? a = some o) → φ h2
def HOk (H : Hp) (h : Heap) : Prop := ∀ a o, H a = some o → ObjOk P w H h a o
end
section
variable {P : Program} {w : World} {H H' : Hp} {h h' : Heap} {a : Addr} {o : HO}
theorem ObjOk.lt (x : ObjOk P w H h a o) : a < h.objs.size := by
  cases o with
  | lst xs => obtain ⟨_, _, _, _, e⟩ := x; exact Heap.lt_size e
  | tup xs => obtain ⟨_, _, _, p⟩ := x; exact p.lt
  | dK kvs => obtain ⟨_, _, _, _, o, _, _, e, _⟩ := x; exact Heap.lt_size e
  | dT kvs => obtain ⟨_, _, _, _, o, _, _, e, _⟩ := x; exact Heap.lt_size e
  | set S n => obtain ⟨o, _, _, _, e, _⟩ := x; exact Heap.lt_size e
  | ins C dx fs => obtain ⟨_, _, _, e, _⟩ := x; exact Heap.lt_size e
  | own y => obtain ⟨_, e⟩ := x; exact Heap.lt_size e
  | xd fs => obtain ⟨_, ⟨_, _, _, e, _⟩, _⟩ := x; exact Heap.lt_size e
  | rng lo hi => obtain ⟨_, _, _, e⟩ := x; exact Heap.lt_size e
  | frz ob u => obtain ⟨e, _⟩ := x; exact Heap.lt_size e
  | tbl ps => exact Heap.lt_size (show h.get? a = some _ from x)
  | met f y => exact Heap.lt_size (show h.get? a = some _ from x)
  | ext φ => obtain ⟨_, ⟨_, e⟩, _⟩ := x; exact Heap.lt_size e
theorem Paired.mapP {α β : Type} {F G : α → β → Prop} : ∀ {l₁ : List α} {l₂ : List β}, Paired F l₁ l₂ → (∀ a b, F a b → G a b) → Paired G l₁ l₂
  | _, _, .nil, _ => .nil
  | _, _, .cons r t, f => .cons (f _ _ r) (Paired.mapP t f)
theorem ObjOk.stay (x : ObjOk P w H h a o) (k : ∀ b u, (b = a ∨ H b = some (.own a)) → h.get? b = some u → h'.get? b = some u)
    (ho : ∀ b, H b = some (.own a) → H' b = some (.own a)) (ht : ∀ b xs, H b = some (.tup xs) → H' b = some (.tup xs)) : ObjOk P w H' h' a o := by
  induction o with
  | lst xs => obtain ⟨z, its, n, r, e⟩ := x; exact ⟨z, its, n, r, k _ _ (.inl rfl) e⟩
  | tup xs => obtain ⟨z, its, r, ob, e, c⟩ := x; exact ⟨z, its, r, ob, k _ _ (.inl rfl) e, c⟩
  | dK kvs => obtain ⟨z, y, vs, r, ob, es, ep, e, c⟩ := x; exact ⟨z, y, vs, r, ob, es, ep, k _ _ (.inl rfl) e, c⟩
  | dT kvs =>
    obtain ⟨z, y, xs, r, ob, es, ep, e, c⟩ := x
    exact ⟨z, y, xs, Paired.mapP r fun p q z => ⟨z.1, ht _ _ z.2.1, z.2.2⟩, ob, es, ep, k _ _ (.inl rfl) e, c⟩
  | set S n => obtain ⟨ob, es, ep, t, e, c⟩ := x; exact ⟨ob, es, ep, t, k _ _ (.inl rfl) e, c⟩
  | ins C dx fs =>
    obtain ⟨d, z, ne, e, mA, ⟨od, es, ep, e2, c⟩, r⟩ := x
    exact ⟨ho _ d, z, ne, k _ _ (.inl rfl) e, mA, ⟨od, es, ep, k _ _ (.inr d) e2, c⟩, r⟩
  | own y => obtain ⟨ob, e⟩ := x; exact ⟨ob, k _ _ (.inl rfl) e⟩
  | xd fs => obtain ⟨mA, ⟨od, es, ep, e, c⟩, r⟩ := x; exact ⟨mA, ⟨od, es, ep, k _ _ (.inl rfl) e, c⟩, r⟩
  | rng lo hi => obtain ⟨t, u, v, e⟩ := x; exact ⟨t, u, v, k _ _ (.inl rfl) e⟩
  | frz ob u ih => obtain ⟨e, q⟩ := x; exact ⟨k _ _ (.inl rfl) e, ih q⟩
  | tbl ps =>
    have e : h.get? a = some { cls := .none, data := .fields ps } := x
    show h'.get? a = some { cls := .none, data := .fields ps }
    exact k a _ (.inl rfl) e
  | met f y =>
    have e : h.get? a = some (PySem.W.methodObj (.ref f) (.ref y)) := x
    show h'.get? a = some (PySem.W.methodObj (.ref f) (.ref y))
    exact k a _ (.inl rfl) e
  | ext φ => obtain ⟨p, ⟨o, e⟩, st⟩ := x; exact ⟨st _ _ p fun o q => k _ _ (.inl rfl) q, ⟨o, k _ _ (.inl rfl) e⟩, st⟩
theorem HOk.lt (x : HOk P w H h) (e : H a = some o) : a < h.objs.size := (x a o e).lt
theorem HOk.fresh (x : HOk P w H h) (e : h.objs.size ≤ a) : H a = none := by
  cases q : H a with
  | none => rfl
  | some u => exact absurd (Nat.lt_of_lt_of_le (x.lt q) e) (Nat.lt_irrefl _)
theorem HOk.kept (x : HOk P w H h) (k : ∀ b u, h.get? b = some u → h'.get? b = some u) : HOk P w H h' := fun a o e =>
  (x a o e).stay (fun b u _ q => k b u q) (fun _ q => q) fun _ _ q => q
theorem HOk.laid (x : HOk P w H h) (k : ∀ b u, h.get? b = some u → h'.get? b = some u) (hp : h.objs.size ≤ a) (new : ObjOk P w (upd H a o) h' a o) : HOk P w (upd H a o) h' := fun b u e => by
  have hn := x.fresh hp
  by_cases hb : b = a
  · subst hb; rw [upd_same] at e; cases e; exact new
  · rw [upd_ne hb] at e
    exact (x b u e).stay (fun c v _ q => k c v q) (fun c q => by rw [upd_ne (ne_of_none q hn)]; exact q) fun c xs q => by rw [upd_ne (ne_of_none q hn)]; exact q
end
def Rd (H : Hp) (a : Addr) (u : HO) : Prop := H a = some u ∨ ∃ o, H a = some (.frz o u)
theorem Rd.ok {P : Program} {w : World} {H : Hp} {h : Heap} {a : Addr} {u : HO} (r : Rd H a u) (x : HOk P w H h) : ObjOk P w H h a u := by
  rcases r with r | ⟨o, r⟩
  · exact x a u r
  · obtain ⟨_, q⟩ := x a _ r
    exact q
def Mut : Option HO → Prop
  | some (.lst _) => True
  | some (.dK _) => True
  | some (.dT _) => True
  | some (.set _ _) => True
  | some (.ins _ _ _) => True
  | some (.ext _) => True
  | _ => False
section
variable {P : Program} {w : World} {H : Hp} {h h' : Heap} {x e : Addr} {o' : HO}
theorem HOk.write (ok : HOk P w H h) (mu : Mut (H x)) (he : e = x ∨ H e = some (.own x)) (k : ∀ b u, b ≠ e → h.get? b = some u → h'.get? b = some u) (heo : ∃ u, h'.get? e = some u)
    (new : ObjOk P w (upd H x o') h' x o') : HOk P w (upd H x o') h' := fun b u q => by
  have nown : ∀ c y, H c = some (.own y) → c ≠ x := fun c y r z => by subst z; rw [r] at mu; exact mu
  have ntup : ∀ c xs, H c = some (.tup xs) → c ≠ x := fun c xs r z => by subst z; rw [r] at mu; exact mu
  by_cases hb : b = x
  · subst hb; rw [upd_same] at q; cases q; exact new
  · rw [upd_ne hb] at q
    by_cases hbe : b = e
    · have q' : H b = some (.own x) := by
        rcases he with z | z
        · exact absurd (hbe.trans z) hb
        · rw [hbe]; exact z
      rw [q] at q'; cases q'
      obtain ⟨v, hv⟩ := heo
      exact ⟨v, by rw [hbe]; exact hv⟩
    · refine (ok b u q).stay (fun c v hc r => k c v ?_ r) (fun c r => by rw [upd_ne (nown c b r)]; exact r) fun c xs r => by rw [upd_ne (ntup c xs r)]; exact r
      rcases hc with rfl | hc
      · exact hbe
      · rintro rfl
        rcases he with z | z
        · exact nown c b hc z
        · rw [hc] at z; cases z; exact hb rfl
end
structure Un (fs ex : List Addr) (H H' : Hp) (h h' : Heap) : Prop where
  keep : ∀ b o, h.get? b = some o → H b = none → b ∉ fs → b ∉ ex → h'.get? b = some o
  slot : ∀ b o, h.get? b = some o → H b = none → b ∈ fs → b ∉ ex → ∃ sl, h'.get? b = some { o with slots := sl }
  free : ∀ b o, h.get? b = some o → H b = none → b ∉ ex → H' b = none
  there : ∀ b o, h.get? b = some o → b ∉ ex → ∃ o', h'.get? b = some o'
  tups : ∀ b xs, H b = some (.tup xs) → H' b = some (.tup xs)
  frzs : ∀ b o u, H b = some (.frz o u) → H' b = some (.frz o u)
  tbls : ∀ b ps, H b = some (.tbl ps) → ∃ more, H' b = some (.tbl (ps ++ more))
section
variable {fs fs' ex ex' : List Addr} {H H1 H2 : Hp} {h h1 h2 h' : Heap} {a x e : Addr} {o : HO}
theorem Un.any (u : Un fs ex H H1 h h1) {b : Addr} {ob : Obj} (q : h.get? b = some ob) (n : H b = none) (hx : b ∉ ex) : ∃ sl, h1.get? b = some { ob with slots := sl } := by
  by_cases hb : b ∈ fs
  · exact u.slot b ob q n hb hx
  · exact ⟨ob.slots, u.keep b ob q n hb hx⟩
theorem Un.kept (k : ∀ b u, h.get? b = some u → h'.get? b = some u) : Un fs ex H H h h' :=
  ⟨fun b ob q _ _ _ => k b ob q, fun b ob q _ _ _ => ⟨ob.slots, k b ob q⟩, fun _ _ _ n _ => n, fun b ob q _ => ⟨ob, k b ob q⟩, fun _ _ q => q, fun _ _ _ q => q, fun _ ps q => ⟨#[], by rw [q]; simp⟩⟩
theorem Un.refl : Un fs ex H H h h := Un.kept fun _ _ q => q
theorem Un.laid (k : ∀ b u, h.get? b = some u → h'.get? b = some u) (hp : h.objs.size ≤ a) (hn : H a = none) : Un fs ex H (upd H a o) h h' where
  keep := fun b u q _ _ _ => k b u q
  slot := fun b u q _ _ _ => ⟨u.slots, k b u q⟩
  free := fun b u q n _ => by rw [upd_ne (Nat.ne_of_lt (Nat.lt_of_lt_of_le (Heap.lt_size q) hp))]; exact n
  there := fun b u q _ => ⟨u, k b u q⟩
  tups := fun b xs q => by rw [upd_ne (ne_of_none q hn)]; exact q
  frzs := fun b u xs q => by rw [upd_ne (ne_of_none q hn)]; exact q
  tbls := fun b ps q => ⟨#[], by rw [upd_ne (ne_of_none q hn), q]; simp⟩
theorem Un.write (mu : Mut (H x)) (he : e = x ∨ H e = some (.own x)) (k : ∀ b u, b ≠ e → h.get? b = some u → h'.get? b = some u) (heo : ∃ u, h'.get? e = some u) : Un fs ex H (upd H x o) h h' := by
  have hx : ∀ b, H b = none → b ≠ x := fun b n z => by subst z; rw [n] at mu; exact mu
  have hb : ∀ b, H b = none → b ≠ e := fun b n z => by
    subst z
    rcases he with r | r
    · exact hx b n r
    · rw [n] at r; cases r
  have hm : ∀ b u, H b = some u → ¬ Mut (some u) → b ≠ x := fun b u q nm z => by subst z; rw [q] at mu; exact nm mu
  refine ⟨fun b u q n _ _ => k b u (hb b n) q, fun b u q n _ _ => ⟨u.slots, k b u (hb b n) q⟩, fun b u q n _ => by rw [upd_ne (hx b n)]; exact n, fun b u q _ => ?_,
    fun b xs q => by rw [upd_ne (hm b _ q fun z => z)]; exact q, fun b u xs q => by rw [upd_ne (hm b _ q fun z => z)]; exact q, fun b ps q => ⟨#[], by rw [upd_ne (hm b _ q fun z => z), q]; simp⟩⟩
  by_cases hbe : b = e
  · subst hbe; exact heo
  · exact ⟨u, k b u hbe q⟩
end
def trk (h : Heap) (H : Hp) : List Addr := (List.range h.objs.size).filter fun a => (H a).isSome
def hidT (h : Heap) (H : Hp) : Heap := PySem.W.hideAll h (trk h H)
theorem hidT_size (h : Heap) (H : Hp) : (hidT h H).objs.size = h.objs.size := PySem.W.hideAll_size _ _
theorem hidT_get {h : Heap} {H : Hp} {b : Addr} {o : Obj} (e : h.get? b = some o) (n : H b = none) : (hidT h H).get? b = some o :=
  PySem.W.hideAll_get _ e fun hm => by
    have q : (H b).isSome = true := (List.mem_filter.mp hm).2
    rw [n] at q; simp at q
theorem of_hidT {h : Heap} {H : Hp} {b : Addr} {o : Obj} (e : (hidT h H).get? b = some o) : h.get? b = some o ∧ H b = none := by
  have e' : h.get? b = some o := PySem.W.of_hideAll (trk h H) e
  refine ⟨e', ?_⟩
  cases q : H b with
  | none => rfl
  | some x =>
    have hm : b ∈ trk h H := List.mem_filter.mpr ⟨List.mem_range.mpr (Heap.lt_size e'), by simp [q]⟩
    have z : (hidT h H).get? b = none := PySem.W.hideAll_none (trk h H) hm
    rw [z] at e; cases e
end L2
namespace L2
open PySem PySem.Spec PyProof.Rows
structure Mod (K : PySem.W.Frag) (mg : Str → Option Value) (base : Heap) : Prop where
  kin : K.In base
  glob : base.Ns mainGlobals mg
  blt : ∃ mb, base.Ns builtinsNs mb ∧ ∀ x : Str, x ≠ "__name__" → mb x = bootBuiltins x
  nolimit : base.NoLimit
/-- the context: a def's body (or a comprehension's block) running. base: fixed through the whole law; s₀, H₀: the entry; outer: the frames whose slots others may change (a def's callers); stack: all frames that run;
   ex: iterators that were made ahead of the entry and are walked here (a comprehension's); fn: the names whose cells were made at the entry (a def: all; a comprehension's block: its own); calm: not within an except suite; pn: pins that every state bears; xe: what is wanted of an exception that leaves the code -/
structure Cx where
  prog : Program
  w : World
  K : PySem.W.Frag
  mg : Str → Option Value
  base : Heap
  A : Around
  N : List Str
  s_0 : Shared
  H_0 : Hp
  env : Env
  outer : List Env
  stack : List Env
  ex : List Addr
  fn : Str → Bool
  calm : Bool
  pn : List (Addr × Obj)
  xe : Value → Shared → Prop
def frs (l : List Env) : List Addr := l.filterMap (·.frame)
abbrev Cx.fs (X : Cx) : List Addr := frs X.outer
def Vis (sc : Scope) (x : Str) : Prop := sc.names.lookup x = some .local ∨ sc.names.lookup x = some .cell ∨ sc.names.lookup x = some .free
def Loc (sc : Scope) (x : Str) : Prop := sc.names.lookup x = some .local ∨ sc.names.lookup x = some .cell
def Look (env : Env) (h : Heap) (m : Str → Option Value) (x : Str) (u : Value) : Prop :=
  (env.kindOf x = some .local ∧ m x = some u) ∨ ((env.kindOf x = some .cell ∨ env.kindOf x = some .free) ∧ ∃ c, env.cells.lookup x = some c ∧ h.IsCell c (some u))
structure Cx.Ok (X : Cx) : Prop where
  mod : Mod X.K X.mg X.base
  kind : X.env.scope.kind = .function
  glob : X.env.globals = mainGlobals
  blt : X.env.builtins = builtinsNs
  above : X.s_0.heap.objs.size ≤ X.env.locals
  inj : ∀ x y c, X.env.cells.lookup x = some c → X.env.cells.lookup y = some c → x = y
  has : ∀ x, (X.env.kindOf x = some .cell ∨ X.env.kindOf x = some .free) → ∃ c, X.env.cells.lookup x = some c
  cab : ∀ x c, X.fn x = true → X.env.cells.lookup x = some c → X.s_0.heap.objs.size ≤ c
  hd : X.calm = true → X.A.handled = none
  frames : X.A.frames = some X.stack
  stk : X.stack = X.outer ∨ (X.stack = X.env :: X.outer ∧ X.env.frame = some X.env.locals)
  exf : ∀ b ∈ X.ex, b ≠ X.env.locals ∧ ∀ x c, X.env.cells.lookup x = some c → c ≠ b
  bs : ∀ b o, X.base.get? b = some o → X.s_0.heap.get? b = some o ∧ X.H_0 b = none
  bsz : X.base.objs.size ≤ X.s_0.heap.objs.size
  noex : ∀ b o, X.base.get? b = some o → b ∉ X.ex
  exfs : ∀ b ∈ X.ex, b ∉ X.fs
  funs : X.s_0.heap.FunFrames X.base X.outer
  frf : ∀ b ∈ X.fs, X.H_0 b = none
structure Inv (X : Cx) (pins : List (Addr × Obj)) (σ : List (Option V)) (H : Hp) (s : Shared) : Prop where
  ok : X.Ok
  os : s.os = X.s_0.os
  bare : AllBare s.gens
  base : Un X.fs X.ex X.H_0 H X.s_0.heap s.heap
  loc : ∃ m, s.heap.Ns X.env.locals m ∧ ∀ (i : Nat) (x : Str) (v : V), X.N[i]? = some x → σ[i]? = some (some v) → Vis X.env.scope x → ∃ u, RelV v u ∧ Look X.env s.heap m x u
  cell : ∀ x c, X.env.cells.lookup x = some c → ∃ v, s.heap.IsCell c v
  free : H X.env.locals = none
  freeC : ∀ x c, X.env.cells.lookup x = some c → H c = none
  pin : ∀ p ∈ X.pn ++ pins, s.heap.get? p.1 = some p.2 ∧ H p.1 = none ∧ p.1 ≠ X.env.locals ∧ p.1 ∉ X.fs ∧ ∀ v, p.2.data ≠ .cell v
  hok : HOk X.prog X.w H s.heap
  len : σ.length = X.N.length
section
variable {X : Cx} {pins : List (Addr × Obj)} {σ : List (Option V)} {H H' : Hp} {s : Shared} {h' : Heap}
theorem Cx.Ok.nofr (ok : X.Ok) {b : Addr} {o : Obj} (e : X.base.get? b = some o) : b ∉ X.fs := fun hb => by
  have := (ok.funs.mem hb).1
  rw [e] at this; cases this
theorem Inv.bs (I : Inv X pins σ H s) : ∀ b o, X.base.get? b = some o → s.heap.get? b = some o ∧ H b = none := fun b o e =>
  ⟨I.base.keep b o (I.ok.bs b o e).1 (I.ok.bs b o e).2 (I.ok.nofr e) (I.ok.noex b o e), I.base.free b o (I.ok.bs b o e).1 (I.ok.bs b o e).2 (I.ok.noex b o e)⟩
theorem Inv.bk (I : Inv X pins σ H s) : ∀ b o, X.base.get? b = some o → s.heap.get? b = some o := fun b o e => (I.bs b o e).1
theorem Inv.mod (I : Inv X pins σ H s) : Mod X.K X.mg X.base := I.ok.mod
theorem Inv.kIn (I : Inv X pins σ H s) : X.K.In s.heap := I.ok.mod.kin.keeps I.bk
theorem Inv.lt (I : Inv X pins σ H s) : X.env.locals < s.heap.objs.size := let ⟨_, hn, _⟩ := I.loc; hn.lt
theorem Inv.sz (I : Inv X pins σ H s) : X.s_0.heap.objs.size ≤ s.heap.objs.size := Nat.le_trans I.ok.above (Nat.le_of_lt I.lt)
theorem Inv.nofs (I : Inv X pins σ H s) {a : Addr} (h : s.heap.objs.size ≤ a) : a ∉ X.fs := fun hb => by
  obtain ⟨_, o, ho, _⟩ := I.ok.funs.mem hb
  exact absurd (Nat.lt_of_lt_of_le (Heap.lt_size ho) (Nat.le_trans I.sz h)) (Nat.lt_irrefl _)
theorem Inv.cne (I : Inv X pins σ H s) : ∀ x c, X.env.cells.lookup x = some c → c ≠ X.env.locals := fun x c e z => by
  obtain ⟨v, o, ho, hd⟩ := I.cell x c e
  obtain ⟨m, ⟨o', es, ep, ho', hd', _⟩, _⟩ := I.loc
  rw [z, ho'] at ho; cases ho; rw [hd'] at hd; cases hd
theorem Inv.funs (I : Inv X pins σ H s) : s.heap.FunFrames X.base X.outer := by
  have all : ∀ (l : List Env), (∀ b ∈ frs l, b ∈ X.fs) → X.s_0.heap.FunFrames X.base l → s.heap.FunFrames X.base l := by
    intro l
    induction l with
    | nil => intro _ _; trivial
    | cons env r ih =>
      intro hs hl
      obtain ⟨hk, ⟨L, o, hf, hn, ho, hd⟩, hr⟩ := hl
      have hL : L ∈ X.fs := hs L (by unfold frs; rw [List.filterMap_cons, hf]; exact List.mem_cons_self)
      obtain ⟨sl, e⟩ := I.base.slot L o ho (I.ok.frf L hL) hL fun z => I.ok.exfs L z hL
      exact ⟨hk, ⟨L, _, hf, hn, e, hd⟩, ih (fun b hb => hs b (by unfold frs; rw [List.filterMap_cons, hf]; exact List.mem_cons_of_mem _ hb)) hr⟩
  exact all X.outer (fun _ hb => hb) I.ok.funs
theorem Inv.stack (I : Inv X pins σ H s) : s.heap.FunFrames X.base X.stack := by
  rcases I.ok.stk with e | ⟨e, hf⟩
  · rw [e]; exact I.funs
  · rw [e]
    obtain ⟨m, hn, _⟩ := I.loc
    refine .cons (by rw [I.ok.kind]; decide) hf hn ?_ I.funs
    exact Heap.get?_none_of_le (Nat.le_trans I.ok.bsz I.ok.above)
theorem Inv.stkSub (I : Inv X pins σ H s) : ∀ b ∈ frs X.stack, b ∈ X.env.locals :: X.fs := fun b hb => by
  rcases I.ok.stk with e | ⟨e, hf⟩
  · rw [e] at hb; exact List.mem_cons_of_mem _ hb
  · rw [e] at hb
    unfold frs at hb
    rw [List.filterMap_cons, hf] at hb
    exact hb
theorem Inv.stkFree (I : Inv X pins σ H s) : ∀ b ∈ frs X.stack, H b = none := fun b hb => by
  rcases List.mem_cons.mp (I.stkSub b hb) with e | hb
  · rw [e]; exact I.free
  · obtain ⟨_, o, ho, _⟩ := I.ok.funs.mem hb
    exact I.base.free b o ho (I.ok.frf b hb) fun z => I.ok.exfs b z hb
theorem Inv.step {g' : Array GenState} {t' : Nat} {d' : Drawn} {ch : List Addr} (I : Inv X pins σ H s)
    (hch : ∀ b ∈ ch, (b ∈ X.ex ∨ X.s_0.heap.objs.size ≤ b) ∧ b ≠ X.env.locals ∧ (∀ x c, X.env.cells.lookup x = some c → c ≠ b) ∧ ∀ p ∈ X.pn ++ pins, p.1 ≠ b)
    (keep : ∀ b o, b ≠ X.env.locals → b ∉ X.fs → b ∉ ch → s.heap.get? b = some o → H b = none → h'.get? b = some o)
    (slot : ∀ b o, b ≠ X.env.locals → b ∈ X.fs → b ∉ ch → s.heap.get? b = some o → H b = none → ∃ sl, h'.get? b = some { o with slots := sl }) (free : ∀ b o, b ∉ ch → s.heap.get? b = some o → H b = none → H' b = none)
    (there : ∀ b o, b ∉ ch → s.heap.get? b = some o → ∃ o', h'.get? b = some o')
    (tups : ∀ b xs, H b = some (.tup xs) → H' b = some (.tup xs)) (frzs : ∀ b o u, H b = some (.frz o u) → H' b = some (.frz o u)) (tbls : ∀ b ps, H b = some (.tbl ps) → ∃ more, H' b = some (.tbl (ps ++ more)))
    (ns : ∀ m, s.heap.Ns X.env.locals m → h'.Ns X.env.locals m) (hok : HOk X.prog X.w H' h') (hg : AllBare g') :
    Inv X pins σ H' { s with heap := h', gens := g', drawn := d', toks := t' } := by
  have neL : ∀ b o, X.s_0.heap.get? b = some o → b ≠ X.env.locals := fun b o e => Nat.ne_of_lt (Nat.lt_of_lt_of_le (Heap.lt_size e) I.ok.above)
  have neC : ∀ b o, X.s_0.heap.get? b = some o → b ∉ X.ex → b ∉ ch := fun b o e hx hb => by
    rcases (hch b hb).1 with z | z
    · exact hx z
    · exact absurd (Nat.lt_of_lt_of_le (Heap.lt_size e) z) (Nat.lt_irrefl _)
  have cellK : ∀ x c, X.env.cells.lookup x = some c → ∀ v, s.heap.IsCell c v → h'.IsCell c v := fun x c e v ⟨o, ho, hd⟩ => by
    have nch : c ∉ ch := fun z => (hch c z).2.2.1 x c e rfl
    by_cases hc : c ∈ X.fs
    · obtain ⟨sl, q⟩ := slot c o (I.cne x c e) hc nch ho (I.freeC x c e)
      exact ⟨_, q, hd⟩
    · exact ⟨o, keep c o (I.cne x c e) hc nch ho (I.freeC x c e), hd⟩
  refine ⟨I.ok, I.os, hg, ⟨fun b o e n hb hx => ?_, fun b o e n hb hx => ?_, fun b o e n hx => ?_, fun b o e hx => ?_, fun b xs e => tups b xs (I.base.tups b xs e), fun b o xs e => frzs b o xs (I.base.frzs b o xs e), fun b ps e => ?_⟩, ?_, fun x c e => ?_, ?_, fun x c e => ?_, fun p hp => ?_, hok, I.len⟩
  · exact keep b o (neL b o e) hb (neC b o e hx) (I.base.keep b o e n hb hx) (I.base.free b o e n hx)
  · obtain ⟨sl, e1⟩ := I.base.slot b o e n hb hx
    obtain ⟨sl', e2⟩ := slot b _ (neL b o e) hb (neC b o e hx) e1 (I.base.free b o e n hx)
    exact ⟨sl', e2⟩
  · obtain ⟨o', e1⟩ := I.base.there b o e hx
    exact free b o' (neC b o e hx) e1 (I.base.free b o e n hx)
  · obtain ⟨o', e1⟩ := I.base.there b o e hx
    exact there b o' (neC b o e hx) e1
  · obtain ⟨m1, e1⟩ := I.base.tbls b ps e
    obtain ⟨m2, e2⟩ := tbls b _ e1
    exact ⟨m1 ++ m2, by rw [e2, Array.append_assoc]⟩
  · obtain ⟨m, hn, hl⟩ := I.loc
    refine ⟨m, ns m hn, fun i x v e1 e2 e3 => ?_⟩
    obtain ⟨u, r, l⟩ := hl i x v e1 e2 e3
    refine ⟨u, r, ?_⟩
    rcases l with l | ⟨k, c, e, z⟩
    · exact .inl l
    · exact .inr ⟨k, c, e, cellK x c e _ z⟩
  · obtain ⟨v, z⟩ := I.cell x c e
    exact ⟨v, cellK x c e v z⟩
  · obtain ⟨m, ⟨o, _, _, ho, _⟩, _⟩ := I.loc
    exact free _ o (fun z => (hch _ z).2.1 rfl) ho I.free
  · obtain ⟨v, o, ho, hd⟩ := I.cell x c e
    exact free c o (fun z => (hch c z).2.2.1 x c e rfl) ho (I.freeC x c e)
  · obtain ⟨e, n, ne, nf, d⟩ := I.pin p hp
    have nch : p.1 ∉ ch := fun z => (hch p.1 z).2.2.2 p hp rfl
    exact ⟨keep p.1 p.2 ne nf nch e n, free p.1 p.2 nch e n, ne, nf, d⟩
theorem Inv.un {t' : Nat} (I : Inv X pins σ H s) (u : Un X.fs [] H H' s.heap h') (hok : HOk X.prog X.w H' h') : Inv X pins σ H' { s with heap := h', toks := t' } := by
  obtain ⟨m, ⟨o, es, ep, ho, r⟩, _⟩ := id I.loc
  obtain ⟨sl, hL⟩ := u.any ho I.free (by simp)
  exact I.step (g' := s.gens) (d' := s.drawn) (ch := []) (fun _ z => nomatch z) (fun b o _ hb _ e n => u.keep b o e n hb (by simp)) (fun b o _ hb _ e n => u.slot b o e n hb (by simp)) (fun b o _ e n => u.free b o e n (by simp)) (fun b o _ e => u.there b o e (by simp)) u.tups u.frzs u.tbls (fun m' hm => by
    obtain ⟨o', es', ep', ho', r'⟩ := hm
    rw [ho] at ho'; cases ho'
    exact ⟨_, es', ep', hL, r'⟩) hok I.bare
theorem Inv.call {g' : Array GenState} {t' : Nat} {d' : Drawn} {ch : List Addr} (I : Inv X pins σ H s) (u : Un (frs X.stack) ch H H' s.heap h') (hok : HOk X.prog X.w H' h') (hg : AllBare g')
    (hch : ∀ b ∈ ch, (b ∈ X.ex ∨ X.s_0.heap.objs.size ≤ b) ∧ b ≠ X.env.locals ∧ (∀ x c, X.env.cells.lookup x = some c → c ≠ b) ∧ ∀ p ∈ X.pn ++ pins, p.1 ≠ b) :
    Inv X pins σ H' { s with heap := h', gens := g', drawn := d', toks := t' } := by
  obtain ⟨m, ⟨o, es, ep, ho, r⟩, _⟩ := id I.loc
  obtain ⟨sl, hL⟩ := u.any ho I.free fun z => (hch _ z).2.1 rfl
  exact I.step (ch := ch) hch (fun b o hL hb hc e n => u.keep b o e n (fun z => (List.mem_cons.mp (I.stkSub b z)).elim hL hb) hc) (fun b o _ _ hc e n => u.any e n hc) (fun b o hc e n => u.free b o e n hc) (fun b o hc e => u.there b o e hc) u.tups u.frzs u.tbls (fun m' hm => by
    obtain ⟨o', es', ep', ho', r'⟩ := hm
    rw [ho] at ho'; cases ho'
    exact ⟨_, es', ep', hL, r'⟩) hok hg
theorem Inv.turned {t' : Nat} {it : Addr} (I : Inv X pins σ H s) (k : ∀ b o, b ≠ it → s.heap.get? b = some o → h'.get? b = some o) (hn : H it = none) (hL : it ≠ X.env.locals)
    (h1 : it ∈ X.ex ∨ X.s_0.heap.objs.size ≤ it) (h2 : ∀ x c, X.env.cells.lookup x = some c → c ≠ it) (h3 : ∀ p ∈ X.pn ++ pins, p.1 ≠ it) : Inv X pins σ H { s with heap := h', toks := t' } := by
  have nit : ∀ b u, H b = some u → b ≠ it := fun b u e z => by rw [z, hn] at e; cases e
  refine I.step (g' := s.gens) (d' := s.drawn) (ch := [it]) (fun b hb => ?_) (fun b o _ _ hc e _ => k b o (fun z => hc (by simp [z])) e) (fun b o _ _ hc e _ => ⟨o.slots, k b o (fun z => hc (by simp [z])) e⟩) (fun _ _ _ _ n => n)
    (fun b o hc e => ⟨o, k b o (fun z => hc (by simp [z])) e⟩) (fun _ _ e => e) (fun _ _ _ e => e) (fun b ps e => ⟨#[], by rw [e]; simp⟩) (fun m hm => ?_) (fun b u e => ?_) I.bare
  · have e : b = it := by simpa using hb
    subst e
    exact ⟨h1, hL, h2, h3⟩
  · obtain ⟨o, es, ep, ho, r⟩ := hm
    exact ⟨o, es, ep, k _ o (Ne.symm hL) ho, r⟩
  · refine (I.hok b u e).stay (fun c v hc q => k c v ?_ q) (fun _ q => q) fun _ _ q => q
    rcases hc with z | z
    · rw [z]; exact nit b u e
    · exact nit c _ z
theorem Inv.tok (I : Inv X pins σ H s) (t : Nat) : Inv X pins σ H { s with toks := t } := I.un (h' := s.heap) (t' := t) Un.refl I.hok
theorem Inv.kept {t' : Nat} (I : Inv X pins σ H s) (k : ∀ b u, s.heap.get? b = some u → h'.get? b = some u) : Inv X pins σ H { s with heap := h', toks := t' } := I.un (Un.kept k) (I.hok.kept k)
theorem Inv.laid {a : Addr} {o : HO} {t' : Nat} (I : Inv X pins σ H s) (k : ∀ b u, s.heap.get? b = some u → h'.get? b = some u) (hp : s.heap.objs.size ≤ a) (new : ObjOk X.prog X.w (upd H a o) h' a o) :
    Inv X pins σ (upd H a o) { s with heap := h', toks := t' } := I.un (Un.laid k hp (I.hok.fresh hp)) (I.hok.laid k hp new)
theorem Inv.write {x e : Addr} {o : HO} {t' : Nat} (I : Inv X pins σ H s) (mu : Mut (H x)) (he : e = x ∨ H e = some (.own x)) (k : ∀ b u, b ≠ e → s.heap.get? b = some u → h'.get? b = some u) (heo : ∃ u, h'.get? e = some u)
    (new : ObjOk X.prog X.w (upd H x o) h' x o) : Inv X pins σ (upd H x o) { s with heap := h', toks := t' } := I.un (Un.write mu he k heo) (I.hok.write mu he k heo new)
theorem Inv.pins_of {pins' : List (Addr × Obj)} (I : Inv X pins σ H s) (h : ∀ p ∈ pins', s.heap.get? p.1 = some p.2 ∧ H p.1 = none ∧ p.1 ≠ X.env.locals ∧ p.1 ∉ X.fs ∧ ∀ v, p.2.data ≠ .cell v) : Inv X pins' σ H s :=
  ⟨I.ok, I.os, I.bare, I.base, I.loc, I.cell, I.free, I.freeC, fun p hp => (List.mem_append.mp hp).elim (fun z => I.pin p (List.mem_append_left _ z)) (h p), I.hok, I.len⟩
theorem nodup_ix {N : List Str} (hN : N.Nodup) {i j : Nat} {x : Str} (a : N[i]? = some x) (b : N[j]? = some x) : i = j := by
  obtain ⟨h1, e1⟩ := List.getElem?_eq_some_iff.mp a
  obtain ⟨h2, e2⟩ := List.getElem?_eq_some_iff.mp b
  exact (List.getElem_inj hN).mp (e1.trans e2.symm)
theorem store_ok2 {M : Model} {A : Around} {E : Value → Shared → Prop} {i : Nat} {x : Str} {v : V} {u : Value} {Q : Unit → Shared → Prop} (I : Inv X pins σ H s) (hN : X.N.Nodup) (hi : X.N[i]? = some x) (hx : Loc X.env.scope x) (r : RelV v u)
    (h : ∀ s', Inv X pins (σ.set i (some v)) H s' → (∃ a, Heap.SameBut a s.heap s'.heap ∧ (a = X.env.locals ∨ X.env.cells.lookup x = some a)) → Q () s') (hf : X.fn x = true ∨ X.env.scope.names.lookup x = some .local := by first | exact .inl rfl | exact .inr rfl | assumption) : wpAny M A (storeName X.env x u) Q E s := by
  obtain ⟨m, hn, hl⟩ := id I.loc
  have hcls : (X.env.scope.kind == .class || (X.env.scope.kind == .module && X.env.locals != X.env.globals)) = false := by rw [I.ok.kind]; rfl
  have hiσ : i < σ.length := by rw [I.len]; exact (List.getElem?_eq_some_iff.mp hi).1
  have cne := I.cne
  have tracked : ∀ {a : Addr} {h' : Heap}, (∃ o, s.heap.get? a = some o ∧ H a = none) → Heap.SameBut a s.heap h' → HOk X.prog X.w H h' := fun {a h'} ha hs b ob e => by
    obtain ⟨_, _, hfree⟩ := ha
    refine (I.hok b ob e).stay (fun c w' hc q => (hs.2 c ?_).trans q) (fun _ q => q) fun _ _ q => q
    rintro rfl
    rcases hc with rfl | hc
    · rw [hfree] at e; cases e
    · rw [hfree] at hc; cases hc
  rcases hx with hk | hk
  · refine wpAny_storeName_local hk hn (fun h' hn' hs => ?_) hcls
    obtain ⟨oL, _, _, hoL, _⟩ := id hn
    refine h _ ⟨I.ok, I.os, I.bare, ⟨fun b o e n hb hx => ?_, fun b o e n hb hx => ?_, I.base.free, fun b o e hx => ?_, I.base.tups, I.base.frzs, I.base.tbls⟩, ⟨_, hn', fun j y v' e1 e2 e3 => ?_⟩, fun y c e => ?_, I.free, I.freeC, fun p hp => ?_, tracked ⟨oL, hoL, I.free⟩ hs, by simpa using I.len⟩ ⟨_, hs, .inl rfl⟩
    · exact (hs.2 b (Nat.ne_of_lt (Nat.lt_of_lt_of_le (Heap.lt_size e) I.ok.above))).trans (I.base.keep b o e n hb hx)
    · obtain ⟨sl, e1⟩ := I.base.slot b o e n hb hx
      exact ⟨sl, (hs.2 b (Nat.ne_of_lt (Nat.lt_of_lt_of_le (Heap.lt_size e) I.ok.above))).trans e1⟩
    · obtain ⟨o', e1⟩ := I.base.there b o e hx
      exact ⟨o', (hs.2 b (Nat.ne_of_lt (Nat.lt_of_lt_of_le (Heap.lt_size e) I.ok.above))).trans e1⟩
    · by_cases hj : j = i
      · subst hj
        rw [hi] at e1; cases e1
        rw [List.getElem?_set_self hiσ] at e2
        cases e2
        exact ⟨u, r, .inl ⟨hk, by simp⟩⟩
      · rw [List.getElem?_set_ne (Ne.symm hj)] at e2
        obtain ⟨u', r', q⟩ := hl j y v' e1 e2 e3
        refine ⟨u', r', ?_⟩
        rcases q with ⟨k, e⟩ | ⟨k, c, e, z⟩
        · refine .inl ⟨k, ?_⟩
          have : y ≠ x := fun e => hj (nodup_ix hN e1 (e ▸ hi))
          simp [this, e]
        · exact .inr ⟨k, c, e, z.sameBut hs (cne y c e)⟩
    · obtain ⟨w', z⟩ := I.cell y c e
      exact ⟨w', z.sameBut hs (cne y c e)⟩
    · obtain ⟨e, n, ne, nf, d⟩ := I.pin p hp
      exact ⟨(hs.2 p.1 ne).trans e, n, ne, nf, d⟩
  · have hfn : X.fn x = true := by
      rcases hf with z | z
      · exact z
      · rw [z] at hk; cases hk
    obtain ⟨c, hc⟩ := I.ok.has x (.inl hk)
    obtain ⟨w', z⟩ := I.cell x c hc
    refine wpAny_storeName_cell I.ok.kind hk hc z (fun h' hc' hs => ?_)
    obtain ⟨oc, hoc, hocd⟩ := id z
    refine h { s with heap := h' } ⟨I.ok, I.os, I.bare, ⟨fun b o e n hb hx => ?_, fun b o e n hb hx => ?_, I.base.free, fun b o e hx => ?_, I.base.tups, I.base.frzs, I.base.tbls⟩, ⟨m, hn.sameBut hs (Ne.symm (cne x c hc)), fun j y v' e1 e2 e3 => ?_⟩, fun y c' e => ?_, I.free, I.freeC, fun p hp => ?_, tracked ⟨oc, hoc, I.freeC x c hc⟩ hs, by simpa using I.len⟩ ⟨c, hs, .inr hc⟩
    · exact (hs.2 b (Nat.ne_of_lt (Nat.lt_of_lt_of_le (Heap.lt_size e) (I.ok.cab x c hfn hc)))).trans (I.base.keep b o e n hb hx)
    · obtain ⟨sl, e1⟩ := I.base.slot b o e n hb hx
      exact ⟨sl, (hs.2 b (Nat.ne_of_lt (Nat.lt_of_lt_of_le (Heap.lt_size e) (I.ok.cab x c hfn hc)))).trans e1⟩
    · obtain ⟨o', e1⟩ := I.base.there b o e hx
      exact ⟨o', (hs.2 b (Nat.ne_of_lt (Nat.lt_of_lt_of_le (Heap.lt_size e) (I.ok.cab x c hfn hc)))).trans e1⟩
    · by_cases hj : j = i
      · subst hj
        rw [hi] at e1; cases e1
        rw [List.getElem?_set_self hiσ] at e2
        cases e2
        exact ⟨u, r, .inr ⟨.inl hk, c, hc, hc'⟩⟩
      · rw [List.getElem?_set_ne (Ne.symm hj)] at e2
        obtain ⟨u', r', q⟩ := hl j y v' e1 e2 e3
        refine ⟨u', r', ?_⟩
        rcases q with q | ⟨k, c', e, z'⟩
        · exact .inl q
        · refine .inr ⟨k, c', e, z'.sameBut hs ?_⟩
          rintro rfl
          exact hj (nodup_ix hN e1 (I.ok.inj _ _ _ e hc ▸ hi))
    · by_cases hcc : c' = c
      · subst hcc; exact ⟨_, hc'⟩
      · obtain ⟨w2, z2⟩ := I.cell y c' e
        exact ⟨w2, z2.sameBut hs hcc⟩
    · obtain ⟨e, n, ne, nf, d⟩ := I.pin p hp
      refine ⟨(hs.2 p.1 ?_).trans e, n, ne, nf, d⟩
      intro q
      rw [q, hoc] at e
      have q' : oc = p.2 := Option.some.inj e
      exact d w' (by rw [← q']; exact hocd)
theorem store_ok {M : Model} {A : Around} {E : Value → Shared → Prop} {i : Nat} {x : Str} {v : V} {u : Value} {Q : Unit → Shared → Prop} (I : Inv X pins σ H s) (hN : X.N.Nodup) (hi : X.N[i]? = some x) (hx : Loc X.env.scope x) (r : RelV v u)
    (h : ∀ s', Inv X pins (σ.set i (some v)) H s' → Q () s') (hf : X.fn x = true ∨ X.env.scope.names.lookup x = some .local := by first | exact .inl rfl | exact .inr rfl | assumption) : wpAny M A (storeName X.env x u) Q E s :=
  store_ok2 I hN hi hx r (fun s' I' _ => h s' I') hf
theorem Inv.call' {s' : Shared} {ch : List Addr} (I : Inv X pins σ H s) (ho : s'.os = s.os) (u : Un (frs X.stack) ch H H' s.heap s'.heap) (hok : HOk X.prog X.w H' s'.heap) (hg : AllBare s'.gens)
    (hch : ∀ b ∈ ch, (b ∈ X.ex ∨ X.s_0.heap.objs.size ≤ b) ∧ b ≠ X.env.locals ∧ (∀ x c, X.env.cells.lookup x = some c → c ≠ b) ∧ ∀ p ∈ X.pn ++ pins, p.1 ≠ b) : Inv X pins σ H' s' := by
  obtain ⟨h', g', d', t', o'⟩ := s'
  have e : o' = s.os := ho
  subst e
  exact I.call (g' := g') (t' := t') (d' := d') u hok hg hch
end
abbrev XK := Value → Option Addr → Hp → Prop
abbrev St := List (Option V)
abbrev VK := V → Hp → Prop
abbrev TE := St → Hp → VK → Prop
abbrev TT := St → Hp → (Bool → Hp → Prop) → Prop
abbrev TA := St → Hp → (List V → Hp → Prop) → Prop
structure Ends where
  nx : St → Hp → Prop
  rt : VK
  bk : St → Hp → Prop := fun _ _ => False
  ct : St → Hp → Prop := fun _ _ => False
abbrev TS := Ends → St → Hp → Prop
def EP (X : Cx) (pins : List (Addr × Obj)) (σ : St) (Q : VK) (u : Value) (s' : Shared) : Prop := ∃ v H', Inv X pins σ H' s' ∧ RelV v u ∧ Q v H'
def TP (X : Cx) (pins : List (Addr × Obj)) (σ : St) (Q : Bool → Hp → Prop) (b : Bool) (s' : Shared) : Prop := ∃ H', Inv X pins σ H' s' ∧ Q b H'
def AP (X : Cx) (pins : List (Addr × Obj)) (σ : St) (Q : List V → Hp → Prop) (us : List Value) (s' : Shared) : Prop := ∃ vs H', Inv X pins σ H' s' ∧ Vals vs us ∧ Q vs H'
def SP (X : Cx) (pins : List (Addr × Obj)) (D : Ends) (f : Flow) (s' : Shared) : Prop :=
  match f with
  | .next => ∃ σ' H', Inv X pins σ' H' s' ∧ D.nx σ' H'
  | .brk => ∃ σ' H', Inv X pins σ' H' s' ∧ D.bk σ' H'
  | .cont => ∃ σ' H', Inv X pins σ' H' s' ∧ D.ct σ' H'
  | .ret u => ∃ v σ' H', Inv X pins σ' H' s' ∧ RelV v u ∧ D.rt v H'
def PE (X : Cx) (e : Expr) (t : TE) : Prop :=
  ∀ (pins : List (Addr × Obj)) (s : Shared) (σ : St) (H : Hp) (Q : VK), Inv X pins σ H s → t σ H Q → wpAny (model X.prog X.w) X.A (eval e X.env) (EP X pins σ Q) X.xe s
def PT (X : Cx) (e : Expr) (t : TT) : Prop :=
  ∀ (pins : List (Addr × Obj)) (s : Shared) (σ : St) (H : Hp) (Q : Bool → Hp → Prop), Inv X pins σ H s → t σ H Q → wpAny (model X.prog X.w) X.A (isTrue e X.env (eval e X.env)) (TP X pins σ Q) X.xe s
def PW (X : Cx) (e : Expr) (t : TT) : Prop :=
  ∀ (whole : Sem Value) (pins : List (Addr × Obj)) (s : Shared) (σ : St) (H : Hp) (Q : Bool → Hp → Prop), Inv X pins σ H s → t σ H Q → wpAny (model X.prog X.w) X.A (isTrue e X.env whole) (TP X pins σ Q) X.xe s
theorem PW.pt {X : Cx} {e : Expr} {t : TT} (h : PW X e t) : PT X e t := h _
def PA (X : Cx) (es : List Expr) (t : TA) : Prop :=
  ∀ (pos : Pos) (pins : List (Addr × Obj)) (s : Shared) (σ : St) (H : Hp) (Q : List V → Hp → Prop), Inv X pins σ H s → t σ H Q → wpAny (model X.prog X.w) X.A (spliced (backTo pos (starEach es X.env))) (AP X pins σ Q) X.xe s
def PS (X : Cx) (st : Stmt) (t : TS) : Prop :=
  ∀ (pins : List (Addr × Obj)) (s : Shared) (σ : St) (H : Hp) (D : Ends), Inv X pins σ H s → t D σ H → wpAny (model X.prog X.w) X.A (exec st X.env) (SP X pins D) X.xe s
def PSs (X : Cx) (st : List Stmt) (t : TS) : Prop :=
  ∀ (pins : List (Addr × Obj)) (s : Shared) (σ : St) (H : Hp) (D : Ends), Inv X pins σ H s → t D σ H → wpAny (model X.prog X.w) X.A (execs st X.env) (SP X pins D) X.xe s
theorem thn {α : Type} {t : Sem α} {Q Q' : α → Shared → Prop} {M : Model} {A : Around} {E : Value → Shared → Prop} {s : Shared} (h : wpAny M A t Q E s) (hQ : ∀ a s, Q a s → Q' a s) : wpAny M A t Q' E s := wpAny_mono h hQ fun _ _ x => x
end L2
namespace L2
open PySem PySem.Spec PyProof.Rows
section
variable {X : Cx}
def tVar (i : Nat) : TE := fun σ H Q => ∃ v, σ[i]? = some (some v) ∧ Q v H
def tC (v : V) : TE := fun _ H Q => Q v H
theorem pe_var {i : Nat} {x : Str} {pos : Pos} (hN : X.N[i]? = some x) (hv : Vis X.env.scope x) (hd : (x == ("__debug__" : Str)) = false := by decide) (hcd : (x == ("__classdict__" : Str)) = false := by decide) : PE X (.Name x pos) (tVar i) := by
  intro pins s σ H Q I h
  obtain ⟨v, e, h⟩ := h
  obtain ⟨m, hn, hl⟩ := I.loc
  obtain ⟨u, r, l⟩ := hl i x v hN e hv
  have fin : EP X pins σ Q u s := ⟨v, H, I, r, h⟩
  rcases l with ⟨hk, hm⟩ | ⟨hk, c, hc, hcell⟩
  · exact wpAny_Name (wpAny_loadName_local I.ok.kind hk hn hm fin) hd
  · rcases hk with hk | hk
    · exact wpAny_Name (wpAny_loadName_cell I.ok.kind hk hc hcell fin) hd
    · exact wpAny_Name (wpAny_loadName_free I.ok.kind hk hc hcell fin hcd) hd
theorem pe_int {i j pos} : PE X (.Constant (.int i) j pos) (tC (.int i)) := fun _ _ _ H _ I h => wpAny_Constant_int ⟨.int i, H, I.tok _, ⟨_, rfl⟩, h⟩
def Gl (X : Cx) (x : Str) : Prop := X.env.kindOf x = some .globalImplicit
theorem ld_glob {E : Value → Shared → Prop} {pins : List (Addr × Obj)} {s : Shared} {σ : St} {H : Hp} {x : Str} {u : Value} {pos : Pos} {Q : Value → Shared → Prop} (I : Inv X pins σ H s) (hg : Gl X x) (hm : X.mg x = some u) (h : Q u s)
    (hd : (x == ("__debug__" : Str)) = false := by decide) : wpAny (model X.prog X.w) X.A (eval (.Name x pos) X.env) Q E s :=
  Calls.Name_function_global I.ok.kind hg (Calls.loadGlobal_global (by rw [I.ok.glob]; exact I.mod.glob.keeps I.bk) hm h) hd
theorem ld_blt {E : Value → Shared → Prop} {pins : List (Addr × Obj)} {s : Shared} {σ : St} {H : Hp} {x : Str} {u : Value} {pos : Pos} {Q : Value → Shared → Prop} (I : Inv X pins σ H s) (hg : Gl X x) (hm : X.mg x = none) (hv : bootBuiltins x = some u) (h : Q u s)
    (hn : x ≠ "__name__" := by decide) (hd : (x == ("__debug__" : Str)) = false := by decide) : wpAny (model X.prog X.w) X.A (eval (.Name x pos) X.env) Q E s := by
  obtain ⟨mb, h1, h2⟩ := I.mod.blt
  exact Calls.Name_function_global I.ok.kind hg (Calls.loadGlobal_builtin (by rw [I.ok.glob]; exact I.mod.glob.keeps I.bk) hm (by rw [I.ok.blt]; exact h1.keeps I.bk) ((h2 x hn).trans hv) h) hd
theorem pe_glob {x : Str} {v : V} {u : Value} {pos : Pos} (hg : Gl X x) (hm : X.mg x = some u) (r : RelV v u) (hd : (x == ("__debug__" : Str)) = false := by decide) : PE X (.Name x pos) (tC v) :=
  fun _ _ _ H _ I h => ld_glob I hg hm ⟨v, H, I, r, h⟩ hd
variable {a b : Expr} {ta tb : TE} {pos : Pos}
variable {tA tB' : TT} {rest : List Expr}
def tOr (t u : TT) : TT := fun σ H Q => t σ H fun c H1 => if c = true then Q true H1 else u σ H1 Q
theorem pw_or1 (ha : PT X a tA) : PW X (.BoolOp .Or [a] pos) tA := by
  intro wh pins s σ H Q I h
  refine isTrue_or (thn (ha pins s σ H Q I h) fun c s1 e => ?_)
  cases c with
  | false => exact isTrue_or_nil e
  | true => exact e
theorem pw_or (ha : PT X a tA) (hb : PW X (.BoolOp .Or (b :: rest) pos) tB') : PW X (.BoolOp .Or (a :: b :: rest) pos) (tOr tA tB') := by
  intro wh pins s σ H Q I h
  refine isTrue_or (thn (ha pins s σ H _ I h) fun c s1 ⟨H1, I1, q1⟩ => ?_)
  cases c with
  | true => exact ⟨H1, I1, q1⟩
  | false => exact hb wh pins s1 σ H1 Q I1 q1
end
end L2
namespace L2
open PySem PySem.Spec PyProof.Rows
def SqL (K : PySem.W.Frag) (H : Hp) (a : Addr) (xs : List V) : Prop :=
  Rd H a (.lst xs) ∨
    ∃ (o : Obj) (its : Array Value) (n : Nat), K.lookup a = some o ∧ o.cls = .type "list" ∧ o.dict = none ∧ o.data = .seq its n ∧ its.size ≤ sizeLine ∧ Vals xs its.toList
def SqT (K : PySem.W.Frag) (H : Hp) (a : Addr) (xs : List V) : Prop :=
  Rd H a (.tup xs) ∨
    ∃ (o : Obj) (its : Array Value) (n : Nat), K.lookup a = some o ∧ o.cls = .type "tuple" ∧ o.data = .seq its n ∧ its.size ≤ sizeLine ∧ Vals xs its.toList
def absV : Value → Option V
  | .none => some .non
  | .bool b => some (.bl b)
  | .int i _ => some (.int i)
  | .str x _ => some (.str x)
  | .bytes b _ => some (.byt b)
  | .float b _ => some (.flt b)
  | .ref a => some (.ref a)
  | .type n => some (.ty n)
  | _ => none
theorem RelV.abs {x : V} {u : Value} (r : RelV x u) : absV u = some x := by
  cases x with
  | non => cases r; rfl
  | bl _ => cases r; rfl
  | int _ => obtain ⟨t, rfl⟩ := r; rfl
  | str _ => obtain ⟨t, rfl⟩ := r; rfl
  | byt _ => obtain ⟨t, rfl⟩ := r; rfl
  | flt _ => obtain ⟨t, rfl⟩ := r; rfl
  | ref _ => cases r; rfl
  | ty _ => cases r; rfl
theorem RelV.inj {x y : V} {u : Value} (r : RelV x u) (q : RelV y u) : x = y := Option.some.inj (r.abs.symm.trans q.abs)
theorem Vals.inj : ∀ {xs ys : List V} {us : List Value}, Vals xs us → Vals ys us → xs = ys
  | _, _, _, .nil, .nil => rfl
  | _, _, _, .cons r t, .cons r' t' => by rw [r.inj r', Vals.inj t t']
section
variable {X : Cx} {pins : List (Addr × Obj)} {σ : St} {H : Hp} {s : Shared} {a : Addr} {xs ys : List V}
theorem SqL.of {K : PySem.W.Frag} (h : H a = some (.lst xs)) : SqL K H a xs := .inl (.inl h)
theorem Inv.list (I : Inv X pins σ H s) (h : SqL X.K H a xs) : ∃ its : List Value, Vals xs its ∧ PlainL s.heap a its.toArray ∧ xs.length ≤ sizeLine := by
  rcases h with h | ⟨o, its, n, hk, hc, hd, hs, hz, r⟩
  · obtain ⟨z, its, n, r, e⟩ := h.ok I.hok
    exact ⟨its, r, ⟨_, n, e, rfl, rfl, rfl⟩, z⟩
  · refine ⟨its.toList, r, ⟨o, n, I.kIn a o hk, hc, hd, by simpa using hs⟩, ?_⟩
    have e := r.length
    simp only [Array.length_toList] at e
    omega
theorem Inv.tuple (I : Inv X pins σ H s) (h : SqT X.K H a xs) : ∃ its : List Value, Vals xs its ∧ IsTup s.heap a its.toArray ∧ xs.length ≤ sizeLine := by
  rcases h with h | ⟨o, its, n, hk, hc, hs, hz, r⟩
  · obtain ⟨z, its, r, p⟩ := h.ok I.hok
    exact ⟨its, r, p, z⟩
  · refine ⟨its.toList, r, ⟨o, I.kIn a o hk, hc, n, by simpa using hs⟩, ?_⟩
    have e := r.length
    simp only [Array.length_toList] at e
    omega
theorem Inv.list_inj (I : Inv X pins σ H s) (h : SqL X.K H a xs) (h' : SqL X.K H a ys) : xs = ys := by
  obtain ⟨its, r, ⟨o, n, e, _, _, d⟩, _⟩ := I.list h
  obtain ⟨its', r', ⟨o', n', e', _, _, d'⟩, _⟩ := I.list h'
  rw [e] at e'; cases e'
  rw [d] at d'
  injection d' with d1 _
  have : its = its' := by simpa using congrArg Array.toList d1
  subst this
  exact r.inj r'
end
section
variable {X : Cx} {pins : List (Addr × Obj)} {σ : St} {H : Hp} {s : Shared} {E : Value → Shared → Prop}
end
section
variable {X : Cx} {st : Stmt} {rest : List Stmt} {t u : TS} {e : Expr} {te : TE} {pos : Pos}
def tNext : TS := fun D σ H => D.nx σ H
def tSeq (t u : TS) : TS := fun D σ H => t { D with nx := u D } σ H
theorem pss_nil : PSs X [] tNext := fun _ _ σ H _ I h => wpAny_execs_nil ⟨σ, H, I, h⟩
theorem pss_cons (h1 : PS X st t) (h2 : PSs X rest u) : PSs X (st :: rest) (tSeq t u) := by
  intro pins s σ H D I h
  refine wpAny_execs_cons (thn (h1 pins s σ H { D with nx := u D } I h) fun f s1 q => ?_)
  cases f with
  | next =>
    obtain ⟨σ', H', I', q⟩ := q
    exact h2 pins s1 σ' H' D I' q
  | ret v => exact q
  | brk => exact q
  | cont => exact q
theorem pss_one (h1 : PS X st t) : PSs X [st] t := by
  intro pins s σ H D I h
  refine wpAny_execs_cons (thn (h1 pins s σ H D I h) fun f s1 q => ?_)
  cases f with
  | next => exact wpAny_execs_nil q
  | ret v => exact q
  | brk => exact q
  | cont => exact q
theorem Inv.quiet {pins : List (Addr × Obj)} {σ : St} {H : Hp} {s : Shared} (I : Inv X pins σ H s) : interactive X.env = false := by simp [interactive, I.ok.kind]
def tDrop (te : TE) : TS := fun D σ H => te σ H fun _ H1 => D.nx σ H1
theorem ps_expr (he : PE X e te) (hs : swapsWith e none pos.line X.env = pure false := by rfl) : PS X (.Expr e pos) (tDrop te) := by
  intro pins s σ H D I h
  exact wpAny_Expr_any (thn (he pins s σ H _ I h) fun v s1 ⟨x, H1, I1, r1, q1⟩ => ⟨σ, H1, I1, q1⟩) I.quiet hs
def tRet (te : TE) : TS := fun D σ H => te σ H D.rt
theorem ps_ret (he : PE X e te) : PS X (.Return (some e) pos) (tRet te) := by
  intro pins s σ H D I h
  exact wpAny_Return_some (thn (he pins s σ H _ I h) fun v s1 ⟨x, H1, I1, r1, q1⟩ => ⟨x, σ, H1, I1, r1, q1⟩)
def tIfS (c : TT) (t u : TS) : TS := fun D σ H => c σ H fun b H1 => if b = true then t D σ H1 else u D σ H1
theorem ps_if {c : Expr} {a b : List Stmt} {tc : TT} (hc : PT X c tc) (ha : PSs X a t) (hb : PSs X b u) : PS X (.If c a b pos) (tIfS tc t u) := by
  intro pins s σ H D I h
  refine wpAny_If (thn (hc pins s σ H _ I h) fun d s1 ⟨H1, I1, q1⟩ => ?_)
  cases d with
  | true => exact ha pins s1 σ H1 D I1 q1
  | false => exact hb pins s1 σ H1 D I1 q1
end
abbrev TG := V → St → Hp → (St → Hp → Prop) → Prop
def PG (X : Cx) (target : Expr) (t : TG) : Prop :=
  ∀ (pins : List (Addr × Obj)) (s : Shared) (σ : St) (H : Hp) (v : V) (u : Value) (Q : St → Hp → Prop), Inv X pins σ H s → RelV v u → t v σ H Q →
    wpAny (model X.prog X.w) X.A (assign target X.env u) (fun _ s' => ∃ σ' H', Inv X pins σ' H' s' ∧ Q σ' H') X.xe s
section
variable {X : Cx} {pos : Pos}
def gName (i : Nat) : TG := fun v σ H Q => Q (σ.set i (some v)) H
theorem pg_name {i : Nat} {x : Str} (hN : X.N.Nodup) (hi : X.N[i]? = some x) (hx : Loc X.env.scope x) (hf : X.fn x = true ∨ X.env.scope.names.lookup x = some .local := by first | exact .inl rfl | exact .inr rfl | assumption) : PG X (.Name x pos) (gName i) := by
  intro pins s σ H v u Q I r h
  exact wpAny_assign_Name (store_ok I hN hi hx r (fun s' I' => ⟨_, H, I', h⟩) hf)
def tAsg (te : TE) (g : TG) : TS := fun D σ H => te σ H fun x H1 => g x σ H1 D.nx
theorem ps_set {i : Nat} {x : Str} {e : Expr} {te : TE} {pos' : Pos} (hN : X.N.Nodup) (hi : X.N[i]? = some x) (hx : Loc X.env.scope x) (he : PE X e te) (hs : swapsWith e (some (.Name x pos')) pos.line X.env = pure false := by rfl) (hf : X.fn x = true ∨ X.env.scope.names.lookup x = some .local := by first | exact .inl rfl | exact .inr rfl | assumption) :
    PS X (.Assign [.Name x pos'] e pos) (tAsg te (gName i)) := by
  intro pins s σ H D I h
  refine wpAny_Assign_Name (thn (he pins s σ H _ I h) fun v s1 ⟨y, H1, I1, r1, q1⟩ => ?_) hs
  exact store_ok I1 hN hi hx r1 (fun s2 I2 => ⟨_, H1, I2, q1⟩) hf
end
section
variable {X : Cx} {pos : Pos}
end
structure It where
  go : Nat → Hp → Prop
  yld : Nat → Hp → V → Hp → Prop
  stop : Nat → Hp → Prop
def FpOk (X : Cx) (pins : List (Addr × Obj)) (H : Hp) (b : Addr) : Prop :=
  H b = none ∧ b ≠ X.env.locals ∧ b ∉ X.fs ∧ (b ∈ X.ex ∨ X.s_0.heap.objs.size ≤ b) ∧ (∀ x c, X.env.cells.lookup x = some c → c ≠ b) ∧ ∀ p ∈ X.pn ++ pins, p.1 ≠ b
theorem Inv.fpOk {X : Cx} {pins : List (Addr × Obj)} {σ : St} {H H' : Hp} {s : Shared} {b : Addr} (I : Inv X pins σ H s) (hb : s.heap.objs.size ≤ b) (hn : H' b = none) : FpOk X pins H' b := by
  refine ⟨hn, Nat.ne_of_gt (Nat.lt_of_lt_of_le I.lt hb), I.nofs hb, .inr (Nat.le_trans I.sz hb), fun x c e z => ?_, fun p hp z => ?_⟩
  · obtain ⟨v, q⟩ := I.cell x c e
    exact absurd (Nat.lt_of_lt_of_le q.lt (by rw [z]; exact hb)) (Nat.lt_irrefl _)
  · exact absurd (Nat.lt_of_lt_of_le (Heap.lt_size (I.pin p hp).1) (by rw [z]; exact hb)) (Nat.lt_irrefl _)
structure Turn (P : Program) (w : World) (K : PySem.W.Frag) (tg : Expr) (J : It) (fp : List Addr) (it : Addr) (tn : Nat → Heap → Prop) : Prop where
  mem : it ∈ fp
  obj : ∀ i h, tn i h → ∀ b ∈ fp, ∃ o, h.get? b = some o ∧ ∀ v, o.data ≠ .cell v
  keep : ∀ i h h', tn i h → (∀ b ∈ fp, ∀ o, h.get? b = some o → h'.get? b = some o) → tn i h'
  item : ∀ (X : Cx), X.prog = P → X.w = w → X.K = K → X.calm = true → ∀ (i : Nat) (pins : List (Addr × Obj)) (s : Shared) (σ : St) (H : Hp) (E : Value → Shared → Prop), Inv X pins σ H s → (∀ b ∈ fp, FpOk X pins H b) → tn i s.heap → J.go i H →
    wpAny (model P w) X.A (pyNext (.ref it)) (fun r s1 => ∃ u, r = some u ∧
      wpAny (model P w) X.A (letOwnedTupleGo tg (.ref it) u) (fun _ s2 => ∃ x H', Inv X pins σ H' s2 ∧ RelV x u ∧ J.yld i H x H' ∧ tn (i + 1) s2.heap ∧ ∀ b ∈ fp, H' b = none) E s1) E s
  done : ∀ (X : Cx), X.prog = P → X.w = w → X.K = K → X.calm = true → ∀ (i : Nat) (pins : List (Addr × Obj)) (s : Shared) (σ : St) (H : Hp) (E : Value → Shared → Prop), Inv X pins σ H s → (∀ b ∈ fp, FpOk X pins H b) → tn i s.heap → J.stop i H →
    wpAny (model P w) X.A (pyNext (.ref it)) (fun r s1 => r = none ∧ Inv X pins σ H s1) E s
  self : ∀ (A : Around) (i : Nat) (s : Shared) (Q : Value → Shared → Prop) (E : Value → Shared → Prop), tn i s.heap → Q (.ref it) s → wpAny (model P w) A (pyIter (.ref it)) Q E s
abbrev TI := St → Hp → (It → Hp → Prop) → Prop
def PIE (X : Cx) (pins : List (Addr × Obj)) (σ : St) (tg : Expr) (R : It → Hp → Prop) (itv : Value) (s2 : Shared) : Prop :=
  ∃ (it : Addr) (fp : List Addr) (tn : Nat → Heap → Prop) (J : It) (H' : Hp), itv = .ref it ∧ Inv X pins σ H' s2 ∧ Turn X.prog X.w X.K tg J fp it tn ∧ tn 0 s2.heap ∧ (∀ b ∈ fp, FpOk X pins H' b) ∧ R J H'
def PI (X : Cx) (tg iter : Expr) (wi : TI) : Prop :=
  ∀ (pins : List (Addr × Obj)) (s : Shared) (σ : St) (H : Hp) (R : It → Hp → Prop), Inv X pins σ H s → wi σ H R →
    wpAny (model X.prog X.w) X.A (eval iter X.env) (fun v s1 => wpAny (model X.prog X.w) X.A (pyIter v) (PIE X pins σ tg R) X.xe s1) X.xe s
theorem go_of {M : Model} {A : Around} {E : Value → Shared → Prop} {s : Shared} {tg : Expr} {it : Addr} {u : Value} {o : Obj} {n : String} {vs : Array Value} {Q : Unit → Shared → Prop} (ho : s.heap.get? it = some o) (hc : o.cls = .type n) (hd : o.data = .fields vs)
    (hn : ["enumerate", "zip", "dict_itemiterator", "dict_reverseitemiterator", "odict_iterator", "itertools.zip_longest", "itertools.pairwise"].contains n = false) (hQ : Q () s) : wpAny M A (letOwnedTupleGo tg (.ref it) u) Q E s := by
  unfold letOwnedTupleGo
  cases tg <;> first
    | exact wpAny_pure hQ
    | (cases u <;> first
        | exact wpAny_pure hQ
        | (refine wpAny_bind (wpAny_load ho ?_)
           rw [hc, hd]
           show wpAny M A (if (["enumerate", "zip", "dict_itemiterator", "dict_reverseitemiterator", "odict_iterator", "itertools.zip_longest", "itertools.pairwise"].contains n && vs[0]? == some (rawInt _)) = true then _ else _) Q E s
           rw [if_neg (by intro h; rw [hn, Bool.false_and] at h; cases h)]
           exact wpAny_pure hQ))
def Itl (K : PySem.W.Frag) (a : Addr) : It :=
  ⟨fun i H => ∃ xs x, SqL K H a xs ∧ xs[i]? = some x, fun i H x H' => H' = H ∧ ∀ xs, SqL K H a xs → xs[i]? = some x, fun i H => ∃ xs, SqL K H a xs ∧ xs.length ≤ i⟩
def Itr (lo : Int) (n : Nat) : It := ⟨fun i _ => i < n, fun i H x H' => H' = H ∧ x = .int (lo + i), fun i _ => n ≤ i⟩
theorem turn_list {P : Program} {w : World} {K : PySem.W.Frag} {tg : Expr} (a it : Addr) : Turn P w K tg (Itl K a) [it] it (fun i h => h.IsListIter it a i) where
  mem := by simp
  obj := fun i h st b hb => by
    have e : b = it := by simpa using hb
    subst e
    obtain ⟨o, e, c, d⟩ := st
    exact ⟨o, e, fun v z => by rw [d] at z; cases z⟩
  keep := fun i h h' st k => st.at fun o e => k it (by simp) o e
  item := by
    intro X hP hw hK hc i pins s σ H E I hf st hg
    subst hP hw hK
    obtain ⟨xs, x, hq, hx⟩ := hg
    obtain ⟨its, rv, p, hz⟩ := I.list hq
    obtain ⟨u, hu, ru⟩ := rv.get hx
    obtain ⟨f0, f1, f2, f3, f4, f5⟩ := hf it (by simp)
    refine wpAny_pyNext_list_item st p.isList (x := u) (by simpa using hu) fun h' st' sb => ?_
    have I1 : Inv X pins σ H { s with heap := h' } := I.turned (t' := s.toks) (fun b o hb e => (sb.2 b hb).trans e) f0 f1 f3 f4 f5
    obtain ⟨o, e, c, d⟩ := id st'
    exact ⟨u, rfl, go_of (s := { s with heap := h' }) e c d (by decide) ⟨x, H, I1, ru, ⟨rfl, fun ys hy => by rw [I.list_inj hy hq]; exact hx⟩, st', fun b hb => (hf b hb).1⟩⟩
  done := by
    intro X hP hw hK hc i pins s σ H E I hf st hg
    subst hP hw hK
    obtain ⟨xs, hq, hx⟩ := hg
    obtain ⟨its, rv, p, hz⟩ := I.list hq
    obtain ⟨f0, f1, f2, f3, f4, f5⟩ := hf it (by simp)
    have hl := rv.length
    exact wpAny_pyNext_list_end (I.ok.hd hc) st p.isList (by simp; omega) fun h' eb => ⟨rfl, I.turned (t' := s.toks) (fun b o hb e => eb b o hb e) f0 f1 f3 f4 f5⟩
  self := fun _ _ _ _ _ st h => wpAny_pyIter_listiter st h
theorem turn_range {P : Program} {w : World} {K : PySem.W.Frag} {tg : Expr} (it : Addr) (lo : Int) (n : Nat) : Turn P w K tg (Itr lo n) [it] it (fun i h => IsRangeIter h it (lo + (i : Nat) * 1) ((n : Int) - (i : Nat)) 1) where
  mem := by simp
  obj := fun i h st b hb => by
    have e : b = it := by simpa using hb
    subst e
    exact ⟨_, st, fun v z => by
      have z' : Data.fields _ = Data.cell v := z
      cases z'⟩
  keep := fun i h h' st k => k it (by simp) _ st
  item := by
    intro X hP hw hK hc i pins s σ H E I hf st hg
    subst hP hw hK
    obtain ⟨f0, f1, f2, f3, f4, f5⟩ := hf it (by simp)
    have W := Walks.range (prog := X.prog) (w := X.w) (I.ok.hd hc) it lo 1 n
    refine W.item i s _ _ hg st fun v h' tk hv st' kk => ?_
    obtain ⟨t, rfl⟩ := hv
    have I1 : Inv X pins σ H { s with heap := h', toks := tk } := I.turned (fun b o hb e => kk b o (by simpa using hb) e) f0 f1 f3 f4 f5
    refine ⟨_, rfl, go_of (s := { s with heap := h', toks := tk }) (n := "range_iterator") st' rfl rfl (by decide) ⟨.int (lo + i), H, I1, ⟨t, ?_⟩, ⟨rfl, rfl⟩, st', fun b hb => (hf b hb).1⟩⟩
    rw [Int.mul_one]
  done := by
    intro X hP hw hK hc i pins s σ H E I hf st hg
    subst hP hw hK
    obtain ⟨f0, f1, f2, f3, f4, f5⟩ := hf it (by simp)
    exact wpAny_pyNext_range_end (I.ok.hd hc) st (by have : n ≤ i := hg; omega) fun h' eb => ⟨rfl, I.turned (t' := s.toks) (fun b o hb e => eb b o hb e) f0 f1 f3 f4 f5⟩
  self := fun _ _ _ _ _ st h => wpAny_pyIter_rangeiter st h
end L2
namespace L2
open PySem PySem.Spec PyProof.Rows
section
variable {X : Cx} {tg : Expr}
def iList (K : PySem.W.Frag) (tl : TE) : TI := fun σ H R => tl σ H fun x H1 => ∃ a, x = .ref a ∧ (∃ xs, SqL K H1 a xs) ∧ R (Itl K a) H1
theorem pi_list {l : Expr} {tl : TE} (hl : PE X l tl) : PI X tg l (iList X.K tl) := by
  intro pins s σ H R I h
  refine thn (hl pins s σ H _ I h) fun v s1 ⟨x, H1, I1, r1, q1⟩ => ?_
  obtain ⟨a, e, ⟨xs, hq⟩, q⟩ := q1
  subst e
  cases r1
  obtain ⟨its, rv, p, hz⟩ := I1.list hq
  refine wpAny_pyIter_list p.isList ?_
  refine ⟨s1.heap.objs.size, [s1.heap.objs.size], _, _, H1, rfl, I1.kept (t' := s1.toks) fun b o e => Heap.get?_push_of_some _ e, turn_list a _, ⟨_, Heap.get?_push_size _ rfl, rfl, rfl⟩, fun b hb => ?_, q⟩
  have e : b = s1.heap.objs.size := by simpa using hb
  subst e
  exact I1.fpOk (Nat.le_refl _) (I1.hok.fresh (Nat.le_refl _))
theorem range_it {pins : List (Addr × Obj)} {σ : St} {H : Hp} {s : Shared} {R : It → Hp → Prop} {E : Value → Shared → Prop} {lo hi : Int} {t u v : Tok} {tk : Nat} (I : Inv X pins σ H s) (h1 : -(2 ^ 62) ≤ lo) (h2 : lo < 2 ^ 62) (h3 : -(2 ^ 62) ≤ hi) (h4 : hi < 2 ^ 62)
    (q : R (Itr lo (hi - lo).toNat) H) : wpAny (model X.prog X.w) X.A (pyIter (.ref s.heap.objs.size)) (PIE X pins σ tg R) E { s with heap := s.heap.push { cls := .type "range", data := .fields #[.int lo t, .int hi u, .int 1 v] }, toks := tk } := by
  refine wpAny_pyIter_range (IsRange.new ..) (small_one h1 h2 h3 h4) ?_
  have I1 : Inv X pins σ H { s with heap := s.heap.push { cls := .type "range", data := .fields #[.int lo t, .int hi u, .int 1 v] }, toks := tk } := I.kept fun b o e => Heap.get?_push_of_some _ e
  refine ⟨(s.heap.push { cls := .type "range", data := .fields #[.int lo t, .int hi u, .int 1 v] }).objs.size, [(s.heap.push { cls := .type "range", data := .fields #[.int lo t, .int hi u, .int 1 v] }).objs.size], _, _, H, rfl,
    I1.kept (t' := tk) fun b o e => Heap.get?_push_of_some _ e, turn_range _ lo (hi - lo).toNat, ?_, fun b hb => ?_, q⟩
  · have e1 : lo + ((0 : Nat) : Int) * 1 = lo := by simp
    have e2 : (((hi - lo).toNat : Nat) : Int) - ((0 : Nat) : Int) = Builtin.Range.rangeSize lo hi 1 := by rw [rangeSize_one]; split <;> omega
    show IsRangeIter _ _ (lo + ((0 : Nat) : Int) * 1) ((((hi - lo).toNat : Nat) : Int) - ((0 : Nat) : Int)) 1
    rw [e1, e2]
    exact Heap.get?_push_size _ rfl
  · have e : b = (s.heap.push { cls := .type "range", data := .fields #[.int lo t, .int hi u, .int 1 v] }).objs.size := by simpa using hb
    subst e
    exact I1.fpOk (Nat.le_refl _) (I1.hok.fresh (Nat.le_refl _))
def iRng1 (ta : TA) : TI := fun σ H R => ta σ H fun vs H1 => ∃ j : Int, vs = [.int j] ∧ -(2 ^ 62) ≤ j ∧ j < 2 ^ 62 ∧ R (Itr 0 j.toNat) H1
theorem pi_range1 {a : Expr} {ta : TA} {p pos : Pos} (hg : Gl X "range") (hm : X.mg "range" = none) (ha : PA X [a] ta) (hs : starEach [a] X.env = [(false, eval a X.env)] := by rfl) : PI X tg (.Call (.Name "range" p) [a] [] pos) (iRng1 ta) := by
  intro pins s σ H R I h
  refine Call_ (ld_blt I hg hm boot_range (PyProof.Rows.callWith_type1 (thn (ha pos pins s σ H _ I h) fun us s1 ⟨vs, H1, I1, r1, q1⟩ => ?_) hs rfl))
  obtain ⟨j, e, q1, q2, q⟩ := q1
  subst e
  cases r1 with
  | cons r rr =>
    cases rr
    obtain ⟨t, rfl⟩ := r
    exact call_range_1 (range_it I1 (by omega) (by omega) q1 q2 (by simpa using q))
def tFor (wi : TI) (g : TG) (tb : TS) : TS := fun D σ H => wi σ H fun J H1 => ∃ W : Nat → Nat → St → Hp → Prop, (∃ m, W 0 m σ H1) ∧ ∀ i m σ H, W i m σ H →
  (J.stop i H ∧ D.nx σ H) ∨ (J.go i H ∧ ∃ N : St → Hp → Prop, (∀ σ' H', N σ' H' → ∃ m', m' < m ∧ W (i + 1) m' σ' H') ∧ ∀ x H', J.yld i H x H' → g x σ H' fun σ2 H2 => tb { D with nx := N, ct := N, bk := D.nx } σ2 H2)
def pinsAt (fp : List Addr) (h : Heap) : List (Addr × Obj) := fp.filterMap fun b => (h.get? b).map fun o => (b, o)
theorem mem_pinsAt {fp : List Addr} {h : Heap} {b : Addr} {o : Obj} (hb : b ∈ fp) (e : h.get? b = some o) : (b, o) ∈ pinsAt fp h := List.mem_filterMap.mpr ⟨b, hb, by rw [e]; rfl⟩
theorem of_pinsAt {fp : List Addr} {h : Heap} {p : Addr × Obj} (hp : p ∈ pinsAt fp h) : p.1 ∈ fp ∧ h.get? p.1 = some p.2 := by
  obtain ⟨b, hb, e⟩ := List.mem_filterMap.mp hp
  cases q : h.get? b with
  | none => rw [q] at e; cases e
  | some o =>
    rw [q] at e
    have e' : (b, o) = p := Option.some.inj e
    subst e'
    exact ⟨hb, q⟩
theorem Inv.pinned {pins : List (Addr × Obj)} {σ : St} {H : Hp} {s : Shared} {fp : List Addr} (I : Inv X pins σ H s) (hf : ∀ b ∈ fp, FpOk X pins H b) (ho : ∀ b ∈ fp, ∃ o, s.heap.get? b = some o ∧ ∀ v, o.data ≠ .cell v) : Inv X (pins ++ pinsAt fp s.heap) σ H s :=
  I.pins_of fun p hp => (List.mem_append.mp hp).elim (fun z => I.pin p (List.mem_append_right _ z)) fun z => by
    obtain ⟨hb, e⟩ := of_pinsAt z
    obtain ⟨f0, f1, f2, _⟩ := hf p.1 hb
    obtain ⟨o, e', d⟩ := ho p.1 hb
    rw [e] at e'; cases e'
    exact ⟨e, f0, f1, f2, d⟩
theorem Inv.unpinned {pins pl : List (Addr × Obj)} {σ : St} {H : Hp} {s : Shared} (I : Inv X (pins ++ pl) σ H s) : Inv X pins σ H s := I.pins_of fun p hp => I.pin p (List.mem_append_right _ (List.mem_append_left _ hp))
theorem ps_for {iter : Expr} {body : List Stmt} {wi : TI} {g : TG} {tb : TS} {pos : Pos} (hp : PassesOwn (model X.prog X.w) X.A X.env X.xe) (hc : X.calm = true) (hi : PI X tg iter wi) (hg : PG X tg g) (hb : PSs X body tb)
    (hs : ∀ x, foldedSetIterable iter X.env x = pure x := by intro _; rfl) : PS X (.For tg iter body [] pos) (tFor wi g tb) := by
  intro pins s σ H D I h
  refine wpAny_For (thn (hi pins s σ H _ I h) fun v s1 h1 => thn h1 fun itv s2 h2 => ?_) hs
  obtain ⟨it, fp, tn, J, H2, e, I2, T, st2, f2, W, ⟨m0, w0⟩, turn⟩ := h2
  subst e
  -- what stays true of the iterator's objects through the loop
  have stat : ∀ {H' : Hp}, (∀ b ∈ fp, H' b = none) → ∀ b ∈ fp, FpOk X pins H' b := fun hn b hb => ⟨hn b hb, (f2 b hb).2⟩
  refine codeAny_forLoop_any (fun n s' => ∃ i σ' H', Inv X pins σ' H' s' ∧ tn i s'.heap ∧ (∀ b ∈ fp, H' b = none) ∧ W i n σ' H') ?_ m0 ⟨0, σ, H2, I2, st2, fun b hb => (f2 b hb).1, w0⟩
  rintro n s3 ⟨i, σ3, H3, I3, st3, fr3, w3⟩
  rcases turn i n σ3 H3 w3 with ⟨stop, qn⟩ | ⟨go, N, hN, step⟩
  · refine wpAny_passesOwn hp (thn (T.done X rfl rfl rfl hc i pins s3 σ3 H3 X.xe I3 (stat fr3) st3 stop) fun r s4 ⟨hr, I4⟩ => ?_)
    subst hr
    exact wpAny_execs_nil ⟨σ3, H3, I4, qn⟩
  · refine wpAny_passesOwn hp (thn (T.item X rfl rfl rfl hc i pins s3 σ3 H3 X.xe I3 (stat fr3) st3 go) fun r s4 ⟨u, hr, h4⟩ => ?_)
    subst hr
    refine wpAny_passesOwn hp (thn h4 fun _ s5 ⟨x, H5, I5, r5, y5, st5, fr5⟩ => ?_)
    have I5' := I5.pinned (stat fr5) (T.obj _ _ st5)
    refine wpAny_passesOwn hp (thn (hg _ s5 σ3 H5 x u _ I5' r5 (step x H5 y5)) fun _ s6 ⟨σ6, H6, I6, q6⟩ => ?_)
    refine wpAny_passesOwn hp (thn (hb _ s6 σ6 H6 _ I6 q6) fun f s7 q7 => ?_)
    have again : ∀ {σ7 : St} {H7 : Hp}, Inv X (pins ++ pinsAt fp s5.heap) σ7 H7 s7 → N σ7 H7 → ∃ m, m < n ∧ ∃ i σ' H', Inv X pins σ' H' s7 ∧ tn i s7.heap ∧ (∀ b ∈ fp, H' b = none) ∧ W i m σ' H' := fun {σ7 H7} I7 n7 => by
      obtain ⟨m', hm, w7⟩ := hN σ7 H7 n7
      refine ⟨m', hm, i + 1, σ7, H7, I7.unpinned, T.keep _ _ _ st5 fun b hb o e => (I7.pin (b, o) (List.mem_append_right _ (List.mem_append_right _ (mem_pinsAt hb e)))).1, fun b hb => ?_, w7⟩
      obtain ⟨o, e, d⟩ := T.obj _ _ st5 b hb
      exact (I7.pin (b, o) (List.mem_append_right _ (List.mem_append_right _ (mem_pinsAt hb e)))).2.1
    cases f with
    | next => obtain ⟨σ7, H7, I7, n7⟩ := q7; exact again I7 n7
    | cont => obtain ⟨σ7, H7, I7, n7⟩ := q7; exact again I7 n7
    | brk => obtain ⟨σ7, H7, I7, q7⟩ := q7; exact ⟨σ7, H7, I7.unpinned, q7⟩
    | ret v => obtain ⟨x7, σ7, H7, I7, r7, q7⟩ := q7; exact ⟨x7, σ7, H7, I7.unpinned, r7, q7⟩
end
theorem for_list {K : PySem.W.Frag} {a : Addr} {xs : List V} {g : TG} {tb : TS} {D : Ends} {σ : St} {H : Hp} (Pv : Nat → St → Hp → Prop) (h0 : Pv 0 σ H) (hl : ∀ i σ H, i ≤ xs.length → Pv i σ H → SqL K H a xs)
    (hs : ∀ i x σ H, xs[i]? = some x → Pv i σ H → g x σ H fun σ2 H2 => tb { D with nx := Pv (i + 1), ct := Pv (i + 1), bk := D.nx } σ2 H2) (hd : ∀ σ H, Pv xs.length σ H → D.nx σ H) :
    ∃ W : Nat → Nat → St → Hp → Prop, (∃ m, W 0 m σ H) ∧ ∀ i m σ H, W i m σ H →
      ((Itl K a).stop i H ∧ D.nx σ H) ∨ ((Itl K a).go i H ∧ ∃ N : St → Hp → Prop, (∀ σ' H', N σ' H' → ∃ m', m' < m ∧ W (i + 1) m' σ' H') ∧ ∀ x H', (Itl K a).yld i H x H' → g x σ H' fun σ2 H2 => tb { D with nx := N, ct := N, bk := D.nx } σ2 H2) := by
  refine ⟨fun i m σ H => m = xs.length - i ∧ i ≤ xs.length ∧ Pv i σ H, ⟨xs.length, by simp, Nat.zero_le _, h0⟩, ?_⟩
  rintro i m σ H ⟨rfl, hi, p⟩
  have q := hl i σ H hi p
  by_cases hlt : i < xs.length
  · refine .inr ⟨⟨xs, xs[i], q, by simp [hlt]⟩, Pv (i + 1), fun σ' H' p' => ⟨xs.length - (i + 1), by omega, rfl, hlt, p'⟩, fun x H' y => ?_⟩
    obtain ⟨e, y⟩ := y
    subst e
    exact hs i x σ _ (y xs q) p
  · have e : i = xs.length := by omega
    subst e
    exact .inl ⟨⟨xs, q, Nat.le_refl _⟩, hd σ H p⟩
theorem for_range {lo : Int} {n : Nat} {g : TG} {tb : TS} {D : Ends} {σ : St} {H : Hp} (Pv : Nat → St → Hp → Prop) (h0 : Pv 0 σ H)
    (hs : ∀ i σ H, i < n → Pv i σ H → g (.int (lo + i)) σ H fun σ2 H2 => tb { D with nx := Pv (i + 1), ct := Pv (i + 1), bk := D.nx } σ2 H2) (hd : ∀ σ H, Pv n σ H → D.nx σ H) :
    ∃ W : Nat → Nat → St → Hp → Prop, (∃ m, W 0 m σ H) ∧ ∀ i m σ H, W i m σ H →
      ((Itr lo n).stop i H ∧ D.nx σ H) ∨ ((Itr lo n).go i H ∧ ∃ N : St → Hp → Prop, (∀ σ' H', N σ' H' → ∃ m', m' < m ∧ W (i + 1) m' σ' H') ∧ ∀ x H', (Itr lo n).yld i H x H' → g x σ H' fun σ2 H2 => tb { D with nx := N, ct := N, bk := D.nx } σ2 H2) := by
  refine ⟨fun i m σ H => m = n - i ∧ i ≤ n ∧ Pv i σ H, ⟨n, by simp, Nat.zero_le _, h0⟩, ?_⟩
  rintro i m σ H ⟨rfl, hi, p⟩
  by_cases hlt : i < n
  · refine .inr ⟨hlt, Pv (i + 1), fun σ' H' p' => ⟨n - (i + 1), by omega, rfl, hlt, p'⟩, fun x H' y => ?_⟩
    obtain ⟨e, y⟩ := y
    subst e y
    exact hs i σ _ hlt p
  · have e : i = n := by omega
    subst e
    exact .inl ⟨Nat.le_refl _, hd σ H p⟩
end L2
namespace L2
open PySem PySem.Spec PyProof.Rows
abbrev R2 := V → V → Hp → VK → Prop
def OpR (X : Cx) (f : Value → Value → Sem Value) (r : R2) : Prop :=
  ∀ (pins : List (Addr × Obj)) (s : Shared) (σ : St) (H : Hp) (x y : V) (v u : Value) (Q : VK), Inv X pins σ H s → RelV x v → RelV y u → r x y H Q →
    wpAny (model X.prog X.w) X.A (f v u) (EP X pins σ Q) X.xe s
def CallR (X : Cx) (f : Value) (r : List V → Hp → VK → Prop) : Prop :=
  ∀ (pins : List (Addr × Obj)) (s : Shared) (σ : St) (H : Hp) (xs : List V) (us : List Value) (Q : VK), Inv X pins σ H s → Vals xs us → r xs H Q →
    wpAny (model X.prog X.w) X.A (call f us) (EP X pins σ Q) X.xe s
def tOp (r : R2) (ta tb : TE) : TE := fun σ H Q => ta σ H fun x H1 => tb σ H1 fun y H2 => r x y H2 Q
def rI (C : Int → Int → Prop) (g : Int → Int → V) : R2 := fun x y H Q => ∃ i j, x = .int i ∧ y = .int j ∧ C i j ∧ Q (g i j) H
def rI0 (g : Int → Int → V) : R2 := fun x y H Q => ∃ i j, x = .int i ∧ y = .int j ∧ Q (g i j) H
section
variable {X : Cx} {a b c : Expr} {ta tb tc : TE} {pos : Pos}
theorem binT (ha : PE X a ta) (hb : PE X b tb) {pins : List (Addr × Obj)} {s : Shared} {σ : St} {H : Hp} {R : V → V → Hp → Prop} (I : Inv X pins σ H s)
    (h : ta σ H fun x H1 => tb σ H1 fun y H2 => R x y H2) {Q : Value → Shared → Prop} {f : Value → Value → Sem Value}
    (hf : ∀ v u s2 x y H2, Inv X pins σ H2 s2 → RelV x v → RelV y u → R x y H2 → wpAny (model X.prog X.w) X.A (f v u) Q X.xe s2) :
    wpAny (model X.prog X.w) X.A (eval a X.env) (fun v s₁ => wpAny (model X.prog X.w) X.A (eval b X.env) (fun u s₂ => wpAny (model X.prog X.w) X.A (f v u) Q X.xe s₂) X.xe s₁) X.xe s := by
  refine thn (ha pins s σ H _ I h) fun v s1 ⟨x, H1, I1, r1, q1⟩ => ?_
  refine thn (hb pins s1 σ H1 _ I1 q1) fun u s2 ⟨y, H2, I2, r2, q2⟩ => ?_
  exact hf v u s2 x y H2 I2 r1 r2 q2
theorem pe_op {op : Operator} {r : R2} (ho : OpR X (binaryOp op) r) (ha : PE X a ta) (hb : PE X b tb) : PE X (.BinOp a op b pos) (tOp r ta tb) := by
  intro pins s σ H Q I h
  exact wpAny_BinOp (binT ha hb I h fun v u s2 x y H2 I2 rx ry q => ho pins s2 σ H2 x y v u Q I2 rx ry q)
theorem opI {f : Value → Value → Sem Value} {C : Int → Int → Prop} {g : Int → Int → Int}
    (rule : ∀ (i j : Int) (t u : Tok) (s : Shared) (Q : Value → Shared → Prop) (E : Value → Shared → Prop), C i j → Q (.int (g i j) s.toks) { s with toks := s.toks + 1 } → wpAny (model X.prog X.w) X.A (f (.int i t) (.int j u)) Q E s) :
    OpR X f (rI C fun i j => .int (g i j)) := by
  intro pins s σ H x y v u Q I rx ry h
  obtain ⟨i, j, rfl, rfl, hc, q⟩ := h
  obtain ⟨t, rfl⟩ := rx
  obtain ⟨t', rfl⟩ := ry
  exact rule i j t t' s _ _ hc ⟨.int (g i j), H, I.tok _, ⟨_, rfl⟩, q⟩
theorem opI0 {f : Value → Value → Sem Value} {g : Int → Int → Int}
    (rule : ∀ (i j : Int) (t u : Tok) (s : Shared) (Q : Value → Shared → Prop) (E : Value → Shared → Prop), Q (.int (g i j) s.toks) { s with toks := s.toks + 1 } → wpAny (model X.prog X.w) X.A (f (.int i t) (.int j u)) Q E s) :
    OpR X f (rI0 fun i j => .int (g i j)) := by
  intro pins s σ H x y v u Q I rx ry h
  obtain ⟨i, j, rfl, rfl, q⟩ := h
  obtain ⟨t, rfl⟩ := rx
  obtain ⟨t', rfl⟩ := ry
  exact rule i j t t' s _ _ ⟨.int (g i j), H, I.tok _, ⟨_, rfl⟩, q⟩
theorem opB0 {f : Value → Value → Sem Value} {g : Int → Int → Bool}
    (rule : ∀ (i j : Int) (t u : Tok) (s : Shared) (Q : Value → Shared → Prop) (E : Value → Shared → Prop), Q (.bool (g i j)) s → wpAny (model X.prog X.w) X.A (f (.int i t) (.int j u)) Q E s) :
    OpR X f (rI0 fun i j => .bl (g i j)) := by
  intro pins s σ H x y v u Q I rx ry h
  obtain ⟨i, j, rfl, rfl, q⟩ := h
  obtain ⟨t, rfl⟩ := rx
  obtain ⟨t', rfl⟩ := ry
  exact rule i j t t' s _ _ ⟨.bl (g i j), H, I, rfl, q⟩
def CDiv (i j : Int) : Prop := 0 < j ∧ j < 1073741824
def CMul (i j : Int) : Prop := (-(2 ^ 64) < i ∧ i < 2 ^ 64) ∨ (-(2 ^ 64) < j ∧ j < 2 ^ 64)
theorem CMul.ok {i j : Int} (h : CMul i j) : IntMulOk i j := by
  rcases h with ⟨h1, h2⟩ | ⟨h1, h2⟩
  · exact .of_left (intBits_le_64 h1 h2)
  · exact .of_right (intBits_le_64 h1 h2)
theorem op_add : OpR X (binaryOp .Add) (rI0 fun i j => .int (i + j)) := opI0 fun _ _ _ _ _ _ _ q => add_int q
theorem op_mul : OpR X (binaryOp .Mult) (rI CMul fun i j => .int (i * j)) := opI fun _ _ _ _ _ _ _ hc q => mul_int q hc.ok
theorem op_fdiv : OpR X (binaryOp .FloorDiv) (rI CDiv fun i j => .int (i / j)) := opI fun i j _ _ _ _ _ hc q => by
  have h1 : (0 : Int) < j := hc.1
  have h2 : j < 1073741824 := hc.2
  exact floordiv_int (by omega) (by rw [Int.fdiv_eq_ediv_of_nonneg i (by omega)]; exact q) (.inl (PyProof.noPylong_small (by omega)))
theorem op_mod : OpR X (binaryOp .Mod) (rI (fun _ j => 0 < j) fun i j => .int (i % j)) := opI fun i j _ _ _ _ _ hc q => by
  have h1 : (0 : Int) < j := hc
  exact mod_int' (by omega) (by rw [Int.fmod_eq_emod_of_nonneg i (by omega)]; exact q)
end
section
variable {X : Cx} {a b c : Expr} {ta tb tc : TE} {pos : Pos}
theorem op_lt : OpR X (compareOp .Lt) (rI0 fun i j => .bl (decide (i < j))) := opB0 fun _ _ _ _ _ _ _ q => lt_int q
theorem op_gt : OpR X (compareOp .Gt) (rI0 fun i j => .bl (decide (j < i))) := opB0 fun _ _ _ _ _ _ _ q => gt_int q
theorem nomark (b : Expr) {op : CmpOp} (h : op ≠ .In := by decide) (h2 : op ≠ .NotIn := by decide) : behindInMarks op b = false := by
  have e1 : (op == CmpOp.In) = false := by cases op <;> first | rfl | exact absurd rfl h
  have e2 : (op == CmpOp.NotIn) = false := by cases op <;> first | rfl | exact absurd rfl h2
  cases b <;> simp [behindInMarks, e1, e2]
def tTest (t : TE) : TT := fun σ H Q => t σ H fun x H' => ∃ k, x = .bl k ∧ Q k H'
theorem pt_cmpR {op : CmpOp} {r : R2} (ho : OpR X (compareOp op) r) (ha : PE X a ta) (hb : PE X b tb) (hm : behindInMarks op b = false) : PT X (.Compare a [op] [b] pos) (tTest (tOp r ta tb)) := by
  intro pins s σ H Q I h
  refine wpAny_isTrue_Compare1 (thn (ha pins s σ H _ I h) fun v s1 ⟨x, H1, I1, r1, q1⟩ => thn (hb pins s1 σ H1 _ I1 q1) fun u s2 ⟨y, H2, I2, r2, q2⟩ =>
    thn (ho pins s2 σ H2 x y v u _ I2 r1 r2 q2) fun c s3 ⟨z, H3, I3, r3, k, e, q3⟩ => ?_) hm
  subst e
  cases r3
  exact wpAny_truthy_bool ⟨H3, I3, q3⟩
theorem line63 : (sizeLine : Nat) < 2 ^ 63 := by rw [sizeLine_eq]; decide
theorem vals1 {x : V} {us : List Value} (r : Vals [x] us) : ∃ u, us = [u] ∧ RelV x u := by
  cases r with
  | cons r1 r2 => cases r2; exact ⟨_, rfl, r1⟩
end
end L2
namespace L2
open PySem PySem.Spec PyProof.Rows
structure ObjM (h : Heap) (x dx C : Addr) (mA : Str → Option Value) : Prop where
  obj : h.get? x = some (PySem.W.instObj C dx)
  ns : h.Ns1 dx mA
  ne : dx ≠ x
theorem lookIn_ns {h : Heap} {dx : Addr} {mA : Str → Option Value} (n : h.Ns1 dx mA) : ∃ od, h.get? dx = some od ∧ ∀ name, PySem.W.lookIn name od = some (mA name) := by
  obtain ⟨o, es, ep, ho, hd, hk, _, hm⟩ := n
  refine ⟨o, ho, fun name => ?_⟩
  have e := hm name
  unfold nsFind findBy at e
  rw [← Array.find?_toList] at e
  unfold PySem.W.lookIn
  rw [hd]
  dsimp only
  split
  · rename_i y q
    rw [q] at e
    exact congrArg some e
  · rename_i q
    rw [q] at e
    have a : es.toList.any (·.refKey) = false := by
      rw [List.any_eq_false]
      intro y hy
      obtain ⟨z, t, hkey⟩ := hk y (Array.mem_toList_iff.mp hy)
      simp [DictEntry.refKey, hkey]
    have a' : ¬ es.toList.any (·.refKey) = true := by rw [a]; exact Bool.false_ne_true
    rw [if_neg a']
    exact congrArg some e
theorem ObjM.look {h : Heap} {x dx C : Addr} {mA : Str → Option Value} (I : ObjM h x dx C mA) : ∃ od, PySem.W.InstAt h x (PySem.W.instObj C dx) C (some od) ∧ ∀ name, PySem.W.lookIn name od = some (mA name) :=
  let ⟨od, ho, hl⟩ := lookIn_ns I.ns
  ⟨od, ⟨I.obj, rfl, rfl, ho⟩, hl⟩
section
variable {prog : Program} {w : World} {A : Around} {E : Value → Shared → Prop} {s : Shared} {K : PySem.W.Frag} {x dx C f : Addr} {mA : Str → Option Value} {name : Str} {v : Value}
theorem get_map {expr : Bool} {Q : Value → Shared → Prop} (X : K.In s.heap) (I : ObjM s.heap x dx C mA) (hg : PySem.W.plainGet K C name = true) (hh : PySem.W.hasDictIn K C = true)
    (ha : PySem.W.findIn K (.ref C) name = some none) (hv : mA name = some v) (hv' : PySem.W.handedIn v = true) (h : Q v { s with toks := s.toks + 1 }) :
    wpAny (model prog w) A (getAttr (.ref x) name expr) Q E s := by
  obtain ⟨od, J, hl⟩ := I.look
  exact PySem.W.get_value X J (PySem.W.plainGet_of hg).1 (PySem.W.findObj_own hh ha rfl (by rw [hl, hv])) hv' h
theorem set_map {ns : List Str} {Q : Unit → Shared → Prop} (X : K.In s.heap) (I : ObjM s.heap x dx C mA)
    (hs : PySem.W.findIn K (.ref C) "__setattr__" = some (some (.builtin "object.__setattr__"))) (hp : PySem.W.plainOver K C = true) (ht : PySem.W.takerIn K C name = some none) (hh : PySem.W.hasDictIn K C = true)
    (hw : PySem.Within mA ns) (hsz : ns.length ≤ sizeLine)
    (h : ∀ h', ObjM h' x dx C (fun y => if y = name then some v else mA y) → Heap.SameBut dx s.heap h' → Q () { s with heap := h', toks := s.toks + 2 }) :
    wpAny (model prog w) A (setAttr (.ref x) name v) Q E s := by
  obtain ⟨od, J, hl⟩ := I.look
  refine PySem.W.set_plain X J hs (PySem.W.osa_open (s := { s with toks := s.toks + 1 }) (r := none) X J hp ht fun b => ?_)
  obtain ⟨cd, hc, hd'⟩ := PySem.W.any_some hh
  have hx : s.heap.get? x = some ⟨.ref C, some dx, .plain, #[]⟩ := I.obj
  refine wpAny_bind (wpAny_pure (wpAny_bind (wpAny_bind (wpAny_loadPart hx (wpAny_bind (PySem.W.Looks.here (s := { s with toks := s.toks + 1 }) (PySem.W.looks_clsIn X hc) ?_))))))
  rw [hd']
  refine wpAny_pure (a := some dx) (wpAny_bind (wpAny_pure (wpAny_bind ?_)))
  refine wpAny_nsSet1 (s := { s with toks := s.toks + 1 }) I.ns fun h' hn2 hs2 => ?_
  obtain ⟨oD, esD, epD, hoD, hdD, hcD⟩ := hn2.count (PySem.Within.cons name v hw)
  refine wpAny_bind (wpAny_lookBehind hoD (by rw [hdD]; exact pastItsLine_dict (Nat.le_trans hcD (by rw [List.length_cons]; omega))) ?_)
  exact wpAny_pure (h _ ⟨(hs2.2 _ (Ne.symm I.ne)).trans I.obj, hn2, I.ne⟩ hs2)
theorem make_map {R : Result → Shared → Prop} {vs : List Value} {kw : List (Str × Value)} (X : K.In s.heap) (hm : PySem.W.makesIn K C = true)
    (hi : PySem.W.findIn K (.ref C) "__init__" = some (some (.ref f))) (hf : PySem.W.typeIn K (.ref f) = some (.type "function"))
    (h : codeAny (model prog w) (A.under (.builtin "type.__call__" ⟨.ref C :: vs, kw⟩)) (.call (.ref f) ⟨.ref (s.heap.objs.size + 1) :: vs, kw⟩) (PySem.W.InitBack (s.heap.objs.size + 1) R)
      { s with heap := (s.heap.push PySem.W.emptyDict).push (PySem.W.instObj C s.heap.objs.size) }) :
    codeAny (model prog w) A (.call (.ref C) ⟨vs, kw⟩) R s := by
  obtain ⟨hh, g, d, t, os⟩ := s
  exact PySem.W.make_core (PySem.W.makes_of X hm) (PySem.W.looks_findIn X hi) (fun self => PySem.W.bind_fn X self hf) (.inl rfl) h
end
def putF (f : Str) (v : V) : List (Str × V) → List (Str × V)
  | [] => [(f, v)]
  | (g, x) :: r => if g = f then (g, v) :: r else (g, x) :: putF f v r
theorem lookup_putF (f g : Str) (v : V) : ∀ fs : List (Str × V), (putF f v fs).lookup g = if g = f then some v else fs.lookup g
  | [] => by
    show List.lookup g [(f, v)] = _
    by_cases h : g = f
    · have hb : (g == f) = true := beq_iff_eq.mpr h
      simp only [List.lookup, hb, if_pos h]
    · have hb : (g == f) = false := beq_eq_false_iff_ne.mpr h
      simp only [List.lookup, hb, if_neg h]
  | (k, x) :: r => by
    have ih := lookup_putF f g v r
    rw [show putF f v ((k, x) :: r) = (if k = f then (k, v) :: r else (k, x) :: putF f v r) from rfl]
    by_cases hk : k = f
    · rw [if_pos hk]
      by_cases h : g = k
      · have hb : (g == k) = true := beq_iff_eq.mpr h
        simp only [List.lookup, hb, if_pos (h.trans hk)]
      · have hb : (g == k) = false := beq_eq_false_iff_ne.mpr h
        simp only [List.lookup, hb, if_neg (fun e : g = f => h (e.trans hk.symm))]
    · rw [if_neg hk]
      by_cases h : g = k
      · have hb : (g == k) = true := beq_iff_eq.mpr h
        simp only [List.lookup, hb, if_neg (fun e : g = f => hk (h.symm.trans e))]
      · have hb : (g == k) = false := beq_eq_false_iff_ne.mpr h
        simp only [List.lookup, hb]
        exact ih
theorem keys_putF (f : Str) (v : V) : ∀ fs : List (Str × V), f ∈ (putF f v fs).map (·.1) ∧ ∀ g, g ∈ fs.map (·.1) → g ∈ (putF f v fs).map (·.1)
  | [] => ⟨by simp [putF], fun g h => by simp at h⟩
  | (k, x) :: r => by
    obtain ⟨i1, i2⟩ := keys_putF f v r
    rw [show putF f v ((k, x) :: r) = (if k = f then (k, v) :: r else (k, x) :: putF f v r) from rfl]
    by_cases hk : k = f
    · rw [if_pos hk]
      subst hk
      exact ⟨by simp, fun g h => by simpa using h⟩
    · rw [if_neg hk]
      refine ⟨?_, fun g h => ?_⟩
      · rw [List.map_cons]
        exact List.mem_cons_of_mem _ i1
      · rw [List.map_cons] at h ⊢
        rcases List.mem_cons.mp h with e | e
        · exact List.mem_cons.mpr (.inl e)
        · exact List.mem_cons_of_mem _ (i2 g e)
theorem length_putF (f : Str) (v : V) : ∀ fs : List (Str × V), (putF f v fs).length ≤ fs.length + 1
  | [] => by simp [putF]
  | (k, x) :: r => by
    have ih := length_putF f v r
    rw [show putF f v ((k, x) :: r) = (if k = f then (k, v) :: r else (k, x) :: putF f v r) from rfl]
    by_cases hk : k = f
    · rw [if_pos hk, List.length_cons, List.length_cons]; omega
    · rw [if_neg hk, List.length_cons, List.length_cons]; omega
theorem RelO.some_of {v : V} {o : Option Value} (r : RelO (some v) o) : ∃ u, o = some u ∧ RelV v u := by
  cases o with
  | none => exact (show False from r).elim
  | some u => exact ⟨u, rfl, r⟩
theorem handed_of {v : V} {u : Value} (r : RelV v u) : PySem.W.handedIn u = true := by
  cases v with
  | non => cases (show u = Value.none from r); rfl
  | bl b => cases (show u = Value.bool b from r); rfl
  | int i => obtain ⟨t, e⟩ := (show ∃ t, u = Value.int i t from r); cases e; rfl
  | str x => obtain ⟨t, e⟩ := (show ∃ t, u = Value.str x t from r); cases e; rfl
  | byt b => obtain ⟨t, e⟩ := (show ∃ t, u = Value.bytes b t from r); cases e; rfl
  | flt b => obtain ⟨t, e⟩ := (show ∃ t, u = Value.float b t from r); cases e; rfl
  | ref a => cases (show u = Value.ref a from r); rfl
  | ty n => cases (show u = Value.type n from r); rfl
section
variable {P : Program} {w : World} {H H' : Hp} {h h' : Heap} {a C dx : Addr} {fs fs' : List (Str × V)}
theorem ins_get (hok : HOk P w H h) (e : H a = some (.ins C dx fs)) : ∃ mA, ObjM h a dx C mA ∧ (∀ f, RelO (fs.lookup f) (mA f)) ∧ PySem.Within mA (fs.map (·.1)) ∧ fs.length ≤ 1000 ∧ H dx = some (.own a) := by
  obtain ⟨d, z, ne, ob, mA, n, r, q⟩ := (show ObjOk P w H h a (.ins C dx fs) from hok a _ e)
  exact ⟨mA, ⟨ob, n, ne⟩, r, q, z, d⟩
end
structure Cls (K : PySem.W.Frag) (C : Addr) : Prop where
  pg : PySem.W.plainGet K C Str.empty = true
  hd : PySem.W.hasDictIn K C = true
  po : PySem.W.plainOver K C = true
  sa : PySem.W.findIn K (.ref C) "__setattr__" = some (some (.builtin "object.__setattr__"))
theorem Cls.get {K : PySem.W.Frag} {C : Addr} (c : Cls K C) (f : Str) : PySem.W.plainGet K C f = true := c.pg
def NoAttr (K : PySem.W.Frag) (C : Addr) (f : Str) : Prop := PySem.W.findIn K (.ref C) f = some none
theorem NoAttr.taker {K : PySem.W.Frag} {C : Addr} {f : Str} (n : NoAttr K C f) : PySem.W.takerIn K C f = some none := by
  unfold PySem.W.takerIn
  rw [show PySem.W.findIn K (.ref C) f = some none from n]
  rfl
section
variable {X : Cx} {pins : List (Addr × Obj)} {σ : St} {H : Hp} {s : Shared} {a C dx : Addr} {fs : List (Str × V)} {f : Str} {v : V} {A : Around} {E : Value → Shared → Prop}
theorem getattr_ok {b : Bool} {Q : Value → Shared → Prop} (I : Inv X pins σ H s) (e : H a = some (.ins C dx fs)) (c : Cls X.K C) (n : NoAttr X.K C f) (l : fs.lookup f = some v)
    (h : ∀ u s', Inv X pins σ H s' → RelV v u → Q u s') : wpAny (model X.prog X.w) A (getAttr (.ref a) f b) Q E s := by
  obtain ⟨mA, O, r, _, _, _⟩ := ins_get I.hok e
  obtain ⟨u, hu, ru⟩ := RelO.some_of (v := v) (o := mA f) (by rw [← l]; exact r f)
  exact get_map I.kIn O (c.get f) c.hd n hu (handed_of ru) (h u _ (I.tok _) ru)
theorem setattr_ok {y : V} {u : Value} {Q : Unit → Shared → Prop} (I : Inv X pins σ H s) (e : H a = some (.ins C dx fs)) (c : Cls X.K C) (n : NoAttr X.K C f) (hl : fs.length < 1000) (ry : RelV y u)
    (h : ∀ s', Inv X pins σ (upd H a (.ins C dx (putF f y fs))) s' → Q () s') : wpAny (model X.prog X.w) A (setAttr (.ref a) f u) Q E s := by
  obtain ⟨mA, O, r, wi, _, ho⟩ := ins_get I.hok e
  have hz : (fs.map (·.1)).length ≤ sizeLine := by rw [List.length_map, sizeLine_eq]; omega
  refine set_map I.kIn O c.sa c.po n.taker c.hd wi hz fun h' O' sb => h _ ?_
  have hd : ∃ o, h'.get? dx = some o := let ⟨o, _, _, e', _⟩ := O'.ns; ⟨o, e'⟩
  refine I.write (x := a) (e := dx) (by rw [e]; exact True.intro) (.inr ho) (fun b q hb z => (sb.2 b hb).trans z) hd ?_
  refine ⟨by rw [upd_ne O.ne]; exact ho, ?_, O.ne, O'.obj, _, O'.ns, fun g => ?_, fun g hg => ?_⟩
  · have := length_putF f y fs; omega
  · show RelO ((putF f y fs).lookup g) (if g = f then some u else mA g)
    rw [lookup_putF]
    by_cases q : g = f
    · rw [if_pos q, if_pos q]; exact ry
    · rw [if_neg q, if_neg q]; exact r g
  · by_cases q : g = f
    · rw [q]; exact (keys_putF f y fs).1
    · refine (keys_putF f y fs).2 g (wi g fun z => hg ?_)
      show (if g = f then some u else mA g) = none
      rw [if_neg q]; exact z
theorem Inv.made (I : Inv X pins σ H s) : Inv X pins σ (upd (upd H s.heap.objs.size (.own (s.heap.objs.size + 1))) (s.heap.objs.size + 1) (.ins C s.heap.objs.size []))
    { s with heap := (s.heap.push PySem.W.emptyDict).push (PySem.W.instObj C s.heap.objs.size) } := by
  have e1 : (s.heap.push PySem.W.emptyDict).get? s.heap.objs.size = some PySem.W.emptyDict := Heap.get?_push_size s.heap rfl
  have e2 : ((s.heap.push PySem.W.emptyDict).push (PySem.W.instObj C s.heap.objs.size)).get? (s.heap.objs.size + 1) = some (PySem.W.instObj C s.heap.objs.size) := by
    have := Heap.get?_push_size (s.heap.push PySem.W.emptyDict) (o := PySem.W.instObj C s.heap.objs.size) rfl
    rwa [Heap.size_push] at this
  have e3 : (s.heap.push PySem.W.emptyDict).Ns s.heap.objs.size (fun _ => none) := ⟨PySem.W.emptyDict, #[], _, e1, rfl, (fun e he => absurd he (by simp)), fun _ => rfl⟩
  have I1 := I.laid (a := s.heap.objs.size) (o := .own (s.heap.objs.size + 1)) (h' := s.heap.push PySem.W.emptyDict) (t' := s.toks) (fun b u q => Heap.get?_push_of_some _ q) (Nat.le_refl _) ⟨_, e1⟩
  refine I1.laid (a := s.heap.objs.size + 1) (o := .ins C s.heap.objs.size []) (t' := s.toks) (fun b u q => Heap.get?_push_of_some _ q) (Nat.le_of_eq (Heap.size_push _ _)) ?_
  have ne : s.heap.objs.size ≠ s.heap.objs.size + 1 := Nat.ne_of_lt (Nat.lt_succ_self _)
  refine ⟨by rw [upd_ne ne, upd_same], Nat.zero_le _, ne, e2, fun _ => none, (Heap.Ns1.of_empty e3).at fun o q => Heap.get?_push_of_some _ q, fun _ => True.intro, fun y hy => absurd rfl hy⟩
theorem attr_of {prog : Program} {w : World} {env : Env} {e : Expr} {f : Str} {pos : Pos} {s : Shared} {Q : Value → Shared → Prop} (hb : attributeBase e f env (eval e env) = eval e env)
    (h : wpAny (model prog w) A (eval e env) (fun o s₁ => wpAny (model prog w) A (getAttr o f true) Q E s₁) E s) : wpAny (model prog w) A (eval (.Attribute e f pos) env) Q E s :=
  Attribute_any_ h (by rw [arm_eval_Attribute, hb])
end
def tFld (K : PySem.W.Frag) (ta : TE) (f : Str) : TE := fun σ H Q => ta σ H fun x H1 => ∃ a C dx fs v, x = .ref a ∧ H1 a = some (.ins C dx fs) ∧ Cls K C ∧ NoAttr K C f ∧ fs.lookup f = some v ∧ Q v H1
def sFld (K : PySem.W.Frag) (ta tv : TE) (f : Str) : TS := fun D σ H => tv σ H fun y H1 => ta σ H1 fun x H2 => ∃ a C dx fs, x = .ref a ∧ H2 a = some (.ins C dx fs) ∧ Cls K C ∧ NoAttr K C f ∧ fs.length < 1000 ∧
  D.nx σ (upd H2 a (.ins C dx (putF f y fs)))
section
variable {X : Cx} {o e value : Expr} {f : Str} {pos pos' tpos : Pos} {ta tv : TE}
theorem pe_fld (he : PE X e ta) (hb : attributeBase e f X.env (eval e X.env) = eval e X.env) : PE X (.Attribute e f pos) (tFld X.K ta f) := by
  intro pins s σ H Q I h
  refine attr_of hb (thn (he pins s σ H _ I h) fun u s1 ⟨x, H1, I1, rx, a, C, dx, fs, v, ex, ea, c, n, l, q⟩ => ?_)
  subst ex
  obtain rfl : u = Value.ref a := rx
  exact getattr_ok I1 ea c n l fun u' s2 I2 ru => ⟨v, H1, I2, ru, q⟩
theorem ps_fld (ha : PE X o ta) (hv : PE X value tv) (hs : swapsWith value (some (.Attribute o f pos')) pos.line X.env = pure false) : PS X (.Assign [.Attribute o f pos'] value pos) (sFld X.K ta tv f) := by
  intro pins s σ H D I h
  refine plainObj_wpAny_Assign_Attribute (thn (hv pins s σ H _ I h) fun u s1 ⟨y, H1, I1, ry, q⟩ => thn (ha pins s1 σ H1 _ I1 q) fun ov s2 ⟨x, H2, I2, rx, a, C, dx, fs, ex, ea, c, n, l, q2⟩ => ?_) hs
  subst ex
  obtain rfl : ov = Value.ref a := rx
  exact setattr_ok I2 ea c n l ry fun s3 I3 => ⟨σ, _, I3, q2⟩
end
section
variable {X : Cx} {pins : List (Addr × Obj)} {σ : St} {H : Hp} {s : Shared} {A : Around} {E : Value → Shared → Prop} {Q : Value → Shared → Prop} {c : Value} {b : Bool}
end
end L2
namespace L2
open PySem PySem.Spec PyProof.Rows
structure Room (k : Nat) (A : Around) : Prop where
  hd : A.handled = none
  dp : A.depth + 3 * k + 5 < recursionLimit
  un : A.units + 16 * k + 200 < cLine
theorem Room.mono {j k : Nat} {A : Around} (r : Room k A) (h : j ≤ k) : Room j A := ⟨r.hd, by have := r.dp; omega, by have := r.un; omega⟩
theorem Room.deeper {k : Nat} {A : Around} (r : Room (k + 1) A) (env : Env) : Room k (A.deeper env) :=
  ⟨r.hd, by have := r.dp; show A.depth + 1 + 3 * k + 5 < _; omega, by have := r.un; show A.units + 3 + 16 * k + 200 < _; omega⟩
theorem make_depth {A : Around} {C : Addr} {us : List Value} {kw : List (Str × Value)} : (A.under (.builtin "type.__call__" ⟨.ref C :: us, kw⟩)).depth = A.depth + 1 := by
  first | rfl | simp [Around.under, Code.weight, Code.isCreation, Code.isGuard, Code.isCaller, Code.frames, Code.isFrame, guardIds]
theorem make_units {A : Around} {C : Addr} {us : List Value} {kw : List (Str × Value)} : (A.under (.builtin "type.__call__" ⟨.ref C :: us, kw⟩)).units = A.units + 1 := by
  first | rfl | simp [Around.under, Code.cUnits, Code.frames, Code.isFrame]
theorem Room.make {k : Nat} {A : Around} (r : Room (k + 1) A) (C : Addr) (us : List Value) (kw : List (Str × Value)) : Room k (A.under (.builtin "type.__call__" ⟨.ref C :: us, kw⟩)) :=
  ⟨r.hd, by have := r.dp; rw [make_depth]; omega, by have := r.un; rw [make_units]; omega⟩
theorem Room.depth {k : Nat} {A : Around} (r : Room k A) : A.depth < recursionLimit := by have := r.dp; omega
def tNil : TA := fun _ H Q => Q [] H
def tCons (ta : TE) (tr : TA) : TA := fun σ H Q => ta σ H fun x H1 => tr σ H1 fun xs H2 => Q (x :: xs) H2
section
variable {X : Cx} {e : Expr} {es : List Expr} {te : TE} {t : TA} {pos : Pos}
theorem pa_nil : PA X [] tNil := fun _ _ _ _ H Q I h => Calls.spliced_nil ⟨[], H, I, .nil, h⟩
theorem pa_cons (ha : PE X e te) (hr : PA X es t) (hs : starEach (e :: es) X.env = (false, eval e X.env) :: starEach es X.env := by rfl) : PA X (e :: es) (tCons te t) := by
  intro pos pins s σ H Q I h
  rw [hs]
  show wpAny _ _ (spliced ((false, eval e X.env) :: backTo pos (starEach es X.env))) _ _ s
  refine Calls.spliced_cons (thn (ha pins s σ H _ I h) fun u s1 ⟨x, H1, I1, r1, q1⟩ => ?_)
  exact thn (hr pos pins s1 σ H1 _ I1 q1) fun us s2 ⟨xs, H2, I2, r2, q2⟩ => ⟨x :: xs, H2, I2, .cons r1 r2, q2⟩
def tLst (t : TA) : TE := fun σ H Q => t σ H fun xs H1 => xs.length ≤ sizeLine ∧ ∀ p, H1 p = none → Q (.ref p) (upd H1 p (.lst xs))
theorem pe_lst (h : PA X es t) : PE X (.List es pos) (tLst t) := by
  intro pins s σ H Q I hq
  refine wpAny_List_spliced (thn (h pos pins s σ H _ I hq) fun us s1 ⟨xs, H1, I1, r, z, q⟩ => ⟨by rw [← r.length]; exact z, ?_⟩)
  have hf : H1 s1.heap.objs.size = none := I1.hok.fresh (Nat.le_refl _)
  refine ⟨.ref s1.heap.objs.size, upd H1 s1.heap.objs.size (.lst xs), I1.laid (t' := s1.toks) (fun b u e => Heap.get?_push_of_some _ e) (Nat.le_refl _) ?_, rfl, q _ hf⟩
  exact ⟨z, us, 0, r, Heap.get?_push_size _ rfl⟩
end
abbrev Sp := List V → Hp → VK → XK → Prop
abbrev CXT := List Env → Hp → Shared → XK → Value → Shared → Prop
structure Env0 (P : Program) (w : World) (K : PySem.W.Frag) (mg : Str → Option Value) (base : Heap) (A : Around) (outer : List Env) (s : Shared) (H : Hp) : Prop where
  frames : A.frames = some outer
  mod : Mod K mg base
  bs : ∀ b o, base.get? b = some o → s.heap.get? b = some o ∧ H b = none
  bsz : base.objs.size ≤ s.heap.objs.size
  funs : s.heap.FunFrames base outer
  frf : ∀ b ∈ frs outer, H b = none
  hok : HOk P w H s.heap
  bare : AllBare s.gens
def CE (outer : List Env) (P : Program) (w : World) (H : Hp) (s : Shared) (Q : VK) (u : Value) (s' : Shared) : Prop :=
  ∃ v H', s'.os = s.os ∧ AllBare s'.gens ∧ Un (frs outer) [] H H' s.heap s'.heap ∧ HOk P w H' s'.heap ∧ RelV v u ∧ Q v H'
def CR (CX : CXT) (outer : List Env) (P : Program) (w : World) (H : Hp) (s : Shared) (Q : VK) (E : XK) (r : Result) (s' : Shared) : Prop :=
  match r with
  | .ok (.ret u) => CE outer P w H s Q u s'
  | .ok _ => False
  | .error e => CX outer H s E e s'
structure FnOk (P : Program) (w : World) (K : PySem.W.Frag) (mg : Str → Option Value) (base : Heap) (CX : CXT) (k : Nat) (f : Addr) (fd : FuncData) (ps : List Str) (sp : Sp) : Prop where
  len : ∀ vs H Q E, sp vs H Q E → vs.length = ps.length
  run : ∀ (A : Around) (outer : List Env) (s : Shared) (H : Hp) (args : Args) (us : List Value) (vs : List V) (Q : VK) (E : XK), Room k A → Env0 P w K mg base A outer s H → BindsTo s fd args (ps.zip us) → Vals vs us → sp vs H Q E →
    codeAny (model P w) A (.call (.ref f) args) (CR CX outer P w H s Q E) s
theorem Env0.make {P : Program} {w : World} {K : PySem.W.Frag} {mg : Str → Option Value} {base : Heap} {A : Around} {outer : List Env} {s : Shared} {H : Hp} (e : Env0 P w K mg base A outer s H) (C : Addr) (us : List Value) (kw : List (Str × Value)) :
    Env0 P w K mg base (A.under (.builtin "type.__call__" ⟨.ref C :: us, kw⟩)) outer s H := ⟨by first | exact e.frames | (simpa [Around.under, Code.envs, Code.isFrame, pushEnvs] using e.frames), e.mod, e.bs, e.bsz, e.funs, e.frf, e.hok, e.bare⟩
section
variable {X : Cx} {pins : List (Addr × Obj)} {σ : St} {H : Hp} {s s' : Shared}
theorem Inv.env0 (I : Inv X pins σ H s) : Env0 X.prog X.w X.K X.mg X.base X.A X.stack s H :=
  ⟨I.ok.frames, I.ok.mod, I.bs, Nat.le_trans I.ok.bsz I.sz, I.stack, I.stkFree, I.hok, I.bare⟩
theorem Inv.after {Q : VK} {u : Value} (I : Inv X pins σ H s) (h : CE X.stack X.prog X.w H s Q u s') : EP X pins σ Q u s' := by
  obtain ⟨v, H', os, bare, un, hok, r, q⟩ := h
  obtain ⟨hh, g, d, t, os'⟩ := s'
  obtain rfl : os' = s.os := os
  exact ⟨v, H', I.call (h' := hh) (g' := g) (d' := d) (t' := t) (ch := []) un hok bare (fun b z => absurd z (by simp)), r, q⟩
end
def Binds (K : PySem.W.Frag) (fd : FuncData) (ps : List Str) (ds : List Value) : Prop :=
  ∀ (s : Shared) (us : List Value), K.In s.heap → (us ++ ds).length = ps.length → BindsTo s fd ⟨us, []⟩ (ps.zip (us ++ ds))
theorem Binds.all {K : PySem.W.Frag} {fd : FuncData} {ps : List Str} (h : ∀ us : List Value, us.length = ps.length → bindArgs fd ⟨us, []⟩ = pure (ps.zip us)) : Binds K fd ps [] := fun s us _ hl => by
  rw [List.append_nil] at hl ⊢
  exact .of_eq (h us hl)
def Passes (CX : CXT) (X : Cx) (E : XK) : Prop := ∀ (pins : List (Addr × Obj)) (σ : St) (H : Hp) (s : Shared) (e : Value) (s' : Shared), Inv X pins σ H s → CX X.stack H s E e s' → X.xe e s'
section
variable {X : Cx} {CX : CXT} {k : Nat} {f C : Addr} {fd : FuncData} {ps : List Str} {sp : Sp} {dvs : List V} {ds : List Value} {E : XK} {x m : Str} {p pos apos : Pos} {e o : Expr} {es : List Expr} {ta : TE} {t : TA}
theorem run_fn {pins : List (Addr × Obj)} {σ : St} {H : Hp} {s : Shared} {Q : VK} {us : List Value} {vs : List V} (F : FnOk X.prog X.w X.K X.mg X.base CX k f fd ps sp) (hr : Room k X.A) (hb : Binds X.K fd ps ds) (hd : Vals dvs ds) (hx : Passes CX X E)
    (I : Inv X pins σ H s) (r : Vals vs us) (h : sp (vs ++ dvs) H Q E) : wpAny (model X.prog X.w) X.A (call (.ref f) us) (EP X pins σ Q) X.xe s := by
  have r2 : Vals (vs ++ dvs) (us ++ ds) := r.append hd
  have hl : (us ++ ds).length = ps.length := by rw [← r2.length]; exact F.len _ _ _ _ h
  refine wpAny_call (codeAny_mono (F.run X.A X.stack s H ⟨us, []⟩ (us ++ ds) (vs ++ dvs) Q E hr I.env0 (hb s us I.kIn hl) r2 h) fun r s' hq => ?_)
  cases r with
  | error e => exact hx pins σ H s e s' I hq
  | ok fl =>
    cases fl with
    | ret u => exact I.after hq
    | next => exact False.elim hq
    | brk => exact False.elim hq
    | cont => exact False.elim hq
structure Mk (K : PySem.W.Frag) (C f : Addr) : Prop where
  makes : PySem.W.makesIn K C = true
  init : PySem.W.findIn K (.ref C) "__init__" = some (some (.ref f))
  fn : PySem.W.isFn K (.ref f) = true
  kp : PySem.W.keepIn K (.ref C) = true
theorem run_make {pins : List (Addr × Obj)} {σ : St} {H : Hp} {s : Shared} {Q : VK} {us : List Value} {vs : List V} (M : Mk X.K C f) (F : FnOk X.prog X.w X.K X.mg X.base CX k f fd ps sp) (hr : Room (k + 1) X.A) (hb : Binds X.K fd ps ds) (hd : Vals dvs ds)
    (hx : Passes CX X E) (I : Inv X pins σ H s) (r : Vals vs us)
    (h : ∀ x dx, H x = none → H dx = none → dx ≠ x → sp (.ref x :: (vs ++ dvs)) (upd (upd H dx (.own x)) x (.ins C dx [])) (fun v H2 => v = .non ∧ Q (.ref x) H2) E) :
    wpAny (model X.prog X.w) X.A (call (.ref C) us) (EP X pins σ Q) X.xe s := by
  have hq := h (s.heap.objs.size + 1) s.heap.objs.size (I.hok.fresh (Nat.le_succ _)) (I.hok.fresh (Nat.le_refl _)) (Nat.ne_of_lt (Nat.lt_succ_self _))
  have I2 := Inv.made (C := C) I
  have r2 : Vals (V.ref (s.heap.objs.size + 1) :: (vs ++ dvs)) (Value.ref (s.heap.objs.size + 1) :: (us ++ ds)) := .cons rfl (r.append hd)
  have hl : (Value.ref (s.heap.objs.size + 1) :: us ++ ds).length = ps.length := by
    have e := r2.length
    rw [F.len _ _ _ _ hq] at e
    exact e.symm
  refine wpAny_call (make_map (f := f) I.kIn M.makes M.init (beq_iff_eq.mp M.fn) (codeAny_mono (F.run _ X.stack _ _ ⟨Value.ref (s.heap.objs.size + 1) :: us, []⟩ (Value.ref (s.heap.objs.size + 1) :: (us ++ ds)) _ _ E (hr.make C us [])
    (I2.env0.make C us []) (hb _ (Value.ref (s.heap.objs.size + 1) :: us) I2.kIn hl) r2 hq) fun r s' hq' => ?_))
  cases r with
  | error e => exact hx pins σ _ _ e s' I2 hq'
  | ok fl =>
    cases fl with
    | ret u =>
      obtain ⟨v, H', I3, rv, ev, q3⟩ := I2.after hq'
      subst ev
      exact ⟨rv, ⟨V.ref (s.heap.objs.size + 1), H', I3, rfl, q3⟩⟩
    | next => exact False.elim hq'
    | brk => exact False.elim hq'
    | cont => exact False.elim hq'
end
section
variable {X : Cx} {CX : CXT} {k : Nat} {f C : Addr} {fd : FuncData} {ps ks : List Str} {sp : Sp} {E : XK} {x m : Str} {p pos apos kpos : Pos} {e o : Expr} {es : List Expr} {kws : List Keyword} {te ta : TE} {t tk : TA} {nm : Option Str}
variable {g : List Value → List Value → List Value} {gV : List V → List V → List V}
end
structure FnScope (N P : List Str) (sc : Scope) : Prop where
  kind : sc.kind = .function
  co : sc.isCoroutine = false
  gen : sc.isGenerator = false
  nd : N.Nodup
  pre : N.take P.length = P
  par : ∀ x ∈ P, sc.names.lookup x = some .local ∨ sc.names.lookup x = some .cell
  nofree : ∀ y ∈ sc.names, y.2 ≠ .free
theorem bindL_out {kindOf : Str → Option NameKind} {x : Str} : ∀ {binds : List (Str × Value)} {m : Str → Option Value}, (∀ v, (x, v) ∉ binds) → bindL kindOf binds m x = m x
  | [], _, _ => rfl
  | (n, v) :: r, m, h => by
    unfold bindL
    rw [bindL_out fun w hw => h w (List.mem_cons_of_mem _ hw)]
    split
    · have : x ≠ n := by rintro rfl; exact h v List.mem_cons_self
      simp [this]
    · rfl
theorem bindC_out {kindOf : Str → Option NameKind} {x : Str} : ∀ {binds : List (Str × Value)} {m : Str → Option Value}, (∀ v, (x, v) ∉ binds) → bindC kindOf binds m x = m x
  | [], _, _ => rfl
  | (n, v) :: r, m, h => by
    unfold bindC
    rw [bindC_out fun w hw => h w (List.mem_cons_of_mem _ hw)]
    split
    · rfl
    · have : x ≠ n := by rintro rfl; exact h v List.mem_cons_self
      simp [this]
theorem bindL_get {kindOf : Str → Option NameKind} {x : Str} {v : Value} : ∀ {P : List Str} {vs : List Value} {i : Nat} {m : Str → Option Value}, P.Nodup → P[i]? = some x → vs[i]? = some v → kindOf x = some .local →
    bindL kindOf (P.zip vs) m x = some v
  | [], _, _, _, _, h, _, _ => by simp at h
  | _ :: _, [], _, _, _, _, h, _ => by simp at h
  | p :: P, w :: vs, 0, m, nd, h1, h2, hk => by
    simp at h1 h2; subst h1; subst h2
    show bindL kindOf ((p, w) :: P.zip vs) m p = _
    unfold bindL
    rw [bindL_out fun v hv => (List.nodup_cons.mp nd).1 (List.of_mem_zip hv).1, if_pos hk]
    simp
  | p :: P, w :: vs, i + 1, m, nd, h1, h2, hk => by
    show bindL kindOf ((p, w) :: P.zip vs) m x = _
    unfold bindL
    exact bindL_get (i := i) (List.nodup_cons.mp nd).2 (by simpa using h1) (by simpa using h2) hk
theorem bindC_get {kindOf : Str → Option NameKind} {x : Str} {v : Value} : ∀ {P : List Str} {vs : List Value} {i : Nat} {m : Str → Option Value}, P.Nodup → P[i]? = some x → vs[i]? = some v → kindOf x ≠ some .local →
    bindC kindOf (P.zip vs) m x = some v
  | [], _, _, _, _, h, _, _ => by simp at h
  | _ :: _, [], _, _, _, _, h, _ => by simp at h
  | p :: P, w :: vs, 0, m, nd, h1, h2, hk => by
    simp at h1 h2; subst h1; subst h2
    show bindC kindOf ((p, w) :: P.zip vs) m p = _
    unfold bindC
    rw [bindC_out fun v hv => (List.nodup_cons.mp nd).1 (List.of_mem_zip hv).1, if_neg hk]
    simp
  | p :: P, w :: vs, i + 1, m, nd, h1, h2, hk => by
    show bindC kindOf ((p, w) :: P.zip vs) m x = _
    unfold bindC
    exact bindC_get (i := i) (List.nodup_cons.mp nd).2 (by simpa using h1) (by simpa using h2) hk
def start (N : List Str) (vs : List V) : St := vs.map some ++ List.replicate (N.length - vs.length) none
def cxOf (CX : CXT) (P : Program) (w : World) (K : PySem.W.Frag) (mg : Str → Option Value) (base : Heap) (N : List Str) (qual : Str) (scope : Scope) (f : Addr) (cd : Value) (A : Around) (outer : List Env) (s : Shared) (H : Hp) (E : XK) : Cx where
  prog := P
  w := w
  K := K
  mg := mg
  base := base
  A := A.deeper (envOfC qual scope s.heap.objs.size f cd)
  N := N
  s_0 := s
  H_0 := H
  env := envOfC qual scope s.heap.objs.size f cd
  outer := outer
  stack := envOfC qual scope s.heap.objs.size f cd :: outer
  ex := []
  calm := true
  fn := fun _ => true
  pn := []
  xe := fun e s' => wpAny (model P w) (A.deeper (envOfC qual scope s.heap.objs.size f cd)) (leaving (envOfC qual scope s.heap.objs.size f cd) e) (fun _ s'' => CX outer H s E e s'') (fun e' s'' => CX outer H s E e' s'') s'
theorem cell_has {sc : Scope} {n : Nat} {x : Str} (h : sc.names.lookup x = some .cell) : ∃ c, (cellsFrom n sc.names []).lookup x = some c := by
  have q := PySem.W.cellsFrom_some sc.names n [] (.inl h)
  exact Option.isSome_iff_exists.mp q
theorem inv_start {CX : CXT} {P : Program} {w : World} {K : PySem.W.Frag} {mg : Str → Option Value} {base : Heap} {N ps : List Str} {qual : Str} {scope : Scope} {f : Addr} {cd : Value} {A : Around} {outer : List Env} {s s1 : Shared} {H : Hp} {E : XK} {us : List Value} {vs : List V}
    (S : FnScope N ps scope) (hd : A.handled = none) (e0 : Env0 P w K mg base A outer s H) (hl : vs.length = ps.length) (r : Vals vs us)
    (x : InCallC s s.heap.objs.size (bindL (envOfC qual scope s.heap.objs.size f cd).kindOf (ps.zip us) fun _ => none) (cellsFrom (s.heap.objs.size + 1) scope.names []) (bindC (envOfC qual scope s.heap.objs.size f cd).kindOf (ps.zip us) fun _ => none) s1) :
    Inv (cxOf CX P w K mg base N qual scope f cd A outer s H E) [] (start N vs) H s1 := by
  have hpl : ps.length ≤ N.length := by have := congrArg List.length S.pre; rw [List.length_take] at this; omega
  obtain ⟨h1, tk, rfl, hk⟩ := x.done
  have noA : ∀ b : Addr, b ∉ (cxOf CX P w K mg base N qual scope f cd A outer s H E).ex := fun b z => absurd (show b ∈ ([] : List Addr) from z) (by simp)
  refine ⟨⟨e0.mod, S.kind, rfl, rfl, Nat.le_refl _, fun y z c h1 h2 => ?_, fun y hy => ?_, fun y c _ h => ?_, fun _ => hd, Around.frames_deeper e0.frames, .inr ⟨rfl, rfl⟩, fun b z => absurd z (noA b), e0.bs, e0.bsz, fun b _ _ => noA b, fun b z => absurd z (noA b), e0.funs, e0.frf⟩,
    rfl, e0.bare, Un.kept hk, ⟨_, x.toInCall.ns, fun i y v h1 h2 h3 => ?_⟩, fun y c h => ⟨_, x.cell y c h⟩, e0.hok.fresh (Nat.le_refl _), fun y c h => ?_, fun p hp => absurd (show p ∈ ([] : List (Addr × Obj)) from hp) (by simp), e0.hok.kept hk, ?_⟩
  · exact name_of_addr x.apart (PySem.mem_of_lookup h1) (PySem.mem_of_lookup h2)
  · have hy : scope.names.lookup y = some .cell ∨ scope.names.lookup y = some .free := hy
    rcases hy with hy | hy
    · exact cell_has hy
    · exact absurd rfl (S.nofree _ (PySem.mem_of_lookup hy))
  · exact Nat.le_of_lt (x.above y c (PySem.mem_of_lookup h))
  · have hi : i < vs.length := by
      unfold start at h2
      by_cases hi : i < vs.length
      · exact hi
      · rw [List.getElem?_append_right (by simpa using hi)] at h2
        rw [List.getElem?_replicate] at h2
        split at h2 <;> cases h2
    have ha : vs[i]? = some v := by
      unfold start at h2
      rw [List.getElem?_append_left (by simpa using hi), List.getElem?_map] at h2
      cases e : vs[i]? with
      | none => rw [e] at h2; cases h2
      | some a => rw [e] at h2; cases h2; rfl
    obtain ⟨u, hu, rv⟩ := r.get ha
    have hp : ps[i]? = some y := by
      rw [← S.pre, List.getElem?_take_of_lt (by omega)]; exact h1
    have ndP : ps.Nodup := by rw [← S.pre]; exact S.nd.sublist (List.take_sublist _ _)
    refine ⟨u, rv, ?_⟩
    rcases S.par y (List.mem_of_getElem? hp) with k | k
    · exact .inl ⟨k, bindL_get ndP hp hu k⟩
    · obtain ⟨c, e⟩ := cell_has (n := s.heap.objs.size + 1) k
      refine .inr ⟨.inl k, c, e, ?_⟩
      have q := x.cell y c e
      rw [bindC_get ndP hp hu (by show scope.names.lookup y ≠ _; rw [k]; decide)] at q
      exact q
  · exact e0.hok.fresh (Nat.le_of_lt (x.above y c (PySem.mem_of_lookup h)))
  · unfold start
    show _ = N.length
    rw [List.length_append, List.length_map, List.length_replicate]
    omega
theorem fn_of {CX : CXT} {P : Program} {w : World} {K : PySem.W.Frag} {mg : Str → Option Value} {base : Heap} {k : Nat} {f : Addr} {name qual : Str} {params : Arguments} {body : List Stmt} {scope : Scope} {dV kV doc pm cdv ct oc : Value} {an od : Option Addr}
    {osl : Array (Option Value)} {N ps : List Str} {sp : Sp} (lk : K.lookup f = some ⟨oc, od, .func (PySem.W.fnOf name qual params body scope dV kV doc pm an cdv ct), osl⟩) (hcd : PySem.W.codeIn K cdv qual = true) (S : FnScope N ps scope)
    (len : ∀ vs H Q E, sp vs H Q E → vs.length = ps.length)
    (hbody : ∀ (A : Around) (outer : List Env) (s : Shared) (H : Hp) (vs : List V) (Q : VK) (E : XK), Room k (A.deeper (envOfC qual scope s.heap.objs.size f cdv)) → sp vs H Q E →
      ∃ t, PSs (cxOf CX P w K mg base N qual scope f cdv A outer s H E) body t ∧ t { nx := fun _ H' => Q .non H', rt := Q } (start N vs) H) :
    FnOk P w K mg base CX (k + 1) f (PySem.W.fnOf name qual params body scope dV kV doc pm an cdv ct) ps sp := by
  refine ⟨len, fun A outer s H args us vs Q E hr e0 hb r hsp => ?_⟩
  have hl := len _ _ _ _ hsp
  have KX : K.In s.heap := e0.mod.kin.keeps fun b o e => (e0.bs b o e).1
  have lim : s.heap.NoLimit := e0.mod.nolimit.keeps fun b o e => (e0.bs b o e).1
  have hkind : ∀ y ∈ ps.zip us, scope.names.lookup y.1 = some .local ∨ (scope.names.lookup y.1 = some .cell ∧ ((cellsFrom (s.heap.objs.size + 1) scope.names []).lookup y.1).isSome = true) := fun ⟨n, v⟩ hy => by
    rcases S.par n (List.of_mem_zip hy).1 with q | q
    · exact .inl q
    · exact .inr ⟨q, PySem.W.cellsFrom_some _ _ _ (.inl q)⟩
  refine codeAny_call_function hr.depth (KX _ _ lk) rfl S.co S.gen rfl (PySem.W.codeRec_of KX hcd) (hb _ _ _ _ ?_)
  refine wpAny_newFunctionEnv_cells S.kind hkind fun env he s1 x => ?_
  subst he
  refine ⟨lim.keeps x.toInCall.keep, codeAny_func ?_⟩
  obtain ⟨t, ht, hq⟩ := hbody A outer s H vs Q E (hr.deeper _) hsp
  have I : Inv (cxOf CX P w K mg base N qual scope f cdv A outer s H E) [] (start N vs) H s1 := inv_start S hr.hd e0 hl r x
  refine wpAny_mono (ht [] s1 (start N vs) H _ I hq) (fun fl s' hs => ?_) fun e s' hs => hs
  have fin : ∀ {σ' : St} {H' : Hp} {v : V} {u : Value}, Inv (cxOf CX P w K mg base N qual scope f cdv A outer s H E) [] σ' H' s' → RelV v u → Q v H' → CE outer P w H s Q u s' :=
    fun {σ' H' v u} J rv q => ⟨v, H', J.os, J.bare, J.base, J.hok, rv, q⟩
  cases fl with
  | ret u =>
    obtain ⟨v, σ', H', J, rv, q⟩ := hs
    exact fin J rv q
  | next =>
    obtain ⟨σ', H', J, q⟩ := hs
    exact fin (v := V.non) (u := Value.none) J rfl q
  | brk =>
    obtain ⟨_, _, _, q⟩ := hs
    exact False.elim q
  | cont =>
    obtain ⟨_, _, _, q⟩ := hs
    exact False.elim q
end L2
namespace L2
open PySem PySem.Spec PyProof.Rows
section
variable {X : Cx} {x : Str} {p pos : Pos} {e : Expr} {es : List Expr} {t : TA} {id T : String} {r : List V → Hp → VK → Prop}
def tCB (r : List V → Hp → VK → Prop) (t : TA) : TE := fun σ H Q => t σ H fun vs H1 => r vs H1 Q
theorem pe_callB (hc : CallR X (.builtin id) r) (hg : Gl X x) (hm : X.mg x = none) (hv : bootBuiltins x = some (.builtin id)) (ha : PA X (e :: es) t) (hn : x ≠ "__name__" := by decide) (hdb : (x == ("__debug__" : Str)) = false := by decide)
    (he : starEach (e :: es) X.env = (false, eval e X.env) :: starEach es X.env := by rfl) (hpl : (backTo pos (starEach es X.env)).any (·.1) = false := by rfl) : PE X (.Call (.Name x p) (e :: es) [] pos) (tCB r t) := by
  intro pins s σ H Q I h
  refine wpAny_Call_Name_kw (ld_blt I hg hm hv ?_ hn hdb)
  exact PyProof.Rows.callWith_builtin1 (thn (ha pos pins s σ H _ I h) fun us s1 ⟨vs, H1, I1, r1, q1⟩ => hc pins s1 σ H1 vs us Q I1 r1 q1) he hpl
theorem pe_callTy (hc : CallR X (.type T) r) (hg : Gl X x) (hm : X.mg x = none) (hv : bootBuiltins x = some (.type T)) (ha : PA X (e :: es) t) (hn : x ≠ "__name__" := by decide) (hdb : (x == ("__debug__" : Str)) = false := by decide)
    (he : starEach (e :: es) X.env = (false, eval e X.env) :: starEach es X.env := by rfl) (hpl : (backTo pos (starEach es X.env)).any (·.1) = false := by rfl) : PE X (.Call (.Name x p) (e :: es) [] pos) (tCB r t) := by
  intro pins s σ H Q I h
  refine wpAny_Call_Name_kw (ld_blt I hg hm hv ?_ hn hdb)
  exact PyProof.Rows.callWith_type1 (thn (ha pos pins s σ H _ I h) fun us s1 ⟨vs, H1, I1, r1, q1⟩ => hc pins s1 σ H1 vs us Q I1 r1 q1) he hpl
end
end L2
namespace HT
open PySem PyProof.Rows
section
open PySem.SeqAt
open PySem.AutoSeq1 (wpAny_loadPart')
open PySem.MeetsSeq PySem.MeetsSeq2 PySem.MeetsSeq3
end
section
variable {prog : Program} {w : World} {A : Around} {E : Value → Shared → Prop} {s : Shared}
def sIx (n d : Nat) : Option Int → Nat
  | none => d
  | some v => if v < 0 then (v + (n : Int)).toNat else min v.toNat n
theorem sIx_nat (n d k : Nat) : sIx n d (some (k : Int)) = min k n := by
  show (if (k : Int) < 0 then ((k : Int) + (n : Int)).toNat else min (k : Int).toNat n) = min k n
  rw [if_neg (by omega), Int.toNat_natCast]
end
end HT
namespace L2
open PySem PySem.Spec PyProof.Rows
abbrev TO := St → Hp → (Option Int → Hp → Prop) → Prop
def PO (X : Cx) (e : Option Expr) (t : TO) : Prop :=
  ∀ (pins : List (Addr × Obj)) (s : Shared) (σ : St) (H : Hp) (Q : Option Int → Hp → Prop), Inv X pins σ H s → t σ H Q →
    wpAny (model X.prog X.w) X.A (evalPart e X.env) (fun u s' => ∃ o H', Inv X pins σ H' s' ∧ IsPart u o ∧ Q o H') X.xe s
def tPart (t : TE) : TO := fun σ H Q => t σ H fun x H1 => ∃ i, x = .int i ∧ Q (some i) H1
section
variable {X : Cx} {e : Expr} {te : TE} {lo hi : Option Expr} {tl th : TO} {pos p2 : Pos}
theorem po_some (h : PE X e te) : PO X (some e) (tPart te) := by
  intro pins s σ H Q I hw
  rw [evalPart_some]
  refine thn (h pins s σ H _ I hw) fun u s1 ⟨x, H1, I1, r1, q1⟩ => ?_
  obtain ⟨i, rfl, q⟩ := q1
  obtain ⟨t, rfl⟩ := r1
  exact ⟨some i, H1, I1, .int i t, q⟩
def SlR (X : Cx) (r : V → Option Int → Option Int → Hp → VK → Prop) : Prop :=
  ∀ (pins : List (Addr × Obj)) (s : Shared) (σ : St) (H : Hp) (x : V) (v vl vu : Value) (lo hi : Option Int) (sl : Addr) (Q : VK), Inv X pins σ H s → RelV x v → s.heap.IsSliceOf sl vl vu .none → IsPart vl lo → IsPart vu hi → r x lo hi H Q →
    ∃ T id, typeLookup (.type T) "__getitem__" = pure (some (.builtin id)) ∧ s.TypeIs v T ∧ wpAny (model X.prog X.w) X.A (getItem v (.ref sl)) (EP X pins σ Q) X.xe s
def tSl (r : V → Option Int → Option Int → Hp → VK → Prop) (te : TE) (tl th : TO) : TE := fun σ H Q => te σ H fun x H1 => tl σ H1 fun l H2 => th σ H2 fun u H3 => r x l u H3 Q
theorem pe_slice {r : V → Option Int → Option Int → Hp → VK → Prop} (hr : SlR X r) (he : PE X e te) (hl : PO X lo tl) (hu : PO X hi th) : PE X (.Subscript e (.Slice lo hi none p2) pos) (tSl r te tl th) := by
  intro pins s σ H Q I h
  refine Subscript_ (thn (he pins s σ H _ I h) fun v s1 ⟨x, H1, I1, r1, q1⟩ => ?_)
  refine wpAny_Slice (thn (hl pins s1 σ H1 _ I1 q1) fun vl s2 ⟨l, H2, I2, pl, q2⟩ => thn (hu pins s2 σ H2 _ I2 q2) fun vu s3 ⟨u, H3, I3, pu, q3⟩ => ?_)
  rw [evalPart_none]
  refine wpAny_pure ?_
  have I4 : Inv X pins σ H3 { s3 with heap := s3.heap.push { cls := .type "slice", data := .fields #[vl, vu, .none] } } := I3.kept (t' := s3.toks) fun b ob q => Heap.get?_push_of_some _ q
  obtain ⟨T, id, hT, ht, hg⟩ := hr pins { s3 with heap := s3.heap.push { cls := .type "slice", data := .fields #[vl, vu, .none] } } σ H3 x v vl vu l u s3.heap.objs.size Q I4 r1 (Heap.IsSliceOf.new ..) pl pu q3
  show wpAny (model X.prog X.w) X.A (subscriptTail e (.Slice lo hi none p2) v (.ref s3.heap.objs.size)) (EP X pins σ Q) X.xe { s3 with heap := s3.heap.push { cls := .type "slice", data := .fields #[vl, vu, .none] } }
  exact tail_any (ops := [.ref s3.heap.objs.size, v]) ht hT hg (by with_unfolding_all rfl)
def cutV (xs : List V) (lo hi : Option Int) : List V := (xs.drop (HT.sIx xs.length 0 lo)).take (HT.sIx xs.length xs.length hi - HT.sIx xs.length 0 lo)
theorem cutV_length (xs : List V) (lo hi : Option Int) : (cutV xs lo hi).length ≤ xs.length := by
  unfold cutV
  rw [List.length_take, List.length_drop]
  omega
end
end L2
namespace L2
open PySem PySem.Spec PyProof.Rows
def MtR (X : Cx) (id : String) (r : V → List V → Hp → VK → Prop) : Prop :=
  ∀ (pins : List (Addr × Obj)) (s : Shared) (σ : St) (H : Hp) (x : V) (xs : List V) (v : Value) (us : List Value) (Q : VK), Inv X pins σ H s → RelV x v → Vals xs us → r x xs H Q →
    wpAny (model X.prog X.w) X.A (call (.builtin id) (v :: us)) (EP X pins σ Q) X.xe s
section
variable {X : Cx} {a b : Expr} {ta tb : TE} {pos : Pos}
theorem slice_bounds (lo hi : Option Int) (n : Nat) : (sliceBounds lo hi none n).1 = ((HT.sIx n 0 lo : Nat) : Int) ∧ (sliceBounds lo hi none n).2.1 = ((HT.sIx n n hi : Nat) : Int) ∧ (sliceBounds lo hi none n).2.2 = 1 := by
  refine ⟨?_, ?_, rfl⟩
  · cases lo with
    | none => simp [sliceBounds, HT.sIx]
    | some i =>
      simp only [sliceBounds, HT.sIx, Option.getD_none, show (1 : Int) > 0 by decide, if_true]
      by_cases h : i < 0
      · simp only [h, if_true] <;> omega
      · simp only [h, if_false] <;> omega
  · cases hi with
    | none => simp [sliceBounds, HT.sIx]
    | some i =>
      simp only [sliceBounds, HT.sIx, Option.getD_none, show (1 : Int) > 0 by decide, if_true]
      by_cases h : i < 0
      · simp only [h, if_true] <;> omega
      · simp only [h, if_false] <;> omega
theorem slicePick_cut (its : List Value) (lo hi : Option Int) : slicePick its.toArray lo hi none = ((its.drop (HT.sIx its.length 0 lo)).take (HT.sIx its.length its.length hi - HT.sIx its.length 0 lo)).toArray := by
  obtain ⟨h1, h2, h3⟩ := slice_bounds lo hi its.toArray.size
  unfold slicePick
  rw [h1, h2, h3]
  simp only [sliceRange_one, pick_run, List.size_toArray] <;> rfl
def rSlL (K : PySem.W.Frag) : V → Option Int → Option Int → Hp → VK → Prop := fun x lo hi H Q => ∃ a xs, x = .ref a ∧ SqL K H a xs ∧ ∀ p, H p = none → Q (.ref p) (upd H p (.lst (cutV xs lo hi)))
theorem sl_list : SlR X (rSlL X.K) := by
  intro pins s σ H x v vl vu lo hi sl Q I rx hs pl pu h
  obtain ⟨a, xs, rfl, hx, q⟩ := h
  cases rx
  obtain ⟨its, r, ht, hz⟩ := I.list hx
  have hlen := r.length
  refine ⟨"list", _, slot_list_getitem.lookup, ht.isList.typeIs, ?_⟩
  refine wpAny_getItem_list_slice ht.isList hs pl pu .none (by simp) ?_ (by rw [List.size_toArray] <;> omega)
  rw [slicePick_cut, ← hlen]
  refine ⟨.ref s.heap.objs.size, _, I.laid (t' := s.toks) (o := .lst (cutV xs lo hi)) (fun b ob q => Heap.get?_push_of_some _ q) (Nat.le_refl _) ?_, rfl, q _ (I.hok.fresh (Nat.le_refl _))⟩
  exact ⟨Nat.le_trans (cutV_length xs lo hi) hz, _, 0, (r.drop (HT.sIx xs.length 0 lo)).take (HT.sIx xs.length xs.length hi - HT.sIx xs.length 0 lo), Heap.get?_push_size _ rfl⟩
theorem call_len_seq : CallR X (.builtin "len") (fun xs H Q => ∃ p ys, xs = [.ref p] ∧ (SqL X.K H p ys ∨ SqT X.K H p ys) ∧ Q (.int ys.length) H) := by
  intro pins s σ H xs us Q I r h
  obtain ⟨p, ys, rfl, hq, q⟩ := h
  obtain ⟨u, rfl, rx⟩ := vals1 r
  cases rx
  have hn := line63
  rcases hq with hq | hq
  · obtain ⟨its, r', pl, hz⟩ := I.list hq
    have hlen := r'.length
    exact Calls.call_len_list pl.isList (by simp only [List.size_toArray] <;> omega) ⟨.int ys.length, H, I.tok _, ⟨s.toks + 1, by rw [List.size_toArray, hlen]⟩, q⟩
  · obtain ⟨its, r', pl, hz⟩ := I.tuple hq
    have hlen := r'.length
    exact len_tuple pl (by simp only [List.size_toArray] <;> omega) ⟨.int ys.length, H, I.tok _, ⟨s.toks + 1, by rw [List.size_toArray, hlen]⟩, q⟩
theorem call_list_of : CallR X (.type "list") (fun xs H Q => ∃ p ys, xs = [.ref p] ∧ (SqL X.K H p ys ∨ SqT X.K H p ys) ∧ ∀ l, H l = none → Q (.ref l) (upd H l (.lst ys))) := by
  intro pins s σ H xs us Q I r h
  obtain ⟨p, ys, rfl, hq, q⟩ := h
  obtain ⟨u, rfl, rx⟩ := vals1 r
  cases rx
  have fin : ∀ (its : List Value), Vals ys its → ys.length ≤ sizeLine → ∀ (h' : Heap) (c' : Nat), (∀ b o', s.heap.get? b = some o' → h'.get? b = some o') →
      h'.get? s.heap.objs.size = some { cls := .type "list", dict := none, data := .seq its.toArray c', slots := #[] } → EP X pins σ Q (.ref s.heap.objs.size) { s with heap := h' } := fun its r' hz h' c' kp e =>
    ⟨.ref s.heap.objs.size, _, I.laid (t' := s.toks) kp (Nat.le_refl _) (show ObjOk X.prog X.w _ h' _ (.lst ys) from ⟨hz, its, c', r', e⟩), rfl, q _ (I.hok.fresh (Nat.le_refl _))⟩
  rcases hq with hq | hq
  · obtain ⟨its, r', pl, hz⟩ := I.list hq
    have hlen := r'.length
    obtain ⟨o, ho, hc, n, hd⟩ := pl.isList
    exact call_list_seq p (.inl rfl) ho hc hd (fun h' c' kp e => fin its r' hz h' c' kp e) (by simp only [List.size_toArray] <;> omega)
  · obtain ⟨its, r', pl, hz⟩ := I.tuple hq
    have hlen := r'.length
    obtain ⟨o, ho, hc, n, hd⟩ := pl
    exact call_list_seq p (.inr rfl) ho hc hd (fun h' c' kp e => fin its r' hz h' c' kp e) (by simp only [List.size_toArray] <;> omega)
def tyV (K : PySem.W.Frag) (T : String) (x : V) (H : Hp) : Prop := match x with
  | .str _ => T = "str"
  | .int _ => T = "int"
  | .ref p => (T = "list" ∧ ∃ xs, SqL K H p xs) ∨ (T = "tuple" ∧ ∃ o, K.lookup p = some o ∧ o.cls = .type "tuple" ∧ o.dict = none) ∨
      (T = "dict" ∧ ((∃ kvs, H p = some (.dK kvs)) ∨ ∃ kvs, H p = some (.dT kvs))) ∨ (T = "set" ∧ ∃ S n, H p = some (.set S n))
  | _ => False
theorem tyV_is {pins : List (Addr × Obj)} {σ : St} {H : Hp} {s : Shared} {T : String} {x : V} {v : Value} (I : Inv X pins σ H s) (r : RelV x v) (ty : tyV X.K T x H) :
    s.TypeIs v T ∧ ∀ a, v = .ref a → ∃ ob, s.heap.get? a = some ob ∧ ob.dict = none := by
  cases x with
  | str z =>
    obtain ⟨t, rfl⟩ := r
    cases (show T = "str" from ty)
    exact ⟨typeIs_str s z t, fun _ e => nomatch e⟩
  | int i =>
    obtain ⟨t, rfl⟩ := r
    cases (show T = "int" from ty)
    exact ⟨typeIs_int s i t, fun _ e => nomatch e⟩
  | ref p =>
    cases r
    rcases ty with ⟨rfl, xs, hq⟩ | ⟨rfl, o, hk, hc, hd⟩ | ⟨rfl, hk⟩ | ⟨rfl, S, n, hk⟩
    · obtain ⟨its, _, pl, _⟩ := I.list hq
      refine ⟨pl.isList.typeIs, fun a e => ?_⟩
      cases e
      obtain ⟨o, n, e, c, hd, _⟩ := pl
      exact ⟨o, e, hd⟩
    · refine ⟨⟨o, I.kIn p o hk, hc⟩, fun a e => ?_⟩
      cases e
      exact ⟨o, I.kIn _ o hk, hd⟩
    · have z : ∃ o, s.heap.get? p = some o ∧ o.ExactDict := by
        rcases hk with ⟨kvs, hk⟩ | ⟨kvs, hk⟩
        · obtain ⟨_, _, _, _, o, _, _, e, ex, _⟩ := I.hok p _ hk
          exact ⟨o, e, ex⟩
        · obtain ⟨_, _, _, _, o, _, _, e, ex, _⟩ := I.hok p _ hk
          exact ⟨o, e, ex⟩
      obtain ⟨o, e, ex⟩ := z
      refine ⟨⟨o, e, ex.1⟩, fun a e2 => ?_⟩
      cases e2
      exact ⟨o, e, ex.2.1⟩
    · obtain ⟨o, _, _, _, e, ex, _⟩ := I.hok p _ hk
      refine ⟨⟨o, e, ex.1⟩, fun a e2 => ?_⟩
      cases e2
      exact ⟨o, e, ex.2.1⟩
  | _ => exact False.elim ty
def tBM (K : PySem.W.Frag) (T : String) (r : V → List V → Hp → VK → Prop) (to : TE) (t : TA) : TE := fun σ H Q => to σ H fun x H1 => tyV K T x H1 ∧ t σ H1 fun xs H2 => r x xs H2 Q
variable {o e : Expr} {es : List Expr} {to : TE} {t : TA} {name : Str} {apos cpos : Pos} {T id : String} {r : V → List V → Hp → VK → Prop}
theorem pe_bm (pa : PlainAttrs T) (slot : Slot T name id) (hty : typeOf (.builtin id) = pure (.type "method_descriptor")) (hm : MtR X id r) (ho : PE X o to) (ha : PA X (e :: es) t)
    (hbase : attributeBase o name X.env (eval o X.env) = eval o X.env := by rfl)
    (hfew : ((backTo cpos (starEach (e :: es) X.env)).all (fun x => !x.1) && (backToKw cpos (keywordEach [] X.env)).all (fun x => x.1.isSome)
      && decide ((e :: es).length + ([] : List Keyword).length + (if ([] : List Keyword).isEmpty then 0 else 1) < 30)) = true := by rfl)
    (hline : (apos.endLine == cpos.line) = true := by rfl) (hs : starEach (e :: es) X.env = (false, eval e X.env) :: starEach es X.env := by rfl) (hplain : (backTo cpos (starEach es X.env)).any (·.1) = false := by rfl) :
    PE X (.Call (.Attribute o name apos) (e :: es) [] cpos) (tBM X.K T r to t) := by
  intro pins s σ H Q I h
  refine wpAny_Call_method_late hbase hfew hline rfl (thn (ho pins s σ H _ I h) fun v s1 ⟨x, H1, I1, r1, ty, q1⟩ => ?_)
  obtain ⟨h1, h2⟩ := tyV_is I1 r1 ty
  refine ⟨T, id, pa, slot, hty, h1, h2, ?_⟩
  have hA := ha cpos pins s1 σ H1 _ I1 q1
  rw [hs] at hA ⊢
  refine Calls.callWith_builtin (by show (false || (backTo cpos (starEach es X.env)).any (·.1)) = false; rw [hplain] <;> rfl) (Calls.evalArgs_plain ?_)
  exact thn hA fun us s2 ⟨vs, H2, I2, r2, q2⟩ => hm pins s2 σ H2 x vs v us Q I2 r1 r2 q2
end
end L2
namespace L2
open PySem PySem.Spec PyProof.Rows
def MtM (X : Cx) (id : String) (r : V → List V → Hp → VK → Prop) : Prop :=
  ∀ (pins : List (Addr × Obj)) (s : Shared) (σ : St) (H : Hp) (x : V) (xs : List V) (v : Value) (us : List Value) (Q : VK), Inv X pins σ H s → RelV x v → Vals xs us → r x xs H Q →
    wpAny (model X.prog X.w) X.A (call (.builtin id) (v :: us)) (EP X pins σ Q) X.xe s
theorem Vals.one : ∀ {x : V} {us : List Value}, Vals [x] us → ∃ u, us = [u] ∧ RelV x u
  | _, _, .cons r .nil => ⟨_, rfl, r⟩
theorem Vals.rep {xs : List V} {us : List Value} (h : Vals xs us) : ∀ k : Nat, Vals (List.replicate k xs).flatten (List.replicate k us).flatten
  | 0 => .nil
  | k + 1 => by
    rw [List.replicate_succ, List.replicate_succ, List.flatten_cons, List.flatten_cons]
    exact Vals.append h (Vals.rep h k)
theorem foldl_rep (its : List Value) : ∀ (k : Nat) (acc : List Value),
    List.foldl (fun x1 x2 => x1 ++ x2) acc.toArray (List.replicate k its.toArray) = (acc ++ (List.replicate k its).flatten).toArray
  | 0, acc => by simp
  | k + 1, acc => by
    have e : acc.toArray ++ its.toArray = (acc ++ its).toArray := by simp
    have e2 : (acc ++ its) ++ (List.replicate k its).flatten = acc ++ (List.replicate (k + 1) its).flatten := by
      rw [List.replicate_succ, List.flatten_cons, List.append_assoc]
    rw [← e2, ← foldl_rep its k (acc ++ its), ← e, List.replicate_succ, List.foldl_cons]
section
variable {X : Cx} {pins : List (Addr × Obj)} {σ : St} {H : Hp} {s : Shared} {l b : Addr} {xs ys zs : List V}
theorem Inv.lset {its its' : List Value} {n : Nat} {f : Array Value → Array Value} {t' : Nat} (I : Inv X pins σ H s) (hH : H l = some (.lst xs))
    (e : s.heap.get? l = some { cls := .type "list", data := .seq its.toArray n }) (hf : f its.toArray = its'.toArray) (hv : Vals ys its') (hz : ys.length ≤ sizeLine) :
    Inv X pins σ (upd H l (.lst ys)) { s with heap := s.heap.update l (Obj.mapSeq f), toks := t' } := by
  have q := PySem.IsL.update e f
  rw [hf] at q
  refine I.write (x := l) (e := l) (by rw [hH]; exact trivial) (.inl rfl) (fun b' u hb hu => (Heap.get?_update_other s.heap (Obj.mapSeq f) (Ne.symm hb)).trans hu) ⟨_, q⟩ ?_
  exact ⟨hz, its', _, hv, q⟩
theorem Inv.lnew {its : List Value} {t' : Nat} (I : Inv X pins σ H s) (hv : Vals ys its) (hz : ys.length ≤ sizeLine) :
    Inv X pins σ (upd H s.heap.objs.size (.lst ys)) { s with heap := s.heap.push { cls := .type "list", data := .seq its.toArray }, toks := t' } :=
  I.laid (fun _ _ q => Heap.get?_push_of_some _ q) (Nat.le_refl _) ⟨hz, its, 0, hv, Heap.get?_push_size _ rfl⟩
theorem Inv.fresh (I : Inv X pins σ H s) : H s.heap.objs.size = none := I.hok.fresh (Nat.le_refl _)
theorem Inv.lstM (I : Inv X pins σ H s) (hH : H l = some (.lst xs)) : xs.length ≤ sizeLine ∧ ∃ (its : List Value) (n : Nat), Vals xs its ∧ xs.length = its.length ∧ s.heap.get? l = some { cls := .type "list", data := .seq its.toArray n } := by
  obtain ⟨z, its, n, r, e⟩ := I.hok l _ hH
  exact ⟨z, its, n, r, r.length, e⟩
theorem notLongL {n : Nat} (h : n ≤ sizeLine) : Builtin.List.listTooLong n = false := by
  unfold Builtin.List.listTooLong
  exact decide_eq_false (by omega)
end
section
variable {X : Cx}
def rAppend : V → List V → Hp → VK → Prop := fun x vs H Q => ∃ l xs y, x = .ref l ∧ vs = [y] ∧ H l = some (.lst xs) ∧ xs.length < sizeLine ∧ Q .non (upd H l (.lst (xs ++ [y])))
theorem mt_append : MtM X "list.append" rAppend := by
  intro pins s σ H x vs v us Q I rx rv h
  obtain ⟨l, xs, y, rfl, rfl, hH, hz, q⟩ := h
  cases rx
  obtain ⟨u, rfl, ru⟩ := rv.one
  obtain ⟨z, its, n, r, hl, e⟩ := I.lstM hH
  refine call_meets F.slot_list_append ⟨_, e, rfl⟩ F.entry_list_append (F.args_list_append_2 _ _) (PySem.list_append l its.toArray n u (by rw [List.size_toArray]; omega)) ⟨e, ?_⟩
  refine ⟨.non, _, I.lset (its' := its ++ [u]) hH e (by simp) (r.append (.cons ru .nil)) ?_, rfl, q⟩
  rw [List.length_append, List.length_singleton]
  omega
def rCat : R2 := fun x y H Q => ∃ l b xs zs, x = .ref l ∧ y = .ref b ∧ H l = some (.lst xs) ∧ H b = some (.lst zs) ∧ xs.length + zs.length ≤ sizeLine ∧ ∀ p, H p = none → Q (.ref p) (upd H p (.lst (xs ++ zs)))
theorem op_cat : OpR X (binaryOp .Add) rCat := by
  intro pins s σ H x y v u Q I rx ry h
  obtain ⟨l, b, xs, zs, rfl, rfl, hH, hB, hz, q⟩ := h
  cases rx
  cases ry
  obtain ⟨z, its, n, r, hl, e⟩ := I.lstM hH
  obtain ⟨z2, its2, n2, r2, hl2, e2⟩ := I.lstM hB
  refine PySem.P.add_list e e2 ?_ (by rw [List.size_toArray, List.size_toArray]; omega)
  have ea : its.toArray ++ its2.toArray = (its ++ its2).toArray := by simp
  rw [ea]
  exact ⟨.ref _, _, I.lnew (t' := s.toks) (r.append r2) (by rw [List.length_append]; omega), rfl, q _ I.fresh⟩
def rRep : R2 := fun x y H Q => ∃ l k xs, x = .ref l ∧ y = .int k ∧ H l = some (.lst xs) ∧ -(2 ^ 63) ≤ k ∧ k < 2 ^ 63 ∧ xs.length * k.toNat ≤ sizeLine ∧
  ∀ p, H p = none → Q (.ref p) (upd H p (.lst (List.replicate k.toNat xs).flatten))
theorem len_rep {α : Type} (xs : List α) (k : Nat) : (List.replicate k xs).flatten.length = k * xs.length := by
  induction k with
  | zero => simp
  | succ k ih => rw [List.replicate_succ, List.flatten_cons, List.length_append, ih, Nat.succ_mul, Nat.add_comm]
theorem op_rep : OpR X (binaryOp .Mult) rRep := by
  intro pins s σ H x y v u Q I rx ry h
  obtain ⟨l, k, xs, rfl, rfl, hH, h1, h2, hz, q⟩ := h
  cases rx
  obtain ⟨t, rfl⟩ := ry
  obtain ⟨z, its, n, r, hl, e⟩ := I.lstM hH
  have hlen : its.toArray.size * k.toNat ≤ sizeLine := by rw [List.size_toArray, ← hl]; exact hz
  have hcap : ¬ its.toArray.size * k.toNat > (2 ^ 63 - 1) / 8 := by
    have : (sizeLine : Nat) ≤ (2 ^ 63 - 1) / 8 := by decide
    omega
  have hfit : ¬ (!Builtin.List.listFitsIndex k) = true := by
    rw [fitsIndex_both h1 h2]
    exact Bool.false_ne_true
  have hlong : ¬ Builtin.List.listTooLong (its.toArray.size * k.toNat) = true := by
    rw [notLongL hlen]
    exact Bool.false_ne_true
  have hnew : List.foldl (fun x1 x2 => x1 ++ x2) #[] (List.replicate (if its.toArray.isEmpty = true then 0 else k.toNat) its.toArray) = (List.replicate k.toNat its).flatten.toArray := by
    have f0 : ∀ m : Nat, List.foldl (fun x1 x2 => x1 ++ x2) #[] (List.replicate m its.toArray) = (List.replicate m its).flatten.toArray := fun m => by
      have := foldl_rep its m []
      rw [List.nil_append] at this
      exact this
    rw [f0]
    cases its with
    | nil => simp
    | cons a r' => rw [if_neg (by simp)]
  refine wpAny_binaryOp_repeat_ref (T := "list") (U := "int") (by decide) ⟨_, e, rfl⟩ (fun s' => typeIs_int s' k t) noFill_list_mul F.fills_int_mul F.slot_int_rmul repeat_list F.slot_int_index.lookup
    (call_meets F.slot_int_rmul (typeIs_int s k t) F.entry_int_rmul (F.args_int_rmul_2 _ _) (int___rmul___int_list k t l its.toArray n)
      ⟨e, rfl, ⟨_, e, rfl⟩, call_meets F.slot_list_mul ⟨_, e, rfl⟩ F.entry_list_mul (F.args_list_mul_2 _ _) (AutoListH.list___mul___list_int_3 l its.toArray n k t hfit hcap hlong) ⟨e, ?_⟩⟩)
  rw [hnew]
  exact ⟨.ref _, _, I.lnew (t' := s.toks) (r.rep k.toNat) (by rw [len_rep, Nat.mul_comm]; exact hz), rfl, q _ I.fresh⟩
end
section
variable {prog : Program} {w : World} {A : Around} {E : Value → Shared → Prop} {s : Shared}
end
section
variable {X : Cx}
end
end L2
namespace L2
open PySem PySem.Spec PyProof.Rows
section
variable {prog : Program} {w : World} {A : Around} {E : Value → Shared → Prop} {s : Shared} {l : Addr} {its : List Value} {ns : List Int} {Q : Value → Shared → Prop}
end
section
variable {X : Cx}
end
section
variable {X : Cx}
end
section
variable {X : Cx}
end
section
variable {X : Cx}
end
mutual
inductive Dp (K : PySem.W.Frag) (H : Hp) : V → PyData → Prop
  | non : Dp K H .non .none
  | bl (b : Bool) : Dp K H (.bl b) (.bool b)
  | int (i : Int) : Dp K H (.int i) (.int i)
  | str (x : Str) : Dp K H (.str x) (.str x)
  | lst {a : Addr} {xs : List V} {ds : List PyData} : SqL K H a xs → DpAll K H xs ds → Dp K H (.ref a) (.list ds)
  | tup {a : Addr} {xs : List V} {ds : List PyData} : SqT K H a xs → DpAll K H xs ds → Dp K H (.ref a) (.tuple ds)
inductive DpAll (K : PySem.W.Frag) (H : Hp) : List V → List PyData → Prop
  | nil : DpAll K H [] []
  | cons {v : V} {vs : List V} {d : PyData} {ds : List PyData} : Dp K H v d → DpAll K H vs ds → DpAll K H (v :: vs) (d :: ds)
end
section
variable {X : Cx} {pins : List (Addr × Obj)} {σ : St} {H : Hp} {s : Shared}
mutual
theorem Dp.reads (I : Inv X pins σ H s) : ∀ (d : PyData) (v : V) (u : Value), Dp X.K H v d → RelV v u → ∃ as, Reads s.heap u d as
  | .none, _, _, h, r => by
    cases h
    cases r
    exact ⟨_, Reads.none⟩
  | .bool b, _, _, h, r => by
    cases h
    cases r
    exact ⟨_, Reads.bool b⟩
  | .int i, _, _, h, r => by
    cases h
    obtain ⟨t, rfl⟩ := r
    exact ⟨_, Reads.int i t⟩
  | .str x, _, _, h, r => by
    cases h
    obtain ⟨t, rfl⟩ := r
    exact ⟨_, Reads.str x t⟩
  | .list ds, _, _, h, r => by
    cases h with
    | lst hs ha =>
      cases r
      obtain ⟨its, rv, ⟨o, n, ho, hc, _, hd⟩, _⟩ := I.list hs
      obtain ⟨as, hr⟩ := Dp.readsAll I ds _ its ha rv
      exact ⟨_, Reads.list ho hc hd hr⟩
  | .tuple ds, _, _, h, r => by
    cases h with
    | tup hs ha =>
      cases r
      obtain ⟨its, rv, ⟨o, ho, hc, n, hd⟩, _⟩ := I.tuple hs
      obtain ⟨as, hr⟩ := Dp.readsAll I ds _ its ha rv
      exact ⟨_, Reads.tuple ho hc hd hr⟩
  | .dict _, _, _, h, _ => by cases h
theorem Dp.readsAll (I : Inv X pins σ H s) : ∀ (ds : List PyData) (vs : List V) (us : List Value), DpAll X.K H vs ds → Vals vs us → ∃ as, ReadsAll s.heap us ds as
  | [], _, _, h, r => by
    cases h
    cases r
    exact ⟨_, ReadsAll.nil⟩
  | d :: ds, _, _, h, r => by
    cases h with
    | cons h1 h2 =>
      cases r with
      | cons r1 r2 =>
        obtain ⟨as, q1⟩ := Dp.reads I d _ _ h1 r1
        obtain ⟨bs, q2⟩ := Dp.readsAll I ds _ _ h2 r2
        exact ⟨_, ReadsAll.cons q1 q2⟩
end
end
section
variable {X : Cx}
end
end L2
namespace L2
open PySem PySem.Spec PyProof.Rows
section
variable {X : Cx} {pins : List (Addr × Obj)} {σ : St} {H : Hp} {s : Shared}
end
section
variable {X : Cx}
end
end L2
namespace L2
open PySem PySem.Spec PyProof.Rows
section
variable {prog : Program} {w : World} {A : Around} {R : Result → Shared → Prop} {s : Shared} {elt t0 i0 t1 i1 : Expr} {ifs0 ifs1 : List Expr} {scope : Scope} {pos : Pos} {it acc : Value} {env : Env}
end
section
variable {X : Cx}
end
end L2
namespace L2
open PySem PySem.Spec PyProof.Rows
section
variable {κ : Type} [DecidableEq κ]
end
section
variable {P : Program} {w : World} {H : Hp} {h : Heap} {a : Addr}
end
section
variable {X : Cx} {pins : List (Addr × Obj)} {σ : St} {H : Hp} {s : Shared} {a : Addr} {y v : V} {u r : Value} {o : Option V} {A : Around} {E : Value → Shared → Prop}
end
section
variable {X : Cx} {pins : List (Addr × Obj)} {σ : St} {H : Hp} {s : Shared} {a : Addr} {kvs : List (Key × V)} {k : Key} {u : Value} {A : Around} {E : Value → Shared → Prop}
end
section
variable {X : Cx} {o i e value : Expr} {pos pos' tpos : Pos} {td ty tv : TE}
end
section
variable {X : Cx} {pos : Pos}
end
section
variable {X : Cx} {pins : List (Addr × Obj)} {σ : St} {H : Hp} {s : Shared} {a : Addr} {y d : V} {u r : Value} {o : Option V} {A : Around} {E : Value → Shared → Prop}
end
section
variable {X : Cx} {o e f : Expr} {apos cpos : Pos} {td ty tx : TE}
end
section
variable {X : Cx} {pins : List (Addr × Obj)} {σ : St} {H : Hp} {s : Shared} {a : Addr} {kvs : List (Key × V)} {A : Around} {E : Value → Shared → Prop}
end
section
variable {X : Cx} {pins : List (Addr × Obj)} {σ : St} {H : Hp} {s : Shared} {a : Addr} {y : V} {u : Value} {A : Around} {E : Value → Shared → Prop}
end
end L2
namespace L2
open PySem PySem.Spec PyProof.Rows
section
variable {prog : Program} {w : World} {A : Around} {E : Value → Shared → Prop}
end
section
variable {X : Cx}
end
end L2
namespace L2
open PySem PySem.Spec PyProof.Rows
theorem boot_reversed5 : bootBuiltins "reversed" = some (.type "reversed") := by decide +kernel
section
variable {X : Cx} {pins : List (Addr × Obj)} {σ : St} {H : Hp} {s : Shared} {h' : Heap}
end
section
variable {X : Cx}
theorem pi_one {tg : Expr} {pins : List (Addr × Obj)} {σ : St} {H : Hp} {s : Shared} {R : It → Hp → Prop} {J : It} {tn : Nat → Heap → Prop} {tk : Nat} (I : Inv X pins σ H s) (o : Obj)
    (T : Turn X.prog X.w X.K tg J [s.heap.objs.size] s.heap.objs.size tn) (st : tn 0 (s.heap.push o)) (q : R J H) : PIE X pins σ tg R (.ref s.heap.objs.size) { s with heap := s.heap.push o, toks := tk } := by
  refine ⟨s.heap.objs.size, [s.heap.objs.size], tn, J, H, rfl, I.kept fun b ob e => Heap.get?_push_of_some _ e, T, st, fun b hb => ?_, q⟩
  have e : b = s.heap.objs.size := by simpa using hb
  subst e
  exact I.fpOk (Nat.le_refl _) (I.hok.fresh (Nat.le_refl _))
end
def Itc (lo c : Int) (n : Nat) : It := ⟨fun i _ => i < n, fun i H x H' => H' = H ∧ x = .int (lo + (i : Nat) * c), fun i _ => n ≤ i⟩
theorem turn_rangeC {P : Program} {w : World} {K : PySem.W.Frag} {tg : Expr} (it : Addr) (lo c : Int) (n : Nat) : Turn P w K tg (Itc lo c n) [it] it (fun i h => IsRangeIter h it (lo + (i : Nat) * c) ((n : Int) - (i : Nat)) c) where
  mem := by simp
  obj := fun i h st b hb => by
    have e : b = it := by simpa using hb
    subst e
    exact ⟨_, st, fun v z => nomatch z⟩
  keep := fun i h h' st k => k it (by simp) _ st
  item := by
    intro X hP hw hK hc i pins s σ H E I hf st hg
    subst hP hw hK
    obtain ⟨f0, f1, f2, f3, f4, f5⟩ := hf it (by simp)
    have W := Walks.range (prog := X.prog) (w := X.w) (I.ok.hd hc) it lo c n
    refine W.item i s _ _ hg st fun v h' tk hv st' kk => ?_
    obtain ⟨t, rfl⟩ := hv
    have I1 : Inv X pins σ H { s with heap := h', toks := tk } := I.turned (fun b o hb e => kk b o (by simpa using hb) e) f0 f1 f3 f4 f5
    exact ⟨_, rfl, go_of (s := { s with heap := h', toks := tk }) (n := "range_iterator") st' rfl rfl (by decide) ⟨.int (lo + (i : Nat) * c), H, I1, ⟨t, rfl⟩, ⟨rfl, rfl⟩, st', fun b hb => (hf b hb).1⟩⟩
  done := by
    intro X hP hw hK hc i pins s σ H E I hf st hg
    subst hP hw hK
    obtain ⟨f0, f1, f2, f3, f4, f5⟩ := hf it (by simp)
    exact wpAny_pyNext_range_end (I.ok.hd hc) st (by have : n ≤ i := hg; omega) fun h' eb => ⟨rfl, I.turned (t' := s.toks) (fun b o hb e => eb b o hb e) f0 f1 f3 f4 f5⟩
  self := fun A i s Q E st h => wpAny_pyIter_rangeiter st h
def RgC (i j c : Int) (n : Nat) : Prop := c ≠ 0 ∧ c.natAbs < 1073741824 ∧ Builtin.Range.small i j c = true ∧ Builtin.Range.rangeSize i j c = n
def iRng3 (ta : TA) : TI := fun σ H R => ta σ H fun vs H1 => ∃ (i j c : Int) (n : Nat), vs = [.int i, .int j, .int c] ∧ RgC i j c n ∧ R (Itc i c n) H1
section
variable {X : Cx} {tg : Expr}
theorem pi_range3 {a b c : Expr} {ta : TA} {p pos : Pos} (hg : Gl X "range") (hm : X.mg "range" = none) (ha : PA X [a, b, c] ta)
    (hs : starEach [a, b, c] X.env = (false, eval a X.env) :: starEach [b, c] X.env := by rfl) (hpl : (backTo pos (starEach [b, c] X.env)).any (·.1) = false := by rfl) :
    PI X tg (.Call (.Name "range" p) [a, b, c] [] pos) (iRng3 ta) := by
  intro pins s σ H R I h
  refine Call_ (ld_blt I hg hm boot_range (PyProof.Rows.callWith_type1 (thn (ha pos pins s σ H _ I h) fun us s1 ⟨vs, H1, I1, r1, q1⟩ => ?_) hs hpl))
  obtain ⟨i, j, k, n, e, ⟨c0, c1, c2, c3⟩, q⟩ := q1
  subst e
  cases r1 with
  | cons r rr =>
    cases rr with
    | cons r' rr =>
      cases rr with
      | cons r'' rr =>
        cases rr
        obtain ⟨t, rfl⟩ := r
        obtain ⟨t', rfl⟩ := r'
        obtain ⟨t'', rfl⟩ := r''
        refine call_range_3 c0 ?_ (.inl (PyProof.noPylong_small c1))
        refine wpAny_pyIter_range (IsRange.new ..) c2 ?_
        have I2 : Inv X pins σ H1 { s1 with heap := s1.heap.push { cls := .type "range", data := .fields #[.int i t, .int j t', .int k t''] } } := I1.kept (t' := s1.toks) fun b o e => Heap.get?_push_of_some _ e
        refine pi_one (tk := s1.toks) I2 _ (turn_rangeC _ i k n) ?_ q
        have e1 : i + ((0 : Nat) : Int) * k = i := by simp
        have e2 : (n : Int) - ((0 : Nat) : Int) = Builtin.Range.rangeSize i j k := by rw [c3]; simp
        show IsRangeIter _ _ (i + ((0 : Nat) : Int) * k) ((n : Int) - ((0 : Nat) : Int)) k
        rw [e1, e2]
        exact Heap.get?_push_size _ rfl
end
theorem for_rangeC {lo c : Int} {n : Nat} {g : TG} {tb : TS} {D : Ends} {σ : St} {H : Hp} (Pv : Nat → St → Hp → Prop) (h0 : Pv 0 σ H)
    (hs : ∀ i σ H, i < n → Pv i σ H → g (.int (lo + (i : Nat) * c)) σ H fun σ2 H2 => tb { D with nx := Pv (i + 1), ct := Pv (i + 1), bk := D.nx } σ2 H2) (hd : ∀ σ H, Pv n σ H → D.nx σ H) :
    ∃ W : Nat → Nat → St → Hp → Prop, (∃ m, W 0 m σ H) ∧ ∀ i m σ H, W i m σ H →
      ((Itc lo c n).stop i H ∧ D.nx σ H) ∨ ((Itc lo c n).go i H ∧ ∃ N : St → Hp → Prop, (∀ σ' H', N σ' H' → ∃ m', m' < m ∧ W (i + 1) m' σ' H') ∧ ∀ x H', (Itc lo c n).yld i H x H' → g x σ H' fun σ2 H2 => tb { D with nx := N, ct := N, bk := D.nx } σ2 H2) := by
  refine ⟨fun i m σ H => m = n - i ∧ i ≤ n ∧ Pv i σ H, ⟨n, by simp, Nat.zero_le _, h0⟩, ?_⟩
  rintro i m σ H ⟨rfl, hi, p⟩
  by_cases hlt : i < n
  · refine .inr ⟨hlt, Pv (i + 1), fun σ' H' p' => ⟨n - (i + 1), by omega, rfl, hlt, p'⟩, fun x H' y => ?_⟩
    obtain ⟨e, y⟩ := y
    subst e y
    exact hs i σ _ hlt p
  · have e : i = n := by omega
    subst e
    exact .inl ⟨Nat.le_refl _, hd σ H p⟩
def Itv (K : PySem.W.Frag) (a : Addr) (n : Nat) : It :=
  ⟨fun i H => i < n ∧ ∃ (xs : List V) (x : V), SqL K H a xs ∧ xs[n - 1 - i]? = some x, fun i H x H' => H' = H ∧ ∀ xs, SqL K H a xs → xs[n - 1 - i]? = some x, fun i _ => n ≤ i⟩
theorem turn_rev {P : Program} {w : World} {K : PySem.W.Frag} {tg : Expr} (a it : Addr) (n : Nat) : Turn P w K tg (Itv K a n) [it] it (fun i h => i ≤ n ∧ h.IsRevIter it a ((n : Int) - 1 - (i : Nat))) where
  mem := by simp
  obj := fun i h st b hb => by
    have e : b = it := by simpa using hb
    subst e
    obtain ⟨_, o, e, c, d⟩ := st
    exact ⟨o, e, fun v z => by rw [d] at z; cases z⟩
  keep := fun i h h' st k => ⟨st.1, st.2.at fun o e => k it (by simp) o e⟩
  item := by
    intro X hP hw hK hc i pins s σ H E I hf st hg
    subst hP hw hK
    obtain ⟨hin, xs, x, hq, hx⟩ := hg
    obtain ⟨its, rv, p, hz⟩ := I.list hq
    obtain ⟨u, hu, ru⟩ := rv.get hx
    obtain ⟨f0, f1, f2, f3, f4, f5⟩ := hf it (by simp)
    obtain ⟨_, hit⟩ := st
    have e1 : (n : Int) - 1 - ((i : Nat) : Int) = ((n - 1 - i : Nat) : Int) := by omega
    rw [e1] at hit
    refine wpAny_pyNext_rev_item hit p.isList (x := u) (by simpa using hu) fun h' st' sb => ?_
    have e2 : ((n - 1 - i : Nat) : Int) - 1 = (n : Int) - 1 - ((i + 1 : Nat) : Int) := by omega
    rw [e2] at st'
    have I1 : Inv X pins σ H { s with heap := h' } := I.turned (t' := s.toks) (fun b o hb e => (sb.2 b hb).trans e) f0 f1 f3 f4 f5
    obtain ⟨o, e, c, d⟩ := id st'
    exact ⟨u, rfl, go_of (s := { s with heap := h' }) e c d (by decide) ⟨x, H, I1, ru, ⟨rfl, fun ys hy => by rw [I.list_inj hy hq]; exact hx⟩, ⟨hin, st'⟩, fun b hb => (hf b hb).1⟩⟩
  done := by
    intro X hP hw hK hc i pins s σ H E I hf st hg
    subst hP hw hK
    obtain ⟨f0, f1, f2, f3, f4, f5⟩ := hf it (by simp)
    obtain ⟨hin, hit⟩ := st
    have hge : n ≤ i := hg
    have e1 : (n : Int) - 1 - ((i : Nat) : Int) = -1 := by omega
    rw [e1] at hit
    exact wpAny_pyNext_rev_end (I.ok.hd hc) hit fun h' eb => ⟨rfl, I.turned (t' := s.toks) (fun b o hb e => eb b o hb e) f0 f1 f3 f4 f5⟩
  self := fun A i s Q E st h => wpAny_pyIter_revIter st.2 h
def iRev (K : PySem.W.Frag) (ta : TA) : TI := fun σ H R => ta σ H fun vs H1 => ∃ (a : Addr) (xs : List V), vs = [.ref a] ∧ SqL K H1 a xs ∧ R (Itv K a xs.length) H1
section
variable {X : Cx} {tg : Expr}
theorem pi_reversed {e : Expr} {ta : TA} {p pos : Pos} (hg : Gl X "reversed") (hm : X.mg "reversed" = none) (ha : PA X [e] ta) (hs : starEach [e] X.env = [(false, eval e X.env)] := by rfl) : PI X tg (.Call (.Name "reversed" p) [e] [] pos) (iRev X.K ta) := by
  intro pins s σ H R I h
  refine Call_ (ld_blt I hg hm boot_reversed5 (PyProof.Rows.callWith_type1 (thn (ha pos pins s σ H _ I h) fun us s1 ⟨vs, H1, I1, r1, q1⟩ => ?_) hs rfl))
  obtain ⟨a, xs, e, hq, q⟩ := q1
  subst e
  cases r1 with
  | cons r rr =>
    cases rr
    cases r
    obtain ⟨its, rv, p', hz⟩ := I1.list hq
    have hl := rv.length
    have e1 : ((its.toArray.size : Nat) : Int) - 1 = (xs.length : Int) - 1 - ((0 : Nat) : Int) := by simp only [List.size_toArray]; omega
    refine call_reversed_list p'.isList (wpAny_pyIter_revIter (l := a) (i := ((its.toArray.size : Nat) : Int) - 1) ⟨_, Heap.get?_push_size _ rfl, rfl, rfl⟩ ?_)
    refine pi_one (tk := s1.toks) I1 _ (turn_rev a _ xs.length) ⟨Nat.zero_le _, ?_⟩ q
    rw [← e1]
    exact ⟨_, Heap.get?_push_size _ rfl, rfl, rfl⟩
end
section
variable {prog : Program} {w : World} {A : Around} {E : Value → Shared → Prop} {s : Shared}
end
section
variable {X : Cx} {pins : List (Addr × Obj)} {σ : St} {H : Hp} {s : Shared} {d : Addr} {o : Obj}
end
section
variable {P : Program} {w : World} {K : PySem.W.Frag} {tg : Expr} {d : Addr} {o : Obj} {es : Array DictEntry} {ep : Nat}
end
section
variable {X : Cx} {tg e : Expr} {td : TE} {apos cpos : Pos}
end
end L2
section 
namespace Bits
open PySem PyProof.Rows
end Bits
end 
section 
namespace TL
open PySem PySem.Builtin PySem.Builtin.Str PySem.StrLaws
end TL
end 
namespace L2
open PySem PySem.Spec PyProof.Rows
section
variable {X : Cx} {pins : List (Addr × Obj)} {σ : St} {H : Hp} {s : Shared} {Q : VK}
end
section
variable {X : Cx}
end
section
variable {X : Cx} {o e : Expr} {to te : TE}
end
end L2
namespace L2
open PySem PySem.Spec PyProof.Rows
section
variable {X : Cx}
end
end L2
namespace Att
open PySem PySem.W PySem.Calls PyProof.Rows
section
variable {prog : Program} {w : World} {A : Around} {E : Value → Shared → Prop} {s : Shared} {K : Frag}
end
end Att
namespace L2
open PySem PySem.Spec PyProof.Rows
end L2
namespace L2
open PySem PySem.Spec PyProof.Rows
end L2
namespace L2
open PySem PySem.Spec PyProof.Rows
def inClass (s : Stmt) (j : Nat) : Stmt := match s with
  | .ClassDef _ _ _ body _ _ _ _ _ _ _ => body.getD j (.Pass ⟨0, 0, 0, 0⟩)
  | _ => .Pass ⟨0, 0, 0, 0⟩
def defArgs (s : Stmt) : Arguments := match s with
  | .FunctionDef _ a _ _ _ _ _ _ _ _ => a
  | _ => { posonlyargs := [], args := [], vararg := none, kwonlyargs := [], kw_defaults := [], kwarg := none, defaults := [] }
def defBody (s : Stmt) : List Stmt := match s with
  | .FunctionDef _ _ b _ _ _ _ _ _ _ => b
  | _ => []
def defScope (s : Stmt) : Scope := match s with
  | .FunctionDef _ _ _ _ _ _ sc _ _ _ => sc
  | _ => { kind := .function, names := [], isGenerator := false, isCoroutine := false }
structure Fun (K : PySem.W.Frag) (x qual : Str) (st : Stmt) (f : Addr) (fd : FuncData) : Prop where
  ex : ∃ (oc : Value) (od : Option Addr) (kV doc pm : Value) (an : Option Addr) (cdv ct : Value) (osl : Array (Option Value)),
    fd = PySem.W.fnOf x qual (defArgs st) (defBody st) (defScope st) .none kV doc pm an cdv ct ∧ K.lookup f = some ⟨oc, od, .func fd, osl⟩ ∧ PySem.W.codeIn K cdv qual = true
  kp : PySem.W.keepIn K (.ref f) = true
section
variable {P : Program} {w : World} {K : PySem.W.Frag} {mg : Str → Option Value} {base : Heap}
theorem Fun.binds {x qual : Str} {st : Stmt} {f : Addr} {fd : FuncData} {ps : List Str} (F : Fun K x qual st f fd)
    (h : ∀ (kV doc pm : Value) (an : Option Addr) (cdv ct : Value) (us : List Value), us.length = ps.length → bindArgs (PySem.W.fnOf x qual (defArgs st) (defBody st) (defScope st) .none kV doc pm an cdv ct) ⟨us, []⟩ = pure (ps.zip us)) : Binds K fd ps [] := by
  obtain ⟨oc, od, kV, doc, pm, an, cdv, ct, osl, rfl, lk, hcd⟩ := F.ex
  exact .all (h kV doc pm an cdv ct)
theorem fun_mk {x qual : Str} {st : Stmt} {f : Addr} {oc : Value} {od an : Option Addr} {osl : Array (Option Value)} {kV doc pm cdv ct : Value} (l : K.lookup f = some ⟨oc, od, .func (PySem.W.fnOf x qual (defArgs st) (defBody st) (defScope st) .none kV doc pm an cdv ct), osl⟩)
    (c : PySem.W.codeIn K cdv qual = true) (k : PySem.W.keepIn K (.ref f) = true) : Fun K x qual st f (PySem.W.fnOf x qual (defArgs st) (defBody st) (defScope st) .none kV doc pm an cdv ct) := ⟨⟨oc, od, kV, doc, pm, an, cdv, ct, osl, rfl, l, c⟩, k⟩
end
section
variable {X : Cx}
theorem pv (i : Nat) {x : Str} {pos : Pos} (hN : X.N[i]? = some x := by rfl) (hv : Vis X.env.scope x := by first | exact Or.inl rfl | exact Or.inr (Or.inl rfl) | exact Or.inr (Or.inr rfl)) (hd : (x == ("__debug__" : Str)) = false := by decide)
    (hcd : (x == ("__classdict__" : Str)) = false := by decide) : PE X (.Name x pos) (tVar i) := pe_var hN hv hd hcd
end
theorem iteT {A B : Prop} (h : A) : if true = true then A else B := by
  rw [if_pos rfl]
  exact h
theorem ite2 {c A B : Prop} [Decidable c] (h1 : c → A) (h2 : ¬ c → B) : if c then A else B := by
  by_cases h : c
  · rw [if_pos h]
    exact h1 h
  · rw [if_neg h]
    exact h2 h
def Same (H H' : Hp) : Prop := ∀ b o, H b = some o → H' b = some o
theorem Same.refl (H : Hp) : Same H H := fun _ _ h => h
theorem Same.trans {H H1 H2 : Hp} (a : Same H H1) (b : Same H1 H2) : Same H H2 := fun c o h => b c o (a c o h)
theorem Same.free {H H' : Hp} (e : Same H H') {l : Addr} (h : H' l = Option.none) : H l = Option.none := by
  cases q : H l with
  | none => rfl
  | some o =>
    rw [e l o q] at h
    cases h
section
variable {κ : Type} [DecidableEq κ]
end
theorem Same.made {H H1 : Hp} {x dx C : Addr} (nx : H x = Option.none) (nd : H dx = Option.none) (k : ∀ b o, (upd (upd H dx (.own x)) x (.ins C dx [])) b = some o → b ≠ x → H1 b = some o) : Same H H1 := fun b o e =>
  k b o (by rw [upd_ne (ne_of_none e nx), upd_ne (ne_of_none e nd)]; exact e) (ne_of_none e nx)
end L2
section
set_option Elab.async false
set_option linter.all false
set_option maxRecDepth 100000
set_option maxHeartbeats 2000000
namespace L2
open PySem PySem.Spec PyProof.Rows
open PySem.W (WData Codec OpenSpec Well WellAll ReadsW ReadsAllW)
mutual
/-- x stands for the datum d, lists and tuples all the way -/
inductive Dw (K : PySem.W.Frag) (H : Hp) : V → WData → Prop
  | non : Dw K H .non .none
  | bl (b : Bool) : Dw K H (.bl b) (.bool b)
  | int (i : Int) : Dw K H (.int i) (.int i)
  | str (x : Str) : Dw K H (.str x) (.str x)
  | byt (b : Array UInt8) : Dw K H (.byt b) (.bytes b.toList)
  | lst {a : Addr} {xs : List V} {ds : List WData} : SqL K H a xs → DwAll K H xs ds → Dw K H (.ref a) (.list ds)
  | tup {a : Addr} {xs : List V} {ds : List WData} : SqT K H a xs → DwAll K H xs ds → Dw K H (.ref a) (.tuple ds)
inductive DwAll (K : PySem.W.Frag) (H : Hp) : List V → List WData → Prop
  | nil : DwAll K H [] []
  | cons {v : V} {vs : List V} {d : WData} {ds : List WData} : Dw K H v d → DwAll K H vs ds → DwAll K H (v :: vs) (d :: ds)
end
theorem dw_ints {K : PySem.W.Frag} {H : Hp} : ∀ ns : List Int, DwAll K H (ns.map V.int) (ns.map WData.int)
  | [] => .nil
  | n :: r => .cons (.int n) (dw_ints r)
section
variable {P : Program} {w : World} {K : PySem.W.Frag} {H : Hp} {h : Heap} {R : PySem.W.WRecords} {cl : Str → Option Addr}
theorem sqL_at {a : Addr} {xs : List V} (hok : HOk P w H h) (KX : K.In h) (q : SqL K H a xs) : ∃ (its : List Value) (o : Obj) (n : Nat), Vals xs its ∧ h.get? a = some o ∧ o.cls = .type "list" ∧ o.data = .seq its.toArray n := by
  rcases q with q | ⟨o, its, n, e, hc, _, hd, _, hv⟩
  · obtain ⟨_, its, n, hv, e⟩ := (show ObjOk P w H h a (.lst xs) from q.ok hok)
    exact ⟨its, _, n, hv, e, rfl, rfl⟩
  · exact ⟨its.toList, o, n, hv, KX _ _ e, hc, by simp [hd]⟩
theorem sqT_at {a : Addr} {xs : List V} (hok : HOk P w H h) (KX : K.In h) (q : SqT K H a xs) : ∃ (its : List Value) (o : Obj) (n : Nat), Vals xs its ∧ h.get? a = some o ∧ o.cls = .type "tuple" ∧ o.data = .seq its.toArray n := by
  rcases q with q | ⟨o, its, n, e, hc, hd, _, hv⟩
  · obtain ⟨_, its, hv, o, e, hc, n, hd⟩ := (show ObjOk P w H h a (.tup xs) from q.ok hok)
    exact ⟨its, o, n, hv, e, hc, hd⟩
  · exact ⟨its.toList, o, n, hv, KX _ _ e, hc, by simp [hd]⟩
mutual
theorem Dw.reads (hok : HOk P w H h) (KX : K.In h) : ∀ (d : WData) (v : V) (u : Value), Dw K H v d → RelV v u → ∃ as, ReadsW R cl h u d as
  | .none, _, _, x, r => by
    cases x
    cases r
    exact ⟨_, ReadsW.none⟩
  | .bool b, _, _, x, r => by
    cases x
    cases r
    exact ⟨_, ReadsW.bool b⟩
  | .int i, _, _, x, r => by
    cases x
    obtain ⟨t, rfl⟩ := r
    exact ⟨_, ReadsW.int i t⟩
  | .str s, _, _, x, r => by
    cases x
    obtain ⟨t, rfl⟩ := r
    exact ⟨_, ReadsW.str s t⟩
  | .bytes b, _, _, x, r => by
    cases x
    obtain ⟨t, rfl⟩ := r
    exact ⟨_, ReadsW.bytes _ t⟩
  | .list ds, _, _, x, r => by
    cases x with
    | lst hs ha =>
      cases r
      obtain ⟨its, o, n, rv, ho, hc, hd⟩ := sqL_at hok KX hs
      obtain ⟨as, hr⟩ := Dw.readsAll hok KX ds _ its ha rv
      exact ⟨_, ReadsW.list ho hc hd hr⟩
  | .tuple ds, _, _, x, r => by
    cases x with
    | tup hs ha =>
      cases r
      obtain ⟨its, o, n, rv, ho, hc, hd⟩ := sqT_at hok KX hs
      obtain ⟨as, hr⟩ := Dw.readsAll hok KX ds _ its ha rv
      exact ⟨_, ReadsW.tuple ho hc hd hr⟩
  | .float _, _, _, x, _ => by cases x
  | .dict _, _, _, x, _ => by cases x
  | .bytearray _, _, _, x, _ => by cases x
  | .set _, _, _, x, _ => by cases x
  | .frozenset _, _, _, x, _ => by cases x
  | .obj _ _, _, _, x, _ => by cases x
theorem Dw.readsAll (hok : HOk P w H h) (KX : K.In h) : ∀ (ds : List WData) (vs : List V) (us : List Value), DwAll K H vs ds → Vals vs us → ∃ as, ReadsAllW R cl h us ds as
  | [], _, _, x, r => by
    cases x
    cases r
    exact ⟨_, ReadsAllW.nil⟩
  | d :: ds, _, _, x, r => by
    cases x with
    | cons h1 h2 =>
      cases r with
      | cons r1 r2 =>
        obtain ⟨as, q1⟩ := Dw.reads hok KX d _ _ h1 r1
        obtain ⟨bs, q2⟩ := Dw.readsAll hok KX ds _ _ h2 r2
        exact ⟨_, ReadsAllW.cons q1 q2⟩
end
end
mutual
/-- data that a codec tells -/
def plW : WData → Bool
  | .none => true
  | .bool _ => true
  | .int _ => true
  | .str _ => true
  | .bytes _ => true
  | .list xs => plWs xs
  | .tuple xs => plWs xs
  | _ => false
def plWs : List WData → Bool
  | [] => true
  | x :: r => plW x && plWs r
end
theorem plWs_map {α : Type} {f : α → WData} (h : ∀ a, plW (f a) = true) : ∀ l : List α, plWs (l.map f) = true
  | [] => rfl
  | x :: r => by
    show (plW (f x) && plWs (r.map f)) = true
    rw [h x, plWs_map h r] <;> rfl
theorem pl_enc : ∀ (c : Codec) (a : c.denote), plW (c.enc a) = true
  | .unit, _ => rfl
  | .bool, _ => rfl
  | .int _ _, _ => rfl
  | .nat _ _, _ => rfl
  | .u8, _ => rfl
  | .bytes _ _, _ => rfl
  | .text _ _ _ _, _ => rfl
  | .list _ _ c, a => plWs_map (fun x => pl_enc c x) a
  | .pair c d, a => by
    show (plW (c.enc a.1) && (plW (d.enc a.2) && true)) = true
    rw [pl_enc c a.1, pl_enc d a.2] <;> rfl
  | .triple c d e, a => by
    show (plW (c.enc a.1) && (plW (d.enc a.2.1) && (plW (e.enc a.2.2) && true))) = true
    rw [pl_enc c a.1, pl_enc d a.2.1, pl_enc e a.2.2] <;> rfl
  | .option c, none => rfl
  | .option c, some x => pl_enc c x
theorem pl_encAll : ∀ (cs : List Codec) (a : Codec.denoteAll cs), plWs (Codec.encAll cs a) = true
  | [], _ => rfl
  | c :: cs, a => by
    show (plW (c.enc a.1) && plWs (Codec.encAll cs a.2)) = true
    rw [pl_enc c a.1, pl_encAll cs a.2] <;> rfl
theorem weight_mem : ∀ {xs : List WData} {d : WData}, d ∈ xs → d.weight ≤ WData.weightAll xs
  | [], d, h => absurd h (by simp)
  | x :: r, d, h => by
    show d.weight ≤ x.weight + 1 + WData.weightAll r
    rcases List.mem_cons.mp h with e | m
    · rw [e]
      omega
    · have z := weight_mem m
      omega
def toV : Value → V
  | .none => .non
  | .bool b => .bl b
  | .int i _ => .int i
  | .str x _ => .str x
  | .bytes b _ => .byt b
  | .ref a => .ref a
  | _ => .non
def OkU (A : List Addr) : Value → Prop
  | .none => True
  | .bool _ => True
  | .int _ _ => True
  | .str _ _ => True
  | .bytes _ _ => True
  | .ref a => a ∈ A
  | _ => False
theorem OkU.mono {A B : List Addr} (h : ∀ a ∈ A, a ∈ B) : ∀ {u : Value}, OkU A u → OkU B u := fun {u} x => by
  cases u with
  | ref a => exact h a x
  | none => trivial
  | bool b => trivial
  | int i t => trivial
  | str s t => trivial
  | bytes b t => trivial
  | _ => exact False.elim x
theorem relV_toV {A : List Addr} {u : Value} (x : OkU A u) : RelV (toV u) u := by
  cases u with
  | ref a => rfl
  | none => rfl
  | bool b => rfl
  | int i t => exact ⟨t, rfl⟩
  | str s t => exact ⟨t, rfl⟩
  | bytes b t => exact ⟨t, rfl⟩
  | _ => exact False.elim x
theorem vals_toV {A : List Addr} : ∀ {vs : List Value}, (∀ u ∈ vs, OkU A u) → Vals (vs.map toV) vs
  | [], _ => .nil
  | u :: r, h => .cons (relV_toV (h u (List.mem_cons_self ..))) (vals_toV fun x hx => h x (List.mem_cons_of_mem _ hx))
def ArgOb (h : Heap) (A : List Addr) (a : Addr) : Prop := ∃ vs : List Value, vs.length ≤ sizeLine ∧ (∀ u ∈ vs, OkU A u) ∧
  (h.get? a = some { cls := .type "list", data := .seq vs.toArray } ∨ h.get? a = some { cls := .type "tuple", data := .seq vs.toArray })
theorem ArgOb.mono {h : Heap} {A B : List Addr} {a : Addr} (k : ∀ a ∈ A, a ∈ B) (x : ArgOb h A a) : ArgOb h B a := by
  obtain ⟨vs, h1, h2, h3⟩ := x
  exact ⟨vs, h1, fun u hu => (h2 u hu).mono k, h3⟩
theorem wellAll_len {P : Params} {h : Heap} : ∀ {vs : List Value} {ds : List WData}, WellAll P h vs ds → vs.length = ds.length
  | _, _, .nil => rfl
  | _, _, .cons _ b => by
    show _ + 1 = _ + 1
    rw [wellAll_len b]
theorem well_list {P : Params} {h : Heap} {v : Value} {ds : List WData} (x : Well P h v (.list ds)) : ∃ (a : Addr) (vs : List Value), v = .ref a ∧ h.get? a = some { cls := .type "list", data := .seq vs.toArray } ∧ WellAll P h vs ds := by
  cases x with
  | list ho hall => exact ⟨_, _, rfl, ho, hall⟩
theorem well_tuple {P : Params} {h : Heap} {v : Value} {ds : List WData} (x : Well P h v (.tuple ds)) : ∃ (a : Addr) (vs : List Value), v = .ref a ∧ h.get? a = some { cls := .type "tuple", data := .seq vs.toArray } ∧ WellAll P h vs ds := by
  cases x with
  | tuple ho hall => exact ⟨_, _, rfl, ho, hall⟩
theorem well_cons {P : Params} {h : Heap} {us : List Value} {d : WData} {ds : List WData} (x : WellAll P h us (d :: ds)) : ∃ (v : Value) (vs : List Value), us = v :: vs ∧ Well P h v d ∧ WellAll P h vs ds := by
  cases x with
  | cons a b => exact ⟨_, _, rfl, a, b⟩
theorem line_of {n : Nat} (h : n ≤ 1048576) : n ≤ sizeLine := Nat.le_trans h (by decide)
section
variable {P : Params} {h : Heap}
mutual
theorem area_one : ∀ (d : WData) (v : Value), Well P h v d → plW d = true → d.weight ≤ 1048576 → ∃ A : List Addr, OkU A v ∧ ∀ a ∈ A, ArgOb h A a
  | .none, _, x, _, _ => by
    cases x
    exact ⟨[], trivial, fun a m => absurd m (by simp)⟩
  | .bool b, _, x, _, _ => by
    cases x
    exact ⟨[], trivial, fun a m => absurd m (by simp)⟩
  | .int i, _, x, _, _ => by
    cases x
    exact ⟨[], trivial, fun a m => absurd m (by simp)⟩
  | .str s, _, x, _, _ => by
    cases x
    exact ⟨[], trivial, fun a m => absurd m (by simp)⟩
  | .bytes b, _, x, _, _ => by
    cases x
    exact ⟨[], trivial, fun a m => absurd m (by simp)⟩
  | .list ds, _, x, p, z => by
    obtain ⟨a, vs, rfl, ho, hall⟩ := well_list x
    have z2 : WData.weightAll ds ≤ 1048576 := z
    obtain ⟨A, h1, h2⟩ := area_all ds _ hall p fun d hd => Nat.le_trans (weight_mem hd) z2
    have k : ∀ b ∈ A, b ∈ a :: A := fun b hb => List.mem_cons_of_mem _ hb
    refine ⟨a :: A, List.mem_cons_self .., fun b hb => ?_⟩
    rcases List.mem_cons.mp hb with e | m
    · rw [e]
      exact ⟨vs, line_of (by rw [wellAll_len hall]; exact Nat.le_trans (PySem.W.length_le_weightAllW ds) z2), fun u hu => (h1 u hu).mono k, .inl ho⟩
    · exact (h2 b m).mono k
  | .tuple ds, _, x, p, z => by
    obtain ⟨a, vs, rfl, ho, hall⟩ := well_tuple x
    have z2 : WData.weightAll ds ≤ 1048576 := z
    obtain ⟨A, h1, h2⟩ := area_all ds _ hall p fun d hd => Nat.le_trans (weight_mem hd) z2
    have k : ∀ b ∈ A, b ∈ a :: A := fun b hb => List.mem_cons_of_mem _ hb
    refine ⟨a :: A, List.mem_cons_self .., fun b hb => ?_⟩
    rcases List.mem_cons.mp hb with e | m
    · rw [e]
      exact ⟨vs, line_of (by rw [wellAll_len hall]; exact Nat.le_trans (PySem.W.length_le_weightAllW ds) z2), fun u hu => (h1 u hu).mono k, .inr ho⟩
    · exact (h2 b m).mono k
  | .float _, _, _, p, _ => Bool.noConfusion (show false = true from p)
  | .dict _, _, _, p, _ => Bool.noConfusion (show false = true from p)
  | .bytearray _, _, _, p, _ => Bool.noConfusion (show false = true from p)
  | .set _, _, _, p, _ => Bool.noConfusion (show false = true from p)
  | .frozenset _, _, _, p, _ => Bool.noConfusion (show false = true from p)
  | .obj _ _, _, _, p, _ => Bool.noConfusion (show false = true from p)
theorem area_all : ∀ (ds : List WData) (vs : List Value), WellAll P h vs ds → plWs ds = true → (∀ d ∈ ds, d.weight ≤ 1048576) → ∃ A : List Addr, (∀ u ∈ vs, OkU A u) ∧ ∀ a ∈ A, ArgOb h A a
  | [], _, x, _, _ => by
    cases x
    exact ⟨[], fun u m => absurd m (by simp), fun a m => absurd m (by simp)⟩
  | d :: ds, _, x, p, z => by
    obtain ⟨v, vs, rfl, x1, x2⟩ := well_cons x
    have q : plW d = true ∧ plWs ds = true := Bool.and_eq_true_iff.mp p
    obtain ⟨A, a1, a2⟩ := area_one d v x1 q.1 (z d (List.mem_cons_self ..))
    obtain ⟨B, b1, b2⟩ := area_all ds vs x2 q.2 fun e he => z e (List.mem_cons_of_mem _ he)
    have kA : ∀ b ∈ A, b ∈ A ++ B := fun b hb => List.mem_append.mpr (.inl hb)
    have kB : ∀ b ∈ B, b ∈ A ++ B := fun b hb => List.mem_append.mpr (.inr hb)
    refine ⟨A ++ B, fun u hu => ?_, fun b hb => ?_⟩
    · rcases List.mem_cons.mp hu with e | m
      · rw [e]
        exact a1.mono kA
      · exact (b1 u m).mono kB
    · rcases List.mem_append.mp hb with m | m
      · exact (a2 b m).mono kA
      · exact (b2 b m).mono kB
end
end
def hoOf (o : Obj) : Option HO := match o.data with
  | .seq vs _ => if (o.cls == Value.type "list") = true then some (.frz o (.lst (vs.toList.map toV))) else some (.frz o (.tup (vs.toList.map toV)))
  | _ => none
def argH (K : PySem.W.Frag) (h : Heap) (A : List Addr) : Hp := fun b => if b ∈ A then (if (K.lookup b).isNone = true then (h.get? b).bind hoOf else none) else none
def OnlyF (H : Hp) : Prop := ∀ b, H b = none ∨ ∃ o u, H b = some (.frz o u)
theorem hoOf_lst (vs : List Value) : hoOf { cls := .type "list", data := .seq vs.toArray } = some (.frz { cls := .type "list", data := .seq vs.toArray } (.lst (vs.map toV))) := by
  show (if (Value.type "list" == Value.type "list") = true then some (HO.frz { cls := .type "list", data := .seq vs.toArray } (.lst (vs.toArray.toList.map toV))) else some (HO.frz { cls := .type "list", data := .seq vs.toArray } (.tup (vs.toArray.toList.map toV)))) = _
  rw [if_pos (beq_self_eq_true _)]
theorem hoOf_tup (vs : List Value) : hoOf { cls := .type "tuple", data := .seq vs.toArray } = some (.frz { cls := .type "tuple", data := .seq vs.toArray } (.tup (vs.map toV))) := by
  show (if (Value.type "tuple" == Value.type "list") = true then some (HO.frz { cls := .type "tuple", data := .seq vs.toArray } (.lst (vs.toArray.toList.map toV))) else some (HO.frz { cls := .type "tuple", data := .seq vs.toArray } (.tup (vs.toArray.toList.map toV)))) = _
  rw [if_neg (by decide)]
section
variable {P : Program} {w : World} {K : PySem.W.Frag} {h : Heap} {A : List Addr}
theorem argH_at {b : Addr} {o : Obj} (hb : b ∈ A) (hk : K.lookup b = none) (e : h.get? b = some o) : argH K h A b = hoOf o := by
  unfold argH
  rw [if_pos hb, hk, if_pos (show (none : Option Obj).isNone = true from rfl), e] <;> rfl
theorem of_argH {b : Addr} {u : HO} (q : argH K h A b = some u) : b ∈ A ∧ K.lookup b = none := by
  unfold argH at q
  by_cases hb : b ∈ A
  · rw [if_pos hb] at q
    cases hk : K.lookup b with
    | none => exact ⟨hb, rfl⟩
    | some o =>
      rw [hk, if_neg (by simp)] at q
      cases q
  · rw [if_neg hb] at q
    cases q
theorem argH_is (ar : ∀ a ∈ A, ArgOb h A a) {b : Addr} {u : HO} (q : argH K h A b = some u) : K.lookup b = none ∧ ∃ vs : List Value, vs.length ≤ sizeLine ∧ (∀ u ∈ vs, OkU A u) ∧
    ((h.get? b = some { cls := .type "list", data := .seq vs.toArray } ∧ u = .frz { cls := .type "list", data := .seq vs.toArray } (.lst (vs.map toV))) ∨
     (h.get? b = some { cls := .type "tuple", data := .seq vs.toArray } ∧ u = .frz { cls := .type "tuple", data := .seq vs.toArray } (.tup (vs.map toV)))) := by
  obtain ⟨hb, hk⟩ := of_argH q
  obtain ⟨vs, h1, h2, h3⟩ := ar b hb
  refine ⟨hk, vs, h1, h2, ?_⟩
  rcases h3 with e | e
  · rw [argH_at hb hk e, hoOf_lst] at q
    exact .inl ⟨e, (Option.some.inj q).symm⟩
  · rw [argH_at hb hk e, hoOf_tup] at q
    exact .inr ⟨e, (Option.some.inj q).symm⟩
theorem argH_only (ar : ∀ a ∈ A, ArgOb h A a) : OnlyF (argH K h A) := fun b => by
  cases q : argH K h A b with
  | none => exact .inl rfl
  | some u =>
    obtain ⟨_, vs, _, _, ⟨_, e⟩ | ⟨_, e⟩⟩ := argH_is ar q
    · exact .inr ⟨_, _, by rw [e]⟩
    · exact .inr ⟨_, _, by rw [e]⟩
theorem argH_ok (ar : ∀ a ∈ A, ArgOb h A a) : HOk P w (argH K h A) h := fun b u q => by
  obtain ⟨_, vs, h1, h2, ⟨e, rfl⟩ | ⟨e, rfl⟩⟩ := argH_is ar q
  · exact ⟨e, by rw [List.length_map]; exact h1, vs, _, vals_toV h2, e⟩
  · exact ⟨e, by rw [List.length_map]; exact h1, vs, vals_toV h2, _, e, rfl, _, rfl⟩
theorem seq_inj {c c' : Value} {vs us : List Value} (e : (some { cls := c, data := .seq vs.toArray } : Option Obj) = some { cls := c', data := .seq us.toArray }) : c = c' ∧ vs = us := by
  have e1 := Option.some.inj e
  have e2 : c = c' := congrArg Obj.cls e1
  have e3 : Data.seq vs.toArray = Data.seq us.toArray := congrArg Obj.data e1
  injection e3 with e4
  refine ⟨e2, ?_⟩
  have e5 := congrArg Array.toList e4
  simpa using e5
theorem argL (KX : K.In h) (ar : ∀ a ∈ A, ArgOb h A a) {a : Addr} {vs : List Value} (ha : a ∈ A) (e : h.get? a = some { cls := .type "list", data := .seq vs.toArray }) : (∀ u ∈ vs, OkU A u) ∧ SqL K (argH K h A) a (vs.map toV) := by
  obtain ⟨us, h1, h2, h3⟩ := ar a ha
  have hu : us = vs := by
    rcases h3 with q | q
    · rw [e] at q
      exact (seq_inj q).2.symm
    · rw [e] at q
      exact absurd (Value.type.inj (seq_inj q).1) (by decide)
  subst hu
  refine ⟨h2, ?_⟩
  cases hk : K.lookup a with
  | none => exact .inl (.inr ⟨_, by rw [argH_at ha hk e, hoOf_lst]⟩)
  | some o =>
    have e2 := KX a o hk
    rw [e] at e2
    obtain rfl := Option.some.inj e2
    exact .inr ⟨_, us.toArray, _, hk, rfl, rfl, rfl, by rw [List.size_toArray]; exact h1, by simpa using vals_toV h2⟩
theorem argT (KX : K.In h) (ar : ∀ a ∈ A, ArgOb h A a) {a : Addr} {vs : List Value} (ha : a ∈ A) (e : h.get? a = some { cls := .type "tuple", data := .seq vs.toArray }) : (∀ u ∈ vs, OkU A u) ∧ SqT K (argH K h A) a (vs.map toV) := by
  obtain ⟨us, h1, h2, h3⟩ := ar a ha
  have hu : us = vs := by
    rcases h3 with q | q
    · rw [e] at q
      exact absurd (Value.type.inj (seq_inj q).1) (by decide)
    · rw [e] at q
      exact (seq_inj q).2.symm
  subst hu
  refine ⟨h2, ?_⟩
  cases hk : K.lookup a with
  | none => exact .inl (.inr ⟨_, by rw [argH_at ha hk e, hoOf_tup]⟩)
  | some o =>
    have e2 := KX a o hk
    rw [e] at e2
    obtain rfl := Option.some.inj e2
    exact .inr ⟨_, us.toArray, _, hk, rfl, rfl, by rw [List.size_toArray]; exact h1, by simpa using vals_toV h2⟩
mutual
theorem dw_one {Pm : Params} (KX : K.In h) (ar : ∀ a ∈ A, ArgOb h A a) : ∀ (d : WData) (v : Value), Well Pm h v d → plW d = true → OkU A v → Dw K (argH K h A) (toV v) d
  | .none, _, x, _, _ => by
    cases x
    exact .non
  | .bool b, _, x, _, _ => by
    cases x
    exact .bl b
  | .int i, _, x, _, _ => by
    cases x
    exact .int i
  | .str s, _, x, _, _ => by
    cases x
    exact .str s
  | .bytes b, _, x, _, _ => by
    cases x
    have z := Dw.byt (K := K) (H := argH K h A) b.toArray
    exact z
  | .list ds, _, x, p, hu => by
    obtain ⟨a, vs, rfl, ho, hall⟩ := well_list x
    obtain ⟨h2, hs⟩ := argL KX ar hu ho
    exact .lst hs (dw_all KX ar ds _ hall p h2)
  | .tuple ds, _, x, p, hu => by
    obtain ⟨a, vs, rfl, ho, hall⟩ := well_tuple x
    obtain ⟨h2, hs⟩ := argT KX ar hu ho
    exact .tup hs (dw_all KX ar ds _ hall p h2)
  | .float _, _, _, p, _ => Bool.noConfusion (show false = true from p)
  | .dict _, _, _, p, _ => Bool.noConfusion (show false = true from p)
  | .bytearray _, _, _, p, _ => Bool.noConfusion (show false = true from p)
  | .set _, _, _, p, _ => Bool.noConfusion (show false = true from p)
  | .frozenset _, _, _, p, _ => Bool.noConfusion (show false = true from p)
  | .obj _ _, _, _, p, _ => Bool.noConfusion (show false = true from p)
theorem dw_all {Pm : Params} (KX : K.In h) (ar : ∀ a ∈ A, ArgOb h A a) : ∀ (ds : List WData) (vs : List Value), WellAll Pm h vs ds → plWs ds = true → (∀ u ∈ vs, OkU A u) → DwAll K (argH K h A) (vs.map toV) ds
  | [], _, x, _, _ => by
    cases x
    exact .nil
  | d :: ds, _, x, p, hu => by
    obtain ⟨v, vs, rfl, x1, x2⟩ := well_cons x
    have q : plW d = true ∧ plWs ds = true := Bool.and_eq_true_iff.mp p
    exact .cons (dw_one KX ar d v x1 q.1 (hu _ (List.mem_cons_self ..))) (dw_all KX ar ds vs x2 q.2 fun u m => hu u (List.mem_cons_of_mem _ m))
end
end
theorem spec_call {P : Program} {w : World} {K : PySem.W.Frag} {mg mb : Str → Option Value} {CX : CXT} {k : Nat} {fa : Addr} {fd : FuncData} {ps : List Str} {sp : Sp} {s₁ : Shared} {vals : List Value} {ds : List WData} {R : PySem.W.WRecords} {cl : Str → Option Addr} {d0 : WData}
    (KX : K.In s₁.heap) (hns : s₁.heap.Ns mainGlobals mg) (hb : s₁.heap.Ns builtinsNs mb) (hbb : ∀ x : Str, x ≠ "__name__" → mb x = bootBuiltins x) (hlim : s₁.heap.NoLimit) (hg : s₁.gens = #[])
    (hwl : WellAll w.params s₁.heap vals ds) (hpl : plWs ds = true) (hwt : ∀ d ∈ ds, d.weight ≤ 1048576) (hr : Room k callerA)
    (F : ∀ base : Heap, K.In base → base.Ns mainGlobals mg → FnOk P w K mg base CX k fa fd ps sp) (hbind : ∀ (s : Shared) (us : List Value), us.length = ps.length → BindsTo s fd ⟨us, []⟩ (ps.zip us)) (hlen : ds.length = ps.length)
    (hsp : ∀ (H : Hp) (xs : List V), OnlyF H → DwAll K H xs ds → sp xs H (fun v H' => Dw K H' v d0) fun _ _ _ => False)
    (hCX : ∀ H e s', CX [] H s₁ (fun _ _ _ => False) e s' → False) :
    codeAny (model P w) callerA (.call (.ref fa) ⟨vals, []⟩) (fun r s' => ∃ u as, r = .ok (.ret u) ∧ ReadsW R cl s'.heap u d0 as ∧ OldK s₁.heap s'.heap ∧ s'.os = s₁.os ∧ AllBare s'.gens) s₁ := by
  obtain ⟨A, ho, ar⟩ := area_all ds vals hwl hpl hwt
  have hO : OnlyF (argH K s₁.heap A) := argH_only ar
  have hok : HOk P w (argH K s₁.heap A) s₁.heap := argH_ok ar
  have hS := dw_all KX ar ds vals hwl hpl ho
  have hV := vals_toV ho
  have hK : ∀ b u, argH K s₁.heap A b = some u → K.lookup b = none := fun b u q => (argH_is ar q).1
  have noA : ∀ {b : Addr} {o : Obj} {es : Array DictEntry} {ep : Nat}, s₁.heap.get? b = some o → o.data = .dict es ep → argH K s₁.heap A b = none := fun {b o es ep} e d => by
    cases q : argH K s₁.heap A b with
    | none => rfl
    | some u =>
      obtain ⟨_, vs, _, _, ⟨e2, _⟩ | ⟨e2, _⟩⟩ := argH_is ar q
      · rw [e2] at e
        cases e
        have d' : Data.seq vs.toArray _ = Data.dict es ep := d
        cases d'
      · rw [e2] at e
        cases e
        have d' : Data.seq vs.toArray _ = Data.dict es ep := d
        cases d'
  generalize argH K s₁.heap A = H at hO hok hS hK noA
  have base_of : ∀ {b : Addr} {o : Obj}, s₁.heap.get? b = some o → H b = none → (hidT s₁.heap H).get? b = some o := fun e n => hidT_get e n
  have nsK : ∀ {b : Addr} {m : Str → Option Value}, s₁.heap.Ns b m → (hidT s₁.heap H).Ns b m := fun {b m} ⟨o, es, ep, e, d, r⟩ => ⟨o, es, ep, base_of e (noA e d), d, r⟩
  have nK : ∀ b o, K.lookup b = some o → H b = none := fun b o e => by
    cases q : H b with
    | none => rfl
    | some u =>
      rw [hK b u q] at e
      cases e
  have hKb : K.In (hidT s₁.heap H) := fun b o e => base_of (KX b o e) (nK b o e)
  have hM : Mod K mg (hidT s₁.heap H) := ⟨hKb, nsK hns, ⟨mb, nsK hb, hbb⟩, let ⟨mc, h1, h2⟩ := hlim; ⟨mc, nsK h1, h2⟩⟩
  have e0 : Env0 P w K mg (hidT s₁.heap H) callerA [] s₁ H := ⟨rfl, hM, fun b o e => of_hidT e, Nat.le_of_eq (hidT_size _ _), trivial, fun b hb => absurd (show b ∈ ([] : List Addr) from hb) (by simp), hok, .of_eq hg⟩
  have hl : vals.length = ps.length := by rw [wellAll_len hwl]; exact hlen
  refine codeAny_mono ((F _ hKb (nsK hns)).run callerA [] s₁ H ⟨vals, []⟩ vals (vals.map toV) _ _ hr e0 (hbind s₁ vals hl) hV (hsp H _ hO hS)) fun r s' x => ?_
  cases r with
  | error e => exact (hCX H e s' x).elim
  | ok fl =>
    cases fl with
    | next => exact False.elim x
    | brk => exact False.elim x
    | cont => exact False.elim x
    | ret u =>
      obtain ⟨v, H', os, bare, un, hok', r', q⟩ := x
      have kept : ∀ b o, s₁.heap.get? b = some o → s'.heap.get? b = some o := fun b o e => by
        cases q2 : H b with
        | none => exact un.keep b o e q2 (by intro z; exact absurd (show b ∈ ([] : List Addr) from z) (by simp)) (by simp)
        | some u2 =>
          rcases hO b with z | ⟨ob, u3, z⟩
          · rw [q2] at z
            cases z
          · have z2 := un.frzs b ob _ z
            obtain ⟨e1, _⟩ := hok b _ z
            obtain ⟨e2, _⟩ := hok' b _ z2
            rw [e] at e1
            cases e1
            exact e2
      have KX' : K.In s'.heap := fun b o e => kept b o (KX b o e)
      obtain ⟨as, hrd⟩ := Dw.reads (R := R) (cl := cl) hok' KX' d0 v u q r'
      exact ⟨u, as, rfl, hrd, OldK.of_keep kept, os, bare⟩
theorem layable_weight {ds : List WData} (h : WData.layableAll ds = true) : ∀ d ∈ ds, d.weight ≤ 1048576 := fun d hd =>
  (PySem.W.layableW_iff.mp (List.all_eq_true.mp h d hd)).2.2
theorem encAll_len : ∀ (cs : List Codec) (a : Codec.denoteAll cs), (Codec.encAll cs a).length = cs.length
  | [], _ => rfl
  | c :: cs, a => by
    show (Codec.encAll cs a.2).length + 1 = cs.length + 1
    rw [encAll_len cs a.2]
theorem walk_spec {r : OpenSpec} {k : Nat} {q : Program} {loose : List Str} {XP : (Str → Option Value) → Heap → Prop} {YP : World → Heap → Prop} {d : DefRec} {K : Params → PySem.W.Frag} {CX : World → CXT} {ps : List Str} {sp : World → Sp}
    (hwell : r.wellSaid = true) (hdf : d.params.defaults = []) (hlen : r.args.length = ps.length) (hr : Room k callerA)
    (hY : ∀ (w : World) (h : Heap), YP w h → (K w.params).In h)
    (F : ∀ (w : World) (mg : Str → Option Value) (fa : Addr) (h : Heap), YP w h → (K w.params).In h → h.Ns mainGlobals mg → mg d.name = some (.ref fa) →
      ∃ fd : FuncData, (∀ (s : Shared) (us : List Value), us.length = ps.length → BindsTo s fd ⟨us, []⟩ (ps.zip us)) ∧
        ∀ base : Heap, (K w.params).In base → base.Ns mainGlobals mg → FnOk r.prog w (K w.params) mg base (CX w) k fa fd ps (sp w))
    (hsp : ∀ (w : World) (H : Hp) (xs : List V) (a : Codec.denoteAll r.args), OnlyF H → Codec.withinAll r.args a = true → Codec.app r.args r.asked a = true → DwAll (K w.params) H xs (Codec.encAll r.args a) →
      sp w xs H (fun v H' => Dw (K w.params) H' v (r.ret.enc (Codec.app r.args r.f a))) fun _ _ _ => False)
    (hCX : ∀ (w : World) (H : Hp) (s : Shared) (e : Value) (s' : Shared), CX w [] H s (fun _ _ _ => False) e s' → False) :
    PySem.W.WalkOS q loose XP YP r d [] (fun f vs => PySem.call f vs) := by
  intro w s_0 s₁ mg mb G Y fa o pm cd doc dV kV ho hd hcd hD hmg hg args vals as hpre hlay hrd hwl hlo
  obtain ⟨a, e1, e2⟩ := PySem.W.os_pre_some hpre
  obtain ⟨e3, hwi⟩ := Codec.encAll_of_decAll r.args args a e1
  subst e3
  have KX := hY w _ Y
  obtain ⟨fd, hb, hF⟩ := F w mg fa _ Y KX G.T.g hmg
  refine PySem.W.enter_call (codeAny_mono (spec_call (R := []) (cl := classAt s_0.heap) (d0 := r.ret.enc (Codec.app r.args r.f a)) KX G.T.g G.T.b G.T.builtins G.T.nolimit hg hwl (pl_encAll _ _) (layable_weight hlay) hr hF hb (by rw [encAll_len]; exact hlen)
    (fun H xs hO hS => hsp w H xs a hO hwi e2 hS) fun H e s' => hCX w H s₁ e s') fun r' s' hq => ?_)
  obtain ⟨u, as', rfl, h1, h2, h3, h4⟩ := hq
  exact ⟨.inl ⟨u, _, as', rfl, fun _ => rfl, h1, (OpenSpec.post_iff hwell hwi _ _).mpr rfl, fun z => Bool.noConfusion (show false = true from z)⟩, h2, h3, h4⟩
end L2
end
section
set_option Elab.async false
set_option linter.all false
set_option maxRecDepth 100000
set_option maxHeartbeats 2000000
namespace L2
open PySem PySem.Spec PyProof.Rows
section
variable {prog : Program} {w : World} {A : Around} {E : Value → Shared → Prop} {h : Heap} {g : Array GenState} {d : Drawn} {t : Nat} {os : OsState} {C fI a : Addr} {names : List Str} {mA : Str → Option Value} {name : Str} {v : Value}
end
end L2
end
section
set_option Elab.async false
set_option linter.all false
set_option maxRecDepth 100000
set_option maxHeartbeats 2000000
namespace L2
open PySem PySem.Spec PyProof.Rows
open Builtin Builtin.ObjectAttr
section
variable {prog : Program} {w : World} {A : Around} {E : Value → Shared → Prop} {h : Heap} {g : Array GenState} {d : Drawn} {t : Nat} {os : OsState} {C fI a : Addr} {names : List Str} {mA : Str → Option Value} {name : Str} {v : Value} {o : Obj}
end
end L2
end
section
set_option Elab.async false
set_option linter.all false
set_option maxRecDepth 100000
set_option maxHeartbeats 2000000
namespace L2
open PySem PySem.Spec PyProof.Rows
open Builtin Builtin.ObjectAttr
section
variable {prog : Program} {w : World} {A : Around} {E : Value → Shared → Prop} {h : Heap} {g : Array GenState} {d : Drawn} {t : Nat} {os : OsState} {C fI a : Addr} {names : List Str} {mA : Str → Option Value} {name : Str} {v : Value} {o : Obj}
end
end L2
end
section
set_option Elab.async false
set_option linter.all false
set_option maxRecDepth 100000
set_option maxHeartbeats 2000000
namespace L2
open PySem PySem.Spec PyProof.Rows
section
variable {P : Program} {w : World} {H : Hp} {h : Heap} {C a dx t : Addr} {fs : List (Str × V)}
end
section
variable {P : Program} {w : World} {fs : List Addr} {H : Hp} {h h' : Heap} {a dx : Addr} {o1 o2 : HO}
end
section
variable {X : Cx} {pins : List (Addr × Obj)} {σ : St} {H : Hp} {s : Shared} {a C fI dx t : Addr} {names : List Str} {fs : List (Str × V)} {f : Str} {v : V} {A : Around} {E : Value → Shared → Prop}
end
section
variable {X : Cx} {o e value : Expr} {f : Str} {pos pos' tpos : Pos} {ta tv : TE} {C fI : Addr} {names : List Str}
end
end L2
end
section
set_option Elab.async false
set_option linter.all false
set_option maxRecDepth 100000
set_option maxHeartbeats 2000000
namespace L2
open PySem PySem.Spec PyProof.Rows
section
variable {M : Model} {A : Around} {E : Value → Shared → Prop} {s : Shared}
structure Left (l : List Env) (e : Addr) (oe : Obj) (no : Addr → Prop) (h h' : Heap) : Prop where
  keep : ∀ b o, b ∉ frs l → b ≠ e → ¬ no b → h.get? b = some o → h'.get? b = some o
  slot : ∀ b o, b ∈ frs l → h.get? b = some o → ∃ sl, h'.get? b = some { o with slots := sl }
  exc : ∃ T oT ts, h'.get? e = some (oe.mapFields (·.setIfInBounds 1 (.ref T))) ∧ h.get? T = none ∧ T ≠ e ∧ h'.get? T = some oT ∧ oT.data = .fields ts ∧ ts[3]? = some .none
  there : ∀ b o, h.get? b = some o → ∃ o', h'.get? b = some o'
theorem xentry {base : Heap} {env : Env} {outer : List Env} {L e : Addr} {oe : Obj} {vs : Array Value} {head : Value} {hadNext : Bool} {Q : Unit → Shared → Prop}
    (hfr : A.frames = some (env :: outer)) (hl : s.heap.FunFrames base (env :: outer)) (hf : env.frame = some L)
    (he : s.heap.get? e = some oe) (hd : oe.data = .fields vs) (hsz : 1 < vs.size)
    (h : ∀ h', Left (env :: outer) e oe (fun _ => False) s.heap h' → Q () { s with heap := h' }) :
    wpAny M A (do let a ← frameOf env; let pl ← entryPlaceOf L hadNext; let b ← EntryCells.newEntry head a .none (rawInt L) .none pl; setField (.ref e) 1 b) (fun _ s' => wpAny M A (setFlight (.ref e) none) Q E s') E s := by
  have hene : e ∉ (env :: outer).filterMap (·.frame) := fun hm => by
    obtain ⟨_, o, ho, hnf⟩ := hl.mem hm
    rw [he] at ho; injection ho with ho; subst ho; exact hnf vs hd
  refine wpAny_bind (wpAny_frameOf_fun hfr hl hf fun h₁ hs₁ => ?_)
  refine wpAny_bind (wpAny_entryPlaceOf fun pl hpl => ?_)
  unfold EntryCells.newEntry newFields
  refine wpAny_bind (wpAny_newObj_type ?_ (hpl.sizeOk5 _ _ _ _ _))
  have he₁ : h₁.get? e = some oe := (hs₁.2.1 e hene).trans he
  have he₂ := Heap.get?_push_of_some (h := h₁) { cls := .type "traceback", dict := none, data := .fields ([head, .ref L, .none, rawInt L, .none] ++ (if pl.isEmpty then List.replicate 6 Value.none else pl)).toArray } he₁
  refine wpAny_setField he₂ hd hsz ?_
  have hTe : h₁.objs.size ≠ e := Nat.ne_of_gt (Heap.lt_size he₁)
  have hd₃ := Obj.data_mapFields hd (·.setIfInBounds 1 (Value.ref h₁.objs.size))
  have he₃ := Heap.get?_update_self (Obj.mapFields (·.setIfInBounds 1 (Value.ref h₁.objs.size))) he₂ (Obj.isFreed_of_fields hd₃)
  have hT₃ := (Heap.get?_update_other (h₁.push { cls := .type "traceback", dict := none, data := .fields ([head, .ref L, .none, rawInt L, .none] ++ (if pl.isEmpty then List.replicate 6 Value.none else pl)).toArray })
    (Obj.mapFields (·.setIfInBounds 1 (Value.ref h₁.objs.size))) (Ne.symm hTe)).trans (Heap.get?_push_size h₁ rfl)
  unfold setFlight
  refine wpAny_bind (wpAny_field he₃ hd₃ (x := .ref h₁.objs.size) (by simp [hsz]) ?_)
  rw [if_pos (show (Value.ref h₁.objs.size != Value.none) = true from by simp)]
  refine wpAny_setField hT₃ rfl (by simp only [List.size_toArray, List.length_append, List.length_cons, List.length_nil] <;> omega) (h _ ?_)
  have keep : ∀ b o, b ≠ e → h₁.get? b = some o →
      (((h₁.push { cls := .type "traceback", dict := none, data := .fields ([head, .ref L, .none, rawInt L, .none] ++ (if pl.isEmpty then List.replicate 6 Value.none else pl)).toArray }).update e (Obj.mapFields (·.setIfInBounds 1 (Value.ref h₁.objs.size)))).update h₁.objs.size
        (Obj.mapFields (·.setIfInBounds 3 ((none : Option Addr).elim Value.none fun f => rawInt f)))).get? b = some o := fun b o hbe hb => by
    have hbT : h₁.objs.size ≠ b := Nat.ne_of_gt (Heap.lt_size hb)
    rw [Heap.get?_update_other _ _ hbT, Heap.get?_update_other _ _ (Ne.symm hbe)]
    exact Heap.get?_push_of_some _ hb
  have exc4 := (Heap.get?_update_other (((h₁.push { cls := .type "traceback", dict := none, data := .fields ([head, .ref L, .none, rawInt L, .none] ++ (if pl.isEmpty then List.replicate 6 Value.none else pl)).toArray }).update e (Obj.mapFields (·.setIfInBounds 1 (Value.ref h₁.objs.size)))))
        (Obj.mapFields (·.setIfInBounds 3 ((none : Option Addr).elim Value.none fun f => rawInt f))) hTe).trans he₃
  refine ⟨fun b o hb hbe _ ho => keep b o hbe ((hs₁.2.1 b hb).trans ho), fun b o hb ho => ?_, ⟨h₁.objs.size, _, _, exc4, ?_, hTe, Heap.get?_update_self _ hT₃ (Obj.isFreed_of_fields (Obj.data_mapFields rfl _)), Obj.data_mapFields rfl _, by first | (simp; done) | (rcases hpl with rfl | ⟨_, _, _, _, _, _, _, rfl⟩ <;> simp)⟩, fun b o ho => ?_⟩
  · obtain ⟨sl, hs⟩ := hs₁.2.2 b o ho
    exact ⟨sl, keep b _ (fun z => hene (by rw [← z]; exact hb)) hs⟩
  · cases q : s.heap.get? h₁.objs.size with
    | none => rfl
    | some o =>
      obtain ⟨sl, hs⟩ := hs₁.2.2 _ o q
      exact absurd (Heap.lt_size hs) (Nat.lt_irrefl _)
  · by_cases z : b = e
    · subst z; exact ⟨_, exc4⟩
    · obtain ⟨sl, hs⟩ := hs₁.2.2 b o ho
      exact ⟨_, keep b _ z hs⟩
theorem xnoting {base : Heap} {env : Env} {outer : List Env} {L e : Addr} {oe : Obj} {vs : Array Value} {no : Addr → Prop} {Q : Unit → Shared → Prop}
    (hfr : A.frames = some (env :: outer)) (hl : s.heap.FunFrames base (env :: outer)) (hf : env.frame = some L)
    (he : s.heap.get? e = some oe) (hd : oe.data = .fields vs)
    (h1 : vs[1]? = some .none ∨ ∃ T oT ts, vs[1]? = some (.ref T) ∧ T ≠ e ∧ no T ∧ s.heap.get? T = some oT ∧ oT.data = .fields ts ∧ ts[3]? = some .none)
    (h : ∀ h', Left (env :: outer) e oe no s.heap h' → Q () { s with heap := h' }) : wpAny M A (noteFrame (.ref e) env) (fun _ s' => wpAny M A (setFlight (.ref e) none) Q E s') E s := by
  unfold noteFrame
  simp only [hf]
  rcases h1 with h1 | ⟨T, oT, ts, h1, hTe, hno, hT, hdT, h3⟩
  · refine wpAny_bind (wpAny_field he hd h1 ?_)
    rw [if_neg (by decide)]
    exact xentry hfr hl hf he hd (Array.getElem?_eq_some_iff.mp h1).1 fun h' x => h h' ⟨fun b o a1 a2 _ => x.keep b o a1 a2 fun z => z, x.slot, x.exc, x.there⟩
  · refine wpAny_bind (wpAny_field he hd h1 ?_)
    rw [if_pos (show (Value.ref T != Value.none) = true from by simp)]
    refine wpAny_bind (wpAny_field hT hdT h3 ?_)
    rw [if_neg (show ¬ ((Value.none == rawInt L) = true) from by simp [rawInt])]
    refine wpAny_bind (wpAny_setField hT hdT (Array.getElem?_eq_some_iff.mp h3).1 ?_)
    have other : ∀ b, b ≠ T → (s.heap.update T (Obj.mapFields (·.setIfInBounds 3 Value.none))).get? b = s.heap.get? b := fun b hb => Heap.get?_update_other _ _ (Ne.symm hb)
    have self := Heap.get?_update_self (Obj.mapFields (·.setIfInBounds 3 Value.none)) hT (Obj.isFreed_of_fields (Obj.data_mapFields hdT _))
    have noRecord : ∀ b o, s.heap.get? b = some o → (∀ vs, o.data ≠ .fields vs) → b ≠ T := fun b o hb hnf q => by
      rw [q, hT] at hb; injection hb with hb; subst hb; exact hnf ts hdT
    have noFr : ∀ b ∈ frs (env :: outer), b ≠ T := fun b hb => by
      obtain ⟨_, o, ho, hnf⟩ := hl.mem hb
      exact noRecord b o ho hnf
    refine xentry hfr (hl.of_keeps fun b o hb hnf => ⟨o, (other b (noRecord b o hb hnf)).trans hb, rfl⟩) hf ((other e (Ne.symm hTe)).trans he) hd (Array.getElem?_eq_some_iff.mp h1).1 fun h' x => h h' ⟨fun b o a1 a2 a3 ho => x.keep b o a1 a2 (fun z => z) ((other b fun q => a3 (by rw [q]; exact hno)).trans ho), fun b o hb ho => x.slot b o hb ((other b (noFr b hb)).trans ho), ?_, fun b o ho => ?_⟩
    · obtain ⟨T', oT', ts', y1, y2, y3⟩ := x.exc
      refine ⟨T', oT', ts', y1, ?_, y3⟩
      by_cases z : T' = T
      · rw [z, self] at y2; cases y2
      · rw [← other T' z]; exact y2
    · by_cases z : b = T
      · rw [z] at ho ⊢
        exact x.there T _ self
      · exact x.there b o ((other b z).trans ho)
theorem xleaving {base : Heap} {env : Env} {outer : List Env} {L e : Addr} {oe : Obj} {vs : Array Value} {no : Addr → Prop} {Q : Unit → Shared → Prop}
    (hfr : A.frames = some (env :: outer)) (hl : s.heap.FunFrames base (env :: outer)) (hf : env.frame = some L) (he : s.heap.get? e = some oe) (hd : oe.data = .fields vs)
    (h1 : vs[1]? = some .none ∨ ∃ T oT ts, vs[1]? = some (.ref T) ∧ T ≠ e ∧ no T ∧ s.heap.get? T = some oT ∧ oT.data = .fields ts ∧ ts[3]? = some .none)
    (h : ∀ h', Left (env :: outer) e oe no s.heap h' → Q () { s with heap := h' }) : wpAny M A (leaving env (.ref e)) Q E s := by
  unfold leaving
  exact wpAny_bind (xnoting hfr hl hf he hd h1 h)
end
end L2
end
section
set_option Elab.async false
set_option linter.all false
set_option maxRecDepth 100000
set_option maxHeartbeats 2000000
namespace L2
open PySem PySem.Spec PyProof.Rows
theorem ObjOk.ex {P : Program} {w : World} {H : Hp} {h : Heap} {a : Addr} {o : HO} (x : ObjOk P w H h a o) : ∃ ob, h.get? a = some ob := by
  cases o with
  | lst xs => obtain ⟨_, _, _, _, e⟩ := x; exact ⟨_, e⟩
  | tup xs => obtain ⟨_, _, _, o, e, _⟩ := x; exact ⟨_, e⟩
  | dK kvs => obtain ⟨_, _, _, _, o, _, _, e, _⟩ := x; exact ⟨_, e⟩
  | dT kvs => obtain ⟨_, _, _, _, o, _, _, e, _⟩ := x; exact ⟨_, e⟩
  | set S n => obtain ⟨o, _, _, _, e, _⟩ := x; exact ⟨_, e⟩
  | ins C dx fs => obtain ⟨_, _, _, e, _⟩ := x; exact ⟨_, e⟩
  | own y => obtain ⟨_, e⟩ := x; exact ⟨_, e⟩
  | xd fs => obtain ⟨_, ⟨_, _, _, e, _⟩, _⟩ := x; exact ⟨_, e⟩
  | rng lo hi => obtain ⟨_, _, _, e⟩ := x; exact ⟨_, e⟩
  | frz ob u => obtain ⟨e, _⟩ := x; exact ⟨_, e⟩
  | tbl ps => exact ⟨_, (show h.get? a = some _ from x)⟩
  | met f y => exact ⟨_, (show h.get? a = some _ from x)⟩
  | ext φ => obtain ⟨_, ⟨_, e⟩, _⟩ := x; exact ⟨_, e⟩
theorem HOk.non {P : Program} {w : World} {H : Hp} {h : Heap} {a : Addr} (x : HOk P w H h) (e : h.get? a = none) : H a = none := by
  cases q : H a with
  | none => rfl
  | some u =>
    obtain ⟨ob, e'⟩ := (x a u q).ex
    rw [e] at e'; cases e'
structure Fly (H' : Hp) (h h' : Heap) (a C dx : Addr) : Prop where
  na : h.get? a = none
  ha : H' a = none
  ne : dx ≠ a
  tr : ∃ vs sl T oT ts, h'.get? a = some { cls := .ref C, dict := some dx, data := .fields vs, slots := sl } ∧ vs[1]? = some (.ref T) ∧ h.get? T = none ∧ H' T = none ∧ T ≠ a ∧ h'.get? T = some oT ∧ oT.data = .fields ts ∧ ts[3]? = some .none
def CX1 (P : Program) (w : World) : CXT := fun outer H s E e s' => ∃ (a C dx : Addr) (H' : Hp), e = .ref a ∧ s'.os = s.os ∧ AllBare s'.gens ∧ Un (frs outer) [] H H' s.heap s'.heap ∧ HOk P w H' s'.heap ∧ Fly H' s.heap s'.heap a C dx ∧ E (.ref C) (some dx) H'
structure XOut (X : Cx) (E : XK) : Prop where
  out : ∀ e s', wpAny (model X.prog X.w) X.A (leaving X.env e) (fun _ s'' => CX1 X.prog X.w X.outer X.H_0 X.s_0 E e s'') (fun e' s'' => CX1 X.prog X.w X.outer X.H_0 X.s_0 E e' s'') s' → X.xe e s'
  stk : X.stack = X.env :: X.outer
  fr : X.env.frame = some X.env.locals
  ex : X.ex = []
section
variable {X : Cx} {pins : List (Addr × Obj)} {σ : St} {H H' : Hp} {s s' : Shared} {E : XK} {a C dx : Addr}
theorem Inv.old (I : Inv X pins σ H s) (ex : X.ex = []) {b : Addr} (e : s.heap.get? b = none) : X.s_0.heap.get? b = none := by
  cases q : X.s_0.heap.get? b with
  | none => rfl
  | some o =>
    obtain ⟨o', e'⟩ := I.base.there b o q (by rw [ex]; simp)
    rw [e] at e'; cases e'
theorem fly_out {vs : Array Value} {sl : Array (Option Value)} (I : Inv X pins σ H s) (O : XOut X E) (na : X.s_0.heap.get? a = none) (ha : H a = none) (hne : dx ≠ a)
    (he : s.heap.get? a = some { cls := .ref C, dict := some dx, data := .fields vs, slots := sl })
    (h1 : vs[1]? = some .none ∨ ∃ T oT ts, vs[1]? = some (.ref T) ∧ T ≠ a ∧ (X.s_0.heap.get? T = none ∧ H T = none) ∧ s.heap.get? T = some oT ∧ oT.data = .fields ts ∧ ts[3]? = some .none)
    (hE : E (.ref C) (some dx) H) : X.xe (.ref a) s := by
  refine O.out _ _ ?_
  have hst := I.stack
  rw [O.stk] at hst
  refine xleaving (no := fun T => X.s_0.heap.get? T = none ∧ H T = none) (by rw [I.ok.frames, O.stk]) hst O.fr he rfl h1 fun h' x => ?_
  have frm : ∀ b, b ∈ frs (X.env :: X.outer) → H b = none := fun b hb => I.stkFree b (by rw [O.stk]; exact hb)
  have ex0 : ∀ b, b ∉ X.ex := fun b z => by rw [O.ex] at z; simp at z
  have nloc : ∀ b o, X.s_0.heap.get? b = some o → b ∉ X.fs → b ∉ frs (X.env :: X.outer) := fun b o e hb z => by
    rcases List.mem_cons.mp (show b ∈ X.env.locals :: X.fs from by unfold frs at z; rw [List.filterMap_cons, O.fr] at z; exact z) with q | q
    · exact Nat.ne_of_lt (Nat.lt_of_lt_of_le (Heap.lt_size e) I.ok.above) q
    · exact hb q
  have inFr : ∀ b, b ∈ X.fs → b ∈ frs (X.env :: X.outer) := fun b hb => by unfold frs; rw [List.filterMap_cons, O.fr]; exact List.mem_cons_of_mem _ hb
  obtain ⟨T, oT, ts, y1, y2, y3, y4, y5, y6⟩ := x.exc
  refine ⟨a, C, dx, H, rfl, I.os, I.bare, ⟨fun b o e n hb _ => ?_, fun b o e n hb _ => ?_, fun b o e n _ => I.base.free b o e n (ex0 b), fun b o e _ => ?_, I.base.tups, I.base.frzs, I.base.tbls⟩, fun b u e => ?_, ⟨na, ha, hne, _, _, T, oT, ts, y1, ?_, I.old O.ex y2, I.hok.non y2, y3, y4, y5, y6⟩, hE⟩
  · refine x.keep b o (nloc b o e hb) (fun z => ?_) (fun z => ?_) (I.base.keep b o e n hb (ex0 b))
    · rw [z, na] at e; cases e
    · rw [z.1] at e; cases e
  · obtain ⟨sl1, e1⟩ := I.base.slot b o e n hb (ex0 b)
    obtain ⟨sl2, e2⟩ := x.slot b _ (inFr b hb) e1
    exact ⟨sl2, e2⟩
  · obtain ⟨o1, e1⟩ := I.base.there b o e (ex0 b)
    exact x.there b o1 e1
  · have kp : ∀ c q, H c ≠ none → s.heap.get? c = some q → h'.get? c = some q := fun c q n e' => x.keep c q (fun z => n (frm c z)) (fun z => n (by rw [z]; exact ha)) (fun z => n z.2) e'
    refine (I.hok b u e).stay (fun c v hc q => kp c v ?_ q) (fun _ q => q) fun _ _ q => q
    rcases hc with rfl | hc
    · rw [e]; simp
    · rw [hc]; simp
  · have hsz : 1 < vs.size := by
      rcases h1 with h1 | ⟨_, _, _, h1, _⟩ <;> exact (Array.getElem?_eq_some_iff.mp h1).1
    simp [hsz]
theorem passX (O : XOut X E) : Passes (CX1 X.prog X.w) X E := by
  intro pins σ H s e s' I h
  obtain ⟨a, C, dx, H', rfl, os, bare, un, hok, fl, hE⟩ := h
  have I' : Inv X pins σ H' s' := I.call' os un hok bare (fun b z => absurd z (by simp))
  obtain ⟨vs, sl, T, oT, ts, e1, e2, e3, e4, e5, e6, e7, e8⟩ := fl.tr
  exact fly_out I' O (I.old O.ex fl.na) fl.ha fl.ne e1 (.inr ⟨T, oT, ts, e2, e5, ⟨I.old O.ex e3, e4⟩, e6, e7, e8⟩) hE
end
section
variable {X : Cx} {pins : List (Addr × Obj)} {σ : St} {H H' : Hp} {s s' : Shared} {E : XK} {a C dx t : Addr}
end
section
variable {X : Cx} {k : Nat} {C fI : Addr} {fdI : FuncData} {names ks psI : List Str} {E : XK} {x : Str} {p pos cpos : Pos} {e : Expr} {es : List Expr} {t : TA}
end
section
variable {P : Program} {w : World} {K : PySem.W.Frag} {mg : Str → Option Value} {base : Heap}
theorem Fun.okX {x qual : Str} {st : Stmt} {f : Addr} {fd : FuncData} {N ps : List Str} {k : Nat} {sp : Sp} (F : Fun K x qual st f fd) (S : FnScope N ps (defScope st)) (len : ∀ vs H Q E, sp vs H Q E → vs.length = ps.length)
    (hbody : ∀ (cdv : Value) (A : Around) (outer : List Env) (s : Shared) (H : Hp) (vs : List V) (Q : VK) (E : XK), Room k (A.deeper (envOfC qual (defScope st) s.heap.objs.size f cdv)) → sp vs H Q E →
      ∃ t, PSs (cxOf (CX1 P w) P w K mg base N qual (defScope st) f cdv A outer s H E) (defBody st) t ∧ t { nx := fun _ H' => Q .non H', rt := Q } (start N vs) H) : FnOk P w K mg base (CX1 P w) (k + 1) f fd ps sp := by
  obtain ⟨oc, od, kV, doc, pm, an, cdv, ct, osl, rfl, lk, hcd⟩ := F.ex
  refine fn_of lk hcd S len fun A outer s H vs Q E hr hsp => ?_
  obtain ⟨t, h, q⟩ := hbody cdv A outer s H vs Q E hr hsp
  exact ⟨t, h, q⟩
theorem xout {N : List Str} {qual : Str} {sc : Scope} {f : Addr} {cdv : Value} {A : Around} {outer : List Env} {s : Shared} {H : Hp} {E : XK} : XOut (cxOf (CX1 P w) P w K mg base N qual sc f cdv A outer s H E) E :=
  ⟨fun _ _ h => h, rfl, rfl, rfl⟩
theorem own1 {N : List Str} {qual : Str} {sc : Scope} {f : Addr} {cdv : Value} {A : Around} {outer : List Env} {s : Shared} {H : Hp} {E : XK} :
    PassesOwn (model P w) (cxOf (CX1 P w) P w K mg base N qual sc f cdv A outer s H E).A (cxOf (CX1 P w) P w K mg base N qual sc f cdv A outer s H E).env (cxOf (CX1 P w) P w K mg base N qual sc f cdv A outer s H E).xe := PassesOwn.leaving
end
end L2
end
section
set_option Elab.async false
set_option linter.all false
set_option maxRecDepth 100000
set_option maxHeartbeats 2000000
namespace L2
open PySem PySem.Spec PyProof.Rows
section
variable {X : Cx} {pins : List (Addr × Obj)} {σ : St} {H : Hp} {s : Shared} {a : Addr} {oe : Obj} {no : Addr → Prop} {h' : Heap}
end
section
variable {X : Cx} {pins : List (Addr × Obj)} {σ : St} {H : Hp} {s : Shared} {a : Addr}
end
section
variable {X : Cx} {k : Nat} {C fI f : Addr} {fd : FuncData} {names ps : List Str} {sp : Sp} {x xc y n : Str} {p pc py pos cpos apos hpos : Pos} {e : Expr} {es : List Expr} {t : TA} {th : TS} {b₀ : Stmt} {suite : List Stmt} {i j : Nat}
end
end L2
end
section
set_option Elab.async false
set_option linter.all false
set_option maxRecDepth 100000
set_option maxHeartbeats 2000000
namespace L2
open PySem PySem.Spec PyProof.Rows
section
variable {X : Cx} {k : Nat} {f : Addr} {fd : FuncData} {ps : List Str} {sp : Sp} {x : Str} {p pos : Pos} {e : Expr} {es : List Expr} {t : TA}
end
end L2
end
section
set_option Elab.async false
set_option linter.all false
set_option maxRecDepth 100000
set_option maxHeartbeats 2000000
namespace HT
open PySem PySem.Spec PyProof.Rows
section
open PySem.SeqAt
open PySem.AutoSeq1 (wpAny_loadPart')
open PySem.MeetsSeq PySem.MeetsSeq2 PySem.MeetsSeq3
end
end HT
end
section
set_option Elab.async false
set_option linter.all false
set_option maxRecDepth 100000
set_option maxHeartbeats 2000000
namespace HT
open PySem PySem.Spec PyProof.Rows
section
variable {prog : Program} {w : World} {A : Around} {E : Value → Shared → Prop} {s : Shared}
end
section
open PySem.AutoSeq1 (wpAny_loadPart')
end
end HT
namespace L2
open PySem PySem.Spec PyProof.Rows
section
variable {X : Cx}
end
end L2
end
section
set_option Elab.async false
set_option linter.all false
set_option maxRecDepth 100000
set_option maxHeartbeats 2000000
namespace L2
open PySem PySem.Spec PyProof.Rows
structure Cal (P : Program) (w : World) (K : PySem.W.Frag) (mg : Str → Option Value) (base : Heap) (x : Str) (k : Nat) (ps : List Str) (sp : Sp) : Prop where
  ex : ∃ f fd, FnOk P w K mg base (CX1 P w) k f fd ps sp ∧ mg x = some (.ref f) ∧ PySem.W.keepIn K (.ref f) = true ∧ Binds K fd ps []
def tFn (sp : Sp) (E : XK) (t : TA) : TE := fun σ H Q => t σ H fun vs H1 => sp vs H1 Q E
section
variable {X : Cx} {k : Nat} {C f : Addr} {ps ks : List Str} {sp : Sp} {E : XK} {x : Str} {p pos : Pos} {e : Expr} {es : List Expr} {t : TA}
theorem pe_fn (c : Cal X.prog X.w X.K X.mg X.base x k ps sp) (hr : Room k X.A) (O : XOut X E) (hg : Gl X x) (ha : PA X (e :: es) t)
    (hdb : (x == ("__debug__" : Str)) = false := by decide) (he : starEach (e :: es) X.env = (false, eval e X.env) :: starEach es X.env := by rfl) (hpl : (backTo pos (starEach es X.env)).any (·.1) = false := by rfl) :
    PE X (.Call (.Name x p) (e :: es) [] pos) (tFn sp E t) := by
  obtain ⟨f, fd, F, hm, hk, hb⟩ := c.ex
  intro pins s σ H Q I h
  refine wpAny_Call_Name_kw (ld_glob I hg hm ?_ hdb)
  refine PySem.W.callWith_K (h₀ := X.base) I.ok.mod.kin hk (thn (ha pos pins s σ H _ I h) fun us s1 ⟨vs, H1, I1, r, q⟩ => ⟨I1.kIn, ?_⟩) he hpl
  have q' : sp (vs ++ []) H1 Q E := by rw [List.append_nil]; exact q
  exact run_fn F hr hb .nil (passX O) I1 r q'
def spInit (C : Addr) (ks : List Str) : Sp := fun vs H Q _ => ∃ (a dx : Addr) (ys : List V), vs = .ref a :: ys ∧ ys.length = ks.length ∧ H a = some (.ins C dx []) ∧
  ∀ H' : Hp, H' a = some (.ins C dx (ks.zip ys)) → (∀ b o, H b = some o → b ≠ a → H' b = some o) → Q .non H'
structure Mak (P : Program) (w : World) (K : PySem.W.Frag) (mg : Str → Option Value) (base : Heap) (x : Str) (C : Addr) (k : Nat) (ks : List Str) : Prop where
  ex : ∃ f fd ps, FnOk P w K mg base (CX1 P w) k f fd ps (spInit C ks) ∧ mg x = some (.ref C) ∧ Mk K C f ∧ Binds K fd ps []
def tMk (C : Addr) (ks : List Str) (t : TA) : TE := fun σ H Q => t σ H fun vs H1 => vs.length = ks.length ∧ ∀ (a dx : Addr) (H2 : Hp), H1 a = none → Same H1 H2 → H2 a = some (.ins C dx (ks.zip vs)) → Q (.ref a) H2
theorem pe_mk (c : Mak X.prog X.w X.K X.mg X.base x C k ks) (hr : Room (k + 1) X.A) (O : XOut X E) (hg : Gl X x) (ha : PA X (e :: es) t)
    (hdb : (x == ("__debug__" : Str)) = false := by decide) (he : starEach (e :: es) X.env = (false, eval e X.env) :: starEach es X.env := by rfl) (hpl : (backTo pos (starEach es X.env)).any (·.1) = false := by rfl) :
    PE X (.Call (.Name x p) (e :: es) [] pos) (tMk C ks t) := by
  obtain ⟨f, fd, ps, F, hm, M, hb⟩ := c.ex
  intro pins s σ H Q I h
  refine wpAny_Call_Name_kw (ld_glob I hg hm ?_ hdb)
  refine PySem.W.callWith_K (h₀ := X.base) I.ok.mod.kin M.kp (thn (ha pos pins s σ H _ I h) fun us s1 ⟨vs, H1, I1, r, hl, q⟩ => ⟨I1.kIn, ?_⟩) he hpl
  refine run_make M F hr hb .nil (passX O) I1 r fun a dx na nd hne => ⟨a, dx, vs, by rw [List.append_nil], hl, upd_same, fun H' h1 h2 => ⟨rfl, ?_⟩⟩
  exact q a dx H' na (Same.made na nd h2) h1
end
section
variable {X : Cx} {k : Nat} {C : Addr} {ks : List Str} {E : XK} {x : Str} {p pos cpos : Pos} {e : Expr} {es : List Expr} {t : TA}
end
theorem for_gen {J : It} {n : Nat} {g : TG} {tb : TS} {D : Ends} {σ : St} {H : Hp} (Pv : Nat → St → Hp → Prop) (h0 : Pv 0 σ H) (hgo : ∀ i σ H, i < n → Pv i σ H → J.go i H) (hst : ∀ σ H, Pv n σ H → J.stop n H)
    (hs : ∀ i σ H x H', i < n → Pv i σ H → J.yld i H x H' → g x σ H' fun σ2 H2 => tb { D with nx := Pv (i + 1), ct := Pv (i + 1), bk := D.nx } σ2 H2) (hd : ∀ σ H, Pv n σ H → D.nx σ H) :
    ∃ W : Nat → Nat → St → Hp → Prop, (∃ m, W 0 m σ H) ∧ ∀ i m σ H, W i m σ H →
      (J.stop i H ∧ D.nx σ H) ∨ (J.go i H ∧ ∃ N : St → Hp → Prop, (∀ σ' H', N σ' H' → ∃ m', m' < m ∧ W (i + 1) m' σ' H') ∧ ∀ x H', J.yld i H x H' → g x σ H' fun σ2 H2 => tb { D with nx := N, ct := N, bk := D.nx } σ2 H2) := by
  refine ⟨fun i m σ H => m = n - i ∧ i ≤ n ∧ Pv i σ H, ⟨n, by simp, Nat.zero_le _, h0⟩, ?_⟩
  rintro i m σ H ⟨rfl, hi, p⟩
  by_cases hlt : i < n
  · exact .inr ⟨hgo i σ H hlt p, Pv (i + 1), fun σ' H' p' => ⟨n - (i + 1), by omega, rfl, hlt, p'⟩, fun x H' y => hs i σ H x H' hlt p y⟩
  · have e : i = n := by omega
    subst e
    exact .inl ⟨hst σ H p, hd σ H p⟩
theorem Same.upd {H H' : Hp} {l : Addr} {o : HO} (s : Same H H') (n : H l = none) : Same H (upd H' l o) := fun b u e => by rw [upd_ne (ne_of_none e n)]; exact s b u e
theorem Same.new {H : Hp} {l : Addr} {o : HO} (n : H l = none) : Same H (L2.upd H l o) := (Same.refl H).upd n
def constsIn (K : PySem.W.Frag) (l : List (Str × Int)) : Bool := l.all fun p => match PySem.W.nsIn K mainGlobals p.1 with | some (some (.int y _)) => y == p.2 | _ => false
theorem pe_cst {X : Cx} {x : Str} {z : Int} {pos : Pos} (h : ∃ t, X.mg x = some (.int z t)) (hg : Gl X x) (hd : (x == ("__debug__" : Str)) = false := by decide) : PE X (.Name x pos) (tC (.int z)) := by
  obtain ⟨t, h⟩ := h
  exact pe_glob hg h ⟨t, rfl⟩ hd
def tupInts : List Value → Option (List Int)
  | [] => some []
  | .int z _ :: r => (tupInts r).map (z :: ·)
  | _ => none
def tupIn (K : PySem.W.Frag) (a : Addr) (zs : List Int) : Bool := match K.lookup a with
  | some ⟨.type "tuple", _, .seq its _, _⟩ => tupInts its.toList == some zs && decide (its.size ≤ 1000)
  | _ => false
theorem vals_tupInts : ∀ {us : List Value} {zs : List Int}, tupInts us = some zs → Vals (zs.map V.int) us
  | [], zs, h => by cases h; exact .nil
  | .int z t :: r, zs, h => by
    obtain ⟨y, hy, e⟩ := Option.map_eq_some_iff.mp h
    subst e
    exact .cons ⟨t, rfl⟩ (vals_tupInts hy)
theorem tup_of {K : PySem.W.Frag} {a : Addr} {zs : List Int} (q : tupIn K a zs = true) (H : Hp) : SqT K H a (zs.map V.int) := by
  unfold tupIn at q
  split at q
  · rename_i dd its n sl hk
    simp only [Bool.and_eq_true, beq_iff_eq, decide_eq_true_eq] at q
    exact .inr ⟨_, its, n, hk, rfl, rfl, Nat.le_trans q.2 (by rw [sizeLine_eq]; omega), vals_tupInts q.1⟩
  · cases q
end L2
end
section
set_option Elab.async false
set_option linter.all false
set_option maxRecDepth 100000
set_option maxHeartbeats 2000000
namespace L2
open PySem PySem.Spec PyProof.Rows
section
variable {X : Cx} {k : Nat} {ps : List Str} {sp : Sp} {x : Str} {p pos : Pos} {e : Expr} {es : List Expr} {t : TA}
end
section
variable {X : Cx} {k : Nat} {C : Addr} {ps : List Str} {sp : Sp} {E : XK} {m : Str} {pos apos : Pos} {e o : Expr} {es : List Expr} {ta : TE} {t : TA}
end
section
variable {X : Cx} {k : Nat} {C : Addr} {ps : List Str} {sp : Sp} {x y xc n : Str} {p py pc cpos apos hpos : Pos} {e : Expr} {es : List Expr} {t : TA} {i j : Nat} {pins : List (Addr × Obj)} {σ : St} {H : Hp} {s : Shared}
variable {k2 : Nat} {ps2 : List Str} {sp2 : Sp} {x2 y2 : Str} {p2 py2 cpos2 apos2 : Pos} {e2 : Expr} {es2 : List Expr} {t2 : TA} {i2 : Nat}
end
end L2
end
section
set_option Elab.async false
set_option linter.all false
set_option maxRecDepth 100000
set_option maxHeartbeats 2000000
namespace HT
open PySem PySem.Spec PyProof.Rows
section
open PySem.SeqAt
open PySem.AutoSeq1 (wpAny_loadPart')
open PySem.MeetsSeq PySem.MeetsSeq2 PySem.MeetsSeq3
end
end HT
namespace L2
open PySem PySem.Spec PyProof.Rows
section
variable {X : Cx}
end
end L2
end
section
set_option Elab.async false
set_option linter.all false
set_option maxRecDepth 100000
set_option maxHeartbeats 2000000
namespace L2
open PySem PySem.Spec PyProof.Rows
theorem for_rev {K : PySem.W.Frag} {a : Addr} {xs : List V} {g : TG} {tb : TS} {D : Ends} {σ : St} {H : Hp} (Pv : Nat → St → Hp → Prop) (h0 : Pv 0 σ H) (hl : ∀ i σ H, Pv i σ H → SqL K H a xs)
    (hs : ∀ i x σ H, xs.reverse[i]? = some x → Pv i σ H → g x σ H fun σ2 H2 => tb { D with nx := Pv (i + 1), ct := Pv (i + 1), bk := D.nx } σ2 H2) (hd : ∀ σ H, Pv xs.length σ H → D.nx σ H) :
    ∃ W : Nat → Nat → St → Hp → Prop, (∃ m, W 0 m σ H) ∧ ∀ i m σ H, W i m σ H →
      ((Itv K a xs.length).stop i H ∧ D.nx σ H) ∨ ((Itv K a xs.length).go i H ∧ ∃ N : St → Hp → Prop, (∀ σ' H', N σ' H' → ∃ m', m' < m ∧ W (i + 1) m' σ' H') ∧ ∀ x H', (Itv K a xs.length).yld i H x H' → g x σ H' fun σ2 H2 => tb { D with nx := N, ct := N, bk := D.nx } σ2 H2) := by
  refine for_gen (n := xs.length) Pv h0 (fun i σ H hi p => ⟨hi, xs, xs[xs.length - 1 - i]'(by omega), hl i σ H p, by first | (simp; done) | (simp; omega)⟩) (fun σ H p => Nat.le_refl _) (fun i σ H x H' hi p y => ?_) hd
  obtain ⟨e, y⟩ := y
  subst e
  refine hs i x σ _ ?_ p
  rw [List.getElem?_reverse hi]
  exact y xs (hl i σ _ p)
theorem cut_nat (xs : List V) (p q : Nat) : cutV xs (some (p : Int)) (some (q : Int)) = (xs.drop p).take (q - p) := by
  unfold cutV
  rw [HT.sIx_nat, HT.sIx_nat]
  by_cases hp : p ≤ xs.length
  · rw [Nat.min_eq_left hp]
    by_cases hq : q ≤ xs.length
    · rw [Nat.min_eq_left hq]
    · rw [Nat.min_eq_right (by omega), List.take_of_length_le (by rw [List.length_drop]; omega), List.take_of_length_le (by rw [List.length_drop]; omega)]
  · rw [Nat.min_eq_right (show xs.length ≤ p by omega), List.drop_of_length_le (Nat.le_refl _), List.drop_of_length_le (show xs.length ≤ p by omega)]; simp
end L2
end
section
set_option Elab.async false
set_option linter.all false
namespace FA
open Sh
structure At (b : Bytes) (p : Nat) (rest : Bytes) : Prop where
  le : p ≤ b.length
  re : rest = b.drop p
theorem At.start (b : Bytes) : At b 0 b := ⟨Nat.zero_le _, rfl⟩
theorem At.len {b rest : Bytes} {p : Nat} (h : At b p rest) : p + rest.length = b.length := by
  rw [h.re, List.length_drop]; have := h.le; omega
theorem At.next {b rest : Bytes} {p k : Nat} (h : At b p rest) (hk : k ≤ rest.length) : At b (p + k) (rest.drop k) := by
  have := h.len
  exact ⟨by omega, by rw [h.re, List.drop_drop]⟩
theorem num_cons (c : UInt8) (r : Bytes) : num (c :: r) = c.toNat + 256 * num r := rfl
theorem num_lt : ∀ l : Bytes, num l < 256 ^ l.length
  | [] => by decide
  | c :: r => by
    have := num_lt r
    have hc := c.toNat_lt
    rw [num_cons, List.length_cons, Nat.pow_succ]
    omega
theorem readNum_ok {k p v q : Nat} {b r : Bytes} (h : readNum k b p = .ok (v, r, q)) : k ≤ b.length ∧ v = num (b.take k) ∧ r = b.drop k ∧ q = p + k := by
  unfold readNum at h
  split at h
  · cases h
  · cases h
    exact ⟨by omega, rfl, rfl, rfl⟩
theorem readNum_one {p : Nat} {c : UInt8} {r : Bytes} : readNum 1 (c :: r) p = .ok (c.toNat, r, p + 1) := by
  unfold readNum
  rw [if_neg (by simp)]
  simp [num]
theorem andThen_ok {α β : Type} {x : Except Fault α} {f : α → Except Fault β} {y : β} (h : andThen x f = .ok y) : ∃ a, x = .ok a ∧ f a = .ok y := by
  cases x with
  | error e => cases h
  | ok a => exact ⟨a, rfl, h⟩
theorem need_ok {c : Bool} {r p : Nat} {u : Unit} (h : need c r p = .ok u) : c = true := by
  unfold need at h
  split at h
  · assumption
  · cases h
theorem need_t {r p : Nat} : need true r p = .ok () := rfl
theorem need_f {r p : Nat} : need false r p = .error ⟨r, p⟩ := rfl
def mB (n lo hi rule : Nat) (b : Bytes) (p : Nat) : Except Fault (Nat × Bytes × Nat) :=
  andThen (readNum n b p) fun l => if lo ≤ l.1 ∧ l.1 ≤ hi then .ok l else .error ⟨rule, p⟩
def mMark : List UInt8 → Bytes → Nat → Except Fault (Bytes × Nat)
  | [], b, p => .ok (b, p)
  | m :: ms, b, p => andThen (mB 1 m.toNat m.toNat 1 b p) fun l => mMark ms l.2.1 l.2.2
theorem mMark_nil {m : UInt8} {ms : List UInt8} {p : Nat} : mMark (m :: ms) [] p = .error ⟨5, p⟩ := rfl
theorem mMark_cons {m c : UInt8} {ms : List UInt8} {b : Bytes} {p : Nat} : mMark (m :: ms) (c :: b) p = if c = m then mMark ms b (p + 1) else .error ⟨1, p⟩ := by
  show andThen (andThen (readNum 1 (c :: b) p) _) _ = _
  rw [readNum_one]
  show andThen (if m.toNat ≤ c.toNat ∧ c.toNat ≤ m.toNat then _ else _) _ = _
  by_cases h : c = m
  · subst h
    rw [if_pos ⟨Nat.le_refl _, Nat.le_refl _⟩, if_pos rfl]; rfl
  · rw [if_neg (fun z => h (UInt8.toNat_inj.mp (by omega))), if_neg h]; rfl
theorem mMark_eq {m0 m1 m2 m3 : UInt8} {b : Bytes} : mMark [m0, m1, m2, m3] b 0 = readMark [m0, m1, m2, m3] b := by
  have hr : List.range [m0, m1, m2, m3].length = [0, 1, 2, 3] := rfl
  unfold readMark markAt
  rw [hr]
  match b with
  | [] => rfl
  | [x0] =>
    rw [mMark_cons]
    by_cases h0 : x0 = m0
    · subst h0; simp [mMark_nil]
    · simp [h0]
  | [x0, x1] =>
    rw [mMark_cons, mMark_cons]
    by_cases h0 : x0 = m0
    · subst h0
      by_cases h1 : x1 = m1
      · subst h1; simp [mMark_nil]
      · simp [h1]
    · simp [h0]
  | [x0, x1, x2] =>
    rw [mMark_cons, mMark_cons, mMark_cons]
    by_cases h0 : x0 = m0
    · subst h0
      by_cases h1 : x1 = m1
      · subst h1
        by_cases h2 : x2 = m2
        · subst h2; simp [mMark_nil]
        · simp [h2]
      · simp [h1]
    · simp [h0]
  | x0 :: x1 :: x2 :: x3 :: r =>
    rw [mMark_cons, mMark_cons, mMark_cons, mMark_cons]
    by_cases h0 : x0 = m0
    · subst h0
      by_cases h1 : x1 = m1
      · subst h1
        by_cases h2 : x2 = m2
        · subst h2
          by_cases h3 : x3 = m3
          · subst h3; simp [mMark]
          · simp [h3]
        · simp [h2]
      · simp [h1]
    · simp [h0]
def bits (n c : Nat) : List Bool := (List.range n).map fun i => c.testBit i
def bval (l : List Bool) : Nat := l.foldr (fun (c : Bool) (n : Nat) => (if c = true then 1 else 0) + 2 * n) 0
theorem bits_succ (n c : Nat) : bits (n + 1) c = c.testBit 0 :: bits n (c / 2) := by
  unfold bits
  rw [List.range_succ_eq_map, List.map_cons, List.map_map]
  congr 1
  apply List.map_congr_left
  intro i _
  show c.testBit (i + 1) = _
  rw [Nat.testBit_succ]
theorem bits_length (n c : Nat) : (bits n c).length = n := by unfold bits; simp
theorem bval_bits : ∀ n c : Nat, bval (bits n c) = c % 2 ^ n
  | 0, c => by simp [bits, bval, Nat.mod_one]
  | n + 1, c => by
    rw [bits_succ]
    show (if c.testBit 0 = true then 1 else 0) + 2 * bval (bits n (c / 2)) = _
    rw [bval_bits n, Nat.testBit_zero]
    have h1 : (if decide (c % 2 = 1) = true then 1 else 0) = c % 2 := by
      by_cases h : c % 2 = 1
      · simp [h]
      · simp [h]; omega
    rw [h1, Nat.pow_succ, Nat.mul_comm (2 ^ n) 2, Nat.mod_mul]
theorem bval_lt : ∀ l : List Bool, bval l < 2 ^ l.length
  | [] => by decide
  | c :: l => by
    have := bval_lt l
    show (if c = true then 1 else 0) + 2 * bval l < 2 ^ (l.length + 1)
    rw [Nat.pow_succ]
    cases c <;> simp <;> omega
theorem bits_bval : ∀ l : List Bool, bits l.length (bval l) = l
  | [] => rfl
  | c :: l => by
    rw [List.length_cons, bits_succ]
    have e : bval (c :: l) = (if c = true then 1 else 0) + 2 * bval l := rfl
    rw [e]
    have ed : ((if c = true then 1 else 0) + 2 * bval l) / 2 = bval l := by cases c <;> simp <;> omega
    rw [ed, bits_bval l, Nat.testBit_zero]
    cases c
    · simp
    · simp
theorem byteOf_toNat {l : List Bool} (h : l.length ≤ 8) : (byteOf l).toNat = bval l := by
  have h1 := bval_lt l
  have h2 : 2 ^ l.length ≤ 2 ^ 8 := Nat.pow_le_pow_right (by decide) h
  show (UInt8.ofNat (bval l)).toNat = _
  rw [UInt8.toNat_ofNat']
  exact Nat.mod_eq_of_lt (by omega)
theorem byteOf_bits {n : Nat} {c : UInt8} (hn : n ≤ 8) : byteOf (bits n c.toNat) = c ↔ c.toNat / 2 ^ n = 0 := by
  rw [← UInt8.toNat_inj, byteOf_toNat (by rw [bits_length]; exact hn), bval_bits, Nat.div_eq_zero_iff]
  constructor
  · intro h
    right
    have := Nat.mod_lt c.toNat (show 0 < 2 ^ n from Nat.two_pow_pos n)
    omega
  · rintro (h | h)
    · have := Nat.two_pow_pos n; omega
    · exact Nat.mod_eq_of_lt h
theorem bitsOf_nil (b : Bytes) : bitsOf 0 b = [] := rfl
theorem bitsOf_cons {w : Nat} {c : UInt8} {t : Bytes} (h : 8 ≤ w) : bitsOf w (c :: t) = bits 8 c.toNat ++ bitsOf (w - 8) t := by
  unfold bitsOf bits
  obtain ⟨v, rfl⟩ : ∃ v, w = 8 + v := ⟨w - 8, by omega⟩
  rw [List.range_add, List.map_append, List.map_map, Nat.add_sub_cancel_left]
  refine congr (congrArg HAppend.hAppend ?_) ?_
  · apply List.map_congr_left
    intro i hi
    have : i < 8 := List.mem_range.mp hi
    rw [show i / 8 = 0 by omega, show i % 8 = i by omega]
    rfl
  · apply List.map_congr_left
    intro i _
    show ((c :: t).getD ((8 + i) / 8) 0).toNat.testBit ((8 + i) % 8) = _
    rw [show (8 + i) / 8 = i / 8 + 1 by omega, show (8 + i) % 8 = i % 8 by omega]
    rfl
theorem bitsOf_short {w : Nat} {c : UInt8} {t : Bytes} (h : w ≤ 8) : bitsOf w (c :: t) = bits w c.toNat := by
  unfold bitsOf bits
  apply List.map_congr_left
  intro i hi
  have : i < w := List.mem_range.mp hi
  rw [show i / 8 = 0 by omega, show i % 8 = i by omega]
  rfl
theorem bitsOf_length (w : Nat) (b : Bytes) : (bitsOf w b).length = w := by unfold bitsOf; simp
def readRow (w : Nat) (b : Bytes) (p : Nat) : Except Fault (List Bool × Bytes × Nat) :=
  andThen (need (decide (rowBytes w ≤ b.length)) 5 (p + b.length)) fun _ =>
  andThen (need (decide (packed (rowBytes w) (bitsOf w (b.take (rowBytes w))) = b.take (rowBytes w))) 4 (p + rowBytes w - 1)) fun _ =>
  .ok (bitsOf w (b.take (rowBytes w)), b.drop (rowBytes w), p + rowBytes w)
theorem readPlane_succ {w h p : Nat} {b : Bytes} : readPlane w (h + 1) b p = andThen (readRow w b p) fun r => andThen (readPlane w h r.2.1 r.2.2) fun x => .ok (r.1 :: x.1, x.2.1, x.2.2) := by
  show andThen (need (decide (rowBytes w ≤ b.length)) 5 (p + b.length)) _ = _
  unfold readRow
  by_cases h1 : rowBytes w ≤ b.length
  · rw [decide_eq_true h1]
    show andThen (need (decide (packed _ _ = _)) 4 _) _ = andThen (andThen (need (decide (packed _ _ = _)) 4 _) _) _
    by_cases h2 : packed (rowBytes w) (bitsOf w (b.take (rowBytes w))) = b.take (rowBytes w)
    · rw [decide_eq_true h2]; rfl
    · rw [decide_eq_false h2]; rfl
  · rw [decide_eq_false h1]; rfl
def mRow : Nat → Nat → Bytes → Nat → Except Fault (List Bool × Bytes × Nat)
  | 0, _, b, p => .ok ([], b, p)
  | k + 1, w, b, p => andThen (readNum 1 b p) fun c => if c.1 / 2 ^ (min 8 w) = 0 then andThen (mRow k (w - 8) c.2.1 c.2.2) fun x => .ok (bits (min 8 w) c.1 ++ x.1, x.2.1, x.2.2) else .error ⟨4, p⟩
theorem mRow_eq : ∀ (k w : Nat) (b : Bytes) (p : Nat), rowBytes w = k → mRow k w b p = readRow w b p
  | 0, w, b, p, h => by
    have : w = 0 := by unfold rowBytes at h; omega
    subst this
    rfl
  | k + 1, w, [], p, h => by
    unfold readRow
    rw [h]
    rfl
  | k + 1, w, c :: t, p, h => by
    unfold mRow
    rw [readNum_one]
    show (if c.toNat / 2 ^ (min 8 w) = 0 then andThen (mRow k (w - 8) t (p + 1)) _ else _) = _
    by_cases hk : k = 0
    · subst hk
      have hw : 1 ≤ w ∧ w ≤ 8 := by unfold rowBytes at h; omega
      unfold readRow
      rw [h, Nat.min_eq_right hw.2, decide_eq_true (show 0 + 1 ≤ (c :: t).length by simp)]
      show _ = andThen (need (decide (packed 1 (bitsOf w [c]) = [c])) 4 (p + 1 - 1)) _
      have e1 : bitsOf w [c] = bits w c.toNat := bitsOf_short hw.2
      have e2 : packed 1 (bitsOf w [c]) = [byteOf (bits w c.toNat)] := by
        rw [e1]
        show [byteOf ((bits w c.toNat).take 8)] = _
        rw [List.take_of_length_le (by rw [bits_length]; exact hw.2)]
      rw [e2]
      by_cases hc : c.toNat / 2 ^ w = 0
      · rw [if_pos hc, decide_eq_true (by rw [(byteOf_bits hw.2).mpr hc])]
        show Except.ok (bits w c.toNat ++ [], t, p + 1) = Except.ok (bitsOf w [c], t, p + 1)
        rw [e1, List.append_nil]
      · rw [if_neg hc, decide_eq_false (fun z => hc ((byteOf_bits hw.2).mp (List.head_eq_of_cons_eq z)))]
        rfl
    · have hw : 8 < w := by unfold rowBytes at h; omega
      have hk' : rowBytes (w - 8) = k := by unfold rowBytes at h ⊢; omega
      have hc8 : c.toNat / 2 ^ 8 = 0 := Nat.div_eq_of_lt c.toNat_lt
      rw [mRow_eq k (w - 8) t (p + 1) hk', Nat.min_eq_left (Nat.le_of_lt hw), if_pos hc8]
      unfold readRow
      rw [h, hk']
      have el : p + (c :: t).length = p + 1 + t.length := by simp; omega
      rw [el]
      by_cases h1 : k ≤ t.length
      · rw [decide_eq_true h1, decide_eq_true (show k + 1 ≤ (c :: t).length by simpa using h1)]
        show andThen (andThen (need (decide (packed k (bitsOf (w - 8) (t.take k)) = t.take k)) 4 (p + 1 + k - 1)) _) _ = andThen (need (decide (packed (k + 1) (bitsOf w (c :: t.take k)) = c :: t.take k)) 4 (p + (k + 1) - 1)) _
        have e2 : packed (k + 1) (bitsOf w (c :: t.take k)) = c :: packed k (bitsOf (w - 8) (t.take k)) := by
          rw [bitsOf_cons (Nat.le_of_lt hw)]
          show byteOf ((bits 8 c.toNat ++ _).take 8) :: packed k ((bits 8 c.toNat ++ _).drop 8) = _
          have hl := bits_length 8 c.toNat
          rw [List.take_append_of_le_length (by omega), List.take_of_length_le (by omega), List.drop_append, List.drop_of_length_le (by omega), hl, Nat.sub_self, List.drop_zero, List.nil_append, (byteOf_bits (Nat.le_refl 8)).mpr hc8]
        rw [e2, show p + (k + 1) - 1 = p + 1 + k - 1 by omega]
        by_cases h2 : packed k (bitsOf (w - 8) (t.take k)) = t.take k
        · rw [decide_eq_true h2, decide_eq_true (by rw [h2])]
          show Except.ok (bits 8 c.toNat ++ bitsOf (w - 8) (t.take k), t.drop k, p + 1 + k) = Except.ok (bitsOf w (c :: t.take k), t.drop k, p + (k + 1))
          rw [bitsOf_cons (Nat.le_of_lt hw), show p + (k + 1) = p + 1 + k by omega]
        · rw [decide_eq_false h2, decide_eq_false (fun z => h2 (List.tail_eq_of_cons_eq z))]
          rfl
      · rw [decide_eq_false h1, decide_eq_false (show ¬ k + 1 ≤ (c :: t).length by simpa using h1)]
        rfl
end FA
end
section
set_option Elab.async false
set_option linter.all false
namespace FA
open Sh
theorem le_length : ∀ k n : Nat, (le k n).length = k
  | 0, _ => rfl
  | k + 1, n => by show (le k (n / 256)).length + 1 = k + 1; rw [le_length k]
theorem le_num : ∀ (k : Nat) (l : Bytes), l.length = k → le k (num l) = l
  | 0, [], _ => rfl
  | k + 1, c :: r, h => by
    have hr : r.length = k := by simpa using h
    rw [num_cons]
    show UInt8.ofNat ((c.toNat + 256 * num r) % 256) :: le k ((c.toNat + 256 * num r) / 256) = _
    have hc := c.toNat_lt
    have e1 : (c.toNat + 256 * num r) % 256 = c.toNat := by omega
    have e2 : (c.toNat + 256 * num r) / 256 = num r := by omega
    rw [e1, e2, le_num k r hr, UInt8.ofNat_toNat]
theorem num_le : ∀ (k n : Nat), n < 256 ^ k → num (le k n) = n
  | 0, n, h => by
    have : n = 0 := by simpa using h
    subst this; rfl
  | k + 1, n, h => by
    show num (UInt8.ofNat (n % 256) :: le k (n / 256)) = n
    rw [num_cons, num_le k (n / 256) (by rw [Nat.pow_succ] at h; omega), UInt8.toNat_ofNat', Nat.mod_eq_of_lt (by omega)]
    omega
theorem packed_length : ∀ (k : Nat) (l : List Bool), (packed k l).length = k
  | 0, _ => rfl
  | k + 1, l => by show (packed k (l.drop 8)).length + 1 = k + 1; rw [packed_length k]
structure PlaneOk (w h : Nat) (P : Plane) : Prop where
  len : P.length = h
  rows : ∀ r ∈ P, r.length = w
theorem PlaneOk.tail {w h : Nat} {r : List Bool} {P : Plane} (o : PlaneOk w (h + 1) (r :: P)) : PlaneOk w h P := ⟨by have := o.len; simpa using this, fun x hx => o.rows x (List.mem_cons_of_mem _ hx)⟩
theorem writePlane_length {w : Nat} : ∀ {P : Plane}, (writePlane w P).length = P.length * rowBytes w
  | [] => by simp [writePlane]
  | r :: P => by
    have := writePlane_length (w := w) (P := P)
    unfold writePlane at this ⊢
    rw [List.flatMap_cons, List.length_append, packed_length, this, List.length_cons, Nat.add_mul]
    omega
theorem readRow_ok {w p q : Nat} {b r : Bytes} {l : List Bool} (e : readRow w b p = .ok (l, r, q)) : b = packed (rowBytes w) l ++ r ∧ q = p + rowBytes w ∧ l.length = w ∧ r = b.drop (rowBytes w) ∧ rowBytes w ≤ b.length := by
  unfold readRow at e
  obtain ⟨_, h1, e⟩ := andThen_ok e
  obtain ⟨_, h2, e⟩ := andThen_ok e
  have h1 := of_decide_eq_true (need_ok h1)
  have h2 := of_decide_eq_true (need_ok h2)
  cases e
  refine ⟨?_, rfl, bitsOf_length _ _, rfl, h1⟩
  rw [h2, List.take_append_drop]
theorem readPlane_ok {w : Nat} : ∀ {h p q : Nat} {b r : Bytes} {P : Plane}, readPlane w h b p = .ok (P, r, q) → b = writePlane w P ++ r ∧ q = p + (writePlane w P).length ∧ PlaneOk w h P
  | 0, p, q, b, r, P, e => by
    cases e
    exact ⟨rfl, rfl, rfl, fun _ h => nomatch h⟩
  | h + 1, p, q, b, r, P, e => by
    rw [readPlane_succ] at e
    obtain ⟨⟨l, r1, q1⟩, e1, e⟩ := andThen_ok e
    obtain ⟨⟨P2, r2, q2⟩, e2, e⟩ := andThen_ok e
    cases e
    obtain ⟨h1, h2, h3, _, _⟩ := readRow_ok e1
    obtain ⟨g1, g2, g3⟩ := readPlane_ok e2
    have ew : writePlane w (l :: P2) = packed (rowBytes w) l ++ writePlane w P2 := by unfold writePlane; rw [List.flatMap_cons]
    refine ⟨?_, ?_, ?_, fun x hx => ?_⟩
    · show b = writePlane w (l :: P2) ++ r2
      rw [ew, List.append_assoc, h1]
      have g1 : r1 = writePlane w P2 ++ r2 := g1
      rw [g1]
    · show q2 = p + (writePlane w (l :: P2)).length
      have g2 : q2 = q1 + (writePlane w P2).length := g2
      rw [ew, List.length_append, packed_length, g2, h2]; omega
    · show P2.length + 1 = h + 1
      rw [g3.len]
    · rcases List.mem_cons.mp hx with rfl | hx
      · exact h3
      · exact g3.rows x hx
theorem readNum_split {k p v q : Nat} {b r : Bytes} (h : readNum k b p = .ok (v, r, q)) : b = le k v ++ r ∧ q = p + k ∧ v < 256 ^ k := by
  obtain ⟨h1, h2, h3, h4⟩ := readNum_ok h
  have hl : (b.take k).length = k := by rw [List.length_take]; omega
  refine ⟨?_, h4, ?_⟩
  · rw [h2, le_num k _ hl, h3, List.take_append_drop]
  · rw [h2]
    have := num_lt (b.take k)
    rw [hl] at this; exact this
structure GOk (h : Nat) (g : Glyph) : Prop where
  letter : g.letter ≤ 4095
  w1 : 1 ≤ g.width
  w64 : g.width ≤ 64
  budget : g.budget ≤ 4096
  cost : g.cost ≤ 4095
  ink : PlaneOk g.width h g.ink
  paper : PlaneOk g.width h g.paper
  both : bothIn g.width g.ink g.paper = none
theorem readGlyph_ok {h p q : Nat} {b r : Bytes} {g : Glyph} (e : readGlyph h b p = .ok (g, r, q)) : b = writeGlyph g ++ r ∧ q = p + (writeGlyph g).length ∧ GOk h g := by
  unfold readGlyph at e
  obtain ⟨⟨l, r1, q1⟩, e1, e⟩ := andThen_ok e
  obtain ⟨_, c1, e⟩ := andThen_ok e
  obtain ⟨⟨w, r2, q2⟩, e2, e⟩ := andThen_ok e
  obtain ⟨_, c2, e⟩ := andThen_ok e
  obtain ⟨⟨u, r3, q3⟩, e3, e⟩ := andThen_ok e
  obtain ⟨_, c3, e⟩ := andThen_ok e
  obtain ⟨⟨c, r4, q4⟩, e4, e⟩ := andThen_ok e
  obtain ⟨_, c4, e⟩ := andThen_ok e
  obtain ⟨⟨I, r5, q5⟩, e5, e⟩ := andThen_ok e
  obtain ⟨⟨Q, r6, q6⟩, e6, e⟩ := andThen_ok e
  obtain ⟨_, c5, e⟩ := andThen_ok e
  cases e
  have c1 := of_decide_eq_true (need_ok c1)
  have c2 := need_ok c2
  have c3 := of_decide_eq_true (need_ok c3)
  have c4 := of_decide_eq_true (need_ok c4)
  rw [Bool.and_eq_true, decide_eq_true_eq, decide_eq_true_eq] at c2
  obtain ⟨a1, b1, _⟩ := readNum_split e1
  obtain ⟨a2, b2, _⟩ := readNum_split e2
  obtain ⟨a3, b3, _⟩ := readNum_split e3
  obtain ⟨a4, b4, _⟩ := readNum_split e4
  obtain ⟨a5, b5, d5⟩ := readPlane_ok e5
  obtain ⟨a6, b6, d6⟩ := readPlane_ok e6
  dsimp only at *
  have ew : writeGlyph ⟨l, w, I, Q, u, c⟩ = le 2 l ++ (le 1 w ++ (le 2 u ++ (le 2 c ++ (writePlane w I ++ writePlane w Q)))) := rfl
  refine ⟨?_, ?_, c1, c2.1, c2.2, c3, c4, d5, d6, ?_⟩
  · rw [ew, a1, a2, a3, a4, a5, a6]
    simp only [List.append_assoc]
  · rw [ew]
    simp only [List.length_append, le_length]
    omega
  · show bothIn w I Q = none
    cases hb : bothIn w I Q with
    | none => rfl
    | some j => rw [hb] at c5; cases c5
def nats (b : Bytes) : List Nat := b.map UInt8.toNat
def rk : List Nat → List Nat
  | x :: y :: r => y :: x :: r
  | l => l
theorem writeGlyph_shape (g : Glyph) : writeGlyph g = UInt8.ofNat (g.letter % 256) :: UInt8.ofNat (g.letter / 256 % 256) :: UInt8.ofNat (g.width % 256) :: (writeGlyph g).drop 3 := rfl
theorem rk_shape {h : Nat} {g : Glyph} (o : GOk h g) : rk (nats (writeGlyph g)) = g.letter / 256 :: g.letter % 256 :: g.width :: nats ((writeGlyph g).drop 3) := by
  have hl := o.letter
  have hw := o.w64
  have e1 : (UInt8.ofNat (g.letter % 256)).toNat = g.letter % 256 := by rw [UInt8.toNat_ofNat']; omega
  have e2 : (UInt8.ofNat (g.letter / 256 % 256)).toNat = g.letter / 256 := by rw [UInt8.toNat_ofNat']; omega
  have e3 : (UInt8.ofNat (g.width % 256)).toNat = g.width := by rw [UInt8.toNat_ofNat']; omega
  rw [writeGlyph_shape]
  show (UInt8.ofNat (g.letter / 256 % 256)).toNat :: (UInt8.ofNat (g.letter % 256)).toNat :: (UInt8.ofNat (g.width % 256)).toNat :: _ = _
  rw [e1, e2, e3]
  rfl
theorem lexLess_cons (x y : Nat) (l m : List Nat) : lexLess (x :: l) (y :: m) = (decide (x < y) || (x == y && lexLess l m)) := rfl
theorem rk_less {h : Nat} {f g : Glyph} (of : GOk h f) (og : GOk h g) : lexLess (rk (nats (writeGlyph f))) (rk (nats (writeGlyph g))) = lexLess (glyphKey f) (glyphKey g) := by
  rw [rk_shape of, rk_shape og]
  unfold glyphKey
  show lexLess _ _ = lexLess (f.letter :: f.width :: nats _) (g.letter :: g.width :: nats _)
  simp only [lexLess_cons]
  generalize (decide (f.width < g.width) || (f.width == g.width && lexLess (nats ((writeGlyph f).drop 3)) (nats ((writeGlyph g).drop 3)))) = z
  have d1 := Nat.div_add_mod f.letter 256
  have d2 := Nat.div_add_mod g.letter 256
  have m1 := Nat.mod_lt f.letter (show 0 < 256 by decide)
  have m2 := Nat.mod_lt g.letter (show 0 < 256 by decide)
  by_cases h1 : f.letter / 256 < g.letter / 256
  · have : f.letter < g.letter := by omega
    simp [h1, this]
  · by_cases h2 : f.letter / 256 = g.letter / 256
    · by_cases h3 : f.letter % 256 < g.letter % 256
      · have : f.letter < g.letter := by omega
        simp [h2, h3, this]
      · by_cases h4 : f.letter % 256 = g.letter % 256
        · have : f.letter = g.letter := by omega
          simp [this]
        · have a : ¬ f.letter < g.letter := by omega
          have b : ¬ f.letter = g.letter := by omega
          have c1 : (f.letter % 256 == g.letter % 256) = false := by simpa using h4
          have c2 : (f.letter == g.letter) = false := by simpa using b
          simp [h2, h3, a, c1, c2]
    · have a : ¬ f.letter < g.letter := by omega
      have b : ¬ f.letter = g.letter := by omega
      have c1 : (f.letter / 256 == g.letter / 256) = false := by simpa using h2
      have c2 : (f.letter == g.letter) = false := by simpa using b
      simp [h1, a, c1, c2]
def rkO : Option Glyph → List Nat
  | none => []
  | some f => rk (nats (writeGlyph f))
theorem rises_none {h : Nat} {g : Glyph} (og : GOk h g) : lexLess (rkO none) (rk (nats (writeGlyph g))) = true := by
  rw [rk_shape og]; rfl
theorem rises_some {h : Nat} {f g : Glyph} (of : GOk h f) (og : GOk h g) : lexLess (rkO (some f)) (rk (nats (writeGlyph g))) = lexLess (glyphKey f) (glyphKey g) := rk_less of og
def mGl (h : Nat) (had : Option Glyph) (b : Bytes) (p : Nat) : Except Fault (Glyph × Bytes × Nat) :=
  andThen (readGlyph h b p) fun g => if lexLess (rkO had) (rk (nats (writeGlyph g.1))) = true then .ok g else .error ⟨6, p⟩
theorem readGlyphs_succ {h k p : Nat} {had : Option Glyph} {b : Bytes} (hh : ∀ f, had = some f → GOk h f) : readGlyphs h (k + 1) had b p = andThen (mGl h had b p) fun g => andThen (readGlyphs h k (some g.1) g.2.1 g.2.2) fun l => .ok (g.1 :: l.1, l.2.1, l.2.2) := by
  show andThen (readGlyph h b p) _ = andThen (andThen (readGlyph h b p) _) _
  cases e : readGlyph h b p with
  | error z => rfl
  | ok g =>
    obtain ⟨g, r, q⟩ := g
    have og := (readGlyph_ok e).2.2
    show andThen (match had with | some f => need (lexLess (glyphKey f) (glyphKey g)) 6 p | none => need true 6 p) _ = andThen (if lexLess (rkO had) (rk (nats (writeGlyph g))) = true then _ else _) _
    cases had with
    | none => rw [rises_none og, if_pos rfl]; rfl
    | some f =>
      rw [rises_some (hh f rfl) og]
      show andThen (need (lexLess (glyphKey f) (glyphKey g)) 6 p) _ = _
      cases lexLess (glyphKey f) (glyphKey g)
      · rfl
      · rfl
theorem judgeFace_eq (b : Bytes) : judgeFace b =
    andThen (mMark FACE b 0) fun m =>
    andThen (mB 1 1 64 2 m.1 m.2) fun h =>
    andThen (mB 2 0 4095 2 h.2.1 h.2.2) fun e =>
    andThen (mB 2 0 4096 2 e.2.1 e.2.2) fun n =>
    andThen (readGlyphs h.1 n.1 none n.2.1 n.2.2) fun l =>
    andThen (need l.2.1.isEmpty 7 l.2.2) fun _ => .ok ⟨h.1, e.1, l.1⟩ := by
  unfold judgeFace
  rw [show readMark FACE b = mMark FACE b 0 from mMark_eq.symm]
  cases e0 : mMark FACE b 0 with
  | error z => rfl
  | ok m =>
    have hm : m.2 = 4 := by
      rw [show mMark FACE b 0 = readMark FACE b from mMark_eq] at e0
      unfold readMark at e0
      split at e0
      · cases e0
      · cases e0; rfl
    obtain ⟨m1, m2⟩ := m
    dsimp only at hm
    subst hm
    show andThen (readNum 1 m1 4) _ = andThen (andThen (readNum 1 m1 4) _) _
    cases e1 : readNum 1 m1 4 with
    | error z => rfl
    | ok x1 =>
      obtain ⟨h, b1, q1⟩ := x1
      obtain ⟨_, _, _, hq1⟩ := readNum_ok e1
      subst hq1
      show andThen (need (decide (1 ≤ h) && decide (h ≤ SIDE)) 2 4) _ = andThen (if 1 ≤ h ∧ h ≤ 64 then _ else _) _
      by_cases hh : 1 ≤ h ∧ h ≤ 64
      · rw [if_pos hh, decide_eq_true hh.1, decide_eq_true (show h ≤ SIDE from hh.2)]
        show andThen (readNum 2 b1 (4 + 1)) _ = andThen (andThen (readNum 2 b1 (4 + 1)) _) _
        cases e2 : readNum 2 b1 (4 + 1) with
        | error z => rfl
        | ok x2 =>
          obtain ⟨c, b2, q2⟩ := x2
          obtain ⟨_, _, _, hq2⟩ := readNum_ok e2
          subst hq2
          show andThen (need (decide (c ≤ COST)) 2 5) _ = andThen (if 0 ≤ c ∧ c ≤ 4095 then _ else _) _
          by_cases hc : c ≤ 4095
          · rw [if_pos ⟨Nat.zero_le _, hc⟩, decide_eq_true (show c ≤ COST from hc)]
            show andThen (readNum 2 b2 (4 + 1 + 2)) _ = andThen (andThen (readNum 2 b2 (4 + 1 + 2)) _) _
            cases e3 : readNum 2 b2 (4 + 1 + 2) with
            | error z => rfl
            | ok x3 =>
              obtain ⟨n, b3, q3⟩ := x3
              show andThen (need (decide (n ≤ GLYPHS)) 2 7) _ = andThen (if 0 ≤ n ∧ n ≤ 4096 then _ else _) _
              by_cases hn : n ≤ 4096
              · rw [if_pos ⟨Nat.zero_le _, hn⟩, decide_eq_true (show n ≤ GLYPHS from hn)]; rfl
              · rw [if_neg (fun z => hn z.2), decide_eq_false (show ¬ n ≤ GLYPHS from hn)]; rfl
          · rw [if_neg (fun z => hc z.2), decide_eq_false (show ¬ c ≤ COST from hc)]; rfl
      · rw [if_neg hh]
        have : (decide (1 ≤ h) && decide (h ≤ SIDE)) = false := by
          rw [Bool.and_eq_false_iff, decide_eq_false_iff_not, decide_eq_false_iff_not]
          have : SIDE = 64 := rfl
          omega
        rw [this]; rfl
theorem readGlyph_eq {h p : Nat} {b : Bytes} : readGlyph h b p =
    andThen (mB 2 0 4095 3 b p) fun l =>
    andThen (mB 1 1 64 3 l.2.1 l.2.2) fun w =>
    andThen (mB 2 0 4096 3 w.2.1 w.2.2) fun u =>
    andThen (mB 2 0 4095 3 u.2.1 u.2.2) fun c =>
    andThen (readPlane w.1 h c.2.1 c.2.2) fun i =>
    andThen (readPlane w.1 h i.2.1 i.2.2) fun q =>
    (match bothIn w.1 i.1 q.1 with
      | some j => .error ⟨4, i.2.2 + rowBytes w.1 * j⟩
      | none => .ok (⟨l.1, w.1, i.1, q.1, u.1, c.1⟩, q.2.1, q.2.2)) := by
  unfold readGlyph
  show andThen (readNum 2 b p) _ = andThen (andThen (readNum 2 b p) _) _
  cases e1 : readNum 2 b p with
  | error z => rfl
  | ok x1 =>
    obtain ⟨l, b1, q1⟩ := x1
    obtain ⟨_, _, _, hq1⟩ := readNum_ok e1
    subst hq1
    show andThen (need (decide (l ≤ LETTERMOST)) 3 p) _ = andThen (if 0 ≤ l ∧ l ≤ 4095 then _ else _) _
    by_cases hl : l ≤ 4095
    · rw [if_pos ⟨Nat.zero_le _, hl⟩, decide_eq_true (show l ≤ LETTERMOST from hl)]
      show andThen (readNum 1 b1 (p + 2)) _ = andThen (andThen (readNum 1 b1 (p + 2)) _) _
      cases e2 : readNum 1 b1 (p + 2) with
      | error z => rfl
      | ok x2 =>
        obtain ⟨w, b2, q2⟩ := x2
        obtain ⟨_, _, _, hq2⟩ := readNum_ok e2
        subst hq2
        show andThen (need (decide (1 ≤ w) && decide (w ≤ SIDE)) 3 (p + 2)) _ = andThen (if 1 ≤ w ∧ w ≤ 64 then _ else _) _
        by_cases hw : 1 ≤ w ∧ w ≤ 64
        · rw [if_pos hw, decide_eq_true hw.1, decide_eq_true (show w ≤ SIDE from hw.2)]
          show andThen (readNum 2 b2 (p + 2 + 1)) _ = andThen (andThen (readNum 2 b2 (p + 2 + 1)) _) _
          cases e3 : readNum 2 b2 (p + 2 + 1) with
          | error z => rfl
          | ok x3 =>
            obtain ⟨u, b3, q3⟩ := x3
            obtain ⟨_, _, _, hq3⟩ := readNum_ok e3
            subst hq3
            show andThen (need (decide (u ≤ BUDGET)) 3 (p + 3)) _ = andThen (if 0 ≤ u ∧ u ≤ 4096 then _ else _) _
            by_cases hu : u ≤ 4096
            · rw [if_pos ⟨Nat.zero_le _, hu⟩, decide_eq_true (show u ≤ BUDGET from hu)]
              show andThen (readNum 2 b3 (p + 2 + 1 + 2)) _ = andThen (andThen (readNum 2 b3 (p + 2 + 1 + 2)) _) _
              cases e4 : readNum 2 b3 (p + 2 + 1 + 2) with
              | error z => rfl
              | ok x4 =>
                obtain ⟨c, b4, q4⟩ := x4
                show andThen (need (decide (c ≤ COST)) 3 (p + 5)) _ = andThen (if 0 ≤ c ∧ c ≤ 4095 then _ else _) _
                by_cases hc : c ≤ 4095
                · rw [if_pos ⟨Nat.zero_le _, hc⟩, decide_eq_true (show c ≤ COST from hc)]
                  show andThen (readPlane w h b4 q4) _ = andThen (readPlane w h b4 q4) _
                  cases e5 : readPlane w h b4 q4 with
                  | error z => rfl
                  | ok x5 =>
                    show andThen (readPlane w h x5.2.1 x5.2.2) _ = andThen (readPlane w h x5.2.1 x5.2.2) _
                    cases e6 : readPlane w h x5.2.1 x5.2.2 with
                    | error z => rfl
                    | ok x6 =>
                      show andThen (match bothIn w x5.1 x6.1 with | some j => need false 4 (x5.2.2 + rowBytes w * j) | none => need true 4 0) _ = (match bothIn w x5.1 x6.1 with | some j => _ | none => _)
                      cases bothIn w x5.1 x6.1 with
                      | none => rfl
                      | some j => rfl
                · rw [if_neg (fun z => hc z.2), decide_eq_false (show ¬ c ≤ COST from hc)]; rfl
            · rw [if_neg (fun z => hu z.2), decide_eq_false (show ¬ u ≤ BUDGET from hu)]; rfl
        · rw [if_neg hw]
          have : (decide (1 ≤ w) && decide (w ≤ SIDE)) = false := by
            rw [Bool.and_eq_false_iff, decide_eq_false_iff_not, decide_eq_false_iff_not]
            have : SIDE = 64 := rfl
            omega
          rw [this]; rfl
    · rw [if_neg (fun z => hl z.2), decide_eq_false (show ¬ l ≤ LETTERMOST from hl)]; rfl
end FA
end
section
set_option Elab.async false
set_option linter.all false
namespace FA
open Sh
def grid {α : Type} (w h : Nat) (f : Nat → Nat → α) : List (List α) := (List.range h).map fun j => (List.range w).map fun i => f i j
theorem by_range {α : Type} (d : α) : ∀ l : List α, l = (List.range l.length).map fun i => l.getD i d
  | [] => rfl
  | a :: l => by
    rw [List.length_cons, List.range_succ_eq_map, List.map_cons, List.map_map]
    have := by_range d l
    show a :: l = a :: _
    congr 1
theorem plane_grid {w h : Nat} {P : Plane} (o : PlaneOk w h P) : P = grid w h fun i j => bit P i j := by
  have e := by_range ([] : List Bool) P
  rw [o.len] at e
  unfold grid
  refine e.trans (List.map_congr_left fun j hj => ?_)
  have hj : j < P.length := by rw [o.len]; exact List.mem_range.mp hj
  have hg : P.getD j [] = P[j] := by simp [List.getD, hj]
  have hl : (P.getD j []).length = w := by rw [hg]; exact o.rows _ (List.getElem_mem hj)
  have e2 := by_range false (P.getD j [])
  rw [hl] at e2
  exact e2
theorem grid_length {α : Type} {w h : Nat} {f : Nat → Nat → α} : (grid w h f).length = h := by unfold grid; simp
theorem grid_rows {α : Type} {w h : Nat} {f : Nat → Nat → α} : ∀ r ∈ grid w h f, r.length = w := fun r hr => by
  unfold grid at hr
  obtain ⟨j, _, rfl⟩ := List.mem_map.mp hr
  simp
theorem grid_ok {w h : Nat} {f : Nat → Nat → Bool} : PlaneOk w h (grid w h f) := ⟨grid_length, grid_rows⟩
theorem range_getD {α : Type} {n i : Nat} {f : Nat → α} {d : α} (h : i < n) : ((List.range n).map f).getD i d = f i := by simp [List.getD, h]
theorem range_getD_out {α : Type} {n i : Nat} {f : Nat → α} {d : α} (h : ¬ i < n) : ((List.range n).map f).getD i d = d := by
  simp [List.getD, h]
theorem bit_grid {w h i j : Nat} {f : Nat → Nat → Bool} (hi : i < w) (hj : j < h) : bit (grid w h f) i j = f i j := by
  unfold bit grid
  rw [range_getD hj, range_getD hi]
theorem bit_out {w h i j : Nat} {P : Plane} (o : PlaneOk w h P) (hi : ¬ i < w) : bit P i j = false := by
  rw [plane_grid o]
  unfold bit grid
  by_cases hj : j < h
  · rw [range_getD hj, range_getD_out hi]
  · rw [range_getD_out hj]; rfl
theorem grid_congr {α : Type} {w h : Nat} {f g : Nat → Nat → α} (e : ∀ i j, i < w → j < h → f i j = g i j) : grid w h f = grid w h g := by
  unfold grid
  refine List.map_congr_left fun j hj => List.map_congr_left fun i hi => e i j (List.mem_range.mp hi) (List.mem_range.mp hj)
theorem zipWith_range {α β γ : Type} (k : α → β → γ) (n : Nat) (f : Nat → α) (g : Nat → β) : List.zipWith k ((List.range n).map f) ((List.range n).map g) = (List.range n).map fun i => k (f i) (g i) := by
  rw [List.zipWith_map, List.zipWith_self]
theorem grid_zip {α β γ : Type} (k : α → β → γ) {w h : Nat} {f : Nat → Nat → α} {g : Nat → Nat → β} : List.zipWith (List.zipWith k) (grid w h f) (grid w h g) = grid w h fun i j => k (f i j) (g i j) := by
  unfold grid
  rw [zipWith_range]
  exact List.map_congr_left fun j _ => zipWith_range k w _ _
def kd (i p : Bool) : Nat := if i = p then 2 else if i = true then 1 else 0
def kRows (I P : Plane) : List (List Nat) := List.zipWith (List.zipWith kd) I P
theorem kRows_grid {w h : Nat} {I P : Plane} (oi : PlaneOk w h I) (op : PlaneOk w h P) : kRows I P = grid w h fun i j => kd (bit I i j) (bit P i j) := by
  conv => lhs; rw [plane_grid oi, plane_grid op]
  exact grid_zip kd
theorem foldl_sum (l : List Nat) : l.foldl (fun a b => a + b) 0 = l.sum := by
  rw [List.sum_eq_foldl]
def bothN (r s : List Bool) : Nat := (List.zipWith (fun a b => a.toNat &&& b.toNat) r s).sum
theorem sum_bits {α : Type} (p : α → Bool) : ∀ l : List α, (l.map fun i => (p i).toNat).sum = (l.filter p).length
  | [] => rfl
  | a :: l => by
    rw [List.map_cons, List.sum_cons, sum_bits p l, List.filter_cons]
    cases h : p a
    · simp
    · simp; omega
theorem and_toNat (a b : Bool) : a.toNat &&& b.toNat = (a && b).toNat := by cases a <;> cases b <;> rfl
theorem bothN_range {w : Nat} {f g : Nat → Bool} : bothN ((List.range w).map f) ((List.range w).map g) = ((List.range w).filter fun i => f i && g i).length := by
  unfold bothN
  rw [zipWith_range, ← sum_bits]
  congr 1
  exact List.map_congr_left fun i _ => and_toNat _ _
theorem row_range {w h j : Nat} {P : Plane} (o : PlaneOk w h P) (hj : j < h) : P.getD j [] = (List.range w).map fun i => bit P i j := by
  conv => lhs; rw [plane_grid o]
  unfold grid
  rw [range_getD hj]
theorem bothN_row {w h j : Nat} {I P : Plane} (oi : PlaneOk w h I) (op : PlaneOk w h P) (hj : j < h) : bothN (I.getD j []) (P.getD j []) = ((List.range w).filter fun i => bit I i j && bit P i j).length := by
  rw [row_range oi hj, row_range op hj, bothN_range]
theorem any_filter {α : Type} (p : α → Bool) (l : List α) : l.any p = decide (0 < (l.filter p).length) := by
  induction l with
  | nil => rfl
  | cons a l ih =>
    rw [List.any_cons, List.filter_cons, ih]
    cases h : p a <;> simp
theorem find_range_some {n i : Nat} {p : Nat → Bool} (hi : i < n) (h1 : ∀ j, j < i → p j = false) (h2 : p i = true) : (List.range n).find? p = some i := by
  rw [List.find?_range_eq_some]
  refine ⟨h2, by simpa using hi, fun j hj => by simp [h1 j hj]⟩
theorem find_range_none {n : Nat} {p : Nat → Bool} (h : ∀ j, j < n → p j = false) : (List.range n).find? p = none := by
  rw [List.find?_eq_none]
  intro j hj
  rw [h j (List.mem_range.mp hj)]; simp
theorem bothIn_some {w h i : Nat} {I P : Plane} (oi : PlaneOk w h I) (op : PlaneOk w h P) (hi : i < h) (h1 : ∀ j, j < i → bothN (I.getD j []) (P.getD j []) = 0) (h2 : 0 < bothN (I.getD i []) (P.getD i [])) : bothIn w I P = some i := by
  unfold bothIn
  rw [oi.len]
  refine find_range_some hi (fun j hj => ?_) ?_
  · have := h1 j hj
    rw [bothN_row oi op (by omega)] at this
    rw [any_filter, this]; rfl
  · rw [bothN_row oi op hi] at h2
    rw [any_filter]; exact decide_eq_true h2
theorem bothIn_none {w h : Nat} {I P : Plane} (oi : PlaneOk w h I) (op : PlaneOk w h P) (h1 : ∀ j, j < h → bothN (I.getD j []) (P.getD j []) = 0) : bothIn w I P = none := by
  unfold bothIn
  rw [oi.len]
  refine find_range_none fun j hj => ?_
  have := h1 j hj
  rw [bothN_row oi op hj] at this
  rw [any_filter, this]; rfl
theorem both_not {w h i j : Nat} {I P : Plane} (oi : PlaneOk w h I) (op : PlaneOk w h P) (e : bothIn w I P = none) (hi : i < w) (hj : j < h) : (bit I i j && bit P i j) = false := by
  unfold bothIn at e
  rw [oi.len, List.find?_eq_none] at e
  have := e j (List.mem_range.mpr hj)
  rw [Bool.not_eq_true, List.any_eq_false] at this
  have := this i (List.mem_range.mpr hi)
  simpa using this
theorem zipSum_grid {w h : Nat} {I P : Plane} (oi : PlaneOk w h I) (op : PlaneOk w h P) : (List.zipWith bothN I P).sum = ((List.range h).map fun j => ((List.range w).filter fun i => bit I i j && bit P i j).length).sum := by
  conv => lhs; rw [plane_grid oi, plane_grid op]
  unfold grid
  rw [zipWith_range]
  congr 1
  exact List.map_congr_left fun j _ => bothN_range
def isOdd (x : Nat × Nat) : Bool := x.1 != x.2 && (x.1 != 2 && x.2 != 2)
def oddR (r o : List Nat) : Nat := ((r.zip o).filter isOdd).length
def odds (R O : List (List Nat)) : Nat := ((R.zip O).map fun x => oddR x.1 x.2).sum
theorem zip_range {α β : Type} (n m : Nat) (f : Nat → α) (g : Nat → β) : ((List.range n).map f).zip ((List.range m).map g) = (List.range (min n m)).map fun i => (f i, g i) := by
  apply List.ext_getElem?
  intro i
  by_cases h : i < min n m
  · have h1 : i < n := by omega
    have h2 : i < m := by omega
    simp [List.zip, h, h1, h2]
  · rw [List.getElem?_eq_none (by simp; omega), List.getElem?_eq_none (by simp; omega)]
theorem filter_range_min {n m : Nat} {p : Nat → Bool} : (List.range (min n m)).filter p = (List.range n).filter fun i => decide (i < m) && p i := by
  by_cases h : n ≤ m
  · rw [Nat.min_eq_left h]
    refine List.filter_congr fun i hi => ?_
    have := List.mem_range.mp hi
    rw [decide_eq_true (by omega), Bool.true_and]
  · have h : m ≤ n := by omega
    rw [Nat.min_eq_right h]
    obtain ⟨k, rfl⟩ : ∃ k, n = m + k := ⟨n - m, by omega⟩
    rw [List.range_add, List.filter_append]
    have e2 : ((List.range k).map fun x => m + x).filter (fun i => decide (i < m) && p i) = [] := by
      rw [List.filter_eq_nil_iff]
      intro i hi
      obtain ⟨a, _, rfl⟩ := List.mem_map.mp hi
      rw [decide_eq_false (by omega)]; simp
    rw [e2, List.append_nil]
    refine List.filter_congr fun i hi => ?_
    have := List.mem_range.mp hi
    rw [decide_eq_true (by omega), Bool.true_and]
theorem oddR_range {n m : Nat} {f g : Nat → Nat} : oddR ((List.range n).map f) ((List.range m).map g) = ((List.range n).filter fun i => decide (i < m) && isOdd (f i, g i)).length := by
  unfold oddR
  rw [zip_range, List.filter_map, List.length_map, ← filter_range_min]
  rfl
theorem odds_grid {n m h : Nat} {f g : Nat → Nat → Nat} : odds (grid n h f) (grid m h g) = ((List.range h).map fun j => ((List.range n).filter fun i => decide (i < m) && isOdd (f i j, g i j)).length).sum := by
  unfold odds grid
  rw [zip_range, Nat.min_self, List.map_map]
  congr 1
  exact List.map_congr_left fun j _ => oddR_range
end FA
end
section
set_option Elab.async false
set_option linter.all false
namespace FA
open Sh
theorem points_eq {h : Nat} {g : Glyph} (o : GOk h g) : (kRows g.ink g.paper).flatten = ShB.points h g := by
  rw [kRows_grid o.ink o.paper]
  unfold ShB.points grid
  rw [← List.flatMap_def]
  unfold List.flatMap
  congr 1
  refine List.map_congr_left fun j hj => List.map_congr_left fun i hi => ?_
  have hb := both_not o.ink o.paper o.both (List.mem_range.mp hi) (List.mem_range.mp hj)
  unfold kd
  cases h1 : bit g.ink i j <;> cases h2 : bit g.paper i j <;> simp_all
def tRows (S : Scan) : List (List Nat) := S.rows.map fun r => r.map Trit.number
structure SOk (S : Scan) : Prop where
  len : S.rows.length = S.height
  rows : ∀ r ∈ S.rows, r.length = S.width
theorem scan_grid {S : Scan} (o : SOk S) : tRows S = grid S.width S.height fun i j => (S.at_ i j).number := by
  unfold tRows
  have e := by_range ([] : List Trit) S.rows
  rw [o.len] at e
  unfold grid
  conv => lhs; rw [e]
  rw [List.map_map]
  refine List.map_congr_left fun j hj => ?_
  have hj : j < S.rows.length := by rw [o.len]; exact List.mem_range.mp hj
  have hg : S.rows.getD j [] = S.rows[j] := by simp [List.getD, hj]
  have hl : (S.rows.getD j []).length = S.width := by rw [hg]; exact o.rows _ (List.getElem_mem hj)
  have e2 := by_range Trit.unclear (S.rows.getD j [])
  rw [hl] at e2
  show (S.rows.getD j []).map Trit.number = _
  conv => lhs; rw [e2]
  rw [List.map_map]
  rfl
def cut (R : List (List Nat)) (x y w h : Nat) : List (List Nat) := ((R.drop y).take h).map fun r => (r.drop x).take w
theorem cut_range {α : Type} {n a k : Nat} {f : Nat → α} (h : a + k ≤ n) : (((List.range n).map f).drop a).take k = (List.range k).map fun i => f (a + i) := by
  apply List.ext_getElem?
  intro i
  rw [List.getElem?_take]
  by_cases hi : i < k
  · rw [if_pos hi, List.getElem?_drop]
    have : a + i < n := by omega
    simp [this, hi]
  · rw [if_neg hi, List.getElem?_eq_none (by simp; omega)]
theorem cut_grid {W H x y w h : Nat} {f : Nat → Nat → Nat} (hx : x + w ≤ W) (hy : y + h ≤ H) : cut (grid W H f) x y w h = grid w h fun i j => f (x + i) (y + j) := by
  unfold cut grid
  rw [cut_range hy, List.map_map]
  exact List.map_congr_left fun j _ => cut_range hx
theorem wrong_eq {S : Scan} {h x y : Nat} {g : Glyph} (oS : SOk S) (o : GOk h g) (hx : x + g.width ≤ S.width) (hy : y + h ≤ S.height) : odds (kRows g.ink g.paper) (cut (tRows S) x y g.width h) = Sh.wrong S h g x y := by
  rw [kRows_grid o.ink o.paper, scan_grid oS, cut_grid hx hy, odds_grid]
  unfold Sh.wrong
  rw [foldl_sum]
  congr 1
  refine List.map_congr_left fun j hj => congrArg List.length (List.filter_congr fun i hi => ?_)
  have hi := List.mem_range.mp hi
  have hb := both_not o.ink o.paper o.both hi (List.mem_range.mp hj)
  rw [decide_eq_true hi]
  unfold isWrong isOdd kd
  generalize S.at_ (x + i) (y + j) = t
  cases h1 : bit g.ink i j <;> cases h2 : bit g.paper i j <;> cases t <;> simp_all [Trit.number]
theorem drop_range {α : Type} {n d : Nat} {f : Nat → α} : ((List.range n).map f).drop d = (List.range (n - d)).map fun i => f (d + i) := by
  apply List.ext_getElem?
  intro i
  rw [List.getElem?_drop]
  by_cases hi : i < n - d
  · have : d + i < n := by omega
    simp [this, hi]
  · rw [List.getElem?_eq_none (by simp; omega), List.getElem?_eq_none (by simp; omega)]
theorem clash_eq {h d : Nat} {f g : Glyph} (of : GOk h f) (og : GOk h g) : odds (kRows g.ink g.paper) ((kRows f.ink f.paper).map fun r => r.drop d) = Sh.clash h h f g d := by
  have e1 : (kRows f.ink f.paper).map (fun r => r.drop d) = grid (f.width - d) h fun i j => kd (bit f.ink (d + i) j) (bit f.paper (d + i) j) := by
    rw [kRows_grid of.ink of.paper]
    unfold grid
    rw [List.map_map]
    exact List.map_congr_left fun j _ => drop_range
  rw [e1, kRows_grid og.ink og.paper, odds_grid]
  unfold Sh.clash
  rw [foldl_sum, Nat.min_self]
  congr 1
  refine List.map_congr_left fun j hj => congrArg List.length (List.filter_congr fun i hi => ?_)
  have hi := List.mem_range.mp hi
  have hj := List.mem_range.mp hj
  have hg := both_not og.ink og.paper og.both hi hj
  by_cases hd : d + i < f.width
  · have hf := both_not of.ink of.paper of.both hd hj
    rw [decide_eq_true (by omega : i < f.width - d)]
    unfold isOdd kd
    cases h1 : bit g.ink i j <;> cases h2 : bit g.paper i j <;> cases h3 : bit f.ink (d + i) j <;> cases h4 : bit f.paper (d + i) j <;> simp_all
  · rw [decide_eq_false (by omega : ¬ i < f.width - d), bit_out of.ink hd, bit_out of.paper hd]
    simp
theorem readGlyphs_ok {h : Nat} : ∀ {k p q : Nat} {had : Option Glyph} {b r : Bytes} {l : List Glyph}, (∀ f, had = some f → GOk h f) → readGlyphs h k had b p = .ok (l, r, q) → b = l.flatMap writeGlyph ++ r ∧ q = p + (l.flatMap writeGlyph).length ∧ l.length = k ∧ (∀ g ∈ l, GOk h g) ∧
      (∀ f, had = some f → risingBy glyphKey (f :: l) = true) ∧ risingBy glyphKey l = true
  | 0, p, q, had, b, r, l, hh, e => by
    cases e
    exact ⟨rfl, rfl, rfl, fun _ h => (nomatch h), fun _ _ => rfl, rfl⟩
  | k + 1, p, q, had, b, r, l, hh, e => by
    rw [readGlyphs_succ hh] at e
    obtain ⟨⟨g, r1, q1⟩, e1, e⟩ := andThen_ok e
    obtain ⟨⟨l2, r2, q2⟩, e2, e⟩ := andThen_ok e
    cases e
    obtain ⟨⟨g', r1', q1'⟩, e3, e1⟩ := andThen_ok e1
    dsimp only at e1
    split at e1
    · rename_i hl
      cases e1
      obtain ⟨a1, a2, og⟩ := readGlyph_ok e3
      obtain ⟨b1, b2, b3, b4, b5, b6⟩ := readGlyphs_ok (fun f hf => by cases hf; exact og) e2
      dsimp only at *
      refine ⟨?_, ?_, by simp [b3], fun x hx => ?_, fun f hf => ?_, b5 _ rfl⟩
      · rw [List.flatMap_cons, List.append_assoc, ← b1]; exact a1
      · rw [List.flatMap_cons, List.length_append]; omega
      · rcases List.mem_cons.mp hx with rfl | hx
        · exact og
        · exact b4 x hx
      · subst hf
        rw [rises_some (hh f rfl) og] at hl
        show (lexLess (glyphKey f) (glyphKey g) && risingBy glyphKey (g :: l2)) = true
        rw [hl, b5 _ rfl]; rfl
    · cases e1
structure FOk (F : Face) : Prop where
  h1 : 1 ≤ F.height
  h64 : F.height ≤ 64
  each : F.each ≤ 4095
  glyphs : ∀ g ∈ F.glyphs, GOk F.height g
  rise : risingBy glyphKey F.glyphs = true
  num : F.glyphs.length ≤ 4096
theorem mB_ok {n lo hi rule p : Nat} {b : Bytes} {x : Nat × Bytes × Nat} (e : mB n lo hi rule b p = .ok x) : readNum n b p = .ok x ∧ lo ≤ x.1 ∧ x.1 ≤ hi := by
  obtain ⟨y, e1, e⟩ := andThen_ok e
  split at e
  · rename_i h
    cases e
    exact ⟨e1, h⟩
  · cases e
theorem mMark_ok : ∀ {m : List UInt8} {b r : Bytes} {p q : Nat}, mMark m b p = .ok (r, q) → b = m ++ r ∧ q = p + m.length
  | [], b, r, p, q, e => by cases e; exact ⟨rfl, rfl⟩
  | m :: ms, b, r, p, q, e => by
    cases b with
    | nil => cases e
    | cons c b =>
      rw [mMark_cons] at e
      split at e
      · rename_i h
        subst h
        obtain ⟨h1, h2⟩ := mMark_ok e
        exact ⟨by rw [h1]; rfl, by rw [h2, List.length_cons]; omega⟩
      · cases e
theorem judgeFace_ok {b : Bytes} {F : Face} (e : judgeFace b = .ok F) : FOk F ∧ b = writeFace F ∧ F.glyphs.length = num ((b.drop 7).take 2) := by
  rw [judgeFace_eq] at e
  obtain ⟨⟨r0, q0⟩, e0, e⟩ := andThen_ok e
  obtain ⟨⟨h, r1, q1⟩, e1, e⟩ := andThen_ok e
  obtain ⟨⟨c, r2, q2⟩, e2, e⟩ := andThen_ok e
  obtain ⟨⟨n, r3, q3⟩, e3, e⟩ := andThen_ok e
  obtain ⟨⟨l, r4, q4⟩, e4, e⟩ := andThen_ok e
  obtain ⟨_, e5, e⟩ := andThen_ok e
  cases e
  obtain ⟨a0, _⟩ := mMark_ok e0
  obtain ⟨e1, u1, v1⟩ := mB_ok e1
  obtain ⟨e2, u2, v2⟩ := mB_ok e2
  obtain ⟨e3, u3, v3⟩ := mB_ok e3
  obtain ⟨a1, _⟩ := readNum_split e1
  obtain ⟨a2, _⟩ := readNum_split e2
  obtain ⟨a3, _, k3⟩ := readNum_split e3
  obtain ⟨a4, b4, c4, d4, f4, g4⟩ := readGlyphs_ok (fun f (hf : (none : Option Glyph) = some f) => nomatch hf) e4
  have a1 : r0 = le 1 h ++ r1 := a1
  have a2 : r1 = le 2 c ++ r2 := a2
  have a3 : r2 = le 2 n ++ r3 := a3
  have a4 : r3 = l.flatMap writeGlyph ++ r4 := a4
  have h5 := need_ok e5
  have h5 : r4 = [] := by simpa using h5
  subst h5
  have hn : l.length = n := c4
  refine ⟨⟨u1, v1, v2, d4, g4, by show l.length ≤ 4096; rw [hn]; exact v3⟩, ?_, ?_⟩
  · show b = FACE ++ (le 1 h ++ (le 2 c ++ (le 2 l.length ++ l.flatMap writeGlyph)))
    rw [a0, hn, a1, a2, a3, a4, List.append_nil]
  · show l.length = num ((b.drop 7).take 2)
    rw [a0, a1, a2, a3, hn]
    have ed : (FACE ++ (le 1 h ++ (le 2 c ++ (le 2 n ++ r3)))).drop 7 = le 2 n ++ r3 := rfl
    rw [ed]
    have et : (le 2 n ++ r3).take 2 = le 2 n := rfl
    rw [et, num_le 2 n k3]
end FA
end
section
set_option Elab.async false
set_option linter.all false
namespace FA
open Sh
theorem packed_chunks : ∀ (k : Nat) (l : List Bool), packed k l = (List.range k).map fun i => byteOf ((l.drop (8 * i)).take 8)
  | 0, _ => rfl
  | k + 1, l => by
    rw [List.range_succ_eq_map, List.map_cons, List.map_map]
    show byteOf (l.take 8) :: packed k (l.drop 8) = _
    rw [packed_chunks k (l.drop 8)]
    congr 1
    refine List.map_congr_left fun i _ => ?_
    show byteOf (((l.drop 8).drop (8 * i)).take 8) = byteOf ((l.drop (8 * (i + 1))).take 8)
    rw [List.drop_drop, show 8 + 8 * i = 8 * (i + 1) by omega]
theorem bval_fold (l : List Bool) : (l.map Bool.toNat).reverse.foldl (fun n c => n * 2 + c) 0 = bval l := by
  rw [List.foldl_reverse]
  unfold bval
  rw [List.foldr_map]
  congr 1
  funext c n
  cases c <;> simp <;> omega
def bI (l : List Bool) : List Nat := l.map Bool.toNat
def bP (P : Plane) : List (List Nat) := P.map bI
def chunk (l : List Bool) (i : Nat) : Nat := bval ((l.drop (8 * i)).take 8)
theorem chunk_byte (l : List Bool) (i : Nat) : (byteOf ((l.drop (8 * i)).take 8)).toNat = chunk l i := byteOf_toNat (by rw [List.length_take]; omega)
theorem packed_nats (k : Nat) (l : List Bool) : nats (packed k l) = (List.range k).map (chunk l) := by
  rw [packed_chunks]
  unfold nats
  rw [List.map_map]
  exact List.map_congr_left fun i _ => chunk_byte l i
def leN : Nat → Nat → List Nat
  | 0, _ => []
  | k + 1, n => n % 256 :: leN k (n / 256)
theorem nats_le : ∀ k n : Nat, nats (le k n) = leN k n
  | 0, _ => rfl
  | k + 1, n => by
    show (UInt8.ofNat (n % 256)).toNat :: nats (le k (n / 256)) = n % 256 :: leN k (n / 256)
    rw [nats_le k, UInt8.toNat_ofNat', Nat.mod_eq_of_lt (by omega)]
theorem leN_snoc : ∀ (k n : Nat), leN (k + 1) n = leN k n ++ [n / 256 ^ k % 256]
  | 0, n => by simp [leN]
  | k + 1, n => by
    have ih := leN_snoc k (n / 256)
    rw [leN, ih]
    show _ = (n % 256 :: leN k (n / 256)) ++ _
    rw [Nat.div_div_eq_div_mul, ← Nat.pow_succ']
    rfl
theorem leN_length : ∀ (k n : Nat), (leN k n).length = k
  | 0, _ => rfl
  | k + 1, n => by rw [leN, List.length_cons, leN_length k]
theorem nats_append (a b : Bytes) : nats (a ++ b) = nats a ++ nats b := List.map_append ..
theorem leN_one {n : Nat} (h : n < 256) : leN 1 n = [n] := by show [n % 256] = [n]; rw [Nat.mod_eq_of_lt h]
theorem bits_kind {h : Nat} {g : Glyph} (o : GOk h g) (k : Nat) (hk : k = 1 ∨ k = 0) : (kRows g.ink g.paper).map (fun r => r.map fun z => if z = k then 1 else 0) = bP (if k = 1 then g.ink else g.paper) := by
  have e : ∀ f : Nat → Nat → Nat, (grid g.width h f).map (fun r => r.map fun z => if z = k then 1 else 0) = grid g.width h fun i j => if f i j = k then 1 else 0 := fun f => by
    unfold grid
    rw [List.map_map]
    refine List.map_congr_left fun j _ => ?_
    show List.map _ (List.map _ _) = _
    rw [List.map_map]
    rfl
  have e2 : ∀ P : Plane, PlaneOk g.width h P → bP P = grid g.width h fun i j => (bit P i j).toNat := fun P oP => by
    conv => lhs; rw [plane_grid oP]
    unfold bP bI grid
    rw [List.map_map]
    refine List.map_congr_left fun j _ => ?_
    show List.map _ (List.map _ _) = _
    rw [List.map_map]
    rfl
  rw [kRows_grid o.ink o.paper, e]
  rcases hk with rfl | rfl
  · rw [if_pos rfl, e2 _ o.ink]
    refine grid_congr fun i j hi hj => ?_
    have hb := both_not o.ink o.paper o.both hi hj
    unfold kd
    cases h1 : bit g.ink i j <;> cases h2 : bit g.paper i j <;> simp_all
  · rw [if_neg (by decide), e2 _ o.paper]
    refine grid_congr fun i j hi hj => ?_
    have hb := both_not o.ink o.paper o.both hi hj
    unfold kd
    cases h1 : bit g.ink i j <;> cases h2 : bit g.paper i j <;> simp_all
theorem lex_irrefl : ∀ l : List Nat, lexLess l l = false
  | [] => rfl
  | x :: l => by rw [lexLess_cons, lex_irrefl l]; simp
theorem lex_trans : ∀ {a b c : List Nat}, lexLess a b = true → lexLess b c = true → lexLess a c = true
  | [], [], c, h, _ => by cases h
  | [], _ :: _, [], _, h => by cases h
  | [], _ :: _, _ :: _, _, _ => rfl
  | _ :: _, [], _, h, _ => by cases h
  | _ :: _, _ :: _, [], _, h => by cases h
  | x :: a, y :: b, z :: c, h1, h2 => by
    rw [lexLess_cons] at h1 h2 ⊢
    simp only [Bool.or_eq_true, decide_eq_true_eq, Bool.and_eq_true, beq_iff_eq] at h1 h2 ⊢
    rcases h1 with h1 | ⟨rfl, h1⟩
    · rcases h2 with h2 | ⟨rfl, h2⟩
      · left; omega
      · left; exact h1
    · rcases h2 with h2 | ⟨rfl, h2⟩
      · left; exact h2
      · right; exact ⟨rfl, lex_trans h1 h2⟩
theorem lex_total : ∀ a b : List Nat, lexLess a b = true ∨ a = b ∨ lexLess b a = true
  | [], [] => .inr (.inl rfl)
  | [], _ :: _ => .inl rfl
  | _ :: _, [] => .inr (.inr rfl)
  | x :: a, y :: b => by
    rw [lexLess_cons, lexLess_cons]
    rcases Nat.lt_trichotomy x y with h | rfl | h
    · left; simp [h]
    · rcases lex_total a b with h | rfl | h
      · left; simp [h]
      · right; left; rfl
      · right; right; simp [h]
    · right; right; simp [h]
theorem lex_asymm {a b : List Nat} (h : lexLess a b = true) : lexLess b a = false := by
  cases e : lexLess b a with
  | false => rfl
  | true =>
    have := lex_trans h e
    rw [lex_irrefl] at this; cases this
theorem rising_all {α : Type} {key : α → List Nat} : ∀ {f : α} {r : List α}, risingBy key (f :: r) = true → (∀ x ∈ r, lexLess (key f) (key x) = true) ∧ risingBy key r = true
  | f, [], _ => ⟨fun _ h => (nomatch h), rfl⟩
  | f, y :: r, h => by
    have h : (lexLess (key f) (key y) && risingBy key (y :: r)) = true := h
    rw [Bool.and_eq_true] at h
    obtain ⟨i1, i2⟩ := rising_all (f := y) (r := r) h.2
    refine ⟨fun x hx => ?_, h.2⟩
    rcases List.mem_cons.mp hx with rfl | hx
    · exact h.1
    · exact lex_trans h.1 (i1 x hx)
theorem bitsOf_packed : ∀ (k w : Nat) (l : List Bool), rowBytes w = k → l.length = w → bitsOf w (packed k l) = l
  | 0, w, l, h, hl => by
    have : w = 0 := by unfold rowBytes at h; omega
    subst this
    rw [List.length_eq_zero_iff.mp hl]; rfl
  | k + 1, w, l, h, hl => by
    show bitsOf w (byteOf (l.take 8) :: packed k (l.drop 8)) = l
    have ht : (l.take 8).length ≤ 8 := by rw [List.length_take]; omega
    by_cases hk : w ≤ 8
    · rw [bitsOf_short hk, byteOf_toNat ht, List.take_of_length_le (by omega)]
      have := bits_bval l
      rw [hl] at this; exact this
    · have hk' : rowBytes (w - 8) = k := by unfold rowBytes at h ⊢; omega
      rw [bitsOf_cons (by omega), bitsOf_packed k (w - 8) (l.drop 8) hk' (by rw [List.length_drop]; omega), byteOf_toNat ht]
      have := bits_bval (l.take 8)
      rw [show (l.take 8).length = 8 by rw [List.length_take]; omega] at this
      rw [this, List.take_append_drop]
theorem writePlane_inj {w : Nat} : ∀ {h : Nat} {P Q : Plane}, PlaneOk w h P → PlaneOk w h Q → writePlane w P = writePlane w Q → P = Q
  | 0, P, Q, oP, oQ, _ => by rw [List.length_eq_zero_iff.mp oP.len, List.length_eq_zero_iff.mp oQ.len]
  | h + 1, [], _, oP, _, _ => by have := oP.len; simp at this
  | h + 1, _ :: _, [], _, oQ, _ => by have := oQ.len; simp at this
  | h + 1, r :: P, s :: Q, oP, oQ, e => by
    unfold writePlane at e
    rw [List.flatMap_cons, List.flatMap_cons] at e
    obtain ⟨e1, e2⟩ := List.append_inj e (by rw [packed_length, packed_length])
    have hr := bitsOf_packed (rowBytes w) w r rfl (oP.rows r List.mem_cons_self)
    have hs := bitsOf_packed (rowBytes w) w s rfl (oQ.rows s List.mem_cons_self)
    rw [e1, hs] at hr
    rw [hr, writePlane_inj oP.tail oQ.tail e2]
theorem le_inj {k a b : Nat} (ha : a < 256 ^ k) (hb : b < 256 ^ k) (e : le k a = le k b) : a = b := by
  rw [← num_le k a ha, ← num_le k b hb, e]
theorem nats_inj {a b : Bytes} (e : nats a = nats b) : a = b := List.map_inj_right (fun x y h => UInt8.toNat_inj.mp h) |>.mp e
theorem writeGlyph_inj {h : Nat} {f g : Glyph} (of : GOk h f) (og : GOk h g) (e : writeGlyph f = writeGlyph g) : f = g := by
  obtain ⟨l1, w1, i1, p1, u1, c1⟩ := f
  obtain ⟨l2, w2, i2, p2, u2, c2⟩ := g
  have e : le 2 l1 ++ (le 1 w1 ++ (le 2 u1 ++ (le 2 c1 ++ (writePlane w1 i1 ++ writePlane w1 p1)))) = le 2 l2 ++ (le 1 w2 ++ (le 2 u2 ++ (le 2 c2 ++ (writePlane w2 i2 ++ writePlane w2 p2)))) := e
  have a1 := of.letter; have a2 := og.letter; have a3 := of.w64; have a4 := og.w64; have a5 := of.budget; have a6 := og.budget; have a7 := of.cost; have a8 := og.cost
  dsimp only at a1 a2 a3 a4 a5 a6 a7 a8
  obtain ⟨e1, ea⟩ := List.append_inj e (by rw [le_length, le_length])
  obtain ⟨e2, eb⟩ := List.append_inj ea (by rw [le_length, le_length])
  obtain ⟨e3, ec⟩ := List.append_inj eb (by rw [le_length, le_length])
  obtain ⟨e4, ed⟩ := List.append_inj ec (by rw [le_length, le_length])
  have d1 := le_inj (by omega) (by omega) e1
  have d2 := le_inj (by omega) (by omega) e2
  have d3 := le_inj (by omega) (by omega) e3
  have d4 := le_inj (by omega) (by omega) e4
  subst d1 d2 d3 d4
  obtain ⟨e5, e6⟩ := List.append_inj ed (by rw [writePlane_length, writePlane_length, show i1.length = h from of.ink.len, show i2.length = h from og.ink.len])
  have d5 := writePlane_inj of.ink og.ink e5
  have d6 := writePlane_inj of.paper og.paper e6
  dsimp only at d5 d6
  subst d5 d6
  rfl
theorem rk_inj : ∀ {a b : List Nat}, a.length = b.length → rk a = rk b → a = b
  | [], [], _, _ => rfl
  | [_], [_], _, e => e
  | x :: y :: a, z :: t :: b, _, e => by
    have e : y :: x :: a = t :: z :: b := e
    cases e; rfl
  | [_], [], h, _ => by cases h
  | [], [_], h, _ => by cases h
  | [], _ :: _ :: _, h, _ => by cases h
  | [_], _ :: _ :: _, h, _ => by cases h
  | _ :: _ :: _, [], h, _ => by cases h
  | _ :: _ :: _, [_], h, _ => by cases h
theorem rk_length (l : List Nat) : (rk l).length = l.length := by
  match l with
  | [] => rfl
  | [_] => rfl
  | _ :: _ :: _ => rfl
theorem rk_eq {h : Nat} {f g : Glyph} (of : GOk h f) (og : GOk h g) : rk (nats (writeGlyph f)) = rk (nats (writeGlyph g)) ↔ g = f := by
  constructor
  · intro e
    have hl : (nats (writeGlyph f)).length = (nats (writeGlyph g)).length := by
      have := congrArg List.length e
      rw [rk_length, rk_length] at this; exact this
    exact (writeGlyph_inj of og (nats_inj (rk_inj hl e))).symm
  · intro e; rw [e]
theorem key_eq {h : Nat} {f g : Glyph} (of : GOk h f) (og : GOk h g) (e : glyphKey f = glyphKey g) : f = g := by
  refine ((rk_eq of og).mp ?_).symm
  rw [rk_shape of, rk_shape og]
  unfold glyphKey at e
  injection e with e1 e2
  injection e2 with e2 e3
  have e3 : nats ((writeGlyph f).drop 3) = nats ((writeGlyph g).drop 3) := e3
  rw [e1, e2, e3]
def less (g : Glyph) (l : List Glyph) : List Glyph := l.filter fun f => lexLess (glyphKey f) (glyphKey g)
theorem insert_eq {h : Nat} {g : Glyph} (og : GOk h g) : ∀ {l : List Glyph}, (∀ f ∈ l, GOk h f) → risingBy glyphKey l = true →
    insertGlyph g l = match l.drop (less g l).length with | f :: r => if g = f then none else some (less g l ++ g :: f :: r) | [] => some (less g l ++ [g])
  | [], _, _ => rfl
  | f :: r, ho, hr => by
    obtain ⟨r1, r2⟩ := rising_all hr
    have of := ho f List.mem_cons_self
    have none_of : lexLess (glyphKey f) (glyphKey g) = false → (∀ x ∈ r, lexLess (glyphKey x) (glyphKey g) = false) → less g (f :: r) = [] := fun h1 h2 => by
      unfold less
      rw [List.filter_eq_nil_iff]
      intro x hx
      rcases List.mem_cons.mp hx with rfl | hx
      · rw [h1]; simp
      · rw [h2 x hx]; simp
    show (if lexLess (glyphKey g) (glyphKey f) = true then _ else if g = f then none else (insertGlyph g r).map _) = _
    rcases lex_total (glyphKey g) (glyphKey f) with hl | he | hl
    · have hn := none_of (lex_asymm hl) fun x hx => lex_asymm (lex_trans hl (r1 x hx))
      rw [if_pos hl, hn]
      have : ¬ g = f := fun z => by rw [z, lex_irrefl] at hl; cases hl
      show _ = if g = f then none else _
      rw [if_neg this]; rfl
    · have e := key_eq og of he
      subst e
      have hn := none_of (lex_irrefl _) fun x hx => lex_asymm (r1 x hx)
      rw [if_neg (by rw [lex_irrefl]; simp), if_pos rfl, hn]
      show _ = if g = g then none else _
      rw [if_pos rfl]
    · have hne : ¬ g = f := fun z => by rw [z, lex_irrefl] at hl; cases hl
      rw [if_neg (by rw [lex_asymm hl]; simp), if_neg hne, insert_eq og (fun x hx => ho x (List.mem_cons_of_mem _ hx)) r2]
      have e1 : less g (f :: r) = f :: less g r := by unfold less; rw [List.filter_cons, if_pos hl]
      rw [e1, List.length_cons, List.drop_succ_cons]
      cases r.drop (less g r).length with
      | nil => rfl
      | cons x t =>
        dsimp only
        by_cases hx : g = x
        · rw [if_pos hx, if_pos hx]; rfl
        · rw [if_neg hx, if_neg hx]; rfl
end FA
end
section
set_option Elab.async false
set_option linter.all false
namespace FA
open Sh
theorem mB_bind {α : Type} {n lo hi rule p : Nat} {b : Bytes} {k : Nat × Bytes × Nat → Except Fault α} {c : Nat → Bool} (hc : ∀ v, c v = (decide (lo ≤ v) && decide (v ≤ hi))) :
    (andThen (readNum n b p) fun x => andThen (need (c x.1) rule p) fun _ => k x) = andThen (mB n lo hi rule b p) k := by
  unfold mB
  cases readNum n b p with
  | error z => rfl
  | ok x =>
    show andThen (need (c x.1) rule p) _ = andThen (if lo ≤ x.1 ∧ x.1 ≤ hi then _ else _) k
    rw [hc]
    by_cases h : lo ≤ x.1 ∧ x.1 ≤ hi
    · rw [if_pos h, decide_eq_true h.1, decide_eq_true h.2]; rfl
    · rw [if_neg h]
      have : (decide (lo ≤ x.1) && decide (x.1 ≤ hi)) = false := by
        rw [Bool.and_eq_false_iff, decide_eq_false_iff_not, decide_eq_false_iff_not]; omega
      rw [this]; rfl
theorem four_split : ∀ {b : Bytes}, 4 ≤ b.length → ∃ c0 c1 c2 c3 r, b = c0 :: c1 :: c2 :: c3 :: r
  | [], h => by simp at h
  | [_], h => by simp at h
  | [_, _], h => by simp at h
  | [_, _, _], h => by simp at h
  | c0 :: c1 :: c2 :: c3 :: r, _ => ⟨c0, c1, c2, c3, r, rfl⟩
theorem judgeScan_eq (b : Bytes) : judgeScan b =
    andThen (mMark TRITS b 0) fun m =>
    andThen (mB 4 1 8192 2 m.1 m.2) fun w =>
    andThen (mB 4 1 (min 8192 (16777216 / w.1)) 2 w.2.1 w.2.2) fun h =>
    andThen (readLines w.1 h.1 none h.2.1 h.2.2) fun l => .ok ⟨w.1, h.1, l⟩ := by
  unfold judgeScan readHead
  have hm : mMark TRITS b 0 = readMark TRITS b := mMark_eq
  rw [hm]
  unfold readMark
  cases e0 : markAt TRITS b with
  | some i => rfl
  | none =>
    show andThen (andThen (need (decide (8 ≤ b.length)) 5 b.length) _) _ = andThen (mB 4 1 8192 2 (b.drop 4) 4) _
    have hb4 : 4 ≤ b.length := by
      have : mMark TRITS b 0 = .ok (b.drop 4, 4) := by rw [hm]; unfold readMark; rw [e0]; rfl
      obtain ⟨h1, _⟩ := mMark_ok this
      rw [h1]; show 4 ≤ (TRITS ++ _).length; rw [List.length_append]; exact Nat.le_add_right _ _
    have hd : (b.drop 4).length = b.length - 4 := List.length_drop
    unfold mB
    by_cases h8 : 8 ≤ b.length
    · rw [decide_eq_true h8]
      have r1 : readNum 4 (b.drop 4) 4 = .ok (u32 b 4, b.drop 8, 8) := by
        unfold readNum
        rw [if_neg (by omega), List.drop_drop]; rfl
      rw [r1]
      show andThen (andThen (need (decide (1 ≤ u32 b 4) && decide (u32 b 4 ≤ EDGE)) 2 4) _) _ = andThen (if 1 ≤ u32 b 4 ∧ u32 b 4 ≤ 8192 then _ else _) _
      by_cases hw : 1 ≤ u32 b 4 ∧ u32 b 4 ≤ 8192
      · rw [if_pos hw, decide_eq_true hw.1, decide_eq_true (show u32 b 4 ≤ EDGE from hw.2)]
        show andThen (andThen (need (decide (12 ≤ b.length)) 5 b.length) _) _ = andThen (andThen (readNum 4 (b.drop 8) 8) _) _
        have hd8 : (b.drop 8).length = b.length - 8 := List.length_drop
        by_cases h12 : 12 ≤ b.length
        · rw [decide_eq_true h12]
          have r2 : readNum 4 (b.drop 8) 8 = .ok (u32 b 8, b.drop 12, 12) := by
            unfold readNum
            rw [if_neg (by omega), List.drop_drop]; rfl
          rw [r2]
          show andThen (andThen (need (decide (1 ≤ u32 b 8) && (decide (u32 b 8 ≤ EDGE) && decide (u32 b 4 * u32 b 8 ≤ POINTS))) 2 8) _) _ = andThen (if 1 ≤ u32 b 8 ∧ u32 b 8 ≤ min 8192 (16777216 / u32 b 4) then _ else _) _
          have hp : (decide (u32 b 8 ≤ EDGE) && decide (u32 b 4 * u32 b 8 ≤ POINTS)) = decide (u32 b 8 ≤ min 8192 (16777216 / u32 b 4)) := by
            have : u32 b 8 ≤ 16777216 / u32 b 4 ↔ u32 b 4 * u32 b 8 ≤ POINTS := by
              rw [Nat.le_div_iff_mul_le (by omega), Nat.mul_comm]; rfl
            by_cases q1 : u32 b 8 ≤ 8192
            · by_cases q2 : u32 b 4 * u32 b 8 ≤ POINTS
              · rw [decide_eq_true (show u32 b 8 ≤ EDGE from q1), decide_eq_true q2, decide_eq_true (Nat.le_min.mpr ⟨q1, this.mpr q2⟩)]; rfl
              · rw [decide_eq_false q2, decide_eq_false (fun z => q2 (this.mp (Nat.le_min.mp z).2)), Bool.and_false]
            · rw [decide_eq_false (show ¬ u32 b 8 ≤ EDGE from q1), decide_eq_false (fun z => q1 (Nat.le_min.mp z).1), Bool.false_and]
          rw [hp]
          by_cases hh : 1 ≤ u32 b 8 ∧ u32 b 8 ≤ min 8192 (16777216 / u32 b 4)
          · rw [if_pos hh, decide_eq_true hh.1, decide_eq_true hh.2]; rfl
          · rw [if_neg hh]
            have : (decide (1 ≤ u32 b 8) && decide (u32 b 8 ≤ min 8192 (16777216 / u32 b 4))) = false := by
              rw [Bool.and_eq_false_iff, decide_eq_false_iff_not, decide_eq_false_iff_not]; omega
            rw [this]; rfl
        · rw [decide_eq_false h12]
          have r2 : readNum 4 (b.drop 8) 8 = .error ⟨5, b.length⟩ := by
            unfold readNum
            rw [if_pos (by omega), hd8, show 8 + (b.length - 8) = b.length by omega]
          rw [r2]; rfl
      · rw [if_neg hw]
        have : (decide (1 ≤ u32 b 4) && decide (u32 b 4 ≤ EDGE)) = false := by
          rw [Bool.and_eq_false_iff, decide_eq_false_iff_not, decide_eq_false_iff_not]
          have : EDGE = 8192 := rfl
          omega
        rw [this]; rfl
    · rw [decide_eq_false h8]
      have r1 : readNum 4 (b.drop 4) 4 = .error ⟨5, b.length⟩ := by
        unfold readNum
        rw [if_pos (by omega), hd, show 4 + (b.length - 4) = b.length by omega]
      rw [r1]; rfl
def mLine (w : Nat) (above : Option (List Trit)) (b : Bytes) (p : Nat) : Except Fault (List Trit × Bytes × Nat) :=
  match b, above with
  | 255 :: r, some a => .ok (a, r, p + 1)
  | _, _ => andThen (readRuns w w [] b p) fun x => if b.take (b.length - x.2.1.length) = writeLine above x.1 then .ok x else .error ⟨6, p⟩
theorem mLine_same {w p : Nat} {a : List Trit} {r : Bytes} : mLine w (some a) (255 :: r) p = .ok (a, r, p + 1) := rfl
theorem mLine_else {w p : Nat} {above : Option (List Trit)} {b : Bytes} (h : ∀ a r, ¬ (above = some a ∧ b = 255 :: r)) : mLine w above b p = andThen (readRuns w w [] b p) fun x => if b.take (b.length - x.2.1.length) = writeLine above x.1 then .ok x else .error ⟨6, p⟩ := by
  unfold mLine
  split
  · rename_i r a
    exact absurd ⟨rfl, rfl⟩ (h a r)
  · rfl
theorem readLine_eq {w p : Nat} {above : Option (List Trit)} {b : Bytes} : readLine w above b p = mLine w above b p := by
  unfold readLine mLine
  split
  · rename_i r a
    show andThen (need (decide ((255 :: r).take ((255 :: r).length - r.length) = writeLine (some a) a)) 6 p) _ = _
    have e : ((255 : UInt8) :: r).take ((255 :: r).length - r.length) = writeLine (some a) a := by
      unfold writeLine
      rw [if_pos rfl, List.length_cons, show r.length + 1 - r.length = 1 by omega]; rfl
    rw [decide_eq_true e]; rfl
  · rename_i hx
    have hm : mLine w above b p = andThen (readRuns w w [] b p) fun x => if b.take (b.length - x.2.1.length) = writeLine above x.1 then .ok x else .error ⟨6, p⟩ := mLine_else fun a r h => hx r a h.2 h.1
    unfold mLine at hm
    rw [hm]
    cases readRuns w w [] b p with
    | error z => rfl
    | ok x =>
      show andThen (need (decide (b.take (b.length - x.2.1.length) = writeLine above x.1)) 6 p) _ = if b.take (b.length - x.2.1.length) = writeLine above x.1 then _ else _
      by_cases h : b.take (b.length - x.2.1.length) = writeLine above x.1
      · rw [if_pos h, decide_eq_true h]; rfl
      · rw [if_neg h, decide_eq_false h]; rfl
theorem readLines_succ {w h p : Nat} {above : Option (List Trit)} {b : Bytes} : readLines w (h + 1) above b p = andThen (mLine w above b p) fun x => andThen (readLines w h (some x.1) x.2.1 x.2.2) fun l => .ok (x.1 :: l) := by
  show andThen (readLine w above b p) _ = _
  rw [readLine_eq]
theorem readRuns_done {w f p : Nat} {had : List Trit} {b : Bytes} (h : had.length = w) : readRuns w f had b p = .ok (had, b, p) := by
  cases f with
  | zero => unfold readRuns; rw [if_pos h]
  | succ f => unfold readRuns; rw [if_pos h]
theorem readRuns_step {w f p : Nat} {had : List Trit} {b : Bytes} (h : had.length < w) (hf : w ≤ f + had.length) : ∃ f', f = f' + 1 ∧ readRuns w f had b p = andThen (mB 1 0 191 3 b p) fun k => if w < had.length + (k.1 % 64 + 1) then .error ⟨4, p⟩ else readRuns w f' (had ++ List.replicate (k.1 % 64 + 1) (tritOf (k.1 / 64))) k.2.1 k.2.2 := by
  cases f with
  | zero => omega
  | succ f =>
    refine ⟨f, rfl, ?_⟩
    conv => lhs; unfold readRuns
    rw [if_neg (by omega)]
    cases b with
    | nil => rfl
    | cons k r =>
      unfold mB
      rw [readNum_one]
      show (if 192 ≤ k.toNat then _ else _) = andThen (if 0 ≤ k.toNat ∧ k.toNat ≤ 191 then _ else _) _
      by_cases hk : 192 ≤ k.toNat
      · rw [if_pos hk, if_neg (by omega)]; rfl
      · rw [if_neg hk, if_pos (show 0 ≤ k.toNat ∧ k.toNat ≤ 191 by omega)]; rfl
theorem readRuns_ok {w : Nat} : ∀ {f p q : Nat} {had l : List Trit} {b r : Bytes}, readRuns w f had b p = .ok (l, r, q) → l.length = w ∧ ∃ k, k ≤ b.length ∧ r = b.drop k ∧ q = p + k
  | 0, p, q, had, l, b, r, e => by
    unfold readRuns at e
    split at e
    · rename_i h; cases e; exact ⟨h, 0, Nat.zero_le _, rfl, rfl⟩
    · cases e
  | f + 1, p, q, had, l, b, r, e => by
    unfold readRuns at e
    split at e
    · rename_i h; cases e; exact ⟨h, 0, Nat.zero_le _, rfl, rfl⟩
    · split at e
      · cases e
      · split at e
        · cases e
        · split at e
          · cases e
          · obtain ⟨h1, k, h2, h3, h4⟩ := readRuns_ok e
            exact ⟨h1, k + 1, by simpa using h2, by rw [h3]; rfl, by omega⟩
theorem mLine_ok {w p q : Nat} {above : Option (List Trit)} {b r : Bytes} {l : List Trit} (ha : ∀ a, above = some a → a.length = w) (e : mLine w above b p = .ok (l, r, q)) : l.length = w ∧ ∃ k, k ≤ b.length ∧ r = b.drop k ∧ q = p + k := by
  unfold mLine at e
  split at e
  · rename_i r' a
    cases e
    exact ⟨ha _ rfl, 1, by simp, rfl, rfl⟩
  · obtain ⟨x, e1, e⟩ := andThen_ok e
    obtain ⟨x1, x2, x3⟩ := x
    dsimp only at e
    split at e
    · cases e
      exact readRuns_ok e1
    · cases e
theorem readLines_ok {w : Nat} : ∀ {h p : Nat} {above : Option (List Trit)} {b : Bytes} {l : List (List Trit)}, (∀ a, above = some a → a.length = w) → readLines w h above b p = .ok l → l.length = h ∧ ∀ r ∈ l, r.length = w
  | 0, p, above, b, l, ha, e => by
    obtain ⟨_, _, e⟩ := andThen_ok e
    cases e
    exact ⟨rfl, fun _ h => nomatch h⟩
  | h + 1, p, above, b, l, ha, e => by
    rw [readLines_succ] at e
    obtain ⟨⟨x1, x2, x3⟩, e1, e⟩ := andThen_ok e
    obtain ⟨l2, e2, e⟩ := andThen_ok e
    cases e
    obtain ⟨h1, _⟩ := mLine_ok ha e1
    obtain ⟨g1, g2⟩ := readLines_ok (fun a h => by cases h; exact h1) e2
    refine ⟨by simp [g1], fun r hr => ?_⟩
    rcases List.mem_cons.mp hr with rfl | hr
    · exact h1
    · exact g2 r hr
theorem judgeScan_ok {b : Bytes} {S : Scan} (e : judgeScan b = .ok S) : SOk S ∧ S.width = u32 b 4 ∧ S.height = u32 b 8 ∧ 1 ≤ S.width ∧ 1 ≤ S.height := by
  unfold judgeScan readHead at e
  obtain ⟨⟨w, h⟩, e1, e⟩ := andThen_ok e
  obtain ⟨l, e2, e⟩ := andThen_ok e
  cases e
  obtain ⟨g1, g2⟩ := readLines_ok (fun a (h : none = some a) => nomatch h) e2
  split at e1
  · cases e1
  · obtain ⟨_, _, e1⟩ := andThen_ok e1
    obtain ⟨_, c1, e1⟩ := andThen_ok e1
    obtain ⟨_, _, e1⟩ := andThen_ok e1
    obtain ⟨_, c2, e1⟩ := andThen_ok e1
    cases e1
    have c1 := need_ok c1
    have c2 := need_ok c2
    simp only [Bool.and_eq_true, decide_eq_true_eq] at c1 c2
    exact ⟨⟨g1, g2⟩, rfl, rfl, c1.1, c2.1⟩
theorem number_inj {a b : Trit} (h : a.number = b.number) : a = b := by cases a <;> cases b <;> simp_all [Trit.number]
theorem number_lt (a : Trit) : a.number ≤ 2 := by cases a <;> decide
theorem tritOf_number {n : Nat} (h : n ≤ 2) : (tritOf n).number = n := by
  match n, h with
  | 0, _ => rfl
  | 1, _ => rfl
  | 2, _ => rfl
theorem writeRuns_step {l : List Trit} {s e f : Nat} {t : Trit} (hs : l[s]? = some t) (h1 : s + 1 ≤ e) (h2 : e ≤ l.length) (h3 : e - s ≤ 64) (hall : ∀ j, s < j → j < e → l[j]? = some t)
    (hend : e = l.length ∨ e - s = 64 ∨ ∃ u, l[e]? = some u ∧ u ≠ t) (hf : l.length ≤ f + s) : ∃ f', f = f' + 1 ∧ writeRuns f (l.drop s) = UInt8.ofNat (64 * t.number + (e - s - 1)) :: writeRuns f' (l.drop e) := by
  have hlt : s < l.length := by omega
  cases f with
  | zero => omega
  | succ f =>
    refine ⟨f, rfl, ?_⟩
    have ht : l[s] = t := by rw [List.getElem?_eq_getElem hlt] at hs; exact Option.some.inj hs
    have ed : l.drop s = t :: l.drop (s + 1) := by rw [List.drop_eq_getElem_cons hlt, ht]
    rw [ed]
    have e0 : writeRuns (f + 1) (t :: l.drop (s + 1)) = UInt8.ofNat (64 * t.number + (min (1 + ((l.drop (s + 1)).takeWhile fun u => u == t).length) 64 - 1)) :: writeRuns f ((t :: l.drop (s + 1)).drop (min (1 + ((l.drop (s + 1)).takeWhile fun u => u == t).length) 64)) := rfl
    -- the run
    obtain ⟨k, hk⟩ : ∃ k, e = s + 1 + k := ⟨e - (s + 1), by omega⟩
    have tw : min (1 + ((l.drop (s + 1)).takeWhile fun u => u == t).length) 64 = e - s := by
      have hge : k ≤ ((l.drop (s + 1)).takeWhile fun u => u == t).length := by
        have hpre : ∀ (m : Nat) (r : List Trit), m ≤ r.length → (∀ j, j < m → r[j]? = some t) → m ≤ (r.takeWhile fun u => u == t).length := by
          intro m
          induction m with
          | zero => intro r _ _; exact Nat.zero_le _
          | succ m ih =>
            intro r hr hj
            cases r with
            | nil => simp at hr
            | cons a r =>
              have ha : a = t := by have := hj 0 (by omega); simpa using this
              subst ha
              rw [List.takeWhile_cons, if_pos (by simp)]
              have := ih r (by simpa using hr) fun j hjj => by have := hj (j + 1) (by omega); simpa using this
              simpa using this
        refine hpre k _ (by rw [List.length_drop]; omega) fun j hj => ?_
        rw [List.getElem?_drop]
        exact hall (s + 1 + j) (by omega) (by omega)
      rcases hend with he | he | ⟨u, hu, hne⟩
      · have : ((l.drop (s + 1)).takeWhile fun u => u == t).length ≤ (l.drop (s + 1)).length := (List.takeWhile_sublist _).length_le
        rw [List.length_drop] at this
        omega
      · omega
      · have hle : ((l.drop (s + 1)).takeWhile fun u => u == t).length ≤ k := by
          have hpost : ∀ (m : Nat) (r : List Trit), (∃ u, r[m]? = some u ∧ u ≠ t) → (r.takeWhile fun u => u == t).length ≤ m := by
            intro m
            induction m with
            | zero =>
              rintro r ⟨u, hu, hne⟩
              cases r with
              | nil => simp at hu
              | cons a r =>
                have : a = u := by simpa using hu
                subst this
                rw [List.takeWhile_cons, if_neg (by simpa using hne)]; simp
            | succ m ih =>
              rintro r ⟨u, hu, hne⟩
              cases r with
              | nil => simp at hu
              | cons a r =>
                rw [List.takeWhile_cons]
                split
                · have := ih r ⟨u, by simpa using hu, hne⟩
                  simpa using this
                · simp
          refine hpost k _ ⟨u, ?_, hne⟩
          rw [List.getElem?_drop, ← hk]; exact hu
        omega
    rw [e0, tw]
    congr 1
    have : (t :: l.drop (s + 1)).drop (e - s) = l.drop e := by
      rw [← ed, List.drop_drop, show s + (e - s) = e by omega]
    rw [this]
theorem writeRuns_end {l : List Trit} {s f : Nat} (h : l.length ≤ s) : writeRuns f (l.drop s) = [] := by
  rw [List.drop_of_length_le h]
  cases f <;> rfl
end FA
end
section
set_option Elab.async false
set_option linter.all false
namespace FA
open Sh
theorem num_step {α : Type} {n lo hi rule p pl : Nat} {b : Bytes} {k k' : Nat × Bytes × Nat → Except Fault α} {c : Nat → Bool} (hp : pl = p) (hc : ∀ v, c v = (decide (lo ≤ v) && decide (v ≤ hi)))
    (hk : ∀ v r, k (v, r, p + n) = k' (v, r, p + n)) : (andThen (readNum n b p) fun x => andThen (need (c x.1) rule pl) fun _ => k x) = andThen (mB n lo hi rule b p) k' := by
  subst hp
  rw [mB_bind hc]
  unfold mB
  cases e : readNum n b pl with
  | error z => rfl
  | ok x =>
    obtain ⟨v, r, q⟩ := x
    obtain ⟨_, _, _, hq⟩ := readNum_ok e
    subst hq
    show andThen (if lo ≤ v ∧ v ≤ hi then _ else _) k = andThen (if lo ≤ v ∧ v ≤ hi then _ else _) k'
    by_cases h : lo ≤ v ∧ v ≤ hi
    · rw [if_pos h]; exact hk v r
    · rw [if_neg h]; rfl
def mSP (w h n : Nat) (b : Bytes) (p : Nat) : Except Fault (Plane × Bytes × Nat) :=
  andThen (readPlane w h b p) fun i => match (if n = 0 then anyIn w i.1 else none) with
    | some j => .error ⟨4, p + rowBytes w * j⟩
    | none => .ok i
theorem plane_step {α : Type} {w h n p pl : Nat} {b : Bytes} {k k' : Plane × Bytes × Nat → Except Fault α} (hp : pl = p) (hk : ∀ x, k x = k' x) :
    (andThen (readPlane w h b p) fun i => andThen ((match (if n = 0 then anyIn w i.1 else none) with
      | some j => need false 4 (pl + rowBytes w * j)
      | none => need true 4 0)) fun _ => k i) = andThen (mSP w h n b p) k' := by
  subst hp
  unfold mSP
  cases e : readPlane w h b pl with
  | error z => rfl
  | ok x =>
    show andThen (match (if n = 0 then anyIn w x.1 else none) with | some j => need false 4 (pl + rowBytes w * j) | none => need true 4 0) _ = andThen (match (if n = 0 then anyIn w x.1 else none) with | some j => _ | none => _) _
    cases (if n = 0 then anyIn w x.1 else none) with
    | none => exact hk x
    | some j => rfl
theorem judgeLearnt_eq (b : Bytes) : judgeLearnt b =
    andThen (mMark SEEN b 0) fun m =>
    andThen (mB 2 0 4095 2 m.1 m.2) fun l =>
    andThen (mB 1 1 64 2 l.2.1 l.2.2) fun w =>
    andThen (mB 1 1 64 2 w.2.1 w.2.2) fun h =>
    andThen (mB 2 0 4096 2 h.2.1 h.2.2) fun u =>
    andThen (mB 2 0 4096 2 u.2.1 u.2.2) fun n =>
    andThen (mSP w.1 h.1 n.1 n.2.1 n.2.2) fun i =>
    andThen (mSP w.1 h.1 n.1 i.2.1 i.2.2) fun q =>
    andThen (need q.2.1.isEmpty 7 q.2.2) fun _ => .ok ⟨l.1, w.1, h.1, u.1, n.1, i.1, q.1⟩ := by
  unfold judgeLearnt
  rw [show readMark SEEN b = mMark SEEN b 0 from mMark_eq.symm]
  cases e0 : mMark SEEN b 0 with
  | error z => rfl
  | ok m =>
    obtain ⟨m1, m2⟩ := m
    obtain ⟨_, hm⟩ := mMark_ok e0
    have hm : m2 = 4 := hm
    subst hm
    show andThen (readNum 2 m1 4) _ = andThen (mB 2 0 4095 2 m1 4) _
    have c0 : ∀ (m v : Nat), decide (v ≤ m) = (decide (0 ≤ v) && decide (v ≤ m)) := fun m v => by rw [decide_eq_true (Nat.zero_le v), Bool.true_and]
    refine num_step (c := fun v => decide (v ≤ LETTERMOST)) rfl (fun v => c0 4095 v) fun l r1 => ?_
    refine num_step (c := fun v => decide (1 ≤ v) && decide (v ≤ SIDE)) rfl (fun v => rfl) fun w r2 => ?_
    refine num_step (c := fun v => decide (1 ≤ v) && decide (v ≤ SIDE)) rfl (fun v => rfl) fun h r3 => ?_
    refine num_step (c := fun v => decide (v ≤ BUDGET)) rfl (fun v => c0 4096 v) fun u r4 => ?_
    refine num_step (c := fun v => decide (v ≤ SAMPLES)) rfl (fun v => c0 4096 v) fun n r5 => ?_
    refine plane_step rfl fun i => ?_
    exact plane_step rfl fun q => rfl
structure LOk (L : Learnt) : Prop where
  letter : L.letter ≤ 4095
  w1 : 1 ≤ L.width
  w64 : L.width ≤ 64
  h1 : 1 ≤ L.height
  h64 : L.height ≤ 64
  loose : L.loose ≤ 4096
  seen : L.seen ≤ 4096
  ink : PlaneOk L.width L.height L.ink
  paper : PlaneOk L.width L.height L.paper
theorem mSP_ok {w h n p : Nat} {b : Bytes} {x : Plane × Bytes × Nat} (e : mSP w h n b p = .ok x) : readPlane w h b p = .ok x := by
  obtain ⟨y, e1, e⟩ := andThen_ok e
  split at e
  · cases e
  · cases e; exact e1
theorem judgeLearnt_ok {b : Bytes} {L : Learnt} (e : judgeLearnt b = .ok L) : LOk L := by
  rw [judgeLearnt_eq] at e
  obtain ⟨⟨r0, q0⟩, e0, e⟩ := andThen_ok e
  obtain ⟨⟨l, r1, q1⟩, e1, e⟩ := andThen_ok e
  obtain ⟨⟨w, r2, q2⟩, e2, e⟩ := andThen_ok e
  obtain ⟨⟨h, r3, q3⟩, e3, e⟩ := andThen_ok e
  obtain ⟨⟨u, r4, q4⟩, e4, e⟩ := andThen_ok e
  obtain ⟨⟨n, r5, q5⟩, e5, e⟩ := andThen_ok e
  obtain ⟨⟨I, r6, q6⟩, e6, e⟩ := andThen_ok e
  obtain ⟨⟨P, r7, q7⟩, e7, e⟩ := andThen_ok e
  obtain ⟨_, e8, e⟩ := andThen_ok e
  cases e
  have b1 := (mB_ok e1).2
  have b2 := (mB_ok e2).2
  have b3 := (mB_ok e3).2
  have b4 := (mB_ok e4).2
  have b5 := (mB_ok e5).2
  exact ⟨b1.2, b2.1, b2.2, b3.1, b3.2, b4.2, b5.2, (readPlane_ok (mSP_ok e6)).2.2, (readPlane_ok (mSP_ok e7)).2.2⟩
def anyR (r : List Bool) : Bool := r.any id
theorem anyR_row {w h j : Nat} {P : Plane} (o : PlaneOk w h P) (hj : j < h) : anyR (P.getD j []) = (List.range w).any fun i => bit P i j := by
  rw [row_range o hj]
  unfold anyR
  rw [List.any_map]
  rfl
theorem anyIn_some {w h i : Nat} {P : Plane} (o : PlaneOk w h P) (hi : i < h) (h1 : ∀ j, j < i → anyR (P.getD j []) = false) (h2 : anyR (P.getD i []) = true) : anyIn w P = some i := by
  unfold anyIn
  rw [o.len]
  refine find_range_some hi (fun j hj => ?_) ?_
  · have := h1 j hj
    rw [anyR_row o (by omega)] at this; exact this
  · rw [anyR_row o hi] at h2; exact h2
theorem anyIn_none {w h : Nat} {P : Plane} (o : PlaneOk w h P) (h1 : ∀ j, j < h → anyR (P.getD j []) = false) : anyIn w P = none := by
  unfold anyIn
  rw [o.len]
  refine find_range_none fun j hj => ?_
  have := h1 j hj
  rw [anyR_row o hj] at this; exact this
theorem torn_eq {L : Learnt} (o : LOk L) : (List.zipWith bothN L.ink L.paper).sum = torn L := by
  rw [zipSum_grid o.ink o.paper]
  unfold torn
  rw [foldl_sum]
def orR (r s : List Nat) : List Nat := List.zipWith (fun a b => a ||| b) r s
def orP (P Q : List (List Nat)) : List (List Nat) := List.zipWith orR P Q
theorem or_toNat (a b : Bool) : a.toNat ||| b.toNat = (a || b).toNat := by cases a <;> cases b <;> rfl
theorem bP_grid {w h : Nat} {f : Nat → Nat → Bool} : bP (grid w h f) = grid w h fun i j => (f i j).toNat := by
  unfold bP bI grid
  rw [List.map_map]
  refine List.map_congr_left fun j _ => ?_
  show List.map _ (List.map _ _) = _
  rw [List.map_map]
  rfl
theorem orP_planes {w h : Nat} {P Q : Plane} (o : PlaneOk w h P) (u : PlaneOk w h Q) : orP (bP P) (bP Q) = bP (planeBy w h fun i j => bit P i j || bit Q i j) := by
  conv => lhs; rw [plane_grid o, plane_grid u]
  rw [bP_grid, bP_grid]
  show List.zipWith (List.zipWith _) _ _ = bP (grid w h _)
  rw [grid_zip, bP_grid]
  exact grid_congr fun i j _ _ => or_toNat _ _
def kindP (k : Nat) (R : List (List Nat)) : List (List Nat) := R.map fun r => r.map fun z => if z = k then 1 else 0
theorem kindP_grid {w h k : Nat} {f : Nat → Nat → Nat} : kindP k (grid w h f) = grid w h fun i j => if f i j = k then 1 else 0 := by
  unfold kindP grid
  rw [List.map_map]
  refine List.map_congr_left fun j _ => ?_
  show List.map _ (List.map _ _) = _
  rw [List.map_map]
  rfl
theorem sample_plane {S : Scan} {w h x y : Nat} {P : Plane} (oS : SOk S) (o : PlaneOk w h P) (hx : x + w ≤ S.width) (hy : y + h ≤ S.height) (t : Trit) :
    orP (bP P) (kindP t.number (cut (tRows S) x y w h)) = bP (planeBy w h fun i j => bit P i j || S.at_ (x + i) (y + j) == t) := by
  rw [scan_grid oS, cut_grid hx hy, kindP_grid]
  conv => lhs; rw [plane_grid o]
  rw [bP_grid]
  show List.zipWith (List.zipWith _) _ _ = bP (grid w h _)
  rw [grid_zip, bP_grid]
  refine grid_congr fun i j _ _ => ?_
  by_cases e : S.at_ (x + i) (y + j) = t
  · rw [e, if_pos rfl]
    cases bit P i j <;> simp
  · rw [if_neg (fun z => e (number_inj z))]
    have : (S.at_ (x + i) (y + j) == t) = false := by simpa using e
    rw [this]
    cases bit P i j <;> simp
theorem learnt_none {L : Learnt} {cost : Nat} (h : L.loose < torn L) : Sh.learnt L cost = none := by unfold Sh.learnt; rw [if_pos h]
def learntG (L : Learnt) (cost : Nat) : Glyph := ⟨L.letter, L.width, planeBy L.width L.height fun i j => bit L.ink i j && !bit L.paper i j, planeBy L.width L.height fun i j => bit L.paper i j && !bit L.ink i j, L.loose - torn L, cost⟩
theorem learnt_some {L : Learnt} {cost : Nat} (h : ¬ L.loose < torn L) : Sh.learnt L cost = some (learntG L cost) := by unfold Sh.learnt; rw [if_neg h]; rfl
theorem learnt_ok {L : Learnt} {cost : Nat} (o : LOk L) (hc : cost ≤ 4095) : GOk L.height (learntG L cost) := by
  refine ⟨o.letter, o.w1, o.w64, Nat.le_trans (Nat.sub_le _ _) o.loose, hc, grid_ok, grid_ok, ?_⟩
  show bothIn L.width (grid L.width L.height _) (grid L.width L.height _) = none
  refine bothIn_none (h := L.height) grid_ok grid_ok fun j hj => ?_
  rw [bothN_row grid_ok grid_ok hj, List.length_eq_zero_iff, List.filter_eq_nil_iff]
  intro i hi
  rw [bit_grid (List.mem_range.mp hi) hj, bit_grid (List.mem_range.mp hi) hj]
  cases bit L.ink i j <;> cases bit L.paper i j <;> simp
theorem learnt_rows {L : Learnt} {cost : Nat} (o : LOk L) : kRows L.ink L.paper = kRows (learntG L cost).ink (learntG L cost).paper := by
  rw [kRows_grid o.ink o.paper]
  show _ = List.zipWith (List.zipWith kd) (grid L.width L.height _) (grid L.width L.height _)
  rw [grid_zip]
  refine grid_congr fun i j _ _ => ?_
  cases bit L.ink i j <;> cases bit L.paper i j <;> rfl
theorem put_ok {letter width budget cost h : Nat} {t : List Nat} (h1 : letter ≤ 4095) (h2 : 1 ≤ width) (h3 : width ≤ 64) (h4 : budget ≤ 4096) (h5 : cost ≤ 4095) :
    GOk h ⟨letter, width, ShB.planeOf width h t 1, ShB.planeOf width h t 0, budget, cost⟩ := by
  refine ⟨h1, h2, h3, h4, h5, grid_ok, grid_ok, ?_⟩
  show bothIn width (grid width h _) (grid width h _) = none
  refine bothIn_none (h := h) grid_ok grid_ok fun j hj => ?_
  rw [bothN_row grid_ok grid_ok hj, List.length_eq_zero_iff, List.filter_eq_nil_iff]
  intro i hi
  rw [bit_grid (List.mem_range.mp hi) hj, bit_grid (List.mem_range.mp hi) hj]
  generalize t.getD (width * j + i) 0 = z
  by_cases h0 : z = 0
  · subst h0; simp
  · have : (z == 0) = false := by simpa using h0
    rw [this]; simp
def rowsOf (w h : Nat) (t : List Nat) : List (List Nat) := (List.range h).map fun j => (t.drop (w * j)).take w
theorem put_rows {w h : Nat} {t : List Nat} (hl : t.length = w * h) (hb : ∀ z ∈ t, z ≤ 2) : rowsOf w h t = kRows (ShB.planeOf w h t 1) (ShB.planeOf w h t 0) := by
  show _ = List.zipWith (List.zipWith kd) (grid w h _) (grid w h _)
  rw [grid_zip]
  unfold rowsOf grid
  refine List.map_congr_left fun j hj => ?_
  have hj := List.mem_range.mp hj
  have hjw : w * j + w ≤ t.length := by
    rw [hl, ← Nat.mul_succ]
    exact Nat.mul_le_mul_left w hj
  apply List.ext_getElem?
  intro i
  rw [List.getElem?_take]
  by_cases hi : i < w
  · rw [if_pos hi, List.getElem?_drop]
    have hlt : w * j + i < t.length := by omega
    rw [List.getElem?_eq_getElem hlt]
    have hz := hb _ (List.getElem_mem hlt)
    have hg : t.getD (w * j + i) 0 = t[w * j + i] := by simp [List.getD, hlt]
    rw [List.getElem?_map, List.getElem?_range hi]
    show _ = some (kd (t.getD (w * j + i) 0 == 1) (t.getD (w * j + i) 0 == 0))
    rw [hg]
    generalize t[w * j + i] = z at hz
    match z, hz with
    | 0, _ => rfl
    | 1, _ => rfl
    | 2, _ => rfl
  · rw [if_neg hi, List.getElem?_eq_none (by simp; omega)]
end FA
end
section
set_option Elab.async false
set_option linter.all false
set_option maxRecDepth 100000
set_option maxHeartbeats 2000000
namespace Fc
open PySem PySem.Spec PyProof.Rows L2
open FA
open Sh (Bytes rowBytes readNum num andThen)
section
variable {P : Program} {w : World} {K : PySem.W.Frag} {mg : Str → Option Value} {base : Heap} {C CG CF CR CS CL : Addr}
abbrev nV (l : List Nat) : List V := l.map fun z => V.int (z : Nat)
def Con (mg : Str → Option Value) (x : Str) (z : Int) : Prop := ∃ t, mg x = some (.int z t)
def isRows (H : Hp) (l : Addr) (R : List (List Nat)) : Prop := ∃ xs : List Addr, H l = some (.lst (xs.map V.ref)) ∧ Paired (fun x r => H x = some (.lst (nV r))) xs R
theorem isRows.same {H H' : Hp} {l : Addr} {R : List (List Nat)} (i : isRows H l R) (s : Same H H') : isRows H' l R := let ⟨xs, h, p⟩ := i; ⟨xs, s _ _ h, L2.Paired.mapP p fun _ _ q => s _ _ q⟩
structure Txt (mg : Str → Option Value) : Prop where
  range : mg "range" = none
  len : mg "len" = none
  min : mg "min" = none
  reversed : mg "reversed" = none
  enumerate : mg "enumerate" = none
  zip : mg "zip" = none
  sum : mg "sum" = none
  max : mg "max" = none
  list : mg "list" = none
theorem take_snoc {α : Type} {l : List α} {i : Nat} {x : α} (h : l[i]? = some x) : l.take (i + 1) = l.take i ++ [x] := by rw [List.take_add_one, h]; rfl
theorem rg8 {w : Nat} (h : w ≤ 64) : RgC 0 (w : Int) 8 (rowBytes w) := by
  refine ⟨by decide, by decide, ?_, ?_⟩
  · have all : ∀ v : Fin 65, Builtin.Range.small 0 ((v.val : Nat) : Int) 8 = true := by decide +kernel
    exact all ⟨w, by omega⟩
  · unfold Builtin.Range.rangeSize rowBytes
    rw [if_pos (by decide)]
    split <;> omega
theorem nV_get {l : List Nat} {i : Nat} {x : V} (h : (nV l)[i]? = some x) : ∃ n, l[i]? = some n ∧ x = .int (n : Nat) := by
  rw [List.getElem?_map] at h
  obtain ⟨n, h1, h2⟩ := Option.map_eq_some_iff.mp h
  exact ⟨n, h1, h2.symm⟩
theorem Paired.at {α β : Type} {F : α → β → Prop} : ∀ {xs : List α} {ys : List β} {i : Nat} {x : α}, Paired F xs ys → xs[i]? = some x → ∃ y, ys[i]? = some y ∧ F x y
  | _, _, _, _, .nil, h => by simp at h
  | _, _, 0, _, .cons r _, h => by
    have : _ = _ := Option.some.inj h
    subst this
    exact ⟨_, rfl, r⟩
  | _, _, i + 1, _, .cons _ t, h => Paired.at (i := i) t (by simpa using h)
end
end Fc
namespace L2
open PySem PySem.Spec PyProof.Rows
section
end
end L2
namespace Fc
open PySem PySem.Spec PyProof.Rows L2
open FA
open Sh (Bytes rowBytes readNum num andThen)
section
variable {P : Program} {w : World} {K : PySem.W.Frag} {mg : Str → Option Value} {base : Heap} {C CG CF CR CS CL : Addr}
def Mrk (K : PySem.W.Frag) (mg : Str → Option Value) (x : Str) (zs : List Int) : Prop := ∃ t, mg x = some (.ref t) ∧ tupIn K t zs = true
abbrev iV (l : List Int) : List V := l.map V.int
theorem nV_append (a b : List Nat) : nV (a ++ b) = nV a ++ nV b := List.map_append ..
def spNB : Sp := fun vs H Q _ => ∃ v n : Nat, vs = [.int (v : Nat), .int (n : Nat)] ∧ n ≤ 8 ∧ ∀ (H' : Hp) (p : Addr), Same H H' → H p = none → H' p = some (.lst (nV (leN n v))) → Q (.ref p) H'
def spPB : Sp := fun vs H Q _ => ∃ (l : Addr) (P : Sh.Plane) (wd : Nat), vs = [.ref l] ∧ isRows H l (bP P) ∧ (∀ r ∈ P, r.length = wd) ∧ wd ≤ 64 ∧ P.length ≤ 64 ∧ ∀ (H' : Hp) (p : Addr), Same H H' → H p = none → H' p = some (.lst (nV (nats (Sh.writePlane wd P)))) → Q (.ref p) H'
theorem bI_length (r : List Bool) : (bI r).length = r.length := by unfold bI; rw [List.length_map]
theorem packed_snoc {l : List Bool} (i : Nat) : (List.range (i + 1)).map (chunk l) = (List.range i).map (chunk l) ++ [chunk l i] := by rw [List.range_succ, List.map_append]; rfl
theorem writePlane_take {wd : Nat} {P : Sh.Plane} {i : Nat} {r : List Bool} (h : P[i]? = some r) : nats (Sh.writePlane wd (P.take (i + 1))) = nats (Sh.writePlane wd (P.take i)) ++ (List.range (rowBytes wd)).map (chunk r) := by
  rw [List.take_add_one, h]
  unfold Sh.writePlane
  rw [List.flatMap_append, nats_append, ← packed_nats]
  show _ ++ nats (List.flatMap _ [r]) = _
  simp [List.flatMap_cons]
def spTo : Sp := fun vs H Q _ => ∃ (a : Addr) (l : List Nat), vs = [.ref a] ∧ H a = some (.lst (nV l)) ∧ l.length ≤ 16000000 ∧ ∀ (H' : Hp) (p : Addr), Same H H' → H' p = some (.lst (.int 0 :: .int (l.length : Nat) :: nV l)) → Q (.ref p) H'
theorem told_bytes (b : Bytes) : iV (ShapeNeutral.told (.bytes b)) = V.int 0 :: V.int ((nats b).length : Nat) :: nV (nats b) := by
  show V.int 0 :: iV (ShapeNeutral.rowN (b.map fun c => (c.toNat : Int))) = _
  unfold ShapeNeutral.rowN
  rw [List.length_map]
  show V.int 0 :: V.int (b.length : Nat) :: iV (b.map fun c => (c.toNat : Int)) = _
  have e1 : (nats b).length = b.length := by unfold nats; rw [List.length_map]
  have e2 : iV (b.map fun c => (c.toNat : Int)) = nV (nats b) := by
    unfold iV nV nats
    rw [List.map_map, List.map_map]
    rfl
  rw [e1, e2]
abbrev ksL : List Str := ["letter", "width", "height", "leeway", "samples", "ink", "paper"]
structure LCls (K : PySem.W.Frag) (CL : Addr) : Prop where
  cl : Cls K CL
  nL : NoAttr K CL "letter"
  nW : NoAttr K CL "width"
  nH : NoAttr K CL "height"
  nB : NoAttr K CL "leeway"
  nS : NoAttr K CL "samples"
  nI : NoAttr K CL "ink"
  nP : NoAttr K CL "paper"
abbrev lF (L : Sh.Learnt) (li lp : Addr) : List (Str × V) := [("letter", .int (L.letter : Nat)), ("width", .int (L.width : Nat)), ("height", .int (L.height : Nat)), ("leeway", .int (L.loose : Nat)), ("samples", .int (L.seen : Nat)), ("ink", .ref li), ("paper", .ref lp)]
def isSeen (CL : Addr) (H : Hp) (x : Addr) (L : Sh.Learnt) : Prop := ∃ dx li lp, H x = some (.ins CL dx (lF L li lp)) ∧ isRows H li (bP L.ink) ∧ isRows H lp (bP L.paper)
def spSB (CL : Addr) : Sp := fun vs H Q _ => ∃ (x : Addr) (L : Sh.Learnt), vs = [.ref x] ∧ isSeen CL H x L ∧ LOk L ∧ ∀ (H' : Hp) (p : Addr), Same H H' → H p = none → H' p = some (.lst (nV (nats (Sh.writeLearnt L)))) → Q (.ref p) H'
theorem writeLearnt_nats {L : Sh.Learnt} (o : LOk L) : nats (Sh.writeLearnt L) = [83, 72, 76, 49] ++ leN 2 L.letter ++ [L.width, L.height] ++ (leN 2 L.loose ++ leN 2 L.seen) ++ nats (Sh.writePlane L.width L.ink) ++ nats (Sh.writePlane L.width L.paper) := by
  have hw := o.w64
  have hh := o.h64
  unfold Sh.writeLearnt
  rw [nats_append, nats_append, nats_append, nats_append, nats_append, nats_append, nats_append, nats_le, nats_le, nats_le, nats_le, nats_le, leN_one (show L.width < 256 by omega), leN_one (show L.height < 256 by omega)]
  simp only [List.append_assoc]
  rfl
theorem plane_len {w h : Nat} {P : Sh.Plane} (o : PlaneOk w h P) (hw : w ≤ 64) (hh : h ≤ 64) : (nats (Sh.writePlane w P)).length ≤ 512 := by
  have hrb : rowBytes w ≤ 8 := by unfold rowBytes; omega
  unfold nats
  rw [List.length_map, writePlane_length, o.len]
  exact Nat.mul_le_mul hh hrb
theorem seen_len {L : Sh.Learnt} (o : LOk L) : (nats (Sh.writeLearnt L)).length ≤ 16000000 := by
  have h1 := plane_len o.ink o.w64 o.h64
  have h2 := plane_len o.paper o.w64 o.h64
  rw [writeLearnt_nats o]
  simp only [List.length_append, leN_length, List.length_cons, List.length_nil]
  omega
theorem blank_rows {w h : Nat} : bP (Sh.planeBy w h fun _ _ => false) = List.replicate h (List.replicate w 0) := by
  show bP (grid w h fun _ _ => false) = _
  rw [bP_grid]
  unfold grid
  rw [List.map_const', List.map_const', List.length_range, List.length_range]
  rfl
theorem unseen_ok {l w h u : Nat} (h1 : l ≤ 4095) (h2 : 1 ≤ w) (h3 : w ≤ 64) (h4 : 1 ≤ h) (h5 : h ≤ 64) (h6 : u ≤ 4096) : LOk (Sh.unseen l w h u) := ⟨h1, h2, h3, h4, h5, h6, Nat.zero_le _, grid_ok, grid_ok⟩
theorem paired_rep {H : Hp} {a : Addr} {r : List Nat} (h : H a = some (.lst (nV r))) : ∀ n : Nat, Paired (fun x row => H x = some (.lst (nV row))) (List.replicate n a) (List.replicate n r)
  | 0 => .nil
  | n + 1 => .cons h (paired_rep h n)
theorem rep_zero : ∀ w : Nat, (List.replicate w [V.int 0]).flatten = nV (List.replicate w 0)
  | 0 => rfl
  | w + 1 => by rw [List.replicate_succ, List.flatten_cons, rep_zero w, List.replicate_succ]; rfl
theorem rep_ref (l : Addr) : ∀ h : Nat, (List.replicate h [V.ref l]).flatten = (List.replicate h l).map V.ref
  | 0 => rfl
  | h + 1 => by rw [List.replicate_succ, List.flatten_cons, rep_ref l h, List.replicate_succ]; rfl
def spUn (K : PySem.W.Frag) : Sp := fun vs H Q _ => ∃ (l w h u : Nat), vs = [.int (l : Nat), .int (w : Nat), .int (h : Nat), .int (u : Nat)] ∧ ∀ H' p, H' p = some (.lst (iV (ShapeNeutral.told (ShB.answer (.unseen l w h u))))) → Q (.ref p) H'
end
end Fc
end
section
set_option Elab.async false
set_option linter.all false
namespace Fc
open PySem PySem.Spec PyProof.Rows L2
def top (i : Nat) : Stmt := PySem.Challenge.pw_lettershapesdesk_s10_unseen.main.body.getD i (.Pass ⟨0, 0, 0, 0⟩)
abbrev c_Seen : Stmt := top 6
abbrev s_Seen_init : Stmt := inClass (top 6) 0
abbrev s_seen_bytes : Stmt := top 7
abbrev s_plane_bytes : Stmt := top 8
abbrev s_number_bytes : Stmt := top 9
abbrev s_unseen : Stmt := top 12
abbrev s_told_numbers : Stmt := top 13
end Fc
end
section
set_option Elab.async false
set_option linter.all false
set_option maxRecDepth 100000
set_option maxHeartbeats 2000000
namespace Fc
open PySem PySem.Spec PyProof.Rows L2
open FA
open Sh (Bytes rowBytes readNum num andThen)
variable {P : Program} {w : World} {K : PySem.W.Frag} {mg : Str → Option Value} {base : Heap} {C CG CF CR CS CL : Addr}
theorem sc_nb : FnScope ["value", "size", "written", "rest", "step"] ["value", "size"] (defScope s_number_bytes) := ⟨rfl, rfl, rfl, by decide +kernel, rfl, by decide +kernel, by decide +kernel⟩
theorem ok_nb {f : Addr} {fd : FuncData} (F : Fun K "number_bytes" "number_bytes" s_number_bytes f fd) (T : Txt mg) : FnOk P w K mg base (CX1 P w) 1 f fd ["value", "size"] spNB := by
  refine F.okX sc_nb (fun vs H Q E h => ?_) (fun cdv A outer s H vs Q E hr h => ?_)
  · obtain ⟨v, n, rfl, _⟩ := h
    rfl
  · obtain ⟨v, n, rfl, hn, k⟩ := h
    have nd := sc_nb.nd
    refine ⟨_, pss_cons (ps_set (i := 2) nd rfl (Or.inl rfl) (pe_lst pa_nil))
      (pss_cons (ps_set (i := 3) nd rfl (Or.inl rfl) (pv 0))
      (pss_cons (ps_for own1 rfl (pi_range1 rfl T.range (pa_cons (pv 1) pa_nil)) (pg_name (i := 4) nd rfl (Or.inl rfl))
        (pss_cons (ps_expr (pe_bm PySem.F.plainAttrs_list PySem.F.slot_list_append PySem.F.type_list_append mt_append (pv 2) (pa_cons (pe_op op_mod (pv 3) pe_int) pa_nil)))
        (pss_one (ps_set (i := 3) nd rfl (Or.inl rfl) (pe_op op_fdiv (pv 3) pe_int)))))
      (pss_one (ps_ret (pv 2))))), ?_⟩
    refine ⟨Nat.zero_le _, fun l hl => ?_⟩
    refine ⟨_, rfl, ?_⟩
    refine ⟨_, rfl, (n : Int), rfl, by omega, by omega, for_range (n := n) (fun i σ H' => ∃ v4 : Option V, σ = [some (.int v), some (.int n), some (.ref l), some (.int ((v / 256 ^ i : Nat) : Int)), v4] ∧ Same H H' ∧ H' l = some (.lst (nV (leN i v))))
      ⟨none, by rw [Nat.pow_zero, Nat.div_one]; rfl, Same.new hl, upd_same⟩ ?_ ?_⟩
    · rintro i σ H' hi ⟨v4, rfl, s1, hq⟩
      refine ⟨_, rfl, .inl ⟨rfl, _, SqL.of hq⟩, _, rfl, _, _, rfl, rfl, (by show (0 : Int) < 256; decide), l, _, _, rfl, rfl, hq, (by rw [List.length_map, leN_length]; exact Nat.lt_of_lt_of_le hi (Nat.le_trans hn (by rw [sizeLine_eq]; omega))), ?_⟩
      refine ⟨_, rfl, _, _, rfl, rfl, ⟨by decide, by decide⟩, ?_⟩
      refine ⟨some (.int (0 + i)), ?_, s1.upd hl, ?_⟩
      · have e : ((v / 256 ^ i : Nat) : Int) / 256 = ((v / 256 ^ (i + 1) : Nat) : Int) := by
          rw [Nat.pow_succ, ← Nat.div_div_eq_div_mul]; rfl
        show [some (V.int v), some (V.int n), some (V.ref l), some (V.int (((v / 256 ^ i : Nat) : Int) / 256)), _] = _
        rw [e]
      · rw [upd_same, leN_snoc]
        show some (HO.lst _) = some (HO.lst (List.map _ (_ ++ _)))
        rw [List.map_append]
        rfl
    · rintro σ H' ⟨v4, rfl, s1, hq⟩
      exact ⟨_, rfl, k H' l s1 hl hq⟩
theorem sc_pb : FnScope ["plane", "written", "row", "first", "byte", "bit"] ["plane"] (defScope s_plane_bytes) := ⟨rfl, rfl, rfl, by decide +kernel, rfl, by decide +kernel, by decide +kernel⟩
theorem ok_pb {f : Addr} {fd : FuncData} (F : Fun K "plane_bytes" "plane_bytes" s_plane_bytes f fd) (T : Txt mg) : FnOk P w K mg base (CX1 P w) 1 f fd ["plane"] spPB := by
  refine F.okX sc_pb (fun vs H Q E h => ?_) (fun cdv A outer s H vs Q E hr h => ?_)
  · obtain ⟨l, Pl, wd, rfl, _⟩ := h
    rfl
  · obtain ⟨l, Pl, wd, rfl, ⟨xs, hl, pr⟩, hrow, hwd, hh, k⟩ := h
    have nd := sc_pb.nd
    refine ⟨_, pss_cons (ps_set (i := 1) nd rfl (Or.inl rfl) (pe_lst pa_nil))
      (pss_cons (ps_for own1 rfl (pi_list (pv 0)) (pg_name (i := 2) nd rfl (Or.inl rfl))
        (pss_one (ps_for own1 rfl (pi_range3 rfl T.range (pa_cons pe_int (pa_cons (pe_callB call_len_seq (by rfl) T.len PySem.boot_len (pa_cons (pv 2) pa_nil)) (pa_cons pe_int pa_nil)))) (pg_name (i := 3) nd rfl (Or.inl rfl))
          (pss_cons (ps_set (i := 4) nd rfl (Or.inl rfl) pe_int)
          (pss_cons (ps_for own1 rfl (pi_reversed rfl T.reversed (pa_cons (pe_slice sl_list (pv 2) (po_some (pv 3)) (po_some (pe_op op_add (pv 3) pe_int))) pa_nil)) (pg_name (i := 5) nd rfl (Or.inl rfl))
            (pss_one (ps_set (i := 4) nd rfl (Or.inl rfl) (pe_op op_add (pe_op op_mul (pv 4) pe_int) (pv 5)))))
          (pss_one (ps_expr (pe_bm PySem.F.plainAttrs_list PySem.F.slot_list_append PySem.F.type_list_append mt_append (pv 1) (pa_cons (pv 4) pa_nil)))))))))
      (pss_one (ps_ret (pv 1)))), ?_⟩
    refine ⟨Nat.zero_le _, fun q hq => ?_⟩
    have hxs : xs.length = Pl.length := by rw [pr.length]; unfold bP; rw [List.length_map]
    have s0 : Same H (upd H q (.lst [])) := Same.new hq
    have hrb : rowBytes wd ≤ 8 := by unfold rowBytes; omega
    refine ⟨_, rfl, l, rfl, ⟨_, SqL.of (s0 _ _ hl)⟩, ?_⟩
    refine for_list (xs := xs.map V.ref) (fun i σ H' => ∃ v2 v3 v4 v5 : Option V, σ = [some (.ref l), some (.ref q), v2, v3, v4, v5] ∧ Same H H' ∧ H' q = some (.lst (nV (nats (Sh.writePlane wd (Pl.take i))))))
      ⟨none, none, none, none, rfl, s0, upd_same⟩ (fun i σ H' _ ⟨_, _, _, _, _, s1, _⟩ => SqL.of (s1 _ _ hl)) ?_ ?_
    · rintro i x σ H' hx ⟨v2, v3, v4, v5, rfl, s1, hq1⟩
      rw [List.getElem?_map] at hx
      obtain ⟨y, hy, rfl⟩ := Option.map_eq_some_iff.mp hx
      obtain ⟨row, hrow1, hy1⟩ := Paired.at pr hy
      unfold bP at hrow1
      rw [List.getElem?_map] at hrow1
      obtain ⟨r, hr1, rfl⟩ := Option.map_eq_some_iff.mp hrow1
      have hrl : r.length = wd := hrow r (List.mem_of_getElem? hr1)
      have hi : i < Pl.length := (List.getElem?_eq_some_iff.mp hr1).1
      have hy2 := s1 _ _ hy1
      refine ⟨_, rfl, y, _, rfl, .inl (SqL.of hy2), 0, _, 8, rowBytes wd, rfl, ?_, ?_⟩
      · rw [List.length_map, bI_length, hrl]; exact rg8 hwd
      refine for_rangeC (n := rowBytes wd) (fun j σ H2 => ∃ v3 v4 v5 : Option V, σ = [some (.ref l), some (.ref q), some (.ref y), v3, v4, v5] ∧ Same H H2 ∧ H2 q = some (.lst (nV (nats (Sh.writePlane wd (Pl.take i)) ++ (List.range j).map (chunk r)))))
        ⟨v3, v4, v5, rfl, s1, by rw [hq1]; simp⟩ ?_ ?_
      · rintro j σ H2 hj ⟨v3, v4, v5, rfl, s2, hq2⟩
        have hy3 := s2 _ _ hy1
        have ej : (0 : Int) + ((j : Nat) : Int) * 8 = ((8 * j : Nat) : Int) := by omega
        refine ⟨_, rfl, _, rfl, _, rfl, _, rfl, _, _, rfl, rfl, _, rfl, y, _, rfl, SqL.of hy3, fun c hc => ?_⟩
        have ecut : cutV (nV (bI r)) (some ((0 : Int) + ((j : Nat) : Int) * 8)) (some ((0 : Int) + ((j : Nat) : Int) * 8 + 8)) = nV (bI ((r.drop (8 * j)).take 8)) := by
          rw [ej, show ((8 * j : Nat) : Int) + 8 = ((8 * j + 8 : Nat) : Int) by omega, cut_nat, show 8 * j + 8 - 8 * j = 8 by omega]
          unfold nV bI
          rw [← List.map_drop, ← List.map_drop, ← List.map_take, ← List.map_take]
        rw [ecut]
        generalize hch : (r.drop (8 * j)).take 8 = ch
        have hcl : ch.length ≤ 8 := by rw [← hch, List.length_take]; omega
        have s3 : Same H2 (upd H2 c (.lst (nV (bI ch)))) := Same.new hc
        have hq3 := s3 _ _ hq2
        refine ⟨c, _, rfl, SqL.of upd_same, ?_⟩
        refine for_rev (xs := nV (bI ch)) (fun t σ H3 => ∃ v5 : Option V, σ = [some (.ref l), some (.ref q), some (.ref y), some (.int ((0 : Int) + ((j : Nat) : Int) * 8)), some (.int ((((bI ch).reverse.take t).foldl (fun n c => n * 2 + c) 0 : Nat) : Nat)), v5] ∧ H3 = upd H2 c (.lst (nV (bI ch))))
          ⟨v5, rfl, rfl⟩ (fun t σ H3 ⟨_, _, e⟩ => by rw [e]; exact SqL.of upd_same) ?_ ?_
        · rintro t x σ H3 hx ⟨v5', rfl, rfl⟩
          rw [← List.map_reverse] at hx
          obtain ⟨n, hn1, rfl⟩ := nV_get hx
          refine ⟨_, rfl, _, _, rfl, rfl, .inr ⟨by decide, by decide⟩, _, rfl, _, _, rfl, rfl, ?_⟩
          refine ⟨some (.int (n : Nat)), ?_, rfl⟩
          rw [take_snoc hn1, List.foldl_append]
          rfl
        · rintro σ H3 ⟨v5', rfl, rfl⟩
          have ev : ((bI ch).reverse.take (nV (bI ch)).length).foldl (fun n c => n * 2 + c) 0 = chunk r j := by
            rw [List.length_map, List.take_of_length_le (by rw [List.length_reverse]; exact Nat.le_refl _)]
            unfold bI
            rw [bval_fold, ← hch]; rfl
          rw [ev]
          refine ⟨_, rfl, .inl ⟨rfl, _, SqL.of hq3⟩, _, rfl, q, _, _, rfl, rfl, hq3, ?_, ?_⟩
          · have hlw : (nats (Sh.writePlane wd (Pl.take i))).length ≤ 64 * 8 := by
              unfold nats
              rw [List.length_map, writePlane_length, List.length_take]
              exact Nat.mul_le_mul (by omega) hrb
            rw [List.length_map, List.length_append, List.length_map, List.length_range, sizeLine_eq]; omega
          · refine ⟨_, _, _, rfl, (s2.trans s3).upd hq, ?_⟩
            rw [upd_same, packed_snoc, ← List.append_assoc, nV_append (_ ++ _)]
            rfl
      · rintro σ H2 ⟨v3, v4, v5, rfl, s2, hq2⟩
        exact ⟨_, _, _, _, rfl, s2, by rw [hq2, writePlane_take hr1]⟩
    · rintro σ H' ⟨v2, v3, v4, v5, rfl, s1, hq1⟩
      rw [List.length_map, hxs, List.take_of_length_le (Nat.le_refl _)] at hq1
      exact ⟨_, rfl, k H' q s1 hq hq1⟩
theorem sc_to : FnScope ["numbers"] ["numbers"] (defScope s_told_numbers) := ⟨rfl, rfl, rfl, by decide +kernel, rfl, by decide +kernel, by decide +kernel⟩
theorem ok_to {f : Addr} {fd : FuncData} (F : Fun K "told_numbers" "told_numbers" s_told_numbers f fd) (T : Txt mg) : FnOk P w K mg base (CX1 P w) 1 f fd ["numbers"] spTo := by
  refine F.okX sc_to (fun vs H Q E h => ?_) (fun cdv A outer s H vs Q E hr h => ?_)
  · obtain ⟨a, l, rfl, _⟩ := h
    rfl
  · obtain ⟨a, l, rfl, ha, hl, k⟩ := h
    refine ⟨_, pss_one (ps_ret (pe_op op_cat (pe_lst (pa_cons pe_int (pa_cons (pe_callB call_len_seq (by rfl) T.len PySem.boot_len (pa_cons (pv 0) pa_nil)) pa_nil))) (pv 0))), ?_⟩
    refine ⟨_, rfl, a, _, rfl, .inl (SqL.of ha), (by show 2 ≤ sizeLine; decide), fun q hq => ?_⟩
    have hn : a ≠ q := ne_of_none ha hq
    refine ⟨_, rfl, q, a, _, _, rfl, rfl, upd_same, by rw [upd_ne hn]; exact ha, ?_, fun p hp => ?_⟩
    · rw [List.length_map, sizeLine_eq]; show 2 + _ ≤ _; omega
    · refine k _ p ((Same.new hq).trans (Same.new hp)) ?_
      rw [upd_same, List.length_map]
      rfl
theorem sc_li : FnScope ["self", "letter", "width", "height", "leeway", "samples", "ink", "paper"] ["self", "letter", "width", "height", "leeway", "samples", "ink", "paper"] (defScope s_Seen_init) := ⟨rfl, rfl, rfl, by decide +kernel, rfl, by decide +kernel, by decide +kernel⟩
theorem ok_li {f : Addr} {fd : FuncData} (F : Fun K "__init__" "Seen.__init__" s_Seen_init f fd) (cl : Cls K CL) (no : ∀ x ∈ ksL, NoAttr K CL x) : FnOk P w K mg base (CX1 P w) 1 f fd ["self", "letter", "width", "height", "leeway", "samples", "ink", "paper"] (spInit CL ksL) := by
  refine F.okX sc_li (fun vs H Q E h => ?_) (fun cdv A outer s H vs Q E hr h => ?_)
  · obtain ⟨a, t, ys, rfl, hl, _⟩ := h
    show ys.length + 1 = 8
    rw [hl]; rfl
  · obtain ⟨a, dx, ys, rfl, hl, ha, k⟩ := h
    obtain ⟨y1, y2, y3, y4, y5, y6, y7, rfl⟩ : ∃ y1 y2 y3 y4 y5 y6 y7, ys = [y1, y2, y3, y4, y5, y6, y7] := by
      match ys, hl with
      | [y1, y2, y3, y4, y5, y6, y7], _ => exact ⟨y1, y2, y3, y4, y5, y6, y7, rfl⟩
    refine ⟨_, pss_cons (ps_fld (pv 0) (pv 1) rfl) (pss_cons (ps_fld (pv 0) (pv 2) rfl) (pss_cons (ps_fld (pv 0) (pv 3) rfl) (pss_cons (ps_fld (pv 0) (pv 4) rfl) (pss_cons (ps_fld (pv 0) (pv 5) rfl) (pss_cons (ps_fld (pv 0) (pv 6) rfl) (pss_one (ps_fld (pv 0) (pv 7) rfl))))))), ?_⟩
    refine ⟨_, rfl, _, rfl, a, CL, dx, _, rfl, ha, cl, no _ (by decide), by decide, ?_⟩
    refine ⟨_, rfl, _, rfl, a, CL, dx, _, rfl, upd_same, cl, no _ (by decide), (by show 1 < 1000; decide), ?_⟩
    refine ⟨_, rfl, _, rfl, a, CL, dx, _, rfl, upd_same, cl, no _ (by decide), (by show 2 < 1000; decide), ?_⟩
    refine ⟨_, rfl, _, rfl, a, CL, dx, _, rfl, upd_same, cl, no _ (by decide), (by show 3 < 1000; decide), ?_⟩
    refine ⟨_, rfl, _, rfl, a, CL, dx, _, rfl, upd_same, cl, no _ (by decide), (by show 4 < 1000; decide), ?_⟩
    refine ⟨_, rfl, _, rfl, a, CL, dx, _, rfl, upd_same, cl, no _ (by decide), (by show 5 < 1000; decide), ?_⟩
    refine ⟨_, rfl, _, rfl, a, CL, dx, _, rfl, upd_same, cl, no _ (by decide), (by show 6 < 1000; decide), ?_⟩
    refine k _ ?_ fun b o e hb => by rw [upd_ne hb, upd_ne hb, upd_ne hb, upd_ne hb, upd_ne hb, upd_ne hb, upd_ne hb]; exact e
    rw [upd_same]
    rfl
theorem sc_sb : FnScope ["seen", "head", "numbers"] ["seen"] (defScope s_seen_bytes) := ⟨rfl, rfl, rfl, by decide +kernel, rfl, by decide +kernel, by decide +kernel⟩
theorem ok_sb {f : Addr} {fd : FuncData} (F : Fun K "seen_bytes" "seen_bytes" s_seen_bytes f fd) (T : Txt mg) (A : LCls K CL) (cM : Mrk K mg "SEEN_MARK" [83, 72, 76, 49]) (NN : Cal P w K mg base "number_bytes" 1 ["value", "size"] spNB) (NP : Cal P w K mg base "plane_bytes" 1 ["plane"] spPB) :
    FnOk P w K mg base (CX1 P w) 2 f fd ["seen"] (spSB CL) := by
  refine F.okX sc_sb (fun vs H Q E h => ?_) (fun cdv A' outer s H vs Q E hr h => ?_)
  · obtain ⟨x, L, rfl, _⟩ := h
    rfl
  · obtain ⟨x, L, rfl, ⟨dx, li, lp, ho, hi, hp⟩, o, k⟩ := h
    have nd := sc_sb.nd
    obtain ⟨tm, mM, qM⟩ := cM
    refine ⟨_, pss_cons (ps_set (i := 1) nd rfl (Or.inl rfl) (pe_op op_cat (pe_op op_cat (pe_callTy call_list_of (by rfl) T.list PyProof.Rows.boot_list (pa_cons (pe_glob (v := .ref tm) rfl mM rfl (by decide)) pa_nil)) (pe_fn NN hr xout rfl (pa_cons (pe_fld (pv 0) rfl) (pa_cons pe_int pa_nil)))) (pe_lst (pa_cons (pe_fld (pv 0) rfl) (pa_cons (pe_fld (pv 0) rfl) pa_nil)))))
      (pss_cons (ps_set (i := 2) nd rfl (Or.inl rfl) (pe_op op_cat (pe_fn NN hr xout rfl (pa_cons (pe_fld (pv 0) rfl) (pa_cons pe_int pa_nil))) (pe_fn NN hr xout rfl (pa_cons (pe_fld (pv 0) rfl) (pa_cons pe_int pa_nil)))))
      (pss_one (ps_ret (pe_op op_cat (pe_op op_cat (pe_op op_cat (pv 1) (pv 2)) (pe_fn NP hr xout rfl (pa_cons (pe_fld (pv 0) rfl) pa_nil))) (pe_fn NP hr xout rfl (pa_cons (pe_fld (pv 0) rfl) pa_nil)))))), ?_⟩
    have ll : ∀ (k n : Nat), (nV (leN k n)).length = k := fun k n => by rw [List.length_map, leN_length]
    refine ⟨tm, _, rfl, .inr (tup_of qM H), fun a1 n1 => ?_⟩
    have s1 : Same H (upd H a1 (.lst (nV [83, 72, 76, 49]))) := Same.new n1
    refine ⟨_, rfl, x, CL, dx, _, _, rfl, s1 _ _ ho, A.cl, A.nL, rfl, L.letter, 2, rfl, by omega, fun H2 a2 s2 n2 h2 => ?_⟩
    have h12 := s2 _ _ (upd_same (o := .lst (nV [83, 72, 76, 49])))
    have s12 := s1.trans s2
    refine ⟨a1, a2, nV [83, 72, 76, 49], _, rfl, rfl, h12, h2, (by rw [ll]; show 4 + 2 ≤ sizeLine; decide), fun a3 n3 => ?_⟩
    have s3 := s12.trans (Same.new (o := .lst (nV [83, 72, 76, 49] ++ nV (leN 2 L.letter))) n3)
    refine ⟨_, rfl, x, CL, dx, _, _, rfl, s3 _ _ ho, A.cl, A.nW, rfl, _, rfl, x, CL, dx, _, _, rfl, s3 _ _ ho, A.cl, A.nH, rfl, (by show 2 ≤ sizeLine; decide), fun a4 n4 => ?_⟩
    have n34 : a3 ≠ a4 := ne_of_none (upd_same (o := .lst (nV [83, 72, 76, 49] ++ nV (leN 2 L.letter)))) n4
    have s4 := s3.trans (Same.new (o := .lst [.int (L.width : Nat), .int (L.height : Nat)]) n4)
    refine ⟨a3, a4, _, _, rfl, rfl, by rw [upd_ne n34]; exact upd_same, upd_same, (by rw [List.length_append, ll]; show 4 + 2 + 2 ≤ sizeLine; decide), fun a5 n5 => ?_⟩
    have s5 := s4.trans (Same.new (o := .lst (nV [83, 72, 76, 49] ++ nV (leN 2 L.letter) ++ [.int (L.width : Nat), .int (L.height : Nat)])) n5)
    refine ⟨_, rfl, x, CL, dx, _, _, rfl, s5 _ _ ho, A.cl, A.nB, rfl, L.loose, 2, rfl, by omega, fun H6 a6 s6 n6 h6 => ?_⟩
    have s56 := s5.trans s6
    refine ⟨_, rfl, x, CL, dx, _, _, rfl, s56 _ _ ho, A.cl, A.nS, rfl, L.seen, 2, rfl, by omega, fun H7 a7 s7 n7 h7 => ?_⟩
    have h67 := s7 _ _ h6
    have s67 := s56.trans s7
    refine ⟨a6, a7, _, _, rfl, rfl, h67, h7, (by rw [ll, ll]; show 2 + 2 ≤ sizeLine; decide), fun a8 n8 => ?_⟩
    have s8 := s67.trans (Same.new (o := .lst (nV (leN 2 L.loose) ++ nV (leN 2 L.seen))) n8)
    have h5' : H7 a5 = some (.lst (nV [83, 72, 76, 49] ++ nV (leN 2 L.letter) ++ [.int (L.width : Nat), .int (L.height : Nat)])) := s7 _ _ (s6 _ _ upd_same)
    have n58 : a5 ≠ a8 := ne_of_none h5' n8
    refine ⟨_, rfl, _, rfl, a5, a8, _, _, rfl, rfl, by rw [upd_ne n58]; exact h5', upd_same, (by rw [List.length_append, List.length_append, List.length_append, ll, ll, ll]; show 4 + 2 + 2 + (2 + 2) ≤ sizeLine; decide), fun a9 n9 => ?_⟩
    have s9 := s8.trans (Same.new (o := .lst (nV [83, 72, 76, 49] ++ nV (leN 2 L.letter) ++ [.int (L.width : Nat), .int (L.height : Nat)] ++ (nV (leN 2 L.loose) ++ nV (leN 2 L.seen)))) n9)
    have l1 : (nV (nats (Sh.writePlane L.width L.ink))).length ≤ 512 := by rw [List.length_map]; exact plane_len o.ink o.w64 o.h64
    have l2 : (nV (nats (Sh.writePlane L.width L.paper))).length ≤ 512 := by rw [List.length_map]; exact plane_len o.paper o.w64 o.h64
    refine ⟨_, rfl, x, CL, dx, _, _, rfl, s9 _ _ ho, A.cl, A.nI, rfl, li, L.ink, L.width, rfl, hi.same s9, o.ink.rows, o.w64, by rw [o.ink.len]; exact o.h64, fun H10 a10 s10 n10 h10 => ?_⟩
    have h910 := s10 _ _ (upd_same (o := .lst (nV [83, 72, 76, 49] ++ nV (leN 2 L.letter) ++ [.int (L.width : Nat), .int (L.height : Nat)] ++ (nV (leN 2 L.loose) ++ nV (leN 2 L.seen)))))
    refine ⟨a9, a10, _, _, rfl, rfl, h910, h10, (by rw [List.length_append, List.length_append, List.length_append, List.length_append, ll, ll, ll, sizeLine_eq]; show 4 + 2 + 2 + (2 + 2) + _ ≤ _; omega), fun a11 n11 => ?_⟩
    have s11 := (s9.trans s10).trans (Same.new (o := .lst (nV [83, 72, 76, 49] ++ nV (leN 2 L.letter) ++ [.int (L.width : Nat), .int (L.height : Nat)] ++ (nV (leN 2 L.loose) ++ nV (leN 2 L.seen)) ++ nV (nats (Sh.writePlane L.width L.ink)))) n11)
    refine ⟨_, rfl, x, CL, dx, _, _, rfl, s11 _ _ ho, A.cl, A.nP, rfl, lp, L.paper, L.width, rfl, hp.same s11, o.paper.rows, o.w64, by rw [o.paper.len]; exact o.h64, fun H12 a12 s12' n12 h12' => ?_⟩
    have h1112 := s12' _ _ (upd_same (o := .lst (nV [83, 72, 76, 49] ++ nV (leN 2 L.letter) ++ [.int (L.width : Nat), .int (L.height : Nat)] ++ (nV (leN 2 L.loose) ++ nV (leN 2 L.seen)) ++ nV (nats (Sh.writePlane L.width L.ink)))))
    refine ⟨a11, a12, _, _, rfl, rfl, h1112, h12', (by rw [List.length_append, List.length_append, List.length_append, List.length_append, List.length_append, ll, ll, ll, sizeLine_eq]; show 4 + 2 + 2 + (2 + 2) + _ + _ ≤ _; omega), fun a13 n13 => ?_⟩
    have sF := s11.trans s12'
    refine k _ a13 (sF.trans (Same.new n13)) (sF.free n13) ?_
    rw [upd_same, writeLearnt_nats o]
    simp only [nV_append]
    rfl
theorem sc_un : FnScope ["letter", "w", "h", "b", "blank"] ["letter", "w", "h", "b"] (defScope s_unseen) := ⟨rfl, rfl, rfl, by decide +kernel, rfl, by decide +kernel, by decide +kernel⟩
theorem ok_un {f : Addr} {fd : FuncData} (F : Fun K "unseen" "unseen" s_unseen f fd) (cL : Con mg "MOST_LETTER" 4095) (cW : Con mg "MOST_WIDTH" 64) (cH : Con mg "MOST_HEIGHT" 64) (cB : Con mg "MOST_BUDGET" 4096) (cO : Con mg "OUT_OF_BOUNDS" (-1)) (ML : Mak P w K mg base "Seen" CL 1 ksL)
    (NB : Cal P w K mg base "seen_bytes" 2 ["seen"] (spSB CL)) (NT : Cal P w K mg base "told_numbers" 1 ["numbers"] spTo) : FnOk P w K mg base (CX1 P w) 3 f fd ["letter", "w", "h", "b"] (spUn K) := by
  refine F.okX sc_un (fun vs H Q E h => ?_) (fun cdv A' outer s H vs Q E hr h => ?_)
  · obtain ⟨l, w, h, u, rfl, _⟩ := h
    rfl
  · obtain ⟨l, w, h, u, rfl, k⟩ := h
    have nd := sc_un.nd
    refine ⟨_, pss_cons (ps_if (PW.pt (pw_or (pt_cmpR op_gt (pv 0) (pe_cst cL rfl) (nomark _)) (pw_or (pt_cmpR op_lt (pv 1) pe_int (nomark _)) (pw_or (pt_cmpR op_gt (pv 1) (pe_cst cW rfl) (nomark _)) (pw_or (pt_cmpR op_lt (pv 2) pe_int (nomark _)) (pw_or (pt_cmpR op_gt (pv 2) (pe_cst cH rfl) (nomark _)) (pw_or1 (pt_cmpR op_gt (pv 3) (pe_cst cB rfl) (nomark _))))))))) (pss_one (ps_ret (pe_lst (pa_cons (pe_cst cO rfl) pa_nil)))) pss_nil)
      (pss_cons (ps_set (i := 4) nd rfl (Or.inl rfl) (pe_op op_rep (pe_lst (pa_cons (pe_op op_rep (pe_lst (pa_cons pe_int pa_nil)) (pv 1)) pa_nil)) (pv 2)))
      (pss_one (ps_ret (pe_fn NT (hr.mono (by decide)) xout rfl (pa_cons (pe_fn NB hr xout rfl (pa_cons (pe_mk ML hr xout rfl (pa_cons (pv 0) (pa_cons (pv 1) (pa_cons (pv 2) (pa_cons (pv 3) (pa_cons pe_int (pa_cons (pv 4) (pa_cons (pv 4) pa_nil)))))))) pa_nil)) pa_nil))))), ?_⟩
    have ea : ShB.answer (.unseen l w h u) = if ShB.numbersOk l w u 0 = true ∧ 1 ≤ h ∧ h ≤ 64 then .bytes (Sh.writeLearnt (Sh.unseen l w h u)) else ShB.no (-1) := rfl
    have en : ShB.numbersOk l w u 0 = true ↔ l ≤ 4095 ∧ 1 ≤ w ∧ w ≤ 64 ∧ u ≤ 4096 := by
      unfold ShB.numbersOk
      simp only [Bool.and_eq_true, decide_eq_true_eq]
      have c1 : Sh.LETTERMOST = 4095 := rfl
      have c2 : Sh.SIDE = 64 := rfl
      have c3 : Sh.BUDGET = 4096 := rfl
      rw [c1, c2, c3]
      constructor
      · rintro ⟨a, b, c, d, _⟩; exact ⟨a, b, c, d⟩
      · rintro ⟨a, b, c, d⟩; exact ⟨a, b, c, d, Nat.zero_le _⟩
    rw [ea] at k
    have bad : ¬ ((l ≤ 4095 ∧ 1 ≤ w ∧ w ≤ 64 ∧ u ≤ 4096) ∧ 1 ≤ h ∧ h ≤ 64) → ∀ p, H p = none → Q (.ref p) (upd H p (.lst [.int (-1)])) := fun z p _ => by
      rw [if_neg (fun q => z ⟨en.mp q.1, q.2⟩)] at k
      exact k _ p upd_same
    refine ⟨_, rfl, _, _, rfl, rfl, _, rfl, ?_⟩
    refine ite2 (fun hc => ?_) (fun hc => ?_)
    · have hc : (4095 : Int) < (l : Int) := of_decide_eq_true hc
      exact iteT ⟨(by show 1 ≤ sizeLine; decide), fun p hp => bad (by omega) p hp⟩
    have c1 : ¬ (4095 : Int) < (l : Int) := fun z => hc (decide_eq_true z)
    refine ⟨_, rfl, _, _, rfl, rfl, _, rfl, ?_⟩
    refine ite2 (fun hc => ?_) (fun hc => ?_)
    · have hc : (w : Int) < 1 := of_decide_eq_true hc
      exact iteT ⟨(by show 1 ≤ sizeLine; decide), fun p hp => bad (by omega) p hp⟩
    have c2 : ¬ (w : Int) < 1 := fun z => hc (decide_eq_true z)
    refine ⟨_, rfl, _, _, rfl, rfl, _, rfl, ?_⟩
    refine ite2 (fun hc => ?_) (fun hc => ?_)
    · have hc : (64 : Int) < (w : Int) := of_decide_eq_true hc
      exact iteT ⟨(by show 1 ≤ sizeLine; decide), fun p hp => bad (by omega) p hp⟩
    have c3 : ¬ (64 : Int) < (w : Int) := fun z => hc (decide_eq_true z)
    refine ⟨_, rfl, _, _, rfl, rfl, _, rfl, ?_⟩
    refine ite2 (fun hc => ?_) (fun hc => ?_)
    · have hc : (h : Int) < 1 := of_decide_eq_true hc
      exact iteT ⟨(by show 1 ≤ sizeLine; decide), fun p hp => bad (by omega) p hp⟩
    have c4 : ¬ (h : Int) < 1 := fun z => hc (decide_eq_true z)
    refine ⟨_, rfl, _, _, rfl, rfl, _, rfl, ?_⟩
    refine ite2 (fun hc => ?_) (fun hc => ?_)
    · have hc : (64 : Int) < (h : Int) := of_decide_eq_true hc
      exact iteT ⟨(by show 1 ≤ sizeLine; decide), fun p hp => bad (by omega) p hp⟩
    have c5 : ¬ (64 : Int) < (h : Int) := fun z => hc (decide_eq_true z)
    refine ⟨_, rfl, _, _, rfl, rfl, _, rfl, ?_⟩
    refine ite2 (fun hc => ?_) (fun hc => ?_)
    · have hc : (4096 : Int) < (u : Int) := of_decide_eq_true hc
      exact ⟨(by show 1 ≤ sizeLine; decide), fun p hp => bad (by omega) p hp⟩
    have c6 : ¬ (4096 : Int) < (u : Int) := fun z => hc (decide_eq_true z)
    rw [if_pos ⟨en.mpr (by omega), by omega⟩, told_bytes] at k
    have oU : LOk (Sh.unseen l w h u) := unseen_ok (by omega) (by omega) (by omega) (by omega) (by omega) (by omega)
    refine ⟨(by show 1 ≤ sizeLine; decide), fun l1 n1 => ?_⟩
    refine ⟨_, rfl, l1, _, _, rfl, rfl, upd_same, by omega, by omega, (by rw [Int.toNat_natCast, sizeLine_eq]; show 1 * w ≤ _; omega), fun l2 n2 => ?_⟩
    refine ⟨(by show 1 ≤ sizeLine; decide), fun l3 n3 => ?_⟩
    refine ⟨_, rfl, l3, _, _, rfl, rfl, upd_same, by omega, by omega, (by rw [Int.toNat_natCast, sizeLine_eq]; show 1 * h ≤ _; omega), fun l4 n4 => ?_⟩
    have e2 : (List.replicate ((w : Int)).toNat [V.int 0]).flatten = nV (List.replicate w 0) := by
      rw [Int.toNat_natCast, rep_zero]
    have e4 : (List.replicate ((h : Int)).toNat [V.ref l2]).flatten = (List.replicate h l2).map V.ref := by
      rw [Int.toNat_natCast, rep_ref]
    rw [e2] at n3 n4 ⊢
    rw [e4]
    have n23 : l2 ≠ l3 := ne_of_none upd_same n3
    have h2' : ∀ H5 : Hp, (upd (upd H l1 (.lst [V.int 0])) l2 (.lst (nV (List.replicate w 0)))) l2 = some (.lst (nV (List.replicate w 0))) := fun _ => upd_same
    have s4 := (Same.new (o := .lst [V.ref l2]) n3).trans (Same.new (o := .lst ((List.replicate h l2).map V.ref)) n4)
    refine ⟨_, rfl, _, rfl, _, rfl, _, rfl, _, rfl, _, rfl, rfl, fun x dx H6 hx s6 ho => ?_⟩
    have hr4 : isRows H6 l4 (bP (Sh.planeBy w h fun _ _ => false)) := ⟨List.replicate h l2, s6 _ _ upd_same, by rw [blank_rows]; exact paired_rep (s6 _ _ (s4 _ _ upd_same)) h⟩
    refine ⟨x, Sh.unseen l w h u, rfl, ⟨dx, l4, l4, ho, hr4, hr4⟩, oU, fun H7 p s7 _ h7 => ?_⟩
    exact ⟨p, _, rfl, h7, seen_len oU, fun H8 q s8 h8 => k H8 q h8⟩
end Fc
end
section
set_option Elab.async false
set_option linter.all false
set_option maxRecDepth 100000
set_option maxHeartbeats 2000000
namespace L2
open PySem PySem.Spec PyProof.Rows
open PySem.W (OpenSpec Codec WData)
theorem walk_specX {r : OpenSpec} {k : Nat} {q : Program} {loose : List Str} {XP : (Str → Option Value) → Heap → Prop} {YP : World → Heap → Prop} {d : DefRec} {K : Params → PySem.W.Frag} {ps : List Str} {sp : PySem.W.Frag → Sp}
    (hwell : r.wellSaid = true) (hdf : d.params.defaults = []) (hlen : r.args.length = ps.length) (hr : Room k callerA)
    (hY : ∀ (w : World) (h : Heap), YP w h → (K w.params).In h)
    (F : ∀ (w : World) (mg : Str → Option Value) (fa : Addr) (h : Heap), YP w h → (K w.params).In h → h.Ns mainGlobals mg → mg d.name = some (.ref fa) →
      ∃ fd : FuncData, (∀ (s : Shared) (us : List Value), us.length = ps.length → BindsTo s fd ⟨us, []⟩ (ps.zip us)) ∧
        ∀ base : Heap, (K w.params).In base → base.Ns mainGlobals mg → FnOk r.prog w (K w.params) mg base (CX1 r.prog w) k fa fd ps (sp (K w.params)))
    (hsp : ∀ (K : PySem.W.Frag) (H : Hp) (xs : List V) (a : Codec.denoteAll r.args), OnlyF H → Codec.withinAll r.args a = true → Codec.app r.args r.asked a = true → DwAll K H xs (Codec.encAll r.args a) →
      sp K xs H (fun v H' => Dw K H' v (r.ret.enc (Codec.app r.args r.f a))) fun _ _ _ => False) :
    PySem.W.WalkOS q loose XP YP r d [] (fun f vs => PySem.call f vs) :=
  walk_spec (K := K) (CX := fun w => CX1 r.prog w) (sp := fun w => sp (K w.params)) hwell hdf hlen hr hY F (fun w H xs a h1 h2 h3 h4 => hsp (K w.params) H xs a h1 h2 h3 h4) fun w H s e s' h => by
    obtain ⟨_, _, _, _, _, _, _, _, _, _, hf⟩ := h
    exact hf
end L2
namespace Fc
open PySem PySem.Spec PyProof.Rows L2
open PySem.W (OpenSpec Codec WData)
open Sh (Bytes)
theorem nat_of {z : Int} (h : 0 ≤ z) : ShapeNeutral.nat z = some z.toNat := by
  unfold ShapeNeutral.nat
  rw [if_neg (by omega)]
theorem req_int {K : PySem.W.Frag} {H : Hp} {v : V} {z : Int} (h : Dw K H v (.int z)) (hw : Codec.inInt 0 18446744073709551615 z = true) : ∃ n : Nat, v = .int (n : Nat) ∧ z = (n : Nat) ∧ ShapeNeutral.nat z = some n ∧ n ≤ 18446744073709551615 := by
  have h2 := Codec.inInt_iff.mp hw
  cases h
  have e : z = ((z.toNat : Nat) : Int) := by omega
  exact ⟨z.toNat, by rw [← e], e, nat_of h2.1, by omega⟩
theorem give_ints {K : PySem.W.Frag} {H : Hp} {p : Addr} {ns : List Int} (h : H p = some (.lst (ns.map V.int))) : Dw K H (.ref p) (.list (ns.map WData.int)) := .lst (SqL.of h) (dw_ints _)
end Fc
end
section
set_option Elab.async false
set_option linter.all false
set_option maxRecDepth 100000
set_option maxHeartbeats 4000000
namespace Fc
open PySem PySem.Spec PyProof.Rows L2
open FA
open Sh (Bytes)
theorem all_mk {P : Program} {w : World} {K : PySem.W.Frag} {h : Heap} {mg : Str → Option Value} {fa : Addr} (X : K.In h) (G : h.Ns mainGlobals mg) (hfa : mg "unseen" = some (.ref fa))
    {CL : Addr} {f_Seen_init : Addr} {od_Seen_init an_Seen_init : Option Addr} {sl_Seen_init : Array (Option Value)} {oc_Seen_init kV_Seen_init dc_Seen_init pm_Seen_init cd_Seen_init ct_Seen_init : Value} {f_seen_bytes : Addr} {od_seen_bytes an_seen_bytes : Option Addr} {sl_seen_bytes : Array (Option Value)} {oc_seen_bytes kV_seen_bytes dc_seen_bytes pm_seen_bytes cd_seen_bytes ct_seen_bytes : Value} {f_plane_bytes : Addr} {od_plane_bytes an_plane_bytes : Option Addr} {sl_plane_bytes : Array (Option Value)} {oc_plane_bytes kV_plane_bytes dc_plane_bytes pm_plane_bytes cd_plane_bytes ct_plane_bytes : Value} {f_number_bytes : Addr} {od_number_bytes an_number_bytes : Option Addr} {sl_number_bytes : Array (Option Value)} {oc_number_bytes kV_number_bytes dc_number_bytes pm_number_bytes cd_number_bytes ct_number_bytes : Value} {f_unseen : Addr} {od_unseen an_unseen : Option Addr} {sl_unseen : Array (Option Value)} {oc_unseen kV_unseen dc_unseen pm_unseen cd_unseen ct_unseen : Value} {f_told_numbers : Addr} {od_told_numbers an_told_numbers : Option Addr} {sl_told_numbers : Array (Option Value)} {oc_told_numbers kV_told_numbers dc_told_numbers pm_told_numbers cd_told_numbers ct_told_numbers : Value} {t_SEEN_MARK : Addr} {t_MOST_HEIGHT : Tok} {t_MOST_WIDTH : Tok} {t_MOST_LETTER : Tok} {t_MOST_BUDGET : Tok} {t_OUT_OF_BOUNDS : Tok}
    (a_Seen : PySem.W.nsIn K mainGlobals "Seen" = some (some (.ref CL)))
    (a_Seen_init : PySem.W.findIn K (.ref CL) "__init__" = some (some (.ref f_Seen_init)))
    (i_Seen_init : PySem.W.isFn K (.ref f_Seen_init) = true)
    (l_Seen_init : K.lookup f_Seen_init = some ⟨oc_Seen_init, od_Seen_init, .func (PySem.W.fnOf "__init__" "Seen.__init__" (defArgs s_Seen_init) (defBody s_Seen_init) (defScope s_Seen_init) .none kV_Seen_init dc_Seen_init pm_Seen_init an_Seen_init cd_Seen_init ct_Seen_init), sl_Seen_init⟩)
    (co_Seen_init : PySem.W.codeIn K cd_Seen_init "Seen.__init__" = true)
    (k_Seen_init : PySem.W.keepIn K (.ref f_Seen_init) = true)
    (sa_Seen : PySem.W.findIn K (.ref CL) "__setattr__" = some (some (.builtin "object.__setattr__")))
    (kc_Seen : PySem.W.keepIn K (.ref CL) = true)
    (pg_Seen : PySem.W.plainGet K CL Str.empty = true)
    (hd_Seen : PySem.W.hasDictIn K CL = true)
    (po_Seen : PySem.W.plainOver K CL = true)
    (mk_Seen : PySem.W.makesIn K CL = true)
    (n_Seen_letter : PySem.W.findIn K (.ref CL) "letter" = some none)
    (n_Seen_width : PySem.W.findIn K (.ref CL) "width" = some none)
    (n_Seen_height : PySem.W.findIn K (.ref CL) "height" = some none)
    (n_Seen_leeway : PySem.W.findIn K (.ref CL) "leeway" = some none)
    (n_Seen_samples : PySem.W.findIn K (.ref CL) "samples" = some none)
    (n_Seen_ink : PySem.W.findIn K (.ref CL) "ink" = some none)
    (n_Seen_paper : PySem.W.findIn K (.ref CL) "paper" = some none)
    (a_seen_bytes : PySem.W.nsIn K mainGlobals "seen_bytes" = some (some (.ref f_seen_bytes)))
    (l_seen_bytes : K.lookup f_seen_bytes = some ⟨oc_seen_bytes, od_seen_bytes, .func (PySem.W.fnOf "seen_bytes" "seen_bytes" (defArgs s_seen_bytes) (defBody s_seen_bytes) (defScope s_seen_bytes) .none kV_seen_bytes dc_seen_bytes pm_seen_bytes an_seen_bytes cd_seen_bytes ct_seen_bytes), sl_seen_bytes⟩)
    (co_seen_bytes : PySem.W.codeIn K cd_seen_bytes "seen_bytes" = true)
    (k_seen_bytes : PySem.W.keepIn K (.ref f_seen_bytes) = true)
    (a_plane_bytes : PySem.W.nsIn K mainGlobals "plane_bytes" = some (some (.ref f_plane_bytes)))
    (l_plane_bytes : K.lookup f_plane_bytes = some ⟨oc_plane_bytes, od_plane_bytes, .func (PySem.W.fnOf "plane_bytes" "plane_bytes" (defArgs s_plane_bytes) (defBody s_plane_bytes) (defScope s_plane_bytes) .none kV_plane_bytes dc_plane_bytes pm_plane_bytes an_plane_bytes cd_plane_bytes ct_plane_bytes), sl_plane_bytes⟩)
    (co_plane_bytes : PySem.W.codeIn K cd_plane_bytes "plane_bytes" = true)
    (k_plane_bytes : PySem.W.keepIn K (.ref f_plane_bytes) = true)
    (a_number_bytes : PySem.W.nsIn K mainGlobals "number_bytes" = some (some (.ref f_number_bytes)))
    (l_number_bytes : K.lookup f_number_bytes = some ⟨oc_number_bytes, od_number_bytes, .func (PySem.W.fnOf "number_bytes" "number_bytes" (defArgs s_number_bytes) (defBody s_number_bytes) (defScope s_number_bytes) .none kV_number_bytes dc_number_bytes pm_number_bytes an_number_bytes cd_number_bytes ct_number_bytes), sl_number_bytes⟩)
    (co_number_bytes : PySem.W.codeIn K cd_number_bytes "number_bytes" = true)
    (k_number_bytes : PySem.W.keepIn K (.ref f_number_bytes) = true)
    (a_unseen : PySem.W.nsIn K mainGlobals "unseen" = some (some (.ref f_unseen)))
    (l_unseen : K.lookup f_unseen = some ⟨oc_unseen, od_unseen, .func (PySem.W.fnOf "unseen" "unseen" (defArgs s_unseen) (defBody s_unseen) (defScope s_unseen) .none kV_unseen dc_unseen pm_unseen an_unseen cd_unseen ct_unseen), sl_unseen⟩)
    (co_unseen : PySem.W.codeIn K cd_unseen "unseen" = true)
    (k_unseen : PySem.W.keepIn K (.ref f_unseen) = true)
    (a_told_numbers : PySem.W.nsIn K mainGlobals "told_numbers" = some (some (.ref f_told_numbers)))
    (l_told_numbers : K.lookup f_told_numbers = some ⟨oc_told_numbers, od_told_numbers, .func (PySem.W.fnOf "told_numbers" "told_numbers" (defArgs s_told_numbers) (defBody s_told_numbers) (defScope s_told_numbers) .none kV_told_numbers dc_told_numbers pm_told_numbers an_told_numbers cd_told_numbers ct_told_numbers), sl_told_numbers⟩)
    (co_told_numbers : PySem.W.codeIn K cd_told_numbers "told_numbers" = true)
    (k_told_numbers : PySem.W.keepIn K (.ref f_told_numbers) = true)
    (a_SEEN_MARK : PySem.W.nsIn K mainGlobals "SEEN_MARK" = some (some (.ref t_SEEN_MARK)))
    (q_SEEN_MARK : tupIn K t_SEEN_MARK [83, 72, 76, 49] = true)
    (a_MOST_HEIGHT : PySem.W.nsIn K mainGlobals "MOST_HEIGHT" = some (some (.int (64) t_MOST_HEIGHT)))
    (a_MOST_WIDTH : PySem.W.nsIn K mainGlobals "MOST_WIDTH" = some (some (.int (64) t_MOST_WIDTH)))
    (a_MOST_LETTER : PySem.W.nsIn K mainGlobals "MOST_LETTER" = some (some (.int (4095) t_MOST_LETTER)))
    (a_MOST_BUDGET : PySem.W.nsIn K mainGlobals "MOST_BUDGET" = some (some (.int (4096) t_MOST_BUDGET)))
    (a_OUT_OF_BOUNDS : PySem.W.nsIn K mainGlobals "OUT_OF_BOUNDS" = some (some (.int (-1) t_OUT_OF_BOUNDS)))
    (e_range : PySem.W.nsIn K mainGlobals "range" = some none)
    (e_len : PySem.W.nsIn K mainGlobals "len" = some none)
    (e_min : PySem.W.nsIn K mainGlobals "min" = some none)
    (e_reversed : PySem.W.nsIn K mainGlobals "reversed" = some none)
    (e_enumerate : PySem.W.nsIn K mainGlobals "enumerate" = some none)
    (e_zip : PySem.W.nsIn K mainGlobals "zip" = some none)
    (e_sum : PySem.W.nsIn K mainGlobals "sum" = some none)
    (e_max : PySem.W.nsIn K mainGlobals "max" = some none)
    (e_list : PySem.W.nsIn K mainGlobals "list" = some none) :
    ∃ fd : FuncData, (∀ (s : Shared) (us : List Value), us.length = (["letter", "w", "h", "b"] : List Str).length → BindsTo s fd ⟨us, []⟩ ((["letter", "w", "h", "b"] : List Str).zip us)) ∧ ∀ base : Heap, K.In base → base.Ns mainGlobals mg → FnOk P w K mg base (CX1 P w) 3 fa fd ["letter", "w", "h", "b"] (spUn K) := by
  have e := hfa.symm.trans (PySem.W.mg_of X G a_unseen)
  cases e
  have F_Seen_init := fun_mk (st := s_Seen_init) l_Seen_init co_Seen_init k_Seen_init
  have b_Seen_init := F_Seen_init.binds (ps := ["self", "letter", "width", "height", "leeway", "samples", "ink", "paper"]) fun _ _ _ _ _ _ us hl => match us, hl with | [_, _, _, _, _, _, _, _], _ => rfl
  have cl_Seen : Cls K CL := ⟨pg_Seen, hd_Seen, po_Seen, sa_Seen⟩
  have F_seen_bytes := fun_mk (st := s_seen_bytes) l_seen_bytes co_seen_bytes k_seen_bytes
  have b_seen_bytes := F_seen_bytes.binds (ps := ["seen"]) fun _ _ _ _ _ _ us hl => match us, hl with | [_], _ => rfl
  have m_seen_bytes := PySem.W.mg_of X G a_seen_bytes
  have F_plane_bytes := fun_mk (st := s_plane_bytes) l_plane_bytes co_plane_bytes k_plane_bytes
  have b_plane_bytes := F_plane_bytes.binds (ps := ["plane"]) fun _ _ _ _ _ _ us hl => match us, hl with | [_], _ => rfl
  have m_plane_bytes := PySem.W.mg_of X G a_plane_bytes
  have F_number_bytes := fun_mk (st := s_number_bytes) l_number_bytes co_number_bytes k_number_bytes
  have b_number_bytes := F_number_bytes.binds (ps := ["value", "size"]) fun _ _ _ _ _ _ us hl => match us, hl with | [_, _], _ => rfl
  have m_number_bytes := PySem.W.mg_of X G a_number_bytes
  have F_unseen := fun_mk (st := s_unseen) l_unseen co_unseen k_unseen
  have m_unseen := PySem.W.mg_of X G a_unseen
  have F_told_numbers := fun_mk (st := s_told_numbers) l_told_numbers co_told_numbers k_told_numbers
  have b_told_numbers := F_told_numbers.binds (ps := ["numbers"]) fun _ _ _ _ _ _ us hl => match us, hl with | [_], _ => rfl
  have m_told_numbers := PySem.W.mg_of X G a_told_numbers
  have c_SEEN_MARK : Mrk K mg "SEEN_MARK" [83, 72, 76, 49] := ⟨_, PySem.W.mg_of X G a_SEEN_MARK, q_SEEN_MARK⟩
  have c_MOST_HEIGHT : Con mg "MOST_HEIGHT" (64) := ⟨_, PySem.W.mg_of X G a_MOST_HEIGHT⟩
  have c_MOST_WIDTH : Con mg "MOST_WIDTH" (64) := ⟨_, PySem.W.mg_of X G a_MOST_WIDTH⟩
  have c_MOST_LETTER : Con mg "MOST_LETTER" (4095) := ⟨_, PySem.W.mg_of X G a_MOST_LETTER⟩
  have c_MOST_BUDGET : Con mg "MOST_BUDGET" (4096) := ⟨_, PySem.W.mg_of X G a_MOST_BUDGET⟩
  have c_OUT_OF_BOUNDS : Con mg "OUT_OF_BOUNDS" (-1) := ⟨_, PySem.W.mg_of X G a_OUT_OF_BOUNDS⟩
  have T : Txt mg := ⟨PySem.W.ns_none_of X G e_range, PySem.W.ns_none_of X G e_len, PySem.W.ns_none_of X G e_min, PySem.W.ns_none_of X G e_reversed, PySem.W.ns_none_of X G e_enumerate, PySem.W.ns_none_of X G e_zip, PySem.W.ns_none_of X G e_sum, PySem.W.ns_none_of X G e_max, PySem.W.ns_none_of X G e_list⟩
  refine ⟨PySem.W.fnOf "unseen" "unseen" (defArgs s_unseen) (defBody s_unseen) (defScope s_unseen) .none kV_unseen dc_unseen pm_unseen an_unseen cd_unseen ct_unseen, fun s us hu => match us, hu with | [_, _, _, _], _ => .of_eq rfl, fun base _ _ => ?_⟩
  have no_Seen : ∀ x ∈ ksL, NoAttr K CL x := by
    intro x hx
    simp only [ksL, List.mem_cons, List.not_mem_nil, or_false] at hx
    rcases hx with rfl | rfl | rfl | rfl | rfl | rfl | rfl
    · exact n_Seen_letter
    · exact n_Seen_width
    · exact n_Seen_height
    · exact n_Seen_leeway
    · exact n_Seen_samples
    · exact n_Seen_ink
    · exact n_Seen_paper
  have ML : Mak P w K mg base "Seen" CL 1 ksL := ⟨_, _, _, ok_li F_Seen_init cl_Seen no_Seen, PySem.W.mg_of X G a_Seen, ⟨mk_Seen, a_Seen_init, i_Seen_init, kc_Seen⟩, b_Seen_init⟩
  have O_Seen : LCls K CL := ⟨cl_Seen, n_Seen_letter, n_Seen_width, n_Seen_height, n_Seen_leeway, n_Seen_samples, n_Seen_ink, n_Seen_paper⟩
  have N_number_bytes : Cal P w K mg base "number_bytes" 1 ["value", "size"] (spNB) := ⟨_, _, ok_nb F_number_bytes T, m_number_bytes, k_number_bytes, b_number_bytes⟩
  have N_plane_bytes : Cal P w K mg base "plane_bytes" 1 ["plane"] (spPB) := ⟨_, _, ok_pb F_plane_bytes T, m_plane_bytes, k_plane_bytes, b_plane_bytes⟩
  have N_told_numbers : Cal P w K mg base "told_numbers" 1 ["numbers"] (spTo) := ⟨_, _, ok_to F_told_numbers T, m_told_numbers, k_told_numbers, b_told_numbers⟩
  have N_seen_bytes : Cal P w K mg base "seen_bytes" 2 ["seen"] (spSB CL) := ⟨_, _, ok_sb F_seen_bytes T O_Seen c_SEEN_MARK N_number_bytes N_plane_bytes, m_seen_bytes, k_seen_bytes, b_seen_bytes⟩
  exact ok_un F_unseen c_MOST_LETTER c_MOST_WIDTH c_MOST_HEIGHT c_MOST_BUDGET c_OUT_OF_BOUNDS ML N_seen_bytes N_told_numbers
end Fc
end
open PySem PySem.W PyProof.Rows
set_option maxRecDepth 100000 in
set_option maxHeartbeats 0 in
theorem PySem.Challenge.cw_lettershapesdesk_s10_unseen_holds : PySem.Challenge.rw_lettershapesdesk_s10_unseen.Holds := by
  w_on; k_headS; (case hw => exact ⟨[.int 0, .int 1, .int 1, .int 0], by decide +kernel, by decide +kernel⟩)
  k_fillS
  refine L2.walk_specX (r := PySem.Challenge.rw_lettershapesdesk_s10_unseen) (k := 3) (ps := ["letter", "w", "h", "b"]) (sp := Fc.spUn) (by decide +kernel) rfl rfl ⟨rfl, by decide, by decide⟩ (fun w h Y => PySem.W.kIn_of Y) ?F ?S
  case F =>
    intro w mg fa h Y KX G hmg
    refine' Fc.all_mk KX G hmg ?a_Seen ?a_Seen_init ?i_Seen_init ?l_Seen_init ?co_Seen_init ?k_Seen_init ?sa_Seen ?kc_Seen ?pg_Seen ?hd_Seen ?po_Seen ?mk_Seen ?n_Seen_letter ?n_Seen_width ?n_Seen_height ?n_Seen_leeway ?n_Seen_samples ?n_Seen_ink ?n_Seen_paper ?a_seen_bytes ?l_seen_bytes ?co_seen_bytes ?k_seen_bytes ?a_plane_bytes ?l_plane_bytes ?co_plane_bytes ?k_plane_bytes ?a_number_bytes ?l_number_bytes ?co_number_bytes ?k_number_bytes ?a_unseen ?l_unseen ?co_unseen ?k_unseen ?a_told_numbers ?l_told_numbers ?co_told_numbers ?k_told_numbers ?a_SEEN_MARK ?q_SEEN_MARK ?a_MOST_HEIGHT ?a_MOST_WIDTH ?a_MOST_LETTER ?a_MOST_BUDGET ?a_OUT_OF_BOUNDS ?e_range ?e_len ?e_min ?e_reversed ?e_enumerate ?e_zip ?e_sum ?e_max ?e_list
    (case a_Seen => k_is)
    (case a_Seen_init => k_is)
    (case i_Seen_init => k_is)
    (case l_Seen_init => k_is)
    (case co_Seen_init => k_is)
    (case k_Seen_init => k_is)
    (case sa_Seen => k_is)
    (case kc_Seen => k_is)
    (case pg_Seen => k_is)
    (case hd_Seen => k_is)
    (case po_Seen => k_is)
    (case mk_Seen => k_is)
    (case n_Seen_letter => k_is)
    (case n_Seen_width => k_is)
    (case n_Seen_height => k_is)
    (case n_Seen_leeway => k_is)
    (case n_Seen_samples => k_is)
    (case n_Seen_ink => k_is)
    (case n_Seen_paper => k_is)
    (case a_seen_bytes => k_is)
    (case l_seen_bytes => k_is)
    (case co_seen_bytes => k_is)
    (case k_seen_bytes => k_is)
    (case a_plane_bytes => k_is)
    (case l_plane_bytes => k_is)
    (case co_plane_bytes => k_is)
    (case k_plane_bytes => k_is)
    (case a_number_bytes => k_is)
    (case l_number_bytes => k_is)
    (case co_number_bytes => k_is)
    (case k_number_bytes => k_is)
    (case a_unseen => k_is)
    (case l_unseen => k_is)
    (case co_unseen => k_is)
    (case k_unseen => k_is)
    (case a_told_numbers => k_is)
    (case l_told_numbers => k_is)
    (case co_told_numbers => k_is)
    (case k_told_numbers => k_is)
    (case a_SEEN_MARK => k_is)
    (case q_SEEN_MARK => kernel_rfl)
    (case a_MOST_HEIGHT => k_is)
    (case a_MOST_WIDTH => k_is)
    (case a_MOST_LETTER => k_is)
    (case a_MOST_BUDGET => k_is)
    (case a_OUT_OF_BOUNDS => k_is)
    (case e_range => k_is)
    (case e_len => k_is)
    (case e_min => k_is)
    (case e_reversed => k_is)
    (case e_enumerate => k_is)
    (case e_zip => k_is)
    (case e_sum => k_is)
    (case e_max => k_is)
    (case e_list => k_is)
  case S =>
    intro K H xs a hO hwi hask hx
    cases hx with
    | cons h0 hx =>
    cases hx with
    | cons h1 hx =>
    cases hx with
    | cons h2 hx =>
    cases hx with
    | cons h3 hx =>
    cases hx
    have q : (Codec.inInt 0 18446744073709551615 a.1 && (Codec.inInt 0 18446744073709551615 a.2.1 && (Codec.inInt 0 18446744073709551615 a.2.2.1 && (Codec.inInt 0 18446744073709551615 a.2.2.2.1 && true)))) = true := hwi
    obtain ⟨q0, q⟩ := (Bool.and_eq_true_iff.mp q)
    obtain ⟨q1, q⟩ := (Bool.and_eq_true_iff.mp q)
    obtain ⟨q2, q⟩ := (Bool.and_eq_true_iff.mp q)
    obtain ⟨q3, q⟩ := (Bool.and_eq_true_iff.mp q)
    obtain ⟨n0, rfl, z0, e0, m0⟩ := Fc.req_int h0 q0
    obtain ⟨n1, rfl, z1, e1, m1⟩ := Fc.req_int h1 q1
    obtain ⟨n2, rfl, z2, e2, m2⟩ := Fc.req_int h2 q2
    obtain ⟨n3, rfl, z3, e3, m3⟩ := Fc.req_int h3 q3
    have e : PyYqshba.unseen a.1 a.2.1 a.2.2.1 a.2.2.2.1 = ShapeNeutral.told (ShB.answer (.unseen n0 n1 n2 n3)) := by
      show (match ShapeNeutral.callOf [[10, a.1, a.2.1, a.2.2.1, a.2.2.2.1]] with | some x => ShapeNeutral.told (ShB.answer x) | none => []) = _
      simp only [ShapeNeutral.callOf, e0, e1, e2, e3]
      rfl
    refine ⟨n0, n1, n2, n3, rfl, fun H' l hl' => ?_⟩
    show L2.Dw K H' (.ref l) (.list ((PyYqshba.unseen a.1 a.2.1 a.2.2.1 a.2.2.2.1).map WData.int))
    rw [e]
    exact Fc.give_ints hl'
