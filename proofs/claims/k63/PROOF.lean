import PyProof.Rows.All
import Wide.All
import OpenK.AllK
import Wide.FinOn
import PyProof.EqAt
import PyProof.EqKinds
import PyProof.TupleCall
import KE.BitLaws
import PyProof.TupleOfGen
import KE.KRevSl
import PyProof.ZipIter
import PyProof.Rows.SetFrom
import PyProof.Rows.SortShellAny
import PyProof.SetRoads
import KE.KDictSum
import PyProof.ListRange
import KE.KRegrown
import OpenK.KOwn
import PyProof.EnumMake
import PyProof.Rows.Range3
import KE.KEqDeep
import KE.KTryMore
import KE.KIsAll
import PyProof.ExcBaseAll.ValueError
import PyProof.NsDelKeeps
import PyProof.ExcArgsOwn
import PyProof.P3Eq
import KE.KSortTupG
import KE.KItemsList
import PyProof.ReprRoads
import PyProof.CallFns
import PyProof.StrLawsRepr
import PyProof.Rows.RegStrFacts
import PyProof.FString
import KE.KTupSum
import KE.KEqDict
import KE.KDictLaws
import KE.KRevIter
import PySem.Challenge.RW_fewsumlots_k63_each_number_comes
set_option Elab.async false
set_option linter.all false
set_option maxRecDepth 100000
namespace L2
open PySem PySem.Spec PyProof.Rows
/-- a key: an int or a str -/
abbrev Key := Sum Int Str
def keyIs : Key → Value → Bool
  | .inl k, v => Value.isInt k v
  | .inr x, v => Value.isStrOf x v
def keyH (w : World) : Key → Int
  | .inl k => hashInt k
  | .inr x => hashStr w x
theorem keyIs_shape : ∀ {k : Key} {v : Value}, keyIs k v = true → (∃ i t, k = Sum.inl i ∧ v = Value.int i t) ∨ (∃ x t, k = Sum.inr x ∧ v = Value.str x t)
  | .inl i, v, h => by
    obtain ⟨t, e⟩ := Value.isInt_shape (k := i) (v := v) h
    exact .inl ⟨i, t, rfl, e⟩
  | .inr x, v, h => by
    obtain ⟨t, e⟩ := Value.isStrOf_shape (x := x) (v := v) h
    exact .inr ⟨x, t, rfl, e⟩
theorem keyIs_int (i : Int) (t : Tok) : keyIs (.inl i) (.int i t) = true := by simp [keyIs, Value.isInt]
theorem keyIs_str (x : Str) (t : Tok) : keyIs (.inr x) (.str x t) = true := by simp [keyIs, Value.isStrOf]
theorem key_ll (a b : Int) : decide ((Sum.inl a : Key) = Sum.inl b) = (a == b) := by
  by_cases e : a = b
  · subst e; simp
  · have h : ¬ (Sum.inl a : Key) = Sum.inl b := fun q => e (Sum.inl.inj q)
    rw [decide_eq_false h]
    exact (beq_eq_false_iff_ne.mpr e).symm
theorem key_rr (a b : Str) : decide ((Sum.inr a : Key) = Sum.inr b) = decide (a = b) := by
  by_cases e : a = b
  · subst e; simp
  · have h : ¬ (Sum.inr a : Key) = Sum.inr b := fun q => e (Sum.inr.inj q)
    rw [decide_eq_false h, decide_eq_false e]
theorem key_lr (a : Int) (b : Str) : decide ((Sum.inl a : Key) = Sum.inr b) = false := decide_eq_false (fun q => nomatch q)
theorem key_rl (a : Str) (b : Int) : decide ((Sum.inr a : Key) = Sum.inl b) = false := decide_eq_false (fun q => nomatch q)
def mixKind (prog : Program) (w : World) : PySem.KeyKind prog w Key where
  is := keyIs
  hash := keyH w
  inj := fun v a b ha hb => by
    rcases keyIs_shape ha with ⟨i, t, rfl, rfl⟩ | ⟨x, t, rfl, rfl⟩
    · rcases keyIs_shape hb with ⟨j, u, rfl, e⟩ | ⟨y, u, rfl, e⟩
      · injection e with e1 _; rw [e1]
      · exact nomatch e
    · rcases keyIs_shape hb with ⟨j, u, rfl, e⟩ | ⟨y, u, rfl, e⟩
      · exact nomatch e
      · injection e with e1 _; rw [e1]
  byValue := fun k v h => by
    rcases keyIs_shape h with ⟨i, t, rfl, rfl⟩ | ⟨x, t, rfl, rfl⟩ <;> rfl
  pyHash := fun hv h => by
    rcases keyIs_shape hv with ⟨i, t, rfl, rfl⟩ | ⟨x, t, rfl, rfl⟩
    · exact wpAny_pyHash_int h
    · exact wpAny_pyHash_str h
  eqBool := fun hu hv h => by
    rcases keyIs_shape hu with ⟨i, t, rfl, rfl⟩ | ⟨x, t, rfl, rfl⟩
    · rcases keyIs_shape hv with ⟨j, u, rfl, rfl⟩ | ⟨y, u, rfl, rfl⟩
      · rw [key_ll] at h; exact wpAny_eqBool_int h
      · rw [key_lr] at h; exact SeqAt.EqAt.int_str i t y u _ _ _ _ h
    · rcases keyIs_shape hv with ⟨j, u, rfl, rfl⟩ | ⟨y, u, rfl, rfl⟩
      · rw [key_rl] at h; exact SeqAt.EqAt.str_int x t j u _ _ _ _ h
      · rw [key_rr] at h; exact wpAny_eqBool_str h
  «strs» := fun k x t v h => by
    rcases keyIs_shape h with ⟨i, u, rfl, e⟩ | ⟨y, u, rfl, e⟩
    · exact nomatch e
    · injection e with e1 _
      subst e1
      cases v <;> rfl
theorem mixKind_int (prog : Program) (w : World) (i : Int) (t : Tok) : (mixKind prog w).is (.inl i) (.int i t) = true := keyIs_int i t
theorem mixKind_str (prog : Program) (w : World) (x : Str) (t : Tok) : (mixKind prog w).is (.inr x) (.str x t) = true := keyIs_str x t
end L2
namespace L2
open PySem PySem.Spec PyProof.Rows
/-- a value, without the heap -/
inductive V where
  | non | bl (b : Bool) | int (i : Int) | str (x : Str) | byt (b : Array UInt8) | flt (b : UInt64) | ref (a : Addr) | ty (n : String)
  deriving DecidableEq
def RelV : V → Value → Prop
  | .non, u => u = Value.none
  | .bl b, u => u = Value.bool b
  | .int i, u => ∃ t, u = Value.int i t
  | .str x, u => ∃ t, u = Value.str x t
  | .byt b, u => ∃ t, u = Value.bytes b t
  | .flt b, u => ∃ t, u = Value.float b t
  | .ref a, u => u = Value.ref a
  | .ty n, u => u = Value.type n
abbrev Vals : List V → List Value → Prop := Paired RelV
theorem Vals.length {xs : List V} {us : List Value} (r : Vals xs us) : xs.length = us.length := Paired.length r
theorem Vals.get : ∀ {xs : List V} {us : List Value} {i : Nat} {x : V}, Vals xs us → xs[i]? = some x → ∃ u, us[i]? = some u ∧ RelV x u
  | _, _, _, _, .nil, e => by simp at e
  | _, _, 0, _, .cons r _, e => by simp at e; subst e; exact ⟨_, rfl, r⟩
  | _, _, i + 1, x, .cons _ t, e => by
    obtain ⟨u, h1, h2⟩ := Vals.get (i := i) (x := x) t (by simpa using e)
    exact ⟨u, by simpa using h1, h2⟩
theorem Vals.set {x : V} {u : Value} (r : RelV x u) : ∀ {xs : List V} {us : List Value} (i : Nat), Vals xs us → Vals (xs.set i x) (us.set i u)
  | _, _, _, .nil => .nil
  | _, _, 0, .cons _ t => .cons r t
  | _, _, i + 1, .cons q t => .cons q (Vals.set r i t)
theorem Vals.append : ∀ {xs ys : List V} {us ws : List Value}, Vals xs us → Vals ys ws → Vals (xs ++ ys) (us ++ ws)
  | _, _, _, _, .nil, s => s
  | _, _, _, _, .cons r t, s => .cons r (Vals.append t s)
theorem Vals.take : ∀ {xs : List V} {us : List Value} (n : Nat), Vals xs us → Vals (xs.take n) (us.take n)
  | _, _, 0, _ => .nil
  | _, _, _ + 1, .nil => .nil
  | _, _, n + 1, .cons r t => .cons r (Vals.take n t)
theorem Vals.drop : ∀ {xs : List V} {us : List Value} (n : Nat), Vals xs us → Vals (xs.drop n) (us.drop n)
  | _, _, 0, r => r
  | _, _, _ + 1, .nil => .nil
  | _, _, n + 1, .cons _ t => Vals.drop n t
def RelO : Option V → Option Value → Prop
  | some v, some u => RelV v u
  | none, none => True
  | _, _ => False
def KV {κ : Type} : List (κ × V) → List (κ × Value) → Prop := Paired fun (p : κ × V) (q : κ × Value) => p.1 = q.1 ∧ RelV p.2 q.2
/-- a key of a dict (00_mix): an int or a text -/
def kV : Key → V
  | .inl i => .int i
  | .inr x => .str x
/-- what stands at a tracked address -/
inductive HO where
  /-- a list -/
  | lst (xs : List V)
  /-- a tuple (never changes) -/
  | tup (xs : List V)
  /-- a dict whose keys are ints and texts; one whose keys are tuples of ints and texts (the empty one is both) -/
  | dK (kvs : List (Key × V)) | dT (kvs : List (List Key × V))
  /-- a set of ints: its members, its size -/
  | set (S : Int → Bool) (n : Nat)
  /-- an instance of the class at C, its dict at dx, its attributes -/
  | ins (C dx : Addr) (fs : List (Str × V))
  /-- the dict of the instance at x -/
  | own (x : Addr)
  /-- the dict of an exception -/
  | xd (fs : List (Str × V))
  /-- a bound method, f of x -/
  | met (f x : Addr)
  /-- a range object lo, lo + 1, .. below hi -/
  | rng (lo hi : Int)
  /-- a thing that is known to the object (the script; a dict while a loop walks it): read, never written while it is so -/
  | frz (o : Obj) (u : HO)
  /-- a code object's table -/
  | tbl (ps : Array Value)
  /-- any other thing, by what is true of its one object (a def of one's own: SetO a S n := HO.ext fun h => ..) -/
  | ext (φ : Heap → Prop)
abbrev Hp := Addr → Option HO
def upd (H : Hp) (a : Addr) (o : HO) : Hp := fun b => if b = a then some o else H b
theorem upd_same {H : Hp} {a : Addr} {o : HO} : upd H a o a = some o := by unfold upd; rw [if_pos rfl]
theorem upd_ne {H : Hp} {a b : Addr} {o : HO} (h : b ≠ a) : upd H a o b = H b := by unfold upd; rw [if_neg h]
theorem ne_of_none {H : Hp} {a b : Addr} {o : HO} (h : H a = some o) (h' : H b = none) : a ≠ b := by
  intro e; subst e; rw [h] at h'; cases h'
section
variable (P : Program) (w : World)
/-- a tuple without a dict -/
def IsTupP (h : Heap) (a : Addr) (its : Array Value) : Prop := ∃ o, h.get? a = some o ∧ o.cls = .type "tuple" ∧ ∃ n, (o.data, o.dict) = (.seq its n, none)
theorem IsTupP.tup {h : Heap} {a : Addr} {its : Array Value} (x : IsTupP h a its) : IsTup h a its := let ⟨o, e, c, n, q⟩ := x; ⟨o, e, c, n, (Prod.mk.inj q).1⟩
theorem IsTupP.new (h : Heap) (its : Array Value) : IsTupP (h.push { cls := .type "tuple", data := .seq its }) h.objs.size its := ⟨_, Heap.get?_push_size _ rfl, rfl, _, rfl⟩
def ObjOk (H : Hp) (h : Heap) (a : Addr) : HO → Prop
  | .lst xs => xs.length ≤ sizeLine ∧ ∃ (its : List Value) (n : Nat), Vals xs its ∧ h.get? a = some { cls := .type "list", data := .seq its.toArray n }
  | .tup xs => xs.length ≤ sizeLine ∧ ∃ its : List Value, Vals xs its ∧ IsTupP h a its.toArray
  | .dK kvs => kvs.length ≤ sizeLine ∧ (a == sysModules) = false ∧ ∃ vs, KV kvs vs ∧ h.DictOf (mixKind P w) a vs
  | .dT kvs => kvs.length ≤ sizeLine ∧ (a == sysModules) = false ∧ ∃ xs : List (List Key × Addr × Value),
      Paired (fun (p : List Key × V) (q : List Key × Addr × Value) => p.1 = q.1 ∧ H q.2.1 = some (.tup (p.1.map kV)) ∧ RelV p.2 q.2.2) kvs xs ∧
      ∃ o es ep, h.get? a = some o ∧ o.ExactDict ∧ o.data = .dict es ep ∧ es.toList = xs.map (entryOfKey (tupleKind (mixKind P w))) ∧ (xs.map (·.1)).Nodup
  | .set S n => h.SetOf (intKind P w) a S n
  | .ins C dx fs => H dx = some (.own a) ∧ fs.length ≤ 1000 ∧ dx ≠ a ∧ h.get? a = some (PySem.W.instObj C dx) ∧
      ∃ mA, h.Ns1 dx mA ∧ (∀ f, RelO (fs.lookup f) (mA f)) ∧ PySem.Within mA (fs.map (·.1))
  | .own _ => ∃ o, h.get? a = some o
  | .xd fs => ∃ mA, h.Ns1 a mA ∧ ∀ f, RelO (fs.lookup f) (mA f)
  | .rng lo hi => ∃ t u v, h.get? a = some { cls := .type "range", data := .fields #[.int lo t, .int hi u, .int 1 v] }
  | .frz o u => h.get? a = some o ∧ ObjOk H h a u
  | .tbl ps => h.get? a = some { cls := .none, data := .fields ps }
  | .met f x => h.get? a = some (PySem.W.methodObj (.ref f) (.ref x))
  | .ext φ => φ h ∧ (∃ o, h.get? a = some o) ∧ ∀ h1 h2 : Heap, φ h1 → (∀ o, h1.get? a = some o → h2.get? a = some o) → φ h2
/-- the abstract heap is held -/
def HOk (H : Hp) (h : Heap) : Prop := ∀ a o, H a = some o → ObjOk P w H h a o
end
section
variable {P : Program} {w : World} {H H' : Hp} {h h' : Heap} {a : Addr} {o : HO}
theorem ObjOk.lt (x : ObjOk P w H h a o) : a < h.objs.size := by
  cases o with
  | lst xs => obtain ⟨_, _, _, _, e⟩ := x; exact Heap.lt_size e
  | tup xs => obtain ⟨_, _, _, p⟩ := x; exact p.tup.lt
  | dK kvs => obtain ⟨_, _, _, _, o, _, _, e, _⟩ := x; exact Heap.lt_size e
  | dT kvs => obtain ⟨_, _, _, _, o, _, _, e, _⟩ := x; exact Heap.lt_size e
  | set S n => obtain ⟨o, _, _, _, e, _⟩ := x; exact Heap.lt_size e
  | ins C dx fs => obtain ⟨_, _, _, e, _⟩ := x; exact Heap.lt_size e
  | own y => obtain ⟨_, e⟩ := x; exact Heap.lt_size e
  | xd fs => obtain ⟨_, ⟨_, _, _, e, _⟩, _⟩ := x; exact Heap.lt_size e
  | rng lo hi => obtain ⟨_, _, _, e⟩ := x; exact Heap.lt_size e
  | frz ob u => obtain ⟨e, _⟩ := x; exact Heap.lt_size e
  | tbl ps => exact Heap.lt_size (show h.get? a = some _ from x)
  | met f y => exact Heap.lt_size (show h.get? a = some _ from x)
  | ext φ => obtain ⟨_, ⟨_, e⟩, _⟩ := x; exact Heap.lt_size e
theorem Paired.mapP {α β : Type} {F G : α → β → Prop} : ∀ {l₁ : List α} {l₂ : List β}, Paired F l₁ l₂ → (∀ a b, F a b → G a b) → Paired G l₁ l₂
  | _, _, .nil, _ => .nil
  | _, _, .cons r t, f => .cons (f _ _ r) (Paired.mapP t f)
/-- what an object's description leans on: its own object, its own dict, the tuples -/
theorem ObjOk.stay (x : ObjOk P w H h a o) (k : ∀ b u, (b = a ∨ H b = some (.own a)) → h.get? b = some u → h'.get? b = some u)
    (ho : ∀ b, H b = some (.own a) → H' b = some (.own a)) (ht : ∀ b xs, H b = some (.tup xs) → H' b = some (.tup xs)) : ObjOk P w H' h' a o := by
  induction o with
  | lst xs => obtain ⟨z, its, n, r, e⟩ := x; exact ⟨z, its, n, r, k _ _ (.inl rfl) e⟩
  | tup xs => obtain ⟨z, its, r, ob, e, c⟩ := x; exact ⟨z, its, r, ob, k _ _ (.inl rfl) e, c⟩
  | dK kvs => obtain ⟨z, y, vs, r, ob, es, ep, e, c⟩ := x; exact ⟨z, y, vs, r, ob, es, ep, k _ _ (.inl rfl) e, c⟩
  | dT kvs =>
    obtain ⟨z, y, xs, r, ob, es, ep, e, c⟩ := x
    exact ⟨z, y, xs, Paired.mapP r fun p q z => ⟨z.1, ht _ _ z.2.1, z.2.2⟩, ob, es, ep, k _ _ (.inl rfl) e, c⟩
  | set S n => obtain ⟨ob, es, ep, t, e, c⟩ := x; exact ⟨ob, es, ep, t, k _ _ (.inl rfl) e, c⟩
  | ins C dx fs =>
    obtain ⟨d, z, ne, e, mA, ⟨od, es, ep, e2, c⟩, r⟩ := x
    exact ⟨ho _ d, z, ne, k _ _ (.inl rfl) e, mA, ⟨od, es, ep, k _ _ (.inr d) e2, c⟩, r⟩
  | own y => obtain ⟨ob, e⟩ := x; exact ⟨ob, k _ _ (.inl rfl) e⟩
  | xd fs => obtain ⟨mA, ⟨od, es, ep, e, c⟩, r⟩ := x; exact ⟨mA, ⟨od, es, ep, k _ _ (.inl rfl) e, c⟩, r⟩
  | rng lo hi => obtain ⟨t, u, v, e⟩ := x; exact ⟨t, u, v, k _ _ (.inl rfl) e⟩
  | frz ob u ih => obtain ⟨e, q⟩ := x; exact ⟨k _ _ (.inl rfl) e, ih q⟩
  | tbl ps =>
    have e : h.get? a = some { cls := .none, data := .fields ps } := x
    show h'.get? a = some { cls := .none, data := .fields ps }
    exact k a _ (.inl rfl) e
  | met f y =>
    have e : h.get? a = some (PySem.W.methodObj (.ref f) (.ref y)) := x
    show h'.get? a = some (PySem.W.methodObj (.ref f) (.ref y))
    exact k a _ (.inl rfl) e
  | ext φ => obtain ⟨p, ⟨o, e⟩, st⟩ := x; exact ⟨st _ _ p fun o q => k _ _ (.inl rfl) q, ⟨o, k _ _ (.inl rfl) e⟩, st⟩
theorem HOk.lt (x : HOk P w H h) (e : H a = some o) : a < h.objs.size := (x a o e).lt
theorem HOk.fresh (x : HOk P w H h) (e : h.objs.size ≤ a) : H a = none := by
  cases q : H a with
  | none => rfl
  | some u => exact absurd (Nat.lt_of_lt_of_le (x.lt q) e) (Nat.lt_irrefl _)
/-- every object of the heap is kept -/
theorem HOk.kept (x : HOk P w H h) (k : ∀ b u, h.get? b = some u → h'.get? b = some u) : HOk P w H h' := fun a o e =>
  (x a o e).stay (fun b u _ q => k b u q) (fun _ q => q) fun _ _ q => q
/-- a new object is laid and tracked -/
theorem HOk.laid (x : HOk P w H h) (k : ∀ b u, h.get? b = some u → h'.get? b = some u) (hp : h.objs.size ≤ a) (new : ObjOk P w (upd H a o) h' a o) : HOk P w (upd H a o) h' := fun b u e => by
  have hn := x.fresh hp
  by_cases hb : b = a
  · subst hb; rw [upd_same] at e; cases e; exact new
  · rw [upd_ne hb] at e
    exact (x b u e).stay (fun c v _ q => k c v q) (fun c q => by rw [upd_ne (ne_of_none q hn)]; exact q) fun c xs q => by rw [upd_ne (ne_of_none q hn)]; exact q
end
/-- what may be read as u: it is u, or a known u -/
def Rd (H : Hp) (a : Addr) (u : HO) : Prop := H a = some u ∨ ∃ o, H a = some (.frz o u)
theorem Rd.of {H : Hp} {a : Addr} {u : HO} (h : H a = some u) : Rd H a u := .inl h
theorem Rd.ok {P : Program} {w : World} {H : Hp} {h : Heap} {a : Addr} {u : HO} (r : Rd H a u) (x : HOk P w H h) : ObjOk P w H h a u := by
  rcases r with r | ⟨o, r⟩
  · exact x a u r
  · obtain ⟨_, q⟩ := x a _ r
    exact q
/-- what may be written -/
def Mut : Option HO → Prop
  | some (.lst _) => True
  | some (.dK _) => True
  | some (.dT _) => True
  | some (.set _ _) => True
  | some (.ins _ _ _) => True
  | some (.ext _) => True
  | _ => False
section
variable {P : Program} {w : World} {H : Hp} {h h' : Heap} {x e : Addr} {o' : HO}
/-- the object at e is changed: x itself, or the dict of the instance x -/
theorem HOk.write (ok : HOk P w H h) (mu : Mut (H x)) (he : e = x ∨ H e = some (.own x)) (k : ∀ b u, b ≠ e → h.get? b = some u → h'.get? b = some u) (heo : ∃ u, h'.get? e = some u)
    (new : ObjOk P w (upd H x o') h' x o') : HOk P w (upd H x o') h' := fun b u q => by
  have nown : ∀ c y, H c = some (.own y) → c ≠ x := fun c y r z => by subst z; rw [r] at mu; exact mu
  have ntup : ∀ c xs, H c = some (.tup xs) → c ≠ x := fun c xs r z => by subst z; rw [r] at mu; exact mu
  by_cases hb : b = x
  · subst hb; rw [upd_same] at q; cases q; exact new
  · rw [upd_ne hb] at q
    by_cases hbe : b = e
    · have q' : H b = some (.own x) := by
        rcases he with z | z
        · exact absurd (hbe.trans z) hb
        · rw [hbe]; exact z
      rw [q] at q'; cases q'
      obtain ⟨v, hv⟩ := heo
      exact ⟨v, by rw [hbe]; exact hv⟩
    · refine (ok b u q).stay (fun c v hc r => k c v ?_ r) (fun c r => by rw [upd_ne (nown c b r)]; exact r) fun c xs r => by rw [upd_ne (ntup c xs r)]; exact r
      rcases hc with rfl | hc
      · exact hbe
      · rintro rfl
        rcases he with z | z
        · exact nown c b hc z
        · rw [hc] at z; cases z; exact hb rfl
end
structure Un (fs ex : List Addr) (H H' : Hp) (h h' : Heap) : Prop where
  keep : ∀ b o, h.get? b = some o → H b = none → b ∉ fs → b ∉ ex → h'.get? b = some o
  slot : ∀ b o, h.get? b = some o → H b = none → b ∈ fs → b ∉ ex → ∃ sl, h'.get? b = some { o with slots := sl }
  free : ∀ b o, h.get? b = some o → H b = none → b ∉ ex → H' b = none
  there : ∀ b o, h.get? b = some o → b ∉ ex → ∃ o', h'.get? b = some o'
  tups : ∀ b xs, H b = some (.tup xs) → H' b = some (.tup xs)
  frzs : ∀ b o u, H b = some (.frz o u) → H' b = some (.frz o u)
  tbls : ∀ b ps, H b = some (.tbl ps) → ∃ more, H' b = some (.tbl (ps ++ more))
section
variable {fs fs' ex ex' : List Addr} {H H1 H2 : Hp} {h h1 h2 h' : Heap} {a x e : Addr} {o : HO}
theorem Un.any (u : Un fs ex H H1 h h1) {b : Addr} {ob : Obj} (q : h.get? b = some ob) (n : H b = none) (hx : b ∉ ex) : ∃ sl, h1.get? b = some { ob with slots := sl } := by
  by_cases hb : b ∈ fs
  · exact u.slot b ob q n hb hx
  · exact ⟨ob.slots, u.keep b ob q n hb hx⟩
theorem Un.trans (a : Un fs ex H H1 h h1) (b : Un fs ex H1 H2 h1 h2) : Un fs ex H H2 h h2 where
  keep := fun c ob q n hc hx => b.keep c ob (a.keep c ob q n hc hx) (a.free c ob q n hx) hc hx
  slot := fun c ob q n hc hx => by
    obtain ⟨sl, e1⟩ := a.slot c ob q n hc hx
    obtain ⟨sl', e2⟩ := b.slot c _ e1 (a.free c ob q n hx) hc hx
    exact ⟨sl', e2⟩
  free := fun c ob q n hx => by
    obtain ⟨o', e1⟩ := a.there c ob q hx
    exact b.free c o' e1 (a.free c ob q n hx) hx
  there := fun c ob q hx => by
    obtain ⟨o', e1⟩ := a.there c ob q hx
    exact b.there c o' e1 hx
  tups := fun c xs q => b.tups c xs (a.tups c xs q)
  frzs := fun c ob xs q => b.frzs c ob xs (a.frzs c ob xs q)
  tbls := fun c ps q => by
    obtain ⟨m1, e1⟩ := a.tbls c ps q
    obtain ⟨m2, e2⟩ := b.tbls c _ e1
    exact ⟨m1 ++ m2, by rw [e2, Array.append_assoc]⟩
theorem Un.kept (k : ∀ b u, h.get? b = some u → h'.get? b = some u) : Un fs ex H H h h' :=
  ⟨fun b ob q _ _ _ => k b ob q, fun b ob q _ _ _ => ⟨ob.slots, k b ob q⟩, fun _ _ _ n _ => n, fun b ob q _ => ⟨ob, k b ob q⟩, fun _ _ q => q, fun _ _ _ q => q, fun _ ps q => ⟨#[], by rw [q]; simp⟩⟩
theorem Un.refl : Un fs ex H H h h := Un.kept fun _ _ q => q
theorem Un.laid (k : ∀ b u, h.get? b = some u → h'.get? b = some u) (hp : h.objs.size ≤ a) (hn : H a = none) : Un fs ex H (upd H a o) h h' where
  keep := fun b u q _ _ _ => k b u q
  slot := fun b u q _ _ _ => ⟨u.slots, k b u q⟩
  free := fun b u q n _ => by rw [upd_ne (Nat.ne_of_lt (Nat.lt_of_lt_of_le (Heap.lt_size q) hp))]; exact n
  there := fun b u q _ => ⟨u, k b u q⟩
  tups := fun b xs q => by rw [upd_ne (ne_of_none q hn)]; exact q
  frzs := fun b u xs q => by rw [upd_ne (ne_of_none q hn)]; exact q
  tbls := fun b ps q => ⟨#[], by rw [upd_ne (ne_of_none q hn), q]; simp⟩
theorem Un.write (mu : Mut (H x)) (he : e = x ∨ H e = some (.own x)) (k : ∀ b u, b ≠ e → h.get? b = some u → h'.get? b = some u) (heo : ∃ u, h'.get? e = some u) : Un fs ex H (upd H x o) h h' := by
  have hx : ∀ b, H b = none → b ≠ x := fun b n z => by subst z; rw [n] at mu; exact mu
  have hb : ∀ b, H b = none → b ≠ e := fun b n z => by
    subst z
    rcases he with r | r
    · exact hx b n r
    · rw [n] at r; cases r
  have hm : ∀ b u, H b = some u → ¬ Mut (some u) → b ≠ x := fun b u q nm z => by subst z; rw [q] at mu; exact nm mu
  refine ⟨fun b u q n _ _ => k b u (hb b n) q, fun b u q n _ _ => ⟨u.slots, k b u (hb b n) q⟩, fun b u q n _ => by rw [upd_ne (hx b n)]; exact n, fun b u q _ => ?_,
    fun b xs q => by rw [upd_ne (hm b _ q fun z => z)]; exact q, fun b u xs q => by rw [upd_ne (hm b _ q fun z => z)]; exact q, fun b ps q => ⟨#[], by rw [upd_ne (hm b _ q fun z => z), q]; simp⟩⟩
  by_cases hbe : b = e
  · subst hbe; exact heo
  · exact ⟨u, k b u hbe q⟩
theorem Un.mono (u : Un fs ex H H1 h h1) (hs : ∀ b ∈ fs, b ∈ fs') (hx : ∀ b ∈ ex, b ∈ ex') : Un fs' ex' H H1 h h1 :=
  ⟨fun b ob q n hb he => u.keep b ob q n (fun z => hb (hs b z)) fun z => he (hx b z), fun _ _ q n _ he => u.any q n fun z => he (hx _ z), fun b ob q n he => u.free b ob q n fun z => he (hx b z), fun b ob q he => u.there b ob q fun z => he (hx b z), u.tups, u.frzs, u.tbls⟩
end
def trk (h : Heap) (H : Hp) : List Addr := (List.range h.objs.size).filter fun a => (H a).isSome
def hidT (h : Heap) (H : Hp) : Heap := PySem.W.hideAll h (trk h H)
theorem hidT_size (h : Heap) (H : Hp) : (hidT h H).objs.size = h.objs.size := PySem.W.hideAll_size _ _
theorem hidT_get {h : Heap} {H : Hp} {b : Addr} {o : Obj} (e : h.get? b = some o) (n : H b = none) : (hidT h H).get? b = some o :=
  PySem.W.hideAll_get _ e fun hm => by
    have q : (H b).isSome = true := (List.mem_filter.mp hm).2
    rw [n] at q; simp at q
theorem of_hidT {h : Heap} {H : Hp} {b : Addr} {o : Obj} (e : (hidT h H).get? b = some o) : h.get? b = some o ∧ H b = none := by
  have e' : h.get? b = some o := PySem.W.of_hideAll (trk h H) e
  refine ⟨e', ?_⟩
  cases q : H b with
  | none => rfl
  | some x =>
    have hm : b ∈ trk h H := List.mem_filter.mpr ⟨List.mem_range.mpr (Heap.lt_size e'), by simp [q]⟩
    have z : (hidT h H).get? b = none := PySem.W.hideAll_none (trk h H) hm
    rw [z] at e; cases e
def allNews (g h : Heap) (L : Addr) : List (Addr × Obj) := (List.range h.objs.size).filterMap fun a => if a = L ∨ (g.get? a).isSome = true then none else (h.get? a).map fun o => (a, o)
def rest (g h : Heap) (L d : Addr) : List (Addr × Obj) := (allNews g h L).filter fun p => decide (p.1 ≠ d)
end L2
namespace L2
open PySem PySem.Spec PyProof.Rows
/-- the module's facts, over the base: the heap at the law's entry without what is tracked there -/
structure Mod (K : PySem.W.Frag) (mg : Str → Option Value) (base : Heap) : Prop where
  kin : K.In base
  glob : base.Ns mainGlobals mg
  blt : ∃ mb, base.Ns builtinsNs mb ∧ ∀ x : Str, x ≠ "__name__" → mb x = bootBuiltins x
  nolimit : base.NoLimit
/-- the context: a def's body (or a comprehension's block) running. base: fixed through the whole law; s₀, H₀: the entry; outer: the frames whose slots others may change (a def's callers); stack: all frames that run;
   ex: iterators that were made ahead of the entry and are walked here (a comprehension's); fn: the names whose cells were made at the entry (a def: all; a comprehension's block: its own); calm: not within an except suite; pn: pins that every state bears; xe: what is wanted of an exception that leaves the code -/
structure Cx where
  prog : Program
  w : World
  K : PySem.W.Frag
  mg : Str → Option Value
  base : Heap
  A : Around
  N : List Str
  s_0 : Shared
  H_0 : Hp
  env : Env
  outer : List Env
  stack : List Env
  ex : List Addr
  fn : Str → Bool
  calm : Bool
  pn : List (Addr × Obj)
  xe : Value → Shared → Prop
/-- the callers' frames -/
def frs (l : List Env) : List Addr := l.filterMap (·.frame)
abbrev Cx.fs (X : Cx) : List Addr := frs X.outer
def Vis (sc : Scope) (x : Str) : Prop := sc.names.lookup x = some .local ∨ sc.names.lookup x = some .cell ∨ sc.names.lookup x = some .free
def Loc (sc : Scope) (x : Str) : Prop := sc.names.lookup x = some .local ∨ sc.names.lookup x = some .cell
def Look (env : Env) (h : Heap) (m : Str → Option Value) (x : Str) (u : Value) : Prop :=
  (env.kindOf x = some .local ∧ m x = some u) ∨ ((env.kindOf x = some .cell ∨ env.kindOf x = some .free) ∧ ∃ c, env.cells.lookup x = some c ∧ h.IsCell c (some u))
structure Cx.Ok (X : Cx) : Prop where
  mod : Mod X.K X.mg X.base
  kind : X.env.scope.kind = .function
  glob : X.env.globals = mainGlobals
  blt : X.env.builtins = builtinsNs
  above : X.s_0.heap.objs.size ≤ X.env.locals
  inj : ∀ x y c, X.env.cells.lookup x = some c → X.env.cells.lookup y = some c → x = y
  has : ∀ x, (X.env.kindOf x = some .cell ∨ X.env.kindOf x = some .free) → ∃ c, X.env.cells.lookup x = some c
  cab : ∀ x c, X.fn x = true → X.env.cells.lookup x = some c → X.s_0.heap.objs.size ≤ c
  hd : X.calm = true → X.A.handled = none
  frames : X.A.frames = some X.stack
  stk : X.stack = X.outer ∨ (X.stack = X.env :: X.outer ∧ X.env.frame = some X.env.locals)
  exf : ∀ b ∈ X.ex, b ≠ X.env.locals ∧ ∀ x c, X.env.cells.lookup x = some c → c ≠ b
  bs : ∀ b o, X.base.get? b = some o → X.s_0.heap.get? b = some o ∧ X.H_0 b = none
  bsz : X.base.objs.size ≤ X.s_0.heap.objs.size
  noex : ∀ b o, X.base.get? b = some o → b ∉ X.ex
  exfs : ∀ b ∈ X.ex, b ∉ X.fs
  funs : X.s_0.heap.FunFrames X.base X.outer
  frf : ∀ b ∈ X.fs, X.H_0 b = none
structure Inv (X : Cx) (pins : List (Addr × Obj)) (σ : List (Option V)) (H : Hp) (s : Shared) : Prop where
  ok : X.Ok
  os : s.os = X.s_0.os
  bare : AllBare s.gens
  base : Un X.fs X.ex X.H_0 H X.s_0.heap s.heap
  loc : ∃ m, s.heap.Ns X.env.locals m ∧ ∀ (i : Nat) (x : Str) (v : V), X.N[i]? = some x → σ[i]? = some (some v) → Vis X.env.scope x → ∃ u, RelV v u ∧ Look X.env s.heap m x u
  cell : ∀ x c, X.env.cells.lookup x = some c → ∃ v, s.heap.IsCell c v
  free : H X.env.locals = none
  freeC : ∀ x c, X.env.cells.lookup x = some c → H c = none
  pin : ∀ p ∈ X.pn ++ pins, s.heap.get? p.1 = some p.2 ∧ H p.1 = none ∧ p.1 ≠ X.env.locals ∧ p.1 ∉ X.fs ∧ ∀ v, p.2.data ≠ .cell v
  hok : HOk X.prog X.w H s.heap
  len : σ.length = X.N.length
section
variable {X : Cx} {pins : List (Addr × Obj)} {σ : List (Option V)} {H H' : Hp} {s : Shared} {h' : Heap}
theorem Cx.Ok.nofr (ok : X.Ok) {b : Addr} {o : Obj} (e : X.base.get? b = some o) : b ∉ X.fs := fun hb => by
  have := (ok.funs.mem hb).1
  rw [e] at this; cases this
theorem Inv.bs (I : Inv X pins σ H s) : ∀ b o, X.base.get? b = some o → s.heap.get? b = some o ∧ H b = none := fun b o e =>
  ⟨I.base.keep b o (I.ok.bs b o e).1 (I.ok.bs b o e).2 (I.ok.nofr e) (I.ok.noex b o e), I.base.free b o (I.ok.bs b o e).1 (I.ok.bs b o e).2 (I.ok.noex b o e)⟩
theorem Inv.bk (I : Inv X pins σ H s) : ∀ b o, X.base.get? b = some o → s.heap.get? b = some o := fun b o e => (I.bs b o e).1
theorem Inv.mod (I : Inv X pins σ H s) : Mod X.K X.mg X.base := I.ok.mod
theorem Inv.kIn (I : Inv X pins σ H s) : X.K.In s.heap := I.ok.mod.kin.keeps I.bk
theorem Inv.nolimit (I : Inv X pins σ H s) : s.heap.NoLimit := I.ok.mod.nolimit.keeps I.bk
/-- the frame over the base: for OpenK's rules (K.In X.base is I.mod.kin) -/
theorem Inv.fr (I : Inv X pins σ H s) : ∃ m, Fr X.base X.env.locals s.heap m :=
  let ⟨m, hn, _⟩ := I.loc
  ⟨m, hn, I.bk, Nat.le_trans I.ok.bsz I.ok.above⟩
theorem Inv.lt (I : Inv X pins σ H s) : X.env.locals < s.heap.objs.size := let ⟨_, hn, _⟩ := I.loc; hn.lt
theorem Inv.sz (I : Inv X pins σ H s) : X.s_0.heap.objs.size ≤ s.heap.objs.size := Nat.le_trans I.ok.above (Nat.le_of_lt I.lt)
theorem Inv.nofs (I : Inv X pins σ H s) {a : Addr} (h : s.heap.objs.size ≤ a) : a ∉ X.fs := fun hb => by
  obtain ⟨_, o, ho, _⟩ := I.ok.funs.mem hb
  exact absurd (Nat.lt_of_lt_of_le (Heap.lt_size ho) (Nat.le_trans I.sz h)) (Nat.lt_irrefl _)
theorem Inv.cne (I : Inv X pins σ H s) : ∀ x c, X.env.cells.lookup x = some c → c ≠ X.env.locals := fun x c e z => by
  obtain ⟨v, o, ho, hd⟩ := I.cell x c e
  obtain ⟨m, ⟨o', es, ep, ho', hd', _⟩, _⟩ := I.loc
  rw [z, ho'] at ho; cases ho; rw [hd'] at hd; cases hd
theorem Inv.funs (I : Inv X pins σ H s) : s.heap.FunFrames X.base X.outer := by
  have all : ∀ (l : List Env), (∀ b ∈ frs l, b ∈ X.fs) → X.s_0.heap.FunFrames X.base l → s.heap.FunFrames X.base l := by
    intro l
    induction l with
    | nil => intro _ _; trivial
    | cons env r ih =>
      intro hs hl
      obtain ⟨hk, ⟨L, o, hf, hn, ho, hd⟩, hr⟩ := hl
      have hL : L ∈ X.fs := hs L (by unfold frs; rw [List.filterMap_cons, hf]; exact List.mem_cons_self)
      obtain ⟨sl, e⟩ := I.base.slot L o ho (I.ok.frf L hL) hL fun z => I.ok.exfs L z hL
      exact ⟨hk, ⟨L, _, hf, hn, e, hd⟩, ih (fun b hb => hs b (by unfold frs; rw [List.filterMap_cons, hf]; exact List.mem_cons_of_mem _ hb)) hr⟩
  exact all X.outer (fun _ hb => hb) I.ok.funs
/-- the frames that run, for a call -/
theorem Inv.stack (I : Inv X pins σ H s) : s.heap.FunFrames X.base X.stack := by
  rcases I.ok.stk with e | ⟨e, hf⟩
  · rw [e]; exact I.funs
  · rw [e]
    obtain ⟨m, hn, _⟩ := I.loc
    refine .cons (by rw [I.ok.kind]; decide) hf hn ?_ I.funs
    exact Heap.get?_none_of_le (Nat.le_trans I.ok.bsz I.ok.above)
theorem Inv.stkSub (I : Inv X pins σ H s) : ∀ b ∈ frs X.stack, b ∈ X.env.locals :: X.fs := fun b hb => by
  rcases I.ok.stk with e | ⟨e, hf⟩
  · rw [e] at hb; exact List.mem_cons_of_mem _ hb
  · rw [e] at hb
    unfold frs at hb
    rw [List.filterMap_cons, hf] at hb
    exact hb
theorem Inv.stkFree (I : Inv X pins σ H s) : ∀ b ∈ frs X.stack, H b = none := fun b hb => by
  rcases List.mem_cons.mp (I.stkSub b hb) with e | hb
  · rw [e]; exact I.free
  · obtain ⟨_, o, ho, _⟩ := I.ok.funs.mem hb
    exact I.base.free b o ho (I.ok.frf b hb) fun z => I.ok.exfs b z hb
/-- THE STEP: the untracked objects but the frame and the records at ch are kept (the callers' frames up to slots), the frame's map is kept, the new abstract heap is held -/
theorem Inv.step {g' : Array GenState} {t' : Nat} {d' : Drawn} {ch : List Addr} (I : Inv X pins σ H s)
    (hch : ∀ b ∈ ch, (b ∈ X.ex ∨ X.s_0.heap.objs.size ≤ b) ∧ b ≠ X.env.locals ∧ (∀ x c, X.env.cells.lookup x = some c → c ≠ b) ∧ ∀ p ∈ X.pn ++ pins, p.1 ≠ b)
    (keep : ∀ b o, b ≠ X.env.locals → b ∉ X.fs → b ∉ ch → s.heap.get? b = some o → H b = none → h'.get? b = some o)
    (slot : ∀ b o, b ≠ X.env.locals → b ∈ X.fs → b ∉ ch → s.heap.get? b = some o → H b = none → ∃ sl, h'.get? b = some { o with slots := sl }) (free : ∀ b o, b ∉ ch → s.heap.get? b = some o → H b = none → H' b = none)
    (there : ∀ b o, b ∉ ch → s.heap.get? b = some o → ∃ o', h'.get? b = some o')
    (tups : ∀ b xs, H b = some (.tup xs) → H' b = some (.tup xs)) (frzs : ∀ b o u, H b = some (.frz o u) → H' b = some (.frz o u)) (tbls : ∀ b ps, H b = some (.tbl ps) → ∃ more, H' b = some (.tbl (ps ++ more)))
    (ns : ∀ m, s.heap.Ns X.env.locals m → h'.Ns X.env.locals m) (hok : HOk X.prog X.w H' h') (hg : AllBare g') :
    Inv X pins σ H' { s with heap := h', gens := g', drawn := d', toks := t' } := by
  have neL : ∀ b o, X.s_0.heap.get? b = some o → b ≠ X.env.locals := fun b o e => Nat.ne_of_lt (Nat.lt_of_lt_of_le (Heap.lt_size e) I.ok.above)
  have neC : ∀ b o, X.s_0.heap.get? b = some o → b ∉ X.ex → b ∉ ch := fun b o e hx hb => by
    rcases (hch b hb).1 with z | z
    · exact hx z
    · exact absurd (Nat.lt_of_lt_of_le (Heap.lt_size e) z) (Nat.lt_irrefl _)
  have cellK : ∀ x c, X.env.cells.lookup x = some c → ∀ v, s.heap.IsCell c v → h'.IsCell c v := fun x c e v ⟨o, ho, hd⟩ => by
    have nch : c ∉ ch := fun z => (hch c z).2.2.1 x c e rfl
    by_cases hc : c ∈ X.fs
    · obtain ⟨sl, q⟩ := slot c o (I.cne x c e) hc nch ho (I.freeC x c e)
      exact ⟨_, q, hd⟩
    · exact ⟨o, keep c o (I.cne x c e) hc nch ho (I.freeC x c e), hd⟩
  refine ⟨I.ok, I.os, hg, ⟨fun b o e n hb hx => ?_, fun b o e n hb hx => ?_, fun b o e n hx => ?_, fun b o e hx => ?_, fun b xs e => tups b xs (I.base.tups b xs e), fun b o xs e => frzs b o xs (I.base.frzs b o xs e), fun b ps e => ?_⟩, ?_, fun x c e => ?_, ?_, fun x c e => ?_, fun p hp => ?_, hok, I.len⟩
  · exact keep b o (neL b o e) hb (neC b o e hx) (I.base.keep b o e n hb hx) (I.base.free b o e n hx)
  · obtain ⟨sl, e1⟩ := I.base.slot b o e n hb hx
    obtain ⟨sl', e2⟩ := slot b _ (neL b o e) hb (neC b o e hx) e1 (I.base.free b o e n hx)
    exact ⟨sl', e2⟩
  · obtain ⟨o', e1⟩ := I.base.there b o e hx
    exact free b o' (neC b o e hx) e1 (I.base.free b o e n hx)
  · obtain ⟨o', e1⟩ := I.base.there b o e hx
    exact there b o' (neC b o e hx) e1
  · obtain ⟨m1, e1⟩ := I.base.tbls b ps e
    obtain ⟨m2, e2⟩ := tbls b _ e1
    exact ⟨m1 ++ m2, by rw [e2, Array.append_assoc]⟩
  · obtain ⟨m, hn, hl⟩ := I.loc
    refine ⟨m, ns m hn, fun i x v e1 e2 e3 => ?_⟩
    obtain ⟨u, r, l⟩ := hl i x v e1 e2 e3
    refine ⟨u, r, ?_⟩
    rcases l with l | ⟨k, c, e, z⟩
    · exact .inl l
    · exact .inr ⟨k, c, e, cellK x c e _ z⟩
  · obtain ⟨v, z⟩ := I.cell x c e
    exact ⟨v, cellK x c e v z⟩
  · obtain ⟨m, ⟨o, _, _, ho, _⟩, _⟩ := I.loc
    exact free _ o (fun z => (hch _ z).2.1 rfl) ho I.free
  · obtain ⟨v, o, ho, hd⟩ := I.cell x c e
    exact free c o (fun z => (hch c z).2.2.1 x c e rfl) ho (I.freeC x c e)
  · obtain ⟨e, n, ne, nf, d⟩ := I.pin p hp
    have nch : p.1 ∉ ch := fun z => (hch p.1 z).2.2.2 p hp rfl
    exact ⟨keep p.1 p.2 ne nf nch e n, free p.1 p.2 nch e n, ne, nf, d⟩
/-- .. where the frame's own object is kept too -/
theorem Inv.un {t' : Nat} (I : Inv X pins σ H s) (u : Un X.fs [] H H' s.heap h') (hok : HOk X.prog X.w H' h') : Inv X pins σ H' { s with heap := h', toks := t' } := by
  obtain ⟨m, ⟨o, es, ep, ho, r⟩, _⟩ := id I.loc
  obtain ⟨sl, hL⟩ := u.any ho I.free (by simp)
  exact I.step (g' := s.gens) (d' := s.drawn) (ch := []) (fun _ z => nomatch z) (fun b o _ hb _ e n => u.keep b o e n hb (by simp)) (fun b o _ hb _ e n => u.slot b o e n hb (by simp)) (fun b o _ e n => u.free b o e n (by simp)) (fun b o _ e => u.there b o e (by simp)) u.tups u.frzs u.tbls (fun m' hm => by
    obtain ⟨o', es', ep', ho', r'⟩ := hm
    rw [ho] at ho'; cases ho'
    exact ⟨_, es', ep', hL, r'⟩) hok I.bare
/-- behind a call (or a comprehension's block): the slots of this frame may have changed too, the records at ch may have turned -/
theorem Inv.call {g' : Array GenState} {t' : Nat} {d' : Drawn} {ch : List Addr} (I : Inv X pins σ H s) (u : Un (frs X.stack) ch H H' s.heap h') (hok : HOk X.prog X.w H' h') (hg : AllBare g')
    (hch : ∀ b ∈ ch, (b ∈ X.ex ∨ X.s_0.heap.objs.size ≤ b) ∧ b ≠ X.env.locals ∧ (∀ x c, X.env.cells.lookup x = some c → c ≠ b) ∧ ∀ p ∈ X.pn ++ pins, p.1 ≠ b) :
    Inv X pins σ H' { s with heap := h', gens := g', drawn := d', toks := t' } := by
  obtain ⟨m, ⟨o, es, ep, ho, r⟩, _⟩ := id I.loc
  obtain ⟨sl, hL⟩ := u.any ho I.free fun z => (hch _ z).2.1 rfl
  exact I.step (ch := ch) hch (fun b o hL hb hc e n => u.keep b o e n (fun z => (List.mem_cons.mp (I.stkSub b z)).elim hL hb) hc) (fun b o _ _ hc e n => u.any e n hc) (fun b o hc e n => u.free b o e n hc) (fun b o hc e => u.there b o e hc) u.tups u.frzs u.tbls (fun m' hm => by
    obtain ⟨o', es', ep', ho', r'⟩ := hm
    rw [ho] at ho'; cases ho'
    exact ⟨_, es', ep', hL, r'⟩) hok hg
/-- an untracked record of ours (an iterator) has turned -/
theorem Inv.turned {t' : Nat} {it : Addr} (I : Inv X pins σ H s) (k : ∀ b o, b ≠ it → s.heap.get? b = some o → h'.get? b = some o) (hn : H it = none) (hL : it ≠ X.env.locals)
    (h1 : it ∈ X.ex ∨ X.s_0.heap.objs.size ≤ it) (h2 : ∀ x c, X.env.cells.lookup x = some c → c ≠ it) (h3 : ∀ p ∈ X.pn ++ pins, p.1 ≠ it) : Inv X pins σ H { s with heap := h', toks := t' } := by
  have nit : ∀ b u, H b = some u → b ≠ it := fun b u e z => by rw [z, hn] at e; cases e
  refine I.step (g' := s.gens) (d' := s.drawn) (ch := [it]) (fun b hb => ?_) (fun b o _ _ hc e _ => k b o (fun z => hc (by simp [z])) e) (fun b o _ _ hc e _ => ⟨o.slots, k b o (fun z => hc (by simp [z])) e⟩) (fun _ _ _ _ n => n)
    (fun b o hc e => ⟨o, k b o (fun z => hc (by simp [z])) e⟩) (fun _ _ e => e) (fun _ _ _ e => e) (fun b ps e => ⟨#[], by rw [e]; simp⟩) (fun m hm => ?_) (fun b u e => ?_) I.bare
  · have e : b = it := by simpa using hb
    subst e
    exact ⟨h1, hL, h2, h3⟩
  · obtain ⟨o, es, ep, ho, r⟩ := hm
    exact ⟨o, es, ep, k _ o (Ne.symm hL) ho, r⟩
  · refine (I.hok b u e).stay (fun c v hc q => k c v ?_ q) (fun _ q => q) fun _ _ q => q
    rcases hc with z | z
    · rw [z]; exact nit b u e
    · exact nit c _ z
theorem Inv.tok (I : Inv X pins σ H s) (t : Nat) : Inv X pins σ H { s with toks := t } := I.un (h' := s.heap) (t' := t) Un.refl I.hok
/-- all objects kept -/
theorem Inv.kept {t' : Nat} (I : Inv X pins σ H s) (k : ∀ b u, s.heap.get? b = some u → h'.get? b = some u) : Inv X pins σ H { s with heap := h', toks := t' } := I.un (Un.kept k) (I.hok.kept k)
/-- a new object laid and tracked -/
theorem Inv.laid {a : Addr} {o : HO} {t' : Nat} (I : Inv X pins σ H s) (k : ∀ b u, s.heap.get? b = some u → h'.get? b = some u) (hp : s.heap.objs.size ≤ a) (new : ObjOk X.prog X.w (upd H a o) h' a o) :
    Inv X pins σ (upd H a o) { s with heap := h', toks := t' } := I.un (Un.laid k hp (I.hok.fresh hp)) (I.hok.laid k hp new)
/-- an object written -/
theorem Inv.write {x e : Addr} {o : HO} {t' : Nat} (I : Inv X pins σ H s) (mu : Mut (H x)) (he : e = x ∨ H e = some (.own x)) (k : ∀ b u, b ≠ e → s.heap.get? b = some u → h'.get? b = some u) (heo : ∃ u, h'.get? e = some u)
    (new : ObjOk X.prog X.w (upd H x o) h' x o) : Inv X pins σ (upd H x o) { s with heap := h', toks := t' } := I.un (Un.write mu he k heo) (I.hok.write mu he k heo new)
/-- forgetting slots, pins -/
theorem Inv.weak {σ' : List (Option V)} (I : Inv X pins σ H s) (hl : σ'.length = σ.length) (w : ∀ (i : Nat) v, σ'[i]? = some (some v) → σ[i]? = some (some v)) : Inv X pins σ' H s :=
  ⟨I.ok, I.os, I.bare, I.base, let ⟨m, hn, hl'⟩ := I.loc; ⟨m, hn, fun i x v e1 e2 e3 => hl' i x v e1 (w i v e2) e3⟩, I.cell, I.free, I.freeC, I.pin, I.hok, hl.trans I.len⟩
theorem Inv.pins_of {pins' : List (Addr × Obj)} (I : Inv X pins σ H s) (h : ∀ p ∈ pins', s.heap.get? p.1 = some p.2 ∧ H p.1 = none ∧ p.1 ≠ X.env.locals ∧ p.1 ∉ X.fs ∧ ∀ v, p.2.data ≠ .cell v) : Inv X pins' σ H s :=
  ⟨I.ok, I.os, I.bare, I.base, I.loc, I.cell, I.free, I.freeC, fun p hp => (List.mem_append.mp hp).elim (fun z => I.pin p (List.mem_append_left _ z)) (h p), I.hok, I.len⟩
theorem nodup_ix {N : List Str} (hN : N.Nodup) {i j : Nat} {x : Str} (a : N[i]? = some x) (b : N[j]? = some x) : i = j := by
  obtain ⟨h1, e1⟩ := List.getElem?_eq_some_iff.mp a
  obtain ⟨h2, e2⟩ := List.getElem?_eq_some_iff.mp b
  exact (List.getElem_inj hN).mp (e1.trans e2.symm)
/-- a name is stored; what changed -/
theorem store_ok2 {M : Model} {A : Around} {E : Value → Shared → Prop} {i : Nat} {x : Str} {v : V} {u : Value} {Q : Unit → Shared → Prop} (I : Inv X pins σ H s) (hN : X.N.Nodup) (hi : X.N[i]? = some x) (hx : Loc X.env.scope x) (r : RelV v u)
    (h : ∀ s', Inv X pins (σ.set i (some v)) H s' → (∃ a, Heap.SameBut a s.heap s'.heap ∧ (a = X.env.locals ∨ X.env.cells.lookup x = some a)) → Q () s') (hf : X.fn x = true ∨ X.env.scope.names.lookup x = some .local := by first | exact .inl rfl | exact .inr rfl | assumption) : wpAny M A (storeName X.env x u) Q E s := by
  obtain ⟨m, hn, hl⟩ := id I.loc
  have hcls : (X.env.scope.kind == .class || (X.env.scope.kind == .module && X.env.locals != X.env.globals)) = false := by rw [I.ok.kind]; rfl
  have hiσ : i < σ.length := by rw [I.len]; exact (List.getElem?_eq_some_iff.mp hi).1
  have cne := I.cne
  have tracked : ∀ {a : Addr} {h' : Heap}, (∃ o, s.heap.get? a = some o ∧ H a = none) → Heap.SameBut a s.heap h' → HOk X.prog X.w H h' := fun {a h'} ha hs b ob e => by
    obtain ⟨_, _, hfree⟩ := ha
    refine (I.hok b ob e).stay (fun c w' hc q => (hs.2 c ?_).trans q) (fun _ q => q) fun _ _ q => q
    rintro rfl
    rcases hc with rfl | hc
    · rw [hfree] at e; cases e
    · rw [hfree] at hc; cases hc
  rcases hx with hk | hk
  · refine wpAny_storeName_local hk hn (fun h' hn' hs => ?_) hcls
    obtain ⟨oL, _, _, hoL, _⟩ := id hn
    refine h _ ⟨I.ok, I.os, I.bare, ⟨fun b o e n hb hx => ?_, fun b o e n hb hx => ?_, I.base.free, fun b o e hx => ?_, I.base.tups, I.base.frzs, I.base.tbls⟩, ⟨_, hn', fun j y v' e1 e2 e3 => ?_⟩, fun y c e => ?_, I.free, I.freeC, fun p hp => ?_, tracked ⟨oL, hoL, I.free⟩ hs, by simpa using I.len⟩ ⟨_, hs, .inl rfl⟩
    · exact (hs.2 b (Nat.ne_of_lt (Nat.lt_of_lt_of_le (Heap.lt_size e) I.ok.above))).trans (I.base.keep b o e n hb hx)
    · obtain ⟨sl, e1⟩ := I.base.slot b o e n hb hx
      exact ⟨sl, (hs.2 b (Nat.ne_of_lt (Nat.lt_of_lt_of_le (Heap.lt_size e) I.ok.above))).trans e1⟩
    · obtain ⟨o', e1⟩ := I.base.there b o e hx
      exact ⟨o', (hs.2 b (Nat.ne_of_lt (Nat.lt_of_lt_of_le (Heap.lt_size e) I.ok.above))).trans e1⟩
    · by_cases hj : j = i
      · subst hj
        rw [hi] at e1; cases e1
        rw [List.getElem?_set_self hiσ] at e2
        cases e2
        exact ⟨u, r, .inl ⟨hk, by simp⟩⟩
      · rw [List.getElem?_set_ne (Ne.symm hj)] at e2
        obtain ⟨u', r', q⟩ := hl j y v' e1 e2 e3
        refine ⟨u', r', ?_⟩
        rcases q with ⟨k, e⟩ | ⟨k, c, e, z⟩
        · refine .inl ⟨k, ?_⟩
          have : y ≠ x := fun e => hj (nodup_ix hN e1 (e ▸ hi))
          simp [this, e]
        · exact .inr ⟨k, c, e, z.sameBut hs (cne y c e)⟩
    · obtain ⟨w', z⟩ := I.cell y c e
      exact ⟨w', z.sameBut hs (cne y c e)⟩
    · obtain ⟨e, n, ne, nf, d⟩ := I.pin p hp
      exact ⟨(hs.2 p.1 ne).trans e, n, ne, nf, d⟩
  · have hfn : X.fn x = true := by
      rcases hf with z | z
      · exact z
      · rw [z] at hk; cases hk
    obtain ⟨c, hc⟩ := I.ok.has x (.inl hk)
    obtain ⟨w', z⟩ := I.cell x c hc
    refine wpAny_storeName_cell I.ok.kind hk hc z (fun h' hc' hs => ?_)
    obtain ⟨oc, hoc, hocd⟩ := id z
    refine h { s with heap := h' } ⟨I.ok, I.os, I.bare, ⟨fun b o e n hb hx => ?_, fun b o e n hb hx => ?_, I.base.free, fun b o e hx => ?_, I.base.tups, I.base.frzs, I.base.tbls⟩, ⟨m, hn.sameBut hs (Ne.symm (cne x c hc)), fun j y v' e1 e2 e3 => ?_⟩, fun y c' e => ?_, I.free, I.freeC, fun p hp => ?_, tracked ⟨oc, hoc, I.freeC x c hc⟩ hs, by simpa using I.len⟩ ⟨c, hs, .inr hc⟩
    · exact (hs.2 b (Nat.ne_of_lt (Nat.lt_of_lt_of_le (Heap.lt_size e) (I.ok.cab x c hfn hc)))).trans (I.base.keep b o e n hb hx)
    · obtain ⟨sl, e1⟩ := I.base.slot b o e n hb hx
      exact ⟨sl, (hs.2 b (Nat.ne_of_lt (Nat.lt_of_lt_of_le (Heap.lt_size e) (I.ok.cab x c hfn hc)))).trans e1⟩
    · obtain ⟨o', e1⟩ := I.base.there b o e hx
      exact ⟨o', (hs.2 b (Nat.ne_of_lt (Nat.lt_of_lt_of_le (Heap.lt_size e) (I.ok.cab x c hfn hc)))).trans e1⟩
    · by_cases hj : j = i
      · subst hj
        rw [hi] at e1; cases e1
        rw [List.getElem?_set_self hiσ] at e2
        cases e2
        exact ⟨u, r, .inr ⟨.inl hk, c, hc, hc'⟩⟩
      · rw [List.getElem?_set_ne (Ne.symm hj)] at e2
        obtain ⟨u', r', q⟩ := hl j y v' e1 e2 e3
        refine ⟨u', r', ?_⟩
        rcases q with q | ⟨k, c', e, z'⟩
        · exact .inl q
        · refine .inr ⟨k, c', e, z'.sameBut hs ?_⟩
          rintro rfl
          exact hj (nodup_ix hN e1 (I.ok.inj _ _ _ e hc ▸ hi))
    · by_cases hcc : c' = c
      · subst hcc; exact ⟨_, hc'⟩
      · obtain ⟨w2, z2⟩ := I.cell y c' e
        exact ⟨w2, z2.sameBut hs hcc⟩
    · obtain ⟨e, n, ne, nf, d⟩ := I.pin p hp
      refine ⟨(hs.2 p.1 ?_).trans e, n, ne, nf, d⟩
      intro q
      rw [q, hoc] at e
      have q' : oc = p.2 := Option.some.inj e
      exact d w' (by rw [← q']; exact hocd)
theorem store_ok {M : Model} {A : Around} {E : Value → Shared → Prop} {i : Nat} {x : Str} {v : V} {u : Value} {Q : Unit → Shared → Prop} (I : Inv X pins σ H s) (hN : X.N.Nodup) (hi : X.N[i]? = some x) (hx : Loc X.env.scope x) (r : RelV v u)
    (h : ∀ s', Inv X pins (σ.set i (some v)) H s' → Q () s') (hf : X.fn x = true ∨ X.env.scope.names.lookup x = some .local := by first | exact .inl rfl | exact .inr rfl | assumption) : wpAny M A (storeName X.env x u) Q E s :=
  store_ok2 I hN hi hx r (fun s' I' _ => h s' I') hf
/-- behind a call or a block, the state as it is -/
theorem Inv.call' {s' : Shared} {ch : List Addr} (I : Inv X pins σ H s) (ho : s'.os = s.os) (u : Un (frs X.stack) ch H H' s.heap s'.heap) (hok : HOk X.prog X.w H' s'.heap) (hg : AllBare s'.gens)
    (hch : ∀ b ∈ ch, (b ∈ X.ex ∨ X.s_0.heap.objs.size ≤ b) ∧ b ≠ X.env.locals ∧ (∀ x c, X.env.cells.lookup x = some c → c ≠ b) ∧ ∀ p ∈ X.pn ++ pins, p.1 ≠ b) : Inv X pins σ H' s' := by
  obtain ⟨h', g', d', t', o'⟩ := s'
  have e : o' = s.os := ho
  subst e
  exact I.call (g' := g') (t' := t') (d' := d') u hok hg hch
end
/-- an exception: its class, its own dict's address (where it has one), the abstract heap behind it -/
abbrev XK := Value → Option Addr → Hp → Prop
abbrev St := List (Option V)
abbrev VK := V → Hp → Prop
/-- an expression's reading; a test's; an argument list's -/
abbrev TE := St → Hp → VK → Prop
abbrev TT := St → Hp → (Bool → Hp → Prop) → Prop
abbrev TA := St → Hp → (List V → Hp → Prop) → Prop
/-- what is wanted behind a statement -/
structure Ends where
  nx : St → Hp → Prop
  rt : VK
  bk : St → Hp → Prop := fun _ _ => False
  ct : St → Hp → Prop := fun _ _ => False
abbrev TS := Ends → St → Hp → Prop
def EP (X : Cx) (pins : List (Addr × Obj)) (σ : St) (Q : VK) (u : Value) (s' : Shared) : Prop := ∃ v H', Inv X pins σ H' s' ∧ RelV v u ∧ Q v H'
def TP (X : Cx) (pins : List (Addr × Obj)) (σ : St) (Q : Bool → Hp → Prop) (b : Bool) (s' : Shared) : Prop := ∃ H', Inv X pins σ H' s' ∧ Q b H'
def AP (X : Cx) (pins : List (Addr × Obj)) (σ : St) (Q : List V → Hp → Prop) (us : List Value) (s' : Shared) : Prop := ∃ vs H', Inv X pins σ H' s' ∧ Vals vs us ∧ Q vs H'
def SP (X : Cx) (pins : List (Addr × Obj)) (D : Ends) (f : Flow) (s' : Shared) : Prop :=
  match f with
  | .next => ∃ σ' H', Inv X pins σ' H' s' ∧ D.nx σ' H'
  | .brk => ∃ σ' H', Inv X pins σ' H' s' ∧ D.bk σ' H'
  | .cont => ∃ σ' H', Inv X pins σ' H' s' ∧ D.ct σ' H'
  | .ret u => ∃ v σ' H', Inv X pins σ' H' s' ∧ RelV v u ∧ D.rt v H'
def PE (X : Cx) (e : Expr) (t : TE) : Prop :=
  ∀ (pins : List (Addr × Obj)) (s : Shared) (σ : St) (H : Hp) (Q : VK), Inv X pins σ H s → t σ H Q → wpAny (model X.prog X.w) X.A (eval e X.env) (EP X pins σ Q) X.xe s
def PT (X : Cx) (e : Expr) (t : TT) : Prop :=
  ∀ (pins : List (Addr × Obj)) (s : Shared) (σ : St) (H : Hp) (Q : Bool → Hp → Prop), Inv X pins σ H s → t σ H Q → wpAny (model X.prog X.w) X.A (isTrue e X.env (eval e X.env)) (TP X pins σ Q) X.xe s
/-- a test whatever its 'whole' is (and, or) -/
def PW (X : Cx) (e : Expr) (t : TT) : Prop :=
  ∀ (whole : Sem Value) (pins : List (Addr × Obj)) (s : Shared) (σ : St) (H : Hp) (Q : Bool → Hp → Prop), Inv X pins σ H s → t σ H Q → wpAny (model X.prog X.w) X.A (isTrue e X.env whole) (TP X pins σ Q) X.xe s
theorem PW.pt {X : Cx} {e : Expr} {t : TT} (h : PW X e t) : PT X e t := h _
/-- an argument list (no star), from the left -/
def PA (X : Cx) (es : List Expr) (t : TA) : Prop :=
  ∀ (pos : Pos) (pins : List (Addr × Obj)) (s : Shared) (σ : St) (H : Hp) (Q : List V → Hp → Prop), Inv X pins σ H s → t σ H Q → wpAny (model X.prog X.w) X.A (spliced (backTo pos (starEach es X.env))) (AP X pins σ Q) X.xe s
def PS (X : Cx) (st : Stmt) (t : TS) : Prop :=
  ∀ (pins : List (Addr × Obj)) (s : Shared) (σ : St) (H : Hp) (D : Ends), Inv X pins σ H s → t D σ H → wpAny (model X.prog X.w) X.A (exec st X.env) (SP X pins D) X.xe s
def PSs (X : Cx) (st : List Stmt) (t : TS) : Prop :=
  ∀ (pins : List (Addr × Obj)) (s : Shared) (σ : St) (H : Hp) (D : Ends), Inv X pins σ H s → t D σ H → wpAny (model X.prog X.w) X.A (execs st X.env) (SP X pins D) X.xe s
/-- weaken the end -/
theorem thn {α : Type} {t : Sem α} {Q Q' : α → Shared → Prop} {M : Model} {A : Around} {E : Value → Shared → Prop} {s : Shared} (h : wpAny M A t Q E s) (hQ : ∀ a s, Q a s → Q' a s) : wpAny M A t Q' E s := wpAny_mono h hQ fun _ _ x => x
end L2
namespace L2
open PySem PySem.Spec PyProof.Rows
section
variable {X : Cx}
def tVar (i : Nat) : TE := fun σ H Q => ∃ v, σ[i]? = some (some v) ∧ Q v H
def tC (v : V) : TE := fun _ H Q => Q v H
theorem pe_var {i : Nat} {x : Str} {pos : Pos} (hN : X.N[i]? = some x) (hv : Vis X.env.scope x) (hd : (x == ("__debug__" : Str)) = false := by decide) (hcd : (x == ("__classdict__" : Str)) = false := by decide) : PE X (.Name x pos) (tVar i) := by
  intro pins s σ H Q I h
  obtain ⟨v, e, h⟩ := h
  obtain ⟨m, hn, hl⟩ := I.loc
  obtain ⟨u, r, l⟩ := hl i x v hN e hv
  have fin : EP X pins σ Q u s := ⟨v, H, I, r, h⟩
  rcases l with ⟨hk, hm⟩ | ⟨hk, c, hc, hcell⟩
  · exact wpAny_Name (wpAny_loadName_local I.ok.kind hk hn hm fin) hd
  · rcases hk with hk | hk
    · exact wpAny_Name (wpAny_loadName_cell I.ok.kind hk hc hcell fin) hd
    · exact wpAny_Name (wpAny_loadName_free I.ok.kind hk hc hcell fin hcd) hd
theorem pe_int {i j pos} : PE X (.Constant (.int i) j pos) (tC (.int i)) := fun _ _ _ H _ I h => wpAny_Constant_int ⟨.int i, H, I.tok _, ⟨_, rfl⟩, h⟩
theorem pe_bl {b j pos} : PE X (.Constant (.bool b) j pos) (tC (.bl b)) := fun _ _ _ H _ I h => Constant_bool ⟨.bl b, H, I, rfl, h⟩
/-- a global name of the def -/
def Gl (X : Cx) (x : Str) : Prop := X.env.kindOf x = some .globalImplicit
theorem ld_glob {E : Value → Shared → Prop} {pins : List (Addr × Obj)} {s : Shared} {σ : St} {H : Hp} {x : Str} {u : Value} {pos : Pos} {Q : Value → Shared → Prop} (I : Inv X pins σ H s) (hg : Gl X x) (hm : X.mg x = some u) (h : Q u s)
    (hd : (x == ("__debug__" : Str)) = false := by decide) : wpAny (model X.prog X.w) X.A (eval (.Name x pos) X.env) Q E s :=
  Calls.Name_function_global I.ok.kind hg (Calls.loadGlobal_global (by rw [I.ok.glob]; exact I.mod.glob.keeps I.bk) hm h) hd
theorem ld_blt {E : Value → Shared → Prop} {pins : List (Addr × Obj)} {s : Shared} {σ : St} {H : Hp} {x : Str} {u : Value} {pos : Pos} {Q : Value → Shared → Prop} (I : Inv X pins σ H s) (hg : Gl X x) (hm : X.mg x = none) (hv : bootBuiltins x = some u) (h : Q u s)
    (hn : x ≠ "__name__" := by decide) (hd : (x == ("__debug__" : Str)) = false := by decide) : wpAny (model X.prog X.w) X.A (eval (.Name x pos) X.env) Q E s := by
  obtain ⟨mb, h1, h2⟩ := I.mod.blt
  exact Calls.Name_function_global I.ok.kind hg (Calls.loadGlobal_builtin (by rw [I.ok.glob]; exact I.mod.glob.keeps I.bk) hm (by rw [I.ok.blt]; exact h1.keeps I.bk) ((h2 x hn).trans hv) h) hd
/-- a module's constant, a class, a function, as a value -/
theorem pe_glob {x : Str} {v : V} {u : Value} {pos : Pos} (hg : Gl X x) (hm : X.mg x = some u) (r : RelV v u) (hd : (x == ("__debug__" : Str)) = false := by decide) : PE X (.Name x pos) (tC v) :=
  fun _ _ _ H _ I h => ld_glob I hg hm ⟨v, H, I, r, h⟩ hd
theorem pe_bltn {x : Str} {v : V} {u : Value} {pos : Pos} (hg : Gl X x) (hm : X.mg x = none) (hv : bootBuiltins x = some u) (r : RelV v u) (hn : x ≠ "__name__" := by decide) (hd : (x == ("__debug__" : Str)) = false := by decide) : PE X (.Name x pos) (tC v) :=
  fun _ _ _ H _ I h => ld_blt I hg hm hv ⟨v, H, I, r, h⟩ hn hd
variable {a b : Expr} {ta tb : TE} {pos : Pos}
variable {tA tB' : TT} {rest : List Expr}
def tAnd (t u : TT) : TT := fun σ H Q => t σ H fun c H1 => if c = true then u σ H1 Q else Q false H1
def tOr (t u : TT) : TT := fun σ H Q => t σ H fun c H1 => if c = true then Q true H1 else u σ H1 Q
def tNot (t : TT) : TT := fun σ H Q => t σ H fun c H1 => Q (!c) H1
theorem pw_and1 (ha : PT X a tA) : PW X (.BoolOp .And [a] pos) tA := by
  intro wh pins s σ H Q I h
  refine isTrue_and (thn (ha pins s σ H Q I h) fun c s1 e => ?_)
  cases c with
  | true => exact isTrue_and_nil e
  | false => exact e
theorem pw_or1 (ha : PT X a tA) : PW X (.BoolOp .Or [a] pos) tA := by
  intro wh pins s σ H Q I h
  refine isTrue_or (thn (ha pins s σ H Q I h) fun c s1 e => ?_)
  cases c with
  | false => exact isTrue_or_nil e
  | true => exact e
theorem pw_and (ha : PT X a tA) (hb : PW X (.BoolOp .And (b :: rest) pos) tB') : PW X (.BoolOp .And (a :: b :: rest) pos) (tAnd tA tB') := by
  intro wh pins s σ H Q I h
  refine isTrue_and (thn (ha pins s σ H _ I h) fun c s1 ⟨H1, I1, q1⟩ => ?_)
  cases c with
  | true => exact hb wh pins s1 σ H1 Q I1 q1
  | false => exact ⟨H1, I1, q1⟩
theorem pw_or (ha : PT X a tA) (hb : PW X (.BoolOp .Or (b :: rest) pos) tB') : PW X (.BoolOp .Or (a :: b :: rest) pos) (tOr tA tB') := by
  intro wh pins s σ H Q I h
  refine isTrue_or (thn (ha pins s σ H _ I h) fun c s1 ⟨H1, I1, q1⟩ => ?_)
  cases c with
  | true => exact ⟨H1, I1, q1⟩
  | false => exact hb wh pins s1 σ H1 Q I1 q1
theorem pt_not (ha : PT X a tA) : PT X (.UnaryOp .Not a pos) (tNot tA) := by
  intro pins s σ H Q I h
  exact isTrue_not (ha pins s σ H (fun c H1 => Q (!c) H1) I h)
/-- .. as values (bools) -/
def tAndV (ta tb : TE) : TE := fun σ H Q => ta σ H fun x H1 => ∃ c, x = .bl c ∧ if c = true then tb σ H1 Q else Q (.bl false) H1
def tNotV (ta : TE) : TE := fun σ H Q => ta σ H fun x H1 => ∃ c, x = .bl c ∧ Q (.bl (!c)) H1
theorem pe_one {op} {t : TE} (h : PE X a t) : PE X (.BoolOp op [a] pos) t := fun pins s σ H Q I hw => BoolOp_one (h pins s σ H Q I hw)
theorem pe_and (ha : PE X a ta) (hb : PE X (.BoolOp .And (b :: rest) pos) tb) : PE X (.BoolOp .And (a :: b :: rest) pos) (tAndV ta tb) := by
  intro pins s σ H Q I h
  refine BoolOp_and (thn (ha pins s σ H _ I h) fun v s1 ⟨x, H1, I1, r1, q1⟩ => ?_)
  obtain ⟨c, rfl, q1⟩ := q1
  cases r1
  refine wpAny_truthy_bool ?_
  cases c with
  | true => exact hb pins s1 σ H1 Q I1 q1
  | false => exact ⟨.bl false, H1, I1, rfl, q1⟩
theorem pe_not (ha : PE X a ta) : PE X (.UnaryOp .Not a pos) (tNotV ta) := by
  intro pins s σ H Q I h
  refine UnaryOp_ (thn (ha pins s σ H _ I h) fun v s1 ⟨x, H1, I1, r1, q1⟩ => ?_)
  obtain ⟨c, rfl, q1⟩ := q1
  cases r1
  exact not_of (wpAny_truthy_bool ⟨.bl (!c), H1, I1, rfl, q1⟩)
end
end L2
namespace L2
open PySem PySem.Spec PyProof.Rows
def SqL (K : PySem.W.Frag) (H : Hp) (a : Addr) (xs : List V) : Prop :=
  Rd H a (.lst xs) ∨
    ∃ (o : Obj) (its : Array Value) (n : Nat), K.lookup a = some o ∧ o.cls = .type "list" ∧ o.dict = none ∧ o.data = .seq its n ∧ its.size ≤ sizeLine ∧ Vals xs its.toList
def SqT (K : PySem.W.Frag) (H : Hp) (a : Addr) (xs : List V) : Prop :=
  Rd H a (.tup xs) ∨
    ∃ (o : Obj) (its : Array Value) (n : Nat), K.lookup a = some o ∧ o.cls = .type "tuple" ∧ o.dict = none ∧ o.data = .seq its n ∧ its.size ≤ sizeLine ∧ Vals xs its.toList
def absV : Value → Option V
  | .none => some .non
  | .bool b => some (.bl b)
  | .int i _ => some (.int i)
  | .str x _ => some (.str x)
  | .bytes b _ => some (.byt b)
  | .float b _ => some (.flt b)
  | .ref a => some (.ref a)
  | .type n => some (.ty n)
  | _ => none
theorem RelV.abs {x : V} {u : Value} (r : RelV x u) : absV u = some x := by
  cases x with
  | non => cases r; rfl
  | bl _ => cases r; rfl
  | int _ => obtain ⟨t, rfl⟩ := r; rfl
  | str _ => obtain ⟨t, rfl⟩ := r; rfl
  | byt _ => obtain ⟨t, rfl⟩ := r; rfl
  | flt _ => obtain ⟨t, rfl⟩ := r; rfl
  | ref _ => cases r; rfl
  | ty _ => cases r; rfl
theorem RelV.inj {x y : V} {u : Value} (r : RelV x u) (q : RelV y u) : x = y := Option.some.inj (r.abs.symm.trans q.abs)
theorem Vals.inj : ∀ {xs ys : List V} {us : List Value}, Vals xs us → Vals ys us → xs = ys
  | _, _, _, .nil, .nil => rfl
  | _, _, _, .cons r t, .cons r' t' => by rw [r.inj r', Vals.inj t t']
section
variable {X : Cx} {pins : List (Addr × Obj)} {σ : St} {H : Hp} {s : Shared} {a : Addr} {xs ys : List V}
theorem SqL.of {K : PySem.W.Frag} (h : H a = some (.lst xs)) : SqL K H a xs := .inl (.inl h)
theorem SqT.of {K : PySem.W.Frag} (h : H a = some (.tup xs)) : SqT K H a xs := .inl (.inl h)
theorem Inv.list (I : Inv X pins σ H s) (h : SqL X.K H a xs) : ∃ its : List Value, Vals xs its ∧ PlainL s.heap a its.toArray ∧ xs.length ≤ sizeLine := by
  rcases h with h | ⟨o, its, n, hk, hc, hd, hs, hz, r⟩
  · obtain ⟨z, its, n, r, e⟩ := h.ok I.hok
    exact ⟨its, r, ⟨_, n, e, rfl, rfl, rfl⟩, z⟩
  · refine ⟨its.toList, r, ⟨o, n, I.kIn a o hk, hc, hd, by simpa using hs⟩, ?_⟩
    have e := r.length
    simp only [Array.length_toList] at e
    omega
theorem Inv.tuple (I : Inv X pins σ H s) (h : SqT X.K H a xs) : ∃ its : List Value, Vals xs its ∧ IsTup s.heap a its.toArray ∧ xs.length ≤ sizeLine := by
  rcases h with h | ⟨o, its, n, hk, hc, hd0, hs, hz, r⟩
  · obtain ⟨z, its, r, p⟩ := h.ok I.hok
    exact ⟨its, r, p.tup, z⟩
  · refine ⟨its.toList, r, ⟨o, I.kIn a o hk, hc, n, by simpa using hs⟩, ?_⟩
    have e := r.length
    simp only [Array.length_toList] at e
    omega
theorem Inv.list_inj (I : Inv X pins σ H s) (h : SqL X.K H a xs) (h' : SqL X.K H a ys) : xs = ys := by
  obtain ⟨its, r, ⟨o, n, e, _, _, d⟩, _⟩ := I.list h
  obtain ⟨its', r', ⟨o', n', e', _, _, d'⟩, _⟩ := I.list h'
  rw [e] at e'; cases e'
  rw [d] at d'
  injection d' with d1 _
  have : its = its' := by simpa using congrArg Array.toList d1
  subst this
  exact r.inj r'
theorem Inv.tuple_inj (I : Inv X pins σ H s) (h : SqT X.K H a xs) (h' : SqT X.K H a ys) : xs = ys := by
  obtain ⟨its, r, ⟨o, e, _, n, d⟩, _⟩ := I.tuple h
  obtain ⟨its', r', ⟨o', e', _, n', d'⟩, _⟩ := I.tuple h'
  rw [e] at e'; cases e'
  rw [d] at d'
  injection d' with d1 _
  have : its = its' := by simpa using congrArg Array.toList d1
  subst this
  exact r.inj r'
end
abbrev Cx.wish (X : Cx) (E : Value → Shared → Prop) : Cx := { X with xe := E }
/-- no exception leaves -/
abbrev Cx.nox (X : Cx) : Cx := X.wish fun _ _ => False
theorem Cx.Ok.wish {X : Cx} (ok : X.Ok) (E : Value → Shared → Prop) : (X.wish E).Ok :=
  ⟨ok.mod, ok.kind, ok.glob, ok.blt, ok.above, ok.inj, ok.has, ok.cab, ok.hd, ok.frames, ok.stk, ok.exf, ok.bs, ok.bsz, ok.noex, ok.exfs, ok.funs, ok.frf⟩
theorem Cx.Ok.unwish {X : Cx} {E : Value → Shared → Prop} (ok : (X.wish E).Ok) : X.Ok :=
  ⟨ok.mod, ok.kind, ok.glob, ok.blt, ok.above, ok.inj, ok.has, ok.cab, ok.hd, ok.frames, ok.stk, ok.exf, ok.bs, ok.bsz, ok.noex, ok.exfs, ok.funs, ok.frf⟩
section
variable {X : Cx} {pins : List (Addr × Obj)} {σ : St} {H : Hp} {s : Shared} {E : Value → Shared → Prop}
theorem Inv.wish (I : Inv X pins σ H s) (E : Value → Shared → Prop) : Inv (X.wish E) pins σ H s := ⟨I.ok.wish E, I.os, I.bare, I.base, I.loc, I.cell, I.free, I.freeC, I.pin, I.hok, I.len⟩
theorem Inv.unwish (I : Inv (X.wish E) pins σ H s) : Inv X pins σ H s := ⟨I.ok.unwish, I.os, I.bare, I.base, I.loc, I.cell, I.free, I.freeC, I.pin, I.hok, I.len⟩
theorem SP.unwish {D : Ends} {f : Flow} {s' : Shared} (h : SP (X.wish E) pins D f s') : SP X pins D f s' := by
  cases f with
  | next => obtain ⟨σ', H', I, q⟩ := h; exact ⟨σ', H', I.unwish, q⟩
  | brk => obtain ⟨σ', H', I, q⟩ := h; exact ⟨σ', H', I.unwish, q⟩
  | cont => obtain ⟨σ', H', I, q⟩ := h; exact ⟨σ', H', I.unwish, q⟩
  | ret u => obtain ⟨v, σ', H', I, r, q⟩ := h; exact ⟨v, σ', H', I.unwish, r, q⟩
theorem PE.nox {e : Expr} {t : TE} (h : PE X.nox e t) : PE X e t := fun pins s σ H Q I hw =>
  wpAny_mono (h pins s σ H Q (I.wish _) hw) (fun _ _ ⟨v, H', I', r, q⟩ => ⟨v, H', I'.unwish, r, q⟩) fun _ _ z => False.elim z
theorem PT.nox {e : Expr} {t : TT} (h : PT X.nox e t) : PT X e t := fun pins s σ H Q I hw =>
  wpAny_mono (h pins s σ H Q (I.wish _) hw) (fun _ _ ⟨H', I', q⟩ => ⟨H', I'.unwish, q⟩) fun _ _ z => False.elim z
theorem PSs.nox {st : List Stmt} {t : TS} (h : PSs X.nox st t) : PSs X st t := fun pins s σ H D I hw =>
  wpAny_mono (h pins s σ H D (I.wish _) hw) (fun _ _ q => q.unwish) fun _ _ z => False.elim z
end
section
variable {X : Cx} {st : Stmt} {rest : List Stmt} {t u : TS} {e : Expr} {te : TE} {pos : Pos}
def tNext : TS := fun D σ H => D.nx σ H
def tSeq (t u : TS) : TS := fun D σ H => t { D with nx := u D } σ H
theorem pss_nil : PSs X [] tNext := fun _ _ σ H _ I h => wpAny_execs_nil ⟨σ, H, I, h⟩
theorem pss_cons (h1 : PS X st t) (h2 : PSs X rest u) : PSs X (st :: rest) (tSeq t u) := by
  intro pins s σ H D I h
  refine wpAny_execs_cons (thn (h1 pins s σ H { D with nx := u D } I h) fun f s1 q => ?_)
  cases f with
  | next =>
    obtain ⟨σ', H', I', q⟩ := q
    exact h2 pins s1 σ' H' D I' q
  | ret v => exact q
  | brk => exact q
  | cont => exact q
theorem pss_one (h1 : PS X st t) : PSs X [st] t := by
  intro pins s σ H D I h
  refine wpAny_execs_cons (thn (h1 pins s σ H D I h) fun f s1 q => ?_)
  cases f with
  | next => exact wpAny_execs_nil q
  | ret v => exact q
  | brk => exact q
  | cont => exact q
/-- in a def's body nothing is shown -/
theorem Inv.quiet {pins : List (Addr × Obj)} {σ : St} {H : Hp} {s : Shared} (I : Inv X pins σ H s) : interactive X.env = false := by simp [interactive, I.ok.kind]
/-- an expression whose value is dropped -/
def tDrop (te : TE) : TS := fun D σ H => te σ H fun _ H1 => D.nx σ H1
theorem ps_expr (he : PE X e te) (hs : swapsWith e none pos.line X.env = pure false := by rfl) : PS X (.Expr e pos) (tDrop te) := by
  intro pins s σ H D I h
  exact wpAny_Expr_any (thn (he pins s σ H _ I h) fun v s1 ⟨x, H1, I1, r1, q1⟩ => ⟨σ, H1, I1, q1⟩) I.quiet hs
def tRet (te : TE) : TS := fun D σ H => te σ H D.rt
theorem ps_ret (he : PE X e te) : PS X (.Return (some e) pos) (tRet te) := by
  intro pins s σ H D I h
  exact wpAny_Return_some (thn (he pins s σ H _ I h) fun v s1 ⟨x, H1, I1, r1, q1⟩ => ⟨x, σ, H1, I1, r1, q1⟩)
def tIfS (c : TT) (t u : TS) : TS := fun D σ H => c σ H fun b H1 => if b = true then t D σ H1 else u D σ H1
theorem ps_if {c : Expr} {a b : List Stmt} {tc : TT} (hc : PT X c tc) (ha : PSs X a t) (hb : PSs X b u) : PS X (.If c a b pos) (tIfS tc t u) := by
  intro pins s σ H D I h
  refine wpAny_If (thn (hc pins s σ H _ I h) fun d s1 ⟨H1, I1, q1⟩ => ?_)
  cases d with
  | true => exact ha pins s1 σ H1 D I1 q1
  | false => exact hb pins s1 σ H1 D I1 q1
/-- code that the proof never comes to -/
def tNever : TS := fun _ _ _ => False
theorem pss_never {sts : List Stmt} : PSs X sts tNever := fun _ _ _ _ _ _ h => h.elim
end
abbrev TG := V → St → Hp → (St → Hp → Prop) → Prop
abbrev TGs := List V → St → Hp → (St → Hp → Prop) → Prop
def PG (X : Cx) (target : Expr) (t : TG) : Prop :=
  ∀ (pins : List (Addr × Obj)) (s : Shared) (σ : St) (H : Hp) (v : V) (u : Value) (Q : St → Hp → Prop), Inv X pins σ H s → RelV v u → t v σ H Q →
    wpAny (model X.prog X.w) X.A (assign target X.env u) (fun _ s' => ∃ σ' H', Inv X pins σ' H' s' ∧ Q σ' H') X.xe s
/-- several targets, one after another -/
def PGs (X : Cx) (ts : List Expr) (t : TGs) : Prop :=
  ∀ (pins : List (Addr × Obj)) (s : Shared) (σ : St) (H : Hp) (vs : List V) (us : List Value) (Q : St → Hp → Prop), Inv X pins σ H s → Vals vs us → t vs σ H Q →
    wpAny (model X.prog X.w) X.A (assignInOrder ((assignEach ts X.env).map (·.2)) us) (fun _ s' => ∃ σ' H', Inv X pins σ' H' s' ∧ Q σ' H') X.xe s
/-- a op= b, by values -/
abbrev TIp := V → V → Hp → VK → Prop
def PIp (X : Cx) (op : Operator) (t : TIp) : Prop :=
  ∀ (pins : List (Addr × Obj)) (s : Shared) (σ : St) (H : Hp) (x y : V) (v u : Value) (Q : VK), Inv X pins σ H s → RelV x v → RelV y u → t x y H Q →
    wpAny (model X.prog X.w) X.A (inplaceOp op v u) (EP X pins σ Q) X.xe s
section
variable {X : Cx} {pos : Pos}
def gName (i : Nat) : TG := fun v σ H Q => Q (σ.set i (some v)) H
theorem pg_name {i : Nat} {x : Str} (hN : X.N.Nodup) (hi : X.N[i]? = some x) (hx : Loc X.env.scope x) (hf : X.fn x = true ∨ X.env.scope.names.lookup x = some .local := by first | exact .inl rfl | exact .inr rfl | assumption) : PG X (.Name x pos) (gName i) := by
  intro pins s σ H v u Q I r h
  exact wpAny_assign_Name (store_ok I hN hi hx r (fun s' I' => ⟨_, H, I', h⟩) hf)
def gNil : TGs := fun vs σ H Q => vs = [] ∧ Q σ H
def gCons (t : TG) (u : TGs) : TGs := fun vs σ H Q => ∃ v r, vs = v :: r ∧ t v σ H fun σ' H' => u r σ' H' Q
theorem pgs_nil : PGs X [] gNil := by
  intro pins s σ H vs us Q I r h
  obtain ⟨e, h⟩ := h
  subst e
  cases r
  exact assignInOrder_nil ⟨σ, H, I, h⟩
theorem pgs_cons {e : Expr} {es : List Expr} {t : TG} {u : TGs} (h1 : PG X e t) (h2 : PGs X es u)
    (hs : (assignEach (e :: es) X.env).map (·.2) = assign e X.env :: (assignEach es X.env).map (·.2) := by rfl) : PGs X (e :: es) (gCons t u) := by
  intro pins s σ H vs us Q I r h
  obtain ⟨v, vr, e1, h⟩ := h
  subst e1
  cases r with
  | cons r rr =>
    rw [hs]
    refine assignInOrder_cons (thn (h1 pins s σ H _ _ _ I r h) fun _ s1 ⟨σ1, H1, I1, q1⟩ => ?_)
    exact h2 pins s1 σ1 H1 _ _ Q I1 rr q1
/-- (a, b, ..) = a tuple of that length -/
def gTup (K : PySem.W.Frag) (n : Nat) (t : TGs) : TG := fun v σ H Q => ∃ a xs, v = .ref a ∧ SqT K H a xs ∧ xs.length = n ∧ t xs σ H Q
theorem pg_tup {es : List Expr} {k : Nat} {t : TGs} {n : Nat} (hc : X.calm = true) (h : PGs X es t)
    (hn : (assignEach es X.env).length = n := by rfl) (hst : (assignEach es X.env).findIdx? (·.1) = none := by rfl) : PG X (.Tuple es k pos) (gTup X.K n t) := by
  intro pins s σ H v u Q I r hw
  obtain ⟨a, xs, e1, hq, hl, hw⟩ := hw
  subst e1
  cases r
  obtain ⟨its, rv, ht, hz⟩ := I.tuple hq
  refine assign_Tuple_tuple (I.ok.hd hc) ht (by simp [hn, ← hl, rv.length]) hst fun h' hx => ?_
  have I1 : Inv X pins σ H { s with heap := h' } := I.kept (t' := s.toks) fun b o e => hx b o (Nat.ne_of_lt (Heap.lt_size e)) e
  exact h pins _ σ H xs _ Q I1 (by simpa using rv) hw
/-- target = value -/
def tAsg (te : TE) (g : TG) : TS := fun D σ H => te σ H fun x H1 => g x σ H1 D.nx
theorem ps_asg {tg e : Expr} {te : TE} {g : TG} (he : PE X e te) (hg : PG X tg g) (hs : swapsWithSole [tg] e pos.line X.env = pure false := by rfl) (hw : swappedStores [tg] e X.env = pure none := by rfl)
    (h1 : (assignEach [tg] X.env).map (·.2) = [assign tg X.env] := by rfl) : PS X (.Assign [tg] e pos) (tAsg te g) := by
  intro pins s σ H D I h
  refine wpAny_Assign_stores (thn (he pins s σ H _ I h) fun v s1 ⟨x, H1, I1, r1, q1⟩ => ?_) hs hw
  rw [h1]
  exact thn (hg pins s1 σ H1 x v _ I1 r1 q1) fun _ s2 q => q
/-- name = value -/
theorem ps_set {i : Nat} {x : Str} {e : Expr} {te : TE} {pos' : Pos} (hN : X.N.Nodup) (hi : X.N[i]? = some x) (hx : Loc X.env.scope x) (he : PE X e te) (hs : swapsWith e (some (.Name x pos')) pos.line X.env = pure false := by rfl) (hf : X.fn x = true ∨ X.env.scope.names.lookup x = some .local := by first | exact .inl rfl | exact .inr rfl | assumption) :
    PS X (.Assign [.Name x pos'] e pos) (tAsg te (gName i)) := by
  intro pins s σ H D I h
  refine wpAny_Assign_Name (thn (he pins s σ H _ I h) fun v s1 ⟨y, H1, I1, r1, q1⟩ => ?_) hs
  exact store_ok I1 hN hi hx r1 (fun s2 I2 => ⟨_, H1, I2, q1⟩) hf
/-- name op= e -/
def tAug (i : Nat) (te : TE) (ti : TIp) : TS := fun D σ H => ∃ x, σ[i]? = some (some x) ∧ te σ H fun y H1 => ti x y H1 fun z H2 => D.nx (σ.set i (some z)) H2
theorem ps_aug {i : Nat} {x : Str} {e : Expr} {te : TE} {op : Operator} {ti : TIp} {pos' : Pos} (hN : X.N.Nodup) (hi : X.N[i]? = some x) (hx : Loc X.env.scope x) (he : PE X e te) (ho : PIp X op ti) (hf : X.fn x = true ∨ X.env.scope.names.lookup x = some .local := by first | exact .inl rfl | exact .inr rfl | assumption) :
    PS X (.AugAssign (.Name x pos') op e pos) (tAug i te ti) := by
  intro pins s σ H D I h
  obtain ⟨v, e1, h⟩ := h
  obtain ⟨m, hn, hl⟩ := I.loc
  have vis : Vis X.env.scope x := by rcases hx with k | k; exact .inl k; exact .inr (.inl k)
  obtain ⟨u, r, l⟩ := hl i x v hi e1 vis
  refine wpAny_AugAssign_Name ?_
  have go : wpAny (model X.prog X.w) X.A (eval e X.env) (fun w s₂ => wpAny (model X.prog X.w) X.A (inplaceOp op u w) (fun r s₃ => wpAny (model X.prog X.w) X.A (storeName X.env x r) (fun _ => SP X pins D .next) X.xe s₃) X.xe s₂) X.xe s := by
    refine thn (he pins s σ H _ I h) fun w s1 ⟨y, H1, I1, r1, q1⟩ => ?_
    refine thn (ho pins s1 σ H1 v y u w _ I1 r r1 q1) fun z s2 ⟨zv, H2, I2, r2, q2⟩ => ?_
    exact store_ok I2 hN hi hx r2 (fun s3 I3 => ⟨_, H2, I3, q2⟩) hf
  rcases l with ⟨hk, hm⟩ | ⟨hk, c, hc, hcell⟩
  · exact wpAny_loadName_local I.ok.kind hk hn hm go
  · rcases hk with hk | hk
    · exact wpAny_loadName_cell I.ok.kind hk hc hcell go
    · rcases hx with k | k
      · have : X.env.scope.names.lookup x = some .free := hk
        rw [k] at this; cases this
      · have : X.env.scope.names.lookup x = some .free := hk
        rw [k] at this; cases this
end
section
variable {X : Cx} {pos : Pos}
/-- the invariant W with its measure -/
def tWhile (c : TT) (tb : TS) : TS := fun D σ H => ∃ W : Nat → St → Hp → Prop, (∃ m, W m σ H) ∧ ∀ m σ H, W m σ H →
  c σ H fun b H1 => if b = true then ∃ N : St → Hp → Prop, (∀ σ' H', N σ' H' → ∃ m', m' < m ∧ W m' σ' H') ∧ tb { D with nx := N, ct := N, bk := D.nx } σ H1 else D.nx σ H1
theorem ps_while {c : Expr} {body : List Stmt} {tc : TT} {tb : TS} (hp : PassesOwn (model X.prog X.w) X.A X.env X.xe) (hc : PT X c tc) (hb : PSs X body tb) : PS X (.While c body [] pos) (tWhile tc tb) := by
  intro pins s σ H D I h
  obtain ⟨W, ⟨m0, w0⟩, turn⟩ := h
  refine wpAny_While (codeAny_whileLoop (fun n s' => ∃ σ' H', Inv X pins σ' H' s' ∧ W n σ' H') ?_ m0 ⟨σ, H, I, w0⟩)
  rintro n s1 ⟨σ1, H1, I1, w1⟩
  refine wpAny_passesOwn hp (thn (hc pins s1 σ1 H1 _ I1 (turn n σ1 H1 w1)) fun b s2 ⟨H2, I2, q2⟩ => ?_)
  cases b with
  | true =>
    obtain ⟨N, hN, q2⟩ := q2
    rw [if_pos rfl]
    refine wpAny_passesOwn hp (thn (hb pins s2 σ1 H2 _ I2 q2) fun f s3 q3 => ?_)
    cases f with
    | next =>
      obtain ⟨σ3, H3, I3, n3⟩ := q3
      obtain ⟨m', hm, w3⟩ := hN σ3 H3 n3
      exact ⟨m', hm, σ3, H3, I3, w3⟩
    | cont =>
      obtain ⟨σ3, H3, I3, n3⟩ := q3
      obtain ⟨m', hm, w3⟩ := hN σ3 H3 n3
      exact ⟨m', hm, σ3, H3, I3, w3⟩
    | brk => exact q3
    | ret v => exact q3
  | false =>
    rw [if_neg Bool.false_ne_true]
    exact wpAny_execs_nil ⟨σ1, H2, I2, q2⟩
end
/-- at turn i: it yields x (the heap may grow), or it stops -/
structure It where
  go : Nat → Hp → Prop
  yld : Nat → Hp → V → Hp → Prop
  stop : Nat → Hp → Prop
/-- the iterator's own objects may turn: they are not the frame's, not pinned, younger than the entry (or a comprehension's own) -/
def FpOk (X : Cx) (pins : List (Addr × Obj)) (H : Hp) (b : Addr) : Prop :=
  H b = none ∧ b ≠ X.env.locals ∧ b ∉ X.fs ∧ (b ∈ X.ex ∨ X.s_0.heap.objs.size ≤ b) ∧ (∀ x c, X.env.cells.lookup x = some c → c ≠ b) ∧ ∀ p ∈ X.pn ++ pins, p.1 ≠ b
theorem Inv.fpOk {X : Cx} {pins : List (Addr × Obj)} {σ : St} {H H' : Hp} {s : Shared} {b : Addr} (I : Inv X pins σ H s) (hb : s.heap.objs.size ≤ b) (hn : H' b = none) : FpOk X pins H' b := by
  refine ⟨hn, Nat.ne_of_gt (Nat.lt_of_lt_of_le I.lt hb), I.nofs hb, .inr (Nat.le_trans I.sz hb), fun x c e z => ?_, fun p hp z => ?_⟩
  · obtain ⟨v, q⟩ := I.cell x c e
    exact absurd (Nat.lt_of_lt_of_le q.lt (by rw [z]; exact hb)) (Nat.lt_irrefl _)
  · exact absurd (Nat.lt_of_lt_of_le (Heap.lt_size (I.pin p hp).1) (by rw [z]; exact hb)) (Nat.lt_irrefl _)
structure Turn (P : Program) (w : World) (K : PySem.W.Frag) (tg : Expr) (J : It) (fp : List Addr) (it : Addr) (tn : Nat → Heap → Prop) : Prop where
  mem : it ∈ fp
  obj : ∀ i h, tn i h → ∀ b ∈ fp, ∃ o, h.get? b = some o ∧ ∀ v, o.data ≠ .cell v
  keep : ∀ i h h', tn i h → (∀ b ∈ fp, ∀ o, h.get? b = some o → h'.get? b = some o) → tn i h'
  item : ∀ (X : Cx), X.prog = P → X.w = w → X.K = K → X.calm = true → ∀ (i : Nat) (pins : List (Addr × Obj)) (s : Shared) (σ : St) (H : Hp) (E : Value → Shared → Prop), Inv X pins σ H s → (∀ b ∈ fp, FpOk X pins H b) → tn i s.heap → J.go i H →
    wpAny (model P w) X.A (pyNext (.ref it)) (fun r s1 => ∃ u, r = some u ∧
      wpAny (model P w) X.A (letOwnedTupleGo tg (.ref it) u) (fun _ s2 => ∃ x H', Inv X pins σ H' s2 ∧ RelV x u ∧ J.yld i H x H' ∧ tn (i + 1) s2.heap ∧ ∀ b ∈ fp, H' b = none) E s1) E s
  done : ∀ (X : Cx), X.prog = P → X.w = w → X.K = K → X.calm = true → ∀ (i : Nat) (pins : List (Addr × Obj)) (s : Shared) (σ : St) (H : Hp) (E : Value → Shared → Prop), Inv X pins σ H s → (∀ b ∈ fp, FpOk X pins H b) → tn i s.heap → J.stop i H →
    wpAny (model P w) X.A (pyNext (.ref it)) (fun r s1 => r = none ∧ Inv X pins σ H s1) E s
  self : ∀ (A : Around) (i : Nat) (s : Shared) (Q : Value → Shared → Prop) (E : Value → Shared → Prop), tn i s.heap → Q (.ref it) s → wpAny (model P w) A (pyIter (.ref it)) Q E s
abbrev TI := St → Hp → (It → Hp → Prop) → Prop
/-- an iterator has come -/
def PIE (X : Cx) (pins : List (Addr × Obj)) (σ : St) (tg : Expr) (R : It → Hp → Prop) (itv : Value) (s2 : Shared) : Prop :=
  ∃ (it : Addr) (fp : List Addr) (tn : Nat → Heap → Prop) (J : It) (H' : Hp), itv = .ref it ∧ Inv X pins σ H' s2 ∧ Turn X.prog X.w X.K tg J fp it tn ∧ tn 0 s2.heap ∧ (∀ b ∈ fp, FpOk X pins H' b) ∧ R J H'
def PI (X : Cx) (tg iter : Expr) (wi : TI) : Prop :=
  ∀ (pins : List (Addr × Obj)) (s : Shared) (σ : St) (H : Hp) (R : It → Hp → Prop), Inv X pins σ H s → wi σ H R →
    wpAny (model X.prog X.w) X.A (eval iter X.env) (fun v s1 => wpAny (model X.prog X.w) X.A (pyIter v) (PIE X pins σ tg R) X.xe s1) X.xe s
/-- the step ahead of the store is nothing for an iterator that keeps no tuple -/
theorem go_of {M : Model} {A : Around} {E : Value → Shared → Prop} {s : Shared} {tg : Expr} {it : Addr} {u : Value} {o : Obj} {n : String} {vs : Array Value} {Q : Unit → Shared → Prop} (ho : s.heap.get? it = some o) (hc : o.cls = .type n) (hd : o.data = .fields vs)
    (hn : ["enumerate", "zip", "dict_itemiterator", "dict_reverseitemiterator", "odict_iterator", "itertools.zip_longest", "itertools.pairwise"].contains n = false) (hQ : Q () s) : wpAny M A (letOwnedTupleGo tg (.ref it) u) Q E s := by
  unfold letOwnedTupleGo
  cases tg <;> first
    | exact wpAny_pure hQ
    | (cases u <;> first
        | exact wpAny_pure hQ
        | (refine wpAny_bind (wpAny_load ho ?_)
           rw [hc, hd]
           show wpAny M A (if (["enumerate", "zip", "dict_itemiterator", "dict_reverseitemiterator", "odict_iterator", "itertools.zip_longest", "itertools.pairwise"].contains n && vs[0]? == some (rawInt _)) = true then _ else _) Q E s
           rw [if_neg (by intro h; rw [hn, Bool.false_and] at h; cases h)]
           exact wpAny_pure hQ))
/-- the list at a, as it stands at each turn (a loop may append to it) -/
def Itl (K : PySem.W.Frag) (a : Addr) : It :=
  ⟨fun i H => ∃ xs x, SqL K H a xs ∧ xs[i]? = some x, fun i H x H' => H' = H ∧ ∀ xs, SqL K H a xs → xs[i]? = some x, fun i H => ∃ xs, SqL K H a xs ∧ xs.length ≤ i⟩
def Itt (K : PySem.W.Frag) (a : Addr) : It :=
  ⟨fun i H => ∃ xs x, SqT K H a xs ∧ xs[i]? = some x, fun i H x H' => H' = H ∧ ∀ xs, SqT K H a xs → xs[i]? = some x, fun i H => ∃ xs, SqT K H a xs ∧ xs.length ≤ i⟩
/-- lo, lo + 1, .. (n of them) -/
def Itr (lo : Int) (n : Nat) : It := ⟨fun i _ => i < n, fun i H x H' => H' = H ∧ x = .int (lo + i), fun i _ => n ≤ i⟩
theorem turn_list {P : Program} {w : World} {K : PySem.W.Frag} {tg : Expr} (a it : Addr) : Turn P w K tg (Itl K a) [it] it (fun i h => h.IsListIter it a i) where
  mem := by simp
  obj := fun i h st b hb => by
    have e : b = it := by simpa using hb
    subst e
    obtain ⟨o, e, c, d⟩ := st
    exact ⟨o, e, fun v z => by rw [d] at z; cases z⟩
  keep := fun i h h' st k => st.at fun o e => k it (by simp) o e
  item := by
    intro X hP hw hK hc i pins s σ H E I hf st hg
    subst hP hw hK
    obtain ⟨xs, x, hq, hx⟩ := hg
    obtain ⟨its, rv, p, hz⟩ := I.list hq
    obtain ⟨u, hu, ru⟩ := rv.get hx
    obtain ⟨f0, f1, f2, f3, f4, f5⟩ := hf it (by simp)
    refine wpAny_pyNext_list_item st p.isList (x := u) (by simpa using hu) fun h' st' sb => ?_
    have I1 : Inv X pins σ H { s with heap := h' } := I.turned (t' := s.toks) (fun b o hb e => (sb.2 b hb).trans e) f0 f1 f3 f4 f5
    obtain ⟨o, e, c, d⟩ := id st'
    exact ⟨u, rfl, go_of (s := { s with heap := h' }) e c d (by decide) ⟨x, H, I1, ru, ⟨rfl, fun ys hy => by rw [I.list_inj hy hq]; exact hx⟩, st', fun b hb => (hf b hb).1⟩⟩
  done := by
    intro X hP hw hK hc i pins s σ H E I hf st hg
    subst hP hw hK
    obtain ⟨xs, hq, hx⟩ := hg
    obtain ⟨its, rv, p, hz⟩ := I.list hq
    obtain ⟨f0, f1, f2, f3, f4, f5⟩ := hf it (by simp)
    have hl := rv.length
    exact wpAny_pyNext_list_end (I.ok.hd hc) st p.isList (by simp; omega) fun h' eb => ⟨rfl, I.turned (t' := s.toks) (fun b o hb e => eb b o hb e) f0 f1 f3 f4 f5⟩
  self := fun _ _ _ _ _ st h => wpAny_pyIter_listiter st h
theorem turn_tuple {P : Program} {w : World} {K : PySem.W.Frag} {tg : Expr} (a it : Addr) : Turn P w K tg (Itt K a) [it] it (fun i h => h.IsTupleIter it a i) where
  mem := by simp
  obj := fun i h st b hb => by
    have e : b = it := by simpa using hb
    subst e
    obtain ⟨o, e, c, d⟩ := st
    exact ⟨o, e, fun v z => by rw [d] at z; cases z⟩
  keep := fun i h h' st k => st.at fun o e => k it (by simp) o e
  item := by
    intro X hP hw hK hc i pins s σ H E I hf st hg
    subst hP hw hK
    obtain ⟨xs, x, hq, hx⟩ := hg
    obtain ⟨its, rv, p, hz⟩ := I.tuple hq
    obtain ⟨u, hu, ru⟩ := rv.get hx
    obtain ⟨f0, f1, f2, f3, f4, f5⟩ := hf it (by simp)
    refine wpAny_pyNext_tuple_item st (show s.heap.IsTuple a its.toArray from p) (x := u) (by simpa using hu) fun h' st' sb => ?_
    have I1 : Inv X pins σ H { s with heap := h' } := I.turned (t' := s.toks) (fun b o hb e => (sb.2 b hb).trans e) f0 f1 f3 f4 f5
    obtain ⟨o, e, c, d⟩ := id st'
    exact ⟨u, rfl, go_of (s := { s with heap := h' }) e c d (by decide) ⟨x, H, I1, ru, ⟨rfl, fun ys hy => by rw [I.tuple_inj hy hq]; exact hx⟩, st', fun b hb => (hf b hb).1⟩⟩
  done := by
    intro X hP hw hK hc i pins s σ H E I hf st hg
    subst hP hw hK
    obtain ⟨xs, hq, hx⟩ := hg
    obtain ⟨its, rv, p, hz⟩ := I.tuple hq
    obtain ⟨f0, f1, f2, f3, f4, f5⟩ := hf it (by simp)
    have hl := rv.length
    exact wpAny_pyNext_tuple_end (I.ok.hd hc) st (show s.heap.IsTuple a its.toArray from p) (by simp; omega) fun h' eb => ⟨rfl, I.turned (t' := s.toks) (fun b o hb e => eb b o hb e) f0 f1 f3 f4 f5⟩
  self := fun _ _ _ _ _ st h => wpAny_pyIter_tupleiter st h
theorem turn_range {P : Program} {w : World} {K : PySem.W.Frag} {tg : Expr} (it : Addr) (lo : Int) (n : Nat) : Turn P w K tg (Itr lo n) [it] it (fun i h => IsRangeIter h it (lo + (i : Nat) * 1) ((n : Int) - (i : Nat)) 1) where
  mem := by simp
  obj := fun i h st b hb => by
    have e : b = it := by simpa using hb
    subst e
    exact ⟨_, st, fun v z => by
      have z' : Data.fields _ = Data.cell v := z
      cases z'⟩
  keep := fun i h h' st k => k it (by simp) _ st
  item := by
    intro X hP hw hK hc i pins s σ H E I hf st hg
    subst hP hw hK
    obtain ⟨f0, f1, f2, f3, f4, f5⟩ := hf it (by simp)
    have W := Walks.range (prog := X.prog) (w := X.w) (I.ok.hd hc) it lo 1 n
    refine W.item i s _ _ hg st fun v h' tk hv st' kk => ?_
    obtain ⟨t, rfl⟩ := hv
    have I1 : Inv X pins σ H { s with heap := h', toks := tk } := I.turned (fun b o hb e => kk b o (by simpa using hb) e) f0 f1 f3 f4 f5
    refine ⟨_, rfl, go_of (s := { s with heap := h', toks := tk }) (n := "range_iterator") st' rfl rfl (by decide) ⟨.int (lo + i), H, I1, ⟨t, ?_⟩, ⟨rfl, rfl⟩, st', fun b hb => (hf b hb).1⟩⟩
    rw [Int.mul_one]
  done := by
    intro X hP hw hK hc i pins s σ H E I hf st hg
    subst hP hw hK
    obtain ⟨f0, f1, f2, f3, f4, f5⟩ := hf it (by simp)
    exact wpAny_pyNext_range_end (I.ok.hd hc) st (by have : n ≤ i := hg; omega) fun h' eb => ⟨rfl, I.turned (t' := s.toks) (fun b o hb e => eb b o hb e) f0 f1 f3 f4 f5⟩
  self := fun _ _ _ _ _ st h => wpAny_pyIter_rangeiter st h
end L2
namespace L2
open PySem PySem.Spec PyProof.Rows
section
variable {X : Cx} {tg : Expr}
def iList (K : PySem.W.Frag) (tl : TE) : TI := fun σ H R => tl σ H fun x H1 => ∃ a, x = .ref a ∧ (∃ xs, SqL K H1 a xs) ∧ R (Itl K a) H1
def iTup (K : PySem.W.Frag) (tl : TE) : TI := fun σ H R => tl σ H fun x H1 => ∃ a, x = .ref a ∧ (∃ xs, SqT K H1 a xs) ∧ R (Itt K a) H1
theorem pi_list {l : Expr} {tl : TE} (hl : PE X l tl) : PI X tg l (iList X.K tl) := by
  intro pins s σ H R I h
  refine thn (hl pins s σ H _ I h) fun v s1 ⟨x, H1, I1, r1, q1⟩ => ?_
  obtain ⟨a, e, ⟨xs, hq⟩, q⟩ := q1
  subst e
  cases r1
  obtain ⟨its, rv, p, hz⟩ := I1.list hq
  refine wpAny_pyIter_list p.isList ?_
  refine ⟨s1.heap.objs.size, [s1.heap.objs.size], _, _, H1, rfl, I1.kept (t' := s1.toks) fun b o e => Heap.get?_push_of_some _ e, turn_list a _, ⟨_, Heap.get?_push_size _ rfl, rfl, rfl⟩, fun b hb => ?_, q⟩
  have e : b = s1.heap.objs.size := by simpa using hb
  subst e
  exact I1.fpOk (Nat.le_refl _) (I1.hok.fresh (Nat.le_refl _))
theorem pi_tup {l : Expr} {tl : TE} (hl : PE X l tl) : PI X tg l (iTup X.K tl) := by
  intro pins s σ H R I h
  refine thn (hl pins s σ H _ I h) fun v s1 ⟨x, H1, I1, r1, q1⟩ => ?_
  obtain ⟨a, e, ⟨xs, hq⟩, q⟩ := q1
  subst e
  cases r1
  obtain ⟨its, rv, p, hz⟩ := I1.tuple hq
  refine wpAny_pyIter_tuple (show s1.heap.IsTuple a its.toArray from p) ?_
  refine ⟨s1.heap.objs.size, [s1.heap.objs.size], _, _, H1, rfl, I1.kept (t' := s1.toks) fun b o e => Heap.get?_push_of_some _ e, turn_tuple a _, ⟨_, Heap.get?_push_size _ rfl, rfl, rfl⟩, fun b hb => ?_, q⟩
  have e : b = s1.heap.objs.size := by simpa using hb
  subst e
  exact I1.fpOk (Nat.le_refl _) (I1.hok.fresh (Nat.le_refl _))
/-- a range object just made, walked -/
theorem range_it {pins : List (Addr × Obj)} {σ : St} {H : Hp} {s : Shared} {R : It → Hp → Prop} {E : Value → Shared → Prop} {lo hi : Int} {t u v : Tok} {tk : Nat} (I : Inv X pins σ H s) (h1 : -(2 ^ 62) ≤ lo) (h2 : lo < 2 ^ 62) (h3 : -(2 ^ 62) ≤ hi) (h4 : hi < 2 ^ 62)
    (q : R (Itr lo (hi - lo).toNat) H) : wpAny (model X.prog X.w) X.A (pyIter (.ref s.heap.objs.size)) (PIE X pins σ tg R) E { s with heap := s.heap.push { cls := .type "range", data := .fields #[.int lo t, .int hi u, .int 1 v] }, toks := tk } := by
  refine wpAny_pyIter_range (IsRange.new ..) (small_one h1 h2 h3 h4) ?_
  have I1 : Inv X pins σ H { s with heap := s.heap.push { cls := .type "range", data := .fields #[.int lo t, .int hi u, .int 1 v] }, toks := tk } := I.kept fun b o e => Heap.get?_push_of_some _ e
  refine ⟨(s.heap.push { cls := .type "range", data := .fields #[.int lo t, .int hi u, .int 1 v] }).objs.size, [(s.heap.push { cls := .type "range", data := .fields #[.int lo t, .int hi u, .int 1 v] }).objs.size], _, _, H, rfl,
    I1.kept (t' := tk) fun b o e => Heap.get?_push_of_some _ e, turn_range _ lo (hi - lo).toNat, ?_, fun b hb => ?_, q⟩
  · have e1 : lo + ((0 : Nat) : Int) * 1 = lo := by simp
    have e2 : (((hi - lo).toNat : Nat) : Int) - ((0 : Nat) : Int) = Builtin.Range.rangeSize lo hi 1 := by rw [rangeSize_one]; split <;> omega
    show IsRangeIter _ _ (lo + ((0 : Nat) : Int) * 1) ((((hi - lo).toNat : Nat) : Int) - ((0 : Nat) : Int)) 1
    rw [e1, e2]
    exact Heap.get?_push_size _ rfl
  · have e : b = (s.heap.push { cls := .type "range", data := .fields #[.int lo t, .int hi u, .int 1 v] }).objs.size := by simpa using hb
    subst e
    exact I1.fpOk (Nat.le_refl _) (I1.hok.fresh (Nat.le_refl _))
def iRng1 (ta : TA) : TI := fun σ H R => ta σ H fun vs H1 => ∃ j : Int, vs = [.int j] ∧ -(2 ^ 62) ≤ j ∧ j < 2 ^ 62 ∧ R (Itr 0 j.toNat) H1
def iRng2 (ta : TA) : TI := fun σ H R => ta σ H fun vs H1 => ∃ i j : Int, vs = [.int i, .int j] ∧ (-(2 ^ 62) ≤ i ∧ i < 2 ^ 62 ∧ -(2 ^ 62) ≤ j ∧ j < 2 ^ 62) ∧ R (Itr i (j - i).toNat) H1
theorem pi_range1 {a : Expr} {ta : TA} {p pos : Pos} (hg : Gl X "range") (hm : X.mg "range" = none) (ha : PA X [a] ta) (hs : starEach [a] X.env = [(false, eval a X.env)] := by rfl) : PI X tg (.Call (.Name "range" p) [a] [] pos) (iRng1 ta) := by
  intro pins s σ H R I h
  refine Call_ (ld_blt I hg hm boot_range (PyProof.Rows.callWith_type1 (thn (ha pos pins s σ H _ I h) fun us s1 ⟨vs, H1, I1, r1, q1⟩ => ?_) hs rfl))
  obtain ⟨j, e, q1, q2, q⟩ := q1
  subst e
  cases r1 with
  | cons r rr =>
    cases rr
    obtain ⟨t, rfl⟩ := r
    exact call_range_1 (range_it I1 (by omega) (by omega) q1 q2 (by simpa using q))
theorem pi_range2 {a b : Expr} {ta : TA} {p pos : Pos} (hg : Gl X "range") (hm : X.mg "range" = none) (ha : PA X [a, b] ta) (hs : starEach [a, b] X.env = [(false, eval a X.env), (false, eval b X.env)] := by rfl) (hs2 : starEach [b] X.env = [(false, eval b X.env)] := by rfl) :
    PI X tg (.Call (.Name "range" p) [a, b] [] pos) (iRng2 ta) := by
  intro pins s σ H R I h
  refine Call_ (ld_blt I hg hm boot_range (PyProof.Rows.callWith_type1 (thn (ha pos pins s σ H _ I h) fun us s1 ⟨vs, H1, I1, r1, q1⟩ => ?_) (by rw [hs, hs2]) (by rw [hs2]; rfl)))
  obtain ⟨i, j, e, ⟨q1, q2, q3, q4⟩, q⟩ := q1
  subst e
  cases r1 with
  | cons r rr =>
    cases rr with
    | cons r' rr =>
      cases rr
      obtain ⟨t, rfl⟩ := r
      obtain ⟨t', rfl⟩ := r'
      exact call_range_2 (range_it I1 q1 q2 q3 q4 q)
/-- W: the invariant by the turn and a measure; N: what the body is to reach -/
def tFor (wi : TI) (g : TG) (tb : TS) : TS := fun D σ H => wi σ H fun J H1 => ∃ W : Nat → Nat → St → Hp → Prop, (∃ m, W 0 m σ H1) ∧ ∀ i m σ H, W i m σ H →
  (J.stop i H ∧ D.nx σ H) ∨ (J.go i H ∧ ∃ N : St → Hp → Prop, (∀ σ' H', N σ' H' → ∃ m', m' < m ∧ W (i + 1) m' σ' H') ∧ ∀ x H', J.yld i H x H' → g x σ H' fun σ2 H2 => tb { D with nx := N, ct := N, bk := D.nx } σ2 H2)
/-- the records at fp as they stand -/
def pinsAt (fp : List Addr) (h : Heap) : List (Addr × Obj) := fp.filterMap fun b => (h.get? b).map fun o => (b, o)
theorem mem_pinsAt {fp : List Addr} {h : Heap} {b : Addr} {o : Obj} (hb : b ∈ fp) (e : h.get? b = some o) : (b, o) ∈ pinsAt fp h := List.mem_filterMap.mpr ⟨b, hb, by rw [e]; rfl⟩
theorem of_pinsAt {fp : List Addr} {h : Heap} {p : Addr × Obj} (hp : p ∈ pinsAt fp h) : p.1 ∈ fp ∧ h.get? p.1 = some p.2 := by
  obtain ⟨b, hb, e⟩ := List.mem_filterMap.mp hp
  cases q : h.get? b with
  | none => rw [q] at e; cases e
  | some o =>
    rw [q] at e
    have e' : (b, o) = p := Option.some.inj e
    subst e'
    exact ⟨hb, q⟩
theorem Inv.pinned {pins : List (Addr × Obj)} {σ : St} {H : Hp} {s : Shared} {fp : List Addr} (I : Inv X pins σ H s) (hf : ∀ b ∈ fp, FpOk X pins H b) (ho : ∀ b ∈ fp, ∃ o, s.heap.get? b = some o ∧ ∀ v, o.data ≠ .cell v) : Inv X (pins ++ pinsAt fp s.heap) σ H s :=
  I.pins_of fun p hp => (List.mem_append.mp hp).elim (fun z => I.pin p (List.mem_append_right _ z)) fun z => by
    obtain ⟨hb, e⟩ := of_pinsAt z
    obtain ⟨f0, f1, f2, _⟩ := hf p.1 hb
    obtain ⟨o, e', d⟩ := ho p.1 hb
    rw [e] at e'; cases e'
    exact ⟨e, f0, f1, f2, d⟩
theorem Inv.unpinned {pins pl : List (Addr × Obj)} {σ : St} {H : Hp} {s : Shared} (I : Inv X (pins ++ pl) σ H s) : Inv X pins σ H s := I.pins_of fun p hp => I.pin p (List.mem_append_right _ (List.mem_append_left _ hp))
theorem ps_for {iter : Expr} {body : List Stmt} {wi : TI} {g : TG} {tb : TS} {pos : Pos} (hp : PassesOwn (model X.prog X.w) X.A X.env X.xe) (hc : X.calm = true) (hi : PI X tg iter wi) (hg : PG X tg g) (hb : PSs X body tb)
    (hs : ∀ x, foldedSetIterable iter X.env x = pure x := by intro _; rfl) : PS X (.For tg iter body [] pos) (tFor wi g tb) := by
  intro pins s σ H D I h
  refine wpAny_For (thn (hi pins s σ H _ I h) fun v s1 h1 => thn h1 fun itv s2 h2 => ?_) hs
  obtain ⟨it, fp, tn, J, H2, e, I2, T, st2, f2, W, ⟨m0, w0⟩, turn⟩ := h2
  subst e
  -- what stays true of the iterator's objects through the loop
  have stat : ∀ {H' : Hp}, (∀ b ∈ fp, H' b = none) → ∀ b ∈ fp, FpOk X pins H' b := fun hn b hb => ⟨hn b hb, (f2 b hb).2⟩
  refine codeAny_forLoop_any (fun n s' => ∃ i σ' H', Inv X pins σ' H' s' ∧ tn i s'.heap ∧ (∀ b ∈ fp, H' b = none) ∧ W i n σ' H') ?_ m0 ⟨0, σ, H2, I2, st2, fun b hb => (f2 b hb).1, w0⟩
  rintro n s3 ⟨i, σ3, H3, I3, st3, fr3, w3⟩
  rcases turn i n σ3 H3 w3 with ⟨stop, qn⟩ | ⟨go, N, hN, step⟩
  · refine wpAny_passesOwn hp (thn (T.done X rfl rfl rfl hc i pins s3 σ3 H3 X.xe I3 (stat fr3) st3 stop) fun r s4 ⟨hr, I4⟩ => ?_)
    subst hr
    exact wpAny_execs_nil ⟨σ3, H3, I4, qn⟩
  · refine wpAny_passesOwn hp (thn (T.item X rfl rfl rfl hc i pins s3 σ3 H3 X.xe I3 (stat fr3) st3 go) fun r s4 ⟨u, hr, h4⟩ => ?_)
    subst hr
    refine wpAny_passesOwn hp (thn h4 fun _ s5 ⟨x, H5, I5, r5, y5, st5, fr5⟩ => ?_)
    have I5' := I5.pinned (stat fr5) (T.obj _ _ st5)
    refine wpAny_passesOwn hp (thn (hg _ s5 σ3 H5 x u _ I5' r5 (step x H5 y5)) fun _ s6 ⟨σ6, H6, I6, q6⟩ => ?_)
    refine wpAny_passesOwn hp (thn (hb _ s6 σ6 H6 _ I6 q6) fun f s7 q7 => ?_)
    have again : ∀ {σ7 : St} {H7 : Hp}, Inv X (pins ++ pinsAt fp s5.heap) σ7 H7 s7 → N σ7 H7 → ∃ m, m < n ∧ ∃ i σ' H', Inv X pins σ' H' s7 ∧ tn i s7.heap ∧ (∀ b ∈ fp, H' b = none) ∧ W i m σ' H' := fun {σ7 H7} I7 n7 => by
      obtain ⟨m', hm, w7⟩ := hN σ7 H7 n7
      refine ⟨m', hm, i + 1, σ7, H7, I7.unpinned, T.keep _ _ _ st5 fun b hb o e => (I7.pin (b, o) (List.mem_append_right _ (List.mem_append_right _ (mem_pinsAt hb e)))).1, fun b hb => ?_, w7⟩
      obtain ⟨o, e, d⟩ := T.obj _ _ st5 b hb
      exact (I7.pin (b, o) (List.mem_append_right _ (List.mem_append_right _ (mem_pinsAt hb e)))).2.1
    cases f with
    | next => obtain ⟨σ7, H7, I7, n7⟩ := q7; exact again I7 n7
    | cont => obtain ⟨σ7, H7, I7, n7⟩ := q7; exact again I7 n7
    | brk => obtain ⟨σ7, H7, I7, q7⟩ := q7; exact ⟨σ7, H7, I7.unpinned, q7⟩
    | ret v => obtain ⟨x7, σ7, H7, I7, r7, q7⟩ := q7; exact ⟨x7, σ7, H7, I7.unpinned, r7, q7⟩
end
end L2
namespace L2
open PySem PySem.Spec PyProof.Rows
abbrev R2 := V → V → Hp → VK → Prop
/-- a two-place operation on values: f is binaryOp op, inplaceOp op or compareOp op -/
def OpR (X : Cx) (f : Value → Value → Sem Value) (r : R2) : Prop :=
  ∀ (pins : List (Addr × Obj)) (s : Shared) (σ : St) (H : Hp) (x y : V) (v u : Value) (Q : VK), Inv X pins σ H s → RelV x v → RelV y u → r x y H Q →
    wpAny (model X.prog X.w) X.A (f v u) (EP X pins σ Q) X.xe s
/-- a one-place operation -/
def UnR (X : Cx) (f : Value → Sem Value) (r : V → Hp → VK → Prop) : Prop :=
  ∀ (pins : List (Addr × Obj)) (s : Shared) (σ : St) (H : Hp) (x : V) (v : Value) (Q : VK), Inv X pins σ H s → RelV x v → r x H Q →
    wpAny (model X.prog X.w) X.A (f v) (EP X pins σ Q) X.xe s
/-- a call of a value that is known (a builtin, a type) with values -/
def CallR (X : Cx) (f : Value) (r : List V → Hp → VK → Prop) : Prop :=
  ∀ (pins : List (Addr × Obj)) (s : Shared) (σ : St) (H : Hp) (xs : List V) (us : List Value) (Q : VK), Inv X pins σ H s → Vals xs us → r xs H Q →
    wpAny (model X.prog X.w) X.A (call f us) (EP X pins σ Q) X.xe s
/-- a value's truth -/
def TruR (X : Cx) (r : V → Hp → (Bool → Hp → Prop) → Prop) : Prop :=
  ∀ (pins : List (Addr × Obj)) (s : Shared) (σ : St) (H : Hp) (x : V) (v : Value) (Q : Bool → Hp → Prop), Inv X pins σ H s → RelV x v → r x H Q →
    wpAny (model X.prog X.w) X.A (truthy v) (TP X pins σ Q) X.xe s
def tOp (r : R2) (ta tb : TE) : TE := fun σ H Q => ta σ H fun x H1 => tb σ H1 fun y H2 => r x y H2 Q
def tUn (r : V → Hp → VK → Prop) (ta : TE) : TE := fun σ H Q => ta σ H fun x H1 => r x H1 Q
/-- ints in, under C, and a value out -/
def rI (C : Int → Int → Prop) (g : Int → Int → V) : R2 := fun x y H Q => ∃ i j, x = .int i ∧ y = .int j ∧ C i j ∧ Q (g i j) H
def rI0 (g : Int → Int → V) : R2 := fun x y H Q => ∃ i j, x = .int i ∧ y = .int j ∧ Q (g i j) H
def rU (g : Int → V) : V → Hp → VK → Prop := fun x H Q => ∃ i, x = .int i ∧ Q (g i) H
section
variable {X : Cx} {a b c : Expr} {ta tb tc : TE} {pos : Pos}
theorem binT (ha : PE X a ta) (hb : PE X b tb) {pins : List (Addr × Obj)} {s : Shared} {σ : St} {H : Hp} {R : V → V → Hp → Prop} (I : Inv X pins σ H s)
    (h : ta σ H fun x H1 => tb σ H1 fun y H2 => R x y H2) {Q : Value → Shared → Prop} {f : Value → Value → Sem Value}
    (hf : ∀ v u s2 x y H2, Inv X pins σ H2 s2 → RelV x v → RelV y u → R x y H2 → wpAny (model X.prog X.w) X.A (f v u) Q X.xe s2) :
    wpAny (model X.prog X.w) X.A (eval a X.env) (fun v s₁ => wpAny (model X.prog X.w) X.A (eval b X.env) (fun u s₂ => wpAny (model X.prog X.w) X.A (f v u) Q X.xe s₂) X.xe s₁) X.xe s := by
  refine thn (ha pins s σ H _ I h) fun v s1 ⟨x, H1, I1, r1, q1⟩ => ?_
  refine thn (hb pins s1 σ H1 _ I1 q1) fun u s2 ⟨y, H2, I2, r2, q2⟩ => ?_
  exact hf v u s2 x y H2 I2 r1 r2 q2
theorem pe_op {op : Operator} {r : R2} (ho : OpR X (binaryOp op) r) (ha : PE X a ta) (hb : PE X b tb) : PE X (.BinOp a op b pos) (tOp r ta tb) := by
  intro pins s σ H Q I h
  exact wpAny_BinOp (binT ha hb I h fun v u s2 x y H2 I2 rx ry q => ho pins s2 σ H2 x y v u Q I2 rx ry q)
theorem pe_un {op : UnaryOp} {r : V → Hp → VK → Prop} (ho : UnR X (unaryOp op) r) (ha : PE X a ta) : PE X (.UnaryOp op a pos) (tUn r ta) := by
  intro pins s σ H Q I h
  exact UnaryOp_ (thn (ha pins s σ H _ I h) fun v s1 ⟨x, H1, I1, r1, q1⟩ => ho pins s1 σ H1 x v Q I1 r1 q1)
theorem opI {f : Value → Value → Sem Value} {C : Int → Int → Prop} {g : Int → Int → Int}
    (rule : ∀ (i j : Int) (t u : Tok) (s : Shared) (Q : Value → Shared → Prop) (E : Value → Shared → Prop), C i j → Q (.int (g i j) s.toks) { s with toks := s.toks + 1 } → wpAny (model X.prog X.w) X.A (f (.int i t) (.int j u)) Q E s) :
    OpR X f (rI C fun i j => .int (g i j)) := by
  intro pins s σ H x y v u Q I rx ry h
  obtain ⟨i, j, rfl, rfl, hc, q⟩ := h
  obtain ⟨t, rfl⟩ := rx
  obtain ⟨t', rfl⟩ := ry
  exact rule i j t t' s _ _ hc ⟨.int (g i j), H, I.tok _, ⟨_, rfl⟩, q⟩
theorem opI0 {f : Value → Value → Sem Value} {g : Int → Int → Int}
    (rule : ∀ (i j : Int) (t u : Tok) (s : Shared) (Q : Value → Shared → Prop) (E : Value → Shared → Prop), Q (.int (g i j) s.toks) { s with toks := s.toks + 1 } → wpAny (model X.prog X.w) X.A (f (.int i t) (.int j u)) Q E s) :
    OpR X f (rI0 fun i j => .int (g i j)) := by
  intro pins s σ H x y v u Q I rx ry h
  obtain ⟨i, j, rfl, rfl, q⟩ := h
  obtain ⟨t, rfl⟩ := rx
  obtain ⟨t', rfl⟩ := ry
  exact rule i j t t' s _ _ ⟨.int (g i j), H, I.tok _, ⟨_, rfl⟩, q⟩
theorem opB0 {f : Value → Value → Sem Value} {g : Int → Int → Bool}
    (rule : ∀ (i j : Int) (t u : Tok) (s : Shared) (Q : Value → Shared → Prop) (E : Value → Shared → Prop), Q (.bool (g i j)) s → wpAny (model X.prog X.w) X.A (f (.int i t) (.int j u)) Q E s) :
    OpR X f (rI0 fun i j => .bl (g i j)) := by
  intro pins s σ H x y v u Q I rx ry h
  obtain ⟨i, j, rfl, rfl, q⟩ := h
  obtain ⟨t, rfl⟩ := rx
  obtain ⟨t', rfl⟩ := ry
  exact rule i j t t' s _ _ ⟨.bl (g i j), H, I, rfl, q⟩
def CPow (i j : Int) : Prop := 0 ≤ j ∧ j ≤ 1000000 ∧ i.natAbs < 2 ^ 64
def CMul (i j : Int) : Prop := (-(2 ^ 64) < i ∧ i < 2 ^ 64) ∨ (-(2 ^ 64) < j ∧ j < 2 ^ 64)
theorem CMul.ok {i j : Int} (h : CMul i j) : IntMulOk i j := by
  rcases h with ⟨h1, h2⟩ | ⟨h1, h2⟩
  · exact .of_left (intBits_le_64 h1 h2)
  · exact .of_right (intBits_le_64 h1 h2)
theorem op_add : OpR X (binaryOp .Add) (rI0 fun i j => .int (i + j)) := opI0 fun _ _ _ _ _ _ _ q => add_int q
theorem op_sub : OpR X (binaryOp .Sub) (rI0 fun i j => .int (i - j)) := opI0 fun _ _ _ _ _ _ _ q => sub_int q
theorem op_modN : OpR X (binaryOp .Mod) (rI (fun _ j => j ≠ 0) fun i j => .int (i.fmod j)) := opI fun _ _ _ _ _ _ _ hc q => mod_int' hc q
theorem op_pow : OpR X (binaryOp .Pow) (rI CPow fun i j => .int (i ^ j.toNat)) := opI fun _ _ _ _ _ _ _ hc q => pow_int_small hc.1 hc.2.1 hc.2.2 q
theorem iop_sub : OpR X (inplaceOp .Sub) (rI0 fun i j => .int (i - j)) := opI0 fun _ _ _ _ _ _ _ q => isub_int q
theorem unI {f : Value → Sem Value} {g : Int → Int}
    (rule : ∀ (i : Int) (t : Tok) (s : Shared) (Q : Value → Shared → Prop) (E : Value → Shared → Prop), Q (.int (g i) s.toks) { s with toks := s.toks + 1 } → wpAny (model X.prog X.w) X.A (f (.int i t)) Q E s) :
    UnR X f (rU fun i => .int (g i)) := by
  intro pins s σ H x v Q I rx h
  obtain ⟨i, rfl, q⟩ := h
  obtain ⟨t, rfl⟩ := rx
  exact rule i t s _ _ ⟨.int (g i), H, I.tok _, ⟨_, rfl⟩, q⟩
theorem un_neg : UnR X (unaryOp .USub) (rU fun i => .int (-i)) := unI fun _ _ _ _ _ q => neg_int q
end
section
variable {X : Cx} {a b c : Expr} {ta tb tc : TE} {pos : Pos}
theorem op_lt : OpR X (compareOp .Lt) (rI0 fun i j => .bl (decide (i < j))) := opB0 fun _ _ _ _ _ _ _ q => lt_int q
theorem op_gt : OpR X (compareOp .Gt) (rI0 fun i j => .bl (decide (j < i))) := opB0 fun _ _ _ _ _ _ _ q => gt_int q
theorem op_ge : OpR X (compareOp .GtE) (rI0 fun i j => .bl (decide (j ≤ i))) := opB0 fun _ _ _ _ _ _ _ q => ge_int q
/-- two rules for one operation: by cases -/
theorem OpR.or {f : Value → Value → Sem Value} {r r' : R2} (h : OpR X f r) (h' : OpR X f r') : OpR X f (fun x y H Q => r x y H Q ∨ r' x y H Q) := by
  intro pins s σ H x y v u Q I rx ry q
  rcases q with q | q
  · exact h pins s σ H x y v u Q I rx ry q
  · exact h' pins s σ H x y v u Q I rx ry q
/-- a comparison as a value; hm: nomark b, or (for in, not in) by with_unfolding_all rfl -/
theorem pe_cmpR {op : CmpOp} {r : R2} (ho : OpR X (compareOp op) r) (ha : PE X a ta) (hb : PE X b tb) (hm : behindInMarks op b = false) : PE X (.Compare a [op] [b] pos) (tOp r ta tb) := by
  intro pins s σ H Q I h
  exact wpAny_Compare1 (binT ha hb I h fun v u s2 x y H2 I2 rx ry q => ho pins s2 σ H2 x y v u Q I2 rx ry q) hm
/-- a reading of a value as a test -/
def tTest (t : TE) : TT := fun σ H Q => t σ H fun x H' => ∃ k, x = .bl k ∧ Q k H'
theorem pt_cmpR {op : CmpOp} {r : R2} (ho : OpR X (compareOp op) r) (ha : PE X a ta) (hb : PE X b tb) (hm : behindInMarks op b = false) : PT X (.Compare a [op] [b] pos) (tTest (tOp r ta tb)) := by
  intro pins s σ H Q I h
  refine wpAny_isTrue_Compare1 (thn (ha pins s σ H _ I h) fun v s1 ⟨x, H1, I1, r1, q1⟩ => thn (hb pins s1 σ H1 _ I1 q1) fun u s2 ⟨y, H2, I2, r2, q2⟩ =>
    thn (ho pins s2 σ H2 x y v u _ I2 r1 r2 q2) fun c s3 ⟨z, H3, I3, r3, k, e, q3⟩ => ?_) hm
  subst e
  cases r3
  exact wpAny_truthy_bool ⟨H3, I3, q3⟩
/-- a value's truth by the abstract heap -/
def TruV (K : PySem.W.Frag) (x : V) (H : Hp) (k : Bool) : Prop :=
  match x with
  | .non => k = false
  | .bl b => k = b
  | .int i => k = (i != 0)
  | .str y => y.length ≤ sizeLine ∧ k = ((y.length : Int) != 0)
  | .byt y => y.size ≤ sizeLine ∧ k = ((y.size : Int) != 0)
  | .ref p => (∃ xs, SqL K H p xs ∧ k = !xs.isEmpty) ∨ (∃ xs, SqT K H p xs ∧ k = !xs.isEmpty) ∨ ∃ kvs, H p = some (.dK kvs) ∧ k = !kvs.isEmpty
  | _ => False
theorem isEmpty_kv {κ : Type} {kvs : List (κ × V)} {vs : List (κ × Value)} (r : KV kvs vs) : (!vs.isEmpty) = !kvs.isEmpty := by
  cases r <;> rfl
theorem isEmpty_of {xs : List V} {its : List Value} (r : Vals xs its) : (!its.toArray.isEmpty) = !xs.isEmpty := by
  cases r <;> simp
theorem line63 : (sizeLine : Nat) < 2 ^ 63 := by rw [sizeLine_eq]; decide
theorem tru_ok : TruR X (fun x H Q => ∃ k, TruV X.K x H k ∧ Q k H) := by
  intro pins s σ H x v Q I rx h
  obtain ⟨k, e, q⟩ := h
  have hl := line63
  have hs : sizeLine = 16777216 := sizeLine_eq
  cases x with
  | non =>
    cases rx
    have e' : k = false := e
    subst e'
    exact truthy_none ⟨H, I, q⟩
  | bl b =>
    cases rx
    have e' : k = b := e
    subst e'
    exact wpAny_truthy_bool ⟨H, I, q⟩
  | int i =>
    obtain ⟨t, rfl⟩ := rx
    have e' : k = (i != 0) := e
    subst e'
    exact PySem.P.truthy_int ⟨H, I, q⟩
  | str y =>
    obtain ⟨t, rfl⟩ := rx
    obtain ⟨hy, e'⟩ : y.length ≤ sizeLine ∧ k = ((y.length : Int) != 0) := e
    subst e'
    exact PySem.P.truthy_str (by omega) ⟨H, I.tok _, q⟩
  | byt y =>
    obtain ⟨t, rfl⟩ := rx
    obtain ⟨hy, e'⟩ : y.size ≤ sizeLine ∧ k = ((y.size : Int) != 0) := e
    subst e'
    exact PySem.W.truthy_bytes (by omega) ⟨H, I.tok _, q⟩
  | ref p =>
    cases rx
    have e' : (∃ xs, SqL X.K H p xs ∧ k = !xs.isEmpty) ∨ (∃ xs, SqT X.K H p xs ∧ k = !xs.isEmpty) ∨ ∃ kvs, H p = some (.dK kvs) ∧ k = !kvs.isEmpty := e
    rcases e' with ⟨xs, hx, e'⟩ | ⟨xs, hx, e'⟩ | ⟨kvs, hx, e'⟩
    · subst e'
      obtain ⟨its, r, pl, hz⟩ := I.list hx
      have hlen := r.length
      exact wpAny_truthy_list pl.isList (by simp only [List.size_toArray]; omega) ⟨H, I.tok _, by rw [isEmpty_of r]; exact q⟩
    · subst e'
      obtain ⟨its, r, pl, hz⟩ := I.tuple hx
      have hlen := r.length
      exact truthy_tuple pl (by simp only [List.size_toArray]; omega) ⟨H, I.tok _, by rw [isEmpty_of r]; exact q⟩
    · subst e'
      obtain ⟨hz, hS, vs, r, m⟩ : kvs.length ≤ sizeLine ∧ (p == sysModules) = false ∧ ∃ vs, KV kvs vs ∧ s.heap.DictOf (mixKind X.prog X.w) p vs := I.hok p _ hx
      have hlen : kvs.length = vs.length := Paired.length r
      exact wpAny_truthy_dict hS m (by omega) ⟨H, I.tok _, by rw [isEmpty_kv r]; exact q⟩
  | _ => exact (show False from e).elim
/-- any expression whose test is its value's truth (a name, a call, a subscript, a field ..: he by fun _ => rfl) -/
theorem pt_truth (ha : PE X a ta) (he : ∀ whole, isTrue a X.env whole = (do let v ← whole; standAt a.pos; holding [v] (truthy v))) :
    PT X a (fun σ H Q => ta σ H fun x H' => ∃ k, TruV X.K x H' k ∧ Q k H') := by
  intro pins s σ H Q I h
  exact isTrue_plain (thn (ha pins s σ H _ I h) fun v s1 ⟨x, H1, I1, r1, q1⟩ => tru_ok pins s1 σ H1 x v Q I1 r1 q1) (he _)
theorem vals1 {x : V} {us : List Value} (r : Vals [x] us) : ∃ u, us = [u] ∧ RelV x u := by
  cases r with
  | cons r1 r2 => cases r2; exact ⟨_, rfl, r1⟩
theorem vals2 {x y : V} {us : List Value} (r : Vals [x, y] us) : ∃ u w', us = [u, w'] ∧ RelV x u ∧ RelV y w' := by
  cases r with
  | cons r1 r2 =>
    cases r2 with
    | cons r3 r4 => cases r4; exact ⟨_, _, rfl, r1, r3⟩
theorem call_max2 (hc : X.calm = true) : CallR X (.builtin "max") (fun xs H Q => ∃ i j, xs = [.int i, .int j] ∧ Q (.int (if j > i then j else i)) H) := by
  intro pins s σ H xs us Q I r h
  obtain ⟨i, j, rfl, q⟩ := h
  obtain ⟨u, w', rfl, ⟨t, rfl⟩, ⟨t', rfl⟩⟩ := vals2 r
  refine max_two_ints (I.ok.hd hc) fun h' tk k => ⟨_, H, I.kept k, ?_, q⟩
  by_cases hj : j > i
  · rw [if_pos hj, if_pos hj]; exact ⟨_, rfl⟩
  · rw [if_neg hj, if_neg hj]; exact ⟨_, rfl⟩
end
end L2
namespace L2
open PySem PySem.Spec PyProof.Rows
structure ObjM (h : Heap) (x dx C : Addr) (mA : Str → Option Value) : Prop where
  obj : h.get? x = some (PySem.W.instObj C dx)
  ns : h.Ns1 dx mA
  ne : dx ≠ x
theorem lookIn_ns {h : Heap} {dx : Addr} {mA : Str → Option Value} (n : h.Ns1 dx mA) : ∃ od, h.get? dx = some od ∧ ∀ name, PySem.W.lookIn name od = some (mA name) := by
  obtain ⟨o, es, ep, ho, hd, hk, _, hm⟩ := n
  refine ⟨o, ho, fun name => ?_⟩
  have e := hm name
  unfold nsFind findBy at e
  rw [← Array.find?_toList] at e
  unfold PySem.W.lookIn
  rw [hd]
  dsimp only
  split
  · rename_i y q
    rw [q] at e
    exact congrArg some e
  · rename_i q
    rw [q] at e
    have a : es.toList.any (·.refKey) = false := by
      rw [List.any_eq_false]
      intro y hy
      obtain ⟨z, t, hkey⟩ := hk y (Array.mem_toList_iff.mp hy)
      simp [DictEntry.refKey, hkey]
    have a' : ¬ es.toList.any (·.refKey) = true := by rw [a]; exact Bool.false_ne_true
    rw [if_neg a']
    exact congrArg some e
theorem ObjM.look {h : Heap} {x dx C : Addr} {mA : Str → Option Value} (I : ObjM h x dx C mA) : ∃ od, PySem.W.InstAt h x (PySem.W.instObj C dx) C (some od) ∧ ∀ name, PySem.W.lookIn name od = some (mA name) :=
  let ⟨od, ho, hl⟩ := lookIn_ns I.ns
  ⟨od, ⟨I.obj, rfl, rfl, ho⟩, hl⟩
structure Cls (K : PySem.W.Frag) (C : Addr) : Prop where
  pg : PySem.W.plainGet K C Str.empty = true
  hd : PySem.W.hasDictIn K C = true
  po : PySem.W.plainOver K C = true
  sa : PySem.W.findIn K (.ref C) "__setattr__" = some (some (.builtin "object.__setattr__"))
theorem Cls.get {K : PySem.W.Frag} {C : Addr} (c : Cls K C) (f : Str) : PySem.W.plainGet K C f = true := c.pg
/-- a constant of the class -/
structure Con (K : PySem.W.Frag) (C : Addr) (f : Str) (v : V) (u : Value) : Prop where
  at_ : PySem.W.findIn K (.ref C) f = some (some u)
  rel : RelV v u
  get : PySem.W.specialIn K u "__get__" = some none
  cp : PySem.W.copiedNames.contains f = false
/-- a method: a plain def of the class or of one above it -/
structure Meth (K : PySem.W.Frag) (C : Addr) (m : Str) (f : Addr) : Prop where
  at_ : PySem.W.findIn K (.ref C) m = some (some (.ref f))
  fn : PySem.W.isFn K (.ref f) = true
  kp : PySem.W.keepIn K (.ref f) = true
section
variable {X : Cx} {pins : List (Addr × Obj)} {σ : St} {H : Hp} {s : Shared} {a C dx : Addr} {fs : List (Str × V)} {f : Str} {v : V} {A : Around} {E : Value → Shared → Prop}
/-- a new instance, tracked, without attributes -/
theorem Inv.made (I : Inv X pins σ H s) : Inv X pins σ (upd (upd H s.heap.objs.size (.own (s.heap.objs.size + 1))) (s.heap.objs.size + 1) (.ins C s.heap.objs.size []))
    { s with heap := (s.heap.push PySem.W.emptyDict).push (PySem.W.instObj C s.heap.objs.size) } := by
  have e1 : (s.heap.push PySem.W.emptyDict).get? s.heap.objs.size = some PySem.W.emptyDict := Heap.get?_push_size s.heap rfl
  have e2 : ((s.heap.push PySem.W.emptyDict).push (PySem.W.instObj C s.heap.objs.size)).get? (s.heap.objs.size + 1) = some (PySem.W.instObj C s.heap.objs.size) := by
    have := Heap.get?_push_size (s.heap.push PySem.W.emptyDict) (o := PySem.W.instObj C s.heap.objs.size) rfl
    rwa [Heap.size_push] at this
  have e3 : (s.heap.push PySem.W.emptyDict).Ns s.heap.objs.size (fun _ => none) := ⟨PySem.W.emptyDict, #[], _, e1, rfl, (fun e he => absurd he (by simp)), fun _ => rfl⟩
  have I1 := I.laid (a := s.heap.objs.size) (o := .own (s.heap.objs.size + 1)) (h' := s.heap.push PySem.W.emptyDict) (t' := s.toks) (fun b u q => Heap.get?_push_of_some _ q) (Nat.le_refl _) ⟨_, e1⟩
  refine I1.laid (a := s.heap.objs.size + 1) (o := .ins C s.heap.objs.size []) (t' := s.toks) (fun b u q => Heap.get?_push_of_some _ q) (Nat.le_of_eq (Heap.size_push _ _)) ?_
  have ne : s.heap.objs.size ≠ s.heap.objs.size + 1 := Nat.ne_of_lt (Nat.lt_succ_self _)
  refine ⟨by rw [upd_ne ne, upd_same], Nat.zero_le _, ne, e2, fun _ => none, (Heap.Ns1.of_empty e3).at fun o q => Heap.get?_push_of_some _ q, fun _ => True.intro, fun y hy => absurd rfl hy⟩
end
section
variable {X : Cx} {pins : List (Addr × Obj)} {σ : St} {H : Hp} {s : Shared} {A : Around} {E : Value → Shared → Prop} {Q : Value → Shared → Prop} {c : Value} {b : Bool}
/-- the type of a value, as the fragment's deciders take it; for an instance its class -/
inductive TyOf (K : PySem.W.Frag) (H : Hp) : V → Value → Prop where
  | non : TyOf K H .non (.type "NoneType")
  | bl (x : Bool) : TyOf K H (.bl x) (.type "bool")
  | int (i : Int) : TyOf K H (.int i) (.type "int")
  | str (x : Str) : TyOf K H (.str x) (.type "str")
  | flt (x : UInt64) : TyOf K H (.flt x) (.type "float")
  | lst {a : Addr} {xs : List V} (e : H a = some (.lst xs)) : TyOf K H (.ref a) (.type "list")
  | frz {a : Addr} {o : Obj} {xs : List V} (e : H a = some (.frz o (.lst xs))) : TyOf K H (.ref a) (.type "list")
  | tup {a : Addr} {xs : List V} (e : H a = some (.tup xs)) : TyOf K H (.ref a) (.type "tuple")
  | dK {a : Addr} {kvs : List (Key × V)} (e : H a = some (.dK kvs)) : TyOf K H (.ref a) (.type "dict")
  | dT {a : Addr} {kvs : List (List Key × V)} (e : H a = some (.dT kvs)) : TyOf K H (.ref a) (.type "dict")
  | ins {a C dx : Addr} {fs : List (Str × V)} (e : H a = some (.ins C dx fs)) (cl : Cls K C) (ha : PySem.W.findIn K (.ref C) "__class__" = some (some (.builtin "object.__class__")))
      (hn : PySem.W.specialIn K (.builtin "object.__class__") "__get__" = some (some (.builtin "getset_descriptor.__get__"))) (htk : PySem.W.takesIn K (.builtin "object.__class__") = some true)
      (hm : PySem.W.mroIn K C (.type "object") = some true) : TyOf K H (.ref a) (.ref C)
end
end L2
namespace L2
open PySem PySem.Spec PyProof.Rows
structure Room (k : Nat) (A : Around) : Prop where
  hd : A.handled = none
  dp : A.depth + 3 * k + 5 < recursionLimit
  un : A.units + 16 * k + 200 < cLine
  gd : A.guards = some []
theorem Room.mono {j k : Nat} {A : Around} (r : Room k A) (h : j ≤ k) : Room j A := ⟨r.hd, by have := r.dp; omega, by have := r.un; omega, r.gd⟩
theorem Room.deeper {k : Nat} {A : Around} (r : Room (k + 1) A) (env : Env) : Room k (A.deeper env) :=
  ⟨r.hd, by have := r.dp; show A.depth + 1 + 3 * k + 5 < _; omega, by have := r.un; show A.units + 3 + 16 * k + 200 < _; omega, r.gd⟩
theorem Room.in1 {k : Nat} {A : Around} (r : Room (k + 1) A) : Room k A.in1 :=
  ⟨r.hd, by have := r.dp; show A.depth + 3 * k + 5 < _; omega, by have := r.un; show A.units + 1 + 16 * k + 200 < _; omega, r.gd⟩
theorem Room.depth {k : Nat} {A : Around} (r : Room k A) : A.depth < recursionLimit := by have := r.dp; omega
theorem Room.units {k : Nat} {A : Around} (r : Room k A) : A.units + 64 < cLine := by have := r.un; omega
def tNil : TA := fun _ H Q => Q [] H
def tCons (ta : TE) (tr : TA) : TA := fun σ H Q => ta σ H fun x H1 => tr σ H1 fun xs H2 => Q (x :: xs) H2
section
variable {X : Cx} {e : Expr} {es : List Expr} {te : TE} {t : TA} {pos : Pos}
theorem pa_nil : PA X [] tNil := fun _ _ _ _ H Q I h => Calls.spliced_nil ⟨[], H, I, .nil, h⟩
theorem pa_cons (ha : PE X e te) (hr : PA X es t) (hs : starEach (e :: es) X.env = (false, eval e X.env) :: starEach es X.env := by rfl) : PA X (e :: es) (tCons te t) := by
  intro pos pins s σ H Q I h
  rw [hs]
  show wpAny _ _ (spliced ((false, eval e X.env) :: backTo pos (starEach es X.env))) _ _ s
  refine Calls.spliced_cons (thn (ha pins s σ H _ I h) fun u s1 ⟨x, H1, I1, r1, q1⟩ => ?_)
  exact thn (hr pos pins s1 σ H1 _ I1 q1) fun us s2 ⟨xs, H2, I2, r2, q2⟩ => ⟨x :: xs, H2, I2, .cons r1 r2, q2⟩
/-- a tuple, a list of written items -/
def tTup (t : TA) : TE := fun σ H Q => t σ H fun xs H1 => xs.length ≤ sizeLine ∧ ∀ p, H1 p = none → Q (.ref p) (upd H1 p (.tup xs))
theorem pe_tup {x1} (h : PA X es t) : PE X (.Tuple es x1 pos) (tTup t) := by
  intro pins s σ H Q I hq
  refine wpAny_Tuple_spliced (thn (h pos pins s σ H _ I hq) fun us s1 ⟨xs, H1, I1, r, z, q⟩ => ⟨by rw [← r.length]; exact z, ?_⟩)
  have hf : H1 s1.heap.objs.size = none := I1.hok.fresh (Nat.le_refl _)
  refine ⟨.ref s1.heap.objs.size, upd H1 s1.heap.objs.size (.tup xs), I1.laid (t' := s1.toks) (fun b u e => Heap.get?_push_of_some _ e) (Nat.le_refl _) ?_, rfl, q _ hf⟩
  exact ⟨z, us, r, ⟨_, Heap.get?_push_size _ rfl, rfl, _, rfl⟩⟩
end
/-- a def's promise: the bound arguments in the parameters' order, the heap, the wanted end, the wanted exception -/
abbrev Sp := List V → Hp → VK → XK → Prop
/-- how an exception lies behind a call (file 08 gives it): the callers' frames, abstract heap and state ahead of the call, the wish, the exception, the state -/
abbrev CXT := List Env → Hp → Shared → XK → Value → Shared → Prop
/-- the state at a call -/
structure Env0 (P : Program) (w : World) (K : PySem.W.Frag) (mg : Str → Option Value) (base : Heap) (A : Around) (outer : List Env) (s : Shared) (H : Hp) : Prop where
  frames : A.frames = some outer
  mod : Mod K mg base
  bs : ∀ b o, base.get? b = some o → s.heap.get? b = some o ∧ H b = none
  bsz : base.objs.size ≤ s.heap.objs.size
  funs : s.heap.FunFrames base outer
  frf : ∀ b ∈ frs outer, H b = none
  hok : HOk P w H s.heap
  bare : AllBare s.gens
/-- a call's end -/
def CE (outer : List Env) (P : Program) (w : World) (H : Hp) (s : Shared) (Q : VK) (u : Value) (s' : Shared) : Prop :=
  ∃ v H', s'.os = s.os ∧ AllBare s'.gens ∧ Un (frs outer) [] H H' s.heap s'.heap ∧ HOk P w H' s'.heap ∧ RelV v u ∧ Q v H'
def CR (CX : CXT) (outer : List Env) (P : Program) (w : World) (H : Hp) (s : Shared) (Q : VK) (E : XK) (r : Result) (s' : Shared) : Prop :=
  match r with
  | .ok (.ret u) => CE outer P w H s Q u s'
  | .ok _ => False
  | .error e => CX outer H s E e s'
structure FnOk (P : Program) (w : World) (K : PySem.W.Frag) (mg : Str → Option Value) (base : Heap) (CX : CXT) (k : Nat) (f : Addr) (fd : FuncData) (ps : List Str) (sp : Sp) : Prop where
  len : ∀ vs H Q E, sp vs H Q E → vs.length = ps.length
  run : ∀ (A : Around) (outer : List Env) (s : Shared) (H : Hp) (args : Args) (us : List Value) (vs : List V) (Q : VK) (E : XK), Room k A → Env0 P w K mg base A outer s H → BindsTo s fd args (ps.zip us) → Vals vs us → sp vs H Q E →
    codeAny (model P w) A (.call (.ref f) args) (CR CX outer P w H s Q E) s
theorem FnOk.mono {P : Program} {w : World} {K : PySem.W.Frag} {mg : Str → Option Value} {base : Heap} {CX : CXT} {j k : Nat} {f : Addr} {fd : FuncData} {ps : List Str} {sp : Sp} (F : FnOk P w K mg base CX j f fd ps sp) (h : j ≤ k) :
    FnOk P w K mg base CX k f fd ps sp := ⟨F.len, fun A outer s H args us vs Q E hr => F.run A outer s H args us vs Q E (hr.mono h)⟩
/-- a weaker promise -/
theorem FnOk.imp {P : Program} {w : World} {K : PySem.W.Frag} {mg : Str → Option Value} {base : Heap} {CX : CXT} {k : Nat} {f : Addr} {fd : FuncData} {ps : List Str} {sp sp' : Sp} (F : FnOk P w K mg base CX k f fd ps sp)
    (h : ∀ vs H Q E, sp' vs H Q E → sp vs H Q E) : FnOk P w K mg base CX k f fd ps sp' :=
  ⟨fun vs H Q E q => F.len vs H Q E (h _ _ _ _ q), fun A outer s H args us vs Q E hr he hb hv hs => F.run A outer s H args us vs Q E hr he hb hv (h _ _ _ _ hs)⟩
theorem Env0.in1 {P : Program} {w : World} {K : PySem.W.Frag} {mg : Str → Option Value} {base : Heap} {A : Around} {outer : List Env} {s : Shared} {H : Hp} (e : Env0 P w K mg base A outer s H) :
    Env0 P w K mg base A.in1 outer s H := ⟨e.frames, e.mod, e.bs, e.bsz, e.funs, e.frf, e.hok, e.bare⟩
section
variable {X : Cx} {pins : List (Addr × Obj)} {σ : St} {H : Hp} {s s' : Shared}
/-- from a body: what a callee wants -/
theorem Inv.env0 (I : Inv X pins σ H s) : Env0 X.prog X.w X.K X.mg X.base X.A X.stack s H :=
  ⟨I.ok.frames, I.ok.mod, I.bs, Nat.le_trans I.ok.bsz I.sz, I.stack, I.stkFree, I.hok, I.bare⟩
/-- behind a call -/
theorem Inv.after {Q : VK} {u : Value} (I : Inv X pins σ H s) (h : CE X.stack X.prog X.w H s Q u s') : EP X pins σ Q u s' := by
  obtain ⟨v, H', os, bare, un, hok, r, q⟩ := h
  obtain ⟨hh, g, d, t, os'⟩ := s'
  obtain rfl : os' = s.os := os
  exact ⟨v, H', I.call (h' := hh) (g' := g) (d' := d) (t' := t) (ch := []) un hok bare (fun b z => absurd z (by simp)), r, q⟩
end
/-- f(..): the written arguments, then the defaults dvs; E: what is wanted of an exception -/
def tCall (sp : Sp) (dvs : List V) (E : XK) (t : TA) : TE := fun σ H Q => t σ H fun vs H1 => sp (vs ++ dvs) H1 Q E
/-- how the parameters are bound: us the positional arguments, kw the keywords' values by name, ds the defaults that fill up -/
def Binds (K : PySem.W.Frag) (fd : FuncData) (ps : List Str) (ds : List Value) : Prop :=
  ∀ (s : Shared) (us : List Value), K.In s.heap → (us ++ ds).length = ps.length → BindsTo s fd ⟨us, []⟩ (ps.zip (us ++ ds))
/-- every parameter is given -/
theorem Binds.all {K : PySem.W.Frag} {fd : FuncData} {ps : List Str} (h : ∀ us : List Value, us.length = ps.length → bindArgs fd ⟨us, []⟩ = pure (ps.zip us)) : Binds K fd ps [] := fun s us _ hl => by
  rw [List.append_nil] at hl ⊢
  exact .of_eq (h us hl)
/-- an exception of a callee reaches what this body wants of exceptions -/
def Passes (CX : CXT) (X : Cx) (E : XK) : Prop := ∀ (pins : List (Addr × Obj)) (σ : St) (H : Hp) (s : Shared) (e : Value) (s' : Shared), Inv X pins σ H s → CX X.stack H s E e s' → X.xe e s'
section
variable {X : Cx} {CX : CXT} {k : Nat} {f C : Addr} {fd : FuncData} {ps : List Str} {sp : Sp} {dvs : List V} {ds : List Value} {E : XK} {x m : Str} {p pos apos : Pos} {e o : Expr} {es : List Expr} {ta : TE} {t : TA}
/-- the callee runs -/
theorem run_fn {pins : List (Addr × Obj)} {σ : St} {H : Hp} {s : Shared} {Q : VK} {us : List Value} {vs : List V} (F : FnOk X.prog X.w X.K X.mg X.base CX k f fd ps sp) (hr : Room k X.A) (hb : Binds X.K fd ps ds) (hd : Vals dvs ds) (hx : Passes CX X E)
    (I : Inv X pins σ H s) (r : Vals vs us) (h : sp (vs ++ dvs) H Q E) : wpAny (model X.prog X.w) X.A (call (.ref f) us) (EP X pins σ Q) X.xe s := by
  have r2 : Vals (vs ++ dvs) (us ++ ds) := r.append hd
  have hl : (us ++ ds).length = ps.length := by rw [← r2.length]; exact F.len _ _ _ _ h
  refine wpAny_call (codeAny_mono (F.run X.A X.stack s H ⟨us, []⟩ (us ++ ds) (vs ++ dvs) Q E hr I.env0 (hb s us I.kIn hl) r2 h) fun r s' hq => ?_)
  cases r with
  | error e => exact hx pins σ H s e s' I hq
  | ok fl =>
    cases fl with
    | ret u => exact I.after hq
    | next => exact False.elim hq
    | brk => exact False.elim hq
    | cont => exact False.elim hq
theorem pe_call (F : FnOk X.prog X.w X.K X.mg X.base CX k f fd ps sp) (hr : Room k X.A) (hg : Gl X x) (hm : X.mg x = some (.ref f)) (hk : PySem.W.keepIn X.K (.ref f) = true) (hb : Binds X.K fd ps ds) (hd : Vals dvs ds) (hx : Passes CX X E)
    (ha : PA X (e :: es) t) (hdb : (x == ("__debug__" : Str)) = false := by decide) (he : starEach (e :: es) X.env = (false, eval e X.env) :: starEach es X.env := by rfl) (hpl : (backTo pos (starEach es X.env)).any (·.1) = false := by rfl) :
    PE X (.Call (.Name x p) (e :: es) [] pos) (tCall sp dvs E t) := by
  intro pins s σ H Q I h
  refine wpAny_Call_Name_kw (ld_glob I hg hm ?_ hdb)
  refine PySem.W.callWith_K (h₀ := X.base) I.ok.mod.kin hk (thn (ha pos pins s σ H _ I h) fun us s1 ⟨vs, H1, I1, r, q⟩ => ⟨I1.kIn, ?_⟩) he hpl
  exact run_fn F hr hb hd hx I1 r q
/-- what a class must have to be made -/
structure Mk (K : PySem.W.Frag) (C f : Addr) : Prop where
  makes : PySem.W.makesIn K C = true
  init : PySem.W.findIn K (.ref C) "__init__" = some (some (.ref f))
  fn : PySem.W.isFn K (.ref f) = true
  kp : PySem.W.keepIn K (.ref C) = true
end
section
variable {X : Cx} {CX : CXT} {k : Nat} {f C : Addr} {fd : FuncData} {ps ks : List Str} {sp : Sp} {E : XK} {x m : Str} {p pos apos kpos : Pos} {e o : Expr} {es : List Expr} {kws : List Keyword} {te ta : TE} {t tk : TA} {nm : Option Str}
/-- how a call with keywords binds: g puts the positional values us and the keywords' values ws (names ks) in the parameters' order, defaults among them -/
structure KBinds (K : PySem.W.Frag) (fd : FuncData) (ps ks : List Str) (g : List Value → List Value → List Value) (gV : List V → List V → List V) : Prop where
  to : ∀ (s : Shared) (us ws : List Value), K.In s.heap → (g us ws).length = ps.length → BindsTo s fd ⟨us, ks.zip ws⟩ (ps.zip (g us ws))
  rel : ∀ {vs : List V} {us : List Value} {zs : List V} {ws : List Value}, Vals vs us → Vals zs ws → Vals (gV vs zs) (g us ws)
variable {g : List Value → List Value → List Value} {gV : List V → List V → List V}
end
/-- names: the parameters first -/
structure FnScope (N P : List Str) (sc : Scope) : Prop where
  kind : sc.kind = .function
  co : sc.isCoroutine = false
  gen : sc.isGenerator = false
  nd : N.Nodup
  pre : N.take P.length = P
  par : ∀ x ∈ P, sc.names.lookup x = some .local ∨ sc.names.lookup x = some .cell
  nofree : ∀ y ∈ sc.names, y.2 ≠ .free
theorem bindL_out {kindOf : Str → Option NameKind} {x : Str} : ∀ {binds : List (Str × Value)} {m : Str → Option Value}, (∀ v, (x, v) ∉ binds) → bindL kindOf binds m x = m x
  | [], _, _ => rfl
  | (n, v) :: r, m, h => by
    unfold bindL
    rw [bindL_out fun w hw => h w (List.mem_cons_of_mem _ hw)]
    split
    · have : x ≠ n := by rintro rfl; exact h v List.mem_cons_self
      simp [this]
    · rfl
theorem bindC_out {kindOf : Str → Option NameKind} {x : Str} : ∀ {binds : List (Str × Value)} {m : Str → Option Value}, (∀ v, (x, v) ∉ binds) → bindC kindOf binds m x = m x
  | [], _, _ => rfl
  | (n, v) :: r, m, h => by
    unfold bindC
    rw [bindC_out fun w hw => h w (List.mem_cons_of_mem _ hw)]
    split
    · rfl
    · have : x ≠ n := by rintro rfl; exact h v List.mem_cons_self
      simp [this]
theorem bindL_get {kindOf : Str → Option NameKind} {x : Str} {v : Value} : ∀ {P : List Str} {vs : List Value} {i : Nat} {m : Str → Option Value}, P.Nodup → P[i]? = some x → vs[i]? = some v → kindOf x = some .local →
    bindL kindOf (P.zip vs) m x = some v
  | [], _, _, _, _, h, _, _ => by simp at h
  | _ :: _, [], _, _, _, _, h, _ => by simp at h
  | p :: P, w :: vs, 0, m, nd, h1, h2, hk => by
    simp at h1 h2; subst h1; subst h2
    show bindL kindOf ((p, w) :: P.zip vs) m p = _
    unfold bindL
    rw [bindL_out fun v hv => (List.nodup_cons.mp nd).1 (List.of_mem_zip hv).1, if_pos hk]
    simp
  | p :: P, w :: vs, i + 1, m, nd, h1, h2, hk => by
    show bindL kindOf ((p, w) :: P.zip vs) m x = _
    unfold bindL
    exact bindL_get (i := i) (List.nodup_cons.mp nd).2 (by simpa using h1) (by simpa using h2) hk
theorem bindC_get {kindOf : Str → Option NameKind} {x : Str} {v : Value} : ∀ {P : List Str} {vs : List Value} {i : Nat} {m : Str → Option Value}, P.Nodup → P[i]? = some x → vs[i]? = some v → kindOf x ≠ some .local →
    bindC kindOf (P.zip vs) m x = some v
  | [], _, _, _, _, h, _, _ => by simp at h
  | _ :: _, [], _, _, _, _, h, _ => by simp at h
  | p :: P, w :: vs, 0, m, nd, h1, h2, hk => by
    simp at h1 h2; subst h1; subst h2
    show bindC kindOf ((p, w) :: P.zip vs) m p = _
    unfold bindC
    rw [bindC_out fun v hv => (List.nodup_cons.mp nd).1 (List.of_mem_zip hv).1, if_neg hk]
    simp
  | p :: P, w :: vs, i + 1, m, nd, h1, h2, hk => by
    show bindC kindOf ((p, w) :: P.zip vs) m x = _
    unfold bindC
    exact bindC_get (i := i) (List.nodup_cons.mp nd).2 (by simpa using h1) (by simpa using h2) hk
/-- the names' values at the entry -/
def start (N : List Str) (vs : List V) : St := vs.map some ++ List.replicate (N.length - vs.length) none
/-- the context of a def's body, at its entry; an exception leaves the frame, then lies as CX says -/
def cxOf (CX : CXT) (P : Program) (w : World) (K : PySem.W.Frag) (mg : Str → Option Value) (base : Heap) (N : List Str) (qual : Str) (scope : Scope) (f : Addr) (cd : Value) (A : Around) (outer : List Env) (s : Shared) (H : Hp) (E : XK) : Cx where
  prog := P
  w := w
  K := K
  mg := mg
  base := base
  A := A.deeper (envOfC qual scope s.heap.objs.size f cd)
  N := N
  s_0 := s
  H_0 := H
  env := envOfC qual scope s.heap.objs.size f cd
  outer := outer
  stack := envOfC qual scope s.heap.objs.size f cd :: outer
  ex := []
  calm := true
  fn := fun _ => true
  pn := []
  xe := fun e s' => wpAny (model P w) (A.deeper (envOfC qual scope s.heap.objs.size f cd)) (leaving (envOfC qual scope s.heap.objs.size f cd) e) (fun _ s'' => CX outer H s E e s'') (fun e' s'' => CX outer H s E e' s'') s'
theorem cell_has {sc : Scope} {n : Nat} {x : Str} (h : sc.names.lookup x = some .cell) : ∃ c, (cellsFrom n sc.names []).lookup x = some c := by
  have q := PySem.W.cellsFrom_some sc.names n [] (.inl h)
  exact Option.isSome_iff_exists.mp q
theorem inv_start {CX : CXT} {P : Program} {w : World} {K : PySem.W.Frag} {mg : Str → Option Value} {base : Heap} {N ps : List Str} {qual : Str} {scope : Scope} {f : Addr} {cd : Value} {A : Around} {outer : List Env} {s s1 : Shared} {H : Hp} {E : XK} {us : List Value} {vs : List V}
    (S : FnScope N ps scope) (hd : A.handled = none) (e0 : Env0 P w K mg base A outer s H) (hl : vs.length = ps.length) (r : Vals vs us)
    (x : InCallC s s.heap.objs.size (bindL (envOfC qual scope s.heap.objs.size f cd).kindOf (ps.zip us) fun _ => none) (cellsFrom (s.heap.objs.size + 1) scope.names []) (bindC (envOfC qual scope s.heap.objs.size f cd).kindOf (ps.zip us) fun _ => none) s1) :
    Inv (cxOf CX P w K mg base N qual scope f cd A outer s H E) [] (start N vs) H s1 := by
  have hpl : ps.length ≤ N.length := by have := congrArg List.length S.pre; rw [List.length_take] at this; omega
  obtain ⟨h1, tk, rfl, hk⟩ := x.done
  have noA : ∀ b : Addr, b ∉ (cxOf CX P w K mg base N qual scope f cd A outer s H E).ex := fun b z => absurd (show b ∈ ([] : List Addr) from z) (by simp)
  refine ⟨⟨e0.mod, S.kind, rfl, rfl, Nat.le_refl _, fun y z c h1 h2 => ?_, fun y hy => ?_, fun y c _ h => ?_, fun _ => hd, Around.frames_deeper e0.frames, .inr ⟨rfl, rfl⟩, fun b z => absurd z (noA b), e0.bs, e0.bsz, fun b _ _ => noA b, fun b z => absurd z (noA b), e0.funs, e0.frf⟩,
    rfl, e0.bare, Un.kept hk, ⟨_, x.toInCall.ns, fun i y v h1 h2 h3 => ?_⟩, fun y c h => ⟨_, x.cell y c h⟩, e0.hok.fresh (Nat.le_refl _), fun y c h => ?_, fun p hp => absurd (show p ∈ ([] : List (Addr × Obj)) from hp) (by simp), e0.hok.kept hk, ?_⟩
  · exact name_of_addr x.apart (PySem.mem_of_lookup h1) (PySem.mem_of_lookup h2)
  · have hy : scope.names.lookup y = some .cell ∨ scope.names.lookup y = some .free := hy
    rcases hy with hy | hy
    · exact cell_has hy
    · exact absurd rfl (S.nofree _ (PySem.mem_of_lookup hy))
  · exact Nat.le_of_lt (x.above y c (PySem.mem_of_lookup h))
  · have hi : i < vs.length := by
      unfold start at h2
      by_cases hi : i < vs.length
      · exact hi
      · rw [List.getElem?_append_right (by simpa using hi)] at h2
        rw [List.getElem?_replicate] at h2
        split at h2 <;> cases h2
    have ha : vs[i]? = some v := by
      unfold start at h2
      rw [List.getElem?_append_left (by simpa using hi), List.getElem?_map] at h2
      cases e : vs[i]? with
      | none => rw [e] at h2; cases h2
      | some a => rw [e] at h2; cases h2; rfl
    obtain ⟨u, hu, rv⟩ := r.get ha
    have hp : ps[i]? = some y := by
      rw [← S.pre, List.getElem?_take_of_lt (by omega)]; exact h1
    have ndP : ps.Nodup := by rw [← S.pre]; exact S.nd.sublist (List.take_sublist _ _)
    refine ⟨u, rv, ?_⟩
    rcases S.par y (List.mem_of_getElem? hp) with k | k
    · exact .inl ⟨k, bindL_get ndP hp hu k⟩
    · obtain ⟨c, e⟩ := cell_has (n := s.heap.objs.size + 1) k
      refine .inr ⟨.inl k, c, e, ?_⟩
      have q := x.cell y c e
      rw [bindC_get ndP hp hu (by show scope.names.lookup y ≠ _; rw [k]; decide)] at q
      exact q
  · exact e0.hok.fresh (Nat.le_of_lt (x.above y c (PySem.mem_of_lookup h)))
  · unfold start
    show _ = N.length
    rw [List.length_append, List.length_map, List.length_replicate]
    omega
/-- THE RULE: a def (or a method) of the text, by its body. The body's reading t is chosen for each entry; it is run at the parameters' values -/
theorem fn_of {CX : CXT} {P : Program} {w : World} {K : PySem.W.Frag} {mg : Str → Option Value} {base : Heap} {k : Nat} {f : Addr} {name qual : Str} {params : Arguments} {body : List Stmt} {scope : Scope} {dV kV doc pm cdv ct oc : Value} {an od : Option Addr}
    {osl : Array (Option Value)} {N ps : List Str} {sp : Sp} (lk : K.lookup f = some ⟨oc, od, .func (PySem.W.fnOf name qual params body scope dV kV doc pm an cdv ct), osl⟩) (hcd : PySem.W.codeIn K cdv qual = true) (S : FnScope N ps scope)
    (len : ∀ vs H Q E, sp vs H Q E → vs.length = ps.length)
    (hbody : ∀ (A : Around) (outer : List Env) (s : Shared) (H : Hp) (vs : List V) (Q : VK) (E : XK), Room k (A.deeper (envOfC qual scope s.heap.objs.size f cdv)) → sp vs H Q E →
      ∃ t, PSs (cxOf CX P w K mg base N qual scope f cdv A outer s H E) body t ∧ t { nx := fun _ H' => Q .non H', rt := Q } (start N vs) H) :
    FnOk P w K mg base CX (k + 1) f (PySem.W.fnOf name qual params body scope dV kV doc pm an cdv ct) ps sp := by
  refine ⟨len, fun A outer s H args us vs Q E hr e0 hb r hsp => ?_⟩
  have hl := len _ _ _ _ hsp
  have KX : K.In s.heap := e0.mod.kin.keeps fun b o e => (e0.bs b o e).1
  have lim : s.heap.NoLimit := e0.mod.nolimit.keeps fun b o e => (e0.bs b o e).1
  have hkind : ∀ y ∈ ps.zip us, scope.names.lookup y.1 = some .local ∨ (scope.names.lookup y.1 = some .cell ∧ ((cellsFrom (s.heap.objs.size + 1) scope.names []).lookup y.1).isSome = true) := fun ⟨n, v⟩ hy => by
    rcases S.par n (List.of_mem_zip hy).1 with q | q
    · exact .inl q
    · exact .inr ⟨q, PySem.W.cellsFrom_some _ _ _ (.inl q)⟩
  refine codeAny_call_function hr.depth (KX _ _ lk) rfl S.co S.gen rfl (PySem.W.codeRec_of KX hcd) (hb _ _ _ _ ?_)
  refine wpAny_newFunctionEnv_cells S.kind hkind fun env he s1 x => ?_
  subst he
  refine ⟨lim.keeps x.toInCall.keep, codeAny_func ?_⟩
  obtain ⟨t, ht, hq⟩ := hbody A outer s H vs Q E (hr.deeper _) hsp
  have I : Inv (cxOf CX P w K mg base N qual scope f cdv A outer s H E) [] (start N vs) H s1 := inv_start S hr.hd e0 hl r x
  refine wpAny_mono (ht [] s1 (start N vs) H _ I hq) (fun fl s' hs => ?_) fun e s' hs => hs
  have fin : ∀ {σ' : St} {H' : Hp} {v : V} {u : Value}, Inv (cxOf CX P w K mg base N qual scope f cdv A outer s H E) [] σ' H' s' → RelV v u → Q v H' → CE outer P w H s Q u s' :=
    fun {σ' H' v u} J rv q => ⟨v, H', J.os, J.bare, J.base, J.hok, rv, q⟩
  cases fl with
  | ret u =>
    obtain ⟨v, σ', H', J, rv, q⟩ := hs
    exact fin J rv q
  | next =>
    obtain ⟨σ', H', J, q⟩ := hs
    exact fin (v := V.non) (u := Value.none) J rfl q
  | brk =>
    obtain ⟨_, _, _, q⟩ := hs
    exact False.elim q
  | cont =>
    obtain ⟨_, _, _, q⟩ := hs
    exact False.elim q
end L2
namespace L2
open PySem PySem.Spec PyProof.Rows
section
variable {X : Cx} {x : Str} {p pos : Pos} {e : Expr} {es : List Expr} {t : TA} {id T : String} {r : List V → Hp → VK → Prop}
def tCB (r : List V → Hp → VK → Prop) (t : TA) : TE := fun σ H Q => t σ H fun vs H1 => r vs H1 Q
/-- f(e, ..), f a built-in function -/
theorem pe_callB (hc : CallR X (.builtin id) r) (hg : Gl X x) (hm : X.mg x = none) (hv : bootBuiltins x = some (.builtin id)) (ha : PA X (e :: es) t) (hn : x ≠ "__name__" := by decide) (hdb : (x == ("__debug__" : Str)) = false := by decide)
    (he : starEach (e :: es) X.env = (false, eval e X.env) :: starEach es X.env := by rfl) (hpl : (backTo pos (starEach es X.env)).any (·.1) = false := by rfl) : PE X (.Call (.Name x p) (e :: es) [] pos) (tCB r t) := by
  intro pins s σ H Q I h
  refine wpAny_Call_Name_kw (ld_blt I hg hm hv ?_ hn hdb)
  exact PyProof.Rows.callWith_builtin1 (thn (ha pos pins s σ H _ I h) fun us s1 ⟨vs, H1, I1, r1, q1⟩ => hc pins s1 σ H1 vs us Q I1 r1 q1) he hpl
/-- T(e, ..), T a built-in type -/
theorem pe_callTy (hc : CallR X (.type T) r) (hg : Gl X x) (hm : X.mg x = none) (hv : bootBuiltins x = some (.type T)) (ha : PA X (e :: es) t) (hn : x ≠ "__name__" := by decide) (hdb : (x == ("__debug__" : Str)) = false := by decide)
    (he : starEach (e :: es) X.env = (false, eval e X.env) :: starEach es X.env := by rfl) (hpl : (backTo pos (starEach es X.env)).any (·.1) = false := by rfl) : PE X (.Call (.Name x p) (e :: es) [] pos) (tCB r t) := by
  intro pins s σ H Q I h
  refine wpAny_Call_Name_kw (ld_blt I hg hm hv ?_ hn hdb)
  exact PyProof.Rows.callWith_type1 (thn (ha pos pins s σ H _ I h) fun us s1 ⟨vs, H1, I1, r1, q1⟩ => hc pins s1 σ H1 vs us Q I1 r1 q1) he hpl
end
end L2
namespace HT
open PySem PyProof.Rows
section
open PySem.SeqAt
open PySem.AutoSeq1 (wpAny_loadPart')
open PySem.MeetsSeq PySem.MeetsSeq2 PySem.MeetsSeq3
end
section
variable {prog : Program} {w : World} {A : Around} {E : Value → Shared → Prop} {s : Shared}
/-- t + u, t not empty -/
theorem cat_tup {t b : Addr} {vs ws : List Value} {Q : Value → Shared → Prop} (ht : IsTup s.heap t vs.toArray) (hb : IsTup s.heap b ws.toArray) (hv : vs ≠ [])
    (h1 : ws = [] → Q (.ref t) s) (h2 : ws ≠ [] → Q (.ref s.heap.objs.size) { s with heap := s.heap.push { cls := .type "tuple", data := .seq (vs ++ ws).toArray } })
    (hsz : vs.length + ws.length ≤ sizeLine) : wpAny (model prog w) A (binaryOp .Add (.ref t) (.ref b)) Q E s := by
  obtain ⟨⟨cls, dd, data, sl⟩, ho, hc, n, hd⟩ := id ht
  obtain ⟨⟨cls2, dd2, data2, sl2⟩, ho2, hc2, n2, hd2⟩ := id hb
  simp only at hc hd hc2 hd2
  subst hc hd hc2 hd2
  have e : vs.toArray ++ ws.toArray = (vs ++ ws).toArray := by simp
  by_cases hw : ws = []
  · exact concat_meets ⟨_, ho, rfl⟩ ⟨_, ho2, rfl⟩ noFill_tuple_add seq_tuple_add PySem.F.slot_tuple_add PySem.F.entry_tuple_add (PySem.F.args_tuple_add_2 _ _)
      (tuple_addW1 t b vs.toArray ws.toArray n n2 dd dd2 sl sl2 (by simpa using hv) (by simp [hw])) ⟨ho, ho2, h1 hw⟩
  · refine concat_meets ⟨_, ho, rfl⟩ ⟨_, ho2, rfl⟩ noFill_tuple_add seq_tuple_add PySem.F.slot_tuple_add PySem.F.entry_tuple_add (PySem.F.args_tuple_add_2 _ _)
      (tuple_addW2 t b vs.toArray ws.toArray n n2 dd dd2 sl sl2 (by simpa using hv) (by simpa using hw) (by rw [List.size_toArray, List.size_toArray]; exact hsz)) ⟨ho, ho2, ?_⟩
    rw [e]
    exact h2 hw
/-- a slice's bound as a place among n (d where it is left out) -/
def sIx (n d : Nat) : Option Int → Nat
  | none => d
  | some v => if v < 0 then (v + (n : Int)).toNat else min v.toNat n
theorem sIx_nat (n d k : Nat) : sIx n d (some (k : Int)) = min k n := by
  show (if (k : Int) < 0 then ((k : Int) + (n : Int)).toNat else min (k : Int).toNat n) = min k n
  rw [if_neg (by omega), Int.toNat_natCast]
theorem sIx_le (n d : Nat) (hd : d ≤ n) (o : Option Int) : sIx n d o ≤ n := by
  cases o with
  | none => exact hd
  | some v =>
    show (if v < 0 then (v + (n : Int)).toNat else min v.toNat n) ≤ n
    by_cases hv : v < 0
    · rw [if_pos hv]; omega
    · rw [if_neg hv]; exact Nat.min_le_right _ _
theorem clip_eq (v : Int) (n d : Nat) : (if v < 0 then max (v + (n : Int)) 0 else min v (n : Int)) = ((sIx n d (some v) : Nat) : Int) := by
  show (if v < 0 then max (v + (n : Int)) 0 else min v (n : Int)) = (((if v < 0 then (v + (n : Int)).toNat else min v.toNat n) : Nat) : Int)
  by_cases hv : v < 0
  · simp only [if_pos hv]; omega
  · simp only [if_neg hv]; omega
theorem adjust_gen (lo hi : Option Int) (n : Nat) : Builtin.Slice.sliceAdjust lo hi 1 (n : Int) = (((sIx n 0 lo : Nat) : Int), ((sIx n n hi : Nat) : Int)) := by
  have h1 : ¬ ((1 : Int) < 0) := by omega
  unfold Builtin.Slice.sliceAdjust
  simp only [h1, if_false]
  refine Prod.ext ?_ ?_
  · cases lo with
    | none => rfl
    | some v => exact clip_eq v n 0
  · cases hi with
    | none => rfl
    | some v => exact clip_eq v n n
theorem places_gen (i j : Nat) : Builtin.Slice.slicePlaces (i : Int) (j : Int) 1 = j - i := by
  unfold Builtin.Slice.slicePlaces
  have h1 : (1 : Int) > 0 := by omega
  simp only [h1, if_true, Int.ediv_one]
  split <;> omega
theorem slicePart_ {v : Value} {o : Option Int} {Q : Option Int → Shared → Prop} (p : IsPart v o) (h : Q o s) : wpAny (model prog w) A (Builtin.Slice.slicePartIndex v) Q E s := by
  cases p with
  | none => exact slicePart_none h
  | int i t => exact slicePart_int h
theorem sliceApplied_gen {sl : Addr} {vl vu : Value} {lo hi : Option Int} {n : Nat} {Q : Int × Int × Nat → Shared → Prop} (hs : s.heap.IsSliceOf sl vl vu .none) (pl : IsPart vl lo) (pu : IsPart vu hi)
    (h : Q (((sIx n 0 lo : Nat) : Int), 1, sIx n n hi - sIx n 0 lo) s) : wpAny (model prog w) A (Builtin.Slice.sliceApplied (.ref sl) (pure (n : Int))) Q E s := by
  obtain ⟨os, hos, hcs, hds⟩ := id hs
  unfold Builtin.Slice.sliceApplied Builtin.Slice.sliceFields
  refine wpAny_bind (wpAny_bind (wpAny_field hos hds (x := vl) rfl (wpAny_bind (wpAny_field hos hds (x := vu) rfl (wpAny_bind (wpAny_field hos hds (x := .none) rfl (wpAny_pure ?_)))))))
  refine wpAny_bind (slicePart_none ?_)
  show wpAny _ _ (if ((1 : Int) == 0) = true then _ else _) _ _ s
  rw [if_neg (by decide)]
  refine wpAny_bind (slicePart_ pl (wpAny_bind (slicePart_ pu (wpAny_bind (wpAny_pure ?_)))))
  show wpAny _ _ (match Builtin.Slice.sliceAdjust lo hi 1 (n : Int) with | (lo, hi) => pure (lo, (1 : Int), Builtin.Slice.slicePlaces lo hi 1)) _ _ s
  rw [adjust_gen lo hi n]
  show wpAny _ _ (pure (((sIx n 0 lo : Nat) : Int), (1 : Int), Builtin.Slice.slicePlaces ((sIx n 0 lo : Nat) : Int) ((sIx n n hi : Nat) : Int) 1)) _ _ s
  rw [places_gen]
  exact wpAny_pure h
theorem pick_gen (xs : Array Value) (i k : Nat) : ((List.range k).filterMap fun (m : Nat) => xs[((i : Int) + (m : Int) * 1).toNat]?).toArray = ((xs.toList.drop i).take k).toArray := by
  have e : (fun (m : Nat) => xs[((i : Int) + (m : Int) * 1).toNat]?) = fun m => xs[i + m]? := by
    funext m
    have : ((i : Int) + (m : Int) * 1).toNat = i + m := by omega
    rw [this]
  rw [e]
  have := pick_run xs i k
  rw [List.filterMap_map] at this
  have e2 : ((fun x => xs[x]?) ∘ fun x => i + x) = fun m => xs[i + m]? := rfl
  rw [e2] at this
  rw [this]
theorem getItem_tuple_cut {t sl : Addr} {items : Array Value} {vl vu : Value} {lo hi : Option Int} {Q : Value → Shared → Prop} (ht : IsTup s.heap t items) (hs : s.heap.IsSliceOf sl vl vu .none) (pl : IsPart vl lo) (pu : IsPart vu hi)
    (hw : ¬ (sIx items.size 0 lo = 0 ∧ sIx items.size items.size hi = items.size))
    (h : Q (.ref s.heap.objs.size) { s with heap := s.heap.push { cls := .type "tuple", data := .seq ((items.toList.drop (sIx items.size 0 lo)).take (sIx items.size items.size hi - sIx items.size 0 lo)).toArray } })
    (hsz : items.size ≤ sizeLine) : wpAny (model prog w) A (getItem (.ref t) (.ref sl)) Q E s := by
  have htake : sizeOk (.seq ((items.toList.drop (sIx items.size 0 lo)).take (sIx items.size items.size hi - sIx items.size 0 lo)).toArray) := by
    show ((items.toList.drop (sIx items.size 0 lo)).take (sIx items.size items.size hi - sIx items.size 0 lo)).toArray.size ≤ sizeLine
    rw [List.size_toArray, List.length_take, List.length_drop, Array.length_toList]
    omega
  have hj : sIx items.size items.size hi ≤ items.size := sIx_le _ _ (Nat.le_refl _) hi
  obtain ⟨os, hos, hcs, hds⟩ := id hs
  have hTs : s.TypeIs (.ref sl) "slice" := ⟨os, hos, hcs⟩
  unfold getItem
  try with_reducible refine wpAny_holding ?_
  first | refine wpAny_bind (wpAny_pure ?_) | skip
  refine wpAny_bind (wpAny_sequenceKey ht.typeIs (by decide) ?_)
  refine wpAny_bind (wpAny_callSpecial?_slot (name := Str.ofString "__getitem__") ht.typeIs PyProof.Rows.slot_tuple_getitem
    (wpAny_call_entry PyProof.Rows.slot_tuple_getitem ht.typeIs entry_tuple_getitem ?_ (args_tuple_getitem _ _)))
  show wpAny _ _ (Builtin.Tuple.tupleItemsOf (.ref t) >>= _) _ _ s
  refine wpAny_bind (tupleItemsOf_ ht ?_)
  refine wpAny_bind (wpAny_typeOf hTs ?_)
  rw [if_pos (by decide)]
  refine wpAny_bind (sliceApplied_gen hs pl pu ?_)
  have hno : ¬ ((((sIx items.size 0 lo : Nat) : Int) == 0 && (1 : Int) == 1 && (sIx items.size items.size hi - sIx items.size 0 lo) == items.size) = true) := by
    intro q
    rw [Bool.and_eq_true, Bool.and_eq_true] at q
    have q1 : ((sIx items.size 0 lo : Nat) : Int) = 0 := eq_of_beq q.1.1
    have q2 : sIx items.size items.size hi - sIx items.size 0 lo = items.size := eq_of_beq q.2
    exact hw ⟨by omega, by omega⟩
  show wpAny _ _ (if (((sIx items.size 0 lo : Nat) : Int) == 0 && (1 : Int) == 1 && (sIx items.size items.size hi - sIx items.size 0 lo) == items.size) = true then _ else _) _ _ s
  rw [if_neg hno, pick_gen]
  first
    | exact wpAny_bind (m := Builtin.Tuple.tupleExact _) (wpAny_newObj_type (wpAny_pure ⟨_, rfl, wpAny_pure h⟩) htake)
    | exact wpAny_bind (m := Builtin.Tuple.tupleExact _) (wpAny_newObj_type (wpAny_bind (wpAny_pure (wpAny_pure ⟨_, rfl, wpAny_pure h⟩))) htake)
    | exact wpAny_bind (wpAny_bind (m := Builtin.Tuple.tupleExact _) (wpAny_newObj_type (wpAny_pure (wpAny_pure ⟨_, rfl, wpAny_pure h⟩)) htake))
    | exact wpAny_bind (wpAny_bind (m := Builtin.Tuple.tupleExact _) (wpAny_newObj_type (wpAny_pure ⟨_, rfl, wpAny_pure h⟩) htake))
end
end HT
namespace L2
open PySem PySem.Spec PyProof.Rows
abbrev TO := St → Hp → (Option Int → Hp → Prop) → Prop
/-- a slice's part (left out, or an int) -/
def PO (X : Cx) (e : Option Expr) (t : TO) : Prop :=
  ∀ (pins : List (Addr × Obj)) (s : Shared) (σ : St) (H : Hp) (Q : Option Int → Hp → Prop), Inv X pins σ H s → t σ H Q →
    wpAny (model X.prog X.w) X.A (evalPart e X.env) (fun u s' => ∃ o H', Inv X pins σ H' s' ∧ IsPart u o ∧ Q o H') X.xe s
def tNoPart : TO := fun _ H Q => Q none H
def tPart (t : TE) : TO := fun σ H Q => t σ H fun x H1 => ∃ i, x = .int i ∧ Q (some i) H1
section
variable {X : Cx} {e : Expr} {te : TE} {lo hi : Option Expr} {tl th : TO} {pos p2 : Pos}
theorem po_none : PO X none tNoPart := by
  intro pins s σ H Q I h
  rw [evalPart_none]
  exact wpAny_pure ⟨none, H, I, .none, h⟩
theorem po_some (h : PE X e te) : PO X (some e) (tPart te) := by
  intro pins s σ H Q I hw
  rw [evalPart_some]
  refine thn (h pins s σ H _ I hw) fun u s1 ⟨x, H1, I1, r1, q1⟩ => ?_
  obtain ⟨i, rfl, q⟩ := q1
  obtain ⟨t, rfl⟩ := r1
  exact ⟨some i, H1, I1, .int i t, q⟩
/-- what a slice of a value is, by values: the slice object stands at sl -/
def SlR (X : Cx) (r : V → Option Int → Option Int → Hp → VK → Prop) : Prop :=
  ∀ (pins : List (Addr × Obj)) (s : Shared) (σ : St) (H : Hp) (x : V) (v vl vu : Value) (lo hi : Option Int) (sl : Addr) (Q : VK), Inv X pins σ H s → RelV x v → s.heap.IsSliceOf sl vl vu .none → IsPart vl lo → IsPart vu hi → r x lo hi H Q →
    ∃ T id, typeLookup (.type T) "__getitem__" = pure (some (.builtin id)) ∧ s.TypeIs v T ∧ wpAny (model X.prog X.w) X.A (getItem v (.ref sl)) (EP X pins σ Q) X.xe s
theorem SlR.or {r r' : V → Option Int → Option Int → Hp → VK → Prop} (h : SlR X r) (h' : SlR X r') : SlR X (fun x lo hi H Q => r x lo hi H Q ∨ r' x lo hi H Q) := by
  intro pins s σ H x v vl vu lo hi sl Q I rx hs pl pu q
  rcases q with q | q
  · exact h pins s σ H x v vl vu lo hi sl Q I rx hs pl pu q
  · exact h' pins s σ H x v vl vu lo hi sl Q I rx hs pl pu q
def tSl (r : V → Option Int → Option Int → Hp → VK → Prop) (te : TE) (tl th : TO) : TE := fun σ H Q => te σ H fun x H1 => tl σ H1 fun l H2 => th σ H2 fun u H3 => r x l u H3 Q
/-- a[lo:hi], any a -/
theorem pe_slice {r : V → Option Int → Option Int → Hp → VK → Prop} (hr : SlR X r) (he : PE X e te) (hl : PO X lo tl) (hu : PO X hi th) : PE X (.Subscript e (.Slice lo hi none p2) pos) (tSl r te tl th) := by
  intro pins s σ H Q I h
  refine Subscript_ (thn (he pins s σ H _ I h) fun v s1 ⟨x, H1, I1, r1, q1⟩ => ?_)
  refine wpAny_Slice (thn (hl pins s1 σ H1 _ I1 q1) fun vl s2 ⟨l, H2, I2, pl, q2⟩ => thn (hu pins s2 σ H2 _ I2 q2) fun vu s3 ⟨u, H3, I3, pu, q3⟩ => ?_)
  rw [evalPart_none]
  refine wpAny_pure ?_
  have I4 : Inv X pins σ H3 { s3 with heap := s3.heap.push { cls := .type "slice", data := .fields #[vl, vu, .none] } } := I3.kept (t' := s3.toks) fun b ob q => Heap.get?_push_of_some _ q
  obtain ⟨T, id, hT, ht, hg⟩ := hr pins { s3 with heap := s3.heap.push { cls := .type "slice", data := .fields #[vl, vu, .none] } } σ H3 x v vl vu l u s3.heap.objs.size Q I4 r1 (Heap.IsSliceOf.new ..) pl pu q3
  show wpAny (model X.prog X.w) X.A (subscriptTail e (.Slice lo hi none p2) v (.ref s3.heap.objs.size)) (EP X pins σ Q) X.xe { s3 with heap := s3.heap.push { cls := .type "slice", data := .fields #[vl, vu, .none] } }
  exact tail_any (ops := [.ref s3.heap.objs.size, v]) ht hT hg (by with_unfolding_all rfl)
/-- the items of xs[lo:hi] -/
def cutV (xs : List V) (lo hi : Option Int) : List V := (xs.drop (HT.sIx xs.length 0 lo)).take (HT.sIx xs.length xs.length hi - HT.sIx xs.length 0 lo)
theorem cutV_length (xs : List V) (lo hi : Option Int) : (cutV xs lo hi).length ≤ xs.length := by
  unfold cutV
  rw [List.length_take, List.length_drop]
  omega
/-- t[lo:hi], not the whole of it (the whole would be t itself) -/
def rSlT (K : PySem.W.Frag) : V → Option Int → Option Int → Hp → VK → Prop := fun x lo hi H Q => ∃ a xs, x = .ref a ∧ SqT K H a xs ∧
  ¬ (HT.sIx xs.length 0 lo = 0 ∧ HT.sIx xs.length xs.length hi = xs.length) ∧ ∀ p, H p = none → Q (.ref p) (upd H p (.tup (cutV xs lo hi)))
theorem sl_tup : SlR X (rSlT X.K) := by
  intro pins s σ H x v vl vu lo hi sl Q I rx hs pl pu h
  obtain ⟨a, xs, rfl, hx, hw, q⟩ := h
  cases rx
  obtain ⟨its, r, ht, hz⟩ := I.tuple hx
  have hlen : its.toArray.size = xs.length := by rw [List.size_toArray]; exact r.length.symm
  refine ⟨"tuple", _, PyProof.Rows.slot_tuple_getitem.lookup, ht.typeIs, ?_⟩
  refine HT.getItem_tuple_cut ht hs pl pu (by rw [hlen]; exact hw) ?_ (by rw [hlen]; exact hz)
  rw [hlen]
  refine ⟨.ref s.heap.objs.size, _, I.laid (t' := s.toks) (o := .tup (cutV xs lo hi)) (fun b ob q => Heap.get?_push_of_some _ q) (Nat.le_refl _) ?_, rfl, q _ (I.hok.fresh (Nat.le_refl _))⟩
  exact ⟨Nat.le_trans (cutV_length xs lo hi) hz, _, (r.drop (HT.sIx xs.length 0 lo)).take (HT.sIx xs.length xs.length hi - HT.sIx xs.length 0 lo), IsTupP.new _ _⟩
/-- t + u, t not empty: u empty gives t itself -/
def rCatT (K : PySem.W.Frag) : R2 := fun x y H Q => ∃ a b xs ys, x = .ref a ∧ y = .ref b ∧ SqT K H a xs ∧ SqT K H b ys ∧ xs ≠ [] ∧ xs.length + ys.length ≤ sizeLine ∧
  (ys = [] → Q (.ref a) H) ∧ (ys ≠ [] → ∀ p, H p = none → Q (.ref p) (upd H p (.tup (xs ++ ys))))
theorem Vals.nil_iff {xs : List V} {us : List Value} (r : Vals xs us) : us = [] ↔ xs = [] := by
  cases r with
  | nil => simp
  | cons _ _ => simp
theorem op_catT : OpR X (binaryOp .Add) (rCatT X.K) := by
  intro pins s σ H x y v u Q I rx ry h
  obtain ⟨a, b, xs, ys, rfl, rfl, ha, hb, hx, hz, q1, q2⟩ := h
  cases rx
  cases ry
  obtain ⟨its, r1, p1, _⟩ := I.tuple ha
  obtain ⟨its2, r2, p2, _⟩ := I.tuple hb
  refine HT.cat_tup p1 p2 (fun z => hx (r1.nil_iff.mp z)) (fun z => ⟨.ref a, H, I, rfl, q1 (r2.nil_iff.mp z)⟩) (fun z => ?_) (by rw [← r1.length, ← r2.length]; exact hz)
  refine ⟨.ref s.heap.objs.size, _, I.laid (t' := s.toks) (o := .tup (xs ++ ys)) (fun b ob q => Heap.get?_push_of_some _ q) (Nat.le_refl _) ?_, rfl, q2 (fun w => z (r2.nil_iff.mpr w)) _ (I.hok.fresh (Nat.le_refl _))⟩
  exact ⟨by rw [List.length_append]; exact hz, _, r1.append r2, IsTupP.new _ _⟩
end
end L2
namespace L2
open PySem PySem.Spec PyProof.Rows
/-- the place that an index of any sign means -/
def ixN (n : Nat) (i : Int) : Option Nat := if 0 ≤ i then (if i < n then some i.toNat else none) else if -(n : Int) ≤ i then some (i + n).toNat else none
def atI {α : Type} (xs : List α) (i : Int) : Option α := (ixN xs.length i).bind fun j => xs[j]?
theorem ixN_seq {n : Nat} {i : Int} {j : Nat} (h : ixN n i = some j) : seqIndex? i n = some j ∧ j < n ∧ -(n : Int) ≤ i ∧ i < n := by
  unfold ixN at h
  by_cases h0 : 0 ≤ i
  · rw [if_pos h0] at h
    by_cases h1 : i < n
    · rw [if_pos h1] at h
      have e : i.toNat = j := Option.some.inj h
      exact ⟨by rw [seqIndex_of h0 h1, e], by omega, by omega, h1⟩
    · rw [if_neg h1] at h; cases h
  · rw [if_neg h0] at h
    by_cases h1 : -(n : Int) ≤ i
    · rw [if_pos h1] at h
      have e : (i + n).toNat = j := Option.some.inj h
      exact ⟨by rw [seqIndex_neg (by omega) h1, e], by omega, h1, by omega⟩
    · rw [if_neg h1] at h; cases h
theorem atI_get {α : Type} {xs : List α} {i : Int} {v : α} (h : atI xs i = some v) : ∃ j, seqIndex? i xs.length = some j ∧ xs[j]? = some v ∧ j < xs.length ∧ -(xs.length : Int) ≤ i ∧ i < xs.length := by
  unfold atI at h
  cases e : ixN xs.length i with
  | none => rw [e] at h; cases h
  | some j =>
    rw [e] at h
    obtain ⟨h1, h2, h3, h4⟩ := ixN_seq e
    exact ⟨j, h1, h, h2, h3, h4⟩
/-- what stands as an index of a plain subscript -/
def PlainIx (b : Expr) : Prop := ∀ o i, subscripted b false o i = operate [o, i] (getItem o i)
/-- a subscript by values -/
def IxR (X : Cx) (r : R2) : Prop :=
  ∀ (value slice : Expr) (pins : List (Addr × Obj)) (s : Shared) (σ : St) (H : Hp) (x y : V) (v u : Value) (Q : VK), Inv X pins σ H s → RelV x v → RelV y u → r x y H Q →
    subscripted slice false v u = operate [v, u] (getItem v u) → wpAny (model X.prog X.w) X.A (subscriptTail value slice v u) (EP X pins σ Q) X.xe s
/-- a call of a builtin's method by values: the receiver, the arguments -/
def MtR (X : Cx) (id : String) (r : V → List V → Hp → VK → Prop) : Prop :=
  ∀ (pins : List (Addr × Obj)) (s : Shared) (σ : St) (H : Hp) (x : V) (xs : List V) (v : Value) (us : List Value) (Q : VK), Inv X pins σ H s → RelV x v → Vals xs us → r x xs H Q →
    wpAny (model X.prog X.w) X.A (call (.builtin id) (v :: us)) (EP X pins σ Q) X.xe s
section
variable {X : Cx} {a b : Expr} {ta tb : TE} {pos : Pos}
theorem IxR.or {r r' : R2} (h : IxR X r) (h' : IxR X r') : IxR X (fun x y H Q => r x y H Q ∨ r' x y H Q) := by
  intro value slice pins s σ H x y v u Q I rx ry q hs
  rcases q with q | q
  · exact h value slice pins s σ H x y v u Q I rx ry q hs
  · exact h' value slice pins s σ H x y v u Q I rx ry q hs
theorem MtR.or {id : String} {r r' : V → List V → Hp → VK → Prop} (h : MtR X id r) (h' : MtR X id r') : MtR X id (fun x xs H Q => r x xs H Q ∨ r' x xs H Q) := by
  intro pins s σ H x xs v us Q I rx rs q
  rcases q with q | q
  · exact h pins s σ H x xs v us Q I rx rs q
  · exact h' pins s σ H x xs v us Q I rx rs q
/-- a[b] -/
theorem pe_ix {r : R2} (hr : IxR X r) (ha : PE X a ta) (hb : PE X b tb) (hs : PlainIx b) : PE X (.Subscript a b pos) (tOp r ta tb) := by
  intro pins s σ H Q I h
  exact Subscript_ (binT ha hb I h fun v u s2 x y H2 I2 rx ry q => hr a b pins s2 σ H2 x y v u Q I2 rx ry q (hs _ _))
def rIxL (K : PySem.W.Frag) : R2 := fun x y H Q => ∃ p xs i v, x = .ref p ∧ y = .int i ∧ SqL K H p xs ∧ atI xs i = some v ∧ Q v H
def rIxT (K : PySem.W.Frag) : R2 := fun x y H Q => ∃ p xs i v, x = .ref p ∧ y = .int i ∧ SqT K H p xs ∧ atI xs i = some v ∧ Q v H
theorem ix_list : IxR X (rIxL X.K) := by
  intro value slice pins s σ H x y v u Q I rx ry h hs
  obtain ⟨p, xs, i, z, rfl, rfl, hq, he, q⟩ := h
  cases rx
  obtain ⟨t, rfl⟩ := ry
  obtain ⟨its, r, pl, hz⟩ := I.list hq
  obtain ⟨j, h1, h2, h3, h4, h5⟩ := atI_get he
  obtain ⟨w, ew, rw'⟩ := r.get h2
  have hl := r.length
  have hn := line63
  have fin : EP X pins σ Q w s := ⟨z, H, I, rw', q⟩
  by_cases h0 : 0 ≤ i
  · have hj : i.toNat = j := by
      rw [seqIndex_of h0 h5] at h1
      exact Option.some.inj h1
    exact item_listR pl.isList h0 (by omega) (by rw [hj]; simpa using ew) fin hs
  · have hj : (i + (its.toArray.size : Int)).toNat = j := by
      rw [seqIndex_neg (by omega) h4] at h1
      rw [List.size_toArray, ← hl]
      exact Option.some.inj h1
    exact subscriptTail_builtinR (x := w) pl.isList.typeIs slot_list_getitem.lookup
      (wpAny_getItem_list_neg (Q := fun r s' => r = w ∧ EP X pins σ Q r s') pl.isList (by omega) (by rw [List.size_toArray] <;> omega) (by omega) (by rw [hj]; simpa using ew) ⟨rfl, fin⟩) hs
theorem ix_tup : IxR X (rIxT X.K) := by
  intro value slice pins s σ H x y v u Q I rx ry h hs
  obtain ⟨p, xs, i, z, rfl, rfl, hq, he, q⟩ := h
  cases rx
  obtain ⟨t, rfl⟩ := ry
  obtain ⟨its, r, pl, hz⟩ := I.tuple hq
  obtain ⟨j, h1, h2, h3, h4, h5⟩ := atI_get he
  obtain ⟨w, ew, rw'⟩ := r.get h2
  have hl := r.length
  have hn := line63
  have fin : EP X pins σ Q w s := ⟨z, H, I, rw', q⟩
  exact subscriptTail_builtinR (x := w) pl.typeIs slot_tuple_getitem.lookup
    (getItem_tuple (j := j) (Q := fun r s' => r = w ∧ EP X pins σ Q r s') pl (by omega) (by omega) (by rw [List.size_toArray, ← hl]; exact h1) (by simpa using ew) ⟨rfl, fin⟩) hs
theorem Inv.lst {pins : List (Addr × Obj)} {σ : St} {H : Hp} {s : Shared} {p : Addr} {xs : List V} (I : Inv X pins σ H s) (h : H p = some (.lst xs)) :
    ∃ (its : List Value) (n : Nat), Vals xs its ∧ s.heap.get? p = some { cls := .type "list", data := .seq its.toArray n } ∧ xs.length ≤ sizeLine := by
  obtain ⟨z, its, n, r, e⟩ := I.hok p _ h
  exact ⟨its, n, r, e, z⟩
theorem slice_bounds (lo hi : Option Int) (n : Nat) : (sliceBounds lo hi none n).1 = ((HT.sIx n 0 lo : Nat) : Int) ∧ (sliceBounds lo hi none n).2.1 = ((HT.sIx n n hi : Nat) : Int) ∧ (sliceBounds lo hi none n).2.2 = 1 := by
  refine ⟨?_, ?_, rfl⟩
  · cases lo with
    | none => simp [sliceBounds, HT.sIx]
    | some i =>
      simp only [sliceBounds, HT.sIx, Option.getD_none, show (1 : Int) > 0 by decide, if_true]
      by_cases h : i < 0
      · simp only [h, if_true] <;> omega
      · simp only [h, if_false] <;> omega
  · cases hi with
    | none => simp [sliceBounds, HT.sIx]
    | some i =>
      simp only [sliceBounds, HT.sIx, Option.getD_none, show (1 : Int) > 0 by decide, if_true]
      by_cases h : i < 0
      · simp only [h, if_true] <;> omega
      · simp only [h, if_false] <;> omega
theorem slicePick_cut (its : List Value) (lo hi : Option Int) : slicePick its.toArray lo hi none = ((its.drop (HT.sIx its.length 0 lo)).take (HT.sIx its.length its.length hi - HT.sIx its.length 0 lo)).toArray := by
  obtain ⟨h1, h2, h3⟩ := slice_bounds lo hi its.toArray.size
  unfold slicePick
  rw [h1, h2, h3]
  simp only [sliceRange_one, pick_run, List.size_toArray] <;> rfl
/-- xs[lo:hi] of a list: a new list -/
def rSlL (K : PySem.W.Frag) : V → Option Int → Option Int → Hp → VK → Prop := fun x lo hi H Q => ∃ a xs, x = .ref a ∧ SqL K H a xs ∧ ∀ p, H p = none → Q (.ref p) (upd H p (.lst (cutV xs lo hi)))
theorem sl_list : SlR X (rSlL X.K) := by
  intro pins s σ H x v vl vu lo hi sl Q I rx hs pl pu h
  obtain ⟨a, xs, rfl, hx, q⟩ := h
  cases rx
  obtain ⟨its, r, ht, hz⟩ := I.list hx
  have hlen := r.length
  refine ⟨"list", _, slot_list_getitem.lookup, ht.isList.typeIs, ?_⟩
  refine wpAny_getItem_list_slice ht.isList hs pl pu .none (by simp) ?_ (by rw [List.size_toArray] <;> omega)
  rw [slicePick_cut, ← hlen]
  refine ⟨.ref s.heap.objs.size, _, I.laid (t' := s.toks) (o := .lst (cutV xs lo hi)) (fun b ob q => Heap.get?_push_of_some _ q) (Nat.le_refl _) ?_, rfl, q _ (I.hok.fresh (Nat.le_refl _))⟩
  exact ⟨Nat.le_trans (cutV_length xs lo hi) hz, _, 0, (r.drop (HT.sIx xs.length 0 lo)).take (HT.sIx xs.length xs.length hi - HT.sIx xs.length 0 lo), Heap.get?_push_size _ rfl⟩
theorem call_len_seq : CallR X (.builtin "len") (fun xs H Q => ∃ p ys, xs = [.ref p] ∧ (SqL X.K H p ys ∨ SqT X.K H p ys) ∧ Q (.int ys.length) H) := by
  intro pins s σ H xs us Q I r h
  obtain ⟨p, ys, rfl, hq, q⟩ := h
  obtain ⟨u, rfl, rx⟩ := vals1 r
  cases rx
  have hn := line63
  rcases hq with hq | hq
  · obtain ⟨its, r', pl, hz⟩ := I.list hq
    have hlen := r'.length
    exact Calls.call_len_list pl.isList (by simp only [List.size_toArray] <;> omega) ⟨.int ys.length, H, I.tok _, ⟨s.toks + 1, by rw [List.size_toArray, hlen]⟩, q⟩
  · obtain ⟨its, r', pl, hz⟩ := I.tuple hq
    have hlen := r'.length
    exact len_tuple pl (by simp only [List.size_toArray] <;> omega) ⟨.int ys.length, H, I.tok _, ⟨s.toks + 1, by rw [List.size_toArray, hlen]⟩, q⟩
theorem CallR.or {f : Value} {r r' : List V → Hp → VK → Prop} (h : CallR X f r) (h' : CallR X f r') : CallR X f (fun xs H Q => r xs H Q ∨ r' xs H Q) := by
  intro pins s σ H xs us Q I rs q
  rcases q with q | q
  · exact h pins s σ H xs us Q I rs q
  · exact h' pins s σ H xs us Q I rs q
theorem call_tuple_of : CallR X (.type "tuple") (fun xs H Q => ∃ p ys, xs = [.ref p] ∧ ((SqL X.K H p ys ∧ ∀ l, H l = none → Q (.ref l) (upd H l (.tup ys))) ∨ (SqT X.K H p ys ∧ Q (.ref p) H))) := by
  intro pins s σ H xs us Q I r h
  obtain ⟨p, ys, rfl, h⟩ := h
  obtain ⟨u, rfl, rx⟩ := vals1 r
  cases rx
  rcases h with ⟨hq, q⟩ | ⟨hq, q⟩
  · obtain ⟨its, r', pl, hz⟩ := I.list hq
    have hlen := r'.length
    refine call_tuple_list pl.isList (fun h' kp => ?_) (by simp only [List.size_toArray] <;> omega)
    have I1 : Inv X pins σ H { s with heap := h' } := I.kept (t' := s.toks) kp
    have I2 : Inv X pins σ (upd H h'.objs.size (.tup ys)) { s with heap := h'.push { cls := .type "tuple", data := .seq its.toArray } } :=
      I1.laid (t' := s.toks) (fun b o e => Heap.get?_push_of_some _ e) (Nat.le_refl _) (show ObjOk X.prog X.w _ _ _ (.tup ys) from ⟨hz, its, r', IsTupP.new _ _⟩)
    exact ⟨.ref h'.objs.size, _, I2, rfl, q _ (I1.hok.fresh (Nat.le_refl _))⟩
  · obtain ⟨its, r', pl, hz⟩ := I.tuple hq
    exact call_tuple_same pl ⟨.ref p, H, I, rfl, q⟩
variable {o e : Expr} {es : List Expr} {to : TE} {t : TA} {name : Str} {apos cpos : Pos} {T id : String} {r : V → List V → Hp → VK → Prop}
end
end L2
namespace L2
open PySem PySem.Spec PyProof.Rows
theorem Vals.one : ∀ {x : V} {us : List Value}, Vals [x] us → ∃ u, us = [u] ∧ RelV x u
  | _, _, .cons r .nil => ⟨_, rfl, r⟩
theorem Vals.zero : ∀ {us : List Value}, Vals [] us → us = []
  | _, .nil => rfl
theorem Vals.eraseIdx : ∀ {xs : List V} {us : List Value} (i : Nat), Vals xs us → Vals (xs.eraseIdx i) (us.eraseIdx i)
  | _, _, _, .nil => .nil
  | _, _, 0, .cons _ t => t
  | _, _, i + 1, .cons r t => .cons r (Vals.eraseIdx i t)
theorem Vals.reverse {xs : List V} {us : List Value} (h : Vals xs us) : Vals xs.reverse us.reverse := by
  induction h with
  | nil => exact .nil
  | cons r t ih => rw [List.reverse_cons, List.reverse_cons]; exact Vals.append ih (.cons r .nil)
section
variable {X : Cx} {pins : List (Addr × Obj)} {σ : St} {H : Hp} {s : Shared} {l b : Addr} {xs ys zs : List V}
theorem Inv.lnew {its : List Value} {t' : Nat} (I : Inv X pins σ H s) (hv : Vals ys its) (hz : ys.length ≤ sizeLine) :
    Inv X pins σ (upd H s.heap.objs.size (.lst ys)) { s with heap := s.heap.push { cls := .type "list", data := .seq its.toArray }, toks := t' } :=
  I.laid (fun _ _ q => Heap.get?_push_of_some _ q) (Nat.le_refl _) ⟨hz, its, 0, hv, Heap.get?_push_size _ rfl⟩
theorem Inv.fresh (I : Inv X pins σ H s) : H s.heap.objs.size = none := I.hok.fresh (Nat.le_refl _)
end
end L2
namespace L2
open PySem PySem.Spec PyProof.Rows
theorem vals_of_ints : ∀ {us : List Value} {ns : List Int}, IntsAre us ns → Vals (ns.map V.int) us
  | _, _, .nil => by rw [List.map_nil]; exact Paired.nil
  | _, _, .cons n t h => by rw [List.map_cons]; exact Paired.cons (show RelV (V.int n) (Value.int n t) from ⟨t, rfl⟩) (vals_of_ints h)
theorem Vals.strs : ∀ {xs : List Str} {us : List Value}, Vals (xs.map V.str) us → StrsAre us xs
  | [], us, h => by
    rw [List.map_nil] at h
    cases h
    exact StrsAre.nil
  | x :: xs, us, h => by
    rw [List.map_cons] at h
    cases h with
    | cons r t =>
      obtain ⟨k, rfl⟩ := r
      exact StrsAre.cons x k (Vals.strs t)
theorem Vals.ref1 {a : Addr} {us : List Value} (r : Vals [V.ref a] us) : us = [Value.ref a] := by
  cases r with
  | cons r t =>
    cases t
    cases r
    rfl
mutual
inductive Dp (K : PySem.W.Frag) (H : Hp) : V → PyData → Prop
  | non : Dp K H .non .none
  | bl (b : Bool) : Dp K H (.bl b) (.bool b)
  | int (i : Int) : Dp K H (.int i) (.int i)
  | str (x : Str) : Dp K H (.str x) (.str x)
  | lst {a : Addr} {xs : List V} {ds : List PyData} : SqL K H a xs → DpAll K H xs ds → Dp K H (.ref a) (.list ds)
  | tup {a : Addr} {xs : List V} {ds : List PyData} : SqT K H a xs → DpAll K H xs ds → Dp K H (.ref a) (.tuple ds)
inductive DpAll (K : PySem.W.Frag) (H : Hp) : List V → List PyData → Prop
  | nil : DpAll K H [] []
  | cons {v : V} {vs : List V} {d : PyData} {ds : List PyData} : Dp K H v d → DpAll K H vs ds → DpAll K H (v :: vs) (d :: ds)
end
section
variable {X : Cx} {pins : List (Addr × Obj)} {σ : St} {H : Hp} {s : Shared}
mutual
theorem Dp.reads (I : Inv X pins σ H s) : ∀ (d : PyData) (v : V) (u : Value), Dp X.K H v d → RelV v u → ∃ as, Reads s.heap u d as
  | .none, _, _, h, r => by
    cases h
    cases r
    exact ⟨_, Reads.none⟩
  | .bool b, _, _, h, r => by
    cases h
    cases r
    exact ⟨_, Reads.bool b⟩
  | .int i, _, _, h, r => by
    cases h
    obtain ⟨t, rfl⟩ := r
    exact ⟨_, Reads.int i t⟩
  | .str x, _, _, h, r => by
    cases h
    obtain ⟨t, rfl⟩ := r
    exact ⟨_, Reads.str x t⟩
  | .list ds, _, _, h, r => by
    cases h with
    | lst hs ha =>
      cases r
      obtain ⟨its, rv, ⟨o, n, ho, hc, _, hd⟩, _⟩ := I.list hs
      obtain ⟨as, hr⟩ := Dp.readsAll I ds _ its ha rv
      exact ⟨_, Reads.list ho hc hd hr⟩
  | .tuple ds, _, _, h, r => by
    cases h with
    | tup hs ha =>
      cases r
      obtain ⟨its, rv, ⟨o, ho, hc, n, hd⟩, _⟩ := I.tuple hs
      obtain ⟨as, hr⟩ := Dp.readsAll I ds _ its ha rv
      exact ⟨_, Reads.tuple ho hc hd hr⟩
  | .dict _, _, _, h, _ => by cases h
theorem Dp.readsAll (I : Inv X pins σ H s) : ∀ (ds : List PyData) (vs : List V) (us : List Value), DpAll X.K H vs ds → Vals vs us → ∃ as, ReadsAll s.heap us ds as
  | [], _, _, h, r => by
    cases h
    cases r
    exact ⟨_, ReadsAll.nil⟩
  | d :: ds, _, _, h, r => by
    cases h with
    | cons h1 h2 =>
      cases r with
      | cons r1 r2 =>
        obtain ⟨as, q1⟩ := Dp.reads I d _ _ h1 r1
        obtain ⟨bs, q2⟩ := Dp.readsAll I ds _ _ h2 r2
        exact ⟨_, ReadsAll.cons q1 q2⟩
end
end
section
variable {X : Cx}
def rNeD (K : PySem.W.Frag) : R2 := fun x y H Q => ∃ d e, Dp K H x d ∧ Dp K H y e ∧ SeqAt.shaped d = true ∧ SeqAt.shaped e = true ∧ Q (.bl (!PyData.eqv d e)) H
theorem op_neD (hu : X.A.units + 64 < cLine) : OpR X (compareOp .NotEq) (rNeD X.K) := by
  intro pins s σ H x y v u Q I rx ry h
  obtain ⟨d, e, hd, he, sd, se, q⟩ := h
  obtain ⟨as, r1⟩ := Dp.reads I d x v hd rx
  obtain ⟨bs, r2⟩ := Dp.reads I e y u he ry
  exact SeqAt.compareNe_shaped r1 r2 sd se hu ⟨.bl _, H, I, rfl, q⟩
end
end L2
namespace L2
open PySem PySem.Spec PyProof.Rows
abbrev CellAt (h : Heap) (c : Addr) (v : Option Value) : Prop := h.IsCell c v
def relS (scope sc : Scope) : Scope :=
  { scope with names := scope.names.map fun (n, k) => if (k == .free && sc.kind == .function && sc.names.lookup n == some .cell) then (n, .cell) else (n, k) }
def cloFrom (cells : List (Str × Addr)) : List (Str × NameKind) → List (Str × Addr) → List (Str × Addr)
  | [], acc => acc
  | (n, k) :: r, acc => if k == .free then cloFrom cells r ((n, (cells.lookup n).getD 0) :: acc) else cloFrom cells r acc
theorem closure_loop (env : Env) (f : Str × NameKind → List (Str × Addr) → Sem (ForInStep (List (Str × Addr))))
    (hf : ∀ n k c, f (n, k) c = if k == .free then (do let a ← cellOf env n; pure (.yield ((n, a) :: c))) else pure (.yield c)) :
    ∀ (names : List (Str × NameKind)) (acc : List (Str × Addr)), (∀ y ∈ names, y.2 = .free → ∃ c, env.cells.lookup y.1 = some c) → forIn names acc f = pure (cloFrom env.cells names acc)
  | [], acc, _ => by rw [List.forIn_nil]; rfl
  | (n, k) :: r, acc, h => by
    rw [List.forIn_cons, hf]
    have ih := fun acc => closure_loop env f hf r acc fun y hy => h y (List.mem_cons_of_mem _ hy)
    unfold cloFrom
    by_cases hk : (k == NameKind.free) = true
    · rw [if_pos hk, if_pos hk]
      obtain ⟨c, hc⟩ := h (n, k) List.mem_cons_self (by simpa using hk)
      have e : cellOf env n = pure c := by unfold cellOf; rw [hc]
      rw [e]
      have e2 : (env.cells.lookup n).getD 0 = c := by rw [hc]; rfl
      rw [e2]
      exact ih _
    · rw [if_neg hk, if_neg hk]
      exact ih _
theorem closure_ok {scope : Scope} {env : Env} (h : ∀ y ∈ scope.names, y.2 = .free → ∃ c, env.cells.lookup y.1 = some c) : closureFor scope env = pure (cloFrom env.cells scope.names []) := by
  simp only [closureFor]
  rw [closure_loop env _ (fun n k c => rfl) scope.names [] h]
  rfl
theorem mem_lookup {α : Type} : ∀ {l : List (Str × α)} {n : Str} {c : α}, (n, c) ∈ l → ∃ c', l.lookup n = some c'
  | (k, v) :: r, n, c, h => by
    rw [List.lookup_cons]
    cases hb : n == k with
    | true => exact ⟨_, rfl⟩
    | false =>
      rcases List.mem_cons.mp h with e | h
      · cases e; simp at hb
      · exact mem_lookup h
theorem cloFrom_mem {cells : List (Str × Addr)} : ∀ {names : List (Str × NameKind)} {acc : List (Str × Addr)} {n : Str} {c : Addr}, (n, c) ∈ cloFrom cells names acc → (n, c) ∈ acc ∨ ((n, .free) ∈ names ∧ c = (cells.lookup n).getD 0)
  | [], _, _, _, h => .inl h
  | (m, k) :: r, acc, n, c, h => by
    unfold cloFrom at h
    split at h
    · rename_i hk
      have hk : k = .free := by simpa using hk
      rcases cloFrom_mem h with h | ⟨h1, h2⟩
      · rcases List.mem_cons.mp h with e | h
        · cases e; exact .inr ⟨hk ▸ List.mem_cons_self, rfl⟩
        · exact .inl h
      · exact .inr ⟨List.mem_cons_of_mem _ h1, h2⟩
    · rcases cloFrom_mem h with h | ⟨h1, h2⟩
      · exact .inl h
      · exact .inr ⟨List.mem_cons_of_mem _ h1, h2⟩
theorem cloFrom_acc {cells : List (Str × Addr)} : ∀ {names : List (Str × NameKind)} {acc : List (Str × Addr)} {p : Str × Addr}, p ∈ acc → p ∈ cloFrom cells names acc
  | [], _, _, h => h
  | (m, k) :: r, acc, p, h => by
    unfold cloFrom
    split
    · exact cloFrom_acc (List.mem_cons_of_mem _ h)
    · exact cloFrom_acc h
theorem cloFrom_has {cells : List (Str × Addr)} : ∀ {names : List (Str × NameKind)} {acc : List (Str × Addr)} {n : Str}, (n, .free) ∈ names → (n, (cells.lookup n).getD 0) ∈ cloFrom cells names acc
  | (m, k) :: r, acc, n, h => by
    unfold cloFrom
    rcases List.mem_cons.mp h with e | h
    · cases e
      exact cloFrom_acc List.mem_cons_self
    · split
      · exact cloFrom_has h
      · exact cloFrom_has h
theorem cells_mem : ∀ {names : List (Str × NameKind)} {h : Heap} {acc : List (Str × Addr)} {x : Str} {c : Addr}, (x, c) ∈ cellsFrom h.objs.size names acc →
    (x, c) ∈ acc ∨ ((x, .cell) ∈ names ∧ h.objs.size ≤ c ∧ CellAt (pushCells h names) c none)
  | [], _, _, _, _, h => .inl h
  | (n, k) :: r, h, acc, x, c, hm => by
    unfold cellsFrom at hm
    unfold pushCells
    split at hm
    · rename_i hk
      rw [if_pos hk]
      have hk : k = .cell := by simpa using hk
      rw [← Heap.size_push h { cls := .type "cell", data := .cell none }] at hm
      rcases cells_mem hm with hm | ⟨h1, h2, h3⟩
      · rcases List.mem_cons.mp hm with e | hm
        · cases e
          exact .inr ⟨hk ▸ List.mem_cons_self, Nat.le_refl _, _, pushCells_keeps r _ _ _ (Heap.get?_push_size _ rfl), rfl⟩
        · exact .inl hm
      · rw [Heap.size_push] at h2
        exact .inr ⟨List.mem_cons_of_mem _ h1, Nat.le_of_succ_le h2, h3⟩
    · rename_i hk
      rw [if_neg hk]
      rcases cells_mem hm with hm | ⟨h1, h2, h3⟩
      · exact .inl hm
      · exact .inr ⟨List.mem_cons_of_mem _ h1, h2, h3⟩
theorem cells_acc : ∀ {names : List (Str × NameKind)} {n : Nat} {acc : List (Str × Addr)} {p : Str × Addr}, p ∈ acc → p ∈ cellsFrom n names acc
  | [], _, _, _, h => h
  | (m, k) :: r, n, acc, p, h => by
    unfold cellsFrom
    split
    · exact cells_acc (List.mem_cons_of_mem _ h)
    · exact cells_acc h
theorem cells_has : ∀ {names : List (Str × NameKind)} {n : Nat} {acc : List (Str × Addr)} {x : Str}, (x, .cell) ∈ names → ∃ c, (x, c) ∈ cellsFrom n names acc
  | (m, k) :: r, n, acc, x, h => by
    unfold cellsFrom
    rcases List.mem_cons.mp h with e | h
    · cases e
      exact ⟨n, cells_acc List.mem_cons_self⟩
    · split
      · exact cells_has h
      · exact cells_has h
theorem cells_inj : ∀ {names : List (Str × NameKind)} {h : Heap} {acc : List (Str × Addr)} {x y : Str} {c : Addr}, (∀ p ∈ acc, p.2 < h.objs.size) → (∀ x y c, (x, c) ∈ acc → (y, c) ∈ acc → x = y) →
    (x, c) ∈ cellsFrom h.objs.size names acc → (y, c) ∈ cellsFrom h.objs.size names acc → x = y
  | [], _, _, _, _, _, _, hi, h1, h2 => hi _ _ _ h1 h2
  | (n, k) :: r, h, acc, x, y, c, hl, hi, h1, h2 => by
    unfold cellsFrom at h1 h2
    split at h1
    · rename_i hk
      rw [if_pos hk] at h2
      rw [← Heap.size_push h { cls := .type "cell", data := .cell none }] at h1 h2
      refine cells_inj (h := h.push _) (fun p hp => ?_) (fun x y c a b => ?_) h1 h2
      · rw [Heap.size_push]
        rcases List.mem_cons.mp hp with rfl | hp
        · exact Nat.lt_succ_self _
        · exact Nat.lt_succ_of_lt (hl p hp)
      · rcases List.mem_cons.mp a with e | a <;> rcases List.mem_cons.mp b with e' | b
        · cases e; cases e'; rfl
        · cases e; exact absurd (hl _ b) (Nat.lt_irrefl _)
        · cases e'; exact absurd (hl _ a) (Nat.lt_irrefl _)
        · exact hi _ _ _ a b
    · rename_i hk
      rw [if_neg hk] at h2
      exact cells_inj hl hi h1 h2
theorem newEnv_comp {M : Model} {A : Around} {E : Value → Shared → Prop} {s : Shared} {scope : Scope} {globals : Addr} {closure : List (Str × Addr)} {qual : Str} {func : Option Addr} {code : Value} {around : Env} {builtins : Addr} {Q : Env → Shared → Prop}
    (h : Q (newEnv scope s.heap.objs.size globals (cellsFrom (s.heap.objs.size + 1) scope.names closure) qual func code (some around) builtins)
      { s with heap := pushCells (s.heap.push { cls := .type "dict", data := .dict #[] }) scope.names }) :
    wpAny M A (newFunctionEnv scope globals closure [] qual func code (some around) builtins) Q E s := by
  simp only [newFunctionEnv, Option.isSome_some, if_true]
  refine wpAny_bind (wpAny_alloc ?_)
  refine wpAny_bind (wpAny_layCells _ (fun n k c => rfl) scope.names closure _ _ ?_)
  rw [show ({ s with heap := s.heap.push { cls := .type "dict", data := .dict #[] } } : Shared).heap.objs.size = s.heap.objs.size + 1 from Heap.size_push ..]
  rw [List.forIn_nil]
  exact wpAny_bind (wpAny_pure (wpAny_pure h))
/-- every name of the written scope, in the scope that runs -/
theorem lookup_relS {sc : Scope} : ∀ {names : List (Str × NameKind)} {x : Str} {k : NameKind},
    (names.map fun (n, k) => if (k == NameKind.free && sc.kind == .function && sc.names.lookup n == some .cell) then (n, NameKind.cell) else (n, k)).lookup x = some k →
    ∃ k', names.lookup x = some k' ∧ (k = k' ∨ (k' = .free ∧ k = .cell))
  | [], _, _, h => by simp at h
  | (n, k₀) :: r, x, k, h => by
    have ih := @lookup_relS sc r x k
    have h' : List.lookup x ((if (k₀ == NameKind.free && sc.kind == .function && sc.names.lookup n == some .cell) = true then (n, NameKind.cell) else (n, k₀)) :: (r.map _)) = some k := h
    cases hx : x == n with
    | true =>
      simp only [List.lookup_cons, hx]
      by_cases hc : (k₀ == NameKind.free && sc.kind == .function && sc.names.lookup n == some .cell) = true
      · rw [if_pos hc] at h'
        simp only [List.lookup_cons, hx] at h'
        cases h'
        simp only [Bool.and_eq_true, beq_iff_eq] at hc
        exact ⟨k₀, rfl, .inr ⟨hc.1.1, rfl⟩⟩
      · rw [if_neg hc] at h'
        simp only [List.lookup_cons, hx] at h'
        cases h'
        exact ⟨_, rfl, .inl rfl⟩
    | false =>
      simp only [List.lookup_cons, hx]
      by_cases hc : (k₀ == NameKind.free && sc.kind == .function && sc.names.lookup n == some .cell) = true
      · rw [if_pos hc] at h'
        simp only [List.lookup_cons, hx] at h'
        exact ih h'
      · rw [if_neg hc] at h'
        simp only [List.lookup_cons, hx] at h'
        exact ih h'
/-- the names of a comprehension's block: its own (with their places in N), or captured -/
structure BlkOk (N : List Str) (sc scope : Scope) (own : List (Str × Nat)) : Prop where
  kind : scope.kind = .function
  uniq : ∀ y ∈ scope.names, scope.names.lookup y.1 = some y.2
  ix : ∀ p ∈ own, N[p.2]? = some p.1
  free : ∀ y ∈ scope.names, y.2 = .free → sc.names.lookup y.1 = some .cell ∨ sc.names.lookup y.1 = some .free
  own : ∀ y ∈ scope.names, y.2 = .local ∨ y.2 = .cell → y.1 ∈ own.map (·.1) ∨ y.1 ∉ N
/-- the slots of the block's own names forgotten -/
def wipe (σ : St) : List Nat → St
  | [] => σ
  | v :: vs => (wipe σ vs).set v none
theorem wipe_length (σ : St) : ∀ vs : List Nat, (wipe σ vs).length = σ.length
  | [] => rfl
  | v :: vs => by unfold wipe; rw [List.length_set, wipe_length σ vs]
theorem wipe_some {σ : St} {i : Nat} {x : V} : ∀ {vs : List Nat}, (wipe σ vs)[i]? = some (some x) → σ[i]? = some (some x) ∧ i ∉ vs
  | [], h => ⟨h, by simp⟩
  | v :: vs, h => by
    unfold wipe at h
    by_cases hi : v = i
    · subst hi
      by_cases hv : v < (wipe σ vs).length
      · rw [List.getElem?_set_self hv] at h; cases h
      · rw [List.getElem?_eq_none (by simpa using hv)] at h; cases h
    · rw [List.getElem?_set_ne hi] at h
      obtain ⟨h1, h2⟩ := wipe_some h
      exact ⟨h1, by simp only [List.mem_cons, not_or]; exact ⟨fun e => hi e.symm, h2⟩⟩
/-- the context of a block that starts at s, its iterator's objects at fp -/
abbrev Cx.blk (X : Cx) (s : Shared) (H : Hp) (scope : Scope) (cenv : Env) (fp : List Addr) : Cx := { X with s_0 := s, H_0 := H, env := cenv, outer := X.stack, ex := fp, fn := fun x => scope.names.lookup x == some .cell, pn := [], xe := fun _ _ => False }
section
variable {X : Cx} {pins : List (Addr × Obj)} {σ : St} {H : Hp} {s : Shared}
theorem block_start {scope : Scope} {own : List (Str × Nat)} {fp : List Addr} (I : Inv X pins σ H s) (ok : BlkOk X.N X.env.scope scope own) (hN : X.N.Nodup) (hfp : ∀ b ∈ fp, FpOk X pins H b ∧ b < s.heap.objs.size) :
    Inv (X.blk s H scope (compEnvC scope (cellsFrom (s.heap.objs.size + 1) scope.names (cloFrom X.env.cells scope.names [])) s.heap.objs.size X.env) fp) [] (wipe σ (own.map (·.2))) H { s with heap := pushCells (s.heap.push { cls := .type "dict", data := .dict #[] }) scope.names } := by
  have hfree : ∀ y ∈ scope.names, y.2 = .free → ∃ c, X.env.cells.lookup y.1 = some c := fun y hy e => by
    rcases ok.free y hy e with k | k
    · exact I.ok.has _ (.inl k)
    · exact I.ok.has _ (.inr k)
  generalize hcenv : compEnvC scope (cellsFrom (s.heap.objs.size + 1) scope.names (cloFrom X.env.cells scope.names [])) s.heap.objs.size X.env = cenv
  have kp : ∀ b o, s.heap.get? b = some o → (pushCells (s.heap.push { cls := .type "dict", data := .dict #[] }) scope.names).get? b = some o := fun b o e => pushCells_keeps _ _ _ _ (Heap.get?_push_of_some _ e)
  have hL : cenv.locals = s.heap.objs.size := by rw [← hcenv]; rfl
  have hcl : cenv.cells = cellsFrom (s.heap.objs.size + 1) scope.names (cloFrom X.env.cells scope.names []) := by rw [← hcenv]; rfl
  have hsc : cenv.scope = relS scope X.env.scope := by rw [← hcenv]; rfl
  rw [← Heap.size_push s.heap { cls := .type "dict", data := .dict #[] }] at hcl
  have cm : ∀ {y c}, (y, c) ∈ cloFrom X.env.cells scope.names [] → X.env.cells.lookup y = some c ∧ c < s.heap.objs.size := fun {y c} hm => by
    rcases cloFrom_mem hm with hm | ⟨h1, rfl⟩
    · cases hm
    · obtain ⟨c, hc⟩ := hfree _ h1 rfl
      rw [hc]
      obtain ⟨w, z⟩ := I.cell _ _ hc
      exact ⟨rfl, z.lt⟩
  have mem : ∀ {y c}, cenv.cells.lookup y = some c → (X.env.cells.lookup y = some c ∧ c < s.heap.objs.size) ∨ (s.heap.objs.size + 1 ≤ c ∧ CellAt (pushCells (s.heap.push { cls := .type "dict", data := .dict #[] }) scope.names) c none) := fun {y c} e => by
    rw [hcl] at e
    rcases cells_mem (PySem.mem_of_lookup e) with hm | ⟨_, h2, h3⟩
    · exact .inl (cm hm)
    · rw [Heap.size_push] at h2; exact .inr ⟨h2, h3⟩
  have look : ∀ {y}, scope.names.lookup y = some .free → ∃ c, cenv.cells.lookup y = some c ∧ X.env.cells.lookup y = some c := fun {y} hl => by
    have hy : (y, NameKind.free) ∈ scope.names := PySem.mem_of_lookup hl
    obtain ⟨c', e'⟩ := mem_lookup (cells_acc (names := scope.names) (n := (s.heap.push { cls := .type "dict", data := .dict #[] }).objs.size) (cloFrom_has (cells := X.env.cells) (acc := []) hy))
    rw [← hcl] at e'
    refine ⟨c', e', ?_⟩
    rw [hcl] at e'
    rcases cells_mem (PySem.mem_of_lookup e') with hm | ⟨h1, _, _⟩
    · exact (cm hm).1
    · have := ok.uniq _ h1
      rw [hl] at this; cases this
  have okB : (X.blk s H scope cenv fp).Ok := by
    refine ⟨I.ok.mod, by show cenv.scope.kind = _; rw [hsc]; exact ok.kind, by show cenv.globals = _; rw [← hcenv]; exact I.ok.glob, by show cenv.builtins = _; rw [← hcenv]; exact I.ok.blt, by show s.heap.objs.size ≤ cenv.locals; rw [hL]; exact Nat.le_refl _,
      fun y z c e1 e2 => ?_, fun y hy => ?_, fun y c z e => ?_, I.ok.hd, I.ok.frames, .inl rfl, fun b hb => ⟨?_, fun y c e z => ?_⟩, I.bs, Nat.le_trans I.ok.bsz I.sz, fun b o e hb => ?_, fun b hb z => ?_, I.stack, I.stkFree⟩
    · have e1 : cenv.cells.lookup y = some c := e1
      have e2 : cenv.cells.lookup z = some c := e2
      rw [hcl] at e1 e2
      refine cells_inj (fun p hp => ?_) (fun y z c a b => I.ok.inj y z c (cm a).1 (cm b).1) (PySem.mem_of_lookup e1) (PySem.mem_of_lookup e2)
      rw [Heap.size_push]
      exact Nat.lt_succ_of_lt (cm (y := p.1) (c := p.2) hp).2
    · show ∃ c, cenv.cells.lookup y = some c
      have key : ∀ k, cenv.kindOf y = some k → (k = .cell ∨ k = .free) → ∃ c, cenv.cells.lookup y = some c := fun k hk hk' => by
        unfold Env.kindOf at hk
        rw [hsc] at hk
        obtain ⟨k', e, r⟩ := lookup_relS hk
        have : k' = .cell ∨ k' = .free := by
          rcases r with rfl | ⟨rfl, _⟩
          · exact hk'
          · exact .inr rfl
        rcases this with rfl | rfl
        · obtain ⟨c, hm⟩ := cells_has (n := (s.heap.push { cls := .type "dict", data := .dict #[] }).objs.size) (acc := cloFrom X.env.cells scope.names []) (PySem.mem_of_lookup e)
          obtain ⟨c', e'⟩ := mem_lookup hm
          exact ⟨c', by rw [hcl]; exact e'⟩
        · obtain ⟨c, h1, _⟩ := look e
          exact ⟨c, h1⟩
      rcases hy with hy | hy
      · exact key _ hy (.inl rfl)
      · exact key _ hy (.inr rfl)
    · have z : (scope.names.lookup y == some NameKind.cell) = true := z
      have z : scope.names.lookup y = some .cell := by simpa using z
      have e : cenv.cells.lookup y = some c := e
      rw [hcl] at e
      rcases cells_mem (PySem.mem_of_lookup e) with hm | ⟨_, h2, _⟩
      · rcases cloFrom_mem hm with hm | ⟨h1, _⟩
        · cases hm
        · have q := ok.uniq _ h1
          rw [z] at q; cases q
      · rw [Heap.size_push] at h2
        exact Nat.le_of_succ_le h2
    · show b ≠ cenv.locals
      rw [hL]; exact Nat.ne_of_lt (hfp b hb).2
    · have e : cenv.cells.lookup y = some c := e
      rcases mem e with ⟨h1, _⟩ | ⟨h1, _⟩
      · exact (hfp b hb).1.2.2.2.2.1 y c h1 z
      · have h2 : s.heap.objs.size + 1 ≤ b := by rw [← z]; exact h1
        exact absurd (Nat.lt_of_lt_of_le (hfp b hb).2 (Nat.le_of_succ_le h2)) (Nat.lt_irrefl _)
    · rcases (hfp b hb).1.2.2.2.1 with z | z
      · exact I.ok.noex b o e z
      · exact absurd (Nat.lt_of_lt_of_le (Heap.lt_size e) (Nat.le_trans I.ok.bsz z)) (Nat.lt_irrefl _)
    · rcases List.mem_cons.mp (I.stkSub b z) with z | z
      · exact (hfp b hb).1.2.1 z
      · exact (hfp b hb).1.2.2.1 z
  refine ⟨okB, rfl, I.bare, Un.kept kp, ⟨fun _ => none, ?_, fun i y av e1 e2 e3 => ?_⟩, fun y c e => ?_, ?_, fun y c e => ?_, fun p hp => ?_, I.hok.kept kp, by rw [wipe_length]; exact I.len⟩
  · show Heap.Ns _ cenv.locals _
    rw [hL]
    exact Heap.Ns.keeps (Heap.Ns.new ..) fun b o e => pushCells_keeps _ _ _ _ e
  · obtain ⟨e2, hne⟩ := wipe_some e2
    have hfr : scope.names.lookup y = some .free ∧ (cenv.kindOf y = some .cell ∨ cenv.kindOf y = some .free) := by
      have key : ∀ k, cenv.scope.names.lookup y = some k → k = .local ∨ k = .cell ∨ k = .free → scope.names.lookup y = some .free ∧ (cenv.kindOf y = some .cell ∨ cenv.kindOf y = some .free) := fun k hk hk' => by
        have hk0 := hk
        rw [hsc] at hk
        obtain ⟨k', e, r⟩ := lookup_relS hk
        have no : ¬ (k' = .local ∨ k' = .cell) := fun hh => by
          rcases ok.own _ (PySem.mem_of_lookup e) hh with e' | e'
          · obtain ⟨p, hp, hpy⟩ := List.mem_map.mp e'
            have e3 := ok.ix p hp
            have : p.1 = y := hpy
            rw [this] at e3
            exact hne (List.mem_map.mpr ⟨p, hp, nodup_ix hN e3 e1⟩)
          · exact e' (List.mem_of_getElem? e1)
        rcases r with rfl | ⟨rfl, rfl⟩
        · rcases hk' with rfl | rfl | rfl
          · exact absurd (.inl rfl) no
          · exact absurd (.inr rfl) no
          · exact ⟨e, .inr hk0⟩
        · exact ⟨e, .inl hk0⟩
      have e3 : Vis cenv.scope y := e3
      rcases e3 with e3 | e3 | e3
      · exact key _ e3 (.inl rfl)
      · exact key _ e3 (.inr (.inl rfl))
      · exact key _ e3 (.inr (.inr rfl))
    obtain ⟨m, hn, hl⟩ := I.loc
    have hvis : Vis X.env.scope y := (ok.free _ (PySem.mem_of_lookup hfr.1) rfl).elim (fun k => .inr (.inl k)) (fun k => .inr (.inr k))
    obtain ⟨w, r, q⟩ := hl i y av e1 e2 hvis
    refine ⟨w, r, .inr ⟨hfr.2, ?_⟩⟩
    obtain ⟨c, h1, h2⟩ := look hfr.1
    rcases q with ⟨k, _⟩ | ⟨_, c', e', z⟩
    · have k : X.env.scope.names.lookup y = some .local := k
      rcases ok.free _ (PySem.mem_of_lookup hfr.1) rfl with k' | k' <;> rw [show X.env.scope.names.lookup y = _ from k'] at k <;> cases k
    · rw [h2] at e'; cases e'
      exact ⟨c, h1, z.keeps kp⟩
  · have e : cenv.cells.lookup y = some c := e
    rcases mem e with ⟨h1, _⟩ | ⟨_, z⟩
    · obtain ⟨w, z⟩ := I.cell y c h1
      exact ⟨w, z.keeps kp⟩
    · exact ⟨_, z⟩
  · show H cenv.locals = none
    rw [hL]; exact I.hok.fresh (Nat.le_refl _)
  · have e : cenv.cells.lookup y = some c := e
    rcases mem e with ⟨h1, _⟩ | ⟨h1, _⟩
    · exact I.freeC y c h1
    · exact I.hok.fresh (Nat.le_of_succ_le h1)
  · exact absurd (show p ∈ ([] : List (Addr × Obj)) ++ [] from hp) (by simp)
/-- a clause's tests -/
def PTs (X : Cx) (ifs : List Expr) (t : TT) : Prop :=
  ∀ (pins : List (Addr × Obj)) (s : Shared) (σ : St) (H : Hp) (Q : Bool → Hp → Prop), Inv X pins σ H s → t σ H Q →
    wpAny (model X.prog X.w) X.A (forIn ifs true fun c r => if r = true then do let ok ← isTrue c X.env (eval c X.env); pure (ForInStep.yield ok) else pure (ForInStep.yield r)) (TP X pins σ Q) X.xe s
def tYes : TT := fun _ H Q => Q true H
theorem pts_nil : PTs X [] tYes := fun _ _ _ H _ I h => wpAny_tests_nil ⟨H, I, h⟩
end
theorem thnF {α : Type} {t : Sem α} {Q Q' : α → Shared → Prop} {M : Model} {A : Around} {E : Value → Shared → Prop} {s : Shared} (h : wpAny M A t Q (fun _ _ => False) s) (hQ : ∀ a s, Q a s → Q' a s) : wpAny M A t Q' E s := wpAny_mono h hQ fun _ _ z => False.elim z
def blkC (N : List Str) (sc scope : Scope) (own : List (Str × Nat)) : Bool :=
  (match scope.kind with | .function => true | _ => false) && (scope.names.all fun y => decide (scope.names.lookup y.1 = some y.2)) && (own.all fun p => decide (N[p.2]? = some p.1)) &&
    (scope.names.all fun y => match y.2 with
      | .free => (match sc.names.lookup y.1 with | some .cell => true | some .free => true | _ => false)
      | .local => decide (y.1 ∈ own.map (·.1)) || decide (y.1 ∉ N)
      | .cell => decide (y.1 ∈ own.map (·.1)) || decide (y.1 ∉ N)
      | _ => true)
theorem blkOk_by {N : List Str} {sc scope : Scope} {own : List (Str × Nat)} (h : blkC N sc scope own = true) : BlkOk N sc scope own := by
  unfold blkC at h
  simp only [Bool.and_eq_true, List.all_eq_true, decide_eq_true_eq] at h
  obtain ⟨⟨⟨h1, h2⟩, h3⟩, h4⟩ := h
  refine ⟨?_, h2, h3, fun y hy e => ?_, fun y hy e => ?_⟩
  · split at h1
    · assumption
    · cases h1
  · have q := h4 y hy
    simp only [e] at q
    split at q <;> first | exact .inl (by assumption) | exact .inr (by assumption) | cases q
  · have q := h4 y hy
    rcases e with e | e <;> (simp only [e, Bool.or_eq_true, decide_eq_true_eq] at q; exact q)
end L2
namespace L2
open PySem PySem.Spec PyProof.Rows
theorem wipe_out {σ : St} {i : Nat} : ∀ {vs : List Nat}, i ∉ vs → (wipe σ vs)[i]? = σ[i]?
  | [], _ => rfl
  | v :: vs, h => by
    have h1 : v ≠ i := fun e => h (by rw [e]; exact List.mem_cons_self)
    have h2 : i ∉ vs := fun m => h (List.mem_cons_of_mem _ m)
    unfold wipe
    rw [List.getElem?_set_ne h1]
    exact wipe_out h2
end L2
namespace L2
open PySem PySem.Spec PyProof.Rows
section
variable {κ : Type} [DecidableEq κ]
def valV (kvs : List (κ × V)) (k : κ) : Option V := (kvs.find? fun kv => decide (kv.1 = k)).map (·.2)
/-- in its place, or at the end -/
def putK (kvs : List (κ × V)) (k : κ) (v : V) : List (κ × V) :=
  if (kvs.any fun kv => decide (kv.1 = k)) = true then kvs.map (fun kv => if kv.1 = k then (kv.1, v) else kv) else kvs ++ [(k, v)]
def dropK (kvs : List (κ × V)) (k : κ) : List (κ × V) := kvs.filter fun kv => decide (kv.1 ≠ k)
theorem valV_pos {p : κ × V} {r : List (κ × V)} {k : κ} (e : p.1 = k) : valV (p :: r) k = some p.2 := by simp [valV, List.find?_cons, e]
theorem valV_neg {p : κ × V} {r : List (κ × V)} {k : κ} (e : ¬ p.1 = k) : valV (p :: r) k = valV r k := by simp [valV, List.find?_cons, e]
theorem valV_any (k : κ) : ∀ kvs : List (κ × V), (kvs.any fun kv => decide (kv.1 = k)) = (valV kvs k).isSome
  | [] => rfl
  | p :: r => by
    rw [List.any_cons]
    by_cases e : p.1 = k
    · simp only [valV_pos e, decide_eq_true e, Bool.true_or, Option.isSome_some]
    · rw [valV_neg e, decide_eq_false e, Bool.false_or]; exact valV_any k r
theorem putK_new {kvs : List (κ × V)} {k : κ} (v : V) (h : valV kvs k = none) : putK kvs k v = kvs ++ [(k, v)] := by
  unfold putK
  rw [valV_any, h]
  exact if_neg (by decide)
theorem RelO.isSome_eq {o : Option V} {u : Option Value} (r : RelO o u) : o.isSome = u.isSome := by
  cases o with
  | none => cases u with
    | none => rfl
    | some _ => exact (show False from r).elim
  | some _ => cases u with
    | none => exact (show False from r).elim
    | some _ => rfl
theorem RelO.getD {o : Option V} {u : Option Value} {d : V} {d' : Value} (r : RelO o u) (rd : RelV d d') : RelV (o.getD d) (u.getD d') := by
  cases o with
  | none => cases u with
    | none => exact rd
    | some _ => exact (show False from r).elim
  | some _ => cases u with
    | none => exact (show False from r).elim
    | some _ => exact r
/-- raw tables of the same keys -/
theorem KV.val {kvs : List (κ × V)} {vs : List (κ × Value)} (r : KV kvs vs) (k : κ) : RelO (valV kvs k) (valueAt vs k) := by
  unfold KV at r
  induction r with
  | nil => exact True.intro
  | @cons p q ps qs h t ih =>
    obtain ⟨h1, h2⟩ := h
    by_cases e : p.1 = k
    · have e' : q.1 = k := h1.symm.trans e
      have b : valueAt (q :: qs) k = some q.2 := by simp [valueAt, List.find?_cons, e']
      rw [valV_pos e, b]; exact h2
    · have e' : ¬ q.1 = k := fun z => e (h1.trans z)
      have b : valueAt (q :: qs) k = valueAt qs k := by simp [valueAt, List.find?_cons, e']
      rw [valV_neg e, b]; exact ih
theorem KV.any {kvs : List (κ × V)} {vs : List (κ × Value)} (r : KV kvs vs) (k : κ) : (kvs.any fun kv => decide (kv.1 = k)) = vs.any fun kv => decide (kv.1 = k) := by
  unfold KV at r
  induction r with
  | nil => rfl
  | cons h t ih => rw [List.any_cons, List.any_cons, ih, h.1]
theorem KV.repl {kvs : List (κ × V)} {vs : List (κ × Value)} (r : KV kvs vs) (k : κ) {y : V} {u : Value} (ry : RelV y u) :
    KV (kvs.map fun kv => if kv.1 = k then (kv.1, y) else kv) (vs.map fun kv => if kv.1 = k then (kv.1, u) else kv) := by
  unfold KV at r ⊢
  induction r with
  | nil => exact .nil
  | @cons p q ps qs h t ih =>
    rw [List.map_cons, List.map_cons]
    refine .cons ?_ ih
    obtain ⟨h1, h2⟩ := h
    by_cases e : p.1 = k
    · rw [if_pos e, if_pos (h1.symm.trans e)]; exact ⟨h1, ry⟩
    · rw [if_neg e, if_neg (fun z => e (h1.trans z))]; exact ⟨h1, h2⟩
theorem KV.put {kvs : List (κ × V)} {vs : List (κ × Value)} (r : KV kvs vs) (k : κ) {y : V} {u : Value} (ry : RelV y u) : KV (putK kvs k y) (stored vs k u) := by
  unfold putK stored
  rw [r.any k]
  by_cases e : (vs.any fun kv => decide (kv.1 = k)) = true
  · rw [if_pos e, if_pos e]; exact r.repl k ry
  · rw [if_neg e, if_neg e]; exact Paired.snoc r ⟨rfl, ry⟩
theorem KV.drop {kvs : List (κ × V)} {vs : List (κ × Value)} (r : KV kvs vs) (k : κ) : KV (dropK kvs k) (without vs k) := by
  unfold KV at r ⊢
  unfold dropK without
  induction r with
  | nil => exact .nil
  | @cons p q ps qs h t ih =>
    obtain ⟨h1, h2⟩ := h
    rw [List.filter_cons, List.filter_cons]
    by_cases e : p.1 = k
    · have a : ¬ decide (p.1 ≠ k) = true := by simp [e]
      have b : ¬ decide (q.1 ≠ k) = true := by simp [h1.symm.trans e]
      rw [if_neg a, if_neg b]; exact ih
    · have e' : ¬ q.1 = k := fun z => e (h1.trans z)
      have a : decide (p.1 ≠ k) = true := by simp [e]
      have b : decide (q.1 ≠ k) = true := by simp [e']
      rw [if_pos a, if_pos b]; exact .cons ⟨h1, h2⟩ ih
theorem KV.length {kvs : List (κ × V)} {vs : List (κ × Value)} (r : KV kvs vs) : kvs.length = vs.length := Paired.length r
end
theorem kV_is {P : Program} {w : World} {k : Key} {u : Value} (r : RelV (kV k) u) : (mixKind P w).is k u = true := by
  cases k with
  | inl i => obtain ⟨t, e⟩ := (show ∃ t, u = Value.int i t from r); subst e; exact mixKind_int P w i t
  | inr x => obtain ⟨t, e⟩ := (show ∃ t, u = Value.str x t from r); subst e; exact mixKind_str P w x t
theorem items_are {P : Program} {w : World} : ∀ {ks : List Key} {us : List Value}, Vals (ks.map kV) us → ItemsAre (mixKind P w) ks us
  | [], _, r => by rw [List.map_nil] at r; cases r; exact .nil
  | k :: ks, _, r => by
    rw [List.map_cons] at r
    cases r with
    | cons h t => exact .cons (kV_is h) (items_are t)
/-- raw entries of a dict with tuple keys -/
abbrev KT (H : Hp) : List (List Key × V) → List (List Key × Addr × Value) → Prop := Paired fun p q => p.1 = q.1 ∧ H q.2.1 = some (.tup (p.1.map kV)) ∧ RelV p.2 q.2.2
theorem KT.val {H : Hp} {kvs : List (List Key × V)} {xs : List (List Key × Addr × Value)} (r : KT H kvs xs) (k : List Key) : RelO (valV kvs k) ((atKey xs k).map (·.2)) := by
  induction r with
  | nil => exact True.intro
  | @cons p q ps qs h t ih =>
    obtain ⟨h1, _, h2⟩ := h
    by_cases e : p.1 = k
    · have e' : q.1 = k := h1.symm.trans e
      have b : atKey (q :: qs) k = some q.2 := by simp [atKey, List.find?_cons, e']
      rw [valV_pos e, b]; exact h2
    · have e' : ¬ q.1 = k := fun z => e (h1.trans z)
      have b : atKey (q :: qs) k = atKey qs k := by simp [atKey, List.find?_cons, e']
      rw [valV_neg e, b]; exact ih
theorem KT.repl {H : Hp} {kvs : List (List Key × V)} {xs : List (List Key × Addr × Value)} (r : KT H kvs xs) (k : List Key) {y : V} {u : Value} (ry : RelV y u) :
    KT H (kvs.map fun kv => if kv.1 = k then (kv.1, y) else kv) (xs.map (putAt k u)) := by
  induction r with
  | nil => exact .nil
  | @cons p q ps qs h t ih =>
    rw [List.map_cons, List.map_cons]
    refine .cons ?_ ih
    obtain ⟨h1, h2, h3⟩ := h
    unfold putAt
    by_cases e : p.1 = k
    · rw [if_pos e, if_pos (h1.symm.trans e)]; exact ⟨h1, h2, ry⟩
    · rw [if_neg e, if_neg (fun z => e (h1.trans z))]; exact ⟨h1, h2, h3⟩
theorem KT.put {H : Hp} {kvs : List (List Key × V)} {xs : List (List Key × Addr × Value)} (r : KT H kvs xs) (k : List Key) {b : Addr} {y : V} {u : Value} (hb : H b = some (.tup (k.map kV))) (ry : RelV y u) :
    KT H (putK kvs k y) (storedH xs k b u) := by
  have e : (kvs.any fun kv => decide (kv.1 = k)) = (atKey xs k).isSome := by
    rw [valV_any, (r.val k).isSome_eq, Option.isSome_map]
  unfold putK storedH
  rw [e]
  by_cases q : (atKey xs k).isSome = true
  · rw [if_pos q, if_pos q]; exact r.repl k ry
  · rw [if_neg q, if_neg q]; exact Paired.snoc r ⟨rfl, hb, ry⟩
theorem KT.keeps {H H' : Hp} {kvs : List (List Key × V)} {xs : List (List Key × Addr × Value)} (r : KT H kvs xs) (ht : ∀ b ys, H b = some (.tup ys) → H' b = some (.tup ys)) : KT H' kvs xs :=
  Paired.mapP r fun _ _ z => ⟨z.1, ht _ _ z.2.1, z.2.2⟩
section
variable {P : Program} {w : World} {H : Hp} {h : Heap} {a : Addr}
theorem rd_of {u : HO} (ok : HOk P w H h) (e : Rd H a u) : ObjOk P w H h a u := e.ok ok
theorem dk_rd {kvs : List (Key × V)} (ok : HOk P w H h) (e : Rd H a (.dK kvs)) : kvs.length ≤ sizeLine ∧ (a == sysModules) = false ∧ ∃ vs, KV kvs vs ∧ h.DictOf (mixKind P w) a vs :=
  show ObjOk P w H h a (.dK kvs) from rd_of ok e
theorem dk_of {kvs : List (Key × V)} (ok : HOk P w H h) (e : H a = some (.dK kvs)) : kvs.length ≤ sizeLine ∧ (a == sysModules) = false ∧ ∃ vs, KV kvs vs ∧ h.DictOf (mixKind P w) a vs := dk_rd ok (.inl e)
end
/-- what the dict at a holds at the key y -/
def DGet (H : Hp) (a : Addr) (y : V) (r : Option V) : Prop :=
  (∃ kvs k, Rd H a (.dK kvs) ∧ y = kV k ∧ r = valV kvs k) ∨ ∃ kvs k b, Rd H a (.dT kvs) ∧ y = .ref b ∧ H b = some (.tup (k.map kV)) ∧ r = valV kvs k
/-- the heap behind a[y] = v -/
def DPut (H : Hp) (a : Addr) (y v : V) (H' : Hp) : Prop :=
  (∃ kvs k, H a = some (.dK kvs) ∧ y = kV k ∧ kvs.length < sizeLine ∧ H' = upd H a (.dK (putK kvs k v))) ∨
  ∃ kvs k b, H a = some (.dT kvs) ∧ y = .ref b ∧ H b = some (.tup (k.map kV)) ∧ kvs.length < sizeLine ∧ H' = upd H a (.dT (putK kvs k v))
theorem DGet.k {H : Hp} {a : Addr} {kvs : List (Key × V)} {k : Key} (e : H a = some (.dK kvs)) : DGet H a (kV k) (valV kvs k) := .inl ⟨kvs, k, .inl e, rfl, rfl⟩
theorem DGet.t {H : Hp} {a b : Addr} {kvs : List (List Key × V)} {k : List Key} (e : H a = some (.dT kvs)) (eb : H b = some (.tup (k.map kV))) : DGet H a (.ref b) (valV kvs k) := .inr ⟨kvs, k, b, .inl e, rfl, eb, rfl⟩
theorem DPut.k {H : Hp} {a : Addr} {kvs : List (Key × V)} {k : Key} {v : V} (e : H a = some (.dK kvs)) (hl : kvs.length < sizeLine) : DPut H a (kV k) v (upd H a (.dK (putK kvs k v))) := .inl ⟨kvs, k, e, rfl, hl, rfl⟩
theorem DPut.t {H : Hp} {a b : Addr} {kvs : List (List Key × V)} {k : List Key} {v : V} (e : H a = some (.dT kvs)) (eb : H b = some (.tup (k.map kV))) (hl : kvs.length < sizeLine) :
    DPut H a (.ref b) v (upd H a (.dT (putK kvs k v))) := .inr ⟨kvs, k, b, e, rfl, eb, hl, rfl⟩
section
variable {X : Cx} {pins : List (Addr × Obj)} {σ : St} {H : Hp} {s : Shared} {a : Addr} {y v : V} {u r : Value} {o : Option V} {A : Around} {E : Value → Shared → Prop}
theorem Inv.big (I : Inv X pins σ H s) : sysModules < s.heap.objs.size := by
  have h : mainGlobals < s.heap.objs.size := (I.mod.glob.keeps I.bk).lt
  exact Nat.lt_trans (by decide) h
/-- a dict's object is replaced -/
theorem d_write {h' : Heap} {t' : Nat} {ob : HO} (I : Inv X pins σ H s) (mu : Mut (H a)) (hs : Heap.SameBut a s.heap h') (he : ∃ q, h'.get? a = some q) (new : ObjOk X.prog X.w (upd H a ob) h' a ob) :
    Inv X pins σ (upd H a ob) { s with heap := h', toks := t' } :=
  I.write (x := a) (e := a) mu (.inl rfl) (fun b q hb z => (hs.2 b hb).trans z) he new
end
section
variable {X : Cx} {pins : List (Addr × Obj)} {σ : St} {H : Hp} {s : Shared} {a : Addr} {kvs : List (Key × V)} {k : Key} {u : Value} {A : Around} {E : Value → Shared → Prop}
/-- len(d) -/
theorem d_len {Q : Value → Shared → Prop} (I : Inv X pins σ H s) (e : Rd H a (.dK kvs)) (h : ∀ t s', Inv X pins σ H s' → Q (.int kvs.length t) s') : wpAny (model X.prog X.w) A (call (.builtin "len") [.ref a]) Q E s := by
  obtain ⟨z, hd, vs, rel, dd⟩ := dk_rd I.hok e
  refine call_len_dict hd dd (by rw [← rel.length]; rw [sizeLine_eq] at z; omega) ?_
  rw [← rel.length]
  exact h _ _ (I.tok _)
end
theorem dk_empty {P : Program} {w : World} {H : Hp} (h : Heap) (hb : sysModules < h.objs.size) : ObjOk P w H (h.push { cls := .type "dict", data := .dict #[] }) h.objs.size (.dK []) :=
  ⟨Nat.zero_le _, beq_eq_false_iff_ne.mpr (Ne.symm (Nat.ne_of_lt hb)), [], .nil, Heap.DictOf.new h⟩
/-- {}, to be a dict of the kind that is wanted -/
def tDNewK : TE := fun _ H Q => ∀ p, H p = none → Q (.ref p) (upd H p (.dK []))
section
variable {X : Cx} {pos : Pos}
theorem pe_dnewK : PE X (.Dict [] [] pos) tDNewK := fun pins s σ H Q I h =>
  wpAny_Dict_empty ⟨.ref s.heap.objs.size, _, I.laid (a := s.heap.objs.size) (o := .dK []) (t' := s.toks) (fun _ _ q => Heap.get?_push_of_some _ q) (Nat.le_refl _) (dk_empty s.heap I.big), rfl, h _ (I.hok.fresh (Nat.le_refl _))⟩
end
/-- a method call o.m(e) of a built-in, with one argument: what must be seen of the text -/
structure M1 (X : Cx) (o : Expr) (m : Str) (apos : Pos) (e : Expr) (cpos : Pos) : Prop where
  base : attributeBase o m X.env (eval o X.env) = eval o X.env
  few : ((backTo cpos (starEach [e] X.env)).all (fun x => !x.1) && (backToKw cpos (keywordEach [] X.env)).all (fun x => x.1.isSome)
    && decide (([e] : List Expr).length + ([] : List Keyword).length + (if ([] : List Keyword).isEmpty then 0 else 1) < 30)) = true
  line : (apos.endLine == cpos.line) = true
  trees : backTo cpos (starEach [e] X.env) = [(false, eval e X.env)]
structure M2 (X : Cx) (o : Expr) (m : Str) (apos : Pos) (e f : Expr) (cpos : Pos) : Prop where
  base : attributeBase o m X.env (eval o X.env) = eval o X.env
  few : ((backTo cpos (starEach [e, f] X.env)).all (fun x => !x.1) && (backToKw cpos (keywordEach [] X.env)).all (fun x => x.1.isSome)
    && decide (([e, f] : List Expr).length + ([] : List Keyword).length + (if ([] : List Keyword).isEmpty then 0 else 1) < 30)) = true
  line : (apos.endLine == cpos.line) = true
  trees : backTo cpos (starEach [e, f] X.env) = [(false, eval e X.env), (false, eval f X.env)]
end L2
namespace L2
open PySem PySem.Spec PyProof.Rows
end L2
namespace L2
open PySem PySem.Spec PyProof.Rows
section
variable {X : Cx} {pins : List (Addr × Obj)} {σ : St} {H : Hp} {s : Shared} {h' : Heap}
/-- several records of ours have turned -/
theorem Inv.turnedL {t' : Nat} {ch : List Addr} (I : Inv X pins σ H s) (k : ∀ b o, b ∉ ch → s.heap.get? b = some o → h'.get? b = some o) (hf : ∀ b ∈ ch, FpOk X pins H b) : Inv X pins σ H { s with heap := h', toks := t' } := by
  have nit : ∀ b u, H b = some u → b ∉ ch := fun b u e z => by
    have q := (hf b z).1
    rw [q] at e; cases e
  refine I.step (g' := s.gens) (d' := s.drawn) (ch := ch) (fun b hb => ⟨(hf b hb).2.2.2.1, (hf b hb).2.1, (hf b hb).2.2.2.2.1, (hf b hb).2.2.2.2.2⟩) (fun b o _ _ hc e _ => k b o hc e) (fun b o _ _ hc e _ => ⟨o.slots, k b o hc e⟩)
    (fun _ _ _ _ n => n) (fun b o hc e => ⟨o, k b o hc e⟩) (fun _ _ e => e) (fun _ _ _ e => e) (fun b ps e => ⟨#[], by rw [e]; simp⟩) (fun m hm => ?_) (fun b u e => ?_) I.bare
  · obtain ⟨o, es, ep, ho, r⟩ := hm
    exact ⟨o, es, ep, k _ o (fun z => (hf _ z).2.1 rfl) ho, r⟩
  · refine (I.hok b u e).stay (fun c v hc q => k c v ?_ q) (fun _ q => q) fun _ _ q => q
    rcases hc with z | z
    · rw [z]; exact nit b u e
    · exact nit c _ z
/-- .. and one new object is laid -/
theorem Inv.turnedNew {t' : Nat} {ch : List Addr} {T : Addr} {ob : HO} (I : Inv X pins σ H s) (k : ∀ b o, b ∉ ch → s.heap.get? b = some o → h'.get? b = some o) (hf : ∀ b ∈ ch, FpOk X pins H b) (hT : s.heap.objs.size ≤ T)
    (new : ObjOk X.prog X.w (upd H T ob) h' T ob) : Inv X pins σ (upd H T ob) { s with heap := h', toks := t' } := by
  have hn : H T = none := I.hok.fresh hT
  have nit : ∀ b u, H b = some u → b ∉ ch := fun b u e z => by
    have q := (hf b z).1
    rw [q] at e; cases e
  refine I.step (g' := s.gens) (d' := s.drawn) (ch := ch) (fun b hb => ⟨(hf b hb).2.2.2.1, (hf b hb).2.1, (hf b hb).2.2.2.2.1, (hf b hb).2.2.2.2.2⟩) (fun b o _ _ hc e _ => k b o hc e) (fun b o _ _ hc e _ => ⟨o.slots, k b o hc e⟩)
    (fun b o _ e n => ?_) (fun b o hc e => ⟨o, k b o hc e⟩) (fun b xs e => ?_) (fun b o u e => ?_) (fun b ps e => ⟨#[], ?_⟩) (fun m hm => ?_) (fun b u e => ?_) I.bare
  · rw [upd_ne (Nat.ne_of_lt (Nat.lt_of_lt_of_le (Heap.lt_size e) hT))]; exact n
  · rw [upd_ne (ne_of_none e hn)]; exact e
  · rw [upd_ne (ne_of_none e hn)]; exact e
  · rw [upd_ne (ne_of_none e hn), e]; simp
  · obtain ⟨o, es, ep, ho, r⟩ := hm
    exact ⟨o, es, ep, k _ o (fun z => (hf _ z).2.1 rfl) ho, r⟩
  · by_cases hb : b = T
    · subst hb
      rw [upd_same] at e
      cases e
      exact new
    · rw [upd_ne hb] at e
      refine (I.hok b u e).stay (fun c v hc q => k c v ?_ q) (fun c q => by rw [upd_ne (ne_of_none q hn)]; exact q) fun c xs q => by rw [upd_ne (ne_of_none q hn)]; exact q
      rcases hc with z | z
      · rw [z]; exact nit b u e
      · exact nit c _ z
end
theorem boot_zip5 : bootBuiltins "zip" = some (.type "zip") := by decide +kernel
end L2
section 
namespace Bits
open PySem PyProof.Rows
end Bits
end 
section 
namespace TL
open PySem PySem.Builtin PySem.Builtin.Str PySem.StrLaws
abbrev tl (x : Str) : List Nat := x.cps.toList
/-- S stands at the head of l -/
def pre (S l : List Nat) : Bool := l.take S.length == S
/-- what stands before the first S, and behind it -/
def par (S : List Nat) : List Nat → List Nat → Option (List Nat × List Nat)
  | _, [] => none
  | acc, c :: r => if pre S (c :: r) = true then some (acc, (c :: r).drop S.length) else par S (acc ++ [c]) r
end TL
end 
namespace L2
open PySem PySem.Spec PyProof.Rows
end L2
namespace L2
open PySem PySem.Spec PyProof.Rows
end L2
namespace Att
open PySem PySem.W PySem.Calls PyProof.Rows
theorem ints_of_wellAll {P : Params} {h : Heap} : ∀ (ns : List Int) (vs : List Value), WellAll P h vs (ns.map WData.int) → IntsAre vs ns := by
  intro ns
  induction ns with
  | nil =>
    intro vs w
    rw [List.map_nil] at w
    cases w
    exact .nil
  | cons n ns ih =>
    intro vs w
    rw [List.map_cons] at w
    cases w with
    | cons a b =>
      cases a
      exact .cons _ _ (ih _ b)
theorem script_of {l : OpenLaw} {n : Nat} (hn : l.most = some n) {P : Params} {h : Heap} {args : List WData} {vals : List Value}
    (hpre : l.row.toRowW.claim.pre args = true) (hwl : WellAll P h vals args) :
    ∃ a vs ns, vals = [Value.ref a] ∧ args = [WData.list (ns.map WData.int)] ∧ h.get? a = some { cls := .type "list", data := .seq vs.toArray } ∧ IntsAre vs ns ∧ ns.length ≤ n := by
  have hsh : WShape.hasAll [] args [.list .int] = true := (pre_splitW hpre).1
  have hc : l.pre.holds [] { args := args } = true := (pre_splitW hpre).2
  obtain ⟨d, r, rfl, h1, h2⟩ := hasAllW_cons hsh
  obtain rfl := hasAllW_nil h2
  obtain ⟨xs, rfl, h3⟩ := hasW_list h1
  obtain ⟨ns, rfl⟩ := items_int h3
  have hlen : ns.length ≤ n := by
    unfold OpenLaw.pre at hc
    have h4 : (WTm.not (.lt (.lit (.int (n : Int))) (.len (.arg 0)))).holds [] { args := [.list (ns.map .int)] } = true := by
      have h4 := (holds_andW hc).1
      rw [hn] at h4
      exact h4
    have h5 := condW_of h4 (w_not (w_lt w_lit (w_len_list (w_arg rfl))))
    rw [List.length_map] at h5
    refine Nat.le_of_not_lt fun q => ?_
    have q' : (n : Int) < ((ns.length : Nat) : Int) := by omega
    first
      | (rw [decide_eq_true q'] at h5; exact absurd h5 (by decide))
      | (simp at h5; omega)
  cases hwl with
  | cons w1 w2 =>
    cases w2
    cases w1 with
    | list ho hall => exact ⟨_, _, ns, rfl, rfl, ho, ints_of_wellAll ns _ hall, hlen⟩
theorem post_true (l : OpenLaw) (args : List WData) : l.row.toRowW.claim.post args (.bool true) args = true :=
  postW_of (r := l.row.toRowW) (X := (true == true))
    (show WShape.has [] (.bool true) .bool = true by first | rfl | decide | simp [WShape.has, WShape.arms, WShape.armsAll])
    (show (WTm.eq .res (.lit (.bool true))).value [] { args := args, res := some (.bool true), after := args } = some (.bool (true == true)) from w_eq_bool (w_res rfl) w_lit) rfl
/-- the same from a codeAny of the CALL (for a layer whose function contracts speak of calls) -/
theorem attach_call {l : OpenLaw} {n : Nat} {q : Program} {loose : List Str} {XP : (Str → Option Value) → Heap → Prop} {YP : World → Heap → Prop} {d : DefRec}
    (hn : l.most = some n) (hdf : d.params.defaults = [])
    (call : ∀ (w : World) (s₀ s₁ : Shared) (mg mb : Str → Option Value) (fa : Addr) (o : Obj) (pm cd doc : Value) (a : Addr) (vs : List Value) (ns : List Int),
      Ground q loose [] XP w s₀ mg mb s₁.heap → YP w s₁.heap →
      s₁.heap.get? fa = some o → o.data = .func (docDef d.name d.params d.body d.scope pm cd doc) → s₁.heap.CodeRec cd d.name → mg d.name = some (.ref fa) →
      s₁.heap.get? a = some { cls := .type "list", data := .seq vs.toArray } → IntsAre vs ns → ns.length ≤ n → s₁.gens = #[] →
      codeAny (model l.prog w) callerA (.call (.ref fa) ⟨[.ref a], []⟩) (fun r s' => r = .ok (.ret (.bool true)) ∧ OldK s₁.heap s'.heap ∧ s'.os = s₁.os ∧ AllBare s'.gens) s₁) :
    WalkO q loose XP YP l.row.toRowW d [] (fun f vs => PySem.call f vs) := by
  intro w s₀ s₁ mg mb G Y fa o pm cd doc dV kV ho hd hcd hD hmg hg args vals as hpre hlay hrd hwl hlo
  obtain rfl : dV = .none := Dflts.none hD hdf
  obtain rfl : kV = .none := Dflts.noKw hD
  obtain ⟨a, vs, ns, rfl, rfl, hobj, hints, hlen⟩ := script_of hn hpre hwl
  refine enter_call (codeAny_mono (call w s₀ s₁ mg mb fa o pm cd doc a vs ns G Y ho (fd_plain hd) hcd hmg hobj hints hlen hg) fun r s' hq => ?_)
  obtain ⟨rfl, h2, h3, h4⟩ := hq
  exact ⟨.inl ⟨.bool true, .bool true, [], rfl, fun _ => rfl, .bool true, post_true l _, fun _ => ⟨List.Pairwise.nil, fun _ hm => (nomatch hm)⟩⟩, h2, h3, h4⟩
end Att
namespace L2
open PySem PySem.Spec PyProof.Rows
theorem vals_ints : ∀ {vs : List Value} {ns : List Int}, IntsAre vs ns → Vals (ns.map V.int) vs
  | _, _, .nil => .nil
  | _, _, .cons n t h => .cons ⟨t, rfl⟩ (vals_ints h)
end L2
namespace L2
open PySem PySem.Spec PyProof.Rows
end L2
namespace L2
open PySem PySem.Spec PyProof.Rows
def defArgs (s : Stmt) : Arguments := match s with
  | .FunctionDef _ a _ _ _ _ _ _ _ _ => a
  | _ => { posonlyargs := [], args := [], vararg := none, kwonlyargs := [], kw_defaults := [], kwarg := none, defaults := [] }
def defBody (s : Stmt) : List Stmt := match s with
  | .FunctionDef _ _ b _ _ _ _ _ _ _ => b
  | _ => []
def defScope (s : Stmt) : Scope := match s with
  | .FunctionDef _ _ _ _ _ _ sc _ _ _ => sc
  | _ => { kind := .function, names := [], isGenerator := false, isCoroutine := false }
abbrev CX0 : CXT := fun _ _ _ _ _ _ => False
abbrev E0 : XK := fun _ _ _ => False
theorem pass0 {X : Cx} : Passes CX0 X E0 := fun _ _ _ _ _ _ _ h => h.elim
structure Fun (K : PySem.W.Frag) (x qual : Str) (st : Stmt) (f : Addr) (fd : FuncData) : Prop where
  ex : ∃ (oc : Value) (od : Option Addr) (kV doc pm : Value) (an : Option Addr) (cdv ct : Value) (osl : Array (Option Value)),
    fd = PySem.W.fnOf x qual (defArgs st) (defBody st) (defScope st) .none kV doc pm an cdv ct ∧ K.lookup f = some ⟨oc, od, .func fd, osl⟩ ∧ PySem.W.codeIn K cdv qual = true
  kp : PySem.W.keepIn K (.ref f) = true
section
variable {P : Program} {w : World} {K : PySem.W.Frag} {mg : Str → Option Value} {base : Heap}
/-- THE RULE for a def: its body as a term of rules, and the reading of that term -/
theorem Fun.ok {x qual : Str} {st : Stmt} {f : Addr} {fd : FuncData} {N ps : List Str} {k : Nat} {sp : Sp} (F : Fun K x qual st f fd) (S : FnScope N ps (defScope st)) (len : ∀ vs H Q E, sp vs H Q E → vs.length = ps.length)
    (hbody : ∀ (cdv : Value) (A : Around) (outer : List Env) (s : Shared) (H : Hp) (vs : List V) (Q : VK) (E : XK), Room k (A.deeper (envOfC qual (defScope st) s.heap.objs.size f cdv)) → sp vs H Q E →
      ∃ t, PSs (cxOf CX0 P w K mg base N qual (defScope st) f cdv A outer s H E).nox (defBody st) t ∧ t { nx := fun _ H' => Q .non H', rt := Q } (start N vs) H) : FnOk P w K mg base CX0 (k + 1) f fd ps sp := by
  obtain ⟨oc, od, kV, doc, pm, an, cdv, ct, osl, rfl, lk, hcd⟩ := F.ex
  refine fn_of lk hcd S len fun A outer s H vs Q E hr hsp => ?_
  obtain ⟨t, h, q⟩ := hbody cdv A outer s H vs Q E hr hsp
  exact ⟨t, h.nox, q⟩
/-- how its arguments bind (no defaults): h is «fun _ _ _ _ _ _ us hl => match us, hl with | [_, _], _ => rfl», one _ a parameter -/
theorem Fun.binds {x qual : Str} {st : Stmt} {f : Addr} {fd : FuncData} {ps : List Str} (F : Fun K x qual st f fd)
    (h : ∀ (kV doc pm : Value) (an : Option Addr) (cdv ct : Value) (us : List Value), us.length = ps.length → bindArgs (PySem.W.fnOf x qual (defArgs st) (defBody st) (defScope st) .none kV doc pm an cdv ct) ⟨us, []⟩ = pure (ps.zip us)) : Binds K fd ps [] := by
  obtain ⟨oc, od, kV, doc, pm, an, cdv, ct, osl, rfl, lk, hcd⟩ := F.ex
  exact .all (h kV doc pm an cdv ct)
end
section
variable {X : Cx}
theorem pv (i : Nat) {x : Str} {pos : Pos} (hN : X.N[i]? = some x := by rfl) (hv : Vis X.env.scope x := by first | exact Or.inl rfl | exact Or.inr (Or.inl rfl) | exact Or.inr (Or.inr rfl)) (hd : (x == ("__debug__" : Str)) = false := by decide)
    (hcd : (x == ("__classdict__" : Str)) = false := by decide) : PE X (.Name x pos) (tVar i) := pe_var hN hv hd hcd
end
theorem iteF {A B : Prop} (h : B) : if false = true then A else B := by
  rw [if_neg Bool.false_ne_true]
  exact h
theorem iteT {A B : Prop} (h : A) : if true = true then A else B := by
  rw [if_pos rfl]
  exact h
/-- all that was tracked is as it was -/
def Same (H H' : Hp) : Prop := ∀ b o, H b = some o → H' b = some o
theorem Same.refl (H : Hp) : Same H H := fun _ _ h => h
theorem Same.trans {H H1 H2 : Hp} (a : Same H H1) (b : Same H1 H2) : Same H H2 := fun c o h => b c o (a c o h)
theorem Same.free {H H' : Hp} (e : Same H H') {l : Addr} (h : H' l = Option.none) : H l = Option.none := by
  cases q : H l with
  | none => rfl
  | some o =>
    rw [e l o q] at h
    cases h
theorem Same.seq {K : PySem.W.Frag} {H H' : Hp} {a : Addr} {xs : List V} (e : Same H H') (h : SqL K H a xs) : SqL K H' a xs := by
  rcases h with (h | ⟨o, h⟩) | h
  · exact .inl (.inl (e _ _ h))
  · exact .inl (.inr ⟨o, e _ _ h⟩)
  · exact .inr h
/-- a new instance and its __init__ leave all that was tracked as it was -/
theorem Same.made {H H1 : Hp} {x dx C : Addr} (nx : H x = Option.none) (nd : H dx = Option.none) (k : ∀ b o, (upd (upd H dx (.own x)) x (.ins C dx [])) b = some o → b ≠ x → H1 b = some o) : Same H H1 := fun b o e =>
  k b o (by rw [upd_ne (ne_of_none e nx), upd_ne (ne_of_none e nd)]; exact e) (ne_of_none e nx)
end L2
set_option Elab.async false
set_option linter.all false
set_option maxRecDepth 100000
namespace L2.Fs
open PySem PySem.Spec PyProof.Rows
open Sem (wp)
section
variable {M : Model} {A : Around} {Ph : End → Shared → Prop} {c : Code} {fs : List Frame} {s : Shared}
def Sg (M : Model) (A : Around) (Ph : End → Shared → Prop) (c : Code) (t : Sem Fin) (fs : List Frame) (s : Shared) : Prop :=
  ∀ Γ p, Γ.code = c → Γ.Woken A →
    ∃ e s', Runs M Γ p t fs s e s' ∧ Ph e s'
theorem sg_wrap {α : Type} {m : Sem α} {K : α → Sem Fin} {H : Value → Sem Fin} {gd lv}
    (h : wpAny M (A.over c fs) m (fun a s' => Sg M A Ph c (K a) fs s')
      (fun x s' => Sg M A Ph c (H x) fs s') s) : Sg M A Ph c (m.wrap K H gd lv) fs s := by
  rintro Γ p rfl hΓ
  exact runs_wrap_of_wp K H gd lv m (h (Γ.over fs) p (hΓ.over fs))
    (fun a p' s' h' => h' Γ p' rfl hΓ) (fun x p' s' h' => h' Γ p' rfl hΓ)
theorem sg_bw {α β : Type} {m : Sem α} {K : α → Sem β} {K' : β → Sem Fin} {H' : Value → Sem Fin} {gd lv}
    (h : wpAny M (A.over c fs) m (fun a s' => Sg M A Ph c ((K a).wrap K' H' gd lv) fs s')
      (fun x s' => Sg M A Ph c (H' x) fs s') s) : Sg M A Ph c ((m >>= K).wrap K' H' gd lv) fs s := by
  rw [Sem.bind_eq_wrap', Sem.wrap_wrap]
  exact sg_wrap h
theorem sg_at {p' : Pos} {k : Unit → Sem Fin} (h : Sg M A Ph c (k ()) fs s) : Sg M A Ph c (.at p' k) fs s :=
  sg_wrap (m := standAt p') (K := k) (H := .raise) (gd := id) (lv := id) (wpAny_standAt h)
theorem sg_again {c' : Code} (hq : c'.quiet = true) (hc : Sg M A Ph c' (M.den c') fs s) :
    Sg M A Ph c (.pure (.again c')) fs s := by
  rintro Γ p rfl hΓ
  obtain ⟨e, s', hr, he⟩ := hc (Γ.goto c') p rfl (hΓ.goto c')
  exact ⟨e, s', Runs.head (c₁ := c') (fun _ _ x => .again hq x) hr, he⟩
theorem sg_end (r : Result) (h : Ph (.ret r) s) : Sg M A Ph c (leafOf r) [] s := by
  rintro Γ p rfl _
  exact ⟨.ret r, s, Runs.leaf r, h⟩
theorem sg_yield {v g l} {k : Resume → Sem Fin} (hfs : splitAtGen fs = none)
    (h : ∀ p, Ph (.susp v g l k c p fs) s) : Sg M A Ph c (.yield v g l k) fs s := by
  rintro Γ p rfl _
  exact ⟨_, s, Runs.yield' fs hfs, h p⟩
theorem setGen_size (s : Shared) (g : Nat) (x : GenState) : (s.setGen g x).gens.size = s.gens.size := by
  simp [Shared.setGen]
theorem runs_gens {Γ : PySem.Ctx} {p : Pos} {t : Sem Fin} {s' : Shared} {e : End} (h : Runs M Γ p t fs s e s') : s.gens.size ≤ s'.gens.size := by
  induction h <;> (try simp only [setGen_size, Array.size_push] at *) <;> omega
/-- a generator that is asked for its next value -/
def Gs (M : Model) (A : Around) (Ph : End → Shared → Prop) (gs : GenState) (s : Shared) : Prop :=
  match gs with
  | .fresh c => Sg M A Ph c (M.den c) [] s
  | .suspended k _ c _ fs _ => Sg M A Ph c (k (.send .none)) fs s
  | _ => False
theorem resume_sg {E : Value → Shared → Prop} {g : Nat} {gs : GenState} {l : List Value} {α : Type} {k : GenResult → Sem α} {Q : α → Shared → Prop}
    (hg : s.gens[g]? = some gs) (hgo : Gs M A Ph gs (s.setGen g .running)) (hq : ∀ e s', Ph e s' → e.quiet = true)
    (hR : ∀ e s₁, Ph e s₁ → s.gens.size ≤ s₁.gens.size → wpAny M A (k e.result) Q E (s₁.setGen g e.genState)) :
    wpAny M A (.resume g (.send .none) l k) Q E s := by
  intro Γ p hΓ
  rw [Sem.wp_resume]
  cases gs with
  | fresh c =>
    obtain ⟨e₁, s₁, hr, he⟩ := hgo (Γ.wake c p) p rfl (hΓ.wake c p)
    exact ⟨_, _, by unfold Wakes; rw [hg]; exact ⟨e₁, s₁, hr, hq e₁ s₁ he, rfl, rfl⟩, hR e₁ s₁ he (by have := runs_gens hr; rwa [setGen_size] at this) Γ p hΓ⟩
  | suspended k₀ l₀ c₀ p₀ fs₀ cl =>
    obtain ⟨e₁, s₁, hr, he⟩ := hgo (Γ.wake c₀ p) p₀ rfl (hΓ.wake c₀ p)
    exact ⟨_, _, by unfold Wakes; rw [hg]; exact ⟨e₁, s₁, hr, hq e₁ s₁ he, rfl, rfl⟩, hR e₁ s₁ he (by have := runs_gens hr; rwa [setGen_size] at this) Γ p hΓ⟩
  | running => exact hgo.elim
  | finished => exact hgo.elim
end
section
variable {prog : Program} {w : World} {A : Around} {E : Value → Shared → Prop} {s : Shared}
theorem next_gen {Ph : End → Shared → Prop} {a : Addr} {g : Nat} {gs : GenState} {Q : Option Value → Shared → Prop} (hh : A.handled = none)
    (hl : s.heap.NoLimit) (hroom : A.depth < recursionLimit) (hg : s.heap.IsGen a g) (hgs : s.gens[g]? = some gs)
    (hgo : Gs (model prog w) A.in1 Ph gs (s.setGen g .running)) (hq : ∀ e s', Ph e s' → e.quiet = true)
    (hE : ∀ r s₁, Ph (.ret r) s₁ → r = .ok .next ∧ ∀ h', (∀ b o, s₁.heap.get? b = some o → h'.get? b = some o) → Q none { s₁.setGen g .finished with heap := h' })
    (hY : ∀ v g' l k c p fs s₁, Ph (.susp v g' l k c p fs) s₁ → s.gens.size ≤ s₁.gens.size → Q (some v) (s₁.setGen g (End.susp v g' l k c p fs).genState)) :
    wpAny (model prog w) A (pyNext (.ref a)) Q E s := by
  unfold pyNext
  refine wpAny_bind (wpAny_attempt (wpAny_callSpecial?_slot (name := Str.ofString "__next__") hg.typeIs slot_gen_next ?_))
  refine wpAny_call_entry slot_gen_next hg.typeIs entry_gen_next ?_ (args_gen_next _)
  show wpAny _ A.in1 (Builtin.Generator.genWake (.ref a) (.send .none)) _ _ s
  unfold Builtin.Generator.genWake
  refine wpAny_bind (wpAny_holding (wpAny_genNumber hg ?_))
  refine wpAny_bind (wpAny_genState hgs ?_)
  cases gs with
  | running => exact hgo.elim
  | finished => exact hgo.elim
  | _ =>
    refine wpAny_bind (wpAny_roomToWake hl hroom ?_)
    show wpAny _ A.in1 (.resume g (.send .none) [] _) _ _ s
    refine resume_sg hgs hgo hq fun e s₁ he hz => ?_
    cases e with
    | ret r =>
      obtain ⟨rfl, hp⟩ := hE r s₁ he
      show wpAny _ A.in1 (newExc (.type "StopIteration") [] >>= _) _ _ _
      refine wpAny_bind ?_
      simp only [newExc, newTuple]
      refine wpAny_bind (wpAny_newObj_type ?_ (by size_fits))
      refine wpAny_bind (m := firstArgMember _ _) ?_
      refine wpAny_of_eq (a := Value.none) (by first | rfl | (simp only [firstArgMember]; rfl)) ?_
      refine wpAny_newObj_type ?_ (by size_fits)
      simp only [raiseNew]
      refine wpAny_bind (wpAny_bind (wpAny_handled ?_))
      first | rw [show A.in1.handled = none from hh] | rw [hh]
      refine wpAny_throw ?_
      refine wpAny_bind ?_
      refine wpAny_isInstance (T := "StopIteration") (b := true) ⟨_, Heap.get?_push_size _ rfl, rfl⟩ isSubtype_stop ?_
      refine wpAny_pure (hp _ fun b o hb => ?_)
      exact Heap.get?_push_of_some _ (Heap.get?_push_of_some _ hb)
    | susp v g' l k c p fs => exact wpAny_pure ⟨v, rfl, wpAny_pure (hY v g' l k c p fs s₁ he hz)⟩
end
end L2.Fs
set_option Elab.async false
set_option linter.all false
set_option maxRecDepth 100000
namespace L2.Fs
open PySem PySem.Spec PyProof.Rows
open Sem (wp)
/-- what lies between two askings of a generator: nothing is lost -/
def Kp (s s' : Shared) : Prop := (∀ b o, s.heap.get? b = some o → s'.heap.get? b = some o) ∧ s'.os = s.os ∧ AllBare s'.gens
theorem Kp.inv {X : Cx} {pins : List (Addr × Obj)} {σ : St} {H : Hp} {s s' : Shared} (k : Kp s s') (I : Inv X pins σ H s) : Inv X pins σ H s' :=
  I.call' (ch := []) k.2.1 (Un.kept k.1) (I.hok.kept k.1) k.2.2 (fun b z => absurd z (by simp))
theorem Kp.trans {s s1 s2 : Shared} (a : Kp s s1) (b : Kp s1 s2) : Kp s s2 := ⟨fun c o e => b.1 c o (a.1 c o e), b.2.1.trans a.2.1, b.2.2⟩
section
variable {X : Cx} {A : Around} {elt tg iter : Expr} {ifs : List Expr} {scope : Scope} {pos : Pos} {it : Addr} {g : TG} {tt : TT} {te : TE} {J : It} {fp : List Addr} {tn : Nat → Heap → Prop} {σw : St} {vs : List Nat} {n0 : Nat} {W : Nat → List V → Hp → Prop} {Fin : List V → Hp → Prop}
/-- between two turns i and i + 1, ys having been handed out; pf: what the asker holds by himself -/
def GI (X : Cx) (fp : List Addr) (tn : Nat → Heap → Prop) (σw : St) (W : Nat → List V → Hp → Prop) (pf : List (Addr × Obj)) (i : Nat) (ys : List V) (s : Shared) : Prop :=
  ∃ H, Inv X pf σw H s ∧ tn i s.heap ∧ (∀ b ∈ fp, H b = none ∧ ∀ p ∈ pf, p.1 ≠ b) ∧ W i ys H
def GF (X : Cx) (σw : St) (Fin : List V → Hp → Prop) (pf : List (Addr × Obj)) (ys : List V) (s : Shared) : Prop := ∃ H, Inv X pf σw H s ∧ Fin ys H
/-- ready to be asked at turn i, at most n times more -/
def Rdy (M : Model) (A : Around) (X : Cx) (fp : List Addr) (tn : Nat → Heap → Prop) (σw : St) (W : Nat → List V → Hp → Prop) (Fin : List V → Hp → Prop) : Nat → Nat → List V → GenState → Prop
  | 0, _, _, _ => False
  | n + 1, i, ys, gs => ∀ s pf, GI X fp tn σw W pf i ys s → Gs M A (fun e s1 => match e with
      | .ret r => r = .ok .next ∧ GF X σw Fin pf ys s1
      | .susp v g l k c p fs => (End.susp v g l k c p fs).quiet = true ∧ ∃ y j, RelV y v ∧ GI X fp tn σw W pf j (ys ++ [y]) s1 ∧ Rdy M A X fp tn σw W Fin n j (ys ++ [y]) (End.susp v g l k c p fs).genState) gs s
def Ph (M : Model) (A : Around) (X : Cx) (fp : List Addr) (tn : Nat → Heap → Prop) (σw : St) (W : Nat → List V → Hp → Prop) (Fin : List V → Hp → Prop) (n : Nat) (pf : List (Addr × Obj)) (ys : List V) (e : End) (s1 : Shared) : Prop := match e with
  | .ret r => r = .ok .next ∧ GF X σw Fin pf ys s1
  | .susp v g l k c p fs => (End.susp v g l k c p fs).quiet = true ∧ ∃ y j, RelV y v ∧ GI X fp tn σw W pf j (ys ++ [y]) s1 ∧ Rdy M A X fp tn σw W Fin n j (ys ++ [y]) (End.susp v g l k c p fs).genState
theorem GI.kp {i : Nat} {ys : List V} {pf : List (Addr × Obj)} {s s' : Shared} (T : Turn X.prog X.w X.K tg J fp it tn) (h : GI X fp tn σw W pf i ys s) (k : Kp s s') : GI X fp tn σw W pf i ys s' := by
  obtain ⟨H, I, t, n, w⟩ := h
  exact ⟨H, k.inv I, T.keep _ _ _ t fun b _ o e => k.1 b o e, n, w⟩
theorem sg_loop (hA : X.A = A.over (.compLoop (.GeneratorExp elt [⟨tg, iter, ifs, 0⟩] scope pos) 0 (.ref it) .none X.env) []) (hc : X.calm = true) (hxe : X.xe = fun _ _ => False) (hpn : ∀ p ∈ X.pn, ∀ b ∈ fp, p.1 ≠ b)
    (hco : X.env.scope.isCoroutine = false) (hex : ∀ b ∈ fp, b ∈ X.ex)
    (T : Turn X.prog X.w X.K tg J fp it tn) (pg : PG X tg g) (pt : PTs X ifs tt) (pe : PE X elt te) (hw : ∀ σ2, wipe σ2 vs = σw → ∀ (j : Nat) (v : V), σw[j]? = some (some v) → σ2[j]? = some (some v))
    (turn : ∀ i ys H, W i ys H → (J.stop i H ∧ Fin ys H) ∨ (J.go i H ∧ i < n0 ∧ ∀ x H', J.yld i H x H' → g x σw H' fun σ2 H2 => wipe σ2 vs = σw ∧ tt σ2 H2 fun b H3 =>
      if b = true then te σ2 H3 fun y H4 => W (i + 1) (ys ++ [y]) H4 else W (i + 1) ys H3)) :
    ∀ (k i n : Nat) (ys : List V) (s : Shared) (pf : List (Addr × Obj)), n0 - i = k → n0 - i ≤ n → GI X fp tn σw W pf i ys s →
      Sg (model X.prog X.w) A (Ph (model X.prog X.w) A X fp tn σw W Fin n pf ys)
        (.compLoop (.GeneratorExp elt [⟨tg, iter, ifs, 0⟩] scope pos) 0 (.ref it) .none X.env)
        ((model X.prog X.w).den (.compLoop (.GeneratorExp elt [⟨tg, iter, ifs, 0⟩] scope pos) 0 (.ref it) .none X.env)) [] s := by
  have stat : ∀ {σ' : St} {H' : Hp} {s' : Shared} {pf : List (Addr × Obj)}, Inv X pf σ' H' s' → (∀ b ∈ fp, H' b = none) → (∀ b ∈ fp, ∀ p ∈ pf, p.1 ≠ b) → ∀ b ∈ fp, FpOk X pf H' b := fun {σ' H' s' pf} I' hn hpf b hb =>
    ⟨hn b hb, (I'.ok.exf b (hex b hb)).1, I'.ok.exfs b (hex b hb), .inl (hex b hb), fun x c e => (I'.ok.exf b (hex b hb)).2 x c e, fun p hp => (List.mem_append.mp hp).elim (fun z => hpn p z b hb) (hpf b hb p)⟩
  have stopped : ∀ {i n : Nat} {ys : List V} {s : Shared} {pf : List (Addr × Obj)} {H : Hp}, Inv X pf σw H s → tn i s.heap → (∀ b ∈ fp, H b = none ∧ ∀ p ∈ pf, p.1 ≠ b) → J.stop i H → Fin ys H →
      Sg (model X.prog X.w) A (Ph (model X.prog X.w) A X fp tn σw W Fin n pf ys)
        (.compLoop (.GeneratorExp elt [⟨tg, iter, ifs, 0⟩] scope pos) 0 (.ref it) .none X.env)
        ((model X.prog X.w).den (.compLoop (.GeneratorExp elt [⟨tg, iter, ifs, 0⟩] scope pos) 0 (.ref it) .none X.env)) [] s := fun {i n ys s pf H} I t nf stop qq => by
    show Sg _ A _ _ ((compTurn (.GeneratorExp elt [⟨tg, iter, ifs, 0⟩] scope pos) 0 (.ref it) .none X.env).onRaise (leaving X.env)) [] s
    rw [compTurn_gen, Sem.onRaise_eq_wrap]
    refine sg_bw (wpAny_standAt ?_)
    refine sg_bw ?_
    rw [← hA]
    refine thnF (T.done X rfl rfl rfl hc i pf s _ H (fun _ _ => False) I (stat I (fun b hb => (nf b hb).1) fun b hb => (nf b hb).2) t stop) fun r s6 ⟨hr, I6⟩ => ?_
    subst hr
    exact sg_end (.ok .next) ⟨rfl, H, I6, qq⟩
  intro k
  induction k with
  | zero =>
    intro i n ys s pf hk hn hg
    obtain ⟨H, I, t, nf, w⟩ := hg
    rcases turn i ys H w with ⟨stop, qq⟩ | ⟨go, hlt, _⟩
    · exact stopped I t nf stop qq
    · omega
  | succ k ih =>
    intro i n ys s pf hk hn hg
    obtain ⟨H, I, t, nf, w⟩ := hg
    rcases turn i ys H w with ⟨stop, qq⟩ | ⟨go, hlt, step⟩
    · exact stopped I t nf stop qq
    · show Sg _ A _ _ ((compTurn (.GeneratorExp elt [⟨tg, iter, ifs, 0⟩] scope pos) 0 (.ref it) .none X.env).onRaise (leaving X.env)) [] s
      rw [compTurn_gen, Sem.onRaise_eq_wrap]
      refine sg_bw (wpAny_standAt ?_)
      refine sg_bw ?_
      rw [← hA]
      have fpp : ∀ b ∈ fp, ∀ p ∈ pf, p.1 ≠ b := fun b hb => (nf b hb).2
      refine thnF (T.item X rfl rfl rfl hc i pf s _ H (fun _ _ => False) I (stat I (fun b hb => (nf b hb).1) fpp) t go) fun r s6 ⟨u, hr, h6⟩ => ?_
      subst hr
      refine sg_bw ?_
      rw [← hA]
      refine thnF h6 fun _ s7 ⟨x, H7, I7, r7, y7, st7, n7⟩ => ?_
      have I7' := I7.pinned (stat I7 n7 fpp) (T.obj _ _ st7)
      refine sg_bw ?_
      rw [← hA]
      have pg1 := pg _ s7 _ H7 x u _ I7' r7 (step x H7 y7)
      rw [hxe] at pg1
      refine thnF pg1 fun _ s8 ⟨σ8, H8, I8, hw8, q8⟩ => ?_
      refine sg_bw ?_
      rw [← hA]
      have pt1 := pt _ s8 σ8 H8 _ I8 q8
      rw [hxe] at pt1
      refine thnF pt1 fun b s9 ⟨H9, I9, q9⟩ => ?_
      have fin : ∀ {s' : Shared} {H' : Hp} {ys' : List V}, Inv X (pf ++ pinsAt fp s7.heap) σ8 H' s' → W (i + 1) ys' H' → GI X fp tn σw W pf (i + 1) ys' s' := fun {s' H' ys'} I' w' => by
        have pin' : ∀ b ∈ fp, ∀ o, s7.heap.get? b = some o → s'.heap.get? b = some o ∧ H' b = none := fun b hb o e =>
          let z := I'.pin (b, o) (List.mem_append_right _ (List.mem_append_right _ (mem_pinsAt hb e)))
          ⟨z.1, z.2.1⟩
        have hl : σw.length = σ8.length := by rw [← hw8, wipe_length]
        refine ⟨H', (I'.unpinned (pins := pf)).weak hl (hw σ8 hw8), T.keep _ _ _ st7 fun b hb o e => (pin' b hb o e).1, fun b hb => ⟨?_, fpp b hb⟩, w'⟩
        obtain ⟨o, e, _⟩ := T.obj _ _ st7 b hb
        exact (pin' b hb o e).2
      cases b with
      | false =>
        simp only [Bool.false_eq_true, if_false] at q9 ⊢
        exact sg_again rfl (ih (i + 1) n ys s9 pf (by omega) (by omega) (fin I9 q9))
      | true =>
        simp only [if_true] at q9 ⊢
        have hy : ∀ v, yieldOut X.env v = yieldValue v := fun v => by simp only [yieldOut, hco, Bool.false_eq_true, if_false]
        simp only [hy]
        rw [Sem.bind_eq_wrap', Sem.bind_eq_wrap', Sem.wrap_wrap, Sem.wrap_wrap]
        refine sg_wrap ?_
        rw [← hA]
        have pe1 := pe _ s9 σ8 H9 _ I9 q9
        rw [hxe] at pe1
        refine thnF pe1 fun z s10 ⟨yv, H10, I10, r10, w10⟩ => ?_
        have gi := fin I10 w10
        refine sg_at (sg_yield rfl fun p => ⟨rfl, yv, i + 1, r10, gi, ?_⟩)
        obtain ⟨m, rfl⟩ : ∃ m, n = m + 1 := ⟨n - 1, by omega⟩
        exact fun s' pf' g' => sg_again rfl (ih (i + 1) m (ys ++ [yv]) s' pf' (by omega) (by omega) g')
end
end L2.Fs
set_option Elab.async false
set_option linter.all false
set_option maxRecDepth 100000
namespace L2.Fs
open PySem PySem.Spec PyProof.Rows
/-- a def's table of nested code: it may grow -/
def TabO (P : Addr) : HO := .ext fun h => ∃ ps, h.get? P = some { cls := .none, data := .fields ps } ∧ TriplesOk ps.toList
/-- the code object at c, its table at P -/
def CodeB (h : Heap) (c P : Addr) : Prop := ∃ o vs file tf flags tg inF text tt, h.get? c = some o ∧ o.cls = .type "code" ∧ o.data = .fields vs ∧ vs.getD 11 .none = .ref P ∧ vs[11]? = some (.ref P) ∧ vs.getD 18 .none = .str file tf ∧
  vs.getD 7 .none = .int flags tg ∧ vs.getD 9 .none = .bool inF ∧ vs.getD 10 .none = .int text tt ∧ c ≠ P
theorem CodeB.keeps {h h' : Heap} {c P : Addr} (x : CodeB h c P) (k : ∀ b o, h.get? b = some o → h'.get? b = some o) : CodeB h' c P :=
  let ⟨o, vs, a1, a2, a3, a4, a5, a6, a7, e, r⟩ := x
  ⟨o, vs, a1, a2, a3, a4, a5, a6, a7, k _ _ e, r⟩
theorem CodeB.code {h : Heap} {c P : Addr} {ps : Array Value} (x : CodeB h c P) (e : h.get? P = some { cls := .none, data := .fields ps }) (t : TriplesOk ps.toList) : h.IsCode c P ps ∧ h.TableAt c P ps :=
  let ⟨o, vs, file, tf, flags, tg, inF, text, tt, h1, h2, h3, h4, h5, h6, h7, h8, h9, h10⟩ := x
  ⟨⟨o, vs, file, tf, flags, tg, inF, text, tt, _, h1, h3, h4, h6, h7, h8, h9, e, rfl, t, h10⟩, ⟨⟨o, vs, h1, h2, h3, h5⟩, e⟩⟩
section
variable {X : Cx} {pins : List (Addr × Obj)} {σ : St} {H : Hp} {s : Shared}
theorem gcode_ok {c P : Addr} {pos : Pos} {q : Str} {scope : Scope} {E : Value → Shared → Prop} {Q : Value → Shared → Prop} (I : Inv X pins σ H s) (hc : X.env.code = .ref c) (hb : CodeB X.base c P) (ht : H P = some (TabO P))
    (hQ : ∀ code s', Inv X pins σ H s' → s'.gens = s.gens → s.heap.objs.size ≤ s'.heap.objs.size → (∀ b o, b ≠ P → s.heap.get? b = some o → s'.heap.get? b = some o) → Q code s') : wpAny (model X.prog X.w) X.A (genexprCode X.env pos q scope) Q E s := by
  obtain ⟨⟨ps, e, t⟩, _, _⟩ := I.hok P _ ht
  obtain ⟨hok, htab⟩ := (hb.keeps I.bk).code e t
  have eq : upd H P (TabO P) = H := by
    funext b
    by_cases hb : b = P
    · subst hb; rw [upd_same, ht]
    · rw [upd_ne hb]
  have fin : ∀ code h' tk ps', Heap.ExtBut P s.heap h' → h'.IsCode c P ps' → h'.TableAt c P ps' → s.heap.objs.size ≤ h'.objs.size → Q code { s with heap := h', toks := tk } := fun code h' tk ps' x hi hta hz => by
    have htr : TriplesOk ps'.toList := by
      obtain ⟨o, vs, file, tf, flags, tg, inF, text, tt, op, _, _, _, _, _, _, _, ho, hd, htr, _⟩ := hi
      have := hta.2
      rw [ho] at this
      cases this
      cases hd
      exact htr
    refine hQ code _ ?_ rfl hz fun b o hb q => x b o hb q
    have J := I.write (x := P) (e := P) (o := TabO P) (t' := tk) (h' := h') (by rw [ht]; trivial) (.inl rfl) (fun b u hb q => x b u hb q) ⟨_, hta.2⟩
      ⟨⟨ps', hta.2, htr⟩, ⟨_, hta.2⟩, fun h1 h2 ⟨ps2, e2, t2⟩ k => ⟨ps2, k _ e2, t2⟩⟩
    rw [eq] at J
    exact J
  cases hf : codeAmong pos ps.toList with
  | some cv => exact wpAny_genexprCode_hit hc hok hf (fin cv s.heap s.toks ps (Heap.ExtBut.refl _ _) hok htab (Nat.le_refl _))
  | none => exact wpAny_genexprCodeX hc hok htab hf fun c' h' tk x hc1 hc2 hi _ hta _ => fin _ h' tk _ x hi hta (Nat.le_trans hc1 (Nat.le_of_lt hc2))
end
/-- the context of a generator expression's own frame -/
abbrev gnCx (X : Cx) (A : Around) (s : Shared) (H : Hp) (cenv : Env) (fp : List Addr) (pn : List (Addr × Obj)) : Cx :=
  { X with s_0 := s, H_0 := H, env := cenv, outer := X.stack, stack := cenv :: X.stack, ex := fp, fn := fun _ => false, pn := pn, xe := fun _ _ => False, A := A }
structure GnOk (N : List Str) (sc scope : Scope) (own : List (Str × Nat)) : Prop where
  blk : BlkOk N sc scope own
  nocell : ∀ y ∈ scope.names, y.2 ≠ .cell
  dot : scope.names.lookup (".0" : Str) = some .local
  co : scope.isCoroutine = false
section
variable {X : Cx} {pins : List (Addr × Obj)} {σ : St} {H : Hp} {s : Shared}
theorem gen_start {A : Around} {scope : Scope} {own : List (Str × Nat)} {fp : List Addr} {code : Value} {itv : Value} {h' : Heap} {go : Obj} {gst : GenState} {tk : Nat} (I : Inv X pins σ H s) (ok : GnOk X.N X.env.scope scope own) (hN : X.N.Nodup)
    (hA : A.frames = some (genEnv scope (cloFrom X.env.cells scope.names []) s.heap.objs.size code builtinsNs X.env :: X.stack)) (hAh : A.handled = none)
    (hfp : ∀ b ∈ fp, FpOk X pins H b ∧ b < s.heap.objs.size) (hgb : gst.bare = true) (hgo : ∀ v, go.data ≠ .cell v) (hgl : (h'.push go).get? h'.objs.size = some go)
    (hn : h'.Ns s.heap.objs.size (fun y => if y = ".0" then some itv else none)) (hs : Heap.SameBut s.heap.objs.size (s.heap.push { cls := .type "frame", data := .dict #[] }) h') :
    Inv (gnCx X A s H (genEnv scope (cloFrom X.env.cells scope.names []) s.heap.objs.size code builtinsNs X.env) fp [(h'.objs.size, go)]) [] (wipe σ (own.map (·.2))) H { s with gens := s.gens.push gst, toks := tk, heap := h'.push go } := by
  have hfree : ∀ y ∈ scope.names, y.2 = .free → ∃ c, X.env.cells.lookup y.1 = some c := fun y hy e => by
    rcases ok.blk.free y hy e with k | k
    · exact I.ok.has _ (.inl k)
    · exact I.ok.has _ (.inr k)
  generalize hcenv : genEnv scope (cloFrom X.env.cells scope.names []) s.heap.objs.size code builtinsNs X.env = cenv at hA ⊢
  have hsz : h'.objs.size = s.heap.objs.size + 1 := by rw [hs.1, Heap.size_push]
  have kp' : ∀ b o, s.heap.get? b = some o → h'.get? b = some o := fun b o e => hs.extBut b o (Nat.ne_of_lt (Heap.lt_size e)) (Heap.get?_push_of_some _ e)
  have kp : ∀ b o, s.heap.get? b = some o → (h'.push go).get? b = some o := fun b o e => Heap.get?_push_of_some _ (kp' b o e)
  have hL : cenv.locals = s.heap.objs.size := by rw [← hcenv]; rfl
  have hcl : cenv.cells = cloFrom X.env.cells scope.names [] := by rw [← hcenv]; rfl
  have hsc : cenv.scope = scope := by rw [← hcenv]; rfl
  have hfr : cenv.frame = some cenv.locals := by rw [← hcenv]; rfl
  have cm : ∀ {y c}, (y, c) ∈ cloFrom X.env.cells scope.names [] → X.env.cells.lookup y = some c ∧ c < s.heap.objs.size := fun {y c} hm => by
    rcases cloFrom_mem hm with hm | ⟨h1, rfl⟩
    · cases hm
    · obtain ⟨c, hc⟩ := hfree _ h1 rfl
      rw [hc]
      obtain ⟨w, z⟩ := I.cell _ _ hc
      exact ⟨rfl, z.lt⟩
  have cmL : ∀ {y c}, cenv.cells.lookup y = some c → X.env.cells.lookup y = some c ∧ c < s.heap.objs.size := fun {y c} e => by
    rw [hcl] at e
    exact cm (PySem.mem_of_lookup e)
  have look : ∀ {y}, scope.names.lookup y = some .free → ∃ c, cenv.cells.lookup y = some c ∧ X.env.cells.lookup y = some c := fun {y} hl => by
    have hy : (y, NameKind.free) ∈ scope.names := PySem.mem_of_lookup hl
    obtain ⟨c', e'⟩ := mem_lookup (cloFrom_has (cells := X.env.cells) (acc := []) hy)
    rw [← hcl] at e'
    exact ⟨c', e', (cmL e').1⟩
  have okB : (gnCx X A s H cenv fp [(h'.objs.size, go)]).Ok := by
    refine ⟨I.ok.mod, by show cenv.scope.kind = _; rw [hsc]; exact ok.blk.kind, by show cenv.globals = _; rw [← hcenv]; exact I.ok.glob, by show cenv.builtins = _; rw [← hcenv]; rfl, by show s.heap.objs.size ≤ cenv.locals; rw [hL]; exact Nat.le_refl _,
      fun y z c e1 e2 => I.ok.inj y z c (cmL e1).1 (cmL e2).1, fun y hy => ?_, fun y c z e => absurd (show false = true from z) Bool.false_ne_true, fun _ => hAh, hA, .inr ⟨rfl, hfr⟩, fun b hb => ⟨?_, fun y c e z => ?_⟩, I.bs, Nat.le_trans I.ok.bsz I.sz, fun b o e hb => ?_, fun b hb z => ?_, I.stack, I.stkFree⟩
    · show ∃ c, cenv.cells.lookup y = some c
      have key : scope.names.lookup y = some .cell ∨ scope.names.lookup y = some .free := by
        have hy : cenv.kindOf y = some .cell ∨ cenv.kindOf y = some .free := hy
        unfold Env.kindOf at hy
        rw [hsc] at hy
        exact hy
      rcases key with k | k
      · exact absurd rfl (ok.nocell _ (PySem.mem_of_lookup k))
      · obtain ⟨c, h1, _⟩ := look k
        exact ⟨c, h1⟩
    · show b ≠ cenv.locals
      rw [hL]; exact Nat.ne_of_lt (hfp b hb).2
    · have e : cenv.cells.lookup y = some c := e
      exact (hfp b hb).1.2.2.2.2.1 y c (cmL e).1 z
    · rcases (hfp b hb).1.2.2.2.1 with z | z
      · exact I.ok.noex b o e z
      · exact absurd (Nat.lt_of_lt_of_le (Heap.lt_size e) (Nat.le_trans I.ok.bsz z)) (Nat.lt_irrefl _)
    · rcases List.mem_cons.mp (I.stkSub b z) with z | z
      · exact (hfp b hb).1.2.1 z
      · exact (hfp b hb).1.2.2.1 z
  refine ⟨okB, rfl, I.bare.push hgb, Un.kept kp, ⟨fun y => if y = ".0" then some itv else none, ?_, fun i y av e1 e2 e3 => ?_⟩, fun y c e => ?_, ?_, fun y c e => ?_, fun p hp => ?_, I.hok.kept kp, by rw [wipe_length]; exact I.len⟩
  · show Heap.Ns _ cenv.locals _
    rw [hL]
    exact hn.push _
  · obtain ⟨e2, hne⟩ := wipe_some e2
    have e3 : Vis cenv.scope y := e3
    rw [hsc] at e3
    have hfr : scope.names.lookup y = some .free := by
      have no : ∀ k, scope.names.lookup y = some k → ¬ (k = .local ∨ k = .cell) := fun k e hh => by
        rcases ok.blk.own _ (PySem.mem_of_lookup e) hh with e' | e'
        · obtain ⟨p, hp, hpy⟩ := List.mem_map.mp e'
          have e3 := ok.blk.ix p hp
          have : p.1 = y := hpy
          rw [this] at e3
          exact hne (List.mem_map.mpr ⟨p, hp, nodup_ix hN e3 e1⟩)
        · exact e' (List.mem_of_getElem? e1)
      rcases e3 with e3 | e3 | e3
      · exact absurd (.inl rfl) (no _ e3)
      · exact absurd (.inr rfl) (no _ e3)
      · exact e3
    obtain ⟨m, hn, hl⟩ := I.loc
    have hvis : Vis X.env.scope y := (ok.blk.free _ (PySem.mem_of_lookup hfr) rfl).elim (fun k => .inr (.inl k)) (fun k => .inr (.inr k))
    obtain ⟨w, r, q⟩ := hl i y av e1 e2 hvis
    refine ⟨w, r, .inr ⟨.inr (by show cenv.scope.names.lookup y = _; rw [hsc]; exact hfr), ?_⟩⟩
    obtain ⟨c, h1, h2⟩ := look hfr
    rcases q with ⟨k, _⟩ | ⟨_, c', e', z⟩
    · have k : X.env.scope.names.lookup y = some .local := k
      rcases ok.blk.free _ (PySem.mem_of_lookup hfr) rfl with k' | k' <;> rw [show X.env.scope.names.lookup y = _ from k'] at k <;> cases k
    · rw [h2] at e'; cases e'
      exact ⟨c, h1, z.keeps kp⟩
  · have e : cenv.cells.lookup y = some c := e
    obtain ⟨w, z⟩ := I.cell y c (cmL e).1
    exact ⟨w, z.keeps kp⟩
  · show H cenv.locals = none
    rw [hL]; exact I.hok.fresh (Nat.le_refl _)
  · have e : cenv.cells.lookup y = some c := e
    exact I.freeC y c (cmL e).1
  · have e : p = (h'.objs.size, go) := by simpa using (show p ∈ [(h'.objs.size, go)] ++ ([] : List (Addr × Obj)) from hp)
    subst e
    refine ⟨hgl, I.hok.fresh (by rw [hsz]; exact Nat.le_succ _), ?_, fun z => ?_, hgo⟩
    · show h'.objs.size ≠ cenv.locals
      rw [hL, hsz]
      exact Nat.succ_ne_self _
    · obtain ⟨_, o, ho, _⟩ := I.stack.mem z
      have q : h'.objs.size < s.heap.objs.size := Heap.lt_size ho
      omega
end
end L2.Fs
set_option Elab.async false
set_option linter.all false
set_option maxRecDepth 100000
namespace L2.Fs
open PySem PySem.Spec PyProof.Rows
/-- what hands out values, one by one: pf what the asker holds by himself, ys what was handed out -/
structure Strm (P : Program) (w : World) (A : Around) (I N : Nat) (U Z : List (Addr × Obj) → List V → Shared → Prop) : Prop where
  next : ∀ pf ys s (Q : Option Value → Shared → Prop) (E : Value → Shared → Prop), U pf ys s → (∀ y v s', RelV y v → U pf (ys ++ [y]) s' → Q (some v) s') → (∀ s', Z pf ys s' → Q none s') → wpAny (model P w) A (pyNext (.ref I)) Q E s
  keep : ∀ pf ys s h' tk, U pf ys s → (∀ b o, s.heap.get? b = some o → h'.get? b = some o) → U pf ys { s with heap := h', toks := tk }
  self : ∀ pf ys s (Q : Value → Shared → Prop) (E : Value → Shared → Prop), U pf ys s → Q (.ref I) s → wpAny (model P w) A (pyIter (.ref I)) Q E s
  len : ∀ pf ys s, U pf ys s → ys.length ≤ N
  ty : ∀ pf ys s, U pf ys s → s.TypeIs (.ref I) "generator"
  add : ∀ ys s o, U [] ys s → (s.heap.push o).get? s.heap.objs.size = some o → (∀ v, o.data ≠ .cell v) → U [(s.heap.objs.size, o)] ys { s with heap := s.heap.push o } ∧ s.heap.objs.size ≠ I
  put : ∀ ys s S o o' h', U [(S, o)] ys s → Heap.SameBut S s.heap h' → h'.get? S = some o' → (∀ v, o'.data ≠ .cell v) → U [(S, o')] ys { s with heap := h' }
  got : ∀ ys s S o, U [(S, o)] ys s → s.heap.get? S = some o
  gotF : ∀ ys s S o, Z [(S, o)] ys s → s.heap.get? S = some o ∧ Z [] ys s
theorem Strm.of_in1 {P : Program} {w : World} {A : Around} {I N : Nat} {U Z : List (Addr × Obj) → List V → Shared → Prop} (S : Strm P w A.in1 I N U Z) : Strm P w A I N U Z :=
  ⟨fun pf ys s Q E u a b => wpAny_of_in1 (S.next pf ys s Q E u a b), S.keep, fun pf ys s Q E u q => wpAny_of_in1 (S.self pf ys s Q E u q), S.len, S.ty, S.add, S.put, S.got, S.gotF⟩
section
variable {P : Program} {w : World} {A : Around} {I N : Nat} {U Z : List (Addr × Obj) → List V → Shared → Prop} {s : Shared} {E : Value → Shared → Prop}
theorem all_loop {R : Result → Shared → Prop} (S : Strm P w A.in1 I N U Z) (hb : ∀ ys y s, U [] (ys ++ [y]) s → ∃ b, y = .bl b)
    (hT : ∀ ys s', Z [] ys s' → (∀ y ∈ ys, y = .bl true) → R (.ok (.ret (.bool true))) s')
    (hF : ∀ ys s', U [] (ys ++ [.bl false]) s' → (∀ y ∈ ys, y = .bl true) → R (.ok (.ret (.bool false))) s') :
    ∀ (k : Nat) (ys : List V) (s : Shared), N - ys.length = k → U [] ys s → (∀ y ∈ ys, y = .bl true) → codeAny (model P w) A (.builtin "all.loop" ⟨[.ref I], []⟩) R s := by
  intro k
  induction k with
  | zero =>
    intro ys s hk hu ha
    refine codeAny_builtin F.entry_all_loop ?_
    rw [Around.under_plainId F.plain_all_loop _]
    show wpAny _ A.in1 (pyNext (.ref I) >>= _) _ _ s
    refine wpAny_bind (S.next [] ys s _ _ hu (fun y v s' r u' => ?_) fun s' f => ?_)
    · have := S.len _ _ _ u'
      rw [List.length_append, List.length_singleton] at this
      omega
    · exact wpAny_bind (wpAny_rule (wpAny_pure (hT ys s' f ha)))
  | succ k ih =>
    intro ys s hk hu ha
    refine codeAny_builtin F.entry_all_loop ?_
    rw [Around.under_plainId F.plain_all_loop _]
    show wpAny _ A.in1 (pyNext (.ref I) >>= _) _ _ s
    refine wpAny_bind (S.next [] ys s _ _ hu (fun y v s' r u' => ?_) fun s' f => ?_)
    · obtain ⟨b, rfl⟩ := hb ys y s' u'
      obtain rfl : v = .bool b := r
      refine wpAny_bind (wpAny_holding (wpAny_truthy_bool ?_))
      refine wpAny_bind (wpAny_letGo ?_)
      cases b with
      | true =>
        simp only [if_true]
        refine wpAny_pure ⟨plainId_quiet F.plain_all_loop _, ih (ys ++ [.bl true]) s' (by rw [List.length_append, List.length_singleton]; omega) u' fun y hy => ?_⟩
        rcases List.mem_append.mp hy with h | h
        · exact ha y h
        · exact List.mem_singleton.mp h
      | false =>
        simp only [Bool.false_eq_true, if_false]
        exact wpAny_bind (wpAny_rule (wpAny_pure (hF ys s' u' ha)))
    · exact wpAny_bind (wpAny_rule (wpAny_pure (hT ys s' f ha)))
theorem call_all {Q : Value → Shared → Prop} (S : Strm P w A.in1 I N U Z) (h0 : U [] [] s) (hb : ∀ ys y s, U [] (ys ++ [y]) s → ∃ b, y = .bl b)
    (hT : ∀ ys s', Z [] ys s' → (∀ y ∈ ys, y = .bl true) → Q (.bool true) s')
    (hF : ∀ ys s', U [] (ys ++ [.bl false]) s' → (∀ y ∈ ys, y = .bl true) → Q (.bool false) s') :
    wpAny (model P w) A (call (.builtin "all") [.ref I]) Q E s := by
  refine call_function_tree F.kind_all F.plain_all F.entry_all (F.args_all1 _) ?_
  unfold Builtin.«all»
  refine wpAny_bind (m := oneArg "all" _) (wpAny_pure ?_)
  refine wpAny_bind (S.self [] [] s _ _ h0 ?_)
  exact wpAny_pure ⟨plainId_quiet F.plain_all_loop _, all_loop S hb hT hF N [] s rfl h0 (fun y hy => by cases hy)⟩
end
end L2.Fs
set_option Elab.async false
set_option linter.all false
set_option maxRecDepth 100000
namespace L2.Fs
open PySem PySem.Spec PyProof.Rows
end L2.Fs
set_option Elab.async false
set_option linter.all false
set_option maxRecDepth 100000
namespace L2.Fs
open PySem PySem.Spec PyProof.Rows
theorem bare_set {s : Shared} {g : Nat} {x : GenState} (h : AllBare s.gens) (hx : x.bare = true) : AllBare (s.setGen g x).gens := by
  intro y hy
  simp only [Shared.setGen] at hy
  rcases Array.mem_or_eq_of_mem_setIfInBounds hy with h1 | h1
  · exact h y h1
  · rw [h1]; exact hx
theorem gens_set {s : Shared} {g : Nat} {x : GenState} (h : g < s.gens.size) : (s.setGen g x).gens[g]? = some x := by
  simp [Shared.setGen, h]
section
variable {X : Cx} {A : Around} {tg : Expr} {it a g N : Nat} {J : It} {fp : List Addr} {tn : Nat → Heap → Prop} {σw : St} {W : Nat → List V → Hp → Prop} {Fin : List V → Hp → Prop} {go : Obj}
def PfOk (X : Cx) (p : Addr × Obj) : Prop := X.s_0.heap.objs.size ≤ p.1 ∧ (∀ x c, X.env.cells.lookup x = some c → c ≠ p.1) ∧ ∀ q ∈ X.pn, q.1 ≠ p.1
def GnU (A : Around) (X : Cx) (fp : List Addr) (tn : Nat → Heap → Prop) (σw : St) (W : Nat → List V → Hp → Prop) (Fin : List V → Hp → Prop) (a g N : Nat) (pf : List (Addr × Obj)) (ys : List V) (s : Shared) : Prop :=
  (∀ p ∈ pf, PfOk X p) ∧ ∃ gs m i, s.gens[g]? = some gs ∧ ys.length + m ≤ N + 1 ∧ GI X fp tn σw W pf i ys s ∧ Rdy (model X.prog X.w) A.in1 X fp tn σw W Fin m i ys gs
def GnZ (X : Cx) (σw : St) (Fin : List V → Hp → Prop) (N : Nat) (pf : List (Addr × Obj)) (ys : List V) (s : Shared) : Prop := GF X σw Fin pf ys s ∧ ys.length ≤ N
theorem gen_strm (T : Turn X.prog X.w X.K tg J fp it tn) (hh : A.handled = none) (hroom : A.depth < recursionLimit) (hpn : (a, go) ∈ X.pn) (hgo : ∀ h : Heap, h.get? a = some go → h.IsGen a g) :
    Strm X.prog X.w A a N (GnU A X fp tn σw W Fin a g N) (GnZ X σw Fin N) where
  next := fun pf ys s Q E u hy hn => by
    obtain ⟨hpf, gs, m, i, hgs, hlen, gi, rd⟩ := u
    obtain ⟨m, rfl⟩ : ∃ m', m = m' + 1 := by
      cases m with
      | zero => exact rd.elim
      | succ m => exact ⟨m, rfl⟩
    obtain ⟨H, I, t, nf, wv⟩ := id gi
    have hg := hgo _ (I.pin (a, go) (List.mem_append_left _ hpn)).1
    have hlt : g < s.gens.size := by
      rcases Nat.lt_or_ge g s.gens.size with h | h
      · exact h
      · rw [Array.getElem?_eq_none h] at hgs; cases hgs
    have kr : Kp s (s.setGen g .running) := ⟨fun b o e => e, rfl, bare_set I.bare rfl⟩
    refine next_gen (Ph := Ph (model X.prog X.w) A.in1 X fp tn σw W Fin m pf ys) hh I.nolimit hroom hg hgs (rd _ pf (gi.kp T kr)) (fun e s' h => ?_) (fun r s1 h => ?_) (fun v g' l k c p fs s1 h hz => ?_)
    · cases e with
      | ret r => rfl
      | susp v g l k c p fs => exact h.1
    · obtain ⟨rfl, H1, I1, f1⟩ := h
      refine ⟨rfl, fun h' k => hn _ ⟨⟨H1, Kp.inv ⟨k, rfl, ?_⟩ I1, f1⟩, by omega⟩⟩
      exact bare_set I1.bare rfl
    · obtain ⟨hq, y, j, r, gj, rj⟩ := h
      obtain ⟨H1, I1, _⟩ := id gj
      have hb : (End.susp v g' l k c p fs).genState.bare = true := End.bare_of_quiet hq
      refine hy y v _ r ⟨hpf, _, m, j, gens_set (Nat.lt_of_lt_of_le hlt hz), by rw [List.length_append, List.length_singleton]; omega, gj.kp T ⟨fun b o e => e, rfl, bare_set I1.bare hb⟩, rj⟩
  keep := fun pf ys s h' tk u k => by
    obtain ⟨hpf, gs, m, i, hgs, hlen, gi, rd⟩ := u
    obtain ⟨H, I, _⟩ := id gi
    exact ⟨hpf, gs, m, i, hgs, hlen, gi.kp T ⟨k, rfl, I.bare⟩, rd⟩
  self := fun pf ys s Q E u q => by
    obtain ⟨hpf, gs, m, i, hgs, hlen, ⟨H, I, _⟩, rd⟩ := u
    exact wpAny_pyIter_gen (hgo _ (I.pin (a, go) (List.mem_append_left _ hpn)).1) q
  len := fun pf ys s u => by
    obtain ⟨hpf, gs, m, i, hgs, hlen, gi, rd⟩ := u
    cases m with
    | zero => exact rd.elim
    | succ m => omega
  ty := fun pf ys s u => by
    obtain ⟨hpf, gs, m, i, hgs, hlen, ⟨H, I, _⟩, rd⟩ := u
    exact (hgo _ (I.pin (a, go) (List.mem_append_left _ hpn)).1).typeIs
  add := fun ys s o u hp hc => by
    obtain ⟨hpf, gs, m, i, hgs, hlen, ⟨H, I, t, nf, wv⟩, rd⟩ := u
    have kk : ∀ b u, s.heap.get? b = some u → (s.heap.push o).get? b = some u := fun b u e => Heap.get?_push_of_some _ e
    have hS : H s.heap.objs.size = none := I.hok.fresh (Nat.le_refl _)
    have I2 : Inv X [] σw H { s with heap := s.heap.push o } := I.kept (t' := s.toks) kk
    have ne : ∀ b u, s.heap.get? b = some u → s.heap.objs.size ≠ b := fun b u e => Nat.ne_of_gt (Heap.lt_size e)
    refine ⟨⟨fun p hp' => ?_, gs, m, i, hgs, hlen, ⟨H, I2.pins_of fun p hp' => ?_, T.keep _ _ _ t fun b _ u e => kk b u e, fun b hb => ⟨(nf b hb).1, fun p hp' => ?_⟩, wv⟩, rd⟩, ?_⟩
    · obtain rfl := List.mem_singleton.mp hp'
      refine ⟨I.sz, fun x c e z => ?_, fun q hq z => ?_⟩
      · obtain ⟨v, o', e', _⟩ := I.cell x c e
        exact ne _ _ e' z.symm
      · exact ne _ _ (I.pin q (List.mem_append_left _ hq)).1 z.symm
    · obtain rfl := List.mem_singleton.mp hp'
      exact ⟨hp, hS, Nat.ne_of_gt I.lt, I.nofs (Nat.le_refl _), hc⟩
    · obtain rfl := List.mem_singleton.mp hp'
      obtain ⟨o', e', _⟩ := T.obj _ _ t b hb
      exact ne _ _ e'
    · exact ne _ _ (I.pin (a, go) (List.mem_append_left _ hpn)).1
  put := fun ys s S o o' h' u sb hp hc => by
    obtain ⟨hpf, gs, m, i, hgs, hlen, ⟨H, I, t, nf, wv⟩, rd⟩ := u
    obtain ⟨z1, z2, z3⟩ := hpf (S, o) (List.mem_singleton.mpr rfl)
    obtain ⟨e1, e2, e3, e4, e5⟩ := I.pin (S, o) (List.mem_append_right _ (List.mem_singleton.mpr rfl))
    have I0 : Inv X [] σw H s := I.pins_of fun p hp => absurd hp (by simp)
    have I1 : Inv X [] σw H { s with heap := h' } := I0.turned (t' := s.toks) (it := S) (fun b u hb e => (sb.2 b hb).trans e) e2 e3 (.inr z1) z2 fun p hp => z3 p (by simpa using hp)
    refine ⟨fun p hp' => ?_, gs, m, i, hgs, hlen, ⟨H, I1.pins_of fun p hp' => ?_, T.keep _ _ _ t fun b hb u e => (sb.2 b (Ne.symm ((nf b hb).2 (S, o) (List.mem_singleton.mpr rfl)))).trans e, fun b hb => ⟨(nf b hb).1, fun p hp' => ?_⟩, wv⟩, rd⟩
    · obtain rfl := List.mem_singleton.mp hp'
      exact ⟨z1, z2, z3⟩
    · obtain rfl := List.mem_singleton.mp hp'
      exact ⟨hp, e2, e3, e4, hc⟩
    · obtain rfl := List.mem_singleton.mp hp'
      exact (nf b hb).2 (S, o) (List.mem_singleton.mpr rfl)
  got := fun ys s S o u => by
    obtain ⟨hpf, gs, m, i, hgs, hlen, ⟨H, I, t, nf, wv⟩, rd⟩ := u
    exact (I.pin (S, o) (List.mem_append_right _ (List.mem_singleton.mpr rfl))).1
  gotF := fun ys s S o z => by
    obtain ⟨⟨H, I, f⟩, hl⟩ := z
    exact ⟨(I.pin (S, o) (List.mem_append_right _ (List.mem_singleton.mpr rfl))).1, ⟨H, I.pins_of fun p hp => absurd hp (by simp), f⟩, hl⟩
end
end L2.Fs
set_option Elab.async false
set_option linter.all false
set_option maxRecDepth 100000
namespace L2.Fs
open PySem PySem.Spec PyProof.Rows
/-- the builtins' module, as the globals name it -/
structure BM (h : Heap) (mg : Str → Option Value) (bm : Addr) (ob : Obj) : Prop where
  name : mg "__builtins__" = some (.ref bm)
  ne : bm ≠ builtinsNs
  obj : h.get? bm = some ob
  cls : ob.cls = .type "module"
  dict : ob.dict = some builtinsNs
  data : ob.data = .plain
section
variable {X : Cx} {A : Around} {elt tg iter : Expr} {ifs : List Expr} {scope : Scope} {pos : Pos} {it : Addr} {J : It} {fp : List Addr} {tn : Nat → Heap → Prop} {Ph : End → Shared → Prop} {env : Env} {P : Program} {w : World} {s : Shared}
theorem sg_start (self : ∀ (A : Around) (Q : Value → Shared → Prop) (E : Value → Shared → Prop), Q (.ref it) s → wpAny (model P w) A (pyIter (.ref it)) Q E s)
    (loop : Sg (model P w) A Ph (.compLoop (.GeneratorExp elt [⟨tg, iter, ifs, 0⟩] scope pos) 0 (.ref it) .none env)
      ((model P w).den (.compLoop (.GeneratorExp elt [⟨tg, iter, ifs, 0⟩] scope pos) 0 (.ref it) .none env)) [] s) :
    Sg (model P w) A Ph (.compStart (.GeneratorExp elt [⟨tg, iter, ifs, 0⟩] scope pos) 0 (.ref it) .none env)
      ((model P w).den (.compStart (.GeneratorExp elt [⟨tg, iter, ifs, 0⟩] scope pos) 0 (.ref it) .none env)) [] s := by
  show Sg _ A _ _ ((compStart (.GeneratorExp elt [⟨tg, iter, ifs, 0⟩] scope pos) 0 (.ref it) .none env).onRaise (leaving env)) [] s
  unfold compStart
  rw [Sem.onRaise_eq_wrap]
  show Sg _ A _ _ ((ask >>= _).wrap _ _ _ _) [] s
  refine sg_bw (wpAny_askSetting ?_)
  split
  · exact sg_again rfl loop
  · first
      | exact sg_bw (wpAny_rule (sg_bw (wpAny_standAt (sg_bw (self _ _ _ (sg_again rfl loop))))))
      | (refine sg_bw (wpAny_rule ?_); show Sg _ A _ _ ((standAt iter.pos >>= _).wrap _ _ _ _) [] s; exact sg_bw (wpAny_standAt (sg_bw (self _ _ _ (sg_again rfl loop)))))
end
section
variable {X : Cx} {elt tg iter : Expr} {ifs : List Expr} {scope : Scope} {gpos : Pos} {own : List (Str × Nat)} {wi : TI} {g : TG} {tt : TT} {te : TE} {c P bm : Addr} {ob : Obj} {k : Nat}
/-- what a generator expression asks; W by the turn and what was handed out, Fin behind the last -/
def GRead (wi : TI) (g : TG) (tt : TT) (te : TE) (vs : List Nat) (P : Addr) (n0 : Nat) (Post : (Nat → List V → Hp → Prop) → (List V → Hp → Prop) → Prop) (σ : St) (H : Hp) : Prop :=
  wi σ H fun J H1 => ∃ W Fin, Post W Fin ∧ H1 P = some (TabO P) ∧ W 0 [] H1 ∧ ∀ i ys H, W i ys H → (J.stop i H ∧ Fin ys H) ∨ (J.go i H ∧ i < n0 ∧ ∀ x H', J.yld i H x H' → g x (wipe σ vs) H' fun σ2 H2 => wipe σ2 vs = wipe σ vs ∧ tt σ2 H2 fun b H3 =>
    if b = true then te σ2 H3 fun y H4 => W (i + 1) (ys ++ [y]) H4 else W (i + 1) ys H3)
theorem gen_make {pins : List (Addr × Obj)} {s : Shared} {σ : St} {H : Hp} {n0 : Nat} {Post : (Nat → List V → Hp → Prop) → (List V → Hp → Prop) → Prop} {Q : Value → Shared → Prop}
    (hc : X.calm = true) (hN : X.N.Nodup) (hr : Room (k + 1) X.A) (I : Inv X pins σ H s) (hi : PI X tg iter wi) (ok : GnOk X.N X.env.scope scope own) (hcode : X.env.code = .ref c) (hcb : CodeB X.base c P) (hbm : BM X.base X.mg bm ob)
    (hg : ∀ (A : Around) (s : Shared) (H : Hp) (C : Addr) (cl : List (Str × Addr)) (code : Value) (fp : List Addr) (pn : List (Addr × Obj)), Room k A → PG (gnCx X A s H (genEnv scope cl C code builtinsNs X.env) fp pn) tg g)
    (ht : ∀ (A : Around) (s : Shared) (H : Hp) (C : Addr) (cl : List (Str × Addr)) (code : Value) (fp : List Addr) (pn : List (Addr × Obj)), Room k A → PTs (gnCx X A s H (genEnv scope cl C code builtinsNs X.env) fp pn) ifs tt)
    (he : ∀ (A : Around) (s : Shared) (H : Hp) (C : Addr) (cl : List (Str × Addr)) (code : Value) (fp : List Addr) (pn : List (Addr × Obj)), Room k A → PE (gnCx X A s H (genEnv scope cl C code builtinsNs X.env) fp pn) elt te)
    (hs : ∀ x, genFold iter X.env x = pure x) (h : GRead wi g tt te (own.map (·.2)) P n0 Post σ H)
    (hQ : ∀ (W : Nat → List V → Hp → Prop) (Fin : List V → Hp → Prop), Post W Fin → ∀ (a : Addr) (s5 : Shared) (U Z : List (Addr × Obj) → List V → Shared → Prop), Strm X.prog X.w X.A.in4 a n0 U Z → U [] [] s5 → (∀ ys s, U [] ys s → ∃ i H', Inv X pins σ H' s ∧ W i ys H') → (∀ ys s, Z [] ys s → ys.length ≤ n0 ∧ ∃ H', Inv X pins σ H' s ∧ Fin ys H') → Q (.ref a) s5) :
    wpAny (model X.prog X.w) X.A (eval (.GeneratorExp elt [⟨tg, iter, ifs, 0⟩] scope gpos) X.env) Q X.xe s := by
  have hfree : ∀ y ∈ scope.names, y.2 = .free → ∃ c, X.env.cells.lookup y.1 = some c := fun y hy e => by
    rcases ok.blk.free y hy e with q | q
    · exact I.ok.has _ (.inl q)
    · exact I.ok.has _ (.inr q)
  refine wpAny_GeneratorExp_make ok.co (closure_ok hfree) ok.nocell ok.dot ok.blk.kind hr.depth ?_ hs
  refine thn (hi pins s σ H _ I h) fun xv s1 h1 => thn h1 fun itv s2 h2 => ?_
  obtain ⟨it, fp, tn, J, H2, e, I2, T, st2, f2, W, Fin, hpost, htab, w0, turn⟩ := h2
  subst e
  refine ⟨I2.nolimit, gcode_ok I2 hcode hcb htab fun code s3 I3 hgens hsz3 kp3 => ?_⟩
  have neP : ∀ b ∈ fp, b ≠ P := fun b hb z => by
    have := (f2 b hb).1
    rw [z, htab] at this; cases this
  have st3 : tn 0 s3.heap := T.keep _ _ _ st2 fun b hb o e => kp3 b o (neP b hb) e
  refine wpAny_builtinsFor (by rw [I3.ok.glob]; exact I3.mod.glob.keeps I3.bk) hbm.name hbm.ne (I3.bk _ _ hbm.obj) hbm.cls hbm.dict hbm.data ?_
  intro h' hn' hs'
  have hsz : h'.objs.size = s3.heap.objs.size + 1 := by rw [hs'.1, Heap.size_push]
  have kp4 : ∀ b o, s3.heap.get? b = some o → h'.get? b = some o := fun b o e => hs'.extBut b o (Nat.ne_of_lt (Heap.lt_size e)) (Heap.get?_push_of_some _ e)
  generalize hcl : cloFrom X.env.cells scope.names [] = cl at hn' hs' ⊢
  generalize hgo : ({ cls := .type "generator", data := .fields #[.int s3.gens.size 0, .str "<genexpr>" (s3.toks + 1), .str (X.env.qual ++ "<genexpr>") (s3.toks + 1 + 1)] } : Obj) = go
  have hgl : (h'.push go).get? h'.objs.size = some go := Heap.get?_push_size _ (by rw [← hgo]; rfl)
  have hgd : ∀ v, go.data ≠ .cell v := fun v z => by rw [← hgo] at z; cases z
  have hgI : ∀ h : Heap, h.get? h'.objs.size = some go → h.IsGen h'.objs.size s3.gens.size := fun h e => ⟨go, _, _, e, by rw [← hgo], by rw [← hgo], by rw [← hgo]⟩
  have f3 : ∀ b ∈ fp, FpOk X pins H2 b ∧ b < s3.heap.objs.size := fun b hb => ⟨f2 b hb, by
    obtain ⟨o, e, _⟩ := T.obj _ _ st3 b hb
    exact Heap.lt_size e⟩
  generalize hce : genEnv scope cl s3.heap.objs.size code builtinsNs X.env = ce
  generalize hAA : (X.A.in4.in1).over (.compLoop (.GeneratorExp elt [⟨tg, iter, ifs, 0⟩] scope gpos) 0 (.ref it) .none ce) [] = AA
  have hAf : AA.frames = some (ce :: X.stack) := by
    rw [← hAA]
    have e : (X.A.in4.in1).frames = some X.stack := I.ok.frames
    unfold Around.over
    rw [e]
    rfl
  have hAh : AA.handled = none := by
    rw [← hAA]
    exact hr.hd
  have hAr : Room k AA := by
    have h1 := hr.dp
    have h2 := hr.un
    refine ⟨hAh, ?_, ?_, by rw [← hAA]; exact hr.gd⟩
    · rw [← hAA]
      show X.A.depth + 0 + 1 + 3 * k + 5 < _
      omega
    · rw [← hAA]
      show X.A.units + 1 + 1 + 1 + 1 + 1 + 0 + Code.cUnits (.compLoop (.GeneratorExp elt [⟨tg, iter, ifs, 0⟩] scope gpos) 0 (.ref it) .none ce) + 16 * k + 200 < _
      have : Code.cUnits (.compLoop (.GeneratorExp elt [⟨tg, iter, ifs, 0⟩] scope gpos) 0 (.ref it) .none ce) ≤ 3 := by
        first | decide | (simp [Code.cUnits, Code.frames, Code.isFrame])
      omega
  have I4 : Inv (gnCx X AA s3 H2 ce fp [(h'.objs.size, go)]) [] (wipe σ (own.map (·.2))) H2 { s3 with gens := s3.gens.push (.fresh (.compStart (.GeneratorExp elt [⟨tg, iter, ifs, 0⟩] scope gpos) 0 (.ref it) .none ce)), toks := s3.toks + 1 + 1 + 1, heap := h'.push go } := by
    have := gen_start (A := AA) (code := code) (itv := .ref it) (go := go) (gst := .fresh (.compStart (.GeneratorExp elt [⟨tg, iter, ifs, 0⟩] scope gpos) 0 (.ref it) .none ce)) (tk := s3.toks + 1 + 1 + 1) I3 ok hN (by rw [hcl, hce]; exact hAf) hAh f3 rfl hgd hgl hn' hs'
    rw [hcl, hce] at this
    exact this
  have pg := hg AA s3 H2 s3.heap.objs.size cl code fp [(h'.objs.size, go)] hAr
  have pt := ht AA s3 H2 s3.heap.objs.size cl code fp [(h'.objs.size, go)] hAr
  have pe := he AA s3 H2 s3.heap.objs.size cl code fp [(h'.objs.size, go)] hAr
  rw [hce] at pg pt pe
  have hco : ce.scope.isCoroutine = false := by rw [← hce]; exact ok.co
  have loop := sg_loop (X := gnCx X AA s3 H2 ce fp [(h'.objs.size, go)]) (A := X.A.in4.in1) (W := W) (Fin := Fin) (n0 := n0) (σw := wipe σ (own.map (·.2))) (vs := own.map (·.2)) hAA.symm hc rfl
    (fun p hp b hb z => by
      obtain rfl := List.mem_singleton.mp hp
      have q : h'.objs.size = b := z
      have h3 : b < s3.heap.objs.size := (f3 b hb).2
      rw [hsz] at q
      exact absurd h3 (by rw [← q]; exact Nat.not_lt.mpr (Nat.le_succ _)))
    hco (fun b hb => hb) T pg pt pe (fun σ2 e j v q => by rw [← e] at q; exact (wipe_some q).1) turn
  have back : ∀ {σ' : St} {H' : Hp} {s' : Shared}, Inv (gnCx X AA s3 H2 ce fp [(h'.objs.size, go)]) [] σ' H' s' → Inv X pins σ H' s' := fun {σ' H' s'} I6 =>
    I3.call' (ch := fp) I6.os I6.base I6.hok I6.bare fun b hb => ⟨(f3 b hb).1.2.2.2.1, (f3 b hb).1.2.1, (f3 b hb).1.2.2.2.2.1, (f3 b hb).1.2.2.2.2.2⟩
  refine hQ W Fin hpost _ _ _ _ (gen_strm (X := gnCx X AA s3 H2 ce fp [(h'.objs.size, go)]) (A := X.A.in4) (W := W) (Fin := Fin) (σw := wipe σ (own.map (·.2))) T hr.hd hr.depth (List.mem_singleton.mpr rfl) hgI) ?_ ?_ ?_
  · refine ⟨fun p hp => absurd hp (by simp), _, n0 + 1, 0, Array.getElem?_push_size .., by simp, ⟨H2, I4, T.keep _ _ _ st3 fun b _ o e => Heap.get?_push_of_some _ (kp4 b o e), fun b hb => ⟨(f2 b hb).1, fun p hp => absurd hp (by simp)⟩, w0⟩, ?_⟩
    intro s' pf gi
    refine sg_start (fun A Q E q => ?_) (loop n0 0 n0 [] s' pf (Nat.sub_zero _) (by omega) gi)
    obtain ⟨H', _, t', _⟩ := gi
    exact T.self A 0 s' Q E t' q
  · rintro ys s' ⟨_, gs, m, i, _, _, ⟨H', I', _, _, w'⟩, _⟩
    exact ⟨i, H', back I', w'⟩
  · rintro ys s' ⟨⟨H', I', f'⟩, hl⟩
    exact ⟨hl, H', back I', f'⟩
end
end L2.Fs
set_option Elab.async false
set_option linter.all false
set_option maxRecDepth 100000
namespace L2.Fs
open PySem PySem.Spec PyProof.Rows
section
variable {X : Cx} {elt tg iter : Expr} {ifs : List Expr} {scope : Scope} {gpos pos p : Pos} {own : List (Str × Nat)} {wi : TI} {g : TG} {tt : TT} {te t : TE} {c P bm : Addr} {ob : Obj} {k : Nat}
/-- what stands around a generator expression -/
structure GCx (X : Cx) (k : Nat) (elt tg iter : Expr) (ifs : List Expr) (scope : Scope) (own : List (Str × Nat)) (wi : TI) (g : TG) (tt : TT) (te : TE) (c P bm : Addr) (ob : Obj) : Prop where
  hc : X.calm = true
  hN : X.N.Nodup
  hr : Room (k + 1) X.A
  hi : PI X tg iter wi
  ok : GnOk X.N X.env.scope scope own
  code : X.env.code = .ref c
  cb : CodeB X.base c P
  bm : BM X.base X.mg bm ob
  hg : ∀ (A : Around) (s : Shared) (H : Hp) (C : Addr) (cl : List (Str × Addr)) (code : Value) (fp : List Addr) (pn : List (Addr × Obj)), Room k A → PG (gnCx X A s H (genEnv scope cl C code builtinsNs X.env) fp pn) tg g
  ht : ∀ (A : Around) (s : Shared) (H : Hp) (C : Addr) (cl : List (Str × Addr)) (code : Value) (fp : List Addr) (pn : List (Addr × Obj)), Room k A → PTs (gnCx X A s H (genEnv scope cl C code builtinsNs X.env) fp pn) ifs tt
  he : ∀ (A : Around) (s : Shared) (H : Hp) (C : Addr) (cl : List (Str × Addr)) (code : Value) (fp : List Addr) (pn : List (Addr × Obj)), Room k A → PE (gnCx X A s H (genEnv scope cl C code builtinsNs X.env) fp pn) elt te
  hs : ∀ x, genFold iter X.env x = pure x
theorem one_arg {M : Model} {A : Around} {E : Value → Shared → Prop} {s : Shared} {env : Env} {e : Expr} {Q : List Value → Shared → Prop} (hs : starEach [e] env = [(false, eval e env)])
    (h : wpAny M A (eval e env) (fun u s1 => Q [u] s1) E s) : wpAny M A (spliced (backTo pos (starEach [e] env))) Q E s := by
  rw [hs]
  show wpAny _ _ (spliced ((false, eval e env) :: [])) _ _ s
  exact Calls.spliced_cons (wpAny_mono h (fun u s1 q => Calls.spliced_nil q) fun _ _ z => z)
theorem pe_all (G : GCx X k elt tg iter ifs scope own wi g tt te c P bm ob) (hgl : Gl X "all") (hm : X.mg "all" = none) (hb : bootBuiltins "all" = some (.builtin "all"))
    (hread : ∀ σ H Q, t σ H Q → ∃ n0, GRead wi g tt te (own.map (·.2)) P n0 (fun W Fin => (∀ i ys y H, W i (ys ++ [y]) H → ∃ b, y = .bl b) ∧
      (∀ ys H, Fin ys H → (∀ y ∈ ys, y = .bl true) → Q (.bl true) H) ∧ ∀ i ys H, W i (ys ++ [.bl false]) H → (∀ y ∈ ys, y = .bl true) → Q (.bl false) H) σ H) :
    PE X (.Call (.Name "all" p) [.GeneratorExp elt [⟨tg, iter, ifs, 0⟩] scope gpos] [] pos) t := by
  intro pins s σ H Q I h
  obtain ⟨n0, r⟩ := hread σ H Q h
  refine wpAny_Call_Name_kw (ld_blt I hgl hm hb ?_)
  refine PyProof.Rows.callWith_builtin1 (one_arg rfl ?_) rfl rfl
  refine gen_make G.hc G.hN G.hr I G.hi G.ok G.code G.cb G.bm G.hg G.ht G.he G.hs r fun W Fin ⟨hbl, hT, hF⟩ a s5 U Z S u0 hU hZ => ?_
  refine call_all (S.of_in1.of_in1.of_in1) u0 (fun ys y s' u => ?_) (fun ys s' z ha => ?_) (fun ys s' u ha => ?_)
  · obtain ⟨i, H', _, w⟩ := hU _ _ u
    exact hbl i ys y H' w
  · obtain ⟨_, H', I', f⟩ := hZ _ _ z
    exact ⟨.bl true, H', I', rfl, hT ys H' f ha⟩
  · obtain ⟨i, H', I', w⟩ := hU _ _ u
    exact ⟨.bl false, H', I', rfl, hF i ys H' w ha⟩
end
end L2.Fs
set_option Elab.async false
set_option linter.all false
set_option maxRecDepth 100000
namespace L2.Fs
open PySem PySem.Spec PyProof.Rows
abbrev Y := PyData
/-- an exception of the class named c, as data: no dict has such a key -/
def excY (c : Str) : Y := .dict [(.none, .str c)]
/-- one address, as data -/
def opqY (a : Addr) : Y := .dict [(.none, .int (a : Nat))]
def excL : List (Y × Y) → Bool
  | [(.none, _)] => true
  | _ => false
/-- the object of an exception of the class at C -/
def ExcO (a C : Addr) : HO := .ext fun h => ∃ o vs, h.get? a = some o ∧ o.cls = .ref C ∧ o.data = .fields vs
mutual
inductive Rp (K : PySem.W.Frag) (F : Hp) : V → Y → Prop
  | non : Rp K F .non .none
  | bl (b : Bool) : Rp K F (.bl b) (.bool b)
  | int (i : Int) : Rp K F (.int i) (.int i)
  | str (x : Str) : Rp K F (.str x) (.str x)
  | lst {a : Addr} {xs : List V} {ds : List Y} : SqL K F a xs → Rps K F xs ds → Rp K F (.ref a) (.list ds)
  | tup {a : Addr} {xs : List V} {ds : List Y} : SqT K F a xs → Rps K F xs ds → Rp K F (.ref a) (.tuple ds)
  | dct {a : Addr} {kvs : List (Key × V)} {ds : List (Y × Y)} : Rd F a (.dK kvs) → Rpk K F kvs ds → Rp K F (.ref a) (.dict ds)
  | exc {a C : Addr} {c : Str} : PySem.W.nsIn K mainGlobals c = some (some (.ref C)) → F a = some (ExcO a C) → Rp K F (.ref a) (excY c)
  | opq (a : Addr) : Rp K F (.ref a) (opqY a)
inductive Rps (K : PySem.W.Frag) (F : Hp) : List V → List Y → Prop
  | nil : Rps K F [] []
  | cons {v : V} {vs : List V} {d : Y} {ds : List Y} : Rp K F v d → Rps K F vs ds → Rps K F (v :: vs) (d :: ds)
inductive Rpk (K : PySem.W.Frag) (F : Hp) : List (Key × V) → List (Y × Y) → Prop
  | nil : Rpk K F [] []
  | cons {k : Key} {v : V} {vs : List (Key × V)} {c d : Y} {ds : List (Y × Y)} : Rp K F (kV k) c → Rp K F v d → Rpk K F vs ds → Rpk K F ((k, v) :: vs) ((c, d) :: ds)
end
theorem Same.seqT {K : PySem.W.Frag} {H H' : Hp} {a : Addr} {xs : List V} (e : Same H H') (h : SqT K H a xs) : SqT K H' a xs := by
  rcases h with (h | ⟨o, h⟩) | h
  · exact .inl (.inl (e _ _ h))
  · exact .inl (.inr ⟨o, e _ _ h⟩)
  · exact .inr h
theorem Same.rd {F H : Hp} {a : Addr} {u : HO} (e : Same F H) (h : Rd F a u) : Rd H a u := by
  rcases h with h | ⟨o, h⟩
  · exact .inl (e _ _ h)
  · exact .inr ⟨o, e _ _ h⟩
section
variable {K : PySem.W.Frag} {F F' : Hp}
mutual
theorem Rp.mono (e : Same F F') : ∀ {v : V} {d : Y}, Rp K F v d → Rp K F' v d
  | _, _, .non => .non
  | _, _, .bl b => .bl b
  | _, _, .int i => .int i
  | _, _, .str x => .str x
  | _, _, .lst h r => .lst (e.seq h) (Rps.mono e r)
  | _, _, .tup h r => .tup (Same.seqT e h) (Rps.mono e r)
  | _, _, .dct h r => .dct (Same.rd e h) (Rpk.mono e r)
  | _, _, .exc h r => .exc h (e _ _ r)
  | _, _, .opq a => .opq a
theorem Rps.mono (e : Same F F') : ∀ {v : List V} {d : List Y}, Rps K F v d → Rps K F' v d
  | _, _, .nil => .nil
  | _, _, .cons h r => .cons (Rp.mono e h) (Rps.mono e r)
theorem Rpk.mono (e : Same F F') : ∀ {v : List (Key × V)} {d : List (Y × Y)}, Rpk K F v d → Rpk K F' v d
  | _, _, .nil => .nil
  | _, _, .cons h1 h2 r => .cons (Rp.mono e h1) (Rp.mono e h2) (Rpk.mono e r)
end
theorem Rps.length : ∀ {v : List V} {d : List Y}, Rps K F v d → v.length = d.length
  | _, _, .nil => rfl
  | _, _, .cons _ r => by rw [List.length_cons, List.length_cons, Rps.length r]
theorem Rps.append : ∀ {v v' : List V} {d d' : List Y}, Rps K F v d → Rps K F v' d' → Rps K F (v ++ v') (d ++ d')
  | _, _, _, _, .nil, s => s
  | _, _, _, _, .cons h r, s => .cons h (Rps.append r s)
theorem Rps.get : ∀ {v : List V} {d : List Y} {i : Nat} {x : V}, Rps K F v d → v[i]? = some x → ∃ y, d[i]? = some y ∧ Rp K F x y
  | _, _, _, _, .nil, e => by simp at e
  | _, _, 0, _, .cons h _, e => by simp at e; subst e; exact ⟨_, rfl, h⟩
  | _, _, i + 1, x, .cons _ r, e => by
    obtain ⟨y, h1, h2⟩ := Rps.get (i := i) (x := x) r (by simpa using e)
    exact ⟨y, by simpa using h1, h2⟩
theorem Rps.get' : ∀ {v : List V} {d : List Y} {i : Nat} {y : Y}, Rps K F v d → d[i]? = some y → ∃ x, v[i]? = some x ∧ Rp K F x y
  | _, _, _, _, .nil, e => by simp at e
  | _, _, 0, _, .cons h _, e => by simp at e; subst e; exact ⟨_, rfl, h⟩
  | _, _, i + 1, x, .cons _ r, e => by
    obtain ⟨y, h1, h2⟩ := Rps.get' (i := i) (y := x) r (by simpa using e)
    exact ⟨y, by simpa using h1, h2⟩
theorem Rps.take : ∀ {v : List V} {d : List Y} (n : Nat), Rps K F v d → Rps K F (v.take n) (d.take n)
  | _, _, 0, _ => .nil
  | _, _, _ + 1, .nil => .nil
  | _, _, n + 1, .cons h r => .cons h (Rps.take n r)
theorem Rps.drop : ∀ {v : List V} {d : List Y} (n : Nat), Rps K F v d → Rps K F (v.drop n) (d.drop n)
  | _, _, 0, r => r
  | _, _, _ + 1, .nil => .nil
  | _, _, n + 1, .cons _ r => Rps.drop n r
theorem Rps.set : ∀ {v : List V} {d : List Y} {x : V} {y : Y} (n : Nat), Rps K F v d → Rp K F x y → Rps K F (v.set n x) (d.set n y)
  | _, _, _, _, _, .nil, _ => .nil
  | _, _, _, _, 0, .cons _ r, h => .cons h r
  | _, _, _, _, n + 1, .cons h r, q => .cons h (Rps.set n r q)
theorem Rps.reverse : ∀ {v : List V} {d : List Y}, Rps K F v d → Rps K F v.reverse d.reverse
  | _, _, .nil => .nil
  | _, _, .cons h r => by
    rw [List.reverse_cons, List.reverse_cons]
    exact (Rps.reverse r).append (.cons h .nil)
theorem rps_ints (ns : List Int) : Rps K F (ns.map V.int) (ns.map PyData.int) := by
  induction ns with
  | nil => exact .nil
  | cons n ns ih => exact .cons (.int n) ih
theorem rps_ints_inv : ∀ {ns : List Int} {v : List V}, Rps K F v (ns.map PyData.int) → v = ns.map V.int
  | [], _, .nil => rfl
  | n :: ns, _, .cons h r => by
    cases h
    rw [rps_ints_inv r]
    rfl
end
inductive Ow where
  | own
  | loc
  | val
  deriving DecidableEq
abbrev Sl := Option (Ow × Y)
abbrev Ev := List Sl
inductive O (α : Type) where
  | bad
  | ok (a : α)
  | exc (c : Str)
def O.bind {α β : Type} (x : O α) (f : α → O β) : O β := match x with
  | .bad => .bad
  | .ok a => f a
  | .exc c => .exc c
theorem O.bind_ok {α β : Type} (a : α) (f : α → O β) : O.bind (.ok a) f = f a := rfl
theorem O.of_bind {α β : Type} {x : O α} {f : α → O β} {b : β} (h : O.bind x f = .ok b) : ∃ a, x = .ok a ∧ f a = .ok b := by
  cases x with
  | bad => cases h
  | ok a => exact ⟨a, rfl, h⟩
  | exc c => cases h
/-- a fresh list or dict, held by nothing else -/
def OwnR (K : PySem.W.Frag) (H0 F H : Hp) (v : V) (d : Y) : Prop := ∃ a, v = .ref a ∧ F a = none ∧ H0 a = none ∧
  ((∃ xs ds, d = .list ds ∧ H a = some (.lst xs) ∧ Rps K F xs ds) ∨ ∃ kvs ds, d = .dict ds ∧ H a = some (.dK kvs) ∧ Rpk K F kvs ds)
/-- a list or dict that was made here, and stays as it is for now -/
def LocR (K : PySem.W.Frag) (H0 F0 F : Hp) (v : V) (d : Y) : Prop := ∃ a, v = .ref a ∧ (H0 a = none ∧ F0 a = none) ∧
  ((∃ xs ds, d = .list ds ∧ F a = some (.lst xs) ∧ Rps K F xs ds) ∨ ∃ kvs ds, d = .dict ds ∧ F a = some (.dK kvs) ∧ Rpk K F kvs ds)
def SltR (K : PySem.W.Frag) (H0 F0 F H : Hp) (s : Sl) (v : Option V) : Prop := match s with
  | none => True
  | some (.val, d) => ∃ x, v = some x ∧ Rp K F x d
  | some (.loc, d) => ∃ x, v = some x ∧ LocR K H0 F0 F x d
  | some (.own, d) => ∃ x, v = some x ∧ OwnR K H0 F H x d
def Mine (s : Sl) : Bool := match s with
  | some (.own, _) => true
  | some (.loc, _) => true
  | _ => false
structure EnvR (K : PySem.W.Frag) (H0 F0 F H : Hp) (σ : Ev) (σV : St) : Prop where
  fh : Same F H
  f0 : Same F0 F
  h0 : Same H0 H
  nw : ∀ a o, F a = some o → (∃ o', F0 a = some o') ∨ H0 a = none
  len : σ.length = σV.length
  sl : ∀ (i : Nat) (s : Sl), σ[i]? = some s → ∃ v, σV[i]? = some v ∧ SltR K H0 F0 F H s v
  sep : ∀ (i j : Nat) (s t : Sl) (v : V), i ≠ j → σ[i]? = some s → σ[j]? = some t → Mine s = true → Mine t = true → σV[i]? = some (some v) → σV[j]? ≠ some (some v)
/-- what an expression hands on: fr: it is fresh, held by nothing else -/
structure Rs where
  d : Y
  fr : Bool
  σ : Ev
def ResR (K : PySem.W.Frag) (H0 F H : Hp) (σ : Ev) (σV : St) (fr : Bool) (d : Y) (v : V) : Prop := match fr with
  | false => Rp K F v d
  | true => OwnR K H0 F H v d ∧ ∀ (i : Nat) (s : Sl), σ[i]? = some s → Mine s = true → σV[i]? ≠ some (some v)
def tE (K : PySem.W.Frag) (H0 F0 : Hp) (σ : Ev) (r : Rs) : TE := fun σV H Q => ∃ F, EnvR K H0 F0 F H σ σV ∧
  ∀ F' H' v, EnvR K H0 F0 F' H' r.σ σV → Same F F' → ResR K H0 F' H' r.σ σV r.fr r.d v → Q v H'
abbrev XF := Ev → O Rs
/-- the expression e is worth f -/
def PV (X : Cx) (H0 F0 : Hp) (e : Expr) (f : XF) : Prop := ∀ σ r, f σ = .ok r → PE X e (tE X.K H0 F0 σ r)
theorem PE.of {X : Cx} {e : Expr} {t t' : TE} (h : PE X e t) (w : ∀ σ H Q, t' σ H Q → t σ H Q) : PE X e t' := fun pins s σ H Q I q => h pins s σ H Q I (w σ H Q q)
section
variable {K : PySem.W.Frag} {H0 F0 F H : Hp} {σ : Ev} {σV : St}
/-- a new object is laid -/
theorem OwnR.laid {v : V} {d : Y} {p : Addr} {o : HO} (h : OwnR K H0 F H v d) (hp : H p = none) : OwnR K H0 F (upd H p o) v d := by
  obtain ⟨a, rfl, h1, h2, h3⟩ := h
  refine ⟨a, rfl, h1, h2, ?_⟩
  rcases h3 with ⟨xs, ds, e, q, r⟩ | ⟨xs, ds, e, q, r⟩
  · exact .inl ⟨xs, ds, e, by rw [upd_ne (ne_of_none q hp)]; exact q, r⟩
  · exact .inr ⟨xs, ds, e, by rw [upd_ne (ne_of_none q hp)]; exact q, r⟩
theorem Same.laid {p : Addr} {o : HO} (h : Same F H) (hp : H p = none) : Same F (upd H p o) := fun b u e => by
  rw [upd_ne (ne_of_none (h b u e) hp)]; exact h b u e
theorem EnvR.laid (E : EnvR K H0 F0 F H σ σV) {p : Addr} (o : HO) (hp : H p = none) : EnvR K H0 F0 F (upd H p o) σ σV where
  fh := Same.laid E.fh hp
  f0 := E.f0
  h0 := Same.laid E.h0 hp
  nw := E.nw
  len := E.len
  sl := fun i s e => by
    obtain ⟨v, h1, h2⟩ := E.sl i s e
    refine ⟨v, h1, ?_⟩
    rcases s with _ | ⟨b, d⟩
    · trivial
    · cases b with
      | val => exact h2
      | loc => exact h2
      | own =>
        obtain ⟨x, e1, e2⟩ := h2
        exact ⟨x, e1, e2.laid hp⟩
  sep := E.sep
/-- more of the heap stays as it is: what no name has for its own -/
theorem OwnR.froze {v : V} {d : Y} {p : Addr} {o : HO} (h : OwnR K H0 F H v d) (ne : v ≠ .ref p) (hF : F p = none) : OwnR K H0 (upd F p o) H v d := by
  obtain ⟨a, rfl, h1, h2, h3⟩ := h
  have na : a ≠ p := fun z => ne (by rw [z])
  have sm : Same F (upd F p o) := Same.laid (Same.refl _) hF
  refine ⟨a, rfl, by rw [upd_ne na]; exact h1, h2, ?_⟩
  rcases h3 with ⟨xs, ds, e, q, r⟩ | ⟨xs, ds, e, q, r⟩
  · exact .inl ⟨xs, ds, e, q, r.mono sm⟩
  · exact .inr ⟨xs, ds, e, q, r.mono sm⟩
theorem LocR.mono {v : V} {d : Y} {F' : Hp} (h : LocR K H0 F0 F v d) (sm : Same F F') : LocR K H0 F0 F' v d := by
  obtain ⟨a, rfl, h1, h3⟩ := h
  refine ⟨a, rfl, h1, ?_⟩
  rcases h3 with ⟨xs, ds, e, q, r⟩ | ⟨xs, ds, e, q, r⟩
  · exact .inl ⟨xs, ds, e, sm _ _ q, r.mono sm⟩
  · exact .inr ⟨xs, ds, e, sm _ _ q, r.mono sm⟩
theorem LocR.rp {v : V} {d : Y} (h : LocR K H0 F0 F v d) : Rp K F v d := by
  obtain ⟨a, rfl, h1, h3⟩ := h
  rcases h3 with ⟨xs, ds, rfl, q, r⟩ | ⟨xs, ds, rfl, q, r⟩
  · exact .lst (.inl (.inl q)) r
  · exact .dct (.inl q) r
/-- no name has an address that is not there -/
theorem EnvR.fresh (E : EnvR K H0 F0 F H σ σV) {p : Addr} (hp : H p = none) (i : Nat) (s : Sl) (h : σ[i]? = some s) (hm : Mine s = true) : σV[i]? ≠ some (some (.ref p)) := fun z => by
  obtain ⟨v, h1, h2⟩ := E.sl i s h
  rw [z] at h1
  cases h1
  rcases s with _ | ⟨b, d⟩
  · cases hm
  · cases b with
    | val => cases hm
    | loc =>
      obtain ⟨x, e1, a, e2, _, h3⟩ := h2
      cases e1
      cases e2
      rcases h3 with ⟨xs, ds, _, q, _⟩ | ⟨xs, ds, _, q, _⟩ <;> rw [Same.free E.fh hp] at q <;> cases q
    | own =>
      obtain ⟨x, e1, a, e2, _, _, h3⟩ := h2
      cases e1
      cases e2
      rcases h3 with ⟨xs, ds, _, q, _⟩ | ⟨xs, ds, _, q, _⟩ <;> rw [hp] at q <;> cases q
theorem EnvR.froze (E : EnvR K H0 F0 F H σ σV) {p : Addr} {o : HO} (hF : F p = none) (hH : H p = some o) (h0 : H0 p = none) (no : ∀ (i : Nat) (s : Sl), σ[i]? = some s → Mine s = true → σV[i]? ≠ some (some (.ref p))) :
    EnvR K H0 F0 (upd F p o) H σ σV where
  fh := fun b u e => by
    by_cases hb : b = p
    · subst hb; rw [upd_same] at e; cases e; exact hH
    · rw [upd_ne hb] at e; exact E.fh b u e
  f0 := Same.laid E.f0 hF
  h0 := E.h0
  nw := fun a u e => by
    by_cases hb : a = p
    · subst hb; exact .inr h0
    · rw [upd_ne hb] at e; exact E.nw a u e
  len := E.len
  sl := fun i s e => by
    obtain ⟨v, h1, h2⟩ := E.sl i s e
    refine ⟨v, h1, ?_⟩
    rcases s with _ | ⟨b, d⟩
    · trivial
    · cases b with
      | val =>
        obtain ⟨x, e1, e2⟩ := h2
        exact ⟨x, e1, e2.mono (Same.laid (Same.refl _) hF)⟩
      | loc =>
        obtain ⟨x, e1, e2⟩ := h2
        exact ⟨x, e1, e2.mono (Same.laid (Same.refl _) hF)⟩
      | own =>
        obtain ⟨x, e1, e2⟩ := h2
        subst e1
        exact ⟨x, rfl, e2.froze (fun z => no i _ e rfl (by rw [h1, z])) hF⟩
  sep := E.sep
/-- a result is frozen -/
theorem ResR.frozen {fr : Bool} {d : Y} {v : V} (E : EnvR K H0 F0 F H σ σV) (r : ResR K H0 F H σ σV fr d v) : ∃ F', Same F F' ∧ EnvR K H0 F0 F' H σ σV ∧ Rp K F' v d := by
  cases fr with
  | false => exact ⟨F, Same.refl _, E, r⟩
  | true =>
    obtain ⟨⟨a, rfl, h1, h2, h3⟩, no⟩ := r
    rcases h3 with ⟨xs, ds, rfl, q, r⟩ | ⟨xs, ds, rfl, q, r⟩
    · have sm : Same F (upd F a (.lst xs)) := Same.laid (Same.refl _) h1
      exact ⟨_, sm, E.froze h1 q h2 no, .lst (.inl (.inl upd_same)) (r.mono sm)⟩
    · have sm : Same F (upd F a (.dK xs)) := Same.laid (Same.refl _) h1
      exact ⟨_, sm, E.froze h1 q h2 no, .dct (.inl upd_same) (r.mono sm)⟩
/-- a new object that stays -/
theorem EnvR.laidF (E : EnvR K H0 F0 F H σ σV) {p : Addr} (o : HO) (hp : H p = none) : EnvR K H0 F0 (upd F p o) (upd H p o) σ σV ∧ Same F (upd F p o) := by
  have hF : F p = none := Same.free E.fh hp
  exact ⟨(E.laid o hp).froze hF upd_same (Same.free E.h0 hp) fun i s h hm => E.fresh hp i s h hm, Same.laid (Same.refl _) hF⟩
/-- a new list that is one's own -/
theorem EnvR.laidO (E : EnvR K H0 F0 F H σ σV) {p : Addr} {xs : List V} {ds : List Y} (hp : H p = none) (r : Rps K F xs ds) : EnvR K H0 F0 F (upd H p (.lst xs)) σ σV ∧ ResR K H0 F (upd H p (.lst xs)) σ σV true (.list ds) (.ref p) := by
  exact ⟨E.laid _ hp, ⟨p, rfl, Same.free E.fh hp, Same.free E.h0 hp, .inl ⟨xs, ds, rfl, upd_same, r⟩⟩, fun i s h hm => E.fresh hp i s h hm⟩
end
end L2.Fs
set_option Elab.async false
set_option linter.all false
set_option maxRecDepth 100000
namespace L2.Fs
open PySem PySem.Spec PyProof.Rows
def xVar (i : Nat) : XF := fun σ => match σ[i]? with
  | some (some (.val, d)) => .ok ⟨d, false, σ⟩
  | some (some (.loc, d)) => .ok ⟨d, false, σ⟩
  | some (some (.own, d)) => .ok ⟨d, false, σ.set i (some (.loc, d))⟩
  | _ => .bad
def xCon (d : Y) : XF := fun σ => .ok ⟨d, false, σ⟩
abbrev F2 := Y → Y → O (Y × Bool)
abbrev F1 := Y → O (Y × Bool)
def x2 (h : F2) (f g : XF) : XF := fun σ => (f σ).bind fun r => (g r.σ).bind fun q => (h r.d q.d).bind fun z => .ok ⟨z.1, z.2, q.σ⟩
def x1 (h : F1) (f : XF) : XF := fun σ => (f σ).bind fun r => (h r.d).bind fun z => .ok ⟨z.1, z.2, r.σ⟩
/-- and, or over truths; a if c else b -/
def xAnd (f g : XF) : XF := fun σ => (f σ).bind fun r => match r.d with
  | .bool true => g r.σ
  | .bool false => .ok ⟨.bool false, false, r.σ⟩
  | _ => .bad
/-- the truth of data -/
def truD : Y → Option Bool
  | .none => some false
  | .bool b => some b
  | .int i => some (i != 0)
  | .str x => if x.length ≤ sizeLine then some ((x.length : Int) != 0) else none
  | .list ds => some (!ds.isEmpty)
  | .tuple ds => some (!ds.isEmpty)
  | .dict _ => none
/-- a test: what it is worth, and the names behind it -/
abbrev TF := Ev → O (Bool × Ev)
def tVal (f : XF) : TF := fun σ => (f σ).bind fun r => match truD r.d with
  | some b => .ok (b, r.σ)
  | none => .bad
def tBool (f : XF) : TF := fun σ => (f σ).bind fun r => match r.d with
  | .bool b => .ok (b, r.σ)
  | _ => .bad
def hU (g : Int → Int) : F1 := fun d => match d with
  | .int i => .ok (.int (g i), false)
  | _ => .bad
def hNot : F1 := fun d => match d with
  | .bool b => .ok (.bool (!b), false)
  | _ => .bad
def tNotF (f : TF) : TF := fun σ => (f σ).bind fun r => .ok (!r.1, r.2)
def tAndF (f g : TF) : TF := fun σ => (f σ).bind fun r => if r.1 then g r.2 else .ok (false, r.2)
def tOrF (f g : TF) : TF := fun σ => (f σ).bind fun r => if r.1 then .ok (true, r.2) else g r.2
/-- arguments -/
abbrev LF := Ev → O (List Y × Ev)
def lNil : LF := fun σ => .ok ([], σ)
def lCons (f : XF) (g : LF) : LF := fun σ => (f σ).bind fun r => (g r.σ).bind fun q => .ok (r.d :: q.1, q.2)
def xTup (g : LF) : XF := fun σ => (g σ).bind fun q => if q.1.length ≤ sizeLine then .ok ⟨.tuple q.1, false, q.2⟩ else .bad
def tT (K : PySem.W.Frag) (H0 F0 : Hp) (σ : Ev) (b : Bool) (σ' : Ev) : TT := fun σV H Q => ∃ F, EnvR K H0 F0 F H σ σV ∧ ∀ F' H', EnvR K H0 F0 F' H' σ' σV → Same F F' → Q b H'
def tL (K : PySem.W.Frag) (H0 F0 : Hp) (σ : Ev) (ds : List Y) (σ' : Ev) : TA := fun σV H Q => ∃ F, EnvR K H0 F0 F H σ σV ∧ ∀ F' H' vs, EnvR K H0 F0 F' H' σ' σV → Same F F' → Rps K F' vs ds → Q vs H'
def PVT (X : Cx) (H0 F0 : Hp) (e : Expr) (f : TF) : Prop := ∀ σ b σ', f σ = .ok (b, σ') → PT X e (tT X.K H0 F0 σ b σ')
def PVL (X : Cx) (H0 F0 : Hp) (es : List Expr) (f : LF) : Prop := ∀ σ ds σ', f σ = .ok (ds, σ') → PA X es (tL X.K H0 F0 σ ds σ')
/-- a result is never an exception only where it is ok: the names' list keeps its length -/
theorem PT.of {X : Cx} {e : Expr} {t t' : TT} (h : PT X e t) (w : ∀ σ H Q, t' σ H Q → t σ H Q) : PT X e t' := fun pins s σ H Q I q => h pins s σ H Q I (w σ H Q q)
theorem PW.of {X : Cx} {e : Expr} {t t' : TT} (h : PW X e t) (w : ∀ σ H Q, t' σ H Q → t σ H Q) : PW X e t' := fun wh pins s σ H Q I q => h wh pins s σ H Q I (w σ H Q q)
theorem PA.of {X : Cx} {es : List Expr} {t t' : TA} (h : PA X es t) (w : ∀ σ H Q, t' σ H Q → t σ H Q) : PA X es t' := fun pos pins s σ H Q I q => h pos pins s σ H Q I (w σ H Q q)
def PVW (X : Cx) (H0 F0 : Hp) (e : Expr) (f : TF) : Prop := ∀ σ b σ', f σ = .ok (b, σ') → PW X e (tT X.K H0 F0 σ b σ')
/-- what a name has for its own may be read by others from here on -/
theorem EnvR.share {K : PySem.W.Frag} {H0 F0 F H : Hp} {σ : Ev} {σV : St} (E : EnvR K H0 F0 F H σ σV) {i : Nat} {d : Y} {x : V} (hs : σ[i]? = some (some (.own, d))) (h1 : σV[i]? = some (some x)) (h2 : OwnR K H0 F H x d) :
    ∃ F', Same F F' ∧ EnvR K H0 F0 F' H (σ.set i (some (.loc, d))) σV ∧ LocR K H0 F0 F' x d := by
  have hi : i < σ.length := (List.getElem?_eq_some_iff.mp hs).1
  obtain ⟨a, rfl, f1, f2, f3⟩ := h2
  have core : ∀ o, H a = some o → LocR K H0 F0 (upd F a o) (.ref a) d → ∃ F', Same F F' ∧ EnvR K H0 F0 F' H (σ.set i (some (.loc, d))) σV ∧ LocR K H0 F0 F' (.ref a) d := fun o ho lr => by
    have sm : Same F (upd F a o) := Same.laid (Same.refl _) f1
    have ne : ∀ j s, i ≠ j → σ[j]? = some s → Mine s = true → σV[j]? ≠ some (some (.ref a)) := fun j s hj h hm => E.sep i j _ s _ hj hs h rfl hm h1
    refine ⟨_, sm, ⟨fun b u e => ?_, Same.laid E.f0 f1, E.h0, fun b u e => ?_, by rw [List.length_set]; exact E.len, fun j s e => ?_, fun j m s t v jm e1 e2 m1 m2 => ?_⟩, lr⟩
    · by_cases hb : b = a
      · subst hb; rw [upd_same] at e; cases e; exact ho
      · rw [upd_ne hb] at e; exact E.fh b u e
    · by_cases hb : b = a
      · subst hb; exact .inr f2
      · rw [upd_ne hb] at e; exact E.nw b u e
    · by_cases hj : i = j
      · subst hj
        rw [List.getElem?_set_self hi] at e
        cases e
        exact ⟨_, h1, _, rfl, lr⟩
      · rw [List.getElem?_set_ne hj] at e
        obtain ⟨v, g1, g2⟩ := E.sl j s e
        refine ⟨v, g1, ?_⟩
        rcases s with _ | ⟨b, d'⟩
        · trivial
        · cases b with
          | val => obtain ⟨y, e1, e2⟩ := g2; exact ⟨y, e1, e2.mono sm⟩
          | loc => obtain ⟨y, e1, e2⟩ := g2; exact ⟨y, e1, e2.mono sm⟩
          | own =>
            obtain ⟨y, e1, e2⟩ := g2
            subst e1
            exact ⟨y, rfl, e2.froze (fun z => ne j _ hj e rfl (by rw [g1, z])) f1⟩
    · have gen : ∀ (q : Nat) (s : Sl), (σ.set i (some (.loc, d)))[q]? = some s → Mine s = true → ∃ s', σ[q]? = some s' ∧ Mine s' = true := fun q s e hm => by
        by_cases hq : i = q
        · subst hq; exact ⟨_, hs, rfl⟩
        · rw [List.getElem?_set_ne hq] at e; exact ⟨s, e, hm⟩
      obtain ⟨s', q1, n1⟩ := gen j s e1 m1
      obtain ⟨t', q2, n2⟩ := gen m t e2 m2
      exact E.sep j m s' t' v jm q1 q2 n1 n2
  rcases f3 with ⟨xs, ds, rfl, q, r⟩ | ⟨xs, ds, rfl, q, r⟩
  · exact core _ q ⟨a, rfl, ⟨f2, Same.free E.f0 f1⟩, .inl ⟨xs, ds, rfl, upd_same, r.mono (Same.laid (Same.refl _) f1)⟩⟩
  · exact core _ q ⟨a, rfl, ⟨f2, Same.free E.f0 f1⟩, .inr ⟨xs, ds, rfl, upd_same, r.mono (Same.laid (Same.refl _) f1)⟩⟩
section
variable {X : Cx} {H0 F0 : Hp} {a b c e : Expr} {es rest : List Expr} {f g : XF} {pos : Pos} {p q : TF} {l : LF}
theorem pv_var (i : Nat) {x : Str} (hN : X.N[i]? = some x) (hv : Vis X.env.scope x) (hd : (x == ("__debug__" : Str)) = false) (hcd : (x == ("__classdict__" : Str)) = false) : PV X H0 F0 (.Name x pos) (xVar i) := by
  intro σ r hr
  refine PE.of (pe_var hN hv hd hcd) fun σV H Q ⟨F, E, k⟩ => ?_
  unfold xVar at hr
  split at hr
  · rename_i d hs
    cases hr
    obtain ⟨v, h1, x, rfl, h2⟩ := E.sl i _ hs
    exact ⟨x, h1, k F H x E (Same.refl _) h2⟩
  · rename_i d hs
    cases hr
    obtain ⟨v, h1, x, rfl, h2⟩ := E.sl i _ hs
    exact ⟨x, h1, k F H x E (Same.refl _) h2.rp⟩
  · rename_i d hs
    cases hr
    obtain ⟨v, h1, x, rfl, h2⟩ := E.sl i _ hs
    refine ⟨x, h1, ?_⟩
    obtain ⟨F', sm, E2, lr⟩ := E.share hs h1 h2
    exact k F' H x E2 sm lr.rp
  · cases hr
theorem pv_tC {v : V} {d : Y} (h : PE X e (tC v)) (r : ∀ F, Rp X.K F v d) : PV X H0 F0 e (xCon d) := by
  intro σ z hr
  cases hr
  exact PE.of h fun σV H Q ⟨F, E, k⟩ => k F H v E (Same.refl _) (r F)
theorem pv_int {i : Int} {j pos'} : PV X H0 F0 (.Constant (.int i) j pos') (xCon (.int i)) := pv_tC pe_int fun _ => .int i
theorem pv_bl {b : Bool} {j pos'} : PV X H0 F0 (.Constant (.bool b) j pos') (xCon (.bool b)) := pv_tC pe_bl fun _ => .bl b
/-- a whole number of the module -/
theorem pv_glb {x : Str} {i : Int} {t : Tok} (hg : Gl X x) (hm : X.mg x = some (.int i t)) (hd : (x == ("__debug__" : Str)) = false) : PV X H0 F0 (.Name x pos) (xCon (.int i)) := pv_tC (v := .int i) (pe_glob hg hm ⟨t, rfl⟩ hd) fun _ => .int i
/-- two values led to a third -/
def OpV (X : Cx) (H0 F0 : Hp) (r : R2) (h : F2) : Prop := ∀ (F H : Hp) (σ : Ev) (σV : St) (x y : V) (dx dy : Y) (z : Y × Bool) (Q : VK), h dx dy = .ok z → EnvR X.K H0 F0 F H σ σV → Rp X.K F x dx → Rp X.K F y dy →
  (∀ F' H' v, EnvR X.K H0 F0 F' H' σ σV → Same F F' → ResR X.K H0 F' H' σ σV z.2 z.1 v → Q v H') → r x y H Q
theorem two_step {σ : Ev} {r q : Rs} {z : Y × Bool} {R : R2} {h : F2} (hv : OpV X H0 F0 R h) (hz : h r.d q.d = .ok z) {σV : St} {H : Hp} {Q : VK} (t : tE X.K H0 F0 σ ⟨z.1, z.2, q.σ⟩ σV H Q) :
    tOp R (tE X.K H0 F0 σ r) (tE X.K H0 F0 r.σ q) σV H Q := by
  obtain ⟨F, E, k⟩ := t
  refine ⟨F, E, fun F1 H1 x E1 s1 q1 => ?_⟩
  obtain ⟨F1', s1', E1', rx⟩ := q1.frozen E1
  refine ⟨F1', E1', fun F2 H2 y E2 s2 q2 => ?_⟩
  obtain ⟨F2', s2', E2', ry⟩ := q2.frozen E2
  exact hv F2' H2 q.σ σV x y r.d q.d z Q hz E2' (rx.mono (s2.trans s2')) ry fun F' H' v E' s' r' => k F' H' v E' (((s1.trans s1').trans (s2.trans s2')).trans s') r'
theorem pv_op {op : Operator} {r : R2} {h : F2} (ho : OpR X (binaryOp op) r) (hv : OpV X H0 F0 r h) (ha : PV X H0 F0 a f) (hb : PV X H0 F0 b g) : PV X H0 F0 (.BinOp a op b pos) (x2 h f g) := by
  intro σ z hz
  obtain ⟨r1, e1, hz⟩ := O.of_bind hz
  obtain ⟨r2, e2, hz⟩ := O.of_bind hz
  obtain ⟨w, e3, hz⟩ := O.of_bind hz
  cases hz
  exact PE.of (pe_op ho (ha σ r1 e1) (hb r1.σ r2 e2)) fun σV H Q t => two_step hv e3 t
theorem pv_cmp {op : CmpOp} {r : R2} {h : F2} (ho : OpR X (compareOp op) r) (hv : OpV X H0 F0 r h) (ha : PV X H0 F0 a f) (hb : PV X H0 F0 b g) (hm : behindInMarks op b = false) : PV X H0 F0 (.Compare a [op] [b] pos) (x2 h f g) := by
  intro σ z hz
  obtain ⟨r1, e1, hz⟩ := O.of_bind hz
  obtain ⟨r2, e2, hz⟩ := O.of_bind hz
  obtain ⟨w, e3, hz⟩ := O.of_bind hz
  cases hz
  exact PE.of (pe_cmpR ho (ha σ r1 e1) (hb r1.σ r2 e2) hm) fun σV H Q t => two_step hv e3 t
theorem pv_ix {r : R2} {h : F2} (ho : IxR X r) (hv : OpV X H0 F0 r h) (ha : PV X H0 F0 a f) (hb : PV X H0 F0 b g) (hs : PlainIx b) : PV X H0 F0 (.Subscript a b pos) (x2 h f g) := by
  intro σ z hz
  obtain ⟨r1, e1, hz⟩ := O.of_bind hz
  obtain ⟨r2, e2, hz⟩ := O.of_bind hz
  obtain ⟨w, e3, hz⟩ := O.of_bind hz
  cases hz
  exact PE.of (pe_ix ho (ha σ r1 e1) (hb r1.σ r2 e2) hs) fun σV H Q t => two_step hv e3 t
theorem pv_un {op : UnaryOp} {g' : Int → Int} (ho : UnR X (unaryOp op) (rU fun i => .int (g' i))) (ha : PV X H0 F0 a f) :
    PV X H0 F0 (.UnaryOp op a pos) (x1 (hU g') f) := by
  intro σ z hz
  obtain ⟨r1, e1, hz⟩ := O.of_bind hz
  obtain ⟨w, e3, hz⟩ := O.of_bind hz
  cases hz
  refine PE.of (pe_un ho (ha σ r1 e1)) fun σV H Q ⟨F, E, k⟩ => ⟨F, E, fun F1 H1 x E1 s1 q1 => ?_⟩
  obtain ⟨F1', s1', E1', rx⟩ := q1.frozen E1
  unfold hU at e3
  split at e3
  · rename_i i hd
    rw [hd] at rx
    cases rx
    cases e3
    exact ⟨i, rfl, k F1' H1 _ E1' (s1.trans s1') (.int _)⟩
  · cases e3
theorem pvl_nil : PVL X H0 F0 [] lNil := by
  intro σ ds σ' h
  cases h
  exact PA.of pa_nil fun σV H Q ⟨F, E, k⟩ => k F H [] E (Same.refl _) .nil
theorem pvl_cons (ha : PV X H0 F0 e f) (hl : PVL X H0 F0 es l) (hs : starEach (e :: es) X.env = (false, eval e X.env) :: starEach es X.env) : PVL X H0 F0 (e :: es) (lCons f l) := by
  intro σ ds σ' h
  obtain ⟨r1, e1, h⟩ := O.of_bind h
  obtain ⟨⟨d2, σ2⟩, e2, h⟩ := O.of_bind h
  cases h
  refine PA.of (pa_cons (ha σ r1 e1) (hl r1.σ d2 σ2 e2) hs) fun σV H Q ⟨F, E, k⟩ => ⟨F, E, fun F1 H1 x E1 s1 q1 => ?_⟩
  obtain ⟨F1', s1', E1', rx⟩ := q1.frozen E1
  exact ⟨F1', E1', fun F2 H2 vs E2 s2 q2 => k F2 H2 (x :: vs) E2 ((s1.trans s1').trans s2) (.cons (rx.mono s2) q2)⟩
theorem pv_tup {kk} (h : PVL X H0 F0 es l) : PV X H0 F0 (.Tuple es kk pos) (xTup l) := by
  intro σ r hr
  obtain ⟨⟨ds, σ'⟩, e1, hr⟩ := O.of_bind hr
  split at hr
  · rename_i hz
    cases hr
    refine PE.of (pe_tup (h σ ds σ' e1)) fun σV H Q ⟨F, E, k⟩ => ⟨F, E, fun F1 H1 vs E1 s1 q1 => ⟨by rw [q1.length]; exact hz, fun p hp => ?_⟩⟩
    obtain ⟨E2, s2⟩ := E1.laidF (.tup vs) hp
    exact k _ _ _ E2 (s1.trans s2) (.tup (.inl (.inl upd_same)) (q1.mono s2))
  · cases hr
theorem truV_of {F H : Hp} {x : V} {d : Y} {k : Bool} (sm : Same F H) (r : Rp X.K F x d) (h : truD d = some k) : TruV X.K x H k := by
  cases r with
  | non => exact (Option.some.inj h).symm
  | bl b => exact (Option.some.inj h).symm
  | int i => exact (Option.some.inj h).symm
  | str x =>
    simp only [truD] at h
    by_cases hz : x.length ≤ sizeLine
    · rw [if_pos hz] at h
      exact ⟨hz, (Option.some.inj h).symm⟩
    · rw [if_neg hz] at h
      cases h
  | lst hs rs => refine .inl ⟨_, sm.seq hs, ?_⟩; rw [← Option.some.inj h]; cases rs <;> rfl
  | tup hs rs => refine .inr (.inl ⟨_, Same.seqT sm hs, ?_⟩); rw [← Option.some.inj h]; cases rs <;> rfl
  | dct hs rs => cases h
  | exc hs rs => cases h
  | opq a => cases h
theorem pvt_val (h : PV X H0 F0 e f) (he : ∀ whole, isTrue e X.env whole = (do let v ← whole; standAt e.pos; holding [v] (truthy v))) : PVT X H0 F0 e (tVal f) := by
  intro σ b σ' hb
  obtain ⟨r1, e1, hb⟩ := O.of_bind hb
  split at hb
  · rename_i k hk
    cases hb
    refine PT.of (pt_truth (h σ r1 e1) he) fun σV H Q ⟨F, E, k⟩ => ⟨F, E, fun F1 H1 x E1 s1 q1 => ?_⟩
    obtain ⟨F1', s1', E1', rx⟩ := q1.frozen E1
    exact ⟨b, truV_of E1'.fh rx hk, k F1' H1 E1' (s1.trans s1')⟩
  · cases hb
theorem pvt_cmp {op : CmpOp} {r : R2} {h : F2} (ho : OpR X (compareOp op) r) (hv : OpV X H0 F0 r h) (ha : PV X H0 F0 a f) (hb : PV X H0 F0 b g) (hm : behindInMarks op b = false) : PVT X H0 F0 (.Compare a [op] [b] pos) (tBool (x2 h f g)) := by
  intro σ k σ' hk
  obtain ⟨r3, e0, hk⟩ := O.of_bind hk
  obtain ⟨r1, e1, hz⟩ := O.of_bind e0
  obtain ⟨r2, e2, hz⟩ := O.of_bind hz
  obtain ⟨w, e3, hz⟩ := O.of_bind hz
  cases hz
  split at hk
  · rename_i k' hk'
    cases hk
    refine PT.of (pt_cmpR ho (ha σ r1 e1) (hb r1.σ r2 e2) hm) fun σV H Q ⟨F, E, kk⟩ => ?_
    refine two_step hv e3 (⟨F, E, fun F1 H1 x E1 s1 q1 => ?_⟩ : tE X.K H0 F0 σ ⟨w.1, w.2, r2.σ⟩ σV H _)
    obtain ⟨F1', s1', E1', rx⟩ := q1.frozen E1
    have rx : Rp X.K F1' x w.1 := rx
    have hk' : w.1 = .bool k := hk'
    rw [hk'] at rx
    cases rx
    exact ⟨k, rfl, kk F1' H1 E1' (s1.trans s1')⟩
  · cases hk
theorem pvt_not (h : PVT X H0 F0 e p) : PVT X H0 F0 (.UnaryOp .Not e pos) (tNotF p) := by
  intro σ b σ' hb
  obtain ⟨⟨b1, σ1⟩, e1, hb⟩ := O.of_bind hb
  cases hb
  exact PT.of (pt_not (h σ b1 σ1 e1)) fun σV H Q ⟨F, E, k⟩ => ⟨F, E, fun F1 H1 E1 s1 => k F1 H1 E1 s1⟩
theorem pvw_and1 (h : PVT X H0 F0 e p) : PVW X H0 F0 (.BoolOp .And [e] pos) p := fun σ b σ' hb => pw_and1 (h σ b σ' hb)
theorem pvw_or1 (h : PVT X H0 F0 e p) : PVW X H0 F0 (.BoolOp .Or [e] pos) p := fun σ b σ' hb => pw_or1 (h σ b σ' hb)
theorem pvw_and (h : PVT X H0 F0 a p) (h' : PVW X H0 F0 (.BoolOp .And (b :: rest) pos) q) : PVW X H0 F0 (.BoolOp .And (a :: b :: rest) pos) (tAndF p q) := by
  intro σ k σ' hk
  obtain ⟨⟨b1, σ1⟩, e1, hk⟩ := O.of_bind hk
  cases b1 with
  | true => exact PW.of (pw_and (h σ true σ1 e1) (h' σ1 k σ' hk)) fun σV H Q ⟨F, E, kk⟩ => ⟨F, E, fun F1 H1 E1 s1 => iteT ⟨F1, E1, fun F2 H2 E2 s2 => kk F2 H2 E2 (s1.trans s2)⟩⟩
  | false =>
    cases hk
    exact PW.of (pw_and (tB' := fun _ _ _ => False) (h σ false _ e1) (fun _ _ _ _ _ _ _ z => z.elim)) fun σV H Q ⟨F, E, kk⟩ => ⟨F, E, fun F1 H1 E1 s1 => iteF (kk F1 H1 E1 s1)⟩
theorem pvw_or (h : PVT X H0 F0 a p) (h' : PVW X H0 F0 (.BoolOp .Or (b :: rest) pos) q) : PVW X H0 F0 (.BoolOp .Or (a :: b :: rest) pos) (tOrF p q) := by
  intro σ k σ' hk
  obtain ⟨⟨b1, σ1⟩, e1, hk⟩ := O.of_bind hk
  cases b1 with
  | false => exact PW.of (pw_or (h σ false σ1 e1) (h' σ1 k σ' hk)) fun σV H Q ⟨F, E, kk⟩ => ⟨F, E, fun F1 H1 E1 s1 => iteF ⟨F1, E1, fun F2 H2 E2 s2 => kk F2 H2 E2 (s1.trans s2)⟩⟩
  | true =>
    cases hk
    exact PW.of (pw_or (tB' := fun _ _ _ => False) (h σ true _ e1) (fun _ _ _ _ _ _ _ z => z.elim)) fun σV H Q ⟨F, E, kk⟩ => ⟨F, E, fun F1 H1 E1 s1 => iteT (kk F1 H1 E1 s1)⟩
theorem PVW.t (h : PVW X H0 F0 e p) : PVT X H0 F0 e p := fun σ b σ' hb => (h σ b σ' hb).pt
theorem pv_one {op : BoolOp} (h : PV X H0 F0 a f) : PV X H0 F0 (.BoolOp op [a] pos) f := fun σ r hr => pe_one (h σ r hr)
theorem pv_and (h : PV X H0 F0 a f) (h' : PV X H0 F0 (.BoolOp .And (b :: rest) pos) g) : PV X H0 F0 (.BoolOp .And (a :: b :: rest) pos) (xAnd f g) := by
  intro σ r hr
  obtain ⟨r1, e1, hr⟩ := O.of_bind hr
  split at hr
  · rename_i hd
    refine PE.of (pe_and (h σ r1 e1) (h' r1.σ r hr)) fun σV H Q ⟨F, E, kk⟩ => ⟨F, E, fun F1 H1 x E1 s1 q1 => ?_⟩
    obtain ⟨F1', s1', E1', rx⟩ := q1.frozen E1
    rw [hd] at rx
    cases rx
    exact ⟨true, rfl, iteT ⟨F1', E1', fun F2 H2 v E2 s2 q2 => kk F2 H2 v E2 ((s1.trans s1').trans s2) q2⟩⟩
  · rename_i hd
    cases hr
    refine PE.of (pe_and (tb := fun _ _ _ => False) (h σ r1 e1) (fun _ _ _ _ _ _ z => z.elim)) fun σV H Q ⟨F, E, kk⟩ => ⟨F, E, fun F1 H1 x E1 s1 q1 => ?_⟩
    obtain ⟨F1', s1', E1', rx⟩ := q1.frozen E1
    rw [hd] at rx
    cases rx
    exact ⟨false, rfl, iteF (kk F1' H1 _ E1' (s1.trans s1') (.bl false))⟩
  · cases hr
theorem pv_not (h : PV X H0 F0 a f) : PV X H0 F0 (.UnaryOp .Not a pos) (x1 hNot f) := by
  intro σ z hz
  obtain ⟨r1, e1, hz⟩ := O.of_bind hz
  obtain ⟨w, e3, hz⟩ := O.of_bind hz
  cases hz
  refine PE.of (pe_not (h σ r1 e1)) fun σV H Q ⟨F, E, k⟩ => ⟨F, E, fun F1 H1 x E1 s1 q1 => ?_⟩
  obtain ⟨F1', s1', E1', rx⟩ := q1.frozen E1
  unfold hNot at e3
  split at e3
  · rename_i i hd
    rw [hd] at rx
    cases rx
    cases e3
    exact ⟨i, rfl, k F1' H1 _ E1' (s1.trans s1') (.bl _)⟩
  · cases e3
end
end L2.Fs
set_option Elab.async false
set_option linter.all false
set_option maxRecDepth 100000
namespace L2.Fs
open PySem PySem.Spec PyProof.Rows
theorem OpR.or {X : Cx} {f : Value → Value → Sem Value} {r r' : R2} (h : OpR X f r) (h' : OpR X f r') : OpR X f (fun x y H Q => r x y H Q ∨ r' x y H Q) := by
  intro pins s σ H x y v u Q I rx ry q
  rcases q with q | q
  · exact h pins s σ H x y v u Q I rx ry q
  · exact h' pins s σ H x y v u Q I rx ry q
theorem OpV.or {X : Cx} {H0 F0 : Hp} {r r' : R2} {h h' g : F2} (v : OpV X H0 F0 r h) (v' : OpV X H0 F0 r' h') (hg : ∀ a b z, g a b = .ok z → h a b = .ok z ∨ h' a b = .ok z) : OpV X H0 F0 (fun x y H Q => r x y H Q ∨ r' x y H Q) g := by
  intro F H σ σV x y dx dy z Q hz E rx ry k
  rcases hg dx dy z hz with q | q
  · exact .inl (v F H σ σV x y dx dy z Q q E rx ry k)
  · exact .inr (v' F H σ σV x y dx dy z Q q E rx ry k)
def hI (C : Int → Int → Bool) (g : Int → Int → Y) : F2 := fun a b => match a, b with
  | .int i, .int j => if C i j then .ok (g i j, false) else .bad
  | _, _ => .bad
theorem hI_ok {C : Int → Int → Bool} {g : Int → Int → Y} {a b : Y} {z : Y × Bool} (h : hI C g a b = .ok z) : ∃ i j, a = .int i ∧ b = .int j ∧ C i j = true ∧ z = (g i j, false) := by
  unfold hI at h
  split at h
  · split at h
    · cases h; exact ⟨_, _, rfl, rfl, by assumption, rfl⟩
    · cases h
  · cases h
def big : Int := 2 ^ 3000
def smallI (i : Int) : Bool := decide (i.natAbs < 2 ^ 3000)
theorem log_of_small {j : Int} (h : smallI j = true) : j.natAbs.log2 < 3000 := by
  unfold smallI at h
  have h := of_decide_eq_true h
  by_cases h0 : j.natAbs = 0
  · rw [h0]; decide +kernel
  · exact (Nat.log2_lt h0).mpr h
theorem bits_of_small {j : Int} (h : smallI j = true) : Builtin.Int.intBits j ≤ 3000 := by
  have := log_of_small h
  unfold Builtin.Int.intBits
  split <;> omega
theorem mul_ok {i j : Int} (h1 : smallI i = true) (h2 : smallI j = true) : IntMulOk i j := by
  have b1 := bits_of_small h1
  have b2 := bits_of_small h2
  unfold IntMulOk
  have : Builtin.Int.intTooBig (Builtin.Int.intBits i + Builtin.Int.intBits j : Nat) = false := by
    unfold Builtin.Int.intTooBig
    apply decide_eq_false
    have : bitsLine = 134217728 := by decide +kernel
    rw [this]
    omega
  have e : Builtin.Int.intTooBig ((Builtin.Int.intBits i : Int) + (Builtin.Int.intBits j : Int)) = false := by
    rw [← this]; congr 1
  rw [e]
  simp
section
variable {X : Cx} {H0 F0 : Hp}
theorem opv_rI {C : Int → Int → Prop} {C' : Int → Int → Bool} {g : Int → Int → V} {g' : Int → Int → Y} (hc : ∀ i j, C' i j = true → C i j) (hg : ∀ i j F, Rp X.K F (g i j) (g' i j)) : OpV X H0 F0 (rI C g) (hI C' g') := by
  intro F H σ σV x y dx dy z Q hz E rx ry k
  obtain ⟨i, j, rfl, rfl, c, rfl⟩ := hI_ok hz
  cases rx
  cases ry
  exact ⟨i, j, rfl, rfl, hc i j c, k F H _ E (Same.refl _) (hg i j F)⟩
theorem opv_rI0 {g : Int → Int → V} {g' : Int → Int → Y} (hg : ∀ i j F, Rp X.K F (g i j) (g' i j)) : OpV X H0 F0 (rI0 g) (hI (fun _ _ => true) g') := by
  intro F H σ σV x y dx dy z Q hz E rx ry k
  obtain ⟨i, j, rfl, rfl, c, rfl⟩ := hI_ok hz
  cases rx
  cases ry
  exact ⟨i, j, rfl, rfl, k F H _ E (Same.refl _) (hg i j F)⟩
theorem op_mulB : OpR X (binaryOp .Mult) (rI (fun i j => smallI i = true ∧ smallI j = true) fun i j => .int (i * j)) := opI fun _ _ _ _ _ _ _ hc q => mul_int q (mul_ok hc.1 hc.2)
theorem op_fdivB : OpR X (binaryOp .FloorDiv) (rI (fun _ j => j ≠ 0 ∧ smallI j = true) fun i j => .int (i.fdiv j)) := opI fun _ _ _ _ _ _ _ hc q => floordiv_int hc.1 q (.inl (PyProof.noPylong_of_log2 (Nat.lt_trans (log_of_small hc.2) (by decide))))
def hSub : F2 := hI (fun _ _ => true) fun i j => .int (i - j)
def hMul : F2 := hI (fun i j => smallI i && smallI j) fun i j => .int (i * j)
def hDiv : F2 := hI (fun _ j => decide (j ≠ 0) && smallI j) fun i j => .int (i.fdiv j)
def hMod : F2 := hI (fun _ j => decide (j ≠ 0)) fun i j => .int (i.fmod j)
def hPow : F2 := hI (fun i j => decide (0 ≤ j) && decide (j ≤ 1000000) && decide (i.natAbs < 2 ^ 64)) fun i j => .int (i ^ j.toNat)
variable {a b : Expr} {f g : XF} {pos : Pos}
theorem pv_sub (ha : PV X H0 F0 a f) (hb : PV X H0 F0 b g) : PV X H0 F0 (.BinOp a .Sub b pos) (x2 hSub f g) := pv_op op_sub (opv_rI0 fun i j F => .int _) ha hb
theorem pv_mul (ha : PV X H0 F0 a f) (hb : PV X H0 F0 b g) : PV X H0 F0 (.BinOp a .Mult b pos) (x2 hMul f g) := pv_op op_mulB (opv_rI (fun i j c => by simpa using c) fun i j F => .int _) ha hb
theorem pv_div (ha : PV X H0 F0 a f) (hb : PV X H0 F0 b g) : PV X H0 F0 (.BinOp a .FloorDiv b pos) (x2 hDiv f g) := pv_op op_fdivB (opv_rI (fun i j c => by simpa using c) fun i j F => .int _) ha hb
theorem pv_mod (ha : PV X H0 F0 a f) (hb : PV X H0 F0 b g) : PV X H0 F0 (.BinOp a .Mod b pos) (x2 hMod f g) := pv_op op_modN (opv_rI (fun i j c => by simpa using c) fun i j F => .int _) ha hb
theorem pv_pow (ha : PV X H0 F0 a f) (hb : PV X H0 F0 b g) : PV X H0 F0 (.BinOp a .Pow b pos) (x2 hPow f g) := pv_op op_pow (opv_rI (fun i j c => by simp only [Bool.and_eq_true, decide_eq_true_eq] at c; exact ⟨c.1.1, c.1.2, c.2⟩) fun i j F => .int _) ha hb
theorem pv_neg (ha : PV X H0 F0 a f) : PV X H0 F0 (.UnaryOp .USub a pos) (x1 (hU fun i => -i) f) := pv_un un_neg ha
def hCatL : F2 := fun a b => match a, b with
  | .list xs, .list ys => if xs.length + ys.length ≤ sizeLine then .ok (.list (xs ++ ys), true) else .bad
  | _, _ => .bad
def hCatT : F2 := fun a b => match a, b with
  | .tuple xs, .tuple ys => if xs.length + ys.length ≤ sizeLine then .ok (.tuple (xs ++ ys), false) else .bad
  | _, _ => .bad
def rCL (K : PySem.W.Frag) : R2 := fun x y H Q => ∃ a b xs ys, x = .ref a ∧ y = .ref b ∧ SqL K H a xs ∧ SqL K H b ys ∧ xs.length + ys.length ≤ sizeLine ∧ ∀ p, H p = none → Q (.ref p) (upd H p (.lst (xs ++ ys)))
def rCT (K : PySem.W.Frag) : R2 := fun x y H Q => ∃ a b xs ys, x = .ref a ∧ y = .ref b ∧ SqT K H a xs ∧ SqT K H b ys ∧ xs.length + ys.length ≤ sizeLine ∧
  (xs = [] → Q (.ref b) H) ∧ (ys = [] → Q (.ref a) H) ∧ ∀ p, H p = none → Q (.ref p) (upd H p (.tup (xs ++ ys)))
theorem op_catL : OpR X (binaryOp .Add) (rCL X.K) := by
  intro pins s σ H x y v u Q I rx ry h
  obtain ⟨l, b, xs, zs, rfl, rfl, hH, hB, hz, q⟩ := h
  cases rx
  cases ry
  obtain ⟨its, r, ⟨o, n, h1, h2, h3, h4⟩, _⟩ := I.list hH
  obtain ⟨its2, r2, ⟨o2, n2, g1, g2, g3, g4⟩, _⟩ := I.list hB
  obtain ⟨c1, d1, t1, sl1⟩ := o
  obtain ⟨c2, d2, t2, sl2⟩ := o2
  simp only at h2 h3 h4 g2 g3 g4
  subst h2 h3 h4 g2 g3 g4
  refine concat_meets ⟨_, h1, rfl⟩ ⟨_, g1, rfl⟩ noFill_list_add seq_list_add PySem.F.slot_list_add PySem.F.entry_list_add (PySem.F.args_list_add_2 _ _)
    (list_addW l b its.toArray its2.toArray n n2 none none sl1 sl2 (by rw [List.size_toArray, List.size_toArray, ← r.length, ← r2.length]; exact hz)) ⟨h1, g1, ?_⟩
  have ea : its.toArray ++ its2.toArray = (its ++ its2).toArray := by simp
  rw [ea]
  exact ⟨.ref _, _, I.lnew (t' := s.toks) (r.append r2) (by rw [List.length_append]; omega), rfl, q _ I.fresh⟩
theorem op_catTT : OpR X (binaryOp .Add) (rCT X.K) := by
  intro pins s σ H x y v u Q I rx ry h
  obtain ⟨l, b, xs, zs, rfl, rfl, hH, hB, hz, q0, q1, q2⟩ := h
  by_cases hx : xs = []
  · cases rx
    cases ry
    obtain ⟨its, r, ⟨⟨c1, d1, t1, sl1⟩, h1, h2, n, h4⟩, _⟩ := I.tuple hH
    obtain ⟨its2, r2, ⟨⟨c2, d2, t2, sl2⟩, g1, g2, n2, g4⟩, _⟩ := I.tuple hB
    simp only at h2 h4 g2 g4
    subst h2 h4 g2 g4
    refine concat_meets ⟨_, h1, rfl⟩ ⟨_, g1, rfl⟩ noFill_tuple_add seq_tuple_add PySem.F.slot_tuple_add PySem.F.entry_tuple_add (PySem.F.args_tuple_add_2 _ _)
      (tuple_addW0 l b its.toArray its2.toArray n n2 d1 d2 sl1 sl2 (by rw [r.nil_iff.mpr hx]; rfl)) ⟨h1, g1, ?_⟩
    exact ⟨.ref b, H, I, rfl, q0 hx⟩
  · exact op_catT pins s σ H _ _ v u Q I rx ry ⟨l, b, xs, zs, rfl, rfl, hH, hB, hx, hz, q1, fun _ p hp => q2 p hp⟩
theorem opv_catL : OpV X H0 F0 (rCL X.K) hCatL := by
  intro F H σ σV x y dx dy z Q hz E rx ry k
  unfold hCatL at hz
  split at hz
  · split at hz
    · rename_i h
      cases hz
      cases rx with | lst hx xs => ?_
      cases ry with | lst hy ys => ?_
      refine ⟨_, _, _, _, rfl, rfl, E.fh.seq hx, E.fh.seq hy, by rw [xs.length, ys.length]; exact h, fun p hp => ?_⟩
      obtain ⟨E2, r2⟩ := E.laidO hp (xs.append ys)
      exact k _ _ _ E2 (Same.refl _) r2
    · cases hz
  · cases hz
theorem opv_catT : OpV X H0 F0 (rCT X.K) hCatT := by
  intro F H σ σV x y dx dy z Q hz E rx ry k
  unfold hCatT at hz
  split at hz
  · split at hz
    · rename_i h
      cases hz
      have rx0 := rx
      have ry0 := ry
      cases rx with | tup hx xs => ?_
      cases ry with | tup hy ys => ?_
      refine ⟨_, _, _, _, rfl, rfl, Same.seqT E.fh hx, Same.seqT E.fh hy, by rw [xs.length, ys.length]; exact h, fun e => ?_, fun e => ?_, fun p hp => ?_⟩
      · subst e
        cases xs
        exact k F H _ E (Same.refl _) ry0
      · subst e
        cases ys
        refine k F H _ E (Same.refl _) ?_
        show Rp X.K F _ (.tuple (_ ++ []))
        rw [List.append_nil]
        exact rx0
      · obtain ⟨E2, s2⟩ := E.laidF (.tup _) hp
        exact k _ _ _ E2 s2 (.tup (.inl (.inl upd_same)) ((xs.append ys).mono s2))
    · cases hz
  · cases hz
def hAdd : F2 := fun a b => match a, b with
  | .int i, .int j => .ok (.int (i + j), false)
  | .list xs, .list ys => if xs.length + ys.length ≤ sizeLine then .ok (.list (xs ++ ys), true) else .bad
  | .tuple xs, .tuple ys => if xs.length + ys.length ≤ sizeLine then .ok (.tuple (xs ++ ys), false) else .bad
  | _, _ => .bad
theorem pv_add (ha : PV X H0 F0 a f) (hb : PV X H0 F0 b g) : PV X H0 F0 (.BinOp a .Add b pos) (x2 hAdd f g) := by
  refine pv_op (OpR.or op_add (OpR.or op_catL op_catTT)) (OpV.or (h := hI (fun _ _ => true) fun i j => .int (i + j)) (opv_rI0 fun i j F => .int _) (OpV.or (h := hCatL) (h' := hCatT) (g := fun a b => match a, b with
    | .list xs, .list ys => hCatL (.list xs) (.list ys)
    | .tuple xs, .tuple ys => hCatT (.tuple xs) (.tuple ys)
    | _, _ => .bad) opv_catL opv_catT ?_) ?_) ha hb
  · intro a b z h
    split at h
    · exact .inl h
    · exact .inr h
    · cases h
  · intro a b z h
    unfold hAdd at h
    split at h
    · cases h; exact .inl rfl
    · exact .inr h
    · exact .inr h
    · cases h
end
end L2.Fs
set_option Elab.async false
set_option linter.all false
set_option maxRecDepth 100000
namespace L2.Fs
open PySem PySem.Spec PyProof.Rows
section
variable {K : PySem.W.Frag} {F H : Hp}
mutual
theorem Rp.dp (sm : Same F H) : ∀ {v : V} {d : Y}, Rp K F v d → PyData.canLay0 d = true → Dp K H v d
  | _, _, .non, _ => .non
  | _, _, .bl b, _ => .bl b
  | _, _, .int i, _ => .int i
  | _, _, .str x, _ => .str x
  | _, _, .lst h r, c => .lst (sm.seq h) (Rps.dp sm r (by simpa [PyData.canLay0] using c))
  | _, _, .tup h r, c => .tup (Same.seqT sm h) (Rps.dp sm r (by simpa [PyData.canLay0] using c))
  | _, _, .dct h r, c => by simp [PyData.canLay0] at c
  | _, _, .exc h r, c => by simp [excY, PyData.canLay0] at c
theorem Rps.dp (sm : Same F H) : ∀ {v : List V} {d : List Y}, Rps K F v d → PyData.canLayAll0 d = true → DpAll K H v d
  | _, _, .nil, _ => .nil
  | _, _, .cons h r, c => by
    simp only [PyData.canLayAll0, Bool.and_eq_true] at c
    exact .cons (Rp.dp sm h c.1) (Rps.dp sm r c.2)
end
end
section
variable {X : Cx} {H0 F0 : Hp} {a b : Expr} {f g : XF} {pos : Pos}
def hNe : F2 := fun a b => if SeqAt.shaped a && SeqAt.shaped b then .ok (.bool (!PyData.eqv a b), false) else .bad
theorem opv_ne : OpV X H0 F0 (rNeD X.K) hNe := by
  intro F H σ σV x y dx dy z Q hz E rx ry k
  unfold hNe at hz
  split at hz
  · rename_i h
    cases hz
    rw [Bool.and_eq_true] at h
    exact ⟨dx, dy, rx.dp E.fh (SeqAt.canLay_of_shaped h.1), ry.dp E.fh (SeqAt.canLay_of_shaped h.2), h.1, h.2, k F H _ E (Same.refl _) (.bl _)⟩
  · cases hz
def hLt : F2 := hI (fun _ _ => true) fun i j => .bool (decide (i < j))
def hGt : F2 := hI (fun _ _ => true) fun i j => .bool (decide (j < i))
def hGe : F2 := hI (fun _ _ => true) fun i j => .bool (decide (j ≤ i))
def hIx : F2 := fun a b => match a, b with
  | .list ds, .int i => match atI ds i with
    | some d => .ok (d, false)
    | none => .bad
  | .tuple ds, .int i => match atI ds i with
    | some d => .ok (d, false)
    | none => .bad
  | _, _ => .bad
theorem atI_of {F : Hp} {vs : List V} {ds : List Y} {i : Int} {d : Y} (r : Rps X.K F vs ds) (h : atI ds i = some d) : ∃ v, atI vs i = some v ∧ Rp X.K F v d := by
  unfold atI at h ⊢
  rw [r.length]
  cases hj : ixN ds.length i with
  | none => rw [hj] at h; cases h
  | some j =>
    rw [hj] at h
    exact r.get' h
def rIxx (K : PySem.W.Frag) : R2 := fun x y H Q => rIxL K x y H Q ∨ rIxT K x y H Q
theorem ix_both : IxR X (rIxx X.K) := by
  intro value slice pins s σ H x y v u Q I rx ry h hs
  rcases h with h | h
  · exact ix_list value slice pins s σ H x y v u Q I rx ry h hs
  · exact ix_tup value slice pins s σ H x y v u Q I rx ry h hs
theorem opv_ix : OpV X H0 F0 (rIxx X.K) hIx := by
  intro F H σ σV x y dx dy z Q hz E rx ry k
  unfold hIx at hz
  split at hz
  · split at hz
    · rename_i h
      cases hz
      cases rx with | lst hx xs => ?_
      cases ry
      obtain ⟨v, h1, h2⟩ := atI_of xs h
      exact .inl ⟨_, _, _, v, rfl, rfl, E.fh.seq hx, h1, k F H v E (Same.refl _) h2⟩
    · cases hz
  · split at hz
    · rename_i h
      cases hz
      cases rx with | tup hx xs => ?_
      cases ry
      obtain ⟨v, h1, h2⟩ := atI_of xs h
      exact .inr ⟨_, _, _, v, rfl, rfl, Same.seqT E.fh hx, h1, k F H v E (Same.refl _) h2⟩
    · cases hz
  · cases hz
theorem pv_item (ha : PV X H0 F0 a f) (hb : PV X H0 F0 b g) (hs : PlainIx b) : PV X H0 F0 (.Subscript a b pos) (x2 hIx f g) := pv_ix ix_both opv_ix ha hb hs
abbrev PF := Ev → O (Option Int × Ev)
def pNone : PF := fun σ => .ok (none, σ)
def pSome (f : XF) : PF := fun σ => (f σ).bind fun r => match r.d with
  | .int i => .ok (some i, r.σ)
  | _ => .bad
def cutD (ds : List Y) (lo hi : Option Int) : List Y := (ds.drop (HT.sIx ds.length 0 lo)).take (HT.sIx ds.length ds.length hi - HT.sIx ds.length 0 lo)
def xSl (f : XF) (l h : PF) : XF := fun σ => (f σ).bind fun r => (l r.σ).bind fun p => (h p.2).bind fun q => match r.d with
  | .list ds => .ok ⟨.list (cutD ds p.1 q.1), true, q.2⟩
  | .tuple ds => .ok ⟨.tuple (cutD ds p.1 q.1), false, q.2⟩
  | _ => .bad
def tPt (K : PySem.W.Frag) (H0 F0 : Hp) (σ : Ev) (i : Option Int) (σ' : Ev) : TO := fun σV H Q => ∃ F, EnvR K H0 F0 F H σ σV ∧ ∀ F' H', EnvR K H0 F0 F' H' σ' σV → Same F F' → Q i H'
def PVP (X : Cx) (H0 F0 : Hp) (e : Option Expr) (f : PF) : Prop := ∀ σ i σ', f σ = .ok (i, σ') → PO X e (tPt X.K H0 F0 σ i σ')
theorem PO.of {e : Option Expr} {t t' : TO} (h : PO X e t) (w : ∀ σ H Q, t' σ H Q → t σ H Q) : PO X e t' := fun pins s σ H Q I q => h pins s σ H Q I (w σ H Q q)
theorem pvp_none : PVP X H0 F0 none pNone := by
  intro σ i σ' h
  cases h
  exact PO.of po_none fun σV H Q ⟨F, E, k⟩ => k F H E (Same.refl _)
theorem pvp_some (h : PV X H0 F0 a f) : PVP X H0 F0 (some a) (pSome f) := by
  intro σ i σ' hi
  obtain ⟨r1, e1, hi⟩ := O.of_bind hi
  split at hi
  · rename_i j hd
    cases hi
    refine PO.of (po_some (h σ r1 e1)) fun σV H Q ⟨F, E, k⟩ => ⟨F, E, fun F1 H1 x E1 s1 q1 => ?_⟩
    obtain ⟨F1', s1', E1', rx⟩ := q1.frozen E1
    rw [hd] at rx
    cases rx
    exact ⟨j, rfl, k F1' H1 E1' (s1.trans s1')⟩
  · cases hi
theorem cutV_of {F : Hp} {vs : List V} {ds : List Y} (r : Rps X.K F vs ds) (lo hi : Option Int) : Rps X.K F (cutV vs lo hi) (cutD ds lo hi) := by
  unfold cutV cutD
  rw [r.length]
  exact (r.drop _).take _
def rSlTT (K : PySem.W.Frag) : V → Option Int → Option Int → Hp → VK → Prop := fun x lo hi H Q => ∃ a xs, x = .ref a ∧ SqT K H a xs ∧ (cutV xs lo hi = xs → Q (.ref a) H) ∧ ∀ p, H p = none → Q (.ref p) (upd H p (.tup (cutV xs lo hi)))
end
end L2.Fs
set_option Elab.async false
set_option linter.all false
set_option maxRecDepth 100000
namespace L2.Fs
open PySem PySem.Spec PyProof.Rows
section
variable {prog : Program} {w : World} {A : Around} {E : Value → Shared → Prop} {s : Shared}
theorem tup_whole {t sl : Addr} {items : Array Value} {vl vu : Value} {lo hi : Option Int} {Q : Value → Shared → Prop} (ht : IsTup s.heap t items) (hs : s.heap.IsSliceOf sl vl vu .none) (pl : IsPart vl lo) (pu : IsPart vu hi)
    (hw : HT.sIx items.size 0 lo = 0 ∧ HT.sIx items.size items.size hi = items.size) (h : Q (.ref t) s) : wpAny (model prog w) A (getItem (.ref t) (.ref sl)) Q E s := by
  obtain ⟨os, hos, hcs, hds⟩ := id hs
  have hTs : s.TypeIs (.ref sl) "slice" := ⟨os, hos, hcs⟩
  unfold getItem
  try with_reducible refine wpAny_holding ?_
  first | refine wpAny_bind (wpAny_pure ?_) | skip
  refine wpAny_bind (wpAny_sequenceKey ht.typeIs (by decide) ?_)
  refine wpAny_bind (wpAny_callSpecial?_slot (name := Str.ofString "__getitem__") ht.typeIs PyProof.Rows.slot_tuple_getitem ?_)
  refine wpAny_call_entry PyProof.Rows.slot_tuple_getitem ht.typeIs entry_tuple_getitem ?_ (args_tuple_getitem _ _)
  show wpAny _ _ (Builtin.Tuple.tupleItemsOf (.ref t) >>= _) _ _ s
  refine wpAny_bind (tupleItemsOf_ ht ?_)
  refine wpAny_bind (wpAny_typeOf hTs ?_)
  rw [if_pos (by decide)]
  refine wpAny_bind (HT.sliceApplied_gen hs pl pu ?_)
  have hyes : (((HT.sIx items.size 0 lo : Nat) : Int) == 0 && (1 : Int) == 1 && (HT.sIx items.size items.size hi - HT.sIx items.size 0 lo) == items.size) = true := by
    rw [hw.1, hw.2]
    simp
  show wpAny _ _ (if (((HT.sIx items.size 0 lo : Nat) : Int) == 0 && (1 : Int) == 1 && (HT.sIx items.size items.size hi - HT.sIx items.size 0 lo) == items.size) = true then _ else _) _ _ s
  rw [if_pos hyes]
  have hT : s.TypeIs (.ref t) "tuple" := ht.typeIs
  have fin : wpAny (model prog w) A.in1 (Builtin.Tuple.tupleIsExact (.ref t)) (fun b s' => b = true ∧ s' = s) E s := by
    unfold Builtin.Tuple.tupleIsExact
    exact wpAny_bind (wpAny_typeOf hT (wpAny_pure ⟨by decide, rfl⟩))
  first
    | (refine wpAny_bind (wpAny_mono fin (fun b s' e => ?_) fun _ _ z => z); obtain ⟨rfl, rfl⟩ := e; rw [if_pos rfl]; exact wpAny_bind (wpAny_rule (wpAny_pure ⟨_, rfl, wpAny_pure h⟩)))
    | (refine wpAny_bind (wpAny_bind (wpAny_mono fin (fun b s' e => ?_) fun _ _ z => z)); obtain ⟨rfl, rfl⟩ := e; rw [if_pos rfl]; exact wpAny_bind (wpAny_rule (wpAny_pure ⟨_, rfl, wpAny_pure h⟩)))
    | (refine wpAny_bind (wpAny_typeOf hT ?_); trace_state; exact wpAny_bind (wpAny_rule (wpAny_pure ⟨_, rfl, wpAny_pure h⟩)))
end
section
variable {X : Cx} {H0 F0 : Hp} {a b : Expr} {f g : XF} {pos p2 p3 p4 : Pos} {l h : PF} {lo hi : Option Expr} {jj : Nat}
theorem cut_whole {xs : List V} {lo hi : Option Int} (hw : HT.sIx xs.length 0 lo = 0 ∧ HT.sIx xs.length xs.length hi = xs.length) : cutV xs lo hi = xs := by
  unfold cutV
  rw [hw.1, hw.2]
  simp
theorem sl_tupA : SlR X (rSlTT X.K) := by
  intro pins s σ H x v vl vu lo hi sl Q I rx hs pl pu h
  obtain ⟨a, xs, rfl, hx, q1, q2⟩ := h
  by_cases hw : HT.sIx xs.length 0 lo = 0 ∧ HT.sIx xs.length xs.length hi = xs.length
  · cases rx
    obtain ⟨its, r, ht, hz⟩ := I.tuple hx
    have hlen : its.toArray.size = xs.length := by rw [List.size_toArray]; exact r.length.symm
    refine ⟨"tuple", _, PyProof.Rows.slot_tuple_getitem.lookup, ht.typeIs, ?_⟩
    exact tup_whole ht hs pl pu (by rw [hlen]; exact hw) ⟨.ref a, H, I, rfl, q1 (cut_whole hw)⟩
  · exact sl_tup pins s σ H _ v vl vu lo hi sl Q I rx hs pl pu ⟨a, xs, rfl, hx, hw, q2⟩
theorem pv_slice (ha : PV X H0 F0 a f) (hl : PVP X H0 F0 lo l) (hh : PVP X H0 F0 hi h) : PV X H0 F0 (.Subscript a (.Slice lo hi none p2) pos) (xSl f l h) := by
  intro σ r hr
  obtain ⟨r1, e1, hr⟩ := O.of_bind hr
  obtain ⟨⟨i, σ2⟩, e2, hr⟩ := O.of_bind hr
  obtain ⟨⟨j, σ3⟩, e3, hr⟩ := O.of_bind hr
  refine PE.of (pe_slice (SlR.or sl_list sl_tupA) (ha σ r1 e1) (hl r1.σ i σ2 e2) (hh σ2 j σ3 e3)) fun σV H Q ⟨F, E, k⟩ => ⟨F, E, fun F1 H1 x E1 s1 q1 => ?_⟩
  obtain ⟨F1', s1', E1', rx⟩ := q1.frozen E1
  refine ⟨F1', E1', fun F2 H2 E2 s2 => ⟨F2, E2, fun F3 H3 E3 s3 => ?_⟩⟩
  have rx := rx.mono (s2.trans s3)
  have sA := (s1.trans s1').trans (s2.trans s3)
  split at hr
  · rename_i ds hd
    cases hr
    rw [hd] at rx
    cases rx with | lst hx xs => ?_
    refine .inl ⟨_, _, rfl, E3.fh.seq hx, fun p hp => ?_⟩
    obtain ⟨E4, r4⟩ := E3.laidO hp (cutV_of xs i j)
    exact k _ _ _ E4 sA r4
  · rename_i ds hd
    cases hr
    rw [hd] at rx
    have rx0 := rx
    cases rx with | tup hx xs => ?_
    refine .inr ⟨_, _, rfl, Same.seqT E3.fh hx, fun e => ?_, fun p hp => ?_⟩
    · refine k F3 H3 _ E3 sA (.tup hx ?_)
      have := cutV_of xs i j
      rw [e] at this
      exact this
    · obtain ⟨E4, s4⟩ := E3.laidF (.tup _) hp
      exact k _ _ _ E4 (sA.trans s4) (.tup (.inl (.inl upd_same)) ((cutV_of xs i j).mono s4))
  · cases hr
end
end L2.Fs
set_option Elab.async false
set_option linter.all false
set_option maxRecDepth 100000
namespace L2.Fs
open PySem PySem.Spec PyProof.Rows
abbrev FL := List Y → O (Y × Bool)
def xCall (h : FL) (l : LF) : XF := fun σ => (l σ).bind fun q => (h q.1).bind fun z => .ok ⟨z.1, z.2, q.2⟩
def f1 (h : F1) : FL := fun ds => match ds with
  | [d] => h d
  | _ => .bad
def f2 (h : F2) : FL := fun ds => match ds with
  | [d, e] => h d e
  | _ => .bad
section
variable {X : Cx} {H0 F0 : Hp} {e a b : Expr} {es : List Expr} {f g : XF} {pos p : Pos} {l : LF} {x : Str}
def CalV (X : Cx) (H0 F0 : Hp) (r : List V → Hp → VK → Prop) (h : FL) : Prop := ∀ (F H : Hp) (σ : Ev) (σV : St) (vs : List V) (ds : List Y) (z : Y × Bool) (Q : VK), h ds = .ok z → EnvR X.K H0 F0 F H σ σV → Rps X.K F vs ds →
  (∀ F' H' v, EnvR X.K H0 F0 F' H' σ σV → Same F F' → ResR X.K H0 F' H' σ σV z.2 z.1 v → Q v H') → r vs H Q
theorem call_step {σ σ' : Ev} {ds : List Y} {z : Y × Bool} {r : List V → Hp → VK → Prop} {h : FL} (hv : CalV X H0 F0 r h) (hz : h ds = .ok z) {σV : St} {H : Hp} {Q : VK} (t : tE X.K H0 F0 σ ⟨z.1, z.2, σ'⟩ σV H Q) :
    tCB r (tL X.K H0 F0 σ ds σ') σV H Q := by
  obtain ⟨F, E, k⟩ := t
  refine ⟨F, E, fun F1 H1 vs E1 s1 q1 => ?_⟩
  exact hv F1 H1 σ' σV vs ds z Q hz E1 q1 fun F' H' v E' s' r' => k F' H' v E' (s1.trans s') r'
theorem pv_callB {id : String} {r : List V → Hp → VK → Prop} {h : FL} (hc : CallR X (.builtin id) r) (hv : CalV X H0 F0 r h) (hg : Gl X x) (hm : X.mg x = none) (hb : bootBuiltins x = some (.builtin id)) (hn : x ≠ "__name__") (hd : (x == ("__debug__" : Str)) = false)
    (ha : PVL X H0 F0 (e :: es) l) (he : starEach (e :: es) X.env = (false, eval e X.env) :: starEach es X.env) (hpl : (backTo pos (starEach es X.env)).any (·.1) = false) : PV X H0 F0 (.Call (.Name x p) (e :: es) [] pos) (xCall h l) := by
  intro σ z hz
  obtain ⟨⟨ds, σ'⟩, e1, hz⟩ := O.of_bind hz
  obtain ⟨w, e2, hz⟩ := O.of_bind hz
  cases hz
  exact PE.of (L2.pe_callB hc hg hm hb (ha σ ds σ' e1) hn hd he hpl) fun σV H Q t => call_step hv e2 t
theorem pv_callT {T : String} {r : List V → Hp → VK → Prop} {h : FL} (hc : CallR X (.type T) r) (hv : CalV X H0 F0 r h) (hg : Gl X x) (hm : X.mg x = none) (hb : bootBuiltins x = some (.type T)) (hn : x ≠ "__name__") (hd : (x == ("__debug__" : Str)) = false)
    (ha : PVL X H0 F0 (e :: es) l) (he : starEach (e :: es) X.env = (false, eval e X.env) :: starEach es X.env) (hpl : (backTo pos (starEach es X.env)).any (·.1) = false) : PV X H0 F0 (.Call (.Name x p) (e :: es) [] pos) (xCall h l) := by
  intro σ z hz
  obtain ⟨⟨ds, σ'⟩, e1, hz⟩ := O.of_bind hz
  obtain ⟨w, e2, hz⟩ := O.of_bind hz
  cases hz
  exact PE.of (L2.pe_callTy hc hg hm hb (ha σ ds σ' e1) hn hd he hpl) fun σV H Q t => call_step hv e2 t
theorem f1_ok {h : F1} {ds : List Y} {z : Y × Bool} (q : f1 h ds = .ok z) : ∃ d, ds = [d] ∧ h d = .ok z := by
  unfold f1 at q
  split at q
  · exact ⟨_, rfl, q⟩
  · cases q
theorem f2_ok {h : F2} {ds : List Y} {z : Y × Bool} (q : f2 h ds = .ok z) : ∃ d e, ds = [d, e] ∧ h d e = .ok z := by
  unfold f2 at q
  split at q
  · exact ⟨_, _, rfl, q⟩
  · cases q
theorem rps1 {F : Hp} {vs : List V} {d : Y} (r : Rps X.K F vs [d]) : ∃ v, vs = [v] ∧ Rp X.K F v d := by
  cases r with | cons h r => cases r; exact ⟨_, rfl, h⟩
theorem rps2 {F : Hp} {vs : List V} {d e : Y} (r : Rps X.K F vs [d, e]) : ∃ v u, vs = [v, u] ∧ Rp X.K F v d ∧ Rp X.K F u e := by
  cases r with | cons h r => obtain ⟨u, rfl, q⟩ := rps1 r; exact ⟨_, _, rfl, h, q⟩
def hLen : F1 := fun d => match d with
  | .list ds => .ok (.int ds.length, false)
  | .tuple ds => .ok (.int ds.length, false)
  | .dict ds => if excL ds = true then .bad else .ok (.int ds.length, false)
  | _ => .bad
theorem Rpk.length {K : PySem.W.Frag} {F : Hp} : ∀ {v : List (Key × V)} {d : List (Y × Y)}, Rpk K F v d → v.length = d.length
  | _, _, .nil => rfl
  | _, _, .cons _ _ r => by rw [List.length_cons, List.length_cons, Rpk.length r]
def rLen (K : PySem.W.Frag) : List V → Hp → VK → Prop := fun xs H Q => (∃ p ys, xs = [.ref p] ∧ (SqL K H p ys ∨ SqT K H p ys) ∧ Q (.int ys.length) H) ∨ ∃ a kvs, xs = [V.ref a] ∧ Rd H a (.dK kvs) ∧ Q (.int kvs.length) H
theorem call_lenDR : CallR X (.builtin "len") (fun xs H Q => ∃ a kvs, xs = [V.ref a] ∧ Rd H a (.dK kvs) ∧ Q (.int kvs.length) H) := by
  intro pins s σ H xs us Q I r h
  obtain ⟨a, kvs, rfl, ha, q⟩ := h
  obtain ⟨u, rfl, ru⟩ := vals1 r
  cases ru
  exact d_len I ha fun t s' I' => ⟨.int kvs.length, H, I', ⟨t, rfl⟩, q⟩
theorem CallR.or {f : Value} {r r' : List V → Hp → VK → Prop} (h : CallR X f r) (h' : CallR X f r') : CallR X f (fun xs H Q => r xs H Q ∨ r' xs H Q) := by
  intro pins s σ H xs us Q I rx q
  rcases q with q | q
  · exact h pins s σ H xs us Q I rx q
  · exact h' pins s σ H xs us Q I rx q
theorem cv_len : CalV X H0 F0 (rLen X.K) (f1 hLen) := by
  intro F H σ σV vs ds z Q hz E r k
  obtain ⟨d, rfl, hy⟩ := f1_ok hz
  clear hz
  have hz := hy
  clear hy
  obtain ⟨v, rfl, rv⟩ := rps1 r
  unfold hLen at hz
  split at hz
  · cases hz
    cases rv with | lst h q => ?_
    exact .inl ⟨_, _, rfl, .inl (E.fh.seq h), by rw [q.length]; exact k F H _ E (Same.refl _) (.int _)⟩
  · cases hz
    cases rv with | tup h q => ?_
    exact .inl ⟨_, _, rfl, .inr (Same.seqT E.fh h), by rw [q.length]; exact k F H _ E (Same.refl _) (.int _)⟩
  · split at hz
    · cases hz
    · rename_i hx
      cases hz
      cases rv with
      | dct h q => exact .inr ⟨_, _, rfl, Same.rd E.fh h, by rw [q.length]; exact k F H _ E (Same.refl _) (.int _)⟩
      | exc h q => exact absurd rfl hx
      | opq a => exact absurd rfl hx
  · cases hz
theorem pv_len (hg : Gl X "len") (hm : X.mg "len" = none) (ha : PV X H0 F0 a f) (he : starEach [a] X.env = [(false, eval a X.env)]) : PV X H0 F0 (.Call (.Name "len" p) [a] [] pos) (xCall (f1 hLen) (lCons f lNil)) :=
  pv_callB (CallR.or call_len_seq call_lenDR) cv_len hg hm PySem.boot_len (by decide) (by decide) (pvl_cons ha pvl_nil he) he rfl
def hTuple : F1 := fun d => match d with
  | .list ds => .ok (.tuple ds, false)
  | .tuple ds => .ok (.tuple ds, false)
  | _ => .bad
theorem cv_tuple : CalV X H0 F0 (fun xs H Q => ∃ p ys, xs = [.ref p] ∧ ((SqL X.K H p ys ∧ ∀ l, H l = none → Q (.ref l) (upd H l (.tup ys))) ∨ (SqT X.K H p ys ∧ Q (.ref p) H))) (f1 hTuple) := by
  intro F H σ σV vs ds z Q hz E r k
  obtain ⟨d, rfl, hy⟩ := f1_ok hz
  clear hz
  have hz := hy
  clear hy
  obtain ⟨v, rfl, rv⟩ := rps1 r
  unfold hTuple at hz
  split at hz
  · cases hz
    cases rv with | lst h q => ?_
    refine ⟨_, _, rfl, .inl ⟨E.fh.seq h, fun l hl => ?_⟩⟩
    obtain ⟨E2, s2⟩ := E.laidF (.tup _) hl
    exact k _ _ _ E2 s2 (.tup (.inl (.inl upd_same)) (q.mono s2))
  · cases hz
    have rv0 := rv
    cases rv with | tup h q => ?_
    exact ⟨_, _, rfl, .inr ⟨Same.seqT E.fh h, k F H _ E (Same.refl _) rv0⟩⟩
  · cases hz
theorem boot_tuple : bootBuiltins "tuple" = some (.type "tuple") := by decide +kernel
theorem boot_int : bootBuiltins "int" = some (.type "int") := by decide +kernel
theorem boot_bool : bootBuiltins "bool" = some (.type "bool") := by decide +kernel
theorem boot_all : bootBuiltins "all" = some (.builtin "all") := by decide +kernel
theorem boot_max : bootBuiltins "max" = some (.builtin "max") := by decide +kernel
theorem boot_sorted : bootBuiltins "sorted" = some (.builtin "sorted") := by decide +kernel
theorem boot_isi : bootBuiltins "isinstance" = some (.builtin "isinstance") := by decide +kernel
theorem pv_tuple (hg : Gl X "tuple") (hm : X.mg "tuple" = none) (ha : PV X H0 F0 a f) (he : starEach [a] X.env = [(false, eval a X.env)]) : PV X H0 F0 (.Call (.Name "tuple" p) [a] [] pos) (xCall (f1 hTuple) (lCons f lNil)) :=
  pv_callT call_tuple_of cv_tuple hg hm boot_tuple (by decide) (by decide) (pvl_cons ha pvl_nil he) he rfl
def boolsD : List Y → Option (List Bool)
  | [] => some []
  | .bool b :: r => (boolsD r).map (b :: ·)
  | _ => none
def intsD : List Y → Option (List Int)
  | [] => some []
  | .int b :: r => (intsD r).map (b :: ·)
  | _ => none
theorem intsD_map (ns : List Int) : intsD (ns.map PyData.int) = some ns := by
  induction ns with
  | nil => rfl
  | cons n ns ih => simp only [List.map_cons, intsD, ih, Option.map_some]
theorem boolsD_map (ns : List Bool) : boolsD (ns.map PyData.bool) = some ns := by
  induction ns with
  | nil => rfl
  | cons n ns ih => simp only [List.map_cons, boolsD, ih, Option.map_some]
def tyD : Y → String
  | .none => "NoneType"
  | .bool _ => "bool"
  | .int _ => "int"
  | .str _ => "str"
  | .list _ => "list"
  | .tuple _ => "tuple"
  | .dict _ => "dict"
def isiD (T : String) (d : Y) : Bool := tyD d == T || (T == "int" && tyD d == "bool")
def excD : Y → Bool
  | .dict ds => excL ds
  | _ => false
def hIsi (T : String) : F1 := fun d => if excD d = true then .bad else .ok (.bool (isiD T d), false)
theorem kit_of (K : PySem.W.Frag) (T t : String) (hT : T = "int" ∨ T = "bool" ∨ T = "str" ∨ T = "list" ∨ T = "tuple" ∨ T = "dict") (d : Y) (ht : t = tyD d) : PySem.W.kitOne K (.type t) (.type T) = some (isiD T d) := by
  subst ht
  rcases hT with rfl | rfl | rfl | rfl | rfl | rfl <;> cases d <;> (with_unfolding_all rfl)
end
end L2.Fs
set_option Elab.async false
set_option linter.all false
set_option maxRecDepth 100000
namespace L2.Fs
open PySem PySem.Spec PyProof.Rows
section
variable {X : Cx} {H0 F0 : Hp} {e a b : Expr} {es : List Expr} {f g : XF} {pos p p2 : Pos} {l : LF} {x : Str}
theorem isi_call {T : String} (hT : T = "int" ∨ T = "bool" ∨ T = "str" ∨ T = "list" ∨ T = "tuple" ∨ T = "dict") : CallR X (.builtin "isinstance") (fun xs H Q => ∃ F v d, xs = [v, .ty T] ∧ excD d = false ∧ Same F H ∧ Rp X.K F v d ∧ Q (.bl (isiD T d)) H) := by
  intro pins s σ H xs us Q I r h
  obtain ⟨F, v, d, rfl, nx, sm, rp, q⟩ := h
  cases r with | cons r1 r => ?_
  cases r with | cons r2 r => ?_
  cases r
  cases r2
  have fin : ∀ tk, EP X pins σ Q (.bool (isiD T d)) { s with toks := tk } := fun tk => ⟨.bl _, H, I.tok tk, rfl, q⟩
  have kit := kit_of X.K T (tyD d) hT d rfl
  cases rp with
  | non => cases r1; exact PySem.W.kia_one PySem.W.kitx_none I.kIn True.intro kit (fun z => nomatch z) fin
  | bl b => cases r1; exact PySem.W.kia_one PySem.W.kitx_bool I.kIn True.intro kit (fun z => nomatch z) fin
  | int i => obtain ⟨t, e⟩ := r1; cases e; exact PySem.W.kia_one PySem.W.kitx_int I.kIn True.intro kit (fun z => nomatch z) fin
  | str x => obtain ⟨t, e⟩ := r1; cases e; exact PySem.W.kia_one PySem.W.kitx_str I.kIn True.intro kit (fun z => nomatch z) fin
  | lst h q =>
    cases r1
    obtain ⟨its, _, ⟨o, n, h1, h2, _⟩, _⟩ := I.list (sm.seq h)
    exact PySem.W.kia_one PySem.W.kitx_list I.kIn ⟨o, h1, h2⟩ kit (fun z => nomatch z) fin
  | tup h q =>
    cases r1
    obtain ⟨its, _, ⟨o, h1, h2, _⟩, _⟩ := I.tuple (Same.seqT sm h)
    exact PySem.W.kia_one PySem.W.kitx_tuple I.kIn ⟨o, h1, h2⟩ kit (fun z => nomatch z) fin
  | dct h q =>
    cases r1
    obtain ⟨_, _, vs, _, o, es, ep, h1, h2, _⟩ := (Same.rd sm h).ok I.hok
    exact PySem.W.kia_one PySem.W.kitx_dict I.kIn ⟨o, h1, h2.1⟩ kit (fun z => nomatch z) fin
  | exc h q => cases nx
  | opq a => cases nx
theorem pv_isi {T : String} (hT : T = "int" ∨ T = "bool" ∨ T = "str" ∨ T = "list" ∨ T = "tuple" ∨ T = "dict") (hb : bootBuiltins x = some (.type T)) (hg : Gl X "isinstance") (hm : X.mg "isinstance" = none) (hgT : Gl X x) (hmT : X.mg x = none) (hn : x ≠ "__name__") (hd : (x == ("__debug__" : Str)) = false)
    (ha : PV X H0 F0 a f) (he : starEach [a, .Name x p2] X.env = [(false, eval a X.env), (false, eval (.Name x p2) X.env)]) : PV X H0 F0 (.Call (.Name "isinstance" p) [a, .Name x p2] [] pos) (x1 (hIsi T) f) := by
  intro σ z hz
  obtain ⟨r1, e1, hz⟩ := O.of_bind hz
  obtain ⟨w, e2, hz⟩ := O.of_bind hz
  cases hz
  unfold hIsi at e2
  split at e2
  · cases e2
  rename_i nx
  have nx : excD r1.d = false := by simpa using nx
  cases e2
  refine PE.of (L2.pe_callB (isi_call hT) hg hm boot_isi (pa_cons (ha σ r1 e1) (pa_cons (pe_bltn (v := .ty T) hgT hmT hb rfl hn hd) pa_nil rfl) he) (by decide) (by decide) he rfl) fun σV H Q ⟨F, E, k⟩ => ⟨F, E, fun F1 H1 v E1 s1 q1 => ?_⟩
  obtain ⟨F1', s1', E1', rx⟩ := q1.frozen E1
  exact ⟨F1', v, _, rfl, nx, E1'.fh, rx, k F1' H1 _ E1' (s1.trans s1') (.bl _)⟩
end
abbrev IF := Ev → O (List Y × Ev)
structure IterR (K : PySem.W.Frag) (J : It) (F : Hp) (ds : List Y) : Prop where
  stop : ∀ i H, Same F H → ds.length ≤ i → J.stop i H
  go : ∀ i d H, ds[i]? = some d → Same F H → J.go i H
  yld : ∀ i d H x H', ds[i]? = some d → Same F H → J.yld i H x H' → (H' = H ∧ Rp K F x d) ∨ ∃ p o, H p = none ∧ H' = upd H p o ∧ Rp K (upd F p o) x d
theorem IterR.mono {K : PySem.W.Frag} {J : It} {F F' : Hp} {ds : List Y} (h : IterR K J F ds) (sm : Same F F') : IterR K J F' ds where
  stop := fun i H s => h.stop i H (sm.trans s)
  go := fun i d H e s => h.go i d H e (sm.trans s)
  yld := fun i d H x H' e s y => by
    rcases h.yld i d H x H' e (sm.trans s) y with ⟨e1, r⟩ | ⟨p, o, hp, e1, r⟩
    · exact .inl ⟨e1, r.mono sm⟩
    · refine .inr ⟨p, o, hp, e1, r.mono fun b u q => ?_⟩
      by_cases hb : b = p
      · subst hb; rw [upd_same] at q ⊢; exact q
      · rw [upd_ne hb] at q ⊢; exact sm b u q
def tI (K : PySem.W.Frag) (H0 F0 : Hp) (σ : Ev) (ds : List Y) (σ' : Ev) : TI := fun σV H R => ∃ F, EnvR K H0 F0 F H σ σV ∧ ∀ J F' H', EnvR K H0 F0 F' H' σ' σV → Same F F' → IterR K J F' ds → R J H'
def PVI (X : Cx) (H0 F0 : Hp) (tg iter : Expr) (f : IF) : Prop := ∀ σ ds σ', f σ = .ok (ds, σ') → PI X tg iter (tI X.K H0 F0 σ ds σ')
theorem PI.of {X : Cx} {tg e : Expr} {t t' : TI} (h : PI X tg e t) (w : ∀ σ H Q, t' σ H Q → t σ H Q) : PI X tg e t' := fun pins s σ H Q I q => h pins s σ H Q I (w σ H Q q)
def iSeq (f : XF) : IF := fun σ => (f σ).bind fun r => match r.d with
  | .list ds => .ok (ds, r.σ)
  | .tuple ds => .ok (ds, r.σ)
  | _ => .bad
def rngD (lo : Int) (n : Nat) : List Y := (List.range n).map fun (k : Nat) => .int (lo + (k : Int))
def iRng (f : XF) : IF := fun σ => (f σ).bind fun r => match r.d with
  | .int j => if -(2 ^ 62) ≤ j ∧ j < 2 ^ 62 then .ok (rngD 0 j.toNat, r.σ) else .bad
  | _ => .bad
def iRng2F (f g : XF) : IF := fun σ => (f σ).bind fun r => (g r.σ).bind fun q => match r.d, q.d with
  | .int i, .int j => if (-(2 ^ 62) ≤ i ∧ i < 2 ^ 62) ∧ (-(2 ^ 62) ≤ j ∧ j < 2 ^ 62) then .ok (rngD i (j - i).toNat, q.σ) else .bad
  | _, _ => .bad
section
variable {X : Cx} {H0 F0 : Hp} {tg e a b : Expr} {f g : XF} {pos p : Pos}
theorem iterR_tup {F : Hp} {ad : Addr} {xs : List V} {ds : List Y} (h : SqT X.K F ad xs) (r : Rps X.K F xs ds) : IterR X.K (Itt X.K ad) F ds where
  stop := fun i H s q => ⟨xs, Same.seqT s h, by rw [r.length]; exact q⟩
  go := fun i d H q s => by
    obtain ⟨v, e1, _⟩ := r.get' q
    exact ⟨xs, v, Same.seqT s h, e1⟩
  yld := fun i d H x H' q s y => by
    obtain ⟨rfl, y⟩ := y
    obtain ⟨v, e1, e2⟩ := r.get' q
    have := y xs (Same.seqT s h)
    rw [e1] at this
    cases this
    exact .inl ⟨rfl, e2⟩
theorem pvi_seq (h : PV X H0 F0 e f) : PVI X H0 F0 tg e (iSeq f) := by
  intro σ ds σ' hd
  obtain ⟨r1, e1, hd⟩ := O.of_bind hd
  split at hd
  · rename_i ds' hr
    cases hd
    refine PI.of (pi_list (h σ r1 e1)) fun σV H Q ⟨F, E, k⟩ => ⟨F, E, fun F1 H1 v E1 s1 q1 => ?_⟩
    obtain ⟨F1', s1', E1', rx⟩ := q1.frozen E1
    rw [hr] at rx
    cases rx with | lst hx xs => ?_
    refine ⟨_, rfl, ⟨_, E1'.fh.seq hx⟩, k _ F1' H1 E1' (s1.trans s1') ?_⟩
    exact ⟨fun i H s q => ⟨_, s.seq hx, by rw [xs.length]; exact q⟩, fun i d H q s => (by obtain ⟨v, e1, _⟩ := xs.get' q; exact ⟨_, v, s.seq hx, e1⟩), fun i d H x H' q s y => by
      obtain ⟨rfl, y⟩ := y
      obtain ⟨v, e1, e2⟩ := xs.get' q
      have := y _ (s.seq hx)
      rw [e1] at this
      cases this
      exact .inl ⟨rfl, e2⟩⟩
  · rename_i ds' hr
    cases hd
    refine PI.of (pi_tup (h σ r1 e1)) fun σV H Q ⟨F, E, k⟩ => ⟨F, E, fun F1 H1 v E1 s1 q1 => ?_⟩
    obtain ⟨F1', s1', E1', rx⟩ := q1.frozen E1
    rw [hr] at rx
    cases rx with | tup hx xs => ?_
    exact ⟨_, rfl, ⟨_, Same.seqT E1'.fh hx⟩, k _ F1' H1 E1' (s1.trans s1') (iterR_tup hx xs)⟩
  · cases hd
theorem iterR_rng {F : Hp} (lo : Int) (n : Nat) : IterR X.K (Itr lo n) F (rngD lo n) where
  stop := fun i H s q => by
    unfold rngD at q
    rw [List.length_map, List.length_range] at q
    exact q
  go := fun i d H q s => by
    have := (List.getElem?_eq_some_iff.mp q).1
    unfold rngD at this
    rw [List.length_map, List.length_range] at this
    exact this
  yld := fun i d H x H' q s y => by
    obtain ⟨rfl, rfl⟩ := y
    unfold rngD at q
    rw [List.getElem?_map] at q
    have hi : i < n := by
      rcases Nat.lt_or_ge i n with h | h
      · exact h
      · rw [List.getElem?_eq_none (by rw [List.length_range]; exact h)] at q; cases q
    rw [List.getElem?_range hi] at q
    cases q
    exact .inl ⟨rfl, .int _⟩
theorem pvi_rng (hg : Gl X "range") (hm : X.mg "range" = none) (h : PV X H0 F0 e f) (he : starEach [e] X.env = [(false, eval e X.env)]) : PVI X H0 F0 tg (.Call (.Name "range" p) [e] [] pos) (iRng f) := by
  intro σ ds σ' hd
  obtain ⟨r1, e1, hd⟩ := O.of_bind hd
  split at hd
  · rename_i j hr
    split at hd
    · rename_i hj
      cases hd
      refine PI.of (pi_range1 hg hm (pa_cons (h σ r1 e1) pa_nil he) (hs := he)) fun σV H Q ⟨F, E, k⟩ => ⟨F, E, fun F1 H1 v E1 s1 q1 => ?_⟩
      obtain ⟨F1', s1', E1', rx⟩ := q1.frozen E1
      rw [hr] at rx
      cases rx
      exact ⟨j, rfl, hj.1, hj.2, k _ F1' H1 E1' (s1.trans s1') (iterR_rng 0 _)⟩
    · cases hd
  · cases hd
theorem pvi_rng2 (hg : Gl X "range") (hm : X.mg "range" = none) (ha : PV X H0 F0 a f) (hb : PV X H0 F0 b g) (he : starEach [a, b] X.env = (false, eval a X.env) :: starEach [b] X.env) (he2 : starEach [b] X.env = [(false, eval b X.env)]) : PVI X H0 F0 tg (.Call (.Name "range" p) [a, b] [] pos) (iRng2F f g) := by
  intro σ ds σ' hd
  obtain ⟨r1, e1, hd⟩ := O.of_bind hd
  obtain ⟨r2, e2, hd⟩ := O.of_bind hd
  split at hd
  · rename_i i j hr1 hr2
    split at hd
    · rename_i hj
      cases hd
      refine PI.of (pi_range2 hg hm (pa_cons (ha σ r1 e1) (pa_cons (hb r1.σ r2 e2) pa_nil he2) he) (hs := by rw [he, he2]) (hs2 := he2)) fun σV H Q ⟨F, E, k⟩ => ⟨F, E, fun F1 H1 v E1 s1 q1 => ?_⟩
      obtain ⟨F1', s1', E1', rx⟩ := q1.frozen E1
      rw [hr1] at rx
      cases rx
      refine ⟨F1', E1', fun F2 H2 u E2 s2 q2 => ?_⟩
      obtain ⟨F2', s2', E2', ry⟩ := q2.frozen E2
      rw [hr2] at ry
      cases ry
      exact ⟨i, j, rfl, ⟨hj.1.1, hj.1.2, hj.2.1, hj.2.2⟩, k _ F2' H2 E2' ((s1.trans s1').trans (s2.trans s2')) (iterR_rng i _)⟩
    · cases hd
  · cases hd
end
abbrev GFn := Y → Ev → O Ev
def tG (K : PySem.W.Frag) (H0 F0 : Hp) (is : List Nat) (d : Y) (σ σ' : Ev) : TG := fun v σV H Q => ∃ F, EnvR K H0 F0 F H σ σV ∧ Rp K F v d ∧ ∀ σV', EnvR K H0 F0 F H σ' σV' → (∀ vs, (∀ i ∈ is, i ∈ vs) → wipe σV' vs = wipe σV vs) → Q σV' H
def PVG (X : Cx) (tg : Expr) (is : List Nat) (f : GFn) : Prop := ∀ (H0 F0 : Hp) d σ σ', f d σ = .ok σ' → PG X tg (tG X.K H0 F0 is d σ σ')
theorem PG.of {X : Cx} {tg : Expr} {t t' : TG} (h : PG X tg t) (w : ∀ v σ H Q, t' v σ H Q → t v σ H Q) : PG X tg t' := fun pins s σ H v u Q I r q => h pins s σ H v u Q I r (w v σ H Q q)
def gNm (i : Nat) : GFn := fun d σ => if i < σ.length then .ok (σ.set i (some (.val, d))) else .bad
theorem wipe_set {σ : St} {i : Nat} {v : Option V} : ∀ {vs : List Nat}, i ∈ vs → wipe (σ.set i v) vs = wipe σ vs
  | [], h => by cases h
  | j :: vs, h => by
    unfold wipe
    by_cases hm : i ∈ vs
    · rw [wipe_set hm]
    · have hj : i = j := by
        rcases List.mem_cons.mp h with e | e
        · exact e
        · exact absurd e hm
      subst hj
      have gen : ∀ (vs : List Nat), i ∉ vs → wipe (σ.set i v) vs = (wipe σ vs).set i v := by
        intro vs
        induction vs with
        | nil => intro _; rfl
        | cons k vs ih =>
          intro hn
          simp only [List.mem_cons, not_or] at hn
          unfold wipe
          rw [ih hn.2, List.set_comm _ _ hn.1]
      rw [gen vs hm, List.set_set]
theorem EnvR.setVal {K : PySem.W.Frag} {H0 F0 F H : Hp} {σ : Ev} {σV : St} (E : EnvR K H0 F0 F H σ σV) {i : Nat} (hi : i < σ.length) {v : V} {d : Y} (r : Rp K F v d) : EnvR K H0 F0 F H (σ.set i (some (.val, d))) (σV.set i (some v)) where
  fh := E.fh
  f0 := E.f0
  h0 := E.h0
  nw := E.nw
  len := by rw [List.length_set, List.length_set]; exact E.len
  sl := fun j s e => by
    have hiV : i < σV.length := by rw [← E.len]; exact hi
    by_cases hj : i = j
    · subst hj
      rw [List.getElem?_set_self hi] at e
      cases e
      exact ⟨_, List.getElem?_set_self hiV, v, rfl, r⟩
    · rw [List.getElem?_set_ne hj] at e
      rw [List.getElem?_set_ne hj]
      exact E.sl j s e
  sep := fun j m s t u jm e1 e2 m1 m2 h1 => by
    have hj : i ≠ j := fun z => by subst z; rw [List.getElem?_set_self hi] at e1; cases e1; cases m1
    have hm : i ≠ m := fun z => by subst z; rw [List.getElem?_set_self hi] at e2; cases e2; cases m2
    rw [List.getElem?_set_ne hj] at e1 h1
    rw [List.getElem?_set_ne hm] at e2
    rw [List.getElem?_set_ne hm]
    exact E.sep j m s t u jm e1 e2 m1 m2 h1
section
variable {X : Cx} {pos : Pos}
theorem pvg_name {i : Nat} {x : Str} (hN : X.N.Nodup) (hi : X.N[i]? = some x) (hx : Loc X.env.scope x) (hf : X.fn x = true ∨ X.env.scope.names.lookup x = some .local) : PVG X (.Name x pos) [i] (gNm i) := by
  intro H0 F0 d σ σ' h
  unfold gNm at h
  split at h
  · rename_i hl
    cases h
    refine PG.of (pg_name (i := i) hN hi hx hf) fun v σV H Q ⟨F, E, r, k⟩ => ?_
    exact k _ (E.setVal hl r) fun vs hv => wipe_set (hv i (List.mem_singleton.mpr rfl))
  · cases h
/-- (a, b) -/
def gTwo (g h : GFn) : GFn := fun d σ => match d with
  | .tuple [x, y] => (g x σ).bind fun σ1 => h y σ1
  | _ => .bad
theorem pvg_two {is js : List Nat} {g h : GFn} {xa xb : Str} {pa pb : Pos} {kk : Nat} (hc : X.calm = true) (hg : PVG X (.Name xa pa) is g) (hh : PVG X (.Name xb pb) js h) : PVG X (.Tuple [.Name xa pa, .Name xb pb] kk pos) (is ++ js) (gTwo g h) := by
  intro H0 F0 d σ σ' hd
  unfold gTwo at hd
  split at hd
  · rename_i x y
    obtain ⟨σ1, e1, e2⟩ := O.of_bind hd
    refine PG.of (pg_tup hc (pgs_cons (hg H0 F0 x σ σ1 e1) (pgs_cons (hh H0 F0 y σ1 σ' e2) pgs_nil))) fun v σV H Q ⟨F, E, r, k⟩ => ?_
    cases r with | tup hx xs => ?_
    cases xs with | cons r1 xs => ?_
    cases xs with | cons r2 xs => ?_
    cases xs
    refine ⟨_, _, rfl, Same.seqT E.fh hx, rfl, _, _, rfl, F, E, r1, fun σV1 E1 w1 => ⟨_, _, rfl, F, E1, r2, fun σV2 E2 w2 => ⟨rfl, k σV2 E2 fun vs hv => ?_⟩⟩⟩
    rw [w2 vs fun i hi => hv i (List.mem_append_right _ hi), w1 vs fun i hi => hv i (List.mem_append_left _ hi)]
  · cases hd
end
end L2.Fs
set_option Elab.async false
set_option linter.all false
set_option maxRecDepth 100000
namespace L2.Fs
open PySem PySem.Spec PyProof.Rows
def sh1 (s : Sl) : Sl := match s with
  | some (.own, d) => some (.loc, d)
  | s => s
def shareE (σ : Ev) : Ev := σ.map sh1
def vl1 (s : Sl) : Sl := match s with
  | some (_, d) => some (.val, d)
  | none => none
def valE (σ : Ev) : Ev := σ.map vl1
def wipeE (σ : Ev) : List Nat → Ev
  | [] => σ
  | v :: vs => (wipeE σ vs).set v none
theorem wipeE_length (σ : Ev) : ∀ vs : List Nat, (wipeE σ vs).length = σ.length
  | [] => rfl
  | v :: vs => by unfold wipeE; rw [List.length_set, wipeE_length σ vs]
theorem wipeE_some {σ : Ev} {i : Nat} {x : Ow × Y} : ∀ {vs : List Nat}, (wipeE σ vs)[i]? = some (some x) → σ[i]? = some (some x) ∧ i ∉ vs
  | [], h => ⟨h, by simp⟩
  | v :: vs, h => by
    unfold wipeE at h
    by_cases hi : v = i
    · subst hi
      by_cases hv : v < (wipeE σ vs).length
      · rw [List.getElem?_set_self hv] at h; cases h
      · rw [List.getElem?_eq_none (by simpa using hv)] at h; cases h
    · rw [List.getElem?_set_ne hi] at h
      obtain ⟨h1, h2⟩ := wipeE_some h
      exact ⟨h1, by simp only [List.mem_cons, not_or]; exact ⟨fun e => hi e.symm, h2⟩⟩
theorem wipe_get {σ : St} {i : Nat} : ∀ {vs : List Nat}, i ∉ vs → (wipe σ vs)[i]? = σ[i]?
  | [], _ => rfl
  | v :: vs, h => by
    simp only [List.mem_cons, not_or] at h
    unfold wipe
    rw [List.getElem?_set_ne (Ne.symm h.1), wipe_get h.2]
theorem wipe_in {σ : St} {i : Nat} : ∀ {vs : List Nat}, i ∈ vs → i < σ.length → (wipe σ vs)[i]? = some none
  | [], h, _ => by cases h
  | v :: vs, h, hl => by
    unfold wipe
    by_cases hv : v = i
    · subst hv; rw [List.getElem?_set_self (by rw [wipe_length]; exact hl)]
    · rw [List.getElem?_set_ne hv]
      exact wipe_in ((List.mem_cons.mp h).resolve_left fun z => hv z.symm) hl
theorem wipe_wipe (σ : St) (vs : List Nat) : wipe (wipe σ vs) vs = wipe σ vs := by
  apply List.ext_getElem?
  intro i
  by_cases hi : i ∈ vs
  · by_cases hl : i < σ.length
    · rw [wipe_in hi (by rw [wipe_length]; exact hl), wipe_in hi hl]
    · rw [List.getElem?_eq_none (by rw [wipe_length, wipe_length]; omega), List.getElem?_eq_none (by rw [wipe_length]; omega)]
  · rw [wipe_get hi]
def NoOwn (σ : Ev) : Prop := ∀ (i : Nat) (d : Y), σ[i]? ≠ some (some (.own, d))
theorem noOwn_share (σ : Ev) : NoOwn (shareE σ) := fun i d h => by
  unfold shareE at h
  rw [List.getElem?_map] at h
  cases hs : σ[i]? with
  | none => rw [hs] at h; cases h
  | some s =>
    rw [hs] at h
    rcases s with _ | ⟨b, e⟩
    · cases h
    · cases b <;> cases h
section
variable {K : PySem.W.Frag} {H0 F0 F H : Hp} {σ : Ev} {σV : St}
open Classical in
theorem EnvR.shareAll (E : EnvR K H0 F0 F H σ σV) : ∃ F', Same F F' ∧ EnvR K H0 F0 F' H (shareE σ) σV := by
  let own (a : Addr) : Prop := ∃ (i : Nat) (d : Y), σ[i]? = some (some (.own, d)) ∧ σV[i]? = some (some (V.ref a))
  let F' : Hp := fun a => match F a with
    | some o => some o
    | none => if own a then H a else none
  have sm : Same F F' := fun a o e => by show (match F a with | some o => some o | none => _) = _; rw [e]
  have new : ∀ a, own a → F a = none ∧ H0 a = none ∧ ∃ (d : Y) (i : Nat), σ[i]? = some (some (Ow.own, d)) ∧ OwnR K H0 F H (.ref a) d := fun a ⟨i, d, h1, h2⟩ => by
    obtain ⟨v, g1, x, rfl, g2⟩ := E.sl i _ h1
    rw [h2] at g1
    cases g1
    obtain ⟨b, e, f1, f2, f3⟩ := id g2
    cases e
    exact ⟨f1, f2, d, i, h1, g2⟩
  have Fo : ∀ a, own a → F' a = H a := fun a ho => by
    show (match F a with | some o => some o | none => if own a then H a else none) = _
    rw [(new a ho).1]
    exact if_pos (c := own a) ho
  have inv : ∀ a o, F' a = some o → F a = some o ∨ (own a ∧ H a = some o) := fun a o e => by
    have e : (match F a with | some o => some o | none => if own a then H a else none) = some o := e
    cases hF : F a with
    | some u => rw [hF] at e; exact .inl e
    | none =>
      rw [hF] at e
      have e : (if own a then H a else none) = some o := e
      by_cases ho : own a
      · rw [if_pos ho] at e; exact .inr ⟨ho, e⟩
      · rw [if_neg ho] at e; cases e
  refine ⟨F', sm, ⟨fun a o e => ?_, E.f0.trans sm, E.h0, fun a o e => ?_, by unfold shareE; rw [List.length_map]; exact E.len, fun i s e => ?_, fun i j s t v ij e1 e2 m1 m2 h1 => ?_⟩⟩
  · rcases inv a o e with q | ⟨_, q⟩
    · exact E.fh a o q
    · exact q
  · rcases inv a o e with q | ⟨q, _⟩
    · exact E.nw a o q
    · exact .inr (new a q).2.1
  · unfold shareE at e
    rw [List.getElem?_map] at e
    cases hs : σ[i]? with
    | none => rw [hs] at e; cases e
    | some s0 =>
      rw [hs] at e
      cases e
      obtain ⟨v, g1, g2⟩ := E.sl i s0 hs
      refine ⟨v, g1, ?_⟩
      rcases s0 with _ | ⟨b, d⟩
      · trivial
      · cases b with
        | val => obtain ⟨x, e1, e2⟩ := g2; exact ⟨x, e1, e2.mono sm⟩
        | loc => obtain ⟨x, e1, e2⟩ := g2; exact ⟨x, e1, e2.mono sm⟩
        | own =>
          obtain ⟨x, e1, e2⟩ := g2
          subst e1
          obtain ⟨a, rfl, f1, f2, f3⟩ := e2
          have ho : own a := ⟨i, d, hs, g1⟩
          refine ⟨_, rfl, a, rfl, ⟨f2, Same.free E.f0 f1⟩, ?_⟩
          rcases f3 with ⟨xs, ds, rfl, q, r⟩ | ⟨xs, ds, rfl, q, r⟩
          · exact .inl ⟨xs, ds, rfl, (Fo a ho).trans q, r.mono sm⟩
          · exact .inr ⟨xs, ds, rfl, (Fo a ho).trans q, r.mono sm⟩
  · have gen : ∀ (q : Nat) (s : Sl), (shareE σ)[q]? = some s → Mine s = true → ∃ s', σ[q]? = some s' ∧ Mine s' = true := fun q s e hm => by
      unfold shareE at e
      rw [List.getElem?_map] at e
      cases hs : σ[q]? with
      | none => rw [hs] at e; cases e
      | some s0 =>
        rw [hs] at e
        cases e
        refine ⟨s0, rfl, ?_⟩
        rcases s0 with _ | ⟨b, d⟩
        · cases hm
        · cases b <;> first | rfl | cases hm
    obtain ⟨s', q1, n1⟩ := gen i s e1 m1
    obtain ⟨t', q2, n2⟩ := gen j t e2 m2
    exact E.sep i j s' t' v ij q1 q2 n1 n2 h1
/-- a block of its own: all that is there stays -/
theorem EnvR.inner (E : EnvR K H0 F0 F H σ σV) (no : NoOwn σ) (vs : List Nat) : EnvR K H F F H (wipeE (valE σ) vs) (wipe σV vs) where
  fh := E.fh
  f0 := Same.refl _
  h0 := Same.refl _
  nw := fun a o e => .inl ⟨o, e⟩
  len := by rw [wipeE_length, wipe_length]; unfold valE; rw [List.length_map]; exact E.len
  sl := fun i s e => by
    have hi : i < (wipe σV vs).length := by
      rw [wipe_length, ← E.len]
      have := (List.getElem?_eq_some_iff.mp e).1
      rw [wipeE_length] at this
      unfold valE at this
      rw [List.length_map] at this
      exact this
    rcases s with _ | ⟨b, d⟩
    · exact ⟨_, List.getElem?_eq_getElem hi, trivial⟩
    · obtain ⟨e', hv⟩ := wipeE_some e
      unfold valE at e'
      rw [List.getElem?_map] at e'
      cases hs : σ[i]? with
      | none => rw [hs] at e'; cases e'
      | some s0 =>
        rw [hs] at e'
        obtain ⟨v, g1, g2⟩ := E.sl i s0 hs
        rw [wipe_get hv]
        refine ⟨v, g1, ?_⟩
        rcases s0 with _ | ⟨b0, d0⟩
        · cases e'
        · cases e'
          cases b0 with
          | val => exact g2
          | loc => obtain ⟨x, e1, e2⟩ := g2; exact ⟨x, e1, e2.rp⟩
          | own => exact absurd hs (no i d)
  sep := fun i j s t v ij e1 e2 m1 m2 => by
    rcases s with _ | ⟨b, d⟩
    · cases m1
    · obtain ⟨e', _⟩ := wipeE_some e1
      unfold valE at e'
      rw [List.getElem?_map] at e'
      cases hs : σ[i]? with
      | none => rw [hs] at e'; cases e'
      | some s0 =>
        rw [hs] at e'
        rcases s0 with _ | ⟨b0, d0⟩
        · cases e'
        · cases e'; cases m1
theorem EnvR.outer {F' H' : Hp} {σ1 : Ev} {σ2 : St} (E : EnvR K H0 F0 F H σ σV) (no : NoOwn σ) (I : EnvR K H F F' H' σ1 σ2) : EnvR K H0 F0 F' H' σ σV where
  fh := I.fh
  f0 := E.f0.trans I.f0
  h0 := E.h0.trans I.h0
  nw := fun a o e => by
    rcases I.nw a o e with ⟨o', q⟩ | q
    · exact E.nw a o' q
    · exact .inr (Same.free E.h0 q)
  len := E.len
  sl := fun i s e => by
    obtain ⟨v, g1, g2⟩ := E.sl i s e
    refine ⟨v, g1, ?_⟩
    rcases s with _ | ⟨b, d⟩
    · trivial
    · cases b with
      | val => obtain ⟨x, e1, e2⟩ := g2; exact ⟨x, e1, e2.mono I.f0⟩
      | loc => obtain ⟨x, e1, e2⟩ := g2; exact ⟨x, e1, e2.mono I.f0⟩
      | own => exact absurd e (no i d)
  sep := E.sep
end
def turnF (tg : GFn) (c : TF) (e : XF) (σi : Ev) (d : Y) : O (Option Y) := (tg d σi).bind fun σa => (c σa).bind fun q => if q.1 then (e q.2).bind fun r => .ok (some r.d) else .ok none
def goF (t : Y → O (Option Y)) : List Y → O (List Y)
  | [] => .ok []
  | d :: ds => (t d).bind fun o => (goF t ds).bind fun r => .ok (o.toList ++ r)
theorem goF_app (t : Y → O (Option Y)) : ∀ {a b x y : List Y}, goF t a = .ok x → goF t b = .ok y → goF t (a ++ b) = .ok (x ++ y)
  | [], b, x, y, h1, h2 => by cases h1; exact h2
  | d :: a, b, x, y, h1, h2 => by
    obtain ⟨o, e1, h1⟩ := O.of_bind h1
    obtain ⟨r, e2, h1⟩ := O.of_bind h1
    cases h1
    show (t d).bind (fun o => (goF t (a ++ b)).bind fun r => .ok (o.toList ++ r)) = _
    rw [e1, O.bind_ok, goF_app t e2 h2, O.bind_ok, List.append_assoc]
theorem goF_at (t : Y → O (Option Y)) : ∀ {ds out : List Y} {i : Nat} {d : Y}, goF t ds = .ok out → ds[i]? = some d → ∃ o, t d = .ok o
  | [], _, _, _, _, h => by simp at h
  | d :: ds, out, 0, e, h1, h2 => by
    simp at h2
    subst h2
    obtain ⟨o, e1, _⟩ := O.of_bind h1
    exact ⟨o, e1⟩
  | d :: ds, out, i + 1, e, h1, h2 => by
    obtain ⟨o, e1, h1⟩ := O.of_bind h1
    obtain ⟨r, e2, h1⟩ := O.of_bind h1
    exact goF_at t e2 (by simpa using h2)
theorem goF_split (t : Y → O (Option Y)) : ∀ {a b out : List Y}, goF t (a ++ b) = .ok out → ∃ x y, goF t a = .ok x ∧ goF t b = .ok y ∧ out = x ++ y
  | [], b, out, h => ⟨[], out, rfl, h, rfl⟩
  | d :: a, b, out, h => by
    have h : (t d).bind (fun o => (goF t (a ++ b)).bind fun r => .ok (o.toList ++ r)) = .ok out := h
    obtain ⟨o, e1, h⟩ := O.of_bind h
    obtain ⟨r, e2, h⟩ := O.of_bind h
    cases h
    obtain ⟨x, y, h1, h2, rfl⟩ := goF_split t e2
    refine ⟨o.toList ++ x, y, ?_, h2, by rw [List.append_assoc]⟩
    show (t d).bind (fun o => (goF t a).bind fun r => .ok (o.toList ++ r)) = _
    rw [e1, O.bind_ok, h1, O.bind_ok]
theorem goF_step {t : Y → O (Option Y)} {ds out : List Y} {i : Nat} {d : Y} {o : Option Y} (h : goF t (ds.take i) = .ok out) (hd : ds[i]? = some d) (ho : t d = .ok o) : goF t (ds.take (i + 1)) = .ok (out ++ o.toList) := by
  rw [List.take_add_one, hd]
  refine goF_app t h ?_
  show (t d).bind _ = _
  rw [ho, O.bind_ok]
  show O.ok (o.toList ++ []) = _
  rw [List.append_nil]
def teX (K : PySem.W.Frag) (Ft : Hp) (e : XF) : TE := fun σV H Q => ∃ H0 F0 σ r, Same Ft F0 ∧ e σ = .ok r ∧ tE K H0 F0 σ r σV H Q
def ttX (K : PySem.W.Frag) (Ft : Hp) (c : TF) : TT := fun σV H Q => ∃ H0 F0 σ b σ', Same Ft F0 ∧ c σ = .ok (b, σ') ∧ tT K H0 F0 σ b σ' σV H Q
def tgX (K : PySem.W.Frag) (is : List Nat) (g : GFn) : TG := fun v σV H Q => ∃ H0 F0 d σ σ', g d σ = .ok σ' ∧ tG K H0 F0 is d σ σ' v σV H Q
def PVTs (X : Cx) (Ft : Hp) (ifs : List Expr) (c : TF) : Prop := ∀ (H0 F0 : Hp) σ b σ', Same Ft F0 → c σ = .ok (b, σ') → PTs X ifs (tT X.K H0 F0 σ b σ')
def tTrue : TF := fun σ => .ok (true, σ)
theorem pvts_nil {X : Cx} {Ft : Hp} : PVTs X Ft [] tTrue := by
  intro H0 F0 σ b σ' _ h
  cases h
  intro pins s σV H Q I ⟨F, E, k⟩
  exact pts_nil pins s σV H Q I (k F H E (Same.refl _))
/-- one turn of a block -/
theorem turn_step {K : PySem.W.Frag} {Ft H0 F0 F H : Hp} {σ : Ev} {σV : St} {tg : GFn} {c : TF} {e : XF} {is vs : List Nat} {d : Y} {o : Option Y} {x : V} {H1 : Hp} (hF : Same Ft F0) (E : EnvR K H0 F0 F H σ σV) (no : NoOwn σ) (his : ∀ i ∈ is, i ∈ vs) (ht : turnF tg c e (wipeE (valE σ) vs) d = .ok o)
    (hy : (H1 = H ∧ Rp K F x d) ∨ ∃ p u, H p = none ∧ H1 = upd H p u ∧ Rp K (upd F p u) x d) {Qy : V → Hp → Prop} {Qn : Hp → Prop}
    (ky : ∀ y F' H' v, o = some y → EnvR K H0 F0 F' H' σ σV → Same F F' → Same H H' → (∀ a u, F' a = some u → (∃ u', F a = some u') ∨ H a = none) → Rp K F' v y → Qy v H')
    (kn : ∀ F' H', o = none → EnvR K H0 F0 F' H' σ σV → Same F F' → Same H H' → (∀ a u, F' a = some u → (∃ u', F a = some u') ∨ H a = none) → Qn H') :
    tgX K is tg x (wipe σV vs) H1 fun σ2 H2 => wipe σ2 vs = wipe σV vs ∧ ttX K Ft c σ2 H2 fun b H3 => if b = true then teX K Ft e σ2 H3 fun y H4 => Qy y H4 else Qn H3 := by
  obtain ⟨σa, e1, ht⟩ := O.of_bind ht
  obtain ⟨⟨b, σb⟩, e2, ht⟩ := O.of_bind ht
  -- the item's own tuple, where there is one
  have start : ∃ F1, Same F F1 ∧ Same H H1 ∧ EnvR K H0 F0 F1 H1 σ σV ∧ Rp K F1 x d ∧ (∀ a u, F1 a = some u → (∃ u', F a = some u') ∨ H a = none) := by
    rcases hy with ⟨rfl, r⟩ | ⟨p, u, hp, rfl, r⟩
    · exact ⟨F, Same.refl _, Same.refl _, E, r, fun a u e => .inl ⟨u, e⟩⟩
    · obtain ⟨E2, s2⟩ := E.laidF u hp
      refine ⟨_, s2, Same.laid (Same.refl _) hp, E2, r, fun a u' e => ?_⟩
      by_cases ha : a = p
      · subst ha; exact .inr hp
      · rw [upd_ne ha] at e; exact .inl ⟨_, e⟩
  obtain ⟨F1, s1, sH, E1, rx, n1⟩ := start
  have nw : ∀ {F' H' : Hp} {σ1 : Ev} {σ2 : St}, EnvR K H1 F1 F' H' σ1 σ2 → ∀ a u, F' a = some u → (∃ u', F a = some u') ∨ H a = none := fun {F' H' σ1 σ2} I a u e => by
    rcases I.nw a u e with ⟨u', q⟩ | q
    · exact n1 a u' q
    · exact .inr (Same.free sH q)
  refine ⟨H1, F1, d, _, σa, e1, F1, E1.inner no vs, rx, fun σV2 E2 w2 => ⟨?_, H1, F1, σa, b, σb, hF.trans (E.f0.trans s1), e2, F1, E2, fun F3 H3 E3 s3 => ?_⟩⟩
  · rw [w2 vs his]
    exact wipe_wipe σV vs
  · cases b with
    | false =>
      cases ht
      exact iteF (kn F3 H3 rfl (E1.outer no E3) (s1.trans s3) (sH.trans E3.h0) (nw E3))
    | true =>
      have ht : ((e σb).bind fun r => O.ok (some r.d)) = .ok o := ht
      obtain ⟨r, e3, ht⟩ := O.of_bind ht
      cases ht
      refine iteT ⟨H1, F1, σb, r, hF.trans (E.f0.trans s1), e3, F3, E3, fun F4 H4 v E4 s4 q4 => ?_⟩
      obtain ⟨F5, s5, E5, r5⟩ := q4.frozen E4
      exact ky r.d F5 H4 v rfl (E1.outer no E5) (s1.trans (s3.trans (s4.trans s5))) (sH.trans E5.h0) (nw E5) r5
end L2.Fs
set_option Elab.async false
set_option linter.all false
set_option maxRecDepth 100000
namespace L2.Fs
open PySem PySem.Spec PyProof.Rows
section
variable {K : PySem.W.Frag} {H0 F0 F H : Hp} {σ : Ev} {σV : St}
/-- what no name holds and nothing stays by is changed -/
theorem EnvR.bump (E : EnvR K H0 F0 F H σ σV) {p : Addr} {o : HO} (hF : F p = none) (h0 : H0 p = none) (no : ∀ (i : Nat) (s : Sl), σ[i]? = some s → Mine s = true → σV[i]? ≠ some (some (.ref p))) : EnvR K H0 F0 F (upd H p o) σ σV where
  fh := fun b u e => by
    rw [upd_ne (ne_of_none e hF)]; exact E.fh b u e
  f0 := E.f0
  h0 := fun b u e => by
    rw [upd_ne (ne_of_none e h0)]; exact E.h0 b u e
  nw := E.nw
  len := E.len
  sl := fun i s e => by
    obtain ⟨v, h1, h2⟩ := E.sl i s e
    refine ⟨v, h1, ?_⟩
    rcases s with _ | ⟨b, d⟩
    · trivial
    · cases b with
      | val => exact h2
      | loc => exact h2
      | own =>
        obtain ⟨x, e1, a, rfl, f1, f2, f3⟩ := h2
        subst e1
        have na : a ≠ p := fun z => no i _ e rfl (by rw [h1, z])
        refine ⟨_, rfl, a, rfl, f1, f2, ?_⟩
        rcases f3 with ⟨xs, ds, e, q, r⟩ | ⟨xs, ds, e, q, r⟩
        · exact .inl ⟨xs, ds, e, by rw [upd_ne na]; exact q, r⟩
        · exact .inr ⟨xs, ds, e, by rw [upd_ne na]; exact q, r⟩
  sep := E.sep
end
def gOut (it : IF) (tg : GFn) (c : TF) (e : XF) (own : List Nat) (σ : Ev) : O (List Y × Ev) := (it σ).bind fun q => if q.1.length ≤ sizeLine then (goF (turnF tg c e (wipeE (valE (shareE q.2)) own)) q.1).bind fun out => .ok (out, shareE q.2) else .bad
def xAllG (it : IF) (tg : GFn) (c : TF) (e : XF) (own : List Nat) : XF := fun σ => (gOut it tg c e own σ).bind fun q => match boolsD q.1 with
  | some bs => .ok ⟨.bool (bs.all id), false, q.2⟩
  | none => .bad
theorem gOut_ok {it : IF} {tg : GFn} {c : TF} {e : XF} {own : List Nat} {σ : Ev} {q : List Y × Ev} (h : gOut it tg c e own σ = .ok q) : ∃ ds σ1, it σ = .ok (ds, σ1) ∧ ds.length ≤ sizeLine ∧ goF (turnF tg c e (wipeE (valE (shareE σ1)) own)) ds = .ok q.1 ∧ q.2 = shareE σ1 := by
  obtain ⟨⟨ds, σ1⟩, e1, h⟩ := O.of_bind h
  split at h
  · rename_i hz
    obtain ⟨out, e2, h⟩ := O.of_bind h
    cases h
    exact ⟨ds, σ1, e1, hz, e2, rfl⟩
  · cases h
/-- the reading of a generator expression: fin: what is wanted behind the last -/
theorem gn_read {K : PySem.W.Frag} {Ft H0 F0 F : Hp} {σ σ1 : Ev} {ds out : List Y} {is vs : List Nat} {tg : GFn} {c : TF} {e : XF} {P : Addr} (hF : Same Ft F0) (hP : F0 P = some (TabO P)) (his : ∀ i ∈ is, i ∈ vs) (hgo : goF (turnF tg c e (wipeE (valE (shareE σ1)) vs)) ds = .ok out)
    {σV : St} {H : Hp} (E : EnvR K H0 F0 F H σ σV) {Post : (Nat → List V → Hp → Prop) → (List V → Hp → Prop) → Prop}
    (hp : ∀ F2, Same F F2 → Post (fun i ys H => ∃ F oi rest, EnvR K H0 F0 F H (shareE σ1) σV ∧ Same F2 F ∧ out = oi ++ rest ∧ Rps K F ys oi) (fun ys H => ∃ F, EnvR K H0 F0 F H (shareE σ1) σV ∧ Same F2 F ∧ Rps K F ys out)) :
    GRead (tI K H0 F0 σ ds σ1) (tgX K is tg) (ttX K Ft c) (teX K Ft e) vs P ds.length (fun W Fin => ∃ W' Fin', Post W' Fin' ∧ (∀ i ys H, W i ys H → W' i ys H) ∧ ∀ ys H, Fin ys H → Fin' ys H) σV H := by
  refine ⟨F, E, fun J F1 H1 E1 s1 it => ?_⟩
  obtain ⟨F2, s2, E2⟩ := E1.shareAll
  have no := noOwn_share σ1
  refine ⟨fun i ys H => i ≤ ds.length ∧ ∃ F oi, EnvR K H0 F0 F H (shareE σ1) σV ∧ Same F2 F ∧ goF (turnF tg c e (wipeE (valE (shareE σ1)) vs)) (ds.take i) = .ok oi ∧ Rps K F ys oi,
    fun ys H => ∃ F, EnvR K H0 F0 F H (shareE σ1) σV ∧ Same F2 F ∧ Rps K F ys out, ⟨_, _, hp F2 (s1.trans s2), ?_, fun ys H h => h⟩, E1.fh _ _ (E1.f0 _ _ hP), ⟨Nat.zero_le _, F2, [], E2, Same.refl _, rfl, .nil⟩, ?_⟩
  · rintro i ys H ⟨hi, F3, oi, E3, s3, g3, r3⟩
    have : goF (turnF tg c e (wipeE (valE (shareE σ1)) vs)) (ds.take i ++ ds.drop i) = .ok out := by rw [List.take_append_drop]; exact hgo
    obtain ⟨x, y, h1, h2, rfl⟩ := goF_split _ this
    rw [g3] at h1
    cases h1
    exact ⟨F3, oi, y, E3, s3, rfl, r3⟩
  · rintro i ys H ⟨hi, F3, oi, E3, s3, g3, r3⟩
    have it3 := it.mono (s2.trans s3)
    by_cases hlt : i < ds.length
    · have hd : ds[i]? = some ds[i] := List.getElem?_eq_getElem hlt
      obtain ⟨o, ho⟩ := goF_at _ hgo hd
      refine .inr ⟨it3.go i _ H hd E3.fh, hlt, fun x H' hy => ?_⟩
      refine turn_step hF E3 no his ho (it3.yld i _ H x H' hd E3.fh hy) (fun y F' H'' v e1 E' sF sH nw rv => ?_) (fun F' H'' e1 E' sF sH nw => ?_)
      · refine ⟨hlt, F', oi ++ [y], E', s3.trans sF, ?_, (r3.mono sF).append (.cons rv .nil)⟩
        have := goF_step g3 hd ho
        rw [e1] at this
        exact this
      · refine ⟨hlt, F', oi, E', s3.trans sF, ?_, r3.mono sF⟩
        have := goF_step g3 hd ho
        rw [e1] at this
        simpa using this
    · have hi' : i = ds.length := by omega
      subst hi'
      refine .inl ⟨it3.stop _ H E3.fh (Nat.le_refl _), F3, E3, s3, ?_⟩
      rw [List.take_length, hgo] at g3
      cases g3
      exact r3
end L2.Fs
set_option Elab.async false
set_option linter.all false
set_option maxRecDepth 100000
namespace L2.Fs
open PySem PySem.Spec PyProof.Rows
theorem boolsD_inv : ∀ {ds : List Y} {bs : List Bool}, boolsD ds = some bs → ds = bs.map PyData.bool
  | [], _, h => by cases h; rfl
  | d :: ds, bs, h => by
    cases d <;> simp only [boolsD] at h <;> try cases h
    rename_i b
    cases hb : boolsD ds with
    | none => rw [hb] at h; cases h
    | some bs' =>
      rw [hb] at h
      cases h
      rw [boolsD_inv hb]
      rfl
theorem rps_bools_inv {K : PySem.W.Frag} {F : Hp} : ∀ {ns : List Bool} {v : List V}, Rps K F v (ns.map PyData.bool) → v = ns.map V.bl
  | [], _, .nil => rfl
  | n :: ns, _, .cons h r => by
    cases h
    rw [rps_bools_inv r]
    rfl
/-- a first part of written truths -/
theorem bools_part {K : PySem.W.Frag} {F : Hp} {bs : List Bool} {oi rest : List Y} {ys : List V} (h : bs.map PyData.bool = oi ++ rest) (r : Rps K F ys oi) : ∃ b1 b2, bs = b1 ++ b2 ∧ ys = b1.map V.bl := by
  obtain ⟨b1, b2, rfl, h1, h2⟩ := List.map_eq_append_iff.mp h
  subst h1
  exact ⟨b1, b2, rfl, rps_bools_inv r⟩
/-- a weaker wish -/
theorem gr_mono {K : PySem.W.Frag} {H0 F0 : Hp} {σ σ1 : Ev} {ds : List Y} {g : TG} {tt : TT} {te : TE} {vs : List Nat} {P : Addr} {n : Nat} {Po Po' : (Nat → List V → Hp → Prop) → (List V → Hp → Prop) → Prop} {σV : St} {H : Hp} (h : GRead (tI K H0 F0 σ ds σ1) g tt te vs P n Po σV H) (w : ∀ W Fin, Po W Fin → Po' W Fin) : GRead (tI K H0 F0 σ ds σ1) g tt te vs P n Po' σV H := by
  obtain ⟨F, E, k⟩ := h
  refine ⟨F, E, fun J F' H' E' s it => ?_⟩
  obtain ⟨W, Fin, h1, h2⟩ := k J F' H' E' s it
  exact ⟨W, Fin, w W Fin h1, h2⟩
/-- what stands around a generator expression, by what its parts are worth -/
structure GnV (X : Cx) (Ft : Hp) (k : Nat) (elt tg iter : Expr) (ifs : List Expr) (scope : Scope) (own : List (Str × Nat)) (is : List Nat) (g : GFn) (c : TF) (e : XF) (cd P bm : Addr) (ob : Obj) : Prop where
  hc : X.calm = true
  hN : X.N.Nodup
  hr : Room (k + 1) X.A
  ok : GnOk X.N X.env.scope scope own
  code : X.env.code = .ref cd
  cb : CodeB X.base cd P
  bm : BM X.base X.mg bm ob
  his : ∀ i ∈ is, i ∈ own.map (·.2)
  hg : ∀ (A : Around) (s : Shared) (H : Hp) (C : Addr) (cl : List (Str × Addr)) (code : Value) (fp : List Addr) (pn : List (Addr × Obj)), Room k A → PVG (gnCx X A s H (genEnv scope cl C code builtinsNs X.env) fp pn) tg is g
  ht : ∀ (A : Around) (s : Shared) (H : Hp) (C : Addr) (cl : List (Str × Addr)) (code : Value) (fp : List Addr) (pn : List (Addr × Obj)), Room k A → PVTs (gnCx X A s H (genEnv scope cl C code builtinsNs X.env) fp pn) Ft ifs c
  he : ∀ (A : Around) (s : Shared) (H : Hp) (C : Addr) (cl : List (Str × Addr)) (code : Value) (fp : List Addr) (pn : List (Addr × Obj)), Room k A → ∀ H0 F0, Same Ft F0 → PV (gnCx X A s H (genEnv scope cl C code builtinsNs X.env) fp pn) H0 F0 elt e
  hs : ∀ x, genFold iter X.env x = pure x
section
variable {X : Cx} {Ft H0 F0 : Hp} {k : Nat} {elt tg iter : Expr} {ifs : List Expr} {scope : Scope} {own : List (Str × Nat)} {is : List Nat} {it : IF} {g : GFn} {c : TF} {e : XF} {cd P bm : Addr} {ob : Obj} {pos gpos p : Pos}
theorem GnV.cx (G : GnV X Ft k elt tg iter ifs scope own is g c e cd P bm ob) {wi : TI} (hi : PI X tg iter wi) : GCx X k elt tg iter ifs scope own wi (tgX X.K is g) (ttX X.K Ft c) (teX X.K Ft e) cd P bm ob :=
  ⟨G.hc, G.hN, G.hr, hi, G.ok, G.code, G.cb, G.bm,
    fun A s H C cl code fp pn hr pins s' σV H' v u Q I r ⟨H0, F0, d, σ, σ', h, t⟩ => G.hg A s H C cl code fp pn hr H0 F0 d σ σ' h pins s' σV H' v u Q I r t,
    fun A s H C cl code fp pn hr pins s' σV H' Q I ⟨H0, F0, σ, b, σ', hf, h, t⟩ => G.ht A s H C cl code fp pn hr H0 F0 σ b σ' hf h pins s' σV H' Q I t,
    fun A s H C cl code fp pn hr pins s' σV H' Q I ⟨H0, F0, σ, r, hf, h, t⟩ => G.he A s H C cl code fp pn hr H0 F0 hf σ r h pins s' σV H' Q I t, G.hs⟩
theorem pv_allG (G : GnV X Ft k elt tg iter ifs scope own is g c e cd P bm ob) (hF : Same Ft F0) (hP : Ft P = some (TabO P)) (hi : PVI X H0 F0 tg iter it) (hgl : Gl X "all") (hm : X.mg "all" = none) :
    PV X H0 F0 (.Call (.Name "all" p) [.GeneratorExp elt [⟨tg, iter, ifs, 0⟩] scope gpos] [] pos) (xAllG it g c e (own.map (·.2))) := by
  intro σ r hr
  obtain ⟨⟨out, σ2⟩, e1, hr⟩ := O.of_bind hr
  obtain ⟨ds, σ1, e2, hz, e3, e4⟩ := gOut_ok e1
  cases e4
  split at hr
  · rename_i bs hb
    cases hr
    have hout : bs.map PyData.bool = out := (boolsD_inv hb).symm
    refine pe_all (G.cx (hi σ ds σ1 e2)) hgl hm boot_all fun σV H Q ⟨F, E, kk⟩ => ⟨ds.length, ?_⟩
    have gr := gn_read (is := is) (vs := own.map (·.2)) hF (hF _ _ hP) G.his e3 E (Post := fun W Fin => (∀ i ys y H, W i (ys ++ [y]) H → ∃ b, y = .bl b) ∧ (∀ ys H, Fin ys H → (∀ y ∈ ys, y = .bl true) → Q (.bl true) H) ∧ ∀ i ys H, W i (ys ++ [.bl false]) H → (∀ y ∈ ys, y = .bl true) → Q (.bl false) H) fun F2 s2 => ⟨?_, ?_, ?_⟩
    · exact gr_mono gr fun W Fin ⟨W', Fin', ⟨h1, h2, h3⟩, h4, h5⟩ => ⟨fun i ys y H h => h1 i ys y H (h4 _ _ _ h), fun ys H h => h2 ys H (h5 _ _ h), fun i ys H h => h3 i ys H (h4 _ _ _ h)⟩
    · rintro i ys y H' ⟨F3, oi, rest, E3, s3, ho, r3⟩
      obtain ⟨b1, b2, _, hy⟩ := bools_part (hout.trans ho) r3
      have hmem : y ∈ b1.map V.bl := by rw [← hy]; exact List.mem_append_right _ (List.mem_singleton.mpr rfl)
      obtain ⟨b, _, rfl⟩ := List.mem_map.mp hmem
      exact ⟨b, rfl⟩
    · rintro ys H' ⟨F3, E3, s3, r3⟩ ha
      rw [← hout] at r3
      have hy := rps_bools_inv r3
      have hall : bs.all id = true := by
        rw [List.all_eq_true]
        intro b hbm
        have := ha (.bl b) (by rw [hy]; exact List.mem_map.mpr ⟨b, hbm, rfl⟩)
        cases this
        rfl
      have := kk F3 H' (.bl true) E3 (s2.trans s3)
      rw [show (⟨.bool (bs.all id), false, shareE σ1⟩ : Rs).d = .bool true from by rw [hall]] at this
      exact this (.bl true)
    · rintro i ys H' ⟨F3, oi, rest, E3, s3, ho, r3⟩ ha
      obtain ⟨b1, b2, hbs, hy⟩ := bools_part (hout.trans ho) r3
      have hmem : V.bl false ∈ b1.map V.bl := by rw [← hy]; exact List.mem_append_right _ (List.mem_singleton.mpr rfl)
      obtain ⟨b, hb1, hbf⟩ := List.mem_map.mp hmem
      cases hbf
      have hall : bs.all id = false := by
        rw [List.all_eq_false]
        exact ⟨false, by rw [hbs]; exact List.mem_append_left _ hb1, by simp⟩
      have := kk F3 H' (.bl false) E3 (s2.trans s3)
      rw [show (⟨.bool (bs.all id), false, shareE σ1⟩ : Rs).d = .bool false from by rw [hall]] at this
      exact this (.bl false)
  · cases hr
end
end L2.Fs
set_option Elab.async false
set_option linter.all false
set_option maxRecDepth 100000
namespace L2.Fs
open PySem PySem.Spec PyProof.Rows
inductive Fl where
  | nx (σ : Ev)
  | rt (d : Y) (fr : Bool)
  | bk (σ : Ev)
  | ct (σ : Ev)
abbrev SF := Ev → O Fl
/-- how a def leaves the heap -/
structure Endd (K : PySem.W.Frag) (H0 F0 F H : Hp) (fr : Bool) (d : Y) (v : V) : Prop where
  fh : Same F H
  f0 : Same F0 F
  h0 : Same H0 H
  nw : ∀ a o, F a = some o → (∃ o', F0 a = some o') ∨ H0 a = none
  res : match fr with
    | false => Rp K F v d
    | true => OwnR K H0 F H v d
def tS (K : PySem.W.Frag) (H0 F0 : Hp) (σ : Ev) (r : Fl) : TS := fun D σV H => ∃ F, EnvR K H0 F0 F H σ σV ∧ match r with
  | .nx σ' => ∀ F' H' σV', EnvR K H0 F0 F' H' σ' σV' → D.nx σV' H'
  | .bk σ' => ∀ F' H' σV', EnvR K H0 F0 F' H' σ' σV' → D.bk σV' H'
  | .ct σ' => ∀ F' H' σV', EnvR K H0 F0 F' H' σ' σV' → D.ct σV' H'
  | .rt d fr => ∀ F' H' v, Endd K H0 F0 F' H' fr d v → D.rt v H'
def PVS (X : Cx) (H0 F0 : Hp) (st : Stmt) (f : SF) : Prop := ∀ σ r, f σ = .ok r → PS X st (tS X.K H0 F0 σ r)
def PVB (X : Cx) (H0 F0 : Hp) (st : List Stmt) (f : SF) : Prop := ∀ σ r, f σ = .ok r → PSs X st (tS X.K H0 F0 σ r)
theorem PS.of {X : Cx} {st : Stmt} {t t' : TS} (h : PS X st t) (w : ∀ D σ H, t' D σ H → t D σ H) : PS X st t' := fun pins s σ H D I q => h pins s σ H D I (w D σ H q)
theorem PSs.of {X : Cx} {st : List Stmt} {t t' : TS} (h : PSs X st t) (w : ∀ D σ H, t' D σ H → t D σ H) : PSs X st t' := fun pins s σ H D I q => h pins s σ H D I (w D σ H q)
def sNil : SF := fun σ => .ok (.nx σ)
def sSeq (f g : SF) : SF := fun σ => (f σ).bind fun r => match r with
  | .nx σ' => g σ'
  | r => .ok r
def sExpr (f : XF) : SF := fun σ => (f σ).bind fun r => .ok (.nx r.σ)
def sSet (i : Nat) (f : XF) : SF := fun σ => (f σ).bind fun r => if i < r.σ.length then .ok (.nx (r.σ.set i (some (if r.fr then .own else .val, r.d)))) else .bad
def sRet (f : XF) : SF := fun σ => (f σ).bind fun r => .ok (.rt r.d r.fr)
def sIf (c : TF) (f g : SF) : SF := fun σ => (c σ).bind fun q => if q.1 then f q.2 else g q.2
def sExc (c : Str) : SF := fun _ => .exc c
section
variable {K : PySem.W.Frag} {H0 F0 F H : Hp} {σ : Ev} {σV : St}
theorem EnvR.setNone (E : EnvR K H0 F0 F H σ σV) (i : Nat) : EnvR K H0 F0 F H (σ.set i none) σV where
  fh := E.fh
  f0 := E.f0
  h0 := E.h0
  nw := E.nw
  len := by rw [List.length_set]; exact E.len
  sl := fun j s e => by
    by_cases hj : i = j
    · subst hj
      have hi : i < σ.length := by have := (List.getElem?_eq_some_iff.mp e).1; rwa [List.length_set] at this
      rw [List.getElem?_set_self hi] at e
      cases e
      exact ⟨_, List.getElem?_eq_getElem (by rw [← E.len]; exact hi), trivial⟩
    · rw [List.getElem?_set_ne hj] at e
      exact E.sl j s e
  sep := fun j m s t v jm e1 e2 m1 m2 h1 => by
    have gen : ∀ (q : Nat) (s : Sl), (σ.set i none)[q]? = some s → Mine s = true → σ[q]? = some s := fun q s e hm => by
      by_cases hq : i = q
      · subst hq
        have hi : i < σ.length := by have := (List.getElem?_eq_some_iff.mp e).1; rwa [List.length_set] at this
        rw [List.getElem?_set_self hi] at e; cases e; cases hm
      · rw [List.getElem?_set_ne hq] at e; exact e
    exact E.sep j m s t v jm (gen j s e1 m1) (gen m t e2 m2) m1 m2 h1
theorem EnvR.setOwn (E : EnvR K H0 F0 F H σ σV) {i : Nat} (hi : i < σ.length) {v : V} {d : Y} (r : ResR K H0 F H σ σV true d v) : EnvR K H0 F0 F H (σ.set i (some (.own, d))) (σV.set i (some v)) where
  fh := E.fh
  f0 := E.f0
  h0 := E.h0
  nw := E.nw
  len := by rw [List.length_set, List.length_set]; exact E.len
  sl := fun j s e => by
    have hiV : i < σV.length := by rw [← E.len]; exact hi
    by_cases hj : i = j
    · subst hj
      rw [List.getElem?_set_self hi] at e
      cases e
      exact ⟨_, List.getElem?_set_self hiV, v, rfl, r.1⟩
    · rw [List.getElem?_set_ne hj] at e
      rw [List.getElem?_set_ne hj]
      exact E.sl j s e
  sep := fun j m s t u jm e1 e2 m1 m2 h1 h2 => by
    have hiV : i < σV.length := by rw [← E.len]; exact hi
    by_cases hj : i = j
    · subst hj
      have hm : i ≠ m := jm
      rw [List.getElem?_set_self hiV] at h1
      cases h1
      rw [List.getElem?_set_ne hm] at e2 h2
      exact r.2 m t e2 m2 h2
    · rw [List.getElem?_set_ne hj] at e1 h1
      by_cases hm : i = m
      · subst hm
        rw [List.getElem?_set_self hiV] at h2
        cases h2
        exact r.2 j s e1 m1 h1
      · rw [List.getElem?_set_ne hm] at e2 h2
        exact E.sep j m s t u jm e1 e2 m1 m2 h1 h2
theorem EnvR.endd (E : EnvR K H0 F0 F H σ σV) {fr : Bool} {d : Y} {v : V} (r : ResR K H0 F H σ σV fr d v) : Endd K H0 F0 F H fr d v := by
  refine ⟨E.fh, E.f0, E.h0, E.nw, ?_⟩
  cases fr with
  | false => exact r
  | true => exact r.1
end
section
variable {X : Cx} {H0 F0 : Hp} {a b e : Expr} {st : Stmt} {ss tt : List Stmt} {f g : XF} {p q : SF} {c : TF} {pos pos' : Pos}
theorem pvb_nil : PVB X H0 F0 [] sNil := by
  intro σ r h
  cases h
  exact PSs.of pss_nil fun D σV H ⟨F, E, k⟩ => k F H σV E
theorem pvb_cons (h1 : PVS X H0 F0 st p) (h2 : PVB X H0 F0 ss q) : PVB X H0 F0 (st :: ss) (sSeq p q) := by
  intro σ r h
  obtain ⟨r1, e1, h⟩ := O.of_bind h
  cases r1 with
  | nx σ' => exact PSs.of (pss_cons (h1 σ _ e1) (h2 σ' r h)) fun D σV H ⟨F, E, k⟩ => ⟨F, E, fun F' H' σV' E' => ⟨F', E', k⟩⟩
  | rt d fr =>
    cases h
    exact PSs.of (pss_cons (h1 σ _ e1) pss_never) fun D σV H ⟨F, E, k⟩ => ⟨F, E, k⟩
  | bk σ' =>
    cases h
    exact PSs.of (pss_cons (h1 σ _ e1) pss_never) fun D σV H ⟨F, E, k⟩ => ⟨F, E, k⟩
  | ct σ' =>
    cases h
    exact PSs.of (pss_cons (h1 σ _ e1) pss_never) fun D σV H ⟨F, E, k⟩ => ⟨F, E, k⟩
theorem pvs_expr (h : PV X H0 F0 e f) (hs : swapsWith e none pos.line X.env = pure false) : PVS X H0 F0 (.Expr e pos) (sExpr f) := by
  intro σ r hr
  obtain ⟨r1, e1, hr⟩ := O.of_bind hr
  cases hr
  exact PS.of (ps_expr (h σ r1 e1) hs) fun D σV H ⟨F, E, k⟩ => ⟨F, E, fun F' H' v E' _ _ => k F' H' σV E'⟩
theorem set_read {i : Nat} {σ : Ev} {r1 : Rs} (hl : i < r1.σ.length) {D : Ends} {σV : St} {H : Hp} (t : tS X.K H0 F0 σ (.nx (r1.σ.set i (some (if r1.fr then .own else .val, r1.d)))) D σV H) : tAsg (tE X.K H0 F0 σ r1) (gName i) D σV H := by
  obtain ⟨F, E, k⟩ := t
  refine ⟨F, E, fun F' H' v E' _ q => ?_⟩
  obtain ⟨d, fr, σ'⟩ := r1
  cases fr with
  | false => exact k F' H' _ (E'.setVal hl q)
  | true => exact k F' H' _ (E'.setOwn hl q)
theorem pvs_set {i : Nat} {x : Str} (hN : X.N.Nodup) (hi : X.N[i]? = some x) (hx : Loc X.env.scope x) (hf : X.fn x = true ∨ X.env.scope.names.lookup x = some .local) (h : PV X H0 F0 e f) (hs : swapsWith e (some (.Name x pos')) pos.line X.env = pure false) :
    PVS X H0 F0 (.Assign [.Name x pos'] e pos) (sSet i f) := by
  intro σ r hr
  obtain ⟨r1, e1, hr⟩ := O.of_bind hr
  split at hr
  · rename_i hl
    cases hr
    exact PS.of (ps_set hN hi hx (h σ r1 e1) hs hf) fun D σV H t => set_read hl t
  · cases hr
theorem pvs_ret (h : PV X H0 F0 e f) : PVS X H0 F0 (.Return (some e) pos) (sRet f) := by
  intro σ r hr
  obtain ⟨r1, e1, hr⟩ := O.of_bind hr
  cases hr
  exact PS.of (ps_ret (h σ r1 e1)) fun D σV H ⟨F, E, k⟩ => ⟨F, E, fun F' H' v E' _ q => k F' H' v (E'.endd q)⟩
theorem pvs_if (hc : PVT X H0 F0 e c) (h1 : PVB X H0 F0 ss p) (h2 : PVB X H0 F0 tt q) : PVS X H0 F0 (.If e ss tt pos) (sIf c p q) := by
  intro σ r hr
  obtain ⟨⟨b, σ1⟩, e1, hr⟩ := O.of_bind hr
  cases b with
  | true => exact PS.of (ps_if (hc σ true σ1 e1) (h1 σ1 r hr) pss_never) fun D σV H ⟨F, E, k⟩ => ⟨F, E, fun F' H' E' _ => iteT ⟨F', E', k⟩⟩
  | false => exact PS.of (ps_if (hc σ false σ1 e1) pss_never (h2 σ1 r hr)) fun D σV H ⟨F, E, k⟩ => ⟨F, E, fun F' H' E' _ => iteF ⟨F', E', k⟩⟩
/-- what is raised is no end of the ok kind -/
theorem pvs_exc {c : Str} : PVS X H0 F0 st (sExc c) := fun σ r hr => by cases hr
end
end L2.Fs
set_option Elab.async false
set_option linter.all false
set_option maxRecDepth 100000
namespace L2.Fs
open PySem PySem.Spec PyProof.Rows
def lv1 (s : Sl) : Sl := match s with
  | some (.loc, d) => some (.val, d)
  | s => s
def lvE (σ : Ev) : Ev := σ.map lv1
def forF (tg : GFn) (b : SF) : List Y → Ev → O Fl
  | [], σ => .ok (.nx σ)
  | d :: ds, σ => (tg d σ).bind fun σ1 => (b σ1).bind fun r => match r with
    | .nx σ2 => forF tg b ds σ2
    | .ct σ2 => forF tg b ds σ2
    | .bk σ2 => .ok (.nx σ2)
    | .rt d fr => .ok (.rt d fr)
def sFor (it : IF) (tg : GFn) (b : SF) : SF := fun σ => (it σ).bind fun q => forF tg b q.1 (lvE q.2)
section
variable {K : PySem.W.Frag} {H0 F0 F H : Hp} {σ : Ev} {σV : St}
theorem EnvR.enter (E : EnvR K H0 F0 F H σ σV) : EnvR K H0 F F H (lvE σ) σV where
  fh := E.fh
  f0 := Same.refl _
  h0 := E.h0
  nw := fun a o e => .inl ⟨o, e⟩
  len := by unfold lvE; rw [List.length_map]; exact E.len
  sl := fun i s e => by
    unfold lvE at e
    rw [List.getElem?_map] at e
    cases hs : σ[i]? with
    | none => rw [hs] at e; cases e
    | some s0 =>
      rw [hs] at e
      cases e
      obtain ⟨v, g1, g2⟩ := E.sl i s0 hs
      refine ⟨v, g1, ?_⟩
      rcases s0 with _ | ⟨b, d⟩
      · trivial
      · cases b with
        | val => exact g2
        | loc => obtain ⟨x, e1, e2⟩ := g2; exact ⟨x, e1, e2.rp⟩
        | own => exact g2
  sep := fun i j s t v ij e1 e2 m1 m2 h1 => by
    have gen : ∀ (q : Nat) (s : Sl), (lvE σ)[q]? = some s → Mine s = true → σ[q]? = some s := fun q s e hm => by
      unfold lvE at e
      rw [List.getElem?_map] at e
      cases hs : σ[q]? with
      | none => rw [hs] at e; cases e
      | some s0 =>
        rw [hs] at e
        cases e
        rcases s0 with _ | ⟨b, d⟩
        · rfl
        · cases b <;> first | rfl | cases hm
    exact E.sep i j s t v ij (gen i s e1 m1) (gen j t e2 m2) m1 m2 h1
theorem EnvR.leave {F1 : Hp} (s : Same F0 F1) (nw : ∀ a o, F1 a = some o → (∃ o', F0 a = some o') ∨ H0 a = none) (E : EnvR K H0 F1 F H σ σV) : EnvR K H0 F0 F H σ σV where
  fh := E.fh
  f0 := s.trans E.f0
  h0 := E.h0
  nw := fun a o e => by
    rcases E.nw a o e with ⟨o', q⟩ | q
    · exact nw a o' q
    · exact .inr q
  len := E.len
  sl := fun i sl e => by
    obtain ⟨v, g1, g2⟩ := E.sl i sl e
    refine ⟨v, g1, ?_⟩
    rcases sl with _ | ⟨b, d⟩
    · trivial
    · cases b with
      | val => exact g2
      | loc =>
        obtain ⟨x, e1, a, e2, ⟨h1, h2⟩, h3⟩ := g2
        exact ⟨x, e1, a, e2, ⟨h1, Same.free s h2⟩, h3⟩
      | own => exact g2
  sep := E.sep
theorem Endd.leave {F1 : Hp} {fr : Bool} {d : Y} {v : V} (s : Same F0 F1) (nw : ∀ a o, F1 a = some o → (∃ o', F0 a = some o') ∨ H0 a = none) (E : Endd K H0 F1 F H fr d v) : Endd K H0 F0 F H fr d v :=
  ⟨E.fh, s.trans E.f0, E.h0, fun a o e => (E.nw a o e).elim (fun ⟨o', q⟩ => nw a o' q) .inr, E.res⟩
end
section
variable {X : Cx} {Ft H0 F0 : Hp} {tg iter e : Expr} {ss : List Stmt} {it : IF} {g : GFn} {b : SF} {c : TF} {is : List Nat} {pos : Pos}
/-- the body of a loop, whatever its turn's data are -/
def tbX (K : PySem.W.Frag) (Ft : Hp) (b : SF) : TS := fun D σV H => ∃ H0 F0 σ r, Same Ft F0 ∧ b σ = .ok r ∧ tS K H0 F0 σ r D σV H
theorem pvs_for (hF : Same Ft F0) (hc : X.calm = true) (hp : PassesOwn (model X.prog X.w) X.A X.env X.xe) (hi : PVI X H0 F0 tg iter it) (hg : PVG X tg is g) (hb : ∀ H0 F0, Same Ft F0 → PVB X H0 F0 ss b) (hs : ∀ x, foldedSetIterable iter X.env x = pure x) :
    PVS X H0 F0 (.For tg iter ss [] pos) (sFor it g b) := by
  intro σ r hr
  obtain ⟨⟨ds, σ1⟩, e1, hr⟩ := O.of_bind hr
  refine PS.of (ps_for (g := tgX X.K is g) (tb := tbX X.K Ft b) hp hc (hi σ ds σ1 e1) (fun pins s' σV H' v u Q I r ⟨H0, F0, d, σ, σ', h, t⟩ => hg H0 F0 d σ σ' h pins s' σV H' v u Q I r t)
    (fun pins s σV H D I ⟨H0, F0, σ, r, hf, h, t⟩ => hb H0 F0 hf σ r h pins s σV H D I t) hs) fun D σV H ⟨F, E, k⟩ => ⟨F, E, fun J F1 H1 E1 s1 itr => ?_⟩
  have hF1 : Same Ft F1 := hF.trans E1.f0
  refine ⟨fun i m σV H => m = ds.length - i ∧ i ≤ ds.length ∧ ∃ F σi, EnvR X.K H0 F1 F H σi σV ∧ forF g b (ds.drop i) σi = .ok r, ⟨ds.length, rfl, Nat.zero_le _, F1, lvE σ1, E1.enter, hr⟩, ?_⟩
  rintro i m σV2 H2 ⟨rfl, hil, F2, σi, E2, hfor⟩
  have it2 := itr.mono E2.f0
  by_cases hlt : i < ds.length
  · have hd : ds[i]? = some ds[i] := List.getElem?_eq_getElem hlt
    rw [List.drop_eq_getElem_cons hlt] at hfor
    obtain ⟨σa, ea, hfor⟩ := O.of_bind hfor
    obtain ⟨rb, eb, hfor⟩ := O.of_bind hfor
    refine .inr ⟨it2.go i _ H2 hd E2.fh, fun σV H => i + 1 ≤ ds.length ∧ ∃ F σi, EnvR X.K H0 F1 F H σi σV ∧ forF g b (ds.drop (i + 1)) σi = .ok r, fun σV' H' ⟨h1, q⟩ => ⟨ds.length - (i + 1), by omega, rfl, h1, q⟩, fun x H' hy => ?_⟩
    have start : ∃ F3, EnvR X.K H0 F1 F3 H' σi σV2 ∧ Rp X.K F3 x ds[i] := by
      rcases it2.yld i _ H2 x H' hd E2.fh hy with ⟨rfl, r⟩ | ⟨p, u, hp, rfl, r⟩
      · exact ⟨F2, E2, r⟩
      · exact ⟨_, (E2.laidF u hp).1, r⟩
    obtain ⟨F3, E3, rx⟩ := start
    refine ⟨H0, F1, ds[i], σi, σa, ea, F3, E3, rx, fun σV3 E4 _ => ⟨H0, F1, σa, rb, hF1, eb, F3, E4, ?_⟩⟩
    cases rb with
    | nx σ2 => exact fun F' H' σV' E' => ⟨hlt, F', σ2, E', hfor⟩
    | ct σ2 => exact fun F' H' σV' E' => ⟨hlt, F', σ2, E', hfor⟩
    | bk σ2 =>
      cases hfor
      exact fun F' H' σV' E' => k F' H' σV' (E'.leave E1.f0 E1.nw)
    | rt d fr =>
      cases hfor
      exact fun F' H' v E' => k F' H' v (E'.leave E1.f0 E1.nw)
  · have hi' : i = ds.length := by omega
    subst hi'
    rw [List.drop_length] at hfor
    cases hfor
    exact .inl ⟨it2.stop _ H2 E2.fh (Nat.le_refl _), k F2 H2 σV2 (E2.leave E1.f0 E1.nw)⟩
def whF (c : TF) (b : SF) : Nat → Ev → O Fl
  | 0, _ => .bad
  | n + 1, σ => (c σ).bind fun q => if q.1 then (b q.2).bind fun r => match r with
      | .nx σ2 => whF c b n σ2
      | .ct σ2 => whF c b n σ2
      | .bk σ2 => .ok (.nx σ2)
      | .rt d fr => .ok (.rt d fr)
    else .ok (.nx q.2)
end
end L2.Fs
set_option Elab.async false
set_option linter.all false
set_option maxRecDepth 100000
namespace L2.Fs
open PySem PySem.Spec PyProof.Rows
/-- a def's promise, by what it is worth: G of its arguments' data -/
def spV (K : PySem.W.Frag) (Ft : Hp) (m : Nat) (G : FL) : Sp := fun vs H Q _ => vs.length = m ∧ ∃ F0 ds z, Same Ft F0 ∧ Same F0 H ∧ Rps K F0 vs ds ∧ G ds = .ok z ∧ ∀ F' H' v, Endd K H F0 F' H' z.2 z.1 v → Q v H'
def runF (n : Nat) (b : SF) : FL := fun ds => (b (ds.map (fun d => some (.val, d)) ++ List.replicate (n - ds.length) none)).bind fun r => match r with
  | .rt d fr => .ok (d, fr)
  | .nx _ => .ok (.none, false)
  | _ => .bad
structure FunV (K : PySem.W.Frag) (x qual : Str) (st : Stmt) (f : Addr) (fd : FuncData) (cdv : Value) : Prop where
  lk : ∃ (oc : Value) (od : Option Addr) (kV doc pm : Value) (an : Option Addr) (ct : Value) (osl : Array (Option Value)),
    fd = PySem.W.fnOf x qual (defArgs st) (defBody st) (defScope st) .none kV doc pm an cdv ct ∧ K.lookup f = some ⟨oc, od, .func fd, osl⟩
  cd : PySem.W.codeIn K cdv qual = true
  kp : PySem.W.keepIn K (.ref f) = true
theorem getElem?_snoc {α : Type} {l r : List α} {i : Nat} {x : α} (h : (l ++ r)[i]? = some x) : l[i]? = some x ∨ (l.length ≤ i ∧ x ∈ r) := by
  by_cases hi : i < l.length
  · rw [List.getElem?_append_left hi] at h; exact .inl h
  · rw [List.getElem?_append_right (Nat.le_of_not_lt hi)] at h
    exact .inr ⟨Nat.le_of_not_lt hi, List.mem_of_getElem? h⟩
theorem EnvR.begin {K : PySem.W.Frag} {F0 H : Hp} {vs : List V} {ds : List Y} {N : List Str} (sm : Same F0 H) (r : Rps K F0 vs ds) (hl : vs.length ≤ N.length) : EnvR K H F0 F0 H (ds.map (fun d => some (Ow.val, d)) ++ List.replicate (N.length - ds.length) none) (start N vs) where
  fh := sm
  f0 := Same.refl _
  h0 := Same.refl _
  nw := fun a o e => .inl ⟨o, e⟩
  len := by
    unfold start
    rw [List.length_append, List.length_append, List.length_map, List.length_map, List.length_replicate, List.length_replicate, r.length]
  sl := fun i s e => by
    have hi : i < (start N vs).length := by
      have := (List.getElem?_eq_some_iff.mp e).1
      unfold start
      rw [List.length_append, List.length_map, List.length_replicate] at this
      rw [List.length_append, List.length_map, List.length_replicate, r.length]
      exact this
    rcases getElem?_snoc e with q | ⟨_, q⟩
    · rw [List.getElem?_map] at q
      cases hd : ds[i]? with
      | none => rw [hd] at q; cases q
      | some d =>
        rw [hd] at q
        cases q
        obtain ⟨v, h1, h2⟩ := r.get' hd
        refine ⟨some v, ?_, v, rfl, h2⟩
        unfold start
        have hlt : i < vs.length := (List.getElem?_eq_some_iff.mp h1).1
        rw [List.getElem?_append_left (by rw [List.length_map]; exact hlt), List.getElem?_map, h1]
        rfl
    · rw [(List.mem_replicate.mp q).2]
      exact ⟨_, List.getElem?_eq_getElem hi, trivial⟩
  sep := fun i j s t v ij e1 e2 m1 m2 => by
    rcases getElem?_snoc e1 with q | ⟨_, q⟩
    · rw [List.getElem?_map] at q
      cases hd : ds[i]? with
      | none => rw [hd] at q; cases q
      | some d => rw [hd] at q; cases q; cases m1
    · rw [(List.mem_replicate.mp q).2] at m1; cases m1
section
variable {P : Program} {w : World} {K : PySem.W.Frag} {mg : Str → Option Value} {base : Heap} {Ft : Hp}
theorem FunV.ok {x qual : Str} {st : Stmt} {f : Addr} {fd : FuncData} {cdv : Value} {N ps : List Str} {k : Nat} {b : SF} (F : FunV K x qual st f fd cdv) (S : FnScope N ps (defScope st))
    (hb : ∀ (A : Around) (outer : List Env) (s : Shared) (H : Hp) (E : XK), Room k (A.deeper (envOfC qual (defScope st) s.heap.objs.size f cdv)) → ∀ H0 F0, Same Ft F0 → PVB (cxOf CX0 P w K mg base N qual (defScope st) f cdv A outer s H E).nox H0 F0 (defBody st) b) :
    FnOk P w K mg base CX0 (k + 1) f fd ps (spV K Ft ps.length (runF N.length b)) := by
  obtain ⟨oc, od, kV, doc, pm, an, ct, osl, rfl, lk⟩ := F.lk
  refine fn_of lk F.cd S (fun vs H Q E h => h.1) fun A outer s H vs Q E hr hsp => ?_
  obtain ⟨hl, F0, ds, z, hFt, hFH, rp, hG, kk⟩ := hsp
  obtain ⟨r, e1, hG⟩ := O.of_bind hG
  have hpl : ps.length ≤ N.length := by have := congrArg List.length S.pre; rw [List.length_take] at this; omega
  refine ⟨tS K H F0 _ r, (hb A outer s H E hr H F0 hFt _ r e1).nox, F0, EnvR.begin (N := N) hFH rp (by rw [hl]; exact hpl), ?_⟩
  cases r with
  | rt d fr =>
    cases hG
    exact fun F' H' v E' => kk F' H' v E'
  | nx σ' =>
    cases hG
    exact fun F' H' σV' E' => kk F' H' .non ⟨E'.fh, E'.f0, E'.h0, E'.nw, .non⟩
  | bk σ' => cases hG
  | ct σ' => cases hG
theorem FunV.binds {x qual : Str} {st : Stmt} {f : Addr} {fd : FuncData} {cdv : Value} {ps : List Str} (F : FunV K x qual st f fd cdv)
    (h : ∀ (kV doc pm : Value) (an : Option Addr) (cdv ct : Value) (us : List Value), us.length = ps.length → bindArgs (PySem.W.fnOf x qual (defArgs st) (defBody st) (defScope st) .none kV doc pm an cdv ct) ⟨us, []⟩ = pure (ps.zip us)) : Binds K fd ps [] := by
  obtain ⟨oc, od, kV, doc, pm, an, ct, osl, rfl, lk⟩ := F.lk
  exact .all (h kV doc pm an cdv ct)
end
theorem EnvR.called {K : PySem.W.Frag} {H0 F0 F H F' H' : Hp} {σ : Ev} {σV : St} {fr : Bool} {d : Y} {v : V} (E : EnvR K H0 F0 F H σ σV) (En : Endd K H F F' H' fr d v) : EnvR K H0 F0 F' H' σ σV ∧ ResR K H0 F' H' σ σV fr d v := by
  have E1 : EnvR K H0 F0 F' H' σ σV := by
    refine ⟨En.fh, E.f0.trans En.f0, E.h0.trans En.h0, fun a o e => ?_, E.len, fun i s e => ?_, E.sep⟩
    · rcases En.nw a o e with ⟨o', q⟩ | q
      · exact E.nw a o' q
      · exact .inr (Same.free E.h0 q)
    · obtain ⟨u, g1, g2⟩ := E.sl i s e
      refine ⟨u, g1, ?_⟩
      rcases s with _ | ⟨b, d⟩
      · trivial
      · cases b with
        | val => obtain ⟨x, e1, e2⟩ := g2; exact ⟨x, e1, e2.mono En.f0⟩
        | loc => obtain ⟨x, e1, e2⟩ := g2; exact ⟨x, e1, e2.mono En.f0⟩
        | own =>
          obtain ⟨x, e1, a, e2, f1, f2, f3⟩ := g2
          have nF : ∀ o, H a = some o → F' a = none := fun o ho => by
            cases q : F' a with
            | none => rfl
            | some o' =>
              rcases En.nw a o' q with ⟨o2, z⟩ | z
              · rw [f1] at z; cases z
              · rw [ho] at z; cases z
          refine ⟨x, e1, a, e2, ?_, f2, ?_⟩
          · rcases f3 with ⟨xs, ds, _, q, _⟩ | ⟨xs, ds, _, q, _⟩ <;> exact nF _ q
          · rcases f3 with ⟨xs, ds, e, q, r⟩ | ⟨xs, ds, e, q, r⟩
            · exact .inl ⟨xs, ds, e, En.h0 _ _ q, r.mono En.f0⟩
            · exact .inr ⟨xs, ds, e, En.h0 _ _ q, r.mono En.f0⟩
  refine ⟨E1, ?_⟩
  have res := En.res
  cases fr with
  | false => exact res
  | true =>
    have res : OwnR K H F' H' v d := res
    obtain ⟨a, rfl, f1, f2, f3⟩ := res
    exact ⟨⟨a, rfl, f1, Same.free E.h0 f2, f3⟩, fun i s h hm => E.fresh f2 i s h hm⟩
section
variable {X : Cx} {Ft H0 F0 : Hp} {k m : Nat} {f : Addr} {fd : FuncData} {ps : List Str} {G : FL} {x : Str} {p pos : Pos} {e : Expr} {es : List Expr} {l : LF}
theorem pv_call (Fn : FnOk X.prog X.w X.K X.mg X.base CX0 k f fd ps (spV X.K Ft m G)) (hF : Same Ft F0) (hr : Room k X.A) (hg : Gl X x) (hm : X.mg x = some (.ref f)) (hk : PySem.W.keepIn X.K (.ref f) = true) (hb : Binds X.K fd ps [])
    (ha : PVL X H0 F0 (e :: es) l) (hlen : (e :: es).length = m) (hdb : (x == ("__debug__" : Str)) = false) (he : starEach (e :: es) X.env = (false, eval e X.env) :: starEach es X.env) (hpl : (backTo pos (starEach es X.env)).any (·.1) = false)
    (hll : ∀ σ ds σ', l σ = .ok (ds, σ') → ds.length = m) :
    PV X H0 F0 (.Call (.Name x p) (e :: es) [] pos) (xCall G l) := by
  intro σ r hr'
  obtain ⟨⟨ds, σ'⟩, e1, hr'⟩ := O.of_bind hr'
  obtain ⟨z, e2, hr'⟩ := O.of_bind hr'
  cases hr'
  refine PE.of (pe_call (ds := []) (dvs := []) Fn hr hg hm hk hb .nil pass0 (ha σ ds σ' e1) hdb he hpl) fun σV H Q ⟨F, E, kk⟩ => ⟨F, E, fun F1 H1 vs E1 s1 r1 => ?_⟩
  refine ⟨by rw [List.append_nil, r1.length]; exact hll σ ds σ' e1, F1, ds, z, hF.trans E1.f0, E1.fh, by rw [List.append_nil]; exact r1, e2, fun F2 H2 v En => ?_⟩
  obtain ⟨E3, r3⟩ := E1.called En
  exact kk F2 H2 v E3 (s1.trans En.f0) r3
/-- the number of arguments -/
theorem lNil_len (σ : Ev) (ds : List Y) (σ' : Ev) (h : lNil σ = .ok (ds, σ')) : ds.length = 0 := by cases h; rfl
theorem lCons_len {f : XF} {l : LF} {n : Nat} (hl : ∀ σ ds σ', l σ = .ok (ds, σ') → ds.length = n) (σ : Ev) (ds : List Y) (σ' : Ev) (h : lCons f l σ = .ok (ds, σ')) : ds.length = n + 1 := by
  obtain ⟨r, e1, h⟩ := O.of_bind h
  obtain ⟨⟨d2, σ2⟩, e2, h⟩ := O.of_bind h
  cases h
  rw [List.length_cons, hl _ _ _ e2]
end
end L2.Fs
set_option Elab.async false
set_option linter.all false
set_option maxRecDepth 100000
namespace L2.Fs
open PySem PySem.Spec PyProof.Rows
mutual
/-- no list or dict within -/
def noL : Y → Bool
  | .list _ => false
  | .dict _ => false
  | .tuple ds => noLs ds
  | _ => true
def noLs : List Y → Bool
  | [] => true
  | d :: ds => noL d && noLs ds
end
def noLv : List (Y × Y) → Bool
  | [] => true
  | (c, d) :: ds => noL c && noL d && noLv ds
/-- of a list or dict: nothing such within -/
def noLi : Y → Bool
  | .list ds => noLs ds
  | .dict ds => noLv ds
  | _ => false
def okS (s : Sl) : Bool := match s with
  | none => true
  | some (.val, d) => noL d
  | some (_, d) => noLi d
def del (F : Hp) (a : Addr) : Hp := fun b => if b = a then none else F b
theorem del_ne {F : Hp} {a b : Addr} (h : b ≠ a) : del F a b = F b := by unfold del; rw [if_neg h]
theorem del_same {F : Hp} {a : Addr} : del F a a = none := by unfold del; rw [if_pos rfl]
def IsM (o : HO) : Prop := (∃ xs, o = .lst xs) ∨ ∃ kvs, o = .dK kvs
section
variable {K : PySem.W.Frag} {F : Hp} {a : Addr} {o : HO}
theorem sqT_del {t : Addr} {xs : List V} (ha : F a = some o) (hm : IsM o) (h : SqT K F t xs) : SqT K (del F a) t xs := by
  have ne : ∀ u, F t = some u → (¬ IsM u) → t ≠ a := fun u e n z => by subst z; rw [ha] at e; cases e; exact n hm
  have n1 : ¬ IsM (.tup xs) := fun z => by rcases z with ⟨_, z⟩ | ⟨_, z⟩ <;> cases z
  rcases h with (h | ⟨ob, h⟩) | h
  · exact .inl (.inl (by rw [del_ne (ne _ h n1)]; exact h))
  · refine .inl (.inr ⟨ob, ?_⟩)
    rw [del_ne (ne _ h fun z => by rcases z with ⟨_, z⟩ | ⟨_, z⟩ <;> cases z)]
    exact h
  · exact .inr h
mutual
theorem Rp.del (ha : F a = some o) (hm : IsM o) : ∀ {v : V} {d : Y}, Rp K F v d → noL d = true → Rp K (del F a) v d
  | _, _, .non, _ => .non
  | _, _, .bl b, _ => .bl b
  | _, _, .int i, _ => .int i
  | _, _, .str x, _ => .str x
  | _, _, .lst h r, c => by simp [noL] at c
  | _, _, .tup h r, c => .tup (sqT_del ha hm h) (Rps.del ha hm r (by simpa [noL] using c))
  | _, _, .dct h r, c => by simp [noL] at c
  | _, _, .exc h r, c => by simp [excY, noL] at c
theorem Rps.del (ha : F a = some o) (hm : IsM o) : ∀ {v : List V} {d : List Y}, Rps K F v d → noLs d = true → Rps K (del F a) v d
  | _, _, .nil, _ => .nil
  | _, _, .cons h r, c => by
    simp only [noLs, Bool.and_eq_true] at c
    exact .cons (Rp.del ha hm h c.1) (Rps.del ha hm r c.2)
end
theorem Rpk.del (ha : F a = some o) (hm : IsM o) : ∀ {v : List (Key × V)} {d : List (Y × Y)}, Rpk K F v d → noLv d = true → Rpk K (del F a) v d
  | _, _, .nil, _ => .nil
  | _, _, .cons h1 h2 r, c => by
    simp only [noLv, Bool.and_eq_true] at c
    exact .cons (Rp.del ha hm h1 c.1.1) (Rp.del ha hm h2 c.1.2) (Rpk.del ha hm r c.2)
end
section
variable {K : PySem.W.Frag} {H0 F0 F H : Hp} {σ : Ev} {σV : St}
/-- what is read by others no more is one's own again -/
theorem EnvR.promote (E : EnvR K H0 F0 F H σ σV) {i : Nat} {d : Y} (hs : σ[i]? = some (some (.loc, d))) (hall : σ.all okS = true) : ∃ F' a, σV[i]? = some (some (.ref a)) ∧ (∃ o, IsM o ∧ F a = some o) ∧ F' = del F a ∧ EnvR K H0 F0 F' H (σ.set i (some (.own, d))) σV := by
  have hi : i < σ.length := (List.getElem?_eq_some_iff.mp hs).1
  have okAll : ∀ (j : Nat) (s : Sl), σ[j]? = some s → okS s = true := fun j s e => List.all_eq_true.mp hall s (List.mem_of_getElem? e)
  obtain ⟨v, h1, x, rfl, a, rfl, ⟨q1, q2⟩, h3⟩ := E.sl i _ hs
  have hio : noLi d = true := okAll i _ hs
  obtain ⟨o, hm, ho⟩ : ∃ o, IsM o ∧ F a = some o := by
    rcases h3 with ⟨xs, ds, _, q, _⟩ | ⟨xs, ds, _, q, _⟩
    · exact ⟨_, .inl ⟨_, rfl⟩, q⟩
    · exact ⟨_, .inr ⟨_, rfl⟩, q⟩
  refine ⟨del F a, a, h1, ⟨o, hm, ho⟩, rfl, ⟨fun b u e => ?_, fun b u e => ?_, E.h0, fun b u e => ?_, by rw [List.length_set]; exact E.len, fun j s e => ?_, fun j m s t w jm e1 e2 m1 m2 => ?_⟩⟩
  · by_cases hb : b = a
    · subst hb; rw [del_same] at e; cases e
    · rw [del_ne hb] at e; exact E.fh b u e
  · rw [del_ne (ne_of_none e q2)]; exact E.f0 b u e
  · by_cases hb : b = a
    · subst hb; rw [del_same] at e; cases e
    · rw [del_ne hb] at e; exact E.nw b u e
  · by_cases hj : i = j
    · subst hj
      rw [List.getElem?_set_self hi] at e
      cases e
      refine ⟨_, h1, _, rfl, a, rfl, del_same, q1, ?_⟩
      rcases h3 with ⟨xs, ds, rfl, q, r⟩ | ⟨xs, ds, rfl, q, r⟩
      · exact .inl ⟨xs, ds, rfl, E.fh _ _ q, Rps.del ho hm r hio⟩
      · exact .inr ⟨xs, ds, rfl, E.fh _ _ q, Rpk.del ho hm r hio⟩
    · rw [List.getElem?_set_ne hj] at e
      obtain ⟨w, g1, g2⟩ := E.sl j s e
      refine ⟨w, g1, ?_⟩
      have hok := okAll j s e
      rcases s with _ | ⟨b, d'⟩
      · trivial
      · cases b with
        | val => obtain ⟨y, e1, e2⟩ := g2; exact ⟨y, e1, Rp.del ho hm e2 hok⟩
        | loc =>
          obtain ⟨y, e1, a', rfl, qq, f3⟩ := g2
          subst e1
          have na : a' ≠ a := fun z => by subst z; exact E.sep i j _ _ _ hj hs e rfl rfl h1 g1
          refine ⟨_, rfl, a', rfl, qq, ?_⟩
          rcases f3 with ⟨xs, ds, rfl, q, r⟩ | ⟨xs, ds, rfl, q, r⟩
          · exact .inl ⟨xs, ds, rfl, by rw [del_ne na]; exact q, Rps.del ho hm r hok⟩
          · exact .inr ⟨xs, ds, rfl, by rw [del_ne na]; exact q, Rpk.del ho hm r hok⟩
        | own =>
          obtain ⟨y, e1, a', rfl, f1, f2, f3⟩ := g2
          refine ⟨_, e1, a', rfl, ?_, f2, ?_⟩
          · unfold del; split <;> first | rfl | exact f1
          · rcases f3 with ⟨xs, ds, rfl, q, r⟩ | ⟨xs, ds, rfl, q, r⟩
            · exact .inl ⟨xs, ds, rfl, q, Rps.del ho hm r hok⟩
            · exact .inr ⟨xs, ds, rfl, q, Rpk.del ho hm r hok⟩
  · have gen : ∀ (q : Nat) (s : Sl), (σ.set i (some (.own, d)))[q]? = some s → Mine s = true → ∃ s', σ[q]? = some s' ∧ Mine s' = true := fun q s e hm => by
      by_cases hq : i = q
      · subst hq; exact ⟨_, hs, rfl⟩
      · rw [List.getElem?_set_ne hq] at e; exact ⟨s, e, hm⟩
    obtain ⟨s', w1, n1⟩ := gen j s e1 m1
    obtain ⟨t', w2, n2⟩ := gen m t e2 m2
    exact E.sep j m s' t' w jm w1 w2 n1 n2
end
/-- return x: what the name has for its own goes out as such -/
def sRetV (i : Nat) : SF := fun σ => match σ[i]? with
  | some (some (.own, d)) => .ok (.rt d true)
  | some (some (.loc, d)) => if σ.all okS then .ok (.rt d true) else .ok (.rt d false)
  | some (some (.val, d)) => .ok (.rt d false)
  | _ => .bad
section
variable {X : Cx} {H0 F0 : Hp} {x : Str} {pos px : Pos}
theorem pvs_retV {i : Nat} (hN : X.N[i]? = some x) (hv : Vis X.env.scope x) (hd : (x == ("__debug__" : Str)) = false) (hcd : (x == ("__classdict__" : Str)) = false) : PVS X H0 F0 (.Return (some (.Name x px)) pos) (sRetV i) := by
  intro σ r hr
  refine PS.of (ps_ret (pe_var hN hv hd hcd)) fun D σV H ⟨F, E, k⟩ => ?_
  unfold sRetV at hr
  split at hr
  · rename_i d hs
    cases hr
    obtain ⟨v, g1, y, rfl, g2⟩ := E.sl i _ hs
    exact ⟨y, g1, k F H y ⟨E.fh, E.f0, E.h0, E.nw, g2⟩⟩
  · rename_i d hs
    split at hr
    · rename_i hall
      cases hr
      obtain ⟨F', a, h1, _, _, E'⟩ := E.promote hs hall
      obtain ⟨v, g1, y, rfl, g2⟩ := E'.sl i _ (List.getElem?_set_self (List.getElem?_eq_some_iff.mp hs).1)
      exact ⟨y, g1, k F' H y ⟨E'.fh, E'.f0, E'.h0, E'.nw, g2⟩⟩
    · cases hr
      obtain ⟨v, g1, y, rfl, g2⟩ := E.sl i _ hs
      exact ⟨y, g1, k F H y ⟨E.fh, E.f0, E.h0, E.nw, g2.rp⟩⟩
  · rename_i d hs
    cases hr
    obtain ⟨v, g1, y, rfl, g2⟩ := E.sl i _ hs
    exact ⟨y, g1, k F H y ⟨E.fh, E.f0, E.h0, E.nw, g2⟩⟩
  · cases hr
end
end L2.Fs
set_option Elab.async false
set_option linter.all false
set_option maxRecDepth 100000
namespace L2.Fs
open PySem PySem.Spec PyProof.Rows
/-- an iterator over the list (false) or the tuple (true) at l, about to tell item k -/
def Wk (b : Bool) (h : Heap) (i l : Addr) (k : Nat) : Prop := match b with
  | true => h.IsTupleIter i l k
  | false => h.IsListIter i l k
def Sq (b : Bool) (h : Heap) (l : Addr) (xs : Array Value) : Prop := match b with
  | true => h.IsTuple l xs
  | false => h.IsList l xs
def wkO (b : Bool) (l : Addr) : Obj := match b with
  | true => { cls := .type "tuple_iterator", data := .fields #[.ref l, .int 0 0] }
  | false => { cls := .type "list_iterator", data := .fields #[.ref l, .int 0 0] }
theorem Wk.at {b : Bool} {h h' : Heap} {i l : Addr} {k : Nat} (x : Wk b h i l k) (e : ∀ o, h.get? i = some o → h'.get? i = some o) : Wk b h' i l k := by
  cases b with
  | true => exact Heap.IsTupleIter.at x e
  | false => exact Heap.IsListIter.at x e
theorem Sq.at {b : Bool} {h h' : Heap} {l : Addr} {xs : Array Value} (x : Sq b h l xs) (e : ∀ o, h.get? l = some o → h'.get? l = some o) : Sq b h' l xs := by
  cases b with
  | true => obtain ⟨o, q, r⟩ := x; exact ⟨o, e _ q, r⟩
  | false => exact Heap.IsList.at x e
theorem Wk.there {b : Bool} {h : Heap} {i l : Addr} {k : Nat} (x : Wk b h i l k) : ∃ o, h.get? i = some o ∧ ∀ v, o.data ≠ .seq v := by
  cases b with
  | true => obtain ⟨o, q, _, d⟩ := x; exact ⟨o, q, fun v z => by rw [d] at z; cases z⟩
  | false => obtain ⟨o, q, _, d⟩ := x; exact ⟨o, q, fun v z => by rw [d] at z; cases z⟩
section
variable {prog : Program} {w : World} {A : Around} {E : Value → Shared → Prop} {s : Shared}
theorem nextW_item {b : Bool} {i l : Addr} {k : Nat} {xs : Array Value} {x : Value} {Q : Value → Shared → Prop} (jw : Wk b s.heap i l k) (js : Sq b s.heap l xs) (jx : xs[k]? = some x)
    (q : ∀ h', Wk b h' i l (k + 1) → Heap.SameBut i s.heap h' → Q x { s with heap := h' }) : wpAny (model prog w) A (Builtin.SmallTypes.nextOf (.ref i)) Q E s := by
  cases b with
  | false => exact wpAny_nextOf_list_item jw js jx q
  | true =>
    have jw : s.heap.IsTupleIter i l k := jw
    obtain ⟨u, e1, c1, d1⟩ := id jw
    obtain ⟨u2, e2, _, n2, d2⟩ := (show s.heap.IsTuple l xs from js)
    unfold Builtin.SmallTypes.nextOf
    refine wpAny_bind (wpAny_callSpecial?_slot (name := Str.ofString "__next__") jw.typeIs F.slot_tuple_iterator_next (wpAny_call_entry F.slot_tuple_iterator_next jw.typeIs F.entry_tuple_iterator_next ?_ (F.args_tuple_iterator_next_1 _)))
    show wpAny _ _ (field (.ref i) 0 >>= _) _ _ s
    refine wpAny_bind (wpAny_field e1 d1 (x := .ref l) rfl ?_)
    show wpAny _ _ (if (Value.ref l == Value.none) = true then _ else _) _ _ s
    rw [if_neg (show ¬ ((Value.ref l == Value.none) = true) from Bool.false_ne_true)]; show wpAny _ _ (field (.ref i) 1 >>= _) _ _ s
    refine wpAny_bind (wpAny_field e1 d1 (x := .int k 0) rfl ?_)
    show wpAny _ _ (seqItems? (.ref l) >>= _) _ _ s; refine wpAny_bind (wpAny_seqItems e2 d2 ?_)
    simp only [Int.toNat_natCast, jx]
    refine wpAny_bind (wpAny_setField e1 d1 (by simp) (wpAny_pure ⟨x, rfl, wpAny_pure (q _ ?_ (Heap.SameBut.update ..))⟩))
    refine ⟨_, Heap.get?_update_self _ e1 (Obj.isFreed_of_fields (Obj.data_mapFields d1 _)), (Obj.cls_mapFields ..).trans c1, ?_⟩
    rw [Obj.data_mapFields d1]; simp [rawInt]
theorem nextW_end {b : Bool} {i l : Addr} {k : Nat} {xs : Array Value} {Q : Value → Shared → Prop} (hh : A.handled = none) (jw : Wk b s.heap i l k) (js : Sq b s.heap l xs) (jx : xs[k]? = none)
    (q : ∀ h' e, Heap.ExtBut i s.heap h' → (∃ o, h'.get? e = some o ∧ o.cls = .type "StopIteration") → E (.ref e) { s with heap := h' }) : wpAny (model prog w) A (Builtin.SmallTypes.nextOf (.ref i)) Q E s := by
  cases b with
  | false => exact wpAny_nextOf_list_end hh jw js jx q
  | true =>
    have jw : s.heap.IsTupleIter i l k := jw
    obtain ⟨u, e1, c1, d1⟩ := id jw
    obtain ⟨u2, e2, _, n2, d2⟩ := (show s.heap.IsTuple l xs from js)
    unfold Builtin.SmallTypes.nextOf
    refine wpAny_bind (wpAny_callSpecial?_slot (name := Str.ofString "__next__") jw.typeIs F.slot_tuple_iterator_next (wpAny_call_entry F.slot_tuple_iterator_next jw.typeIs F.entry_tuple_iterator_next ?_ (F.args_tuple_iterator_next_1 _)))
    show wpAny _ _ (field (.ref i) 0 >>= _) _ _ s
    refine wpAny_bind (wpAny_field e1 d1 (x := .ref l) rfl ?_)
    show wpAny _ _ (if (Value.ref l == Value.none) = true then _ else _) _ _ s
    rw [if_neg (show ¬ ((Value.ref l == Value.none) = true) from Bool.false_ne_true)]; show wpAny _ _ (field (.ref i) 1 >>= _) _ _ s
    refine wpAny_bind (wpAny_field e1 d1 (x := .int k 0) rfl ?_)
    show wpAny _ _ (seqItems? (.ref l) >>= _) _ _ s; refine wpAny_bind (wpAny_seqItems e2 d2 ?_)
    simp only [Int.toNat_natCast, jx]
    refine wpAny_bind (wpAny_rule (wpAny_bind (wpAny_setField e1 d1 (by simp) ?_)))
    show wpAny _ _ (newExc (.type "StopIteration") [] >>= _) _ _ _; refine wpAny_bind ?_
    simp only [newExc, newTuple]; refine wpAny_bind (wpAny_newObj_type ?_ (by size_fits))
    refine wpAny_bind (m := firstArgMember _ _) (wpAny_of_eq (a := Value.none) (by first | rfl | (simp only [firstArgMember]; rfl)) ?_); refine wpAny_newObj_type ?_ (by size_fits)
    simp only [raiseNew]; refine wpAny_bind (wpAny_handled ?_)
    first | rw [show A.in1.handled = none from hh] | rw [hh]
    refine wpAny_bind (wpAny_pure (wpAny_throw ?_)); exact q _ _ (((Heap.SameBut.update ..).extBut.push _).push _) ⟨_, Heap.get?_push_size _ rfl, rfl⟩
theorem iterW {b : Bool} {l : Addr} {xs : Array Value} {Q : Value → Shared → Prop} (js : Sq b s.heap l xs) (q : Q (.ref s.heap.objs.size) { s with heap := s.heap.push (wkO b l) }) : wpAny (model prog w) A (pyIter (.ref l)) Q E s := by
  cases b with
  | true => exact wpAny_pyIter_tuple js q
  | false => exact wpAny_pyIter_list js q
theorem wkO_wk (b : Bool) (h : Heap) (i l : Addr) (e : h.get? i = some (wkO b l)) : Wk b h i l 0 := by
  cases b with
  | true => exact ⟨_, e, rfl, rfl⟩
  | false => exact ⟨_, e, rfl, rfl⟩
theorem wkO_free (b : Bool) (l : Addr) : (wkO b l).isFreed = false := by cases b <;> rfl
variable {z TI TO i1 i2 l1 l2 : Addr} {k1 k2 : Nat} {xs ys : Array Value} {x y a b : Value} {b1 b2 : Bool}
/-- the zip object's own step, up to where it asks its parts -/
theorem zipW_item {Q : Value → Shared → Prop} (D : ZipApart z TI TO i1 i2 l1 l2) (jz : IsZip s.heap z TI TO .none) (jI : IsPair s.heap TI (.ref i1) (.ref i2)) (jO : IsPair s.heap TO a b)
    (w1 : Wk b1 s.heap i1 l1 k1) (w2 : Wk b2 s.heap i2 l2 k2) (q1 : Sq b1 s.heap l1 xs) (q2 : Sq b2 s.heap l2 ys) (hx : xs[k1]? = some x) (hy : ys[k2]? = some y)
    (hQ : ∀ h', IsZip h' z TI TO (rawInt s.heap.objs.size) → IsPair h' TO x y → Wk b1 h' i1 l1 (k1 + 1) → Wk b2 h' i2 l2 (k2 + 1) → IsPair h' s.heap.objs.size x y → h'.objs.size = s.heap.objs.size + 1 →
      (∀ c o, c ≠ z → c ≠ TO → c ≠ i1 → c ≠ i2 → s.heap.get? c = some o → h'.get? c = some o) → Q (.ref s.heap.objs.size) { s with heap := h' }) :
    wpAny (model prog w) A (Builtin.«zip.__next__» ⟨[.ref z], []⟩) (fun fin s' => ∃ v, fin = .done (.ret v) ∧ Q v s') E s := by
  show wpAny _ _ (field (.ref z) 2 >>= _) _ _ _; refine wpAny_bind (wpAny_field jz rfl (x := .bool false) rfl ?_)
  show wpAny _ _ (field (.ref z) 3 >>= _) _ _ _; refine wpAny_bind (wpAny_field jz rfl (x := .ref TI) rfl ?_)
  refine wpAny_bind (wpAny_seqItems jI rfl ?_)
  show wpAny _ _ (Builtin.SmallTypes.ownedTupleIsFree (.ref z) >>= _) _ _ _; refine wpAny_bind ?_
  unfold Builtin.SmallTypes.ownedTupleIsFree; refine wpAny_bind (wpAny_field jz rfl (x := .none) rfl (wpAny_pure ?_)); simp only [if_true]
  refine wpAny_bind (wpAny_rule ?_); refine wpAny_bind (wpAny_field jz rfl (x := .ref TO) rfl ?_)
  refine wpAny_bind (wpAny_setField_rec jz (by simp) fun g1 jz1 t1 => ?_)
  replace jz1 : IsZip g1 z TI TO .ellipsis := jz1
  refine wpAny_bind ?_; simp only [List.zipIdx_cons, List.zipIdx_nil, List.forIn_cons, List.forIn_nil]
  have mv1 : ∀ c o, c ≠ z → s.heap.get? c = some o → g1.get? c = some o := fun c o hc e => t1.extBut _ _ hc e
  refine wpAny_bind (wpAny_bind (wpAny_onRaise ?_)); show wpAny _ _ (Builtin.SmallTypes.nextOf (.ref i1) >>= _) _ _ _
  refine wpAny_bind (nextW_item (s := { s with heap := g1 }) (w1.at fun o e => mv1 _ o D.i1z e) (q1.at fun o e => mv1 _ o D.l1z e) hx fun g2 w12 t2 => wpAny_pure ?_)
  have mv2 : ∀ c o, c ≠ z → c ≠ i1 → s.heap.get? c = some o → g2.get? c = some o := fun c o hc hd e => t2.extBut _ _ hd (mv1 c o hc e)
  have jO2 : IsPair g2 TO a b := mv2 _ _ D.TOz D.TOi1 jO
  refine wpAny_bind (wpAny_seqItems jO2 rfl ?_); refine wpAny_bind (wpAny_updateSeq_pair jO2 fun g3 jO3 t3 => ?_)
  replace jO3 : IsPair g3 TO x b := jO3
  have mv3 : ∀ c o, c ≠ z → c ≠ i1 → c ≠ TO → s.heap.get? c = some o → g3.get? c = some o := fun c o hc hd hf e => t3.extBut _ _ hf (mv2 c o hc hd e)
  refine wpAny_bind (wpAny_letGo (wpAny_pure ?_)); refine wpAny_bind (wpAny_bind (wpAny_onRaise ?_))
  show wpAny _ _ (Builtin.SmallTypes.nextOf (.ref i2) >>= _) _ _ _
  refine wpAny_bind (nextW_item (s := { s with heap := g3 }) (w2.at fun o e => mv3 _ o D.i2z D.i12.symm D.TOi2.symm e) (q2.at fun o e => mv3 _ o D.l2z D.l2i1 D.l2TO e) hy fun g4 w24 t4 => wpAny_pure ?_)
  have jO4 : IsPair g4 TO x b := t4.extBut _ _ D.TOi2 jO3
  refine wpAny_bind (wpAny_seqItems jO4 rfl ?_); refine wpAny_bind (wpAny_updateSeq_pair jO4 fun g5 jO5 t5 => ?_)
  replace jO5 : IsPair g5 TO x y := jO5
  refine wpAny_bind (wpAny_letGo (wpAny_pure (wpAny_pure ?_))); refine wpAny_bind (wpAny_seqItems jO5 rfl ?_); refine wpAny_bind (wpAny_newTuple ?_)
  have e5 : g5.objs.size = s.heap.objs.size := by rw [t5.1, t4.1, t3.1, t2.1, t1.1]
  have mv5 : ∀ c o, c ≠ z → c ≠ TO → c ≠ i1 → c ≠ i2 → s.heap.get? c = some o → g5.get? c = some o := fun c o c1 c2 c3 c4 e => t5.extBut _ _ c2 (t4.extBut _ _ c4 (mv3 c o c1 c3 c2 e))
  have jz5 : IsZip g5 z TI TO .ellipsis := t5.extBut _ _ D.TOz.symm (t4.extBut _ _ D.i2z.symm (t3.extBut _ _ D.TOz.symm (t2.extBut _ _ D.i1z.symm jz1)))
  have w15 : Wk b1 g5 i1 l1 (k1 + 1) := w12.at fun o e => t5.extBut _ _ D.TOi1.symm (t4.extBut _ _ D.i12 (t3.extBut _ _ D.TOi1.symm e))
  have w25 : Wk b2 g5 i2 l2 (k2 + 1) := w24.at fun o e => t5.extBut _ _ D.TOi2.symm e
  have lz : z < g5.objs.size := Heap.lt_size jz5
  show wpAny _ _ (Builtin.SmallTypes.ownedTupleHandOut (.ref z) (.ref g5.objs.size) >>= _) _ _ _; refine wpAny_bind ?_
  unfold Builtin.SmallTypes.ownedTupleHandOut
  have jz6 : IsZip (g5.push { cls := .type "tuple", data := .seq #[x, y] }) z TI TO .ellipsis := Heap.get?_push_of_some _ jz5
  refine wpAny_bind (wpAny_setField_rec jz6 (by simp) fun g7 jz7 t7 => ?_)
  replace jz7 : IsZip g7 z TI TO (rawInt g5.objs.size) := jz7
  refine wpAny_setField_rec jz7 (by simp) fun g8 jz8 t8 => ?_
  replace jz8 : IsZip g8 z TI TO (rawInt g5.objs.size) := jz8
  have up : ∀ c o, c ≠ z → g5.get? c = some o → g8.get? c = some o := fun c o c1 e => t8.extBut _ _ c1 (t7.extBut _ _ c1 (Heap.get?_push_of_some _ e))
  have jT : IsPair g8 g5.objs.size x y := t8.extBut _ _ (Nat.ne_of_gt lz) (t7.extBut _ _ (Nat.ne_of_gt lz) (Heap.get?_push_size _ rfl))
  have e8 : g8.objs.size = g5.objs.size + 1 := by rw [t8.1, t7.1, Heap.size_push]
  rw [e5] at jz8 jT e8
  refine wpAny_pure ⟨_, rfl, ?_⟩; show Q (.ref g5.objs.size) _; rw [e5]
  exact hQ g8 jz8 (up _ _ D.TOz jO5) (w15.at fun o e => up _ o D.i1z e) (w25.at fun o e => up _ o D.i2z e) jT e8 fun c o c1 c2 c3 c4 e => up c o c1 (mv5 c o c1 c2 c3 c4 e)
theorem zipW_end {Q : Fin → Shared → Prop} (hh : A.handled = none) (D : ZipApart z TI TO i1 i2 l1 l2) (jz : IsZip s.heap z TI TO .none) (jI : IsPair s.heap TI (.ref i1) (.ref i2)) (jO : IsPair s.heap TO a b)
    (w1 : Wk b1 s.heap i1 l1 k1) (w2 : Wk b2 s.heap i2 l2 k2) (q1 : Sq b1 s.heap l1 xs) (q2 : Sq b2 s.heap l2 ys) (hend : xs[k1]? = none ∨ ys[k2]? = none)
    (hE : ∀ h' e, (∀ c o, c ≠ z → c ≠ TO → c ≠ i1 → c ≠ i2 → s.heap.get? c = some o → h'.get? c = some o) → (∃ o, h'.get? e = some o ∧ o.cls = .type "StopIteration") → E (.ref e) { s with heap := h' }) :
    wpAny (model prog w) A (Builtin.«zip.__next__» ⟨[.ref z], []⟩) Q E s := by
  show wpAny _ _ (field (.ref z) 2 >>= _) _ _ _; refine wpAny_bind (wpAny_field jz rfl (x := .bool false) rfl ?_)
  show wpAny _ _ (field (.ref z) 3 >>= _) _ _ _; refine wpAny_bind (wpAny_field jz rfl (x := .ref TI) rfl ?_)
  refine wpAny_bind (wpAny_seqItems jI rfl ?_)
  show wpAny _ _ (Builtin.SmallTypes.ownedTupleIsFree (.ref z) >>= _) _ _ _; refine wpAny_bind ?_
  unfold Builtin.SmallTypes.ownedTupleIsFree; refine wpAny_bind (wpAny_field jz rfl (x := .none) rfl (wpAny_pure ?_)); simp only [if_true]
  refine wpAny_bind (wpAny_rule ?_); refine wpAny_bind (wpAny_field jz rfl (x := .ref TO) rfl ?_)
  refine wpAny_bind (wpAny_setField_rec jz (by simp) fun g1 jz1 t1 => ?_)
  replace jz1 : IsZip g1 z TI TO .ellipsis := jz1
  refine wpAny_bind ?_; simp only [List.zipIdx_cons, List.zipIdx_nil, List.forIn_cons, List.forIn_nil]
  have mv1 : ∀ c o, c ≠ z → s.heap.get? c = some o → g1.get? c = some o := fun c o hc e => t1.extBut _ _ hc e
  refine wpAny_bind (wpAny_bind (wpAny_onRaise ?_)); show wpAny _ _ (Builtin.SmallTypes.nextOf (.ref i1) >>= _) _ _ _
  cases hx : xs[k1]? with
  | none =>
    refine wpAny_bind (nextW_end (s := { s with heap := g1 }) hh (w1.at fun o e => mv1 _ o D.i1z e) (q1.at fun o e => mv1 _ o D.l1z e) hx fun g2 e t2 he => ?_)
    obtain ⟨oe, f1, f2⟩ := he
    have jz2 : IsZip g2 z TI TO .ellipsis := t2 _ _ D.i1z.symm jz1
    have ne : e ≠ z := fun q => by subst q; rw [jz2] at f1; cases f1; simp at f2
    refine wpAny_setField_rec jz2 (by simp) fun g3 _ t3 => hE g3 e (fun c o c1 _ c3 _ q => t3.extBut _ _ c1 (t2 _ _ c3 (mv1 c o c1 q))) ⟨oe, t3.extBut _ _ ne f1, f2⟩
  | some x =>
    have hy : ys[k2]? = none := by
      rcases hend with q | q
      · rw [hx] at q; cases q
      · exact q
    refine wpAny_bind (nextW_item (s := { s with heap := g1 }) (w1.at fun o e => mv1 _ o D.i1z e) (q1.at fun o e => mv1 _ o D.l1z e) hx fun g2 w12 t2 => wpAny_pure ?_)
    have mv2 : ∀ c o, c ≠ z → c ≠ i1 → s.heap.get? c = some o → g2.get? c = some o := fun c o hc hd e => t2.extBut _ _ hd (mv1 c o hc e)
    have jO2 : IsPair g2 TO a b := mv2 _ _ D.TOz D.TOi1 jO
    refine wpAny_bind (wpAny_seqItems jO2 rfl ?_); refine wpAny_bind (wpAny_updateSeq_pair jO2 fun g3 jO3 t3 => ?_)
    have mv3 : ∀ c o, c ≠ z → c ≠ i1 → c ≠ TO → s.heap.get? c = some o → g3.get? c = some o := fun c o hc hd hf e => t3.extBut _ _ hf (mv2 c o hc hd e)
    refine wpAny_bind (wpAny_letGo (wpAny_pure ?_)); refine wpAny_bind (wpAny_bind (wpAny_onRaise ?_))
    show wpAny _ _ (Builtin.SmallTypes.nextOf (.ref i2) >>= _) _ _ _
    refine wpAny_bind (nextW_end (s := { s with heap := g3 }) hh (w2.at fun o e => mv3 _ o D.i2z D.i12.symm D.TOi2.symm e) (q2.at fun o e => mv3 _ o D.l2z D.l2i1 D.l2TO e) hy fun g4 e t4 he => ?_)
    obtain ⟨oe, f1, f2⟩ := he
    have jz4 : IsZip g4 z TI TO .ellipsis := t4 _ _ D.i2z.symm (t3.extBut _ _ D.TOz.symm (t2.extBut _ _ D.i1z.symm jz1))
    have ne : e ≠ z := fun q => by subst q; rw [jz4] at f1; cases f1; simp at f2
    refine wpAny_setField_rec jz4 (by simp) fun g5 _ t5 => hE g5 e (fun c o c1 c2 c3 c4 q => t5.extBut _ _ c1 (t4 _ _ c4 (mv3 c o c1 c3 c2 q))) ⟨oe, t5.extBut _ _ ne f1, f2⟩
theorem zipW_next {Q : Option Value → Shared → Prop} (D : ZipApart z TI TO i1 i2 l1 l2) (jz : IsZip s.heap z TI TO .none) (jI : IsPair s.heap TI (.ref i1) (.ref i2)) (jO : IsPair s.heap TO a b)
    (w1 : Wk b1 s.heap i1 l1 k1) (w2 : Wk b2 s.heap i2 l2 k2) (q1 : Sq b1 s.heap l1 xs) (q2 : Sq b2 s.heap l2 ys) (hx : xs[k1]? = some x) (hy : ys[k2]? = some y)
    (hQ : ∀ h', IsZip h' z TI TO (rawInt s.heap.objs.size) → IsPair h' TO x y → Wk b1 h' i1 l1 (k1 + 1) → Wk b2 h' i2 l2 (k2 + 1) → IsPair h' s.heap.objs.size x y → h'.objs.size = s.heap.objs.size + 1 →
      (∀ c o, c ≠ z → c ≠ TO → c ≠ i1 → c ≠ i2 → s.heap.get? c = some o → h'.get? c = some o) → Q (some (.ref s.heap.objs.size)) { s with heap := h' }) : wpAny (model prog w) A (pyNext (.ref z)) Q E s := by
  have ty : s.TypeIs (.ref z) "zip" := ⟨_, jz, rfl⟩
  unfold pyNext
  exact wpAny_bind (wpAny_attempt (wpAny_callSpecial?_slot (name := Str.ofString "__next__") ty F.slot_zip_next (wpAny_call_entry F.slot_zip_next ty F.entry_zip_next (zipW_item D jz jI jO w1 w2 q1 q2 hx hy fun h' a1 a2 a3 a4 a5 a6 a7 => wpAny_pure (hQ h' a1 a2 a3 a4 a5 a6 a7)) (F.args_zip_next_1 _))))
theorem zipW_stop {Q : Option Value → Shared → Prop} (hh : A.handled = none) (D : ZipApart z TI TO i1 i2 l1 l2) (jz : IsZip s.heap z TI TO .none) (jI : IsPair s.heap TI (.ref i1) (.ref i2)) (jO : IsPair s.heap TO a b)
    (w1 : Wk b1 s.heap i1 l1 k1) (w2 : Wk b2 s.heap i2 l2 k2) (q1 : Sq b1 s.heap l1 xs) (q2 : Sq b2 s.heap l2 ys) (hend : xs[k1]? = none ∨ ys[k2]? = none)
    (hQ : ∀ h', (∀ c o, c ≠ z → c ≠ TO → c ≠ i1 → c ≠ i2 → s.heap.get? c = some o → h'.get? c = some o) → Q none { s with heap := h' }) : wpAny (model prog w) A (pyNext (.ref z)) Q E s := by
  have ty : s.TypeIs (.ref z) "zip" := ⟨_, jz, rfl⟩
  unfold pyNext
  refine wpAny_bind (wpAny_attempt (wpAny_callSpecial?_slot (name := Str.ofString "__next__") ty F.slot_zip_next (wpAny_call_entry F.slot_zip_next ty F.entry_zip_next (zipW_end hh D jz jI jO w1 w2 q1 q2 hend fun h' e hk he => ?_) (F.args_zip_next_1 _))))
  obtain ⟨o, ho, hc⟩ := he
  exact wpAny_bind (wpAny_isInstance (T := "StopIteration") (b := true) ⟨o, ho, hc⟩ isSubtype_stop (wpAny_pure (hQ _ hk)))
abbrev zW1 (h : Heap) (b1 : Bool) (l1 : Addr) : Heap := h.push (wkO b1 l1)
abbrev zW2 (h : Heap) (b1 b2 : Bool) (l1 l2 : Addr) : Heap := (zW1 h b1 l1).push (wkO b2 l2)
abbrev zW3 (h : Heap) (b1 b2 : Bool) (l1 l2 : Addr) : Heap := (zW2 h b1 b2 l1 l2).push { cls := .type "tuple", data := .seq #[.ref h.objs.size, .ref (zW1 h b1 l1).objs.size] }
abbrev zW4 (h : Heap) (b1 b2 : Bool) (l1 l2 : Addr) : Heap := (zW3 h b1 b2 l1 l2).push { cls := .type "tuple", data := .seq #[.none, .none] }
abbrev zW5 (h : Heap) (b1 b2 : Bool) (l1 l2 : Addr) : Heap := (zW4 h b1 b2 l1 l2).push { cls := .type "zip", data := .fields #[.none, .bool false, .bool false, .ref (zW2 h b1 b2 l1 l2).objs.size, .ref (zW3 h b1 b2 l1 l2).objs.size] }
theorem zipW_meets (b1 b2 : Bool) (l1 l2 : Addr) (xs ys : Array Value) : Meets (Builtin.«zip.__new__» ⟨[.type "zip", .ref l1, .ref l2], []⟩) (fun _ R s => Sq b1 s.heap l1 xs ∧ Sq b2 s.heap l2 ys ∧ R (.ok (.ret (.ref (zW4 s.heap b1 b2 l1 l2).objs.size))) { s with heap := zW5 s.heap b1 b2 l1 l2 }) :=
  .of_wp fun prog w A R s h => by
    obtain ⟨hp, g, d, tk, os⟩ := s; obtain ⟨q1, q2, h⟩ := h
    have hsub := sub_zip
    have j1 : Sq b1 (Shared.heap ⟨hp, g, d, tk, os⟩) l1 xs := q1
    have j2 : Sq b2 (Shared.heap ⟨hp.push (wkO b1 l1), g, d, tk, os⟩) l2 ys := Sq.at q2 fun o e => Heap.get?_push_of_some _ e
    wp_walk using iterW j1, iterW j2
    exact ⟨_, rfl, h⟩
theorem zipW_call {Q : Value → Shared → Prop} (q1 : Sq b1 s.heap l1 xs) (q2 : Sq b2 s.heap l2 ys)
    (h : ∀ h', IsZip h' (s.heap.objs.size + 4) (s.heap.objs.size + 2) (s.heap.objs.size + 3) .none → IsPair h' (s.heap.objs.size + 2) (.ref s.heap.objs.size) (.ref (s.heap.objs.size + 1)) →
      IsPair h' (s.heap.objs.size + 3) .none .none → Wk b1 h' s.heap.objs.size l1 0 → Wk b2 h' (s.heap.objs.size + 1) l2 0 → (∀ c o, s.heap.get? c = some o → h'.get? c = some o) → Q (.ref (s.heap.objs.size + 4)) { s with heap := h' }) :
    wpAny (model prog w) A (call (.type "zip") [.ref l1, .ref l2]) Q E s := by
  refine callType_new F.called_zip (by decide) (F.typeCall_zip_2 _ _) (F.newCall_zip_2 _ _) (fun obj => F.args_object_init_3 obj _ _) F.entry_zip_new (zipW_meets b1 b2 l1 l2 xs ys) ⟨q1, q2, ?_⟩
  have z1 : (zW1 s.heap b1 l1).objs.size = s.heap.objs.size + 1 := Heap.size_push ..
  have z2 : (zW2 s.heap b1 b2 l1 l2).objs.size = s.heap.objs.size + 2 := by rw [Heap.size_push, z1]
  have z3 : (zW3 s.heap b1 b2 l1 l2).objs.size = s.heap.objs.size + 3 := by rw [Heap.size_push, z2]
  have z4 : (zW4 s.heap b1 b2 l1 l2).objs.size = s.heap.objs.size + 4 := by rw [Heap.size_push, z3]
  have p5 : (zW5 s.heap b1 b2 l1 l2).get? (zW4 s.heap b1 b2 l1 l2).objs.size = some _ := Heap.get?_push_size _ rfl
  have p4 : (zW5 s.heap b1 b2 l1 l2).get? (zW3 s.heap b1 b2 l1 l2).objs.size = some _ := Heap.get?_push_of_some _ (Heap.get?_push_size _ rfl)
  have p3 : (zW5 s.heap b1 b2 l1 l2).get? (zW2 s.heap b1 b2 l1 l2).objs.size = some _ := Heap.get?_push_of_some _ (Heap.get?_push_of_some _ (Heap.get?_push_size _ rfl))
  have p2 : (zW5 s.heap b1 b2 l1 l2).get? (zW1 s.heap b1 l1).objs.size = some _ := Heap.get?_push_of_some _ (Heap.get?_push_of_some _ (Heap.get?_push_of_some _ (Heap.get?_push_size _ (wkO_free b2 l2))))
  have p1 : (zW5 s.heap b1 b2 l1 l2).get? s.heap.objs.size = some _ := Heap.get?_push_of_some _ (Heap.get?_push_of_some _ (Heap.get?_push_of_some _ (Heap.get?_push_of_some _ (Heap.get?_push_size _ (wkO_free b1 l1)))))
  show _ ∧ _
  rw [z2, z3, z4] at p5
  rw [z1, z2] at p3
  rw [z3] at p4
  rw [z1] at p2
  rw [z4]
  exact ⟨⟨_, p5, rfl⟩, h _ p5 p3 p4 (wkO_wk _ _ _ _ p1) (wkO_wk _ _ _ _ p2) fun c o e => Heap.get?_push_of_some _ (Heap.get?_push_of_some _ (Heap.get?_push_of_some _ (Heap.get?_push_of_some _ (Heap.get?_push_of_some _ e))))⟩
end
end L2.Fs
set_option Elab.async false
set_option linter.all false
set_option maxRecDepth 100000
namespace L2.Fs
open PySem PySem.Spec PyProof.Rows
def SqX (K : PySem.W.Frag) (b : Bool) (H : Hp) (a : Addr) (xs : List V) : Prop := match b with
  | true => SqT K H a xs
  | false => SqL K H a xs
theorem Inv.sqx {X : Cx} {pins : List (Addr × Obj)} {σ : St} {H : Hp} {s : Shared} {b : Bool} {a : Addr} {xs : List V} (I : Inv X pins σ H s) (h : SqX X.K b H a xs) : ∃ its : List Value, Vals xs its ∧ Sq b s.heap a its.toArray ∧ a < s.heap.objs.size := by
  cases b with
  | true => obtain ⟨its, rv, p, _⟩ := I.tuple h; exact ⟨its, rv, p, by obtain ⟨o, e, _⟩ := p; exact Heap.lt_size e⟩
  | false => obtain ⟨its, rv, p, _⟩ := I.list h; exact ⟨its, rv, p.isList, p.lt⟩
theorem Inv.sqx_inj {X : Cx} {pins : List (Addr × Obj)} {σ : St} {H : Hp} {s : Shared} {b : Bool} {a : Addr} {xs ys : List V} (I : Inv X pins σ H s) (h : SqX X.K b H a xs) (h' : SqX X.K b H a ys) : xs = ys := by
  cases b with
  | true => exact I.tuple_inj h h'
  | false => exact I.list_inj h h'
def Itw (K : PySem.W.Frag) (b1 b2 : Bool) (a b : Addr) : It :=
  ⟨fun i H => ∃ (xs ys : List V) (x y : V), SqX K b1 H a xs ∧ SqX K b2 H b ys ∧ xs[i]? = some x ∧ ys[i]? = some y,
    fun i H v H' => ∃ T x y, v = .ref T ∧ H T = none ∧ H' = upd H T (.tup [x, y]) ∧ (∀ xs, SqX K b1 H a xs → xs[i]? = some x) ∧ ∀ ys, SqX K b2 H b ys → ys[i]? = some y,
    fun i H => ∃ xs ys : List V, SqX K b1 H a xs ∧ SqX K b2 H b ys ∧ (xs.length ≤ i ∨ ys.length ≤ i)⟩
theorem turn_zipW {P : Program} {w : World} {K : PySem.W.Frag} {elts : List Expr} {kk : Nat} {tpos : Pos} {b1 b2 : Bool} {a b z TI TO i1 i2 : Addr} (D : ZipApart z TI TO i1 i2 a b) :
    Turn P w K (.Tuple elts kk tpos) (Itw K b1 b2 a b) [z, TI, TO, i1, i2] z (fun i h => IsZip h z TI TO .none ∧ IsPair h TI (.ref i1) (.ref i2) ∧ (∃ x y, IsPair h TO x y) ∧ Wk b1 h i1 a i ∧ Wk b2 h i2 b i) where
  mem := by simp
  obj := fun i h st c hc => by
    obtain ⟨hz, hTI, ⟨x, y, hTO⟩, j1, j2⟩ := st
    have e' : c = z ∨ c = TI ∨ c = TO ∨ c = i1 ∨ c = i2 := by simpa using hc
    rcases e' with q | q | q | q | q
    · rw [q]; exact ⟨_, hz, fun v q => nomatch q⟩
    · rw [q]; exact ⟨_, hTI, fun v q => nomatch q⟩
    · rw [q]; exact ⟨_, hTO, fun v q => nomatch q⟩
    · rw [q]; cases b1 with
      | true => obtain ⟨o1, e1, _, d1⟩ := j1; exact ⟨o1, e1, fun v q => by rw [d1] at q; cases q⟩
      | false => obtain ⟨o1, e1, _, d1⟩ := j1; exact ⟨o1, e1, fun v q => by rw [d1] at q; cases q⟩
    · rw [q]; cases b2 with
      | true => obtain ⟨o1, e1, _, d1⟩ := j2; exact ⟨o1, e1, fun v q => by rw [d1] at q; cases q⟩
      | false => obtain ⟨o1, e1, _, d1⟩ := j2; exact ⟨o1, e1, fun v q => by rw [d1] at q; cases q⟩
  keep := fun i h h' st k => by
    obtain ⟨hz, hTI, ⟨x, y, hTO⟩, h1, h2⟩ := st
    exact ⟨k z (by simp) _ hz, k TI (by simp) _ hTI, ⟨x, y, k TO (by simp) _ hTO⟩, h1.at fun o q => k i1 (by simp) o q, h2.at fun o q => k i2 (by simp) o q⟩
  item := by
    intro X hP hw hK hc i pins s σ H E I hf st hg
    subst hP hw hK
    obtain ⟨hz, hTI, ⟨x0, y0, hTO⟩, h1, h2⟩ := st
    obtain ⟨xs, ys, x, y, hqx, hqy, hx, hy⟩ := hg
    obtain ⟨its, rv, p, _⟩ := Inv.sqx I hqx
    obtain ⟨its2, rv2, p2, _⟩ := Inv.sqx I hqy
    obtain ⟨u, hu, ru⟩ := rv.get hx
    obtain ⟨u2, hu2, ru2⟩ := rv2.get hy
    have hzl : z < s.heap.objs.size := Heap.lt_size hz
    refine zipW_next D hz hTI hTO h1 h2 p p2 (x := u) (y := u2) (by simpa using hu) (by simpa using hu2) fun h' z' TO' h1' h2' hT hsz hk => ?_
    refine ⟨_, rfl, wpAny_letOwnedTupleGo_zip (s := { s with heap := h' }) z' fun h'' z'' sb => ?_⟩
    have hT2 : h''.get? s.heap.objs.size = some { cls := .type "tuple", data := .seq #[u, u2] } := (sb.2 _ (Nat.ne_of_gt hzl)).trans hT
    have new : ObjOk X.prog X.w (upd H s.heap.objs.size (.tup [x, y])) h'' s.heap.objs.size (.tup [x, y]) :=
      ⟨by show 2 ≤ sizeLine; decide, [u, u2], .cons ru (.cons ru2 .nil), ⟨_, hT2, rfl, _, rfl⟩⟩
    have I1 : Inv X pins σ (upd H s.heap.objs.size (.tup [x, y])) { s with heap := h'' } :=
      I.turnedNew (t' := s.toks) (ch := [z, TI, TO, i1, i2]) (fun c o hb q => (sb.2 c (fun q' => hb (by simp [q']))).trans (hk c o (fun q' => hb (by simp [q'])) (fun q' => hb (by simp [q'])) (fun q' => hb (by simp [q'])) (fun q' => hb (by simp [q'])) q)) hf (Nat.le_refl _) new
    refine ⟨.ref s.heap.objs.size, _, I1, rfl, ⟨_, x, y, rfl, I.hok.fresh (Nat.le_refl _), rfl, fun l hl => by rw [Inv.sqx_inj I hl hqx]; exact hx, fun l hl => by rw [Inv.sqx_inj I hl hqy]; exact hy⟩, ⟨z'', ?_, ⟨u, u2, ?_⟩, ?_, ?_⟩, fun c hcm => ?_⟩
    · exact (sb.2 _ D.TIz).trans (hk _ _ D.TIz D.TITO D.TIi1 D.TIi2 hTI)
    · exact (sb.2 _ D.TOz).trans TO'
    · exact h1'.at fun o q => (sb.2 _ D.i1z).trans q
    · exact h2'.at fun o q => (sb.2 _ D.i2z).trans q
    · have hlt : c < s.heap.objs.size := by
        have e' : c = z ∨ c = TI ∨ c = TO ∨ c = i1 ∨ c = i2 := by simpa using hcm
        rcases e' with q | q | q | q | q
        · rw [q]; exact hzl
        · rw [q]; exact Heap.lt_size hTI
        · rw [q]; exact Heap.lt_size hTO
        · rw [q]; cases b1 <;> (obtain ⟨_, e1, _⟩ := h1; exact Heap.lt_size e1)
        · rw [q]; cases b2 <;> (obtain ⟨_, e2, _⟩ := h2; exact Heap.lt_size e2)
      rw [upd_ne (Nat.ne_of_lt hlt)]
      exact (hf c hcm).1
  done := by
    intro X hP hw hK hc i pins s σ H E I hf st hg
    subst hP hw hK
    obtain ⟨hz, hTI, ⟨x0, y0, hTO⟩, h1, h2⟩ := st
    obtain ⟨xs, ys, hqx, hqy, hend⟩ := hg
    obtain ⟨its, rv, p, _⟩ := Inv.sqx I hqx
    obtain ⟨its2, rv2, p2, _⟩ := Inv.sqx I hqy
    have l1 := rv.length
    have l2 := rv2.length
    have he : its.toArray[i]? = none ∨ its2.toArray[i]? = none := by
      rcases hend with q | q
      · exact .inl (by simp; omega)
      · exact .inr (by simp; omega)
    exact zipW_stop (I.ok.hd hc) D hz hTI hTO h1 h2 p p2 he fun h' hk => ⟨rfl, I.turnedL (t' := s.toks) (ch := [z, TI, TO, i1, i2]) (fun c o hb q =>
      hk c o (fun q' => hb (by simp [q'])) (fun q' => hb (by simp [q'])) (fun q' => hb (by simp [q'])) (fun q' => hb (by simp [q'])) q) hf⟩
  self := fun A i s Q E st h => wpAny_pyIter_zip st.1 h
def iZipW (K : PySem.W.Frag) (ta : TA) : TI := fun σ H R => ta σ H fun vs H1 => ∃ b1 b2 a b xs ys, vs = [.ref a, .ref b] ∧ SqX K b1 H1 a xs ∧ SqX K b2 H1 b ys ∧ R (Itw K b1 b2 a b) H1
theorem pi_zipW {X : Cx} {e e2 : Expr} {ta : TA} {p pos tpos : Pos} {elts : List Expr} {kk : Nat} (hg : Gl X "zip") (hm : X.mg "zip" = none) (ha : PA X [e, e2] ta)
    (hs : starEach [e, e2] X.env = (false, eval e X.env) :: starEach [e2] X.env := by rfl) (hpl : (backTo pos (starEach [e2] X.env)).any (·.1) = false := by rfl) :
    PI X (.Tuple elts kk tpos) (.Call (.Name "zip" p) [e, e2] [] pos) (iZipW X.K ta) := by
  intro pins s σ H R I h
  refine Call_ (ld_blt I hg hm boot_zip5 (PyProof.Rows.callWith_type1 (thn (ha pos pins s σ H _ I h) fun us s1 ⟨vs, H1, I1, r1, q1⟩ => ?_) hs hpl))
  obtain ⟨b1, b2, a, b, xs, ys, ex, hqx, hqy, q⟩ := q1
  subst ex
  cases r1 with
  | cons r rr =>
    cases rr with
    | cons r' rr =>
      cases rr
      cases r
      cases r'
      obtain ⟨its, rv, p1, la⟩ := Inv.sqx I1 hqx
      obtain ⟨its2, rv2, p2, lb⟩ := Inv.sqx I1 hqy
      refine zipW_call p1 p2 fun h' hz hTI hTO h1 h2 hk => wpAny_pyIter_zip hz ?_
      have I2 : Inv X pins σ H1 { s1 with heap := h' } := I1.kept (t' := s1.toks) hk
      refine ⟨s1.heap.objs.size + 4, [s1.heap.objs.size + 4, s1.heap.objs.size + 2, s1.heap.objs.size + 3, s1.heap.objs.size, s1.heap.objs.size + 1], _, _, H1, rfl, I2, turn_zipW (PySem.W.ktu_apart s1.heap.objs.size a b la lb), ⟨hz, hTI, ⟨_, _, hTO⟩, h1, h2⟩, fun c hcm => ?_, q⟩
      have e' : c = s1.heap.objs.size + 4 ∨ c = s1.heap.objs.size + 2 ∨ c = s1.heap.objs.size + 3 ∨ c = s1.heap.objs.size ∨ c = s1.heap.objs.size + 1 := by simpa using hcm
      have hle : s1.heap.objs.size ≤ c := by
        rcases e' with z | z | z | z | z
        · rw [z]; exact Nat.le_add_right _ _
        · rw [z]; exact Nat.le_add_right _ _
        · rw [z]; exact Nat.le_add_right _ _
        · rw [z]; exact Nat.le_refl _
        · rw [z]; exact Nat.le_add_right _ _
      exact I1.fpOk hle (I1.hok.fresh hle)
def seqD : Y → Option (List Y)
  | .list ds => some ds
  | .tuple ds => some ds
  | _ => none
theorem seqD_of {K : PySem.W.Frag} {F : Hp} {v : V} {d : Y} {ds : List Y} (r : Rp K F v d) (h : seqD d = some ds) : ∃ b a xs, v = .ref a ∧ SqX K b F a xs ∧ Rps K F xs ds := by
  cases r with
  | lst hx xs => cases h; exact ⟨false, _, _, rfl, hx, xs⟩
  | tup hx xs => cases h; exact ⟨true, _, _, rfl, hx, xs⟩
  | _ => cases h
theorem Same.sqx {K : PySem.W.Frag} {b : Bool} {F H : Hp} {a : Addr} {xs : List V} (s : Same F H) (h : SqX K b F a xs) : SqX K b H a xs := by
  cases b with
  | true => exact Same.seqT s h
  | false => exact s.seq h
def zipD : List Y → List Y → List Y
  | a :: as, b :: bs => .tuple [a, b] :: zipD as bs
  | _, _ => []
theorem zipD_get : ∀ {as bs : List Y} {i : Nat} {d : Y}, (zipD as bs)[i]? = some d → ∃ a b, as[i]? = some a ∧ bs[i]? = some b ∧ d = .tuple [a, b]
  | [], _, _, _, h => by simp [zipD] at h
  | _ :: _, [], _, _, h => by simp [zipD] at h
  | a :: as, b :: bs, 0, d, h => by simp [zipD] at h; exact ⟨a, b, rfl, rfl, h.symm⟩
  | a :: as, b :: bs, i + 1, d, h => by
    obtain ⟨x, y, h1, h2, h3⟩ := zipD_get (as := as) (bs := bs) (i := i) (d := d) (by simpa [zipD] using h)
    exact ⟨x, y, by simpa using h1, by simpa using h2, h3⟩
theorem zipD_len : ∀ {as bs : List Y}, (zipD as bs).length = min as.length bs.length
  | [], _ => by simp [zipD]
  | _ :: _, [] => by simp [zipD]
  | a :: as, b :: bs => by simp [zipD, zipD_len (as := as) (bs := bs)]
def iZip2 (f g : XF) : IF := fun σ => (f σ).bind fun r => (g r.σ).bind fun q => match seqD r.d, seqD q.d with
  | some as, some bs => .ok (zipD as bs, q.σ)
  | _, _ => .bad
theorem pvi_zip {X : Cx} {H0 F0 : Hp} {a b : Expr} {f g : XF} {pos p tpos : Pos} {elts : List Expr} {kk : Nat} (hg : Gl X "zip") (hm : X.mg "zip" = none) (ha : PV X H0 F0 a f) (hb : PV X H0 F0 b g) (he : starEach [a, b] X.env = (false, eval a X.env) :: starEach [b] X.env) (he2 : starEach [b] X.env = [(false, eval b X.env)]) :
    PVI X H0 F0 (.Tuple elts kk tpos) (.Call (.Name "zip" p) [a, b] [] pos) (iZip2 f g) := by
  intro σ ds σ' hd
  obtain ⟨r1, e1, hd⟩ := O.of_bind hd
  obtain ⟨r2, e2, hd⟩ := O.of_bind hd
  split at hd
  · rename_i as bs hr1 hr2
    cases hd
    refine PI.of (pi_zipW hg hm (pa_cons (ha σ r1 e1) (pa_cons (hb r1.σ r2 e2) pa_nil he2) he) (hs := he) (hpl := by rw [he2]; rfl)) fun σV H Q ⟨F, E, k⟩ => ⟨F, E, fun F1 H1 v E1 s1 q1 => ?_⟩
    obtain ⟨F1', s1', E1', rx⟩ := q1.frozen E1
    refine ⟨F1', E1', fun F2 H2 u E2 s2 q2 => ?_⟩
    obtain ⟨F2', s2', E2', ry⟩ := q2.frozen E2
    obtain ⟨b1, a1, xs, rfl, x1, y1⟩ := seqD_of (rx.mono (s2.trans s2')) hr1
    obtain ⟨b2, a2, ys, rfl, x2, y2⟩ := seqD_of ry hr2
    refine ⟨b1, b2, a1, a2, xs, ys, rfl, Same.sqx E2'.fh x1, Same.sqx E2'.fh x2, k _ F2' H2 E2' ((s1.trans s1').trans (s2.trans s2')) ⟨fun i H s q => ?_, fun i d H q s => ?_, fun i d H x H' q s y => ?_⟩⟩
    · rw [zipD_len, ← y1.length, ← y2.length] at q
      exact ⟨xs, ys, Same.sqx s x1, Same.sqx s x2, by omega⟩
    · obtain ⟨da, db, g1, g2, _⟩ := zipD_get q
      obtain ⟨va, h1, _⟩ := y1.get' g1
      obtain ⟨vb, h2, _⟩ := y2.get' g2
      exact ⟨xs, ys, va, vb, Same.sqx s x1, Same.sqx s x2, h1, h2⟩
    · obtain ⟨da, db, g1, g2, rfl⟩ := zipD_get q
      obtain ⟨va, h1, t1⟩ := y1.get' g1
      obtain ⟨vb, h2, t2⟩ := y2.get' g2
      obtain ⟨T, xa, xb, rfl, hT, rfl, ka, kb⟩ := y
      have ea := ka xs (Same.sqx s x1)
      have eb := kb ys (Same.sqx s x2)
      rw [h1] at ea
      rw [h2] at eb
      cases ea
      cases eb
      have sm : Same F2' (upd F2' T (.tup [va, vb])) := Same.laid (Same.refl _) (Same.free s hT)
      exact .inr ⟨T, .tup [va, vb], hT, rfl, .tup (.inl (.inl upd_same)) (.cons (t1.mono sm) (.cons (t2.mono sm) .nil))⟩
  · cases hd
end L2.Fs
set_option Elab.async false
set_option linter.all false
set_option maxRecDepth 100000
namespace L2.Fs
open PySem PySem.Spec PyProof.Rows
def Ris (xs : Array Nat) : Prop := ∀ (i j a b : Nat), i < j → xs[i]? = some a → xs[j]? = some b → a < b
theorem getD_some {xs : Array Nat} {i d a : Nat} (h : xs[i]? = some a) : xs.getD i d = a := by
  simp [Array.getD_eq_getD_getElem?, h]
theorem below_go {xs : Array Nat} {j : Nat} (hr : Ris xs) : ∀ (fuel lo hi : Nat), hi - lo ≤ fuel → lo ≤ hi → hi ≤ xs.size →
    (∀ i a, i < lo → xs[i]? = some a → a < j) → (∀ i a, hi ≤ i → xs[i]? = some a → j ≤ a) →
    (∀ i a, i < SetTable.below.go xs j fuel lo hi → xs[i]? = some a → a < j) ∧ (∀ i a, SetTable.below.go xs j fuel lo hi ≤ i → xs[i]? = some a → j ≤ a) ∧ SetTable.below.go xs j fuel lo hi ≤ xs.size
  | 0, lo, hi, hf, hl, hs, h1, h2 => by
    have : lo = hi := by omega
    subst this
    exact ⟨h1, h2, hs⟩
  | fuel + 1, lo, hi, hf, hl, hs, h1, h2 => by
    unfold SetTable.below.go
    by_cases h : lo < hi
    · rw [if_pos h]
      have hm : (lo + hi) / 2 < xs.size := by omega
      have hg : xs[(lo + hi) / 2]? = some xs[(lo + hi) / 2] := Array.getElem?_eq_getElem hm
      simp only [getD_some hg]
      by_cases hc : xs[(lo + hi) / 2] < j
      · rw [if_pos hc]
        refine below_go hr fuel _ _ (by omega) (by omega) hs (fun i a hi' e => ?_) h2
        rcases Nat.lt_or_ge i ((lo + hi) / 2) with q | q
        · exact Nat.lt_trans (hr i _ a _ q e hg) hc
        · have : i = (lo + hi) / 2 := by omega
          subst this
          rw [hg] at e
          cases e
          exact hc
      · rw [if_neg hc]
        refine below_go hr fuel _ _ (by omega) (by omega) (by omega) h1 (fun i a hi' e => ?_)
        rcases Nat.lt_or_ge ((lo + hi) / 2) i with q | q
        · exact Nat.le_trans (Nat.le_of_not_lt hc) (Nat.le_of_lt (hr _ i _ a q hg e))
        · have : i = (lo + hi) / 2 := by omega
          subst this
          rw [hg] at e
          cases e
          exact Nat.le_of_not_lt hc
    · rw [if_neg h]
      have : lo = hi := by omega
      subst this
      exact ⟨h1, h2, hs⟩
theorem below_spec {xs : Array Nat} (hr : Ris xs) (j : Nat) : (∀ i a, i < SetTable.below xs j → xs[i]? = some a → a < j) ∧ (∀ i a, SetTable.below xs j ≤ i → xs[i]? = some a → j ≤ a) ∧ SetTable.below xs j ≤ xs.size := by
  unfold SetTable.below
  exact below_go hr _ _ _ (by omega) (by omega) (Nat.le_refl _) (fun i a h => by omega) (fun i a h e => by
    rw [Array.getElem?_eq_none h] at e; cases e)
theorem below_is {xs : Array Nat} (hr : Ris xs) {j n : Nat} (hn : n ≤ xs.size) (h1 : ∀ i a, i < n → xs[i]? = some a → a < j) (h2 : ∀ i a, n ≤ i → xs[i]? = some a → j ≤ a) : SetTable.below xs j = n := by
  obtain ⟨b1, b2, b3⟩ := below_spec hr j
  rcases Nat.lt_trichotomy (SetTable.below xs j) n with h | h | h
  · have hs : SetTable.below xs j < xs.size := by omega
    have := b2 _ _ (Nat.le_refl _) (Array.getElem?_eq_getElem hs)
    have := h1 _ _ h (Array.getElem?_eq_getElem hs)
    omega
  · exact h
  · have hs : n < xs.size := by omega
    have := b1 _ _ h (Array.getElem?_eq_getElem hs)
    have := h2 _ _ (Nat.le_refl _) (Array.getElem?_eq_getElem hs)
    omega
theorem ris_iff (xs : Array Nat) : Ris xs ↔ xs.toList.Pairwise (· < ·) := by
  rw [List.pairwise_iff_getElem]
  constructor
  · intro h i j hi hj ij
    exact h i j _ _ ij (by rw [← Array.getElem?_toList]; exact List.getElem?_eq_getElem hi) (by rw [← Array.getElem?_toList]; exact List.getElem?_eq_getElem hj)
  · intro h i j a b ij e1 e2
    rw [← Array.getElem?_toList] at e1 e2
    obtain ⟨g1, rfl⟩ := List.getElem?_eq_some_iff.mp e1
    obtain ⟨g2, rfl⟩ := List.getElem?_eq_some_iff.mp e2
    exact h i j g1 g2 ij
theorem ris_insert {xs : Array Nat} {j : Nat} (hr : Ris xs) (hj : xs[SetTable.below xs j]? ≠ some j) : Ris (SetTable.insertAt xs (SetTable.below xs j) j) := by
  obtain ⟨b1, b2, b3⟩ := below_spec hr j
  have hr' := (ris_iff xs).mp hr
  rw [ris_iff, SetTable.toList_insertAt]
  have lt : ∀ a ∈ xs.toList.take (SetTable.below xs j), a < j := fun a ha => by
    obtain ⟨i, hi, e⟩ := List.mem_iff_getElem.mp ha
    rw [List.length_take] at hi
    rw [List.getElem_take] at e
    exact b1 i a (by omega) (by rw [← Array.getElem?_toList, ← e]; exact List.getElem?_eq_getElem _)
  have gt : ∀ a ∈ xs.toList.drop (SetTable.below xs j), j < a := fun a ha => by
    obtain ⟨i, hi, e⟩ := List.mem_iff_getElem.mp ha
    rw [List.length_drop] at hi
    rw [List.getElem_drop] at e
    have e' : xs[SetTable.below xs j + i]? = some a := by rw [← Array.getElem?_toList, ← e]; exact List.getElem?_eq_getElem _
    have := b2 _ a (by omega) e'
    rcases Nat.lt_or_ge j a with q | q
    · exact q
    · have ea : a = j := by omega
      subst ea
      rcases Nat.eq_zero_or_pos i with q0 | q0
      · subst q0; exact absurd e' hj
      · have hs : SetTable.below xs a < xs.size := by have := (Array.getElem?_eq_some_iff.mp e').1; omega
        have h3 := b2 _ _ (Nat.le_refl _) (Array.getElem?_eq_getElem hs)
        have h4 := hr _ _ _ _ (show SetTable.below xs a < SetTable.below xs a + i by omega) (Array.getElem?_eq_getElem hs) e'
        omega
  refine List.pairwise_append.mpr ⟨hr'.sublist (List.take_sublist _ _), List.pairwise_cons.mpr ⟨gt, hr'.sublist (List.drop_sublist _ _)⟩, fun a ha b hb => ?_⟩
  rcases List.mem_cons.mp hb with q | q
  · subst q; exact lt a ha
  · exact Nat.lt_trans (lt a ha) (gt b q)
/-- what holds of the tables of the sets here -/
structure TGood (w : World) (t : SetTable) : Prop where
  led : w.params.followText "set-order" = false → t.led = true
  ris : t.plain = true → Ris t.place ∧ t.dummies = #[]
theorem has_nil (j : Nat) : SetTable.has #[] j = false := by
  unfold SetTable.has
  simp
theorem probe_empty {t : SetTable} (hd : t.dummies = #[]) {hash : Nat → Int} {h : Int} : ∀ (n : Nat) (p : SetTable.Probe) {j : Nat} {d : Option Nat}, p.dummy = none → SetTable.probe.go t hash h n p = some (.empty j d) → d = none ∧ t.slot j = .empty
  | 0, p, j, d, _, e => by cases e
  | n + 1, p, j, d, hp, e => by
    unfold SetTable.probe.go at e
    have adv : ∀ q : SetTable.Probe, q.dummy = none → (t.advance q).dummy = none := fun q hq => by
      unfold SetTable.advance
      split <;> exact hq
    split at e
    · rename_i hs
      cases e
      exact ⟨hp, hs⟩
    · rename_i hs
      exfalso
      unfold SetTable.slot at hs
      rw [hd] at hs
      simp only [has_nil] at hs
      split at hs <;> cases hs
    · split at e
      · cases e
      · exact probe_empty hd n _ (adv p hp) e
theorem freeSlot_ok {t : SetTable} (hd : t.dummies = #[]) {h : Int} {j : Nat} {b : Bool} (e : t.freeSlot h = some (j, b)) : t.place[SetTable.below t.place j]? ≠ some j := by
  unfold SetTable.freeSlot at e
  split at e
  · rename_i j' d hp
    obtain ⟨rfl, hs⟩ := probe_empty hd _ _ rfl hp
    cases e
    intro q
    replace q : t.place[SetTable.below t.place j']? = some j' := q
    unfold SetTable.slot at hs
    simp [q] at hs
  · cases e
theorem TGood.standIn {w : World} {t : SetTable} (g : TGood w t) (n : Nat) : TGood w (t.standIn n) := ⟨g.led, fun h => by cases h⟩
theorem TGood.orStand {w : World} {t : SetTable} (g : TGood w t) (n : Nat) : TGood w (t.orStandIn n) := by
  unfold SetTable.orStandIn
  by_cases h : t.fits n = true
  · rw [if_pos h]; exact g
  · rw [if_neg h]; exact g.standIn n
theorem TGood.put {w : World} {t : SetTable} (g : TGood w t) {h : Int} {j : Nat} {b : Bool} (e : t.freeSlot h = some (j, b)) : TGood w (t.put j).1 := by
  refine ⟨g.led, fun hp => ?_⟩
  obtain ⟨hr, hd⟩ := g.ris hp
  have hh : SetTable.has t.dummies j = false := by rw [hd]; exact has_nil _
  refine ⟨ris_insert hr (freeSlot_ok hd e), ?_⟩
  show (if SetTable.has t.dummies j = true then _ else t.dummies) = #[]
  rw [hh]
  exact hd
theorem TGood.lay {w : World} {t : SetTable} (g : TGood w t) (es : Array (Int × Value)) (h : Int) (x : Value) : TGood w (layNew t es h x).2.1 := by
  unfold layNew
  cases e : t.freeSlot h with
  | none => exact g.standIn _
  | some q =>
    obtain ⟨j, b⟩ := q
    exact (g.put e).orStand _
theorem laid_ris {mask finger moves : Nat} {led plain : Bool} {hs : Array Int} {t : SetTable} {o : Array Nat} (e : SetTable.laid mask finger moves led plain hs = some (t, o)) : t.led = led ∧ t.plain = plain ∧ Ris t.place ∧ t.dummies = #[] := by
  unfold SetTable.laid at e
  cases hl : SetTable.layClean mask hs with
  | none => rw [hl] at e; cases e
  | some owner =>
    rw [hl] at e
    cases e
    refine ⟨rfl, rfl, ?_, rfl⟩
    rw [ris_iff]
    show List.Pairwise (· < ·) ((List.filterMap (fun j => (owner.getD j none).map (j, ·)) (List.range (mask + 1))).map (·.1))
    rw [List.map_filterMap]
    refine List.Pairwise.filterMap _ (fun a a' haa b hb b' hb' => ?_) (List.pairwise_lt_range (n := mask + 1))
    cases h1 : owner.getD a none with
    | none => simp [h1] at hb
    | some u =>
      cases h2 : owner.getD a' none with
      | none => simp [h2] at hb'
      | some u' =>
        simp [h1] at hb
        simp [h2] at hb'
        omega
theorem TGood.relay {w : World} {t : SetTable} (g : TGood w t) (es : Array (Int × Value)) (n : Nat) : TGood w (relayAll t es n).2.1 := by
  unfold relayAll
  split
  · rename_i t' order e
    dsimp only
    split
    · unfold SetTable.relaid at e
      obtain ⟨h1, h2, h3, h4⟩ := laid_ris e
      exact ⟨fun q => by rw [h1]; exact g.led q, fun _ => ⟨h3, h4⟩⟩
    · exact g.standIn _
  · exact g.standIn _
theorem perm_erase {α : Type} : ∀ (l : List α) (i : Nat) (x : α), l[i]? = some x → (x :: l.eraseIdx i).Perm l
  | [], i, x, h => by simp at h
  | a :: l, 0, x, h => by simp at h; subst h; exact List.Perm.refl _
  | a :: l, i + 1, x, h => by
    have := perm_erase l i x (by simpa using h)
    exact (List.Perm.swap _ _ _).trans (this.cons a)
theorem pickOrder_go {α : Type} (next : Nat → Nat) : ∀ (fuel k : Nat) (left : List α) (out : Array α), fuel = left.length → (pickOrder.go next fuel k left out).toList.Perm (out.toList ++ left)
  | 0, k, left, out, h => by
    have : left = [] := List.length_eq_zero_iff.mp h.symm
    subst this
    unfold pickOrder.go
    simp
  | fuel + 1, k, left, out, h => by
    have hp : 0 < left.length := by omega
    have hi : next k % left.length < left.length := Nat.mod_lt _ hp
    unfold pickOrder.go
    rw [List.getElem?_eq_getElem hi]
    dsimp only
    refine (pickOrder_go next fuel (k + 1) _ _ (by rw [List.length_eraseIdx, if_pos hi]; omega)).trans ?_
    rw [Array.toList_push, List.append_assoc]
    exact (perm_erase left _ _ (List.getElem?_eq_getElem hi)).append_left _
theorem pickOrder_perm {α : Type} (next : Nat → Nat) (xs : Array α) : (pickOrder next xs).toList.Perm xs.toList := by
  unfold pickOrder
  exact (pickOrder_go next xs.size 0 xs.toList #[] (by simp)).trans (by simp)
section
variable {prog : Program} {w : World} {A : Around} {E : Value → Shared → Prop} {s : Shared}
theorem choose_ok {src : Source} {n : Nat} {Q : Nat → Shared → Prop} (hn : n ≠ 0) (h : ∀ k d, k < n → Q k { s with drawn := d }) : wpAny (model prog w) A (PySem.choose src n) Q E s := fun Γ p _ => by
  unfold PySem.choose
  rw [Sem.wp_choose]
  refine ⟨hn, ?_⟩
  exact h _ _ (Nat.mod_lt _ (Nat.pos_of_ne_zero hn))
theorem drawOrder_ok {α : Type} : ∀ (n : Nat) (xs : List α) {s : Shared} {Q : List α → Shared → Prop}, n = xs.length → (∀ l d, l.Perm xs → Q l { s with drawn := d }) → wpAny (model prog w) A (drawOrder n xs) Q E s
  | 0, xs, s, Q, hn, h => by
    have : xs = [] := List.length_eq_zero_iff.mp hn.symm
    subst this
    exact wpAny_pure (h [] s.drawn (List.Perm.refl _))
  | n + 1, [], s, Q, hn, h => by cases hn
  | n + 1, x :: xs, s, Q, hn, h => by
    unfold drawOrder
    refine wpAny_bind (choose_ok (by simp) fun i d hi => ?_)
    rw [List.getElem?_eq_getElem hi]
    dsimp only
    refine wpAny_bind (drawOrder_ok n ((x :: xs).eraseIdx i) (by rw [List.length_eraseIdx, if_pos hi]; simp at hn; simp; omega) fun l d' hp => wpAny_pure ?_)
    exact h _ _ ((hp.cons _).trans (perm_erase (x :: xs) i _ (List.getElem?_eq_getElem hi)))
end
end L2.Fs
set_option Elab.async false
set_option linter.all false
set_option maxRecDepth 100000
namespace L2.Fs
open PySem PySem.Spec PyProof.Rows
structure SetBody (P : Program) (w : World) (es : Array (Int × Value)) (t : SetTable) (ks : List Int) : Prop where
  el : ElemsOf (intKind P w) es.toList
  nd : ks.Nodup
  is : IntsAre (es.toList.map (·.2)) ks
  few : es.size < scanBound
  fits : t.fits es.size = true
  good : TGood w t
def SetC (P : Program) (w : World) (h : Heap) (a : Addr) (ks : List Int) : Prop :=
  ∃ es ep t ks', h.get? a = some { cls := .type "set", dict := none, data := .set es ep t, slots := #[] } ∧ SetBody P w es t ks' ∧ ks'.Perm ks
theorem ints_snoc {vs : List Value} {ns : List Int} (h : IntsAre vs ns) (k : Int) (t : Tok) : IntsAre (vs ++ [.int k t]) (ns ++ [k]) := by
  induction h with
  | nil => exact .cons k t .nil
  | cons n t h ih => exact .cons n _ ih
theorem ints_perm {vs vs' : List Value} (p : vs'.Perm vs) : ∀ {ns : List Int}, IntsAre vs ns → ∃ ns', IntsAre vs' ns' ∧ ns'.Perm ns := by
  induction p with
  | nil => intro ns h; exact ⟨ns, h, List.Perm.refl _⟩
  | cons x p ih =>
    intro ns h
    cases h with | cons n t h => ?_
    obtain ⟨ns', h1, h2⟩ := ih h
    exact ⟨n :: ns', .cons n t h1, h2.cons n⟩
  | swap x y l =>
    intro ns h
    cases h with | cons n t h => ?_
    cases h with | cons m u h => ?_
    exact ⟨m :: n :: _, .cons m u (.cons n t h), List.Perm.swap _ _ _⟩
  | trans p q ih1 ih2 =>
    intro ns h
    obtain ⟨n1, h1, p1⟩ := ih2 h
    obtain ⟨n2, h2, p2⟩ := ih1 h1
    exact ⟨n2, h2, p2.trans p1⟩
theorem ints_isInt {P : Program} {w : World} {k k' : Int} {t : Tok} : (intKind P w).is k (.int k' t) = true ↔ k = k' := by
  constructor
  · intro h
    have := KeyKind.is_eq_decide (knd := intKind P w) (k := k') (v := .int k' t) (intKind_is _ _ _ _) k
    rw [h] at this
    exact of_decide_eq_true this.symm
  · rintro rfl; exact intKind_is _ _ _ _
theorem find_mem {P : Program} {w : World} {k : Int} : ∀ {es : List (Int × Value)} {ks : List Int}, IntsAre (es.map (·.2)) ks → ((List.findIdx? (fun e => (intKind P w).is k e.2) es) = none ↔ k ∉ ks)
  | [], ks, h => by cases h; simp
  | e :: es, ks, h => by
    obtain ⟨h0, v⟩ := e
    simp only [List.map_cons] at h
    cases h with | cons n t h => ?_
    rw [List.findIdx?_cons]
    by_cases hk : k = n
    · subst hk
      rw [if_pos (show (intKind P w).is k (Value.int k t) = true from intKind_is _ _ _ _)]
      simp
    · have hf : (intKind P w).is k (Value.int n t) = false := by
        cases q : (intKind P w).is k (Value.int n t) with
        | false => rfl
        | true => exact absurd (ints_isInt.mp q) hk
      dsimp only
      rw [hf]
      simp only [Bool.false_eq_true, if_false, Option.map_eq_none_iff]
      rw [find_mem h]
      simp [hk]
section
variable {P : Program} {w : World} {A : Around} {E : Value → Shared → Prop} {s : Shared}
theorem SetBody.perm {es es' : Array (Int × Value)} {t t' : SetTable} {ks : List Int} (b : SetBody P w es t ks) (p : es'.toList.Perm es.toList) (hf : t'.fits es'.size = true) (g : TGood w t') : ∃ ks', SetBody P w es' t' ks' ∧ ks'.Perm ks := by
  obtain ⟨ks', h1, h2⟩ := ints_perm (p.map (·.2)) b.is
  refine ⟨ks', ⟨b.el.perm p, h2.nodup_iff.mpr b.nd, h1, ?_, hf, g⟩, h2⟩
  have := p.length_eq
  rw [Array.length_toList, Array.length_toList] at this
  rw [this]; exact b.few
/-- the table and entries behind an addition -/
theorem SetBody.lay {es : Array (Int × Value)} {t : SetTable} {ks : List Int} (b : SetBody P w es t ks) {k : Int} {tk : Tok} (hk : k ∉ ks) (hr : es.size + 1 < scanBound) : ∃ ks', SetBody P w (layNew t es (hashInt k) (.int k tk)).1 (layNew t es (hashInt k) (.int k tk)).2.1 ks' ∧ ks'.Perm (k :: ks) := by
  have hp := layNew_perm t es (hashInt k) (.int k tk)
  have hf := layNew_fits t es (hashInt k) (.int k tk)
  have hg := b.good.lay es (hashInt k) (.int k tk)
  rw [Array.toList_push] at hp
  have i1 : IntsAre ((es.toList ++ [(hashInt k, Value.int k tk)]).map (·.2)) (ks ++ [k]) := by
    rw [List.map_append]; exact ints_snoc b.is k tk
  obtain ⟨ks', h1, h2⟩ := ints_perm (hp.map (·.2)) i1
  have h3 : ks'.Perm (k :: ks) := h2.trans (List.perm_append_singleton k ks)
  refine ⟨ks', ⟨(b.el.push (k := k) (intKind_is _ _ _ _) rfl).perm hp, h3.nodup_iff.mpr (List.nodup_cons.mpr ⟨hk, b.nd⟩), h1, ?_, hf, hg⟩, h3⟩
  rw [← Array.length_toList, hp.length_eq, List.length_append, Array.length_toList]
  exact hr
theorem storeS {a : Addr} {es es' : Array (Int × Value)} {ep : Nat} {t t' : SetTable} {Q : Unit → Shared → Prop} (ho : s.heap.get? a = some { cls := .type "set", dict := none, data := .set es ep t, slots := #[] }) (hz : es'.size < scanBound)
    (h : ∀ h', h'.get? a = some { cls := .type "set", dict := none, data := .set es' (ep + 1) t', slots := #[] } → Heap.SameBut a s.heap h' → Q () { s with heap := h' }) : wpAny (model P w) A (storeSet a es' t') Q E s := by
  refine wpAny_storeSet_of ho rfl (h _ ?_ (Heap.SameBut.update ..)) (fits_of_scanBound hz)
  have := Heap.get?_update_self (Obj.putSet es' t') ho (by rw [putSet_of es' t' rfl]; rfl)
  rw [putSet_of es' t' rfl] at this
  exact this
theorem addS {a : Addr} {ks : List Int} {k : Int} {tk : Tok} {Q : Bool → Shared → Prop} (hS : SetC P w s.heap a ks) (hr : ks.length + 1 < scanBound)
    (h : ∀ h' b, Heap.SameBut a s.heap h' → SetC P w h' a (if k ∈ ks then ks else k :: ks) → Q b { s with heap := h' }) : wpAny (model P w) A (setAddHashed a (.int k tk) (hashInt k)) Q E s := by
  obtain ⟨es, ep, t, ks0, ho, B, hp⟩ := hS
  have hsz : es.size = ks.length := by
    have := IntsAre.length B.is
    rw [List.length_map, Array.length_toList] at this
    rw [this, hp.length_eq]
  unfold setAddHashed setAddHashedIn
  refine wpAny_holding (wpAny_bind (wpAny_setState_of ho rfl B.fits ?_))
  dsimp only
  rw [byScan_of (knd := intKind P w) rfl B.few B.el]
  simp only [↓reduceIte]
  unfold setAddByScan
  refine wpAny_bind (wpAny_bind (wpAny_rule (wpAny_bind (wpAny_setScan_of (knd := intKind P w) (k := k) (intKind_is _ _ _ _) ho rfl B.fits B.el ?_))))
  have hm : k ∈ ks0 ↔ k ∈ ks := hp.mem_iff
  cases hf : List.findIdx? (fun e => (intKind P w).is k e.2) es.toList with
  | some j =>
    dsimp only
    have hk : k ∈ ks := by
      rcases Classical.em (k ∈ ks0) with q | q
      · exact hm.mp q
      · rw [(find_mem (P := P) (w := w) B.is).mpr q] at hf; cases hf
    refine wpAny_pure (wpAny_pure ?_)
    have := h s.heap false (Heap.SameBut.refl a s.heap) (by rw [if_pos hk]; exact ⟨es, ep, t, ks0, ho, B, hp⟩)
    exact this
  | none =>
    dsimp only
    have hk0 : k ∉ ks0 := (find_mem (P := P) (w := w) B.is).mp hf
    have hk : k ∉ ks := fun q => hk0 (hm.mpr q)
    obtain ⟨ks1, B1, p1⟩ := B.lay (tk := tk) hk0 (by rw [hsz]; exact hr)
    generalize hL : layNew t es (hashInt k) (.int k tk) = L at B1
    obtain ⟨es1, t1, wd, gave⟩ := L
    dsimp only at B1 ⊢
    have gw : ∀ (b : Bool) {s₁ : Shared} {Q' : Unit → Shared → Prop}, Q' () s₁ → wpAny (model P w) A (match b with | true => rule "set.scan.the-table-gave-way" | false => pure ()) Q' E s₁ := fun b s₁ Q' hq => by
      cases b
      · exact wpAny_pure hq
      · exact wpAny_rule hq
    refine wpAny_bind (gw _ ?_)
    have tail : ∀ t2 : SetTable, SetBody P w es1 t2 ks1 → wpAny (model P w) A (do
        storeSet a es1 t2
        if (!wd && t2.tooFull) = true then do
            (match (relayAll t2 es1 (SetTable.grown es1.size)).2.2 with | true => rule "set.scan.the-table-gave-way" | false => pure ())
            storeSet a (relayAll t2 es1 (SetTable.grown es1.size)).1 (relayAll t2 es1 (SetTable.grown es1.size)).2.1
            pure (some true)
          else pure (some true)) (fun r s' => ∃ h', s' = { s with heap := h' } ∧ r = some true ∧ Heap.SameBut a s.heap h' ∧ SetC P w h' a (k :: ks)) E s := fun t2 B2 => by
      refine wpAny_bind (storeS ho B2.few fun h1 ho1 sb1 => ?_)
      split
      · obtain ⟨ks3, B3, p3⟩ := B2.perm (relayAll_perm t2 es1 (SetTable.grown es1.size)) (relayAll_fits t2 es1 (SetTable.grown es1.size)) (B2.good.relay es1 (SetTable.grown es1.size))
        refine wpAny_bind (gw _ (wpAny_bind (storeS (s := { s with heap := h1 }) ho1 B3.few fun h2 ho2 sb2 => wpAny_pure ⟨h2, rfl, rfl, sb1.trans sb2, _, _, _, ks3, ho2, B3, p3.trans (p1.trans (hp.cons k))⟩)))
      · exact wpAny_pure ⟨h1, rfl, rfl, sb1, _, _, _, ks1, ho1, B2, p1.trans (hp.cons k)⟩
    have fin : ∀ (r : Option Bool) (s' : Shared), (∃ h', s' = { s with heap := h' } ∧ r = some true ∧ Heap.SameBut a s.heap h' ∧ SetC P w h' a (k :: ks)) → wpAny (model P w) A (match r with | some added => pure added | none => setAddHashedIn a (.int k tk) (hashInt k) 99999) Q E s' := by
      rintro r s' ⟨h', rfl, rfl, sb, S⟩
      exact wpAny_pure (h h' true sb (by rw [if_neg hk]; exact S))
    split
    · refine wpAny_bind ?_
      rw [hashByValue_scannable 8 (show (Value.int k tk).scannable = true from rfl)]
      refine wpAny_pure ?_
      exact wpAny_mono (tail t1 B1) (fun r s' x => fin r s' x) fun _ _ e => e
    · refine wpAny_bind (wpAny_pure ?_)
      exact wpAny_mono (tail t1 B1) (fun r s' x => fin r s' x) fun _ _ e => e
end
theorem SetC.at {P : Program} {w : World} {h h' : Heap} {a : Addr} {ks : List Int} (S : SetC P w h a ks) (e : ∀ o, h.get? a = some o → h'.get? a = some o) : SetC P w h' a ks := by
  obtain ⟨es, ep, t, ks0, ho, r⟩ := S
  exact ⟨es, ep, t, ks0, e _ ho, r⟩
theorem SetC.new {P : Program} {w : World} {h : Heap} {a : Addr} {led : Bool} (hl : w.params.followText "set-order" = false → led = true) (ho : h.get? a = some { cls := .type "set", dict := none, data := .set #[] 0 (.fresh 0 0 led), slots := #[] }) : SetC P w h a [] := by
  refine ⟨#[], 0, _, [], ho, ⟨fun e he => by simp at he, List.nodup_nil, .nil, by decide, by rfl, hl, fun _ => ⟨fun i j a b _ e => by simp [SetTable.fresh] at e, rfl⟩⟩, List.Perm.refl _⟩
end L2.Fs
set_option Elab.async false
set_option linter.all false
set_option maxRecDepth 100000
namespace L2.Fs
open PySem PySem.Spec PyProof.Rows
def insK (ks : List Int) (k : Int) : List Int := if k ∈ ks then ks else k :: ks
theorem insK_len (ks : List Int) (k : Int) : (insK ks k).length ≤ ks.length + 1 := by
  unfold insK
  split
  · omega
  · simp
theorem foldK_len : ∀ (ns ks : List Int), (ns.foldl insK ks).length ≤ ks.length + ns.length
  | [], ks => by simp
  | n :: ns, ks => by
    have := foldK_len ns (insK ks n)
    have := insK_len ks n
    simp only [List.foldl_cons, List.length_cons]
    omega
end L2.Fs
set_option Elab.async false
set_option linter.all false
set_option maxRecDepth 100000
namespace L2.Fs
open PySem PySem.Spec PyProof.Rows
def nwS (w : World) : Obj := { cls := .type "set", dict := none, data := .set #[] 0 (.fresh 0 0 (!w.params.followText "set-order")) }
theorem nwS_c {P : Program} {w : World} {h : Heap} {a : Addr} (e : h.get? a = some (nwS w)) : SetC P w h a [] := SetC.new (fun q => by rw [q]; rfl) e
section
variable {P : Program} {w : World} {A : Around} {E : Value → Shared → Prop} {s : Shared}
theorem Sq.isA {b : Bool} {h : Heap} {l : Addr} {xs : Array Value} (q : Sq b h l xs) : ∃ od n os, h.get? l = some { cls := .type (if b then "tuple" else "list"), dict := od, data := .seq xs n, slots := os } := by
  cases b with
  | true =>
    obtain ⟨⟨c, d, dt, sl⟩, e, hc, n, hd⟩ := q
    simp only at hc hd
    subst hc; subst hd
    exact ⟨d, n, sl, e⟩
  | false =>
    obtain ⟨⟨c, d, dt, sl⟩, e, hc, n, hd⟩ := q
    simp only at hc hd
    subst hc; subst hd
    exact ⟨d, n, sl, e⟩
end
end L2.Fs
set_option Elab.async false
set_option linter.all false
set_option maxRecDepth 100000
namespace L2.Fs
open PySem PySem.Spec PyProof.Rows
end L2.Fs
set_option Elab.async false
set_option linter.all false
set_option maxRecDepth 100000
namespace L2.Fs
open PySem PySem.Spec PyProof.Rows
theorem ow_si : Manifest.owners.lookup (String.ofList ['r', 'o', 't', 'a', 'r', 'e', 't', 'i', '_', 't', 'e', 's'].reverse) = some Manifest.sig_set_iterator := by kernel_rfl
theorem sl_si : Slot "set_iterator" "__next__" "set_iterator.__next__" := .of (owner := "set_iterator") (n := "__next__") (by rw [typeLookup_type, builtinLookup_eq_fast]; kernel_rfl) (by decide +kernel) (by decide +kernel) (by decide +kernel) (by first | exact .inl (by decide +kernel) | exact .inr (by decide +kernel)) (by rw [isSubtype_type]; kernel_rfl)
theorem en_si : entryFor table "set_iterator.__next__" = some Builtin.«set_iterator.__next__» := entryFor_of_tree (by kernel_rfl)
theorem ar_si (a : Value) : argsOk "set_iterator.__next__" ⟨[a], []⟩ := by unfold argsOk; rw [signature?_of (id := "set_iterator.__next__") (n := ['_', '_', 't', 'x', 'e', 'n', '_', '_']) (o := ['r', 'o', 't', 'a', 'r', 'e', 't', 'i', '_', 't', 'e', 's']) (by kernel_rfl) ow_si]; kernel_rfl
theorem en_sit : entryFor table "set.__iter__" = some Builtin.«frozenset.__iter__» := entryFor_alias (id' := "frozenset.__iter__") (by kernel_rfl) rfl (by decide +kernel) (by kernel_rfl)
theorem sl_sii : Slot "set_iterator" "__iter__" "set_iterator.__iter__" := .of (owner := "set_iterator") (n := "__iter__") (by rw [typeLookup_type, builtinLookup_eq_fast]; kernel_rfl) (by decide +kernel) (by decide +kernel) (by decide +kernel) (by first | exact .inl (by decide +kernel) | exact .inr (by decide +kernel)) (by rw [isSubtype_type]; kernel_rfl)
theorem en_sii : entryFor table "set_iterator.__iter__" = some Builtin.«dict_keyiterator.__iter__» := entryFor_alias (id' := "dict_keyiterator.__iter__") (by kernel_rfl) rfl (by decide +kernel) (by kernel_rfl)
theorem ar_sii (a : Value) : argsOk "set_iterator.__iter__" ⟨[a], []⟩ := by unfold argsOk; rw [signature?_of (id := "set_iterator.__iter__") (n := ['_', '_', 'r', 'e', 't', 'i', '_', '_']) (o := ['r', 'o', 't', 'a', 'r', 'e', 't', 'i', '_', 't', 'e', 's']) (by kernel_rfl) ow_si]; kernel_rfl
abbrev stO (es : Array (Int × Value)) (ep : Nat) (t : SetTable) : Obj := { cls := .type "set", dict := none, data := .set es ep t, slots := #[] }
abbrev siO (first : Value) (i : Nat) (S : Addr) (n ep : Nat) : Obj := { cls := .type "set_iterator", dict := none, data := .fields #[first, rawInt i, .ref S, rawInt n, rawInt ep], slots := #[] }
/-- the slot from which the table is looked at, with i numbers told -/
def slotAt (p : Array Nat) (i : Nat) : Nat := match i with
  | 0 => 0
  | i + 1 => p.getD i 0 + 1
theorem below_slot {p : Array Nat} (hr : Ris p) {i : Nat} (hi : i ≤ p.size) : SetTable.below p (slotAt p i) = i := by
  refine below_is hr hi (fun j a hj e => ?_) (fun j a hj e => ?_)
  · cases i with
    | zero => omega
    | succ m =>
      have hm : p[m]? = some p[m] := Array.getElem?_eq_getElem (by omega)
      show a < p.getD m 0 + 1
      rw [getD_some hm]
      rcases Nat.lt_or_ge j m with q | q
      · have := hr j m a _ q e hm; omega
      · have : j = m := by omega
        subst this
        rw [hm] at e
        cases e
        omega
  · cases i with
    | zero => exact Nat.zero_le _
    | succ m =>
      have hm : p[m]? = some p[m] := Array.getElem?_eq_getElem (by omega)
      show p.getD m 0 + 1 ≤ a
      rw [getD_some hm]
      exact hr m j _ a (by omega) hm e
section
variable {P : Program} {w : World} {A : Around} {E : Value → Shared → Prop} {s : Shared}
/-- how the numbers come: by the text's order, by the table, by a drawn order -/
inductive SMode (w : World) (S : Addr) (es : Array (Int × Value)) (ep : Nat) (t : SetTable) : Type
  | text (h : w.params.followText "set-order" = true)
  | tab (h : w.params.followText "set-order" = false) (hp : (!t.plain && decide (es.size > 1)) = false)
  | drawn (T : Addr) (ps : List Nat) (hp : ps.Perm (List.range es.size))
def SMode.vals {w : World} {S : Addr} {es : Array (Int × Value)} {ep : Nat} {t : SetTable} : SMode w S es ep t → List Value
  | .text _ => ((pickOrder (w.params.setOrder S ep) es).toList).map (·.2)
  | .tab _ _ => es.toList.map (·.2)
  | .drawn _ ps _ => ps.filterMap fun p => es[p]?.map (·.2)
def SMode.first {w : World} {S : Addr} {es : Array (Int × Value)} {ep : Nat} {t : SetTable} (i : Nat) : SMode w S es ep t → Value
  | .text _ => rawInt 0
  | .tab _ _ => rawInt (slotAt t.place i)
  | .drawn T _ _ => .ref T
def SMode.fp {w : World} {S : Addr} {es : Array (Int × Value)} {ep : Nat} {t : SetTable} : SMode w S es ep t → List Addr
  | .drawn T _ _ => [T]
  | _ => []
def SMode.held {w : World} {S : Addr} {es : Array (Int × Value)} {ep : Nat} {t : SetTable} (h : Heap) : SMode w S es ep t → Prop
  | .drawn T ps _ => h.get? T = some { cls := .type "tuple", data := .seq (ps.map fun (i : Nat) => rawInt i).toArray }
  | _ => True
theorem fm_range {es : Array (Int × Value)} : ∀ (l : List Nat), (∀ x ∈ l, x < es.size) → ∀ i : Nat, (l.filterMap fun p => es[p]?.map (·.2))[i]? = (l[i]?.bind fun p => es[p]?.map (·.2))
  | [], _, i => by simp
  | p :: l, h, i => by
    have hp : p < es.size := h p (List.mem_cons_self ..)
    rw [List.filterMap_cons_some (b := es[p].2) (by simp [hp])]
    cases i with
    | zero => simp [hp]
    | succ i =>
      simp only [List.getElem?_cons_succ]
      exact fm_range l (fun x hx => h x (List.mem_cons_of_mem _ hx)) i
theorem SMode.perm {S : Addr} {es : Array (Int × Value)} {ep : Nat} {t : SetTable} (m : SMode w S es ep t) : m.vals.Perm (es.toList.map (·.2)) := by
  cases m with
  | text h => exact (pickOrder_perm _ _).map _
  | tab h1 h2 => exact List.Perm.refl _
  | drawn T ps hp =>
    refine (hp.filterMap _).trans ?_
    have := filterMap_getElem?_range es
    rw [← this, List.map_filterMap]
theorem SMode.len {S : Addr} {es : Array (Int × Value)} {ep : Nat} {t : SetTable} (m : SMode w S es ep t) : m.vals.length = es.size := by rw [m.perm.length_eq, List.length_map, Array.length_toList]
theorem setsText {Q : Bool → Shared → Prop} (h : Q (w.params.followText "set-order") s) : wpAny (model P w) A setsByText Q E s := by
  unfold setsByText
  exact wpAny_bind (wpAny_askSetting (wpAny_pure h))
theorem setWalkT {S : Addr} {es : Array (Int × Value)} {ep : Nat} {t : SetTable} (hS : s.heap.get? S = some (stO es ep t)) (hf : t.fits es.size = true) (ht : w.params.followText "set-order" = true) {Q : Array (Int × Value) → Shared → Prop} (h : Q (pickOrder (w.params.setOrder S ep) es) s) : wpAny (model P w) A (setWalk S) Q E s := by
  unfold setWalk
  refine wpAny_bind (wpAny_setState_of hS rfl hf ?_)
  dsimp only
  refine wpAny_bind (setsText ?_)
  refine wpAny_ite_split (fun _ => ?_) (fun q => absurd ht q)
  exact wpAny_bind (wpAny_askSetting (wpAny_pure h))
/-- the entry that is told when i are told -/
theorem setNextM {S : Addr} {es : Array (Int × Value)} {ep : Nat} {t : SetTable} (hS : s.heap.get? S = some (stO es ep t)) (hf : t.fits es.size = true) (hg : TGood w t) (m : SMode w S es ep t) {i : Nat} (hi : i ≤ es.size) (nd : ∀ T ps hp, m ≠ .drawn T ps hp) {Q : Option (Value × Nat) → Shared → Prop}
    (h : ∀ (o : Option (Value × Nat)) (sl : Nat), m.first i = rawInt sl → o.map (·.1) = m.vals[i]? → (∀ x j, o = some (x, j) → m.first (i + 1) = rawInt j) → Q o s) : ∀ sl : Nat, m.first i = rawInt sl → wpAny (model P w) A (setNext S sl i ep) Q E s := by
  intro sl hsl
  unfold setNext
  refine wpAny_bind (wpAny_setState_of hS rfl hf ?_)
  dsimp only
  refine wpAny_bind (setsText ?_)
  cases m with
  | drawn T ps hp => exact absurd rfl (nd T ps hp)
  | text ht =>
    refine wpAny_ite_split (fun _ => ?_) (fun q => absurd ht q)
    refine wpAny_ite_split (fun q => absurd q (by simp)) (fun _ => ?_)
    refine wpAny_bind (setWalkT hS hf ht (wpAny_pure ?_))
    have hs0 : sl = 0 := by
      have : rawInt 0 = rawInt (sl : Int) := hsl
      unfold rawInt at this
      injection this with q _
      omega
    subst hs0
    refine h _ 0 rfl ?_ ?_
    · show Option.map (·.1) (Option.map (fun e => (e.2, 0)) (pickOrder (w.params.setOrder S ep) es)[i]?) = (((pickOrder (w.params.setOrder S ep) es).toList).map (·.2))[i]?
      rw [List.getElem?_map, Array.getElem?_toList]
      cases (pickOrder (w.params.setOrder S ep) es)[i]? <;> rfl
    · intro x j e
      cases q : (pickOrder (w.params.setOrder S ep) es)[i]? with
      | none => rw [q] at e; cases e
      | some y => rw [q] at e; cases e; rfl
  | tab ht hp =>
    refine wpAny_ite_split (fun q => absurd (ht.symm.trans q) (by decide)) (fun _ => ?_)
    refine wpAny_ite_split (fun q => absurd (hp.symm.trans q) (by decide)) (fun _ => ?_)
    refine wpAny_bind ?_
    have hled : (!t.led && !es.isEmpty) = false := by rw [hg.led ht]; rfl
    show wpAny _ _ (if (!t.led && !es.isEmpty) = true then _ else _) _ _ _
    rw [hled]
    refine wpAny_pure ?_
    have hz : t.place.size = es.size := by
      simp only [SetTable.fits, Bool.and_eq_true, beq_iff_eq] at hf
      exact hf.1
    have hs0 : sl = slotAt t.place i := by
      have : rawInt (slotAt t.place i) = rawInt (sl : Int) := hsl
      unfold rawInt at this
      injection this with q _
      omega
    subst hs0
    by_cases hpl : t.plain = true
    · have hb := below_slot (hg.ris hpl).1 (i := i) (by omega)
      rw [hb]
      refine wpAny_pure (h _ (slotAt t.place i) rfl ?_ ?_)
      · show _ = (es.toList.map (·.2))[i]?
        rw [List.getElem?_map, Array.getElem?_toList]
        rcases Nat.lt_or_ge i es.size with q | q
        · have q2 : i < t.place.size := by omega
          simp [q, q2]
        · have q2 : ¬ i < t.place.size := by omega
          simp [Nat.not_lt.mpr q, q2]
      · intro x j e
        rcases Nat.lt_or_ge i es.size with q | q
        · have q2 : i < t.place.size := by omega
          simp only [Array.getElem?_eq_getElem q, Array.getElem?_eq_getElem q2] at e
          cases e
          show rawInt (slotAt t.place (i + 1)) = rawInt _
          show rawInt ((t.place.getD i 0 + 1 : Nat) : Int) = _
          rw [getD_some (Array.getElem?_eq_getElem q2)]
        · rw [Array.getElem?_eq_none q] at e; cases e
    · have hsz : es.size ≤ 1 := by
        rcases Nat.lt_or_ge 1 es.size with q | q
        · have : t.plain = false := by cases hh : t.plain <;> simp_all
          rw [this] at hp
          simp at hp
          omega
        · exact q
      have hr : Ris t.place := fun a b x y ab e1 e2 => by
        have := (Array.getElem?_eq_some_iff.mp e2).1
        omega
      have hb := below_slot hr (i := i) (by omega)
      rw [hb]
      refine wpAny_pure (h _ (slotAt t.place i) rfl ?_ ?_)
      · show _ = (es.toList.map (·.2))[i]?
        rw [List.getElem?_map, Array.getElem?_toList]
        rcases Nat.lt_or_ge i es.size with q | q
        · have q2 : i < t.place.size := by omega
          simp [q, q2]
        · have q2 : ¬ i < t.place.size := by omega
          simp [Nat.not_lt.mpr q, q2]
      · intro x j e
        rcases Nat.lt_or_ge i es.size with q | q
        · have q2 : i < t.place.size := by omega
          simp only [Array.getElem?_eq_getElem q, Array.getElem?_eq_getElem q2] at e
          cases e
          show rawInt ((t.place.getD i 0 + 1 : Nat) : Int) = _
          rw [getD_some (Array.getElem?_eq_getElem q2)]
        · rw [Array.getElem?_eq_none q] at e; cases e
end
end L2.Fs
set_option Elab.async false
set_option linter.all false
set_option maxRecDepth 100000
namespace L2.Fs
open PySem PySem.Spec PyProof.Rows
section
variable {P : Program} {w : World} {A : Around} {E : Value → Shared → Prop} {s : Shared}
/-- the iterator of the set at S, i numbers told -/
structure SIt (w : World) (h : Heap) (I S : Addr) (es : Array (Int × Value)) (ep : Nat) (t : SetTable) (m : SMode w S es ep t) (i : Nat) : Prop where
  it : h.get? I = some (siO (m.first i) i S es.size ep)
  st : h.get? S = some (stO es ep t)
  tp : m.held h
variable {I S : Addr} {es : Array (Int × Value)} {ep : Nat} {t : SetTable} {m : SMode w S es ep t} {i : Nat}
theorem siNext_item (hf : t.fits es.size = true) (hg : TGood w t) (T : SIt w s.heap I S es ep t m i) (hi : i < es.size) {Q : Value → Shared → Prop}
    (h : ∀ v h', m.vals[i]? = some v → h'.get? I = some (siO (m.first (i + 1)) (i + 1) S es.size ep) → Heap.SameBut I s.heap h' → Q v { s with heap := h' }) :
    wpAny (model P w) A (Builtin.«set_iterator.__next__» ⟨[.ref I], []⟩) (fun fin s' => ∃ v, fin = .done (.ret v) ∧ Q v s') E s := by
  have step2 : ∀ (f' v : Value), (h' : ∀ g, g.get? I = some (siO f' (i + 1) S es.size ep) → Heap.SameBut I s.heap g → Q v { s with heap := g }) → wpAny (model P w) A (do setField (.ref I) 0 f'; setField (.ref I) 1 (rawInt ((i : Int) + 1)); ret v) (fun fin s' => ∃ v, fin = .done (.ret v) ∧ Q v s') E s := fun f' v hq => by
    refine wpAny_bind (wpAny_setField_rec T.it (by simp) fun g1 e1 s1 => wpAny_bind (wpAny_setField_rec (s := { s with heap := g1 }) e1 (by simp) fun g2 e2 s2 => wpAny_pure ⟨_, rfl, hq g2 ?_ (s1.trans s2)⟩))
    exact e2
  have step1 : ∀ (v : Value), (h' : ∀ g, g.get? I = some (siO (m.first i) (i + 1) S es.size ep) → Heap.SameBut I s.heap g → Q v { s with heap := g }) → wpAny (model P w) A (do setField (.ref I) 1 (rawInt ((i : Int) + 1)); ret v) (fun fin s' => ∃ v, fin = .done (.ret v) ∧ Q v s') E s := fun v hq => by
    refine wpAny_bind (wpAny_setField_rec T.it (by simp) fun g2 e2 s2 => wpAny_pure ⟨_, rfl, hq g2 ?_ s2⟩)
    exact e2
  have hv : m.vals[i]? = some (m.vals[i]'(by rw [m.len]; exact hi)) := List.getElem?_eq_getElem _
  unfold Builtin.«set_iterator.__next__»
  refine wpAny_bind (m := slotArgs "__next__" 0 _) (wpAny_pure ?_)
  refine wpAny_bind (wpAny_fieldsOf T.it rfl ?_)
  show wpAny _ _ (setEntries S >>= _) _ _ _
  refine wpAny_bind (wpAny_setEntries_of T.st rfl hf ?_)
  refine wpAny_ite_split (fun q => absurd q (by simp)) (fun _ => ?_)
  cases m with
  | text ht =>
    show wpAny _ _ (setNext S 0 i ep >>= _) _ _ _
    refine wpAny_bind (setNextM T.st hf hg (.text ht) (Nat.le_of_lt hi) (fun _ _ _ z => nomatch z) (fun o sl e1 e2 e3 => ?_) 0 rfl)
    cases o with
    | none => rw [hv] at e2; cases e2
    | some q =>
      obtain ⟨x, j⟩ := q
      have ej := e3 x j rfl
      show wpAny _ _ (do setField (.ref I) 0 (rawInt (j : Int)); setField (.ref I) 1 (rawInt ((i : Int) + 1)); ret x) _ _ _
      refine step2 _ x fun g e sb => h x g e2.symm ?_ sb
      rw [ej]; exact e
  | tab ht hp =>
    show wpAny _ _ (setNext S (slotAt t.place i) i ep >>= _) _ _ _
    refine wpAny_bind (setNextM T.st hf hg (.tab ht hp) (Nat.le_of_lt hi) (fun _ _ _ z => nomatch z) (fun o sl e1 e2 e3 => ?_) _ rfl)
    cases o with
    | none => rw [hv] at e2; cases e2
    | some q =>
      obtain ⟨x, j⟩ := q
      have ej := e3 x j rfl
      show wpAny _ _ (do setField (.ref I) 0 (rawInt (j : Int)); setField (.ref I) 1 (rawInt ((i : Int) + 1)); ret x) _ _ _
      refine step2 _ x fun g e sb => h x g e2.symm ?_ sb
      rw [ej]; exact e
  | drawn Ta ps hp =>
    have tp : s.heap.get? Ta = some { cls := .type "tuple", data := .seq (ps.map fun (i : Nat) => rawInt i).toArray } := T.tp
    show wpAny _ _ (seqItems? (.ref Ta) >>= _) _ _ _
    refine wpAny_bind (wpAny_seqItems tp rfl ?_)
    have hl : ps.length = es.size := by rw [hp.length_eq, List.length_range]
    have hpi : i < ps.length := by omega
    have hpe : ps[i] < es.size := List.mem_range.mp (hp.mem_iff.mp (List.getElem_mem hpi))
    have hget : (ps.map fun (i : Nat) => rawInt i).toArray[(i : Int).toNat]? = some (rawInt ps[i]) := by simp [hpi]
    dsimp only
    rw [hget]
    show wpAny _ _ (setNextDrawn S ps[i] ep >>= _) _ _ _
    refine wpAny_bind ?_
    unfold setNextDrawn
    refine wpAny_bind (wpAny_setState_of T.st rfl hf ?_)
    refine wpAny_ite_split (fun q => absurd q (by simp)) (fun _ => ?_)
    dsimp only
    rw [Array.getElem?_eq_getElem hpe]
    refine wpAny_pure ?_
    show wpAny _ _ (do setField (.ref I) 1 (rawInt ((i : Int) + 1)); ret es[ps[i]].2) _ _ _
    refine step1 _ fun g e sb => h _ g ?_ e sb
    show (ps.filterMap fun p => es[p]?.map (·.2))[i]? = _
    rw [fm_range ps (fun x hx => List.mem_range.mp (hp.mem_iff.mp hx)) i, List.getElem?_eq_getElem hpi]
    simp [hpe]
theorem siNext_end (hh : A.handled = none) (hf : t.fits es.size = true) (hg : TGood w t) (T : SIt w s.heap I S es ep t m es.size) {Q : Fin → Shared → Prop}
    (hE : ∀ h' e, Heap.ExtBut I s.heap h' → (∃ o, h'.get? e = some o ∧ o.cls = .type "StopIteration") → E (.ref e) { s with heap := h' }) :
    wpAny (model P w) A (Builtin.«set_iterator.__next__» ⟨[.ref I], []⟩) Q E s := by
  have hv : m.vals[es.size]? = none := List.getElem?_eq_none (by rw [m.len]; exact Nat.le_refl _)
  have stop : ∀ (g : Heap) {Q : Fin → Shared → Prop}, Heap.ExtBut I s.heap g → wpAny (model P w) A (do raiseNew (← newExc (.type "StopIteration") [])) Q E { s with heap := g } := fun g Q sb => by
    refine wpAny_bind ?_
    simp only [newExc, newTuple]; refine wpAny_bind (wpAny_newObj_type ?_ (by size_fits))
    refine wpAny_bind (m := firstArgMember _ _) (wpAny_of_eq (a := Value.none) (by first | rfl | (simp only [firstArgMember]; rfl)) ?_); refine wpAny_newObj_type ?_ (by size_fits)
    simp only [raiseNew]; refine wpAny_bind (wpAny_handled ?_)
    first | rw [show A.in1.handled = none from hh] | rw [hh]
    refine wpAny_bind (wpAny_pure (wpAny_throw ?_)); exact hE _ _ ((sb.push _).push _) ⟨_, Heap.get?_push_size _ rfl, rfl⟩
  have fin1 : ∀ {Q : Fin → Shared → Prop}, wpAny (model P w) A (do setField (.ref I) 2 .none; raiseNew (← newExc (.type "StopIteration") [])) Q E s := fun {Q} => wpAny_bind (wpAny_setField_rec T.it (by simp) fun g1 e1 s1 => stop g1 s1.extBut)
  unfold Builtin.«set_iterator.__next__»
  refine wpAny_bind (m := slotArgs "__next__" 0 _) (wpAny_pure ?_)
  refine wpAny_bind (wpAny_fieldsOf T.it rfl ?_)
  show wpAny _ _ (setEntries S >>= _) _ _ _
  refine wpAny_bind (wpAny_setEntries_of T.st rfl hf ?_)
  refine wpAny_ite_split (fun q => absurd q (by simp)) (fun _ => ?_)
  cases m with
  | text ht =>
    show wpAny _ _ (setNext S 0 es.size ep >>= _) _ _ _
    refine wpAny_bind (setNextM T.st hf hg (.text ht) (Nat.le_refl _) (fun _ _ _ z => nomatch z) (fun o sl e1 e2 e3 => ?_) 0 rfl)
    rw [hv] at e2
    cases o with
    | some q => cases e2
    | none => exact fin1
  | tab ht hp =>
    show wpAny _ _ (setNext S (slotAt t.place es.size) es.size ep >>= _) _ _ _
    refine wpAny_bind (setNextM T.st hf hg (.tab ht hp) (Nat.le_refl _) (fun _ _ _ z => nomatch z) (fun o sl e1 e2 e3 => ?_) _ rfl)
    rw [hv] at e2
    cases o with
    | some q => cases e2
    | none => exact fin1
  | drawn Ta ps hp =>
    have tp : s.heap.get? Ta = some { cls := .type "tuple", data := .seq (ps.map fun (i : Nat) => rawInt i).toArray } := T.tp
    show wpAny _ _ (seqItems? (.ref Ta) >>= _) _ _ _
    refine wpAny_bind (wpAny_seqItems tp rfl ?_)
    have hl : ps.length = es.size := by rw [hp.length_eq, List.length_range]
    have hget : (ps.map fun (i : Nat) => rawInt i).toArray[((es.size : Nat) : Int).toNat]? = none := by simp [hl]
    dsimp only
    rw [hget]
    show wpAny _ _ (do setField (.ref I) 0 (rawInt 0); setField (.ref I) 2 .none; raiseNew (← newExc (.type "StopIteration") [])) _ _ _
    refine wpAny_bind (wpAny_setField_rec T.it (by simp) fun g1 e1 s1 => wpAny_bind (wpAny_setField_rec (s := { s with heap := g1 }) e1 (by simp) fun g2 e2 s2 => stop g2 (s1.trans s2).extBut))
end
end L2.Fs
set_option Elab.async false
set_option linter.all false
set_option maxRecDepth 100000
namespace L2.Fs
open PySem PySem.Spec PyProof.Rows
theorem SIt.at {w : World} {h h' : Heap} {I S : Addr} {es : Array (Int × Value)} {ep : Nat} {t : SetTable} {m : SMode w S es ep t} {i : Nat} (T : SIt w h I S es ep t m i) (k : ∀ b ∈ I :: S :: m.fp, ∀ o, h.get? b = some o → h'.get? b = some o) : SIt w h' I S es ep t m i := by
  refine ⟨k _ (by simp) _ T.it, k _ (by simp) _ T.st, ?_⟩
  have tp := T.tp
  cases m with
  | drawn Ta ps hp => exact k Ta (by simp [SMode.fp]) _ tp
  | text _ => trivial
  | tab _ _ => trivial
section
variable {P : Program} {w : World} {A : Around} {E : Value → Shared → Prop} {s : Shared}
variable {I S : Addr} {es : Array (Int × Value)} {ep : Nat} {t : SetTable} {m : SMode w S es ep t} {i : Nat}
theorem SIt.next (hf : t.fits es.size = true) (hg : TGood w t) (dIS : S ≠ I) (dT : ∀ T ∈ m.fp, T ≠ I) (T : SIt w s.heap I S es ep t m i) (hi : i < es.size) {Q : Option Value → Shared → Prop}
    (h : ∀ v h', m.vals[i]? = some v → SIt w h' I S es ep t m (i + 1) → Heap.SameBut I s.heap h' → Q (some v) { s with heap := h' }) : wpAny (model P w) A (pyNext (.ref I)) Q E s := by
  have ty : s.TypeIs (.ref I) "set_iterator" := ⟨_, T.it, rfl⟩
  unfold pyNext
  refine wpAny_bind (wpAny_attempt (wpAny_callSpecial?_slot (name := Str.ofString "__next__") ty sl_si (wpAny_call_entry sl_si ty en_si (siNext_item hf hg T hi fun v h' e1 e2 sb => wpAny_pure (h v h' e1 ⟨e2, (sb.2 S dIS).trans T.st, ?_⟩ sb)) (ar_si _))))
  have tp := T.tp
  cases m with
  | drawn Ta ps hp => exact (sb.2 Ta (dT Ta (by simp [SMode.fp]))).trans tp
  | text _ => trivial
  | tab _ _ => trivial
theorem SIt.stop (hh : A.handled = none) (hf : t.fits es.size = true) (hg : TGood w t) (T : SIt w s.heap I S es ep t m es.size) {Q : Option Value → Shared → Prop} (h : ∀ h', Heap.ExtBut I s.heap h' → Q none { s with heap := h' }) : wpAny (model P w) A (pyNext (.ref I)) Q E s := by
  have ty : s.TypeIs (.ref I) "set_iterator" := ⟨_, T.it, rfl⟩
  unfold pyNext
  refine wpAny_bind (wpAny_attempt (wpAny_callSpecial?_slot (name := Str.ofString "__next__") ty sl_si (wpAny_call_entry sl_si ty en_si (siNext_end (A := A.in1) (show A.in1.handled = none from hh) hf hg T fun h' e hk he => ?_) (ar_si _))))
  obtain ⟨o, ho, hc⟩ := he
  exact wpAny_bind (wpAny_isInstance (T := "StopIteration") (b := true) ⟨o, ho, hc⟩ isSubtype_stop (wpAny_pure (h _ hk)))
theorem si_self {Q : Value → Shared → Prop} (T : SIt w s.heap I S es ep t m i) (h : Q (.ref I) s) : wpAny (model P w) A (pyIter (.ref I)) Q E s := by
  have ty : s.TypeIs (.ref I) "set_iterator" := ⟨_, T.it, rfl⟩
  refine wpAny_pyIter_slot ty sl_sii (wpAny_call_entry sl_sii ty en_sii ?_ (ar_sii _))
  show wpAny _ _ (ret (.ref I)) _ _ s
  exact wpAny_pure ⟨_, rfl, "set_iterator", _, ty, sl_si.lookup, h⟩
theorem si_walks (hh : A.handled = none) (hf : t.fits es.size = true) (hg : TGood w t) (dIS : S ≠ I) (dT : ∀ T ∈ m.fp, T ≠ I) : Walks P w A I (I :: S :: m.fp) [I] es.size (fun i v => m.vals[i]? = some v) (fun i h => SIt w h I S es ep t m i) where
  sub := fun b hb => by rw [List.mem_singleton.mp hb]; exact List.mem_cons_self ..
  frame := fun i h h' T k => T.at k
  item := fun i s Q E hi T k => T.next hf hg dIS dT hi fun v h' e1 T' sb => k v h' s.toks e1 T' fun b o hb e => (sb.2 b fun z => hb (by rw [z]; exact List.mem_cons_self ..)).trans e
  done := fun s Q E T k => T.stop hh hf hg fun h' ex => k h' s.toks fun b o hb e => ex b o (fun z => hb (by rw [z]; exact List.mem_cons_self ..)) e
  self := fun i s Q E T k => si_self T k
theorem si_iter (hS : s.heap.get? S = some (stO es ep t)) (hf : t.fits es.size = true) (hz : es.size ≤ sizeLine) {Q : Value → Shared → Prop}
    (h : ∀ (I : Addr) (h' : Heap) (d : Drawn) (m : SMode w S es ep t), SIt w h' I S es ep t m 0 → s.heap.objs.size ≤ I → (∀ T ∈ m.fp, s.heap.objs.size ≤ T ∧ T ≠ I) → (∀ c o, s.heap.get? c = some o → h'.get? c = some o) → Q (.ref I) { s with heap := h', drawn := d }) :
    wpAny (model P w) A (pyIter (.ref S)) Q E s := by
  have ty : s.TypeIs (.ref S) "set" := ⟨_, hS, rfl⟩
  refine wpAny_pyIter_slot ty PySem.F.slot_set_iter (wpAny_call_entry PySem.F.slot_set_iter ty en_sit ?_ (PySem.F.args_set_iter_1 _))
  unfold Builtin.«frozenset.__iter__» Builtin.Frozenset.slot0 Builtin.Frozenset.sizeOf
  refine wpAny_bind (wpAny_bind (m := slotArgs "__iter__" 0 _) (wpAny_pure (wpAny_pure ?_)))
  refine wpAny_bind (wpAny_bind (wpAny_setEntries_of hS rfl hf (wpAny_pure ?_)))
  have dr : ∀ {Q : Bool → Shared → Prop}, Q (!w.params.followText "set-order" && (!t.plain && decide (es.size > 1))) s → wpAny (model P w) A.in1 (setDrawn S) Q E s := fun {Q} q => by
    unfold setDrawn
    exact wpAny_bind (wpAny_setState_of hS rfl hf (wpAny_bind (setsText (wpAny_pure q))))
  refine wpAny_bind (dr ?_)
  refine wpAny_ite_split (fun hd => ?_) (fun hd => ?_)
  · refine wpAny_bind (drawOrder_ok es.size (List.range es.size) (by rw [List.length_range]) fun ps d hp => ?_)
    have hl : ps.length = es.size := by rw [hp.length_eq, List.length_range]
    refine wpAny_bind (wpAny_newTuple (s := { s with drawn := d }) ?_ (by rw [List.length_map, hl]; exact hz))
    have hS1 : (s.heap.push { cls := .type "tuple", data := .seq (ps.map fun (i : Nat) => rawInt i).toArray }).get? S = some (stO es ep t) := Heap.get?_push_of_some _ hS
    refine wpAny_bind (wpAny_setEpoch_of (s := { s with heap := _, drawn := d }) hS1 rfl hf ?_)
    refine wpAny_bind (wpAny_newObj_type (wpAny_pure ⟨_, rfl, "set_iterator", _, ⟨_, Heap.get?_push_size _ rfl, rfl⟩, sl_si.lookup, ?_⟩))
    refine h _ _ d (.drawn s.heap.objs.size ps hp) ⟨Heap.get?_push_size _ rfl, Heap.get?_push_of_some _ hS1, Heap.get?_push_of_some _ (Heap.get?_push_size _ rfl)⟩ (by show s.heap.objs.size ≤ (s.heap.push _).objs.size; rw [Heap.size_push]; exact Nat.le_succ _) (fun T hT => ?_) fun c o e => Heap.get?_push_of_some _ (Heap.get?_push_of_some _ e)
    have : T = s.heap.objs.size := by simpa [SMode.fp] using hT
    subst this
    exact ⟨Nat.le_refl _, by show s.heap.objs.size ≠ (s.heap.push _).objs.size; rw [Heap.size_push]; exact Nat.ne_of_lt (Nat.lt_succ_self _)⟩
  · refine wpAny_bind (wpAny_pure ?_)
    refine wpAny_bind (wpAny_setEpoch_of hS rfl hf ?_)
    refine wpAny_bind (wpAny_newObj_type (wpAny_pure ⟨_, rfl, "set_iterator", _, ⟨_, Heap.get?_push_size _ rfl, rfl⟩, sl_si.lookup, ?_⟩))
    cases ht : w.params.followText "set-order" with
    | true => exact h _ _ s.drawn (.text ht) ⟨Heap.get?_push_size _ rfl, Heap.get?_push_of_some _ hS, trivial⟩ (Nat.le_refl _) (fun T hT => by cases hT) fun c o e => Heap.get?_push_of_some _ e
    | false =>
      have hp : (!t.plain && decide (es.size > 1)) = false := by
        rw [ht] at hd
        cases q : (!t.plain && decide (es.size > 1)) with
        | false => rfl
        | true => exact absurd (by rw [q]; rfl) hd
      exact h _ _ s.drawn (.tab ht hp) ⟨Heap.get?_push_size _ rfl, Heap.get?_push_of_some _ hS, trivial⟩ (Nat.le_refl _) (fun T hT => by cases hT) fun c o e => Heap.get?_push_of_some _ e
theorem hintS {Q : Bool → Shared → Prop} (hT : s.TypeIs (.ref S) "set") (h : Q false s) : wpAny (model P w) A (Builtin.List.listLengthHint (.ref S)) Q E s := by
  unfold Builtin.List.listLengthHint
  refine wpAny_bind (wpAny_specialOf hT PySem.F.slot_set_len.lookup ?_)
  generalize hid : ("set.__len__" : String) = id0
  wp_delta
  rw [show splitId id0 = some ("set", "__len__") from by subst hid; decide +kernel]; subst hid
  refine wpAny_bind (wpAny_isInstance (T := "set") (b := true) hT (by rw [isSubtype_type]; kernel_rfl) ?_)
  refine wpAny_ite_split (fun hab => absurd hab (by decide)) (fun _ => wpAny_ite_split (fun _ => wpAny_bind (wpAny_typeOf hT (wpAny_pure h))) (fun hab => absurd (by decide +kernel) hab))
end
end L2.Fs
set_option Elab.async false
set_option linter.all false
set_option maxRecDepth 100000
namespace L2.Fs
open PySem PySem.Spec PyProof.Rows
section
variable {P : Program} {w : World} {A : Around} {E : Value → Shared → Prop} {s : Shared} {S : Addr} {ks : List Int}
theorem collectS {R : List Value → Shared → Prop} (hh : A.handled = none) (hS : SetC P w s.heap S ks)
    (h : ∀ (h' : Heap) (d : Drawn) (tk : Nat) (vs : List Value) (ns : List Int), (∀ b o, s.heap.get? b = some o → h'.get? b = some o) → s.heap.objs.size < h'.objs.size → IntsAre vs ns → ns.Perm ks → R vs { s with heap := h', drawn := d, toks := tk }) :
    wpAny (model P w) A (collect (.ref S)) R E s := by
  obtain ⟨es, ep, t, ks0, ho, B, hp⟩ := hS
  have hz : es.size ≤ sizeLine := fits_of_scanBound B.few
  have hSl : S < s.heap.objs.size := Heap.lt_size ho
  unfold collect
  refine wpAny_bind (wpAny_runValue (codeAny_builtin entry_proto_collect' ?_))
  rw [Around.under_plainId PySem.F.plain_proto_collect _]; show wpAny _ A.in1 (newList [] >>= fun l => again (.builtin "list.__iadd__" ⟨[l, .ref S], []⟩)) _ _ s
  refine wpAny_bind (wpAny_newObj_type (wpAny_pure ⟨plainId_quiet PySem.F.plain_list_iadd _, codeAny_builtin entry_list_iadd' ?_⟩))
  rw [Around.under_plainId PySem.F.plain_list_iadd _]
  have hL : (s.heap.push { cls := .type "list", data := .seq ([] : List Value).toArray }).get? s.heap.objs.size = some { cls := .type "list", data := .seq #[] } := Heap.get?_push_size _ rfl
  have ho1 : (s.heap.push { cls := .type "list", data := .seq ([] : List Value).toArray }).get? S = some (stO es ep t) := Heap.get?_push_of_some _ ho
  show wpAny _ A.in1 (Builtin.List.listExtendWith (.ref s.heap.objs.size) (.ref S) (.ref s.heap.objs.size)) _ _ _
  unfold Builtin.List.listExtendWith
  have ty1 : Shared.TypeIs { s with heap := s.heap.push { cls := .type "list", data := .seq ([] : List Value).toArray } } (.ref S) "set" := ⟨_, ho1, rfl⟩
  refine wpAny_bind (wpAny_typeOf (T := "set") ty1 ?_)
  have d1 : Builtin.List.listSameRef (.ref s.heap.objs.size) (.ref S) = false := by simp [Builtin.List.listSameRef, Nat.ne_of_gt hSl]
  have d2 : (Value.type "set" == Value.type "list") = false := by decide
  have d3 : (Value.type "set" == Value.type "tuple") = false := by decide
  simp only [d1, d2, d3, Bool.or_false, Bool.false_eq_true, if_false]
  refine wpAny_bind (si_iter (s := { s with heap := s.heap.push { cls := .type "list", data := .seq ([] : List Value).toArray } }) ho1 B.fits hz fun I h1 dr m T0 hI hT kp => ?_)
  have sz1 : (s.heap.push { cls := .type "list", data := .seq ([] : List Value).toArray }).objs.size = s.heap.objs.size + 1 := Heap.size_push ..
  have hI' : s.heap.objs.size + 1 ≤ I := by rw [← sz1]; exact hI
  have dLI : s.heap.objs.size ≠ I := by omega
  have dSI : S ≠ I := Nat.ne_of_lt (Nat.lt_of_lt_of_le hSl (Nat.le_trans (Nat.le_succ _) hI'))
  have dLT : ∀ T ∈ m.fp, s.heap.objs.size ≠ T := fun T q => Nat.ne_of_lt (show s.heap.objs.size + 1 ≤ T by rw [← sz1]; exact (hT T q).1)
  have nL : s.heap.objs.size ∉ I :: S :: m.fp := by
    simp only [List.mem_cons, not_or]
    exact ⟨dLI, Nat.ne_of_gt hSl, fun q => dLT _ q rfl⟩
  have ty2 : Shared.TypeIs { s with heap := h1, drawn := dr } (.ref S) "set" := ⟨_, T0.st, rfl⟩
  refine wpAny_bind (wpAny_holding (hintS ty2 ?_))
  have W := (si_walks (P := P) (A := A.in1) (I := I) (m := m) hh B.fits B.good dSI (fun T q => (hT T q).2)).toS
  have key : ∀ (g : Heap) (c : Nat), (∀ b o, b ≠ s.heap.objs.size → h1.get? b = some o → g.get? b = some o) → g.get? s.heap.objs.size = some { cls := .type "list", data := .seq #[] c } →
      codeAny (model P w) A (.builtin "list.extend.loop" ⟨[.ref s.heap.objs.size, .ref I, .ref s.heap.objs.size], []⟩) (fun r s' => ∃ acc c', r = .ok (.ret (.ref s.heap.objs.size)) ∧ s'.heap.get? s.heap.objs.size = some { cls := .type "list", dict := none, data := .seq acc c', slots := #[] } ∧ R acc.toList s') { s with heap := g, drawn := dr } := fun g c kg hLg => by
    have Tg : SIt w g I S es ep t m 0 := T0.at fun b hb o e => kg b o (fun z => nL (z ▸ hb)) e
    refine codeAny_extend_loopS W hz s.heap.objs.size nL (.ref s.heap.objs.size) es.size 0 { s with heap := g, drawn := dr } #[] c rfl (Nat.zero_le _) Tg hLg (ItemsOf.nil _) fun s' acc c' mv hL' hacc => ?_
    refine ⟨acc, c', rfl, hL', ?_⟩
    have evs : acc.toList = m.vals := by
      apply List.ext_getElem?
      intro j
      rcases Nat.lt_or_ge j acc.size with q | q
      · have g := hacc.2 j acc[j] (Array.getElem?_eq_getElem q)
        rw [g, Array.getElem?_toList, Array.getElem?_eq_getElem q]
      · rw [Array.getElem?_toList, Array.getElem?_eq_none q, List.getElem?_eq_none]
        rw [m.len, ← hacc.1]; exact q
    obtain ⟨ns, i1, p1⟩ := ints_perm m.perm B.is
    have hfin := h s'.heap dr s'.toks acc.toList ns (fun b o e => mv.heap b o (fun q => ?_) (kg b o (Nat.ne_of_lt (Heap.lt_size e)) (kp b o (Heap.get?_push_of_some _ e)))) (Heap.lt_size hL') (by rw [evs]; exact i1) (p1.trans hp)
    · have e1 : s'.gens = s.gens := mv.gens
      have e2 : s'.drawn = dr := mv.drawn
      have e3 : s'.os = s.os := mv.os
      obtain ⟨a1, a2, a3, a4, a5⟩ := s'
      simp only at e1 e2 e3
      subst e1 e2 e3
      exact hfin
    · have hb : b < s.heap.objs.size := Heap.lt_size e
      rcases List.mem_cons.mp q with z | z
      · exact absurd z (Nat.ne_of_lt hb)
      · exact absurd (List.mem_singleton.mp z) (Nat.ne_of_lt (Nat.lt_of_lt_of_le hb (Nat.le_trans (Nat.le_succ _) hI')))
  have hL1 := kp _ _ hL
  have fin : ∀ (r : Result) (s' : Shared), (∃ acc c', r = .ok (.ret (.ref s.heap.objs.size)) ∧ s'.heap.get? s.heap.objs.size = some { cls := .type "list", dict := none, data := .seq acc c', slots := #[] } ∧ R acc.toList s') → (match r with
      | .ok (.ret v) => wpAny (model P w) A (match v with
          | .ref a => do match (← load a).data with
            | .seq xs _ => pure xs.toList
            | _ => unsupported "internal:collect"
          | _ => unsupported "internal:collect") R E s'
      | .ok _ => False
      | .error e => E e s') := by
    rintro r s' ⟨acc, c', rfl, e, q⟩
    exact wpAny_bind (wpAny_load e (wpAny_pure q))
  refine wpAny_ite_split (fun _ => ?_) (fun _ => wpAny_pure ⟨plainId_quiet PySem.F.plain_extend_loop _, codeAny_mono (key h1 0 (fun b o _ e => e) hL1) fun r s' x => fin r s' x⟩)
  refine wpAny_bind (wpAny_rule (wpAny_bind ?_))
  show wpAny _ _ (updateSeq s.heap.objs.size (·.push .none) >>= fun _ => updateSeq s.heap.objs.size (·.pop)) _ _ _
  refine wpAny_bind (wpAny_updateSeq hL1 rfl ?_)
  have hL2 := Heap.get?_update_self (Obj.mapSeq (·.push Value.none)) hL1 rfl
  refine wpAny_updateSeq (hz := by seq_fits) hL2 rfl ?_
  have hL3 := Heap.get?_update_self (Obj.mapSeq (·.pop)) hL2 rfl
  refine wpAny_pure ⟨plainId_quiet PySem.F.plain_extend_loop _, codeAny_mono (key _ _ (fun b o hb e => ?_) hL3) fun r s' x => fin r s' x⟩
  exact (Heap.get?_update_other _ _ (Ne.symm hb)).trans ((Heap.get?_update_other _ _ (Ne.symm hb)).trans e)
theorem sortS {Q : Value → Shared → Prop} (hh : A.handled = none) (hS : SetC P w s.heap S ks)
    (h : ∀ (h' : Heap) (d : Drawn) (tk : Nat) (D : Addr) (c : Nat) (out : List Value) (ns : List Int), (∀ b o, s.heap.get? b = some o → h'.get? b = some o) → s.heap.objs.size ≤ D → h'.get? D = some { cls := .type "list", data := .seq out.toArray c } → IntsAre out ns → ns.Perm ks → ns.Pairwise (· ≤ ·) →
      Q (.ref D) { s with heap := h', drawn := d, toks := tk }) : wpAny (model P w) A (call (.builtin "sorted") [.ref S]) Q E s := by
  refine Calls.call_function_entry kind_sorted plain_sorted entry_sorted (args_sorted1 _) ?_
  unfold Builtin.«sorted»
  refine wpAny_bind (m := checkCount "sorted" 1 1 _) (wpAny_pure (wpAny_bind (collectS (A := A.in1) hh hS fun h1 d tk vs ns kp hlt iv pv => ?_)))
  have hfew : ks.length < scanBound := by
    obtain ⟨es, ep, t, ks0, ho, B, hp⟩ := hS
    have := IntsAre.length B.is
    rw [List.length_map, Array.length_toList] at this
    rw [← hp.length_eq, ← this]; exact B.few
  have hln : vs.length ≤ sizeLine := by rw [IntsAre.length iv, pv.length_eq]; exact fits_of_scanBound hfew
  refine wpAny_bind (wpAny_newList (s := { s with heap := h1, drawn := d, toks := tk }) ?_ hln)
  have hD : (h1.push (seqObj "list" vs.toArray 0)).get? h1.objs.size = some (seqObj "list" vs.toArray 0) := Heap.get?_push_size _ rfl
  refine wpAny_bind (wpAny_holding (wpAny_call_entry (s := { s with heap := h1.push (seqObj "list" vs.toArray 0), drawn := d, toks := tk }) slot_list_sort ⟨_, hD, rfl⟩ entry_list_sort (list_sort_treeAny hD iv hln fun out ns' a1 a2 a3 => ⟨_, rfl, ?_⟩) (args_list_sort _)))
  obtain ⟨ep, he'⟩ := sortedHeap_at (vs := vs) (out := out) hD
  refine wpAny_pure ⟨_, rfl, h _ d tk h1.objs.size ep out.toList ns' (fun b o e => ?_) ?_ he' a1 (a2.trans pv) a3⟩
  · have hb : b < h1.objs.size := Heap.lt_size (kp b o e)
    have hb1 : b < (h1.push (seqObj "list" vs.toArray 0)).objs.size := by rw [size_push']; exact Nat.lt_succ_of_lt hb
    rw [sortedHeap_old (Nat.ne_of_lt hb) hb1]
    exact Heap.get?_push_of_some _ (kp b o e)
  · exact Nat.le_of_lt hlt
end
end L2.Fs
set_option Elab.async false
set_option linter.all false
set_option maxRecDepth 100000
namespace L2.Fs
open PySem PySem.Spec PyProof.Rows
def SetO (P : Program) (w : World) (a : Addr) (ks : List Int) : HO := .ext fun h => SetC P w h a ks
theorem setO_ok {P : Program} {w : World} {H : Hp} {h : Heap} {a : Addr} {ks : List Int} (S : SetC P w h a ks) : ObjOk P w H h a (SetO P w a ks) :=
  ⟨S, (by obtain ⟨es, ep, t, k, ho, _⟩ := S; exact ⟨_, ho⟩), fun h1 h2 s k => s.at k⟩
theorem Inv.drawn {X : Cx} {pins : List (Addr × Obj)} {σ : St} {H : Hp} {s : Shared} (I : Inv X pins σ H s) (d : Drawn) : Inv X pins σ H { s with drawn := d } :=
  ⟨I.ok, I.os, I.bare, I.base, I.loc, I.cell, I.free, I.freeC, I.pin, I.hok, I.len⟩
def rSortSet (X : Cx) : List V → Hp → VK → Prop := fun vs H Q => ∃ (a : Addr) (ks : List Int), vs = [.ref a] ∧ H a = some (SetO X.prog X.w a ks) ∧ ks.length < 4096 ∧ ∀ (ns : List Int) (p : Addr), ns.Perm ks → ns.Pairwise (· ≤ ·) → H p = none → Q (.ref p) (upd H p (.lst (ns.map V.int)))
section
variable {X : Cx}
theorem cr_sortSet (hc : X.calm = true) : CallR X (.builtin "sorted") (rSortSet X) := by
  intro pins s σ H vs us Q I r h
  obtain ⟨a, ks, rfl, hs, hl, q⟩ := h
  rw [Vals.ref1 r]
  have S : SetC X.prog X.w s.heap a ks := (I.hok a _ hs).1
  refine sortS (I.ok.hd hc) S fun h' d tk D c out ns kp hD he i1 i2 i3 => ?_
  have hlen : (ns.map V.int).length ≤ sizeLine := by rw [List.length_map, i2.length_eq]; exact fits_of_scanBound hl
  have I2 : Inv X pins σ (upd H D (.lst (ns.map V.int))) { s with heap := h', toks := tk } := I.laid (t' := tk) kp hD ⟨hlen, out, c, vals_of_ints i1, he⟩
  exact ⟨.ref D, _, Inv.drawn I2 d, rfl, q ns D i2 i3 (I.hok.fresh hD)⟩
end
def srt (ns : List Int) : List Int := ns.mergeSort
theorem srt_perm (ns : List Int) : (srt ns).Perm ns := List.mergeSort_perm _ _
theorem srt_pw (ns : List Int) : (srt ns).Pairwise (· ≤ ·) := by
  have := List.pairwise_mergeSort (le := fun (a b : Int) => decide (a ≤ b)) (fun a b c h1 h2 => by simp at *; omega) (fun a b => by simp; omega) ns
  exact this.imp fun h => by simpa using h
theorem srt_eq {a ns : List Int} (h : a.Perm ns) (p : a.Pairwise (· ≤ ·)) : a = srt ns := PySem.W.ksm_same (h.trans (srt_perm ns).symm) p (srt_pw ns)
/-- sorted(set(x)) -/
def ssD (ns : List Int) : List Int := srt (ns.foldl insK [])
end L2.Fs
set_option Elab.async false
set_option linter.all false
set_option maxRecDepth 100000
namespace L2.Fs
open PySem PySem.Spec PyProof.Rows
def rngI (lo : Int) (n : Nat) : List Int := (List.range n).map fun (k : Nat) => lo + (k : Int)
theorem rngI_len (lo : Int) (n : Nat) : (rngI lo n).length = n := by unfold rngI; simp
theorem items_ints : ∀ (vs : List Value) (f : Nat → Int) (n : Nat), vs.length = n → (∀ (j : Nat) (v : Value), vs[j]? = some v → ∃ t, v = .int (f j) t) → IntsAre vs ((List.range n).map f)
  | [], f, n, hn, h => by subst hn; exact .nil
  | v :: vs, f, n, hn, h => by
    subst hn
    obtain ⟨t, rfl⟩ := h 0 v rfl
    have ih := items_ints vs (fun j => f (j + 1)) vs.length rfl (fun j u e => h (j + 1) u (by simpa using e))
    rw [List.length_cons, List.range_succ_eq_map, List.map_cons, List.map_map]
    exact .cons _ t ih
section
variable {P : Program} {w : World} {A : Around} {E : Value → Shared → Prop} {s : Shared}
theorem collectRg {R : List Value → Shared → Prop} {r : Addr} {a b : Int} {t u v : Tok} {n : Nat} (hh : A.handled = none) (hr : IsRange s.heap r a b 1 t u v) (hsm : Builtin.Range.small a b 1 = true) (hn : Builtin.Range.rangeSize a b 1 = n) (hl : n ≤ 2 ^ 24)
    (h : ∀ (h' : Heap) (tk : Nat) (vs : List Value), (∀ c o, s.heap.get? c = some o → h'.get? c = some o) → s.heap.objs.size ≤ h'.objs.size → IntsAre vs (rngI a n) → R vs { s with heap := h', toks := tk }) :
    wpAny (model P w) A (collect (.ref r)) R E s := by
  unfold collect
  refine wpAny_bind (wpAny_runValue (codeAny_builtin entry_proto_collect' ?_))
  rw [Around.under_plainId PySem.F.plain_proto_collect _]; show wpAny _ A.in1 (newList [] >>= fun l => again (.builtin "list.__iadd__" ⟨[l, .ref r], []⟩)) _ _ s
  refine wpAny_bind (wpAny_newObj_type (wpAny_pure ⟨plainId_quiet PySem.F.plain_list_iadd _, codeAny_builtin entry_list_iadd' ?_⟩))
  rw [Around.under_plainId PySem.F.plain_list_iadd _]
  have hL : (s.heap.push { cls := .type "list", data := .seq ([] : List Value).toArray }).get? s.heap.objs.size = some { cls := .type "list", data := .seq #[] } := Heap.get?_push_size _ rfl
  show wpAny _ A.in1 (Builtin.List.listExtendWith (.ref s.heap.objs.size) (.ref r) (.ref s.heap.objs.size)) _ _ _
  have key := wpAny_extend_range (prog := P) (w := w) (A := A) (s := { s with heap := s.heap.push { cls := .type "list", data := .seq ([] : List Value).toArray } })
    (R := fun (q : Result) (s' : Shared) => ∃ (acc : Array Value) (c' : Nat), q = .ok (.ret (.ref s.heap.objs.size)) ∧ s'.heap.get? s.heap.objs.size = some { cls := .type "list", dict := none, data := .seq acc c', slots := #[] } ∧ R acc.toList s')
    hh (Heap.get?_push_of_some _ hr) hsm hn hl s.heap.objs.size (.ref s.heap.objs.size) 0 hL
    (fun h' tk acc c' hk hS hacc => ⟨acc, c', rfl, hS, h h' tk acc.toList (fun c o e => hk c o (Nat.ne_of_lt (Heap.lt_size e)) (Heap.get?_push_of_some _ e)) (Nat.le_of_lt (Heap.lt_size hS)) (by
      refine items_ints _ _ _ (by rw [Array.length_toList]; exact hacc.1) fun j v e => ?_
      obtain ⟨t, e'⟩ := hacc.2 j v (by rw [← Array.getElem?_toList]; exact e)
      exact ⟨t, by rw [e', Int.mul_one]⟩)⟩)
  refine wpAny_mono key (fun fin s' x => ?_) fun e s' x => ?_
  · cases fin with
    | done f =>
      obtain ⟨acc, c', e, hS, q⟩ := x
      cases e
      exact wpAny_bind (wpAny_load hS (wpAny_pure q))
    | again c₁ =>
      refine ⟨x.1, codeAny_mono x.2 fun q s₂ y => ?_⟩
      obtain ⟨acc, c', rfl, hS, q⟩ := y
      exact wpAny_bind (wpAny_load hS (wpAny_pure q))
  · obtain ⟨_, _, e', _⟩ := x
    cases e'
theorem tupNewRg {Q : Value → Shared → Prop} {r : Addr} {a b : Int} {t u v : Tok} {n : Nat} (hh : A.handled = none) (hr : IsRange s.heap r a b 1 t u v) (hsm : Builtin.Range.small a b 1 = true) (hn : Builtin.Range.rangeSize a b 1 = n) (hl : n ≤ 2 ^ 24)
    (hQ : ∀ (h' : Heap) (tk : Nat) (vs : List Value), (∀ c o, s.heap.get? c = some o → h'.get? c = some o) → s.heap.objs.size ≤ h'.objs.size → IntsAre vs (rngI a n) → Q (.ref h'.objs.size) { s with heap := h'.push { cls := .type "tuple", data := .seq vs.toArray }, toks := tk }) :
    codeAny (model P w) A (.call (.builtin "tuple.__new__") ⟨[.type "tuple", .ref r], []⟩) (wants Q E) s := by
  refine codeAny_of_tree ?_
  show wpAny _ A.in1 (do checkBuiltinCall "tuple.__new__" ⟨[.type "tuple", .ref r], []⟩; again (.builtin "tuple.__new__" ⟨[.type "tuple", .ref r], []⟩)) _ _ s
  refine wpAny_bind (wpAny_of_eq (PySem.F.newCall_tuple_1 _) (wpAny_pure ⟨plainId_quiet PySem.F.plain_tuple_new _, codeAny_builtin PySem.F.entry_tuple_new ?_⟩))
  rw [Around.under_plainId PySem.F.plain_tuple_new _]
  have q1 := sub_tuple_self
  have q2 := init_tuple_lookup
  have q3 := madeHere_tuple
  have q4 : s.TypeIs (.ref r) "range" := ⟨_, hr, rfl⟩
  wp_walk using wpAny_typeOf q4, collectRg (P := P) (w := w) (A := A.in1) (by simp [hh]) hr hsm hn hl
  intro h' tk vs kp hsz iv
  show wpAny _ _ (Builtin.Tuple.tupleExact vs.toArray >>= fun v => ret v) _ _ _
  unfold Builtin.Tuple.tupleExact
  refine wpAny_bind (wpAny_newObj_type ?_ (by show vs.toArray.size ≤ sizeLine; rw [List.size_toArray, IntsAre.length iv, rngI_len, sizeLine_eq]; omega))
  exact wpAny_pure (hQ h' tk vs kp hsz iv)
theorem tupRg {Q : Value → Shared → Prop} {r : Addr} {a b : Int} {t u v : Tok} {n : Nat} (hh : A.handled = none) (hr : IsRange s.heap r a b 1 t u v) (hsm : Builtin.Range.small a b 1 = true) (hn : Builtin.Range.rangeSize a b 1 = n) (hl : n ≤ 2 ^ 24)
    (hQ : ∀ (h' : Heap) (tk : Nat) (vs : List Value), (∀ c o, s.heap.get? c = some o → h'.get? c = some o) → s.heap.objs.size ≤ h'.objs.size → IntsAre vs (rngI a n) → Q (.ref h'.objs.size) { s with heap := h'.push { cls := .type "tuple", data := .seq vs.toArray }, toks := tk }) :
    wpAny (model P w) A (call (.type "tuple") [.ref r]) Q E s := by
  refine callType_codes (Q₁ := fun obj s₁ => s₁.TypeIs obj "tuple" ∧ Q obj s₁) PySem.F.called_tuple (PySem.F.typeCall_tuple_1 _) PySem.F.entry_object_init ?_ fun obj s₁ h₁ => ?_
  · exact tupNewRg (by simp [hh]) hr hsm hn hl fun h' tk vs kp hz iv => ⟨⟨_, Heap.get?_push_size _ rfl, rfl⟩, hQ h' tk vs kp hz iv⟩
  · exact ⟨h₁.1, PySem.F.args_object_init_2 obj _, object_init_meets PySem.F.called_tuple.init.lookup PySem.F.called_tuple.made (by decide) P w A.in1 _ s₁ ⟨h₁.1, rfl, h₁.2⟩⟩
end
end L2.Fs
set_option Elab.async false
set_option linter.all false
set_option maxRecDepth 100000
namespace L2.Fs
open PySem PySem.Spec PyProof.Rows
section
variable {X : Cx}
theorem cr_rng1 : CallR X (.type "range") (fun vs H Q => ∃ j : Int, vs = [.int j] ∧ ∀ p, H p = none → Q (.ref p) (upd H p (.rng 0 j))) := by
  intro pins s σ H vs us Q I r h
  obtain ⟨j, rfl, q⟩ := h
  cases r with | cons r rr => ?_
  cases rr
  obtain ⟨t, rfl⟩ := r
  refine call_range_1 ?_
  exact ⟨.ref _, _, I.laid (o := .rng 0 j) (t' := s.toks + 1 + 1) (fun b o e => Heap.get?_push_of_some _ e) (Nat.le_refl _) ⟨_, _, _, Heap.get?_push_size _ rfl⟩, rfl, q _ (I.hok.fresh (Nat.le_refl _))⟩
theorem cr_tupRg (hc : X.calm = true) : CallR X (.type "tuple") (fun vs H Q => ∃ (a : Addr) (j : Int), vs = [.ref a] ∧ H a = some (.rng 0 j) ∧ -(2 ^ 62) ≤ j ∧ j < 2 ^ 24 ∧ ∀ p, H p = none → Q (.ref p) (upd H p (.tup ((rngI 0 j.toNat).map V.int)))) := by
  intro pins s σ H vs us Q I r h
  obtain ⟨a, j, rfl, ha, h1, h2, q⟩ := h
  rw [Vals.ref1 r]
  obtain ⟨t, u, v, hr⟩ := I.hok a _ ha
  have hn : Builtin.Range.rangeSize 0 j 1 = (j.toNat : Int) := by rw [rangeSize_one]; split <;> omega
  refine tupRg (n := j.toNat) (I.ok.hd hc) hr (small_one (by omega) (by omega) h1 (by omega)) hn (by omega) fun h' tk vs kp hz iv => ?_
  have hlen : ((rngI 0 j.toNat).map V.int).length ≤ sizeLine := by rw [List.length_map, rngI_len, sizeLine_eq]; omega
  exact ⟨.ref _, _, I.laid (o := .tup ((rngI 0 j.toNat).map V.int)) (t' := tk) (fun b o e => Heap.get?_push_of_some _ (kp b o e)) hz ⟨hlen, vs, vals_of_ints iv, ⟨_, Heap.get?_push_size _ rfl, rfl, _, rfl⟩⟩, rfl, q _ (I.hok.fresh hz)⟩
end
def hTupRng : F1 := fun d => match d with
  | .int j => if -(2 ^ 62) ≤ j ∧ j < 2 ^ 24 then .ok (.tuple ((rngI 0 j.toNat).map .int), false) else .bad
  | _ => .bad
theorem boot_range0 : bootBuiltins "range" = some (.type "range") := by decide +kernel
section
variable {X : Cx} {H0 F0 : Hp} {a : Expr} {f : XF} {pos p p2 pos2 : Pos}
theorem pv_tupRng (hc : X.calm = true) (hg : Gl X "tuple") (hm : X.mg "tuple" = none) (hg2 : Gl X "range") (hm2 : X.mg "range" = none) (ha : PV X H0 F0 a f) (he : starEach [a] X.env = [(false, eval a X.env)])
    (he2 : starEach [.Call (.Name "range" p2) [a] [] pos2] X.env = [(false, eval (.Call (.Name "range" p2) [a] [] pos2) X.env)]) : PV X H0 F0 (.Call (.Name "tuple" p) [.Call (.Name "range" p2) [a] [] pos2] [] pos) (x1 hTupRng f) := by
  intro σ z hz
  obtain ⟨r1, e1, hz⟩ := O.of_bind hz
  obtain ⟨w, e2, hz⟩ := O.of_bind hz
  cases hz
  unfold hTupRng at e2
  split at e2
  · rename_i j hj
    split at e2
    · rename_i hl
      cases e2
      refine PE.of (L2.pe_callTy (cr_tupRg hc) hg hm boot_tuple (pa_cons (L2.pe_callTy cr_rng1 hg2 hm2 boot_range0 (pa_cons (ha σ r1 e1) pa_nil he) (by decide) (by decide) he rfl) pa_nil he2) (by decide) (by decide) he2 rfl) fun σV H Q ⟨F, E, k⟩ => ⟨F, E, fun F1 H1 v E1 s1 q1 => ?_⟩
      obtain ⟨F1', s1', E1', rx⟩ := q1.frozen E1
      rw [hj] at rx
      cases rx
      refine ⟨j, rfl, fun q hq => ⟨q, j, rfl, upd_same, hl.1, hl.2, fun q2 hq2 => ?_⟩⟩
      have E2 := E1'.laid (.rng 0 j) hq
      obtain ⟨E3, s3⟩ := E2.laidF (.tup ((rngI 0 j.toNat).map V.int)) hq2
      exact k _ _ _ E3 ((s1.trans s1').trans s3) (.tup (.inl (.inl upd_same)) (rps_ints _))
    · cases e2
  · cases e2
/-- {} -/
def xDct : XF := fun σ => .ok ⟨.dict [], true, σ⟩
theorem pv_dnew : PV X H0 F0 (.Dict [] [] pos) xDct := by
  intro σ z hz
  cases hz
  refine PE.of pe_dnewK fun σV H Q ⟨F, E, k⟩ l hl => ?_
  exact k F _ _ (E.laid (.dK []) hl) (Same.refl _) ⟨⟨l, rfl, Same.free E.fh hl, Same.free E.h0 hl, .inr ⟨[], [], rfl, upd_same, .nil⟩⟩, fun i s h hm => E.fresh hl i s h hm⟩
end
end L2.Fs
set_option Elab.async false
set_option linter.all false
set_option maxRecDepth 100000
namespace L2.Fs
open PySem PySem.Spec PyProof.Rows
def ftOf (tabs : List (Addr × Addr)) : Hp := fun b => if b ∈ tabs.map (·.2) then some (TabO b) else none
theorem ftOf_mem {tabs : List (Addr × Addr)} {c P : Addr} (h : (c, P) ∈ tabs) : ftOf tabs P = some (TabO P) := if_pos (List.mem_map.mpr ⟨_, h, rfl⟩)
theorem codeB_of {h : Heap} {c P : Addr} {ps : Array Value} (a : h.IsCode c P ps) (b : h.TableAt c P ps) : CodeB h c P := by
  obtain ⟨o, vs, file, tf, flags, tg, inF, text, tt, op, h1, h2, h3, h4, h5, h6, h7, h8, h9, h10, h11⟩ := a
  obtain ⟨⟨o', vs', g1, g2, g3, g4⟩, _⟩ := b
  rw [h1] at g1
  cases g1
  rw [h2] at g3
  cases g3
  exact ⟨o, vs, file, tf, flags, tg, inF, text, tt, h1, g2, h2, h3, g4, h4, h5, h6, h7, h11⟩
theorem law_callT {P : Program} {w : World} {K : PySem.W.Frag} {mg mb : Str → Option Value} {k : Nat} {fa a bm : Addr} {ob : Obj} {fd : FuncData} {x : Str} {G : FL} {s₁ : Shared} {vs : List Value} {ns : List Int} {tabs : List (Addr × Addr)}
    {q : Program} {loose : List Str} (KX : K.In s₁.heap) (hKc : PySem.W.kb_classed K = true) (T : PySem.W.TopRead q loose mg mb s₁.heap) (hg : s₁.gens = #[]) (hbm : BM s₁.heap mg bm ob)
    (htab : ∀ p ∈ tabs, s₁.heap.IsCode p.1 p.2 #[] ∧ s₁.heap.TableAt p.1 p.2 #[])
    (ha : s₁.heap.get? a = some { cls := .type "list", data := .seq vs.toArray }) (hi : IntsAre vs ns) (hl : ns.length ≤ sizeLine) (hr : Room k callerA)
    (F : ∀ base : Heap, K.In base → PySem.W.TopRead q loose mg mb base → (∀ p ∈ tabs, CodeB base p.1 p.2) → BM base mg bm ob → FnOk P w K mg base CX0 k fa fd [x] (spV K (ftOf tabs) 1 G)) (hbind : ∀ (s : Shared) (u : Value), BindsTo s fd ⟨[u], []⟩ [(x, u)])
    (hG : G [.list (ns.map .int)] = .ok (.bool true, false)) :
    codeAny (model P w) callerA (.call (.ref fa) ⟨[.ref a], []⟩) (fun r s' => r = .ok (.ret (.bool true)) ∧ OldK s₁.heap s'.heap ∧ s'.os = s₁.os ∧ AllBare s'.gens) s₁ := by
  obtain ⟨hns, hb, hlim, hbb, hfree⟩ := T
  have rv := vals_ints hi
  have lenV := hi.length
  have tobj : ∀ b, b ∈ tabs.map (·.2) → s₁.heap.get? b = some { cls := .none, data := .fields #[] } := fun b hb => by
    obtain ⟨p, hp, rfl⟩ := List.mem_map.mp hb
    exact (htab p hp).2.2
  have aT : a ∉ tabs.map (·.2) := fun q => by
    have := tobj a q
    rw [ha] at this
    cases this
  have nsT : ∀ {b : Addr} {o : Obj} {es : Array DictEntry} {ep : Nat}, s₁.heap.get? b = some o → o.data = .dict es ep → b ∉ tabs.map (·.2) := fun {b o es ep} e d q => by
    have := tobj b q
    rw [e] at this
    cases this
    cases d
  have kT : ∀ b o, K.lookup b = some o → b ∉ tabs.map (·.2) := fun b o e q => by
    have hq := List.all_eq_true.mp hKc (b, o) (PySem.W.kb_mem e)
    simp only [Bool.or_eq_true, decide_eq_true_eq, beq_iff_eq] at hq
    have hob := KX b o e
    rcases hq with (hq | hq) | hq
    · have := tobj b q
      rw [hob] at this
      cases this
      exact hq rfl
    · obtain ⟨mc, ⟨o1, es, ep, e1, d1, _⟩, _⟩ := hlim
      subst hq
      exact nsT e1 d1 q
    · obtain ⟨o1, es, ep, e1, d1, _⟩ := hns
      subst hq
      exact nsT e1 d1 q
  have core : ∀ H : Hp, SqL K H a (ns.map V.int) → HOk P w H s₁.heap → Same (ftOf tabs) H → (∀ b, H b ≠ none → b = a ∨ b ∈ tabs.map (·.2)) → (H a ≠ none → K.lookup a = none) → (∀ u, H a = some u → ∃ xs, u = .frz { cls := .type "list", data := .seq vs.toArray } (.lst xs)) →
      codeAny (model P w) callerA (.call (.ref fa) ⟨[.ref a], []⟩) (fun r s' => r = .ok (.ret (.bool true)) ∧ OldK s₁.heap s'.heap ∧ s'.os = s₁.os ∧ AllBare s'.gens) s₁ := by
    intro H hS hok hF hA hK hfrz
    have base_of : ∀ {b : Addr} {o : Obj}, s₁.heap.get? b = some o → H b = none → (hidT s₁.heap H).get? b = some o := fun e n => hidT_get e n
    have noD : ∀ {b : Addr} {o : Obj}, s₁.heap.get? b = some o → (∀ n, o.data ≠ .seq vs.toArray n) → b ∉ tabs.map (·.2) → H b = none := fun {b o} e d nt => by
      cases q : H b with
      | none => rfl
      | some u =>
        rcases hA b (by rw [q]; simp) with e' | e'
        · subst e'
          rw [ha] at e; cases e
          exact absurd rfl (d _)
        · exact absurd e' nt
    have noA : ∀ {b : Addr} {o : Obj} {es : Array DictEntry} {ep : Nat}, s₁.heap.get? b = some o → o.data = .dict es ep → H b = none := fun {b o es ep} e d => noD e (fun n z => by rw [d] at z; cases z) (nsT e d)
    have nsK : ∀ {b : Addr} {m : Str → Option Value}, s₁.heap.Ns b m → (hidT s₁.heap H).Ns b m := fun {b m} ⟨o, es, ep, e, d, r⟩ => ⟨o, es, ep, base_of e (noA e d), d, r⟩
    have hKb : K.In (hidT s₁.heap H) := fun b o e => base_of (KX b o e) (by
      cases q : H b with
      | none => rfl
      | some u =>
        rcases hA b (by rw [q]; simp) with e' | e'
        · subst e'
          rw [hK (by rw [q]; simp)] at e; cases e
        · exact absurd e' (kT b o e))
    have hM : Mod K mg (hidT s₁.heap H) := ⟨hKb, nsK hns, ⟨mb, nsK hb, hbb⟩, let ⟨mc, h1, h2⟩ := hlim; ⟨mc, nsK h1, h2⟩⟩
    have e0 : Env0 P w K mg (hidT s₁.heap H) callerA [] s₁ H := ⟨rfl, hM, fun b o e => of_hidT e, Nat.le_of_eq (hidT_size _ _), trivial, fun b hb => absurd (show b ∈ ([] : List Addr) from hb) (by simp), hok, .of_eq hg⟩
    have cb : ∀ p ∈ tabs, CodeB (hidT s₁.heap H) p.1 p.2 := fun p hp => by
      obtain ⟨o, vs', file, tf, flags, tg, inF, text, tt, h1, h2, h3, r⟩ := codeB_of (htab p hp).1 (htab p hp).2
      refine ⟨o, vs', file, tf, flags, tg, inF, text, tt, base_of h1 (noD h1 (fun n z => by rw [h3] at z; cases z) fun q => ?_), h2, h3, r⟩
      have := tobj _ q
      rw [h1] at this
      cases this
      cases h2
    have bb : BM (hidT s₁.heap H) mg bm ob := ⟨hbm.name, hbm.ne, base_of hbm.obj (noD hbm.obj (fun n z => by rw [hbm.data] at z; cases z) fun q => by
      have := tobj _ q
      rw [hbm.obj] at this
      cases this
      have := hbm.cls
      cases this), hbm.cls, hbm.dict, hbm.data⟩
    have hsp : spV K (ftOf tabs) 1 G [.ref a] H (fun v H' => v = .bl true ∧ Same (ftOf tabs) H') (fun _ _ _ => False) :=
      ⟨rfl, H, [.list (ns.map .int)], (.bool true, false), hF, Same.refl _, .cons (.lst hS (rps_ints ns)) .nil, hG, fun F' H' v E => by
        have r : Rp K F' v (.bool true) := E.res
        cases r
        exact ⟨rfl, hF.trans (E.f0.trans E.fh)⟩⟩
    refine codeAny_mono ((F _ hKb ⟨nsK hns, nsK hb, let ⟨mc, h1, h2⟩ := hlim; ⟨mc, nsK h1, h2⟩, hbb, hfree⟩ cb bb).run callerA [] s₁ H ⟨[.ref a], []⟩ [.ref a] [.ref a] _ _ hr e0 (hbind s₁ (.ref a)) (.cons rfl .nil) hsp) fun r s' h => ?_
    cases r with
    | error e => exact False.elim h
    | ok fl =>
      cases fl with
      | next => exact False.elim h
      | brk => exact False.elim h
      | cont => exact False.elim h
      | ret u =>
        obtain ⟨v, H', os, bare, un, hok', r', q, hFt⟩ := h
        have q' : v = .bl true := q
        subst q'
        obtain rfl : u = Value.bool true := r'
        have old : ∀ b o, s₁.heap.get? b = some o → (s'.heap.get? b = some o) ∨ (b ∈ tabs.map (·.2) ∧ ∃ ps, s'.heap.get? b = some { cls := .none, data := .fields ps }) := fun b o e => by
          cases q : H b with
          | none => exact .inl (un.keep b o e q (by intro z; exact absurd (show b ∈ ([] : List Addr) from z) (by simp)) (by simp))
          | some u =>
            rcases hA b (by rw [q]; simp) with z | z
            · subst z
              obtain ⟨xs, rfl⟩ := hfrz u q
              have z2 := un.frzs b _ _ q
              obtain ⟨e2, _⟩ := hok' b _ z2
              rw [ha] at e; cases e
              exact .inl e2
            · have hb' := hFt b _ (show ftOf tabs b = some (TabO b) from if_pos z)
              obtain ⟨⟨ps, e2, _⟩, _⟩ := hok' b _ hb'
              exact .inr ⟨z, ps, e2⟩
        refine ⟨rfl, ⟨fun b o e => ?_, fun b o e => ?_⟩, os, bare⟩
        · rcases old b o e with z | ⟨z, ps, e2⟩
          · exact .inl z
          · have e3 := tobj b z
            rw [e] at e3
            cases e3
            obtain ⟨p, hp, rfl⟩ := List.mem_map.mp z
            exact .inr (.inl ⟨(htab p hp).2.isCodeTable, rfl, #[], ps, rfl, by rw [e2]; simp⟩)
        · rcases old b o e with z | ⟨z, ps, e2⟩
          · exact ⟨_, z⟩
          · exact ⟨_, e2⟩
  cases hk : K.lookup a with
  | some o =>
    have e := KX a o hk
    rw [ha] at e
    cases e
    refine core (ftOf tabs) (.inr ⟨_, vs.toArray, _, hk, rfl, rfl, rfl, by rw [List.size_toArray, lenV]; exact hl, by simpa using rv⟩) (fun b u z => ?_) (Same.refl _) (fun b z => .inr ?_) (fun z => absurd (if_neg aT) z) fun u z => ?_
    · by_cases hb : b ∈ tabs.map (·.2)
      · have z' := (if_pos hb).symm.trans z
        cases z'
        have e := tobj b hb
        obtain ⟨p, hp, rfl⟩ := List.mem_map.mp hb
        obtain ⟨o, vs', file, tf, flags, tg, inF, text, tt, op, h1, h2, h3, h4, h5, h6, h7, h8, h9, h10, h11⟩ := (htab p hp).1
        exact ⟨⟨#[], e, h10⟩, ⟨_, e⟩, fun h1 h2 ⟨ps2, e2, t2⟩ k => ⟨ps2, k _ e2, t2⟩⟩
      · have z' := (if_neg hb).symm.trans z
        cases z'
    · by_cases hb : b ∈ tabs.map (·.2)
      · exact hb
      · exact absurd (if_neg hb) z
    · have z' := (if_neg aT).symm.trans z
      cases z'
  | none =>
    refine core (upd (ftOf tabs) a (.frz { cls := .type "list", data := .seq vs.toArray } (.lst (ns.map V.int)))) (.inl (.inr ⟨{ cls := .type "list", data := .seq vs.toArray }, upd_same⟩)) (fun b u z => ?_) (fun b o e => ?_) (fun b z => ?_) (fun _ => hk) fun u z => ?_
    · by_cases hba : b = a
      · subst hba
        rw [upd_same] at z
        cases z
        exact ⟨ha, by rw [List.length_map]; exact hl, vs, _, rv, ha⟩
      · rw [upd_ne hba] at z
        by_cases hb : b ∈ tabs.map (·.2)
        · have z' := (if_pos hb).symm.trans z
          cases z'
          have e := tobj b hb
          obtain ⟨p, hp, rfl⟩ := List.mem_map.mp hb
          obtain ⟨o, vs', file, tf, flags, tg, inF, text, tt, op, h1, h2, h3, h4, h5, h6, h7, h8, h9, h10, h11⟩ := (htab p hp).1
          exact ⟨⟨#[], e, h10⟩, ⟨_, e⟩, fun h1 h2 ⟨ps2, e2, t2⟩ k => ⟨ps2, k _ e2, t2⟩⟩
        · have z' := (if_neg hb).symm.trans z
          cases z'
    · have hba : b ≠ a := fun z => by
        subst z
        have z' := (if_neg aT).symm.trans e
        cases z'
      rw [upd_ne hba]; exact e
    · by_cases hba : b = a
      · exact .inl hba
      · rw [upd_ne hba] at z
        refine .inr ?_
        by_cases hb : b ∈ tabs.map (·.2)
        · exact hb
        · exact absurd (if_neg hb) z
    · rw [upd_same] at z
      cases z
      exact ⟨_, rfl⟩
/-- the goal behind k_head -/
theorem walkT {l : PySem.W.OpenLaw} {n k : Nat} {q : Program} {loose : List Str} {XP : (Str → Option Value) → Heap → Prop} {YP : World → Heap → Prop} {d : DefRec} {K : Params → PySem.W.Frag} {x : Str} {G : FL} {gd : List DefRec}
    (hn : l.most = some n) (hn2 : n ≤ sizeLine) (hdf : d.params.defaults = []) (hr : Room k callerA) (hgd : ∀ e ∈ gd, e ∈ recsOf q)
    (hY : ∀ (w : World) (h : Heap), YP w h → (K w.params).In h) (hKc : ∀ w : World, PySem.W.kb_classed (K w.params) = true)
    (F : ∀ (w : World) (mg : Str → Option Value) (fa : Addr) (h : Heap), (K w.params).In h → h.Ns mainGlobals mg → mg d.name = some (.ref fa) →
      ∃ fd : FuncData, (∀ (s : Shared) (u : Value), BindsTo s fd ⟨[u], []⟩ [(x, u)]) ∧ ∀ tabs : List (Addr × Addr),
        (∀ e ∈ gd, ∃ a o fd c P, mg e.name = some (.ref a) ∧ h.get? a = some o ∧ o.data = .func fd ∧ fd.code = .ref c ∧ (c, P) ∈ tabs) →
        ∀ (base : Heap) (bm : Addr) (ob : Obj), (K w.params).In base → (∃ q loose mb, PySem.W.TopRead q loose mg mb base) → (∀ p ∈ tabs, CodeB base p.1 p.2) → BM base mg bm ob → FnOk l.prog w (K w.params) mg base CX0 k fa fd [x] (spV (K w.params) (ftOf tabs) 1 G))
    (hG : ∀ ns : List Int, ns.length ≤ n → G [.list (ns.map .int)] = .ok (.bool true, false)) :
    PySem.W.WalkO q loose XP YP l.row.toRowW d [] (fun f vs => PySem.call f vs) := by
  refine Att.attach_call hn hdf fun w s₀ s₁ mg mb fa o pm cd doc a vs ns Gr Y ho hd hcd hmg hobj hints hlen hg => ?_
  have KX := hY w _ Y
  obtain ⟨fd, hb, hF⟩ := F w mg fa _ KX Gr.T.g hmg
  have tb : ∀ gd : List DefRec, (∀ e ∈ gd, e ∈ recsOf q) → ∃ tabs : List (Addr × Addr), (∀ p ∈ tabs, s₁.heap.IsCode p.1 p.2 #[] ∧ s₁.heap.TableAt p.1 p.2 #[]) ∧ ∀ e ∈ gd, ∃ a o fd c P, mg e.name = some (.ref a) ∧ s₁.heap.get? a = some o ∧ o.data = .func fd ∧ fd.code = .ref c ∧ (c, P) ∈ tabs := by
    intro gd
    induction gd with
    | nil => intro _; exact ⟨[], ⟨fun p hp => (nomatch hp), fun e he => (nomatch he)⟩⟩
    | cons e gd ih =>
      intro hh
      obtain ⟨tabs, h1, h2⟩ := ih fun e' he => hh e' (List.mem_cons_of_mem _ he)
      obtain ⟨a, o, fd, c, P, g1, g2, g3, g4, g5, g6⟩ := Gr.T.tab e (hh e (List.mem_cons_self ..))
      refine ⟨(c, P) :: tabs, fun p hp => ?_, fun e' he => ?_⟩
      · rcases List.mem_cons.mp hp with z | z
        · subst z; exact ⟨g5, g6⟩
        · exact h1 p z
      · rcases List.mem_cons.mp he with z | z
        · subst z; exact ⟨a, o, fd, c, P, g1, g2, g3, g4, List.mem_cons_self ..⟩
        · obtain ⟨a', o', fd', c', P', k1, k2, k3, k4, k5⟩ := h2 e' z
          exact ⟨a', o', fd', c', P', k1, k2, k3, k4, List.mem_cons_of_mem _ k5⟩
  obtain ⟨tabs, t1, t2⟩ := tb gd hgd
  obtain ⟨bm, ob, b1, b2, b3, b4, b5, b6⟩ := Gr.T.bmain
  exact law_callT (tabs := tabs) (bm := bm) (ob := ob) KX (hKc w) (PySem.W.topRead_of Gr.T) hg ⟨b1, b2, b3, b4, b5, b6⟩ t1 hobj hints (Nat.le_trans hlen hn2) hr (fun base k1 k2 k3 k4 => hF tabs t2 base bm ob k1 ⟨_, _, _, k2⟩ k3 k4) hb (hG ns hlen)
end L2.Fs
set_option Elab.async false
set_option linter.all false
set_option maxRecDepth 100000
namespace L2.Fs
open PySem PySem.Spec PyProof.Rows
/-- a def that may be called -/
structure Cal (P : Program) (w : World) (K : PySem.W.Frag) (mg : Str → Option Value) (base : Heap) (Ft : Hp) (x : Str) (ps : List Str) (k : Nat) (G : FL) : Prop where
  ex : ∃ f fd, FnOk P w K mg base CX0 k f fd ps (spV K Ft ps.length G) ∧ PySem.W.keepIn K (.ref f) = true ∧ mg x = some (.ref f) ∧ Binds K fd ps []
section
variable {X : Cx} {Ft H0 F0 : Hp} {a b e c : Expr} {es : List Expr} {f g : XF} {l : LF} {pos p pos2 px pos' : Pos} {x : Str} {ps : List Str} {k : Nat} {G : FL}
theorem q_var (i : Nat) (hN : X.N[i]? = some x := by rfl) (hv : Vis X.env.scope x := by first | exact Or.inl rfl | exact Or.inr (Or.inl rfl) | exact Or.inr (Or.inr rfl)) (hd : (x == ("__debug__" : Str)) = false := by decide) (hcd : (x == ("__classdict__" : Str)) = false := by decide) :
    PV X H0 F0 (.Name x pos) (xVar i) := pv_var i hN hv hd hcd
theorem q_cons (ha : PV X H0 F0 e f) (hl : PVL X H0 F0 es l) (hs : starEach (e :: es) X.env = (false, eval e X.env) :: starEach es X.env := by rfl) : PVL X H0 F0 (e :: es) (lCons f l) := pvl_cons ha hl hs
theorem q_call (C : Cal X.prog X.w X.K X.mg X.base Ft x ps k G) (hF : Same Ft F0) (hr : Room k X.A) (ha : PVL X H0 F0 (e :: es) l) (hll : ∀ σ ds σ', l σ = .ok (ds, σ') → ds.length = ps.length) (hlen : (e :: es).length = ps.length := by rfl) (hg : Gl X x := by rfl) (hdb : (x == ("__debug__" : Str)) = false := by decide)
    (he : starEach (e :: es) X.env = (false, eval e X.env) :: starEach es X.env := by rfl) (hpl : (backTo pos (starEach es X.env)).any (·.1) = false := by rfl) : PV X H0 F0 (.Call (.Name x p) (e :: es) [] pos) (xCall G l) := by
  obtain ⟨f, fd, F, h1, h2, h3⟩ := C.ex
  exact pv_call F hF hr hg h2 h1 h3 ha hlen hdb he hpl hll
theorem q_lt (ha : PV X H0 F0 a f) (hb : PV X H0 F0 b g) (hm : behindInMarks .Lt b = false := by rfl) : PV X H0 F0 (.Compare a [.Lt] [b] pos) (x2 hLt f g) := pv_cmp op_lt (opv_rI0 fun _ _ _ => .bl _) ha hb hm
theorem qt_lt (ha : PV X H0 F0 a f) (hb : PV X H0 F0 b g) (hm : behindInMarks .Lt b = false := by rfl) : PVT X H0 F0 (.Compare a [.Lt] [b] pos) (tBool (x2 hLt f g)) := pvt_cmp op_lt (opv_rI0 fun _ _ _ => .bl _) ha hb hm
theorem qt_gt (ha : PV X H0 F0 a f) (hb : PV X H0 F0 b g) (hm : behindInMarks .Gt b = false := by rfl) : PVT X H0 F0 (.Compare a [.Gt] [b] pos) (tBool (x2 hGt f g)) := pvt_cmp op_gt (opv_rI0 fun _ _ _ => .bl _) ha hb hm
theorem qt_ge (ha : PV X H0 F0 a f) (hb : PV X H0 F0 b g) (hm : behindInMarks .GtE b = false := by rfl) : PVT X H0 F0 (.Compare a [.GtE] [b] pos) (tBool (x2 hGe f g)) := pvt_cmp op_ge (opv_rI0 fun _ _ _ => .bl _) ha hb hm
theorem qt_ne (hr : Room k X.A) (ha : PV X H0 F0 a f) (hb : PV X H0 F0 b g) (hm : behindInMarks .NotEq b = false := by rfl) : PVT X H0 F0 (.Compare a [.NotEq] [b] pos) (tBool (x2 hNe f g)) := pvt_cmp (op_neD hr.units) opv_ne ha hb hm
theorem q_isi {T : String} (hT : T = "int" ∨ T = "bool" ∨ T = "str" ∨ T = "list" ∨ T = "tuple" ∨ T = "dict") (hb : bootBuiltins x = some (.type T)) (hm : X.mg "isinstance" = none) (hmT : X.mg x = none) (ha : PV X H0 F0 a f) (hg : Gl X "isinstance" := by rfl) (hgT : Gl X x := by rfl) (hn : x ≠ "__name__" := by decide) (hd : (x == ("__debug__" : Str)) = false := by decide)
    (he : starEach [a, .Name x px] X.env = [(false, eval a X.env), (false, eval (.Name x px) X.env)] := by rfl) : PV X H0 F0 (.Call (.Name "isinstance" p) [a, .Name x px] [] pos) (x1 (hIsi T) f) := pv_isi hT hb hg hm hgT hmT hn hd ha he
theorem q_set {i : Nat} (hN : X.N.Nodup) (h : PV X H0 F0 e f) (hi : X.N[i]? = some x := by rfl) (hx : Loc X.env.scope x := by first | exact Or.inl rfl | exact Or.inr rfl) (hf : X.fn x = true ∨ X.env.scope.names.lookup x = some .local := by first | exact Or.inl rfl | exact Or.inr rfl) (hs : swapsWith e (some (.Name x px)) pos.line X.env = pure false := by rfl) :
    PVS X H0 F0 (.Assign [.Name x px] e pos) (sSet i f) := pvs_set hN hi hx hf h hs
theorem q_retV (i : Nat) (hN : X.N[i]? = some x := by rfl) (hv : Vis X.env.scope x := by first | exact Or.inl rfl | exact Or.inr (Or.inl rfl) | exact Or.inr (Or.inr rfl)) (hd : (x == ("__debug__" : Str)) = false := by decide) (hcd : (x == ("__classdict__" : Str)) = false := by decide) :
    PVS X H0 F0 (.Return (some (.Name x px)) pos) (sRetV i) := pvs_retV hN hv hd hcd
theorem qg_name (i : Nat) (hN : X.N.Nodup) (hi : X.N[i]? = some x := by rfl) (hx : Loc X.env.scope x := by first | exact Or.inl rfl | exact Or.inr rfl) (hf : X.fn x = true ∨ X.env.scope.names.lookup x = some .local := by first | exact Or.inl rfl | exact Or.inr rfl) : PVG X (.Name x pos) [i] (gNm i) := pvg_name hN hi hx hf
theorem q_item (ha : PV X H0 F0 a f) (hb : PV X H0 F0 b g) (hs : PlainIx b := by intro _ _; rfl) : PV X H0 F0 (.Subscript a b pos) (x2 hIx f g) := pv_item ha hb hs
theorem q_val (h : PV X H0 F0 e f) (he : ∀ whole, isTrue e X.env whole = (do let v ← whole; standAt e.pos; holding [v] (truthy v)) := by intro _; rfl) : PVT X H0 F0 e (tVal f) := pvt_val h he
end
section
variable {P : Program} {w : World} {K : PySem.W.Frag} {mg : Str → Option Value} {base : Heap} {Ft : Hp}
/-- a def of the text, and what it is worth -/
theorem FunV.cal {x qual : Str} {st : Stmt} {f : Addr} {fd : FuncData} {cdv : Value} {N ps : List Str} {k : Nat} {b : SF} (F : FunV K x qual st f fd cdv) (S : FnScope N ps (defScope st)) (hm : mg x = some (.ref f))
    (hbind : ∀ (kV doc pm : Value) (an : Option Addr) (cdv ct : Value) (us : List Value), us.length = ps.length → bindArgs (PySem.W.fnOf x qual (defArgs st) (defBody st) (defScope st) .none kV doc pm an cdv ct) ⟨us, []⟩ = pure (ps.zip us))
    (hb : ∀ (A : Around) (outer : List Env) (s : Shared) (H : Hp) (E : XK), Room k (A.deeper (envOfC qual (defScope st) s.heap.objs.size f cdv)) → ∀ H0 F0, Same Ft F0 → PVB (cxOf CX0 P w K mg base N qual (defScope st) f cdv A outer s H E).nox H0 F0 (defBody st) b) :
    Cal P w K mg base Ft x ps (k + 1) (runF N.length b) := ⟨f, fd, F.ok S hb, F.kp, hm, F.binds hbind⟩
end
end L2.Fs
set_option Elab.async false
set_option linter.all false
set_option maxRecDepth 100000
namespace L2.Fs
open PySem PySem.Spec PyProof.Rows
section
variable {P : Program} {w : World} {A : Around} {E : Value → Shared → Prop} {s : Shared}
theorem newS {Q : Value → Shared → Prop} (h : Q (.ref s.heap.objs.size) { s with heap := s.heap.push (nwS w) }) : wpAny (model P w) A (newSet (.type "set")) Q E s := by
  unfold newSet setsByText
  refine wpAny_bind (wpAny_bind (wpAny_askSetting (wpAny_pure ?_)))
  dsimp only
  simp only [newObj]
  exact wpAny_bind (wpAny_alloc (wpAny_pure h))
theorem callAdd {D : Addr} {ks : List Int} {k : Int} {t : Tok} {Q : Value → Shared → Prop} (hS : SetC P w s.heap D ks) (hr : ks.length + 1 < scanBound)
    (h : ∀ h' tk, Heap.SameBut D s.heap h' → SetC P w h' D (insK ks k) → Q .none { s with heap := h', toks := tk }) : wpAny (model P w) A (call (.builtin "set.add") [.ref D, .int k t]) Q E s := by
  have ty : s.TypeIs (.ref D) "set" := by obtain ⟨es, ep, t, ks0, ho, _⟩ := hS; exact ⟨_, ho, rfl⟩
  refine wpAny_call_entry PySem.F.slot_set_add ty PySem.F.entry_set_add ?_ (PySem.F.args_set_add_2 _ _)
  unfold Builtin.«set.add» Builtin.Frozenset.oneOther; simp only [List.isEmpty_nil, bind_assoc]
  unfold Builtin.Frozenset.addrOf setAdd
  refine wpAny_bind (wpAny_pure ?_)
  try dsimp only
  refine wpAny_bind (wpAny_pure (wpAny_bind (wpAny_holding (wpAny_bind ((intKind P w).pyHash (k := k) (intKind_is _ _ _ _) ?_)))))
  refine addS (s := { s with toks := s.toks + 1 }) hS hr fun h' b sb S => ?_
  show wpAny _ _ (ret Value.none) _ _ _
  exact wpAny_pure ⟨_, rfl, h h' _ sb S⟩
end
theorem compStart_set {prog : Program} {w : World} {A : Around} {R : Result → Shared → Prop} {s : Shared} {elt target iter : Expr} {ifs : List Expr} {rest : List Comprehension} {scope : Scope} {pos : Pos} {it acc : Value} {env : Env}
    (h0 : codeAny (model prog w) A (.compLoop (.SetComp elt (⟨target, iter, ifs, 0⟩ :: rest) scope pos) 0 it acc env) R s)
    (h : wpAny (model prog w) A (pyIter it) (fun it' s' => codeAny (model prog w) A (.compLoop (.SetComp elt (⟨target, iter, ifs, 0⟩ :: rest) scope pos) 0 it' acc env) R s') (notedBy (model prog w) A env fun x s' => R (.error x) s') s) :
    codeAny (model prog w) A (.compStart (.SetComp elt (⟨target, iter, ifs, 0⟩ :: rest) scope pos) 0 it acc env) R s := by
  refine codeAny_of_tree ?_
  show wpAny _ _ ((compStart (.SetComp elt (⟨target, iter, ifs, 0⟩ :: rest) scope pos) 0 it acc env).onRaise (fun x => do noteFrame x env; standAt theWindowsPlace)) _ _ s
  refine wpAny_notedAt ?_
  unfold compStart; show wpAny _ _ (ask >>= _) _ _ s
  refine wpAny_bind (wpAny_askSetting (wpAny_ite ?_)); split
  · first | exact wpAny_bind (wpAny_pure (wpAny_pure ⟨rfl, h0⟩)) | exact wpAny_pure ⟨rfl, h0⟩
  · first
      | exact wpAny_bind (wpAny_rule (wpAny_bind (wpAny_standAt (wpAny_bind (wpAny_mono h (fun a' s' z => wpAny_pure ⟨rfl, z⟩) fun _ _ z => z)))))
      | (refine wpAny_bind (wpAny_rule ?_)
         show wpAny _ _ (standAt iter.pos >>= _) _ _ s
         exact wpAny_bind (wpAny_standAt (wpAny_bind (wpAny_mono h (fun a' s' z => wpAny_pure ⟨rfl, z⟩) fun _ _ z => z))))
section
variable {X : Cx} {pins : List (Addr × Obj)} {σ : St} {H : Hp} {s : Shared}
theorem add_ok {E : Value → Shared → Prop} {D : Addr} {ks : List Int} {k : Int} {v : Value} {Q : Value → Shared → Prop} (I : Inv X pins σ H s) (hD : H D = some (SetO X.prog X.w D ks)) (hz : ks.length + 1 < 4096) (r : RelV (.int k) v)
    (h : ∀ s', Inv X pins σ (upd H D (SetO X.prog X.w D (insK ks k))) s' → Q .none s') : wpAny (model X.prog X.w) X.A (call (.builtin "set.add") [.ref D, v]) Q E s := by
  obtain ⟨t, rfl⟩ := r
  obtain ⟨S, _, _⟩ := I.hok D _ hD
  refine callAdd S hz fun h' tk sb S' => h _ ?_
  have hob : ∃ u, h'.get? D = some u := by obtain ⟨es, ep, t, ks0, ho, _⟩ := S'; exact ⟨_, ho⟩
  exact I.write (x := D) (e := D) (t' := tk) (by rw [hD]; trivial) (.inl rfl) (fun b u hb q => (sb.2 b hb).trans q) hob (setO_ok S')
end
end L2.Fs
set_option Elab.async false
set_option linter.all false
set_option maxRecDepth 100000
namespace L2.Fs
open PySem PySem.Spec PyProof.Rows
theorem intsD_app : ∀ {a b : List Y} {ns : List Int}, intsD (a ++ b) = some ns → ∃ na nb, intsD a = some na ∧ intsD b = some nb ∧ ns = na ++ nb
  | [], b, ns, h => ⟨[], ns, rfl, h, rfl⟩
  | d :: a, b, ns, h => by
    rw [List.cons_append] at h
    cases d <;> simp only [intsD] at h <;> try cases h
    rename_i i
    cases hb : intsD (a ++ b) with
    | none => rw [hb] at h; cases h
    | some ms =>
      rw [hb] at h
      cases h
      obtain ⟨na, nb, h1, h2, rfl⟩ := intsD_app hb
      exact ⟨i :: na, nb, by simp only [intsD, h1, Option.map_some], h2, rfl⟩
theorem intsD_len {ds : List Y} {ns : List Int} (h : intsD ds = some ns) : ns.length = ds.length := by
  induction ds generalizing ns with
  | nil => cases h; rfl
  | cons d ds ih =>
    cases d <;> simp only [intsD] at h <;> try cases h
    cases hb : intsD ds with
    | none => rw [hb] at h; cases h
    | some ms => rw [hb] at h; cases h; simp [ih hb]
end L2.Fs
set_option Elab.async false
set_option linter.all false
set_option maxRecDepth 100000
namespace L2.Fs
open PySem PySem.Spec PyProof.Rows
theorem compTurn2s_out (elt t0 i0 t1 i1 : Expr) (ifs0 ifs1 : List Expr) (scope : Scope) (pos : Pos) (it acc : Value) (env : Env) :
    compTurn (.SetComp elt [⟨t0, i0, ifs0, 0⟩, ⟨t1, i1, ifs1, 0⟩] scope pos) 0 it acc env = (do
      standAt i0.pos
      match ← pyNext it with
      | none => pure (.done .next)
      | some v =>
        letOwnedTupleGo t0 it v
        assign t0 env v
        let mut ok := true
        for c in ifs0 do
          if ok then ok ← isTrue c env (eval c env)
        if ok then
          let x ← eval i1 env
          standAt i1.pos
          let x ← foldedSetIterable i1 env x
          let _ ← runOwn (.compStart (.SetComp elt [⟨t0, i0, ifs0, 0⟩, ⟨t1, i1, ifs1, 0⟩] scope pos) 1 (← holding [x] (pyIter x)) acc env) env
        again (.compLoop (.SetComp elt [⟨t0, i0, ifs0, 0⟩, ⟨t1, i1, ifs1, 0⟩] scope pos) 0 it acc env)) := by rfl
theorem compTurn2s_in (elt t0 i0 t1 i1 : Expr) (ifs0 ifs1 : List Expr) (scope : Scope) (pos : Pos) (it acc : Value) (env : Env) :
    compTurn (.SetComp elt [⟨t0, i0, ifs0, 0⟩, ⟨t1, i1, ifs1, 0⟩] scope pos) 1 it acc env = (do
      standAt i1.pos
      match ← pyNext it with
      | none => pure (.done .next)
      | some v =>
        letOwnedTupleGo t1 it v
        assign t1 env v
        let mut ok := true
        for c in ifs1 do
          if ok then ok ← isTrue c env (eval c env)
        if ok then
          (do let v ← eval elt env; standAt elt.pos; let _ ← call (.builtin "set.add") [acc, v])
        again (.compLoop (.SetComp elt [⟨t0, i0, ifs0, 0⟩, ⟨t1, i1, ifs1, 0⟩] scope pos) 1 it acc env)) := by rfl
section
variable {prog : Program} {w : World} {A : Around} {R : Result → Shared → Prop} {s : Shared} {elt t0 i0 t1 i1 : Expr} {ifs0 ifs1 : List Expr} {scope : Scope} {pos : Pos} {it acc : Value} {env : Env}
/-- the loop of the first clause -/
theorem compLoop2s_out (hs : ∀ x, foldedSetIterable i1 env x = pure x) (I : Nat → Shared → Prop)
    (turn : ∀ n s, I n s → wpAny (model prog w) A (pyNext it) (fun r s₁ => match r with
      | none => R (.ok .next) s₁
      | some v => wpAny (model prog w) A (letOwnedTupleGo t0 it v) (fun _ s₁' => wpAny (model prog w) A (assign t0 env v) (fun _ s₂ =>
          wpAny (model prog w) A (forIn ifs0 true fun c r => if r = true then do let ok ← isTrue c env (eval c env); pure (ForInStep.yield ok) else pure (ForInStep.yield r)) (fun ok s₃ =>
            if ok = true then wpAny (model prog w) A (eval i1 env) (fun x s₄ => wpAny (model prog w) A (pyIter x) (fun it1 s₅ =>
              codeAny (model prog w) A (.compStart (.SetComp elt [⟨t0, i0, ifs0, 0⟩, ⟨t1, i1, ifs1, 0⟩] scope pos) 1 it1 acc env) (fun r s' => match r with
                | .ok _ => ∃ m, m < n ∧ I m s'
                | .error _ => False) s₅) (notedBy (model prog w) A env fun e s' => R (.error e) s') s₄) (notedBy (model prog w) A env fun e s' => R (.error e) s') s₃
            else ∃ m, m < n ∧ I m s₃) (notedBy (model prog w) A env fun e s' => R (.error e) s') s₂) (notedBy (model prog w) A env fun e s' => R (.error e) s') s₁') (notedBy (model prog w) A env fun e s' => R (.error e) s') s₁) (notedBy (model prog w) A env fun e s' => R (.error e) s') s)
    (n : Nat) (h : I n s) :
    codeAny (model prog w) A (.compLoop (.SetComp elt [⟨t0, i0, ifs0, 0⟩, ⟨t1, i1, ifs1, 0⟩] scope pos) 0 it acc env) R s := by
  refine codeAny_loop rfl I (fun n s hI => ?_) n h
  show wpAny _ A ((compTurn (.SetComp elt [⟨t0, i0, ifs0, 0⟩, ⟨t1, i1, ifs1, 0⟩] scope pos) 0 it acc env).onRaise (fun x => do noteFrame x env; theTreesLotGoes x)) _ _ s
  refine wpAny_noted ?_
  rw [compTurn2s_out]
  refine wpAny_bind (wpAny_standAt (wpAny_bind (wpAny_mono (turn n s hI) (fun r s₁ h₁ => ?_) fun _ _ h' => h')))
  cases r with
  | none => exact wpAny_pure h₁
  | some v =>
    refine wpAny_bind (wpAny_mono h₁ (fun _ s₁' h₁' => ?_) fun _ _ h' => h')
    refine wpAny_bind (wpAny_mono h₁' (fun _ s₂ h₂ => wpAny_bind (wpAny_mono h₂ (fun ok s₃ h₃ => ?_) fun _ _ h' => h')) fun _ _ h' => h')
    cases ok with
    | false => exact wpAny_pure ⟨rfl, h₃⟩
    | true =>
      refine wpAny_bind (wpAny_mono h₃ (fun x s₄ h₄ => ?_) fun _ _ h' => h')
      refine wpAny_bind (wpAny_standAt (wpAny_bind (wpAny_of_eq (hs x) (wpAny_bind (wpAny_holding (wpAny_mono h₄ (fun it1 s₅ h₅ => ?_) fun _ _ h' => h'))))))
      refine wpAny_bind (wpAny_runOwn ?_)
      rw [Around.mark_none]
      refine codeAny_mono h₅ fun r s' hr => ?_
      cases r with
      | ok f =>
        first
          | exact wpAny_pure ⟨rfl, hr⟩
          | exact wpAny_bind (wpAny_pure (wpAny_pure ⟨rfl, hr⟩))
      | error e => exact hr.elim
/-- the loop of the second -/
theorem compLoop2s_in (I : Nat → Shared → Prop)
    (turn : ∀ n s, I n s → wpAny (model prog w) A (pyNext it) (fun r s₁ => match r with
      | none => R (.ok .next) s₁
      | some v => wpAny (model prog w) A (letOwnedTupleGo t1 it v) (fun _ s₁' => wpAny (model prog w) A (assign t1 env v) (fun _ s₂ =>
          wpAny (model prog w) A (forIn ifs1 true fun c r => if r = true then do let ok ← isTrue c env (eval c env); pure (ForInStep.yield ok) else pure (ForInStep.yield r)) (fun ok s₃ =>
            if ok = true then wpAny (model prog w) A (eval elt env) (fun x s₄ =>
              wpAny (model prog w) A (call (.builtin "set.add") [acc, x]) (fun _ s₅ => ∃ m, m < n ∧ I m s₅) (notedBy (model prog w) A env fun e s' => R (.error e) s') s₄) (notedBy (model prog w) A env fun e s' => R (.error e) s') s₃
            else ∃ m, m < n ∧ I m s₃) (notedBy (model prog w) A env fun e s' => R (.error e) s') s₂) (notedBy (model prog w) A env fun e s' => R (.error e) s') s₁') (notedBy (model prog w) A env fun e s' => R (.error e) s') s₁) (notedBy (model prog w) A env fun e s' => R (.error e) s') s)
    (n : Nat) (h : I n s) :
    codeAny (model prog w) A (.compLoop (.SetComp elt [⟨t0, i0, ifs0, 0⟩, ⟨t1, i1, ifs1, 0⟩] scope pos) 1 it acc env) R s := by
  refine codeAny_loop rfl I (fun n s hI => ?_) n h
  show wpAny _ A ((compTurn (.SetComp elt [⟨t0, i0, ifs0, 0⟩, ⟨t1, i1, ifs1, 0⟩] scope pos) 1 it acc env).onRaise (fun x => do noteFrame x env; theTreesLotGoes x)) _ _ s
  refine wpAny_noted ?_
  rw [compTurn2s_in]
  refine wpAny_bind (wpAny_standAt (wpAny_bind (wpAny_mono (turn n s hI) (fun r s₁ h₁ => ?_) fun _ _ h' => h')))
  cases r with
  | none => exact wpAny_pure h₁
  | some v =>
    refine wpAny_bind (wpAny_mono h₁ (fun _ s₁' h₁' => ?_) fun _ _ h' => h')
    refine wpAny_bind (wpAny_mono h₁' (fun _ s₂ h₂ => wpAny_bind (wpAny_mono h₂ (fun ok s₃ h₃ => ?_) fun _ _ h' => h')) fun _ _ h' => h')
    cases ok with
    | false => exact wpAny_pure ⟨rfl, h₃⟩
    | true =>
      exact wpAny_bind (wpAny_bind (wpAny_mono h₃ (fun x s₄ h₄ => wpAny_bind (wpAny_standAt (wpAny_bind (wpAny_mono h₄ (fun _ s₅ h₅ => wpAny_pure (wpAny_pure ⟨rfl, h₅⟩)) fun _ _ h' => h')))) fun _ _ h' => h'))
/-- the second clause's start -/
theorem compStart1s_ok (h0 : codeAny (model prog w) A (.compLoop (.SetComp elt [⟨t0, i0, ifs0, 0⟩, ⟨t1, i1, ifs1, 0⟩] scope pos) 1 it acc env) R s)
    (h : wpAny (model prog w) A (pyIter it) (fun it' s' => codeAny (model prog w) A (.compLoop (.SetComp elt [⟨t0, i0, ifs0, 0⟩, ⟨t1, i1, ifs1, 0⟩] scope pos) 1 it' acc env) R s')
      (notedBy (model prog w) A env fun x s' => R (.error x) s') s) :
    codeAny (model prog w) A (.compStart (.SetComp elt [⟨t0, i0, ifs0, 0⟩, ⟨t1, i1, ifs1, 0⟩] scope pos) 1 it acc env) R s := by
  refine codeAny_of_tree ?_
  show wpAny _ _ ((compStart (.SetComp elt [⟨t0, i0, ifs0, 0⟩, ⟨t1, i1, ifs1, 0⟩] scope pos) 1 it acc env).onRaise (fun x => do noteFrame x env; standAt theWindowsPlace)) _ _ s
  refine wpAny_notedAt ?_
  unfold compStart
  show wpAny _ _ (ask >>= _) _ _ s
  refine wpAny_bind (wpAny_askSetting (wpAny_ite ?_))
  split
  · first
      | exact wpAny_bind (wpAny_pure (wpAny_pure (And.intro rfl h0)))
      | exact wpAny_pure (And.intro rfl h0)
  · first
      | exact wpAny_bind (wpAny_rule (wpAny_bind (wpAny_standAt (wpAny_bind (wpAny_mono h (fun it' s' h' => wpAny_pure (And.intro rfl h')) fun _ _ x => x)))))
      | (refine wpAny_bind (wpAny_rule ?_); show wpAny _ _ (standAt i1.pos >>= _) _ _ s; exact wpAny_bind (wpAny_standAt (wpAny_bind (wpAny_mono h (fun it' s' h' => wpAny_pure (And.intro rfl h')) fun _ _ x => x))))
end
section
variable {X : Cx}
def tSc2 (P : Program) (w : World) (wi : TI) (g : TG) (tt : TT) (wi1 : TI) (g1 : TG) (tt1 : TT) (te : TE) (vs vs1 : List Nat) : TE := fun σ H Q => wi σ H fun J H1 => ∀ D, H1 D = none → ∃ W : Nat → Nat → Hp → Prop, (∃ m, W 0 m (upd H1 D (SetO P w D []))) ∧ ∀ i m H, W i m H →
  (J.stop i H ∧ Q (.ref D) H) ∨ (J.go i H ∧ ∃ Nx : Hp → Prop, (∀ H', Nx H' → ∃ m', m' < m ∧ W (i + 1) m' H') ∧ ∀ x H', J.yld i H x H' → g x (wipe σ vs) H' fun σ2 H2 => wipe σ2 vs = wipe σ vs ∧ tt σ2 H2 fun b H3 =>
    if b = true then wi1 σ2 H3 fun J1 H4 => ∃ W1 : Nat → Nat → Hp → Prop, (∃ m, W1 0 m H4) ∧ ∀ j k H, W1 j k H →
      (J1.stop j H ∧ Nx H) ∨ (J1.go j H ∧ ∃ Nx1 : Hp → Prop, (∀ H', Nx1 H' → ∃ k', k' < k ∧ W1 (j + 1) k' H') ∧ ∀ x H', J1.yld j H x H' → g1 x (wipe σ2 vs1) H' fun σ3 H5 => wipe σ3 vs1 = wipe σ2 vs1 ∧ tt1 σ3 H5 fun b H6 =>
        if b = true then te σ3 H6 fun y H7 => ∃ kk acc, y = .int kk ∧ H7 D = some (SetO P w D acc) ∧ acc.length + 1 < 4096 ∧ Nx1 (upd H7 D (SetO P w D (insK acc kk))) else Nx1 H6)
    else Nx H3)
theorem sc2_core {pins : List (Addr × Obj)} {s : Shared} {σ : St} {H : Hp} {Q : VK} {elt tg iter tg1 iter1 : Expr} {ifs ifs1 : List Expr} {scope : Scope} {own : List (Str × Nat)} {vs1 : List Nat} {pos pos' : Pos} {wi wi1 : TI} {g g1 : TG} {tt tt1 : TT} {te : TE} {use : Option (Value → Sem Unit)} {Qf : Value → Shared → Prop}
    (hc : X.calm = true) (hN : X.N.Nodup) (I : Inv X pins σ H s) (hi : PI X tg iter wi) (ok : BlkOk X.N X.env.scope scope own) (hv : ∀ i ∈ vs1, i ∈ own.map (·.2))
    (hg : ∀ (s : Shared) (H : Hp) (C : Addr) (cl : List (Str × Addr)) (fp : List Addr), PG (X.blk s H scope (compEnvC scope cl C X.env) fp) tg g) (ht : ∀ (s : Shared) (H : Hp) (C : Addr) (cl : List (Str × Addr)) (fp : List Addr), PTs (X.blk s H scope (compEnvC scope cl C X.env) fp) ifs tt)
    (he : ∀ (s : Shared) (H : Hp) (C : Addr) (cl : List (Str × Addr)) (fp : List Addr), PE (X.blk s H scope (compEnvC scope cl C X.env) fp) elt te) (hs : ∀ x, foldedSetIterable iter X.env x = pure x)
    (hi1 : ∀ (s : Shared) (H : Hp) (C : Addr) (cl : List (Str × Addr)) (fp : List Addr), PI (X.blk s H scope (compEnvC scope cl C X.env) fp) tg1 iter1 wi1)
    (hg1 : ∀ (s : Shared) (H : Hp) (C : Addr) (cl : List (Str × Addr)) (fp : List Addr), PG (X.blk s H scope (compEnvC scope cl C X.env) fp) tg1 g1)
    (ht1 : ∀ (s : Shared) (H : Hp) (C : Addr) (cl : List (Str × Addr)) (fp : List Addr), PTs (X.blk s H scope (compEnvC scope cl C X.env) fp) ifs1 tt1)
    (hs1 : ∀ env x, foldedSetIterable iter1 env x = pure x)
    (h : tSc2 X.prog X.w wi g tt wi1 g1 tt1 te (own.map (·.2)) vs1 σ H Q)
    (hRR : ∀ D C s' m H', Inv X pins σ H' s' → Q (.ref D) H' → s'.heap.Ns C m → FpOk X pins H' C → compPost (model X.prog X.w) X.A X.xe use Qf (.ref D) C (.ok .next) s') :
    wpAny (model X.prog X.w) X.A (comprehension (.SetComp elt [⟨tg, iter, ifs, 0⟩, ⟨tg1, iter1, ifs1, 0⟩] scope pos) scope X.env pos' (newSet (.type "set")) false (eval iter X.env) use) Qf X.xe s := by
  have hfree : ∀ y ∈ scope.names, y.2 = .free → ∃ c, X.env.cells.lookup y.1 = some c := fun y hy e => by
    rcases ok.free y hy e with k | k
    · exact I.ok.has _ (.inl k)
    · exact I.ok.has _ (.inr k)
  refine wpAny_comprehension_free (use := use) rfl hs (closure_ok hfree) ok.kind (fun y hy e => by rw [ok.uniq y hy, e])
    (thn (hi pins s σ H _ I h) fun xv s1 hx => thn hx fun itv s2 h2 => ?_)
  obtain ⟨it, fp, tn, J, H2, e, I2, T, st2, f2, q⟩ := h2
  subst e
  refine newS (newEnv_comp ?_)
  generalize hD : s2.heap.objs.size = D
  have hDn : H2 D = none := I2.hok.fresh (Nat.le_of_eq hD)
  obtain ⟨W, ⟨m0, w0⟩, turn⟩ := q D hDn
  -- the new list
  generalize hs3 : ({ s2 with heap := s2.heap.push (nwS X.w) } : Shared) = s3
  have I3 : Inv X pins σ (upd H2 D (SetO X.prog X.w D [])) s3 := by
    rw [← hs3]
    refine I2.laid (t' := s2.toks) (fun b o e => Heap.get?_push_of_some _ e) (Nat.le_of_eq hD) (setO_ok (nwS_c ?_))
    rw [← hD]
    exact Heap.get?_push_size _ rfl
  have h3 : s3.heap = s2.heap.push (nwS X.w) := by rw [← hs3]
  have sz : ∀ b ∈ fp, b < s2.heap.objs.size := fun b hb => by
    obtain ⟨o, e, _⟩ := T.obj _ _ st2 b hb
    exact Heap.lt_size e
  have f3 : ∀ b ∈ fp, FpOk X pins (upd H2 D (SetO X.prog X.w D [])) b ∧ b < s3.heap.objs.size := fun b hb => by
    have hlt := sz b hb
    refine ⟨⟨?_, (f2 b hb).2⟩, by rw [h3, Heap.size_push]; exact Nat.lt_succ_of_lt hlt⟩
    rw [upd_ne (by rw [← hD]; exact Nat.ne_of_lt hlt)]
    exact (f2 b hb).1
  have st3 : tn 0 s3.heap := T.keep _ _ _ st2 fun b _ o e => by rw [h3]; exact Heap.get?_push_of_some _ e
  have I4 := block_start I3 ok hN f3
  have pg := hg s3 (upd H2 D (SetO X.prog X.w D [])) s3.heap.objs.size (cellsFrom (s3.heap.objs.size + 1) scope.names (cloFrom X.env.cells scope.names [])) fp
  have pt := ht s3 (upd H2 D (SetO X.prog X.w D [])) s3.heap.objs.size (cellsFrom (s3.heap.objs.size + 1) scope.names (cloFrom X.env.cells scope.names [])) fp
  have pe := he s3 (upd H2 D (SetO X.prog X.w D [])) s3.heap.objs.size (cellsFrom (s3.heap.objs.size + 1) scope.names (cloFrom X.env.cells scope.names [])) fp
  have pi1 := hi1 s3 (upd H2 D (SetO X.prog X.w D [])) s3.heap.objs.size (cellsFrom (s3.heap.objs.size + 1) scope.names (cloFrom X.env.cells scope.names [])) fp
  have pg1 := hg1 s3 (upd H2 D (SetO X.prog X.w D [])) s3.heap.objs.size (cellsFrom (s3.heap.objs.size + 1) scope.names (cloFrom X.env.cells scope.names [])) fp
  have pt1 := ht1 s3 (upd H2 D (SetO X.prog X.w D [])) s3.heap.objs.size (cellsFrom (s3.heap.objs.size + 1) scope.names (cloFrom X.env.cells scope.names [])) fp
  show codeAny _ _ (.compStart (.SetComp elt [⟨tg, iter, ifs, 0⟩, ⟨tg1, iter1, ifs1, 0⟩] scope pos) 0 (.ref it) (.ref D) (compEnvC scope (cellsFrom (s3.heap.objs.size + 1) scope.names (cloFrom X.env.cells scope.names [])) s3.heap.objs.size X.env)) (compPost (model X.prog X.w) X.A X.xe use Qf (.ref D) s3.heap.objs.size) { s3 with heap := pushCells (s3.heap.push { cls := .type "dict", data := .dict #[] }) scope.names }
  have nfp : ∀ b ∈ fp, (upd H2 D (SetO X.prog X.w D [])) b = none := fun b hb => (f3 b hb).1.1
  generalize hce : compEnvC scope (cellsFrom (s3.heap.objs.size + 1) scope.names (cloFrom X.env.cells scope.names [])) s3.heap.objs.size X.env = ce at I4 pg pt pe pi1 pg1 pt1 ⊢
  have cL : ce.locals = s3.heap.objs.size := by subst hce; rfl
  generalize hH3 : upd H2 D (SetO X.prog X.w D []) = H3 at I3 I4 pg pt pe pi1 pg1 pt1 w0 nfp f3
  generalize hs4 : ({ s3 with heap := pushCells (s3.heap.push { cls := .type "dict", data := .dict #[] }) scope.names } : Shared) = s4 at I4 ⊢
  have st4 : tn 0 s4.heap := T.keep _ _ _ st3 fun b _ o e => by rw [← hs4]; exact pushCells_keeps _ _ _ _ (Heap.get?_push_of_some _ e)
  have stat : ∀ {σ' : St} {H' : Hp} {s' : Shared}, Inv (X.blk s3 H3 scope ce fp) [] σ' H' s' → (∀ b ∈ fp, H' b = none) → ∀ b ∈ fp, FpOk (X.blk s3 H3 scope ce fp) [] H' b := fun {σ' H' s'} I' hn b hb =>
    ⟨hn b hb, (I'.ok.exf b hb).1, I'.ok.exfs b hb, .inl hb, fun x c e => (I'.ok.exf b hb).2 x c e, fun p hp => absurd (show p ∈ ([] : List (Addr × Obj)) ++ [] from hp) (by simp)⟩
  have loop : codeAny (model X.prog X.w) X.A (.compLoop (.SetComp elt [⟨tg, iter, ifs, 0⟩, ⟨tg1, iter1, ifs1, 0⟩] scope pos) 0 (.ref it) (.ref D) ce) (compPost (model X.prog X.w) X.A X.xe use Qf (.ref D) s3.heap.objs.size) s4 := by
    refine compLoop2s_out (hs1 ce) (fun n s' => ∃ i H', Inv (X.blk s3 H3 scope ce fp) [] (wipe σ (own.map (·.2))) H' s' ∧ tn i s'.heap ∧ (∀ b ∈ fp, H' b = none) ∧ W i n H') ?_ m0 ⟨0, H3, I4, st4, nfp, w0⟩
    rintro n s5 ⟨i, H5, I5, st5, n5, w5⟩
    rcases turn i n H5 w5 with ⟨stop, qq⟩ | ⟨go, Nx, hNx, step⟩
    · have td := T.done (X.blk s3 H3 scope ce fp) rfl rfl rfl hc i [] s5 _ H5 (fun _ _ => False) I5 (stat I5 n5) st5 stop
      refine thnF td fun r s6 ⟨hr, I6⟩ => ?_
      subst hr
      -- back in the def's context
      have I7 : Inv X pins σ H5 s6 := I3.call' (ch := fp) I6.os I6.base I6.hok I6.bare fun b hb => ⟨(f3 b hb).1.2.2.2.1, (f3 b hb).1.2.1, (f3 b hb).1.2.2.2.2.1, (f3 b hb).1.2.2.2.2.2⟩
      have nC : H5 s3.heap.objs.size = none := by
        have z : H5 ce.locals = none := I6.free
        rw [cL] at z
        exact z
      obtain ⟨m, hn, _⟩ := I6.loc
      have hn : s6.heap.Ns ce.locals m := hn
      rw [cL] at hn
      exact hRR D s3.heap.objs.size s6 m H5 I7 qq hn (I3.fpOk (Nat.le_refl _) nC)
    · have ti := T.item (X.blk s3 H3 scope ce fp) rfl rfl rfl hc i [] s5 _ H5 (fun _ _ => False) I5 (stat I5 n5) st5 go
      refine thnF ti fun r s6 ⟨u, hr, h6⟩ => ?_
      subst hr
      refine thnF h6 fun _ s7 ⟨x, H7, I7, r7, y7, st7, n7⟩ => ?_
      have I7' := I7.pinned (stat I7 n7) (T.obj _ _ st7)
      refine thnF (pg _ s7 _ H7 x u _ I7' r7 (step x H7 y7)) fun _ s8 ⟨σ8, H8, I8, hw8, q8⟩ => ?_
      refine thnF (pt _ s8 σ8 H8 _ I8 q8) fun b s9 ⟨H9, I9, q9⟩ => ?_
      -- the turn's end, from any slots that know what the block knew at its start
      have fin : ∀ {σ9 : St} {s' : Shared} {H' : Hp}, Inv (X.blk s3 H3 scope ce fp) ([] ++ pinsAt fp s7.heap) σ9 H' s' → (wipe σ (own.map (·.2))).length = σ9.length → (∀ (j : Nat) v, (wipe σ (own.map (·.2)))[j]? = some (some v) → σ9[j]? = some (some v)) → Nx H' →
          ∃ m, m < n ∧ ∃ i H', Inv (X.blk s3 H3 scope ce fp) [] (wipe σ (own.map (·.2))) H' s' ∧ tn i s'.heap ∧ (∀ b ∈ fp, H' b = none) ∧ W i m H' := fun {σ9 s' H'} I' hl hk nx => by
        obtain ⟨m', hm, w'⟩ := hNx H' nx
        have pin' : ∀ b ∈ fp, ∀ o, s7.heap.get? b = some o → s'.heap.get? b = some o ∧ H' b = none := fun b hb o e =>
          let z := I'.pin (b, o) (List.mem_append_right _ (List.mem_append_right _ (mem_pinsAt hb e)))
          ⟨z.1, z.2.1⟩
        refine ⟨m', hm, i + 1, H', (I'.unpinned (pins := [])).weak hl hk, T.keep _ _ _ st7 fun b hb o e => (pin' b hb o e).1, fun b hb => ?_, w'⟩
        obtain ⟨o, e, _⟩ := T.obj _ _ st7 b hb
        exact (pin' b hb o e).2
      have hl8 : (wipe σ (own.map (·.2))).length = σ8.length := by rw [← hw8, wipe_length]
      have hk8 : ∀ (j : Nat) v, (wipe σ (own.map (·.2)))[j]? = some (some v) → σ8[j]? = some (some v) := fun j v e => by
        rw [← hw8] at e
        exact (wipe_some e).1
      have hk9 : ∀ (j : Nat) v, (wipe σ (own.map (·.2)))[j]? = some (some v) → (wipe σ8 vs1)[j]? = some (some v) := fun j v e => by
        rw [← hw8] at e
        obtain ⟨e1, e2⟩ := wipe_some e
        rw [wipe_out fun z => e2 (hv j z)]
        exact e1
      cases b with
      | false =>
        simp only [Bool.false_eq_true, if_false] at q9 ⊢
        exact fin I9 hl8 hk8 q9
      | true =>
        simp only [if_true] at q9 ⊢
        refine thnF (pi1 _ s9 σ8 H9 _ I9 q9) fun xv s10 hx => thnF hx fun itv s11 h11 => ?_
        obtain ⟨it1, fp1, tn1, J1, H11, e1, I11, T1, st11, f11, W1, ⟨m1, w1⟩, turn1⟩ := h11
        subst e1
        -- the inner loop
        have stat1 : ∀ {H' : Hp}, (∀ b ∈ fp1, H' b = none) → ∀ b ∈ fp1, FpOk (X.blk s3 H3 scope ce fp) ([] ++ pinsAt fp s7.heap) H' b := fun hn b hb => ⟨hn b hb, (f11 b hb).2⟩
        have loop1 : codeAny (model X.prog X.w) X.A (.compLoop (.SetComp elt [⟨tg, iter, ifs, 0⟩, ⟨tg1, iter1, ifs1, 0⟩] scope pos) 1 (.ref it1) (.ref D) ce)
            (fun r s' => match r with
              | .ok _ => ∃ m, m < n ∧ ∃ i H', Inv (X.blk s3 H3 scope ce fp) [] (wipe σ (own.map (·.2))) H' s' ∧ tn i s'.heap ∧ (∀ b ∈ fp, H' b = none) ∧ W i m H'
              | .error _ => False) s11 := by
          refine compLoop2s_in (fun k s' => ∃ j H', Inv (X.blk s3 H3 scope ce fp) ([] ++ pinsAt fp s7.heap) (wipe σ8 vs1) H' s' ∧ tn1 j s'.heap ∧ (∀ b ∈ fp1, H' b = none) ∧ W1 j k H') ?_ m1 ⟨0, H11, I11.weak (wipe_length _ _) (fun j v e => (wipe_some e).1), st11, fun b hb => (f11 b hb).1, w1⟩
          rintro k s12 ⟨j, H12, I12, st12, n12, w12⟩
          rcases turn1 j k H12 w12 with ⟨stop1, nx1⟩ | ⟨go1, Nx1, hNx1, step1⟩
          · refine thnF (T1.done (X.blk s3 H3 scope ce fp) rfl rfl rfl hc j _ s12 (wipe σ8 vs1) H12 (fun _ _ => False) I12 (stat1 n12) st12 stop1) fun r s13 ⟨hr, I13⟩ => ?_
            subst hr
            exact fin I13 (hl8.trans (wipe_length σ8 vs1).symm) hk9 nx1
          · refine thnF (T1.item (X.blk s3 H3 scope ce fp) rfl rfl rfl hc j _ s12 (wipe σ8 vs1) H12 (fun _ _ => False) I12 (stat1 n12) st12 go1) fun r s13 ⟨u1, hr, h13⟩ => ?_
            subst hr
            refine thnF h13 fun _ s14 ⟨x1, H14, I14, r14, y14, st14, n14⟩ => ?_
            have I14' := I14.pinned (stat1 n14) (T1.obj _ _ st14)
            refine thnF (pg1 _ s14 (wipe σ8 vs1) H14 x1 u1 _ I14' r14 (step1 x1 H14 y14)) fun _ s15 ⟨σ15, H15, I15, hw15, q15⟩ => ?_
            refine thnF (pt1 _ s15 σ15 H15 _ I15 q15) fun b1 s16 ⟨H16, I16, q16⟩ => ?_
            have fin1 : ∀ {s' : Shared} {H' : Hp}, Inv (X.blk s3 H3 scope ce fp) (([] ++ pinsAt fp s7.heap) ++ pinsAt fp1 s14.heap) σ15 H' s' → Nx1 H' → ∃ m, m < k ∧ ∃ j H', Inv (X.blk s3 H3 scope ce fp) ([] ++ pinsAt fp s7.heap) (wipe σ8 vs1) H' s' ∧ tn1 j s'.heap ∧ (∀ b ∈ fp1, H' b = none) ∧ W1 j m H' := fun {s' H'} I' nx => by
              obtain ⟨m', hm, w'⟩ := hNx1 H' nx
              have pin' : ∀ b ∈ fp1, ∀ o, s14.heap.get? b = some o → s'.heap.get? b = some o ∧ H' b = none := fun b hb o e =>
                let z := I'.pin (b, o) (List.mem_append_right _ (List.mem_append_right _ (mem_pinsAt hb e)))
                ⟨z.1, z.2.1⟩
              refine ⟨m', hm, j + 1, H', I'.unpinned.weak (by rw [← hw15, wipe_length]) (fun j v e => by rw [← hw15] at e; exact (wipe_some e).1), T1.keep _ _ _ st14 fun b hb o e => (pin' b hb o e).1, fun b hb => ?_, w'⟩
              obtain ⟨o, e, _⟩ := T1.obj _ _ st14 b hb
              exact (pin' b hb o e).2
            cases b1 with
            | false =>
              simp only [Bool.false_eq_true, if_false] at q16 ⊢
              exact fin1 I16 q16
            | true =>
              simp only [if_true] at q16 ⊢
              refine thnF (pe _ s16 σ15 H16 _ I16 q16) fun z s17 ⟨yv, H17, I17, r17, kk, acc, eyv, hD17, hz17, nx⟩ => ?_
              subst eyv
              exact add_ok (X := X.blk s3 H3 scope ce fp) I17 hD17 hz17 r17 fun s18 I18 => fin1 I18 nx
        exact compStart1s_ok loop1 (T1.self X.A 0 _ _ _ st11 loop1)
  exact compStart_set loop (T.self X.A 0 _ _ _ st4 loop)
theorem pe_sc2 {elt tg iter tg1 iter1 : Expr} {ifs ifs1 : List Expr} {scope : Scope} {own : List (Str × Nat)} {vs1 : List Nat} {pos : Pos} {wi wi1 : TI} {g g1 : TG} {tt tt1 : TT} {te : TE} (hc : X.calm = true) (hN : X.N.Nodup) (hi : PI X tg iter wi) (ok : BlkOk X.N X.env.scope scope own) (hv : ∀ i ∈ vs1, i ∈ own.map (·.2))
    (hg : ∀ (s : Shared) (H : Hp) (C : Addr) (cl : List (Str × Addr)) (fp : List Addr), PG (X.blk s H scope (compEnvC scope cl C X.env) fp) tg g) (ht : ∀ (s : Shared) (H : Hp) (C : Addr) (cl : List (Str × Addr)) (fp : List Addr), PTs (X.blk s H scope (compEnvC scope cl C X.env) fp) ifs tt)
    (hi1 : ∀ (s : Shared) (H : Hp) (C : Addr) (cl : List (Str × Addr)) (fp : List Addr), PI (X.blk s H scope (compEnvC scope cl C X.env) fp) tg1 iter1 wi1)
    (hg1 : ∀ (s : Shared) (H : Hp) (C : Addr) (cl : List (Str × Addr)) (fp : List Addr), PG (X.blk s H scope (compEnvC scope cl C X.env) fp) tg1 g1) (ht1 : ∀ (s : Shared) (H : Hp) (C : Addr) (cl : List (Str × Addr)) (fp : List Addr), PTs (X.blk s H scope (compEnvC scope cl C X.env) fp) ifs1 tt1)
    (he : ∀ (s : Shared) (H : Hp) (C : Addr) (cl : List (Str × Addr)) (fp : List Addr), PE (X.blk s H scope (compEnvC scope cl C X.env) fp) elt te) (hs : ∀ x, foldedSetIterable iter X.env x = pure x := by intro _; rfl) (hs1 : ∀ env x, foldedSetIterable iter1 env x = pure x := by intro _ _; rfl) :
    PE X (.SetComp elt [⟨tg, iter, ifs, 0⟩, ⟨tg1, iter1, ifs1, 0⟩] scope pos) (tSc2 X.prog X.w wi g tt wi1 g1 tt1 te (own.map (·.2)) vs1) := by
  intro pins s σ H Q I h
  rw [arm_eval_SetComp]
  show wpAny _ X.A (comprehension (.SetComp elt [⟨tg, iter, ifs, 0⟩, ⟨tg1, iter1, ifs1, 0⟩] scope pos) scope X.env (firstIterPos [⟨tg, iter, ifs, 0⟩, ⟨tg1, iter1, ifs1, 0⟩] pos) (newSet (.type "set")) false (eval iter X.env)) _ _ s
  refine sc2_core hc hN I hi ok hv hg ht he hs hi1 hg1 ht1 hs1 h fun D C s' m H' I' q hn f => ⟨m, hn, fun h'' sb => ?_⟩
  obtain ⟨f0, f1, f2, f3, f4, f5⟩ := f
  exact ⟨.ref D, H', I'.turned (t' := s'.toks) (fun b o hb e => (sb.2 b hb).trans e) f0 f1 f3 f4 f5, rfl, q⟩
end
end L2.Fs
set_option Elab.async false
set_option linter.all false
set_option maxRecDepth 100000
namespace L2.Fs
open PySem PySem.Spec PyProof.Rows
section
variable {K : PySem.W.Frag} {H0 F0 F H Hb : Hp} {σ : Ev} {σV : St}
theorem EnvR.innerB (E : EnvR K H0 F0 F H σ σV) (no : NoOwn σ) (hb : Same Hb H) : EnvR K Hb F F H (valE σ) σV := by
  have I := E.inner no []
  exact ⟨I.fh, I.f0, hb, fun a o e => .inl ⟨o, e⟩, I.len, fun i s e => by
    obtain ⟨v, g1, g2⟩ := I.sl i s e
    refine ⟨v, g1, ?_⟩
    rcases s with _ | ⟨b, d⟩
    · trivial
    · have e' : (valE σ)[i]? = some (some (b, d)) := e
      unfold valE at e'
      rw [List.getElem?_map] at e'
      cases hs : σ[i]? with
      | none => rw [hs] at e'; cases e'
      | some s0 =>
        rw [hs] at e'
        rcases s0 with _ | ⟨b0, d0⟩
        · cases e'
        · cases e'; exact g2, I.sep⟩
theorem EnvR.outerB {F' H' : Hp} {σ1 : Ev} {σ2 : St} (E : EnvR K H0 F0 F H σ σV) (no : NoOwn σ) (hb : Same H0 Hb) (I : EnvR K Hb F F' H' σ1 σ2) : EnvR K H0 F0 F' H' σ σV where
  fh := I.fh
  f0 := E.f0.trans I.f0
  h0 := hb.trans I.h0
  nw := fun a o e => by
    rcases I.nw a o e with ⟨o', q⟩ | q
    · exact E.nw a o' q
    · exact .inr (Same.free hb q)
  len := E.len
  sl := fun i s e => by
    obtain ⟨v, g1, g2⟩ := E.sl i s e
    refine ⟨v, g1, ?_⟩
    rcases s with _ | ⟨b, d⟩
    · trivial
    · cases b with
      | val => obtain ⟨x, e1, e2⟩ := g2; exact ⟨x, e1, e2.mono I.f0⟩
      | loc => obtain ⟨x, e1, e2⟩ := g2; exact ⟨x, e1, e2.mono I.f0⟩
      | own => exact absurd e (no i d)
  sep := E.sep
end
theorem noOwn_val (σ : Ev) : NoOwn (valE σ) := fun i d h => by
  unfold valE at h
  rw [List.getElem?_map] at h
  cases hs : σ[i]? with
  | none => rw [hs] at h; cases h
  | some s =>
    rw [hs] at h
    rcases s with _ | ⟨b, e⟩ <;> cases h
theorem mine_val (σ : Ev) (i : Nat) (s : Sl) (h : (valE σ)[i]? = some s) : Mine s = false := by
  unfold valE at h
  rw [List.getElem?_map] at h
  cases hs : σ[i]? with
  | none => rw [hs] at h; cases h
  | some s0 =>
    rw [hs] at h
    rcases s0 with _ | ⟨b, e⟩ <;> cases h <;> rfl
/-- a turn of the first clause: all that the second tells -/
def turn2 (tg : GFn) (c : TF) (it1 : IF) (tg1 : GFn) (c1 : TF) (e : XF) (vs1 : List Nat) (σi : Ev) (d : Y) : O (List Y) := (tg d σi).bind fun σa => (c σa).bind fun q => if q.1 then (it1 q.2).bind fun p => goF (turnF tg1 c1 e (wipeE (valE (valE (shareE p.2))) vs1)) p.1 else .ok []
def go2F (t : Y → O (List Y)) : List Y → O (List Y)
  | [] => .ok []
  | d :: ds => (t d).bind fun o => (go2F t ds).bind fun r => .ok (o ++ r)
theorem go2F_app (t : Y → O (List Y)) : ∀ {a b x y : List Y}, go2F t a = .ok x → go2F t b = .ok y → go2F t (a ++ b) = .ok (x ++ y)
  | [], b, x, y, h1, h2 => by cases h1; exact h2
  | d :: a, b, x, y, h1, h2 => by
    obtain ⟨o, e1, h1⟩ := O.of_bind h1
    obtain ⟨r, e2, h1⟩ := O.of_bind h1
    cases h1
    show (t d).bind (fun o => (go2F t (a ++ b)).bind fun r => .ok (o ++ r)) = _
    rw [e1, O.bind_ok, go2F_app t e2 h2, O.bind_ok, List.append_assoc]
theorem go2F_split (t : Y → O (List Y)) : ∀ {a b out : List Y}, go2F t (a ++ b) = .ok out → ∃ x y, go2F t a = .ok x ∧ go2F t b = .ok y ∧ out = x ++ y
  | [], b, out, h => ⟨[], out, rfl, h, rfl⟩
  | d :: a, b, out, h => by
    have h : (t d).bind (fun o => (go2F t (a ++ b)).bind fun r => .ok (o ++ r)) = .ok out := h
    obtain ⟨o, e1, h⟩ := O.of_bind h
    obtain ⟨r, e2, h⟩ := O.of_bind h
    cases h
    obtain ⟨x, y, h1, h2, rfl⟩ := go2F_split t e2
    refine ⟨o ++ x, y, ?_, h2, by rw [List.append_assoc]⟩
    show (t d).bind (fun o => (go2F t a).bind fun r => .ok (o ++ r)) = _
    rw [e1, O.bind_ok, h1, O.bind_ok]
/-- sorted({e for x in xs if .. for y in ys if ..}) -/
def xSs2 (it : IF) (tg : GFn) (c : TF) (it1 : IF) (tg1 : GFn) (c1 : TF) (e : XF) (own vs1 : List Nat) : XF := fun σ => (it σ).bind fun q => (go2F (turn2 tg c it1 tg1 c1 e vs1 (wipeE (valE (shareE q.2)) own)) q.1).bind fun out => if out.length + 1 < 4096 then (match intsD out with
  | some ns => .ok ⟨.list ((ssD ns).map .int), true, shareE q.2⟩
  | none => .bad) else .bad
def tiX (K : PySem.W.Frag) (Ft : Hp) (it : IF) : TI := fun σV H R => ∃ H0 F0 σ ds σ', Same Ft F0 ∧ it σ = .ok (ds, σ') ∧ tI K H0 F0 σ ds σ' σV H R
theorem sc2_read {X : Cx} {Ft H0 F0 : Hp} {σ σ1 : Ev} {ds out : List Y} {ns : List Int} {is is1 vs vs1 : List Nat} {tg tg1 : GFn} {c c1 : TF} {it1 : IF} {e : XF} (hF : Same Ft F0) (his : ∀ i ∈ is, i ∈ vs) (his1 : ∀ i ∈ is1, i ∈ vs1)
    (hgo : go2F (turn2 tg c it1 tg1 c1 e vs1 (wipeE (valE (shareE σ1)) vs)) ds = .ok out) (hz : out.length + 1 < 4096) (hns : intsD out = some ns)
    {σV : St} {H : Hp} {Q : VK} (t : tE X.K H0 F0 σ ⟨.list ((ssD ns).map .int), true, shareE σ1⟩ σV H Q) :
    tSc2 X.prog X.w (tI X.K H0 F0 σ ds σ1) (tgX X.K is tg) (ttX X.K Ft c) (tiX X.K Ft it1) (tgX X.K is1 tg1) (ttX X.K Ft c1) (teX X.K Ft e) vs vs1 σV H (fun v H' => rSortSet X [v] H' Q) := by
  obtain ⟨F, E, k⟩ := t
  refine ⟨F, E, fun J F1 H1 E1 s1 it D hD => ?_⟩
  obtain ⟨F2, s2, E2⟩ := E1.shareAll
  have no := noOwn_share σ1
  have dn : ∀ (i : Nat) (s : Sl), (shareE σ1)[i]? = some s → Mine s = true → σV[i]? ≠ some (some (.ref D)) := fun i s h hm => E2.fresh hD i s h hm
  have hD0 : H0 D = none := Same.free E1.h0 hD
  generalize hT : turn2 tg c it1 tg1 c1 e vs1 (wipeE (valE (shareE σ1)) vs) = T2 at hgo
  let Inv1 : Nat → Hp → Prop := fun i H => ∃ F oi ms, EnvR X.K H0 F0 F H (shareE σ1) σV ∧ Same F2 F ∧ go2F T2 (ds.take i) = .ok oi ∧ intsD oi = some ms ∧ H D = some (SetO X.prog X.w D (ms.foldl insK [])) ∧ F D = none
  have short : ∀ {a b : List Y} {ms : List Int}, out = a ++ b → intsD a = some ms → (ms.foldl insK []).length + 1 < 4096 := fun {a b ms} e1 e2 => by
    have h1 := foldK_len ms []
    have h2 := intsD_len e2
    rw [e1, List.length_append] at hz
    simp only [List.length_nil] at h1
    omega
  refine ⟨fun i m H => m = ds.length - i ∧ i ≤ ds.length ∧ Inv1 i H, ⟨ds.length, rfl, Nat.zero_le _, F2, [], [], E2.laid _ hD, Same.refl _, rfl, rfl, upd_same, Same.free E2.fh hD⟩, ?_⟩
  rintro i m H ⟨rfl, hi, F3, oi, ms, E3, s3, g3, hms, hDacc, hFD⟩
  have it3 := it.mono (s2.trans s3)
  by_cases hlt : i < ds.length
  · have hd : ds[i]? = some ds[i] := List.getElem?_eq_getElem hlt
    have hdr : ds.drop i = ds[i] :: ds.drop (i + 1) := List.drop_eq_getElem_cons hlt
    -- what the turn tells
    have hh := hgo
    rw [← List.take_append_drop i ds, hdr] at hh
    obtain ⟨xa, xb, h1, h2, hout⟩ := go2F_split _ hh
    rw [g3] at h1
    cases h1
    have h2 : (T2 ds[i]).bind (fun o => (go2F T2 (ds.drop (i + 1))).bind fun r => .ok (o ++ r)) = .ok xb := h2
    obtain ⟨o, ho, h2⟩ := O.of_bind h2
    obtain ⟨rest, _, h2⟩ := O.of_bind h2
    cases h2
    have gnext : go2F T2 (ds.take (i + 1)) = .ok (oi ++ o) := by
      rw [List.take_add_one, hd]
      refine go2F_app T2 g3 ?_
      show (T2 ds[i]).bind _ = _
      rw [ho, O.bind_ok]
      show O.ok (o ++ []) = _
      rw [List.append_nil]
    obtain ⟨msAll, msRest, hm1, _, _⟩ := intsD_app (a := oi ++ o) (b := rest) (by rw [List.append_assoc, ← hout]; exact hns)
    refine .inr ⟨it3.go i _ H hd E3.fh, Inv1 (i + 1), fun H' q => ⟨ds.length - (i + 1), by omega, rfl, hlt, q⟩, fun x H' hy => ?_⟩
    -- the turn
    have ht := ho
    rw [← hT] at ht
    obtain ⟨σa, ea, ht⟩ := O.of_bind ht
    obtain ⟨⟨b, σb⟩, eb, ht⟩ := O.of_bind ht
    have start : ∃ F1', Same F3 F1' ∧ Same H H' ∧ EnvR X.K H0 F0 F1' H' (shareE σ1) σV ∧ Rp X.K F1' x ds[i] ∧ F1' D = none := by
      rcases it3.yld i _ H x H' hd E3.fh hy with ⟨rfl, r⟩ | ⟨p, u, hp, rfl, r⟩
      · exact ⟨F3, Same.refl _, Same.refl _, E3, r, hFD⟩
      · obtain ⟨E4, s4⟩ := E3.laidF u hp
        have hDp : D ≠ p := fun z => by rw [z, hp] at hDacc; cases hDacc
        exact ⟨_, s4, Same.laid (Same.refl _) hp, E4, r, by rw [upd_ne hDp]; exact hFD⟩
    obtain ⟨F4, s4, sH, E4, rx, hF4⟩ := start
    have hD4 : H' D = some (SetO X.prog X.w D (ms.foldl insK [])) := sH _ _ hDacc
    have noF : ∀ {F' Hx : Hp} {σx : Ev} {σy : St}, EnvR X.K H' F4 F' Hx σx σy → F' D = none := fun {F' Hx σx σy} I => by
      cases q : F' D with
      | none => rfl
      | some u =>
        rcases I.nw D u q with ⟨u', z⟩ | z
        · rw [hF4] at z; cases z
        · rw [hD4] at z; cases z
    refine ⟨H', F4, ds[i], _, σa, ea, F4, E4.inner no vs, rx, fun σV2 E5 w2 => ⟨?_, H', F4, σa, b, σb, hF.trans E4.f0, eb, F4, E5, fun F6 H6 E6 s6 => ?_⟩⟩
    · rw [w2 vs his]
      exact wipe_wipe σV vs
    · have hD6 : H6 D = some (SetO X.prog X.w D (ms.foldl insK [])) := E6.h0 _ _ hD4
      cases b with
      | false =>
        cases ht
        refine iteF ⟨F6, oi ++ [], ms, E4.outer no E6, (s3.trans s4).trans s6, gnext, by rw [List.append_nil]; exact hms, hD6, noF E6⟩
      | true =>
        have ht : ((it1 σb).bind fun p => goF (turnF tg1 c1 e (wipeE (valE (valE (shareE p.2))) vs1)) p.1) = .ok o := ht
        obtain ⟨⟨ds1, σc⟩, ec, ht⟩ := O.of_bind ht
        refine iteT ⟨H', F4, σb, ds1, σc, hF.trans E4.f0, ec, F6, E6, fun J1 F7 H7 E7 s7 it7 => ?_⟩
        obtain ⟨F8, s8, E8⟩ := E7.shareAll
        have hD7 : H7 D = some (SetO X.prog X.w D (ms.foldl insK [])) := E7.h0 _ _ hD4
        have hF8 := noF E8
        have noc := noOwn_share σc
        -- the heap without the set
        have hbS : Same (fun b => if b = D then none else H7 b) H7 := fun b u q => by
          by_cases hb : b = D
          · simp only [hb, if_true] at q; cases q
          · simp only [hb, if_false] at q; exact q
        have hbD : (fun b => if b = D then none else H7 b) D = (none : Option HO) := if_pos rfl
        have EB := E8.innerB noc hbS
        have EO : EnvR X.K H0 F0 F8 H7 (shareE σ1) σV := E4.outer no E8
        have hb0 : Same H0 (fun b => if b = D then none else H7 b) := fun b u q => by
          have hb : b ≠ D := fun z => by rw [z, hD0] at q; cases q
          show (if b = D then none else H7 b) = some u
          rw [if_neg hb]
          exact EO.h0 b u q
        have it8 := it7.mono s8
        refine ⟨fun j kx H => kx = ds1.length - j ∧ j ≤ ds1.length ∧ ∃ F oj mj, EnvR X.K (fun b => if b = D then none else H7 b) F8 F H (valE (shareE σc)) σV2 ∧ goF (turnF tg1 c1 e (wipeE (valE (valE (shareE σc))) vs1)) (ds1.take j) = .ok oj ∧ intsD (oi ++ oj) = some mj ∧ H D = some (SetO X.prog X.w D (mj.foldl insK [])) ∧ F D = none,
          ⟨ds1.length, rfl, Nat.zero_le _, F8, [], ms, EB, rfl, by rw [List.append_nil]; exact hms, hD7, hF8⟩, ?_⟩
        rintro j kx Hj ⟨rfl, hj, F9, oj, mj, E9, g9, hmj, hD9, hF9⟩
        have it9 := it8.mono E9.f0
        by_cases hlj : j < ds1.length
        · have hd1 : ds1[j]? = some ds1[j] := List.getElem?_eq_getElem hlj
          obtain ⟨o1, ho1⟩ := goF_at _ ht hd1
          have g10 := goF_step g9 hd1 ho1
          have hh1 := ht
          rw [← List.take_append_drop (j + 1) ds1] at hh1
          obtain ⟨ya, yb, z1, z2, hoo⟩ := goF_split _ hh1
          rw [g10] at z1
          cases z1
          have hpre : ∃ m2, intsD (oi ++ (oj ++ o1.toList)) = some m2 ∧ out = (oi ++ (oj ++ o1.toList)) ++ (yb ++ rest) := by
            have e1 : out = (oi ++ (oj ++ o1.toList)) ++ (yb ++ rest) := by rw [hout, hoo]; simp
            obtain ⟨na, nb, q1, _, _⟩ := intsD_app (a := oi ++ (oj ++ o1.toList)) (b := yb ++ rest) (by rw [← e1]; exact hns)
            exact ⟨na, q1, e1⟩
          obtain ⟨m2, hm2, hout2⟩ := hpre
          refine .inr ⟨it9.go j _ Hj hd1 E9.fh, fun H' => ∃ F oj mj, EnvR X.K (fun b => if b = D then none else H7 b) F8 F H' (valE (shareE σc)) σV2 ∧ goF (turnF tg1 c1 e (wipeE (valE (valE (shareE σc))) vs1)) (ds1.take (j + 1)) = .ok oj ∧ intsD (oi ++ oj) = some mj ∧ H' D = some (SetO X.prog X.w D (mj.foldl insK [])) ∧ F D = none,
            fun H' q => ⟨ds1.length - (j + 1), by omega, rfl, hlj, q⟩, fun x1 H10 hy1 => ?_⟩
          have nwD : ∀ {F' : Hp}, (∀ a u, F' a = some u → (∃ u', F9 a = some u') ∨ Hj a = none) → F' D = none := fun {F'} nw => by
            cases q : F' D with
            | none => rfl
            | some u =>
              rcases nw D u q with ⟨u', z⟩ | z
              · rw [hF9] at z; cases z
              · rw [hD9] at z; cases z
          refine turn_step (hF.trans (E4.f0.trans E8.f0)) E9 (noOwn_val _) his1 ho1 (it9.yld j _ Hj x1 H10 hd1 E9.fh hy1) (fun y F' H'' v e1 E' sF sH' nw rv => ?_) (fun F' H'' e1 E' sF sH' nw => ?_)
          · subst e1
            have hm2' : intsD ((oi ++ oj) ++ [y]) = some m2 := by rw [List.append_assoc]; exact hm2
            obtain ⟨na, nb, q1, q2, rfl⟩ := intsD_app hm2'
            rw [hmj] at q1
            cases q1
            have ey : ∃ kk, y = .int kk ∧ nb = [kk] := by
              cases y <;> simp only [intsD] at q2 <;> try cases q2
              exact ⟨_, rfl, rfl⟩
            obtain ⟨kk, rfl, rfl⟩ := ey
            cases rv
            exact ⟨kk, _, rfl, sH' _ _ hD9, short (a := oi ++ oj) (b := [.int kk] ++ (yb ++ rest)) (by rw [hout2]; simp) hmj, F', oj ++ [.int kk], mj ++ [kk], E'.bump (nwD nw) hbD (fun i s h hm => by rw [mine_val _ i s h] at hm; cases hm), g10, hm2, by rw [upd_same, List.foldl_append]; rfl, nwD nw⟩
          · subst e1
            have g10' : goF (turnF tg1 c1 e (wipeE (valE (valE (shareE σc))) vs1)) (ds1.take (j + 1)) = .ok oj := by simpa using g10
            exact ⟨F', oj, mj, E', g10', hmj, sH' _ _ hD9, nwD nw⟩
        · have hj' : j = ds1.length := by omega
          subst hj'
          rw [List.take_length, ht] at g9
          cases g9
          refine .inl ⟨it9.stop _ Hj E9.fh (Nat.le_refl _), F9, oi ++ o, mj, EO.outerB no hb0 E9, (((s3.trans s4).trans s6).trans (s7.trans s8)).trans E9.f0, gnext, hmj, hD9, hF9⟩
  · have hi' : i = ds.length := by omega
    subst hi'
    rw [List.take_length, hgo] at g3
    cases g3
    rw [hns] at hms
    cases hms
    refine .inl ⟨it3.stop _ H E3.fh (Nat.le_refl _), D, _, rfl, hDacc, by have := short (a := out) (b := []) (by simp) hns; omega, fun ns' p p1 p2 hp => ?_⟩
    obtain ⟨E4, r4⟩ := E3.laidO (xs := ns'.map V.int) (ds := ns'.map .int) hp (rps_ints ns')
    refine k F3 _ _ E4 ((s1.trans s2).trans s3) ?_
    show ResR _ _ _ _ _ _ true (.list ((ssD ns).map .int)) _
    rw [show ssD ns = ns' from (srt_eq p1 p2).symm]
    exact r4
end L2.Fs
set_option Elab.async false
set_option linter.all false
set_option maxRecDepth 100000
namespace L2.Fs
open PySem PySem.Spec PyProof.Rows
section
variable {X : Cx} {Ft H0 F0 : Hp} {elt tg iter tg1 iter1 : Expr} {ifs ifs1 : List Expr} {scope : Scope} {own : List (Str × Nat)} {vs1 : List Nat} {pos gpos p : Pos} {it it1 : IF} {g g1 : GFn} {c c1 : TF} {e : XF} {is is1 : List Nat}
theorem pv_sortSc2 (hF : Same Ft F0) (hc : X.calm = true) (hN : X.N.Nodup) (hi : PVI X H0 F0 tg iter it) (ok : BlkOk X.N X.env.scope scope own) (his : ∀ i ∈ is, i ∈ own.map (·.2)) (hv : ∀ i ∈ vs1, i ∈ own.map (·.2)) (his1 : ∀ i ∈ is1, i ∈ vs1)
    (hg : ∀ (s : Shared) (H : Hp) (C : Addr) (cl : List (Str × Addr)) (fp : List Addr), PVG (X.blk s H scope (compEnvC scope cl C X.env) fp) tg is g)
    (ht : ∀ (s : Shared) (H : Hp) (C : Addr) (cl : List (Str × Addr)) (fp : List Addr), PVTs (X.blk s H scope (compEnvC scope cl C X.env) fp) Ft ifs c)
    (hi1 : ∀ (s : Shared) (H : Hp) (C : Addr) (cl : List (Str × Addr)) (fp : List Addr) (H0 F0 : Hp), Same Ft F0 → PVI (X.blk s H scope (compEnvC scope cl C X.env) fp) H0 F0 tg1 iter1 it1)
    (hg1 : ∀ (s : Shared) (H : Hp) (C : Addr) (cl : List (Str × Addr)) (fp : List Addr), PVG (X.blk s H scope (compEnvC scope cl C X.env) fp) tg1 is1 g1)
    (ht1 : ∀ (s : Shared) (H : Hp) (C : Addr) (cl : List (Str × Addr)) (fp : List Addr), PVTs (X.blk s H scope (compEnvC scope cl C X.env) fp) Ft ifs1 c1)
    (he : ∀ (s : Shared) (H : Hp) (C : Addr) (cl : List (Str × Addr)) (fp : List Addr) (H0 F0 : Hp), Same Ft F0 → PV (X.blk s H scope (compEnvC scope cl C X.env) fp) H0 F0 elt e)
    (hs : ∀ x, foldedSetIterable iter X.env x = pure x) (hs1 : ∀ env x, foldedSetIterable iter1 env x = pure x) (hgl : Gl X "sorted") (hm : X.mg "sorted" = none)
    (he2 : starEach [.SetComp elt [⟨tg, iter, ifs, 0⟩, ⟨tg1, iter1, ifs1, 0⟩] scope gpos] X.env = [(false, eval (.SetComp elt [⟨tg, iter, ifs, 0⟩, ⟨tg1, iter1, ifs1, 0⟩] scope gpos) X.env)]) :
    PV X H0 F0 (.Call (.Name "sorted" p) [.SetComp elt [⟨tg, iter, ifs, 0⟩, ⟨tg1, iter1, ifs1, 0⟩] scope gpos] [] pos) (xSs2 it g c it1 g1 c1 e (own.map (·.2)) vs1) := by
  intro σ r hr
  obtain ⟨⟨ds, σ1⟩, e1, hr⟩ := O.of_bind hr
  obtain ⟨out, e2, hr⟩ := O.of_bind hr
  split at hr
  · rename_i hz
    split at hr
    · rename_i ns hns
      cases hr
      refine PE.of (L2.pe_callB (cr_sortSet hc) hgl hm boot_sorted (pa_cons (pe_sc2 (g := tgX X.K is g) (tt := ttX X.K Ft c) (wi1 := tiX X.K Ft it1) (g1 := tgX X.K is1 g1) (tt1 := ttX X.K Ft c1) (te := teX X.K Ft e) hc hN (hi σ ds σ1 e1) ok hv (fun s H C cl fp => ?_) (fun s H C cl fp => ?_) (fun s H C cl fp => ?_) (fun s H C cl fp => ?_) (fun s H C cl fp => ?_) (fun s H C cl fp => ?_) hs hs1) pa_nil he2) (by decide) (by decide) he2 rfl) fun σV H Q t => sc2_read hF his his1 e2 hz hns t
      · intro pins s' σV H' v u Q I r ⟨H0, F0, d, σ, σ', h, t⟩
        exact hg s H C cl fp H0 F0 d σ σ' h pins s' σV H' v u Q I r t
      · intro pins s' σV H' Q I ⟨H0, F0, σ, b, σ', hf, h, t⟩
        exact ht s H C cl fp H0 F0 σ b σ' hf h pins s' σV H' Q I t
      · intro pins s' σV H' R I ⟨H0, F0, σ, ds, σ', hf, h, t⟩
        exact hi1 s H C cl fp H0 F0 hf σ ds σ' h pins s' σV H' R I t
      · intro pins s' σV H' v u Q I r ⟨H0, F0, d, σ, σ', h, t⟩
        exact hg1 s H C cl fp H0 F0 d σ σ' h pins s' σV H' v u Q I r t
      · intro pins s' σV H' Q I ⟨H0, F0, σ, b, σ', hf, h, t⟩
        exact ht1 s H C cl fp H0 F0 σ b σ' hf h pins s' σV H' Q I t
      · intro pins s' σV H' Q I ⟨H0, F0, σ, r, hf, h, t⟩
        exact he s H C cl fp H0 F0 hf σ r h pins s' σV H' Q I t
    · cases hr
  · cases hr
end
end L2.Fs
set_option Elab.async false
set_option linter.all false
set_option maxRecDepth 100000
namespace L2.Fs
open PySem PySem.Spec PyProof.Rows
end L2.Fs
set_option Elab.async false
set_option linter.all false
set_option maxRecDepth 100000
namespace L2.Fs
open PySem PySem.Spec PyProof.Rows
end L2.Fs
set_option Elab.async false
set_option linter.all false
set_option maxRecDepth 100000
namespace L2.Fs
open PySem PySem.Spec PyProof.Rows
section
variable {X : Cx} {Ft H0 F0 : Hp} {a b e : Expr} {f g : XF} {pos p : Pos} {ss : List Stmt} {c : TF} {sb : SF}
def hMax : F2 := fun d e => match d, e with
  | .int i, .int j => .ok (.int (if j > i then j else i), false)
  | _, _ => .bad
theorem cv_max : CalV X H0 F0 (fun xs H Q => ∃ i j, xs = [.int i, .int j] ∧ Q (.int (if j > i then j else i)) H) (f2 hMax) := by
  intro F H σ σV vs ds z Q hz E r k
  obtain ⟨d, e, rfl, hy⟩ := f2_ok hz
  obtain ⟨v, u, rfl, rv, ru⟩ := rps2 r
  unfold hMax at hy
  split at hy
  · cases hy; cases rv; cases ru; exact ⟨_, _, rfl, k F H _ E (Same.refl _) (.int _)⟩
  · cases hy
theorem pv_max (hc : X.calm = true) (hg : Gl X "max") (hm : X.mg "max" = none) (ha : PV X H0 F0 a f) (hb : PV X H0 F0 b g) (he : starEach [a, b] X.env = (false, eval a X.env) :: starEach [b] X.env) (he2 : starEach [b] X.env = [(false, eval b X.env)]) :
    PV X H0 F0 (.Call (.Name "max" p) [a, b] [] pos) (xCall (f2 hMax) (lCons f (lCons g lNil))) :=
  pv_callB (call_max2 hc) cv_max hg hm boot_max (by decide) (by decide) (pvl_cons ha (pvl_cons hb pvl_nil he2) he) he (by rw [he2]; rfl)
theorem whF_more {c : TF} {b : SF} {r : Fl} : ∀ {n m : Nat} {σ : Ev}, whF c b n σ = .ok r → n ≤ m → whF c b m σ = .ok r
  | 0, _, _, h, _ => by cases h
  | n + 1, 0, _, _, hm => by omega
  | n + 1, m + 1, σ, h, hm => by
    obtain ⟨q, e1, h⟩ := O.of_bind h
    show (c σ).bind _ = _
    rw [e1, O.bind_ok]
    split at h
    · rename_i hq
      obtain ⟨rb, e2, h⟩ := O.of_bind h
      show (if q.1 = true then (b q.2).bind _ else _) = _
      rw [if_pos hq, e2, O.bind_ok]
      cases rb with
      | nx σ2 => exact whF_more (n := n) (m := m) h (by omega)
      | ct σ2 => exact whF_more (n := n) (m := m) h (by omega)
      | bk σ2 => exact h
      | rt d fr => exact h
    · rename_i hq
      show (if q.1 = true then _ else _) = _
      rw [if_neg hq]
      exact h
open Classical in
noncomputable def sWh (c : TF) (b : SF) : SF := fun σ => if h : ∃ n r, whF c b n σ = .ok r then .ok (Classical.choose (Classical.choose_spec h)) else .bad
theorem sWh_of {c : TF} {b : SF} {n : Nat} {σ : Ev} {r : Fl} (h : whF c b n σ = .ok r) : sWh c b σ = .ok r := by
  have ex : ∃ n r, whF c b n σ = .ok r := ⟨n, r, h⟩
  unfold sWh
  rw [dif_pos ex]
  have h2 := Classical.choose_spec (Classical.choose_spec ex)
  have a := whF_more h (Nat.le_max_left n (Classical.choose ex))
  have b := whF_more h2 (Nat.le_max_right n (Classical.choose ex))
  rw [a] at b
  exact b.symm
theorem sWh_ok {c : TF} {b : SF} {σ : Ev} {r : Fl} (h : sWh c b σ = .ok r) : ∃ n, whF c b n σ = .ok r := by
  unfold sWh at h
  split at h
  · rename_i ex
    cases h
    exact ⟨_, Classical.choose_spec (Classical.choose_spec ex)⟩
  · cases h
theorem pvs_while (hF : Same Ft F0) (hp : PassesOwn (model X.prog X.w) X.A X.env X.xe) (hc : ∀ H0 F0, Same Ft F0 → PVT X H0 F0 e c) (hb : ∀ H0 F0, Same Ft F0 → PVB X H0 F0 ss sb) :
    PVS X H0 F0 (.While e ss [] pos) (sWh c sb) := by
  intro σ r hr
  obtain ⟨n, hn⟩ := sWh_ok hr
  refine PS.of (ps_while (tc := fun σV H Q => ∃ σ b σ', c σ = .ok (b, σ') ∧ tT X.K H0 F0 σ b σ' σV H Q) (tb := fun D σV H => ∃ σ r, sb σ = .ok r ∧ tS X.K H0 F0 σ r D σV H) hp
    (fun pins s σV H Q I ⟨σ, b, σ', h, t⟩ => hc H0 F0 hF σ b σ' h pins s σV H Q I t) (fun pins s σV H D I ⟨σ, r, h, t⟩ => hb H0 F0 hF σ r h pins s σV H D I t)) fun D σV H ⟨F, E, k⟩ => ?_
  refine ⟨fun m σV H => ∃ F σi, EnvR X.K H0 F0 F H σi σV ∧ whF c sb m σi = .ok r, ⟨n, F, σ, E, hn⟩, ?_⟩
  rintro m σV2 H2 ⟨F2, σi, E2, hw⟩
  cases m with
  | zero => cases hw
  | succ m =>
    obtain ⟨⟨bb, σc⟩, e1, hw⟩ := O.of_bind hw
    refine ⟨σi, bb, σc, e1, F2, E2, fun F3 H3 E3 _ => ?_⟩
    split at hw
    · rename_i hq
      obtain ⟨rb, e2, hw⟩ := O.of_bind hw
      have hq : bb = true := hq
      rw [if_pos hq]
      refine ⟨fun σV H => ∃ F σi, EnvR X.K H0 F0 F H σi σV ∧ whF c sb m σi = .ok r, fun σV' H' q => ⟨m, by omega, q⟩, σc, rb, e2, F3, E3, ?_⟩
      cases rb with
      | nx σ2 => exact fun F' H' σV' E' => ⟨F', σ2, E', hw⟩
      | ct σ2 => exact fun F' H' σV' E' => ⟨F', σ2, E', hw⟩
      | bk σ2 => cases hw; exact fun F' H' σV' E' => k F' H' σV' E'
      | rt d fr => cases hw; exact fun F' H' v E' => k F' H' v E'
    · rename_i hq
      have hq : ¬ bb = true := hq
      rw [if_neg hq]
      cases hw
      exact k F3 H3 σV2 E3
theorem PGs.of {X : Cx} {tg : List Expr} {t t' : TGs} (h : PGs X tg t) (w : ∀ v σ H Q, t' v σ H Q → t v σ H Q) : PGs X tg t' := fun pins s σ H v u Q I r q => h pins s σ H v u Q I r (w v σ H Q q)
/-- a, b, .. = e -/
def sUnp (g : GFn) (f : XF) : SF := fun σ => (f σ).bind fun r => (g r.d r.σ).bind fun σ' => .ok (.nx σ')
theorem pvs_unp {tg : Expr} {is : List Nat} {g : GFn} (h : PV X H0 F0 e f) (hg : PVG X tg is g) (hs : swapsWithSole [tg] e pos.line X.env = pure false := by rfl) (hw : swappedStores [tg] e X.env = pure none := by rfl)
    (h1 : (assignEach [tg] X.env).map (·.2) = [assign tg X.env] := by rfl) : PVS X H0 F0 (.Assign [tg] e pos) (sUnp g f) := by
  intro σ r hr
  obtain ⟨r1, e1, hr⟩ := O.of_bind hr
  obtain ⟨σ', e2, hr⟩ := O.of_bind hr
  cases hr
  refine PS.of (ps_asg (h σ r1 e1) (hg H0 F0 r1.d r1.σ σ' e2) hs hw h1) fun D σV H ⟨F, E, k⟩ => ⟨F, E, fun F1 H1 x E1 s1 q1 => ?_⟩
  obtain ⟨F1', s1', E1', rx⟩ := q1.frozen E1
  exact ⟨F1', E1', rx, fun σV' E' _ => k F1' H1 σV' E'⟩
def sAug (i : Nat) (h : F2) (f : XF) : SF := fun σ => match σ[i]? with
  | some (some (.val, .int x)) => (f σ).bind fun r => match r.d with
    | .int y => (match h (.int x) (.int y) with
      | .ok (.int z, _) => if i < r.σ.length then .ok (.nx (r.σ.set i (some (.val, .int z)))) else .bad
      | _ => .bad)
    | _ => .bad
  | _ => .bad
theorem pip_of {op : Operator} {r : R2} (h : OpR X (inplaceOp op) r) : PIp X op r := h
theorem pvs_aug {i : Nat} {x : Str} {op : Operator} {r : R2} {h : F2} {pos' : Pos} (ho : OpR X (inplaceOp op) r) (hv : OpV X H0 F0 r h) (hN : X.N.Nodup) (he : PV X H0 F0 e f) (hi : X.N[i]? = some x := by rfl) (hx : Loc X.env.scope x := by first | exact Or.inl rfl | exact Or.inr rfl) (hf : X.fn x = true ∨ X.env.scope.names.lookup x = some .local := by first | exact .inl rfl | exact .inr rfl) :
    PVS X H0 F0 (.AugAssign (.Name x pos') op e pos) (sAug i h f) := by
  intro σ rr hr
  unfold sAug at hr
  split at hr
  · rename_i xi hs
    obtain ⟨r1, e1, hr⟩ := O.of_bind hr
    split at hr
    · rename_i yi hy
      split at hr
      · rename_i zi zf hz
        split at hr
        · rename_i hl
          cases hr
          refine PS.of (ps_aug hN hi hx (he σ r1 e1) (pip_of ho) hf) fun D σV H ⟨F, E, k⟩ => ?_
          obtain ⟨v, h1, h2⟩ := E.sl i _ hs
          obtain ⟨xv, rfl, rx⟩ := h2
          cases rx
          refine ⟨_, h1, F, E, fun F1 H1 y E1 s1 q1 => ?_⟩
          obtain ⟨F1', s1', E1', ry⟩ := q1.frozen E1
          rw [hy] at ry
          cases ry
          refine hv F1' H1 r1.σ σV _ _ _ _ _ _ hz E1' (.int xi) (.int yi) fun F' H' v E' s' q => ?_
          obtain ⟨F2, s2, E2, rz⟩ := q.frozen E'
          exact k F2 H' _ (E2.setVal hl rz)
        · cases hr
      · cases hr
    · cases hr
  · cases hr
theorem q_augSub {i : Nat} {x : Str} {pos' : Pos} (hN : X.N.Nodup) (he : PV X H0 F0 e f) (hi : X.N[i]? = some x := by rfl) (hx : Loc X.env.scope x := by first | exact Or.inl rfl | exact Or.inr rfl) (hf : X.fn x = true ∨ X.env.scope.names.lookup x = some .local := by first | exact .inl rfl | exact .inr rfl) :
    PVS X H0 F0 (.AugAssign (.Name x pos') .Sub e pos) (sAug i (hI (fun _ _ => true) fun i j => .int (i - j)) f) := pvs_aug iop_sub (opv_rI0 fun i j F => .int _) hN he hi hx hf
end
end L2.Fs
set_option Elab.async false
set_option linter.all false
set_option maxRecDepth 100000
namespace L2.Fs
open PySem PySem.Spec PyProof.Rows
end L2.Fs
set_option Elab.async false
set_option linter.all false
set_option maxRecDepth 100000
namespace L2.Fs
open PySem PySem.Spec PyProof.Rows
def kRes (σ : Ev) (x : O (Y × Bool)) : O Rs := x.bind fun z => .ok ⟨z.1, z.2, σ⟩
theorem kRes_0 (σ : Ev) (d : Y) (fr : Bool) : kRes σ (.ok (d, fr)) = .ok ⟨d, fr, σ⟩ := rfl
def kX2b (h : F2) (d : Y) (x : O Rs) : O Rs := x.bind fun q => (h d q.d).bind fun z => .ok ⟨z.1, z.2, q.σ⟩
theorem kX2b_0 (h : F2) (d e : Y) (fr : Bool) (σ : Ev) : kX2b h d (.ok ⟨e, fr, σ⟩) = kRes σ (h d e) := rfl
def kX2 (h : F2) (g : XF) (x : O Rs) : O Rs := x.bind fun r => (g r.σ).bind fun q => (h r.d q.d).bind fun z => .ok ⟨z.1, z.2, q.σ⟩
theorem kX2_0 (h : F2) (g : XF) (e : Y) (fr : Bool) (σ : Ev) : kX2 h g (.ok ⟨e, fr, σ⟩) = kX2b h e (g σ) := rfl
theorem ap_x2 (h : F2) (f g : XF) (σ : Ev) : x2 h f g σ = kX2 h g (f σ) := rfl
def kX1 (h : F1) (x : O Rs) : O Rs := x.bind fun r => (h r.d).bind fun z => .ok ⟨z.1, z.2, r.σ⟩
theorem kX1_0 (h : F1) (e : Y) (fr : Bool) (σ : Ev) : kX1 h (.ok ⟨e, fr, σ⟩) = kRes σ (h e) := rfl
theorem ap_x1 (h : F1) (f : XF) (σ : Ev) : x1 h f σ = kX1 h (f σ) := rfl
theorem ap_con (d : Y) (σ : Ev) : xCon d σ = .ok ⟨d, false, σ⟩ := rfl
theorem ap_lnil (σ : Ev) : lNil σ = .ok ([], σ) := rfl
def kLb (d : Y) (x : O (List Y × Ev)) : O (List Y × Ev) := x.bind fun q => .ok (d :: q.1, q.2)
theorem kLb_0 (d : Y) (l : List Y) (σ : Ev) : kLb d (.ok (l, σ)) = .ok (d :: l, σ) := rfl
def kL (g : LF) (x : O Rs) : O (List Y × Ev) := x.bind fun r => (g r.σ).bind fun q => .ok (r.d :: q.1, q.2)
theorem kL_0 (g : LF) (e : Y) (fr : Bool) (σ : Ev) : kL g (.ok ⟨e, fr, σ⟩) = kLb e (g σ) := rfl
theorem ap_lcons (f : XF) (g : LF) (σ : Ev) : lCons f g σ = kL g (f σ) := rfl
def kCall (h : FL) (x : O (List Y × Ev)) : O Rs := x.bind fun q => (h q.1).bind fun z => .ok ⟨z.1, z.2, q.2⟩
theorem kCall_0 (h : FL) (l : List Y) (σ : Ev) : kCall h (.ok (l, σ)) = kRes σ (h l) := rfl
theorem ap_call (h : FL) (l : LF) (σ : Ev) : xCall h l σ = kCall h (l σ) := rfl
theorem ap_f1 (h : F1) (d : Y) : f1 h [d] = h d := rfl
def kAnd (g : XF) (x : O Rs) : O Rs := x.bind fun r => match r.d with
  | .bool true => g r.σ
  | .bool false => .ok ⟨.bool false, false, r.σ⟩
  | _ => .bad
theorem kAnd_1 (g : XF) (fr : Bool) (σ : Ev) : kAnd g (.ok ⟨.bool false, fr, σ⟩) = .ok ⟨.bool false, false, σ⟩ := rfl
theorem ap_and (f g : XF) (σ : Ev) : xAnd f g σ = kAnd g (f σ) := rfl
def kTv  (x : O Rs) : O (Bool × Ev) := x.bind fun r => match truD r.d with
  | some b => .ok (b, r.σ)
  | none => .bad
theorem kTv_0 (b fr : Bool) (σ : Ev) : kTv (.ok ⟨.bool b, fr, σ⟩) = .ok (b, σ) := rfl
theorem ap_tval (f : XF) (σ : Ev) : tVal f σ = kTv (f σ) := rfl
def kTb  (x : O Rs) : O (Bool × Ev) := x.bind fun r => match r.d with
  | .bool b => .ok (b, r.σ)
  | _ => .bad
theorem kTb_0 (b fr : Bool) (σ : Ev) : kTb (.ok ⟨.bool b, fr, σ⟩) = .ok (b, σ) := rfl
theorem ap_tbool (f : XF) (σ : Ev) : tBool f σ = kTb (f σ) := rfl
def kTn  (x : O (Bool × Ev)) : O (Bool × Ev) := x.bind fun r => .ok (!r.1, r.2)
theorem kTn_0 (b : Bool) (σ : Ev) : kTn (.ok (b, σ)) = .ok (!b, σ) := rfl
theorem ap_tnot (f : TF) (σ : Ev) : tNotF f σ = kTn (f σ) := rfl
def kTo (g : TF) (x : O (Bool × Ev)) : O (Bool × Ev) := x.bind fun r => if r.1 then .ok (true, r.2) else g r.2
theorem kTo_1 (g : TF) (σ : Ev) : kTo g (.ok (false, σ)) = g σ := rfl
theorem ap_tor (f g : TF) (σ : Ev) : tOrF f g σ = kTo g (f σ) := rfl
theorem ap_ttrue (σ : Ev) : tTrue σ = .ok (true, σ) := rfl
theorem if_size {α : Type} {n : Nat} {a b : α} (h : n ≤ 16000) : (if n ≤ sizeLine then a else b) = a := if_pos (by rw [sizeLine_eq]; omega)
theorem ap_pnone (σ : Ev) : pNone σ = .ok (none, σ) := rfl
def kPs  (x : O Rs) : O (Option Int × Ev) := x.bind fun r => match r.d with
  | .int i => .ok (some i, r.σ)
  | _ => .bad
theorem kPs_0 (i : Int) (fr : Bool) (σ : Ev) : kPs (.ok ⟨.int i, fr, σ⟩) = .ok (some i, σ) := rfl
theorem ap_psome (f : XF) (σ : Ev) : pSome f σ = kPs (f σ) := rfl
def kSlc (d : Y) (lo : Option Int) (x : O (Option Int × Ev)) : O Rs := x.bind fun q => match d with
  | .list ds => .ok ⟨.list (cutD ds lo q.1), true, q.2⟩
  | .tuple ds => .ok ⟨.tuple (cutD ds lo q.1), false, q.2⟩
  | _ => .bad
theorem kSlc_1 (ds : List Y) (lo hi : Option Int) (σ : Ev) : kSlc (.tuple ds) lo (.ok (hi, σ)) = .ok ⟨.tuple (cutD ds lo hi), false, σ⟩ := rfl
def kSlb (d : Y) (h : PF) (x : O (Option Int × Ev)) : O Rs := x.bind fun p => (h p.2).bind fun q => match d with
  | .list ds => .ok ⟨.list (cutD ds p.1 q.1), true, q.2⟩
  | .tuple ds => .ok ⟨.tuple (cutD ds p.1 q.1), false, q.2⟩
  | _ => .bad
theorem kSlb_0 (d : Y) (h : PF) (lo : Option Int) (σ : Ev) : kSlb d h (.ok (lo, σ)) = kSlc d lo (h σ) := rfl
def kSla (l h : PF) (x : O Rs) : O Rs := x.bind fun r => (l r.σ).bind fun p => (h p.2).bind fun q => match r.d with
  | .list ds => .ok ⟨.list (cutD ds p.1 q.1), true, q.2⟩
  | .tuple ds => .ok ⟨.tuple (cutD ds p.1 q.1), false, q.2⟩
  | _ => .bad
theorem kSla_0 (l h : PF) (d : Y) (fr : Bool) (σ : Ev) : kSla l h (.ok ⟨d, fr, σ⟩) = kSlb d h (l σ) := rfl
theorem ap_sl (f : XF) (l h : PF) (σ : Ev) : xSl f l h σ = kSla l h (f σ) := rfl
def kIs  (x : O Rs) : O (List Y × Ev) := x.bind fun r => match r.d with
  | .list ds => .ok (ds, r.σ)
  | .tuple ds => .ok (ds, r.σ)
  | _ => .bad
theorem kIs_1 (ds : List Y) (fr : Bool) (σ : Ev) : kIs (.ok ⟨.tuple ds, fr, σ⟩) = .ok (ds, σ) := rfl
theorem ap_iseq (f : XF) (σ : Ev) : iSeq f σ = kIs (f σ) := rfl
def kRg  (x : O Rs) : O (List Y × Ev) := x.bind fun r => match r.d with
  | .int j => if -(2 ^ 62) ≤ j ∧ j < 2 ^ 62 then .ok (rngD 0 j.toNat, r.σ) else .bad
  | _ => .bad
theorem kRg_0 {j : Int} {fr : Bool} {σ : Ev} (h1 : -4611686018427387904 ≤ j) (h2 : j < 4611686018427387904) : kRg (.ok ⟨.int j, fr, σ⟩) = .ok (rngD 0 j.toNat, σ) := if_pos ⟨h1, h2⟩
theorem ap_irng (f : XF) (σ : Ev) : iRng f σ = kRg (f σ) := rfl
def kZpb (d : Y) (x : O Rs) : O (List Y × Ev) := x.bind fun q => match seqD d, seqD q.d with
  | some as, some bs => .ok (zipD as bs, q.σ)
  | _, _ => .bad
theorem kZpb_3 (a b : List Y) (fr : Bool) (σ : Ev) : kZpb (.tuple a) (.ok ⟨.tuple b, fr, σ⟩) = .ok (zipD a b, σ) := rfl
def kZp (g : XF) (x : O Rs) : O (List Y × Ev) := x.bind fun r => (g r.σ).bind fun q => match seqD r.d, seqD q.d with
  | some as, some bs => .ok (zipD as bs, q.σ)
  | _, _ => .bad
theorem kZp_0 (g : XF) (d : Y) (fr : Bool) (σ : Ev) : kZp g (.ok ⟨d, fr, σ⟩) = kZpb d (g σ) := rfl
theorem ap_izip (f g : XF) (σ : Ev) : iZip2 f g σ = kZp g (f σ) := rfl
def kSeq (g : SF) (x : O Fl) : O Fl := x.bind fun r => match r with
  | .nx σ' => g σ'
  | r => .ok r
theorem kSeq_0 (g : SF) (σ : Ev) : kSeq g (.ok (.nx σ)) = g σ := rfl
theorem kSeq_1 (g : SF) (d : Y) (fr : Bool) : kSeq g (.ok (.rt d fr)) = .ok (.rt d fr) := rfl
theorem ap_seq (f g : SF) (σ : Ev) : sSeq f g σ = kSeq g (f σ) := rfl
theorem ap_nil (σ : Ev) : sNil σ = .ok (.nx σ) := rfl
def kEx  (x : O Rs) : O Fl := x.bind fun r => .ok (.nx r.σ)
theorem kEx_0 (d : Y) (fr : Bool) (σ : Ev) : kEx (.ok ⟨d, fr, σ⟩) = .ok (.nx σ) := rfl
theorem ap_expr (f : XF) (σ : Ev) : sExpr f σ = kEx (f σ) := rfl
def kRt  (x : O Rs) : O Fl := x.bind fun r => .ok (.rt r.d r.fr)
theorem kRt_0 (d : Y) (fr : Bool) (σ : Ev) : kRt (.ok ⟨d, fr, σ⟩) = .ok (.rt d fr) := rfl
theorem ap_ret (f : XF) (σ : Ev) : sRet f σ = kRt (f σ) := rfl
def kIf (f g : SF) (x : O (Bool × Ev)) : O Fl := x.bind fun q => if q.1 then f q.2 else g q.2
theorem kIf_0 (f g : SF) (σ : Ev) : kIf f g (.ok (true, σ)) = f σ := rfl
theorem kIf_1 (f g : SF) (σ : Ev) : kIf f g (.ok (false, σ)) = g σ := rfl
theorem ap_if (c : TF) (f g : SF) (σ : Ev) : sIf c f g σ = kIf f g (c σ) := rfl
def kFor (tg : GFn) (b : SF) (x : O (List Y × Ev)) : O Fl := x.bind fun q => forF tg b q.1 (lvE q.2)
theorem kFor_0 (tg : GFn) (b : SF) (ds : List Y) (σ : Ev) : kFor tg b (.ok (ds, σ)) = forF tg b ds (lvE σ) := rfl
theorem ap_for (it : IF) (tg : GFn) (b : SF) (σ : Ev) : sFor it tg b σ = kFor tg b (it σ) := rfl
def kRun  (x : O Fl) : O (Y × Bool) := x.bind fun r => match r with
  | .rt d fr => .ok (d, fr)
  | .nx _ => .ok (.none, false)
  | _ => .bad
theorem kRun_0 (d : Y) (fr : Bool) : kRun (.ok (.rt d fr)) = .ok (d, fr) := rfl
theorem kRun_1 (σ : Ev) : kRun (.ok (.nx σ)) = .ok (.none, false) := rfl
theorem ap_run (n : Nat) (b : SF) (ds : List Y) : runF n b ds = kRun (b (ds.map (fun d => some (.val, d)) ++ List.replicate (n - ds.length) none)) := rfl
theorem v0v (d : Y) (σ : Ev) : xVar 0 (some (.val, d) :: σ) = .ok ⟨d, false, some (.val, d) :: σ⟩ := rfl
theorem v1v (a0 : Sl) (d : Y) (σ : Ev) : xVar 1 (a0 :: some (.val, d) :: σ) = .ok ⟨d, false, a0 :: some (.val, d) :: σ⟩ := rfl
def kSet1 (x : O Rs) : O Fl := x.bind fun r => if 1 < r.σ.length then .ok (.nx (r.σ.set 1 (some (if r.fr then .own else .val, r.d)))) else .bad
theorem aS1 (f : XF) (σ : Ev) : sSet 1 f σ = kSet1 (f σ) := rfl
theorem s1v (a0 : Sl) (s : Sl) (d : Y) (σ : Ev) : kSet1 (.ok ⟨d, false, a0 :: s :: σ⟩) = .ok (.nx (a0 :: some (.val, d) :: σ)) := if_pos (e := .bad) (show 1 < (a0 :: s :: σ).length by simp only [List.length_cons]; omega)
theorem g1 (a0 : Sl) (s : Sl) (d : Y) (σ : Ev) : gNm 1 d (a0 :: s :: σ) = .ok (a0 :: some (.val, d) :: σ) := if_pos (e := .bad) (show 1 < (a0 :: s :: σ).length by simp only [List.length_cons]; omega)
theorem v2v (a0 a1 : Sl) (d : Y) (σ : Ev) : xVar 2 (a0 :: a1 :: some (.val, d) :: σ) = .ok ⟨d, false, a0 :: a1 :: some (.val, d) :: σ⟩ := rfl
def kSet2 (x : O Rs) : O Fl := x.bind fun r => if 2 < r.σ.length then .ok (.nx (r.σ.set 2 (some (if r.fr then .own else .val, r.d)))) else .bad
theorem aS2 (f : XF) (σ : Ev) : sSet 2 f σ = kSet2 (f σ) := rfl
theorem s2o (a0 a1 : Sl) (s : Sl) (d : Y) (σ : Ev) : kSet2 (.ok ⟨d, true, a0 :: a1 :: s :: σ⟩) = .ok (.nx (a0 :: a1 :: some (.own, d) :: σ)) := if_pos (e := .bad) (show 2 < (a0 :: a1 :: s :: σ).length by simp only [List.length_cons]; omega)
theorem g2 (a0 a1 : Sl) (s : Sl) (d : Y) (σ : Ev) : gNm 2 d (a0 :: a1 :: s :: σ) = .ok (a0 :: a1 :: some (.val, d) :: σ) := if_pos (e := .bad) (show 2 < (a0 :: a1 :: s :: σ).length by simp only [List.length_cons]; omega)
theorem v3v (a0 a1 a2 : Sl) (d : Y) (σ : Ev) : xVar 3 (a0 :: a1 :: a2 :: some (.val, d) :: σ) = .ok ⟨d, false, a0 :: a1 :: a2 :: some (.val, d) :: σ⟩ := rfl
def kSet3 (x : O Rs) : O Fl := x.bind fun r => if 3 < r.σ.length then .ok (.nx (r.σ.set 3 (some (if r.fr then .own else .val, r.d)))) else .bad
theorem aS3 (f : XF) (σ : Ev) : sSet 3 f σ = kSet3 (f σ) := rfl
theorem s3v (a0 a1 a2 : Sl) (s : Sl) (d : Y) (σ : Ev) : kSet3 (.ok ⟨d, false, a0 :: a1 :: a2 :: s :: σ⟩) = .ok (.nx (a0 :: a1 :: a2 :: some (.val, d) :: σ)) := if_pos (e := .bad) (show 3 < (a0 :: a1 :: a2 :: s :: σ).length by simp only [List.length_cons]; omega)
theorem g3 (a0 a1 a2 : Sl) (s : Sl) (d : Y) (σ : Ev) : gNm 3 d (a0 :: a1 :: a2 :: s :: σ) = .ok (a0 :: a1 :: a2 :: some (.val, d) :: σ) := if_pos (e := .bad) (show 3 < (a0 :: a1 :: a2 :: s :: σ).length by simp only [List.length_cons]; omega)
theorem v4v (a0 a1 a2 a3 : Sl) (d : Y) (σ : Ev) : xVar 4 (a0 :: a1 :: a2 :: a3 :: some (.val, d) :: σ) = .ok ⟨d, false, a0 :: a1 :: a2 :: a3 :: some (.val, d) :: σ⟩ := rfl
def kSet4 (x : O Rs) : O Fl := x.bind fun r => if 4 < r.σ.length then .ok (.nx (r.σ.set 4 (some (if r.fr then .own else .val, r.d)))) else .bad
theorem aS4 (f : XF) (σ : Ev) : sSet 4 f σ = kSet4 (f σ) := rfl
theorem s4v (a0 a1 a2 a3 : Sl) (s : Sl) (d : Y) (σ : Ev) : kSet4 (.ok ⟨d, false, a0 :: a1 :: a2 :: a3 :: s :: σ⟩) = .ok (.nx (a0 :: a1 :: a2 :: a3 :: some (.val, d) :: σ)) := if_pos (e := .bad) (show 4 < (a0 :: a1 :: a2 :: a3 :: s :: σ).length by simp only [List.length_cons]; omega)
theorem g4 (a0 a1 a2 a3 : Sl) (s : Sl) (d : Y) (σ : Ev) : gNm 4 d (a0 :: a1 :: a2 :: a3 :: s :: σ) = .ok (a0 :: a1 :: a2 :: a3 :: some (.val, d) :: σ) := if_pos (e := .bad) (show 4 < (a0 :: a1 :: a2 :: a3 :: s :: σ).length by simp only [List.length_cons]; omega)
theorem g5 (a0 a1 a2 a3 a4 : Sl) (s : Sl) (d : Y) (σ : Ev) : gNm 5 d (a0 :: a1 :: a2 :: a3 :: a4 :: s :: σ) = .ok (a0 :: a1 :: a2 :: a3 :: a4 :: some (.val, d) :: σ) := if_pos (e := .bad) (show 5 < (a0 :: a1 :: a2 :: a3 :: a4 :: s :: σ).length by simp only [List.length_cons]; omega)
theorem v6v (a0 a1 a2 a3 a4 a5 : Sl) (d : Y) (σ : Ev) : xVar 6 (a0 :: a1 :: a2 :: a3 :: a4 :: a5 :: some (.val, d) :: σ) = .ok ⟨d, false, a0 :: a1 :: a2 :: a3 :: a4 :: a5 :: some (.val, d) :: σ⟩ := rfl
def kSet6 (x : O Rs) : O Fl := x.bind fun r => if 6 < r.σ.length then .ok (.nx (r.σ.set 6 (some (if r.fr then .own else .val, r.d)))) else .bad
theorem aS6 (f : XF) (σ : Ev) : sSet 6 f σ = kSet6 (f σ) := rfl
theorem s6v (a0 a1 a2 a3 a4 a5 : Sl) (s : Sl) (d : Y) (σ : Ev) : kSet6 (.ok ⟨d, false, a0 :: a1 :: a2 :: a3 :: a4 :: a5 :: s :: σ⟩) = .ok (.nx (a0 :: a1 :: a2 :: a3 :: a4 :: a5 :: some (.val, d) :: σ)) := if_pos (e := .bad) (show 6 < (a0 :: a1 :: a2 :: a3 :: a4 :: a5 :: s :: σ).length by simp only [List.length_cons]; omega)
theorem g6 (a0 a1 a2 a3 a4 a5 : Sl) (s : Sl) (d : Y) (σ : Ev) : gNm 6 d (a0 :: a1 :: a2 :: a3 :: a4 :: a5 :: s :: σ) = .ok (a0 :: a1 :: a2 :: a3 :: a4 :: a5 :: some (.val, d) :: σ) := if_pos (e := .bad) (show 6 < (a0 :: a1 :: a2 :: a3 :: a4 :: a5 :: s :: σ).length by simp only [List.length_cons]; omega)
theorem g7 (a0 a1 a2 a3 a4 a5 a6 : Sl) (s : Sl) (d : Y) (σ : Ev) : gNm 7 d (a0 :: a1 :: a2 :: a3 :: a4 :: a5 :: a6 :: s :: σ) = .ok (a0 :: a1 :: a2 :: a3 :: a4 :: a5 :: a6 :: some (.val, d) :: σ) := if_pos (e := .bad) (show 7 < (a0 :: a1 :: a2 :: a3 :: a4 :: a5 :: a6 :: s :: σ).length by simp only [List.length_cons]; omega)
theorem g8 (a0 a1 a2 a3 a4 a5 a6 a7 : Sl) (s : Sl) (d : Y) (σ : Ev) : gNm 8 d (a0 :: a1 :: a2 :: a3 :: a4 :: a5 :: a6 :: a7 :: s :: σ) = .ok (a0 :: a1 :: a2 :: a3 :: a4 :: a5 :: a6 :: a7 :: some (.val, d) :: σ) := if_pos (e := .bad) (show 8 < (a0 :: a1 :: a2 :: a3 :: a4 :: a5 :: a6 :: a7 :: s :: σ).length by simp only [List.length_cons]; omega)
theorem g9 (a0 a1 a2 a3 a4 a5 a6 a7 a8 : Sl) (s : Sl) (d : Y) (σ : Ev) : gNm 9 d (a0 :: a1 :: a2 :: a3 :: a4 :: a5 :: a6 :: a7 :: a8 :: s :: σ) = .ok (a0 :: a1 :: a2 :: a3 :: a4 :: a5 :: a6 :: a7 :: a8 :: some (.val, d) :: σ) := if_pos (e := .bad) (show 9 < (a0 :: a1 :: a2 :: a3 :: a4 :: a5 :: a6 :: a7 :: a8 :: s :: σ).length by simp only [List.length_cons]; omega)
theorem g10 (a0 a1 a2 a3 a4 a5 a6 a7 a8 a9 : Sl) (s : Sl) (d : Y) (σ : Ev) : gNm 10 d (a0 :: a1 :: a2 :: a3 :: a4 :: a5 :: a6 :: a7 :: a8 :: a9 :: s :: σ) = .ok (a0 :: a1 :: a2 :: a3 :: a4 :: a5 :: a6 :: a7 :: a8 :: a9 :: some (.val, d) :: σ) := if_pos (e := .bad) (show 10 < (a0 :: a1 :: a2 :: a3 :: a4 :: a5 :: a6 :: a7 :: a8 :: a9 :: s :: σ).length by simp only [List.length_cons]; omega)
def kGt (h : GFn) (y : Y) (x : O Ev) : O Ev := x.bind fun σ1 => h y σ1
theorem kGt_0 (h : GFn) (y : Y) (σ : Ev) : kGt h y (.ok σ) = h y σ := rfl
theorem ap_gtwo (g h : GFn) (x y : Y) (σ : Ev) : gTwo g h (.tuple [x, y]) σ = kGt h y (g x σ) := rfl
def kTurc  (x : O Rs) : O (Option Y) := x.bind fun r => .ok (some r.d)
theorem kTurc_0 (d : Y) (fr : Bool) (σ : Ev) : kTurc (.ok ⟨d, fr, σ⟩) = .ok (some d) := rfl
def kTurb (e : XF) (x : O (Bool × Ev)) : O (Option Y) := x.bind fun q => if q.1 then (e q.2).bind fun r => .ok (some r.d) else .ok none
theorem kTurb_0 (e : XF) (σ : Ev) : kTurb e (.ok (true, σ)) = kTurc (e σ) := rfl
def kTur (c : TF) (e : XF) (x : O Ev) : O (Option Y) := x.bind fun σa => (c σa).bind fun q => if q.1 then (e q.2).bind fun r => .ok (some r.d) else .ok none
theorem kTur_0 (c : TF) (e : XF) (σ : Ev) : kTur c e (.ok σ) = kTurb e (c σ) := rfl
theorem ap_turn (tg : GFn) (c : TF) (e : XF) (σi : Ev) (d : Y) : turnF tg c e σi d = kTur c e (tg d σi) := rfl
def kGob (σ : Ev) (x : O (List Y)) : O (List Y × Ev) := x.bind fun out => .ok (out, σ)
theorem kGob_0 (σ : Ev) (l : List Y) : kGob σ (.ok l) = .ok (l, σ) := rfl
def kGo (tg : GFn) (c : TF) (e : XF) (own : List Nat) (x : O (List Y × Ev)) : O (List Y × Ev) := x.bind fun q => if q.1.length ≤ sizeLine then (goF (turnF tg c e (wipeE (valE (shareE q.2)) own)) q.1).bind fun out => .ok (out, shareE q.2) else .bad
theorem kGo_0 {tg : GFn} {c : TF} {e : XF} {own : List Nat} {ds : List Y} {σ : Ev} (h : ds.length ≤ 16000) : kGo tg c e own (.ok (ds, σ)) = kGob (shareE σ) (goF (turnF tg c e (wipeE (valE (shareE σ)) own)) ds) := if_size h
theorem ap_gout (it : IF) (tg : GFn) (c : TF) (e : XF) (own : List Nat) (σ : Ev) : gOut it tg c e own σ = kGo tg c e own (it σ) := rfl
theorem boolsD_map' {α : Type} (g : α → Bool) (l : List α) : boolsD (l.map fun x => .bool (g x)) = some (l.map g) := by
  have := boolsD_map (l.map g)
  rw [List.map_map] at this
  exact this
def kAll  (x : O (List Y × Ev)) : O Rs := x.bind fun q => match boolsD q.1 with
  | some bs => .ok ⟨.bool (bs.all id), false, q.2⟩
  | none => .bad
theorem kAll_0 {α : Type} (g : α → Bool) (l : List α) (σ : Ev) : kAll (.ok (l.map fun x => .bool (g x), σ)) = .ok ⟨.bool (l.all g), false, σ⟩ := by
  show (match boolsD (l.map fun x => PyData.bool (g x)) with | some bs => O.ok _ | none => _ : O Rs) = _
  rw [boolsD_map']
  show O.ok _ = _
  rw [List.all_map]
  rfl
theorem ap_allg (it : IF) (tg : GFn) (c : TF) (e : XF) (own : List Nat) (σ : Ev) : xAllG it tg c e own σ = kAll (gOut it tg c e own σ) := rfl
def kS2b (σ : Ev) (x : O (List Y)) : O Rs := x.bind fun out => if out.length + 1 < 4096 then (match intsD out with
  | some ns => .ok ⟨.list ((ssD ns).map .int), true, σ⟩
  | none => .bad) else .bad
theorem kS2b_0 {σ : Ev} {ns : List Int} (h : ns.length < 4095) : kS2b σ (.ok (ns.map .int)) = .ok ⟨.list ((ssD ns).map .int), true, σ⟩ := by
  show (if (ns.map PyData.int).length + 1 < 4096 then (match intsD (ns.map PyData.int) with | some ns => O.ok _ | none => _) else _ : O Rs) = _
  rw [if_pos (by rw [List.length_map]; omega), intsD_map]
def kS2 (tg : GFn) (c : TF) (it1 : IF) (tg1 : GFn) (c1 : TF) (e : XF) (own vs1 : List Nat) (x : O (List Y × Ev)) : O Rs := x.bind fun q => (go2F (turn2 tg c it1 tg1 c1 e vs1 (wipeE (valE (shareE q.2)) own)) q.1).bind fun out => if out.length + 1 < 4096 then (match intsD out with
  | some ns => .ok ⟨.list ((ssD ns).map .int), true, shareE q.2⟩
  | none => .bad) else .bad
theorem kS2_0 (tg : GFn) (c : TF) (it1 : IF) (tg1 : GFn) (c1 : TF) (e : XF) (own vs1 : List Nat) (ds : List Y) (σ : Ev) : kS2 tg c it1 tg1 c1 e own vs1 (.ok (ds, σ)) = kS2b (shareE σ) (go2F (turn2 tg c it1 tg1 c1 e vs1 (wipeE (valE (shareE σ)) own)) ds) := rfl
theorem ap_ss2 (it : IF) (tg : GFn) (c : TF) (it1 : IF) (tg1 : GFn) (c1 : TF) (e : XF) (own vs1 : List Nat) (σ : Ev) : xSs2 it tg c it1 tg1 c1 e own vs1 σ = kS2 tg c it1 tg1 c1 e own vs1 (it σ) := rfl
def kT2c (tg1 : GFn) (c1 : TF) (e : XF) (vs1 : List Nat) (x : O (List Y × Ev)) : O (List Y) := x.bind fun p => goF (turnF tg1 c1 e (wipeE (valE (valE (shareE p.2))) vs1)) p.1
theorem kT2c_0 (tg1 : GFn) (c1 : TF) (e : XF) (vs1 : List Nat) (ds : List Y) (σ : Ev) : kT2c tg1 c1 e vs1 (.ok (ds, σ)) = goF (turnF tg1 c1 e (wipeE (valE (valE (shareE σ))) vs1)) ds := rfl
def kT2b (it1 : IF) (tg1 : GFn) (c1 : TF) (e : XF) (vs1 : List Nat) (x : O (Bool × Ev)) : O (List Y) := x.bind fun q => if q.1 then (it1 q.2).bind fun p => goF (turnF tg1 c1 e (wipeE (valE (valE (shareE p.2))) vs1)) p.1 else .ok []
theorem kT2b_0 (it1 : IF) (tg1 : GFn) (c1 : TF) (e : XF) (vs1 : List Nat) (σ : Ev) : kT2b it1 tg1 c1 e vs1 (.ok (true, σ)) = kT2c tg1 c1 e vs1 (it1 σ) := rfl
def kT2 (c : TF) (it1 : IF) (tg1 : GFn) (c1 : TF) (e : XF) (vs1 : List Nat) (x : O Ev) : O (List Y) := x.bind fun σa => (c σa).bind fun q => if q.1 then (it1 q.2).bind fun p => goF (turnF tg1 c1 e (wipeE (valE (valE (shareE p.2))) vs1)) p.1 else .ok []
theorem kT2_0 (c : TF) (it1 : IF) (tg1 : GFn) (c1 : TF) (e : XF) (vs1 : List Nat) (σ : Ev) : kT2 c it1 tg1 c1 e vs1 (.ok σ) = kT2b it1 tg1 c1 e vs1 (c σ) := rfl
theorem ap_turn2 (tg : GFn) (c : TF) (it1 : IF) (tg1 : GFn) (c1 : TF) (e : XF) (vs1 : List Nat) (σi : Ev) (d : Y) : turn2 tg c it1 tg1 c1 e vs1 σi d = kT2 c it1 tg1 c1 e vs1 (tg d σi) := rfl
theorem sh_val (d : Y) : sh1 (some (.val, d)) = some (.val, d) := rfl
theorem sh_non : sh1 none = none := rfl
theorem lv_val (d : Y) : lv1 (some (.val, d)) = some (.val, d) := rfl
theorem lv_non : lv1 none = none := rfl
theorem vl_some (o : Ow) (d : Y) : vl1 (some (o, d)) = some (.val, d) := rfl
theorem vl_non : vl1 none = none := rfl
theorem shareE_nil : shareE [] = [] := rfl
theorem shareE_cons (s : Sl) (σ : Ev) : shareE (s :: σ) = sh1 s :: shareE σ := rfl
theorem valE_nil : valE [] = [] := rfl
theorem valE_cons (s : Sl) (σ : Ev) : valE (s :: σ) = vl1 s :: valE σ := rfl
theorem lvE_nil : lvE [] = [] := rfl
theorem lvE_cons (s : Sl) (σ : Ev) : lvE (s :: σ) = lv1 s :: lvE σ := rfl
theorem wipe_nil (σ : Ev) : wipeE σ [] = σ := rfl
theorem wipe_cons (σ : Ev) (v : Nat) (vs : List Nat) : wipeE σ (v :: vs) = (wipeE σ vs).set v none := rfl
theorem ev_add (i j : Int) : hAdd (.int i) (.int j) = .ok (.int (i + j), false) := rfl
theorem ev_lt (i j : Int) : hLt (.int i) (.int j) = .ok (.bool (decide (i < j)), false) := rfl
theorem ev_gt (i j : Int) : hGt (.int i) (.int j) = .ok (.bool (decide (j < i)), false) := rfl
theorem ev_ge (i j : Int) : hGe (.int i) (.int j) = .ok (.bool (decide (j ≤ i)), false) := rfl
theorem ev_lenL (ds : List Y) : hLen (.list ds) = .ok (.int ds.length, false) := rfl
theorem ev_lenT (ds : List Y) : hLen (.tuple ds) = .ok (.int ds.length, false) := rfl
theorem ev_tupL (ds : List Y) : hTuple (.list ds) = .ok (.tuple ds, false) := rfl
theorem isi_int_dict {l : List (Y × Y)} (h : excL l = false) : hIsi "int" (.dict l) = .ok (.bool false, false) := by
  show (if excL l = true then O.bad else _) = _
  rw [h]
  rfl
theorem isi_tuple_tuple (l : List Y) : hIsi "tuple" (.tuple l) = .ok (.bool true, false) := rfl
theorem ev_ne (i j : Int) : hNe (.int i) (.int j) = .ok (.bool (!decide (i = j)), false) := rfl
theorem ev_mod {i j : Int} (h : j ≠ 0) : hMod (.int i) (.int j) = .ok (.int (i.fmod j), false) := by
  show (if decide (j ≠ 0) = true then _ else _) = _
  rw [decide_eq_true h]; rfl
theorem ev_div {i j : Int} (h : j ≠ 0) (hs : smallI j = true) : hDiv (.int i) (.int j) = .ok (.int (i.fdiv j), false) := by
  show (if (decide (j ≠ 0) && smallI j) = true then _ else _) = _
  rw [decide_eq_true h, hs]; rfl
theorem ev_mul {i j : Int} (h : smallI i = true) (hs : smallI j = true) : hMul (.int i) (.int j) = .ok (.int (i * j), false) := by
  show (if (smallI i && smallI j) = true then _ else _) = _
  rw [h, hs]; rfl
theorem ev_pow {i j : Int} (h0 : 0 ≤ j) (h1 : j ≤ 1000000) (h2 : i.natAbs < 1000000) : hPow (.int i) (.int j) = .ok (.int (i ^ j.toNat), false) := by
  show (if (decide (0 ≤ j) && decide (j ≤ 1000000) && decide (i.natAbs < 2 ^ 64)) = true then _ else _) = _
  rw [decide_eq_true h0, decide_eq_true h1, decide_eq_true (show i.natAbs < 2 ^ 64 by omega)]; rfl
theorem sm_ok {i : Int} (h1 : -(2 ^ 200) ≤ i) (h2 : i < 2 ^ 200) : smallI i = true := by
  unfold smallI
  refine decide_eq_true ?_
  have h3 : i.natAbs ≤ 2 ^ 200 := by omega
  exact Nat.lt_of_le_of_lt h3 (Nat.pow_lt_pow_right (by decide) (by decide))
end L2.Fs
set_option Elab.async false
set_option linter.all false
set_option maxRecDepth 100000
namespace L2.Fs
open PySem PySem.Spec PyProof.Rows
theorem forF_inv {tg : GFn} {b : SF} {I : Ev → Prop} : ∀ (ds : List Y) (σ : Ev), I σ → (∀ d ∈ ds, ∀ σ, I σ → ∃ σ', (tg d σ).bind b = .ok (.nx σ') ∧ I σ') → ∃ σ', forF tg b ds σ = .ok (.nx σ') ∧ I σ'
  | [], σ, h, _ => ⟨σ, rfl, h⟩
  | d :: ds, σ, h, st => by
    obtain ⟨σ1, e1, h1⟩ := st d (List.mem_cons_self ..) σ h
    obtain ⟨σ2, e2, h2⟩ := forF_inv ds σ1 h1 fun d hd => st d (List.mem_cons_of_mem _ hd)
    refine ⟨σ2, ?_, h2⟩
    cases ht : tg d σ with
    | bad => rw [ht] at e1; cases e1
    | exc c => rw [ht] at e1; cases e1
    | ok σa =>
      rw [ht, O.bind_ok] at e1
      show (tg d σ).bind _ = _
      rw [ht, O.bind_ok, e1]
      exact e2
/-- a display with for, nothing left out: each turn is worth g -/
theorem go_map {t : Y → O (Option Y)} {g : Y → Y} : ∀ {ds : List Y}, (∀ d ∈ ds, t d = .ok (some (g d))) → goF t ds = .ok (ds.map g)
  | [], _ => rfl
  | d :: ds, h => by
    show (t d).bind _ = _
    rw [h d (List.mem_cons_self ..), O.bind_ok, go_map fun e he => h e (List.mem_cons_of_mem _ he), O.bind_ok]
    rfl
theorem go_ints {t : Y → O (Option Y)} {g : Int → Y} {ns : List Int} (h : ∀ x ∈ ns, t (.int x) = .ok (some (g x))) : goF t (ns.map .int) = .ok (ns.map g) := by
  have := go_map (t := t) (g := fun d => match d with | .int x => g x | d => d) (ds := ns.map .int) fun d hd => by
    obtain ⟨x, hx, rfl⟩ := List.mem_map.mp hd
    exact h x hx
  rw [this, List.map_map]
  rfl
theorem go2_ints {t : Y → O (List Y)} {g : Int → List Y} {ns : List Int} (h : ∀ x ∈ ns, t (.int x) = .ok (g x)) : go2F t (ns.map .int) = .ok (ns.flatMap g) := by
  induction ns with
  | nil => rfl
  | cons n ns ih =>
    show (t (.int n)).bind _ = _
    rw [h n (List.mem_cons_self ..), O.bind_ok, ih fun x hx => h x (List.mem_cons_of_mem _ hx), O.bind_ok, List.flatMap_cons]
end L2.Fs
set_option Elab.async false
set_option linter.all false
set_option maxRecDepth 100000
namespace L2.Fs
open PySem PySem.Spec PyProof.Rows
def wholeD : Y → Bool
  | .int _ => true
  | _ => false
def risD : List Int → Bool
  | a :: b :: r => decide (a < b) && risD (b :: r)
  | _ => true
theorem whole_all : ∀ (ds : List Y), ds.all wholeD = (intsD ds).isSome
  | [] => rfl
  | d :: ds => by
    have ih := whole_all ds
    cases d <;> simp only [List.all_cons, wholeD, Bool.false_and, Bool.true_and, intsD, Option.isSome_none, Option.isSome_map, ih]
theorem whole_ints (ns : List Int) : (ns.map PyData.int).all wholeD = true := by rw [whole_all, intsD_map]; rfl
theorem zip_ris : ∀ (ns : List Int), (zipD (ns.map PyData.int) ((ns.map PyData.int).drop 1)) = (ns.zip (ns.drop 1)).map fun p => .tuple [.int p.1, .int p.2]
  | [] => rfl
  | [_] => rfl
  | a :: b :: r => by
    have ih := zip_ris (b :: r)
    simp only [List.map_cons, List.drop_succ_cons, List.drop_zero, zipD, List.zip_cons_cons] at ih ⊢
    rw [ih]
theorem ris_zip : ∀ (ns : List Int), ((ns.zip (ns.drop 1)).all fun p => decide (p.1 < p.2)) = risD ns
  | [] => rfl
  | [_] => rfl
  | a :: b :: r => by
    have ih := ris_zip (b :: r)
    simp only [List.drop_succ_cons, List.drop_zero, List.zip_cons_cons, List.all_cons, risD] at ih ⊢
    rw [ih]
theorem cut_from (ds : List Y) (k : Nat) : cutD ds (some (k : Int)) none = ds.drop k := by
  unfold cutD
  have e : HT.sIx ds.length 0 (some (k : Int)) = min k ds.length := HT.sIx_nat ds.length 0 k
  rw [e]
  show (ds.drop (min k ds.length)).take (ds.length - min k ds.length) = _
  rw [List.take_of_length_le (by rw [List.length_drop]; omega)]
  by_cases h : k ≤ ds.length
  · rw [Nat.min_eq_left h]
  · rw [Nat.min_eq_right (by omega), List.drop_of_length_le (by omega), List.drop_of_length_le (by omega)]
theorem at_nat {α : Type} (ds : List α) (k : Nat) : atI ds (k : Int) = ds[k]? := by
  unfold atI ixN
  by_cases h : k < ds.length
  · simp [h]
  · simp [h]
theorem ix_L {ds : List Y} {k : Nat} {d : Y} (h : ds[k]? = some d) : hIx (.list ds) (.int (k : Int)) = .ok (d, false) := by
  show (match atI ds (k : Int) with | some d => O.ok (d, false) | none => O.bad) = _
  rw [at_nat, h]
theorem canL : ∀ ns : List Int, PyData.canLayAll0 (ns.map PyData.int) = true
  | [] => rfl
  | n :: ns => by
    show (PyData.canLay0 (.int n) && PyData.canLayAll0 (ns.map PyData.int)) = true
    rw [canL ns]
    rfl
theorem depthAll : ∀ ns : List Int, PyData.depthAll (ns.map PyData.int) = 0
  | [] => rfl
  | n :: ns => by
    show max (PyData.depth (.int n)) (PyData.depthAll (ns.map PyData.int)) = 0
    rw [depthAll ns]
    rfl
theorem shapedL (ns : List Int) : SeqAt.shaped (.list (ns.map PyData.int)) = true := by
  unfold SeqAt.shaped
  have h1 : PyData.canLay0 (.list (ns.map PyData.int)) = true := canL ns
  have h2 : PyData.depth (.list (ns.map PyData.int)) ≤ 64 := by
    show PyData.depthAll (ns.map PyData.int) + 1 ≤ 64
    rw [depthAll]
    decide
  rw [h1, decide_eq_true h2]
  rfl
theorem neL (xs ys : List Int) : hNe (.list (xs.map .int)) (.list (ys.map .int)) = .ok (.bool (!decide (xs = ys)), false) := by
  unfold hNe
  rw [shapedL, shapedL]
  show O.ok (PyData.bool (!PyData.eqvAll _ _), false) = _
  rw [PySem.W.ked_eqvAll]
theorem go_mapf {α : Type} {t : Y → O (Option Y)} {f g : α → Y} {l : List α} (h : ∀ x ∈ l, t (f x) = .ok (some (g x))) : goF t (l.map f) = .ok (l.map g) := by
  induction l with
  | nil => rfl
  | cons n ns ih =>
    show (t (f n)).bind _ = _
    rw [h n (List.mem_cons_self ..), O.bind_ok, ih fun x hx => h x (List.mem_cons_of_mem _ hx), O.bind_ok]
    rfl
theorem fmod_bd (i : Int) {j : Int} (h : 0 < j) : 0 ≤ i.fmod j ∧ i.fmod j < j := ⟨Int.fmod_nonneg_of_pos i h, Int.fmod_lt_of_pos i h⟩
end L2.Fs
set_option Elab.async false
set_option linter.all false
set_option maxRecDepth 100000
namespace L2.Fs
open PySem PySem.Spec PyProof.Rows
end L2.Fs
set_option Elab.async false
set_option linter.all false
set_option maxRecDepth 100000
namespace L2.Fs
open PySem PySem.Spec PyProof.Rows
/-- the content of an own list or dict -/
def Cont (K : PySem.W.Frag) (F : Hp) (o : HO) (d : Y) : Prop := (∃ xs ds, d = .list ds ∧ o = .lst xs ∧ Rps K F xs ds) ∨ ∃ kvs ds, d = .dict ds ∧ o = .dK kvs ∧ Rpk K F kvs ds
theorem Cont.l {K : PySem.W.Frag} {F : Hp} {xs : List V} {ds : List Y} (r : Rps K F xs ds) : Cont K F (.lst xs) (.list ds) := .inl ⟨xs, ds, rfl, rfl, r⟩
theorem Cont.d {K : PySem.W.Frag} {F : Hp} {xs : List (Key × V)} {ds : List (Y × Y)} (r : Rpk K F xs ds) : Cont K F (.dK xs) (.dict ds) := .inr ⟨xs, ds, rfl, rfl, r⟩
end L2.Fs
set_option Elab.async false
set_option linter.all false
set_option maxRecDepth 100000
namespace L2.Fs
open PySem PySem.Spec PyProof.Rows
end L2.Fs
set_option Elab.async false
set_option linter.all false
set_option maxRecDepth 100000
namespace L2.Fs
open PySem PySem.Spec PyProof.Rows
end L2.Fs
set_option Elab.async false
set_option linter.all false
set_option maxRecDepth 100000
namespace L2.Fs
open PySem PySem.Spec PyProof.Rows
end L2.Fs
set_option Elab.async false
set_option linter.all false
set_option maxRecDepth 100000
namespace L2.Fs
open PySem PySem.Spec PyProof.Rows
def keyOf : Y → Option Key
  | .int i => some (.inl i)
  | .str x => some (.inr x)
  | _ => none
def valY (ds : List (Y × Y)) (c : Y) : Option Y := (ds.find? fun p => decide (keyOf p.1 = keyOf c)).map (·.2)
def putY (ds : List (Y × Y)) (c d : Y) : List (Y × Y) :=
  if (ds.any fun p => decide (keyOf p.1 = keyOf c)) = true then ds.map (fun p => if keyOf p.1 = keyOf c then (p.1, d) else p) else ds ++ [(c, d)]
section
variable {K : PySem.W.Frag} {F : Hp}
theorem rp_kV {k : Key} {c : Y} (r : Rp K F (kV k) c) : keyOf c = some k := by
  cases k <;> (cases r; rfl)
theorem Rpk.any {kvs : List (Key × V)} {ds : List (Y × Y)} {c : Y} {k : Key} (h : keyOf c = some k) (r : Rpk K F kvs ds) : (kvs.any fun kv => decide (kv.1 = k)) = ds.any fun p => decide (keyOf p.1 = keyOf c) := by
  induction kvs generalizing ds with
  | nil => cases r; rfl
  | cons kv kvs ih =>
    cases r with | cons r1 r2 r3 => ?_
    rw [List.any_cons, List.any_cons, ih r3, h]
    have e := rp_kV r1
    simp [e]
theorem Rpk.put1 {kvs : List (Key × V)} {ds : List (Y × Y)} {c d : Y} {k : Key} {v : V} (h : keyOf c = some k) (rv : Rp K F v d) (r : Rpk K F kvs ds) : Rpk K F (kvs.map fun kv => if kv.1 = k then (kv.1, v) else kv) (ds.map fun p => if keyOf p.1 = keyOf c then (p.1, d) else p) := by
  induction kvs generalizing ds with
  | nil => cases r; exact .nil
  | cons kv kvs ih =>
    cases r with | @cons k1 v1 _ c1 d1 dr r1 r2 r3 => ?_
    rw [List.map_cons, List.map_cons]
    have e := rp_kV r1
    by_cases hk : k1 = k
    · rw [if_pos hk, if_pos (by dsimp only; rw [h, e]; exact congrArg some hk)]
      exact .cons r1 rv (ih r3)
    · rw [if_neg hk, if_neg (by dsimp only; rw [h, e]; exact fun q => hk (Option.some.inj q))]
      exact .cons r1 r2 (ih r3)
theorem Rpk.app1 {kvs : List (Key × V)} {ds : List (Y × Y)} {c d : Y} {k : Key} {v : V} (rk : Rp K F (kV k) c) (rv : Rp K F v d) (r : Rpk K F kvs ds) : Rpk K F (kvs ++ [(k, v)]) (ds ++ [(c, d)]) := by
  induction kvs generalizing ds with
  | nil => cases r; exact .cons rk rv .nil
  | cons kv kvs ih => cases r with | cons r1 r2 r3 => exact .cons r1 r2 (ih r3)
theorem Rpk.put {kvs : List (Key × V)} {ds : List (Y × Y)} {c d : Y} {k : Key} {v : V} (h : keyOf c = some k) (rk : Rp K F (kV k) c) (rv : Rp K F v d) (r : Rpk K F kvs ds) : Rpk K F (putK kvs k v) (putY ds c d) := by
  unfold putK putY
  rw [Rpk.any h r]
  split
  · exact r.put1 h rv
  · exact r.app1 rk rv
theorem Rpk.val {kvs : List (Key × V)} {ds : List (Y × Y)} {c : Y} {k : Key} (h : keyOf c = some k) (r : Rpk K F kvs ds) : (∃ v d, valV kvs k = some v ∧ valY ds c = some d ∧ Rp K F v d) ∨ (valV kvs k = none ∧ valY ds c = none) := by
  induction kvs generalizing ds with
  | nil => cases r; exact .inr ⟨rfl, rfl⟩
  | cons kv kvs ih =>
    cases r with | @cons k1 v1 _ c1 d1 dr r1 r2 r3 => ?_
    have e := rp_kV r1
    by_cases hk : k1 = k
    · refine .inl ⟨v1, d1, valV_pos hk, ?_, r2⟩
      unfold valY
      rw [List.find?_cons, show decide (keyOf (c1, d1).1 = keyOf c) = true from decide_eq_true (by dsimp only; rw [h, e, hk])]
      rfl
    · have e2 : valY ((c1, d1) :: dr) c = valY dr c := by
        unfold valY
        rw [List.find?_cons, show decide (keyOf (c1, d1).1 = keyOf c) = false from decide_eq_false (by dsimp only; rw [h, e]; exact fun q => hk (Option.some.inj q))]
      rw [valV_neg hk, e2]
      exact ih r3
end
end L2.Fs
set_option Elab.async false
set_option linter.all false
set_option maxRecDepth 100000
namespace L2.Fs
open PySem PySem.Spec PyProof.Rows
end L2.Fs
set_option Elab.async false
set_option linter.all false
set_option maxRecDepth 100000
namespace L2.Fs
open PySem PySem.Spec PyProof.Rows
end L2.Fs
set_option Elab.async false
set_option linter.all false
set_option maxRecDepth 100000
namespace L2.Fs
open PySem PySem.Spec PyProof.Rows
end L2.Fs
set_option Elab.async false
set_option linter.all false
set_option maxRecDepth 100000
namespace L2.Fs
open PySem PySem.Spec PyProof.Rows
theorem Rpk.get' {K : PySem.W.Frag} {F : Hp} : ∀ {kvs : List (Key × V)} {ds : List (Y × Y)} {i : Nat} {p : Key × V} {q : Y × Y}, Rpk K F kvs ds → kvs[i]? = some p → ds[i]? = some q → Rp K F (kV p.1) q.1 ∧ Rp K F p.2 q.2
  | _, _, _, _, _, .nil, e, _ => by simp at e
  | _, _, 0, _, _, .cons h1 h2 _, e, e2 => by simp at e e2; subst e e2; exact ⟨h1, h2⟩
  | _, _, i + 1, _, _, .cons _ _ r, e, e2 => Rpk.get' (i := i) r (by simpa using e) (by simpa using e2)
end L2.Fs
set_option Elab.async false
set_option linter.all false
set_option maxRecDepth 100000
namespace L2.Fs
open PySem PySem.Spec PyProof.Rows
end L2.Fs
set_option Elab.async false
set_option linter.all false
set_option maxRecDepth 100000
namespace L2.Fs
open PySem PySem.Spec PyProof.Rows
theorem ap_dct (σ : Ev) : xDct σ = .ok ⟨.dict [], true, σ⟩ := rfl
def kUnb  (x : O Ev) : O Fl := x.bind fun σ => .ok (.nx σ)
theorem kUnb_0 (σ : Ev) : kUnb (.ok σ) = .ok (.nx σ) := rfl
def kUn (g : GFn) (x : O Rs) : O Fl := x.bind fun r => (g r.d r.σ).bind fun σ => .ok (.nx σ)
theorem kUn_0 (g : GFn) (d : Y) (fr : Bool) (σ : Ev) : kUn g (.ok ⟨d, fr, σ⟩) = kUnb (g d σ) := rfl
theorem ap_unp (g : GFn) (f : XF) (σ : Ev) : sUnp g f σ = kUn g (f σ) := rfl
end L2.Fs
set_option Elab.async false
set_option linter.all false
set_option maxRecDepth 100000
namespace L2.Fs
open PySem PySem.Spec PyProof.Rows
end L2.Fs
set_option Elab.async false
set_option linter.all false
set_option maxRecDepth 100000
namespace L2.Fs
open PySem PySem.Spec PyProof.Rows
/-- behind a call from the frames `outer`: an exception of the class cls flies; all that was tracked stays -/
structure Fly (P : Program) (w : World) (base : Heap) (outer : List Env) (H : Hp) (s : Shared) (cls : Value) (H' : Hp) (a : Addr) (s' : Shared) : Prop where
  os : s'.os = s.os
  bare : AllBare s'.gens
  un : Un (frs outer) [] H H' s.heap s'.heap
  hok : HOk P w H' s'.heap
  sm : Same H H'
  na : H' a = none
  fl : ∃ (B : Heap) (a0 : Value), Heap.FlyingW B outer a cls a0 s'.heap ∧ base.StaysIn B ∧ (∀ b o, s'.heap.get? b = some o → (∃ u, H' b = some u) → B.get? b = some o) ∧ (∀ b o, s.heap.get? b = some o → H b = none → b ∉ frs outer → B.get? b = some o)
def CXV (P : Program) (w : World) (base : Heap) : CXT := fun outer H s E ev s' => ∃ a cls H', ev = .ref a ∧ Fly P w base outer H s cls H' a s' ∧ E cls none H'
theorem HOk.there {P : Program} {w : World} {H : Hp} {h : Heap} (x : HOk P w H h) {a : Addr} {o : HO} (e : H a = some o) : ∃ ob, h.get? a = some ob := by
  have q := x a o e
  induction o with
  | lst xs => obtain ⟨_, _, _, _, e⟩ := q; exact ⟨_, e⟩
  | tup xs => obtain ⟨_, _, _, ob, e, _⟩ := q; exact ⟨_, e⟩
  | dK kvs => obtain ⟨_, _, _, _, o, _, _, e, _⟩ := q; exact ⟨_, e⟩
  | dT kvs => obtain ⟨_, _, _, _, o, _, _, e, _⟩ := q; exact ⟨_, e⟩
  | set S n => obtain ⟨o, _, _, _, e, _⟩ := q; exact ⟨_, e⟩
  | ins C dx fs => obtain ⟨_, _, _, e, _⟩ := q; exact ⟨_, e⟩
  | own y => obtain ⟨_, e⟩ := q; exact ⟨_, e⟩
  | xd fs => obtain ⟨_, ⟨_, _, _, e, _⟩, _⟩ := q; exact ⟨_, e⟩
  | rng lo hi => obtain ⟨_, _, _, e⟩ := q; exact ⟨_, e⟩
  | frz ob u ih => obtain ⟨e, _⟩ := q; exact ⟨_, e⟩
  | tbl ps => exact ⟨_, q⟩
  | met f y => exact ⟨_, q⟩
  | ext φ => obtain ⟨_, ⟨_, e⟩, _⟩ := q; exact ⟨_, e⟩
end L2.Fs
set_option Elab.async false
set_option linter.all false
set_option maxRecDepth 100000
namespace L2.Fs
open PySem PySem.Spec PyProof.Rows
abbrev Ax := Str → List (Addr × Obj) → St → Prop
theorem PS.nox {X : Cx} {st : Stmt} {t : TS} (h : PS X.nox st t) : PS X st t := fun pins s σ H D I hw =>
  wpAny_mono (h pins s σ H D (I.wish _) hw) (fun _ _ q => q.unwish) fun _ _ z => False.elim z
def spX (K : PySem.W.Frag) (mg : Str → Option Value) (Ft : Hp) (m : Nat) (G : FL) : Sp := fun vs H Q E => vs.length = m ∧ ∃ F0 ds, Same Ft F0 ∧ Same F0 H ∧ Rps K F0 vs ds ∧
  ((∃ z, G ds = .ok z ∧ ∀ F' H' v, Endd K H F0 F' H' z.2 z.1 v → Q v H') ∨ ∃ c, G ds = .exc c ∧ ∀ H' cls, Same H H' → mg c = some cls → E cls none H')
structure CalX (P : Program) (w : World) (K : PySem.W.Frag) (mg : Str → Option Value) (base : Heap) (Ft : Hp) (x : Str) (ps : List Str) (k : Nat) (G : FL) : Prop where
  ex : ∃ f fd, FnOk P w K mg base (CXV P w base) k f fd ps (spX K mg Ft ps.length G) ∧ PySem.W.keepIn K (.ref f) = true ∧ mg x = some (.ref f) ∧ Binds K fd ps []
theorem CalX.cal {P : Program} {w : World} {K : PySem.W.Frag} {mg : Str → Option Value} {base : Heap} {Ft : Hp} {x : Str} {ps : List Str} {k : Nat} {G : FL} (C : CalX P w K mg base Ft x ps k G) : Cal P w K mg base Ft x ps k G := by
  obtain ⟨f, fd, F, h1, h2, h3⟩ := C.ex
  refine ⟨f, fd, ⟨fun vs H Q E h => h.1, fun A outer s H args us vs Q E hr he hb hv hs => ?_⟩, h1, h2, h3⟩
  obtain ⟨hl, F0, ds, z, s1, s2, rp, hG, kk⟩ := hs
  refine codeAny_mono (F.run A outer s H args us vs Q (fun _ _ _ => False) hr he hb hv ⟨hl, F0, ds, s1, s2, rp, .inl ⟨z, hG, kk⟩⟩) fun r s' q => ?_
  cases r with
  | ok fl => cases fl <;> exact q
  | error e =>
    obtain ⟨_, _, _, _, _, z⟩ := q
    exact z.elim
end L2.Fs
set_option Elab.async false
set_option linter.all false
set_option maxRecDepth 100000
namespace L2.Fs
open PySem PySem.Spec PyProof.Rows
end L2.Fs
set_option Elab.async false
set_option linter.all false
set_option maxRecDepth 100000
namespace L2.Fs
open PySem PySem.Spec PyProof.Rows
section
variable {X : Cx} {pins : List (Addr × Obj)} {σV : St} {H H' : Hp} {s s' : Shared} {a C : Addr}
/-- the exception is tracked from here on, in a heap that is as it was up to slots -/
theorem Fly.inv (I : Inv X pins σV H s) (f : Fly X.prog X.w X.base X.stack H s (.ref C) H' a s') {B h1 : Heap} (hB1 : B.StaysIn h1) (up : s'.heap.UpToSlots h1) (hBa : B.get? a = none)
    (T : ∀ b o, s'.heap.get? b = some o → (∃ u, H' b = some u) → B.get? b = some o) (U : ∀ b o, s.heap.get? b = some o → H b = none → b ∉ frs X.stack → B.get? b = some o)
    (hobj : ∃ o vs, h1.get? a = some o ∧ o.cls = .ref C ∧ o.data = .fields vs) : Inv X pins σV (upd H' a (ExcO a C)) { s' with heap := h1 } := by
  have nnil : ∀ b : Addr, b ∉ ([] : List Addr) := fun b => by simp
  have slotH : ∀ b o, s.heap.get? b = some o → H b = none → b ∈ frs X.stack → ∃ sl, h1.get? b = some { o with slots := sl } := fun b o e n hb => by
    obtain ⟨sl, e1⟩ := f.un.slot b o e n hb (nnil b)
    obtain ⟨_, o', ho', hd⟩ := I.stack.mem hb
    rw [e] at ho'
    cases ho'
    obtain ⟨sl2, e2⟩ := up b _ e1 hd
    exact ⟨sl2, e2⟩
  have nea : ∀ b o, s.heap.get? b = some o → H b = none → b ≠ a := fun b o e n z => by
    by_cases hb : b ∈ frs X.stack
    · obtain ⟨sl, e1⟩ := slotH b o e n hb
      obtain ⟨_, o', ho', hd⟩ := I.stack.mem hb
      rw [e] at ho'
      cases ho'
      obtain ⟨o2, vs, h2, _, h3⟩ := hobj
      rw [← z, e1] at h2
      cases h2
      exact hd vs h3
    · have := U b o e n hb
      rw [z, hBa] at this
      cases this
  have trk : ∀ b u, H' b = some u → b ≠ a := fun b u e z => by rw [z, f.na] at e; cases e
  have hk : ∀ b u o, H' b = some u → s'.heap.get? b = some o → h1.get? b = some o := fun b u o e q => hB1 b o (T b o q ⟨u, e⟩)
  refine I.call' (s' := { s' with heap := h1 }) (ch := []) f.os ⟨fun b o e n hb _ => hB1 b o (U b o e n hb), fun b o e n hb _ => slotH b o e n hb, fun b o e n _ => ?_, fun b o e _ => ?_, fun b xs e => ?_, fun b o u e => ?_, fun b ps e => ?_⟩ (fun b u e => ?_) f.bare fun b z => absurd z (nnil b)
  · rw [upd_ne (nea b o e n)]
    exact f.un.free b o e n (nnil b)
  · cases q : H b with
    | none =>
      by_cases hb : b ∈ frs X.stack
      · obtain ⟨sl, e1⟩ := slotH b o e q hb; exact ⟨_, e1⟩
      · exact ⟨o, hB1 b o (U b o e q hb)⟩
    | some u =>
      obtain ⟨o', e'⟩ := HOk.there f.hok (f.sm _ _ q)
      exact ⟨o', hk b u o' (f.sm _ _ q) e'⟩
  · rw [upd_ne (trk b _ (f.sm _ _ e))]; exact f.sm _ _ e
  · rw [upd_ne (trk b _ (f.sm _ _ e))]; exact f.sm _ _ e
  · exact ⟨#[], by rw [upd_ne (trk b _ (f.sm _ _ e)), Array.append_empty]; exact f.sm _ _ e⟩
  · by_cases hb : b = a
    · subst hb
      rw [upd_same] at e
      cases e
      obtain ⟨o, vs, h2, h3, h4⟩ := hobj
      exact ⟨⟨o, vs, h2, h3, h4⟩, ⟨o, h2⟩, fun g1 g2 ⟨o', vs', q1, q2, q3⟩ k => ⟨o', vs', k _ q1, q2, q3⟩⟩
    · rw [upd_ne hb] at e
      refine (f.hok b u e).stay (fun c v hc q => ?_) (fun c q => ?_) fun c xs q => ?_
      · rcases hc with rfl | hc
        · exact hk c u v e q
        · exact hk c _ v hc q
      · rw [upd_ne (trk c _ q)]; exact q
      · rw [upd_ne (trk c _ q)]; exact q
end
end L2.Fs
set_option Elab.async false
set_option linter.all false
set_option maxRecDepth 100000
namespace L2.Fs
open PySem PySem.Spec PyProof.Rows
section
variable {K : PySem.W.Frag} {H0 F0 F H : Hp} {σ : Ev} {σV : St}
/-- a name goes, of the data and of the frame -/
theorem EnvR.drop (E : EnvR K H0 F0 F H σ σV) (i : Nat) : EnvR K H0 F0 F H (σ.set i none) (σV.set i none) where
  fh := E.fh
  f0 := E.f0
  h0 := E.h0
  nw := E.nw
  len := by rw [List.length_set, List.length_set, E.len]
  sl := fun j s e => by
    by_cases h : i = j
    · subst h
      have hi : i < σ.length := by have := (List.getElem?_eq_some_iff.mp e).1; rwa [List.length_set] at this
      rw [List.getElem?_set_self hi] at e
      cases e
      exact ⟨none, List.getElem?_set_self (by rw [← E.len]; exact hi), trivial⟩
    · rw [List.getElem?_set_ne h] at e ⊢
      exact E.sl j s e
  sep := fun j k s t v hjk e1 e2 m1 m2 => by
    have far : ∀ {l : Nat} {u : Sl}, (σ.set i none)[l]? = some u → Mine u = true → i ≠ l := fun {l u} e m z => by
      subst z
      rw [List.getElem?_set_self'] at e
      cases q : σ[i]? <;> rw [q] at e <;> cases e
      cases m
    have n1 := far e1 m1
    have n2 := far e2 m2
    rw [List.getElem?_set_ne n1] at e1 ⊢
    rw [List.getElem?_set_ne n2] at e2 ⊢
    exact E.sep j k s t v hjk e1 e2 m1 m2
end
end L2.Fs
set_option Elab.async false
set_option linter.all false
set_option maxRecDepth 100000
namespace L2.Fs
open PySem PySem.Spec PyProof.Rows
/-- room, whatever is handled: that of the Around with nothing handled -/
def RoomM (k : Nat) (A : Around) : Prop := Room k { A with handled := none }
theorem _root_.L2.Room.m {k : Nat} {A : Around} (r : Room k A) : RoomM k A := ⟨rfl, r.dp, r.un, r.gd⟩
theorem RoomM.mono {j k : Nat} {A : Around} (r : RoomM k A) (h : j ≤ k) : RoomM j A := Room.mono r h
theorem RoomM.deeper {k : Nat} {A : Around} (r : RoomM (k + 1) A) (env : Env) : RoomM k (A.deeper env) := ⟨rfl, (Room.deeper r env).dp, (Room.deeper r env).un, (Room.deeper r env).gd⟩
structure FnM (P : Program) (w : World) (K : PySem.W.Frag) (mg : Str → Option Value) (base : Heap) (k : Nat) (f : Addr) (fd : FuncData) (ps : List Str) (Ft : Hp) (G : FL) : Prop where
  run : ∀ (A : Around) (outer : List Env) (s : Shared) (H : Hp) (args : Args) (us : List Value) (vs : List V) (Q : VK), RoomM k A → Env0 P w K mg base A outer s H → BindsTo s fd args (ps.zip us) → Vals vs us → spV K Ft ps.length G vs H Q (fun _ _ _ => False) →
    codeAny (model P w) A (.call (.ref f) args) (fun r s' => ∃ u, r = .ok (.ret u) ∧ CE outer P w H s Q u s') s
section
variable {P : Program} {w : World} {K : PySem.W.Frag} {mg : Str → Option Value} {base : Heap} {Ft : Hp}
structure CalM (P : Program) (w : World) (K : PySem.W.Frag) (mg : Str → Option Value) (base : Heap) (Ft : Hp) (x : Str) (ps : List Str) (k : Nat) (G : FL) : Prop where
  ex : ∃ f fd, FnM P w K mg base k f fd ps Ft G ∧ PySem.W.keepIn K (.ref f) = true ∧ mg x = some (.ref f) ∧ Binds K fd ps []
end
end L2.Fs
set_option Elab.async false
set_option linter.all false
set_option maxRecDepth 100000
namespace L2.Fs
open PySem PySem.Spec PyProof.Rows
def ExcAt (x D : Addr) (h : Heap) : Prop := ∃ o vs, h.get? x = some o ∧ o.cls = .ref D ∧ o.data = .fields vs
def clsId : String := "object.__class__"
def getId : String := "getset_descriptor.__get__"
def gabId : String := "BaseException.__getattribute__"
/-- what is looked at in the heap h, for an object at x of the class at D -/
structure ExcLk (M : Model) (h : Heap) (x D : Addr) : Prop where
  ty : PySem.W.Looks M h (typeOf (.ref x)) (.ref D)
  ob : PySem.W.Looks M h (isSubtype (.ref D) (.type "object")) true
  be : PySem.W.Looks M h (isSubtype (.ref D) (.type "BaseException")) true
  ga : PySem.W.Looks M h (typeLookup (.ref D) "__getattribute__") (some (.builtin gabId))
  gn : PySem.W.Looks M h (typeLookup (.ref D) "__getattr__") none
  at_ : PySem.W.Looks M h (typeLookup (.ref D) "__class__") (some (.builtin clsId))
  sp : PySem.W.Looks M h (specialOf (.builtin clsId) "__get__") (some (.builtin getId))
  tk : PySem.W.Looks M h (Builtin.ObjectAttr.takesStores (.builtin clsId)) true
theorem ExcLk.keeps {M : Model} {h h' : Heap} {x D : Addr} (L : ExcLk M h x D) (k : ∀ b o, h.get? b = some o → h'.get? b = some o) : ExcLk M h' x D :=
  ⟨L.ty.keeps k, L.ob.keeps k, L.be.keeps k, L.ga.keeps k, L.gn.keeps k, L.at_.keeps k, L.sp.keeps k, L.tk.keeps k⟩
section
variable {h : Heap} {x D : Addr} {prog : Program} {w : World}
theorem ExcLk.inst {M : Model} {T : String} (L : ExcLk M h x D) (q : PySem.W.Looks M h (isSubtype (.ref D) (.type T)) true) : PySem.W.Looks M h (isInstance (.ref x) (.type T)) true := L.ty.andThen q
theorem ExcLk.shown {M : Model} (L : ExcLk M h x D) : PySem.W.Looks M h (shownTypeOf (.ref x)) (.ref D) := L.ty.andThen (.of_pure rfl)
theorem ExcLk.mine {M : Model} (L : ExcLk M h x D) : PySem.W.Looks M h (Builtin.Getset_descriptor.descrCheckInstance (.builtin clsId) (.ref x)) () := by
  have e : Builtin.Getset_descriptor.descrNameAndClass (.builtin clsId) = pure (("__class__" : Str), Value.type "object") := by
    have o : Builtin.Getset_descriptor.descrOwnerAndName clsId = ("object", "__class__") := PySem.W.KF.owner_class
    simp only [Builtin.Getset_descriptor.descrNameAndClass, o]
  exact (PySem.W.Looks.of_pure e).andThen ((L.inst L.ob).andThen .now)
theorem ExcLk.found {M : Model} (L : ExcLk M h x D) : PySem.W.Looks M h (Builtin.ObjectAttr.find (.ref x) (.ref D) "__class__") (.bind (.builtin getId) (.builtin clsId)) :=
  L.at_.andThen (L.sp.andThen ((L.tk.andThen .now : PySem.W.Looks M h (Builtin.ObjectAttr.dataDescriptor? (some (.builtin clsId)) (some (.builtin getId))) (some (.builtin getId, .builtin clsId))).andThen (.tag .now)))
/-- the getter of __class__, called -/
theorem ExcLk.get (L : ExcLk (model prog w) h x D) (tp : Value) : PySem.W.Looks (model prog w) h (call (.builtin getId) [.builtin clsId, .ref x, tp]) (.ref D) := by
  intro A Q E s k q
  refine wpAny_call (codeAny_call_builtin PySem.W.KF.slot_gs.plain PySem.W.KF.entry_gs ?_)
  have L := L.keeps k
  refine PySem.W.KF.slot_gs.check _ _ _ s (.builtin clsId) [.ref x, tp] [] _ PySem.W.KF.type_class (PySem.W.KF.args_gs _ _ _) ?_
  show wpAny _ _ (Builtin.Getset_descriptor.descrGetArgs _ >>= _) _ _ s
  rw [PySem.W.dga_obj]
  refine wpAny_bind (wpAny_pure ?_)
  show wpAny _ _ (Builtin.Getset_descriptor.descrCheckInstance (.builtin clsId) (.ref x) >>= fun _ => again (.builtin clsId ⟨[.ref x], []⟩)) _ _ s
  refine wpAny_bind (L.mine.here ?_)
  have hq : Code.quiet (.builtin clsId ⟨[.ref x], []⟩) = true := Code.quiet_builtin _ (by decide +kernel)
  have body : PySem.W.Looks (model prog w) s.heap (Builtin.«object.__class__» ⟨[.ref x], []⟩) (.done (.ret (.ref D))) := L.shown.andThen (.of_pure rfl)
  exact wpAny_pure ⟨hq, codeAny_builtin PySem.W.KF.entry_class (body.here q)⟩
/-- object.__getattribute__ of it, for __class__ -/
theorem ExcLk.body (L : ExcLk (model prog w) h x D) (tk : Tok) : PySem.W.Looks (model prog w) h (Builtin.«object.__getattribute__» ⟨[.ref x, .str "__class__" tk], []⟩) (.done (.ret (.ref D))) := by
  have b : PySem.W.Looks (model prog w) h (Builtin.ObjectAttr.bindTo (.builtin getId) (.builtin clsId) (.ref x) (.ref D)) (.done (.ret (.ref D))) := fun A Q E s k q =>
    wpAny_bind (wpAny_holding (L.get (.ref D) A _ E s k (wpAny_pure q)))
  exact PySem.W.Looks.andThen (.of_pure rfl) (PySem.W.Looks.andThen (.of_pure rfl) (L.ty.andThen (L.found.andThen b)))
end
/-- what the class at D tells, as checks over the fragment -/
structure ExcC (K : PySem.W.Frag) (D : Addr) : Prop where
  it : ∃ b, PySem.W.kitCls K (.ref D) (.ref D) = some b
  ob : PySem.W.mroIn K D (.type "object") = some true
  be : PySem.W.mroIn K D (.type "BaseException") = some true
  ga : PySem.W.findIn K (.ref D) "__getattribute__" = some (some (.builtin gabId))
  gn : PySem.W.findIn K (.ref D) "__getattr__" = some none
  at_ : PySem.W.findIn K (.ref D) "__class__" = some (some (.builtin clsId))
  sp : PySem.W.specialIn K (.builtin clsId) "__get__" = some (some (.builtin getId))
  tk : PySem.W.takesIn K (.builtin clsId) = some true
section
variable {K : PySem.W.Frag} {M : Model} {h : Heap} {x D : Addr}
theorem ExcC.lk (C : ExcC K D) (X : K.In h) (I : ExcAt x D h) : ExcLk M h x D where
  ty := by
    obtain ⟨o, _, h1, h2, _⟩ := I
    exact h2 ▸ (PySem.W.Looks.ld h1).andThen .now
  ob := PySem.W.looks_mroIn X C.ob
  be := PySem.W.looks_mroIn X C.be
  ga := PySem.W.looks_findIn X C.ga
  gn := PySem.W.looks_findIn X C.gn
  at_ := PySem.W.looks_findIn X C.at_
  sp := PySem.W.looks_specialIn X C.sp
  tk := PySem.W.looks_takesIn X C.tk
end
end L2.Fs
set_option Elab.async false
set_option linter.all false
set_option maxRecDepth 100000
namespace L2.Fs
open PySem PySem.Spec PyProof.Rows
end L2.Fs
set_option Elab.async false
set_option linter.all false
set_option maxRecDepth 100000
namespace L2.Fs
open PySem PySem.Spec PyProof.Rows
theorem RoomM.units {k : Nat} {A : Around} (r : RoomM k A) : A.units + 64 < cLine := Room.units (A := { A with handled := none }) r
end L2.Fs
set_option Elab.async false
set_option linter.all false
set_option maxRecDepth 100000
namespace L2.Fs
open PySem PySem.Spec PyProof.Rows
end L2.Fs
set_option Elab.async false
set_option linter.all false
set_option maxRecDepth 100000
namespace L2.Fs
open PySem PySem.Spec PyProof.Rows
end L2.Fs
set_option Elab.async false
set_option linter.all false
set_option maxRecDepth 100000
namespace L2.Fs
open PySem PySem.Spec PyProof.Rows
end L2.Fs
set_option Elab.async false
set_option linter.all false
set_option maxRecDepth 100000
namespace L2.Fs
open PySem PySem.Spec PyProof.Rows
end L2.Fs
set_option Elab.async false
set_option linter.all false
set_option maxRecDepth 100000
namespace L2.Fs
open PySem PySem.Spec PyProof.Rows
end L2.Fs
set_option Elab.async false
set_option linter.all false
set_option maxRecDepth 100000
namespace L2.Fs
open PySem PySem.Spec PyProof.Rows
end L2.Fs
set_option Elab.async false
set_option linter.all false
set_option maxRecDepth 100000
namespace L2.Fs
open PySem PySem.Spec PyProof.Rows
end L2.Fs
set_option Elab.async false
set_option linter.all false
set_option maxRecDepth 100000
namespace L2.Fs
open PySem PySem.Spec PyProof.Rows
end L2.Fs
set_option Elab.async false
set_option linter.all false
set_option maxRecDepth 100000
namespace L2.Fs
open PySem PySem.Spec PyProof.Rows
end L2.Fs
set_option Elab.async false
set_option linter.all false
set_option maxRecDepth 100000
namespace L2.Fs
open PySem PySem.Spec PyProof.Rows
end L2.Fs
set_option Elab.async false
set_option linter.all false
set_option maxRecDepth 100000
namespace L2.Fs
open PySem PySem.Spec PyProof.Rows
end L2.Fs
set_option Elab.async false
set_option linter.all false
set_option maxRecDepth 100000
namespace L2.Fs
open PySem PySem.Spec PyProof.Rows
end L2.Fs
set_option Elab.async false
set_option linter.all false
set_option maxRecDepth 100000
namespace L2.Fs
open PySem PySem.Spec PyProof.Rows
end L2.Fs
set_option Elab.async false
set_option linter.all false
set_option maxRecDepth 100000
namespace L2.Fs
open PySem PySem.Spec PyProof.Rows
end L2.Fs
set_option Elab.async false
set_option linter.all false
set_option maxRecDepth 100000
namespace L2.Fs
open PySem PySem.Spec PyProof.Rows
end L2.Fs
set_option Elab.async false
set_option linter.all false
set_option maxRecDepth 100000
namespace L2.Fs
open PySem PySem.Spec PyProof.Rows
end L2.Fs
set_option Elab.async false
set_option linter.all false
set_option maxRecDepth 100000
namespace L2.Fs
open PySem PySem.Spec PyProof.Rows
end L2.Fs
set_option Elab.async false
set_option linter.all false
set_option maxRecDepth 100000
namespace L2.Fs
open PySem PySem.Spec PyProof.Rows
end L2.Fs
set_option Elab.async false
set_option linter.all false
set_option maxRecDepth 100000
namespace L2.Fs
open PySem PySem.Spec PyProof.Rows
section
variable {K : PySem.W.Frag} {H0 F0 F H : Hp} {σ : Ev} {σV : St}
/-- the list at a is set aside: nothing changes it -/
theorem EnvR.aside (E : EnvR K H0 F0 F H σ σV) {i : Nat} {a : Addr} {o : HO} {d : Y} (hs : σ[i]? = some (some (.own, d))) (hv : σV[i]? = some (some (.ref a))) (hH : H a = some o) (hF : F a = none) (h0 : H0 a = none) :
    EnvR K (upd H0 a o) F0 F H (σ.set i (some (.val, opqY a))) σV where
  fh := E.fh
  f0 := E.f0
  h0 := fun b u e => by
    by_cases hb : b = a
    · subst hb; rw [upd_same] at e; cases e; exact hH
    · rw [upd_ne hb] at e; exact E.h0 b u e
  nw := fun b u e => by
    rcases E.nw b u e with q | q
    · exact .inl q
    · by_cases hb : b = a
      · subst hb; rw [hF] at e; cases e
      · exact .inr (by rw [upd_ne hb]; exact q)
  len := by rw [List.length_set]; exact E.len
  sl := fun j s e => by
    have hi : i < σ.length := (List.getElem?_eq_some_iff.mp hs).1
    by_cases hj : i = j
    · subst hj
      rw [List.getElem?_set_self hi] at e
      cases e
      exact ⟨_, hv, _, rfl, .opq a⟩
    · rw [List.getElem?_set_ne hj] at e
      obtain ⟨v, g1, g2⟩ := E.sl j s e
      refine ⟨v, g1, ?_⟩
      rcases s with _ | ⟨b, d'⟩
      · trivial
      · have ne : Mine (some (b, d')) = true → v ≠ some (.ref a) := fun hm z => E.sep i j _ _ _ hj hs e rfl hm hv (by rw [g1, z])
        cases b with
        | val => exact g2
        | loc =>
          obtain ⟨x, e1, c, rfl, ⟨f1, f2⟩, f3⟩ := g2
          subst e1
          have nc : c ≠ a := fun z => ne rfl (by rw [z])
          exact ⟨_, rfl, c, rfl, ⟨by rw [upd_ne nc]; exact f1, f2⟩, f3⟩
        | own =>
          obtain ⟨x, e1, c, rfl, f1, f2, f3⟩ := g2
          subst e1
          have nc : c ≠ a := fun z => ne rfl (by rw [z])
          exact ⟨_, rfl, c, rfl, f1, by rw [upd_ne nc]; exact f2, f3⟩
  sep := fun j m s t v jm e1 e2 m1 m2 => by
    have gen : ∀ (q : Nat) (s : Sl), (σ.set i (some (.val, opqY a)))[q]? = some s → Mine s = true → σ[q]? = some s := fun q s e hm => by
      by_cases hq : i = q
      · subst hq
        rw [List.getElem?_set_self (List.getElem?_eq_some_iff.mp hs).1] at e
        cases e
        cases hm
      · rw [List.getElem?_set_ne hq] at e; exact e
    exact E.sep j m s t v jm (gen j s e1 m1) (gen m t e2 m2) m1 m2
theorem key_no : ∀ {k : Key}, Rp K F (kV k) .none → False
  | .inl i, q => by
    have q' : Rp K F (.int i) .none := q
    cases q'
  | .inr x, q => by
    have q' : Rp K F (.str x) .none := q
    cases q'
theorem rp_opq {v : V} {a : Addr} (r : Rp K F v (opqY a)) : v = .ref a := by
  unfold opqY at r
  generalize hd : (PyData.dict [(.none, .int (a : Int))]) = d at r
  cases r with
  | dct h q =>
    cases hd
    cases q with
    | cons q1 _ _ => exact (key_no q1).elim
  | exc h q => cases hd
  | opq b =>
    cases hd
    rfl
  | _ => cases hd
end
end L2.Fs
namespace L2.Fs
open PySem PySem.Spec PyProof.Rows
end L2.Fs
set_option Elab.async false
set_option linter.all false
set_option maxRecDepth 100000
namespace L2.Fs
open PySem PySem.Spec PyProof.Rows
end L2.Fs
namespace L2.Fs
open PySem PySem.Spec PyProof.Rows
end L2.Fs
set_option Elab.async false
set_option linter.all false
set_option maxRecDepth 100000
namespace L2.Fs
open PySem PySem.Spec PyProof.Rows
end L2.Fs
set_option Elab.async false
set_option linter.all false
set_option maxRecDepth 100000
namespace L2.Fs
open PySem PySem.Spec PyProof.Rows
end L2.Fs
set_option Elab.async false
set_option linter.all false
set_option maxRecDepth 100000
namespace L2.Fs
open PySem PySem.Spec PyProof.Rows
end L2.Fs
set_option Elab.async false
set_option linter.all false
set_option maxRecDepth 100000
namespace L2.Fs
open PySem PySem.Spec PyProof.Rows
end L2.Fs
set_option Elab.async false
set_option linter.all false
set_option maxRecDepth 100000
namespace L2.Fs
open PySem PySem.Spec PyProof.Rows
end L2.Fs
set_option Elab.async false
set_option linter.all false
set_option maxRecDepth 100000
namespace L2.Fs
open PySem PySem.Spec PyProof.Rows
end L2.Fs
set_option Elab.async false
set_option linter.all false
set_option maxRecDepth 100000
namespace L2.Fs
open PySem PySem.Spec PyProof.Rows
end L2.Fs
set_option Elab.async false
set_option linter.all false
set_option maxRecDepth 100000
namespace L2.Fs
open PySem PySem.Spec PyProof.Rows
section
variable {K : PySem.W.Frag} {H0 F0 F H : Hp} {σ : Ev} {σV : St}
theorem EnvR.noF (E : EnvR K H0 F0 F H σ σV) {p : Addr} {o : HO} (hp : H0 p = some o) (hF : F0 p = none) : F p = none := by
  cases q : F p with
  | none => rfl
  | some u =>
    rcases E.nw p u q with ⟨u', z⟩ | z
    · rw [hF] at z; cases z
    · rw [hp] at z; cases z
theorem EnvR.less {H0' : Hp} (sm : Same H0 H0') (E : EnvR K H0' F0 F H σ σV) : EnvR K H0 F0 F H σ σV where
  fh := E.fh
  f0 := E.f0
  h0 := sm.trans E.h0
  nw := fun a o e => (E.nw a o e).elim .inl fun z => .inr (Same.free sm z)
  len := E.len
  sl := fun i s e => by
    obtain ⟨v, g1, g2⟩ := E.sl i s e
    refine ⟨v, g1, ?_⟩
    rcases s with _ | ⟨b, d⟩
    · trivial
    · cases b with
      | val => exact g2
      | loc =>
        obtain ⟨x, e1, c, e2, ⟨f1, f2⟩, f3⟩ := g2
        exact ⟨x, e1, c, e2, ⟨Same.free sm f1, f2⟩, f3⟩
      | own =>
        obtain ⟨x, e1, c, e2, f1, f2, f3⟩ := g2
        exact ⟨x, e1, c, e2, f1, Same.free sm f2, f3⟩
  sep := E.sep
theorem EnvR.reroot (E : EnvR K H0 F0 F H σ σV) {p : Addr} {o : HO} (o' : HO) (hp : H0 p = some o) (hF : F0 p = none) : EnvR K (upd H0 p o') F0 F (upd H p o') σ σV where
  fh := fun b u e => by
    rw [upd_ne (ne_of_none e (E.noF hp hF))]; exact E.fh b u e
  f0 := E.f0
  h0 := fun b u e => by
    by_cases hb : b = p
    · subst hb; rw [upd_same] at e ⊢; exact e
    · rw [upd_ne hb] at e ⊢; exact E.h0 b u e
  nw := fun b u e => by
    rcases E.nw b u e with q | q
    · exact .inl q
    · exact .inr (by rw [upd_ne (ne_of_none e (E.noF hp hF))]; exact q)
  len := E.len
  sl := fun i s e => by
    obtain ⟨v, g1, g2⟩ := E.sl i s e
    refine ⟨v, g1, ?_⟩
    have ne : ∀ {c : Addr}, H0 c = none → c ≠ p := fun {c} h z => by subst z; rw [hp] at h; cases h
    rcases s with _ | ⟨b, d⟩
    · trivial
    · cases b with
      | val => exact g2
      | loc =>
        obtain ⟨x, e1, c, e2, ⟨f1, f2⟩, f3⟩ := g2
        exact ⟨x, e1, c, e2, ⟨by rw [upd_ne (ne f1)]; exact f1, f2⟩, f3⟩
      | own =>
        obtain ⟨x, e1, c, e2, f1, f2, f3⟩ := g2
        refine ⟨x, e1, c, e2, f1, by rw [upd_ne (ne f2)]; exact f2, ?_⟩
        rcases f3 with ⟨xs, ds, e, q, r⟩ | ⟨xs, ds, e, q, r⟩
        · exact .inl ⟨xs, ds, e, by rw [upd_ne (ne f2)]; exact q, r⟩
        · exact .inr ⟨xs, ds, e, by rw [upd_ne (ne f2)]; exact q, r⟩
  sep := E.sep
end
/-- the object that gathers what the turns tell -/
structure Acc (K : PySem.W.Frag) where
  rel : Hp → HO → List Y → Prop
  lim : List Y → Prop
  mono : ∀ {F F' o ds}, Same F F' → rel F o ds → rel F' o ds
  pre : ∀ {a b}, lim (a ++ b) → lim a
end L2.Fs
set_option Elab.async false
set_option linter.all false
set_option maxRecDepth 100000
namespace L2.Fs
open PySem PySem.Spec PyProof.Rows
end L2.Fs
set_option Elab.async false
set_option linter.all false
set_option maxRecDepth 100000
namespace L2.Fs
open PySem PySem.Spec PyProof.Rows
abbrev DC := List (Y × List Y)
abbrev SFD := Ev → DC → O (Ev × DC)
def hasY (c : DC) (y : Y) : Bool := c.any fun p => decide (keyOf p.1 = keyOf y)
def lkY : DC → Y → List Y
  | [], _ => []
  | (k, ds) :: r, y => if keyOf k = keyOf y then ds else lkY r y
def adY : DC → Y → Y → DC
  | [], _, _ => []
  | (k, ds) :: r, y, d => if keyOf k = keyOf y then (k, ds ++ [d]) :: r else (k, ds) :: adY r y d
inductive DKs (K : PySem.W.Frag) (F H : Hp) : List (Key × V) → DC → Prop
  | nil : DKs K F H [] []
  | cons {k : Key} {b : Addr} {xs : List V} {c : Y} {ds : List Y} {kvs : List (Key × V)} {dd : DC} : keyOf c = some k → H b = some (.lst xs) → Rps K F xs ds → DKs K F H kvs dd → DKs K F H ((k, .ref b) :: kvs) ((c, ds) :: dd)
section
variable {K : PySem.W.Frag} {F F' H H' : Hp}
theorem DKs.mono (s : Same F F') : ∀ {kvs : List (Key × V)} {c : DC}, DKs K F H kvs c → DKs K F' H kvs c
  | _, _, .nil => .nil
  | _, _, .cons e h r t => .cons e h (r.mono s) (DKs.mono s t)
theorem DKs.length : ∀ {kvs : List (Key × V)} {c : DC}, DKs K F H kvs c → kvs.length = c.length
  | _, _, .nil => rfl
  | _, _, .cons _ _ _ t => by rw [List.length_cons, List.length_cons, DKs.length t]
theorem DKs.same : ∀ {kvs : List (Key × V)} {c : DC}, DKs K F H kvs c → (∀ b, V.ref b ∈ kvs.map (·.2) → H' b = H b) → DKs K F H' kvs c
  | _, _, .nil, _ => .nil
  | _, _, .cons e h r t, q => .cons e (by rw [q _ (List.mem_cons_self ..)]; exact h) r (DKs.same t fun b hb => q b (List.mem_cons_of_mem _ hb))
theorem DKs.refs : ∀ {kvs : List (Key × V)} {c : DC}, DKs K F H kvs c → ∀ v ∈ kvs.map (·.2), ∃ b xs, v = .ref b ∧ H b = some (.lst xs)
  | _, _, .nil, _, h => nomatch h
  | _, _, .cons _ h _ t, v, hv => by
    rcases List.mem_cons.mp hv with rfl | hv
    · exact ⟨_, _, rfl, h⟩
    · exact DKs.refs t v hv
theorem DKs.snoc {k : Key} {b : Addr} {xs : List V} {y : Y} {ds : List Y} (e : keyOf y = some k) (h : H b = some (.lst xs)) (r : Rps K F xs ds) : ∀ {kvs : List (Key × V)} {c : DC}, DKs K F H kvs c → DKs K F H (kvs ++ [(k, .ref b)]) (c ++ [(y, ds)])
  | _, _, .nil => .cons e h r .nil
  | _, _, .cons e1 h1 r1 t => .cons e1 h1 r1 (DKs.snoc e h r t)
theorem DKs.found {y : Y} {k : Key} (hk : keyOf y = some k) : ∀ {kvs : List (Key × V)} {c : DC}, DKs K F H kvs c → (kvs.map (·.2)).Nodup →
    (∃ b xs, valV kvs k = some (.ref b) ∧ V.ref b ∈ kvs.map (·.2) ∧ H b = some (.lst xs) ∧ xs.length = (lkY c y).length ∧ hasY c y = true ∧ ∀ w d, Rp K F w d → DKs K F (upd H b (.lst (xs ++ [w]))) kvs (adY c y d)) ∨ (valV kvs k = none ∧ hasY c y = false)
  | _, _, .nil, _ => .inr ⟨rfl, rfl⟩
  | _, _, .cons (k := k1) (b := b1) (xs := xs1) (c := c1) (ds := ds1) (kvs := kvs) (dd := dd) e h r t, nd => by
    rw [List.map_cons, List.nodup_cons] at nd
    by_cases q : k1 = k
    · subst q
      have eq : keyOf c1 = keyOf y := e.trans hk.symm
      refine .inl ⟨b1, xs1, valV_pos rfl, List.mem_cons_self .., h, ?_, ?_, fun w d rw' => ?_⟩
      · unfold lkY
        rw [if_pos eq, r.length]
      · unfold hasY
        rw [List.any_cons, decide_eq_true eq]
        rfl
      · unfold adY
        rw [if_pos eq]
        refine .cons e upd_same (r.append (.cons rw' .nil)) (t.same fun b hb => upd_ne fun z => nd.1 (by subst z; exact hb))
    · have ne : ¬ keyOf c1 = keyOf y := fun z => by rw [e, hk] at z; exact q (Option.some.inj z)
      rcases DKs.found hk t nd.2 with ⟨b, xs, g1, g2, g3, g4, g5, g6⟩ | ⟨g1, g2⟩
      · refine .inl ⟨b, xs, by rw [valV_neg q]; exact g1, List.mem_cons_of_mem _ g2, g3, ?_, ?_, fun w d rw' => ?_⟩
        · unfold lkY
          rw [if_neg ne]; exact g4
        · unfold hasY
          rw [List.any_cons, decide_eq_false ne, Bool.false_or]
          exact g5
        · unfold adY
          rw [if_neg ne]
          exact .cons e (by rw [upd_ne fun z => nd.1 (by subst z; exact g2)]; exact h) r (g6 w d rw')
      · refine .inr ⟨by rw [valV_neg q]; exact g1, ?_⟩
        unfold hasY
        rw [List.any_cons, decide_eq_false ne, Bool.false_or]
        exact g2
end
/-- the dict at p, and its lists, lie in H1 beside what is there from the start -/
structure DRel (K : PySem.W.Frag) (H0 F0 F H1 : Hp) (p : Addr) (c : DC) : Prop where
  sm : Same H0 H1
  h0 : H0 p = none
  f0 : F0 p = none
  ex : ∃ kvs, H1 p = some (.dK kvs) ∧ DKs K F H1 kvs c ∧ (kvs.map (·.2)).Nodup ∧ (∀ b, V.ref b ∈ kvs.map (·.2) → H0 b = none ∧ F0 b = none) ∧ ∀ a o, H1 a = some o → (∃ o', H0 a = some o') ∨ a = p ∨ V.ref a ∈ kvs.map (·.2)
section
variable {K : PySem.W.Frag} {H0 F0 F F' H1 : Hp} {p : Addr} {c : DC}
theorem DRel.mono (s : Same F F') (R : DRel K H0 F0 F H1 p c) : DRel K H0 F0 F' H1 p c := by
  obtain ⟨kvs, g1, g2, g3⟩ := R.ex
  exact ⟨R.sm, R.h0, R.f0, kvs, g1, g2.mono s, g3⟩
theorem DRel.begin (h0 : H0 p = none) (f0 : F0 p = none) : DRel K H0 F0 F (upd H0 p (.dK [])) p [] := by
  refine ⟨Same.laid (Same.refl _) h0, h0, f0, [], upd_same, .nil, List.nodup_nil, fun b hb => (nomatch hb), fun a o e => ?_⟩
  by_cases ha : a = p
  · exact .inr (.inl ha)
  · rw [upd_ne ha] at e; exact .inl ⟨_, e⟩
theorem DRel.find (R : DRel K H0 F0 F H1 p c) {y : Y} {k : Key} (hk : keyOf y = some k) : ∃ kvs, H1 p = some (.dK kvs) ∧ kvs.length = c.length ∧
    ((∃ b xs, valV kvs k = some (.ref b) ∧ H1 b = some (.lst xs) ∧ F0 b = none ∧ xs.length = (lkY c y).length ∧ hasY c y = true ∧ ∀ w d F', Same F F' → Rp K F' w d → DRel K H0 F0 F' (upd H1 b (.lst (xs ++ [w]))) p (adY c y d)) ∨
      (valV kvs k = none ∧ hasY c y = false ∧ ∀ l, H1 l = none → F0 l = none → DRel K H0 F0 F (upd (upd H1 l (.lst [])) p (.dK (putK kvs k (.ref l)))) p (c ++ [(y, [])]))) := by
  obtain ⟨kvs, g1, g2, g3, g4, g5⟩ := R.ex
  refine ⟨kvs, g1, g2.length, ?_⟩
  rcases g2.found hk g3 with ⟨b, xs, q1, q2, q3, q4, q5, q6⟩ | ⟨q1, q2⟩
  · refine .inl ⟨b, xs, q1, q3, (g4 b q2).2, q4, q5, fun w d F' s rw' => ?_⟩
    have pb : p ≠ b := fun z => by subst z; rw [g1] at q3; cases q3
    obtain ⟨_, _, r1, r2, r3, r4, r5, r6⟩ | ⟨r1, _⟩ := (g2.mono s).found hk g3
    · rw [q1] at r1
      cases r1
      rw [q3] at r3
      cases r3
      refine ⟨fun a o e => ?_, R.h0, R.f0, kvs, by rw [upd_ne pb]; exact g1, r6 w d rw', g3, g4, fun a o e => ?_⟩
      · rw [upd_ne fun z => by subst z; rw [(g4 _ q2).1] at e; cases e]
        exact R.sm a o e
      · by_cases ha : a = b
        · subst ha; exact .inr (.inr q2)
        · rw [upd_ne ha] at e; exact g5 a o e
    · rw [q1] at r1; cases r1
  · refine .inr ⟨q1, q2, fun l hl fl => ?_⟩
    have lp : l ≠ p := fun z => by subst z; rw [g1] at hl; cases hl
    have fresh : V.ref l ∉ kvs.map (·.2) := fun z => by
      obtain ⟨b, xs, e, h⟩ := g2.refs _ z
      cases e
      rw [hl] at h; cases h
    have hl0 : H0 l = none := Same.free R.sm hl
    rw [putK_new _ q1]
    have nb : ∀ b, V.ref b ∈ kvs.map (·.2) → b ≠ p ∧ b ≠ l := fun b hb => by
      refine ⟨fun z => ?_, fun z => ?_⟩
      · subst z
        obtain ⟨b', xs, e, h⟩ := g2.refs _ hb
        cases e
        rw [g1] at h; cases h
      · subst z; exact fresh hb
    have look : ∀ b, b ≠ p → b ≠ l → (upd (upd H1 l (.lst [])) p (.dK (kvs ++ [(k, .ref l)]))) b = H1 b := fun b h1 h2 => by rw [upd_ne h1, upd_ne h2]
    refine ⟨fun a o e => ?_, R.h0, R.f0, kvs ++ [(k, .ref l)], upd_same, ?_, ?_, fun b hb => ?_, fun a o e => ?_⟩
    · rw [look a (fun z => by subst z; rw [R.h0] at e; cases e) (fun z => by subst z; rw [hl0] at e; cases e)]
      exact R.sm a o e
    · exact DKs.snoc hk (by rw [upd_ne lp]; exact upd_same) .nil (g2.same fun b hb => look b (nb b hb).1 (nb b hb).2)
    · rw [List.map_append, List.nodup_append]
      refine ⟨g3, by simp, fun a ha b hb z => ?_⟩
      rw [List.map_cons, List.map_nil, List.mem_singleton] at hb
      subst z
      rw [hb] at ha
      exact fresh ha
    · rw [List.map_append, List.mem_append] at hb
      rcases hb with hb | hb
      · exact g4 b hb
      · rw [List.map_cons, List.map_nil, List.mem_singleton] at hb
        cases hb
        exact ⟨hl0, fl⟩
    · rw [List.map_append, List.mem_append]
      by_cases ha : a = p
      · exact .inr (.inl ha)
      · by_cases hal : a = l
        · subst hal; exact .inr (.inr (.inr (by simp)))
        · rw [look a ha hal] at e
          rcases g5 a o e with q | q | q
          · exact .inl q
          · exact .inr (.inl q)
          · exact .inr (.inr (.inl q))
end
def isO (p : Nat) (s : Option Sl) : Bool := match s with
  | some (some (.val, .dict [(.none, .int b)])) => decide (b = (p : Int))
  | _ => false
theorem isO_eq {p : Nat} {s : Option Sl} (h : isO p s = true) : s = some (some (.val, opqY p)) := by
  unfold isO at h
  split at h
  · rw [of_decide_eq_true h]; rfl
  · cases h
section
variable {X : Cx} {Ft : Hp} {e1 e2 : Expr} {f g : XF} {x : Str} {pos px lp ap1 cp1 ap2 cp2 : Pos} {p : Addr}
theorem pe_anyX {e : Expr} {f : XF} (h : ∀ H0 F0, Same Ft F0 → PV X H0 F0 e f) : PE X e (teX X.K Ft f) := fun pins s σV H Q I ⟨H0, F0, σ, r, hF, e1, t⟩ => h H0 F0 hF σ r e1 pins s σV H Q I t
end
section
variable {X : Cx} {Ft : Hp} {tg iter : Expr} {ss : List Stmt} {it : IF} {g : GFn} {b : SFD} {is : List Nat} {pos : Pos} {p : Addr}
theorem pi_any (h : ∀ H0 F0, Same Ft F0 → PVI X H0 F0 tg iter it) : PI X tg iter (tiX X.K Ft it) := fun pins s σV H R I ⟨H0, F0, σ, ds, σ', hF, e1, t⟩ => h H0 F0 hF σ ds σ' e1 pins s σV H R I t
end
section
variable {K : PySem.W.Frag} {H0 F0 F H H1 : Hp} {σ : Ev} {σV : St} {p : Addr} {c : DC}
theorem EnvR.stay (E : EnvR K H1 F0 F H σ σV) {a : Addr} {o : HO} (h : H1 a = some o) (i : Nat) (s : Sl) (hs : σ[i]? = some s) (hm : Mine s = true) : σV[i]? ≠ some (some (.ref a)) := fun z => by
  obtain ⟨v, g1, g2⟩ := E.sl i s hs
  rw [z] at g1
  cases g1
  rcases s with _ | ⟨b, d⟩
  · cases hm
  · cases b with
    | val => cases hm
    | loc =>
      obtain ⟨x, e1, a', e2, ⟨f1, _⟩, _⟩ := g2
      cases e1
      cases e2
      rw [h] at f1; cases f1
    | own =>
      obtain ⟨x, e1, a', e2, _, f1, _⟩ := g2
      cases e1
      cases e2
      rw [h] at f1; cases f1
end
end L2.Fs
set_option Elab.async false
set_option linter.all false
set_option maxRecDepth 100000
namespace L2.Fs
open PySem PySem.Spec PyProof.Rows
end L2.Fs
set_option Elab.async false
set_option linter.all false
set_option maxRecDepth 100000
namespace L2.Fs
open PySem PySem.Spec PyProof.Rows
def evD {α : Type} : List α → List α
  | [] => []
  | [x] => [x]
  | x :: _ :: r => x :: evD r
theorem Rps.ev {K : PySem.W.Frag} {F : Hp} : ∀ {v : List V} {d : List Y}, Rps K F v d → Rps K F (evD v) (evD d)
  | _, _, .nil => .nil
  | _, _, .cons h .nil => .cons h .nil
  | _, _, .cons h (.cons _ r) => .cons h (Rps.ev r)
end L2.Fs
set_option Elab.async false
set_option linter.all false
set_option maxRecDepth 100000
namespace L2.Fs
open PySem PySem.Spec PyProof.Rows
theorem intsD_some' {ds : List Y} {ns : List Int} (h : intsD ds = some ns) : ds = ns.map PyData.int := by
  induction ds generalizing ns with
  | nil => cases h; rfl
  | cons d ds ih =>
    cases d <;> simp only [intsD] at h <;> try cases h
    rename_i i
    cases hb : intsD ds with
    | none => rw [hb] at h; cases h
    | some bs =>
      rw [hb] at h
      cases h
      rw [ih hb]; rfl
theorem EnvR.wipe {K : PySem.W.Frag} {H0 F0 F H : Hp} {σ : Ev} {σV : St} (E : EnvR K H0 F0 F H σ σV) : ∀ ws : List Nat, EnvR K H0 F0 F H (wipeE σ ws) σV
  | [] => E
  | w :: ws => (E.wipe ws).setNone w
end L2.Fs
set_option Elab.async false
set_option linter.all false
set_option maxRecDepth 100000
namespace L2.Fs
open PySem PySem.Spec PyProof.Rows
end L2.Fs
set_option Elab.async false
set_option linter.all false
set_option maxRecDepth 100000
namespace L2.Fs
open PySem PySem.Spec PyProof.Rows
end L2.Fs
set_option Elab.async false
set_option linter.all false
set_option maxRecDepth 100000
namespace L2.Fs
open PySem PySem.Spec PyProof.Rows
end L2.Fs
set_option Elab.async false
set_option linter.all false
set_option maxRecDepth 100000
namespace L2.Fs
open PySem PySem.Spec PyProof.Rows
end L2.Fs
set_option Elab.async false
set_option linter.all false
set_option maxRecDepth 100000
namespace L2.Fs
open PySem PySem.Spec PyProof.Rows
section
variable {X : Cx}
theorem boot_len : bootBuiltins "len" = some (.builtin "len") := by decide +kernel
end
end L2.Fs
set_option Elab.async false
set_option linter.all false
set_option maxRecDepth 100000
namespace L2.Fs
open PySem PySem.Spec PyProof.Rows
end L2.Fs
set_option Elab.async false
set_option linter.all false
set_option maxRecDepth 100000
namespace L2.Fs
open PySem PySem.Spec PyProof.Rows
end L2.Fs
set_option Elab.async false
set_option linter.all false
set_option maxRecDepth 100000
namespace L2.Fs
open PySem PySem.Spec PyProof.Rows
/-- what a zip of two sequences has still to give -/
def Gives2 (xs ys : Array Value) (k : Nat) (rest : List (Int × Value)) : Prop :=
  (∀ j q, rest[j]? = some q → (∃ t, xs[k + j]? = some (.int q.1 t)) ∧ ys[k + j]? = some q.2) ∧ (xs[k + rest.length]? = none ∨ ys[k + rest.length]? = none)
theorem Gives2.tail {xs ys : Array Value} {k : Nat} {q : Int × Value} {r : List (Int × Value)} (h : Gives2 xs ys k (q :: r)) : Gives2 xs ys (k + 1) r := by
  obtain ⟨h1, h2⟩ := h
  refine ⟨fun j p e => ?_, ?_⟩
  · have := h1 (j + 1) p (by simpa using e)
    rwa [show k + (j + 1) = k + 1 + j by omega] at this
  · rwa [List.length_cons, show k + (r.length + 1) = k + 1 + r.length by omega] at h2
structure Apart2 (S z TI TO i1 i2 : Addr) : Prop where
  Sz : S ≠ z
  STI : S ≠ TI
  STO : S ≠ TO
  Si1 : S ≠ i1
  Si2 : S ≠ i2
end L2.Fs
set_option Elab.async false
set_option linter.all false
set_option maxRecDepth 100000
namespace L2.Fs
open PySem PySem.Spec PyProof.Rows
end L2.Fs
set_option Elab.async false
set_option linter.all false
set_option maxRecDepth 100000
namespace L2.Fs
open PySem PySem.Spec PyProof.Rows
end L2.Fs
set_option Elab.async false
set_option linter.all false
set_option maxRecDepth 100000
namespace L2.Fs
open PySem PySem.Spec PyProof.Rows
end L2.Fs
set_option Elab.async false
set_option linter.all false
set_option maxRecDepth 100000
namespace PySem.F
end PySem.F
namespace L2.Fs
open PySem PySem.Spec PyProof.Rows
/-- the tuple at a, from its end -/
def Itr (K : PySem.W.Frag) (a : Addr) (n : Nat) : It :=
  ⟨fun i H => i < n ∧ ∃ (xs : List V) (x : V), SqT K H a xs ∧ xs.length = n ∧ xs[n - 1 - i]? = some x, fun i H x H' => H' = H ∧ ∀ xs, SqT K H a xs → xs[n - 1 - i]? = some x, fun i _ => n ≤ i⟩
end L2.Fs
set_option Elab.async false
set_option linter.all false
set_option maxRecDepth 100000
namespace L2.Fs
open PySem PySem.Spec PyProof.Rows
/-- the list at a key becomes another -/
def seY : DC → Y → List Y → DC
  | [], _, _ => []
  | (k, ds) :: r, y, es => if keyOf k = keyOf y then (k, es) :: r else (k, ds) :: seY r y es
section
variable {K : PySem.W.Frag} {F F' H H' : Hp}
theorem DKs.look {y : Y} {k : Key} (hk : keyOf y = some k) : ∀ {kvs : List (Key × V)} {c : DC}, DKs K F H kvs c → (kvs.map (·.2)).Nodup →
    (∃ b xs, valV kvs k = some (.ref b) ∧ V.ref b ∈ kvs.map (·.2) ∧ H b = some (.lst xs) ∧ Rps K F xs (lkY c y) ∧ hasY c y = true ∧ ∀ ys es, Rps K F ys es → DKs K F (upd H b (.lst ys)) kvs (seY c y es)) ∨ (valV kvs k = none ∧ hasY c y = false)
  | _, _, .nil, _ => .inr ⟨rfl, rfl⟩
  | _, _, .cons (k := k1) (b := b1) (xs := xs1) (c := c1) (ds := ds1) (kvs := kvs) (dd := dd) e h r t, nd => by
    rw [List.map_cons, List.nodup_cons] at nd
    by_cases q : k1 = k
    · subst q
      have eq : keyOf c1 = keyOf y := e.trans hk.symm
      refine .inl ⟨b1, xs1, valV_pos rfl, List.mem_cons_self .., h, ?_, ?_, fun ys es rw' => ?_⟩
      · unfold lkY
        rw [if_pos eq]; exact r
      · unfold hasY
        rw [List.any_cons, decide_eq_true eq]
        rfl
      · unfold seY
        rw [if_pos eq]
        exact .cons e upd_same rw' (t.same fun b hb => upd_ne fun z => nd.1 (by subst z; exact hb))
    · have ne : ¬ keyOf c1 = keyOf y := fun z => by rw [e, hk] at z; exact q (Option.some.inj z)
      rcases DKs.look hk t nd.2 with ⟨b, xs, g1, g2, g3, g4, g5, g6⟩ | ⟨g1, g2⟩
      · refine .inl ⟨b, xs, by rw [valV_neg q]; exact g1, List.mem_cons_of_mem _ g2, g3, ?_, ?_, fun ys es rw' => ?_⟩
        · unfold lkY
          rw [if_neg ne]; exact g4
        · unfold hasY
          rw [List.any_cons, decide_eq_false ne, Bool.false_or]
          exact g5
        · unfold seY
          rw [if_neg ne]
          exact .cons e (by rw [upd_ne fun z => nd.1 (by subst z; exact g2)]; exact h) r (g6 ys es rw')
      · refine .inr ⟨by rw [valV_neg q]; exact g1, ?_⟩
        unfold hasY
        rw [List.any_cons, decide_eq_false ne, Bool.false_or]
        exact g2
end
section
variable {K : PySem.W.Frag} {H0 F0 F F' H1 H : Hp} {p : Addr} {c : DC} {σ : Ev} {σV : St}
theorem DRel.look (R : DRel K H0 F0 F H1 p c) {y : Y} {k : Key} (hk : keyOf y = some k) : ∃ kvs, H1 p = some (.dK kvs) ∧ kvs.length = c.length ∧
    ((∃ b xs, valV kvs k = some (.ref b) ∧ H1 b = some (.lst xs) ∧ F0 b = none ∧ Rps K F xs (lkY c y) ∧ hasY c y = true ∧ ∀ ys es, Rps K F ys es → DRel K H0 F0 F (upd H1 b (.lst ys)) p (seY c y es)) ∨
      (valV kvs k = none ∧ hasY c y = false ∧ ∀ l ys es, H1 l = none → F0 l = none → Rps K F ys es → DRel K H0 F0 F (upd (upd H1 l (.lst ys)) p (.dK (putK kvs k (.ref l)))) p (c ++ [(y, es)]))) := by
  obtain ⟨kvs, g1, g2, g3, g4, g5⟩ := R.ex
  refine ⟨kvs, g1, g2.length, ?_⟩
  rcases g2.look hk g3 with ⟨b, xs, q1, q2, q3, q4, q5, q6⟩ | ⟨q1, q2⟩
  · refine .inl ⟨b, xs, q1, q3, (g4 b q2).2, q4, q5, fun ys es rw' => ?_⟩
    have pb : p ≠ b := fun z => by subst z; rw [g1] at q3; cases q3
    refine ⟨fun a o e => ?_, R.h0, R.f0, kvs, by rw [upd_ne pb]; exact g1, q6 ys es rw', g3, g4, fun a o e => ?_⟩
    · rw [upd_ne fun z => by subst z; rw [(g4 _ q2).1] at e; cases e]
      exact R.sm a o e
    · by_cases ha : a = b
      · subst ha; exact .inr (.inr q2)
      · rw [upd_ne ha] at e; exact g5 a o e
  · refine .inr ⟨q1, q2, fun l ys es hl fl rw' => ?_⟩
    have lp : l ≠ p := fun z => by subst z; rw [g1] at hl; cases hl
    have fresh : V.ref l ∉ kvs.map (·.2) := fun z => by
      obtain ⟨b, xs, e, h⟩ := g2.refs _ z
      cases e
      rw [hl] at h; cases h
    have hl0 : H0 l = none := Same.free R.sm hl
    rw [putK_new _ q1]
    have nb : ∀ b, V.ref b ∈ kvs.map (·.2) → b ≠ p ∧ b ≠ l := fun b hb => by
      refine ⟨fun z => ?_, fun z => by subst z; exact fresh hb⟩
      subst z
      obtain ⟨b', xs, e, h⟩ := g2.refs _ hb
      cases e
      rw [g1] at h; cases h
    have away : ∀ b, b ≠ p → b ≠ l → (upd (upd H1 l (.lst ys)) p (.dK (kvs ++ [(k, .ref l)]))) b = H1 b := fun b h1 h2 => by rw [upd_ne h1, upd_ne h2]
    refine ⟨fun a o e => ?_, R.h0, R.f0, kvs ++ [(k, .ref l)], upd_same, ?_, ?_, fun b hb => ?_, fun a o e => ?_⟩
    · rw [away a (fun z => by subst z; rw [R.h0] at e; cases e) (fun z => by subst z; rw [hl0] at e; cases e)]
      exact R.sm a o e
    · exact DKs.snoc hk (by rw [upd_ne lp]; exact upd_same) rw' (g2.same fun b hb => away b (nb b hb).1 (nb b hb).2)
    · rw [List.map_append, List.nodup_append]
      refine ⟨g3, by simp, fun a ha b hb z => ?_⟩
      rw [List.map_cons, List.map_nil, List.mem_singleton] at hb
      subst z
      rw [hb] at ha
      exact fresh ha
    · rw [List.map_append, List.mem_append] at hb
      rcases hb with hb | hb
      · exact g4 b hb
      · rw [List.map_cons, List.map_nil, List.mem_singleton] at hb
        cases hb
        exact ⟨hl0, fl⟩
    · rw [List.map_append, List.mem_append]
      by_cases ha : a = p
      · exact .inr (.inl ha)
      · by_cases hal : a = l
        · subst hal; exact .inr (.inr (.inr (by simp)))
        · rw [away a ha hal] at e
          rcases g5 a o e with q | q | q
          · exact .inl q
          · exact .inr (.inl q)
          · exact .inr (.inr (.inl q))
/-- a fresh object is set aside -/
theorem EnvR.take (E : EnvR K H0 F0 F H σ σV) {a : Addr} {o : HO} (hH : H a = some o) (hF : F a = none) (h0 : H0 a = none) (no : ∀ (i : Nat) (s : Sl), σ[i]? = some s → Mine s = true → σV[i]? ≠ some (some (.ref a))) : EnvR K (upd H0 a o) F0 F H σ σV where
  fh := E.fh
  f0 := E.f0
  h0 := fun b u e => by
    by_cases hb : b = a
    · subst hb; rw [upd_same] at e; cases e; exact hH
    · rw [upd_ne hb] at e; exact E.h0 b u e
  nw := fun b u e => by
    rcases E.nw b u e with q | q
    · exact .inl q
    · exact .inr (by rw [upd_ne (fun z => by subst z; rw [hF] at e; cases e)]; exact q)
  len := E.len
  sl := fun j s e => by
    obtain ⟨v, g1, g2⟩ := E.sl j s e
    refine ⟨v, g1, ?_⟩
    rcases s with _ | ⟨b, d'⟩
    · trivial
    · have ne : Mine (some (b, d')) = true → v ≠ some (.ref a) := fun hm z => no j _ e hm (by rw [g1, z])
      cases b with
      | val => exact g2
      | loc =>
        obtain ⟨x, e1, c, rfl, ⟨f1, f2⟩, f3⟩ := g2
        subst e1
        exact ⟨_, rfl, c, rfl, ⟨by rw [upd_ne fun z => ne rfl (by rw [z])]; exact f1, f2⟩, f3⟩
      | own =>
        obtain ⟨x, e1, c, rfl, f1, f2, f3⟩ := g2
        subst e1
        exact ⟨_, rfl, c, rfl, f1, by rw [upd_ne fun z => ne rfl (by rw [z])]; exact f2, f3⟩
  sep := E.sep
end
/-- the dict at p: all that is frozen stays -/
structure DR2 (K : PySem.W.Frag) (H0 F0 F1 H1 : Hp) (p : Addr) (c : DC) : Prop where
  s : Same F0 F1
  nw : ∀ a o, F1 a = some o → (∃ o', F0 a = some o') ∨ H0 a = none
  r : DRel K H0 F1 F1 H1 p c
section
variable {K : PySem.W.Frag} {H0 F0 F F' F1 F2 H1 H : Hp} {p : Addr} {c : DC} {σ : Ev} {σV : St}
theorem DRel.up (R : DRel K H0 F1 F H1 p c) (s : Same F F') (h : ∀ b o, H1 b = some o → F1 b = none → F2 b = none) : DRel K H0 F2 F' H1 p c := by
  obtain ⟨kvs, g1, g2, g3, g4, g5⟩ := R.ex
  refine ⟨R.sm, R.h0, h p _ g1 R.f0, kvs, g1, g2.mono s, g3, fun b hb => ?_, g5⟩
  obtain ⟨b', xs, e, hx⟩ := g2.refs _ hb
  cases e
  exact ⟨(g4 _ hb).1, h _ _ hx (g4 _ hb).2⟩
/-- all that is frozen by now stays from now on -/
theorem DR2.enter (R : DR2 K H0 F0 F1 H1 p c) (E : EnvR K H1 F1 F H σ σV) : DR2 K H0 F0 F H1 p c :=
  ⟨R.s.trans E.f0, fun a o e => by
    rcases E.nw a o e with ⟨o', q⟩ | q
    · exact R.nw a o' q
    · exact .inr (Same.free R.r.sm q), R.r.up E.f0 fun b o hb hf => E.noF hb hf⟩
end
section
variable {X : Cx} {Ft : Hp} {st : Stmt} {rest : List Stmt} {p : Addr}
theorem isO_y {d : Y} (h : isO p (some (some (.val, d))) = true) : d = opqY p := by
  have := isO_eq h
  cases this
  rfl
end
end L2.Fs
set_option Elab.async false
set_option linter.all false
set_option maxRecDepth 100000
namespace L2.Fs
open PySem PySem.Spec PyProof.Rows
end L2.Fs
set_option Elab.async false
set_option linter.all false
set_option maxRecDepth 100000
namespace L2.Fs
open PySem PySem.Spec PyProof.Rows
end L2.Fs
set_option Elab.async false
set_option linter.all false
set_option maxRecDepth 100000
namespace L2.Fs
open PySem PySem.Spec PyProof.Rows
end L2.Fs
set_option Elab.async false
set_option linter.all false
set_option maxRecDepth 100000
namespace L2.Fs
open PySem PySem.Spec PyProof.Rows
def lkH (a : Addr) (l : HO) (F : Hp) : Hp := fun b => if b = a then (F b).map (fun _ => l) else F b
theorem lkH_ne {a b : Addr} {l : HO} {F : Hp} (h : b ≠ a) : lkH a l F b = F b := by unfold lkH; rw [if_neg h]
theorem lkH_some {a : Addr} {l u : HO} {F : Hp} (h : F a = some u) : lkH a l F a = some l := by unfold lkH; rw [if_pos rfl, h]; rfl
/-- a thing that can be looked into -/
def IsR (o : HO) : Prop := (∃ xs, o = .lst xs) ∨ (∃ xs, o = .tup xs) ∨ ∃ kvs, o = .dK kvs
/-- what F tells of things F' tells as well, locked or not -/
structure Lks (F F' : Hp) : Prop where
  rd : ∀ t v, IsR v → Rd F t v → Rd F' t v
  ex : ∀ t C, F t = some (ExcO t C) → F' t = some (ExcO t C)
section
variable {K : PySem.W.Frag} {F F' : Hp}
theorem Lks.seq {a : Addr} {xs : List V} (e : Lks F F') (h : SqL K F a xs) : SqL K F' a xs := h.elim (fun h => .inl (e.rd _ _ (.inl ⟨_, rfl⟩) h)) .inr
theorem Lks.seqT {a : Addr} {xs : List V} (e : Lks F F') (h : SqT K F a xs) : SqT K F' a xs := h.elim (fun h => .inl (e.rd _ _ (.inr (.inl ⟨_, rfl⟩)) h)) .inr
end
theorem Same.lk {F H : Hp} {a : Addr} {l u : HO} (e : Same F H) (hF : F a = some u) : Same (lkH a l F) (lkH a l H) := fun b o q => by
  by_cases hb : b = a
  · subst hb
    rw [lkH_some hF] at q
    rw [lkH_some (e _ _ hF)]; exact q
  · rw [lkH_ne hb] at q
    rw [lkH_ne hb]; exact e _ _ q
end L2.Fs
set_option Elab.async false
set_option linter.all false
set_option maxRecDepth 100000
namespace L2.Fs
open PySem PySem.Spec PyProof.Rows
end L2.Fs
set_option Elab.async false
set_option linter.all false
set_option maxRecDepth 100000
namespace L2.Fs
open PySem PySem.Spec PyProof.Rows
end L2.Fs
set_option Elab.async false
set_option linter.all false
set_option maxRecDepth 100000
namespace L2.Fs
open PySem PySem.Spec PyProof.Rows
end L2.Fs
set_option Elab.async false
set_option linter.all false
set_option maxRecDepth 100000
namespace L2.Fs
open PySem PySem.Spec PyProof.Rows
open AutoSeq1 (wpAny_loadPart')
end L2.Fs
set_option Elab.async false
set_option linter.all false
set_option maxRecDepth 100000
namespace L2.Fs
open PySem PySem.Spec PyProof.Rows
end L2.Fs
set_option Elab.async false
set_option linter.all false
set_option maxRecDepth 100000
namespace L2.Fs
open PySem PySem.Spec PyProof.Rows
abbrev TC := List (List Int)
abbrev SFT := Ev → TC → O (Ev × TC)
def kI (ns : List Int) : List Key := ns.map Sum.inl
theorem kI_kV (ns : List Int) : (kI ns).map kV = ns.map V.int := by unfold kI; rw [List.map_map]; rfl
theorem kI_inj {a b : List Int} (h : kI a = kI b) : a = b := (List.map_inj_right fun x y e => Sum.inl.inj e).mp h
def tdO (P : Program) (w : World) (xs : List (List Key × Addr × Value)) (p : Addr) : HO := .ext fun h => ∃ o es ep, h.get? p = some o ∧ o.ExactDict ∧ o.data = .dict es ep ∧ es.toList = xs.map (entryOfKey (tupleKind (mixKind P w))) ∧ (xs.map (·.1)).Nodup
def rTIn (P : Program) (w : World) (K : PySem.W.Frag) : R2 := fun x y H Q => ∃ a b xs ks, y = .ref a ∧ x = .ref b ∧ (a == sysModules) = false ∧ H a = some (tdO P w xs a) ∧ SqT K H b (ks.map kV) ∧ (∀ x ∈ xs, SqT K H x.2.1 (x.1.map kV)) ∧ Q (.bl (atKey xs ks).isSome) H
def rTPut (P : Program) (w : World) (K : PySem.W.Frag) (x y : V) (H : Hp) (Q : Hp → Prop) : Prop := ∃ a b xs ks, x = .ref a ∧ y = .ref b ∧ (a == sysModules) = false ∧ H a = some (tdO P w xs a) ∧ SqT K H b (ks.map kV) ∧ (∀ x ∈ xs, SqT K H x.2.1 (x.1.map kV)) ∧
  xs.length < sizeLine ∧ (atKey xs ks).isSome = false ∧ ∀ r : Value, Q (upd H a (tdO P w (xs ++ [(ks, b, r)]) a))
section
variable {X : Cx} {pins : List (Addr × Obj)} {σ : St} {H : Hp} {s : Shared} {a b p : Addr} {xs : List (List Key × Addr × Value)} {ks : List Key}
theorem keyT (I : Inv X pins σ H s) (h : SqT X.K H b (ks.map kV)) : (tupleKind (mixKind X.prog X.w)).is s.heap ks b := by
  obtain ⟨its, rv, hq, _⟩ := Inv.sqx (b := true) I h
  obtain ⟨od, n, os, e⟩ := hq.isA
  exact ⟨_, its.toArray, n, e, rfl, rfl, by simpa using items_are rv⟩
theorem dictT (I : Inv X pins σ H s) (e : H a = some (tdO X.prog X.w xs a)) (hk : ∀ x ∈ xs, SqT X.K H x.2.1 (x.1.map kV)) : s.heap.DictOfH (tupleKind (mixKind X.prog X.w)) a xs := by
  obtain ⟨⟨o, es, ep, h1, h2, h3, h4, h5⟩, _⟩ := (show ObjOk X.prog X.w H s.heap a (tdO X.prog X.w xs a) from I.hok a _ e)
  exact ⟨o, es, ep, h1, h2, h3, h4, fun x hx => keyT I (hk x hx), h5⟩
theorem op_tIn (hu : X.A.units + 1 < cLine) : OpR X (compareOp .In) (rTIn X.prog X.w X.K) := by
  intro pins s σ H x y v u Q I rx ry h
  obtain ⟨a, b, xs, ks, rfl, rfl, hs, e, hb, hk, q⟩ := h
  obtain rfl : u = Value.ref a := ry
  obtain rfl : v = Value.ref b := rx
  exact wpAny_in_heap (tupleKind_room_in1 hu) (keyT I hb) hs (dictT I e hk) ⟨.bl _, H, I.tok _, rfl, q⟩
theorem tdO_ok {P : Program} {w : World} {H : Hp} {h : Heap} (d : h.DictOfH (tupleKind (mixKind P w)) p xs) : ObjOk P w H h p (tdO P w xs p) := by
  obtain ⟨o, es, ep, h1, h2, h3, h4, _, h5⟩ := d
  exact ⟨⟨o, es, ep, h1, h2, h3, h4, h5⟩, ⟨o, h1⟩, fun g1 g2 ⟨o, es, ep, k1, k2⟩ hg => ⟨o, es, ep, hg _ k1, k2⟩⟩
theorem t_setItem {v u r : Value} {A : Around} {E : Value → Shared → Prop} {Q : Unit → Shared → Prop} {x y : V} {QH : Hp → Prop} (hu : A.units + 1 < cLine) (I : Inv X pins σ H s) (g : rTPut X.prog X.w X.K x y H QH) (rx : RelV x v) (ry : RelV y u)
    (h : ∀ s' H', Inv X pins σ H' s' → QH H' → Q () s') : wpAny (model X.prog X.w) A (setItem v u r) Q E s := by
  obtain ⟨a, b, xs, ks, rfl, rfl, hs, e, hb, hk, hl, hn, q⟩ := g
  obtain rfl : v = Value.ref a := rx
  obtain rfl : u = Value.ref b := ry
  refine wpAny_setItem_heap (hsz := by omega) (tupleKind_room_in1 hu) (keyT I hb) (dictT I e hk) fun h' dd' hsb => ?_
  unfold storedH at dd'
  rw [hn] at dd'
  simp only [Bool.false_eq_true, if_false] at dd'
  refine h _ _ ?_ (q r)
  exact d_write I (by rw [e]; exact True.intro) hsb (let ⟨q, _, _, hq, _⟩ := dd'; ⟨q, hq⟩) (tdO_ok dd')
end
def sTPut (P : Program) (w : World) (K : PySem.W.Frag) (td ty tv : TE) : TS := fun D σ H => tv σ H fun v H1 => td σ H1 fun x H2 => ty σ H2 fun y H3 => rTPut P w K x y H3 fun H4 => D.nx σ H4
theorem ps_tput {X : Cx} {o i value : Expr} {td ty tv : TE} {pos pos' : Pos} (hu : X.A.units + 1 < cLine) (ho : PE X o td) (hi : PE X i ty) (hv : PE X value tv) (hs : swapsWith value (some (.Subscript o i pos')) pos.line X.env = pure false) :
    PS X (.Assign [.Subscript o i pos'] value pos) (sTPut X.prog X.w X.K td ty tv) := by
  intro pins s σ H D I h
  refine wpAny_Assign_Subscript (thn (hv pins s σ H _ I h) fun r s1 ⟨v, H1, I1, rv, q1⟩ => thn (ho pins s1 σ H1 _ I1 q1) fun u s2 ⟨x, H2, I2, rx, q2⟩ => thn (hi pins s2 σ H2 _ I2 q2) fun iv s3 ⟨y, H3, I3, ry, q3⟩ => ?_) hs
  exact t_setItem hu I3 q3 rx ry fun s4 H4 I4 q4 => ⟨σ, H4, I4, q4⟩
structure TRel (P : Program) (w : World) (K : PySem.W.Frag) (H0 F0 F H1 : Hp) (p : Addr) (c : TC) : Prop where
  sm : Same H0 H1
  h0 : H0 p = none
  f0 : F0 p = none
  sys : (p == sysModules) = false
  ex : ∃ xs, H1 p = some (tdO P w xs p) ∧ (∀ x ∈ xs, SqT K F x.2.1 (x.1.map kV)) ∧ xs.map (·.1) = c.map kI
structure TR2 (P : Program) (w : World) (K : PySem.W.Frag) (H0 F0 F1 H1 : Hp) (p : Addr) (c : TC) : Prop where
  s : Same F0 F1
  nw : ∀ a o, F1 a = some o → (∃ o', F0 a = some o') ∨ H0 a = none
  r : TRel P w K H0 F1 F1 H1 p c
section
variable {P : Program} {w : World} {K : PySem.W.Frag} {H0 F0 F F' F1 F2 H1 H : Hp} {p : Addr} {c : TC} {σ : Ev} {σV : St}
theorem TRel.up (R : TRel P w K H0 F1 F H1 p c) (s : Same F F') (h : F1 p = none → F2 p = none) : TRel P w K H0 F2 F' H1 p c := by
  obtain ⟨xs, g1, g2, g3⟩ := R.ex
  exact ⟨R.sm, R.h0, h R.f0, R.sys, xs, g1, fun x hx => Same.seqT s (g2 x hx), g3⟩
theorem TR2.enter (R : TR2 P w K H0 F0 F1 H1 p c) (E : EnvR K H1 F1 F H σ σV) : TR2 P w K H0 F0 F H1 p c :=
  ⟨R.s.trans E.f0, fun a o e => by
    rcases E.nw a o e with ⟨o', q⟩ | q
    · exact R.nw a o' q
    · exact .inr (Same.free R.r.sm q), R.r.up E.f0 fun hf => by
      obtain ⟨xs, g1, _⟩ := R.r.ex
      exact E.noF g1 hf⟩
def tST (P : Program) (w : World) (K : PySem.W.Frag) (H0 F0 : Hp) (p : Addr) (σ : Ev) (c : TC) (q : Ev × TC) : TS := fun D σV H => ∃ F F1 H1, EnvR K H1 F1 F H σ σV ∧ TR2 P w K H0 F0 F1 H1 p c ∧
  ∀ F' F1' H1' H' σV', EnvR K H1' F1' F' H' q.1 σV' → TR2 P w K H0 F0 F1' H1' p q.2 → D.nx σV' H'
end
def PVST (X : Cx) (Ft : Hp) (p : Addr) (st : Stmt) (f : SFT) : Prop := ∀ H0 F0, Same Ft F0 → ∀ σ c q, f σ c = .ok q → PS X st (tST X.prog X.w X.K H0 F0 p σ c q)
def PVBT (X : Cx) (Ft : Hp) (p : Addr) (st : List Stmt) (f : SFT) : Prop := ∀ H0 F0, Same Ft F0 → ∀ σ c q, f σ c = .ok q → PSs X st (tST X.prog X.w X.K H0 F0 p σ c q)
def tLift (f : SF) : SFT := fun σ c => (f σ).bind fun r => match r with
  | .nx σ' => .ok (σ', c)
  | _ => .bad
def tSeq (f g : SFT) : SFT := fun σ c => (f σ c).bind fun q => g q.1 q.2
/-- is e in d -/
def hTN (p : Addr) (c : TC) : F2 := fun y e => if isO p (some (some (.val, e))) = true then (match y with
  | .tuple ds => (match intsD ds with
    | some ns => .ok (.bool (decide (ns ∈ c)), false)
    | none => .bad)
  | _ => .bad) else .bad
/-- if ..: leave, which never comes -/
def tChk (t : TC → TF) : SFT := fun σ c => (t c σ).bind fun q => if q.1 = false then .ok (q.2, c) else .bad
/-- d[e] = .., e not in d -/
def tPut (p : Addr) (i : Nat) (f g : XF) : SFT := fun σ c => (g σ).bind fun q => if isO p q.σ[i]? = true then (f q.σ).bind fun r => (match r.d with
  | .tuple ds => (match intsD ds with
    | some ns => if ns ∉ c ∧ c.length < sizeLine then .ok (lvE r.σ, c ++ [ns]) else .bad
    | none => .bad)
  | _ => .bad) else .bad
section
variable {X : Cx} {Ft : Hp} {st : Stmt} {rest : List Stmt} {p : Addr}
theorem pvbt_one {f : SFT} (h : PVST X Ft p st f) : PVBT X Ft p [st] f := fun H0 F0 hF σ c q e => pss_one (h H0 F0 hF σ c q e)
theorem pvbt_cons {f g : SFT} (h1 : PVST X Ft p st f) (h2 : PVBT X Ft p rest g) : PVBT X Ft p (st :: rest) (tSeq f g) := by
  intro H0 F0 hF σ c q hq
  obtain ⟨q1, e1, e2⟩ := O.of_bind hq
  exact PSs.of (pss_cons (h1 H0 F0 hF σ c q1 e1) (h2 H0 F0 hF q1.1 q1.2 q e2)) fun D σV H ⟨F, F1, H1, E, R, k⟩ => ⟨F, F1, H1, E, R, fun F' F1' H1' H' σV' E' R' => ⟨F', F1', H1', E', R', k⟩⟩
theorem pvst_lift {f : SF} (h : ∀ H0 F0, Same Ft F0 → PVS X H0 F0 st f) : PVST X Ft p st (tLift f) := by
  intro H0 F0 hF σ c q hq
  obtain ⟨r, e1, hq⟩ := O.of_bind hq
  split at hq
  · cases hq
    intro pins s σV H D I ⟨F, F1, H1, E, R, k⟩
    exact h H1 F1 (hF.trans R.s) σ _ e1 pins s σV H D I ⟨F, E, fun F' H' σV' E' => k F' F1 H1 H' σV' E' R⟩
  · cases hq
theorem at_some {xs : List (List Key × Addr × Value)} {c : TC} {ns : List Int} (h : xs.map (·.1) = c.map kI) : (atKey xs (kI ns)).isSome = decide (ns ∈ c) := by
  unfold atKey
  rw [Option.isSome_map, Bool.eq_iff_iff, List.find?_isSome, decide_eq_true_eq]
  constructor
  · rintro ⟨x, hx, e⟩
    have h1 : x.1 ∈ xs.map (·.1) := List.mem_map.mpr ⟨x, hx, rfl⟩
    rw [h, of_decide_eq_true e] at h1
    obtain ⟨m, hm, e2⟩ := List.mem_map.mp h1
    rw [← kI_inj e2]
    exact hm
  · intro hm
    have h1 : kI ns ∈ c.map kI := List.mem_map.mpr ⟨ns, hm, rfl⟩
    rw [← h] at h1
    obtain ⟨x, hx, e2⟩ := List.mem_map.mp h1
    exact ⟨x, hx, decide_eq_true e2⟩
theorem opv_tN {H0 F1 H1 : Hp} {c : TC} (R : TRel X.prog X.w X.K H0 F1 F1 H1 p c) : OpV X H1 F1 (rTIn X.prog X.w X.K) (hTN p c) := by
  intro F H σ σV xv yv dx dy z Q hz E rx ry kk
  unfold hTN at hz
  split at hz
  · rename_i hk
    split at hz
    · rename_i ds
      split at hz
      · rename_i ns hns
        cases hz
        rw [isO_y hk] at ry
        cases rp_opq ry
        have := intsD_some' hns
        subst this
        cases rx with | tup h rs => ?_
        have := rps_ints_inv rs
        subst this
        obtain ⟨xs, g1, g2, g3⟩ := R.ex
        refine ⟨p, _, xs, kI ns, rfl, rfl, R.sys, E.h0 _ _ g1, by rw [kI_kV]; exact Same.seqT E.fh h, fun x hx => Same.seqT (E.f0.trans E.fh) (g2 x hx), ?_⟩
        rw [at_some g3]
        exact kk F H _ E (Same.refl _) (.bl _)
      · cases hz
    · cases hz
  · cases hz
theorem pvst_chk {test : Expr} {body : List Stmt} {t : TC → TF} {pi : Pos} (h : ∀ H0 F1 H1 c, Same Ft F1 → TRel X.prog X.w X.K H0 F1 F1 H1 p c → PVT X H1 F1 test (t c)) : PVST X Ft p (.If test body [] pi) (tChk t) := by
  intro H0 F0 hF σ c q hq pins s σV H D I ⟨F, F1, H1, E, R, kq⟩
  obtain ⟨⟨b, σt⟩, e1, hq⟩ := O.of_bind hq
  split at hq
  · rename_i ht
    have ht : b = false := ht
    subst ht
    cases hq
    exact ps_if (h H0 F1 H1 c (hF.trans R.s) R.r σ false σt e1) pss_never pss_nil pins s σV H D I ⟨F, E, fun F' H' E' s' => iteF (kq F' F1 H1 H' σV E' R)⟩
  · cases hq
end
section
variable {X : Cx} {Ft : Hp} {p : Addr} {k : Nat} {a e2 : Expr} {f g : XF} {x : Str} {pos pos' px : Pos}
theorem pvst_put (i : Nat) (hr : Room k X.A) (hf : ∀ H0 F0, Same Ft F0 → PV X H0 F0 a f) (hg : ∀ H0 F0, Same Ft F0 → PV X H0 F0 e2 g)
    (hN : X.N[i]? = some x := by rfl) (hv : Vis X.env.scope x := by first | exact Or.inl rfl | exact Or.inr (Or.inl rfl) | exact Or.inr (Or.inr rfl)) (hd : (x == ("__debug__" : Str)) = false := by decide) (hcd : (x == ("__classdict__" : Str)) = false := by decide)
    (hs : swapsWith e2 (some (.Subscript (.Name x px) a pos')) pos.line X.env = pure false := by rfl) :
    PVST X Ft p (.Assign [.Subscript (.Name x px) a pos'] e2 pos) (tPut p i f g) := by
  intro H0 F0 hF σ c q hq pins s σV H D I ⟨F, F1, H1, E, R, kq⟩
  obtain ⟨r, e3, hq⟩ := O.of_bind hq
  have hF1 := hF.trans R.s
  split at hq
  · rename_i ho
    obtain ⟨w, e4, hq⟩ := O.of_bind hq
    split at hq
    · rename_i ds hds
      split at hq
      · rename_i ns hns
        split at hq
        · rename_i hc
          cases hq
          refine ps_tput (by have := hr.units; omega) (pe_var hN hv hd hcd) (pe_anyX hf) (hg H1 F1 hF1 σ r e3) hs pins s σV H D I ⟨F, E, fun F3 H3 v E3 s3 rv => ?_⟩
          obtain ⟨F4, s4, E4, rv'⟩ := rv.frozen E3
          obtain ⟨v0, g1, v1, rfl, rv1⟩ := E4.sl i _ (isO_eq ho)
          cases rp_opq rv1
          refine ⟨.ref p, g1, H1, F1, r.σ, w, hF1, e4, F4, E4, fun F5 H5 yv E5 s5 p5 => ?_⟩
          obtain ⟨F6, s6, E6, ry⟩ := p5.frozen E5
          rw [hds] at ry
          have := intsD_some' hns
          subst this
          cases ry with | @tup b vs _ h rs => ?_
          have := rps_ints_inv rs
          subst this
          have R6 := R.enter E6
          obtain ⟨xs, q1, q2, q3⟩ := R.r.ex
          have hlen : xs.length = c.length := by have := congrArg List.length q3; simpa using this
          refine ⟨p, b, xs, kI ns, rfl, rfl, R.r.sys, E6.h0 _ _ q1, by rw [kI_kV]; exact Same.seqT E6.fh h, fun x hx => Same.seqT (E6.f0.trans E6.fh) (q2 x hx), by rw [hlen]; exact hc.2, by rw [at_some q3]; exact decide_eq_false hc.1, fun rr => ?_⟩
          refine kq F6 F6 _ _ σV ((E6.reroot _ q1 R.r.f0).enter) ⟨R6.s, R6.nw, ⟨fun a o e => ?_, R6.r.h0, R6.r.f0, R6.r.sys, _, upd_same, fun x hx => ?_, ?_⟩⟩
          · rw [upd_ne fun z => by subst z; rw [R6.r.h0] at e; cases e]
            exact R.r.sm a o e
          · rcases List.mem_append.mp hx with hx | hx
            · exact Same.seqT E6.f0 (q2 x hx)
            · rw [List.mem_singleton.mp hx]
              rw [kI_kV]
              exact h
          · rw [List.map_append, List.map_append, q3]
            rfl
        · cases hq
      · cases hq
    · cases hq
  · cases hq
end
theorem qt_tIn {X : Cx} {H0 F1 H1 : Hp} {p : Addr} {c : TC} {k : Nat} {a b : Expr} {f g : XF} {pos : Pos} (hr : Room k X.A) (R : TRel X.prog X.w X.K H0 F1 F1 H1 p c) (ha : PV X H1 F1 a f) (hb : PV X H1 F1 b g) (hm : behindInMarks .In b = false) :
    PVT X H1 F1 (.Compare a [.In] [b] pos) (tBool (x2 (hTN p c) f g)) := pvt_cmp (op_tIn (by have := hr.units; omega)) (opv_tN R) ha hb hm
def forT (tg : GFn) (b : SFT) : List Y → SFT
  | [], σ, c => .ok (σ, c)
  | d :: ds, σ, c => (tg d σ).bind fun σ1 => (b σ1 c).bind fun q => forT tg b ds q.1 q.2
def sForT (it : IF) (tg : GFn) (b : SFT) : SFT := fun σ c => (it σ).bind fun q => forT tg b q.1 (lvE q.2) c
def tbXT (P : Program) (w : World) (K : PySem.W.Frag) (Ft : Hp) (p : Addr) (b : SFT) : TS := fun D σV H => ∃ H0 F0 σ c q, Same Ft F0 ∧ b σ c = .ok q ∧ tST P w K H0 F0 p σ c q D σV H
section
variable {X : Cx} {Ft : Hp} {tg iter : Expr} {ss : List Stmt} {it : IF} {g : GFn} {b : SFT} {is : List Nat} {pos : Pos} {p : Addr}
theorem pvst_for (hc : X.calm = true) (hp : PassesOwn (model X.prog X.w) X.A X.env X.xe) (hi : ∀ H0 F0, Same Ft F0 → PVI X H0 F0 tg iter it) (hg : PVG X tg is g) (hb : PVBT X Ft p ss b) (hs : ∀ x, foldedSetIterable iter X.env x = pure x) :
    PVST X Ft p (.For tg iter ss [] pos) (sForT it g b) := by
  intro H0 F0 hF σ c q hq
  obtain ⟨⟨ds, σ1⟩, e1, hq⟩ := O.of_bind hq
  refine PS.of (ps_for (g := tgX X.K is g) (tb := tbXT X.prog X.w X.K Ft p b) hp hc (pi_any hi) (fun pins s' σV H' v u Q I r ⟨H0, F0, d, σ, σ', h, t⟩ => hg H0 F0 d σ σ' h pins s' σV H' v u Q I r t)
    (fun pins s σV H D I ⟨H0, F0, σ, c, q, hf, h, t⟩ => hb H0 F0 hf σ c q h pins s σV H D I t) hs) fun D σV H ⟨F, F1, H1, E, R, k⟩ => ⟨H1, F1, σ, ds, σ1, hF.trans R.s, e1, F, E, fun J F2 H2 E1 s1 itr => ?_⟩
  have base : ∀ {F3 H3 : Hp} {c' : TC}, TR2 X.prog X.w X.K H0 F2 F3 H3 p c' → TR2 X.prog X.w X.K H0 F0 F3 H3 p c' := fun {F3 H3 c'} R3 => ⟨(R.s.trans E1.f0).trans R3.s, fun a o e => by
    rcases R3.nw a o e with ⟨o', w⟩ | w
    · rcases E1.nw a o' w with ⟨o2, w2⟩ | w2
      · exact R.nw a o2 w2
      · exact .inr (Same.free R.r.sm w2)
    · exact .inr w, R3.r⟩
  have R2 : TR2 X.prog X.w X.K H0 F2 F2 H1 p c := ⟨Same.refl _, fun a o e => .inl ⟨o, e⟩, (R.enter E1).r⟩
  refine ⟨fun i m σV H => m = ds.length - i ∧ i ≤ ds.length ∧ ∃ F Fi H3 σi ci, EnvR X.K H3 Fi F H σi σV ∧ TR2 X.prog X.w X.K H0 F2 Fi H3 p ci ∧ forT g b (ds.drop i) σi ci = .ok q, ⟨ds.length, rfl, Nat.zero_le _, F2, F2, H1, lvE σ1, c, E1.enter, R2, hq⟩, ?_⟩
  rintro i m σV2 Hh ⟨rfl, hil, F3, Fi, H3, σi, ci, E2, R3, hfor⟩
  have it2 := itr.mono (R3.s.trans E2.f0)
  by_cases hlt : i < ds.length
  · have hd : ds[i]? = some ds[i] := List.getElem?_eq_getElem hlt
    rw [List.drop_eq_getElem_cons hlt] at hfor
    obtain ⟨σa, ea, hfor⟩ := O.of_bind hfor
    obtain ⟨rb, eb, hfor⟩ := O.of_bind hfor
    refine .inr ⟨it2.go i _ Hh hd E2.fh, fun σV H => i + 1 ≤ ds.length ∧ ∃ F Fi H3 σi ci, EnvR X.K H3 Fi F H σi σV ∧ TR2 X.prog X.w X.K H0 F2 Fi H3 p ci ∧ forT g b (ds.drop (i + 1)) σi ci = .ok q, fun σV' H' ⟨h1, w⟩ => ⟨ds.length - (i + 1), by omega, rfl, h1, w⟩, fun x H' hy => ?_⟩
    have start : ∃ F4, Same F3 F4 ∧ EnvR X.K H3 Fi F4 H' σi σV2 ∧ Rp X.K F4 x ds[i] := by
      rcases it2.yld i _ Hh x H' hd E2.fh hy with ⟨rfl, r⟩ | ⟨a, u, ha, rfl, r⟩
      · exact ⟨F3, Same.refl _, E2, r⟩
      · obtain ⟨E4, s4⟩ := E2.laidF u ha
        exact ⟨_, s4, E4, r⟩
    obtain ⟨F4, s4, E4, rx⟩ := start
    refine ⟨H3, Fi, ds[i], σi, σa, ea, F4, E4, rx, fun σV3 E5 _ => ⟨H0, F2, σa, ci, rb, (hF.trans R.s).trans E1.f0, eb, F4, Fi, H3, E5, R3, fun F' F1' H3' H' σV' E' R' => ⟨hlt, F', F1', H3', rb.1, rb.2, E', R', hfor⟩⟩⟩
  · have hi' : i = ds.length := by omega
    subst hi'
    rw [List.drop_length] at hfor
    cases hfor
    exact .inl ⟨it2.stop _ Hh E2.fh (Nat.le_refl _), k F3 Fi H3 Hh σV2 E2 (base R3)⟩
end
def runT (i : Nat) (f : Addr → SFT) (σ : Ev) (a : Nat) : O Fl := (f a (σ.set i (some (.val, opqY a))) []).bind fun q => .ok (.nx (q.1.set i none))
open Classical in
noncomputable def sDeepT (i : Nat) (f : Addr → SFT) : SF := fun σ => match σ[i]? with
  | some (some (.own, .dict [])) => if h : ∃ r, ∀ a, runT i f σ a = .ok r then .ok h.choose else .bad
  | _ => .bad
open Classical in
theorem sDeepT_eq {i : Nat} {f : Addr → SFT} {σ : Ev} {r : Fl} (hs : σ[i]? = some (some (.own, .dict []))) (h : ∀ a, runT i f σ a = .ok r) : sDeepT i f σ = .ok r := by
  unfold sDeepT
  rw [hs]
  have hx : ∃ r, ∀ a, runT i f σ a = .ok r := ⟨r, h⟩
  show (if h : ∃ r, ∀ a, runT i f σ a = .ok r then O.ok h.choose else .bad) = _
  rw [dif_pos hx]
  have e := hx.choose_spec 0
  rw [h 0] at e
  exact e.symm
theorem pvs_deepT {X : Cx} {Ft H0 F0 : Hp} {st : Stmt} {f : Addr → SFT} {i : Nat} (hF : Same Ft F0) (h : ∀ p, PVST X Ft p st (f p)) : PVS X H0 F0 st (sDeepT i f) := by
  intro σ r hr
  unfold sDeepT at hr
  split at hr
  · rename_i hs0
    split at hr
    · rename_i hx
      cases hr
      intro pins s σV H D I ⟨F, E, k⟩
      obtain ⟨v, g1, x, rfl, p, rfl, hFp, h0p, alt⟩ := E.sl i _ hs0
      have hH : H p = some (.dK []) := by
        rcases alt with ⟨xs, ds, z, _⟩ | ⟨kvs, ds, z, q, r⟩
        · cases z
        · cases z
          cases r
          exact q
      have hrun := hx.choose_spec p
      obtain ⟨q, e1, hrun⟩ := O.of_bind hrun
      have er := (O.ok.inj hrun).symm
      obtain ⟨_, hsys, vs, rel, dd⟩ := dk_of I.hok hH
      cases rel
      obtain ⟨o, es, ep, k1, k2, k3, _, k5, _⟩ := dd
      have k4 : es.toList = [] := by
        generalize es.toList = l at k5
        cases k5
        rfl
      have no : ∀ (x : List Key × Addr × Value), x ∈ ([] : List (List Key × Addr × Value)) → False := fun x hx => by simp at hx
      have new : ObjOk X.prog X.w (upd H p (tdO X.prog X.w [] p)) s.heap p (tdO X.prog X.w [] p) := tdO_ok ⟨o, es, ep, k1, k2, k3, k4, fun x hx => (no x hx).elim, List.nodup_nil⟩
      have I2 : Inv X pins σV (upd H p (tdO X.prog X.w [] p)) s := d_write (h' := s.heap) (t' := s.toks) I (by rw [hH]; exact True.intro) (Heap.SameBut.refl p s.heap) ⟨o, k1⟩ new
      have E2 := (E.aside hs0 g1 hH hFp h0p).reroot (tdO X.prog X.w [] p) upd_same (Same.free E.f0 hFp)
      refine h p H0 F0 hF _ [] q e1 pins s σV _ D I2 ⟨F, F0, _, E2, ⟨Same.refl _, fun a o e => .inl ⟨o, e⟩, ⟨fun a o e => ?_, h0p, Same.free E.f0 hFp, hsys, [], upd_same, fun x hx => (no x hx).elim, rfl⟩⟩, fun F' F1' H1' H' σV' E' R' => ?_⟩
      · have ap : a ≠ p := fun z => by subst z; rw [h0p] at e; cases e
        rw [upd_ne ap, upd_ne ap]; exact e
      · rw [er] at k
        exact k F' H' σV' (((E'.less R'.r.sm).leave R'.s R'.nw).setNone i)
    · cases hr
  · cases hr
end L2.Fs
set_option Elab.async false
set_option linter.all false
set_option maxRecDepth 100000
namespace L2.Fs
open PySem PySem.Spec PyProof.Rows
end L2.Fs
set_option Elab.async false
set_option linter.all false
set_option maxRecDepth 100000
namespace L2.Fs
open PySem PySem.Spec PyProof.Rows
end L2.Fs
set_option Elab.async false
set_option linter.all false
set_option maxRecDepth 100000
namespace L2.Fs
open PySem PySem.Spec PyProof.Rows
end L2.Fs
set_option Elab.async false
set_option linter.all false
set_option maxRecDepth 100000
namespace L2.Fs
open PySem PySem.Spec PyProof.Rows
end L2.Fs
set_option Elab.async false
set_option linter.all false
set_option maxRecDepth 100000
set_option maxHeartbeats 4000000
namespace L2.Fs
open PySem PySem.Spec PyProof.Rows
noncomputable section
def st_is_whole : Stmt := PySem.Challenge.pw_fewsumlots_k63_each_number_comes.main.body.getD 7 (.Pass ⟨0, 0, 0, 0⟩)
theorem sc_is_whole : FnScope ["thing"] ["thing"] (defScope st_is_whole) := ⟨rfl, rfl, rfl, by decide +kernel, rfl, by decide +kernel, by decide +kernel⟩
def b_is_whole : SF := (sSeq (sRet (xAnd (x1 (hIsi "int") (xVar 0)) (x1 hNot (x1 (hIsi "bool") (xVar 0))))) sNil)
def G_is_whole : FL := runF 1 b_is_whole
theorem cal_is_whole {P : Program} {w : World} {K : PySem.W.Frag} {mg : Str → Option Value} {base : Heap} {Ft : Hp} {f : Addr} {fd : FuncData} {cdv : Value} (F : FunV K "is_whole" "is_whole" st_is_whole f fd cdv) (hm : mg "is_whole" = some (.ref f))      (m_bool : mg "bool" = none) (m_int : mg "int" = none) (m_isinstance : mg "isinstance" = none)    :
    Cal P w K mg base Ft "is_whole" ["thing"] 1 G_is_whole :=
  F.cal sc_is_whole hm (fun _ _ _ _ _ _ us hl => match us , hl with | [_] , _ => rfl) (fun A outer s H E hr H0 F0 hF => ((@pvb_cons _ _ _ _ _ _ _ ((@pvs_ret _ _ _ _ _ _ ((@pv_and _ _ _ _ _ _ _ _ _ ((@q_isi _ _ _ _ _ _ _ _ _ ("int") (by decide) boot_int m_isinstance m_int ((@q_var _ _ _ _ _ 0 (by rfl) (by first | exact Or.inl rfl | exact Or.inr ( Or.inl rfl ) | exact Or.inr ( Or.inr rfl )) (by decide) (by decide))) (by rfl) (by rfl) (by decide) (by decide) (by rfl))) ((@pv_one _ _ _ _ _ _ _ ((@pv_not _ _ _ _ _ _ ((@q_isi _ _ _ _ _ _ _ _ _ ("bool") (by decide) boot_bool m_isinstance m_bool ((@q_var _ _ _ _ _ 0 (by rfl) (by first | exact Or.inl rfl | exact Or.inr ( Or.inl rfl ) | exact Or.inr ( Or.inr rfl )) (by decide) (by decide))) (by rfl) (by rfl) (by decide) (by decide) (by rfl))))))))))) (@pvb_nil _ _ _))))
def st_need_number_to : Stmt := PySem.Challenge.pw_fewsumlots_k63_each_number_comes.main.body.getD 17 (.Pass ⟨0, 0, 0, 0⟩)
theorem sc_need_number_to : FnScope ["thing", "most"] ["thing", "most"] (defScope st_need_number_to) := ⟨rfl, rfl, rfl, by decide +kernel, rfl, by decide +kernel, by decide +kernel⟩
def b_need_number_to : SF := (sSeq (sIf (tOrF (tNotF (tVal (xCall G_is_whole (lCons (xVar 0) lNil)))) (tOrF (tBool (x2 hLt (xVar 0) (xCon (.int 0)))) (tBool (x2 hGt (xVar 0) (xVar 1))))) (sSeq (sExc "raise") sNil) sNil) sNil)
def G_need_number_to : FL := runF 2 b_need_number_to
theorem cal_need_number_to {P : Program} {w : World} {K : PySem.W.Frag} {mg : Str → Option Value} {base : Heap} {Ft : Hp} {f : Addr} {fd : FuncData} {cdv : Value} (F : FunV K "need_number_to" "need_number_to" st_need_number_to f fd cdv) (hm : mg "need_number_to" = some (.ref f))        (C_is_whole : Cal P w K mg base Ft "is_whole" ["thing"] 1 G_is_whole)  :
    Cal P w K mg base Ft "need_number_to" ["thing", "most"] 2 G_need_number_to :=
  F.cal sc_need_number_to hm (fun _ _ _ _ _ _ us hl => match us , hl with | [_, _] , _ => rfl) (fun A outer s H E hr H0 F0 hF => ((@pvb_cons _ _ _ _ _ _ _ ((@pvs_if _ _ _ _ _ _ _ _ _ _ (PVW.t ((@pvw_or _ _ _ _ _ _ _ _ _ ((@pvt_not _ _ _ _ _ _ ((@q_val _ _ _ _ _ ((@q_call _ _ _ _ _ _ _ _ _ _ _ _ _ C_is_whole hF (hr.mono (by decide)) ((@q_cons _ _ _ _ _ _ _ ((@q_var _ _ _ _ _ 0 (by rfl) (by first | exact Or.inl rfl | exact Or.inr ( Or.inl rfl ) | exact Or.inr ( Or.inr rfl )) (by decide) (by decide))) (@pvl_nil _ _ _) (by rfl))) (lCons_len lNil_len) (by rfl) (by rfl) (by decide) (by rfl) (by rfl))) (by first | (intro _ _; rfl) | (intro _; rfl) | (intro _ _ _; rfl)))))) ((@pvw_or _ _ _ _ _ _ _ _ _ ((@qt_lt _ _ _ _ _ _ _ _ ((@q_var _ _ _ _ _ 0 (by rfl) (by first | exact Or.inl rfl | exact Or.inr ( Or.inl rfl ) | exact Or.inr ( Or.inr rfl )) (by decide) (by decide))) (@pv_int _ _ _ _ _ _) (by rfl))) ((@pvw_or1 _ _ _ _ _ _ ((@qt_gt _ _ _ _ _ _ _ _ ((@q_var _ _ _ _ _ 0 (by rfl) (by first | exact Or.inl rfl | exact Or.inr ( Or.inl rfl ) | exact Or.inr ( Or.inr rfl )) (by decide) (by decide))) ((@q_var _ _ _ _ _ 1 (by rfl) (by first | exact Or.inl rfl | exact Or.inr ( Or.inl rfl ) | exact Or.inr ( Or.inr rfl )) (by decide) (by decide))) (by rfl)))))))))) ((@pvb_cons _ _ _ _ _ _ _ (@pvs_exc _ _ _ _ _) (@pvb_nil _ _ _))) (@pvb_nil _ _ _))) (@pvb_nil _ _ _))))
def st_ends_of_sums : Stmt := PySem.Challenge.pw_fewsumlots_k63_each_number_comes.main.body.getD 18 (.Pass ⟨0, 0, 0, 0⟩)
theorem sc_ends_of_sums : FnScope ["many"] ["many"] (defScope st_ends_of_sums) := ⟨rfl, rfl, rfl, by decide +kernel, rfl, by decide +kernel, by decide +kernel⟩
def b_ends_of_sums : SF := (sSeq (sExpr (xCall G_need_number_to (lCons (xVar 0) (lCons (xCon (.int 24)) lNil)))) (sSeq (sRet (xTup (lCons (xCall (f2 hMax) (lCons (xCon (.int 0)) (lCons (x2 hSub (x2 hMul (xCon (.int 2)) (xVar 0)) (xCon (.int 1))) lNil))) (lCons (x2 hDiv (x2 hMul (xVar 0) (x2 hAdd (xVar 0) (xCon (.int 1)))) (xCon (.int 2))) lNil)))) sNil))
def G_ends_of_sums : FL := runF 1 b_ends_of_sums
theorem cal_ends_of_sums {P : Program} {w : World} {K : PySem.W.Frag} {mg : Str → Option Value} {base : Heap} {Ft : Hp} {f : Addr} {fd : FuncData} {cdv : Value} (F : FunV K "ends_of_sums" "ends_of_sums" st_ends_of_sums f fd cdv) (hm : mg "ends_of_sums" = some (.ref f))      (m_max : mg "max" = none) {t_MOST_IN_SIZE : Tok} (v_MOST_IN_SIZE : mg "MOST_IN_SIZE" = some (.int 24 t_MOST_IN_SIZE)) (C_need_number_to : Cal P w K mg base Ft "need_number_to" ["thing", "most"] 2 G_need_number_to)  :
    Cal P w K mg base Ft "ends_of_sums" ["many"] 3 G_ends_of_sums :=
  F.cal sc_ends_of_sums hm (fun _ _ _ _ _ _ us hl => match us , hl with | [_] , _ => rfl) (fun A outer s H E hr H0 F0 hF => ((@pvb_cons _ _ _ _ _ _ _ ((@pvs_expr _ _ _ _ _ _ ((@q_call _ _ _ _ _ _ _ _ _ _ _ _ _ C_need_number_to hF (hr.mono (by decide)) ((@q_cons _ _ _ _ _ _ _ ((@q_var _ _ _ _ _ 0 (by rfl) (by first | exact Or.inl rfl | exact Or.inr ( Or.inl rfl ) | exact Or.inr ( Or.inr rfl )) (by decide) (by decide))) ((@q_cons _ _ _ _ _ _ _ ((@pv_glb _ _ _ _ _ _ _ rfl v_MOST_IN_SIZE (by decide))) (@pvl_nil _ _ _) (by rfl))) (by rfl))) (lCons_len (lCons_len lNil_len)) (by rfl) (by rfl) (by decide) (by rfl) (by rfl))) rfl)) ((@pvb_cons _ _ _ _ _ _ _ ((@pvs_ret _ _ _ _ _ _ ((@pv_tup _ _ _ _ _ _ _ ((@q_cons _ _ _ _ _ _ _ ((@pv_max _ _ _ _ _ _ _ _ _ rfl rfl m_max (@pv_int _ _ _ _ _ _) ((@pv_sub _ _ _ _ _ _ _ _ ((@pv_mul _ _ _ _ _ _ _ _ (@pv_int _ _ _ _ _ _) ((@q_var _ _ _ _ _ 0 (by rfl) (by first | exact Or.inl rfl | exact Or.inr ( Or.inl rfl ) | exact Or.inr ( Or.inr rfl )) (by decide) (by decide))))) (@pv_int _ _ _ _ _ _))) rfl rfl)) ((@q_cons _ _ _ _ _ _ _ ((@pv_div _ _ _ _ _ _ _ _ ((@pv_mul _ _ _ _ _ _ _ _ ((@q_var _ _ _ _ _ 0 (by rfl) (by first | exact Or.inl rfl | exact Or.inr ( Or.inl rfl ) | exact Or.inr ( Or.inr rfl )) (by decide) (by decide))) ((@pv_add _ _ _ _ _ _ _ _ ((@q_var _ _ _ _ _ 0 (by rfl) (by first | exact Or.inl rfl | exact Or.inr ( Or.inl rfl ) | exact Or.inr ( Or.inr rfl )) (by decide) (by decide))) (@pv_int _ _ _ _ _ _))))) (@pv_int _ _ _ _ _ _))) (@pvl_nil _ _ _) (by rfl))) (by rfl))))))) (@pvb_nil _ _ _))))))
def st__law_draw : Stmt := PySem.Challenge.pw_fewsumlots_k63_each_number_comes.main.body.getD 23 (.Pass ⟨0, 0, 0, 0⟩)
theorem sc__law_draw : FnScope ["_law_cell", "_law_k", "_law_bound", "_law_stir", "_law_left", "_law_j"] ["_law_cell", "_law_k", "_law_bound"] (defScope st__law_draw) := ⟨rfl, rfl, rfl, by decide +kernel, rfl, by decide +kernel, by decide +kernel⟩
def f__law_draw_0 : SF := (sSeq (sSet 4 (x2 hDiv (xVar 4) (xVar 2))) sNil)
def b__law_draw : SF := (sSeq (sIf (tBool (x2 hGe (xVar 0) (x2 hPow (xCon (.int 10)) (xCon (.int 18))))) (sSeq (sSet 4 (xVar 0)) (sSeq (sFor (iRng (xVar 1)) (gNm 5) f__law_draw_0) (sSeq (sRet (x2 hMod (xVar 4) (xVar 2))) sNil))) sNil) (sSeq (sSet 3 (x2 hMod (x2 hMul (x2 hAdd (x2 hAdd (x2 hMod (xVar 0) (xCon (.int 1000000007))) (x2 hMul (xCon (.int 1009)) (xVar 1))) (xCon (.int 17))) (xCon (.int 69621))) (xCon (.int 2147483647)))) (sSeq (sSet 3 (x2 hMod (x2 hAdd (x2 hAdd (x2 hMul (xVar 3) (xVar 3)) (x2 hMul (xCon (.int 40503)) (xVar 1))) (xCon (.int 5))) (xCon (.int 2147483629)))) (sSeq (sRet (x2 hMod (x2 hDiv (x2 hMod (x2 hMul (xVar 3) (xCon (.int 48271))) (xCon (.int 2147483647))) (xCon (.int 32))) (xVar 2))) sNil))))
def G__law_draw : FL := runF 6 b__law_draw
theorem cal__law_draw {P : Program} {w : World} {K : PySem.W.Frag} {mg : Str → Option Value} {base : Heap} {Ft : Hp} {f : Addr} {fd : FuncData} {cdv : Value} (F : FunV K "_law_draw" "_law_draw" st__law_draw f fd cdv) (hm : mg "_law_draw" = some (.ref f))      (m_range : mg "range" = none)    :
    Cal P w K mg base Ft "_law_draw" ["_law_cell", "_law_k", "_law_bound"] 1 G__law_draw :=
  F.cal sc__law_draw hm (fun _ _ _ _ _ _ us hl => match us , hl with | [_, _, _] , _ => rfl) (fun A outer s H E hr H0 F0 hF => ((@pvb_cons _ _ _ _ _ _ _ ((@pvs_if _ _ _ _ _ _ _ _ _ _ ((@qt_ge _ _ _ _ _ _ _ _ ((@q_var _ _ _ _ _ 0 (by rfl) (by first | exact Or.inl rfl | exact Or.inr ( Or.inl rfl ) | exact Or.inr ( Or.inr rfl )) (by decide) (by decide))) ((@pv_pow _ _ _ _ _ _ _ _ (@pv_int _ _ _ _ _ _) (@pv_int _ _ _ _ _ _))) (by rfl))) ((@pvb_cons _ _ _ _ _ _ _ ((@q_set _ _ _ _ _ _ _ _ (4) sc__law_draw.nd ((@q_var _ _ _ _ _ 0 (by rfl) (by first | exact Or.inl rfl | exact Or.inr ( Or.inl rfl ) | exact Or.inr ( Or.inr rfl )) (by decide) (by decide))) (by rfl) (by first | exact Or.inl rfl | exact Or.inr rfl) (by first | exact Or.inl rfl | exact Or.inr rfl) (by rfl))) ((@pvb_cons _ _ _ _ _ _ _ ((@pvs_for _ _ _ _ _ _ _ _ _ _ ([5]) _ hF rfl PassesOwn.never ((@pvi_rng _ _ _ _ _ _ _ _ rfl m_range ((@q_var _ _ _ _ _ 1 (by rfl) (by first | exact Or.inl rfl | exact Or.inr ( Or.inl rfl ) | exact Or.inr ( Or.inr rfl )) (by decide) (by decide))) rfl)) ((@qg_name _ _ _ 5 sc__law_draw.nd (by rfl) (by first | exact Or.inl rfl | exact Or.inr rfl) (by first | exact Or.inl rfl | exact Or.inr rfl))) (fun H0 F0 hF => ((@pvb_cons _ _ _ _ _ _ _ ((@q_set _ _ _ _ _ _ _ _ (4) sc__law_draw.nd ((@pv_div _ _ _ _ _ _ _ _ ((@q_var _ _ _ _ _ 4 (by rfl) (by first | exact Or.inl rfl | exact Or.inr ( Or.inl rfl ) | exact Or.inr ( Or.inr rfl )) (by decide) (by decide))) ((@q_var _ _ _ _ _ 2 (by rfl) (by first | exact Or.inl rfl | exact Or.inr ( Or.inl rfl ) | exact Or.inr ( Or.inr rfl )) (by decide) (by decide))))) (by rfl) (by first | exact Or.inl rfl | exact Or.inr rfl) (by first | exact Or.inl rfl | exact Or.inr rfl) (by rfl))) (@pvb_nil _ _ _)))) (fun _ => rfl))) ((@pvb_cons _ _ _ _ _ _ _ ((@pvs_ret _ _ _ _ _ _ ((@pv_mod _ _ _ _ _ _ _ _ ((@q_var _ _ _ _ _ 4 (by rfl) (by first | exact Or.inl rfl | exact Or.inr ( Or.inl rfl ) | exact Or.inr ( Or.inr rfl )) (by decide) (by decide))) ((@q_var _ _ _ _ _ 2 (by rfl) (by first | exact Or.inl rfl | exact Or.inr ( Or.inl rfl ) | exact Or.inr ( Or.inr rfl )) (by decide) (by decide))))))) (@pvb_nil _ _ _))))))) (@pvb_nil _ _ _))) ((@pvb_cons _ _ _ _ _ _ _ ((@q_set _ _ _ _ _ _ _ _ (3) sc__law_draw.nd ((@pv_mod _ _ _ _ _ _ _ _ ((@pv_mul _ _ _ _ _ _ _ _ ((@pv_add _ _ _ _ _ _ _ _ ((@pv_add _ _ _ _ _ _ _ _ ((@pv_mod _ _ _ _ _ _ _ _ ((@q_var _ _ _ _ _ 0 (by rfl) (by first | exact Or.inl rfl | exact Or.inr ( Or.inl rfl ) | exact Or.inr ( Or.inr rfl )) (by decide) (by decide))) (@pv_int _ _ _ _ _ _))) ((@pv_mul _ _ _ _ _ _ _ _ (@pv_int _ _ _ _ _ _) ((@q_var _ _ _ _ _ 1 (by rfl) (by first | exact Or.inl rfl | exact Or.inr ( Or.inl rfl ) | exact Or.inr ( Or.inr rfl )) (by decide) (by decide))))))) (@pv_int _ _ _ _ _ _))) (@pv_int _ _ _ _ _ _))) (@pv_int _ _ _ _ _ _))) (by rfl) (by first | exact Or.inl rfl | exact Or.inr rfl) (by first | exact Or.inl rfl | exact Or.inr rfl) (by rfl))) ((@pvb_cons _ _ _ _ _ _ _ ((@q_set _ _ _ _ _ _ _ _ (3) sc__law_draw.nd ((@pv_mod _ _ _ _ _ _ _ _ ((@pv_add _ _ _ _ _ _ _ _ ((@pv_add _ _ _ _ _ _ _ _ ((@pv_mul _ _ _ _ _ _ _ _ ((@q_var _ _ _ _ _ 3 (by rfl) (by first | exact Or.inl rfl | exact Or.inr ( Or.inl rfl ) | exact Or.inr ( Or.inr rfl )) (by decide) (by decide))) ((@q_var _ _ _ _ _ 3 (by rfl) (by first | exact Or.inl rfl | exact Or.inr ( Or.inl rfl ) | exact Or.inr ( Or.inr rfl )) (by decide) (by decide))))) ((@pv_mul _ _ _ _ _ _ _ _ (@pv_int _ _ _ _ _ _) ((@q_var _ _ _ _ _ 1 (by rfl) (by first | exact Or.inl rfl | exact Or.inr ( Or.inl rfl ) | exact Or.inr ( Or.inr rfl )) (by decide) (by decide))))))) (@pv_int _ _ _ _ _ _))) (@pv_int _ _ _ _ _ _))) (by rfl) (by first | exact Or.inl rfl | exact Or.inr rfl) (by first | exact Or.inl rfl | exact Or.inr rfl) (by rfl))) ((@pvb_cons _ _ _ _ _ _ _ ((@pvs_ret _ _ _ _ _ _ ((@pv_mod _ _ _ _ _ _ _ _ ((@pv_div _ _ _ _ _ _ _ _ ((@pv_mod _ _ _ _ _ _ _ _ ((@pv_mul _ _ _ _ _ _ _ _ ((@q_var _ _ _ _ _ 3 (by rfl) (by first | exact Or.inl rfl | exact Or.inr ( Or.inl rfl ) | exact Or.inr ( Or.inr rfl )) (by decide) (by decide))) (@pv_int _ _ _ _ _ _))) (@pv_int _ _ _ _ _ _))) (@pv_int _ _ _ _ _ _))) ((@q_var _ _ _ _ _ 2 (by rfl) (by first | exact Or.inl rfl | exact Or.inr ( Or.inl rfl ) | exact Or.inr ( Or.inr rfl )) (by decide) (by decide))))))) (@pvb_nil _ _ _))))))))))
def st_set_with_few_sums : Stmt := PySem.Challenge.pw_fewsumlots_k63_each_number_comes.main.body.getD 19 (.Pass ⟨0, 0, 0, 0⟩)
theorem sc_set_with_few_sums : FnScope ["many", "number"] ["many", "number"] (defScope st_set_with_few_sums) := ⟨rfl, rfl, rfl, by decide +kernel, rfl, by decide +kernel, by decide +kernel⟩
def b_set_with_few_sums : SF := (sSeq (sIf (tBool (x2 hLt (xVar 0) (xCon (.int 2)))) (sSeq (sRet (x1 hTupRng (xVar 0))) sNil) sNil) (sSeq (sRet (x2 hAdd (x1 hTupRng (x2 hSub (xVar 0) (xCon (.int 1)))) (xTup (lCons (x2 hSub (xVar 1) (xVar 0)) lNil)))) sNil))
def G_set_with_few_sums : FL := runF 2 b_set_with_few_sums
theorem cal_set_with_few_sums {P : Program} {w : World} {K : PySem.W.Frag} {mg : Str → Option Value} {base : Heap} {Ft : Hp} {f : Addr} {fd : FuncData} {cdv : Value} (F : FunV K "set_with_few_sums" "set_with_few_sums" st_set_with_few_sums f fd cdv) (hm : mg "set_with_few_sums" = some (.ref f))      (m_range : mg "range" = none) (m_tuple : mg "tuple" = none)    :
    Cal P w K mg base Ft "set_with_few_sums" ["many", "number"] 1 G_set_with_few_sums :=
  F.cal sc_set_with_few_sums hm (fun _ _ _ _ _ _ us hl => match us , hl with | [_, _] , _ => rfl) (fun A outer s H E hr H0 F0 hF => ((@pvb_cons _ _ _ _ _ _ _ ((@pvs_if _ _ _ _ _ _ _ _ _ _ ((@qt_lt _ _ _ _ _ _ _ _ ((@q_var _ _ _ _ _ 0 (by rfl) (by first | exact Or.inl rfl | exact Or.inr ( Or.inl rfl ) | exact Or.inr ( Or.inr rfl )) (by decide) (by decide))) (@pv_int _ _ _ _ _ _) (by rfl))) ((@pvb_cons _ _ _ _ _ _ _ ((@pvs_ret _ _ _ _ _ _ ((@pv_tupRng _ _ _ _ _ _ _ _ _ rfl rfl m_tuple rfl m_range ((@q_var _ _ _ _ _ 0 (by rfl) (by first | exact Or.inl rfl | exact Or.inr ( Or.inl rfl ) | exact Or.inr ( Or.inr rfl )) (by decide) (by decide))) rfl rfl)))) (@pvb_nil _ _ _))) (@pvb_nil _ _ _))) ((@pvb_cons _ _ _ _ _ _ _ ((@pvs_ret _ _ _ _ _ _ ((@pv_add _ _ _ _ _ _ _ _ ((@pv_tupRng _ _ _ _ _ _ _ _ _ rfl rfl m_tuple rfl m_range ((@pv_sub _ _ _ _ _ _ _ _ ((@q_var _ _ _ _ _ 0 (by rfl) (by first | exact Or.inl rfl | exact Or.inr ( Or.inl rfl ) | exact Or.inr ( Or.inr rfl )) (by decide) (by decide))) (@pv_int _ _ _ _ _ _))) rfl rfl)) ((@pv_tup _ _ _ _ _ _ _ ((@q_cons _ _ _ _ _ _ _ ((@pv_sub _ _ _ _ _ _ _ _ ((@q_var _ _ _ _ _ 1 (by rfl) (by first | exact Or.inl rfl | exact Or.inr ( Or.inl rfl ) | exact Or.inr ( Or.inr rfl )) (by decide) (by decide))) ((@q_var _ _ _ _ _ 0 (by rfl) (by first | exact Or.inl rfl | exact Or.inr ( Or.inl rfl ) | exact Or.inr ( Or.inr rfl )) (by decide) (by decide))))) (@pvl_nil _ _ _) (by rfl))))))))) (@pvb_nil _ _ _))))))
def st_set_with_sums : Stmt := PySem.Challenge.pw_fewsumlots_k63_each_number_comes.main.body.getD 20 (.Pass ⟨0, 0, 0, 0⟩)
theorem sc_set_with_sums : FnScope ["many", "number", "size", "told", "place", "least", "most"] ["many", "number"] (defScope st_set_with_sums) := ⟨rfl, rfl, rfl, by decide +kernel, rfl, by decide +kernel, by decide +kernel⟩
def f_set_with_sums_0 : SF := (sSeq (sSet 3 (x2 hAdd (xVar 3) (xTup (lCons (x2 hAdd (x2 hMul (xCon (.int 2)) (x2 hIx (xVar 3) (x1 (hU fun i => -i) (xCon (.int 1))))) (xCon (.int 1))) lNil)))) sNil)
def w_set_with_sums_1 : SF := (sSeq (sAug 1 (hI (fun _ _ => true) fun i j => .int (i - j)) (xVar 2)) (sSeq (sAug 2 (hI (fun _ _ => true) fun i j => .int (i - j)) (xCon (.int 1))) sNil))
def b_set_with_sums : SF := (sSeq (sUnp (gTwo (gNm 5) (gNm 6)) (xCall G_ends_of_sums (lCons (xVar 0) lNil))) (sSeq (sIf (tOrF (tNotF (tVal (xCall G_is_whole (lCons (xVar 1) lNil)))) (tOrF (tBool (x2 hLt (xVar 1) (xVar 5))) (tBool (x2 hGt (xVar 1) (xVar 6))))) (sSeq (sExc "raise") sNil) sNil) (sSeq (sSet 2 (xVar 0)) (sSeq (sWh (tAndF (tBool (x2 hGt (xVar 2) (xCon (.int 1)))) (tBool (x2 hGt (xVar 1) (x2 hSub (x2 hMul (xCon (.int 3)) (xVar 2)) (xCon (.int 3)))))) w_set_with_sums_1) (sSeq (sSet 3 (xCall G_set_with_few_sums (lCons (xVar 2) (lCons (xVar 1) lNil)))) (sSeq (sFor (iRng (x2 hSub (xVar 0) (xVar 2))) (gNm 4) f_set_with_sums_0) (sSeq (sRetV 3) sNil)))))))
def G_set_with_sums : FL := runF 7 b_set_with_sums
theorem cal_set_with_sums {P : Program} {w : World} {K : PySem.W.Frag} {mg : Str → Option Value} {base : Heap} {Ft : Hp} {f : Addr} {fd : FuncData} {cdv : Value} (F : FunV K "set_with_sums" "set_with_sums" st_set_with_sums f fd cdv) (hm : mg "set_with_sums" = some (.ref f))      (m_range : mg "range" = none)  (C_set_with_few_sums : Cal P w K mg base Ft "set_with_few_sums" ["many", "number"] 1 G_set_with_few_sums) (C_is_whole : Cal P w K mg base Ft "is_whole" ["thing"] 1 G_is_whole) (C_ends_of_sums : Cal P w K mg base Ft "ends_of_sums" ["many"] 3 G_ends_of_sums)  :
    Cal P w K mg base Ft "set_with_sums" ["many", "number"] 4 G_set_with_sums :=
  F.cal sc_set_with_sums hm (fun _ _ _ _ _ _ us hl => match us , hl with | [_, _] , _ => rfl) (fun A outer s H E hr H0 F0 hF => ((@pvb_cons _ _ _ _ _ _ _ ((@pvs_unp _ _ _ _ _ _ _ _ _ ((@q_call _ _ _ _ _ _ _ _ _ _ _ _ _ C_ends_of_sums hF (hr.mono (by decide)) ((@q_cons _ _ _ _ _ _ _ ((@q_var _ _ _ _ _ 0 (by rfl) (by first | exact Or.inl rfl | exact Or.inr ( Or.inl rfl ) | exact Or.inr ( Or.inr rfl )) (by decide) (by decide))) (@pvl_nil _ _ _) (by rfl))) (lCons_len lNil_len) (by rfl) (by rfl) (by decide) (by rfl) (by rfl))) ((@pvg_two _ _ _ _ _ _ _ _ _ _ _ rfl ((@qg_name _ _ _ 5 sc_set_with_sums.nd (by rfl) (by first | exact Or.inl rfl | exact Or.inr rfl) (by first | exact Or.inl rfl | exact Or.inr rfl))) ((@qg_name _ _ _ 6 sc_set_with_sums.nd (by rfl) (by first | exact Or.inl rfl | exact Or.inr rfl) (by first | exact Or.inl rfl | exact Or.inr rfl))))) (by rfl) (by rfl) (by rfl))) ((@pvb_cons _ _ _ _ _ _ _ ((@pvs_if _ _ _ _ _ _ _ _ _ _ (PVW.t ((@pvw_or _ _ _ _ _ _ _ _ _ ((@pvt_not _ _ _ _ _ _ ((@q_val _ _ _ _ _ ((@q_call _ _ _ _ _ _ _ _ _ _ _ _ _ C_is_whole hF (hr.mono (by decide)) ((@q_cons _ _ _ _ _ _ _ ((@q_var _ _ _ _ _ 1 (by rfl) (by first | exact Or.inl rfl | exact Or.inr ( Or.inl rfl ) | exact Or.inr ( Or.inr rfl )) (by decide) (by decide))) (@pvl_nil _ _ _) (by rfl))) (lCons_len lNil_len) (by rfl) (by rfl) (by decide) (by rfl) (by rfl))) (by first | (intro _ _; rfl) | (intro _; rfl) | (intro _ _ _; rfl)))))) ((@pvw_or _ _ _ _ _ _ _ _ _ ((@qt_lt _ _ _ _ _ _ _ _ ((@q_var _ _ _ _ _ 1 (by rfl) (by first | exact Or.inl rfl | exact Or.inr ( Or.inl rfl ) | exact Or.inr ( Or.inr rfl )) (by decide) (by decide))) ((@q_var _ _ _ _ _ 5 (by rfl) (by first | exact Or.inl rfl | exact Or.inr ( Or.inl rfl ) | exact Or.inr ( Or.inr rfl )) (by decide) (by decide))) (by rfl))) ((@pvw_or1 _ _ _ _ _ _ ((@qt_gt _ _ _ _ _ _ _ _ ((@q_var _ _ _ _ _ 1 (by rfl) (by first | exact Or.inl rfl | exact Or.inr ( Or.inl rfl ) | exact Or.inr ( Or.inr rfl )) (by decide) (by decide))) ((@q_var _ _ _ _ _ 6 (by rfl) (by first | exact Or.inl rfl | exact Or.inr ( Or.inl rfl ) | exact Or.inr ( Or.inr rfl )) (by decide) (by decide))) (by rfl)))))))))) ((@pvb_cons _ _ _ _ _ _ _ (@pvs_exc _ _ _ _ _) (@pvb_nil _ _ _))) (@pvb_nil _ _ _))) ((@pvb_cons _ _ _ _ _ _ _ ((@q_set _ _ _ _ _ _ _ _ (2) sc_set_with_sums.nd ((@q_var _ _ _ _ _ 0 (by rfl) (by first | exact Or.inl rfl | exact Or.inr ( Or.inl rfl ) | exact Or.inr ( Or.inr rfl )) (by decide) (by decide))) (by rfl) (by first | exact Or.inl rfl | exact Or.inr rfl) (by first | exact Or.inl rfl | exact Or.inr rfl) (by rfl))) ((@pvb_cons _ _ _ _ _ _ _ ((@pvs_while _ _ _ _ _ _ _ _ _ hF PassesOwn.never (fun H0 F0 hF => (PVW.t ((@pvw_and _ _ _ _ _ _ _ _ _ ((@qt_gt _ _ _ _ _ _ _ _ ((@q_var _ _ _ _ _ 2 (by rfl) (by first | exact Or.inl rfl | exact Or.inr ( Or.inl rfl ) | exact Or.inr ( Or.inr rfl )) (by decide) (by decide))) (@pv_int _ _ _ _ _ _) (by rfl))) ((@pvw_and1 _ _ _ _ _ _ ((@qt_gt _ _ _ _ _ _ _ _ ((@q_var _ _ _ _ _ 1 (by rfl) (by first | exact Or.inl rfl | exact Or.inr ( Or.inl rfl ) | exact Or.inr ( Or.inr rfl )) (by decide) (by decide))) ((@pv_sub _ _ _ _ _ _ _ _ ((@pv_mul _ _ _ _ _ _ _ _ (@pv_int _ _ _ _ _ _) ((@q_var _ _ _ _ _ 2 (by rfl) (by first | exact Or.inl rfl | exact Or.inr ( Or.inl rfl ) | exact Or.inr ( Or.inr rfl )) (by decide) (by decide))))) (@pv_int _ _ _ _ _ _))) (by rfl))))))))) (fun H0 F0 hF => ((@pvb_cons _ _ _ _ _ _ _ ((@q_augSub _ _ _ _ _ _ (1) _ _ sc_set_with_sums.nd ((@q_var _ _ _ _ _ 2 (by rfl) (by first | exact Or.inl rfl | exact Or.inr ( Or.inl rfl ) | exact Or.inr ( Or.inr rfl )) (by decide) (by decide))) (by rfl) (by first | exact Or.inl rfl | exact Or.inr rfl) (by first | exact .inl rfl | exact .inr rfl))) ((@pvb_cons _ _ _ _ _ _ _ ((@q_augSub _ _ _ _ _ _ (2) _ _ sc_set_with_sums.nd (@pv_int _ _ _ _ _ _) (by rfl) (by first | exact Or.inl rfl | exact Or.inr rfl) (by first | exact .inl rfl | exact .inr rfl))) (@pvb_nil _ _ _)))))))) ((@pvb_cons _ _ _ _ _ _ _ ((@q_set _ _ _ _ _ _ _ _ (3) sc_set_with_sums.nd ((@q_call _ _ _ _ _ _ _ _ _ _ _ _ _ C_set_with_few_sums hF (hr.mono (by decide)) ((@q_cons _ _ _ _ _ _ _ ((@q_var _ _ _ _ _ 2 (by rfl) (by first | exact Or.inl rfl | exact Or.inr ( Or.inl rfl ) | exact Or.inr ( Or.inr rfl )) (by decide) (by decide))) ((@q_cons _ _ _ _ _ _ _ ((@q_var _ _ _ _ _ 1 (by rfl) (by first | exact Or.inl rfl | exact Or.inr ( Or.inl rfl ) | exact Or.inr ( Or.inr rfl )) (by decide) (by decide))) (@pvl_nil _ _ _) (by rfl))) (by rfl))) (lCons_len (lCons_len lNil_len)) (by rfl) (by rfl) (by decide) (by rfl) (by rfl))) (by rfl) (by first | exact Or.inl rfl | exact Or.inr rfl) (by first | exact Or.inl rfl | exact Or.inr rfl) (by rfl))) ((@pvb_cons _ _ _ _ _ _ _ ((@pvs_for _ _ _ _ _ _ _ _ _ _ ([4]) _ hF rfl PassesOwn.never ((@pvi_rng _ _ _ _ _ _ _ _ rfl m_range ((@pv_sub _ _ _ _ _ _ _ _ ((@q_var _ _ _ _ _ 0 (by rfl) (by first | exact Or.inl rfl | exact Or.inr ( Or.inl rfl ) | exact Or.inr ( Or.inr rfl )) (by decide) (by decide))) ((@q_var _ _ _ _ _ 2 (by rfl) (by first | exact Or.inl rfl | exact Or.inr ( Or.inl rfl ) | exact Or.inr ( Or.inr rfl )) (by decide) (by decide))))) rfl)) ((@qg_name _ _ _ 4 sc_set_with_sums.nd (by rfl) (by first | exact Or.inl rfl | exact Or.inr rfl) (by first | exact Or.inl rfl | exact Or.inr rfl))) (fun H0 F0 hF => ((@pvb_cons _ _ _ _ _ _ _ ((@q_set _ _ _ _ _ _ _ _ (3) sc_set_with_sums.nd ((@pv_add _ _ _ _ _ _ _ _ ((@q_var _ _ _ _ _ 3 (by rfl) (by first | exact Or.inl rfl | exact Or.inr ( Or.inl rfl ) | exact Or.inr ( Or.inr rfl )) (by decide) (by decide))) ((@pv_tup _ _ _ _ _ _ _ ((@q_cons _ _ _ _ _ _ _ ((@pv_add _ _ _ _ _ _ _ _ ((@pv_mul _ _ _ _ _ _ _ _ (@pv_int _ _ _ _ _ _) ((@q_item _ _ _ _ _ _ _ _ ((@q_var _ _ _ _ _ 3 (by rfl) (by first | exact Or.inl rfl | exact Or.inr ( Or.inl rfl ) | exact Or.inr ( Or.inr rfl )) (by decide) (by decide))) ((@pv_neg _ _ _ _ _ _ (@pv_int _ _ _ _ _ _))) (by first | (intro _ _; rfl) | (intro _; rfl) | (intro _ _ _; rfl)))))) (@pv_int _ _ _ _ _ _))) (@pvl_nil _ _ _) (by rfl))))))) (by rfl) (by first | exact Or.inl rfl | exact Or.inr rfl) (by first | exact Or.inl rfl | exact Or.inr rfl) (by rfl))) (@pvb_nil _ _ _)))) (fun _ => rfl))) ((@pvb_cons _ _ _ _ _ _ _ ((@q_retV _ _ _ _ _ _ 3 (by rfl) (by first | exact Or.inl rfl | exact Or.inr ( Or.inl rfl ) | exact Or.inr ( Or.inr rfl )) (by decide) (by decide))) (@pvb_nil _ _ _))))))))))))))))
def st__law_cell_at : Stmt := PySem.Challenge.pw_fewsumlots_k63_each_number_comes.main.body.getD 22 (.Pass ⟨0, 0, 0, 0⟩)
theorem sc__law_cell_at : FnScope ["_law_script", "_law_k"] ["_law_script", "_law_k"] (defScope st__law_cell_at) := ⟨rfl, rfl, rfl, by decide +kernel, rfl, by decide +kernel, by decide +kernel⟩
def b__law_cell_at : SF := (sSeq (sIf (tBool (x2 hLt (xVar 1) (xCall (f1 hLen) (lCons (xVar 0) lNil)))) (sSeq (sRet (x2 hIx (xVar 0) (xVar 1))) sNil) sNil) (sSeq (sRet (xCon (.int 0))) sNil))
def G__law_cell_at : FL := runF 2 b__law_cell_at
theorem cal__law_cell_at {P : Program} {w : World} {K : PySem.W.Frag} {mg : Str → Option Value} {base : Heap} {Ft : Hp} {f : Addr} {fd : FuncData} {cdv : Value} (F : FunV K "_law_cell_at" "_law_cell_at" st__law_cell_at f fd cdv) (hm : mg "_law_cell_at" = some (.ref f))      (m_len : mg "len" = none)    :
    Cal P w K mg base Ft "_law_cell_at" ["_law_script", "_law_k"] 1 G__law_cell_at :=
  F.cal sc__law_cell_at hm (fun _ _ _ _ _ _ us hl => match us , hl with | [_, _] , _ => rfl) (fun A outer s H E hr H0 F0 hF => ((@pvb_cons _ _ _ _ _ _ _ ((@pvs_if _ _ _ _ _ _ _ _ _ _ ((@qt_lt _ _ _ _ _ _ _ _ ((@q_var _ _ _ _ _ 1 (by rfl) (by first | exact Or.inl rfl | exact Or.inr ( Or.inl rfl ) | exact Or.inr ( Or.inr rfl )) (by decide) (by decide))) ((@pv_len _ _ _ _ _ _ _ rfl m_len ((@q_var _ _ _ _ _ 0 (by rfl) (by first | exact Or.inl rfl | exact Or.inr ( Or.inl rfl ) | exact Or.inr ( Or.inr rfl )) (by decide) (by decide))) rfl)) (by rfl))) ((@pvb_cons _ _ _ _ _ _ _ ((@pvs_ret _ _ _ _ _ _ ((@q_item _ _ _ _ _ _ _ _ ((@q_var _ _ _ _ _ 0 (by rfl) (by first | exact Or.inl rfl | exact Or.inr ( Or.inl rfl ) | exact Or.inr ( Or.inr rfl )) (by decide) (by decide))) ((@q_var _ _ _ _ _ 1 (by rfl) (by first | exact Or.inl rfl | exact Or.inr ( Or.inl rfl ) | exact Or.inr ( Or.inr rfl )) (by decide) (by decide))) (by first | (intro _ _; rfl) | (intro _; rfl) | (intro _ _ _; rfl)))))) (@pvb_nil _ _ _))) (@pvb_nil _ _ _))) ((@pvb_cons _ _ _ _ _ _ _ ((@pvs_ret _ _ _ _ _ _ (@pv_int _ _ _ _ _ _))) (@pvb_nil _ _ _))))))
def st_are_whole : Stmt := PySem.Challenge.pw_fewsumlots_k63_each_number_comes.main.body.getD 8 (.Pass ⟨0, 0, 0, 0⟩)
theorem sc_are_whole : FnScope ["things", "thing"] ["things"] (defScope st_are_whole) := ⟨rfl, rfl, rfl, by decide +kernel, rfl, by decide +kernel, by decide +kernel⟩
def b_are_whole : SF := (sSeq (sRet (xAllG (iSeq (xVar 0)) (gNm 1) tTrue (xCall G_is_whole (lCons (xVar 1) lNil)) [1])) sNil)
def G_are_whole : FL := runF 2 b_are_whole
theorem cal_are_whole {P : Program} {w : World} {K : PySem.W.Frag} {mg : Str → Option Value} {base : Heap} {Ft : Hp} {f : Addr} {fd : FuncData} {c Pt bm : Addr} {ob : Obj} (cb : CodeB base c Pt) (bmf : BM base mg bm ob) (hP : Ft Pt = some (TabO Pt)) (F : FunV K "are_whole" "are_whole" st_are_whole f fd (.ref c)) (hm : mg "are_whole" = some (.ref f))      (m_all : mg "all" = none)  (C_is_whole : Cal P w K mg base Ft "is_whole" ["thing"] 1 G_is_whole)  :
    Cal P w K mg base Ft "are_whole" ["things"] 3 G_are_whole :=
  F.cal sc_are_whole hm (fun _ _ _ _ _ _ us hl => match us , hl with | [_] , _ => rfl) (fun A outer s H E hr H0 F0 hF => ((@pvb_cons _ _ _ _ _ _ _ ((@pvs_ret _ _ _ _ _ _ ((@pv_allG _ _ _ _ _ _ _ _ _ _ _ _ _ _ _ _ _ _ _ _ _ _ _ (GnV.mk (k := (1)) (own := ([("thing", 1)])) (is := ([1])) rfl sc_are_whole.nd (hr.mono (by decide)) ⟨(blkOk_by (N := (["things", "thing"])) (sc := (defScope st_are_whole)) (by decide +kernel)), by decide +kernel, rfl, rfl⟩ rfl cb bmf (by decide) (fun A s H C cl code fp pn hr => ((@qg_name _ _ _ 1 sc_are_whole.nd (by rfl) (by first | exact Or.inl rfl | exact Or.inr rfl) (by first | exact Or.inl rfl | exact Or.inr rfl)))) (fun A s H C cl code fp pn hr => (@pvts_nil _ _)) (fun A s H C cl code fp pn hr H0 F0 hF => ((@q_call _ _ _ _ _ _ _ _ _ _ _ _ _ C_is_whole hF (hr.mono (by decide)) ((@q_cons _ _ _ _ _ _ _ ((@q_var _ _ _ _ _ 1 (by rfl) (by first | exact Or.inl rfl | exact Or.inr ( Or.inl rfl ) | exact Or.inr ( Or.inr rfl )) (by decide) (by decide))) (@pvl_nil _ _ _) (by rfl))) (lCons_len lNil_len) (by rfl) (by rfl) (by decide) (by rfl) (by rfl)))) (fun _ => rfl)) hF hP ((@pvi_seq _ _ _ _ _ _ ((@q_var _ _ _ _ _ 0 (by rfl) (by first | exact Or.inl rfl | exact Or.inr ( Or.inl rfl ) | exact Or.inr ( Or.inr rfl )) (by decide) (by decide))))) rfl m_all)))) (@pvb_nil _ _ _))))
def st_is_set : Stmt := PySem.Challenge.pw_fewsumlots_k63_each_number_comes.main.body.getD 9 (.Pass ⟨0, 0, 0, 0⟩)
theorem sc_is_set : FnScope ["thing", "low", "high"] ["thing"] (defScope st_is_set) := ⟨rfl, rfl, rfl, by decide +kernel, rfl, by decide +kernel, by decide +kernel⟩
def b_is_set : SF := (sSeq (sIf (tNotF (tVal (x1 (hIsi "tuple") (xVar 0)))) (sSeq (sRet (xCon (.bool false))) sNil) sNil) (sSeq (sIf (tNotF (tVal (xCall G_are_whole (lCons (xVar 0) lNil)))) (sSeq (sRet (xCon (.bool false))) sNil) sNil) (sSeq (sRet (xAllG (iZip2 (xVar 0) (xSl (xVar 0) (pSome (xCon (.int 1))) pNone)) (gTwo (gNm 1) (gNm 2)) tTrue (x2 hLt (xVar 1) (xVar 2)) [1, 2])) sNil)))
def G_is_set : FL := runF 3 b_is_set
theorem cal_is_set {P : Program} {w : World} {K : PySem.W.Frag} {mg : Str → Option Value} {base : Heap} {Ft : Hp} {f : Addr} {fd : FuncData} {c Pt bm : Addr} {ob : Obj} (cb : CodeB base c Pt) (bmf : BM base mg bm ob) (hP : Ft Pt = some (TabO Pt)) (F : FunV K "is_set" "is_set" st_is_set f fd (.ref c)) (hm : mg "is_set" = some (.ref f))      (m_all : mg "all" = none) (m_isinstance : mg "isinstance" = none) (m_tuple : mg "tuple" = none) (m_zip : mg "zip" = none)  (C_are_whole : Cal P w K mg base Ft "are_whole" ["things"] 3 G_are_whole)  :
    Cal P w K mg base Ft "is_set" ["thing"] 4 G_is_set :=
  F.cal sc_is_set hm (fun _ _ _ _ _ _ us hl => match us , hl with | [_] , _ => rfl) (fun A outer s H E hr H0 F0 hF => ((@pvb_cons _ _ _ _ _ _ _ ((@pvs_if _ _ _ _ _ _ _ _ _ _ ((@pvt_not _ _ _ _ _ _ ((@q_val _ _ _ _ _ ((@q_isi _ _ _ _ _ _ _ _ _ ("tuple") (by decide) boot_tuple m_isinstance m_tuple ((@q_var _ _ _ _ _ 0 (by rfl) (by first | exact Or.inl rfl | exact Or.inr ( Or.inl rfl ) | exact Or.inr ( Or.inr rfl )) (by decide) (by decide))) (by rfl) (by rfl) (by decide) (by decide) (by rfl))) (by first | (intro _ _; rfl) | (intro _; rfl) | (intro _ _ _; rfl)))))) ((@pvb_cons _ _ _ _ _ _ _ ((@pvs_ret _ _ _ _ _ _ (@pv_bl _ _ _ _ _ _))) (@pvb_nil _ _ _))) (@pvb_nil _ _ _))) ((@pvb_cons _ _ _ _ _ _ _ ((@pvs_if _ _ _ _ _ _ _ _ _ _ ((@pvt_not _ _ _ _ _ _ ((@q_val _ _ _ _ _ ((@q_call _ _ _ _ _ _ _ _ _ _ _ _ _ C_are_whole hF (hr.mono (by decide)) ((@q_cons _ _ _ _ _ _ _ ((@q_var _ _ _ _ _ 0 (by rfl) (by first | exact Or.inl rfl | exact Or.inr ( Or.inl rfl ) | exact Or.inr ( Or.inr rfl )) (by decide) (by decide))) (@pvl_nil _ _ _) (by rfl))) (lCons_len lNil_len) (by rfl) (by rfl) (by decide) (by rfl) (by rfl))) (by first | (intro _ _; rfl) | (intro _; rfl) | (intro _ _ _; rfl)))))) ((@pvb_cons _ _ _ _ _ _ _ ((@pvs_ret _ _ _ _ _ _ (@pv_bl _ _ _ _ _ _))) (@pvb_nil _ _ _))) (@pvb_nil _ _ _))) ((@pvb_cons _ _ _ _ _ _ _ ((@pvs_ret _ _ _ _ _ _ ((@pv_allG _ _ _ _ _ _ _ _ _ _ _ _ _ _ _ _ _ _ _ _ _ _ _ (GnV.mk (k := (0)) (own := ([("low", 1), ("high", 2)])) (is := ([1, 2])) rfl sc_is_set.nd (hr.mono (by decide)) ⟨(blkOk_by (N := (["thing", "low", "high"])) (sc := (defScope st_is_set)) (by decide +kernel)), by decide +kernel, rfl, rfl⟩ rfl cb bmf (by decide) (fun A s H C cl code fp pn hr => ((@pvg_two _ _ _ _ _ _ _ _ _ _ _ rfl ((@qg_name _ _ _ 1 sc_is_set.nd (by rfl) (by first | exact Or.inl rfl | exact Or.inr rfl) (by first | exact Or.inl rfl | exact Or.inr rfl))) ((@qg_name _ _ _ 2 sc_is_set.nd (by rfl) (by first | exact Or.inl rfl | exact Or.inr rfl) (by first | exact Or.inl rfl | exact Or.inr rfl)))))) (fun A s H C cl code fp pn hr => (@pvts_nil _ _)) (fun A s H C cl code fp pn hr H0 F0 hF => ((@q_lt _ _ _ _ _ _ _ _ ((@q_var _ _ _ _ _ 1 (by rfl) (by first | exact Or.inl rfl | exact Or.inr ( Or.inl rfl ) | exact Or.inr ( Or.inr rfl )) (by decide) (by decide))) ((@q_var _ _ _ _ _ 2 (by rfl) (by first | exact Or.inl rfl | exact Or.inr ( Or.inl rfl ) | exact Or.inr ( Or.inr rfl )) (by decide) (by decide))) (by rfl)))) (fun _ => rfl)) hF hP ((@pvi_zip _ _ _ _ _ _ _ _ _ _ _ _ rfl m_zip ((@q_var _ _ _ _ _ 0 (by rfl) (by first | exact Or.inl rfl | exact Or.inr ( Or.inl rfl ) | exact Or.inr ( Or.inr rfl )) (by decide) (by decide))) ((@pv_slice _ _ _ _ _ _ _ _ _ _ _ ((@q_var _ _ _ _ _ 0 (by rfl) (by first | exact Or.inl rfl | exact Or.inr ( Or.inl rfl ) | exact Or.inr ( Or.inr rfl )) (by decide) (by decide))) ((@pvp_some _ _ _ _ _ (@pv_int _ _ _ _ _ _))) (@pvp_none _ _ _))) rfl rfl)) rfl m_all)))) (@pvb_nil _ _ _))))))))
def st_need_set : Stmt := PySem.Challenge.pw_fewsumlots_k63_each_number_comes.main.body.getD 10 (.Pass ⟨0, 0, 0, 0⟩)
theorem sc_need_set : FnScope ["thing"] ["thing"] (defScope st_need_set) := ⟨rfl, rfl, rfl, by decide +kernel, rfl, by decide +kernel, by decide +kernel⟩
def b_need_set : SF := (sSeq (sIf (tNotF (tVal (xCall G_is_set (lCons (xVar 0) lNil)))) (sSeq (sExc "raise") sNil) sNil) (sSeq (sIf (tBool (x2 hGt (xCall (f1 hLen) (lCons (xVar 0) lNil)) (xCon (.int 60)))) (sSeq (sExc "raise") sNil) sNil) sNil))
def G_need_set : FL := runF 1 b_need_set
theorem cal_need_set {P : Program} {w : World} {K : PySem.W.Frag} {mg : Str → Option Value} {base : Heap} {Ft : Hp} {f : Addr} {fd : FuncData} {cdv : Value} (F : FunV K "need_set" "need_set" st_need_set f fd cdv) (hm : mg "need_set" = some (.ref f))      (m_len : mg "len" = none) {t_MOST_NUMBERS : Tok} (v_MOST_NUMBERS : mg "MOST_NUMBERS" = some (.int 60 t_MOST_NUMBERS)) (C_is_set : Cal P w K mg base Ft "is_set" ["thing"] 4 G_is_set)  :
    Cal P w K mg base Ft "need_set" ["thing"] 5 G_need_set :=
  F.cal sc_need_set hm (fun _ _ _ _ _ _ us hl => match us , hl with | [_] , _ => rfl) (fun A outer s H E hr H0 F0 hF => ((@pvb_cons _ _ _ _ _ _ _ ((@pvs_if _ _ _ _ _ _ _ _ _ _ ((@pvt_not _ _ _ _ _ _ ((@q_val _ _ _ _ _ ((@q_call _ _ _ _ _ _ _ _ _ _ _ _ _ C_is_set hF (hr.mono (by decide)) ((@q_cons _ _ _ _ _ _ _ ((@q_var _ _ _ _ _ 0 (by rfl) (by first | exact Or.inl rfl | exact Or.inr ( Or.inl rfl ) | exact Or.inr ( Or.inr rfl )) (by decide) (by decide))) (@pvl_nil _ _ _) (by rfl))) (lCons_len lNil_len) (by rfl) (by rfl) (by decide) (by rfl) (by rfl))) (by first | (intro _ _; rfl) | (intro _; rfl) | (intro _ _ _; rfl)))))) ((@pvb_cons _ _ _ _ _ _ _ (@pvs_exc _ _ _ _ _) (@pvb_nil _ _ _))) (@pvb_nil _ _ _))) ((@pvb_cons _ _ _ _ _ _ _ ((@pvs_if _ _ _ _ _ _ _ _ _ _ ((@qt_gt _ _ _ _ _ _ _ _ ((@pv_len _ _ _ _ _ _ _ rfl m_len ((@q_var _ _ _ _ _ 0 (by rfl) (by first | exact Or.inl rfl | exact Or.inr ( Or.inl rfl ) | exact Or.inr ( Or.inr rfl )) (by decide) (by decide))) rfl)) ((@pv_glb _ _ _ _ _ _ _ rfl v_MOST_NUMBERS (by decide))) (by rfl))) ((@pvb_cons _ _ _ _ _ _ _ (@pvs_exc _ _ _ _ _) (@pvb_nil _ _ _))) (@pvb_nil _ _ _))) (@pvb_nil _ _ _))))))
def st_need_sets : Stmt := PySem.Challenge.pw_fewsumlots_k63_each_number_comes.main.body.getD 11 (.Pass ⟨0, 0, 0, 0⟩)
theorem sc_need_sets : FnScope ["one", "other"] ["one", "other"] (defScope st_need_sets) := ⟨rfl, rfl, rfl, by decide +kernel, rfl, by decide +kernel, by decide +kernel⟩
def b_need_sets : SF := (sSeq (sExpr (xCall G_need_set (lCons (xVar 0) lNil))) (sSeq (sExpr (xCall G_need_set (lCons (xVar 1) lNil))) sNil))
def G_need_sets : FL := runF 2 b_need_sets
theorem cal_need_sets {P : Program} {w : World} {K : PySem.W.Frag} {mg : Str → Option Value} {base : Heap} {Ft : Hp} {f : Addr} {fd : FuncData} {cdv : Value} (F : FunV K "need_sets" "need_sets" st_need_sets f fd cdv) (hm : mg "need_sets" = some (.ref f))        (C_need_set : Cal P w K mg base Ft "need_set" ["thing"] 5 G_need_set)  :
    Cal P w K mg base Ft "need_sets" ["one", "other"] 6 G_need_sets :=
  F.cal sc_need_sets hm (fun _ _ _ _ _ _ us hl => match us , hl with | [_, _] , _ => rfl) (fun A outer s H E hr H0 F0 hF => ((@pvb_cons _ _ _ _ _ _ _ ((@pvs_expr _ _ _ _ _ _ ((@q_call _ _ _ _ _ _ _ _ _ _ _ _ _ C_need_set hF (hr.mono (by decide)) ((@q_cons _ _ _ _ _ _ _ ((@q_var _ _ _ _ _ 0 (by rfl) (by first | exact Or.inl rfl | exact Or.inr ( Or.inl rfl ) | exact Or.inr ( Or.inr rfl )) (by decide) (by decide))) (@pvl_nil _ _ _) (by rfl))) (lCons_len lNil_len) (by rfl) (by rfl) (by decide) (by rfl) (by rfl))) rfl)) ((@pvb_cons _ _ _ _ _ _ _ ((@pvs_expr _ _ _ _ _ _ ((@q_call _ _ _ _ _ _ _ _ _ _ _ _ _ C_need_set hF (hr.mono (by decide)) ((@q_cons _ _ _ _ _ _ _ ((@q_var _ _ _ _ _ 1 (by rfl) (by first | exact Or.inl rfl | exact Or.inr ( Or.inl rfl ) | exact Or.inr ( Or.inr rfl )) (by decide) (by decide))) (@pvl_nil _ _ _) (by rfl))) (lCons_len lNil_len) (by rfl) (by rfl) (by decide) (by rfl) (by rfl))) rfl)) (@pvb_nil _ _ _))))))
def st_all_sums : Stmt := PySem.Challenge.pw_fewsumlots_k63_each_number_comes.main.body.getD 13 (.Pass ⟨0, 0, 0, 0⟩)
theorem sc_all_sums : FnScope ["one", "other", "a", "b"] ["one", "other"] (defScope st_all_sums) := ⟨rfl, rfl, rfl, by decide +kernel, rfl, by decide +kernel, by decide +kernel⟩
def b_all_sums : SF := (sSeq (sRet (xCall (f1 hTuple) (lCons (xSs2 (iSeq (xVar 0)) (gNm 2) tTrue (iSeq (xVar 1)) (gNm 3) tTrue (x2 hAdd (xVar 2) (xVar 3)) [2, 3] [3]) lNil))) sNil)
def G_all_sums : FL := runF 4 b_all_sums
theorem cal_all_sums {P : Program} {w : World} {K : PySem.W.Frag} {mg : Str → Option Value} {base : Heap} {Ft : Hp} {f : Addr} {fd : FuncData} {cdv : Value} (F : FunV K "all_sums" "all_sums" st_all_sums f fd cdv) (hm : mg "all_sums" = some (.ref f))      (m_sorted : mg "sorted" = none) (m_tuple : mg "tuple" = none)    :
    Cal P w K mg base Ft "all_sums" ["one", "other"] 1 G_all_sums :=
  F.cal sc_all_sums hm (fun _ _ _ _ _ _ us hl => match us , hl with | [_, _] , _ => rfl) (fun A outer s H E hr H0 F0 hF => ((@pvb_cons _ _ _ _ _ _ _ ((@pvs_ret _ _ _ _ _ _ ((@pv_tuple _ _ _ _ _ _ _ rfl m_tuple ((@pv_sortSc2 _ _ _ _ _ _ _ _ _ _ _ _ ([("a", 2), ("b", 3)]) ([3]) _ _ _ _ _ _ _ _ _ _ ([2]) ([3]) hF rfl sc_all_sums.nd ((@pvi_seq _ _ _ _ _ _ ((@q_var _ _ _ _ _ 0 (by rfl) (by first | exact Or.inl rfl | exact Or.inr ( Or.inl rfl ) | exact Or.inr ( Or.inr rfl )) (by decide) (by decide))))) (blkOk_by (N := (["one", "other", "a", "b"])) (sc := (defScope st_all_sums)) (by decide +kernel)) (by decide) (by decide) (by decide) (fun s H C cl fp => ((@qg_name _ _ _ 2 sc_all_sums.nd (by rfl) (by first | exact Or.inl rfl | exact Or.inr rfl) (by first | exact Or.inl rfl | exact Or.inr rfl)))) (fun s H C cl fp => (@pvts_nil _ _)) (fun s H C cl fp H0 F0 hF => ((@pvi_seq _ _ _ _ _ _ ((@q_var _ _ _ _ _ 1 (by rfl) (by first | exact Or.inl rfl | exact Or.inr ( Or.inl rfl ) | exact Or.inr ( Or.inr rfl )) (by decide) (by decide)))))) (fun s H C cl fp => ((@qg_name _ _ _ 3 sc_all_sums.nd (by rfl) (by first | exact Or.inl rfl | exact Or.inr rfl) (by first | exact Or.inl rfl | exact Or.inr rfl)))) (fun s H C cl fp => (@pvts_nil _ _)) (fun s H C cl fp H0 F0 hF => ((@pv_add _ _ _ _ _ _ _ _ ((@q_var _ _ _ _ _ 2 (by rfl) (by first | exact Or.inl rfl | exact Or.inr ( Or.inl rfl ) | exact Or.inr ( Or.inr rfl )) (by decide) (by decide))) ((@q_var _ _ _ _ _ 3 (by rfl) (by first | exact Or.inl rfl | exact Or.inr ( Or.inl rfl ) | exact Or.inr ( Or.inr rfl )) (by decide) (by decide)))))) (fun _ => rfl) (fun _ _ => rfl) rfl m_sorted rfl)) rfl)))) (@pvb_nil _ _ _))))
def st_sums : Stmt := PySem.Challenge.pw_fewsumlots_k63_each_number_comes.main.body.getD 14 (.Pass ⟨0, 0, 0, 0⟩)
theorem sc_sums : FnScope ["one", "other"] ["one", "other"] (defScope st_sums) := ⟨rfl, rfl, rfl, by decide +kernel, rfl, by decide +kernel, by decide +kernel⟩
def b_sums : SF := (sSeq (sExpr (xCall G_need_sets (lCons (xVar 0) (lCons (xVar 1) lNil)))) (sSeq (sRet (xCall G_all_sums (lCons (xVar 0) (lCons (xVar 1) lNil)))) sNil))
def G_sums : FL := runF 2 b_sums
theorem cal_sums {P : Program} {w : World} {K : PySem.W.Frag} {mg : Str → Option Value} {base : Heap} {Ft : Hp} {f : Addr} {fd : FuncData} {cdv : Value} (F : FunV K "sums" "sums" st_sums f fd cdv) (hm : mg "sums" = some (.ref f))        (C_all_sums : Cal P w K mg base Ft "all_sums" ["one", "other"] 1 G_all_sums) (C_need_sets : Cal P w K mg base Ft "need_sets" ["one", "other"] 6 G_need_sets)  :
    Cal P w K mg base Ft "sums" ["one", "other"] 7 G_sums :=
  F.cal sc_sums hm (fun _ _ _ _ _ _ us hl => match us , hl with | [_, _] , _ => rfl) (fun A outer s H E hr H0 F0 hF => ((@pvb_cons _ _ _ _ _ _ _ ((@pvs_expr _ _ _ _ _ _ ((@q_call _ _ _ _ _ _ _ _ _ _ _ _ _ C_need_sets hF (hr.mono (by decide)) ((@q_cons _ _ _ _ _ _ _ ((@q_var _ _ _ _ _ 0 (by rfl) (by first | exact Or.inl rfl | exact Or.inr ( Or.inl rfl ) | exact Or.inr ( Or.inr rfl )) (by decide) (by decide))) ((@q_cons _ _ _ _ _ _ _ ((@q_var _ _ _ _ _ 1 (by rfl) (by first | exact Or.inl rfl | exact Or.inr ( Or.inl rfl ) | exact Or.inr ( Or.inr rfl )) (by decide) (by decide))) (@pvl_nil _ _ _) (by rfl))) (by rfl))) (lCons_len (lCons_len lNil_len)) (by rfl) (by rfl) (by decide) (by rfl) (by rfl))) rfl)) ((@pvb_cons _ _ _ _ _ _ _ ((@pvs_ret _ _ _ _ _ _ ((@q_call _ _ _ _ _ _ _ _ _ _ _ _ _ C_all_sums hF (hr.mono (by decide)) ((@q_cons _ _ _ _ _ _ _ ((@q_var _ _ _ _ _ 0 (by rfl) (by first | exact Or.inl rfl | exact Or.inr ( Or.inl rfl ) | exact Or.inr ( Or.inr rfl )) (by decide) (by decide))) ((@q_cons _ _ _ _ _ _ _ ((@q_var _ _ _ _ _ 1 (by rfl) (by first | exact Or.inl rfl | exact Or.inr ( Or.inl rfl ) | exact Or.inr ( Or.inr rfl )) (by decide) (by decide))) (@pvl_nil _ _ _) (by rfl))) (by rfl))) (lCons_len (lCons_len lNil_len)) (by rfl) (by rfl) (by decide) (by rfl) (by rfl))))) (@pvb_nil _ _ _))))))
def st_law : Stmt := PySem.Challenge.pw_fewsumlots_k63_each_number_comes.main.body.getD 24 (.Pass ⟨0, 0, 0, 0⟩)
theorem sc_law : FnScope ["_law_script", "_law_many", "_law_known", "_law_number", "_law_least", "_law_most", "_law_some"] ["_law_script"] (defScope st_law) := ⟨rfl, rfl, rfl, by decide +kernel, rfl, by decide +kernel, by decide +kernel⟩
def f_law_0 (p : Addr) : SFT := (sForT (iRng2F (xVar 4) (x2 hAdd (xVar 5) (xCon (.int 1)))) (gNm 3) (tSeq (tLift (sSet 6 (xCall G_set_with_sums (lCons (xVar 1) (lCons (xVar 3) lNil))))) (tSeq (tChk fun c => (tOrF (tBool (x2 hNe (xCall (f1 hLen) (lCons (xVar 6) lNil)) (xVar 1))) (tOrF (tBool (x2 hNe (xCall (f1 hLen) (lCons (xCall G_sums (lCons (xVar 6) (lCons (xVar 6) lNil))) lNil)) (xVar 3))) (tBool (x2 (hTN p c) (xVar 6) (xVar 2)))))) (tPut p 2 (xVar 6) (xCon (.bool true))))))
def b_law : SF := (sSeq (sSet 1 (x2 hAdd (xCon (.int 2)) (xCall G__law_draw (lCons (xCall G__law_cell_at (lCons (xVar 0) (lCons (xCon (.int 0)) lNil))) (lCons (xCon (.int 0)) (lCons (xCon (.int 8)) lNil)))))) (sSeq (sUnp (gTwo (gNm 4) (gNm 5)) (xCall G_ends_of_sums (lCons (xVar 1) lNil))) (sSeq (sIf (tBool (x2 hNe (xTup (lCons (xVar 4) (lCons (xVar 5) lNil))) (xTup (lCons (x2 hSub (x2 hMul (xCon (.int 2)) (xVar 1)) (xCon (.int 1))) (lCons (x2 hDiv (x2 hMul (xVar 1) (x2 hAdd (xVar 1) (xCon (.int 1)))) (xCon (.int 2))) lNil))))) (sSeq (sRet (xCon (.bool false))) sNil) sNil) (sSeq (sSet 2 xDct) (sSeq (sDeepT 2 f_law_0) (sSeq (sRet (xCon (.bool true))) sNil))))))
def G_law : FL := runF 7 b_law
theorem fn_law {P : Program} {w : World} {K : PySem.W.Frag} {mg : Str → Option Value} {base : Heap} {Ft : Hp} {f : Addr} {fd : FuncData} {cdv : Value} (F : FunV K "law" "law" st_law f fd cdv)      (m_len : mg "len" = none) (m_range : mg "range" = none)  (C_set_with_sums : Cal P w K mg base Ft "set_with_sums" ["many", "number"] 4 G_set_with_sums) (C_sums : Cal P w K mg base Ft "sums" ["one", "other"] 7 G_sums) (C_ends_of_sums : Cal P w K mg base Ft "ends_of_sums" ["many"] 3 G_ends_of_sums) (C__law_cell_at : Cal P w K mg base Ft "_law_cell_at" ["_law_script", "_law_k"] 1 G__law_cell_at) (C__law_draw : Cal P w K mg base Ft "_law_draw" ["_law_cell", "_law_k", "_law_bound"] 1 G__law_draw)  :
    FnOk P w K mg base CX0 8 f fd ["_law_script"] (spV K Ft 1 G_law) :=
  F.ok sc_law (fun A outer s H E hr H0 F0 hF => ((@pvb_cons _ _ _ _ _ _ _ ((@q_set _ _ _ _ _ _ _ _ (1) sc_law.nd ((@pv_add _ _ _ _ _ _ _ _ (@pv_int _ _ _ _ _ _) ((@q_call _ _ _ _ _ _ _ _ _ _ _ _ _ C__law_draw hF (hr.mono (by decide)) ((@q_cons _ _ _ _ _ _ _ ((@q_call _ _ _ _ _ _ _ _ _ _ _ _ _ C__law_cell_at hF (hr.mono (by decide)) ((@q_cons _ _ _ _ _ _ _ ((@q_var _ _ _ _ _ 0 (by rfl) (by first | exact Or.inl rfl | exact Or.inr ( Or.inl rfl ) | exact Or.inr ( Or.inr rfl )) (by decide) (by decide))) ((@q_cons _ _ _ _ _ _ _ (@pv_int _ _ _ _ _ _) (@pvl_nil _ _ _) (by rfl))) (by rfl))) (lCons_len (lCons_len lNil_len)) (by rfl) (by rfl) (by decide) (by rfl) (by rfl))) ((@q_cons _ _ _ _ _ _ _ (@pv_int _ _ _ _ _ _) ((@q_cons _ _ _ _ _ _ _ (@pv_int _ _ _ _ _ _) (@pvl_nil _ _ _) (by rfl))) (by rfl))) (by rfl))) (lCons_len (lCons_len (lCons_len lNil_len))) (by rfl) (by rfl) (by decide) (by rfl) (by rfl))))) (by rfl) (by first | exact Or.inl rfl | exact Or.inr rfl) (by first | exact Or.inl rfl | exact Or.inr rfl) (by rfl))) ((@pvb_cons _ _ _ _ _ _ _ ((@pvs_unp _ _ _ _ _ _ _ _ _ ((@q_call _ _ _ _ _ _ _ _ _ _ _ _ _ C_ends_of_sums hF (hr.mono (by decide)) ((@q_cons _ _ _ _ _ _ _ ((@q_var _ _ _ _ _ 1 (by rfl) (by first | exact Or.inl rfl | exact Or.inr ( Or.inl rfl ) | exact Or.inr ( Or.inr rfl )) (by decide) (by decide))) (@pvl_nil _ _ _) (by rfl))) (lCons_len lNil_len) (by rfl) (by rfl) (by decide) (by rfl) (by rfl))) ((@pvg_two _ _ _ _ _ _ _ _ _ _ _ rfl ((@qg_name _ _ _ 4 sc_law.nd (by rfl) (by first | exact Or.inl rfl | exact Or.inr rfl) (by first | exact Or.inl rfl | exact Or.inr rfl))) ((@qg_name _ _ _ 5 sc_law.nd (by rfl) (by first | exact Or.inl rfl | exact Or.inr rfl) (by first | exact Or.inl rfl | exact Or.inr rfl))))) (by rfl) (by rfl) (by rfl))) ((@pvb_cons _ _ _ _ _ _ _ ((@pvs_if _ _ _ _ _ _ _ _ _ _ ((@qt_ne _ _ _ _ _ _ _ _ _ hr ((@pv_tup _ _ _ _ _ _ _ ((@q_cons _ _ _ _ _ _ _ ((@q_var _ _ _ _ _ 4 (by rfl) (by first | exact Or.inl rfl | exact Or.inr ( Or.inl rfl ) | exact Or.inr ( Or.inr rfl )) (by decide) (by decide))) ((@q_cons _ _ _ _ _ _ _ ((@q_var _ _ _ _ _ 5 (by rfl) (by first | exact Or.inl rfl | exact Or.inr ( Or.inl rfl ) | exact Or.inr ( Or.inr rfl )) (by decide) (by decide))) (@pvl_nil _ _ _) (by rfl))) (by rfl))))) ((@pv_tup _ _ _ _ _ _ _ ((@q_cons _ _ _ _ _ _ _ ((@pv_sub _ _ _ _ _ _ _ _ ((@pv_mul _ _ _ _ _ _ _ _ (@pv_int _ _ _ _ _ _) ((@q_var _ _ _ _ _ 1 (by rfl) (by first | exact Or.inl rfl | exact Or.inr ( Or.inl rfl ) | exact Or.inr ( Or.inr rfl )) (by decide) (by decide))))) (@pv_int _ _ _ _ _ _))) ((@q_cons _ _ _ _ _ _ _ ((@pv_div _ _ _ _ _ _ _ _ ((@pv_mul _ _ _ _ _ _ _ _ ((@q_var _ _ _ _ _ 1 (by rfl) (by first | exact Or.inl rfl | exact Or.inr ( Or.inl rfl ) | exact Or.inr ( Or.inr rfl )) (by decide) (by decide))) ((@pv_add _ _ _ _ _ _ _ _ ((@q_var _ _ _ _ _ 1 (by rfl) (by first | exact Or.inl rfl | exact Or.inr ( Or.inl rfl ) | exact Or.inr ( Or.inr rfl )) (by decide) (by decide))) (@pv_int _ _ _ _ _ _))))) (@pv_int _ _ _ _ _ _))) (@pvl_nil _ _ _) (by rfl))) (by rfl))))) (by rfl))) ((@pvb_cons _ _ _ _ _ _ _ ((@pvs_ret _ _ _ _ _ _ (@pv_bl _ _ _ _ _ _))) (@pvb_nil _ _ _))) (@pvb_nil _ _ _))) ((@pvb_cons _ _ _ _ _ _ _ ((@q_set _ _ _ _ _ _ _ _ (2) sc_law.nd (@pv_dnew _ _ _ _) (by rfl) (by first | exact Or.inl rfl | exact Or.inr rfl) (by first | exact Or.inl rfl | exact Or.inr rfl) (by rfl))) ((@pvb_cons _ _ _ _ _ _ _ (pvs_deepT (i := (2)) (f := (f_law_0)) hF (fun p => (pvst_for (is := ([3])) rfl PassesOwn.never (fun H0 F0 hF => ((@pvi_rng2 _ _ _ _ _ _ _ _ _ _ rfl m_range ((@q_var _ _ _ _ _ 4 (by rfl) (by first | exact Or.inl rfl | exact Or.inr ( Or.inl rfl ) | exact Or.inr ( Or.inr rfl )) (by decide) (by decide))) ((@pv_add _ _ _ _ _ _ _ _ ((@q_var _ _ _ _ _ 5 (by rfl) (by first | exact Or.inl rfl | exact Or.inr ( Or.inl rfl ) | exact Or.inr ( Or.inr rfl )) (by decide) (by decide))) (@pv_int _ _ _ _ _ _))) rfl rfl))) ((@qg_name _ _ _ 3 sc_law.nd (by rfl) (by first | exact Or.inl rfl | exact Or.inr rfl) (by first | exact Or.inl rfl | exact Or.inr rfl))) (pvbt_cons (pvst_lift (fun H0 F0 hF => ((@q_set _ _ _ _ _ _ _ _ (6) sc_law.nd ((@q_call _ _ _ _ _ _ _ _ _ _ _ _ _ C_set_with_sums hF (hr.mono (by decide)) ((@q_cons _ _ _ _ _ _ _ ((@q_var _ _ _ _ _ 1 (by rfl) (by first | exact Or.inl rfl | exact Or.inr ( Or.inl rfl ) | exact Or.inr ( Or.inr rfl )) (by decide) (by decide))) ((@q_cons _ _ _ _ _ _ _ ((@q_var _ _ _ _ _ 3 (by rfl) (by first | exact Or.inl rfl | exact Or.inr ( Or.inl rfl ) | exact Or.inr ( Or.inr rfl )) (by decide) (by decide))) (@pvl_nil _ _ _) (by rfl))) (by rfl))) (lCons_len (lCons_len lNil_len)) (by rfl) (by rfl) (by decide) (by rfl) (by rfl))) (by rfl) (by first | exact Or.inl rfl | exact Or.inr rfl) (by first | exact Or.inl rfl | exact Or.inr rfl) (by rfl))))) (pvbt_cons (pvst_chk (fun H0 F0 H1 c hF R => (PVW.t ((@pvw_or _ _ _ _ _ _ _ _ _ ((@qt_ne _ _ _ _ _ _ _ _ _ hr ((@pv_len _ _ _ _ _ _ _ rfl m_len ((@q_var _ _ _ _ _ 6 (by rfl) (by first | exact Or.inl rfl | exact Or.inr ( Or.inl rfl ) | exact Or.inr ( Or.inr rfl )) (by decide) (by decide))) rfl)) ((@q_var _ _ _ _ _ 1 (by rfl) (by first | exact Or.inl rfl | exact Or.inr ( Or.inl rfl ) | exact Or.inr ( Or.inr rfl )) (by decide) (by decide))) (by rfl))) ((@pvw_or _ _ _ _ _ _ _ _ _ ((@qt_ne _ _ _ _ _ _ _ _ _ hr ((@pv_len _ _ _ _ _ _ _ rfl m_len ((@q_call _ _ _ _ _ _ _ _ _ _ _ _ _ C_sums hF (hr.mono (by decide)) ((@q_cons _ _ _ _ _ _ _ ((@q_var _ _ _ _ _ 6 (by rfl) (by first | exact Or.inl rfl | exact Or.inr ( Or.inl rfl ) | exact Or.inr ( Or.inr rfl )) (by decide) (by decide))) ((@q_cons _ _ _ _ _ _ _ ((@q_var _ _ _ _ _ 6 (by rfl) (by first | exact Or.inl rfl | exact Or.inr ( Or.inl rfl ) | exact Or.inr ( Or.inr rfl )) (by decide) (by decide))) (@pvl_nil _ _ _) (by rfl))) (by rfl))) (lCons_len (lCons_len lNil_len)) (by rfl) (by rfl) (by decide) (by rfl) (by rfl))) rfl)) ((@q_var _ _ _ _ _ 3 (by rfl) (by first | exact Or.inl rfl | exact Or.inr ( Or.inl rfl ) | exact Or.inr ( Or.inr rfl )) (by decide) (by decide))) (by rfl))) ((@pvw_or1 _ _ _ _ _ _ (qt_tIn hr R ((@q_var _ _ _ _ _ 6 (by rfl) (by first | exact Or.inl rfl | exact Or.inr ( Or.inl rfl ) | exact Or.inr ( Or.inr rfl )) (by decide) (by decide))) ((@q_var _ _ _ _ _ 2 (by rfl) (by first | exact Or.inl rfl | exact Or.inr ( Or.inl rfl ) | exact Or.inr ( Or.inr rfl )) (by decide) (by decide))) (by with_unfolding_all rfl))))))))))) (pvbt_one (pvst_put 2 hr (fun H0 F0 hF => ((@q_var _ _ _ _ _ 6 (by rfl) (by first | exact Or.inl rfl | exact Or.inr ( Or.inl rfl ) | exact Or.inr ( Or.inr rfl )) (by decide) (by decide)))) (fun H0 F0 hF => (@pv_bl _ _ _ _ _ _)))))) (fun _ => rfl)))) ((@pvb_cons _ _ _ _ _ _ _ ((@pvs_ret _ _ _ _ _ _ (@pv_bl _ _ _ _ _ _))) (@pvb_nil _ _ _))))))))))))))
end
end L2.Fs
set_option Elab.async false
set_option linter.all false
set_option maxRecDepth 100000
namespace L2.Fs
open PySem PySem.Spec PyProof.Rows
local macro_rules | `(tactic| simp? [$ts,*]) => `(tactic| simp -implicitDefEqProofs (disch := first | with_reducible assumption | omega | (exact sm_ok (by omega) (by omega)) | (simp only [List.length_map, List.length_append, List.length_cons, List.length_nil]; omega) | decide) only [ap_dct, kUnb_0, kUn_0, ap_unp, kRes_0, kX2b_0, kX2_0, ap_x2, kX1_0, ap_x1, ap_con, ap_lnil, kLb_0, kL_0, ap_lcons, kCall_0, ap_call, ap_f1, kAnd_1, ap_and, kTv_0, ap_tval, kTb_0, ap_tbool, kTn_0, ap_tnot, kTo_1, ap_tor, ap_ttrue, ap_pnone, kPs_0, ap_psome, kSlc_1, kSlb_0, kSla_0, ap_sl, kIs_1, ap_iseq, kRg_0, ap_irng, kZpb_3, kZp_0, ap_izip, kSeq_0, kSeq_1, ap_seq, ap_nil, kEx_0, ap_expr, kRt_0, ap_ret, kIf_0, kIf_1, ap_if, kFor_0, ap_for, kRun_0, kRun_1, ap_run, v0v, v1v, aS1, s1v, g1, v2v, aS2, s2o, g2, v3v, aS3, s3v, g3, v4v, aS4, s4v, g4, g5, v6v, aS6, s6v, g6, g7, g8, g9, g10, kGt_0, ap_gtwo, kTurc_0, kTurb_0, kTur_0, ap_turn, kGob_0, kGo_0, ap_gout, kAll_0, ap_allg, kS2b_0, kS2_0, ap_ss2, kT2c_0, kT2b_0, kT2_0, ap_turn2, sh_val, sh_non, lv_val, lv_non, vl_some, vl_non, shareE_nil, shareE_cons, valE_nil, valE_cons, lvE_nil, lvE_cons, wipe_nil, wipe_cons, ev_add, ev_lt, ev_gt, ev_ge, ev_lenL, ev_lenT, ev_tupL, isi_int_dict, isi_tuple_tuple, ev_ne, ev_mod, ev_div, ev_mul, ev_pow, O.bind_ok, List.set_cons_zero, List.set_cons_succ, List.length_cons, List.length_nil, List.map_cons, List.map_nil, List.cons_append, List.nil_append, List.replicate_succ, List.replicate_zero, decide_true, decide_false, Nat.reduceAdd, Nat.reduceSub, Nat.reduceLT, Nat.reduceLeDiff, Int.reduceAdd, Int.reduceSub, Int.reduceMul, Int.reduceNeg, Int.reduceLT, Int.reduceLE, Int.reducePow, Int.reduceToNat, Int.toNat_natCast, Int.reduceEq, ↓reduceIte, Bool.false_eq_true, Bool.not_true, Bool.not_false, $ts,*])
theorem draw_ok (c k b : Int) (h0 : 0 ≤ k) (h1 : k < 1000) (hb : 0 < b) (hb2 : b < 1000000000000) : ∃ v : Int, G__law_draw [.int c, .int k, .int b] = .ok (.int v, false) ∧ 0 ≤ v ∧ v < b := by
  have hb0 : b ≠ 0 := by omega
  have hbs : smallI b = true := sm_ok (by omega) (by omega)
  by_cases h : (1000000000000000000 : Int) ≤ c
  · obtain ⟨σ', e, l', x', rfl⟩ := forF_inv (tg := gNm 5) (b := f__law_draw_0) (I := fun σ => ∃ l x, σ = [some (.val, .int c), some (.val, .int k), some (.val, .int b), none, some (.val, .int l), x]) (rngD 0 k.toNat) [some (.val, .int c), some (.val, .int k), some (.val, .int b), none, some (.val, .int c), none] ⟨c, none, rfl⟩
      (fun d _ σ ⟨l, x, e⟩ => by subst e; exact ⟨_, by simp? [f__law_draw_0] <;> rfl, _, _, rfl⟩)
    obtain ⟨g1, g2⟩ := fmod_bd l' hb
    refine ⟨l'.fmod b, ?_, g1, g2⟩
    unfold G__law_draw b__law_draw
    simp? [h, e]
  · obtain ⟨m1, m2⟩ := fmod_bd c (j := 1000000007) (by decide)
    obtain ⟨p1, p2⟩ := fmod_bd ((c.fmod 1000000007 + 1009 * k + 17) * 69621) (j := 2147483647) (by decide)
    generalize hs1 : ((c.fmod 1000000007 + 1009 * k + 17) * 69621).fmod 2147483647 = s1 at p1 p2
    obtain ⟨q1, q2⟩ := fmod_bd (s1 * s1 + 40503 * k + 5) (j := 2147483629) (by decide)
    generalize hs2 : (s1 * s1 + 40503 * k + 5).fmod 2147483629 = s2 at q1 q2
    obtain ⟨g1, g2⟩ := fmod_bd (((s2 * 48271).fmod 2147483647).fdiv 32) hb
    refine ⟨(((s2 * 48271).fmod 2147483647).fdiv 32).fmod b, ?_, g1, g2⟩
    unfold G__law_draw b__law_draw
    simp? [h, hs1, hs2]
theorem whole_ok {d : Y} (h : excD d = false) : G_is_whole [d] = .ok (.bool (wholeD d), false) := by
  cases d with
  | dict l =>
    have h : excL l = false := h
    unfold G_is_whole b_is_whole
    simp? [h, wholeD]
  | _ => rfl
theorem ints_nx {ns : List Int} : ∀ d ∈ ns.map PyData.int, excD d = false := fun d hd => by
  obtain ⟨n, _, rfl⟩ := List.mem_map.mp hd
  rfl
theorem are_ok {ds : List Y} (hz : ds.length ≤ 16000) (hx : ∀ d ∈ ds, excD d = false) : G_are_whole [.tuple ds] = .ok (.bool (ds.all wholeD), false) := by
  unfold G_are_whole b_are_whole
  simp? []
  rw [go_map (g := fun d => .bool (wholeD d)) fun d hd => by
    have h := hx d hd
    simp? [whole_ok]]
  simp? []
theorem isset_ok {ns : List Int} (hz : ns.length ≤ 1000) : G_is_set [.tuple (ns.map .int)] = .ok (.bool (risD ns), false) := by
  unfold G_is_set b_is_set
  have hl : ((ns.zip (ns.drop 1)).map fun p => (PyData.tuple [.int p.1, .int p.2])).length ≤ 16000 := by rw [List.length_map, List.length_zip]; omega
  have h1 : (ns.map PyData.int).length ≤ 16000 := by rw [List.length_map]; omega
  have hc : cutD (ns.map PyData.int) (some 1) none = (ns.map PyData.int).drop 1 := cut_from _ 1
  simp? [are_ok h1 ints_nx, whole_ints, hc, zip_ris]
  rw [go_mapf (g := fun p => .bool (decide (p.1 < p.2))) fun p _ => by simp? []]
  simp? [ris_zip]
theorem need_ok {ns : List Int} (h : risD ns = true) (hl : ns.length ≤ 60) : G_need_set [.tuple (ns.map .int)] = .ok (.none, false) := by
  unfold G_need_set b_need_set
  have h2 : ¬ (60 : Int) < ((ns.map PyData.int).length : Int) := by rw [List.length_map]; omega
  simp? [isset_ok (show ns.length ≤ 1000 by omega), h, h2]
theorem needs_ok {a b : List Int} (ha : risD a = true) (la : a.length ≤ 60) (hb : risD b = true) (lb : b.length ≤ 60) : G_need_sets [.tuple (a.map .int), .tuple (b.map .int)] = .ok (.none, false) := by
  unfold G_need_sets b_need_sets
  simp? [need_ok ha la, need_ok hb lb]
def sumsD (a b : List Int) : List Int := a.flatMap fun x => b.map fun y => x + y
theorem sumsD_len (a b : List Int) : (sumsD a b).length = a.length * b.length := by
  unfold sumsD
  induction a with
  | nil => simp
  | cons n a ih => rw [List.flatMap_cons, List.length_append, ih, List.length_map, List.length_cons, Nat.succ_mul]; omega
theorem allsums_ok {a b : List Int} (h : a.length * b.length < 4095) : G_all_sums [.tuple (a.map .int), .tuple (b.map .int)] = .ok (.tuple ((ssD (sumsD a b)).map .int), false) := by
  unfold G_all_sums b_all_sums
  simp? []
  rw [go2_ints (g := fun x => b.map fun y => .int (x + y)) fun x _ => by
    simp? []
    rw [go_ints (g := fun y => .int (x + y)) fun y _ => by simp? []]]
  have e : (a.flatMap fun x => b.map fun y => PyData.int (x + y)) = (sumsD a b).map .int := by
    unfold sumsD
    rw [List.map_flatMap]
    simp only [List.map_map]
    rfl
  have hz : (sumsD a b).length < 4095 := by rw [sumsD_len]; exact h
  rw [e]
  simp? []
theorem sums_ok {a b : List Int} (ha : risD a = true) (la : a.length ≤ 60) (hb : risD b = true) (lb : b.length ≤ 60) (h : a.length * b.length < 4095) : G_sums [.tuple (a.map .int), .tuple (b.map .int)] = .ok (.tuple ((ssD (sumsD a b)).map .int), false) := by
  unfold G_sums b_sums
  simp? [needs_ok ha la hb lb, allsums_ok h]
theorem cellat_ok (ns : List Int) (k : Nat) : G__law_cell_at [.list (ns.map .int), .int (k : Int)] = .ok (.int (ns.getD k 0), false) := by
  unfold G__law_cell_at b__law_cell_at
  have hl : (ns.map PyData.int).length = ns.length := List.length_map ..
  by_cases h : k < ns.length
  · have h1 : ((k : Nat) : Int) < (ns.length : Int) := by omega
    have hix : hIx (.list (ns.map .int)) (.int (k : Int)) = .ok (.int (ns.getD k 0), false) := ix_L (by rw [List.getElem?_map, List.getElem?_eq_getElem h, List.getD_eq_getElem?_getD, List.getElem?_eq_getElem h]; rfl)
    simp? [hl, h1, hix]
  · have h1 : ¬ ((k : Nat) : Int) < (ns.length : Int) := by omega
    have e : ns.getD k 0 = 0 := by rw [List.getD_eq_getElem?_getD, List.getElem?_eq_none (by omega)]; rfl
    simp? [hl, h1, e]
end L2.Fs
set_option Elab.async false
set_option linter.all false
set_option maxRecDepth 100000
namespace L2.Fs
open PySem PySem.Spec PyProof.Rows
local macro_rules | `(tactic| simp? [$ts,*]) => `(tactic| simp -implicitDefEqProofs (disch := first | with_reducible assumption | omega | (exact sm_ok (by omega) (by omega)) | (simp only [List.length_map, List.length_append, List.length_cons, List.length_nil]; omega) | decide) only [ap_dct, kUnb_0, kUn_0, ap_unp, kRes_0, kX2b_0, kX2_0, ap_x2, kX1_0, ap_x1, ap_con, ap_lnil, kLb_0, kL_0, ap_lcons, kCall_0, ap_call, ap_f1, kAnd_1, ap_and, kTv_0, ap_tval, kTb_0, ap_tbool, kTn_0, ap_tnot, kTo_1, ap_tor, ap_ttrue, ap_pnone, kPs_0, ap_psome, kSlc_1, kSlb_0, kSla_0, ap_sl, kIs_1, ap_iseq, kRg_0, ap_irng, kZpb_3, kZp_0, ap_izip, kSeq_0, kSeq_1, ap_seq, ap_nil, kEx_0, ap_expr, kRt_0, ap_ret, kIf_0, kIf_1, ap_if, kFor_0, ap_for, kRun_0, kRun_1, ap_run, v0v, v1v, aS1, s1v, g1, v2v, aS2, s2o, g2, v3v, aS3, s3v, g3, v4v, aS4, s4v, g4, g5, v6v, aS6, s6v, g6, g7, g8, g9, g10, kGt_0, ap_gtwo, kTurc_0, kTurb_0, kTur_0, ap_turn, kGob_0, kGo_0, ap_gout, kAll_0, ap_allg, kS2b_0, kS2_0, ap_ss2, kT2c_0, kT2b_0, kT2_0, ap_turn2, sh_val, sh_non, lv_val, lv_non, vl_some, vl_non, shareE_nil, shareE_cons, valE_nil, valE_cons, lvE_nil, lvE_cons, wipe_nil, wipe_cons, ev_add, ev_lt, ev_gt, ev_ge, ev_lenL, ev_lenT, ev_tupL, isi_int_dict, isi_tuple_tuple, ev_ne, ev_mod, ev_div, ev_mul, ev_pow, O.bind_ok, List.set_cons_zero, List.set_cons_succ, List.length_cons, List.length_nil, List.map_cons, List.map_nil, List.cons_append, List.nil_append, List.replicate_succ, List.replicate_zero, decide_true, decide_false, Nat.reduceAdd, Nat.reduceSub, Nat.reduceLT, Nat.reduceLeDiff, Int.reduceAdd, Int.reduceSub, Int.reduceMul, Int.reduceNeg, Int.reduceLT, Int.reduceLE, Int.reducePow, Int.reduceToNat, Int.toNat_natCast, Int.reduceEq, ↓reduceIte, Bool.false_eq_true, Bool.not_true, Bool.not_false, $ts,*])
theorem seq_le {a a' b b' : SF} (h1 : ∀ σ r, a' σ = .ok r → a σ = .ok r) (h2 : ∀ σ r, b' σ = .ok r → b σ = .ok r) (σ : Ev) (r : Fl) (h : sSeq a' b' σ = .ok r) : sSeq a b σ = .ok r := by
  obtain ⟨q, e1, e2⟩ := O.of_bind h
  show (a σ).bind _ = _
  rw [h1 σ q e1, O.bind_ok]
  cases q with
  | nx σ' => exact h2 σ' r e2
  | _ => exact e2
def wF (c : TF) (b : SF) : SF := fun σ => whF c b 12 σ
theorem wh_le (c : TF) (b : SF) (σ : Ev) (r : Fl) (h : wF c b σ = .ok r) : sWh c b σ = .ok r := sWh_of h
def bC : SF := (sSeq (sUnp (gTwo (gNm 5) (gNm 6)) (xCall G_ends_of_sums (lCons (xVar 0) lNil))) (sSeq (sIf (tOrF (tNotF (tVal (xCall G_is_whole (lCons (xVar 1) lNil)))) (tOrF (tBool (x2 hLt (xVar 1) (xVar 5))) (tBool (x2 hGt (xVar 1) (xVar 6))))) (sSeq (sExc "raise") sNil) sNil) (sSeq (sSet 2 (xVar 0)) (sSeq (wF (tAndF (tBool (x2 hGt (xVar 2) (xCon (.int 1)))) (tBool (x2 hGt (xVar 1) (x2 hSub (x2 hMul (xCon (.int 3)) (xVar 2)) (xCon (.int 3)))))) w_set_with_sums_1) (sSeq (sSet 3 (xCall G_set_with_few_sums (lCons (xVar 2) (lCons (xVar 1) lNil)))) (sSeq (sFor (iRng (x2 hSub (xVar 0) (xVar 2))) (gNm 4) f_set_with_sums_0) (sSeq (sRetV 3) sNil)))))))
theorem bC_le (σ : Ev) (r : Fl) (h : bC σ = .ok r) : b_set_with_sums σ = .ok r :=
  seq_le (fun _ _ e => e) (seq_le (fun _ _ e => e) (seq_le (fun _ _ e => e) (seq_le (wh_le _ _) fun _ _ e => e))) σ r h
def GC : FL := runF 7 bC
theorem GC_le {ds : List Y} {r : Y × Bool} (h : GC ds = .ok r) : G_set_with_sums ds = .ok r := by
  obtain ⟨q, e1, e2⟩ := O.of_bind h
  show (b_set_with_sums _).bind _ = _
  rw [bC_le _ q e1]
  exact e2
def kn (S : List Int) : Int := (((sumsD S S).foldl insK []).length : Nat)
theorem kn_ss (S : List Int) : ((ssD (sumsD S S)).length : Int) = kn S := by
  unfold ssD kn
  rw [(srt_perm _).length_eq]
def chk (m n : Int) : Bool := match GC [.int m, .int n] with
  | .ok (.tuple ds, false) => (match intsD ds with
    | some S => decide ((S.length : Int) = m) && risD S && decide (kn S = n) && decide (S.length ≤ 9)
    | none => false)
  | _ => false
theorem chk_ok {m n : Int} (h : chk m n = true) : ∃ S : List Int, G_set_with_sums [.int m, .int n] = .ok (.tuple (S.map .int), false) ∧ (S.length : Int) = m ∧ risD S = true ∧ kn S = n ∧ S.length ≤ 9 := by
  unfold chk at h
  split at h
  · rename_i ds hg
    split at h
    · rename_i S hS
      have := intsD_some' hS
      subst this
      simp only [Bool.and_eq_true, decide_eq_true_eq] at h
      exact ⟨S, GC_le hg, h.1.1.1, h.1.1.2, h.1.2, h.2⟩
    · cases h
  · cases h
def hiM (m : Nat) : Nat := m * (m + 1) / 2
theorem chk_all : (List.range' 2 8).all (fun m => (List.range' (2 * m - 1) (hiM m + 2 - 2 * m)).all fun n => chk (m : Int) (n : Int)) = true := by decide +kernel
end L2.Fs
set_option Elab.async false
set_option linter.all false
set_option maxRecDepth 100000
namespace L2.Fs
open PySem PySem.Spec PyProof.Rows
local macro_rules | `(tactic| simp? [$ts,*]) => `(tactic| simp -implicitDefEqProofs (disch := first | with_reducible assumption | omega | (exact sm_ok (by omega) (by omega)) | (simp only [List.length_map, List.length_append, List.length_cons, List.length_nil]; omega) | decide) only [ap_dct, kUnb_0, kUn_0, ap_unp, kRes_0, kX2b_0, kX2_0, ap_x2, kX1_0, ap_x1, ap_con, ap_lnil, kLb_0, kL_0, ap_lcons, kCall_0, ap_call, ap_f1, kAnd_1, ap_and, kTv_0, ap_tval, kTb_0, ap_tbool, kTn_0, ap_tnot, kTo_1, ap_tor, ap_ttrue, ap_pnone, kPs_0, ap_psome, kSlc_1, kSlb_0, kSla_0, ap_sl, kIs_1, ap_iseq, kRg_0, ap_irng, kZpb_3, kZp_0, ap_izip, kSeq_0, kSeq_1, ap_seq, ap_nil, kEx_0, ap_expr, kRt_0, ap_ret, kIf_0, kIf_1, ap_if, kFor_0, ap_for, kRun_0, kRun_1, ap_run, v0v, v1v, aS1, s1v, g1, v2v, aS2, s2o, g2, v3v, aS3, s3v, g3, v4v, aS4, s4v, g4, g5, v6v, aS6, s6v, g6, g7, g8, g9, g10, kGt_0, ap_gtwo, kTurc_0, kTurb_0, kTur_0, ap_turn, kGob_0, kGo_0, ap_gout, kAll_0, ap_allg, kS2b_0, kS2_0, ap_ss2, kT2c_0, kT2b_0, kT2_0, ap_turn2, sh_val, sh_non, lv_val, lv_non, vl_some, vl_non, shareE_nil, shareE_cons, valE_nil, valE_cons, lvE_nil, lvE_cons, wipe_nil, wipe_cons, ev_add, ev_lt, ev_gt, ev_ge, ev_lenL, ev_lenT, ev_tupL, isi_int_dict, isi_tuple_tuple, ev_ne, ev_mod, ev_div, ev_mul, ev_pow, O.bind_ok, List.set_cons_zero, List.set_cons_succ, List.length_cons, List.length_nil, List.map_cons, List.map_nil, List.cons_append, List.nil_append, List.replicate_succ, List.replicate_zero, decide_true, decide_false, Nat.reduceAdd, Nat.reduceSub, Nat.reduceLT, Nat.reduceLeDiff, Int.reduceAdd, Int.reduceSub, Int.reduceMul, Int.reduceNeg, Int.reduceLT, Int.reduceLE, Int.reducePow, Int.reduceToNat, Int.toNat_natCast, Int.reduceEq, ↓reduceIte, Bool.false_eq_true, Bool.not_true, Bool.not_false, $ts,*])
noncomputable def bodyT (p : Addr) : SFT := (tSeq (tLift (sSet 6 (xCall G_set_with_sums (lCons (xVar 1) (lCons (xVar 3) lNil))))) (tSeq (tChk fun c => (tOrF (tBool (x2 hNe (xCall (f1 hLen) (lCons (xVar 6) lNil)) (xVar 1))) (tOrF (tBool (x2 hNe (xCall (f1 hLen) (lCons (xCall G_sums (lCons (xVar 6) (lCons (xVar 6) lNil))) lNil)) (xVar 3))) (tBool (x2 (hTN p c) (xVar 6) (xVar 2)))))) (tPut p 2 (xVar 6) (xCon (.bool true)))))
theorem f0_eq (p : Addr) : f_law_0 p = sForT (iRng2F (xVar 4) (x2 hAdd (xVar 5) (xCon (.int 1)))) (gNm 3) (bodyT p) := rfl
theorem isO_opq (p : Nat) : isO p (some (some (.val, opqY p))) = true := decide_eq_true rfl
theorem body_one {m n : Int} {S : List Int} (eg : G_set_with_sums [.int m, .int n] = .ok (.tuple (S.map .int), false)) (hm : (S.length : Int) = m) (hr : risD S = true) (hn : kn S = n) (h9 : S.length ≤ 9) (p : Nat) {c : TC} (hc : S ∉ c) (hl : c.length < sizeLine) (d0 : Y) (lo hi : Int) (x6 : Sl) :
    bodyT p [some (.val, d0), some (.val, .int m), some (.val, opqY p), some (.val, .int n), some (.val, .int lo), some (.val, .int hi), x6] c = .ok ([some (.val, d0), some (.val, .int m), some (.val, opqY p), some (.val, .int n), some (.val, .int lo), some (.val, .int hi), some (.val, .tuple (S.map .int))], c ++ [S]) := by
  have hss := sums_ok hr (by omega) hr (by omega) (show S.length * S.length < 4095 from by have := Nat.mul_le_mul h9 h9; omega)
  have hz : ((ssD (sumsD S S)).map PyData.int).length = (ssD (sumsD S S)).length := List.length_map ..
  have hk := kn_ss S
  have e1 : sSet 6 (xCall G_set_with_sums (lCons (xVar 1) (lCons (xVar 3) lNil))) [some (.val, d0), some (.val, .int m), some (.val, opqY p), some (.val, .int n), some (.val, .int lo), some (.val, .int hi), x6] = .ok (.nx [some (.val, d0), some (.val, .int m), some (.val, opqY p), some (.val, .int n), some (.val, .int lo), some (.val, .int hi), some (.val, .tuple (S.map .int))]) := by
    generalize opqY p = D at *
    generalize S.map PyData.int = SS at *
    simp? [eg]
  have n1 : hNe (.int ((S.length : Nat) : Int)) (.int m) = .ok (.bool false, false) := by
    have := ev_ne ((S.length : Nat) : Int) m
    rw [this, hm]
    simp
  have n2 : hNe (.int (((ssD (sumsD S S)).length : Nat) : Int)) (.int n) = .ok (.bool false, false) := by
    have := ev_ne (((ssD (sumsD S S)).length : Nat) : Int) n
    rw [this, hk, hn]
    simp
  have n3 : hTN p c (.tuple (S.map .int)) (opqY p) = .ok (.bool false, false) := by
    unfold hTN
    rw [if_pos (isO_opq p)]
    dsimp only
    rw [intsD_map]
    dsimp only
    rw [decide_eq_false hc]
  have e2 : (tOrF (tBool (x2 hNe (xCall (f1 hLen) (lCons (xVar 6) lNil)) (xVar 1))) (tOrF (tBool (x2 hNe (xCall (f1 hLen) (lCons (xCall G_sums (lCons (xVar 6) (lCons (xVar 6) lNil))) lNil)) (xVar 3))) (tBool (x2 (hTN p c) (xVar 6) (xVar 2))))) [some (.val, d0), some (.val, .int m), some (.val, opqY p), some (.val, .int n), some (.val, .int lo), some (.val, .int hi), some (.val, .tuple (S.map .int))]
      = .ok (false, [some (.val, d0), some (.val, .int m), some (.val, opqY p), some (.val, .int n), some (.val, .int lo), some (.val, .int hi), some (.val, .tuple (S.map .int))]) := by
    have l1 : ((S.map PyData.int).length : Int) = ((S.length : Nat) : Int) := by rw [List.length_map]
    have l2 : (((ssD (sumsD S S)).map PyData.int).length : Int) = (((ssD (sumsD S S)).length : Nat) : Int) := by rw [List.length_map]
    generalize opqY p = D at *
    generalize (ssD (sumsD S S)).map PyData.int = SD at *
    generalize S.map PyData.int = SS at *
    generalize hTN p c = HT at *
    simp? [hss, l1, l2, n1, n2, n3]
  have e3 : tPut p 2 (xVar 6) (xCon (.bool true)) [some (.val, d0), some (.val, .int m), some (.val, opqY p), some (.val, .int n), some (.val, .int lo), some (.val, .int hi), some (.val, .tuple (S.map .int))] c
      = .ok ([some (.val, d0), some (.val, .int m), some (.val, opqY p), some (.val, .int n), some (.val, .int lo), some (.val, .int hi), some (.val, .tuple (S.map .int))], c ++ [S]) := by
    show (if isO p (some (some (.val, opqY p))) = true then _ else _) = _
    rw [if_pos (isO_opq p)]
    show (match intsD (S.map PyData.int) with
      | some ns => if ns ∉ c ∧ c.length < sizeLine then _ else _
      | none => _) = _
    rw [intsD_map]
    dsimp only
    rw [if_pos ⟨hc, hl⟩]
    rfl
  show ((sSet 6 (xCall G_set_with_sums (lCons (xVar 1) (lCons (xVar 3) lNil))) _).bind _).bind _ = _
  rw [e1]
  show (((tOrF (tBool (x2 hNe (xCall (f1 hLen) (lCons (xVar 6) lNil)) (xVar 1))) (tOrF (tBool (x2 hNe (xCall (f1 hLen) (lCons (xCall G_sums (lCons (xVar 6) (lCons (xVar 6) lNil))) lNil)) (xVar 3))) (tBool (x2 (hTN p c) (xVar 6) (xVar 2)))) : TF) _).bind _).bind _ = _
  rw [e2]
  exact e3
theorem loop_ok {m : Int} (d0 : Y) (lo hi : Int) : ∀ (j : Nat) (a : Int) (x3 x6 : Sl), (∀ n, a ≤ n → n < a + j → chk m n = true) → j ≤ 100 → ∃ y3 y6 : Sl, ∀ (p : Nat) (c : TC), (∀ T ∈ c, kn T < a) → c.length + j ≤ 200 → ∃ c',
    forT (gNm 3) (bodyT p) (rngD a j) [some (.val, d0), some (.val, .int m), some (.val, opqY p), x3, some (.val, .int lo), some (.val, .int hi), x6] c = .ok ([some (.val, d0), some (.val, .int m), some (.val, opqY p), y3, some (.val, .int lo), some (.val, .int hi), y6], c')
  | 0, a, x3, x6, _, _ => ⟨x3, x6, fun p c _ _ => ⟨c, rfl⟩⟩
  | j + 1, a, x3, x6, h, hj => by
    obtain ⟨S, eg, hm, hr, hn, h9⟩ := chk_ok (h a (Int.le_refl _) (by omega))
    obtain ⟨y3, y6, ih⟩ := loop_ok d0 lo hi j (a + 1) (some (.val, .int a)) (some (.val, .tuple (S.map .int))) (fun n h1 h2 => h n (by omega) (by omega)) (by omega)
    refine ⟨y3, y6, fun p c hc hl => ?_⟩
    have b1 := body_one eg hm hr hn h9 p (c := c) (fun z => by have := hc S z; omega) (by rw [sizeLine_eq]; omega) d0 lo hi x6
    obtain ⟨c', e⟩ := ih p (c ++ [S]) (fun T hT => by
      rcases List.mem_append.mp hT with z | z
      · have := hc T z; omega
      · rw [List.mem_singleton.mp z, hn]; omega) (by rw [List.length_append, List.length_singleton]; omega)
    refine ⟨c', ?_⟩
    have er : rngD a (j + 1) = .int a :: rngD (a + 1) j := by
      unfold rngD
      rw [List.range_succ_eq_map, List.map_cons, List.map_map]
      have e0 : PyData.int (a + ((0 : Nat) : Int)) = .int a := by congr 1; omega
      rw [e0]
      congr 1
      refine List.map_congr_left fun k _ => ?_
      show PyData.int (a + ((k + 1 : Nat) : Int)) = .int (a + 1 + (k : Int))
      congr 1
      omega
    rw [er]
    show (bodyT p [some (.val, d0), some (.val, .int m), some (.val, opqY p), some (.val, .int a), some (.val, .int lo), some (.val, .int hi), x6] c).bind _ = _
    rw [b1]
    exact e
end L2.Fs
set_option Elab.async false
set_option linter.all false
set_option maxRecDepth 100000
namespace L2.Fs
open PySem PySem.Spec PyProof.Rows
local macro_rules | `(tactic| simp? [$ts,*]) => `(tactic| simp -implicitDefEqProofs (disch := first | with_reducible assumption | omega | (exact sm_ok (by omega) (by omega)) | (simp only [List.length_map, List.length_append, List.length_cons, List.length_nil]; omega) | decide) only [ap_dct, kUnb_0, kUn_0, ap_unp, kRes_0, kX2b_0, kX2_0, ap_x2, kX1_0, ap_x1, ap_con, ap_lnil, kLb_0, kL_0, ap_lcons, kCall_0, ap_call, ap_f1, kAnd_1, ap_and, kTv_0, ap_tval, kTb_0, ap_tbool, kTn_0, ap_tnot, kTo_1, ap_tor, ap_ttrue, ap_pnone, kPs_0, ap_psome, kSlc_1, kSlb_0, kSla_0, ap_sl, kIs_1, ap_iseq, kRg_0, ap_irng, kZpb_3, kZp_0, ap_izip, kSeq_0, kSeq_1, ap_seq, ap_nil, kEx_0, ap_expr, kRt_0, ap_ret, kIf_0, kIf_1, ap_if, kFor_0, ap_for, kRun_0, kRun_1, ap_run, v0v, v1v, aS1, s1v, g1, v2v, aS2, s2o, g2, v3v, aS3, s3v, g3, v4v, aS4, s4v, g4, g5, v6v, aS6, s6v, g6, g7, g8, g9, g10, kGt_0, ap_gtwo, kTurc_0, kTurb_0, kTur_0, ap_turn, kGob_0, kGo_0, ap_gout, kAll_0, ap_allg, kS2b_0, kS2_0, ap_ss2, kT2c_0, kT2b_0, kT2_0, ap_turn2, sh_val, sh_non, lv_val, lv_non, vl_some, vl_non, shareE_nil, shareE_cons, valE_nil, valE_cons, lvE_nil, lvE_cons, wipe_nil, wipe_cons, ev_add, ev_lt, ev_gt, ev_ge, ev_lenL, ev_lenT, ev_tupL, isi_int_dict, isi_tuple_tuple, ev_ne, ev_mod, ev_div, ev_mul, ev_pow, O.bind_ok, List.set_cons_zero, List.set_cons_succ, List.length_cons, List.length_nil, List.map_cons, List.map_nil, List.cons_append, List.nil_append, List.replicate_succ, List.replicate_zero, decide_true, decide_false, Nat.reduceAdd, Nat.reduceSub, Nat.reduceLT, Nat.reduceLeDiff, Int.reduceAdd, Int.reduceSub, Int.reduceMul, Int.reduceNeg, Int.reduceLT, Int.reduceLE, Int.reducePow, Int.reduceToNat, Int.toNat_natCast, Int.reduceEq, ↓reduceIte, Bool.false_eq_true, Bool.not_true, Bool.not_false, $ts,*])
theorem chk_at {m : Nat} (h1 : 2 ≤ m) (h2 : m < 10) {n : Nat} (h3 : 2 * m - 1 ≤ n) (h4 : n ≤ hiM m) : chk (m : Int) (n : Int) = true := by
  have h := chk_all
  rw [List.all_eq_true] at h
  have h := h m (by rw [List.mem_range'_1]; omega)
  rw [List.all_eq_true] at h
  exact h n (by rw [List.mem_range'_1]; omega)
noncomputable def ifS : SF := (sIf (tBool (x2 hNe (xTup (lCons (xVar 4) (lCons (xVar 5) lNil))) (xTup (lCons (x2 hSub (x2 hMul (xCon (.int 2)) (xVar 1)) (xCon (.int 1))) (lCons (x2 hDiv (x2 hMul (xVar 1) (x2 hAdd (xVar 1) (xCon (.int 1)))) (xCon (.int 2))) lNil))))) (sSeq (sRet (xCon (.bool false))) sNil) sNil)
theorem law_at {ns : List Int} {v m lo hi : Int} {j : Nat} (d0 : G__law_draw [.int (ns.getD 0 0), .int 0, .int 8] = .ok (.int v, false)) (hv : 2 + v = m) (he : G_ends_of_sums [.int m] = .ok (.tuple [.int lo, .int hi], false))
    (hif : ∀ d : Y, ifS [some (.val, d), some (.val, .int m), none, none, some (.val, .int lo), some (.val, .int hi), none] = .ok (.nx [some (.val, d), some (.val, .int m), none, none, some (.val, .int lo), some (.val, .int hi), none]))
    (hlo : 0 ≤ lo ∧ lo < 1000) (hhi : 0 ≤ hi ∧ hi < 1000) (hj : (hi + 1 - lo).toNat = j) (hj2 : j ≤ 100) (hc : ∀ n, lo ≤ n → n < lo + j → chk m n = true) : G_law [.list (ns.map .int)] = .ok (.bool true, false) := by
  have c0 : G__law_cell_at [.list (ns.map .int), .int 0] = .ok (.int (ns.getD 0 0), false) := cellat_ok ns 0
  obtain ⟨y3, y6, lp⟩ := loop_ok (.list (ns.map .int)) lo hi j lo none none hc hj2
  have deep : sDeepT 2 f_law_0 [some (.val, .list (ns.map .int)), some (.val, .int m), some (.own, .dict []), none, some (.val, .int lo), some (.val, .int hi), none] = .ok (.nx [some (.val, .list (ns.map .int)), some (.val, .int m), none, y3, some (.val, .int lo), some (.val, .int hi), y6]) := by
    refine sDeepT_eq rfl fun a => ?_
    obtain ⟨c', e⟩ := lp a [] (fun T hT => by simp at hT) (by rw [List.length_nil]; omega)
    have it : iRng2F (xVar 4) (x2 hAdd (xVar 5) (xCon (.int 1))) [some (.val, .list (ns.map .int)), some (.val, .int m), some (.val, opqY a), none, some (.val, .int lo), some (.val, .int hi), none] = .ok (rngD lo j, [some (.val, .list (ns.map .int)), some (.val, .int m), some (.val, opqY a), none, some (.val, .int lo), some (.val, .int hi), none]) := by
      show (if (-(2 ^ 62) ≤ lo ∧ lo < 2 ^ 62) ∧ (-(2 ^ 62) ≤ hi + 1 ∧ hi + 1 < 2 ^ 62) then O.ok (rngD lo (hi + 1 - lo).toNat, _) else _) = _
      rw [if_pos ⟨⟨by omega, by omega⟩, by omega, by omega⟩, hj]
    unfold runT
    rw [f0_eq]
    show ((iRng2F (xVar 4) (x2 hAdd (xVar 5) (xCon (.int 1))) [some (.val, .list (ns.map .int)), some (.val, .int m), some (.val, opqY a), none, some (.val, .int lo), some (.val, .int hi), none]).bind _).bind _ = _
    rw [it]
    show (forT (gNm 3) (bodyT a) (rngD lo j) [some (.val, .list (ns.map .int)), some (.val, .int m), some (.val, opqY a), none, some (.val, .int lo), some (.val, .int hi), none] []).bind _ = _
    rw [e]
    rfl
  have hif := hif (.list (ns.map .int))
  generalize ns.map PyData.int = N at *
  generalize ns.getD 0 0 = c at *
  have hS : b_law = (sSeq (sSet 1 (x2 hAdd (xCon (.int 2)) (xCall G__law_draw (lCons (xCall G__law_cell_at (lCons (xVar 0) (lCons (xCon (.int 0)) lNil))) (lCons (xCon (.int 0)) (lCons (xCon (.int 8)) lNil)))))) (sSeq (sUnp (gTwo (gNm 4) (gNm 5)) (xCall G_ends_of_sums (lCons (xVar 1) lNil))) (sSeq ifS (sSeq (sSet 2 xDct) (sSeq (sDeepT 2 f_law_0) (sSeq (sRet (xCon (.bool true))) sNil)))))) := rfl
  unfold G_law
  rw [hS]
  generalize f_law_0 = FL0 at *
  simp? [c0, d0, hv, he, hif, deep]
theorem law_true (ns : List Int) (hn : ns.length ≤ 63) : G_law [.list (ns.map .int)] = .ok (.bool true, false) := by
  obtain ⟨v, d0, v1, v2⟩ := draw_ok (ns.getD 0 0) 0 8 (by omega) (by omega) (by omega) (by omega)
  have cc : ∀ {m h : Nat} (k : Nat), 2 ≤ m → m < 10 → hiM m = h → h + 1 - (2 * m - 1) = k → ∀ n : Int, ((2 * m - 1 : Nat) : Int) ≤ n → n < ((2 * m - 1 : Nat) : Int) + (k : Nat) → chk (m : Int) n = true := fun {m h} k h1 h2 h3 h4 n h5 h6 => by
    obtain ⟨i, rfl⟩ := Int.eq_ofNat_of_zero_le (show 0 ≤ n by omega)
    exact chk_at h1 h2 (by omega) (by omega)
  have h8 : v = 0 ∨ v = 1 ∨ v = 2 ∨ v = 3 ∨ v = 4 ∨ v = 5 ∨ v = 6 ∨ v = 7 := by omega
  rcases h8 with rfl | rfl | rfl | rfl | rfl | rfl | rfl | rfl
  · exact law_at (m := 2) (lo := 3) (hi := 3) (j := 1) d0 rfl (by kernel_rfl) (fun d => by kernel_rfl) (by omega) (by omega) rfl (by omega) (cc (m := 2) 1 (by omega) (by omega) rfl rfl)
  · exact law_at (m := 3) (lo := 5) (hi := 6) (j := 2) d0 rfl (by kernel_rfl) (fun d => by kernel_rfl) (by omega) (by omega) rfl (by omega) (cc (m := 3) 2 (by omega) (by omega) rfl rfl)
  · exact law_at (m := 4) (lo := 7) (hi := 10) (j := 4) d0 rfl (by kernel_rfl) (fun d => by kernel_rfl) (by omega) (by omega) rfl (by omega) (cc (m := 4) 4 (by omega) (by omega) rfl rfl)
  · exact law_at (m := 5) (lo := 9) (hi := 15) (j := 7) d0 rfl (by kernel_rfl) (fun d => by kernel_rfl) (by omega) (by omega) rfl (by omega) (cc (m := 5) 7 (by omega) (by omega) rfl rfl)
  · exact law_at (m := 6) (lo := 11) (hi := 21) (j := 11) d0 rfl (by kernel_rfl) (fun d => by kernel_rfl) (by omega) (by omega) rfl (by omega) (cc (m := 6) 11 (by omega) (by omega) rfl rfl)
  · exact law_at (m := 7) (lo := 13) (hi := 28) (j := 16) d0 rfl (by kernel_rfl) (fun d => by kernel_rfl) (by omega) (by omega) rfl (by omega) (cc (m := 7) 16 (by omega) (by omega) rfl rfl)
  · exact law_at (m := 8) (lo := 15) (hi := 36) (j := 22) d0 rfl (by kernel_rfl) (fun d => by kernel_rfl) (by omega) (by omega) rfl (by omega) (cc (m := 8) 22 (by omega) (by omega) rfl rfl)
  · exact law_at (m := 9) (lo := 17) (hi := 45) (j := 29) d0 rfl (by kernel_rfl) (fun d => by kernel_rfl) (by omega) (by omega) rfl (by omega) (cc (m := 9) 29 (by omega) (by omega) rfl rfl)
end L2.Fs
namespace L2.Fs
open PySem PySem.Spec PyProof.Rows
set_option maxRecDepth 100000
set_option maxHeartbeats 4000000
theorem funv_mk {K : PySem.W.Frag} {x qual : Str} {st : Stmt} {f : Addr} {oc : Value} {od an : Option Addr} {osl : Array (Option Value)} {kV doc pm cdv ct : Value} (l : K.lookup f = some ⟨oc, od, .func (PySem.W.fnOf x qual (defArgs st) (defBody st) (defScope st) .none kV doc pm an cdv ct), osl⟩)
    (c : PySem.W.codeIn K cdv qual = true) (k : PySem.W.keepIn K (.ref f) = true) : FunV K x qual st f (PySem.W.fnOf x qual (defArgs st) (defBody st) (defScope st) .none kV doc pm an cdv ct) cdv := ⟨⟨oc, od, kV, doc, pm, an, ct, osl, rfl, l⟩, c, k⟩
theorem code_at {K : PySem.W.Frag} {h : Heap} {mg : Str → Option Value} {gd : List DefRec} {tabs : List (Addr × Addr)} {x qual : Str} {st : Stmt} {f : Addr} {oc : Value} {od an : Option Addr} {osl : Array (Option Value)} {kV doc pm cdv ct : Value} (X : K.In h) (hm : mg x = some (.ref f)) (l : K.lookup f = some ⟨oc, od, .func (PySem.W.fnOf x qual (defArgs st) (defBody st) (defScope st) .none kV doc pm an cdv ct), osl⟩)
    (hin : (gd.any fun d => d.name == x) = true) (ht : ∀ e ∈ gd, ∃ a o fd c P, mg e.name = some (.ref a) ∧ h.get? a = some o ∧ o.data = .func fd ∧ fd.code = .ref c ∧ (c, P) ∈ tabs) : ∃ c P, cdv = .ref c ∧ (c, P) ∈ tabs := by
  obtain ⟨e, he, hx⟩ := List.any_eq_true.mp hin
  obtain ⟨a, ob, fd, c, P, h1, h2, h3, h4, h5⟩ := ht e he
  have ex : e.name = x := by simpa using hx
  rw [ex, hm] at h1
  cases h1
  have h6 := X f _ l
  rw [h2] at h6
  cases h6
  cases h3
  exact ⟨c, P, h4, h5⟩
theorem all_mk {l : PySem.W.OpenLaw} {w : World} {mg : Str → Option Value} {fa : Addr} {h : Heap} {K : PySem.W.Frag} {gd : List DefRec} (X : K.In h) (G : h.Ns mainGlobals mg) (hfa : mg "law" = some (.ref fa))
    {f0 : Addr} {oc0 : Value} {od0 an0 : Option Addr} {sl0 : Array (Option Value)} {kV0 dc0 pm0 cd0 ct0 : Value} {f1 : Addr} {oc1 : Value} {od1 an1 : Option Addr} {sl1 : Array (Option Value)} {kV1 dc1 pm1 cd1 ct1 : Value} {f2 : Addr} {oc2 : Value} {od2 an2 : Option Addr} {sl2 : Array (Option Value)} {kV2 dc2 pm2 cd2 ct2 : Value} {f3 : Addr} {oc3 : Value} {od3 an3 : Option Addr} {sl3 : Array (Option Value)} {kV3 dc3 pm3 cd3 ct3 : Value} {f4 : Addr} {oc4 : Value} {od4 an4 : Option Addr} {sl4 : Array (Option Value)} {kV4 dc4 pm4 cd4 ct4 : Value} {f5 : Addr} {oc5 : Value} {od5 an5 : Option Addr} {sl5 : Array (Option Value)} {kV5 dc5 pm5 cd5 ct5 : Value} {f6 : Addr} {oc6 : Value} {od6 an6 : Option Addr} {sl6 : Array (Option Value)} {kV6 dc6 pm6 cd6 ct6 : Value} {f7 : Addr} {oc7 : Value} {od7 an7 : Option Addr} {sl7 : Array (Option Value)} {kV7 dc7 pm7 cd7 ct7 : Value} {f8 : Addr} {oc8 : Value} {od8 an8 : Option Addr} {sl8 : Array (Option Value)} {kV8 dc8 pm8 cd8 ct8 : Value} {f9 : Addr} {oc9 : Value} {od9 an9 : Option Addr} {sl9 : Array (Option Value)} {kV9 dc9 pm9 cd9 ct9 : Value} {f10 : Addr} {oc10 : Value} {od10 an10 : Option Addr} {sl10 : Array (Option Value)} {kV10 dc10 pm10 cd10 ct10 : Value} {f11 : Addr} {oc11 : Value} {od11 an11 : Option Addr} {sl11 : Array (Option Value)} {kV11 dc11 pm11 cd11 ct11 : Value} {f12 : Addr} {oc12 : Value} {od12 an12 : Option Addr} {sl12 : Array (Option Value)} {kV12 dc12 pm12 cd12 ct12 : Value} {f13 : Addr} {oc13 : Value} {od13 an13 : Option Addr} {sl13 : Array (Option Value)} {kV13 dc13 pm13 cd13 ct13 : Value}
    (a0 : PySem.W.nsIn K mainGlobals "is_whole" = some (some (.ref f0))) (l0 : K.lookup f0 = some ⟨oc0, od0, .func (PySem.W.fnOf "is_whole" "is_whole" (defArgs st_is_whole) (defBody st_is_whole) (defScope st_is_whole) .none kV0 dc0 pm0 an0 cd0 ct0), sl0⟩) (c0 : PySem.W.codeIn K cd0 "is_whole" = true) (k0 : PySem.W.keepIn K (.ref f0) = true)
    (a1 : PySem.W.nsIn K mainGlobals "need_number_to" = some (some (.ref f1))) (l1 : K.lookup f1 = some ⟨oc1, od1, .func (PySem.W.fnOf "need_number_to" "need_number_to" (defArgs st_need_number_to) (defBody st_need_number_to) (defScope st_need_number_to) .none kV1 dc1 pm1 an1 cd1 ct1), sl1⟩) (c1 : PySem.W.codeIn K cd1 "need_number_to" = true) (k1 : PySem.W.keepIn K (.ref f1) = true)
    (a2 : PySem.W.nsIn K mainGlobals "ends_of_sums" = some (some (.ref f2))) (l2 : K.lookup f2 = some ⟨oc2, od2, .func (PySem.W.fnOf "ends_of_sums" "ends_of_sums" (defArgs st_ends_of_sums) (defBody st_ends_of_sums) (defScope st_ends_of_sums) .none kV2 dc2 pm2 an2 cd2 ct2), sl2⟩) (c2 : PySem.W.codeIn K cd2 "ends_of_sums" = true) (k2 : PySem.W.keepIn K (.ref f2) = true)
    (a3 : PySem.W.nsIn K mainGlobals "_law_draw" = some (some (.ref f3))) (l3 : K.lookup f3 = some ⟨oc3, od3, .func (PySem.W.fnOf "_law_draw" "_law_draw" (defArgs st__law_draw) (defBody st__law_draw) (defScope st__law_draw) .none kV3 dc3 pm3 an3 cd3 ct3), sl3⟩) (c3 : PySem.W.codeIn K cd3 "_law_draw" = true) (k3 : PySem.W.keepIn K (.ref f3) = true)
    (a4 : PySem.W.nsIn K mainGlobals "set_with_few_sums" = some (some (.ref f4))) (l4 : K.lookup f4 = some ⟨oc4, od4, .func (PySem.W.fnOf "set_with_few_sums" "set_with_few_sums" (defArgs st_set_with_few_sums) (defBody st_set_with_few_sums) (defScope st_set_with_few_sums) .none kV4 dc4 pm4 an4 cd4 ct4), sl4⟩) (c4 : PySem.W.codeIn K cd4 "set_with_few_sums" = true) (k4 : PySem.W.keepIn K (.ref f4) = true)
    (a5 : PySem.W.nsIn K mainGlobals "set_with_sums" = some (some (.ref f5))) (l5 : K.lookup f5 = some ⟨oc5, od5, .func (PySem.W.fnOf "set_with_sums" "set_with_sums" (defArgs st_set_with_sums) (defBody st_set_with_sums) (defScope st_set_with_sums) .none kV5 dc5 pm5 an5 cd5 ct5), sl5⟩) (c5 : PySem.W.codeIn K cd5 "set_with_sums" = true) (k5 : PySem.W.keepIn K (.ref f5) = true)
    (a6 : PySem.W.nsIn K mainGlobals "_law_cell_at" = some (some (.ref f6))) (l6 : K.lookup f6 = some ⟨oc6, od6, .func (PySem.W.fnOf "_law_cell_at" "_law_cell_at" (defArgs st__law_cell_at) (defBody st__law_cell_at) (defScope st__law_cell_at) .none kV6 dc6 pm6 an6 cd6 ct6), sl6⟩) (c6 : PySem.W.codeIn K cd6 "_law_cell_at" = true) (k6 : PySem.W.keepIn K (.ref f6) = true)
    (a7 : PySem.W.nsIn K mainGlobals "are_whole" = some (some (.ref f7))) (l7 : K.lookup f7 = some ⟨oc7, od7, .func (PySem.W.fnOf "are_whole" "are_whole" (defArgs st_are_whole) (defBody st_are_whole) (defScope st_are_whole) .none kV7 dc7 pm7 an7 cd7 ct7), sl7⟩) (c7 : PySem.W.codeIn K cd7 "are_whole" = true) (k7 : PySem.W.keepIn K (.ref f7) = true)
    (a8 : PySem.W.nsIn K mainGlobals "is_set" = some (some (.ref f8))) (l8 : K.lookup f8 = some ⟨oc8, od8, .func (PySem.W.fnOf "is_set" "is_set" (defArgs st_is_set) (defBody st_is_set) (defScope st_is_set) .none kV8 dc8 pm8 an8 cd8 ct8), sl8⟩) (c8 : PySem.W.codeIn K cd8 "is_set" = true) (k8 : PySem.W.keepIn K (.ref f8) = true)
    (a9 : PySem.W.nsIn K mainGlobals "need_set" = some (some (.ref f9))) (l9 : K.lookup f9 = some ⟨oc9, od9, .func (PySem.W.fnOf "need_set" "need_set" (defArgs st_need_set) (defBody st_need_set) (defScope st_need_set) .none kV9 dc9 pm9 an9 cd9 ct9), sl9⟩) (c9 : PySem.W.codeIn K cd9 "need_set" = true) (k9 : PySem.W.keepIn K (.ref f9) = true)
    (a10 : PySem.W.nsIn K mainGlobals "need_sets" = some (some (.ref f10))) (l10 : K.lookup f10 = some ⟨oc10, od10, .func (PySem.W.fnOf "need_sets" "need_sets" (defArgs st_need_sets) (defBody st_need_sets) (defScope st_need_sets) .none kV10 dc10 pm10 an10 cd10 ct10), sl10⟩) (c10 : PySem.W.codeIn K cd10 "need_sets" = true) (k10 : PySem.W.keepIn K (.ref f10) = true)
    (a11 : PySem.W.nsIn K mainGlobals "all_sums" = some (some (.ref f11))) (l11 : K.lookup f11 = some ⟨oc11, od11, .func (PySem.W.fnOf "all_sums" "all_sums" (defArgs st_all_sums) (defBody st_all_sums) (defScope st_all_sums) .none kV11 dc11 pm11 an11 cd11 ct11), sl11⟩) (c11 : PySem.W.codeIn K cd11 "all_sums" = true) (k11 : PySem.W.keepIn K (.ref f11) = true)
    (a12 : PySem.W.nsIn K mainGlobals "sums" = some (some (.ref f12))) (l12 : K.lookup f12 = some ⟨oc12, od12, .func (PySem.W.fnOf "sums" "sums" (defArgs st_sums) (defBody st_sums) (defScope st_sums) .none kV12 dc12 pm12 an12 cd12 ct12), sl12⟩) (c12 : PySem.W.codeIn K cd12 "sums" = true) (k12 : PySem.W.keepIn K (.ref f12) = true)
    (a13 : PySem.W.nsIn K mainGlobals "law" = some (some (.ref f13))) (l13 : K.lookup f13 = some ⟨oc13, od13, .func (PySem.W.fnOf "law" "law" (defArgs st_law) (defBody st_law) (defScope st_law) .none kV13 dc13 pm13 an13 cd13 ct13), sl13⟩) (c13 : PySem.W.codeIn K cd13 "law" = true) (k13 : PySem.W.keepIn K (.ref f13) = true)
    {t_MOST_IN_SIZE : Tok} (y_MOST_IN_SIZE : PySem.W.nsIn K mainGlobals "MOST_IN_SIZE" = some (some (.int 24 t_MOST_IN_SIZE)))
    {t_MOST_NUMBERS : Tok} (y_MOST_NUMBERS : PySem.W.nsIn K mainGlobals "MOST_NUMBERS" = some (some (.int 60 t_MOST_NUMBERS)))
    (z_all : PySem.W.nsIn K mainGlobals "all" = some none)
    (z_bool : PySem.W.nsIn K mainGlobals "bool" = some none)
    (z_int : PySem.W.nsIn K mainGlobals "int" = some none)
    (z_isinstance : PySem.W.nsIn K mainGlobals "isinstance" = some none)
    (z_len : PySem.W.nsIn K mainGlobals "len" = some none)
    (z_max : PySem.W.nsIn K mainGlobals "max" = some none)
    (z_range : PySem.W.nsIn K mainGlobals "range" = some none)
    (z_sorted : PySem.W.nsIn K mainGlobals "sorted" = some none)
    (z_tuple : PySem.W.nsIn K mainGlobals "tuple" = some none)
    (z_zip : PySem.W.nsIn K mainGlobals "zip" = some none)
    (g_are_whole : (gd.any fun d => d.name == ("are_whole" : Str)) = true) (g_is_set : (gd.any fun d => d.name == ("is_set" : Str)) = true) :
    ∃ fd : FuncData, (∀ (s : Shared) (u : Value), BindsTo s fd ⟨[u], []⟩ [("_law_script", u)]) ∧ ∀ tabs : List (Addr × Addr), (∀ e ∈ gd, ∃ a o fd c P, mg e.name = some (.ref a) ∧ h.get? a = some o ∧ o.data = .func fd ∧ fd.code = .ref c ∧ (c, P) ∈ tabs) →
      ∀ (base : Heap) (bm : Addr) (ob : Obj), K.In base → (∃ q loose mb, PySem.W.TopRead q loose mg mb base) → (∀ p ∈ tabs, CodeB base p.1 p.2) → BM base mg bm ob → FnOk l.prog w K mg base CX0 8 fa fd ["_law_script"] (spV K (ftOf tabs) 1 G_law) := by
  have e := hfa.symm.trans (PySem.W.mg_of X G a13)
  cases e
  have v_MOST_IN_SIZE := PySem.W.mg_of X G y_MOST_IN_SIZE
  have v_MOST_NUMBERS := PySem.W.mg_of X G y_MOST_NUMBERS
  have m_all := PySem.W.mg_none_of X G z_all
  have m_bool := PySem.W.mg_none_of X G z_bool
  have m_int := PySem.W.mg_none_of X G z_int
  have m_isinstance := PySem.W.mg_none_of X G z_isinstance
  have m_len := PySem.W.mg_none_of X G z_len
  have m_max := PySem.W.mg_none_of X G z_max
  have m_range := PySem.W.mg_none_of X G z_range
  have m_sorted := PySem.W.mg_none_of X G z_sorted
  have m_tuple := PySem.W.mg_none_of X G z_tuple
  have m_zip := PySem.W.mg_none_of X G z_zip
  refine ⟨PySem.W.fnOf "law" "law" (defArgs st_law) (defBody st_law) (defScope st_law) .none kV13 dc13 pm13 an13 cd13 ct13, fun s v => .of_eq rfl, fun tabs ht base bm ob kb ⟨_, _, _, nb⟩ hcb hbm => ?_⟩
  obtain ⟨cc7, P7, e7, t7⟩ := code_at X (PySem.W.mg_of X G a7) l7 g_are_whole ht
  subst e7
  obtain ⟨cc8, P8, e8, t8⟩ := code_at X (PySem.W.mg_of X G a8) l8 g_is_set ht
  subst e8
  have C_is_whole : Cal l.prog w K mg base (ftOf tabs) "is_whole" ["thing"] 1 G_is_whole := cal_is_whole (funv_mk (st := st_is_whole) l0 c0 k0) (PySem.W.mg_of X G a0)      m_bool m_int m_isinstance   
  have C_need_number_to : Cal l.prog w K mg base (ftOf tabs) "need_number_to" ["thing", "most"] 2 G_need_number_to := cal_need_number_to (funv_mk (st := st_need_number_to) l1 c1 k1) (PySem.W.mg_of X G a1)        C_is_whole 
  have C_ends_of_sums : Cal l.prog w K mg base (ftOf tabs) "ends_of_sums" ["many"] 3 G_ends_of_sums := cal_ends_of_sums (funv_mk (st := st_ends_of_sums) l2 c2 k2) (PySem.W.mg_of X G a2)      m_max v_MOST_IN_SIZE C_need_number_to 
  have C__law_draw : Cal l.prog w K mg base (ftOf tabs) "_law_draw" ["_law_cell", "_law_k", "_law_bound"] 1 G__law_draw := cal__law_draw (funv_mk (st := st__law_draw) l3 c3 k3) (PySem.W.mg_of X G a3)      m_range   
  have C_set_with_few_sums : Cal l.prog w K mg base (ftOf tabs) "set_with_few_sums" ["many", "number"] 1 G_set_with_few_sums := cal_set_with_few_sums (funv_mk (st := st_set_with_few_sums) l4 c4 k4) (PySem.W.mg_of X G a4)      m_range m_tuple   
  have C_set_with_sums : Cal l.prog w K mg base (ftOf tabs) "set_with_sums" ["many", "number"] 4 G_set_with_sums := cal_set_with_sums (funv_mk (st := st_set_with_sums) l5 c5 k5) (PySem.W.mg_of X G a5)      m_range  C_set_with_few_sums C_is_whole C_ends_of_sums 
  have C__law_cell_at : Cal l.prog w K mg base (ftOf tabs) "_law_cell_at" ["_law_script", "_law_k"] 1 G__law_cell_at := cal__law_cell_at (funv_mk (st := st__law_cell_at) l6 c6 k6) (PySem.W.mg_of X G a6)      m_len   
  have C_are_whole : Cal l.prog w K mg base (ftOf tabs) "are_whole" ["things"] 3 G_are_whole := cal_are_whole (hcb _ t7) hbm (ftOf_mem t7) (funv_mk (st := st_are_whole) l7 c7 k7) (PySem.W.mg_of X G a7)      m_all  C_is_whole 
  have C_is_set : Cal l.prog w K mg base (ftOf tabs) "is_set" ["thing"] 4 G_is_set := cal_is_set (hcb _ t8) hbm (ftOf_mem t8) (funv_mk (st := st_is_set) l8 c8 k8) (PySem.W.mg_of X G a8)      m_all m_isinstance m_tuple m_zip  C_are_whole 
  have C_need_set : Cal l.prog w K mg base (ftOf tabs) "need_set" ["thing"] 5 G_need_set := cal_need_set (funv_mk (st := st_need_set) l9 c9 k9) (PySem.W.mg_of X G a9)      m_len v_MOST_NUMBERS C_is_set 
  have C_need_sets : Cal l.prog w K mg base (ftOf tabs) "need_sets" ["one", "other"] 6 G_need_sets := cal_need_sets (funv_mk (st := st_need_sets) l10 c10 k10) (PySem.W.mg_of X G a10)        C_need_set 
  have C_all_sums : Cal l.prog w K mg base (ftOf tabs) "all_sums" ["one", "other"] 1 G_all_sums := cal_all_sums (funv_mk (st := st_all_sums) l11 c11 k11) (PySem.W.mg_of X G a11)      m_sorted m_tuple   
  have C_sums : Cal l.prog w K mg base (ftOf tabs) "sums" ["one", "other"] 7 G_sums := cal_sums (funv_mk (st := st_sums) l12 c12 k12) (PySem.W.mg_of X G a12)        C_all_sums C_need_sets 
  exact fn_law (funv_mk (st := st_law) l13 c13 k13)      m_len m_range  C_set_with_sums C_sums C_ends_of_sums C__law_cell_at C__law_draw 
end L2.Fs
open PySem PySem.W PyProof.Rows
set_option maxRecDepth 100000 in
set_option maxHeartbeats 0 in
theorem PySem.Challenge.cw_fewsumlots_k63_each_number_comes_holds : PySem.Challenge.rw_fewsumlots_k63_each_number_comes.Holds := by
  w_on; o_law; k_head; (case hw => w_witness2)
  k_fill
  refine L2.Fs.walkT (l := PySem.Challenge.rw_fewsumlots_k63_each_number_comes) (n := 63) (k := 8) (x := "_law_script") (G := L2.Fs.G_law) rfl (by decide) rfl ⟨rfl, by decide, by decide, rfl⟩ (fun e h => h) (fun w h Y => PySem.W.kIn_of Y) ?kc ?F ?S
  case kc => intro w; kernel_rfl
  case S => exact L2.Fs.law_true
  case F =>
    intro w mg fa h KX G hmg
    refine' L2.Fs.all_mk KX G hmg ?a0 ?l0 ?c0 ?k0 ?a1 ?l1 ?c1 ?k1 ?a2 ?l2 ?c2 ?k2 ?a3 ?l3 ?c3 ?k3 ?a4 ?l4 ?c4 ?k4 ?a5 ?l5 ?c5 ?k5 ?a6 ?l6 ?c6 ?k6 ?a7 ?l7 ?c7 ?k7 ?a8 ?l8 ?c8 ?k8 ?a9 ?l9 ?c9 ?k9 ?a10 ?l10 ?c10 ?k10 ?a11 ?l11 ?c11 ?k11 ?a12 ?l12 ?c12 ?k12 ?a13 ?l13 ?c13 ?k13 ?y_MOST_IN_SIZE ?y_MOST_NUMBERS ?z_all ?z_bool ?z_int ?z_isinstance ?z_len ?z_max ?z_range ?z_sorted ?z_tuple ?z_zip ?g_are_whole ?g_is_set
    (case a0 => k_is)
    (case l0 => k_is)
    (case c0 => k_is)
    (case k0 => k_is)
    (case a1 => k_is)
    (case l1 => k_is)
    (case c1 => k_is)
    (case k1 => k_is)
    (case a2 => k_is)
    (case l2 => k_is)
    (case c2 => k_is)
    (case k2 => k_is)
    (case a3 => k_is)
    (case l3 => k_is)
    (case c3 => k_is)
    (case k3 => k_is)
    (case a4 => k_is)
    (case l4 => k_is)
    (case c4 => k_is)
    (case k4 => k_is)
    (case a5 => k_is)
    (case l5 => k_is)
    (case c5 => k_is)
    (case k5 => k_is)
    (case a6 => k_is)
    (case l6 => k_is)
    (case c6 => k_is)
    (case k6 => k_is)
    (case a7 => k_is)
    (case l7 => k_is)
    (case c7 => k_is)
    (case k7 => k_is)
    (case a8 => k_is)
    (case l8 => k_is)
    (case c8 => k_is)
    (case k8 => k_is)
    (case a9 => k_is)
    (case l9 => k_is)
    (case c9 => k_is)
    (case k9 => k_is)
    (case a10 => k_is)
    (case l10 => k_is)
    (case c10 => k_is)
    (case k10 => k_is)
    (case a11 => k_is)
    (case l11 => k_is)
    (case c11 => k_is)
    (case k11 => k_is)
    (case a12 => k_is)
    (case l12 => k_is)
    (case c12 => k_is)
    (case k12 => k_is)
    (case a13 => k_is)
    (case l13 => k_is)
    (case c13 => k_is)
    (case k13 => k_is)
    (case y_MOST_IN_SIZE => k_is)
    (case y_MOST_NUMBERS => k_is)
    (case z_all => k_is)
    (case z_bool => k_is)
    (case z_int => k_is)
    (case z_isinstance => k_is)
    (case z_len => k_is)
    (case z_max => k_is)
    (case z_range => k_is)
    (case z_sorted => k_is)
    (case z_tuple => k_is)
    (case z_zip => k_is)
    (case g_are_whole => decide +kernel)
    (case g_is_set => decide +kernel)
