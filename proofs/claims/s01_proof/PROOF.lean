import PyProof.Rows.All
import Wide.All
import OpenK.AllK
import Wide.FinOn
import PyProof.EqAt
import PyProof.EqKinds
import PyProof.TupleCall
import KE.BitLaws
import Open.SpecLaws
import KE.OsHead
import KE.OsGo
import PySem.Challenge.RW_cacheguess_s01_answers
set_option Elab.async false
set_option linter.all false
set_option maxRecDepth 100000
set_option maxHeartbeats 4000000
set_option maxRecDepth 100000
namespace L2
open PySem PySem.Spec PyProof.Rows
abbrev Key := Sum Int Str
def keyIs : Key → Value → Bool
  | .inl k, v => Value.isInt k v
  | .inr x, v => Value.isStrOf x v
def keyH (w : World) : Key → Int
  | .inl k => hashInt k
  | .inr x => hashStr w x
theorem keyIs_shape : ∀ {k : Key} {v : Value}, keyIs k v = true → (∃ i t, k = Sum.inl i ∧ v = Value.int i t) ∨ (∃ x t, k = Sum.inr x ∧ v = Value.str x t)
  | .inl i, v, h => by
    obtain ⟨t, e⟩ := Value.isInt_shape (k := i) (v := v) h
    exact .inl ⟨i, t, rfl, e⟩
  | .inr x, v, h => by
    obtain ⟨t, e⟩ := Value.isStrOf_shape (x := x) (v := v) h
    exact .inr ⟨x, t, rfl, e⟩
theorem key_ll (a b : Int) : decide ((Sum.inl a : Key) = Sum.inl b) = (a == b) := by
  by_cases e : a = b
  · subst e; simp
  · have h : ¬ (Sum.inl a : Key) = Sum.inl b := fun q => e (Sum.inl.inj q)
    rw [decide_eq_false h]
    exact (beq_eq_false_iff_ne.mpr e).symm
theorem key_rr (a b : Str) : decide ((Sum.inr a : Key) = Sum.inr b) = decide (a = b) := by
  by_cases e : a = b
  · subst e; simp
  · have h : ¬ (Sum.inr a : Key) = Sum.inr b := fun q => e (Sum.inr.inj q)
    rw [decide_eq_false h, decide_eq_false e]
theorem key_lr (a : Int) (b : Str) : decide ((Sum.inl a : Key) = Sum.inr b) = false := decide_eq_false (fun q => nomatch q)
theorem key_rl (a : Str) (b : Int) : decide ((Sum.inr a : Key) = Sum.inl b) = false := decide_eq_false (fun q => nomatch q)
def mixKind (prog : Program) (w : World) : PySem.KeyKind prog w Key where
  is := keyIs
  hash := keyH w
  inj := fun v a b ha hb => by
    rcases keyIs_shape ha with ⟨i, t, rfl, rfl⟩ | ⟨x, t, rfl, rfl⟩
    · rcases keyIs_shape hb with ⟨j, u, rfl, e⟩ | ⟨y, u, rfl, e⟩
      · injection e with e1 _; rw [e1]
      · exact nomatch e
    · rcases keyIs_shape hb with ⟨j, u, rfl, e⟩ | ⟨y, u, rfl, e⟩
      · exact nomatch e
      · injection e with e1 _; rw [e1]
  byValue := fun k v h => by
    rcases keyIs_shape h with ⟨i, t, rfl, rfl⟩ | ⟨x, t, rfl, rfl⟩ <;> rfl
  pyHash := fun hv h => by
    rcases keyIs_shape hv with ⟨i, t, rfl, rfl⟩ | ⟨x, t, rfl, rfl⟩
    · exact wpAny_pyHash_int h
    · exact wpAny_pyHash_str h
  eqBool := fun hu hv h => by
    rcases keyIs_shape hu with ⟨i, t, rfl, rfl⟩ | ⟨x, t, rfl, rfl⟩
    · rcases keyIs_shape hv with ⟨j, u, rfl, rfl⟩ | ⟨y, u, rfl, rfl⟩
      · rw [key_ll] at h; exact wpAny_eqBool_int h
      · rw [key_lr] at h; exact SeqAt.EqAt.int_str i t y u _ _ _ _ h
    · rcases keyIs_shape hv with ⟨j, u, rfl, rfl⟩ | ⟨y, u, rfl, rfl⟩
      · rw [key_rl] at h; exact SeqAt.EqAt.str_int x t j u _ _ _ _ h
      · rw [key_rr] at h; exact wpAny_eqBool_str h
  «strs» := fun k x t v h => by
    rcases keyIs_shape h with ⟨i, u, rfl, e⟩ | ⟨y, u, rfl, e⟩
    · exact nomatch e
    · injection e with e1 _
      subst e1
      cases v <;> rfl
end L2
namespace L2
open PySem PySem.Spec PyProof.Rows
inductive V where
  | non | bl (b : Bool) | int (i : Int) | str (x : Str) | byt (b : Array UInt8) | flt (b : UInt64) | ref (a : Addr) | ty (n : String)
  deriving DecidableEq
def RelV : V → Value → Prop
  | .non, u => u = Value.none
  | .bl b, u => u = Value.bool b
  | .int i, u => ∃ t, u = Value.int i t
  | .str x, u => ∃ t, u = Value.str x t
  | .byt b, u => ∃ t, u = Value.bytes b t
  | .flt b, u => ∃ t, u = Value.float b t
  | .ref a, u => u = Value.ref a
  | .ty n, u => u = Value.type n
abbrev Vals : List V → List Value → Prop := Paired RelV
theorem Vals.length {xs : List V} {us : List Value} (r : Vals xs us) : xs.length = us.length := Paired.length r
theorem Vals.get : ∀ {xs : List V} {us : List Value} {i : Nat} {x : V}, Vals xs us → xs[i]? = some x → ∃ u, us[i]? = some u ∧ RelV x u
  | _, _, _, _, .nil, e => by simp at e
  | _, _, 0, _, .cons r _, e => by simp at e; subst e; exact ⟨_, rfl, r⟩
  | _, _, i + 1, x, .cons _ t, e => by
    obtain ⟨u, h1, h2⟩ := Vals.get (i := i) (x := x) t (by simpa using e)
    exact ⟨u, by simpa using h1, h2⟩
theorem Vals.set {x : V} {u : Value} (r : RelV x u) : ∀ {xs : List V} {us : List Value} (i : Nat), Vals xs us → Vals (xs.set i x) (us.set i u)
  | _, _, _, .nil => .nil
  | _, _, 0, .cons _ t => .cons r t
  | _, _, i + 1, .cons q t => .cons q (Vals.set r i t)
theorem Vals.append : ∀ {xs ys : List V} {us ws : List Value}, Vals xs us → Vals ys ws → Vals (xs ++ ys) (us ++ ws)
  | _, _, _, _, .nil, s => s
  | _, _, _, _, .cons r t, s => .cons r (Vals.append t s)
theorem Vals.take : ∀ {xs : List V} {us : List Value} (n : Nat), Vals xs us → Vals (xs.take n) (us.take n)
  | _, _, 0, _ => .nil
  | _, _, _ + 1, .nil => .nil
  | _, _, n + 1, .cons r t => .cons r (Vals.take n t)
theorem Vals.drop : ∀ {xs : List V} {us : List Value} (n : Nat), Vals xs us → Vals (xs.drop n) (us.drop n)
  | _, _, 0, r => r
  | _, _, _ + 1, .nil => .nil
  | _, _, n + 1, .cons _ t => Vals.drop n t
def RelO : Option V → Option Value → Prop
  | some v, some u => RelV v u
  | none, none => True
  | _, _ => False
def KV {κ : Type} : List (κ × V) → List (κ × Value) → Prop := Paired fun (p : κ × V) (q : κ × Value) => p.1 = q.1 ∧ RelV p.2 q.2
def kV : Key → V
  | .inl i => .int i
  | .inr x => .str x
inductive HO where
    | lst (xs : List V)
    | tup (xs : List V)
    | dK (kvs : List (Key × V)) | dT (kvs : List (List Key × V))
    | set (S : Int → Bool) (n : Nat)
    | ins (C dx : Addr) (fs : List (Str × V))
    | own (x : Addr)
    | xd (fs : List (Str × V))
    | met (f x : Addr)
    | rng (lo hi : Int)
    | frz (o : Obj) (u : HO)
    | tbl (ps : Array Value)
    | ext (φ : Heap → Prop)
abbrev Hp := Addr → Option HO
def upd (H : Hp) (a : Addr) (o : HO) : Hp := fun b => if b = a then some o else H b
theorem upd_same {H : Hp} {a : Addr} {o : HO} : upd H a o a = some o := by unfold upd; rw [if_pos rfl]
theorem upd_ne {H : Hp} {a b : Addr} {o : HO} (h : b ≠ a) : upd H a o b = H b := by unfold upd; rw [if_neg h]
theorem ne_of {H : Hp} {a b : Addr} {o u : HO} (h : H a = some o) (h' : H b = some u) (d : o ≠ u) : a ≠ b := by
  intro e; subst e; rw [h] at h'; exact d (Option.some.inj h')
theorem ne_of_none {H : Hp} {a b : Addr} {o : HO} (h : H a = some o) (h' : H b = none) : a ≠ b := by
  intro e; subst e; rw [h] at h'; cases h'
section
variable (P : Program) (w : World)
def ObjOk (H : Hp) (h : Heap) (a : Addr) : HO → Prop
  | .lst xs => xs.length ≤ sizeLine ∧ ∃ (its : List Value) (n : Nat), Vals xs its ∧ h.get? a = some { cls := .type "list", data := .seq its.toArray n }
  | .tup xs => xs.length ≤ sizeLine ∧ ∃ its : List Value, Vals xs its ∧ IsTup h a its.toArray
  | .dK kvs => kvs.length ≤ sizeLine ∧ (a == sysModules) = false ∧ ∃ vs, KV kvs vs ∧ h.DictOf (mixKind P w) a vs
  | .dT kvs => kvs.length ≤ sizeLine ∧ (a == sysModules) = false ∧ ∃ xs : List (List Key × Addr × Value),
      Paired (fun (p : List Key × V) (q : List Key × Addr × Value) => p.1 = q.1 ∧ H q.2.1 = some (.tup (p.1.map kV)) ∧ RelV p.2 q.2.2) kvs xs ∧
      ∃ o es ep, h.get? a = some o ∧ o.ExactDict ∧ o.data = .dict es ep ∧ es.toList = xs.map (entryOfKey (tupleKind (mixKind P w))) ∧ (xs.map (·.1)).Nodup
  | .set S n => h.SetOf (intKind P w) a S n
  | .ins C dx fs => H dx = some (.own a) ∧ fs.length ≤ 1000 ∧ dx ≠ a ∧ h.get? a = some (PySem.W.instObj C dx) ∧
      ∃ mA, h.Ns1 dx mA ∧ (∀ f, RelO (fs.lookup f) (mA f)) ∧ PySem.Within mA (fs.map (·.1))
  | .own _ => ∃ o, h.get? a = some o
  | .xd fs => ∃ mA, h.Ns1 a mA ∧ ∀ f, RelO (fs.lookup f) (mA f)
  | .rng lo hi => ∃ t u v, h.get? a = some { cls := .type "range", data := .fields #[.int lo t, .int hi u, .int 1 v] }
  | .frz o u => h.get? a = some o ∧ ObjOk H h a u
  | .tbl ps => h.get? a = some { cls := .none, data := .fields ps }
  | .met f x => h.get? a = some (PySem.W.methodObj (.ref f) (.ref x))
  | .ext φ => φ h ∧ (∃ o, h.get? a = some o) ∧ ∀ h1 h2 : Heap, φ h1 → (∀ o, h1.get? a = some o → h2.get? a = some o) → φ h2
def HOk (H : Hp) (h : Heap) : Prop := ∀ a o, H a = some o → ObjOk P w H h a o
end
section
variable {P : Program} {w : World} {H H' : Hp} {h h' : Heap} {a : Addr} {o : HO}
theorem ObjOk.lt (x : ObjOk P w H h a o) : a < h.objs.size := by
  cases o with
  | lst xs => obtain ⟨_, _, _, _, e⟩ := x; exact Heap.lt_size e
  | tup xs => obtain ⟨_, _, _, p⟩ := x; exact p.lt
  | dK kvs => obtain ⟨_, _, _, _, o, _, _, e, _⟩ := x; exact Heap.lt_size e
  | dT kvs => obtain ⟨_, _, _, _, o, _, _, e, _⟩ := x; exact Heap.lt_size e
  | set S n => obtain ⟨o, _, _, _, e, _⟩ := x; exact Heap.lt_size e
  | ins C dx fs => obtain ⟨_, _, _, e, _⟩ := x; exact Heap.lt_size e
  | own y => obtain ⟨_, e⟩ := x; exact Heap.lt_size e
  | xd fs => obtain ⟨_, ⟨_, _, _, e, _⟩, _⟩ := x; exact Heap.lt_size e
  | rng lo hi => obtain ⟨_, _, _, e⟩ := x; exact Heap.lt_size e
  | frz ob u => obtain ⟨e, _⟩ := x; exact Heap.lt_size e
  | tbl ps => exact Heap.lt_size (show h.get? a = some _ from x)
  | met f y => exact Heap.lt_size (show h.get? a = some _ from x)
  | ext φ => obtain ⟨_, ⟨_, e⟩, _⟩ := x; exact Heap.lt_size e
theorem Paired.mapP {α β : Type} {F G : α → β → Prop} : ∀ {l₁ : List α} {l₂ : List β}, Paired F l₁ l₂ → (∀ a b, F a b → G a b) → Paired G l₁ l₂
  | _, _, .nil, _ => .nil
  | _, _, .cons r t, f => .cons (f _ _ r) (Paired.mapP t f)
theorem ObjOk.stay (x : ObjOk P w H h a o) (k : ∀ b u, (b = a ∨ H b = some (.own a)) → h.get? b = some u → h'.get? b = some u)
    (ho : ∀ b, H b = some (.own a) → H' b = some (.own a)) (ht : ∀ b xs, H b = some (.tup xs) → H' b = some (.tup xs)) : ObjOk P w H' h' a o := by
  induction o with
  | lst xs => obtain ⟨z, its, n, r, e⟩ := x; exact ⟨z, its, n, r, k _ _ (.inl rfl) e⟩
  | tup xs => obtain ⟨z, its, r, ob, e, c⟩ := x; exact ⟨z, its, r, ob, k _ _ (.inl rfl) e, c⟩
  | dK kvs => obtain ⟨z, y, vs, r, ob, es, ep, e, c⟩ := x; exact ⟨z, y, vs, r, ob, es, ep, k _ _ (.inl rfl) e, c⟩
  | dT kvs =>
    obtain ⟨z, y, xs, r, ob, es, ep, e, c⟩ := x
    exact ⟨z, y, xs, Paired.mapP r fun p q z => ⟨z.1, ht _ _ z.2.1, z.2.2⟩, ob, es, ep, k _ _ (.inl rfl) e, c⟩
  | set S n => obtain ⟨ob, es, ep, t, e, c⟩ := x; exact ⟨ob, es, ep, t, k _ _ (.inl rfl) e, c⟩
  | ins C dx fs =>
    obtain ⟨d, z, ne, e, mA, ⟨od, es, ep, e2, c⟩, r⟩ := x
    exact ⟨ho _ d, z, ne, k _ _ (.inl rfl) e, mA, ⟨od, es, ep, k _ _ (.inr d) e2, c⟩, r⟩
  | own y => obtain ⟨ob, e⟩ := x; exact ⟨ob, k _ _ (.inl rfl) e⟩
  | xd fs => obtain ⟨mA, ⟨od, es, ep, e, c⟩, r⟩ := x; exact ⟨mA, ⟨od, es, ep, k _ _ (.inl rfl) e, c⟩, r⟩
  | rng lo hi => obtain ⟨t, u, v, e⟩ := x; exact ⟨t, u, v, k _ _ (.inl rfl) e⟩
  | frz ob u ih => obtain ⟨e, q⟩ := x; exact ⟨k _ _ (.inl rfl) e, ih q⟩
  | tbl ps =>
    have e : h.get? a = some { cls := .none, data := .fields ps } := x
    show h'.get? a = some { cls := .none, data := .fields ps }
    exact k a _ (.inl rfl) e
  | met f y =>
    have e : h.get? a = some (PySem.W.methodObj (.ref f) (.ref y)) := x
    show h'.get? a = some (PySem.W.methodObj (.ref f) (.ref y))
    exact k a _ (.inl rfl) e
  | ext φ => obtain ⟨p, ⟨o, e⟩, st⟩ := x; exact ⟨st _ _ p fun o q => k _ _ (.inl rfl) q, ⟨o, k _ _ (.inl rfl) e⟩, st⟩
theorem HOk.lt (x : HOk P w H h) (e : H a = some o) : a < h.objs.size := (x a o e).lt
theorem HOk.fresh (x : HOk P w H h) (e : h.objs.size ≤ a) : H a = none := by
  cases q : H a with
  | none => rfl
  | some u => exact absurd (Nat.lt_of_lt_of_le (x.lt q) e) (Nat.lt_irrefl _)
theorem HOk.kept (x : HOk P w H h) (k : ∀ b u, h.get? b = some u → h'.get? b = some u) : HOk P w H h' := fun a o e =>
  (x a o e).stay (fun b u _ q => k b u q) (fun _ q => q) fun _ _ q => q
theorem HOk.laid (x : HOk P w H h) (k : ∀ b u, h.get? b = some u → h'.get? b = some u) (hp : h.objs.size ≤ a) (new : ObjOk P w (upd H a o) h' a o) : HOk P w (upd H a o) h' := fun b u e => by
  have hn := x.fresh hp
  by_cases hb : b = a
  · subst hb; rw [upd_same] at e; cases e; exact new
  · rw [upd_ne hb] at e
    exact (x b u e).stay (fun c v _ q => k c v q) (fun c q => by rw [upd_ne (ne_of_none q hn)]; exact q) fun c xs q => by rw [upd_ne (ne_of_none q hn)]; exact q
end
def Rd (H : Hp) (a : Addr) (u : HO) : Prop := H a = some u ∨ ∃ o, H a = some (.frz o u)
theorem Rd.ok {P : Program} {w : World} {H : Hp} {h : Heap} {a : Addr} {u : HO} (r : Rd H a u) (x : HOk P w H h) : ObjOk P w H h a u := by
  rcases r with r | ⟨o, r⟩
  · exact x a u r
  · obtain ⟨_, q⟩ := x a _ r
    exact q
def Mut : Option HO → Prop
  | some (.lst _) => True
  | some (.dK _) => True
  | some (.dT _) => True
  | some (.set _ _) => True
  | some (.ins _ _ _) => True
  | some (.ext _) => True
  | _ => False
section
variable {P : Program} {w : World} {H : Hp} {h h' : Heap} {x e : Addr} {o' : HO}
theorem HOk.write (ok : HOk P w H h) (mu : Mut (H x)) (he : e = x ∨ H e = some (.own x)) (k : ∀ b u, b ≠ e → h.get? b = some u → h'.get? b = some u) (heo : ∃ u, h'.get? e = some u)
    (new : ObjOk P w (upd H x o') h' x o') : HOk P w (upd H x o') h' := fun b u q => by
  have nown : ∀ c y, H c = some (.own y) → c ≠ x := fun c y r z => by subst z; rw [r] at mu; exact mu
  have ntup : ∀ c xs, H c = some (.tup xs) → c ≠ x := fun c xs r z => by subst z; rw [r] at mu; exact mu
  by_cases hb : b = x
  · subst hb; rw [upd_same] at q; cases q; exact new
  · rw [upd_ne hb] at q
    by_cases hbe : b = e
    · have q' : H b = some (.own x) := by
        rcases he with z | z
        · exact absurd (hbe.trans z) hb
        · rw [hbe]; exact z
      rw [q] at q'; cases q'
      obtain ⟨v, hv⟩ := heo
      exact ⟨v, by rw [hbe]; exact hv⟩
    · refine (ok b u q).stay (fun c v hc r => k c v ?_ r) (fun c r => by rw [upd_ne (nown c b r)]; exact r) fun c xs r => by rw [upd_ne (ntup c xs r)]; exact r
      rcases hc with rfl | hc
      · exact hbe
      · rintro rfl
        rcases he with z | z
        · exact nown c b hc z
        · rw [hc] at z; cases z; exact hb rfl
end
structure Un (fs ex : List Addr) (H H' : Hp) (h h' : Heap) : Prop where
  keep : ∀ b o, h.get? b = some o → H b = none → b ∉ fs → b ∉ ex → h'.get? b = some o
  slot : ∀ b o, h.get? b = some o → H b = none → b ∈ fs → b ∉ ex → ∃ sl, h'.get? b = some { o with slots := sl }
  free : ∀ b o, h.get? b = some o → H b = none → b ∉ ex → H' b = none
  there : ∀ b o, h.get? b = some o → b ∉ ex → ∃ o', h'.get? b = some o'
  tups : ∀ b xs, H b = some (.tup xs) → H' b = some (.tup xs)
  frzs : ∀ b o u, H b = some (.frz o u) → H' b = some (.frz o u)
  tbls : ∀ b ps, H b = some (.tbl ps) → ∃ more, H' b = some (.tbl (ps ++ more))
section
variable {fs fs' ex ex' : List Addr} {H H1 H2 : Hp} {h h1 h2 h' : Heap} {a x e : Addr} {o : HO}
theorem Un.any (u : Un fs ex H H1 h h1) {b : Addr} {ob : Obj} (q : h.get? b = some ob) (n : H b = none) (hx : b ∉ ex) : ∃ sl, h1.get? b = some { ob with slots := sl } := by
  by_cases hb : b ∈ fs
  · exact u.slot b ob q n hb hx
  · exact ⟨ob.slots, u.keep b ob q n hb hx⟩
theorem Un.kept (k : ∀ b u, h.get? b = some u → h'.get? b = some u) : Un fs ex H H h h' :=
  ⟨fun b ob q _ _ _ => k b ob q, fun b ob q _ _ _ => ⟨ob.slots, k b ob q⟩, fun _ _ _ n _ => n, fun b ob q _ => ⟨ob, k b ob q⟩, fun _ _ q => q, fun _ _ _ q => q, fun _ ps q => ⟨#[], by rw [q]; simp⟩⟩
theorem Un.refl : Un fs ex H H h h := Un.kept fun _ _ q => q
theorem Un.laid (k : ∀ b u, h.get? b = some u → h'.get? b = some u) (hp : h.objs.size ≤ a) (hn : H a = none) : Un fs ex H (upd H a o) h h' where
  keep := fun b u q _ _ _ => k b u q
  slot := fun b u q _ _ _ => ⟨u.slots, k b u q⟩
  free := fun b u q n _ => by rw [upd_ne (Nat.ne_of_lt (Nat.lt_of_lt_of_le (Heap.lt_size q) hp))]; exact n
  there := fun b u q _ => ⟨u, k b u q⟩
  tups := fun b xs q => by rw [upd_ne (ne_of_none q hn)]; exact q
  frzs := fun b u xs q => by rw [upd_ne (ne_of_none q hn)]; exact q
  tbls := fun b ps q => ⟨#[], by rw [upd_ne (ne_of_none q hn), q]; simp⟩
theorem Un.write (mu : Mut (H x)) (he : e = x ∨ H e = some (.own x)) (k : ∀ b u, b ≠ e → h.get? b = some u → h'.get? b = some u) (heo : ∃ u, h'.get? e = some u) : Un fs ex H (upd H x o) h h' := by
  have hx : ∀ b, H b = none → b ≠ x := fun b n z => by subst z; rw [n] at mu; exact mu
  have hb : ∀ b, H b = none → b ≠ e := fun b n z => by
    subst z
    rcases he with r | r
    · exact hx b n r
    · rw [n] at r; cases r
  have hm : ∀ b u, H b = some u → ¬ Mut (some u) → b ≠ x := fun b u q nm z => by subst z; rw [q] at mu; exact nm mu
  refine ⟨fun b u q n _ _ => k b u (hb b n) q, fun b u q n _ _ => ⟨u.slots, k b u (hb b n) q⟩, fun b u q n _ => by rw [upd_ne (hx b n)]; exact n, fun b u q _ => ?_,
    fun b xs q => by rw [upd_ne (hm b _ q fun z => z)]; exact q, fun b u xs q => by rw [upd_ne (hm b _ q fun z => z)]; exact q, fun b ps q => ⟨#[], by rw [upd_ne (hm b _ q fun z => z), q]; simp⟩⟩
  by_cases hbe : b = e
  · subst hbe; exact heo
  · exact ⟨u, k b u hbe q⟩
end
def trk (h : Heap) (H : Hp) : List Addr := (List.range h.objs.size).filter fun a => (H a).isSome
def hidT (h : Heap) (H : Hp) : Heap := PySem.W.hideAll h (trk h H)
theorem hidT_size (h : Heap) (H : Hp) : (hidT h H).objs.size = h.objs.size := PySem.W.hideAll_size _ _
theorem hidT_get {h : Heap} {H : Hp} {b : Addr} {o : Obj} (e : h.get? b = some o) (n : H b = none) : (hidT h H).get? b = some o :=
  PySem.W.hideAll_get _ e fun hm => by
    have q : (H b).isSome = true := (List.mem_filter.mp hm).2
    rw [n] at q; simp at q
theorem of_hidT {h : Heap} {H : Hp} {b : Addr} {o : Obj} (e : (hidT h H).get? b = some o) : h.get? b = some o ∧ H b = none := by
  have e' : h.get? b = some o := PySem.W.of_hideAll (trk h H) e
  refine ⟨e', ?_⟩
  cases q : H b with
  | none => rfl
  | some x =>
    have hm : b ∈ trk h H := List.mem_filter.mpr ⟨List.mem_range.mpr (Heap.lt_size e'), by simp [q]⟩
    have z : (hidT h H).get? b = none := PySem.W.hideAll_none (trk h H) hm
    rw [z] at e; cases e
end L2
namespace L2
open PySem PySem.Spec PyProof.Rows
structure Mod (K : W.Frag) (mg : Str → Option Value) (base : Heap) : Prop where
  kin : K.In base
  glob : base.Ns mainGlobals mg
  blt : ∃ mb, base.Ns builtinsNs mb ∧ ∀ x : Str, x ≠ "__name__" → mb x = bootBuiltins x
  nolimit : base.NoLimit
structure Cx where
  prog : Program
  w : World
  K : W.Frag
  mg : Str → Option Value
  base : Heap
  A : Around
  N : List Str
  s_0 : Shared
  H_0 : Hp
  env : Env
  outer : List Env
  stack : List Env
  ex : List Addr
  fn : Str → Bool
  calm : Bool
  pn : List (Addr × Obj)
  xe : Value → Shared → Prop
def frs (l : List Env) : List Addr := l.filterMap (·.frame)
abbrev Cx.fs (X : Cx) : List Addr := frs X.outer
def Vis (sc : Scope) (x : Str) : Prop := sc.names.lookup x = some .local ∨ sc.names.lookup x = some .cell ∨ sc.names.lookup x = some .free
def Loc (sc : Scope) (x : Str) : Prop := sc.names.lookup x = some .local ∨ sc.names.lookup x = some .cell
def Look (env : Env) (h : Heap) (m : Str → Option Value) (x : Str) (u : Value) : Prop :=
  (env.kindOf x = some .local ∧ m x = some u) ∨ ((env.kindOf x = some .cell ∨ env.kindOf x = some .free) ∧ ∃ c, env.cells.lookup x = some c ∧ h.IsCell c (some u))
structure Cx.Ok (X : Cx) : Prop where
  mod : Mod X.K X.mg X.base
  kind : X.env.scope.kind = .function
  glob : X.env.globals = mainGlobals
  blt : X.env.builtins = builtinsNs
  above : X.s_0.heap.objs.size ≤ X.env.locals
  inj : ∀ x y c, X.env.cells.lookup x = some c → X.env.cells.lookup y = some c → x = y
  has : ∀ x, (X.env.kindOf x = some .cell ∨ X.env.kindOf x = some .free) → ∃ c, X.env.cells.lookup x = some c
  cab : ∀ x c, X.fn x = true → X.env.cells.lookup x = some c → X.s_0.heap.objs.size ≤ c
  hd : X.calm = true → X.A.handled = none
  frames : X.A.frames = some X.stack
  stk : X.stack = X.outer ∨ (X.stack = X.env :: X.outer ∧ X.env.frame = some X.env.locals)
  exf : ∀ b ∈ X.ex, b ≠ X.env.locals ∧ ∀ x c, X.env.cells.lookup x = some c → c ≠ b
  bs : ∀ b o, X.base.get? b = some o → X.s_0.heap.get? b = some o ∧ X.H_0 b = none
  bsz : X.base.objs.size ≤ X.s_0.heap.objs.size
  noex : ∀ b o, X.base.get? b = some o → b ∉ X.ex
  exfs : ∀ b ∈ X.ex, b ∉ X.fs
  funs : X.s_0.heap.FunFrames X.base X.outer
  frf : ∀ b ∈ X.fs, X.H_0 b = none
structure Inv (X : Cx) (pins : List (Addr × Obj)) (σ : List (Option V)) (H : Hp) (s : Shared) : Prop where
  ok : X.Ok
  os : s.os = X.s_0.os
  bare : AllBare s.gens
  base : Un X.fs X.ex X.H_0 H X.s_0.heap s.heap
  loc : ∃ m, s.heap.Ns X.env.locals m ∧ ∀ (i : Nat) (x : Str) (v : V), X.N[i]? = some x → σ[i]? = some (some v) → Vis X.env.scope x → ∃ u, RelV v u ∧ Look X.env s.heap m x u
  cell : ∀ x c, X.env.cells.lookup x = some c → ∃ v, s.heap.IsCell c v
  free : H X.env.locals = none
  freeC : ∀ x c, X.env.cells.lookup x = some c → H c = none
  pin : ∀ p ∈ X.pn ++ pins, s.heap.get? p.1 = some p.2 ∧ H p.1 = none ∧ p.1 ≠ X.env.locals ∧ p.1 ∉ X.fs ∧ ∀ v, p.2.data ≠ .cell v
  hok : HOk X.prog X.w H s.heap
  len : σ.length = X.N.length
section
variable {X : Cx} {pins : List (Addr × Obj)} {σ : List (Option V)} {H H' : Hp} {s : Shared} {h' : Heap}
theorem Cx.Ok.nofr (ok : X.Ok) {b : Addr} {o : Obj} (e : X.base.get? b = some o) : b ∉ X.fs := fun hb => by
  have := (ok.funs.mem hb).1
  rw [e] at this; cases this
theorem Inv.bs (I : Inv X pins σ H s) : ∀ b o, X.base.get? b = some o → s.heap.get? b = some o ∧ H b = none := fun b o e =>
  ⟨I.base.keep b o (I.ok.bs b o e).1 (I.ok.bs b o e).2 (I.ok.nofr e) (I.ok.noex b o e), I.base.free b o (I.ok.bs b o e).1 (I.ok.bs b o e).2 (I.ok.noex b o e)⟩
theorem Inv.bk (I : Inv X pins σ H s) : ∀ b o, X.base.get? b = some o → s.heap.get? b = some o := fun b o e => (I.bs b o e).1
theorem Inv.mod (I : Inv X pins σ H s) : Mod X.K X.mg X.base := I.ok.mod
theorem Inv.kIn (I : Inv X pins σ H s) : X.K.In s.heap := I.ok.mod.kin.keeps I.bk
theorem Inv.lt (I : Inv X pins σ H s) : X.env.locals < s.heap.objs.size := let ⟨_, hn, _⟩ := I.loc; hn.lt
theorem Inv.sz (I : Inv X pins σ H s) : X.s_0.heap.objs.size ≤ s.heap.objs.size := Nat.le_trans I.ok.above (Nat.le_of_lt I.lt)
theorem Inv.nofs (I : Inv X pins σ H s) {a : Addr} (h : s.heap.objs.size ≤ a) : a ∉ X.fs := fun hb => by
  obtain ⟨_, o, ho, _⟩ := I.ok.funs.mem hb
  exact absurd (Nat.lt_of_lt_of_le (Heap.lt_size ho) (Nat.le_trans I.sz h)) (Nat.lt_irrefl _)
theorem Inv.cne (I : Inv X pins σ H s) : ∀ x c, X.env.cells.lookup x = some c → c ≠ X.env.locals := fun x c e z => by
  obtain ⟨v, o, ho, hd⟩ := I.cell x c e
  obtain ⟨m, ⟨o', es, ep, ho', hd', _⟩, _⟩ := I.loc
  rw [z, ho'] at ho; cases ho; rw [hd'] at hd; cases hd
theorem Inv.funs (I : Inv X pins σ H s) : s.heap.FunFrames X.base X.outer := by
  have all : ∀ (l : List Env), (∀ b ∈ frs l, b ∈ X.fs) → X.s_0.heap.FunFrames X.base l → s.heap.FunFrames X.base l := by
    intro l
    induction l with
    | nil => intro _ _; trivial
    | cons env r ih =>
      intro hs hl
      obtain ⟨hk, ⟨L, o, hf, hn, ho, hd⟩, hr⟩ := hl
      have hL : L ∈ X.fs := hs L (by unfold frs; rw [List.filterMap_cons, hf]; exact List.mem_cons_self)
      obtain ⟨sl, e⟩ := I.base.slot L o ho (I.ok.frf L hL) hL fun z => I.ok.exfs L z hL
      exact ⟨hk, ⟨L, _, hf, hn, e, hd⟩, ih (fun b hb => hs b (by unfold frs; rw [List.filterMap_cons, hf]; exact List.mem_cons_of_mem _ hb)) hr⟩
  exact all X.outer (fun _ hb => hb) I.ok.funs
theorem Inv.stack (I : Inv X pins σ H s) : s.heap.FunFrames X.base X.stack := by
  rcases I.ok.stk with e | ⟨e, hf⟩
  · rw [e]; exact I.funs
  · rw [e]
    obtain ⟨m, hn, _⟩ := I.loc
    refine .cons (by rw [I.ok.kind]; decide) hf hn ?_ I.funs
    exact Heap.get?_none_of_le (Nat.le_trans I.ok.bsz I.ok.above)
theorem Inv.stkSub (I : Inv X pins σ H s) : ∀ b ∈ frs X.stack, b ∈ X.env.locals :: X.fs := fun b hb => by
  rcases I.ok.stk with e | ⟨e, hf⟩
  · rw [e] at hb; exact List.mem_cons_of_mem _ hb
  · rw [e] at hb
    unfold frs at hb
    rw [List.filterMap_cons, hf] at hb
    exact hb
theorem Inv.stkFree (I : Inv X pins σ H s) : ∀ b ∈ frs X.stack, H b = none := fun b hb => by
  rcases List.mem_cons.mp (I.stkSub b hb) with e | hb
  · rw [e]; exact I.free
  · obtain ⟨_, o, ho, _⟩ := I.ok.funs.mem hb
    exact I.base.free b o ho (I.ok.frf b hb) fun z => I.ok.exfs b z hb
theorem Inv.step {g' : Array GenState} {t' : Nat} {d' : Drawn} {ch : List Addr} (I : Inv X pins σ H s)
    (hch : ∀ b ∈ ch, (b ∈ X.ex ∨ X.s_0.heap.objs.size ≤ b) ∧ b ≠ X.env.locals ∧ (∀ x c, X.env.cells.lookup x = some c → c ≠ b) ∧ ∀ p ∈ X.pn ++ pins, p.1 ≠ b)
    (keep : ∀ b o, b ≠ X.env.locals → b ∉ X.fs → b ∉ ch → s.heap.get? b = some o → H b = none → h'.get? b = some o)
    (slot : ∀ b o, b ≠ X.env.locals → b ∈ X.fs → b ∉ ch → s.heap.get? b = some o → H b = none → ∃ sl, h'.get? b = some { o with slots := sl }) (free : ∀ b o, b ∉ ch → s.heap.get? b = some o → H b = none → H' b = none)
    (there : ∀ b o, b ∉ ch → s.heap.get? b = some o → ∃ o', h'.get? b = some o')
    (tups : ∀ b xs, H b = some (.tup xs) → H' b = some (.tup xs)) (frzs : ∀ b o u, H b = some (.frz o u) → H' b = some (.frz o u)) (tbls : ∀ b ps, H b = some (.tbl ps) → ∃ more, H' b = some (.tbl (ps ++ more)))
    (ns : ∀ m, s.heap.Ns X.env.locals m → h'.Ns X.env.locals m) (hok : HOk X.prog X.w H' h') (hg : AllBare g') :
    Inv X pins σ H' { s with heap := h', gens := g', drawn := d', toks := t' } := by
  have neL : ∀ b o, X.s_0.heap.get? b = some o → b ≠ X.env.locals := fun b o e => Nat.ne_of_lt (Nat.lt_of_lt_of_le (Heap.lt_size e) I.ok.above)
  have neC : ∀ b o, X.s_0.heap.get? b = some o → b ∉ X.ex → b ∉ ch := fun b o e hx hb => by
    rcases (hch b hb).1 with z | z
    · exact hx z
    · exact absurd (Nat.lt_of_lt_of_le (Heap.lt_size e) z) (Nat.lt_irrefl _)
  have cellK : ∀ x c, X.env.cells.lookup x = some c → ∀ v, s.heap.IsCell c v → h'.IsCell c v := fun x c e v ⟨o, ho, hd⟩ => by
    have nch : c ∉ ch := fun z => (hch c z).2.2.1 x c e rfl
    by_cases hc : c ∈ X.fs
    · obtain ⟨sl, q⟩ := slot c o (I.cne x c e) hc nch ho (I.freeC x c e)
      exact ⟨_, q, hd⟩
    · exact ⟨o, keep c o (I.cne x c e) hc nch ho (I.freeC x c e), hd⟩
  refine ⟨I.ok, I.os, hg, ⟨fun b o e n hb hx => ?_, fun b o e n hb hx => ?_, fun b o e n hx => ?_, fun b o e hx => ?_, fun b xs e => tups b xs (I.base.tups b xs e), fun b o xs e => frzs b o xs (I.base.frzs b o xs e), fun b ps e => ?_⟩, ?_, fun x c e => ?_, ?_, fun x c e => ?_, fun p hp => ?_, hok, I.len⟩
  · exact keep b o (neL b o e) hb (neC b o e hx) (I.base.keep b o e n hb hx) (I.base.free b o e n hx)
  · obtain ⟨sl, e1⟩ := I.base.slot b o e n hb hx
    obtain ⟨sl', e2⟩ := slot b _ (neL b o e) hb (neC b o e hx) e1 (I.base.free b o e n hx)
    exact ⟨sl', e2⟩
  · obtain ⟨o', e1⟩ := I.base.there b o e hx
    exact free b o' (neC b o e hx) e1 (I.base.free b o e n hx)
  · obtain ⟨o', e1⟩ := I.base.there b o e hx
    exact there b o' (neC b o e hx) e1
  · obtain ⟨m1, e1⟩ := I.base.tbls b ps e
    obtain ⟨m2, e2⟩ := tbls b _ e1
    exact ⟨m1 ++ m2, by rw [e2, Array.append_assoc]⟩
  · obtain ⟨m, hn, hl⟩ := I.loc
    refine ⟨m, ns m hn, fun i x v e1 e2 e3 => ?_⟩
    obtain ⟨u, r, l⟩ := hl i x v e1 e2 e3
    refine ⟨u, r, ?_⟩
    rcases l with l | ⟨k, c, e, z⟩
    · exact .inl l
    · exact .inr ⟨k, c, e, cellK x c e _ z⟩
  · obtain ⟨v, z⟩ := I.cell x c e
    exact ⟨v, cellK x c e v z⟩
  · obtain ⟨m, ⟨o, _, _, ho, _⟩, _⟩ := I.loc
    exact free _ o (fun z => (hch _ z).2.1 rfl) ho I.free
  · obtain ⟨v, o, ho, hd⟩ := I.cell x c e
    exact free c o (fun z => (hch c z).2.2.1 x c e rfl) ho (I.freeC x c e)
  · obtain ⟨e, n, ne, nf, d⟩ := I.pin p hp
    have nch : p.1 ∉ ch := fun z => (hch p.1 z).2.2.2 p hp rfl
    exact ⟨keep p.1 p.2 ne nf nch e n, free p.1 p.2 nch e n, ne, nf, d⟩
theorem Inv.un {t' : Nat} (I : Inv X pins σ H s) (u : Un X.fs [] H H' s.heap h') (hok : HOk X.prog X.w H' h') : Inv X pins σ H' { s with heap := h', toks := t' } := by
  obtain ⟨m, ⟨o, es, ep, ho, r⟩, _⟩ := id I.loc
  obtain ⟨sl, hL⟩ := u.any ho I.free (by simp)
  exact I.step (g' := s.gens) (d' := s.drawn) (ch := []) (fun _ z => nomatch z) (fun b o _ hb _ e n => u.keep b o e n hb (by simp)) (fun b o _ hb _ e n => u.slot b o e n hb (by simp)) (fun b o _ e n => u.free b o e n (by simp)) (fun b o _ e => u.there b o e (by simp)) u.tups u.frzs u.tbls (fun m' hm => by
    obtain ⟨o', es', ep', ho', r'⟩ := hm
    rw [ho] at ho'; cases ho'
    exact ⟨_, es', ep', hL, r'⟩) hok I.bare
theorem Inv.call {g' : Array GenState} {t' : Nat} {d' : Drawn} {ch : List Addr} (I : Inv X pins σ H s) (u : Un (frs X.stack) ch H H' s.heap h') (hok : HOk X.prog X.w H' h') (hg : AllBare g')
    (hch : ∀ b ∈ ch, (b ∈ X.ex ∨ X.s_0.heap.objs.size ≤ b) ∧ b ≠ X.env.locals ∧ (∀ x c, X.env.cells.lookup x = some c → c ≠ b) ∧ ∀ p ∈ X.pn ++ pins, p.1 ≠ b) :
    Inv X pins σ H' { s with heap := h', gens := g', drawn := d', toks := t' } := by
  obtain ⟨m, ⟨o, es, ep, ho, r⟩, _⟩ := id I.loc
  obtain ⟨sl, hL⟩ := u.any ho I.free fun z => (hch _ z).2.1 rfl
  exact I.step (ch := ch) hch (fun b o hL hb hc e n => u.keep b o e n (fun z => (List.mem_cons.mp (I.stkSub b z)).elim hL hb) hc) (fun b o _ _ hc e n => u.any e n hc) (fun b o hc e n => u.free b o e n hc) (fun b o hc e => u.there b o e hc) u.tups u.frzs u.tbls (fun m' hm => by
    obtain ⟨o', es', ep', ho', r'⟩ := hm
    rw [ho] at ho'; cases ho'
    exact ⟨_, es', ep', hL, r'⟩) hok hg
theorem Inv.turned {t' : Nat} {it : Addr} (I : Inv X pins σ H s) (k : ∀ b o, b ≠ it → s.heap.get? b = some o → h'.get? b = some o) (hn : H it = none) (hL : it ≠ X.env.locals)
    (h1 : it ∈ X.ex ∨ X.s_0.heap.objs.size ≤ it) (h2 : ∀ x c, X.env.cells.lookup x = some c → c ≠ it) (h3 : ∀ p ∈ X.pn ++ pins, p.1 ≠ it) : Inv X pins σ H { s with heap := h', toks := t' } := by
  have nit : ∀ b u, H b = some u → b ≠ it := fun b u e z => by rw [z, hn] at e; cases e
  refine I.step (g' := s.gens) (d' := s.drawn) (ch := [it]) (fun b hb => ?_) (fun b o _ _ hc e _ => k b o (fun z => hc (by simp [z])) e) (fun b o _ _ hc e _ => ⟨o.slots, k b o (fun z => hc (by simp [z])) e⟩) (fun _ _ _ _ n => n)
    (fun b o hc e => ⟨o, k b o (fun z => hc (by simp [z])) e⟩) (fun _ _ e => e) (fun _ _ _ e => e) (fun b ps e => ⟨#[], by rw [e]; simp⟩) (fun m hm => ?_) (fun b u e => ?_) I.bare
  · have e : b = it := by simpa using hb
    subst e
    exact ⟨h1, hL, h2, h3⟩
  · obtain ⟨o, es, ep, ho, r⟩ := hm
    exact ⟨o, es, ep, k _ o (Ne.symm hL) ho, r⟩
  · refine (I.hok b u e).stay (fun c v hc q => k c v ?_ q) (fun _ q => q) fun _ _ q => q
    rcases hc with z | z
    · rw [z]; exact nit b u e
    · exact nit c _ z
theorem Inv.tok (I : Inv X pins σ H s) (t : Nat) : Inv X pins σ H { s with toks := t } := I.un (h' := s.heap) (t' := t) Un.refl I.hok
theorem Inv.kept {t' : Nat} (I : Inv X pins σ H s) (k : ∀ b u, s.heap.get? b = some u → h'.get? b = some u) : Inv X pins σ H { s with heap := h', toks := t' } := I.un (Un.kept k) (I.hok.kept k)
theorem Inv.laid {a : Addr} {o : HO} {t' : Nat} (I : Inv X pins σ H s) (k : ∀ b u, s.heap.get? b = some u → h'.get? b = some u) (hp : s.heap.objs.size ≤ a) (new : ObjOk X.prog X.w (upd H a o) h' a o) :
    Inv X pins σ (upd H a o) { s with heap := h', toks := t' } := I.un (Un.laid k hp (I.hok.fresh hp)) (I.hok.laid k hp new)
theorem Inv.write {x e : Addr} {o : HO} {t' : Nat} (I : Inv X pins σ H s) (mu : Mut (H x)) (he : e = x ∨ H e = some (.own x)) (k : ∀ b u, b ≠ e → s.heap.get? b = some u → h'.get? b = some u) (heo : ∃ u, h'.get? e = some u)
    (new : ObjOk X.prog X.w (upd H x o) h' x o) : Inv X pins σ (upd H x o) { s with heap := h', toks := t' } := I.un (Un.write mu he k heo) (I.hok.write mu he k heo new)
theorem Inv.weak {σ' : List (Option V)} (I : Inv X pins σ H s) (hl : σ'.length = σ.length) (w : ∀ (i : Nat) v, σ'[i]? = some (some v) → σ[i]? = some (some v)) : Inv X pins σ' H s :=
  ⟨I.ok, I.os, I.bare, I.base, let ⟨m, hn, hl'⟩ := I.loc; ⟨m, hn, fun i x v e1 e2 e3 => hl' i x v e1 (w i v e2) e3⟩, I.cell, I.free, I.freeC, I.pin, I.hok, hl.trans I.len⟩
theorem Inv.pins_of {pins' : List (Addr × Obj)} (I : Inv X pins σ H s) (h : ∀ p ∈ pins', s.heap.get? p.1 = some p.2 ∧ H p.1 = none ∧ p.1 ≠ X.env.locals ∧ p.1 ∉ X.fs ∧ ∀ v, p.2.data ≠ .cell v) : Inv X pins' σ H s :=
  ⟨I.ok, I.os, I.bare, I.base, I.loc, I.cell, I.free, I.freeC, fun p hp => (List.mem_append.mp hp).elim (fun z => I.pin p (List.mem_append_left _ z)) (h p), I.hok, I.len⟩
theorem nodup_ix {N : List Str} (hN : N.Nodup) {i j : Nat} {x : Str} (a : N[i]? = some x) (b : N[j]? = some x) : i = j := by
  obtain ⟨h1, e1⟩ := List.getElem?_eq_some_iff.mp a
  obtain ⟨h2, e2⟩ := List.getElem?_eq_some_iff.mp b
  exact (List.getElem_inj hN).mp (e1.trans e2.symm)
theorem store_ok2 {M : Model} {A : Around} {E : Value → Shared → Prop} {i : Nat} {x : Str} {v : V} {u : Value} {Q : Unit → Shared → Prop} (I : Inv X pins σ H s) (hN : X.N.Nodup) (hi : X.N[i]? = some x) (hx : Loc X.env.scope x) (r : RelV v u)
    (h : ∀ s', Inv X pins (σ.set i (some v)) H s' → (∃ a, Heap.SameBut a s.heap s'.heap ∧ (a = X.env.locals ∨ X.env.cells.lookup x = some a)) → Q () s') (hf : X.fn x = true ∨ X.env.scope.names.lookup x = some .local := by first | exact .inl rfl | exact .inr rfl | assumption) : wpAny M A (storeName X.env x u) Q E s := by
  obtain ⟨m, hn, hl⟩ := id I.loc
  have hcls : (X.env.scope.kind == .class || (X.env.scope.kind == .module && X.env.locals != X.env.globals)) = false := by rw [I.ok.kind]; rfl
  have hiσ : i < σ.length := by rw [I.len]; exact (List.getElem?_eq_some_iff.mp hi).1
  have cne := I.cne
  have tracked : ∀ {a : Addr} {h' : Heap}, (∃ o, s.heap.get? a = some o ∧ H a = none) → Heap.SameBut a s.heap h' → HOk X.prog X.w H h' := fun {a h'} ha hs b ob e => by
    obtain ⟨_, _, hfree⟩ := ha
    refine (I.hok b ob e).stay (fun c w' hc q => (hs.2 c ?_).trans q) (fun _ q => q) fun _ _ q => q
    rintro rfl
    rcases hc with rfl | hc
    · rw [hfree] at e; cases e
    · rw [hfree] at hc; cases hc
  rcases hx with hk | hk
  · refine wpAny_storeName_local hk hn (fun h' hn' hs => ?_) hcls
    obtain ⟨oL, _, _, hoL, _⟩ := id hn
    refine h _ ⟨I.ok, I.os, I.bare, ⟨fun b o e n hb hx => ?_, fun b o e n hb hx => ?_, I.base.free, fun b o e hx => ?_, I.base.tups, I.base.frzs, I.base.tbls⟩, ⟨_, hn', fun j y v' e1 e2 e3 => ?_⟩, fun y c e => ?_, I.free, I.freeC, fun p hp => ?_, tracked ⟨oL, hoL, I.free⟩ hs, by simpa using I.len⟩ ⟨_, hs, .inl rfl⟩
    · exact (hs.2 b (Nat.ne_of_lt (Nat.lt_of_lt_of_le (Heap.lt_size e) I.ok.above))).trans (I.base.keep b o e n hb hx)
    · obtain ⟨sl, e1⟩ := I.base.slot b o e n hb hx
      exact ⟨sl, (hs.2 b (Nat.ne_of_lt (Nat.lt_of_lt_of_le (Heap.lt_size e) I.ok.above))).trans e1⟩
    · obtain ⟨o', e1⟩ := I.base.there b o e hx
      exact ⟨o', (hs.2 b (Nat.ne_of_lt (Nat.lt_of_lt_of_le (Heap.lt_size e) I.ok.above))).trans e1⟩
    · by_cases hj : j = i
      · subst hj
        rw [hi] at e1; cases e1
        rw [List.getElem?_set_self hiσ] at e2
        cases e2
        exact ⟨u, r, .inl ⟨hk, by simp⟩⟩
      · rw [List.getElem?_set_ne (Ne.symm hj)] at e2
        obtain ⟨u', r', q⟩ := hl j y v' e1 e2 e3
        refine ⟨u', r', ?_⟩
        rcases q with ⟨k, e⟩ | ⟨k, c, e, z⟩
        · refine .inl ⟨k, ?_⟩
          have : y ≠ x := fun e => hj (nodup_ix hN e1 (e ▸ hi))
          simp [this, e]
        · exact .inr ⟨k, c, e, z.sameBut hs (cne y c e)⟩
    · obtain ⟨w', z⟩ := I.cell y c e
      exact ⟨w', z.sameBut hs (cne y c e)⟩
    · obtain ⟨e, n, ne, nf, d⟩ := I.pin p hp
      exact ⟨(hs.2 p.1 ne).trans e, n, ne, nf, d⟩
  · have hfn : X.fn x = true := by
      rcases hf with z | z
      · exact z
      · rw [z] at hk; cases hk
    obtain ⟨c, hc⟩ := I.ok.has x (.inl hk)
    obtain ⟨w', z⟩ := I.cell x c hc
    refine wpAny_storeName_cell I.ok.kind hk hc z (fun h' hc' hs => ?_)
    obtain ⟨oc, hoc, hocd⟩ := id z
    refine h { s with heap := h' } ⟨I.ok, I.os, I.bare, ⟨fun b o e n hb hx => ?_, fun b o e n hb hx => ?_, I.base.free, fun b o e hx => ?_, I.base.tups, I.base.frzs, I.base.tbls⟩, ⟨m, hn.sameBut hs (Ne.symm (cne x c hc)), fun j y v' e1 e2 e3 => ?_⟩, fun y c' e => ?_, I.free, I.freeC, fun p hp => ?_, tracked ⟨oc, hoc, I.freeC x c hc⟩ hs, by simpa using I.len⟩ ⟨c, hs, .inr hc⟩
    · exact (hs.2 b (Nat.ne_of_lt (Nat.lt_of_lt_of_le (Heap.lt_size e) (I.ok.cab x c hfn hc)))).trans (I.base.keep b o e n hb hx)
    · obtain ⟨sl, e1⟩ := I.base.slot b o e n hb hx
      exact ⟨sl, (hs.2 b (Nat.ne_of_lt (Nat.lt_of_lt_of_le (Heap.lt_size e) (I.ok.cab x c hfn hc)))).trans e1⟩
    · obtain ⟨o', e1⟩ := I.base.there b o e hx
      exact ⟨o', (hs.2 b (Nat.ne_of_lt (Nat.lt_of_lt_of_le (Heap.lt_size e) (I.ok.cab x c hfn hc)))).trans e1⟩
    · by_cases hj : j = i
      · subst hj
        rw [hi] at e1; cases e1
        rw [List.getElem?_set_self hiσ] at e2
        cases e2
        exact ⟨u, r, .inr ⟨.inl hk, c, hc, hc'⟩⟩
      · rw [List.getElem?_set_ne (Ne.symm hj)] at e2
        obtain ⟨u', r', q⟩ := hl j y v' e1 e2 e3
        refine ⟨u', r', ?_⟩
        rcases q with q | ⟨k, c', e, z'⟩
        · exact .inl q
        · refine .inr ⟨k, c', e, z'.sameBut hs ?_⟩
          rintro rfl
          exact hj (nodup_ix hN e1 (I.ok.inj _ _ _ e hc ▸ hi))
    · by_cases hcc : c' = c
      · subst hcc; exact ⟨_, hc'⟩
      · obtain ⟨w2, z2⟩ := I.cell y c' e
        exact ⟨w2, z2.sameBut hs hcc⟩
    · obtain ⟨e, n, ne, nf, d⟩ := I.pin p hp
      refine ⟨(hs.2 p.1 ?_).trans e, n, ne, nf, d⟩
      intro q
      rw [q, hoc] at e
      have q' : oc = p.2 := Option.some.inj e
      exact d w' (by rw [← q']; exact hocd)
theorem store_ok {M : Model} {A : Around} {E : Value → Shared → Prop} {i : Nat} {x : Str} {v : V} {u : Value} {Q : Unit → Shared → Prop} (I : Inv X pins σ H s) (hN : X.N.Nodup) (hi : X.N[i]? = some x) (hx : Loc X.env.scope x) (r : RelV v u)
    (h : ∀ s', Inv X pins (σ.set i (some v)) H s' → Q () s') (hf : X.fn x = true ∨ X.env.scope.names.lookup x = some .local := by first | exact .inl rfl | exact .inr rfl | assumption) : wpAny M A (storeName X.env x u) Q E s :=
  store_ok2 I hN hi hx r (fun s' I' _ => h s' I') hf
theorem Inv.call' {s' : Shared} {ch : List Addr} (I : Inv X pins σ H s) (ho : s'.os = s.os) (u : Un (frs X.stack) ch H H' s.heap s'.heap) (hok : HOk X.prog X.w H' s'.heap) (hg : AllBare s'.gens)
    (hch : ∀ b ∈ ch, (b ∈ X.ex ∨ X.s_0.heap.objs.size ≤ b) ∧ b ≠ X.env.locals ∧ (∀ x c, X.env.cells.lookup x = some c → c ≠ b) ∧ ∀ p ∈ X.pn ++ pins, p.1 ≠ b) : Inv X pins σ H' s' := by
  obtain ⟨h', g', d', t', o'⟩ := s'
  have e : o' = s.os := ho
  subst e
  exact I.call (g' := g') (t' := t') (d' := d') u hok hg hch
end
abbrev XK := Value → Option Addr → Hp → Prop
abbrev St := List (Option V)
abbrev VK := V → Hp → Prop
abbrev TE := St → Hp → VK → Prop
abbrev TT := St → Hp → (Bool → Hp → Prop) → Prop
abbrev TA := St → Hp → (List V → Hp → Prop) → Prop
structure Ends where
  nx : St → Hp → Prop
  rt : VK
  bk : St → Hp → Prop := fun _ _ => False
  ct : St → Hp → Prop := fun _ _ => False
abbrev TS := Ends → St → Hp → Prop
def EP (X : Cx) (pins : List (Addr × Obj)) (σ : St) (Q : VK) (u : Value) (s' : Shared) : Prop := ∃ v H', Inv X pins σ H' s' ∧ RelV v u ∧ Q v H'
def TP (X : Cx) (pins : List (Addr × Obj)) (σ : St) (Q : Bool → Hp → Prop) (b : Bool) (s' : Shared) : Prop := ∃ H', Inv X pins σ H' s' ∧ Q b H'
def AP (X : Cx) (pins : List (Addr × Obj)) (σ : St) (Q : List V → Hp → Prop) (us : List Value) (s' : Shared) : Prop := ∃ vs H', Inv X pins σ H' s' ∧ Vals vs us ∧ Q vs H'
def SP (X : Cx) (pins : List (Addr × Obj)) (D : Ends) (f : Flow) (s' : Shared) : Prop :=
  match f with
  | .next => ∃ σ' H', Inv X pins σ' H' s' ∧ D.nx σ' H'
  | .brk => ∃ σ' H', Inv X pins σ' H' s' ∧ D.bk σ' H'
  | .cont => ∃ σ' H', Inv X pins σ' H' s' ∧ D.ct σ' H'
  | .ret u => ∃ v σ' H', Inv X pins σ' H' s' ∧ RelV v u ∧ D.rt v H'
def PE (X : Cx) (e : Expr) (t : TE) : Prop :=
  ∀ (pins : List (Addr × Obj)) (s : Shared) (σ : St) (H : Hp) (Q : VK), Inv X pins σ H s → t σ H Q → wpAny (model X.prog X.w) X.A (eval e X.env) (EP X pins σ Q) X.xe s
def PT (X : Cx) (e : Expr) (t : TT) : Prop :=
  ∀ (pins : List (Addr × Obj)) (s : Shared) (σ : St) (H : Hp) (Q : Bool → Hp → Prop), Inv X pins σ H s → t σ H Q → wpAny (model X.prog X.w) X.A (isTrue e X.env (eval e X.env)) (TP X pins σ Q) X.xe s
def PW (X : Cx) (e : Expr) (t : TT) : Prop :=
  ∀ (whole : Sem Value) (pins : List (Addr × Obj)) (s : Shared) (σ : St) (H : Hp) (Q : Bool → Hp → Prop), Inv X pins σ H s → t σ H Q → wpAny (model X.prog X.w) X.A (isTrue e X.env whole) (TP X pins σ Q) X.xe s
theorem PW.pt {X : Cx} {e : Expr} {t : TT} (h : PW X e t) : PT X e t := h _
def PA (X : Cx) (es : List Expr) (t : TA) : Prop :=
  ∀ (pos : Pos) (pins : List (Addr × Obj)) (s : Shared) (σ : St) (H : Hp) (Q : List V → Hp → Prop), Inv X pins σ H s → t σ H Q → wpAny (model X.prog X.w) X.A (spliced (backTo pos (starEach es X.env))) (AP X pins σ Q) X.xe s
def PS (X : Cx) (st : Stmt) (t : TS) : Prop :=
  ∀ (pins : List (Addr × Obj)) (s : Shared) (σ : St) (H : Hp) (D : Ends), Inv X pins σ H s → t D σ H → wpAny (model X.prog X.w) X.A (exec st X.env) (SP X pins D) X.xe s
def PSs (X : Cx) (st : List Stmt) (t : TS) : Prop :=
  ∀ (pins : List (Addr × Obj)) (s : Shared) (σ : St) (H : Hp) (D : Ends), Inv X pins σ H s → t D σ H → wpAny (model X.prog X.w) X.A (execs st X.env) (SP X pins D) X.xe s
theorem thn {α : Type} {t : Sem α} {Q Q' : α → Shared → Prop} {M : Model} {A : Around} {E : Value → Shared → Prop} {s : Shared} (h : wpAny M A t Q E s) (hQ : ∀ a s, Q a s → Q' a s) : wpAny M A t Q' E s := wpAny_mono h hQ fun _ _ x => x
end L2
namespace L2
open PySem PySem.Spec PyProof.Rows
section
variable {X : Cx}
def tVar (i : Nat) : TE := fun σ H Q => ∃ v, σ[i]? = some (some v) ∧ Q v H
def tC (v : V) : TE := fun _ H Q => Q v H
theorem pe_var {i : Nat} {x : Str} {pos : Pos} (hN : X.N[i]? = some x) (hv : Vis X.env.scope x) (hd : (x == ("__debug__" : Str)) = false := by decide) (hcd : (x == ("__classdict__" : Str)) = false := by decide) : PE X (.Name x pos) (tVar i) := by
  intro pins s σ H Q I h
  obtain ⟨v, e, h⟩ := h
  obtain ⟨m, hn, hl⟩ := I.loc
  obtain ⟨u, r, l⟩ := hl i x v hN e hv
  have fin : EP X pins σ Q u s := ⟨v, H, I, r, h⟩
  rcases l with ⟨hk, hm⟩ | ⟨hk, c, hc, hcell⟩
  · exact wpAny_Name (wpAny_loadName_local I.ok.kind hk hn hm fin) hd
  · rcases hk with hk | hk
    · exact wpAny_Name (wpAny_loadName_cell I.ok.kind hk hc hcell fin) hd
    · exact wpAny_Name (wpAny_loadName_free I.ok.kind hk hc hcell fin hcd) hd
theorem pe_int {i j pos} : PE X (.Constant (.int i) j pos) (tC (.int i)) := fun _ _ _ H _ I h => wpAny_Constant_int ⟨.int i, H, I.tok _, ⟨_, rfl⟩, h⟩
theorem pe_bl {b j pos} : PE X (.Constant (.bool b) j pos) (tC (.bl b)) := fun _ _ _ H _ I h => Constant_bool ⟨.bl b, H, I, rfl, h⟩
theorem pe_non {j pos} : PE X (.Constant .none j pos) (tC .non) := fun _ _ _ H _ I h => Constant_none ⟨.non, H, I, rfl, h⟩
def Gl (X : Cx) (x : Str) : Prop := X.env.kindOf x = some .globalImplicit
theorem ld_glob {E : Value → Shared → Prop} {pins : List (Addr × Obj)} {s : Shared} {σ : St} {H : Hp} {x : Str} {u : Value} {pos : Pos} {Q : Value → Shared → Prop} (I : Inv X pins σ H s) (hg : Gl X x) (hm : X.mg x = some u) (h : Q u s)
    (hd : (x == ("__debug__" : Str)) = false := by decide) : wpAny (model X.prog X.w) X.A (eval (.Name x pos) X.env) Q E s :=
  Calls.Name_function_global I.ok.kind hg (Calls.loadGlobal_global (by rw [I.ok.glob]; exact I.mod.glob.keeps I.bk) hm h) hd
theorem ld_blt {E : Value → Shared → Prop} {pins : List (Addr × Obj)} {s : Shared} {σ : St} {H : Hp} {x : Str} {u : Value} {pos : Pos} {Q : Value → Shared → Prop} (I : Inv X pins σ H s) (hg : Gl X x) (hm : X.mg x = none) (hv : bootBuiltins x = some u) (h : Q u s)
    (hn : x ≠ "__name__" := by decide) (hd : (x == ("__debug__" : Str)) = false := by decide) : wpAny (model X.prog X.w) X.A (eval (.Name x pos) X.env) Q E s := by
  obtain ⟨mb, h1, h2⟩ := I.mod.blt
  exact Calls.Name_function_global I.ok.kind hg (Calls.loadGlobal_builtin (by rw [I.ok.glob]; exact I.mod.glob.keeps I.bk) hm (by rw [I.ok.blt]; exact h1.keeps I.bk) ((h2 x hn).trans hv) h) hd
theorem pe_glob {x : Str} {v : V} {u : Value} {pos : Pos} (hg : Gl X x) (hm : X.mg x = some u) (r : RelV v u) (hd : (x == ("__debug__" : Str)) = false := by decide) : PE X (.Name x pos) (tC v) :=
  fun _ _ _ H _ I h => ld_glob I hg hm ⟨v, H, I, r, h⟩ hd
variable {a b : Expr} {ta tb : TE} {pos : Pos}
def PC (X : Cx) (op : CmpOp) (a b : Expr) (t : TE) : Prop :=
  ∀ (pins : List (Addr × Obj)) (s : Shared) (σ : St) (H : Hp) (Q : VK), Inv X pins σ H s → t σ H Q →
    wpAny (model X.prog X.w) X.A (eval a X.env) (fun v s₁ => wpAny (model X.prog X.w) X.A (eval b X.env) (fun u s₂ => wpAny (model X.prog X.w) X.A (compareOp op v u) (EP X pins σ Q) X.xe s₂) X.xe s₁) X.xe s
theorem nobehind (b : Expr) {op : CmpOp} (h : op ≠ .In) (h2 : op ≠ .NotIn) : behindInMarks op b = false := by
  have e1 : (op == CmpOp.In) = false := by cases op <;> first | rfl | exact absurd rfl h
  have e2 : (op == CmpOp.NotIn) = false := by cases op <;> first | rfl | exact absurd rfl h2
  cases b <;> simp [behindInMarks, e1, e2]
def tNotN (ta : TE) : TE := fun σ H Q => ta σ H fun x H1 => Q (.bl (!decide (x = .non))) H1
theorem RelV.none_iff {x : V} {v : Value} (r : RelV x v) : (v == Value.none) = decide (x = .non) := by
  cases x with
  | non => cases r; rfl
  | bl _ => cases r; rfl
  | int _ => obtain ⟨t, rfl⟩ := r; rfl
  | str _ => obtain ⟨t, rfl⟩ := r; rfl
  | byt _ => obtain ⟨t, rfl⟩ := r; rfl
  | flt _ => obtain ⟨t, rfl⟩ := r; rfl
  | ref _ => cases r; rfl
  | ty _ => cases r; rfl
theorem pc_notN {j pos'} (ha : PE X a ta) : PC X .IsNot a (.Constant .none j pos') (tNotN ta) := by
  intro pins s σ H Q I h
  refine thn (ha pins s σ H _ I h) fun v s1 ⟨x, H1, I1, r1, q1⟩ => ?_
  exact Constant_none (isnot_none_gen ⟨.bl _, H1, I1, by rw [r1.none_iff]; rfl, q1⟩)
def tB (t : TE) : TT := fun σ H Q => t σ H fun x H1 => ∃ c, x = .bl c ∧ Q c H1
theorem pt_cmp {op : CmpOp} {t : TE} (h : PC X op a b t) (h1 : behindInMarks op b = false := by first | exact nobehind _ (by decide) (by decide) | rfl) : PT X (.Compare a [op] [b] pos) (tB t) := by
  intro pins s σ H Q I hw
  refine wpAny_isTrue_Compare1 (thn (h pins s σ H _ I hw) fun v s1 h1 => thn h1 fun u s2 h2 => thn h2 fun c s3 ⟨x, H1, I1, r1, q1⟩ => ?_) h1
  obtain ⟨d, rfl, q⟩ := q1
  cases r1
  exact wpAny_truthy_bool ⟨H1, I1, q⟩
theorem pt_val {e : Expr} {t : TE} (h : PE X e t) (he : ∀ whole, isTrue e X.env whole = (do let v ← whole; standAt e.pos; holding [v] (truthy v)) := by intro _; rfl) : PT X e (tB t) := by
  intro pins s σ H Q I hw
  refine isTrue_plain (thn (h pins s σ H _ I hw) fun v s1 ⟨x, H1, I1, r1, q1⟩ => ?_) (he _)
  obtain ⟨d, rfl, q⟩ := q1
  cases r1
  exact wpAny_truthy_bool ⟨H1, I1, q⟩
variable {tA tB' : TT} {rest : List Expr}
def tOr (t u : TT) : TT := fun σ H Q => t σ H fun c H1 => if c = true then Q true H1 else u σ H1 Q
def tNot (t : TT) : TT := fun σ H Q => t σ H fun c H1 => Q (!c) H1
theorem pw_or1 (ha : PT X a tA) : PW X (.BoolOp .Or [a] pos) tA := by
  intro wh pins s σ H Q I h
  refine isTrue_or (thn (ha pins s σ H Q I h) fun c s1 e => ?_)
  cases c with
  | false => exact isTrue_or_nil e
  | true => exact e
theorem pw_or (ha : PT X a tA) (hb : PW X (.BoolOp .Or (b :: rest) pos) tB') : PW X (.BoolOp .Or (a :: b :: rest) pos) (tOr tA tB') := by
  intro wh pins s σ H Q I h
  refine isTrue_or (thn (ha pins s σ H _ I h) fun c s1 ⟨H1, I1, q1⟩ => ?_)
  cases c with
  | true => exact ⟨H1, I1, q1⟩
  | false => exact hb wh pins s1 σ H1 Q I1 q1
theorem pt_not (ha : PT X a tA) : PT X (.UnaryOp .Not a pos) (tNot tA) := by
  intro pins s σ H Q I h
  exact isTrue_not (ha pins s σ H (fun c H1 => Q (!c) H1) I h)
def tAndV (ta tb : TE) : TE := fun σ H Q => ta σ H fun x H1 => ∃ c, x = .bl c ∧ if c = true then tb σ H1 Q else Q (.bl false) H1
def tOrV (ta tb : TE) : TE := fun σ H Q => ta σ H fun x H1 => ∃ c, x = .bl c ∧ if c = true then Q (.bl true) H1 else tb σ H1 Q
theorem pe_one {op} {t : TE} (h : PE X a t) : PE X (.BoolOp op [a] pos) t := fun pins s σ H Q I hw => BoolOp_one (h pins s σ H Q I hw)
theorem pe_and (ha : PE X a ta) (hb : PE X (.BoolOp .And (b :: rest) pos) tb) : PE X (.BoolOp .And (a :: b :: rest) pos) (tAndV ta tb) := by
  intro pins s σ H Q I h
  refine BoolOp_and (thn (ha pins s σ H _ I h) fun v s1 ⟨x, H1, I1, r1, q1⟩ => ?_)
  obtain ⟨c, rfl, q1⟩ := q1
  cases r1
  refine wpAny_truthy_bool ?_
  cases c with
  | true => exact hb pins s1 σ H1 Q I1 q1
  | false => exact ⟨.bl false, H1, I1, rfl, q1⟩
theorem pe_or (ha : PE X a ta) (hb : PE X (.BoolOp .Or (b :: rest) pos) tb) : PE X (.BoolOp .Or (a :: b :: rest) pos) (tOrV ta tb) := by
  intro pins s σ H Q I h
  refine BoolOp_or (thn (ha pins s σ H _ I h) fun v s1 ⟨x, H1, I1, r1, q1⟩ => ?_)
  obtain ⟨c, rfl, q1⟩ := q1
  cases r1
  refine wpAny_truthy_bool ?_
  cases c with
  | false => exact hb pins s1 σ H1 Q I1 q1
  | true => exact ⟨.bl true, H1, I1, rfl, q1⟩
def tIf (t : TT) (ta tb : TE) : TE := fun σ H Q => t σ H fun c H1 => if c = true then ta σ H1 Q else tb σ H1 Q
theorem pe_ifExp {c : Expr} (hc : PT X c tA) (ha : PE X a ta) (hb : PE X b tb) : PE X (.IfExp c a b pos) (tIf tA ta tb) := by
  intro pins s σ H Q I h
  refine wpAny_IfExp (thn (hc pins s σ H _ I h) fun d s1 ⟨H1, I1, q1⟩ => ?_)
  cases d with
  | true => exact ha pins s1 σ H1 Q I1 q1
  | false => exact hb pins s1 σ H1 Q I1 q1
end
end L2
namespace L2
open PySem PySem.Spec PyProof.Rows
def SqL (K : W.Frag) (H : Hp) (a : Addr) (xs : List V) : Prop :=
  Rd H a (.lst xs) ∨
    ∃ (o : Obj) (its : Array Value) (n : Nat), K.lookup a = some o ∧ o.cls = .type "list" ∧ o.dict = none ∧ o.data = .seq its n ∧ its.size ≤ sizeLine ∧ Vals xs its.toList
def SqT (K : W.Frag) (H : Hp) (a : Addr) (xs : List V) : Prop :=
  Rd H a (.tup xs) ∨
    ∃ (o : Obj) (its : Array Value) (n : Nat), K.lookup a = some o ∧ o.cls = .type "tuple" ∧ o.data = .seq its n ∧ its.size ≤ sizeLine ∧ Vals xs its.toList
def absV : Value → Option V
  | .none => some .non
  | .bool b => some (.bl b)
  | .int i _ => some (.int i)
  | .str x _ => some (.str x)
  | .bytes b _ => some (.byt b)
  | .float b _ => some (.flt b)
  | .ref a => some (.ref a)
  | .type n => some (.ty n)
  | _ => none
theorem RelV.abs {x : V} {u : Value} (r : RelV x u) : absV u = some x := by
  cases x with
  | non => cases r; rfl
  | bl _ => cases r; rfl
  | int _ => obtain ⟨t, rfl⟩ := r; rfl
  | str _ => obtain ⟨t, rfl⟩ := r; rfl
  | byt _ => obtain ⟨t, rfl⟩ := r; rfl
  | flt _ => obtain ⟨t, rfl⟩ := r; rfl
  | ref _ => cases r; rfl
  | ty _ => cases r; rfl
theorem RelV.inj {x y : V} {u : Value} (r : RelV x u) (q : RelV y u) : x = y := Option.some.inj (r.abs.symm.trans q.abs)
theorem Vals.inj : ∀ {xs ys : List V} {us : List Value}, Vals xs us → Vals ys us → xs = ys
  | _, _, _, .nil, .nil => rfl
  | _, _, _, .cons r t, .cons r' t' => by rw [r.inj r', Vals.inj t t']
section
variable {X : Cx} {pins : List (Addr × Obj)} {σ : St} {H : Hp} {s : Shared} {a : Addr} {xs ys : List V}
theorem SqL.of {K : W.Frag} (h : H a = some (.lst xs)) : SqL K H a xs := .inl (.inl h)
theorem SqT.of {K : W.Frag} (h : H a = some (.tup xs)) : SqT K H a xs := .inl (.inl h)
theorem Inv.list (I : Inv X pins σ H s) (h : SqL X.K H a xs) : ∃ its : List Value, Vals xs its ∧ PlainL s.heap a its.toArray ∧ xs.length ≤ sizeLine := by
  rcases h with h | ⟨o, its, n, hk, hc, hd, hs, hz, r⟩
  · obtain ⟨z, its, n, r, e⟩ := h.ok I.hok
    exact ⟨its, r, ⟨_, n, e, rfl, rfl, rfl⟩, z⟩
  · refine ⟨its.toList, r, ⟨o, n, I.kIn a o hk, hc, hd, by simpa using hs⟩, ?_⟩
    have e := r.length
    simp only [Array.length_toList] at e
    omega
theorem Inv.tuple (I : Inv X pins σ H s) (h : SqT X.K H a xs) : ∃ its : List Value, Vals xs its ∧ IsTup s.heap a its.toArray ∧ xs.length ≤ sizeLine := by
  rcases h with h | ⟨o, its, n, hk, hc, hs, hz, r⟩
  · obtain ⟨z, its, r, p⟩ := h.ok I.hok
    exact ⟨its, r, p, z⟩
  · refine ⟨its.toList, r, ⟨o, I.kIn a o hk, hc, n, by simpa using hs⟩, ?_⟩
    have e := r.length
    simp only [Array.length_toList] at e
    omega
theorem Inv.list_inj (I : Inv X pins σ H s) (h : SqL X.K H a xs) (h' : SqL X.K H a ys) : xs = ys := by
  obtain ⟨its, r, ⟨o, n, e, _, _, d⟩, _⟩ := I.list h
  obtain ⟨its', r', ⟨o', n', e', _, _, d'⟩, _⟩ := I.list h'
  rw [e] at e'; cases e'
  rw [d] at d'
  injection d' with d1 _
  have : its = its' := by simpa using congrArg Array.toList d1
  subst this
  exact r.inj r'
theorem Inv.tuple_inj (I : Inv X pins σ H s) (h : SqT X.K H a xs) (h' : SqT X.K H a ys) : xs = ys := by
  obtain ⟨its, r, ⟨o, e, _, n, d⟩, _⟩ := I.tuple h
  obtain ⟨its', r', ⟨o', e', _, n', d'⟩, _⟩ := I.tuple h'
  rw [e] at e'; cases e'
  rw [d] at d'
  injection d' with d1 _
  have : its = its' := by simpa using congrArg Array.toList d1
  subst this
  exact r.inj r'
end
abbrev Cx.wish (X : Cx) (E : Value → Shared → Prop) : Cx := { X with xe := E }
abbrev Cx.nox (X : Cx) : Cx := X.wish fun _ _ => False
theorem Cx.Ok.wish {X : Cx} (ok : X.Ok) (E : Value → Shared → Prop) : (X.wish E).Ok :=
  ⟨ok.mod, ok.kind, ok.glob, ok.blt, ok.above, ok.inj, ok.has, ok.cab, ok.hd, ok.frames, ok.stk, ok.exf, ok.bs, ok.bsz, ok.noex, ok.exfs, ok.funs, ok.frf⟩
theorem Cx.Ok.unwish {X : Cx} {E : Value → Shared → Prop} (ok : (X.wish E).Ok) : X.Ok :=
  ⟨ok.mod, ok.kind, ok.glob, ok.blt, ok.above, ok.inj, ok.has, ok.cab, ok.hd, ok.frames, ok.stk, ok.exf, ok.bs, ok.bsz, ok.noex, ok.exfs, ok.funs, ok.frf⟩
section
variable {X : Cx} {pins : List (Addr × Obj)} {σ : St} {H : Hp} {s : Shared} {E : Value → Shared → Prop}
theorem Inv.wish (I : Inv X pins σ H s) (E : Value → Shared → Prop) : Inv (X.wish E) pins σ H s := ⟨I.ok.wish E, I.os, I.bare, I.base, I.loc, I.cell, I.free, I.freeC, I.pin, I.hok, I.len⟩
theorem Inv.unwish (I : Inv (X.wish E) pins σ H s) : Inv X pins σ H s := ⟨I.ok.unwish, I.os, I.bare, I.base, I.loc, I.cell, I.free, I.freeC, I.pin, I.hok, I.len⟩
theorem SP.unwish {D : Ends} {f : Flow} {s' : Shared} (h : SP (X.wish E) pins D f s') : SP X pins D f s' := by
  cases f with
  | next => obtain ⟨σ', H', I, q⟩ := h; exact ⟨σ', H', I.unwish, q⟩
  | brk => obtain ⟨σ', H', I, q⟩ := h; exact ⟨σ', H', I.unwish, q⟩
  | cont => obtain ⟨σ', H', I, q⟩ := h; exact ⟨σ', H', I.unwish, q⟩
  | ret u => obtain ⟨v, σ', H', I, r, q⟩ := h; exact ⟨v, σ', H', I.unwish, r, q⟩
theorem PSs.nox {st : List Stmt} {t : TS} (h : PSs X.nox st t) : PSs X st t := fun pins s σ H D I hw =>
  wpAny_mono (h pins s σ H D (I.wish _) hw) (fun _ _ q => q.unwish) fun _ _ z => False.elim z
end
section
variable {X : Cx} {st : Stmt} {rest : List Stmt} {t u : TS} {e : Expr} {te : TE} {pos : Pos}
def tNext : TS := fun D σ H => D.nx σ H
def tSeq (t u : TS) : TS := fun D σ H => t { D with nx := u D } σ H
theorem pss_nil : PSs X [] tNext := fun _ _ σ H _ I h => wpAny_execs_nil ⟨σ, H, I, h⟩
theorem pss_cons (h1 : PS X st t) (h2 : PSs X rest u) : PSs X (st :: rest) (tSeq t u) := by
  intro pins s σ H D I h
  refine wpAny_execs_cons (thn (h1 pins s σ H { D with nx := u D } I h) fun f s1 q => ?_)
  cases f with
  | next =>
    obtain ⟨σ', H', I', q⟩ := q
    exact h2 pins s1 σ' H' D I' q
  | ret v => exact q
  | brk => exact q
  | cont => exact q
theorem pss_one (h1 : PS X st t) : PSs X [st] t := by
  intro pins s σ H D I h
  refine wpAny_execs_cons (thn (h1 pins s σ H D I h) fun f s1 q => ?_)
  cases f with
  | next => exact wpAny_execs_nil q
  | ret v => exact q
  | brk => exact q
  | cont => exact q
theorem Inv.quiet {pins : List (Addr × Obj)} {σ : St} {H : Hp} {s : Shared} (I : Inv X pins σ H s) : interactive X.env = false := by simp [interactive, I.ok.kind]
def tDrop (te : TE) : TS := fun D σ H => te σ H fun _ H1 => D.nx σ H1
theorem ps_expr (he : PE X e te) (hs : swapsWith e none pos.line X.env = pure false := by rfl) : PS X (.Expr e pos) (tDrop te) := by
  intro pins s σ H D I h
  exact wpAny_Expr_any (thn (he pins s σ H _ I h) fun v s1 ⟨x, H1, I1, r1, q1⟩ => ⟨σ, H1, I1, q1⟩) I.quiet hs
def tRet (te : TE) : TS := fun D σ H => te σ H D.rt
theorem ps_ret (he : PE X e te) : PS X (.Return (some e) pos) (tRet te) := by
  intro pins s σ H D I h
  exact wpAny_Return_some (thn (he pins s σ H _ I h) fun v s1 ⟨x, H1, I1, r1, q1⟩ => ⟨x, σ, H1, I1, r1, q1⟩)
def tRetN : TS := fun D _ H => D.rt .non H
theorem ps_retN : PS X (.Return none pos) tRetN := fun _ _ σ H _ I h => wpAny_Return_none ⟨.non, σ, H, I, rfl, h⟩
def tIfS (c : TT) (t u : TS) : TS := fun D σ H => c σ H fun b H1 => if b = true then t D σ H1 else u D σ H1
theorem ps_if {c : Expr} {a b : List Stmt} {tc : TT} (hc : PT X c tc) (ha : PSs X a t) (hb : PSs X b u) : PS X (.If c a b pos) (tIfS tc t u) := by
  intro pins s σ H D I h
  refine wpAny_If (thn (hc pins s σ H _ I h) fun d s1 ⟨H1, I1, q1⟩ => ?_)
  cases d with
  | true => exact ha pins s1 σ H1 D I1 q1
  | false => exact hb pins s1 σ H1 D I1 q1
end
abbrev TG := V → St → Hp → (St → Hp → Prop) → Prop
abbrev TGs := List V → St → Hp → (St → Hp → Prop) → Prop
def PG (X : Cx) (target : Expr) (t : TG) : Prop :=
  ∀ (pins : List (Addr × Obj)) (s : Shared) (σ : St) (H : Hp) (v : V) (u : Value) (Q : St → Hp → Prop), Inv X pins σ H s → RelV v u → t v σ H Q →
    wpAny (model X.prog X.w) X.A (assign target X.env u) (fun _ s' => ∃ σ' H', Inv X pins σ' H' s' ∧ Q σ' H') X.xe s
def PGs (X : Cx) (ts : List Expr) (t : TGs) : Prop :=
  ∀ (pins : List (Addr × Obj)) (s : Shared) (σ : St) (H : Hp) (vs : List V) (us : List Value) (Q : St → Hp → Prop), Inv X pins σ H s → Vals vs us → t vs σ H Q →
    wpAny (model X.prog X.w) X.A (assignInOrder ((assignEach ts X.env).map (·.2)) us) (fun _ s' => ∃ σ' H', Inv X pins σ' H' s' ∧ Q σ' H') X.xe s
abbrev TSet := V → V → V → Hp → (Hp → Prop) → Prop
def PSet (X : Cx) (t : TSet) : Prop :=
  ∀ (pins : List (Addr × Obj)) (s : Shared) (σ : St) (H : Hp) (o i v : V) (ov iv u : Value) (Q : Hp → Prop), Inv X pins σ H s → RelV o ov → RelV i iv → RelV v u → t o i v H Q →
    wpAny (model X.prog X.w) X.A (setItem ov iv u) (fun _ s' => ∃ H', Inv X pins σ H' s' ∧ Q H') X.xe s
abbrev TIp := V → V → Hp → VK → Prop
def PIp (X : Cx) (op : Operator) (t : TIp) : Prop :=
  ∀ (pins : List (Addr × Obj)) (s : Shared) (σ : St) (H : Hp) (x y : V) (v u : Value) (Q : VK), Inv X pins σ H s → RelV x v → RelV y u → t x y H Q →
    wpAny (model X.prog X.w) X.A (inplaceOp op v u) (EP X pins σ Q) X.xe s
section
variable {X : Cx} {pos : Pos}
def gName (i : Nat) : TG := fun v σ H Q => Q (σ.set i (some v)) H
theorem pg_name {i : Nat} {x : Str} (hN : X.N.Nodup) (hi : X.N[i]? = some x) (hx : Loc X.env.scope x) (hf : X.fn x = true ∨ X.env.scope.names.lookup x = some .local := by first | exact .inl rfl | exact .inr rfl | assumption) : PG X (.Name x pos) (gName i) := by
  intro pins s σ H v u Q I r h
  exact wpAny_assign_Name (store_ok I hN hi hx r (fun s' I' => ⟨_, H, I', h⟩) hf)
def gNil : TGs := fun vs σ H Q => vs = [] ∧ Q σ H
def gCons (t : TG) (u : TGs) : TGs := fun vs σ H Q => ∃ v r, vs = v :: r ∧ t v σ H fun σ' H' => u r σ' H' Q
theorem pgs_nil : PGs X [] gNil := by
  intro pins s σ H vs us Q I r h
  obtain ⟨e, h⟩ := h
  subst e
  cases r
  exact assignInOrder_nil ⟨σ, H, I, h⟩
theorem pgs_cons {e : Expr} {es : List Expr} {t : TG} {u : TGs} (h1 : PG X e t) (h2 : PGs X es u)
    (hs : (assignEach (e :: es) X.env).map (·.2) = assign e X.env :: (assignEach es X.env).map (·.2) := by rfl) : PGs X (e :: es) (gCons t u) := by
  intro pins s σ H vs us Q I r h
  obtain ⟨v, vr, e1, h⟩ := h
  subst e1
  cases r with
  | cons r rr =>
    rw [hs]
    refine assignInOrder_cons (thn (h1 pins s σ H _ _ _ I r h) fun _ s1 ⟨σ1, H1, I1, q1⟩ => ?_)
    exact h2 pins s1 σ1 H1 _ _ Q I1 rr q1
def gTup (K : W.Frag) (n : Nat) (t : TGs) : TG := fun v σ H Q => ∃ a xs, v = .ref a ∧ SqT K H a xs ∧ xs.length = n ∧ t xs σ H Q
theorem pg_tup {es : List Expr} {k : Nat} {t : TGs} {n : Nat} (hc : X.calm = true) (h : PGs X es t)
    (hn : (assignEach es X.env).length = n := by rfl) (hst : (assignEach es X.env).findIdx? (·.1) = none := by rfl) : PG X (.Tuple es k pos) (gTup X.K n t) := by
  intro pins s σ H v u Q I r hw
  obtain ⟨a, xs, e1, hq, hl, hw⟩ := hw
  subst e1
  cases r
  obtain ⟨its, rv, ht, hz⟩ := I.tuple hq
  refine assign_Tuple_tuple (I.ok.hd hc) ht (by simp [hn, ← hl, rv.length]) hst fun h' hx => ?_
  have I1 : Inv X pins σ H { s with heap := h' } := I.kept (t' := s.toks) fun b o e => hx b o (Nat.ne_of_lt (Heap.lt_size e)) e
  exact h pins _ σ H xs _ Q I1 (by simpa using rv) hw
def gSub (to ti : TE) (t : TSet) : TG := fun v σ H Q => to σ H fun o H1 => ti σ H1 fun i H2 => t o i v H2 fun H3 => Q σ H3
theorem pg_sub {o i : Expr} {to ti : TE} {t : TSet} (ho : PE X o to) (hi : PE X i ti) (hs : PSet X t)
    (ha : ∀ v, assign (.Subscript o i pos) X.env v = (do
      let ov ← holding [v] (eval o X.env)
      let iv ← holding [v, ov] (eval i X.env)
      standAt pos
      holding [v, ov, iv] (setItem ov iv v)
      release [v, ov, iv] []) := by intro _; rfl) : PG X (.Subscript o i pos) (gSub to ti t) := by
  intro pins s σ H v u Q I r h
  rw [ha]
  refine wpAny_bind (wpAny_holding (thn (ho pins s σ H _ I h) fun ov s1 ⟨x, H1, I1, r1, q1⟩ => ?_))
  refine wpAny_bind (wpAny_holding (thn (hi pins s1 σ H1 _ I1 q1) fun iv s2 ⟨y, H2, I2, r2, q2⟩ => ?_))
  refine wpAny_bind (wpAny_standAt (wpAny_bind (wpAny_holding (thn (hs pins s2 σ H2 x y v ov iv u _ I2 r1 r2 r q2) fun _ s3 ⟨H3, I3, q3⟩ => ?_))))
  exact wpAny_release ⟨σ, H3, I3, q3⟩
def tAsg (te : TE) (g : TG) : TS := fun D σ H => te σ H fun x H1 => g x σ H1 D.nx
theorem ps_asg {tg e : Expr} {te : TE} {g : TG} (he : PE X e te) (hg : PG X tg g) (hs : swapsWithSole [tg] e pos.line X.env = pure false := by rfl) (hw : swappedStores [tg] e X.env = pure none := by rfl)
    (h1 : (assignEach [tg] X.env).map (·.2) = [assign tg X.env] := by rfl) : PS X (.Assign [tg] e pos) (tAsg te g) := by
  intro pins s σ H D I h
  refine wpAny_Assign_stores (thn (he pins s σ H _ I h) fun v s1 ⟨x, H1, I1, r1, q1⟩ => ?_) hs hw
  rw [h1]
  exact thn (hg pins s1 σ H1 x v _ I1 r1 q1) fun _ s2 q => q
theorem ps_set {i : Nat} {x : Str} {e : Expr} {te : TE} {pos' : Pos} (hN : X.N.Nodup) (hi : X.N[i]? = some x) (hx : Loc X.env.scope x) (he : PE X e te) (hs : swapsWith e (some (.Name x pos')) pos.line X.env = pure false := by rfl) (hf : X.fn x = true ∨ X.env.scope.names.lookup x = some .local := by first | exact .inl rfl | exact .inr rfl | assumption) :
    PS X (.Assign [.Name x pos'] e pos) (tAsg te (gName i)) := by
  intro pins s σ H D I h
  refine wpAny_Assign_Name (thn (he pins s σ H _ I h) fun v s1 ⟨y, H1, I1, r1, q1⟩ => ?_) hs
  exact store_ok I1 hN hi hx r1 (fun s2 I2 => ⟨_, H1, I2, q1⟩) hf
def tAug (i : Nat) (te : TE) (ti : TIp) : TS := fun D σ H => ∃ x, σ[i]? = some (some x) ∧ te σ H fun y H1 => ti x y H1 fun z H2 => D.nx (σ.set i (some z)) H2
theorem ps_aug {i : Nat} {x : Str} {e : Expr} {te : TE} {op : Operator} {ti : TIp} {pos' : Pos} (hN : X.N.Nodup) (hi : X.N[i]? = some x) (hx : Loc X.env.scope x) (he : PE X e te) (ho : PIp X op ti) (hf : X.fn x = true ∨ X.env.scope.names.lookup x = some .local := by first | exact .inl rfl | exact .inr rfl | assumption) :
    PS X (.AugAssign (.Name x pos') op e pos) (tAug i te ti) := by
  intro pins s σ H D I h
  obtain ⟨v, e1, h⟩ := h
  obtain ⟨m, hn, hl⟩ := I.loc
  have vis : Vis X.env.scope x := by rcases hx with k | k; exact .inl k; exact .inr (.inl k)
  obtain ⟨u, r, l⟩ := hl i x v hi e1 vis
  refine wpAny_AugAssign_Name ?_
  have go : wpAny (model X.prog X.w) X.A (eval e X.env) (fun w s₂ => wpAny (model X.prog X.w) X.A (inplaceOp op u w) (fun r s₃ => wpAny (model X.prog X.w) X.A (storeName X.env x r) (fun _ => SP X pins D .next) X.xe s₃) X.xe s₂) X.xe s := by
    refine thn (he pins s σ H _ I h) fun w s1 ⟨y, H1, I1, r1, q1⟩ => ?_
    refine thn (ho pins s1 σ H1 v y u w _ I1 r r1 q1) fun z s2 ⟨zv, H2, I2, r2, q2⟩ => ?_
    exact store_ok I2 hN hi hx r2 (fun s3 I3 => ⟨_, H2, I3, q2⟩) hf
  rcases l with ⟨hk, hm⟩ | ⟨hk, c, hc, hcell⟩
  · exact wpAny_loadName_local I.ok.kind hk hn hm go
  · rcases hk with hk | hk
    · exact wpAny_loadName_cell I.ok.kind hk hc hcell go
    · rcases hx with k | k
      · have : X.env.scope.names.lookup x = some .free := hk
        rw [k] at this; cases this
      · have : X.env.scope.names.lookup x = some .free := hk
        rw [k] at this; cases this
def ipI (f : Int → Int → Int) : TIp := fun x y H Q => ∃ i j, x = .int i ∧ y = .int j ∧ Q (.int (f i j)) H
theorem ip_add : PIp X .Add (ipI fun i j => i + j) := by
  intro pins s σ H x y v u Q I r1 r2 h
  obtain ⟨i, j, e1, e2, q⟩ := h
  subst e1; subst e2
  obtain ⟨t, rfl⟩ := r1
  obtain ⟨t', rfl⟩ := r2
  exact iadd_int ⟨.int _, H, I.tok _, ⟨_, rfl⟩, q⟩
end
section
variable {X : Cx} {pos : Pos}
def tWhile (c : TT) (tb : TS) : TS := fun D σ H => ∃ W : Nat → St → Hp → Prop, (∃ m, W m σ H) ∧ ∀ m σ H, W m σ H →
  c σ H fun b H1 => if b = true then ∃ N : St → Hp → Prop, (∀ σ' H', N σ' H' → ∃ m', m' < m ∧ W m' σ' H') ∧ tb { D with nx := N, ct := N, bk := D.nx } σ H1 else D.nx σ H1
theorem ps_while {c : Expr} {body : List Stmt} {tc : TT} {tb : TS} (hp : PassesOwn (model X.prog X.w) X.A X.env X.xe) (hc : PT X c tc) (hb : PSs X body tb) : PS X (.While c body [] pos) (tWhile tc tb) := by
  intro pins s σ H D I h
  obtain ⟨W, ⟨m0, w0⟩, turn⟩ := h
  refine wpAny_While (codeAny_whileLoop (fun n s' => ∃ σ' H', Inv X pins σ' H' s' ∧ W n σ' H') ?_ m0 ⟨σ, H, I, w0⟩)
  rintro n s1 ⟨σ1, H1, I1, w1⟩
  refine wpAny_passesOwn hp (thn (hc pins s1 σ1 H1 _ I1 (turn n σ1 H1 w1)) fun b s2 ⟨H2, I2, q2⟩ => ?_)
  cases b with
  | true =>
    obtain ⟨N, hN, q2⟩ := q2
    rw [if_pos rfl]
    refine wpAny_passesOwn hp (thn (hb pins s2 σ1 H2 _ I2 q2) fun f s3 q3 => ?_)
    cases f with
    | next =>
      obtain ⟨σ3, H3, I3, n3⟩ := q3
      obtain ⟨m', hm, w3⟩ := hN σ3 H3 n3
      exact ⟨m', hm, σ3, H3, I3, w3⟩
    | cont =>
      obtain ⟨σ3, H3, I3, n3⟩ := q3
      obtain ⟨m', hm, w3⟩ := hN σ3 H3 n3
      exact ⟨m', hm, σ3, H3, I3, w3⟩
    | brk => exact q3
    | ret v => exact q3
  | false =>
    rw [if_neg Bool.false_ne_true]
    exact wpAny_execs_nil ⟨σ1, H2, I2, q2⟩
end
structure It where
  go : Nat → Hp → Prop
  yld : Nat → Hp → V → Hp → Prop
  stop : Nat → Hp → Prop
def FpOk (X : Cx) (pins : List (Addr × Obj)) (H : Hp) (b : Addr) : Prop :=
  H b = none ∧ b ≠ X.env.locals ∧ b ∉ X.fs ∧ (b ∈ X.ex ∨ X.s_0.heap.objs.size ≤ b) ∧ (∀ x c, X.env.cells.lookup x = some c → c ≠ b) ∧ ∀ p ∈ X.pn ++ pins, p.1 ≠ b
theorem Inv.fpOk {X : Cx} {pins : List (Addr × Obj)} {σ : St} {H H' : Hp} {s : Shared} {b : Addr} (I : Inv X pins σ H s) (hb : s.heap.objs.size ≤ b) (hn : H' b = none) : FpOk X pins H' b := by
  refine ⟨hn, Nat.ne_of_gt (Nat.lt_of_lt_of_le I.lt hb), I.nofs hb, .inr (Nat.le_trans I.sz hb), fun x c e z => ?_, fun p hp z => ?_⟩
  · obtain ⟨v, q⟩ := I.cell x c e
    exact absurd (Nat.lt_of_lt_of_le q.lt (by rw [z]; exact hb)) (Nat.lt_irrefl _)
  · exact absurd (Nat.lt_of_lt_of_le (Heap.lt_size (I.pin p hp).1) (by rw [z]; exact hb)) (Nat.lt_irrefl _)
structure Turn (P : Program) (w : World) (K : W.Frag) (tg : Expr) (J : It) (fp : List Addr) (it : Addr) (tn : Nat → Heap → Prop) : Prop where
  mem : it ∈ fp
  obj : ∀ i h, tn i h → ∀ b ∈ fp, ∃ o, h.get? b = some o ∧ ∀ v, o.data ≠ .cell v
  keep : ∀ i h h', tn i h → (∀ b ∈ fp, ∀ o, h.get? b = some o → h'.get? b = some o) → tn i h'
  item : ∀ (X : Cx), X.prog = P → X.w = w → X.K = K → X.calm = true → ∀ (i : Nat) (pins : List (Addr × Obj)) (s : Shared) (σ : St) (H : Hp) (E : Value → Shared → Prop), Inv X pins σ H s → (∀ b ∈ fp, FpOk X pins H b) → tn i s.heap → J.go i H →
    wpAny (model P w) X.A (pyNext (.ref it)) (fun r s1 => ∃ u, r = some u ∧
      wpAny (model P w) X.A (letOwnedTupleGo tg (.ref it) u) (fun _ s2 => ∃ x H', Inv X pins σ H' s2 ∧ RelV x u ∧ J.yld i H x H' ∧ tn (i + 1) s2.heap ∧ ∀ b ∈ fp, H' b = none) E s1) E s
  done : ∀ (X : Cx), X.prog = P → X.w = w → X.K = K → X.calm = true → ∀ (i : Nat) (pins : List (Addr × Obj)) (s : Shared) (σ : St) (H : Hp) (E : Value → Shared → Prop), Inv X pins σ H s → (∀ b ∈ fp, FpOk X pins H b) → tn i s.heap → J.stop i H →
    wpAny (model P w) X.A (pyNext (.ref it)) (fun r s1 => r = none ∧ Inv X pins σ H s1) E s
  self : ∀ (A : Around) (i : Nat) (s : Shared) (Q : Value → Shared → Prop) (E : Value → Shared → Prop), tn i s.heap → Q (.ref it) s → wpAny (model P w) A (pyIter (.ref it)) Q E s
abbrev TI := St → Hp → (It → Hp → Prop) → Prop
def PIE (X : Cx) (pins : List (Addr × Obj)) (σ : St) (tg : Expr) (R : It → Hp → Prop) (itv : Value) (s2 : Shared) : Prop :=
  ∃ (it : Addr) (fp : List Addr) (tn : Nat → Heap → Prop) (J : It) (H' : Hp), itv = .ref it ∧ Inv X pins σ H' s2 ∧ Turn X.prog X.w X.K tg J fp it tn ∧ tn 0 s2.heap ∧ (∀ b ∈ fp, FpOk X pins H' b) ∧ R J H'
def PI (X : Cx) (tg iter : Expr) (wi : TI) : Prop :=
  ∀ (pins : List (Addr × Obj)) (s : Shared) (σ : St) (H : Hp) (R : It → Hp → Prop), Inv X pins σ H s → wi σ H R →
    wpAny (model X.prog X.w) X.A (eval iter X.env) (fun v s1 => wpAny (model X.prog X.w) X.A (pyIter v) (PIE X pins σ tg R) X.xe s1) X.xe s
theorem go_of {M : Model} {A : Around} {E : Value → Shared → Prop} {s : Shared} {tg : Expr} {it : Addr} {u : Value} {o : Obj} {n : String} {vs : Array Value} {Q : Unit → Shared → Prop} (ho : s.heap.get? it = some o) (hc : o.cls = .type n) (hd : o.data = .fields vs)
    (hn : ["enumerate", "zip", "dict_itemiterator", "dict_reverseitemiterator", "odict_iterator", "itertools.zip_longest", "itertools.pairwise"].contains n = false) (hQ : Q () s) : wpAny M A (letOwnedTupleGo tg (.ref it) u) Q E s := by
  unfold letOwnedTupleGo
  cases tg <;> first
    | exact wpAny_pure hQ
    | (cases u <;> first
        | exact wpAny_pure hQ
        | (refine wpAny_bind (wpAny_load ho ?_)
           rw [hc, hd]
           show wpAny M A (if (["enumerate", "zip", "dict_itemiterator", "dict_reverseitemiterator", "odict_iterator", "itertools.zip_longest", "itertools.pairwise"].contains n && vs[0]? == some (rawInt _)) = true then _ else _) Q E s
           rw [if_neg (by intro h; rw [hn, Bool.false_and] at h; cases h)]
           exact wpAny_pure hQ))
def Itl (K : W.Frag) (a : Addr) : It :=
  ⟨fun i H => ∃ xs x, SqL K H a xs ∧ xs[i]? = some x, fun i H x H' => H' = H ∧ ∀ xs, SqL K H a xs → xs[i]? = some x, fun i H => ∃ xs, SqL K H a xs ∧ xs.length ≤ i⟩
def Itr (lo : Int) (n : Nat) : It := ⟨fun i _ => i < n, fun i H x H' => H' = H ∧ x = .int (lo + i), fun i _ => n ≤ i⟩
theorem turn_list {P : Program} {w : World} {K : W.Frag} {tg : Expr} (a it : Addr) : Turn P w K tg (Itl K a) [it] it (fun i h => h.IsListIter it a i) where
  mem := by simp
  obj := fun i h st b hb => by
    have e : b = it := by simpa using hb
    subst e
    obtain ⟨o, e, c, d⟩ := st
    exact ⟨o, e, fun v z => by rw [d] at z; cases z⟩
  keep := fun i h h' st k => st.at fun o e => k it (by simp) o e
  item := by
    intro X hP hw hK hc i pins s σ H E I hf st hg
    subst hP hw hK
    obtain ⟨xs, x, hq, hx⟩ := hg
    obtain ⟨its, rv, p, hz⟩ := I.list hq
    obtain ⟨u, hu, ru⟩ := rv.get hx
    obtain ⟨f0, f1, f2, f3, f4, f5⟩ := hf it (by simp)
    refine wpAny_pyNext_list_item st p.isList (x := u) (by simpa using hu) fun h' st' sb => ?_
    have I1 : Inv X pins σ H { s with heap := h' } := I.turned (t' := s.toks) (fun b o hb e => (sb.2 b hb).trans e) f0 f1 f3 f4 f5
    obtain ⟨o, e, c, d⟩ := id st'
    exact ⟨u, rfl, go_of (s := { s with heap := h' }) e c d (by decide) ⟨x, H, I1, ru, ⟨rfl, fun ys hy => by rw [I.list_inj hy hq]; exact hx⟩, st', fun b hb => (hf b hb).1⟩⟩
  done := by
    intro X hP hw hK hc i pins s σ H E I hf st hg
    subst hP hw hK
    obtain ⟨xs, hq, hx⟩ := hg
    obtain ⟨its, rv, p, hz⟩ := I.list hq
    obtain ⟨f0, f1, f2, f3, f4, f5⟩ := hf it (by simp)
    have hl := rv.length
    exact wpAny_pyNext_list_end (I.ok.hd hc) st p.isList (by simp; omega) fun h' eb => ⟨rfl, I.turned (t' := s.toks) (fun b o hb e => eb b o hb e) f0 f1 f3 f4 f5⟩
  self := fun _ _ _ _ _ st h => wpAny_pyIter_listiter st h
theorem turn_range {P : Program} {w : World} {K : W.Frag} {tg : Expr} (it : Addr) (lo : Int) (n : Nat) : Turn P w K tg (Itr lo n) [it] it (fun i h => IsRangeIter h it (lo + (i : Nat) * 1) ((n : Int) - (i : Nat)) 1) where
  mem := by simp
  obj := fun i h st b hb => by
    have e : b = it := by simpa using hb
    subst e
    exact ⟨_, st, fun v z => by
      have z' : Data.fields _ = Data.cell v := z
      cases z'⟩
  keep := fun i h h' st k => k it (by simp) _ st
  item := by
    intro X hP hw hK hc i pins s σ H E I hf st hg
    subst hP hw hK
    obtain ⟨f0, f1, f2, f3, f4, f5⟩ := hf it (by simp)
    have W := Walks.range (prog := X.prog) (w := X.w) (I.ok.hd hc) it lo 1 n
    refine W.item i s _ _ hg st fun v h' tk hv st' kk => ?_
    obtain ⟨t, rfl⟩ := hv
    have I1 : Inv X pins σ H { s with heap := h', toks := tk } := I.turned (fun b o hb e => kk b o (by simpa using hb) e) f0 f1 f3 f4 f5
    refine ⟨_, rfl, go_of (s := { s with heap := h', toks := tk }) (n := "range_iterator") st' rfl rfl (by decide) ⟨.int (lo + i), H, I1, ⟨t, ?_⟩, ⟨rfl, rfl⟩, st', fun b hb => (hf b hb).1⟩⟩
    rw [Int.mul_one]
  done := by
    intro X hP hw hK hc i pins s σ H E I hf st hg
    subst hP hw hK
    obtain ⟨f0, f1, f2, f3, f4, f5⟩ := hf it (by simp)
    exact wpAny_pyNext_range_end (I.ok.hd hc) st (by have : n ≤ i := hg; omega) fun h' eb => ⟨rfl, I.turned (t' := s.toks) (fun b o hb e => eb b o hb e) f0 f1 f3 f4 f5⟩
  self := fun _ _ _ _ _ st h => wpAny_pyIter_rangeiter st h
end L2
namespace L2
open PySem PySem.Spec PyProof.Rows
section
variable {X : Cx} {tg : Expr}
def iList (K : W.Frag) (tl : TE) : TI := fun σ H R => tl σ H fun x H1 => ∃ a, x = .ref a ∧ (∃ xs, SqL K H1 a xs) ∧ R (Itl K a) H1
theorem pi_list {l : Expr} {tl : TE} (hl : PE X l tl) : PI X tg l (iList X.K tl) := by
  intro pins s σ H R I h
  refine thn (hl pins s σ H _ I h) fun v s1 ⟨x, H1, I1, r1, q1⟩ => ?_
  obtain ⟨a, e, ⟨xs, hq⟩, q⟩ := q1
  subst e
  cases r1
  obtain ⟨its, rv, p, hz⟩ := I1.list hq
  refine wpAny_pyIter_list p.isList ?_
  refine ⟨s1.heap.objs.size, [s1.heap.objs.size], _, _, H1, rfl, I1.kept (t' := s1.toks) fun b o e => Heap.get?_push_of_some _ e, turn_list a _, ⟨_, Heap.get?_push_size _ rfl, rfl, rfl⟩, fun b hb => ?_, q⟩
  have e : b = s1.heap.objs.size := by simpa using hb
  subst e
  exact I1.fpOk (Nat.le_refl _) (I1.hok.fresh (Nat.le_refl _))
theorem range_it {pins : List (Addr × Obj)} {σ : St} {H : Hp} {s : Shared} {R : It → Hp → Prop} {E : Value → Shared → Prop} {lo hi : Int} {t u v : Tok} {tk : Nat} (I : Inv X pins σ H s) (h1 : -(2 ^ 62) ≤ lo) (h2 : lo < 2 ^ 62) (h3 : -(2 ^ 62) ≤ hi) (h4 : hi < 2 ^ 62)
    (q : R (Itr lo (hi - lo).toNat) H) : wpAny (model X.prog X.w) X.A (pyIter (.ref s.heap.objs.size)) (PIE X pins σ tg R) E { s with heap := s.heap.push { cls := .type "range", data := .fields #[.int lo t, .int hi u, .int 1 v] }, toks := tk } := by
  refine wpAny_pyIter_range (IsRange.new ..) (small_one h1 h2 h3 h4) ?_
  have I1 : Inv X pins σ H { s with heap := s.heap.push { cls := .type "range", data := .fields #[.int lo t, .int hi u, .int 1 v] }, toks := tk } := I.kept fun b o e => Heap.get?_push_of_some _ e
  refine ⟨(s.heap.push { cls := .type "range", data := .fields #[.int lo t, .int hi u, .int 1 v] }).objs.size, [(s.heap.push { cls := .type "range", data := .fields #[.int lo t, .int hi u, .int 1 v] }).objs.size], _, _, H, rfl,
    I1.kept (t' := tk) fun b o e => Heap.get?_push_of_some _ e, turn_range _ lo (hi - lo).toNat, ?_, fun b hb => ?_, q⟩
  · have e1 : lo + ((0 : Nat) : Int) * 1 = lo := by simp
    have e2 : (((hi - lo).toNat : Nat) : Int) - ((0 : Nat) : Int) = Builtin.Range.rangeSize lo hi 1 := by rw [rangeSize_one]; split <;> omega
    show IsRangeIter _ _ (lo + ((0 : Nat) : Int) * 1) ((((hi - lo).toNat : Nat) : Int) - ((0 : Nat) : Int)) 1
    rw [e1, e2]
    exact Heap.get?_push_size _ rfl
  · have e : b = (s.heap.push { cls := .type "range", data := .fields #[.int lo t, .int hi u, .int 1 v] }).objs.size := by simpa using hb
    subst e
    exact I1.fpOk (Nat.le_refl _) (I1.hok.fresh (Nat.le_refl _))
def iRng1 (ta : TA) : TI := fun σ H R => ta σ H fun vs H1 => ∃ j : Int, vs = [.int j] ∧ -(2 ^ 62) ≤ j ∧ j < 2 ^ 62 ∧ R (Itr 0 j.toNat) H1
def iRng2 (ta : TA) : TI := fun σ H R => ta σ H fun vs H1 => ∃ i j : Int, vs = [.int i, .int j] ∧ (-(2 ^ 62) ≤ i ∧ i < 2 ^ 62 ∧ -(2 ^ 62) ≤ j ∧ j < 2 ^ 62) ∧ R (Itr i (j - i).toNat) H1
theorem pi_range1 {a : Expr} {ta : TA} {p pos : Pos} (hg : Gl X "range") (hm : X.mg "range" = none) (ha : PA X [a] ta) (hs : starEach [a] X.env = [(false, eval a X.env)] := by rfl) : PI X tg (.Call (.Name "range" p) [a] [] pos) (iRng1 ta) := by
  intro pins s σ H R I h
  refine Call_ (ld_blt I hg hm boot_range (PyProof.Rows.callWith_type1 (thn (ha pos pins s σ H _ I h) fun us s1 ⟨vs, H1, I1, r1, q1⟩ => ?_) hs rfl))
  obtain ⟨j, e, q1, q2, q⟩ := q1
  subst e
  cases r1 with
  | cons r rr =>
    cases rr
    obtain ⟨t, rfl⟩ := r
    exact call_range_1 (range_it I1 (by omega) (by omega) q1 q2 (by simpa using q))
theorem pi_range2 {a b : Expr} {ta : TA} {p pos : Pos} (hg : Gl X "range") (hm : X.mg "range" = none) (ha : PA X [a, b] ta) (hs : starEach [a, b] X.env = [(false, eval a X.env), (false, eval b X.env)] := by rfl) (hs2 : starEach [b] X.env = [(false, eval b X.env)] := by rfl) :
    PI X tg (.Call (.Name "range" p) [a, b] [] pos) (iRng2 ta) := by
  intro pins s σ H R I h
  refine Call_ (ld_blt I hg hm boot_range (PyProof.Rows.callWith_type1 (thn (ha pos pins s σ H _ I h) fun us s1 ⟨vs, H1, I1, r1, q1⟩ => ?_) (by rw [hs, hs2]) (by rw [hs2]; rfl)))
  obtain ⟨i, j, e, ⟨q1, q2, q3, q4⟩, q⟩ := q1
  subst e
  cases r1 with
  | cons r rr =>
    cases rr with
    | cons r' rr =>
      cases rr
      obtain ⟨t, rfl⟩ := r
      obtain ⟨t', rfl⟩ := r'
      exact call_range_2 (range_it I1 q1 q2 q3 q4 q)
def tFor (wi : TI) (g : TG) (tb : TS) : TS := fun D σ H => wi σ H fun J H1 => ∃ W : Nat → Nat → St → Hp → Prop, (∃ m, W 0 m σ H1) ∧ ∀ i m σ H, W i m σ H →
  (J.stop i H ∧ D.nx σ H) ∨ (J.go i H ∧ ∃ N : St → Hp → Prop, (∀ σ' H', N σ' H' → ∃ m', m' < m ∧ W (i + 1) m' σ' H') ∧ ∀ x H', J.yld i H x H' → g x σ H' fun σ2 H2 => tb { D with nx := N, ct := N, bk := D.nx } σ2 H2)
def pinsAt (fp : List Addr) (h : Heap) : List (Addr × Obj) := fp.filterMap fun b => (h.get? b).map fun o => (b, o)
theorem mem_pinsAt {fp : List Addr} {h : Heap} {b : Addr} {o : Obj} (hb : b ∈ fp) (e : h.get? b = some o) : (b, o) ∈ pinsAt fp h := List.mem_filterMap.mpr ⟨b, hb, by rw [e]; rfl⟩
theorem of_pinsAt {fp : List Addr} {h : Heap} {p : Addr × Obj} (hp : p ∈ pinsAt fp h) : p.1 ∈ fp ∧ h.get? p.1 = some p.2 := by
  obtain ⟨b, hb, e⟩ := List.mem_filterMap.mp hp
  cases q : h.get? b with
  | none => rw [q] at e; cases e
  | some o =>
    rw [q] at e
    have e' : (b, o) = p := Option.some.inj e
    subst e'
    exact ⟨hb, q⟩
theorem Inv.pinned {pins : List (Addr × Obj)} {σ : St} {H : Hp} {s : Shared} {fp : List Addr} (I : Inv X pins σ H s) (hf : ∀ b ∈ fp, FpOk X pins H b) (ho : ∀ b ∈ fp, ∃ o, s.heap.get? b = some o ∧ ∀ v, o.data ≠ .cell v) : Inv X (pins ++ pinsAt fp s.heap) σ H s :=
  I.pins_of fun p hp => (List.mem_append.mp hp).elim (fun z => I.pin p (List.mem_append_right _ z)) fun z => by
    obtain ⟨hb, e⟩ := of_pinsAt z
    obtain ⟨f0, f1, f2, _⟩ := hf p.1 hb
    obtain ⟨o, e', d⟩ := ho p.1 hb
    rw [e] at e'; cases e'
    exact ⟨e, f0, f1, f2, d⟩
theorem Inv.unpinned {pins pl : List (Addr × Obj)} {σ : St} {H : Hp} {s : Shared} (I : Inv X (pins ++ pl) σ H s) : Inv X pins σ H s := I.pins_of fun p hp => I.pin p (List.mem_append_right _ (List.mem_append_left _ hp))
theorem ps_for {iter : Expr} {body : List Stmt} {wi : TI} {g : TG} {tb : TS} {pos : Pos} (hp : PassesOwn (model X.prog X.w) X.A X.env X.xe) (hc : X.calm = true) (hi : PI X tg iter wi) (hg : PG X tg g) (hb : PSs X body tb)
    (hs : ∀ x, foldedSetIterable iter X.env x = pure x := by intro _; rfl) : PS X (.For tg iter body [] pos) (tFor wi g tb) := by
  intro pins s σ H D I h
  refine wpAny_For (thn (hi pins s σ H _ I h) fun v s1 h1 => thn h1 fun itv s2 h2 => ?_) hs
  obtain ⟨it, fp, tn, J, H2, e, I2, T, st2, f2, W, ⟨m0, w0⟩, turn⟩ := h2
  subst e
  have stat : ∀ {H' : Hp}, (∀ b ∈ fp, H' b = none) → ∀ b ∈ fp, FpOk X pins H' b := fun hn b hb => ⟨hn b hb, (f2 b hb).2⟩
  refine codeAny_forLoop_any (fun n s' => ∃ i σ' H', Inv X pins σ' H' s' ∧ tn i s'.heap ∧ (∀ b ∈ fp, H' b = none) ∧ W i n σ' H') ?_ m0 ⟨0, σ, H2, I2, st2, fun b hb => (f2 b hb).1, w0⟩
  rintro n s3 ⟨i, σ3, H3, I3, st3, fr3, w3⟩
  rcases turn i n σ3 H3 w3 with ⟨stop, qn⟩ | ⟨go, N, hN, step⟩
  · refine wpAny_passesOwn hp (thn (T.done X rfl rfl rfl hc i pins s3 σ3 H3 X.xe I3 (stat fr3) st3 stop) fun r s4 ⟨hr, I4⟩ => ?_)
    subst hr
    exact wpAny_execs_nil ⟨σ3, H3, I4, qn⟩
  · refine wpAny_passesOwn hp (thn (T.item X rfl rfl rfl hc i pins s3 σ3 H3 X.xe I3 (stat fr3) st3 go) fun r s4 ⟨u, hr, h4⟩ => ?_)
    subst hr
    refine wpAny_passesOwn hp (thn h4 fun _ s5 ⟨x, H5, I5, r5, y5, st5, fr5⟩ => ?_)
    have I5' := I5.pinned (stat fr5) (T.obj _ _ st5)
    refine wpAny_passesOwn hp (thn (hg _ s5 σ3 H5 x u _ I5' r5 (step x H5 y5)) fun _ s6 ⟨σ6, H6, I6, q6⟩ => ?_)
    refine wpAny_passesOwn hp (thn (hb _ s6 σ6 H6 _ I6 q6) fun f s7 q7 => ?_)
    have again : ∀ {σ7 : St} {H7 : Hp}, Inv X (pins ++ pinsAt fp s5.heap) σ7 H7 s7 → N σ7 H7 → ∃ m, m < n ∧ ∃ i σ' H', Inv X pins σ' H' s7 ∧ tn i s7.heap ∧ (∀ b ∈ fp, H' b = none) ∧ W i m σ' H' := fun {σ7 H7} I7 n7 => by
      obtain ⟨m', hm, w7⟩ := hN σ7 H7 n7
      refine ⟨m', hm, i + 1, σ7, H7, I7.unpinned, T.keep _ _ _ st5 fun b hb o e => (I7.pin (b, o) (List.mem_append_right _ (List.mem_append_right _ (mem_pinsAt hb e)))).1, fun b hb => ?_, w7⟩
      obtain ⟨o, e, d⟩ := T.obj _ _ st5 b hb
      exact (I7.pin (b, o) (List.mem_append_right _ (List.mem_append_right _ (mem_pinsAt hb e)))).2.1
    cases f with
    | next => obtain ⟨σ7, H7, I7, n7⟩ := q7; exact again I7 n7
    | cont => obtain ⟨σ7, H7, I7, n7⟩ := q7; exact again I7 n7
    | brk => obtain ⟨σ7, H7, I7, q7⟩ := q7; exact ⟨σ7, H7, I7.unpinned, q7⟩
    | ret v => obtain ⟨x7, σ7, H7, I7, r7, q7⟩ := q7; exact ⟨x7, σ7, H7, I7.unpinned, r7, q7⟩
end
theorem for_list {K : W.Frag} {a : Addr} {xs : List V} {g : TG} {tb : TS} {D : Ends} {σ : St} {H : Hp} (Pv : Nat → St → Hp → Prop) (h0 : Pv 0 σ H) (hl : ∀ i σ H, i ≤ xs.length → Pv i σ H → SqL K H a xs)
    (hs : ∀ i x σ H, xs[i]? = some x → Pv i σ H → g x σ H fun σ2 H2 => tb { D with nx := Pv (i + 1), ct := Pv (i + 1), bk := D.nx } σ2 H2) (hd : ∀ σ H, Pv xs.length σ H → D.nx σ H) :
    ∃ W : Nat → Nat → St → Hp → Prop, (∃ m, W 0 m σ H) ∧ ∀ i m σ H, W i m σ H →
      ((Itl K a).stop i H ∧ D.nx σ H) ∨ ((Itl K a).go i H ∧ ∃ N : St → Hp → Prop, (∀ σ' H', N σ' H' → ∃ m', m' < m ∧ W (i + 1) m' σ' H') ∧ ∀ x H', (Itl K a).yld i H x H' → g x σ H' fun σ2 H2 => tb { D with nx := N, ct := N, bk := D.nx } σ2 H2) := by
  refine ⟨fun i m σ H => m = xs.length - i ∧ i ≤ xs.length ∧ Pv i σ H, ⟨xs.length, by simp, Nat.zero_le _, h0⟩, ?_⟩
  rintro i m σ H ⟨rfl, hi, p⟩
  have q := hl i σ H hi p
  by_cases hlt : i < xs.length
  · refine .inr ⟨⟨xs, xs[i], q, by simp [hlt]⟩, Pv (i + 1), fun σ' H' p' => ⟨xs.length - (i + 1), by omega, rfl, hlt, p'⟩, fun x H' y => ?_⟩
    obtain ⟨e, y⟩ := y
    subst e
    exact hs i x σ _ (y xs q) p
  · have e : i = xs.length := by omega
    subst e
    exact .inl ⟨⟨xs, q, Nat.le_refl _⟩, hd σ H p⟩
theorem for_range {lo : Int} {n : Nat} {g : TG} {tb : TS} {D : Ends} {σ : St} {H : Hp} (Pv : Nat → St → Hp → Prop) (h0 : Pv 0 σ H)
    (hs : ∀ i σ H, i < n → Pv i σ H → g (.int (lo + i)) σ H fun σ2 H2 => tb { D with nx := Pv (i + 1), ct := Pv (i + 1), bk := D.nx } σ2 H2) (hd : ∀ σ H, Pv n σ H → D.nx σ H) :
    ∃ W : Nat → Nat → St → Hp → Prop, (∃ m, W 0 m σ H) ∧ ∀ i m σ H, W i m σ H →
      ((Itr lo n).stop i H ∧ D.nx σ H) ∨ ((Itr lo n).go i H ∧ ∃ N : St → Hp → Prop, (∀ σ' H', N σ' H' → ∃ m', m' < m ∧ W (i + 1) m' σ' H') ∧ ∀ x H', (Itr lo n).yld i H x H' → g x σ H' fun σ2 H2 => tb { D with nx := N, ct := N, bk := D.nx } σ2 H2) := by
  refine ⟨fun i m σ H => m = n - i ∧ i ≤ n ∧ Pv i σ H, ⟨n, by simp, Nat.zero_le _, h0⟩, ?_⟩
  rintro i m σ H ⟨rfl, hi, p⟩
  by_cases hlt : i < n
  · refine .inr ⟨hlt, Pv (i + 1), fun σ' H' p' => ⟨n - (i + 1), by omega, rfl, hlt, p'⟩, fun x H' y => ?_⟩
    obtain ⟨e, y⟩ := y
    subst e y
    exact hs i σ _ hlt p
  · have e : i = n := by omega
    subst e
    exact .inl ⟨Nat.le_refl _, hd σ H p⟩
end L2
namespace L2
open PySem PySem.Spec PyProof.Rows
abbrev R2 := V → V → Hp → VK → Prop
def OpR (X : Cx) (f : Value → Value → Sem Value) (r : R2) : Prop :=
  ∀ (pins : List (Addr × Obj)) (s : Shared) (σ : St) (H : Hp) (x y : V) (v u : Value) (Q : VK), Inv X pins σ H s → RelV x v → RelV y u → r x y H Q →
    wpAny (model X.prog X.w) X.A (f v u) (EP X pins σ Q) X.xe s
def UnR (X : Cx) (f : Value → Sem Value) (r : V → Hp → VK → Prop) : Prop :=
  ∀ (pins : List (Addr × Obj)) (s : Shared) (σ : St) (H : Hp) (x : V) (v : Value) (Q : VK), Inv X pins σ H s → RelV x v → r x H Q →
    wpAny (model X.prog X.w) X.A (f v) (EP X pins σ Q) X.xe s
def CallR (X : Cx) (f : Value) (r : List V → Hp → VK → Prop) : Prop :=
  ∀ (pins : List (Addr × Obj)) (s : Shared) (σ : St) (H : Hp) (xs : List V) (us : List Value) (Q : VK), Inv X pins σ H s → Vals xs us → r xs H Q →
    wpAny (model X.prog X.w) X.A (call f us) (EP X pins σ Q) X.xe s
def tOp (r : R2) (ta tb : TE) : TE := fun σ H Q => ta σ H fun x H1 => tb σ H1 fun y H2 => r x y H2 Q
def tUn (r : V → Hp → VK → Prop) (ta : TE) : TE := fun σ H Q => ta σ H fun x H1 => r x H1 Q
def rI (C : Int → Int → Prop) (g : Int → Int → V) : R2 := fun x y H Q => ∃ i j, x = .int i ∧ y = .int j ∧ C i j ∧ Q (g i j) H
def rI0 (g : Int → Int → V) : R2 := fun x y H Q => ∃ i j, x = .int i ∧ y = .int j ∧ Q (g i j) H
def rU (g : Int → V) : V → Hp → VK → Prop := fun x H Q => ∃ i, x = .int i ∧ Q (g i) H
section
variable {X : Cx} {a b c : Expr} {ta tb tc : TE} {pos : Pos}
theorem binT (ha : PE X a ta) (hb : PE X b tb) {pins : List (Addr × Obj)} {s : Shared} {σ : St} {H : Hp} {R : V → V → Hp → Prop} (I : Inv X pins σ H s)
    (h : ta σ H fun x H1 => tb σ H1 fun y H2 => R x y H2) {Q : Value → Shared → Prop} {f : Value → Value → Sem Value}
    (hf : ∀ v u s2 x y H2, Inv X pins σ H2 s2 → RelV x v → RelV y u → R x y H2 → wpAny (model X.prog X.w) X.A (f v u) Q X.xe s2) :
    wpAny (model X.prog X.w) X.A (eval a X.env) (fun v s₁ => wpAny (model X.prog X.w) X.A (eval b X.env) (fun u s₂ => wpAny (model X.prog X.w) X.A (f v u) Q X.xe s₂) X.xe s₁) X.xe s := by
  refine thn (ha pins s σ H _ I h) fun v s1 ⟨x, H1, I1, r1, q1⟩ => ?_
  refine thn (hb pins s1 σ H1 _ I1 q1) fun u s2 ⟨y, H2, I2, r2, q2⟩ => ?_
  exact hf v u s2 x y H2 I2 r1 r2 q2
theorem pe_op {op : Operator} {r : R2} (ho : OpR X (binaryOp op) r) (ha : PE X a ta) (hb : PE X b tb) : PE X (.BinOp a op b pos) (tOp r ta tb) := by
  intro pins s σ H Q I h
  exact wpAny_BinOp (binT ha hb I h fun v u s2 x y H2 I2 rx ry q => ho pins s2 σ H2 x y v u Q I2 rx ry q)
theorem pe_un {op : UnaryOp} {r : V → Hp → VK → Prop} (ho : UnR X (unaryOp op) r) (ha : PE X a ta) : PE X (.UnaryOp op a pos) (tUn r ta) := by
  intro pins s σ H Q I h
  exact UnaryOp_ (thn (ha pins s σ H _ I h) fun v s1 ⟨x, H1, I1, r1, q1⟩ => ho pins s1 σ H1 x v Q I1 r1 q1)
theorem opI {f : Value → Value → Sem Value} {C : Int → Int → Prop} {g : Int → Int → Int}
    (rule : ∀ (i j : Int) (t u : Tok) (s : Shared) (Q : Value → Shared → Prop) (E : Value → Shared → Prop), C i j → Q (.int (g i j) s.toks) { s with toks := s.toks + 1 } → wpAny (model X.prog X.w) X.A (f (.int i t) (.int j u)) Q E s) :
    OpR X f (rI C fun i j => .int (g i j)) := by
  intro pins s σ H x y v u Q I rx ry h
  obtain ⟨i, j, rfl, rfl, hc, q⟩ := h
  obtain ⟨t, rfl⟩ := rx
  obtain ⟨t', rfl⟩ := ry
  exact rule i j t t' s _ _ hc ⟨.int (g i j), H, I.tok _, ⟨_, rfl⟩, q⟩
theorem opI0 {f : Value → Value → Sem Value} {g : Int → Int → Int}
    (rule : ∀ (i j : Int) (t u : Tok) (s : Shared) (Q : Value → Shared → Prop) (E : Value → Shared → Prop), Q (.int (g i j) s.toks) { s with toks := s.toks + 1 } → wpAny (model X.prog X.w) X.A (f (.int i t) (.int j u)) Q E s) :
    OpR X f (rI0 fun i j => .int (g i j)) := by
  intro pins s σ H x y v u Q I rx ry h
  obtain ⟨i, j, rfl, rfl, q⟩ := h
  obtain ⟨t, rfl⟩ := rx
  obtain ⟨t', rfl⟩ := ry
  exact rule i j t t' s _ _ ⟨.int (g i j), H, I.tok _, ⟨_, rfl⟩, q⟩
theorem opB0 {f : Value → Value → Sem Value} {g : Int → Int → Bool}
    (rule : ∀ (i j : Int) (t u : Tok) (s : Shared) (Q : Value → Shared → Prop) (E : Value → Shared → Prop), Q (.bool (g i j)) s → wpAny (model X.prog X.w) X.A (f (.int i t) (.int j u)) Q E s) :
    OpR X f (rI0 fun i j => .bl (g i j)) := by
  intro pins s σ H x y v u Q I rx ry h
  obtain ⟨i, j, rfl, rfl, q⟩ := h
  obtain ⟨t, rfl⟩ := rx
  obtain ⟨t', rfl⟩ := ry
  exact rule i j t t' s _ _ ⟨.bl (g i j), H, I, rfl, q⟩
def CDiv (i j : Int) : Prop := 0 < j ∧ j < 1073741824
def CPow (i j : Int) : Prop := 0 ≤ j ∧ j ≤ 1000000 ∧ i.natAbs < 2 ^ 64
def CMul (i j : Int) : Prop := (-(2 ^ 64) < i ∧ i < 2 ^ 64) ∨ (-(2 ^ 64) < j ∧ j < 2 ^ 64)
theorem CMul.ok {i j : Int} (h : CMul i j) : IntMulOk i j := by
  rcases h with ⟨h1, h2⟩ | ⟨h1, h2⟩
  · exact .of_left (intBits_le_64 h1 h2)
  · exact .of_right (intBits_le_64 h1 h2)
theorem two_pow_nn (k : Nat) : (0 : Int) ≤ 2 ^ k := by
  rw [two_pow_cast]
  exact Int.natCast_nonneg _
theorem op_add : OpR X (binaryOp .Add) (rI0 fun i j => .int (i + j)) := opI0 fun _ _ _ _ _ _ _ q => add_int q
theorem op_sub : OpR X (binaryOp .Sub) (rI0 fun i j => .int (i - j)) := opI0 fun _ _ _ _ _ _ _ q => sub_int q
theorem op_mul : OpR X (binaryOp .Mult) (rI CMul fun i j => .int (i * j)) := opI fun _ _ _ _ _ _ _ hc q => mul_int q hc.ok
theorem op_fdiv : OpR X (binaryOp .FloorDiv) (rI CDiv fun i j => .int (i / j)) := opI fun i j _ _ _ _ _ hc q => by
  have h1 : (0 : Int) < j := hc.1
  have h2 : j < 1073741824 := hc.2
  exact floordiv_int (by omega) (by rw [Int.fdiv_eq_ediv_of_nonneg i (by omega)]; exact q) (.inl (PyProof.noPylong_small (by omega)))
theorem op_mod : OpR X (binaryOp .Mod) (rI (fun _ j => 0 < j) fun i j => .int (i % j)) := opI fun i j _ _ _ _ _ hc q => by
  have h1 : (0 : Int) < j := hc
  exact mod_int' (by omega) (by rw [Int.fmod_eq_emod_of_nonneg i (by omega)]; exact q)
theorem op_shl : OpR X (binaryOp .LShift) (rI CPow fun i j => .int (i * 2 ^ j.toNat)) := opI fun _ _ _ _ _ _ _ hc q => lshift_int_small hc.1 hc.2.1 hc.2.2 q
theorem op_shr : OpR X (binaryOp .RShift) (rI (fun _ j => 0 ≤ j) fun i j => .int (i / 2 ^ j.toNat)) := opI fun i j _ _ _ _ _ hc q =>
  rshift_int hc (by rw [Int.fdiv_eq_ediv_of_nonneg i (two_pow_nn _)]; exact q)
theorem op_and : OpR X (binaryOp .BitAnd) (rI0 fun i j => .int (Builtin.bitAnd i j)) := opI0 fun _ _ _ _ _ _ _ q => and_int q
theorem op_xor : OpR X (binaryOp .BitXor) (rI0 fun i j => .int (Builtin.bitXor i j)) := opI0 fun _ _ _ _ _ _ _ q => xor_int q
theorem unI {f : Value → Sem Value} {g : Int → Int}
    (rule : ∀ (i : Int) (t : Tok) (s : Shared) (Q : Value → Shared → Prop) (E : Value → Shared → Prop), Q (.int (g i) s.toks) { s with toks := s.toks + 1 } → wpAny (model X.prog X.w) X.A (f (.int i t)) Q E s) :
    UnR X f (rU fun i => .int (g i)) := by
  intro pins s σ H x v Q I rx h
  obtain ⟨i, rfl, q⟩ := h
  obtain ⟨t, rfl⟩ := rx
  exact rule i t s _ _ ⟨.int (g i), H, I.tok _, ⟨_, rfl⟩, q⟩
theorem un_neg : UnR X (unaryOp .USub) (rU fun i => .int (-i)) := unI fun _ _ _ _ _ q => neg_int q
end
def scal : V → V → Bool
  | .non, .non => true | .non, .int _ => true | .int _, .non => true | .non, .bl _ => true | .bl _, .non => true | .non, .str _ => true | .str _, .non => true
  | .int _, .int _ => true | .bl _, .bl _ => true | .str _, .str _ => true | .byt _, .byt _ => true
  | .int _, .str _ => true | .str _, .int _ => true | .bl _, .str _ => true | .str _, .bl _ => true
  | _, _ => false
def rEq : R2 := fun x y H Q => scal x y = true ∧ Q (.bl (decide (x = y))) H
def rNe : R2 := fun x y H Q => scal x y = true ∧ Q (.bl (!decide (x = y))) H
theorem dec_int {i j : Int} : decide (V.int i = V.int j) = (i == j) := by
  rw [Bool.eq_iff_iff]
  simp
theorem dec_bl {i j : Bool} : decide (V.bl i = V.bl j) = (i == j) := by
  rw [Bool.eq_iff_iff]
  simp
theorem dec_str {i j : Str} : decide (V.str i = V.str j) = (i == j) := by
  rw [Bool.eq_iff_iff]
  simp
theorem dec_byt {i j : Array UInt8} : decide (V.byt i = V.byt j) = (i.toList == j.toList) := by
  rw [Bool.eq_iff_iff]
  cases i
  cases j
  simp
section
variable {X : Cx} {a b c : Expr} {ta tb tc : TE} {pos : Pos}
theorem fin_bl {pins : List (Addr × Obj)} {σ : St} {H : Hp} {s : Shared} {Q : VK} {k k' : Bool} (I : Inv X pins σ H s) (q : Q (.bl k) H) (e : k = k') : EP X pins σ Q (.bool k') s := by
  subst e
  exact ⟨.bl k, H, I, rfl, q⟩
theorem op_eq : OpR X (compareOp .Eq) rEq := by
  intro pins s σ H x y v u Q I rx ry h
  obtain ⟨hs, q⟩ := h
  cases x with
  | non =>
    cases rx
    cases y with
    | non => cases ry; exact PySem.EqNone.eq_none_none (fin_bl I q (by simp))
    | bl j => cases ry; exact PySem.EqNone.eq_none_bool (fin_bl I q (by simp))
    | int j => obtain ⟨t', rfl⟩ := ry; exact PySem.EqNone.eq_none_int (fin_bl I q (by simp))
    | str j => obtain ⟨t', rfl⟩ := ry; exact PySem.EqNone.eq_none_str (fin_bl I q (by simp))
    | _ => exact absurd (show false = true from hs) Bool.false_ne_true
  | bl i =>
    cases rx
    cases y with
    | non => cases ry; exact PySem.EqNone.eq_bool_none (fin_bl I q (by simp))
    | bl j => cases ry; exact eq_bool (fin_bl I q dec_bl)
    | str j => obtain ⟨t', rfl⟩ := ry; exact PySem.EqMixed.eq_bool_str (fin_bl I q (by simp))
    | _ => exact absurd (show false = true from hs) Bool.false_ne_true
  | int i =>
    obtain ⟨t, rfl⟩ := rx
    cases y with
    | non => cases ry; exact PySem.EqNone.eq_int_none (fin_bl I q (by simp))
    | int j => obtain ⟨t', rfl⟩ := ry; exact eq_int (fin_bl I q dec_int)
    | str j => obtain ⟨t', rfl⟩ := ry; exact PySem.EqMixed.eq_int_str (fin_bl I q (by simp))
    | _ => exact absurd (show false = true from hs) Bool.false_ne_true
  | str i =>
    obtain ⟨t, rfl⟩ := rx
    cases y with
    | non => cases ry; exact PySem.EqNone.eq_str_none (fin_bl I q (by simp))
    | bl j => cases ry; exact PySem.EqMixed.eq_str_bool (fin_bl I q (by simp))
    | int j => obtain ⟨t', rfl⟩ := ry; exact PySem.EqMixed.eq_str_int (fin_bl I q (by simp))
    | str j => obtain ⟨t', rfl⟩ := ry; exact eq_str (fin_bl I q dec_str)
    | _ => exact absurd (show false = true from hs) Bool.false_ne_true
  | byt i =>
    obtain ⟨t, rfl⟩ := rx
    cases y with
    | byt j => obtain ⟨t', rfl⟩ := ry; exact PySem.W.eq_bytes (fin_bl I q dec_byt)
    | _ => exact absurd (show false = true from hs) Bool.false_ne_true
  | _ => cases y <;> exact absurd (show false = true from hs) Bool.false_ne_true
theorem op_ne : OpR X (compareOp .NotEq) rNe := by
  intro pins s σ H x y v u Q I rx ry h
  obtain ⟨hs, q⟩ := h
  cases x with
  | non =>
    cases rx
    cases y with
    | non => cases ry; exact PySem.EqNone.ne_none_none (fin_bl I q (by simp))
    | bl j => cases ry; exact PySem.EqNone.ne_none_bool (fin_bl I q (by simp))
    | int j => obtain ⟨t', rfl⟩ := ry; exact PySem.EqNone.ne_none_int (fin_bl I q (by simp))
    | str j => obtain ⟨t', rfl⟩ := ry; exact PySem.EqNone.ne_none_str (fin_bl I q (by simp))
    | _ => exact absurd (show false = true from hs) Bool.false_ne_true
  | bl i =>
    cases rx
    cases y with
    | non => cases ry; exact PySem.EqNone.ne_bool_none (fin_bl I q (by simp))
    | bl j => cases ry; exact ne_bool (fin_bl I q (congrArg not dec_bl))
    | str j => obtain ⟨t', rfl⟩ := ry; exact PySem.EqMixed.ne_bool_str (fin_bl I q (by simp))
    | _ => exact absurd (show false = true from hs) Bool.false_ne_true
  | int i =>
    obtain ⟨t, rfl⟩ := rx
    cases y with
    | non => cases ry; exact PySem.EqNone.ne_int_none (fin_bl I q (by simp))
    | int j => obtain ⟨t', rfl⟩ := ry; exact ne_int (fin_bl I q (congrArg not dec_int))
    | str j => obtain ⟨t', rfl⟩ := ry; exact PySem.EqMixed.ne_int_str (fin_bl I q (by simp))
    | _ => exact absurd (show false = true from hs) Bool.false_ne_true
  | str i =>
    obtain ⟨t, rfl⟩ := rx
    cases y with
    | non => cases ry; exact PySem.EqNone.ne_str_none (fin_bl I q (by simp))
    | bl j => cases ry; exact PySem.EqMixed.ne_str_bool (fin_bl I q (by simp))
    | int j => obtain ⟨t', rfl⟩ := ry; exact PySem.EqMixed.ne_str_int (fin_bl I q (by simp))
    | str j => obtain ⟨t', rfl⟩ := ry; exact ne_str (fin_bl I q (congrArg not dec_str))
    | _ => exact absurd (show false = true from hs) Bool.false_ne_true
  | byt i =>
    obtain ⟨t, rfl⟩ := rx
    cases y with
    | byt j => obtain ⟨t', rfl⟩ := ry; exact PySem.W.ne_bytes (fin_bl I q (congrArg not dec_byt))
    | _ => exact absurd (show false = true from hs) Bool.false_ne_true
  | _ => cases y <;> exact absurd (show false = true from hs) Bool.false_ne_true
theorem op_lt : OpR X (compareOp .Lt) (rI0 fun i j => .bl (decide (i < j))) := opB0 fun _ _ _ _ _ _ _ q => lt_int q
theorem op_le : OpR X (compareOp .LtE) (rI0 fun i j => .bl (decide (i ≤ j))) := opB0 fun _ _ _ _ _ _ _ q => le_int q
theorem op_gt : OpR X (compareOp .Gt) (rI0 fun i j => .bl (decide (j < i))) := opB0 fun _ _ _ _ _ _ _ q => gt_int q
theorem op_ge : OpR X (compareOp .GtE) (rI0 fun i j => .bl (decide (j ≤ i))) := opB0 fun _ _ _ _ _ _ _ q => ge_int q
theorem nomark (b : Expr) {op : CmpOp} (h : op ≠ .In := by decide) (h2 : op ≠ .NotIn := by decide) : behindInMarks op b = false := by
  have e1 : (op == CmpOp.In) = false := by cases op <;> first | rfl | exact absurd rfl h
  have e2 : (op == CmpOp.NotIn) = false := by cases op <;> first | rfl | exact absurd rfl h2
  cases b <;> simp [behindInMarks, e1, e2]
theorem pe_cmpR {op : CmpOp} {r : R2} (ho : OpR X (compareOp op) r) (ha : PE X a ta) (hb : PE X b tb) (hm : behindInMarks op b = false) : PE X (.Compare a [op] [b] pos) (tOp r ta tb) := by
  intro pins s σ H Q I h
  exact wpAny_Compare1 (binT ha hb I h fun v u s2 x y H2 I2 rx ry q => ho pins s2 σ H2 x y v u Q I2 rx ry q) hm
def tTest (t : TE) : TT := fun σ H Q => t σ H fun x H' => ∃ k, x = .bl k ∧ Q k H'
theorem pt_cmpR {op : CmpOp} {r : R2} (ho : OpR X (compareOp op) r) (ha : PE X a ta) (hb : PE X b tb) (hm : behindInMarks op b = false) : PT X (.Compare a [op] [b] pos) (tTest (tOp r ta tb)) := by
  intro pins s σ H Q I h
  refine wpAny_isTrue_Compare1 (thn (ha pins s σ H _ I h) fun v s1 ⟨x, H1, I1, r1, q1⟩ => thn (hb pins s1 σ H1 _ I1 q1) fun u s2 ⟨y, H2, I2, r2, q2⟩ =>
    thn (ho pins s2 σ H2 x y v u _ I2 r1 r2 q2) fun c s3 ⟨z, H3, I3, r3, k, e, q3⟩ => ?_) hm
  subst e
  cases r3
  exact wpAny_truthy_bool ⟨H3, I3, q3⟩
theorem line63 : (sizeLine : Nat) < 2 ^ 63 := by rw [sizeLine_eq]; decide
theorem vals1 {x : V} {us : List Value} (r : Vals [x] us) : ∃ u, us = [u] ∧ RelV x u := by
  cases r with
  | cons r1 r2 => cases r2; exact ⟨_, rfl, r1⟩
theorem vals2 {x y : V} {us : List Value} (r : Vals [x, y] us) : ∃ u w', us = [u, w'] ∧ RelV x u ∧ RelV y w' := by
  cases r with
  | cons r1 r2 =>
    cases r2 with
    | cons r3 r4 => cases r4; exact ⟨_, _, rfl, r1, r3⟩
theorem call_max2 (hc : X.calm = true) : CallR X (.builtin "max") (fun xs H Q => ∃ i j, xs = [.int i, .int j] ∧ Q (.int (if j > i then j else i)) H) := by
  intro pins s σ H xs us Q I r h
  obtain ⟨i, j, rfl, q⟩ := h
  obtain ⟨u, w', rfl, ⟨t, rfl⟩, ⟨t', rfl⟩⟩ := vals2 r
  refine max_two_ints (I.ok.hd hc) fun h' tk k => ⟨_, H, I.kept k, ?_, q⟩
  by_cases hj : j > i
  · rw [if_pos hj, if_pos hj]; exact ⟨_, rfl⟩
  · rw [if_neg hj, if_neg hj]; exact ⟨_, rfl⟩
theorem call_min2 (hc : X.calm = true) : CallR X (.builtin "min") (fun xs H Q => ∃ i j, xs = [.int i, .int j] ∧ Q (.int (if j < i then j else i)) H) := by
  intro pins s σ H xs us Q I r h
  obtain ⟨i, j, rfl, q⟩ := h
  obtain ⟨u, w', rfl, ⟨t, rfl⟩, ⟨t', rfl⟩⟩ := vals2 r
  refine min_two_ints (I.ok.hd hc) fun h' tk k => ⟨_, H, I.kept k, ?_, q⟩
  by_cases hj : j < i
  · rw [if_pos hj, if_pos hj]; exact ⟨_, rfl⟩
  · rw [if_neg hj, if_neg hj]; exact ⟨_, rfl⟩
end
end L2
namespace L2
open PySem PySem.Spec PyProof.Rows
structure ObjM (h : Heap) (x dx C : Addr) (mA : Str → Option Value) : Prop where
  obj : h.get? x = some (PySem.W.instObj C dx)
  ns : h.Ns1 dx mA
  ne : dx ≠ x
theorem lookIn_ns {h : Heap} {dx : Addr} {mA : Str → Option Value} (n : h.Ns1 dx mA) : ∃ od, h.get? dx = some od ∧ ∀ name, PySem.W.lookIn name od = some (mA name) := by
  obtain ⟨o, es, ep, ho, hd, hk, _, hm⟩ := n
  refine ⟨o, ho, fun name => ?_⟩
  have e := hm name
  unfold nsFind findBy at e
  rw [← Array.find?_toList] at e
  unfold PySem.W.lookIn
  rw [hd]
  dsimp only
  split
  · rename_i y q
    rw [q] at e
    exact congrArg some e
  · rename_i q
    rw [q] at e
    have a : es.toList.any (·.refKey) = false := by
      rw [List.any_eq_false]
      intro y hy
      obtain ⟨z, t, hkey⟩ := hk y (Array.mem_toList_iff.mp hy)
      simp [DictEntry.refKey, hkey]
    have a' : ¬ es.toList.any (·.refKey) = true := by rw [a]; exact Bool.false_ne_true
    rw [if_neg a']
    exact congrArg some e
theorem ObjM.look {h : Heap} {x dx C : Addr} {mA : Str → Option Value} (I : ObjM h x dx C mA) : ∃ od, PySem.W.InstAt h x (PySem.W.instObj C dx) C (some od) ∧ ∀ name, PySem.W.lookIn name od = some (mA name) :=
  let ⟨od, ho, hl⟩ := lookIn_ns I.ns
  ⟨od, ⟨I.obj, rfl, rfl, ho⟩, hl⟩
section
variable {prog : Program} {w : World} {A : Around} {E : Value → Shared → Prop} {s : Shared} {K : W.Frag} {x dx C f : Addr} {mA : Str → Option Value} {name : Str} {v : Value}
theorem get_map {expr : Bool} {Q : Value → Shared → Prop} (X : K.In s.heap) (I : ObjM s.heap x dx C mA) (hg : PySem.W.plainGet K C name = true) (hh : PySem.W.hasDictIn K C = true)
    (ha : PySem.W.findIn K (.ref C) name = some none) (hv : mA name = some v) (hv' : PySem.W.handedIn v = true) (h : Q v { s with toks := s.toks + 1 }) :
    wpAny (model prog w) A (getAttr (.ref x) name expr) Q E s := by
  obtain ⟨od, J, hl⟩ := I.look
  exact PySem.W.get_value X J (PySem.W.plainGet_of hg).1 (PySem.W.findObj_own hh ha rfl (by rw [hl, hv])) hv' h
theorem get_meth {pl : Sem Bool} {Q : Value × List Value → Shared → Prop} (X : K.In s.heap) (I : ObjM s.heap x dx C mA) (hg : PySem.W.plainGet K C name = true)
    (hf : PySem.W.findIn K (.ref C) name = some (some (.ref f))) (ht : PySem.W.isFn K (.ref f) = true) (hv : mA name = none) (h : Q (.ref f, [.ref x]) s) :
    wpAny (model prog w) A (getMethod (.ref x) name pl) Q E s := by
  obtain ⟨od, J, hl⟩ := I.look
  exact PySem.W.method_fn X J (PySem.W.plainGet_of hg).1 (PySem.W.plainGet_of hg).2 hf (beq_iff_eq.mp ht) (by show (PySem.W.lookIn name od).map (·.isSome) = some false; rw [hl, hv]; rfl) h
theorem set_map {ns : List Str} {Q : Unit → Shared → Prop} (X : K.In s.heap) (I : ObjM s.heap x dx C mA)
    (hs : PySem.W.findIn K (.ref C) "__setattr__" = some (some (.builtin "object.__setattr__"))) (hp : PySem.W.plainOver K C = true) (ht : PySem.W.takerIn K C name = some none) (hh : PySem.W.hasDictIn K C = true)
    (hw : PySem.Within mA ns) (hsz : ns.length ≤ sizeLine)
    (h : ∀ h', ObjM h' x dx C (fun y => if y = name then some v else mA y) → Heap.SameBut dx s.heap h' → Q () { s with heap := h', toks := s.toks + 2 }) :
    wpAny (model prog w) A (setAttr (.ref x) name v) Q E s := by
  obtain ⟨od, J, hl⟩ := I.look
  refine PySem.W.set_plain X J hs (PySem.W.osa_open (s := { s with toks := s.toks + 1 }) (r := none) X J hp ht fun b => ?_)
  obtain ⟨cd, hc, hd'⟩ := PySem.W.any_some hh
  have hx : s.heap.get? x = some ⟨.ref C, some dx, .plain, #[]⟩ := I.obj
  refine wpAny_bind (wpAny_pure (wpAny_bind (wpAny_bind (wpAny_loadPart hx (wpAny_bind (PySem.W.Looks.here (s := { s with toks := s.toks + 1 }) (PySem.W.looks_clsIn X hc) ?_))))))
  rw [hd']
  refine wpAny_pure (a := some dx) (wpAny_bind (wpAny_pure (wpAny_bind ?_)))
  refine wpAny_nsSet1 (s := { s with toks := s.toks + 1 }) I.ns fun h' hn2 hs2 => ?_
  obtain ⟨oD, esD, epD, hoD, hdD, hcD⟩ := hn2.count (PySem.Within.cons name v hw)
  refine wpAny_bind (wpAny_lookBehind hoD (by rw [hdD]; exact pastItsLine_dict (Nat.le_trans hcD (by rw [List.length_cons]; omega))) ?_)
  exact wpAny_pure (h _ ⟨(hs2.2 _ (Ne.symm I.ne)).trans I.obj, hn2, I.ne⟩ hs2)
theorem make_map {R : Result → Shared → Prop} {vs : List Value} {kw : List (Str × Value)} (X : K.In s.heap) (hm : PySem.W.makesIn K C = true)
    (hi : PySem.W.findIn K (.ref C) "__init__" = some (some (.ref f))) (hf : PySem.W.typeIn K (.ref f) = some (.type "function"))
    (h : codeAny (model prog w) (A.under (.builtin "type.__call__" ⟨.ref C :: vs, kw⟩)) (.call (.ref f) ⟨.ref (s.heap.objs.size + 1) :: vs, kw⟩) (PySem.W.InitBack (s.heap.objs.size + 1) R)
      { s with heap := (s.heap.push PySem.W.emptyDict).push (PySem.W.instObj C s.heap.objs.size) }) :
    codeAny (model prog w) A (.call (.ref C) ⟨vs, kw⟩) R s := by
  obtain ⟨hh, g, d, t, os⟩ := s
  exact PySem.W.make_core (PySem.W.makes_of X hm) (PySem.W.looks_findIn X hi) (fun self => PySem.W.bind_fn X self hf) (.inl rfl) h
end
def putF (f : Str) (v : V) : List (Str × V) → List (Str × V)
  | [] => [(f, v)]
  | (g, x) :: r => if g = f then (g, v) :: r else (g, x) :: putF f v r
theorem lookup_putF (f g : Str) (v : V) : ∀ fs : List (Str × V), (putF f v fs).lookup g = if g = f then some v else fs.lookup g
  | [] => by
    show List.lookup g [(f, v)] = _
    by_cases h : g = f
    · have hb : (g == f) = true := beq_iff_eq.mpr h
      simp only [List.lookup, hb, if_pos h]
    · have hb : (g == f) = false := beq_eq_false_iff_ne.mpr h
      simp only [List.lookup, hb, if_neg h]
  | (k, x) :: r => by
    have ih := lookup_putF f g v r
    rw [show putF f v ((k, x) :: r) = (if k = f then (k, v) :: r else (k, x) :: putF f v r) from rfl]
    by_cases hk : k = f
    · rw [if_pos hk]
      by_cases h : g = k
      · have hb : (g == k) = true := beq_iff_eq.mpr h
        simp only [List.lookup, hb, if_pos (h.trans hk)]
      · have hb : (g == k) = false := beq_eq_false_iff_ne.mpr h
        simp only [List.lookup, hb, if_neg (fun e : g = f => h (e.trans hk.symm))]
    · rw [if_neg hk]
      by_cases h : g = k
      · have hb : (g == k) = true := beq_iff_eq.mpr h
        simp only [List.lookup, hb, if_neg (fun e : g = f => hk (h.symm.trans e))]
      · have hb : (g == k) = false := beq_eq_false_iff_ne.mpr h
        simp only [List.lookup, hb]
        exact ih
theorem keys_putF (f : Str) (v : V) : ∀ fs : List (Str × V), f ∈ (putF f v fs).map (·.1) ∧ ∀ g, g ∈ fs.map (·.1) → g ∈ (putF f v fs).map (·.1)
  | [] => ⟨by simp [putF], fun g h => by simp at h⟩
  | (k, x) :: r => by
    obtain ⟨i1, i2⟩ := keys_putF f v r
    rw [show putF f v ((k, x) :: r) = (if k = f then (k, v) :: r else (k, x) :: putF f v r) from rfl]
    by_cases hk : k = f
    · rw [if_pos hk]
      subst hk
      exact ⟨by simp, fun g h => by simpa using h⟩
    · rw [if_neg hk]
      refine ⟨?_, fun g h => ?_⟩
      · rw [List.map_cons]
        exact List.mem_cons_of_mem _ i1
      · rw [List.map_cons] at h ⊢
        rcases List.mem_cons.mp h with e | e
        · exact List.mem_cons.mpr (.inl e)
        · exact List.mem_cons_of_mem _ (i2 g e)
theorem length_putF (f : Str) (v : V) : ∀ fs : List (Str × V), (putF f v fs).length ≤ fs.length + 1
  | [] => by simp [putF]
  | (k, x) :: r => by
    have ih := length_putF f v r
    rw [show putF f v ((k, x) :: r) = (if k = f then (k, v) :: r else (k, x) :: putF f v r) from rfl]
    by_cases hk : k = f
    · rw [if_pos hk, List.length_cons, List.length_cons]; omega
    · rw [if_neg hk, List.length_cons, List.length_cons]; omega
theorem RelO.some_of {v : V} {o : Option Value} (r : RelO (some v) o) : ∃ u, o = some u ∧ RelV v u := by
  cases o with
  | none => exact (show False from r).elim
  | some u => exact ⟨u, rfl, r⟩
theorem RelO.none_of {o : Option Value} (r : RelO none o) : o = none := by
  cases o with
  | none => rfl
  | some u => exact (show False from r).elim
theorem handed_of {v : V} {u : Value} (r : RelV v u) : PySem.W.handedIn u = true := by
  cases v with
  | non => cases (show u = Value.none from r); rfl
  | bl b => cases (show u = Value.bool b from r); rfl
  | int i => obtain ⟨t, e⟩ := (show ∃ t, u = Value.int i t from r); cases e; rfl
  | str x => obtain ⟨t, e⟩ := (show ∃ t, u = Value.str x t from r); cases e; rfl
  | byt b => obtain ⟨t, e⟩ := (show ∃ t, u = Value.bytes b t from r); cases e; rfl
  | flt b => obtain ⟨t, e⟩ := (show ∃ t, u = Value.float b t from r); cases e; rfl
  | ref a => cases (show u = Value.ref a from r); rfl
  | ty n => cases (show u = Value.type n from r); rfl
section
variable {P : Program} {w : World} {H H' : Hp} {h h' : Heap} {a C dx : Addr} {fs fs' : List (Str × V)}
theorem ins_get (hok : HOk P w H h) (e : H a = some (.ins C dx fs)) : ∃ mA, ObjM h a dx C mA ∧ (∀ f, RelO (fs.lookup f) (mA f)) ∧ PySem.Within mA (fs.map (·.1)) ∧ fs.length ≤ 1000 ∧ H dx = some (.own a) := by
  obtain ⟨d, z, ne, ob, mA, n, r, q⟩ := (show ObjOk P w H h a (.ins C dx fs) from hok a _ e)
  exact ⟨mA, ⟨ob, n, ne⟩, r, q, z, d⟩
end
structure Cls (K : W.Frag) (C : Addr) : Prop where
  pg : PySem.W.plainGet K C Str.empty = true
  hd : PySem.W.hasDictIn K C = true
  po : PySem.W.plainOver K C = true
  sa : PySem.W.findIn K (.ref C) "__setattr__" = some (some (.builtin "object.__setattr__"))
theorem Cls.get {K : W.Frag} {C : Addr} (c : Cls K C) (f : Str) : PySem.W.plainGet K C f = true := c.pg
def NoAttr (K : W.Frag) (C : Addr) (f : Str) : Prop := PySem.W.findIn K (.ref C) f = some none
theorem NoAttr.taker {K : W.Frag} {C : Addr} {f : Str} (n : NoAttr K C f) : PySem.W.takerIn K C f = some none := by
  unfold PySem.W.takerIn
  rw [show PySem.W.findIn K (.ref C) f = some none from n]
  rfl
structure Meth (K : W.Frag) (C : Addr) (m : Str) (f : Addr) : Prop where
  at_ : PySem.W.findIn K (.ref C) m = some (some (.ref f))
  fn : PySem.W.isFn K (.ref f) = true
  kp : PySem.W.keepIn K (.ref f) = true
section
variable {X : Cx} {pins : List (Addr × Obj)} {σ : St} {H : Hp} {s : Shared} {a C dx : Addr} {fs : List (Str × V)} {f : Str} {v : V} {A : Around} {E : Value → Shared → Prop}
theorem getattr_ok {b : Bool} {Q : Value → Shared → Prop} (I : Inv X pins σ H s) (e : H a = some (.ins C dx fs)) (c : Cls X.K C) (n : NoAttr X.K C f) (l : fs.lookup f = some v)
    (h : ∀ u s', Inv X pins σ H s' → RelV v u → Q u s') : wpAny (model X.prog X.w) A (getAttr (.ref a) f b) Q E s := by
  obtain ⟨mA, O, r, _, _, _⟩ := ins_get I.hok e
  obtain ⟨u, hu, ru⟩ := RelO.some_of (v := v) (o := mA f) (by rw [← l]; exact r f)
  exact get_map I.kIn O (c.get f) c.hd n hu (handed_of ru) (h u _ (I.tok _) ru)
theorem getmeth_ok {m : Str} {g : Addr} {pl : Sem Bool} {Q : Value × List Value → Shared → Prop} (I : Inv X pins σ H s) (e : H a = some (.ins C dx fs)) (c : Cls X.K C) (k : Meth X.K C m g) (l : fs.lookup m = none)
    (h : Q (.ref g, [.ref a]) s) : wpAny (model X.prog X.w) A (getMethod (.ref a) m pl) Q E s := by
  obtain ⟨mA, O, r, _, _, _⟩ := ins_get I.hok e
  have hn : mA m = none := RelO.none_of (by rw [← l]; exact r m)
  exact get_meth I.kIn O (c.get m) k.at_ k.fn hn h
theorem setattr_ok {y : V} {u : Value} {Q : Unit → Shared → Prop} (I : Inv X pins σ H s) (e : H a = some (.ins C dx fs)) (c : Cls X.K C) (n : NoAttr X.K C f) (hl : fs.length < 1000) (ry : RelV y u)
    (h : ∀ s', Inv X pins σ (upd H a (.ins C dx (putF f y fs))) s' → Q () s') : wpAny (model X.prog X.w) A (setAttr (.ref a) f u) Q E s := by
  obtain ⟨mA, O, r, wi, _, ho⟩ := ins_get I.hok e
  have hz : (fs.map (·.1)).length ≤ sizeLine := by rw [List.length_map, sizeLine_eq]; omega
  refine set_map I.kIn O c.sa c.po n.taker c.hd wi hz fun h' O' sb => h _ ?_
  have hd : ∃ o, h'.get? dx = some o := let ⟨o, _, _, e', _⟩ := O'.ns; ⟨o, e'⟩
  refine I.write (x := a) (e := dx) (by rw [e]; exact True.intro) (.inr ho) (fun b q hb z => (sb.2 b hb).trans z) hd ?_
  refine ⟨by rw [upd_ne O.ne]; exact ho, ?_, O.ne, O'.obj, _, O'.ns, fun g => ?_, fun g hg => ?_⟩
  · have := length_putF f y fs; omega
  · show RelO ((putF f y fs).lookup g) (if g = f then some u else mA g)
    rw [lookup_putF]
    by_cases q : g = f
    · rw [if_pos q, if_pos q]; exact ry
    · rw [if_neg q, if_neg q]; exact r g
  · by_cases q : g = f
    · rw [q]; exact (keys_putF f y fs).1
    · refine (keys_putF f y fs).2 g (wi g fun z => hg ?_)
      show (if g = f then some u else mA g) = none
      rw [if_neg q]; exact z
theorem Inv.made (I : Inv X pins σ H s) : Inv X pins σ (upd (upd H s.heap.objs.size (.own (s.heap.objs.size + 1))) (s.heap.objs.size + 1) (.ins C s.heap.objs.size []))
    { s with heap := (s.heap.push PySem.W.emptyDict).push (PySem.W.instObj C s.heap.objs.size) } := by
  have e1 : (s.heap.push PySem.W.emptyDict).get? s.heap.objs.size = some PySem.W.emptyDict := Heap.get?_push_size s.heap rfl
  have e2 : ((s.heap.push PySem.W.emptyDict).push (PySem.W.instObj C s.heap.objs.size)).get? (s.heap.objs.size + 1) = some (PySem.W.instObj C s.heap.objs.size) := by
    have := Heap.get?_push_size (s.heap.push PySem.W.emptyDict) (o := PySem.W.instObj C s.heap.objs.size) rfl
    rwa [Heap.size_push] at this
  have e3 : (s.heap.push PySem.W.emptyDict).Ns s.heap.objs.size (fun _ => none) := ⟨PySem.W.emptyDict, #[], _, e1, rfl, (fun e he => absurd he (by simp)), fun _ => rfl⟩
  have I1 := I.laid (a := s.heap.objs.size) (o := .own (s.heap.objs.size + 1)) (h' := s.heap.push PySem.W.emptyDict) (t' := s.toks) (fun b u q => Heap.get?_push_of_some _ q) (Nat.le_refl _) ⟨_, e1⟩
  refine I1.laid (a := s.heap.objs.size + 1) (o := .ins C s.heap.objs.size []) (t' := s.toks) (fun b u q => Heap.get?_push_of_some _ q) (Nat.le_of_eq (Heap.size_push _ _)) ?_
  have ne : s.heap.objs.size ≠ s.heap.objs.size + 1 := Nat.ne_of_lt (Nat.lt_succ_self _)
  refine ⟨by rw [upd_ne ne, upd_same], Nat.zero_le _, ne, e2, fun _ => none, (Heap.Ns1.of_empty e3).at fun o q => Heap.get?_push_of_some _ q, fun _ => True.intro, fun y hy => absurd rfl hy⟩
theorem attr_of {prog : Program} {w : World} {env : Env} {e : Expr} {f : Str} {pos : Pos} {s : Shared} {Q : Value → Shared → Prop} (hb : attributeBase e f env (eval e env) = eval e env)
    (h : wpAny (model prog w) A (eval e env) (fun o s₁ => wpAny (model prog w) A (getAttr o f true) Q E s₁) E s) : wpAny (model prog w) A (eval (.Attribute e f pos) env) Q E s :=
  Attribute_any_ h (by rw [arm_eval_Attribute, hb])
end
def tFld (K : W.Frag) (ta : TE) (f : Str) : TE := fun σ H Q => ta σ H fun x H1 => ∃ a C dx fs v, x = .ref a ∧ H1 a = some (.ins C dx fs) ∧ Cls K C ∧ NoAttr K C f ∧ fs.lookup f = some v ∧ Q v H1
def sFld (K : W.Frag) (ta tv : TE) (f : Str) : TS := fun D σ H => tv σ H fun y H1 => ta σ H1 fun x H2 => ∃ a C dx fs, x = .ref a ∧ H2 a = some (.ins C dx fs) ∧ Cls K C ∧ NoAttr K C f ∧ fs.length < 1000 ∧
  D.nx σ (upd H2 a (.ins C dx (putF f y fs)))
def InOp (X : Cx) (op : Operator) (rd : V → V → Hp → VK → Prop) : Prop :=
  ∀ (pins : List (Addr × Obj)) (s : Shared) (σ : St) (H : Hp) (x y : V) (u v : Value) (Q : VK), Inv X pins σ H s → RelV x u → RelV y v → rd x y H Q → wpAny (model X.prog X.w) X.A (inplaceOp op u v) (EP X pins σ Q) X.xe s
def sFldAug (K : W.Frag) (ta tv : TE) (rd : V → V → Hp → VK → Prop) (f : Str) : TS := fun D σ H => ta σ H fun x H1 => ∃ a C dx fs v, x = .ref a ∧ H1 a = some (.ins C dx fs) ∧ Cls K C ∧ NoAttr K C f ∧ fs.lookup f = some v ∧
  tv σ H1 fun y H2 => rd v y H2 fun z H3 => ∃ dx' fs', H3 a = some (.ins C dx' fs') ∧ fs'.length < 1000 ∧ D.nx σ (upd H3 a (.ins C dx' (putF f z fs')))
section
variable {X : Cx} {o e value : Expr} {f : Str} {pos pos' tpos : Pos} {ta tv : TE}
theorem pe_fld (he : PE X e ta) (hb : attributeBase e f X.env (eval e X.env) = eval e X.env) : PE X (.Attribute e f pos) (tFld X.K ta f) := by
  intro pins s σ H Q I h
  refine attr_of hb (thn (he pins s σ H _ I h) fun u s1 ⟨x, H1, I1, rx, a, C, dx, fs, v, ex, ea, c, n, l, q⟩ => ?_)
  subst ex
  obtain rfl : u = Value.ref a := rx
  exact getattr_ok I1 ea c n l fun u' s2 I2 ru => ⟨v, H1, I2, ru, q⟩
theorem ps_fld (ha : PE X o ta) (hv : PE X value tv) (hs : swapsWith value (some (.Attribute o f pos')) pos.line X.env = pure false) : PS X (.Assign [.Attribute o f pos'] value pos) (sFld X.K ta tv f) := by
  intro pins s σ H D I h
  refine plainObj_wpAny_Assign_Attribute (thn (hv pins s σ H _ I h) fun u s1 ⟨y, H1, I1, ry, q⟩ => thn (ha pins s1 σ H1 _ I1 q) fun ov s2 ⟨x, H2, I2, rx, a, C, dx, fs, ex, ea, c, n, l, q2⟩ => ?_) hs
  subst ex
  obtain rfl : ov = Value.ref a := rx
  exact setattr_ok I2 ea c n l ry fun s3 I3 => ⟨σ, _, I3, q2⟩
theorem ps_fldaug {op : Operator} {rd : V → V → Hp → VK → Prop} (ha : PE X o ta) (hv : PE X value tv) (hop : InOp X op rd) : PS X (.AugAssign (.Attribute o f tpos) op value pos) (sFldAug X.K ta tv rd f) := by
  intro pins s σ H D I h
  refine wpAny_AugAssign_AttributeAny (thn (ha pins s σ H _ I h) fun ov s1 ⟨x, H1, I1, rx, a, C, dx, fs, v, ex, ea, c, n, l, q⟩ => ?_)
  subst ex
  obtain rfl : ov = Value.ref a := rx
  refine getattr_ok I1 ea c n l fun u s2 I2 ru => thn (hv pins s2 σ H1 _ I2 q) fun w3 s3 ⟨y, H2, I3, ry, q3⟩ => thn (hop pins s3 σ H2 v y u w3 _ I3 ru ry q3) fun w4 s4 ⟨z, H3, I4, rz, dx', fs', ea', l', q4⟩ => ?_
  exact setattr_ok I4 ea' c n l' rz fun s5 I5 => ⟨σ, _, I5, q4⟩
def rAdd : V → V → Hp → VK → Prop := fun x y H Q => ∃ i j, x = .int i ∧ y = .int j ∧ Q (.int (i + j)) H
theorem in_add : InOp X .Add rAdd := by
  rintro pins s σ H x y u v Q I rx ry ⟨i, j, rfl, rfl, q⟩
  obtain ⟨t, rfl⟩ := (show ∃ t, u = Value.int i t from rx)
  obtain ⟨t', rfl⟩ := (show ∃ t', v = Value.int j t' from ry)
  exact PyProof.Rows.iadd_int ⟨.int (i + j), H, I.tok _, ⟨_, rfl⟩, q⟩
end
end L2
namespace L2
open PySem PySem.Spec PyProof.Rows
structure Room (k : Nat) (A : Around) : Prop where
  hd : A.handled = none
  dp : A.depth + 3 * k + 5 < recursionLimit
  un : A.units + 16 * k + 200 < cLine
theorem Room.mono {j k : Nat} {A : Around} (r : Room k A) (h : j ≤ k) : Room j A := ⟨r.hd, by have := r.dp; omega, by have := r.un; omega⟩
theorem Room.deeper {k : Nat} {A : Around} (r : Room (k + 1) A) (env : Env) : Room k (A.deeper env) :=
  ⟨r.hd, by have := r.dp; show A.depth + 1 + 3 * k + 5 < _; omega, by have := r.un; show A.units + 3 + 16 * k + 200 < _; omega⟩
theorem make_depth {A : Around} {C : Addr} {us : List Value} {kw : List (Str × Value)} : (A.under (.builtin "type.__call__" ⟨.ref C :: us, kw⟩)).depth = A.depth + 1 := by
  first | rfl | simp [Around.under, Code.weight, Code.isCreation, Code.isGuard, Code.isCaller, Code.frames, Code.isFrame, guardIds]
theorem make_units {A : Around} {C : Addr} {us : List Value} {kw : List (Str × Value)} : (A.under (.builtin "type.__call__" ⟨.ref C :: us, kw⟩)).units = A.units + 1 := by
  first | rfl | simp [Around.under, Code.cUnits, Code.frames, Code.isFrame]
theorem Room.make {k : Nat} {A : Around} (r : Room (k + 1) A) (C : Addr) (us : List Value) (kw : List (Str × Value)) : Room k (A.under (.builtin "type.__call__" ⟨.ref C :: us, kw⟩)) :=
  ⟨r.hd, by have := r.dp; rw [make_depth]; omega, by have := r.un; rw [make_units]; omega⟩
theorem Room.depth {k : Nat} {A : Around} (r : Room k A) : A.depth < recursionLimit := by have := r.dp; omega
theorem Room.units {k : Nat} {A : Around} (r : Room k A) : A.units + 64 < cLine := by have := r.un; omega
def tNil : TA := fun _ H Q => Q [] H
def tCons (ta : TE) (tr : TA) : TA := fun σ H Q => ta σ H fun x H1 => tr σ H1 fun xs H2 => Q (x :: xs) H2
section
variable {X : Cx} {e : Expr} {es : List Expr} {te : TE} {t : TA} {pos : Pos}
theorem pa_nil : PA X [] tNil := fun _ _ _ _ H Q I h => Calls.spliced_nil ⟨[], H, I, .nil, h⟩
theorem pa_cons (ha : PE X e te) (hr : PA X es t) (hs : starEach (e :: es) X.env = (false, eval e X.env) :: starEach es X.env := by rfl) : PA X (e :: es) (tCons te t) := by
  intro pos pins s σ H Q I h
  rw [hs]
  show wpAny _ _ (spliced ((false, eval e X.env) :: backTo pos (starEach es X.env))) _ _ s
  refine Calls.spliced_cons (thn (ha pins s σ H _ I h) fun u s1 ⟨x, H1, I1, r1, q1⟩ => ?_)
  exact thn (hr pos pins s1 σ H1 _ I1 q1) fun us s2 ⟨xs, H2, I2, r2, q2⟩ => ⟨x :: xs, H2, I2, .cons r1 r2, q2⟩
def tTup (t : TA) : TE := fun σ H Q => t σ H fun xs H1 => xs.length ≤ sizeLine ∧ ∀ p, H1 p = none → Q (.ref p) (upd H1 p (.tup xs))
def tLst (t : TA) : TE := fun σ H Q => t σ H fun xs H1 => xs.length ≤ sizeLine ∧ ∀ p, H1 p = none → Q (.ref p) (upd H1 p (.lst xs))
theorem pe_tup {x1} (h : PA X es t) : PE X (.Tuple es x1 pos) (tTup t) := by
  intro pins s σ H Q I hq
  refine wpAny_Tuple_spliced (thn (h pos pins s σ H _ I hq) fun us s1 ⟨xs, H1, I1, r, z, q⟩ => ⟨by rw [← r.length]; exact z, ?_⟩)
  have hf : H1 s1.heap.objs.size = none := I1.hok.fresh (Nat.le_refl _)
  refine ⟨.ref s1.heap.objs.size, upd H1 s1.heap.objs.size (.tup xs), I1.laid (t' := s1.toks) (fun b u e => Heap.get?_push_of_some _ e) (Nat.le_refl _) ?_, rfl, q _ hf⟩
  exact ⟨z, us, r, ⟨_, Heap.get?_push_size _ rfl, rfl, _, rfl⟩⟩
theorem pe_lst (h : PA X es t) : PE X (.List es pos) (tLst t) := by
  intro pins s σ H Q I hq
  refine wpAny_List_spliced (thn (h pos pins s σ H _ I hq) fun us s1 ⟨xs, H1, I1, r, z, q⟩ => ⟨by rw [← r.length]; exact z, ?_⟩)
  have hf : H1 s1.heap.objs.size = none := I1.hok.fresh (Nat.le_refl _)
  refine ⟨.ref s1.heap.objs.size, upd H1 s1.heap.objs.size (.lst xs), I1.laid (t' := s1.toks) (fun b u e => Heap.get?_push_of_some _ e) (Nat.le_refl _) ?_, rfl, q _ hf⟩
  exact ⟨z, us, 0, r, Heap.get?_push_size _ rfl⟩
end
abbrev Sp := List V → Hp → VK → XK → Prop
abbrev CXT := List Env → Hp → Shared → XK → Value → Shared → Prop
structure Env0 (P : Program) (w : World) (K : W.Frag) (mg : Str → Option Value) (base : Heap) (A : Around) (outer : List Env) (s : Shared) (H : Hp) : Prop where
  frames : A.frames = some outer
  mod : Mod K mg base
  bs : ∀ b o, base.get? b = some o → s.heap.get? b = some o ∧ H b = none
  bsz : base.objs.size ≤ s.heap.objs.size
  funs : s.heap.FunFrames base outer
  frf : ∀ b ∈ frs outer, H b = none
  hok : HOk P w H s.heap
  bare : AllBare s.gens
def CE (outer : List Env) (P : Program) (w : World) (H : Hp) (s : Shared) (Q : VK) (u : Value) (s' : Shared) : Prop :=
  ∃ v H', s'.os = s.os ∧ AllBare s'.gens ∧ Un (frs outer) [] H H' s.heap s'.heap ∧ HOk P w H' s'.heap ∧ RelV v u ∧ Q v H'
def CR (CX : CXT) (outer : List Env) (P : Program) (w : World) (H : Hp) (s : Shared) (Q : VK) (E : XK) (r : Result) (s' : Shared) : Prop :=
  match r with
  | .ok (.ret u) => CE outer P w H s Q u s'
  | .ok _ => False
  | .error e => CX outer H s E e s'
structure FnOk (P : Program) (w : World) (K : W.Frag) (mg : Str → Option Value) (base : Heap) (CX : CXT) (k : Nat) (f : Addr) (fd : FuncData) (ps : List Str) (sp : Sp) : Prop where
  len : ∀ vs H Q E, sp vs H Q E → vs.length = ps.length
  run : ∀ (A : Around) (outer : List Env) (s : Shared) (H : Hp) (args : Args) (us : List Value) (vs : List V) (Q : VK) (E : XK), Room k A → Env0 P w K mg base A outer s H → BindsTo s fd args (ps.zip us) → Vals vs us → sp vs H Q E →
    codeAny (model P w) A (.call (.ref f) args) (CR CX outer P w H s Q E) s
theorem Env0.make {P : Program} {w : World} {K : W.Frag} {mg : Str → Option Value} {base : Heap} {A : Around} {outer : List Env} {s : Shared} {H : Hp} (e : Env0 P w K mg base A outer s H) (C : Addr) (us : List Value) (kw : List (Str × Value)) :
    Env0 P w K mg base (A.under (.builtin "type.__call__" ⟨.ref C :: us, kw⟩)) outer s H := ⟨by first | exact e.frames | (simpa [Around.under, Code.envs, Code.isFrame, pushEnvs] using e.frames), e.mod, e.bs, e.bsz, e.funs, e.frf, e.hok, e.bare⟩
section
variable {X : Cx} {pins : List (Addr × Obj)} {σ : St} {H : Hp} {s s' : Shared}
theorem Inv.env0 (I : Inv X pins σ H s) : Env0 X.prog X.w X.K X.mg X.base X.A X.stack s H :=
  ⟨I.ok.frames, I.ok.mod, I.bs, Nat.le_trans I.ok.bsz I.sz, I.stack, I.stkFree, I.hok, I.bare⟩
theorem Inv.after {Q : VK} {u : Value} (I : Inv X pins σ H s) (h : CE X.stack X.prog X.w H s Q u s') : EP X pins σ Q u s' := by
  obtain ⟨v, H', os, bare, un, hok, r, q⟩ := h
  obtain ⟨hh, g, d, t, os'⟩ := s'
  obtain rfl : os' = s.os := os
  exact ⟨v, H', I.call (h' := hh) (g' := g) (d' := d) (t' := t) (ch := []) un hok bare (fun b z => absurd z (by simp)), r, q⟩
end
def tCall (sp : Sp) (dvs : List V) (E : XK) (t : TA) : TE := fun σ H Q => t σ H fun vs H1 => sp (vs ++ dvs) H1 Q E
def tMeth (C : Addr) (m : Str) (sp : Sp) (dvs : List V) (E : XK) (ta : TE) (t : TA) : TE := fun σ H Q => ta σ H fun x H1 => ∃ a dx fs, x = .ref a ∧ H1 a = some (.ins C dx fs) ∧ fs.lookup m = none ∧
  t σ H1 fun vs H2 => sp (x :: (vs ++ dvs)) H2 Q E
def tMake (C : Addr) (sp : Sp) (dvs : List V) (E : XK) (t : TA) : TE := fun σ H Q => t σ H fun vs H1 => ∀ x dx, H1 x = none → H1 dx = none → dx ≠ x →
  sp (.ref x :: (vs ++ dvs)) (upd (upd H1 dx (.own x)) x (.ins C dx [])) (fun v H2 => v = .non ∧ Q (.ref x) H2) E
def Binds (K : W.Frag) (fd : FuncData) (ps : List Str) (ds : List Value) : Prop :=
  ∀ (s : Shared) (us : List Value), K.In s.heap → (us ++ ds).length = ps.length → BindsTo s fd ⟨us, []⟩ (ps.zip (us ++ ds))
theorem Binds.all {K : W.Frag} {fd : FuncData} {ps : List Str} (h : ∀ us : List Value, us.length = ps.length → bindArgs fd ⟨us, []⟩ = pure (ps.zip us)) : Binds K fd ps [] := fun s us _ hl => by
  rw [List.append_nil] at hl ⊢
  exact .of_eq (h us hl)
def Passes (CX : CXT) (X : Cx) (E : XK) : Prop := ∀ (pins : List (Addr × Obj)) (σ : St) (H : Hp) (s : Shared) (e : Value) (s' : Shared), Inv X pins σ H s → CX X.stack H s E e s' → X.xe e s'
section
variable {X : Cx} {CX : CXT} {k : Nat} {f C : Addr} {fd : FuncData} {ps : List Str} {sp : Sp} {dvs : List V} {ds : List Value} {E : XK} {x m : Str} {p pos apos : Pos} {e o : Expr} {es : List Expr} {ta : TE} {t : TA}
theorem run_fn {pins : List (Addr × Obj)} {σ : St} {H : Hp} {s : Shared} {Q : VK} {us : List Value} {vs : List V} (F : FnOk X.prog X.w X.K X.mg X.base CX k f fd ps sp) (hr : Room k X.A) (hb : Binds X.K fd ps ds) (hd : Vals dvs ds) (hx : Passes CX X E)
    (I : Inv X pins σ H s) (r : Vals vs us) (h : sp (vs ++ dvs) H Q E) : wpAny (model X.prog X.w) X.A (call (.ref f) us) (EP X pins σ Q) X.xe s := by
  have r2 : Vals (vs ++ dvs) (us ++ ds) := r.append hd
  have hl : (us ++ ds).length = ps.length := by rw [← r2.length]; exact F.len _ _ _ _ h
  refine wpAny_call (codeAny_mono (F.run X.A X.stack s H ⟨us, []⟩ (us ++ ds) (vs ++ dvs) Q E hr I.env0 (hb s us I.kIn hl) r2 h) fun r s' hq => ?_)
  cases r with
  | error e => exact hx pins σ H s e s' I hq
  | ok fl =>
    cases fl with
    | ret u => exact I.after hq
    | next => exact False.elim hq
    | brk => exact False.elim hq
    | cont => exact False.elim hq
theorem pe_call (F : FnOk X.prog X.w X.K X.mg X.base CX k f fd ps sp) (hr : Room k X.A) (hg : Gl X x) (hm : X.mg x = some (.ref f)) (hk : PySem.W.keepIn X.K (.ref f) = true) (hb : Binds X.K fd ps ds) (hd : Vals dvs ds) (hx : Passes CX X E)
    (ha : PA X (e :: es) t) (hdb : (x == ("__debug__" : Str)) = false := by decide) (he : starEach (e :: es) X.env = (false, eval e X.env) :: starEach es X.env := by rfl) (hpl : (backTo pos (starEach es X.env)).any (·.1) = false := by rfl) :
    PE X (.Call (.Name x p) (e :: es) [] pos) (tCall sp dvs E t) := by
  intro pins s σ H Q I h
  refine wpAny_Call_Name_kw (ld_glob I hg hm ?_ hdb)
  refine PySem.W.callWith_K (h₀ := X.base) I.ok.mod.kin hk (thn (ha pos pins s σ H _ I h) fun us s1 ⟨vs, H1, I1, r, q⟩ => ⟨I1.kIn, ?_⟩) he hpl
  exact run_fn F hr hb hd hx I1 r q
theorem pe_meth {pl : Sem Bool} (he : PE X o ta) (c : Cls X.K C) (hm : Meth X.K C m f) (F : FnOk X.prog X.w X.K X.mg X.base CX k f fd ps sp) (hr : Room k X.A) (hb : Binds X.K fd ps ds) (hd : Vals dvs ds) (hx : Passes CX X E) (ha : PA X (e :: es) t)
    (hst : starEach (e :: es) X.env = (false, eval e X.env) :: starEach es X.env := by rfl) (hpl : (backTo pos (starEach es X.env)).any (·.1) = false := by rfl)
    (ht : eval (.Call (.Attribute o m apos) (e :: es) [] pos) X.env = (do
      let ov ← eval o X.env
      standAt apos.atName
      let (f, first) ← holding [ov] (getMethod ov m pl)
      callWith pos f first (backTo pos (starEach (e :: es) X.env)) (backToKw pos (keywordEach [] X.env))) := by rfl) :
    PE X (.Call (.Attribute o m apos) (e :: es) [] pos) (tMeth C m sp dvs E ta t) := by
  intro pins s σ H Q I h
  refine PySem.W.methodCall_KW (pl := pl) (thn (he pins s σ H _ I h) fun u s1 ⟨x, H1, I1, rx, a, dx, fs, ex, ea, l, q⟩ => ?_) ht
  subst ex
  obtain rfl : u = Value.ref a := rx
  refine getmeth_ok I1 ea c hm l ?_
  refine PySem.W.callWith_K (first := [.ref a]) (h₀ := X.base) I.ok.mod.kin hm.kp (thn (ha pos pins s1 σ H1 _ I1 q) fun us s2 ⟨vs, H2, I2, r, q2⟩ => ⟨I2.kIn, ?_⟩) hst hpl
  exact run_fn (us := .ref a :: us) (vs := .ref a :: vs) F hr hb hd hx I2 (.cons rfl r) q2
theorem pe_meth0 {pl : Sem Bool} (he : PE X o ta) (c : Cls X.K C) (hm : Meth X.K C m f) (F : FnOk X.prog X.w X.K X.mg X.base CX k f fd ps sp) (hr : Room k X.A) (hb : Binds X.K fd ps ds) (hd : Vals dvs ds) (hx : Passes CX X E)
    (ht : eval (.Call (.Attribute o m apos) [] [] pos) X.env = (do
      let ov ← eval o X.env
      standAt apos.atName
      let (f, first) ← holding [ov] (getMethod ov m pl)
      callWith pos f first (backTo pos (starEach [] X.env)) (backToKw pos (keywordEach [] X.env))) := by rfl) :
    PE X (.Call (.Attribute o m apos) [] [] pos) (tMeth C m sp dvs E ta tNil) := by
  intro pins s σ H Q I h
  refine PySem.W.methodCall_KW (pl := pl) (thn (he pins s σ H _ I h) fun u s1 ⟨x, H1, I1, rx, a, dx, fs, ex, ea, l, q⟩ => ?_) ht
  subst ex
  obtain rfl : u = Value.ref a := rx
  refine getmeth_ok I1 ea c hm l ?_
  exact PySem.W.callWith_K0 (first := [.ref a]) I1.kIn hm.kp (run_fn (us := [.ref a]) (vs := [.ref a]) F hr hb hd hx I1 (.cons rfl .nil) q)
structure Mk (K : W.Frag) (C f : Addr) : Prop where
  makes : PySem.W.makesIn K C = true
  init : PySem.W.findIn K (.ref C) "__init__" = some (some (.ref f))
  fn : PySem.W.isFn K (.ref f) = true
  kp : PySem.W.keepIn K (.ref C) = true
theorem run_make {pins : List (Addr × Obj)} {σ : St} {H : Hp} {s : Shared} {Q : VK} {us : List Value} {vs : List V} (M : Mk X.K C f) (F : FnOk X.prog X.w X.K X.mg X.base CX k f fd ps sp) (hr : Room (k + 1) X.A) (hb : Binds X.K fd ps ds) (hd : Vals dvs ds)
    (hx : Passes CX X E) (I : Inv X pins σ H s) (r : Vals vs us)
    (h : ∀ x dx, H x = none → H dx = none → dx ≠ x → sp (.ref x :: (vs ++ dvs)) (upd (upd H dx (.own x)) x (.ins C dx [])) (fun v H2 => v = .non ∧ Q (.ref x) H2) E) :
    wpAny (model X.prog X.w) X.A (call (.ref C) us) (EP X pins σ Q) X.xe s := by
  have hq := h (s.heap.objs.size + 1) s.heap.objs.size (I.hok.fresh (Nat.le_succ _)) (I.hok.fresh (Nat.le_refl _)) (Nat.ne_of_lt (Nat.lt_succ_self _))
  have I2 := Inv.made (C := C) I
  have r2 : Vals (V.ref (s.heap.objs.size + 1) :: (vs ++ dvs)) (Value.ref (s.heap.objs.size + 1) :: (us ++ ds)) := .cons rfl (r.append hd)
  have hl : (Value.ref (s.heap.objs.size + 1) :: us ++ ds).length = ps.length := by
    have e := r2.length
    rw [F.len _ _ _ _ hq] at e
    exact e.symm
  refine wpAny_call (make_map (f := f) I.kIn M.makes M.init (beq_iff_eq.mp M.fn) (codeAny_mono (F.run _ X.stack _ _ ⟨Value.ref (s.heap.objs.size + 1) :: us, []⟩ (Value.ref (s.heap.objs.size + 1) :: (us ++ ds)) _ _ E (hr.make C us [])
    (I2.env0.make C us []) (hb _ (Value.ref (s.heap.objs.size + 1) :: us) I2.kIn hl) r2 hq) fun r s' hq' => ?_))
  cases r with
  | error e => exact hx pins σ _ _ e s' I2 hq'
  | ok fl =>
    cases fl with
    | ret u =>
      obtain ⟨v, H', I3, rv, ev, q3⟩ := I2.after hq'
      subst ev
      exact ⟨rv, ⟨V.ref (s.heap.objs.size + 1), H', I3, rfl, q3⟩⟩
    | next => exact False.elim hq'
    | brk => exact False.elim hq'
    | cont => exact False.elim hq'
theorem pe_make (M : Mk X.K C f) (F : FnOk X.prog X.w X.K X.mg X.base CX k f fd ps sp) (hr : Room (k + 1) X.A) (hg : Gl X x) (hm : X.mg x = some (.ref C)) (hb : Binds X.K fd ps ds) (hd : Vals dvs ds) (hx : Passes CX X E)
    (ha : PA X (e :: es) t) (hdb : (x == ("__debug__" : Str)) = false := by decide) (he : starEach (e :: es) X.env = (false, eval e X.env) :: starEach es X.env := by rfl) (hpl : (backTo pos (starEach es X.env)).any (·.1) = false := by rfl) :
    PE X (.Call (.Name x p) (e :: es) [] pos) (tMake C sp dvs E t) := by
  intro pins s σ H Q I h
  refine wpAny_Call_Name_kw (ld_glob I hg hm ?_ hdb)
  refine PySem.W.callWith_K (h₀ := X.base) I.ok.mod.kin M.kp (thn (ha pos pins s σ H _ I h) fun us s1 ⟨vs, H1, I1, r, q⟩ => ⟨I1.kIn, ?_⟩) he hpl
  exact run_make M F hr hb hd hx I1 r q
theorem pe_make0 (M : Mk X.K C f) (F : FnOk X.prog X.w X.K X.mg X.base CX k f fd ps sp) (hr : Room (k + 1) X.A) (hg : Gl X x) (hm : X.mg x = some (.ref C)) (hb : Binds X.K fd ps ds) (hd : Vals dvs ds) (hx : Passes CX X E)
    (hdb : (x == ("__debug__" : Str)) = false := by decide) : PE X (.Call (.Name x p) [] [] pos) (tMake C sp dvs E tNil) := by
  intro pins s σ H Q I h
  refine wpAny_Call_Name_kw (ld_glob I hg hm ?_ hdb)
  exact PySem.W.callWith_K0 I.kIn M.kp (run_make (us := []) M F hr hb hd hx I .nil h)
end
section
variable {X : Cx} {CX : CXT} {k : Nat} {f C : Addr} {fd : FuncData} {ps ks : List Str} {sp : Sp} {E : XK} {x m : Str} {p pos apos kpos : Pos} {e o : Expr} {es : List Expr} {kws : List Keyword} {te ta : TE} {t tk : TA} {nm : Option Str}
variable {g : List Value → List Value → List Value} {gV : List V → List V → List V}
end
structure FnScope (N P : List Str) (sc : Scope) : Prop where
  kind : sc.kind = .function
  co : sc.isCoroutine = false
  gen : sc.isGenerator = false
  nd : N.Nodup
  pre : N.take P.length = P
  par : ∀ x ∈ P, sc.names.lookup x = some .local ∨ sc.names.lookup x = some .cell
  nofree : ∀ y ∈ sc.names, y.2 ≠ .free
theorem bindL_out {kindOf : Str → Option NameKind} {x : Str} : ∀ {binds : List (Str × Value)} {m : Str → Option Value}, (∀ v, (x, v) ∉ binds) → bindL kindOf binds m x = m x
  | [], _, _ => rfl
  | (n, v) :: r, m, h => by
    unfold bindL
    rw [bindL_out fun w hw => h w (List.mem_cons_of_mem _ hw)]
    split
    · have : x ≠ n := by rintro rfl; exact h v List.mem_cons_self
      simp [this]
    · rfl
theorem bindC_out {kindOf : Str → Option NameKind} {x : Str} : ∀ {binds : List (Str × Value)} {m : Str → Option Value}, (∀ v, (x, v) ∉ binds) → bindC kindOf binds m x = m x
  | [], _, _ => rfl
  | (n, v) :: r, m, h => by
    unfold bindC
    rw [bindC_out fun w hw => h w (List.mem_cons_of_mem _ hw)]
    split
    · rfl
    · have : x ≠ n := by rintro rfl; exact h v List.mem_cons_self
      simp [this]
theorem bindL_get {kindOf : Str → Option NameKind} {x : Str} {v : Value} : ∀ {P : List Str} {vs : List Value} {i : Nat} {m : Str → Option Value}, P.Nodup → P[i]? = some x → vs[i]? = some v → kindOf x = some .local →
    bindL kindOf (P.zip vs) m x = some v
  | [], _, _, _, _, h, _, _ => by simp at h
  | _ :: _, [], _, _, _, _, h, _ => by simp at h
  | p :: P, w :: vs, 0, m, nd, h1, h2, hk => by
    simp at h1 h2; subst h1; subst h2
    show bindL kindOf ((p, w) :: P.zip vs) m p = _
    unfold bindL
    rw [bindL_out fun v hv => (List.nodup_cons.mp nd).1 (List.of_mem_zip hv).1, if_pos hk]
    simp
  | p :: P, w :: vs, i + 1, m, nd, h1, h2, hk => by
    show bindL kindOf ((p, w) :: P.zip vs) m x = _
    unfold bindL
    exact bindL_get (i := i) (List.nodup_cons.mp nd).2 (by simpa using h1) (by simpa using h2) hk
theorem bindC_get {kindOf : Str → Option NameKind} {x : Str} {v : Value} : ∀ {P : List Str} {vs : List Value} {i : Nat} {m : Str → Option Value}, P.Nodup → P[i]? = some x → vs[i]? = some v → kindOf x ≠ some .local →
    bindC kindOf (P.zip vs) m x = some v
  | [], _, _, _, _, h, _, _ => by simp at h
  | _ :: _, [], _, _, _, _, h, _ => by simp at h
  | p :: P, w :: vs, 0, m, nd, h1, h2, hk => by
    simp at h1 h2; subst h1; subst h2
    show bindC kindOf ((p, w) :: P.zip vs) m p = _
    unfold bindC
    rw [bindC_out fun v hv => (List.nodup_cons.mp nd).1 (List.of_mem_zip hv).1, if_neg hk]
    simp
  | p :: P, w :: vs, i + 1, m, nd, h1, h2, hk => by
    show bindC kindOf ((p, w) :: P.zip vs) m x = _
    unfold bindC
    exact bindC_get (i := i) (List.nodup_cons.mp nd).2 (by simpa using h1) (by simpa using h2) hk
def start (N : List Str) (vs : List V) : St := vs.map some ++ List.replicate (N.length - vs.length) none
def cxOf (CX : CXT) (P : Program) (w : World) (K : W.Frag) (mg : Str → Option Value) (base : Heap) (N : List Str) (qual : Str) (scope : Scope) (f : Addr) (cd : Value) (A : Around) (outer : List Env) (s : Shared) (H : Hp) (E : XK) : Cx where
  prog := P
  w := w
  K := K
  mg := mg
  base := base
  A := A.deeper (envOfC qual scope s.heap.objs.size f cd)
  N := N
  s_0 := s
  H_0 := H
  env := envOfC qual scope s.heap.objs.size f cd
  outer := outer
  stack := envOfC qual scope s.heap.objs.size f cd :: outer
  ex := []
  calm := true
  fn := fun _ => true
  pn := []
  xe := fun e s' => wpAny (model P w) (A.deeper (envOfC qual scope s.heap.objs.size f cd)) (leaving (envOfC qual scope s.heap.objs.size f cd) e) (fun _ s'' => CX outer H s E e s'') (fun e' s'' => CX outer H s E e' s'') s'
theorem cell_has {sc : Scope} {n : Nat} {x : Str} (h : sc.names.lookup x = some .cell) : ∃ c, (cellsFrom n sc.names []).lookup x = some c := by
  have q := PySem.W.cellsFrom_some sc.names n [] (.inl h)
  exact Option.isSome_iff_exists.mp q
theorem inv_start {CX : CXT} {P : Program} {w : World} {K : W.Frag} {mg : Str → Option Value} {base : Heap} {N ps : List Str} {qual : Str} {scope : Scope} {f : Addr} {cd : Value} {A : Around} {outer : List Env} {s s1 : Shared} {H : Hp} {E : XK} {us : List Value} {vs : List V}
    (S : FnScope N ps scope) (hd : A.handled = none) (e0 : Env0 P w K mg base A outer s H) (hl : vs.length = ps.length) (r : Vals vs us)
    (x : InCallC s s.heap.objs.size (bindL (envOfC qual scope s.heap.objs.size f cd).kindOf (ps.zip us) fun _ => none) (cellsFrom (s.heap.objs.size + 1) scope.names []) (bindC (envOfC qual scope s.heap.objs.size f cd).kindOf (ps.zip us) fun _ => none) s1) :
    Inv (cxOf CX P w K mg base N qual scope f cd A outer s H E) [] (start N vs) H s1 := by
  have hpl : ps.length ≤ N.length := by have := congrArg List.length S.pre; rw [List.length_take] at this; omega
  obtain ⟨h1, tk, rfl, hk⟩ := x.done
  have noA : ∀ b : Addr, b ∉ (cxOf CX P w K mg base N qual scope f cd A outer s H E).ex := fun b z => absurd (show b ∈ ([] : List Addr) from z) (by simp)
  refine ⟨⟨e0.mod, S.kind, rfl, rfl, Nat.le_refl _, fun y z c h1 h2 => ?_, fun y hy => ?_, fun y c _ h => ?_, fun _ => hd, Around.frames_deeper e0.frames, .inr ⟨rfl, rfl⟩, fun b z => absurd z (noA b), e0.bs, e0.bsz, fun b _ _ => noA b, fun b z => absurd z (noA b), e0.funs, e0.frf⟩,
    rfl, e0.bare, Un.kept hk, ⟨_, x.toInCall.ns, fun i y v h1 h2 h3 => ?_⟩, fun y c h => ⟨_, x.cell y c h⟩, e0.hok.fresh (Nat.le_refl _), fun y c h => ?_, fun p hp => absurd (show p ∈ ([] : List (Addr × Obj)) from hp) (by simp), e0.hok.kept hk, ?_⟩
  · exact name_of_addr x.apart (PySem.mem_of_lookup h1) (PySem.mem_of_lookup h2)
  · have hy : scope.names.lookup y = some .cell ∨ scope.names.lookup y = some .free := hy
    rcases hy with hy | hy
    · exact cell_has hy
    · exact absurd rfl (S.nofree _ (PySem.mem_of_lookup hy))
  · exact Nat.le_of_lt (x.above y c (PySem.mem_of_lookup h))
  · have hi : i < vs.length := by
      unfold start at h2
      by_cases hi : i < vs.length
      · exact hi
      · rw [List.getElem?_append_right (by simpa using hi)] at h2
        rw [List.getElem?_replicate] at h2
        split at h2 <;> cases h2
    have ha : vs[i]? = some v := by
      unfold start at h2
      rw [List.getElem?_append_left (by simpa using hi), List.getElem?_map] at h2
      cases e : vs[i]? with
      | none => rw [e] at h2; cases h2
      | some a => rw [e] at h2; cases h2; rfl
    obtain ⟨u, hu, rv⟩ := r.get ha
    have hp : ps[i]? = some y := by
      rw [← S.pre, List.getElem?_take_of_lt (by omega)]; exact h1
    have ndP : ps.Nodup := by rw [← S.pre]; exact S.nd.sublist (List.take_sublist _ _)
    refine ⟨u, rv, ?_⟩
    rcases S.par y (List.mem_of_getElem? hp) with k | k
    · exact .inl ⟨k, bindL_get ndP hp hu k⟩
    · obtain ⟨c, e⟩ := cell_has (n := s.heap.objs.size + 1) k
      refine .inr ⟨.inl k, c, e, ?_⟩
      have q := x.cell y c e
      rw [bindC_get ndP hp hu (by show scope.names.lookup y ≠ _; rw [k]; decide)] at q
      exact q
  · exact e0.hok.fresh (Nat.le_of_lt (x.above y c (PySem.mem_of_lookup h)))
  · unfold start
    show _ = N.length
    rw [List.length_append, List.length_map, List.length_replicate]
    omega
theorem fn_of {CX : CXT} {P : Program} {w : World} {K : W.Frag} {mg : Str → Option Value} {base : Heap} {k : Nat} {f : Addr} {name qual : Str} {params : Arguments} {body : List Stmt} {scope : Scope} {dV kV doc pm cdv ct oc : Value} {an od : Option Addr}
    {osl : Array (Option Value)} {N ps : List Str} {sp : Sp} (lk : K.lookup f = some ⟨oc, od, .func (PySem.W.fnOf name qual params body scope dV kV doc pm an cdv ct), osl⟩) (hcd : PySem.W.codeIn K cdv qual = true) (S : FnScope N ps scope)
    (len : ∀ vs H Q E, sp vs H Q E → vs.length = ps.length)
    (hbody : ∀ (A : Around) (outer : List Env) (s : Shared) (H : Hp) (vs : List V) (Q : VK) (E : XK), Room k (A.deeper (envOfC qual scope s.heap.objs.size f cdv)) → sp vs H Q E →
      ∃ t, PSs (cxOf CX P w K mg base N qual scope f cdv A outer s H E) body t ∧ t { nx := fun _ H' => Q .non H', rt := Q } (start N vs) H) :
    FnOk P w K mg base CX (k + 1) f (PySem.W.fnOf name qual params body scope dV kV doc pm an cdv ct) ps sp := by
  refine ⟨len, fun A outer s H args us vs Q E hr e0 hb r hsp => ?_⟩
  have hl := len _ _ _ _ hsp
  have KX : K.In s.heap := e0.mod.kin.keeps fun b o e => (e0.bs b o e).1
  have lim : s.heap.NoLimit := e0.mod.nolimit.keeps fun b o e => (e0.bs b o e).1
  have hkind : ∀ y ∈ ps.zip us, scope.names.lookup y.1 = some .local ∨ (scope.names.lookup y.1 = some .cell ∧ ((cellsFrom (s.heap.objs.size + 1) scope.names []).lookup y.1).isSome = true) := fun ⟨n, v⟩ hy => by
    rcases S.par n (List.of_mem_zip hy).1 with q | q
    · exact .inl q
    · exact .inr ⟨q, PySem.W.cellsFrom_some _ _ _ (.inl q)⟩
  refine codeAny_call_function hr.depth (KX _ _ lk) rfl S.co S.gen rfl (PySem.W.codeRec_of KX hcd) (hb _ _ _ _ ?_)
  refine wpAny_newFunctionEnv_cells S.kind hkind fun env he s1 x => ?_
  subst he
  refine ⟨lim.keeps x.toInCall.keep, codeAny_func ?_⟩
  obtain ⟨t, ht, hq⟩ := hbody A outer s H vs Q E (hr.deeper _) hsp
  have I : Inv (cxOf CX P w K mg base N qual scope f cdv A outer s H E) [] (start N vs) H s1 := inv_start S hr.hd e0 hl r x
  refine wpAny_mono (ht [] s1 (start N vs) H _ I hq) (fun fl s' hs => ?_) fun e s' hs => hs
  have fin : ∀ {σ' : St} {H' : Hp} {v : V} {u : Value}, Inv (cxOf CX P w K mg base N qual scope f cdv A outer s H E) [] σ' H' s' → RelV v u → Q v H' → CE outer P w H s Q u s' :=
    fun {σ' H' v u} J rv q => ⟨v, H', J.os, J.bare, J.base, J.hok, rv, q⟩
  cases fl with
  | ret u =>
    obtain ⟨v, σ', H', J, rv, q⟩ := hs
    exact fin J rv q
  | next =>
    obtain ⟨σ', H', J, q⟩ := hs
    exact fin (v := V.non) (u := Value.none) J rfl q
  | brk =>
    obtain ⟨_, _, _, q⟩ := hs
    exact False.elim q
  | cont =>
    obtain ⟨_, _, _, q⟩ := hs
    exact False.elim q
end L2
namespace L2
open PySem PySem.Spec PyProof.Rows
section
variable {X : Cx} {x : Str} {p pos : Pos} {e : Expr} {es : List Expr} {t : TA} {id T : String} {r : List V → Hp → VK → Prop}
def tCB (r : List V → Hp → VK → Prop) (t : TA) : TE := fun σ H Q => t σ H fun vs H1 => r vs H1 Q
theorem pe_callB (hc : CallR X (.builtin id) r) (hg : Gl X x) (hm : X.mg x = none) (hv : bootBuiltins x = some (.builtin id)) (ha : PA X (e :: es) t) (hn : x ≠ "__name__" := by decide) (hdb : (x == ("__debug__" : Str)) = false := by decide)
    (he : starEach (e :: es) X.env = (false, eval e X.env) :: starEach es X.env := by rfl) (hpl : (backTo pos (starEach es X.env)).any (·.1) = false := by rfl) : PE X (.Call (.Name x p) (e :: es) [] pos) (tCB r t) := by
  intro pins s σ H Q I h
  refine wpAny_Call_Name_kw (ld_blt I hg hm hv ?_ hn hdb)
  exact PyProof.Rows.callWith_builtin1 (thn (ha pos pins s σ H _ I h) fun us s1 ⟨vs, H1, I1, r1, q1⟩ => hc pins s1 σ H1 vs us Q I1 r1 q1) he hpl
theorem pe_callTy (hc : CallR X (.type T) r) (hg : Gl X x) (hm : X.mg x = none) (hv : bootBuiltins x = some (.type T)) (ha : PA X (e :: es) t) (hn : x ≠ "__name__" := by decide) (hdb : (x == ("__debug__" : Str)) = false := by decide)
    (he : starEach (e :: es) X.env = (false, eval e X.env) :: starEach es X.env := by rfl) (hpl : (backTo pos (starEach es X.env)).any (·.1) = false := by rfl) : PE X (.Call (.Name x p) (e :: es) [] pos) (tCB r t) := by
  intro pins s σ H Q I h
  refine wpAny_Call_Name_kw (ld_blt I hg hm hv ?_ hn hdb)
  exact PyProof.Rows.callWith_type1 (thn (ha pos pins s σ H _ I h) fun us s1 ⟨vs, H1, I1, r1, q1⟩ => hc pins s1 σ H1 vs us Q I1 r1 q1) he hpl
end
end L2
namespace HT
open PySem PyProof.Rows
section
open PySem.SeqAt
open PySem.AutoSeq1 (wpAny_loadPart')
open PySem.MeetsSeq PySem.MeetsSeq2 PySem.MeetsSeq3
end
section
variable {prog : Program} {w : World} {A : Around} {E : Value → Shared → Prop} {s : Shared}
def sIx (n d : Nat) : Option Int → Nat
  | none => d
  | some v => if v < 0 then (v + (n : Int)).toNat else min v.toNat n
theorem sIx_none (n d : Nat) : sIx n d none = d := rfl
theorem sIx_nat (n d k : Nat) : sIx n d (some (k : Int)) = min k n := by
  show (if (k : Int) < 0 then ((k : Int) + (n : Int)).toNat else min (k : Int).toNat n) = min k n
  rw [if_neg (by omega), Int.toNat_natCast]
end
end HT
namespace L2
open PySem PySem.Spec PyProof.Rows
abbrev TO := St → Hp → (Option Int → Hp → Prop) → Prop
def PO (X : Cx) (e : Option Expr) (t : TO) : Prop :=
  ∀ (pins : List (Addr × Obj)) (s : Shared) (σ : St) (H : Hp) (Q : Option Int → Hp → Prop), Inv X pins σ H s → t σ H Q →
    wpAny (model X.prog X.w) X.A (evalPart e X.env) (fun u s' => ∃ o H', Inv X pins σ H' s' ∧ IsPart u o ∧ Q o H') X.xe s
def tNoPart : TO := fun _ H Q => Q none H
def tPart (t : TE) : TO := fun σ H Q => t σ H fun x H1 => ∃ i, x = .int i ∧ Q (some i) H1
theorem intsAre_of {ns : List Int} : ∀ {us : List Value}, Vals (ns.map V.int) us → IntsAre us ns := by
  induction ns with
  | nil => intro us r; rw [List.map_nil] at r; cases r; exact .nil
  | cons n ns ih =>
    intro us r
    rw [List.map_cons] at r
    cases r with
    | cons r1 r2 =>
      obtain ⟨t, e⟩ := r1
      subst e
      exact .cons n t (ih r2)
section
variable {X : Cx} {e : Expr} {te : TE} {lo hi : Option Expr} {tl th : TO} {pos p2 : Pos}
theorem po_none : PO X none tNoPart := by
  intro pins s σ H Q I h
  rw [evalPart_none]
  exact wpAny_pure ⟨none, H, I, .none, h⟩
theorem po_some (h : PE X e te) : PO X (some e) (tPart te) := by
  intro pins s σ H Q I hw
  rw [evalPart_some]
  refine thn (h pins s σ H _ I hw) fun u s1 ⟨x, H1, I1, r1, q1⟩ => ?_
  obtain ⟨i, rfl, q⟩ := q1
  obtain ⟨t, rfl⟩ := r1
  exact ⟨some i, H1, I1, .int i t, q⟩
def SlR (X : Cx) (r : V → Option Int → Option Int → Hp → VK → Prop) : Prop :=
  ∀ (pins : List (Addr × Obj)) (s : Shared) (σ : St) (H : Hp) (x : V) (v vl vu : Value) (lo hi : Option Int) (sl : Addr) (Q : VK), Inv X pins σ H s → RelV x v → s.heap.IsSliceOf sl vl vu .none → IsPart vl lo → IsPart vu hi → r x lo hi H Q →
    ∃ T id, typeLookup (.type T) "__getitem__" = pure (some (.builtin id)) ∧ s.TypeIs v T ∧ wpAny (model X.prog X.w) X.A (getItem v (.ref sl)) (EP X pins σ Q) X.xe s
def tSl (r : V → Option Int → Option Int → Hp → VK → Prop) (te : TE) (tl th : TO) : TE := fun σ H Q => te σ H fun x H1 => tl σ H1 fun l H2 => th σ H2 fun u H3 => r x l u H3 Q
theorem pe_slice {r : V → Option Int → Option Int → Hp → VK → Prop} (hr : SlR X r) (he : PE X e te) (hl : PO X lo tl) (hu : PO X hi th) : PE X (.Subscript e (.Slice lo hi none p2) pos) (tSl r te tl th) := by
  intro pins s σ H Q I h
  refine Subscript_ (thn (he pins s σ H _ I h) fun v s1 ⟨x, H1, I1, r1, q1⟩ => ?_)
  refine wpAny_Slice (thn (hl pins s1 σ H1 _ I1 q1) fun vl s2 ⟨l, H2, I2, pl, q2⟩ => thn (hu pins s2 σ H2 _ I2 q2) fun vu s3 ⟨u, H3, I3, pu, q3⟩ => ?_)
  rw [evalPart_none]
  refine wpAny_pure ?_
  have I4 : Inv X pins σ H3 { s3 with heap := s3.heap.push { cls := .type "slice", data := .fields #[vl, vu, .none] } } := I3.kept (t' := s3.toks) fun b ob q => Heap.get?_push_of_some _ q
  obtain ⟨T, id, hT, ht, hg⟩ := hr pins { s3 with heap := s3.heap.push { cls := .type "slice", data := .fields #[vl, vu, .none] } } σ H3 x v vl vu l u s3.heap.objs.size Q I4 r1 (Heap.IsSliceOf.new ..) pl pu q3
  show wpAny (model X.prog X.w) X.A (subscriptTail e (.Slice lo hi none p2) v (.ref s3.heap.objs.size)) (EP X pins σ Q) X.xe { s3 with heap := s3.heap.push { cls := .type "slice", data := .fields #[vl, vu, .none] } }
  exact tail_any (ops := [.ref s3.heap.objs.size, v]) ht hT hg (by with_unfolding_all rfl)
def cutV (xs : List V) (lo hi : Option Int) : List V := (xs.drop (HT.sIx xs.length 0 lo)).take (HT.sIx xs.length xs.length hi - HT.sIx xs.length 0 lo)
theorem cutV_length (xs : List V) (lo hi : Option Int) : (cutV xs lo hi).length ≤ xs.length := by
  unfold cutV
  rw [List.length_take, List.length_drop]
  omega
end
end L2
namespace L2
open PySem PySem.Spec PyProof.Rows
def ixN (n : Nat) (i : Int) : Option Nat := if 0 ≤ i then (if i < n then some i.toNat else none) else if -(n : Int) ≤ i then some (i + n).toNat else none
def atI {α : Type} (xs : List α) (i : Int) : Option α := (ixN xs.length i).bind fun j => xs[j]?
theorem ixN_seq {n : Nat} {i : Int} {j : Nat} (h : ixN n i = some j) : seqIndex? i n = some j ∧ j < n ∧ -(n : Int) ≤ i ∧ i < n := by
  unfold ixN at h
  by_cases h0 : 0 ≤ i
  · rw [if_pos h0] at h
    by_cases h1 : i < n
    · rw [if_pos h1] at h
      have e : i.toNat = j := Option.some.inj h
      exact ⟨by rw [seqIndex_of h0 h1, e], by omega, by omega, h1⟩
    · rw [if_neg h1] at h; cases h
  · rw [if_neg h0] at h
    by_cases h1 : -(n : Int) ≤ i
    · rw [if_pos h1] at h
      have e : (i + n).toNat = j := Option.some.inj h
      exact ⟨by rw [seqIndex_neg (by omega) h1, e], by omega, h1, by omega⟩
    · rw [if_neg h1] at h; cases h
theorem atI_get {α : Type} {xs : List α} {i : Int} {v : α} (h : atI xs i = some v) : ∃ j, seqIndex? i xs.length = some j ∧ xs[j]? = some v ∧ j < xs.length ∧ -(xs.length : Int) ≤ i ∧ i < xs.length := by
  unfold atI at h
  cases e : ixN xs.length i with
  | none => rw [e] at h; cases h
  | some j =>
    rw [e] at h
    obtain ⟨h1, h2, h3, h4⟩ := ixN_seq e
    exact ⟨j, h1, h, h2, h3, h4⟩
theorem atI_nat {α : Type} {xs : List α} {j : Nat} {v : α} (h : xs[j]? = some v) : atI xs (j : Int) = some v := by
  have hj : j < xs.length := (List.getElem?_eq_some_iff.mp h).1
  have e : ixN xs.length (j : Int) = some j := by
    unfold ixN
    rw [if_pos (by omega), if_pos (by omega)]; simp
  unfold atI; rw [e]; exact h
def PlainIx (b : Expr) : Prop := ∀ o i, subscripted b false o i = operate [o, i] (getItem o i)
def IxR (X : Cx) (r : R2) : Prop :=
  ∀ (value slice : Expr) (pins : List (Addr × Obj)) (s : Shared) (σ : St) (H : Hp) (x y : V) (v u : Value) (Q : VK), Inv X pins σ H s → RelV x v → RelV y u → r x y H Q →
    subscripted slice false v u = operate [v, u] (getItem v u) → wpAny (model X.prog X.w) X.A (subscriptTail value slice v u) (EP X pins σ Q) X.xe s
def MtR (X : Cx) (id : String) (r : V → List V → Hp → VK → Prop) : Prop :=
  ∀ (pins : List (Addr × Obj)) (s : Shared) (σ : St) (H : Hp) (x : V) (xs : List V) (v : Value) (us : List Value) (Q : VK), Inv X pins σ H s → RelV x v → Vals xs us → r x xs H Q →
    wpAny (model X.prog X.w) X.A (call (.builtin id) (v :: us)) (EP X pins σ Q) X.xe s
section
variable {X : Cx} {a b : Expr} {ta tb : TE} {pos : Pos}
theorem pe_ix {r : R2} (hr : IxR X r) (ha : PE X a ta) (hb : PE X b tb) (hs : PlainIx b) : PE X (.Subscript a b pos) (tOp r ta tb) := by
  intro pins s σ H Q I h
  exact Subscript_ (binT ha hb I h fun v u s2 x y H2 I2 rx ry q => hr a b pins s2 σ H2 x y v u Q I2 rx ry q (hs _ _))
def rIxL (K : W.Frag) : R2 := fun x y H Q => ∃ p xs i v, x = .ref p ∧ y = .int i ∧ SqL K H p xs ∧ atI xs i = some v ∧ Q v H
def rIxT (K : W.Frag) : R2 := fun x y H Q => ∃ p xs i v, x = .ref p ∧ y = .int i ∧ SqT K H p xs ∧ atI xs i = some v ∧ Q v H
theorem ix_list : IxR X (rIxL X.K) := by
  intro value slice pins s σ H x y v u Q I rx ry h hs
  obtain ⟨p, xs, i, z, rfl, rfl, hq, he, q⟩ := h
  cases rx
  obtain ⟨t, rfl⟩ := ry
  obtain ⟨its, r, pl, hz⟩ := I.list hq
  obtain ⟨j, h1, h2, h3, h4, h5⟩ := atI_get he
  obtain ⟨w, ew, rw'⟩ := r.get h2
  have hl := r.length
  have hn := line63
  have fin : EP X pins σ Q w s := ⟨z, H, I, rw', q⟩
  by_cases h0 : 0 ≤ i
  · have hj : i.toNat = j := by
      rw [seqIndex_of h0 h5] at h1
      exact Option.some.inj h1
    exact item_listR pl.isList h0 (by omega) (by rw [hj]; simpa using ew) fin hs
  · have hj : (i + (its.toArray.size : Int)).toNat = j := by
      rw [seqIndex_neg (by omega) h4] at h1
      rw [List.size_toArray, ← hl]
      exact Option.some.inj h1
    exact subscriptTail_builtinR (x := w) pl.isList.typeIs slot_list_getitem.lookup
      (wpAny_getItem_list_neg (Q := fun r s' => r = w ∧ EP X pins σ Q r s') pl.isList (by omega) (by rw [List.size_toArray] <;> omega) (by omega) (by rw [hj]; simpa using ew) ⟨rfl, fin⟩) hs
theorem ix_tup : IxR X (rIxT X.K) := by
  intro value slice pins s σ H x y v u Q I rx ry h hs
  obtain ⟨p, xs, i, z, rfl, rfl, hq, he, q⟩ := h
  cases rx
  obtain ⟨t, rfl⟩ := ry
  obtain ⟨its, r, pl, hz⟩ := I.tuple hq
  obtain ⟨j, h1, h2, h3, h4, h5⟩ := atI_get he
  obtain ⟨w, ew, rw'⟩ := r.get h2
  have hl := r.length
  have hn := line63
  have fin : EP X pins σ Q w s := ⟨z, H, I, rw', q⟩
  exact subscriptTail_builtinR (x := w) pl.typeIs slot_tuple_getitem.lookup
    (getItem_tuple (j := j) (Q := fun r s' => r = w ∧ EP X pins σ Q r s') pl (by omega) (by omega) (by rw [List.size_toArray, ← hl]; exact h1) (by simpa using ew) ⟨rfl, fin⟩) hs
theorem mapSeq_set (its : List Value) (n j : Nat) (u : Value) : Obj.mapSeq (·.setIfInBounds j u) { cls := .type "list", data := .seq its.toArray n } = { cls := .type "list", data := .seq (its.set j u).toArray n } := by
  simp [Obj.mapSeq]
theorem Inv.lst {pins : List (Addr × Obj)} {σ : St} {H : Hp} {s : Shared} {p : Addr} {xs : List V} (I : Inv X pins σ H s) (h : H p = some (.lst xs)) :
    ∃ (its : List Value) (n : Nat), Vals xs its ∧ s.heap.get? p = some { cls := .type "list", data := .seq its.toArray n } ∧ xs.length ≤ sizeLine := by
  obtain ⟨z, its, n, r, e⟩ := I.hok p _ h
  exact ⟨its, n, r, e, z⟩
theorem Inv.lstUpd {pins : List (Addr × Obj)} {σ : St} {H : Hp} {s : Shared} {p : Addr} {xs ys : List V} {its its' : List Value} {n n' : Nat} {f : Obj → Obj} (I : Inv X pins σ H s) (h : H p = some (.lst xs))
    (ho : s.heap.get? p = some { cls := .type "list", data := .seq its.toArray n }) (hf : f { cls := .type "list", data := .seq its.toArray n } = { cls := .type "list", data := .seq its'.toArray n' }) (r : Vals ys its') (hz : ys.length ≤ sizeLine) (t : Nat) :
    Inv X pins σ (upd H p (.lst ys)) { s with heap := s.heap.update p f, toks := t } := by
  have e : (s.heap.update p f).get? p = some { cls := .type "list", data := .seq its'.toArray n' } := by
    rw [Heap.get?_update_self f ho (by rw [hf] <;> rfl), hf]
  refine I.write (x := p) (e := p) (by rw [h]; trivial) (.inl rfl) (fun b u hb q => (Heap.get?_update_other _ _ (Ne.symm hb)).trans q) ⟨_, e⟩ ?_
  exact ⟨hz, its', n', r, e⟩
def rSetL : V → V → V → Hp → (Hp → Prop) → Prop := fun o i v H Q => ∃ p xs k j, o = .ref p ∧ i = .int k ∧ H p = some (.lst xs) ∧ ixN xs.length k = some j ∧ Q (upd H p (.lst (xs.set j v)))
theorem set_list : PSet X rSetL := by
  intro pins s σ H o i v ov iv u Q I ro ri rv h
  obtain ⟨p, xs, k, j, rfl, rfl, hp, hj, q⟩ := h
  cases ro
  obtain ⟨t, rfl⟩ := ri
  obtain ⟨its, n, r, ho, hz⟩ := I.lst hp
  obtain ⟨h1, h2, h3, h4⟩ := ixN_seq hj
  have hl := r.length
  have hn := line63
  have I' : Inv X pins σ (upd H p (.lst (xs.set j v))) { s with heap := s.heap.update p (Obj.mapSeq (·.setIfInBounds j u)) } :=
    I.lstUpd hp ho (mapSeq_set its n j u) (r.set rv j) (by rw [List.length_set]; exact hz) s.toks
  by_cases h0 : 0 ≤ k
  · have hk : k.toNat = j := by
      rw [seqIndex_of h0 h4] at h1
      exact Option.some.inj h1
    exact PySem.W.ki_setAt ho h0 (by omega) (by rw [List.size_toArray, ← hl]; exact h4) (by rw [hk]; exact ⟨_, I', q⟩)
  · have hk : (k + (its.toArray.size : Int)).toNat = j := by
      rw [seqIndex_neg (by omega) h3] at h1
      rw [List.size_toArray, ← hl]
      exact Option.some.inj h1
    exact PySem.W.ki_setBack ho (by omega) (by rw [List.size_toArray, ← hl]; exact h3) (by omega) (by rw [hk]; exact ⟨_, I', q⟩)
theorem slice_bounds (lo hi : Option Int) (n : Nat) : (sliceBounds lo hi none n).1 = ((HT.sIx n 0 lo : Nat) : Int) ∧ (sliceBounds lo hi none n).2.1 = ((HT.sIx n n hi : Nat) : Int) ∧ (sliceBounds lo hi none n).2.2 = 1 := by
  refine ⟨?_, ?_, rfl⟩
  · cases lo with
    | none => simp [sliceBounds, HT.sIx]
    | some i =>
      simp only [sliceBounds, HT.sIx, Option.getD_none, show (1 : Int) > 0 by decide, if_true]
      by_cases h : i < 0
      · simp only [h, if_true] <;> omega
      · simp only [h, if_false] <;> omega
  · cases hi with
    | none => simp [sliceBounds, HT.sIx]
    | some i =>
      simp only [sliceBounds, HT.sIx, Option.getD_none, show (1 : Int) > 0 by decide, if_true]
      by_cases h : i < 0
      · simp only [h, if_true] <;> omega
      · simp only [h, if_false] <;> omega
theorem slicePick_cut (its : List Value) (lo hi : Option Int) : slicePick its.toArray lo hi none = ((its.drop (HT.sIx its.length 0 lo)).take (HT.sIx its.length its.length hi - HT.sIx its.length 0 lo)).toArray := by
  obtain ⟨h1, h2, h3⟩ := slice_bounds lo hi its.toArray.size
  unfold slicePick
  rw [h1, h2, h3]
  simp only [sliceRange_one, pick_run, List.size_toArray] <;> rfl
def rSlL (K : W.Frag) : V → Option Int → Option Int → Hp → VK → Prop := fun x lo hi H Q => ∃ a xs, x = .ref a ∧ SqL K H a xs ∧ ∀ p, H p = none → Q (.ref p) (upd H p (.lst (cutV xs lo hi)))
theorem sl_list : SlR X (rSlL X.K) := by
  intro pins s σ H x v vl vu lo hi sl Q I rx hs pl pu h
  obtain ⟨a, xs, rfl, hx, q⟩ := h
  cases rx
  obtain ⟨its, r, ht, hz⟩ := I.list hx
  have hlen := r.length
  refine ⟨"list", _, slot_list_getitem.lookup, ht.isList.typeIs, ?_⟩
  refine wpAny_getItem_list_slice ht.isList hs pl pu .none (by simp) ?_ (by rw [List.size_toArray] <;> omega)
  rw [slicePick_cut, ← hlen]
  refine ⟨.ref s.heap.objs.size, _, I.laid (t' := s.toks) (o := .lst (cutV xs lo hi)) (fun b ob q => Heap.get?_push_of_some _ q) (Nat.le_refl _) ?_, rfl, q _ (I.hok.fresh (Nat.le_refl _))⟩
  exact ⟨Nat.le_trans (cutV_length xs lo hi) hz, _, 0, (r.drop (HT.sIx xs.length 0 lo)).take (HT.sIx xs.length xs.length hi - HT.sIx xs.length 0 lo), Heap.get?_push_size _ rfl⟩
def flatV : V → Bool
  | .non => true
  | .bl _ => true
  | .int _ => true
  | .str _ => true
  | _ => false
def eqV : V → V → Bool
  | .non, .non => true
  | .bl a, .bl b => a == b
  | .bl a, .int b => (if a then 1 else 0) == b
  | .int a, .bl b => a == (if b then 1 else 0)
  | .int a, .int b => a == b
  | .str a, .str b => a == b
  | _, _ => false
theorem eqAt_V {A : Around} {s : Shared} {y x : V} {u v : Value} (ry : RelV y u) (rx : RelV x v) (fy : flatV y = true) (fx : flatV x = true) : SeqAt.EqAt A s u v (eqV y x) := by
  cases y with
  | non =>
    cases ry
    cases x with
    | non => cases rx; exact SeqAt.EqAt.same _
    | bl b => cases rx; exact SeqAt.EqAt.none_bool b
    | int b => obtain ⟨t, rfl⟩ := rx; exact SeqAt.EqAt.none_int b t
    | str b => obtain ⟨t, rfl⟩ := rx; exact SeqAt.EqAt.none_str b t
    | _ => exact absurd (show false = true from fx) Bool.false_ne_true
  | bl a =>
    cases ry
    cases x with
    | non => cases rx; exact SeqAt.EqAt.bool_none a
    | bl b => cases rx; exact SeqAt.EqAt.bool_bool a b
    | int b => obtain ⟨t, rfl⟩ := rx; exact SeqAt.EqAt.bool_int a b t
    | str b => obtain ⟨t, rfl⟩ := rx; exact SeqAt.EqAt.bool_str a b t
    | _ => exact absurd (show false = true from fx) Bool.false_ne_true
  | int a =>
    obtain ⟨t', rfl⟩ := ry
    cases x with
    | non => cases rx; exact SeqAt.EqAt.int_none a t'
    | bl b => cases rx; exact SeqAt.EqAt.int_bool a t' b
    | int b => obtain ⟨t, rfl⟩ := rx; exact SeqAt.EqAt.int_int a t' b t
    | str b => obtain ⟨t, rfl⟩ := rx; exact SeqAt.EqAt.int_str a t' b t
    | _ => exact absurd (show false = true from fx) Bool.false_ne_true
  | str a =>
    obtain ⟨t', rfl⟩ := ry
    cases x with
    | non => cases rx; exact SeqAt.EqAt.str_none a t'
    | bl b => cases rx; exact SeqAt.EqAt.str_bool a t' b
    | int b => obtain ⟨t, rfl⟩ := rx; exact SeqAt.EqAt.str_int a t' b t
    | str b => obtain ⟨t, rfl⟩ := rx; exact SeqAt.EqAt.str_str a t' b t
    | _ => exact absurd (show false = true from fx) Bool.false_ne_true
  | _ => exact absurd (show false = true from fy) Bool.false_ne_true
def eqU (x : V) (u : Value) : Bool := match u with
  | .none => eqV .non x
  | .bool b => eqV (.bl b) x
  | .int i _ => eqV (.int i) x
  | .str z _ => eqV (.str z) x
  | _ => false
theorem eqU_of {x y : V} {u : Value} (r : RelV y u) (f : flatV y = true) : eqU x u = eqV y x := by
  cases y with
  | non => cases r; rfl
  | bl b => cases r; rfl
  | int i => obtain ⟨t, rfl⟩ := r; rfl
  | str z => obtain ⟨t, rfl⟩ := r; rfl
  | _ => exact absurd (show false = true from f) Bool.false_ne_true
theorem any_eqU {x : V} : ∀ {xs : List V} {us : List Value}, Vals xs us → xs.all flatV = true → us.any (eqU x) = xs.any fun y => eqV y x
  | _, _, .nil, _ => rfl
  | y :: xs, u :: us, .cons r t, f => by
    rw [List.all_cons, Bool.and_eq_true] at f
    rw [List.any_cons, List.any_cons, eqU_of r f.1, any_eqU t f.2]
theorem mem_eqAt {A : Around} {s : Shared} {x : V} {v : Value} (rx : RelV x v) (fx : flatV x = true) : ∀ {xs : List V} {us : List Value}, Vals xs us → xs.all flatV = true → ∀ u ∈ us, SeqAt.EqAt A s u v (eqU x u)
  | _, _, .nil, _ => fun u hu => by cases hu
  | y :: xs, u :: us, .cons r t, f => fun u' hu => by
    rw [List.all_cons, Bool.and_eq_true] at f
    rcases List.mem_cons.mp hu with rfl | hu
    · rw [eqU_of r f.1]; exact eqAt_V r rx f.1 fx
    · exact mem_eqAt rx fx t f.2 u' hu
def inV (x : V) (xs : List V) : Bool := xs.any fun y => eqV y x
def rIn (K : W.Frag) (neg : Bool) : R2 := fun x y H Q => ∃ p xs, y = .ref p ∧ (SqL K H p xs ∨ SqT K H p xs) ∧ flatV x = true ∧ xs.all flatV = true ∧ Q (.bl (if neg then !inV x xs else inV x xs)) H
theorem op_in_seq : OpR X (compareOp .In) (rIn X.K false) := by
  intro pins s σ H x y v u Q I rx ry h
  obtain ⟨p, xs, rfl, hq, fx, fs, q⟩ := h
  cases ry
  rcases hq with hq | hq
  · obtain ⟨its, r, pl, hz⟩ := I.list hq
    refine SeqAt.in_listAt (eqU x) pl.isList (fun w hw => mem_eqAt rx fx r fs w (by simpa using hw)) ⟨.bl _, H, I, rfl, ?_⟩
    rw [show its.toArray.any (eqU x) = its.any (eqU x) by simp, any_eqU r fs]
    exact q
  · obtain ⟨its, r, pl, hz⟩ := I.tuple hq
    refine SeqAt.in_tupleAt (eqU x) pl (fun w hw => mem_eqAt rx fx r fs w (by simpa using hw)) ⟨.bl _, H, I, rfl, ?_⟩
    rw [show its.toArray.any (eqU x) = its.any (eqU x) by simp, any_eqU r fs]
    exact q
theorem op_notIn_seq : OpR X (compareOp .NotIn) (rIn X.K true) := by
  intro pins s σ H x y v u Q I rx ry h
  obtain ⟨p, xs, rfl, hq, fx, fs, q⟩ := h
  cases ry
  rcases hq with hq | hq
  · obtain ⟨its, r, pl, hz⟩ := I.list hq
    refine SeqAt.notIn_listAt (eqU x) pl.isList (fun w hw => mem_eqAt rx fx r fs w (by simpa using hw)) ⟨.bl _, H, I, rfl, ?_⟩
    rw [show its.toArray.any (eqU x) = its.any (eqU x) by simp, any_eqU r fs]
    exact q
  · obtain ⟨its, r, pl, hz⟩ := I.tuple hq
    refine SeqAt.notIn_tupleAt (eqU x) pl (fun w hw => mem_eqAt rx fx r fs w (by simpa using hw)) ⟨.bl _, H, I, rfl, ?_⟩
    rw [show its.toArray.any (eqU x) = its.any (eqU x) by simp, any_eqU r fs]
    exact q
theorem call_len_seq : CallR X (.builtin "len") (fun xs H Q => ∃ p ys, xs = [.ref p] ∧ (SqL X.K H p ys ∨ SqT X.K H p ys) ∧ Q (.int ys.length) H) := by
  intro pins s σ H xs us Q I r h
  obtain ⟨p, ys, rfl, hq, q⟩ := h
  obtain ⟨u, rfl, rx⟩ := vals1 r
  cases rx
  have hn := line63
  rcases hq with hq | hq
  · obtain ⟨its, r', pl, hz⟩ := I.list hq
    have hlen := r'.length
    exact Calls.call_len_list pl.isList (by simp only [List.size_toArray] <;> omega) ⟨.int ys.length, H, I.tok _, ⟨s.toks + 1, by rw [List.size_toArray, hlen]⟩, q⟩
  · obtain ⟨its, r', pl, hz⟩ := I.tuple hq
    have hlen := r'.length
    exact len_tuple pl (by simp only [List.size_toArray] <;> omega) ⟨.int ys.length, H, I.tok _, ⟨s.toks + 1, by rw [List.size_toArray, hlen]⟩, q⟩
def tyV (K : W.Frag) (T : String) (x : V) (H : Hp) : Prop := match x with
  | .str _ => T = "str"
  | .int _ => T = "int"
  | .ref p => (T = "list" ∧ ∃ xs, SqL K H p xs) ∨ (T = "tuple" ∧ ∃ o, K.lookup p = some o ∧ o.cls = .type "tuple" ∧ o.dict = none) ∨
      (T = "dict" ∧ ((∃ kvs, H p = some (.dK kvs)) ∨ ∃ kvs, H p = some (.dT kvs))) ∨ (T = "set" ∧ ∃ S n, H p = some (.set S n))
  | _ => False
theorem tyV_is {pins : List (Addr × Obj)} {σ : St} {H : Hp} {s : Shared} {T : String} {x : V} {v : Value} (I : Inv X pins σ H s) (r : RelV x v) (ty : tyV X.K T x H) :
    s.TypeIs v T ∧ ∀ a, v = .ref a → ∃ ob, s.heap.get? a = some ob ∧ ob.dict = none := by
  cases x with
  | str z =>
    obtain ⟨t, rfl⟩ := r
    cases (show T = "str" from ty)
    exact ⟨typeIs_str s z t, fun _ e => nomatch e⟩
  | int i =>
    obtain ⟨t, rfl⟩ := r
    cases (show T = "int" from ty)
    exact ⟨typeIs_int s i t, fun _ e => nomatch e⟩
  | ref p =>
    cases r
    rcases ty with ⟨rfl, xs, hq⟩ | ⟨rfl, o, hk, hc, hd⟩ | ⟨rfl, hk⟩ | ⟨rfl, S, n, hk⟩
    · obtain ⟨its, _, pl, _⟩ := I.list hq
      refine ⟨pl.isList.typeIs, fun a e => ?_⟩
      cases e
      obtain ⟨o, n, e, c, hd, _⟩ := pl
      exact ⟨o, e, hd⟩
    · refine ⟨⟨o, I.kIn p o hk, hc⟩, fun a e => ?_⟩
      cases e
      exact ⟨o, I.kIn _ o hk, hd⟩
    · have z : ∃ o, s.heap.get? p = some o ∧ o.ExactDict := by
        rcases hk with ⟨kvs, hk⟩ | ⟨kvs, hk⟩
        · obtain ⟨_, _, _, _, o, _, _, e, ex, _⟩ := I.hok p _ hk
          exact ⟨o, e, ex⟩
        · obtain ⟨_, _, _, _, o, _, _, e, ex, _⟩ := I.hok p _ hk
          exact ⟨o, e, ex⟩
      obtain ⟨o, e, ex⟩ := z
      refine ⟨⟨o, e, ex.1⟩, fun a e2 => ?_⟩
      cases e2
      exact ⟨o, e, ex.2.1⟩
    · obtain ⟨o, _, _, _, e, ex, _⟩ := I.hok p _ hk
      refine ⟨⟨o, e, ex.1⟩, fun a e2 => ?_⟩
      cases e2
      exact ⟨o, e, ex.2.1⟩
  | _ => exact False.elim ty
def tBM (K : W.Frag) (T : String) (r : V → List V → Hp → VK → Prop) (to : TE) (t : TA) : TE := fun σ H Q => to σ H fun x H1 => tyV K T x H1 ∧ t σ H1 fun xs H2 => r x xs H2 Q
variable {o e : Expr} {es : List Expr} {to : TE} {t : TA} {name : Str} {apos cpos : Pos} {T id : String} {r : V → List V → Hp → VK → Prop}
theorem pe_bm (pa : PlainAttrs T) (slot : Slot T name id) (hty : typeOf (.builtin id) = pure (.type "method_descriptor")) (hm : MtR X id r) (ho : PE X o to) (ha : PA X (e :: es) t)
    (hbase : attributeBase o name X.env (eval o X.env) = eval o X.env := by rfl)
    (hfew : ((backTo cpos (starEach (e :: es) X.env)).all (fun x => !x.1) && (backToKw cpos (keywordEach [] X.env)).all (fun x => x.1.isSome)
      && decide ((e :: es).length + ([] : List Keyword).length + (if ([] : List Keyword).isEmpty then 0 else 1) < 30)) = true := by rfl)
    (hline : (apos.endLine == cpos.line) = true := by rfl) (hs : starEach (e :: es) X.env = (false, eval e X.env) :: starEach es X.env := by rfl) (hplain : (backTo cpos (starEach es X.env)).any (·.1) = false := by rfl) :
    PE X (.Call (.Attribute o name apos) (e :: es) [] cpos) (tBM X.K T r to t) := by
  intro pins s σ H Q I h
  refine wpAny_Call_method_late hbase hfew hline rfl (thn (ho pins s σ H _ I h) fun v s1 ⟨x, H1, I1, r1, ty, q1⟩ => ?_)
  obtain ⟨h1, h2⟩ := tyV_is I1 r1 ty
  refine ⟨T, id, pa, slot, hty, h1, h2, ?_⟩
  have hA := ha cpos pins s1 σ H1 _ I1 q1
  rw [hs] at hA ⊢
  refine Calls.callWith_builtin (by show (false || (backTo cpos (starEach es X.env)).any (·.1)) = false; rw [hplain] <;> rfl) (Calls.evalArgs_plain ?_)
  exact thn hA fun us s2 ⟨vs, H2, I2, r2, q2⟩ => hm pins s2 σ H2 x vs v us Q I2 r1 r2 q2
end
end L2
namespace L2
open PySem PySem.Spec PyProof.Rows
def MtM (X : Cx) (id : String) (r : V → List V → Hp → VK → Prop) : Prop :=
  ∀ (pins : List (Addr × Obj)) (s : Shared) (σ : St) (H : Hp) (x : V) (xs : List V) (v : Value) (us : List Value) (Q : VK), Inv X pins σ H s → RelV x v → Vals xs us → r x xs H Q →
    wpAny (model X.prog X.w) X.A (call (.builtin id) (v :: us)) (EP X pins σ Q) X.xe s
theorem Vals.one : ∀ {x : V} {us : List Value}, Vals [x] us → ∃ u, us = [u] ∧ RelV x u
  | _, _, .cons r .nil => ⟨_, rfl, r⟩
theorem Vals.two : ∀ {x y : V} {us : List Value}, Vals [x, y] us → ∃ u v, us = [u, v] ∧ RelV x u ∧ RelV y v
  | _, _, _, .cons r (.cons q .nil) => ⟨_, _, rfl, r, q⟩
theorem Vals.eraseIdx : ∀ {xs : List V} {us : List Value} (i : Nat), Vals xs us → Vals (xs.eraseIdx i) (us.eraseIdx i)
  | _, _, _, .nil => .nil
  | _, _, 0, .cons _ t => t
  | _, _, i + 1, .cons r t => .cons r (Vals.eraseIdx i t)
theorem Vals.rep {xs : List V} {us : List Value} (h : Vals xs us) : ∀ k : Nat, Vals (List.replicate k xs).flatten (List.replicate k us).flatten
  | 0 => .nil
  | k + 1 => by
    rw [List.replicate_succ, List.replicate_succ, List.flatten_cons, List.flatten_cons]
    exact Vals.append h (Vals.rep h k)
theorem foldl_rep (its : List Value) : ∀ (k : Nat) (acc : List Value),
    List.foldl (fun x1 x2 => x1 ++ x2) acc.toArray (List.replicate k its.toArray) = (acc ++ (List.replicate k its).flatten).toArray
  | 0, acc => by simp
  | k + 1, acc => by
    have e : acc.toArray ++ its.toArray = (acc ++ its).toArray := by simp
    have e2 : (acc ++ its) ++ (List.replicate k its).flatten = acc ++ (List.replicate (k + 1) its).flatten := by
      rw [List.replicate_succ, List.flatten_cons, List.append_assoc]
    rw [← e2, ← foldl_rep its k (acc ++ its), ← e, List.replicate_succ, List.foldl_cons]
section
variable {X : Cx} {pins : List (Addr × Obj)} {σ : St} {H : Hp} {s : Shared} {l b : Addr} {xs ys zs : List V}
theorem Inv.lset {its its' : List Value} {n : Nat} {f : Array Value → Array Value} {t' : Nat} (I : Inv X pins σ H s) (hH : H l = some (.lst xs))
    (e : s.heap.get? l = some { cls := .type "list", data := .seq its.toArray n }) (hf : f its.toArray = its'.toArray) (hv : Vals ys its') (hz : ys.length ≤ sizeLine) :
    Inv X pins σ (upd H l (.lst ys)) { s with heap := s.heap.update l (Obj.mapSeq f), toks := t' } := by
  have q := PySem.IsL.update e f
  rw [hf] at q
  refine I.write (x := l) (e := l) (by rw [hH]; exact trivial) (.inl rfl) (fun b' u hb hu => (Heap.get?_update_other s.heap (Obj.mapSeq f) (Ne.symm hb)).trans hu) ⟨_, q⟩ ?_
  exact ⟨hz, its', _, hv, q⟩
theorem Inv.lnew {its : List Value} {t' : Nat} (I : Inv X pins σ H s) (hv : Vals ys its) (hz : ys.length ≤ sizeLine) :
    Inv X pins σ (upd H s.heap.objs.size (.lst ys)) { s with heap := s.heap.push { cls := .type "list", data := .seq its.toArray }, toks := t' } :=
  I.laid (fun _ _ q => Heap.get?_push_of_some _ q) (Nat.le_refl _) ⟨hz, its, 0, hv, Heap.get?_push_size _ rfl⟩
theorem Inv.fresh (I : Inv X pins σ H s) : H s.heap.objs.size = none := I.hok.fresh (Nat.le_refl _)
theorem Inv.lstM (I : Inv X pins σ H s) (hH : H l = some (.lst xs)) : xs.length ≤ sizeLine ∧ ∃ (its : List Value) (n : Nat), Vals xs its ∧ xs.length = its.length ∧ s.heap.get? l = some { cls := .type "list", data := .seq its.toArray n } := by
  obtain ⟨z, its, n, r, e⟩ := I.hok l _ hH
  exact ⟨z, its, n, r, r.length, e⟩
theorem notLongL {n : Nat} (h : n ≤ sizeLine) : Builtin.List.listTooLong n = false := by
  unfold Builtin.List.listTooLong
  exact decide_eq_false (by omega)
end
section
variable {X : Cx}
def rAppend : V → List V → Hp → VK → Prop := fun x vs H Q => ∃ l xs y, x = .ref l ∧ vs = [y] ∧ H l = some (.lst xs) ∧ xs.length < sizeLine ∧ Q .non (upd H l (.lst (xs ++ [y])))
theorem mt_append : MtM X "list.append" rAppend := by
  intro pins s σ H x vs v us Q I rx rv h
  obtain ⟨l, xs, y, rfl, rfl, hH, hz, q⟩ := h
  cases rx
  obtain ⟨u, rfl, ru⟩ := rv.one
  obtain ⟨z, its, n, r, hl, e⟩ := I.lstM hH
  refine call_meets F.slot_list_append ⟨_, e, rfl⟩ F.entry_list_append (F.args_list_append_2 _ _) (PySem.list_append l its.toArray n u (by rw [List.size_toArray]; omega)) ⟨e, ?_⟩
  refine ⟨.non, _, I.lset (its' := its ++ [u]) hH e (by simp) (r.append (.cons ru .nil)) ?_, rfl, q⟩
  rw [List.length_append, List.length_singleton]
  omega
def rExtend : V → List V → Hp → VK → Prop := fun x vs H Q => ∃ l b xs zs, x = .ref l ∧ vs = [.ref b] ∧ H l = some (.lst xs) ∧ H b = some (.lst zs) ∧ xs.length + zs.length ≤ sizeLine ∧ Q .non (upd H l (.lst (xs ++ zs)))
theorem mt_extend : MtM X "list.extend" rExtend := by
  intro pins s σ H x vs v us Q I rx rv h
  obtain ⟨l, b, xs, zs, rfl, rfl, hH, hB, hz, q⟩ := h
  cases rx
  obtain ⟨u, rfl, ru⟩ := rv.one
  cases ru
  obtain ⟨z, its, n, r, hl, e⟩ := I.lstM hH
  obtain ⟨z2, its2, n2, r2, hl2, e2⟩ := I.lstM hB
  have hsz : its.toArray.size + its2.toArray.size ≤ sizeLine := by rw [List.size_toArray, List.size_toArray]; omega
  have hlong : ¬ (!its.toArray.isEmpty && Builtin.List.listTooLong (its.toArray.size + its2.toArray.size)) = true := by
    rw [notLongL hsz, Bool.and_false]
    exact Bool.false_ne_true
  refine call_meets F.slot_list_extend ⟨_, e, rfl⟩ F.entry_list_extend (F.args_list_extend_2 _ _)
    (AutoSeq1.list_extend_list_list_0 l its.toArray n b its2.toArray n2 hlong (by rw [List.size_toArray]; omega) (by omega)) ⟨e, e2, ?_⟩
  refine ⟨.non, _, I.lset (its' := its ++ its2) hH e (by simp) (r.append r2) ?_, rfl, q⟩
  rw [List.length_append]
  omega
def rCat : R2 := fun x y H Q => ∃ l b xs zs, x = .ref l ∧ y = .ref b ∧ H l = some (.lst xs) ∧ H b = some (.lst zs) ∧ xs.length + zs.length ≤ sizeLine ∧ ∀ p, H p = none → Q (.ref p) (upd H p (.lst (xs ++ zs)))
theorem op_cat : OpR X (binaryOp .Add) rCat := by
  intro pins s σ H x y v u Q I rx ry h
  obtain ⟨l, b, xs, zs, rfl, rfl, hH, hB, hz, q⟩ := h
  cases rx
  cases ry
  obtain ⟨z, its, n, r, hl, e⟩ := I.lstM hH
  obtain ⟨z2, its2, n2, r2, hl2, e2⟩ := I.lstM hB
  refine PySem.P.add_list e e2 ?_ (by rw [List.size_toArray, List.size_toArray]; omega)
  have ea : its.toArray ++ its2.toArray = (its ++ its2).toArray := by simp
  rw [ea]
  exact ⟨.ref _, _, I.lnew (t' := s.toks) (r.append r2) (by rw [List.length_append]; omega), rfl, q _ I.fresh⟩
def rRep : R2 := fun x y H Q => ∃ l k xs, x = .ref l ∧ y = .int k ∧ H l = some (.lst xs) ∧ -(2 ^ 63) ≤ k ∧ k < 2 ^ 63 ∧ xs.length * k.toNat ≤ sizeLine ∧
  ∀ p, H p = none → Q (.ref p) (upd H p (.lst (List.replicate k.toNat xs).flatten))
theorem len_rep {α : Type} (xs : List α) (k : Nat) : (List.replicate k xs).flatten.length = k * xs.length := by
  induction k with
  | zero => simp
  | succ k ih => rw [List.replicate_succ, List.flatten_cons, List.length_append, ih, Nat.succ_mul, Nat.add_comm]
theorem op_rep : OpR X (binaryOp .Mult) rRep := by
  intro pins s σ H x y v u Q I rx ry h
  obtain ⟨l, k, xs, rfl, rfl, hH, h1, h2, hz, q⟩ := h
  cases rx
  obtain ⟨t, rfl⟩ := ry
  obtain ⟨z, its, n, r, hl, e⟩ := I.lstM hH
  have hlen : its.toArray.size * k.toNat ≤ sizeLine := by rw [List.size_toArray, ← hl]; exact hz
  have hcap : ¬ its.toArray.size * k.toNat > (2 ^ 63 - 1) / 8 := by
    have : (sizeLine : Nat) ≤ (2 ^ 63 - 1) / 8 := by decide
    omega
  have hfit : ¬ (!Builtin.List.listFitsIndex k) = true := by
    rw [fitsIndex_both h1 h2]
    exact Bool.false_ne_true
  have hlong : ¬ Builtin.List.listTooLong (its.toArray.size * k.toNat) = true := by
    rw [notLongL hlen]
    exact Bool.false_ne_true
  have hnew : List.foldl (fun x1 x2 => x1 ++ x2) #[] (List.replicate (if its.toArray.isEmpty = true then 0 else k.toNat) its.toArray) = (List.replicate k.toNat its).flatten.toArray := by
    have f0 : ∀ m : Nat, List.foldl (fun x1 x2 => x1 ++ x2) #[] (List.replicate m its.toArray) = (List.replicate m its).flatten.toArray := fun m => by
      have := foldl_rep its m []
      rw [List.nil_append] at this
      exact this
    rw [f0]
    cases its with
    | nil => simp
    | cons a r' => rw [if_neg (by simp)]
  refine wpAny_binaryOp_repeat_ref (T := "list") (U := "int") (by decide) ⟨_, e, rfl⟩ (fun s' => typeIs_int s' k t) noFill_list_mul F.fills_int_mul F.slot_int_rmul repeat_list F.slot_int_index.lookup
    (call_meets F.slot_int_rmul (typeIs_int s k t) F.entry_int_rmul (F.args_int_rmul_2 _ _) (int___rmul___int_list k t l its.toArray n)
      ⟨e, rfl, ⟨_, e, rfl⟩, call_meets F.slot_list_mul ⟨_, e, rfl⟩ F.entry_list_mul (F.args_list_mul_2 _ _) (AutoListH.list___mul___list_int_3 l its.toArray n k t hfit hcap hlong) ⟨e, ?_⟩⟩)
  rw [hnew]
  exact ⟨.ref _, _, I.lnew (t' := s.toks) (r.rep k.toNat) (by rw [len_rep, Nat.mul_comm]; exact hz), rfl, q _ I.fresh⟩
end
section
variable {prog : Program} {w : World} {A : Around} {E : Value → Shared → Prop} {s : Shared}
set_option maxRecDepth 100000 in
end
end L2
namespace L2
open PySem PySem.Spec PyProof.Rows
section
variable {X : Cx}
def rIndex (K : W.Frag) : V → List V → Hp → VK → Prop := fun x xs H Q => ∃ (a : Addr) (ys : List V) (y : V) (j : Nat) (z : V), x = V.ref a ∧ xs = [y] ∧ SqL K H a ys ∧ flatV y = true ∧ ys.all flatV = true ∧ ys[j]? = some z ∧ eqV z y = true ∧
  (∀ (m : Nat) (z' : V), m < j → ys[m]? = some z' → eqV z' y = false) ∧ Q (.int (j : Nat)) H
theorem flat_at {ys : List V} (f : ys.all flatV = true) {j : Nat} {z : V} (h : ys[j]? = some z) : flatV z = true := List.all_eq_true.mp f z (List.mem_of_getElem? h)
theorem mt_index : MtR X "list.index" (rIndex X.K) := by
  intro pins s σ H x xs v us Q I rx rxs h
  obtain ⟨a, ys, y, j, z, rfl, rfl, hs, fy, fys, hz, hzj, hno, q⟩ := h
  cases rx
  cases rxs with
  | cons ry rt =>
    rename_i uy ut
    cases rt
    obtain ⟨its, rv, ⟨⟨cls, dd, data, sl⟩, n, ho, hc, hdn, hd⟩, hlen⟩ := I.list hs
    simp only at hc hd
    subst hc hd
    obtain ⟨u, hu, ru⟩ := rv.get hz
    obtain ⟨hjl, hje⟩ := List.getElem?_eq_some_iff.mp hu
    have hvl := rv.length
    have hj : j < its.toArray.size := by simpa using hjl
    have hsl := sizeLine_eq
    refine call_meets PySem.F.slot_list_index ⟨_, ho, rfl⟩ PySem.F.entry_list_index (PySem.F.args_list_index_2 _ _)
      (SeqAt.list_indexAt a its.toArray n dd sl uy (eqU y) j hj (by omega) ?_ ?_) ⟨ho, fun u' hu' => mem_eqAt ry fy rv fys u' (by simpa using hu'), ?_⟩
    · have e1 : its.toArray[j] = u := by simpa using hje
      rw [e1, eqU_of ru (flat_at fys hz)]
      exact hzj
    · intro m hm hmj
      have hml : m < its.length := by simpa using hm
      have hmy : m < ys.length := by omega
      have hy' : ys[m]? = some ys[m] := List.getElem?_eq_getElem hmy
      obtain ⟨u2, hu2, ru2⟩ := rv.get hy'
      obtain ⟨_, hme⟩ := List.getElem?_eq_some_iff.mp hu2
      have e1 : its.toArray[m] = u2 := by simpa using hme
      rw [e1, eqU_of ru2 (flat_at fys hy')]
      exact hno m _ hmj hy'
    · exact ⟨.int (j : Nat), H, I.tok _, ⟨_, rfl⟩, q⟩
end
mutual
inductive Dp (K : W.Frag) (H : Hp) : V → PyData → Prop
  | non : Dp K H .non .none
  | bl (b : Bool) : Dp K H (.bl b) (.bool b)
  | int (i : Int) : Dp K H (.int i) (.int i)
  | str (x : Str) : Dp K H (.str x) (.str x)
  | lst {a : Addr} {xs : List V} {ds : List PyData} : SqL K H a xs → DpAll K H xs ds → Dp K H (.ref a) (.list ds)
  | tup {a : Addr} {xs : List V} {ds : List PyData} : SqT K H a xs → DpAll K H xs ds → Dp K H (.ref a) (.tuple ds)
inductive DpAll (K : W.Frag) (H : Hp) : List V → List PyData → Prop
  | nil : DpAll K H [] []
  | cons {v : V} {vs : List V} {d : PyData} {ds : List PyData} : Dp K H v d → DpAll K H vs ds → DpAll K H (v :: vs) (d :: ds)
end
section
variable {X : Cx} {pins : List (Addr × Obj)} {σ : St} {H : Hp} {s : Shared}
mutual
theorem Dp.reads (I : Inv X pins σ H s) : ∀ (d : PyData) (v : V) (u : Value), Dp X.K H v d → RelV v u → ∃ as, Reads s.heap u d as
  | .none, _, _, h, r => by
    cases h
    cases r
    exact ⟨_, Reads.none⟩
  | .bool b, _, _, h, r => by
    cases h
    cases r
    exact ⟨_, Reads.bool b⟩
  | .int i, _, _, h, r => by
    cases h
    obtain ⟨t, rfl⟩ := r
    exact ⟨_, Reads.int i t⟩
  | .str x, _, _, h, r => by
    cases h
    obtain ⟨t, rfl⟩ := r
    exact ⟨_, Reads.str x t⟩
  | .list ds, _, _, h, r => by
    cases h with
    | lst hs ha =>
      cases r
      obtain ⟨its, rv, ⟨o, n, ho, hc, _, hd⟩, _⟩ := I.list hs
      obtain ⟨as, hr⟩ := Dp.readsAll I ds _ its ha rv
      exact ⟨_, Reads.list ho hc hd hr⟩
  | .tuple ds, _, _, h, r => by
    cases h with
    | tup hs ha =>
      cases r
      obtain ⟨its, rv, ⟨o, ho, hc, n, hd⟩, _⟩ := I.tuple hs
      obtain ⟨as, hr⟩ := Dp.readsAll I ds _ its ha rv
      exact ⟨_, Reads.tuple ho hc hd hr⟩
  | .dict _, _, _, h, _ => by cases h
theorem Dp.readsAll (I : Inv X pins σ H s) : ∀ (ds : List PyData) (vs : List V) (us : List Value), DpAll X.K H vs ds → Vals vs us → ∃ as, ReadsAll s.heap us ds as
  | [], _, _, h, r => by
    cases h
    cases r
    exact ⟨_, ReadsAll.nil⟩
  | d :: ds, _, _, h, r => by
    cases h with
    | cons h1 h2 =>
      cases r with
      | cons r1 r2 =>
        obtain ⟨as, q1⟩ := Dp.reads I d _ _ h1 r1
        obtain ⟨bs, q2⟩ := Dp.readsAll I ds _ _ h2 r2
        exact ⟨_, ReadsAll.cons q1 q2⟩
end
end
section
variable {X : Cx}
def rEqD (K : W.Frag) : R2 := fun x y H Q => ∃ d e, Dp K H x d ∧ Dp K H y e ∧ SeqAt.shaped d = true ∧ SeqAt.shaped e = true ∧ Q (.bl (PyData.eqv d e)) H
def rNeD (K : W.Frag) : R2 := fun x y H Q => ∃ d e, Dp K H x d ∧ Dp K H y e ∧ SeqAt.shaped d = true ∧ SeqAt.shaped e = true ∧ Q (.bl (!PyData.eqv d e)) H
theorem op_eqD (hu : X.A.units + 64 < cLine) : OpR X (compareOp .Eq) (rEqD X.K) := by
  intro pins s σ H x y v u Q I rx ry h
  obtain ⟨d, e, hd, he, sd, se, q⟩ := h
  obtain ⟨as, r1⟩ := Dp.reads I d x v hd rx
  obtain ⟨bs, r2⟩ := Dp.reads I e y u he ry
  exact SeqAt.compareEq_shaped r1 r2 sd se hu ⟨.bl _, H, I, rfl, q⟩
theorem op_neD (hu : X.A.units + 64 < cLine) : OpR X (compareOp .NotEq) (rNeD X.K) := by
  intro pins s σ H x y v u Q I rx ry h
  obtain ⟨d, e, hd, he, sd, se, q⟩ := h
  obtain ⟨as, r1⟩ := Dp.reads I d x v hd rx
  obtain ⟨bs, r2⟩ := Dp.reads I e y u he ry
  exact SeqAt.compareNe_shaped r1 r2 sd se hu ⟨.bl _, H, I, rfl, q⟩
end
end L2
namespace L2
open PySem PySem.Spec PyProof.Rows
abbrev CellAt (h : Heap) (c : Addr) (v : Option Value) : Prop := h.IsCell c v
def relS (scope sc : Scope) : Scope :=
  { scope with names := scope.names.map fun (n, k) => if (k == .free && sc.kind == .function && sc.names.lookup n == some .cell) then (n, .cell) else (n, k) }
def cloFrom (cells : List (Str × Addr)) : List (Str × NameKind) → List (Str × Addr) → List (Str × Addr)
  | [], acc => acc
  | (n, k) :: r, acc => if k == .free then cloFrom cells r ((n, (cells.lookup n).getD 0) :: acc) else cloFrom cells r acc
theorem closure_loop (env : Env) (f : Str × NameKind → List (Str × Addr) → Sem (ForInStep (List (Str × Addr))))
    (hf : ∀ n k c, f (n, k) c = if k == .free then (do let a ← cellOf env n; pure (.yield ((n, a) :: c))) else pure (.yield c)) :
    ∀ (names : List (Str × NameKind)) (acc : List (Str × Addr)), (∀ y ∈ names, y.2 = .free → ∃ c, env.cells.lookup y.1 = some c) → forIn names acc f = pure (cloFrom env.cells names acc)
  | [], acc, _ => by rw [List.forIn_nil]; rfl
  | (n, k) :: r, acc, h => by
    rw [List.forIn_cons, hf]
    have ih := fun acc => closure_loop env f hf r acc fun y hy => h y (List.mem_cons_of_mem _ hy)
    unfold cloFrom
    by_cases hk : (k == NameKind.free) = true
    · rw [if_pos hk, if_pos hk]
      obtain ⟨c, hc⟩ := h (n, k) List.mem_cons_self (by simpa using hk)
      have e : cellOf env n = pure c := by unfold cellOf; rw [hc]
      rw [e]
      have e2 : (env.cells.lookup n).getD 0 = c := by rw [hc]; rfl
      rw [e2]
      exact ih _
    · rw [if_neg hk, if_neg hk]
      exact ih _
theorem closure_ok {scope : Scope} {env : Env} (h : ∀ y ∈ scope.names, y.2 = .free → ∃ c, env.cells.lookup y.1 = some c) : closureFor scope env = pure (cloFrom env.cells scope.names []) := by
  simp only [closureFor]
  rw [closure_loop env _ (fun n k c => rfl) scope.names [] h]
  rfl
theorem mem_lookup {α : Type} : ∀ {l : List (Str × α)} {n : Str} {c : α}, (n, c) ∈ l → ∃ c', l.lookup n = some c'
  | (k, v) :: r, n, c, h => by
    rw [List.lookup_cons]
    cases hb : n == k with
    | true => exact ⟨_, rfl⟩
    | false =>
      rcases List.mem_cons.mp h with e | h
      · cases e; simp at hb
      · exact mem_lookup h
theorem cloFrom_mem {cells : List (Str × Addr)} : ∀ {names : List (Str × NameKind)} {acc : List (Str × Addr)} {n : Str} {c : Addr}, (n, c) ∈ cloFrom cells names acc → (n, c) ∈ acc ∨ ((n, .free) ∈ names ∧ c = (cells.lookup n).getD 0)
  | [], _, _, _, h => .inl h
  | (m, k) :: r, acc, n, c, h => by
    unfold cloFrom at h
    split at h
    · rename_i hk
      have hk : k = .free := by simpa using hk
      rcases cloFrom_mem h with h | ⟨h1, h2⟩
      · rcases List.mem_cons.mp h with e | h
        · cases e; exact .inr ⟨hk ▸ List.mem_cons_self, rfl⟩
        · exact .inl h
      · exact .inr ⟨List.mem_cons_of_mem _ h1, h2⟩
    · rcases cloFrom_mem h with h | ⟨h1, h2⟩
      · exact .inl h
      · exact .inr ⟨List.mem_cons_of_mem _ h1, h2⟩
theorem cloFrom_acc {cells : List (Str × Addr)} : ∀ {names : List (Str × NameKind)} {acc : List (Str × Addr)} {p : Str × Addr}, p ∈ acc → p ∈ cloFrom cells names acc
  | [], _, _, h => h
  | (m, k) :: r, acc, p, h => by
    unfold cloFrom
    split
    · exact cloFrom_acc (List.mem_cons_of_mem _ h)
    · exact cloFrom_acc h
theorem cloFrom_has {cells : List (Str × Addr)} : ∀ {names : List (Str × NameKind)} {acc : List (Str × Addr)} {n : Str}, (n, .free) ∈ names → (n, (cells.lookup n).getD 0) ∈ cloFrom cells names acc
  | (m, k) :: r, acc, n, h => by
    unfold cloFrom
    rcases List.mem_cons.mp h with e | h
    · cases e
      exact cloFrom_acc List.mem_cons_self
    · split
      · exact cloFrom_has h
      · exact cloFrom_has h
theorem cells_mem : ∀ {names : List (Str × NameKind)} {h : Heap} {acc : List (Str × Addr)} {x : Str} {c : Addr}, (x, c) ∈ cellsFrom h.objs.size names acc →
    (x, c) ∈ acc ∨ ((x, .cell) ∈ names ∧ h.objs.size ≤ c ∧ CellAt (pushCells h names) c none)
  | [], _, _, _, _, h => .inl h
  | (n, k) :: r, h, acc, x, c, hm => by
    unfold cellsFrom at hm
    unfold pushCells
    split at hm
    · rename_i hk
      rw [if_pos hk]
      have hk : k = .cell := by simpa using hk
      rw [← Heap.size_push h { cls := .type "cell", data := .cell none }] at hm
      rcases cells_mem hm with hm | ⟨h1, h2, h3⟩
      · rcases List.mem_cons.mp hm with e | hm
        · cases e
          exact .inr ⟨hk ▸ List.mem_cons_self, Nat.le_refl _, _, pushCells_keeps r _ _ _ (Heap.get?_push_size _ rfl), rfl⟩
        · exact .inl hm
      · rw [Heap.size_push] at h2
        exact .inr ⟨List.mem_cons_of_mem _ h1, Nat.le_of_succ_le h2, h3⟩
    · rename_i hk
      rw [if_neg hk]
      rcases cells_mem hm with hm | ⟨h1, h2, h3⟩
      · exact .inl hm
      · exact .inr ⟨List.mem_cons_of_mem _ h1, h2, h3⟩
theorem cells_acc : ∀ {names : List (Str × NameKind)} {n : Nat} {acc : List (Str × Addr)} {p : Str × Addr}, p ∈ acc → p ∈ cellsFrom n names acc
  | [], _, _, _, h => h
  | (m, k) :: r, n, acc, p, h => by
    unfold cellsFrom
    split
    · exact cells_acc (List.mem_cons_of_mem _ h)
    · exact cells_acc h
theorem cells_has : ∀ {names : List (Str × NameKind)} {n : Nat} {acc : List (Str × Addr)} {x : Str}, (x, .cell) ∈ names → ∃ c, (x, c) ∈ cellsFrom n names acc
  | (m, k) :: r, n, acc, x, h => by
    unfold cellsFrom
    rcases List.mem_cons.mp h with e | h
    · cases e
      exact ⟨n, cells_acc List.mem_cons_self⟩
    · split
      · exact cells_has h
      · exact cells_has h
theorem cells_inj : ∀ {names : List (Str × NameKind)} {h : Heap} {acc : List (Str × Addr)} {x y : Str} {c : Addr}, (∀ p ∈ acc, p.2 < h.objs.size) → (∀ x y c, (x, c) ∈ acc → (y, c) ∈ acc → x = y) →
    (x, c) ∈ cellsFrom h.objs.size names acc → (y, c) ∈ cellsFrom h.objs.size names acc → x = y
  | [], _, _, _, _, _, _, hi, h1, h2 => hi _ _ _ h1 h2
  | (n, k) :: r, h, acc, x, y, c, hl, hi, h1, h2 => by
    unfold cellsFrom at h1 h2
    split at h1
    · rename_i hk
      rw [if_pos hk] at h2
      rw [← Heap.size_push h { cls := .type "cell", data := .cell none }] at h1 h2
      refine cells_inj (h := h.push _) (fun p hp => ?_) (fun x y c a b => ?_) h1 h2
      · rw [Heap.size_push]
        rcases List.mem_cons.mp hp with rfl | hp
        · exact Nat.lt_succ_self _
        · exact Nat.lt_succ_of_lt (hl p hp)
      · rcases List.mem_cons.mp a with e | a <;> rcases List.mem_cons.mp b with e' | b
        · cases e; cases e'; rfl
        · cases e; exact absurd (hl _ b) (Nat.lt_irrefl _)
        · cases e'; exact absurd (hl _ a) (Nat.lt_irrefl _)
        · exact hi _ _ _ a b
    · rename_i hk
      rw [if_neg hk] at h2
      exact cells_inj hl hi h1 h2
theorem newEnv_comp {M : Model} {A : Around} {E : Value → Shared → Prop} {s : Shared} {scope : Scope} {globals : Addr} {closure : List (Str × Addr)} {qual : Str} {func : Option Addr} {code : Value} {around : Env} {builtins : Addr} {Q : Env → Shared → Prop}
    (h : Q (newEnv scope s.heap.objs.size globals (cellsFrom (s.heap.objs.size + 1) scope.names closure) qual func code (some around) builtins)
      { s with heap := pushCells (s.heap.push { cls := .type "dict", data := .dict #[] }) scope.names }) :
    wpAny M A (newFunctionEnv scope globals closure [] qual func code (some around) builtins) Q E s := by
  simp only [newFunctionEnv, Option.isSome_some, if_true]
  refine wpAny_bind (wpAny_alloc ?_)
  refine wpAny_bind (wpAny_layCells _ (fun n k c => rfl) scope.names closure _ _ ?_)
  rw [show ({ s with heap := s.heap.push { cls := .type "dict", data := .dict #[] } } : Shared).heap.objs.size = s.heap.objs.size + 1 from Heap.size_push ..]
  rw [List.forIn_nil]
  exact wpAny_bind (wpAny_pure (wpAny_pure h))
theorem lookup_relS {sc : Scope} : ∀ {names : List (Str × NameKind)} {x : Str} {k : NameKind},
    (names.map fun (n, k) => if (k == NameKind.free && sc.kind == .function && sc.names.lookup n == some .cell) then (n, NameKind.cell) else (n, k)).lookup x = some k →
    ∃ k', names.lookup x = some k' ∧ (k = k' ∨ (k' = .free ∧ k = .cell))
  | [], _, _, h => by simp at h
  | (n, k₀) :: r, x, k, h => by
    have ih := @lookup_relS sc r x k
    have h' : List.lookup x ((if (k₀ == NameKind.free && sc.kind == .function && sc.names.lookup n == some .cell) = true then (n, NameKind.cell) else (n, k₀)) :: (r.map _)) = some k := h
    cases hx : x == n with
    | true =>
      simp only [List.lookup_cons, hx]
      by_cases hc : (k₀ == NameKind.free && sc.kind == .function && sc.names.lookup n == some .cell) = true
      · rw [if_pos hc] at h'
        simp only [List.lookup_cons, hx] at h'
        cases h'
        simp only [Bool.and_eq_true, beq_iff_eq] at hc
        exact ⟨k₀, rfl, .inr ⟨hc.1.1, rfl⟩⟩
      · rw [if_neg hc] at h'
        simp only [List.lookup_cons, hx] at h'
        cases h'
        exact ⟨_, rfl, .inl rfl⟩
    | false =>
      simp only [List.lookup_cons, hx]
      by_cases hc : (k₀ == NameKind.free && sc.kind == .function && sc.names.lookup n == some .cell) = true
      · rw [if_pos hc] at h'
        simp only [List.lookup_cons, hx] at h'
        exact ih h'
      · rw [if_neg hc] at h'
        simp only [List.lookup_cons, hx] at h'
        exact ih h'
structure BlkOk (N : List Str) (sc scope : Scope) (own : List (Str × Nat)) : Prop where
  kind : scope.kind = .function
  uniq : ∀ y ∈ scope.names, scope.names.lookup y.1 = some y.2
  ix : ∀ p ∈ own, N[p.2]? = some p.1
  free : ∀ y ∈ scope.names, y.2 = .free → sc.names.lookup y.1 = some .cell ∨ sc.names.lookup y.1 = some .free
  own : ∀ y ∈ scope.names, y.2 = .local ∨ y.2 = .cell → y.1 ∈ own.map (·.1) ∨ y.1 ∉ N
def wipe (σ : St) : List Nat → St
  | [] => σ
  | v :: vs => (wipe σ vs).set v none
theorem wipe_length (σ : St) : ∀ vs : List Nat, (wipe σ vs).length = σ.length
  | [] => rfl
  | v :: vs => by unfold wipe; rw [List.length_set, wipe_length σ vs]
theorem wipe_some {σ : St} {i : Nat} {x : V} : ∀ {vs : List Nat}, (wipe σ vs)[i]? = some (some x) → σ[i]? = some (some x) ∧ i ∉ vs
  | [], h => ⟨h, by simp⟩
  | v :: vs, h => by
    unfold wipe at h
    by_cases hi : v = i
    · subst hi
      by_cases hv : v < (wipe σ vs).length
      · rw [List.getElem?_set_self hv] at h; cases h
      · rw [List.getElem?_eq_none (by simpa using hv)] at h; cases h
    · rw [List.getElem?_set_ne hi] at h
      obtain ⟨h1, h2⟩ := wipe_some h
      exact ⟨h1, by simp only [List.mem_cons, not_or]; exact ⟨fun e => hi e.symm, h2⟩⟩
abbrev Cx.blk (X : Cx) (s : Shared) (H : Hp) (scope : Scope) (cenv : Env) (fp : List Addr) : Cx := { X with s_0 := s, H_0 := H, env := cenv, outer := X.stack, ex := fp, fn := fun x => scope.names.lookup x == some .cell, pn := [], xe := fun _ _ => False }
section
variable {X : Cx} {pins : List (Addr × Obj)} {σ : St} {H : Hp} {s : Shared}
theorem block_start {scope : Scope} {own : List (Str × Nat)} {fp : List Addr} (I : Inv X pins σ H s) (ok : BlkOk X.N X.env.scope scope own) (hN : X.N.Nodup) (hfp : ∀ b ∈ fp, FpOk X pins H b ∧ b < s.heap.objs.size) :
    Inv (X.blk s H scope (compEnvC scope (cellsFrom (s.heap.objs.size + 1) scope.names (cloFrom X.env.cells scope.names [])) s.heap.objs.size X.env) fp) [] (wipe σ (own.map (·.2))) H { s with heap := pushCells (s.heap.push { cls := .type "dict", data := .dict #[] }) scope.names } := by
  have hfree : ∀ y ∈ scope.names, y.2 = .free → ∃ c, X.env.cells.lookup y.1 = some c := fun y hy e => by
    rcases ok.free y hy e with k | k
    · exact I.ok.has _ (.inl k)
    · exact I.ok.has _ (.inr k)
  generalize hcenv : compEnvC scope (cellsFrom (s.heap.objs.size + 1) scope.names (cloFrom X.env.cells scope.names [])) s.heap.objs.size X.env = cenv
  have kp : ∀ b o, s.heap.get? b = some o → (pushCells (s.heap.push { cls := .type "dict", data := .dict #[] }) scope.names).get? b = some o := fun b o e => pushCells_keeps _ _ _ _ (Heap.get?_push_of_some _ e)
  have hL : cenv.locals = s.heap.objs.size := by rw [← hcenv]; rfl
  have hcl : cenv.cells = cellsFrom (s.heap.objs.size + 1) scope.names (cloFrom X.env.cells scope.names []) := by rw [← hcenv]; rfl
  have hsc : cenv.scope = relS scope X.env.scope := by rw [← hcenv]; rfl
  rw [← Heap.size_push s.heap { cls := .type "dict", data := .dict #[] }] at hcl
  have cm : ∀ {y c}, (y, c) ∈ cloFrom X.env.cells scope.names [] → X.env.cells.lookup y = some c ∧ c < s.heap.objs.size := fun {y c} hm => by
    rcases cloFrom_mem hm with hm | ⟨h1, rfl⟩
    · cases hm
    · obtain ⟨c, hc⟩ := hfree _ h1 rfl
      rw [hc]
      obtain ⟨w, z⟩ := I.cell _ _ hc
      exact ⟨rfl, z.lt⟩
  have mem : ∀ {y c}, cenv.cells.lookup y = some c → (X.env.cells.lookup y = some c ∧ c < s.heap.objs.size) ∨ (s.heap.objs.size + 1 ≤ c ∧ CellAt (pushCells (s.heap.push { cls := .type "dict", data := .dict #[] }) scope.names) c none) := fun {y c} e => by
    rw [hcl] at e
    rcases cells_mem (PySem.mem_of_lookup e) with hm | ⟨_, h2, h3⟩
    · exact .inl (cm hm)
    · rw [Heap.size_push] at h2; exact .inr ⟨h2, h3⟩
  have look : ∀ {y}, scope.names.lookup y = some .free → ∃ c, cenv.cells.lookup y = some c ∧ X.env.cells.lookup y = some c := fun {y} hl => by
    have hy : (y, NameKind.free) ∈ scope.names := PySem.mem_of_lookup hl
    obtain ⟨c', e'⟩ := mem_lookup (cells_acc (names := scope.names) (n := (s.heap.push { cls := .type "dict", data := .dict #[] }).objs.size) (cloFrom_has (cells := X.env.cells) (acc := []) hy))
    rw [← hcl] at e'
    refine ⟨c', e', ?_⟩
    rw [hcl] at e'
    rcases cells_mem (PySem.mem_of_lookup e') with hm | ⟨h1, _, _⟩
    · exact (cm hm).1
    · have := ok.uniq _ h1
      rw [hl] at this; cases this
  have okB : (X.blk s H scope cenv fp).Ok := by
    refine ⟨I.ok.mod, by show cenv.scope.kind = _; rw [hsc]; exact ok.kind, by show cenv.globals = _; rw [← hcenv]; exact I.ok.glob, by show cenv.builtins = _; rw [← hcenv]; exact I.ok.blt, by show s.heap.objs.size ≤ cenv.locals; rw [hL]; exact Nat.le_refl _,
      fun y z c e1 e2 => ?_, fun y hy => ?_, fun y c z e => ?_, I.ok.hd, I.ok.frames, .inl rfl, fun b hb => ⟨?_, fun y c e z => ?_⟩, I.bs, Nat.le_trans I.ok.bsz I.sz, fun b o e hb => ?_, fun b hb z => ?_, I.stack, I.stkFree⟩
    · have e1 : cenv.cells.lookup y = some c := e1
      have e2 : cenv.cells.lookup z = some c := e2
      rw [hcl] at e1 e2
      refine cells_inj (fun p hp => ?_) (fun y z c a b => I.ok.inj y z c (cm a).1 (cm b).1) (PySem.mem_of_lookup e1) (PySem.mem_of_lookup e2)
      rw [Heap.size_push]
      exact Nat.lt_succ_of_lt (cm (y := p.1) (c := p.2) hp).2
    · show ∃ c, cenv.cells.lookup y = some c
      have key : ∀ k, cenv.kindOf y = some k → (k = .cell ∨ k = .free) → ∃ c, cenv.cells.lookup y = some c := fun k hk hk' => by
        unfold Env.kindOf at hk
        rw [hsc] at hk
        obtain ⟨k', e, r⟩ := lookup_relS hk
        have : k' = .cell ∨ k' = .free := by
          rcases r with rfl | ⟨rfl, _⟩
          · exact hk'
          · exact .inr rfl
        rcases this with rfl | rfl
        · obtain ⟨c, hm⟩ := cells_has (n := (s.heap.push { cls := .type "dict", data := .dict #[] }).objs.size) (acc := cloFrom X.env.cells scope.names []) (PySem.mem_of_lookup e)
          obtain ⟨c', e'⟩ := mem_lookup hm
          exact ⟨c', by rw [hcl]; exact e'⟩
        · obtain ⟨c, h1, _⟩ := look e
          exact ⟨c, h1⟩
      rcases hy with hy | hy
      · exact key _ hy (.inl rfl)
      · exact key _ hy (.inr rfl)
    · have z : (scope.names.lookup y == some NameKind.cell) = true := z
      have z : scope.names.lookup y = some .cell := by simpa using z
      have e : cenv.cells.lookup y = some c := e
      rw [hcl] at e
      rcases cells_mem (PySem.mem_of_lookup e) with hm | ⟨_, h2, _⟩
      · rcases cloFrom_mem hm with hm | ⟨h1, _⟩
        · cases hm
        · have q := ok.uniq _ h1
          rw [z] at q; cases q
      · rw [Heap.size_push] at h2
        exact Nat.le_of_succ_le h2
    · show b ≠ cenv.locals
      rw [hL]; exact Nat.ne_of_lt (hfp b hb).2
    · have e : cenv.cells.lookup y = some c := e
      rcases mem e with ⟨h1, _⟩ | ⟨h1, _⟩
      · exact (hfp b hb).1.2.2.2.2.1 y c h1 z
      · have h2 : s.heap.objs.size + 1 ≤ b := by rw [← z]; exact h1
        exact absurd (Nat.lt_of_lt_of_le (hfp b hb).2 (Nat.le_of_succ_le h2)) (Nat.lt_irrefl _)
    · rcases (hfp b hb).1.2.2.2.1 with z | z
      · exact I.ok.noex b o e z
      · exact absurd (Nat.lt_of_lt_of_le (Heap.lt_size e) (Nat.le_trans I.ok.bsz z)) (Nat.lt_irrefl _)
    · rcases List.mem_cons.mp (I.stkSub b z) with z | z
      · exact (hfp b hb).1.2.1 z
      · exact (hfp b hb).1.2.2.1 z
  refine ⟨okB, rfl, I.bare, Un.kept kp, ⟨fun _ => none, ?_, fun i y av e1 e2 e3 => ?_⟩, fun y c e => ?_, ?_, fun y c e => ?_, fun p hp => ?_, I.hok.kept kp, by rw [wipe_length]; exact I.len⟩
  · show Heap.Ns _ cenv.locals _
    rw [hL]
    exact Heap.Ns.keeps (Heap.Ns.new ..) fun b o e => pushCells_keeps _ _ _ _ e
  · obtain ⟨e2, hne⟩ := wipe_some e2
    have hfr : scope.names.lookup y = some .free ∧ (cenv.kindOf y = some .cell ∨ cenv.kindOf y = some .free) := by
      have key : ∀ k, cenv.scope.names.lookup y = some k → k = .local ∨ k = .cell ∨ k = .free → scope.names.lookup y = some .free ∧ (cenv.kindOf y = some .cell ∨ cenv.kindOf y = some .free) := fun k hk hk' => by
        have hk0 := hk
        rw [hsc] at hk
        obtain ⟨k', e, r⟩ := lookup_relS hk
        have no : ¬ (k' = .local ∨ k' = .cell) := fun hh => by
          rcases ok.own _ (PySem.mem_of_lookup e) hh with e' | e'
          · obtain ⟨p, hp, hpy⟩ := List.mem_map.mp e'
            have e3 := ok.ix p hp
            have : p.1 = y := hpy
            rw [this] at e3
            exact hne (List.mem_map.mpr ⟨p, hp, nodup_ix hN e3 e1⟩)
          · exact e' (List.mem_of_getElem? e1)
        rcases r with rfl | ⟨rfl, rfl⟩
        · rcases hk' with rfl | rfl | rfl
          · exact absurd (.inl rfl) no
          · exact absurd (.inr rfl) no
          · exact ⟨e, .inr hk0⟩
        · exact ⟨e, .inl hk0⟩
      have e3 : Vis cenv.scope y := e3
      rcases e3 with e3 | e3 | e3
      · exact key _ e3 (.inl rfl)
      · exact key _ e3 (.inr (.inl rfl))
      · exact key _ e3 (.inr (.inr rfl))
    obtain ⟨m, hn, hl⟩ := I.loc
    have hvis : Vis X.env.scope y := (ok.free _ (PySem.mem_of_lookup hfr.1) rfl).elim (fun k => .inr (.inl k)) (fun k => .inr (.inr k))
    obtain ⟨w, r, q⟩ := hl i y av e1 e2 hvis
    refine ⟨w, r, .inr ⟨hfr.2, ?_⟩⟩
    obtain ⟨c, h1, h2⟩ := look hfr.1
    rcases q with ⟨k, _⟩ | ⟨_, c', e', z⟩
    · have k : X.env.scope.names.lookup y = some .local := k
      rcases ok.free _ (PySem.mem_of_lookup hfr.1) rfl with k' | k' <;> rw [show X.env.scope.names.lookup y = _ from k'] at k <;> cases k
    · rw [h2] at e'; cases e'
      exact ⟨c, h1, z.keeps kp⟩
  · have e : cenv.cells.lookup y = some c := e
    rcases mem e with ⟨h1, _⟩ | ⟨_, z⟩
    · obtain ⟨w, z⟩ := I.cell y c h1
      exact ⟨w, z.keeps kp⟩
    · exact ⟨_, z⟩
  · show H cenv.locals = none
    rw [hL]; exact I.hok.fresh (Nat.le_refl _)
  · have e : cenv.cells.lookup y = some c := e
    rcases mem e with ⟨h1, _⟩ | ⟨h1, _⟩
    · exact I.freeC y c h1
    · exact I.hok.fresh (Nat.le_of_succ_le h1)
  · exact absurd (show p ∈ ([] : List (Addr × Obj)) ++ [] from hp) (by simp)
theorem app_ok {E : Value → Shared → Prop} {D : Addr} {xs : List V} {y : V} {v : Value} {Q : Value → Shared → Prop} (I : Inv X pins σ H s) (hD : H D = some (.lst xs)) (hz : xs.length < sizeLine) (r : RelV y v)
    (h : ∀ s', Inv X pins σ (upd H D (.lst (xs ++ [y]))) s' → Q .none s') : wpAny (model X.prog X.w) X.A (call (.builtin "list.append") [.ref D, v]) Q E s := by
  obtain ⟨hz', its, n, ri, e⟩ := I.hok D _ hD
  have hl := ri.length
  refine append_at (hsz := by rw [List.size_toArray]; omega) e fun h' sb ho' => ?_
  refine h { s with heap := h' } (I.write (t' := s.toks) (by rw [hD]; trivial) (.inl rfl) (fun b u hb q => (sb.2 b hb).trans q) ⟨_, ho'⟩ ⟨by rw [List.length_append]; exact hz, its ++ [v], n + 1, ri.append (.cons r .nil), ?_⟩)
  rw [ho']
  simp
def PTs (X : Cx) (ifs : List Expr) (t : TT) : Prop :=
  ∀ (pins : List (Addr × Obj)) (s : Shared) (σ : St) (H : Hp) (Q : Bool → Hp → Prop), Inv X pins σ H s → t σ H Q →
    wpAny (model X.prog X.w) X.A (forIn ifs true fun c r => if r = true then do let ok ← isTrue c X.env (eval c X.env); pure (ForInStep.yield ok) else pure (ForInStep.yield r)) (TP X pins σ Q) X.xe s
def tYes : TT := fun _ H Q => Q true H
theorem pts_nil : PTs X [] tYes := fun _ _ _ H _ I h => wpAny_tests_nil ⟨H, I, h⟩
theorem pts_one {c : Expr} {t : TT} (h : PT X c t) : PTs X [c] t := fun pins s σ H Q I hw => wpAny_tests_one (h pins s σ H Q I hw)
end
theorem thnF {α : Type} {t : Sem α} {Q Q' : α → Shared → Prop} {M : Model} {A : Around} {E : Value → Shared → Prop} {s : Shared} (h : wpAny M A t Q (fun _ _ => False) s) (hQ : ∀ a s, Q a s → Q' a s) : wpAny M A t Q' E s := wpAny_mono h hQ fun _ _ z => False.elim z
theorem compLoop_any {prog : Program} {w : World} {A : Around} {R : Result → Shared → Prop} {s : Shared} {elt target iter : Expr} {ifs : List Expr} {scope : Scope} {pos : Pos} {it acc : Value} {env : Env} (I : Nat → Shared → Prop)
    (turn : ∀ n s, I n s → wpAny (model prog w) A (pyNext it) (fun r s₁ => match r with
      | none => R (.ok .next) s₁
      | some v => wpAny (model prog w) A (letOwnedTupleGo target it v) (fun _ s₁' => wpAny (model prog w) A (assign target env v) (fun _ s₂ =>
          wpAny (model prog w) A (forIn ifs true fun c r => if r = true then do let ok ← isTrue c env (eval c env); pure (ForInStep.yield ok) else pure (ForInStep.yield r)) (fun ok s₃ =>
            if ok = true then wpAny (model prog w) A (eval elt env) (fun x s₄ =>
              wpAny (model prog w) A (call (.builtin "list.append") [acc, x]) (fun _ s₅ => ∃ m, m < n ∧ I m s₅) (notedBy (model prog w) A env fun e s' => R (.error e) s') s₄) (notedBy (model prog w) A env fun e s' => R (.error e) s') s₃
            else ∃ m, m < n ∧ I m s₃) (notedBy (model prog w) A env fun e s' => R (.error e) s') s₂) (notedBy (model prog w) A env fun e s' => R (.error e) s') s₁') (notedBy (model prog w) A env fun e s' => R (.error e) s') s₁) (notedBy (model prog w) A env fun e s' => R (.error e) s') s)
    (n : Nat) (h : I n s) :
    codeAny (model prog w) A (.compLoop (.ListComp elt [⟨target, iter, ifs, 0⟩] scope pos) 0 it acc env) R s := by
  refine codeAny_loop rfl I (fun n s hI => ?_) n h
  show wpAny _ A ((compTurn (.ListComp elt [⟨target, iter, ifs, 0⟩] scope pos) 0 it acc env).onRaise (fun x => do noteFrame x env; theTreesLotGoes x)) _ _ s
  refine wpAny_noted ?_
  rw [compTurn_list]
  refine wpAny_bind (wpAny_standAt (wpAny_bind (wpAny_mono (turn n s hI) (fun r s₁ h₁ => ?_) fun _ _ h' => h')))
  cases r with
  | none => exact wpAny_pure h₁
  | some v =>
    refine wpAny_bind (wpAny_mono h₁ (fun _ s₁' h₁' => ?_) fun _ _ h' => h')
    refine wpAny_bind (wpAny_mono h₁' (fun _ s₂ h₂ => wpAny_bind (wpAny_mono h₂ (fun ok s₃ h₃ => ?_) fun _ _ h' => h')) fun _ _ h' => h')
    cases ok with
    | false => exact wpAny_pure ⟨rfl, h₃⟩
    | true =>
      exact wpAny_bind (wpAny_bind (wpAny_mono h₃ (fun x s₄ h₄ => wpAny_bind (wpAny_mono h₄ (fun _ s₅ h₅ => wpAny_pure (wpAny_pure ⟨rfl, h₅⟩)) fun _ _ h' => h')) fun _ _ h' => h'))
section
variable {X : Cx}
def tLc (wi : TI) (g : TG) (tt : TT) (te : TE) (vs : List Nat) : TE := fun σ H Q => wi σ H fun J H1 => ∀ D, H1 D = none → ∃ W : Nat → Nat → Hp → Prop, (∃ m, W 0 m (upd H1 D (.lst []))) ∧ ∀ i m H, W i m H →
  (J.stop i H ∧ Q (.ref D) H) ∨ (J.go i H ∧ ∃ Nx : Hp → Prop, (∀ H', Nx H' → ∃ m', m' < m ∧ W (i + 1) m' H') ∧ ∀ x H', J.yld i H x H' → g x (wipe σ vs) H' fun σ2 H2 => wipe σ2 vs = wipe σ vs ∧ tt σ2 H2 fun b H3 =>
    if b = true then te σ2 H3 fun y H4 => ∃ acc, H4 D = some (.lst acc) ∧ acc.length < sizeLine ∧ Nx (upd H4 D (.lst (acc ++ [y]))) else Nx H3)
theorem lc_core {pins : List (Addr × Obj)} {s : Shared} {σ : St} {H : Hp} {Q : VK} {elt tg iter : Expr} {ifs : List Expr} {scope : Scope} {own : List (Str × Nat)} {pos pos' : Pos} {wi : TI} {g : TG} {tt : TT} {te : TE} {use : Option (Value → Sem Unit)} {Qf : Value → Shared → Prop}
    (hc : X.calm = true) (hN : X.N.Nodup) (I : Inv X pins σ H s) (hi : PI X tg iter wi) (ok : BlkOk X.N X.env.scope scope own)
    (hg : ∀ (s : Shared) (H : Hp) (C : Addr) (cl : List (Str × Addr)) (fp : List Addr), PG (X.blk s H scope (compEnvC scope cl C X.env) fp) tg g) (ht : ∀ (s : Shared) (H : Hp) (C : Addr) (cl : List (Str × Addr)) (fp : List Addr), PTs (X.blk s H scope (compEnvC scope cl C X.env) fp) ifs tt)
    (he : ∀ (s : Shared) (H : Hp) (C : Addr) (cl : List (Str × Addr)) (fp : List Addr), PE (X.blk s H scope (compEnvC scope cl C X.env) fp) elt te) (hs : ∀ x, foldedSetIterable iter X.env x = pure x)
    (h : tLc wi g tt te (own.map (·.2)) σ H Q)
    (hRR : ∀ D C s' m H', Inv X pins σ H' s' → Q (.ref D) H' → s'.heap.Ns C m → FpOk X pins H' C → compPost (model X.prog X.w) X.A X.xe use Qf (.ref D) C (.ok .next) s') :
    wpAny (model X.prog X.w) X.A (comprehension (.ListComp elt [⟨tg, iter, ifs, 0⟩] scope pos) scope X.env pos' (newList []) false (eval iter X.env) use) Qf X.xe s := by
  have hfree : ∀ y ∈ scope.names, y.2 = .free → ∃ c, X.env.cells.lookup y.1 = some c := fun y hy e => by
    rcases ok.free y hy e with k | k
    · exact I.ok.has _ (.inl k)
    · exact I.ok.has _ (.inr k)
  refine wpAny_comprehension_free (use := use) rfl hs (closure_ok hfree) ok.kind (fun y hy e => by rw [ok.uniq y hy, e])
    (thn (hi pins s σ H _ I h) fun xv s1 hx => thn hx fun itv s2 h2 => ?_)
  obtain ⟨it, fp, tn, J, H2, e, I2, T, st2, f2, q⟩ := h2
  subst e
  refine wpAny_newObj_type (newEnv_comp ?_) (by show 0 ≤ sizeLine; decide)
  generalize hD : s2.heap.objs.size = D
  have hDn : H2 D = none := I2.hok.fresh (Nat.le_of_eq hD)
  obtain ⟨W, ⟨m0, w0⟩, turn⟩ := q D hDn
  generalize hs3 : ({ s2 with heap := s2.heap.push { cls := .type "list", data := .seq ([] : List Value).toArray } } : Shared) = s3
  have I3 : Inv X pins σ (upd H2 D (.lst [])) s3 := by
    rw [← hs3]
    refine I2.laid (t' := s2.toks) (fun b o e => Heap.get?_push_of_some _ e) (Nat.le_of_eq hD) ⟨Nat.zero_le _, [], 0, .nil, ?_⟩
    rw [← hD]
    exact Heap.get?_push_size _ rfl
  have h3 : s3.heap = s2.heap.push { cls := .type "list", data := .seq ([] : List Value).toArray } := by rw [← hs3]
  have sz : ∀ b ∈ fp, b < s2.heap.objs.size := fun b hb => by
    obtain ⟨o, e, _⟩ := T.obj _ _ st2 b hb
    exact Heap.lt_size e
  have f3 : ∀ b ∈ fp, FpOk X pins (upd H2 D (.lst [])) b ∧ b < s3.heap.objs.size := fun b hb => by
    have hlt := sz b hb
    refine ⟨⟨?_, (f2 b hb).2⟩, by rw [h3, Heap.size_push]; exact Nat.lt_succ_of_lt hlt⟩
    rw [upd_ne (by rw [← hD]; exact Nat.ne_of_lt hlt)]
    exact (f2 b hb).1
  have st3 : tn 0 s3.heap := T.keep _ _ _ st2 fun b _ o e => by rw [h3]; exact Heap.get?_push_of_some _ e
  have I4 := block_start I3 ok hN f3
  have pg := hg s3 (upd H2 D (.lst [])) s3.heap.objs.size (cellsFrom (s3.heap.objs.size + 1) scope.names (cloFrom X.env.cells scope.names [])) fp
  have pt := ht s3 (upd H2 D (.lst [])) s3.heap.objs.size (cellsFrom (s3.heap.objs.size + 1) scope.names (cloFrom X.env.cells scope.names [])) fp
  have pe := he s3 (upd H2 D (.lst [])) s3.heap.objs.size (cellsFrom (s3.heap.objs.size + 1) scope.names (cloFrom X.env.cells scope.names [])) fp
  show codeAny _ _ (.compStart (.ListComp elt [⟨tg, iter, ifs, 0⟩] scope pos) 0 (.ref it) (.ref D) (compEnvC scope (cellsFrom (s3.heap.objs.size + 1) scope.names (cloFrom X.env.cells scope.names [])) s3.heap.objs.size X.env)) (compPost (model X.prog X.w) X.A X.xe use Qf (.ref D) s3.heap.objs.size) { s3 with heap := pushCells (s3.heap.push { cls := .type "dict", data := .dict #[] }) scope.names }
  have nfp : ∀ b ∈ fp, (upd H2 D (.lst [])) b = none := fun b hb => (f3 b hb).1.1
  generalize hce : compEnvC scope (cellsFrom (s3.heap.objs.size + 1) scope.names (cloFrom X.env.cells scope.names [])) s3.heap.objs.size X.env = ce at I4 pg pt pe ⊢
  have cL : ce.locals = s3.heap.objs.size := by subst hce; rfl
  generalize hH3 : upd H2 D (.lst []) = H3 at I3 I4 pg pt pe w0 nfp f3
  generalize hs4 : ({ s3 with heap := pushCells (s3.heap.push { cls := .type "dict", data := .dict #[] }) scope.names } : Shared) = s4 at I4 ⊢
  have st4 : tn 0 s4.heap := T.keep _ _ _ st3 fun b _ o e => by rw [← hs4]; exact pushCells_keeps _ _ _ _ (Heap.get?_push_of_some _ e)
  have stat : ∀ {σ' : St} {H' : Hp} {s' : Shared}, Inv (X.blk s3 H3 scope ce fp) [] σ' H' s' → (∀ b ∈ fp, H' b = none) → ∀ b ∈ fp, FpOk (X.blk s3 H3 scope ce fp) [] H' b := fun {σ' H' s'} I' hn b hb =>
    ⟨hn b hb, (I'.ok.exf b hb).1, I'.ok.exfs b hb, .inl hb, fun x c e => (I'.ok.exf b hb).2 x c e, fun p hp => absurd (show p ∈ ([] : List (Addr × Obj)) ++ [] from hp) (by simp)⟩
  have loop : codeAny (model X.prog X.w) X.A (.compLoop (.ListComp elt [⟨tg, iter, ifs, 0⟩] scope pos) 0 (.ref it) (.ref D) ce) (compPost (model X.prog X.w) X.A X.xe use Qf (.ref D) s3.heap.objs.size) s4 := by
    refine compLoop_any (fun n s' => ∃ i H', Inv (X.blk s3 H3 scope ce fp) [] (wipe σ (own.map (·.2))) H' s' ∧ tn i s'.heap ∧ (∀ b ∈ fp, H' b = none) ∧ W i n H') ?_ m0 ⟨0, H3, I4, st4, nfp, w0⟩
    rintro n s5 ⟨i, H5, I5, st5, n5, w5⟩
    rcases turn i n H5 w5 with ⟨stop, qq⟩ | ⟨go, Nx, hNx, step⟩
    · have td := T.done (X.blk s3 H3 scope ce fp) rfl rfl rfl hc i [] s5 _ H5 (fun _ _ => False) I5 (stat I5 n5) st5 stop
      refine thnF td fun r s6 ⟨hr, I6⟩ => ?_
      subst hr
      have I7 : Inv X pins σ H5 s6 := I3.call' (ch := fp) I6.os I6.base I6.hok I6.bare fun b hb => ⟨(f3 b hb).1.2.2.2.1, (f3 b hb).1.2.1, (f3 b hb).1.2.2.2.2.1, (f3 b hb).1.2.2.2.2.2⟩
      have nC : H5 s3.heap.objs.size = none := by
        have z : H5 ce.locals = none := I6.free
        rw [cL] at z
        exact z
      obtain ⟨m, hn, _⟩ := I6.loc
      have hn : s6.heap.Ns ce.locals m := hn
      rw [cL] at hn
      exact hRR D s3.heap.objs.size s6 m H5 I7 qq hn (I3.fpOk (Nat.le_refl _) nC)
    · have ti := T.item (X.blk s3 H3 scope ce fp) rfl rfl rfl hc i [] s5 _ H5 (fun _ _ => False) I5 (stat I5 n5) st5 go
      refine thnF ti fun r s6 ⟨u, hr, h6⟩ => ?_
      subst hr
      refine thnF h6 fun _ s7 ⟨x, H7, I7, r7, y7, st7, n7⟩ => ?_
      have I7' := I7.pinned (stat I7 n7) (T.obj _ _ st7)
      refine thnF (pg _ s7 _ H7 x u _ I7' r7 (step x H7 y7)) fun _ s8 ⟨σ8, H8, I8, hw8, q8⟩ => ?_
      refine thnF (pt _ s8 σ8 H8 _ I8 q8) fun b s9 ⟨H9, I9, q9⟩ => ?_
      have fin : ∀ {s' : Shared} {H' : Hp}, Inv (X.blk s3 H3 scope ce fp) ([] ++ pinsAt fp s7.heap) σ8 H' s' → Nx H' → ∃ m, m < n ∧ ∃ i H', Inv (X.blk s3 H3 scope ce fp) [] (wipe σ (own.map (·.2))) H' s' ∧ tn i s'.heap ∧ (∀ b ∈ fp, H' b = none) ∧ W i m H' := fun {s' H'} I' nx => by
        obtain ⟨m', hm, w'⟩ := hNx H' nx
        have pin' : ∀ b ∈ fp, ∀ o, s7.heap.get? b = some o → s'.heap.get? b = some o ∧ H' b = none := fun b hb o e =>
          let z := I'.pin (b, o) (List.mem_append_right _ (List.mem_append_right _ (mem_pinsAt hb e)))
          ⟨z.1, z.2.1⟩
        have hl : (wipe σ (own.map (·.2))).length = σ8.length := by rw [← hw8, wipe_length]
        refine ⟨m', hm, i + 1, H', (I'.unpinned (pins := [])).weak hl (fun j v e => ?_), T.keep _ _ _ st7 fun b hb o e => (pin' b hb o e).1, fun b hb => ?_, w'⟩
        · rw [← hw8] at e
          exact (wipe_some e).1
        · obtain ⟨o, e, _⟩ := T.obj _ _ st7 b hb
          exact (pin' b hb o e).2
      cases b with
      | false =>
        simp only [Bool.false_eq_true, if_false] at q9 ⊢
        exact fin I9 q9
      | true =>
        simp only [if_true] at q9 ⊢
        refine thnF (pe _ s9 σ8 H9 _ I9 q9) fun z s10 ⟨yv, H10, I10, r10, acc, hD10, hz10, nx⟩ => ?_
        exact app_ok (X := X.blk s3 H3 scope ce fp) I10 hD10 hz10 r10 fun s11 I11 => fin I11 nx
  exact codeAny_compStart_list loop (T.self X.A 0 _ _ _ st4 loop)
theorem pe_lc {elt tg iter : Expr} {ifs : List Expr} {scope : Scope} {own : List (Str × Nat)} {pos : Pos} {wi : TI} {g : TG} {tt : TT} {te : TE} (hc : X.calm = true) (hN : X.N.Nodup) (hi : PI X tg iter wi) (ok : BlkOk X.N X.env.scope scope own)
    (hg : ∀ (s : Shared) (H : Hp) (C : Addr) (cl : List (Str × Addr)) (fp : List Addr), PG (X.blk s H scope (compEnvC scope cl C X.env) fp) tg g) (ht : ∀ (s : Shared) (H : Hp) (C : Addr) (cl : List (Str × Addr)) (fp : List Addr), PTs (X.blk s H scope (compEnvC scope cl C X.env) fp) ifs tt)
    (he : ∀ (s : Shared) (H : Hp) (C : Addr) (cl : List (Str × Addr)) (fp : List Addr), PE (X.blk s H scope (compEnvC scope cl C X.env) fp) elt te) (hs : ∀ x, foldedSetIterable iter X.env x = pure x := by intro _; rfl) :
    PE X (.ListComp elt [⟨tg, iter, ifs, 0⟩] scope pos) (tLc wi g tt te (own.map (·.2))) := by
  intro pins s σ H Q I h
  rw [eval_ListComp]
  refine lc_core hc hN I hi ok hg ht he hs h fun D C s' m H' I' q hn f => ⟨m, hn, fun h'' sb => ?_⟩
  obtain ⟨f0, f1, f2, f3, f4, f5⟩ := f
  exact ⟨.ref D, H', I'.turned (t' := s'.toks) (fun b o hb e => (sb.2 b hb).trans e) f0 f1 f3 f4 f5, rfl, q⟩
theorem ps_setLc {i : Nat} {y : Str} {py : Pos} {elt tg iter : Expr} {ifs : List Expr} {scope : Scope} {own : List (Str × Nat)} {pos spos : Pos} {wi : TI} {g : TG} {tt : TT} {te : TE} (hc : X.calm = true) (hN : X.N.Nodup) (hy : X.N[i]? = some y) (hyl : X.env.scope.names.lookup y = some .local)
    (hsw : swapsWith (.ListComp elt [⟨tg, iter, ifs, 0⟩] scope pos) (some (.Name y py)) spos.line X.env = pure true) (hi : PI X tg iter wi) (ok : BlkOk X.N X.env.scope scope own)
    (hg : ∀ (s : Shared) (H : Hp) (C : Addr) (cl : List (Str × Addr)) (fp : List Addr), PG (X.blk s H scope (compEnvC scope cl C X.env) fp) tg g) (ht : ∀ (s : Shared) (H : Hp) (C : Addr) (cl : List (Str × Addr)) (fp : List Addr), PTs (X.blk s H scope (compEnvC scope cl C X.env) fp) ifs tt)
    (he : ∀ (s : Shared) (H : Hp) (C : Addr) (cl : List (Str × Addr)) (fp : List Addr), PE (X.blk s H scope (compEnvC scope cl C X.env) fp) elt te) (hs : ∀ x, foldedSetIterable iter X.env x = pure x := by intro _; rfl) :
    PS X (.Assign [.Name y py] (.ListComp elt [⟨tg, iter, ifs, 0⟩] scope pos) spos) (tAsg (tLc wi g tt te (own.map (·.2))) (gName i)) := by
  intro pins s σ H D I h
  rw [exec_Assign_Name_used _ _ _ _ hsw]
  refine wpAny_bind (wpAny_standAt (wpAny_bind ?_))
  show wpAny _ X.A (do let _ ← comprehension (.ListComp elt [⟨tg, iter, ifs, 0⟩] scope pos) scope X.env (firstIterPos [⟨tg, iter, ifs, 0⟩] pos) (newList []) false (eval iter X.env) (some (assign (.Name y py) X.env))) _ _ s
  have h : tLc wi g tt te (own.map (·.2)) σ H (fun x H1 => gName i x σ H1 D.nx) := h
  refine wpAny_bind (thn (lc_core (Qf := fun _ s' => SP X pins D .next s') hc hN I hi ok hg ht he hs h fun L C s' m H' I' q hn f => ?_) fun _ s' hq => wpAny_pure (wpAny_pure hq))
  show wpAny _ _ (assign (.Name y py) X.env (.ref L)) _ _ _
  refine wpAny_assign_Name (store_ok2 (v := V.ref L) I' hN hy (.inl hyl) rfl (fun s2 I2 ⟨a, sb, ha⟩ => ?_) (.inr hyl))
  obtain ⟨f0, f1, f2, f3, f4, f5⟩ := f
  have haC : C ≠ a := by
    rcases ha with z | z
    · rw [z]; exact f1
    · exact fun e => f4 y a z e.symm
  refine ⟨m, hn.sameBut sb haC, fun h3 sb3 => ?_⟩
  exact ⟨_, H', I2.turned (t' := s2.toks) (fun b o hb e => (sb3.2 b hb).trans e) f0 f1 f3 f4 f5, q⟩
theorem sw_true {elt : Expr} {gs : List Comprehension} {scope : Scope} {pos py : Pos} {y : Str} {l : Nat} {env : Env} (hk : env.scope.kind = .function) (hy : env.scope.names.lookup y = some .local) (hl : (py.line == pos.line) = true)
    (ha : (scope.names.any fun (n, k) => n == y && (k == .local || k == .cell)) = false) : swapsWith (.ListComp elt gs scope pos) (some (.Name y py)) l env = pure true := by
  have ky : env.kindOf y = some .local := hy
  have hb : env.blockKind = .function := by unfold Env.blockKind; rw [hk]; rfl
  unfold swapsWith
  simp only [hb, ky, ha, Expr.pos, hl]
  rfl
end
theorem lc_range {lo : Int} {n : Nat} {g : TG} {tt : TT} {te : TE} {vs : List Nat} {σ : St} {H1 : Hp} {D : Addr} {Qd : Hp → Prop} (Pv : Nat → Hp → Prop) (h0 : Pv 0 (upd H1 D (.lst [])))
    (hs : ∀ i H, i < n → Pv i H → g (.int (lo + i)) (wipe σ vs) H fun σ2 H2 => wipe σ2 vs = wipe σ vs ∧ tt σ2 H2 fun b H3 =>
      if b = true then te σ2 H3 fun y H4 => ∃ acc, H4 D = some (.lst acc) ∧ acc.length < sizeLine ∧ Pv (i + 1) (upd H4 D (.lst (acc ++ [y]))) else Pv (i + 1) H3) (hd : ∀ H, Pv n H → Qd H) :
    ∃ W : Nat → Nat → Hp → Prop, (∃ m, W 0 m (upd H1 D (.lst []))) ∧ ∀ i m H, W i m H →
      ((Itr lo n).stop i H ∧ Qd H) ∨ ((Itr lo n).go i H ∧ ∃ Nx : Hp → Prop, (∀ H', Nx H' → ∃ m', m' < m ∧ W (i + 1) m' H') ∧ ∀ x H', (Itr lo n).yld i H x H' → g x (wipe σ vs) H' fun σ2 H2 => wipe σ2 vs = wipe σ vs ∧ tt σ2 H2 fun b H3 =>
        if b = true then te σ2 H3 fun y H4 => ∃ acc, H4 D = some (.lst acc) ∧ acc.length < sizeLine ∧ Nx (upd H4 D (.lst (acc ++ [y]))) else Nx H3) := by
  refine ⟨fun i m H => m = n - i ∧ i ≤ n ∧ Pv i H, ⟨n, by simp, Nat.zero_le _, h0⟩, ?_⟩
  rintro i m H ⟨rfl, hi, p⟩
  by_cases hlt : i < n
  · refine .inr ⟨hlt, Pv (i + 1), fun H' p' => ⟨n - (i + 1), by omega, rfl, hlt, p'⟩, fun x H' y => ?_⟩
    obtain ⟨e, y⟩ := y
    subst e y
    exact hs i _ hlt p
  · have e : i = n := by omega
    subst e
    exact .inl ⟨Nat.le_refl _, hd H p⟩
theorem lc_list {K : W.Frag} {a : Addr} {xs : List V} {g : TG} {tt : TT} {te : TE} {vs : List Nat} {σ : St} {H1 : Hp} {D : Addr} {Qd : Hp → Prop} (Pv : Nat → Hp → Prop) (h0 : Pv 0 (upd H1 D (.lst []))) (hl : ∀ i H, i ≤ xs.length → Pv i H → SqL K H a xs)
    (hs : ∀ i x H, xs[i]? = some x → Pv i H → g x (wipe σ vs) H fun σ2 H2 => wipe σ2 vs = wipe σ vs ∧ tt σ2 H2 fun b H3 =>
      if b = true then te σ2 H3 fun y H4 => ∃ acc, H4 D = some (.lst acc) ∧ acc.length < sizeLine ∧ Pv (i + 1) (upd H4 D (.lst (acc ++ [y]))) else Pv (i + 1) H3) (hd : ∀ H, Pv xs.length H → Qd H) :
    ∃ W : Nat → Nat → Hp → Prop, (∃ m, W 0 m (upd H1 D (.lst []))) ∧ ∀ i m H, W i m H →
      ((Itl K a).stop i H ∧ Qd H) ∨ ((Itl K a).go i H ∧ ∃ Nx : Hp → Prop, (∀ H', Nx H' → ∃ m', m' < m ∧ W (i + 1) m' H') ∧ ∀ x H', (Itl K a).yld i H x H' → g x (wipe σ vs) H' fun σ2 H2 => wipe σ2 vs = wipe σ vs ∧ tt σ2 H2 fun b H3 =>
        if b = true then te σ2 H3 fun y H4 => ∃ acc, H4 D = some (.lst acc) ∧ acc.length < sizeLine ∧ Nx (upd H4 D (.lst (acc ++ [y]))) else Nx H3) := by
  refine ⟨fun i m H => m = xs.length - i ∧ i ≤ xs.length ∧ Pv i H, ⟨xs.length, by simp, Nat.zero_le _, h0⟩, ?_⟩
  rintro i m H ⟨rfl, hi, p⟩
  have q := hl i H hi p
  by_cases hlt : i < xs.length
  · refine .inr ⟨⟨xs, xs[i], q, by simp [hlt]⟩, Pv (i + 1), fun H' p' => ⟨xs.length - (i + 1), by omega, rfl, hlt, p'⟩, fun x H' y => ?_⟩
    obtain ⟨e, y⟩ := y
    subst e
    exact hs i x _ (y xs q) p
  · have e : i = xs.length := by omega
    subst e
    exact .inl ⟨⟨xs, q, Nat.le_refl _⟩, hd H p⟩
def blkC (N : List Str) (sc scope : Scope) (own : List (Str × Nat)) : Bool :=
  (match scope.kind with | .function => true | _ => false) && (scope.names.all fun y => decide (scope.names.lookup y.1 = some y.2)) && (own.all fun p => decide (N[p.2]? = some p.1)) &&
    (scope.names.all fun y => match y.2 with
      | .free => (match sc.names.lookup y.1 with | some .cell => true | some .free => true | _ => false)
      | .local => decide (y.1 ∈ own.map (·.1)) || decide (y.1 ∉ N)
      | .cell => decide (y.1 ∈ own.map (·.1)) || decide (y.1 ∉ N)
      | _ => true)
theorem blkOk_by {N : List Str} {sc scope : Scope} {own : List (Str × Nat)} (h : blkC N sc scope own = true) : BlkOk N sc scope own := by
  unfold blkC at h
  simp only [Bool.and_eq_true, List.all_eq_true, decide_eq_true_eq] at h
  obtain ⟨⟨⟨h1, h2⟩, h3⟩, h4⟩ := h
  refine ⟨?_, h2, h3, fun y hy e => ?_, fun y hy e => ?_⟩
  · split at h1
    · assumption
    · cases h1
  · have q := h4 y hy
    simp only [e] at q
    split at q <;> first | exact .inl (by assumption) | exact .inr (by assumption) | cases q
  · have q := h4 y hy
    rcases e with e | e <;> (simp only [e, Bool.or_eq_true, decide_eq_true_eq] at q; exact q)
end L2
namespace L2
open PySem PySem.Spec PyProof.Rows
theorem boot_reversed5 : bootBuiltins "reversed" = some (.type "reversed") := by decide +kernel
section
variable {X : Cx} {pins : List (Addr × Obj)} {σ : St} {H : Hp} {s : Shared} {h' : Heap}
theorem Inv.turnedL {t' : Nat} {ch : List Addr} (I : Inv X pins σ H s) (k : ∀ b o, b ∉ ch → s.heap.get? b = some o → h'.get? b = some o) (hf : ∀ b ∈ ch, FpOk X pins H b) : Inv X pins σ H { s with heap := h', toks := t' } := by
  have nit : ∀ b u, H b = some u → b ∉ ch := fun b u e z => by
    have q := (hf b z).1
    rw [q] at e; cases e
  refine I.step (g' := s.gens) (d' := s.drawn) (ch := ch) (fun b hb => ⟨(hf b hb).2.2.2.1, (hf b hb).2.1, (hf b hb).2.2.2.2.1, (hf b hb).2.2.2.2.2⟩) (fun b o _ _ hc e _ => k b o hc e) (fun b o _ _ hc e _ => ⟨o.slots, k b o hc e⟩)
    (fun _ _ _ _ n => n) (fun b o hc e => ⟨o, k b o hc e⟩) (fun _ _ e => e) (fun _ _ _ e => e) (fun b ps e => ⟨#[], by rw [e]; simp⟩) (fun m hm => ?_) (fun b u e => ?_) I.bare
  · obtain ⟨o, es, ep, ho, r⟩ := hm
    exact ⟨o, es, ep, k _ o (fun z => (hf _ z).2.1 rfl) ho, r⟩
  · refine (I.hok b u e).stay (fun c v hc q => k c v ?_ q) (fun _ q => q) fun _ _ q => q
    rcases hc with z | z
    · rw [z]; exact nit b u e
    · exact nit c _ z
theorem Inv.turnedNew {t' : Nat} {ch : List Addr} {T : Addr} {ob : HO} (I : Inv X pins σ H s) (k : ∀ b o, b ∉ ch → s.heap.get? b = some o → h'.get? b = some o) (hf : ∀ b ∈ ch, FpOk X pins H b) (hT : s.heap.objs.size ≤ T)
    (new : ObjOk X.prog X.w (upd H T ob) h' T ob) : Inv X pins σ (upd H T ob) { s with heap := h', toks := t' } := by
  have hn : H T = none := I.hok.fresh hT
  have nit : ∀ b u, H b = some u → b ∉ ch := fun b u e z => by
    have q := (hf b z).1
    rw [q] at e; cases e
  refine I.step (g' := s.gens) (d' := s.drawn) (ch := ch) (fun b hb => ⟨(hf b hb).2.2.2.1, (hf b hb).2.1, (hf b hb).2.2.2.2.1, (hf b hb).2.2.2.2.2⟩) (fun b o _ _ hc e _ => k b o hc e) (fun b o _ _ hc e _ => ⟨o.slots, k b o hc e⟩)
    (fun b o _ e n => ?_) (fun b o hc e => ⟨o, k b o hc e⟩) (fun b xs e => ?_) (fun b o u e => ?_) (fun b ps e => ⟨#[], ?_⟩) (fun m hm => ?_) (fun b u e => ?_) I.bare
  · rw [upd_ne (Nat.ne_of_lt (Nat.lt_of_lt_of_le (Heap.lt_size e) hT))]; exact n
  · rw [upd_ne (ne_of_none e hn)]; exact e
  · rw [upd_ne (ne_of_none e hn)]; exact e
  · rw [upd_ne (ne_of_none e hn), e]; simp
  · obtain ⟨o, es, ep, ho, r⟩ := hm
    exact ⟨o, es, ep, k _ o (fun z => (hf _ z).2.1 rfl) ho, r⟩
  · by_cases hb : b = T
    · subst hb
      rw [upd_same] at e
      cases e
      exact new
    · rw [upd_ne hb] at e
      refine (I.hok b u e).stay (fun c v hc q => k c v ?_ q) (fun c q => by rw [upd_ne (ne_of_none q hn)]; exact q) fun c xs q => by rw [upd_ne (ne_of_none q hn)]; exact q
      rcases hc with z | z
      · rw [z]; exact nit b u e
      · exact nit c _ z
end
section
variable {X : Cx}
theorem pi_one {tg : Expr} {pins : List (Addr × Obj)} {σ : St} {H : Hp} {s : Shared} {R : It → Hp → Prop} {J : It} {tn : Nat → Heap → Prop} {tk : Nat} (I : Inv X pins σ H s) (o : Obj)
    (T : Turn X.prog X.w X.K tg J [s.heap.objs.size] s.heap.objs.size tn) (st : tn 0 (s.heap.push o)) (q : R J H) : PIE X pins σ tg R (.ref s.heap.objs.size) { s with heap := s.heap.push o, toks := tk } := by
  refine ⟨s.heap.objs.size, [s.heap.objs.size], tn, J, H, rfl, I.kept fun b ob e => Heap.get?_push_of_some _ e, T, st, fun b hb => ?_, q⟩
  have e : b = s.heap.objs.size := by simpa using hb
  subst e
  exact I.fpOk (Nat.le_refl _) (I.hok.fresh (Nat.le_refl _))
end
def Itc (lo c : Int) (n : Nat) : It := ⟨fun i _ => i < n, fun i H x H' => H' = H ∧ x = .int (lo + (i : Nat) * c), fun i _ => n ≤ i⟩
theorem turn_rangeC {P : Program} {w : World} {K : W.Frag} {tg : Expr} (it : Addr) (lo c : Int) (n : Nat) : Turn P w K tg (Itc lo c n) [it] it (fun i h => IsRangeIter h it (lo + (i : Nat) * c) ((n : Int) - (i : Nat)) c) where
  mem := by simp
  obj := fun i h st b hb => by
    have e : b = it := by simpa using hb
    subst e
    exact ⟨_, st, fun v z => nomatch z⟩
  keep := fun i h h' st k => k it (by simp) _ st
  item := by
    intro X hP hw hK hc i pins s σ H E I hf st hg
    subst hP hw hK
    obtain ⟨f0, f1, f2, f3, f4, f5⟩ := hf it (by simp)
    have W := Walks.range (prog := X.prog) (w := X.w) (I.ok.hd hc) it lo c n
    refine W.item i s _ _ hg st fun v h' tk hv st' kk => ?_
    obtain ⟨t, rfl⟩ := hv
    have I1 : Inv X pins σ H { s with heap := h', toks := tk } := I.turned (fun b o hb e => kk b o (by simpa using hb) e) f0 f1 f3 f4 f5
    exact ⟨_, rfl, go_of (s := { s with heap := h', toks := tk }) (n := "range_iterator") st' rfl rfl (by decide) ⟨.int (lo + (i : Nat) * c), H, I1, ⟨t, rfl⟩, ⟨rfl, rfl⟩, st', fun b hb => (hf b hb).1⟩⟩
  done := by
    intro X hP hw hK hc i pins s σ H E I hf st hg
    subst hP hw hK
    obtain ⟨f0, f1, f2, f3, f4, f5⟩ := hf it (by simp)
    exact wpAny_pyNext_range_end (I.ok.hd hc) st (by have : n ≤ i := hg; omega) fun h' eb => ⟨rfl, I.turned (t' := s.toks) (fun b o hb e => eb b o hb e) f0 f1 f3 f4 f5⟩
  self := fun A i s Q E st h => wpAny_pyIter_rangeiter st h
def RgC (i j c : Int) (n : Nat) : Prop := c ≠ 0 ∧ c.natAbs < 1073741824 ∧ Builtin.Range.small i j c = true ∧ Builtin.Range.rangeSize i j c = n
def iRng3 (ta : TA) : TI := fun σ H R => ta σ H fun vs H1 => ∃ (i j c : Int) (n : Nat), vs = [.int i, .int j, .int c] ∧ RgC i j c n ∧ R (Itc i c n) H1
section
variable {X : Cx} {tg : Expr}
theorem pi_range3 {a b c : Expr} {ta : TA} {p pos : Pos} (hg : Gl X "range") (hm : X.mg "range" = none) (ha : PA X [a, b, c] ta)
    (hs : starEach [a, b, c] X.env = (false, eval a X.env) :: starEach [b, c] X.env := by rfl) (hpl : (backTo pos (starEach [b, c] X.env)).any (·.1) = false := by rfl) :
    PI X tg (.Call (.Name "range" p) [a, b, c] [] pos) (iRng3 ta) := by
  intro pins s σ H R I h
  refine Call_ (ld_blt I hg hm boot_range (PyProof.Rows.callWith_type1 (thn (ha pos pins s σ H _ I h) fun us s1 ⟨vs, H1, I1, r1, q1⟩ => ?_) hs hpl))
  obtain ⟨i, j, k, n, e, ⟨c0, c1, c2, c3⟩, q⟩ := q1
  subst e
  cases r1 with
  | cons r rr =>
    cases rr with
    | cons r' rr =>
      cases rr with
      | cons r'' rr =>
        cases rr
        obtain ⟨t, rfl⟩ := r
        obtain ⟨t', rfl⟩ := r'
        obtain ⟨t'', rfl⟩ := r''
        refine call_range_3 c0 ?_ (.inl (PyProof.noPylong_small c1))
        refine wpAny_pyIter_range (IsRange.new ..) c2 ?_
        have I2 : Inv X pins σ H1 { s1 with heap := s1.heap.push { cls := .type "range", data := .fields #[.int i t, .int j t', .int k t''] } } := I1.kept (t' := s1.toks) fun b o e => Heap.get?_push_of_some _ e
        refine pi_one (tk := s1.toks) I2 _ (turn_rangeC _ i k n) ?_ q
        have e1 : i + ((0 : Nat) : Int) * k = i := by simp
        have e2 : (n : Int) - ((0 : Nat) : Int) = Builtin.Range.rangeSize i j k := by rw [c3]; simp
        show IsRangeIter _ _ (i + ((0 : Nat) : Int) * k) ((n : Int) - ((0 : Nat) : Int)) k
        rw [e1, e2]
        exact Heap.get?_push_size _ rfl
end
def Itv (K : W.Frag) (a : Addr) (n : Nat) : It :=
  ⟨fun i H => i < n ∧ ∃ (xs : List V) (x : V), SqL K H a xs ∧ xs[n - 1 - i]? = some x, fun i H x H' => H' = H ∧ ∀ xs, SqL K H a xs → xs[n - 1 - i]? = some x, fun i _ => n ≤ i⟩
theorem turn_rev {P : Program} {w : World} {K : W.Frag} {tg : Expr} (a it : Addr) (n : Nat) : Turn P w K tg (Itv K a n) [it] it (fun i h => i ≤ n ∧ h.IsRevIter it a ((n : Int) - 1 - (i : Nat))) where
  mem := by simp
  obj := fun i h st b hb => by
    have e : b = it := by simpa using hb
    subst e
    obtain ⟨_, o, e, c, d⟩ := st
    exact ⟨o, e, fun v z => by rw [d] at z; cases z⟩
  keep := fun i h h' st k => ⟨st.1, st.2.at fun o e => k it (by simp) o e⟩
  item := by
    intro X hP hw hK hc i pins s σ H E I hf st hg
    subst hP hw hK
    obtain ⟨hin, xs, x, hq, hx⟩ := hg
    obtain ⟨its, rv, p, hz⟩ := I.list hq
    obtain ⟨u, hu, ru⟩ := rv.get hx
    obtain ⟨f0, f1, f2, f3, f4, f5⟩ := hf it (by simp)
    obtain ⟨_, hit⟩ := st
    have e1 : (n : Int) - 1 - ((i : Nat) : Int) = ((n - 1 - i : Nat) : Int) := by omega
    rw [e1] at hit
    refine wpAny_pyNext_rev_item hit p.isList (x := u) (by simpa using hu) fun h' st' sb => ?_
    have e2 : ((n - 1 - i : Nat) : Int) - 1 = (n : Int) - 1 - ((i + 1 : Nat) : Int) := by omega
    rw [e2] at st'
    have I1 : Inv X pins σ H { s with heap := h' } := I.turned (t' := s.toks) (fun b o hb e => (sb.2 b hb).trans e) f0 f1 f3 f4 f5
    obtain ⟨o, e, c, d⟩ := id st'
    exact ⟨u, rfl, go_of (s := { s with heap := h' }) e c d (by decide) ⟨x, H, I1, ru, ⟨rfl, fun ys hy => by rw [I.list_inj hy hq]; exact hx⟩, ⟨hin, st'⟩, fun b hb => (hf b hb).1⟩⟩
  done := by
    intro X hP hw hK hc i pins s σ H E I hf st hg
    subst hP hw hK
    obtain ⟨f0, f1, f2, f3, f4, f5⟩ := hf it (by simp)
    obtain ⟨hin, hit⟩ := st
    have hge : n ≤ i := hg
    have e1 : (n : Int) - 1 - ((i : Nat) : Int) = -1 := by omega
    rw [e1] at hit
    exact wpAny_pyNext_rev_end (I.ok.hd hc) hit fun h' eb => ⟨rfl, I.turned (t' := s.toks) (fun b o hb e => eb b o hb e) f0 f1 f3 f4 f5⟩
  self := fun A i s Q E st h => wpAny_pyIter_revIter st.2 h
def iRev (K : W.Frag) (ta : TA) : TI := fun σ H R => ta σ H fun vs H1 => ∃ (a : Addr) (xs : List V), vs = [.ref a] ∧ SqL K H1 a xs ∧ R (Itv K a xs.length) H1
section
variable {X : Cx} {tg : Expr}
theorem pi_reversed {e : Expr} {ta : TA} {p pos : Pos} (hg : Gl X "reversed") (hm : X.mg "reversed" = none) (ha : PA X [e] ta) (hs : starEach [e] X.env = [(false, eval e X.env)] := by rfl) : PI X tg (.Call (.Name "reversed" p) [e] [] pos) (iRev X.K ta) := by
  intro pins s σ H R I h
  refine Call_ (ld_blt I hg hm boot_reversed5 (PyProof.Rows.callWith_type1 (thn (ha pos pins s σ H _ I h) fun us s1 ⟨vs, H1, I1, r1, q1⟩ => ?_) hs rfl))
  obtain ⟨a, xs, e, hq, q⟩ := q1
  subst e
  cases r1 with
  | cons r rr =>
    cases rr
    cases r
    obtain ⟨its, rv, p', hz⟩ := I1.list hq
    have hl := rv.length
    have e1 : ((its.toArray.size : Nat) : Int) - 1 = (xs.length : Int) - 1 - ((0 : Nat) : Int) := by simp only [List.size_toArray]; omega
    refine call_reversed_list p'.isList (wpAny_pyIter_revIter (l := a) (i := ((its.toArray.size : Nat) : Int) - 1) ⟨_, Heap.get?_push_size _ rfl, rfl, rfl⟩ ?_)
    refine pi_one (tk := s1.toks) I1 _ (turn_rev a _ xs.length) ⟨Nat.zero_le _, ?_⟩ q
    rw [← e1]
    exact ⟨_, Heap.get?_push_size _ rfl, rfl, rfl⟩
end
def Ite (K : W.Frag) (a : Addr) : It :=
  ⟨fun i H => ∃ (xs : List V) (x : V), SqL K H a xs ∧ xs[i]? = some x, fun i H v H' => ∃ T x, v = .ref T ∧ H T = none ∧ H' = upd H T (.tup [.int (i : Nat), x]) ∧ ∀ xs, SqL K H a xs → xs[i]? = some x, fun i H => ∃ xs : List V, SqL K H a xs ∧ xs.length ≤ i⟩
theorem turn_enum {P : Program} {w : World} {K : W.Frag} {elts : List Expr} {kk : Nat} {tpos : Pos} (a e it : Addr) :
    Turn P w K (.Tuple elts kk tpos) (Ite K a) [e, it] e (fun i h => (∃ old, IsEnum h e it ((i : Nat) : Int) old) ∧ h.IsListIter it a i ∧ e ≠ it) where
  mem := by simp
  obj := fun i h st b hb => by
    obtain ⟨⟨old, he⟩, ⟨o, ho, hc, hd⟩, _⟩ := st
    have e' : b = e ∨ b = it := by simpa using hb
    rcases e' with z | z
    · rw [z]; exact ⟨_, he, fun v q => nomatch q⟩
    · rw [z]; exact ⟨o, ho, fun v q => by rw [hd] at q; cases q⟩
  keep := fun i h h' st k => let ⟨⟨old, he⟩, hi, hne⟩ := st; ⟨⟨old, k e (by simp) _ he⟩, hi.at fun o q => k it (by simp) o q, hne⟩
  item := by
    intro X hP hw hK hc i pins s σ H E I hf st hg
    subst hP hw hK
    obtain ⟨⟨old, he⟩, hit, hne⟩ := st
    obtain ⟨xs, x, hq, hx⟩ := hg
    obtain ⟨its, rv, p, hz⟩ := I.list hq
    obtain ⟨u, hu, ru⟩ := rv.get hx
    have hel : e < s.heap.objs.size := Heap.lt_size he
    have hil : it < s.heap.objs.size := by obtain ⟨_, q, _⟩ := hit; exact Heap.lt_size q
    refine wpAny_pyNext_enum_item he hit p.isList (x := u) (by simpa using hu) hne fun h' ho hit' hT hsz hk => ?_
    refine ⟨_, rfl, wpAny_letOwnedTupleGo_enum (s := { s with heap := h', toks := s.toks + 1 }) ho fun h'' he' sb => ?_⟩
    have hT2 : h''.get? s.heap.objs.size = some { cls := .type "tuple", data := .seq #[.int i s.toks, u] } := (sb.2 _ (Nat.ne_of_gt hel)).trans hT
    have new : ObjOk X.prog X.w (upd H s.heap.objs.size (.tup [.int (i : Nat), x])) h'' s.heap.objs.size (.tup [.int (i : Nat), x]) :=
      ⟨by show 2 ≤ sizeLine; decide, [.int i s.toks, u], .cons ⟨_, rfl⟩ (.cons ru .nil), ⟨_, hT2, rfl, _, rfl⟩⟩
    have I1 : Inv X pins σ (upd H s.heap.objs.size (.tup [.int (i : Nat), x])) { s with heap := h'', toks := s.toks + 1 } :=
      I.turnedNew (ch := [e, it]) (fun b ob hb q => (sb.2 b (fun z => hb (by simp [z]))).trans (hk b ob (fun z => hb (by simp [z])) (fun z => hb (by simp [z])) q)) hf (Nat.le_refl _) new
    refine ⟨.ref s.heap.objs.size, _, I1, rfl, ⟨_, x, rfl, I.hok.fresh (Nat.le_refl _), rfl, fun ys hy => by rw [I.list_inj hy hq]; exact hx⟩, ⟨⟨u, ?_⟩, hit'.at fun o q => (sb.2 it (Ne.symm hne)).trans q, hne⟩, fun b hb => ?_⟩
    · have e1 : ((i + 1 : Nat) : Int) = (i : Int) + 1 := by omega
      rw [e1]; exact he'
    · have hb' : b < s.heap.objs.size := by
        have e' : b = e ∨ b = it := by simpa using hb
        rcases e' with z | z
        · rw [z]; exact hel
        · rw [z]; exact hil
      rw [upd_ne (Nat.ne_of_lt hb')]
      exact (hf b hb).1
  done := by
    intro X hP hw hK hc i pins s σ H E I hf st hg
    subst hP hw hK
    obtain ⟨⟨old, he⟩, hit, hne⟩ := st
    obtain ⟨xs, hq, hx⟩ := hg
    obtain ⟨its, rv, p, hz⟩ := I.list hq
    obtain ⟨f0, f1, f2, f3, f4, f5⟩ := hf it (by simp)
    have hl := rv.length
    exact wpAny_pyNext_enum_end (I.ok.hd hc) he hit p.isList (by simp; omega) fun h' eb => ⟨rfl, I.turned (t' := s.toks) (fun b o hb q => eb b o hb q) f0 f1 f3 f4 f5⟩
  self := fun A i s Q E st h => let ⟨⟨_, he⟩, _⟩ := st; wpAny_pyIter_enum he h
def iEnum (K : W.Frag) (ta : TA) : TI := fun σ H R => ta σ H fun vs H1 => ∃ a xs, vs = [.ref a] ∧ SqL K H1 a xs ∧ R (Ite K a) H1
theorem pi_enum {X : Cx} {e : Expr} {ta : TA} {p pos tpos : Pos} {elts : List Expr} {kk : Nat} (hg : Gl X "enumerate") (hm : X.mg "enumerate" = none) (ha : PA X [e] ta) (hs : starEach [e] X.env = [(false, eval e X.env)] := by rfl) :
    PI X (.Tuple elts kk tpos) (.Call (.Name "enumerate" p) [e] [] pos) (iEnum X.K ta) := by
  intro pins s σ H R I h
  refine Call_ (ld_blt I hg hm boot_enumerate (PyProof.Rows.callWith_type1 (thn (ha pos pins s σ H _ I h) fun us s1 ⟨vs, H1, I1, r1, q1⟩ => ?_) hs rfl))
  obtain ⟨a, xs, ex, hq, q⟩ := q1
  subst ex
  cases r1 with
  | cons r rr =>
    cases rr
    cases r
    obtain ⟨its, rv, p', hz⟩ := I1.list hq
    refine call_enumerate_list p'.isList fun h' he hit hsz hk => wpAny_pyIter_enum he ?_
    have I2 : Inv X pins σ H1 { s1 with heap := h' } := I1.kept (t' := s1.toks) hk
    refine ⟨s1.heap.objs.size + 1, [s1.heap.objs.size + 1, s1.heap.objs.size], _, _, H1, rfl, I2, turn_enum a (s1.heap.objs.size + 1) s1.heap.objs.size, ⟨⟨.none, he⟩, hit, Nat.succ_ne_self _⟩, fun b hb => ?_, q⟩
    have e' : b = s1.heap.objs.size + 1 ∨ b = s1.heap.objs.size := by simpa using hb
    have hle : s1.heap.objs.size ≤ b := by
      rcases e' with z | z
      · rw [z]; exact Nat.le_add_right _ _
      · rw [z]; exact Nat.le_refl _
    exact I1.fpOk hle (I1.hok.fresh hle)
theorem boot_zip5 : bootBuiltins "zip" = some (.type "zip") := by decide +kernel
end L2
namespace L2
open PySem PySem.Spec PyProof.Rows
def inClass (s : Stmt) (j : Nat) : Stmt := match s with
  | .ClassDef _ _ _ body _ _ _ _ _ _ _ => body.getD j (.Pass ⟨0, 0, 0, 0⟩)
  | _ => .Pass ⟨0, 0, 0, 0⟩
def defArgs (s : Stmt) : Arguments := match s with
  | .FunctionDef _ a _ _ _ _ _ _ _ _ => a
  | _ => { posonlyargs := [], args := [], vararg := none, kwonlyargs := [], kw_defaults := [], kwarg := none, defaults := [] }
def defBody (s : Stmt) : List Stmt := match s with
  | .FunctionDef _ _ b _ _ _ _ _ _ _ => b
  | _ => []
def defScope (s : Stmt) : Scope := match s with
  | .FunctionDef _ _ _ _ _ _ sc _ _ _ => sc
  | _ => { kind := .function, names := [], isGenerator := false, isCoroutine := false }
abbrev CX0 : CXT := fun _ _ _ _ _ _ => False
abbrev E0 : XK := fun _ _ _ => False
theorem pass0 {X : Cx} : Passes CX0 X E0 := fun _ _ _ _ _ _ _ h => h.elim
structure Fun (K : W.Frag) (x qual : Str) (st : Stmt) (f : Addr) (fd : FuncData) : Prop where
  ex : ∃ (oc : Value) (od : Option Addr) (kV doc pm : Value) (an : Option Addr) (cdv ct : Value) (osl : Array (Option Value)),
    fd = PySem.W.fnOf x qual (defArgs st) (defBody st) (defScope st) .none kV doc pm an cdv ct ∧ K.lookup f = some ⟨oc, od, .func fd, osl⟩ ∧ PySem.W.codeIn K cdv qual = true
  kp : PySem.W.keepIn K (.ref f) = true
section
variable {P : Program} {w : World} {K : W.Frag} {mg : Str → Option Value} {base : Heap}
theorem Fun.ok {x qual : Str} {st : Stmt} {f : Addr} {fd : FuncData} {N ps : List Str} {k : Nat} {sp : Sp} (F : Fun K x qual st f fd) (S : FnScope N ps (defScope st)) (len : ∀ vs H Q E, sp vs H Q E → vs.length = ps.length)
    (hbody : ∀ (cdv : Value) (A : Around) (outer : List Env) (s : Shared) (H : Hp) (vs : List V) (Q : VK) (E : XK), Room k (A.deeper (envOfC qual (defScope st) s.heap.objs.size f cdv)) → sp vs H Q E →
      ∃ t, PSs (cxOf CX0 P w K mg base N qual (defScope st) f cdv A outer s H E).nox (defBody st) t ∧ t { nx := fun _ H' => Q .non H', rt := Q } (start N vs) H) : FnOk P w K mg base CX0 (k + 1) f fd ps sp := by
  obtain ⟨oc, od, kV, doc, pm, an, cdv, ct, osl, rfl, lk, hcd⟩ := F.ex
  refine fn_of lk hcd S len fun A outer s H vs Q E hr hsp => ?_
  obtain ⟨t, h, q⟩ := hbody cdv A outer s H vs Q E hr hsp
  exact ⟨t, h.nox, q⟩
theorem Fun.binds {x qual : Str} {st : Stmt} {f : Addr} {fd : FuncData} {ps : List Str} (F : Fun K x qual st f fd)
    (h : ∀ (kV doc pm : Value) (an : Option Addr) (cdv ct : Value) (us : List Value), us.length = ps.length → bindArgs (PySem.W.fnOf x qual (defArgs st) (defBody st) (defScope st) .none kV doc pm an cdv ct) ⟨us, []⟩ = pure (ps.zip us)) : Binds K fd ps [] := by
  obtain ⟨oc, od, kV, doc, pm, an, cdv, ct, osl, rfl, lk, hcd⟩ := F.ex
  exact .all (h kV doc pm an cdv ct)
theorem fun_mk {x qual : Str} {st : Stmt} {f : Addr} {oc : Value} {od an : Option Addr} {osl : Array (Option Value)} {kV doc pm cdv ct : Value} (l : K.lookup f = some ⟨oc, od, .func (PySem.W.fnOf x qual (defArgs st) (defBody st) (defScope st) .none kV doc pm an cdv ct), osl⟩)
    (c : PySem.W.codeIn K cdv qual = true) (k : PySem.W.keepIn K (.ref f) = true) : Fun K x qual st f (PySem.W.fnOf x qual (defArgs st) (defBody st) (defScope st) .none kV doc pm an cdv ct) := ⟨⟨oc, od, kV, doc, pm, an, cdv, ct, osl, rfl, l, c⟩, k⟩
end
section
variable {X : Cx}
theorem pv (i : Nat) {x : Str} {pos : Pos} (hN : X.N[i]? = some x := by rfl) (hv : Vis X.env.scope x := by first | exact Or.inl rfl | exact Or.inr (Or.inl rfl) | exact Or.inr (Or.inr rfl)) (hd : (x == ("__debug__" : Str)) = false := by decide)
    (hcd : (x == ("__classdict__" : Str)) = false := by decide) : PE X (.Name x pos) (tVar i) := pe_var hN hv hd hcd
end
theorem iteF {A B : Prop} (h : B) : if false = true then A else B := by
  rw [if_neg Bool.false_ne_true]
  exact h
theorem iteT {A B : Prop} (h : A) : if true = true then A else B := by
  rw [if_pos rfl]
  exact h
theorem ite2 {c A B : Prop} [Decidable c] (h1 : c → A) (h2 : ¬ c → B) : if c then A else B := by
  by_cases h : c
  · rw [if_pos h]
    exact h1 h
  · rw [if_neg h]
    exact h2 h
def Same (H H' : Hp) : Prop := ∀ b o, H b = some o → H' b = some o
theorem Same.refl (H : Hp) : Same H H := fun _ _ h => h
theorem Same.trans {H H1 H2 : Hp} (a : Same H H1) (b : Same H1 H2) : Same H H2 := fun c o h => b c o (a c o h)
theorem Same.free {H H' : Hp} (e : Same H H') {l : Addr} (h : H' l = Option.none) : H l = Option.none := by
  cases q : H l with
  | none => rfl
  | some o =>
    rw [e l o q] at h
    cases h
end L2
section
set_option maxRecDepth 100000
set_option maxHeartbeats 2000000
namespace L2
open PySem PySem.Spec PyProof.Rows
open PySem.W (WData Codec OpenSpec Well WellAll ReadsW ReadsAllW)
mutual
inductive Dw (K : W.Frag) (H : Hp) : V → WData → Prop
  | non : Dw K H .non .none
  | bl (b : Bool) : Dw K H (.bl b) (.bool b)
  | int (i : Int) : Dw K H (.int i) (.int i)
  | str (x : Str) : Dw K H (.str x) (.str x)
  | byt (b : Array UInt8) : Dw K H (.byt b) (.bytes b.toList)
  | lst {a : Addr} {xs : List V} {ds : List WData} : SqL K H a xs → DwAll K H xs ds → Dw K H (.ref a) (.list ds)
  | tup {a : Addr} {xs : List V} {ds : List WData} : SqT K H a xs → DwAll K H xs ds → Dw K H (.ref a) (.tuple ds)
inductive DwAll (K : W.Frag) (H : Hp) : List V → List WData → Prop
  | nil : DwAll K H [] []
  | cons {v : V} {vs : List V} {d : WData} {ds : List WData} : Dw K H v d → DwAll K H vs ds → DwAll K H (v :: vs) (d :: ds)
end
theorem dw_ints {K : W.Frag} {H : Hp} : ∀ ns : List Int, DwAll K H (ns.map V.int) (ns.map WData.int)
  | [] => .nil
  | n :: r => .cons (.int n) (dw_ints r)
theorem ints_dw {K : W.Frag} {H : Hp} : ∀ (ns : List Int) (xs : List V), DwAll K H xs (ns.map WData.int) → xs = ns.map V.int
  | [], xs, h => by
    cases h
    rfl
  | n :: r, xs, h => by
    cases h with
    | cons h1 h2 =>
      cases h1
      rw [ints_dw r _ h2] <;> rfl
section
variable {P : Program} {w : World} {K : W.Frag} {H : Hp} {h : Heap} {R : PySem.W.WRecords} {cl : Str → Option Addr}
theorem sqL_at {a : Addr} {xs : List V} (hok : HOk P w H h) (KX : K.In h) (q : SqL K H a xs) : ∃ (its : List Value) (o : Obj) (n : Nat), Vals xs its ∧ h.get? a = some o ∧ o.cls = .type "list" ∧ o.data = .seq its.toArray n := by
  rcases q with q | ⟨o, its, n, e, hc, _, hd, _, hv⟩
  · obtain ⟨_, its, n, hv, e⟩ := (show ObjOk P w H h a (.lst xs) from q.ok hok)
    exact ⟨its, _, n, hv, e, rfl, rfl⟩
  · exact ⟨its.toList, o, n, hv, KX _ _ e, hc, by simp [hd]⟩
theorem sqT_at {a : Addr} {xs : List V} (hok : HOk P w H h) (KX : K.In h) (q : SqT K H a xs) : ∃ (its : List Value) (o : Obj) (n : Nat), Vals xs its ∧ h.get? a = some o ∧ o.cls = .type "tuple" ∧ o.data = .seq its.toArray n := by
  rcases q with q | ⟨o, its, n, e, hc, hd, _, hv⟩
  · obtain ⟨_, its, hv, o, e, hc, n, hd⟩ := (show ObjOk P w H h a (.tup xs) from q.ok hok)
    exact ⟨its, o, n, hv, e, hc, hd⟩
  · exact ⟨its.toList, o, n, hv, KX _ _ e, hc, by simp [hd]⟩
mutual
theorem Dw.reads (hok : HOk P w H h) (KX : K.In h) : ∀ (d : WData) (v : V) (u : Value), Dw K H v d → RelV v u → ∃ as, ReadsW R cl h u d as
  | .none, _, _, x, r => by
    cases x
    cases r
    exact ⟨_, ReadsW.none⟩
  | .bool b, _, _, x, r => by
    cases x
    cases r
    exact ⟨_, ReadsW.bool b⟩
  | .int i, _, _, x, r => by
    cases x
    obtain ⟨t, rfl⟩ := r
    exact ⟨_, ReadsW.int i t⟩
  | .str s, _, _, x, r => by
    cases x
    obtain ⟨t, rfl⟩ := r
    exact ⟨_, ReadsW.str s t⟩
  | .bytes b, _, _, x, r => by
    cases x
    obtain ⟨t, rfl⟩ := r
    exact ⟨_, ReadsW.bytes _ t⟩
  | .list ds, _, _, x, r => by
    cases x with
    | lst hs ha =>
      cases r
      obtain ⟨its, o, n, rv, ho, hc, hd⟩ := sqL_at hok KX hs
      obtain ⟨as, hr⟩ := Dw.readsAll hok KX ds _ its ha rv
      exact ⟨_, ReadsW.list ho hc hd hr⟩
  | .tuple ds, _, _, x, r => by
    cases x with
    | tup hs ha =>
      cases r
      obtain ⟨its, o, n, rv, ho, hc, hd⟩ := sqT_at hok KX hs
      obtain ⟨as, hr⟩ := Dw.readsAll hok KX ds _ its ha rv
      exact ⟨_, ReadsW.tuple ho hc hd hr⟩
  | .float _, _, _, x, _ => by cases x
  | .dict _, _, _, x, _ => by cases x
  | .bytearray _, _, _, x, _ => by cases x
  | .set _, _, _, x, _ => by cases x
  | .frozenset _, _, _, x, _ => by cases x
  | .obj _ _, _, _, x, _ => by cases x
theorem Dw.readsAll (hok : HOk P w H h) (KX : K.In h) : ∀ (ds : List WData) (vs : List V) (us : List Value), DwAll K H vs ds → Vals vs us → ∃ as, ReadsAllW R cl h us ds as
  | [], _, _, x, r => by
    cases x
    cases r
    exact ⟨_, ReadsAllW.nil⟩
  | d :: ds, _, _, x, r => by
    cases x with
    | cons h1 h2 =>
      cases r with
      | cons r1 r2 =>
        obtain ⟨as, q1⟩ := Dw.reads hok KX d _ _ h1 r1
        obtain ⟨bs, q2⟩ := Dw.readsAll hok KX ds _ _ h2 r2
        exact ⟨_, ReadsAllW.cons q1 q2⟩
end
end
mutual
def plW : WData → Bool
  | .none => true
  | .bool _ => true
  | .int _ => true
  | .str _ => true
  | .bytes _ => true
  | .list xs => plWs xs
  | .tuple xs => plWs xs
  | _ => false
def plWs : List WData → Bool
  | [] => true
  | x :: r => plW x && plWs r
end
theorem plWs_map {α : Type} {f : α → WData} (h : ∀ a, plW (f a) = true) : ∀ l : List α, plWs (l.map f) = true
  | [] => rfl
  | x :: r => by
    show (plW (f x) && plWs (r.map f)) = true
    rw [h x, plWs_map h r] <;> rfl
theorem pl_enc : ∀ (c : Codec) (a : c.denote), plW (c.enc a) = true
  | .unit, _ => rfl
  | .bool, _ => rfl
  | .int _ _, _ => rfl
  | .nat _ _, _ => rfl
  | .u8, _ => rfl
  | .bytes _ _, _ => rfl
  | .text _ _ _ _, _ => rfl
  | .list _ _ c, a => plWs_map (fun x => pl_enc c x) a
  | .pair c d, a => by
    show (plW (c.enc a.1) && (plW (d.enc a.2) && true)) = true
    rw [pl_enc c a.1, pl_enc d a.2] <;> rfl
  | .triple c d e, a => by
    show (plW (c.enc a.1) && (plW (d.enc a.2.1) && (plW (e.enc a.2.2) && true))) = true
    rw [pl_enc c a.1, pl_enc d a.2.1, pl_enc e a.2.2] <;> rfl
  | .option c, none => rfl
  | .option c, some x => pl_enc c x
theorem pl_encAll : ∀ (cs : List Codec) (a : Codec.denoteAll cs), plWs (Codec.encAll cs a) = true
  | [], _ => rfl
  | c :: cs, a => by
    show (plW (c.enc a.1) && plWs (Codec.encAll cs a.2)) = true
    rw [pl_enc c a.1, pl_encAll cs a.2] <;> rfl
theorem weight_mem : ∀ {xs : List WData} {d : WData}, d ∈ xs → d.weight ≤ WData.weightAll xs
  | [], d, h => absurd h (by simp)
  | x :: r, d, h => by
    show d.weight ≤ x.weight + 1 + WData.weightAll r
    rcases List.mem_cons.mp h with e | m
    · rw [e]
      omega
    · have z := weight_mem m
      omega
def toV : Value → V
  | .none => .non
  | .bool b => .bl b
  | .int i _ => .int i
  | .str x _ => .str x
  | .bytes b _ => .byt b
  | .ref a => .ref a
  | _ => .non
def OkU (A : List Addr) : Value → Prop
  | .none => True
  | .bool _ => True
  | .int _ _ => True
  | .str _ _ => True
  | .bytes _ _ => True
  | .ref a => a ∈ A
  | _ => False
theorem OkU.mono {A B : List Addr} (h : ∀ a ∈ A, a ∈ B) : ∀ {u : Value}, OkU A u → OkU B u := fun {u} x => by
  cases u with
  | ref a => exact h a x
  | none => trivial
  | bool b => trivial
  | int i t => trivial
  | str s t => trivial
  | bytes b t => trivial
  | _ => exact False.elim x
theorem relV_toV {A : List Addr} {u : Value} (x : OkU A u) : RelV (toV u) u := by
  cases u with
  | ref a => rfl
  | none => rfl
  | bool b => rfl
  | int i t => exact ⟨t, rfl⟩
  | str s t => exact ⟨t, rfl⟩
  | bytes b t => exact ⟨t, rfl⟩
  | _ => exact False.elim x
theorem vals_toV {A : List Addr} : ∀ {vs : List Value}, (∀ u ∈ vs, OkU A u) → Vals (vs.map toV) vs
  | [], _ => .nil
  | u :: r, h => .cons (relV_toV (h u (List.mem_cons_self ..))) (vals_toV fun x hx => h x (List.mem_cons_of_mem _ hx))
def ArgOb (h : Heap) (A : List Addr) (a : Addr) : Prop := ∃ vs : List Value, vs.length ≤ sizeLine ∧ (∀ u ∈ vs, OkU A u) ∧
  (h.get? a = some { cls := .type "list", data := .seq vs.toArray } ∨ h.get? a = some { cls := .type "tuple", data := .seq vs.toArray })
theorem ArgOb.mono {h : Heap} {A B : List Addr} {a : Addr} (k : ∀ a ∈ A, a ∈ B) (x : ArgOb h A a) : ArgOb h B a := by
  obtain ⟨vs, h1, h2, h3⟩ := x
  exact ⟨vs, h1, fun u hu => (h2 u hu).mono k, h3⟩
theorem wellAll_len {P : Params} {h : Heap} : ∀ {vs : List Value} {ds : List WData}, WellAll P h vs ds → vs.length = ds.length
  | _, _, .nil => rfl
  | _, _, .cons _ b => by
    show _ + 1 = _ + 1
    rw [wellAll_len b]
theorem well_list {P : Params} {h : Heap} {v : Value} {ds : List WData} (x : Well P h v (.list ds)) : ∃ (a : Addr) (vs : List Value), v = .ref a ∧ h.get? a = some { cls := .type "list", data := .seq vs.toArray } ∧ WellAll P h vs ds := by
  cases x with
  | list ho hall => exact ⟨_, _, rfl, ho, hall⟩
theorem well_tuple {P : Params} {h : Heap} {v : Value} {ds : List WData} (x : Well P h v (.tuple ds)) : ∃ (a : Addr) (vs : List Value), v = .ref a ∧ h.get? a = some { cls := .type "tuple", data := .seq vs.toArray } ∧ WellAll P h vs ds := by
  cases x with
  | tuple ho hall => exact ⟨_, _, rfl, ho, hall⟩
theorem well_cons {P : Params} {h : Heap} {us : List Value} {d : WData} {ds : List WData} (x : WellAll P h us (d :: ds)) : ∃ (v : Value) (vs : List Value), us = v :: vs ∧ Well P h v d ∧ WellAll P h vs ds := by
  cases x with
  | cons a b => exact ⟨_, _, rfl, a, b⟩
theorem line_of {n : Nat} (h : n ≤ 1048576) : n ≤ sizeLine := Nat.le_trans h (by decide)
section
variable {P : Params} {h : Heap}
mutual
theorem area_one : ∀ (d : WData) (v : Value), Well P h v d → plW d = true → d.weight ≤ 1048576 → ∃ A : List Addr, OkU A v ∧ ∀ a ∈ A, ArgOb h A a
  | .none, _, x, _, _ => by
    cases x
    exact ⟨[], trivial, fun a m => absurd m (by simp)⟩
  | .bool b, _, x, _, _ => by
    cases x
    exact ⟨[], trivial, fun a m => absurd m (by simp)⟩
  | .int i, _, x, _, _ => by
    cases x
    exact ⟨[], trivial, fun a m => absurd m (by simp)⟩
  | .str s, _, x, _, _ => by
    cases x
    exact ⟨[], trivial, fun a m => absurd m (by simp)⟩
  | .bytes b, _, x, _, _ => by
    cases x
    exact ⟨[], trivial, fun a m => absurd m (by simp)⟩
  | .list ds, _, x, p, z => by
    obtain ⟨a, vs, rfl, ho, hall⟩ := well_list x
    have z2 : WData.weightAll ds ≤ 1048576 := z
    obtain ⟨A, h1, h2⟩ := area_all ds _ hall p fun d hd => Nat.le_trans (weight_mem hd) z2
    have k : ∀ b ∈ A, b ∈ a :: A := fun b hb => List.mem_cons_of_mem _ hb
    refine ⟨a :: A, List.mem_cons_self .., fun b hb => ?_⟩
    rcases List.mem_cons.mp hb with e | m
    · rw [e]
      exact ⟨vs, line_of (by rw [wellAll_len hall]; exact Nat.le_trans (PySem.W.length_le_weightAllW ds) z2), fun u hu => (h1 u hu).mono k, .inl ho⟩
    · exact (h2 b m).mono k
  | .tuple ds, _, x, p, z => by
    obtain ⟨a, vs, rfl, ho, hall⟩ := well_tuple x
    have z2 : WData.weightAll ds ≤ 1048576 := z
    obtain ⟨A, h1, h2⟩ := area_all ds _ hall p fun d hd => Nat.le_trans (weight_mem hd) z2
    have k : ∀ b ∈ A, b ∈ a :: A := fun b hb => List.mem_cons_of_mem _ hb
    refine ⟨a :: A, List.mem_cons_self .., fun b hb => ?_⟩
    rcases List.mem_cons.mp hb with e | m
    · rw [e]
      exact ⟨vs, line_of (by rw [wellAll_len hall]; exact Nat.le_trans (PySem.W.length_le_weightAllW ds) z2), fun u hu => (h1 u hu).mono k, .inr ho⟩
    · exact (h2 b m).mono k
  | .float _, _, _, p, _ => Bool.noConfusion (show false = true from p)
  | .dict _, _, _, p, _ => Bool.noConfusion (show false = true from p)
  | .bytearray _, _, _, p, _ => Bool.noConfusion (show false = true from p)
  | .set _, _, _, p, _ => Bool.noConfusion (show false = true from p)
  | .frozenset _, _, _, p, _ => Bool.noConfusion (show false = true from p)
  | .obj _ _, _, _, p, _ => Bool.noConfusion (show false = true from p)
theorem area_all : ∀ (ds : List WData) (vs : List Value), WellAll P h vs ds → plWs ds = true → (∀ d ∈ ds, d.weight ≤ 1048576) → ∃ A : List Addr, (∀ u ∈ vs, OkU A u) ∧ ∀ a ∈ A, ArgOb h A a
  | [], _, x, _, _ => by
    cases x
    exact ⟨[], fun u m => absurd m (by simp), fun a m => absurd m (by simp)⟩
  | d :: ds, _, x, p, z => by
    obtain ⟨v, vs, rfl, x1, x2⟩ := well_cons x
    have q : plW d = true ∧ plWs ds = true := Bool.and_eq_true_iff.mp p
    obtain ⟨A, a1, a2⟩ := area_one d v x1 q.1 (z d (List.mem_cons_self ..))
    obtain ⟨B, b1, b2⟩ := area_all ds vs x2 q.2 fun e he => z e (List.mem_cons_of_mem _ he)
    have kA : ∀ b ∈ A, b ∈ A ++ B := fun b hb => List.mem_append.mpr (.inl hb)
    have kB : ∀ b ∈ B, b ∈ A ++ B := fun b hb => List.mem_append.mpr (.inr hb)
    refine ⟨A ++ B, fun u hu => ?_, fun b hb => ?_⟩
    · rcases List.mem_cons.mp hu with e | m
      · rw [e]
        exact a1.mono kA
      · exact (b1 u m).mono kB
    · rcases List.mem_append.mp hb with m | m
      · exact (a2 b m).mono kA
      · exact (b2 b m).mono kB
end
end
def hoOf (o : Obj) : Option HO := match o.data with
  | .seq vs _ => if (o.cls == Value.type "list") = true then some (.frz o (.lst (vs.toList.map toV))) else some (.frz o (.tup (vs.toList.map toV)))
  | _ => none
def argH (K : W.Frag) (h : Heap) (A : List Addr) : Hp := fun b => if b ∈ A then (if (K.lookup b).isNone = true then (h.get? b).bind hoOf else none) else none
def OnlyF (H : Hp) : Prop := ∀ b, H b = none ∨ ∃ o u, H b = some (.frz o u)
theorem hoOf_lst (vs : List Value) : hoOf { cls := .type "list", data := .seq vs.toArray } = some (.frz { cls := .type "list", data := .seq vs.toArray } (.lst (vs.map toV))) := by
  show (if (Value.type "list" == Value.type "list") = true then some (HO.frz { cls := .type "list", data := .seq vs.toArray } (.lst (vs.toArray.toList.map toV))) else some (HO.frz { cls := .type "list", data := .seq vs.toArray } (.tup (vs.toArray.toList.map toV)))) = _
  rw [if_pos (beq_self_eq_true _)]
theorem hoOf_tup (vs : List Value) : hoOf { cls := .type "tuple", data := .seq vs.toArray } = some (.frz { cls := .type "tuple", data := .seq vs.toArray } (.tup (vs.map toV))) := by
  show (if (Value.type "tuple" == Value.type "list") = true then some (HO.frz { cls := .type "tuple", data := .seq vs.toArray } (.lst (vs.toArray.toList.map toV))) else some (HO.frz { cls := .type "tuple", data := .seq vs.toArray } (.tup (vs.toArray.toList.map toV)))) = _
  rw [if_neg (by decide)]
section
variable {P : Program} {w : World} {K : W.Frag} {h : Heap} {A : List Addr}
theorem argH_at {b : Addr} {o : Obj} (hb : b ∈ A) (hk : K.lookup b = none) (e : h.get? b = some o) : argH K h A b = hoOf o := by
  unfold argH
  rw [if_pos hb, hk, if_pos (show (none : Option Obj).isNone = true from rfl), e] <;> rfl
theorem of_argH {b : Addr} {u : HO} (q : argH K h A b = some u) : b ∈ A ∧ K.lookup b = none := by
  unfold argH at q
  by_cases hb : b ∈ A
  · rw [if_pos hb] at q
    cases hk : K.lookup b with
    | none => exact ⟨hb, rfl⟩
    | some o =>
      rw [hk, if_neg (by simp)] at q
      cases q
  · rw [if_neg hb] at q
    cases q
theorem argH_is (ar : ∀ a ∈ A, ArgOb h A a) {b : Addr} {u : HO} (q : argH K h A b = some u) : K.lookup b = none ∧ ∃ vs : List Value, vs.length ≤ sizeLine ∧ (∀ u ∈ vs, OkU A u) ∧
    ((h.get? b = some { cls := .type "list", data := .seq vs.toArray } ∧ u = .frz { cls := .type "list", data := .seq vs.toArray } (.lst (vs.map toV))) ∨
     (h.get? b = some { cls := .type "tuple", data := .seq vs.toArray } ∧ u = .frz { cls := .type "tuple", data := .seq vs.toArray } (.tup (vs.map toV)))) := by
  obtain ⟨hb, hk⟩ := of_argH q
  obtain ⟨vs, h1, h2, h3⟩ := ar b hb
  refine ⟨hk, vs, h1, h2, ?_⟩
  rcases h3 with e | e
  · rw [argH_at hb hk e, hoOf_lst] at q
    exact .inl ⟨e, (Option.some.inj q).symm⟩
  · rw [argH_at hb hk e, hoOf_tup] at q
    exact .inr ⟨e, (Option.some.inj q).symm⟩
theorem argH_only (ar : ∀ a ∈ A, ArgOb h A a) : OnlyF (argH K h A) := fun b => by
  cases q : argH K h A b with
  | none => exact .inl rfl
  | some u =>
    obtain ⟨_, vs, _, _, ⟨_, e⟩ | ⟨_, e⟩⟩ := argH_is ar q
    · exact .inr ⟨_, _, by rw [e]⟩
    · exact .inr ⟨_, _, by rw [e]⟩
theorem argH_ok (ar : ∀ a ∈ A, ArgOb h A a) : HOk P w (argH K h A) h := fun b u q => by
  obtain ⟨_, vs, h1, h2, ⟨e, rfl⟩ | ⟨e, rfl⟩⟩ := argH_is ar q
  · exact ⟨e, by rw [List.length_map]; exact h1, vs, _, vals_toV h2, e⟩
  · exact ⟨e, by rw [List.length_map]; exact h1, vs, vals_toV h2, _, e, rfl, _, rfl⟩
theorem seq_inj {c c' : Value} {vs us : List Value} (e : (some { cls := c, data := .seq vs.toArray } : Option Obj) = some { cls := c', data := .seq us.toArray }) : c = c' ∧ vs = us := by
  have e1 := Option.some.inj e
  have e2 : c = c' := congrArg Obj.cls e1
  have e3 : Data.seq vs.toArray = Data.seq us.toArray := congrArg Obj.data e1
  injection e3 with e4
  refine ⟨e2, ?_⟩
  have e5 := congrArg Array.toList e4
  simpa using e5
theorem argL (KX : K.In h) (ar : ∀ a ∈ A, ArgOb h A a) {a : Addr} {vs : List Value} (ha : a ∈ A) (e : h.get? a = some { cls := .type "list", data := .seq vs.toArray }) : (∀ u ∈ vs, OkU A u) ∧ SqL K (argH K h A) a (vs.map toV) := by
  obtain ⟨us, h1, h2, h3⟩ := ar a ha
  have hu : us = vs := by
    rcases h3 with q | q
    · rw [e] at q
      exact (seq_inj q).2.symm
    · rw [e] at q
      exact absurd (Value.type.inj (seq_inj q).1) (by decide)
  subst hu
  refine ⟨h2, ?_⟩
  cases hk : K.lookup a with
  | none => exact .inl (.inr ⟨_, by rw [argH_at ha hk e, hoOf_lst]⟩)
  | some o =>
    have e2 := KX a o hk
    rw [e] at e2
    obtain rfl := Option.some.inj e2
    exact .inr ⟨_, us.toArray, _, hk, rfl, rfl, rfl, by rw [List.size_toArray]; exact h1, by simpa using vals_toV h2⟩
theorem argT (KX : K.In h) (ar : ∀ a ∈ A, ArgOb h A a) {a : Addr} {vs : List Value} (ha : a ∈ A) (e : h.get? a = some { cls := .type "tuple", data := .seq vs.toArray }) : (∀ u ∈ vs, OkU A u) ∧ SqT K (argH K h A) a (vs.map toV) := by
  obtain ⟨us, h1, h2, h3⟩ := ar a ha
  have hu : us = vs := by
    rcases h3 with q | q
    · rw [e] at q
      exact absurd (Value.type.inj (seq_inj q).1) (by decide)
    · rw [e] at q
      exact (seq_inj q).2.symm
  subst hu
  refine ⟨h2, ?_⟩
  cases hk : K.lookup a with
  | none => exact .inl (.inr ⟨_, by rw [argH_at ha hk e, hoOf_tup]⟩)
  | some o =>
    have e2 := KX a o hk
    rw [e] at e2
    obtain rfl := Option.some.inj e2
    exact .inr ⟨_, us.toArray, _, hk, rfl, rfl, by rw [List.size_toArray]; exact h1, by simpa using vals_toV h2⟩
mutual
theorem dw_one {Pm : Params} (KX : K.In h) (ar : ∀ a ∈ A, ArgOb h A a) : ∀ (d : WData) (v : Value), Well Pm h v d → plW d = true → OkU A v → Dw K (argH K h A) (toV v) d
  | .none, _, x, _, _ => by
    cases x
    exact .non
  | .bool b, _, x, _, _ => by
    cases x
    exact .bl b
  | .int i, _, x, _, _ => by
    cases x
    exact .int i
  | .str s, _, x, _, _ => by
    cases x
    exact .str s
  | .bytes b, _, x, _, _ => by
    cases x
    have z := Dw.byt (K := K) (H := argH K h A) b.toArray
    exact z
  | .list ds, _, x, p, hu => by
    obtain ⟨a, vs, rfl, ho, hall⟩ := well_list x
    obtain ⟨h2, hs⟩ := argL KX ar hu ho
    exact .lst hs (dw_all KX ar ds _ hall p h2)
  | .tuple ds, _, x, p, hu => by
    obtain ⟨a, vs, rfl, ho, hall⟩ := well_tuple x
    obtain ⟨h2, hs⟩ := argT KX ar hu ho
    exact .tup hs (dw_all KX ar ds _ hall p h2)
  | .float _, _, _, p, _ => Bool.noConfusion (show false = true from p)
  | .dict _, _, _, p, _ => Bool.noConfusion (show false = true from p)
  | .bytearray _, _, _, p, _ => Bool.noConfusion (show false = true from p)
  | .set _, _, _, p, _ => Bool.noConfusion (show false = true from p)
  | .frozenset _, _, _, p, _ => Bool.noConfusion (show false = true from p)
  | .obj _ _, _, _, p, _ => Bool.noConfusion (show false = true from p)
theorem dw_all {Pm : Params} (KX : K.In h) (ar : ∀ a ∈ A, ArgOb h A a) : ∀ (ds : List WData) (vs : List Value), WellAll Pm h vs ds → plWs ds = true → (∀ u ∈ vs, OkU A u) → DwAll K (argH K h A) (vs.map toV) ds
  | [], _, x, _, _ => by
    cases x
    exact .nil
  | d :: ds, _, x, p, hu => by
    obtain ⟨v, vs, rfl, x1, x2⟩ := well_cons x
    have q : plW d = true ∧ plWs ds = true := Bool.and_eq_true_iff.mp p
    exact .cons (dw_one KX ar d v x1 q.1 (hu _ (List.mem_cons_self ..))) (dw_all KX ar ds vs x2 q.2 fun u m => hu u (List.mem_cons_of_mem _ m))
end
end
theorem spec_call {P : Program} {w : World} {K : W.Frag} {mg mb : Str → Option Value} {CX : CXT} {k : Nat} {fa : Addr} {fd : FuncData} {ps : List Str} {sp : Sp} {s₁ : Shared} {vals : List Value} {ds : List WData} {R : PySem.W.WRecords} {cl : Str → Option Addr} {d0 : WData}
    (KX : K.In s₁.heap) (hns : s₁.heap.Ns mainGlobals mg) (hb : s₁.heap.Ns builtinsNs mb) (hbb : ∀ x : Str, x ≠ "__name__" → mb x = bootBuiltins x) (hlim : s₁.heap.NoLimit) (hg : s₁.gens = #[])
    (hwl : WellAll w.params s₁.heap vals ds) (hpl : plWs ds = true) (hwt : ∀ d ∈ ds, d.weight ≤ 1048576) (hr : Room k callerA)
    (F : ∀ base : Heap, K.In base → base.Ns mainGlobals mg → FnOk P w K mg base CX k fa fd ps sp) (hbind : ∀ (s : Shared) (us : List Value), us.length = ps.length → BindsTo s fd ⟨us, []⟩ (ps.zip us)) (hlen : ds.length = ps.length)
    (hsp : ∀ (H : Hp) (xs : List V), OnlyF H → DwAll K H xs ds → sp xs H (fun v H' => Dw K H' v d0) fun _ _ _ => False)
    (hCX : ∀ H e s', CX [] H s₁ (fun _ _ _ => False) e s' → False) :
    codeAny (model P w) callerA (.call (.ref fa) ⟨vals, []⟩) (fun r s' => ∃ u as, r = .ok (.ret u) ∧ ReadsW R cl s'.heap u d0 as ∧ OldK s₁.heap s'.heap ∧ s'.os = s₁.os ∧ AllBare s'.gens) s₁ := by
  obtain ⟨A, ho, ar⟩ := area_all ds vals hwl hpl hwt
  have hO : OnlyF (argH K s₁.heap A) := argH_only ar
  have hok : HOk P w (argH K s₁.heap A) s₁.heap := argH_ok ar
  have hS := dw_all KX ar ds vals hwl hpl ho
  have hV := vals_toV ho
  have hK : ∀ b u, argH K s₁.heap A b = some u → K.lookup b = none := fun b u q => (argH_is ar q).1
  have noA : ∀ {b : Addr} {o : Obj} {es : Array DictEntry} {ep : Nat}, s₁.heap.get? b = some o → o.data = .dict es ep → argH K s₁.heap A b = none := fun {b o es ep} e d => by
    cases q : argH K s₁.heap A b with
    | none => rfl
    | some u =>
      obtain ⟨_, vs, _, _, ⟨e2, _⟩ | ⟨e2, _⟩⟩ := argH_is ar q
      · rw [e2] at e
        cases e
        have d' : Data.seq vs.toArray _ = Data.dict es ep := d
        cases d'
      · rw [e2] at e
        cases e
        have d' : Data.seq vs.toArray _ = Data.dict es ep := d
        cases d'
  generalize argH K s₁.heap A = H at hO hok hS hK noA
  have base_of : ∀ {b : Addr} {o : Obj}, s₁.heap.get? b = some o → H b = none → (hidT s₁.heap H).get? b = some o := fun e n => hidT_get e n
  have nsK : ∀ {b : Addr} {m : Str → Option Value}, s₁.heap.Ns b m → (hidT s₁.heap H).Ns b m := fun {b m} ⟨o, es, ep, e, d, r⟩ => ⟨o, es, ep, base_of e (noA e d), d, r⟩
  have nK : ∀ b o, K.lookup b = some o → H b = none := fun b o e => by
    cases q : H b with
    | none => rfl
    | some u =>
      rw [hK b u q] at e
      cases e
  have hKb : K.In (hidT s₁.heap H) := fun b o e => base_of (KX b o e) (nK b o e)
  have hM : Mod K mg (hidT s₁.heap H) := ⟨hKb, nsK hns, ⟨mb, nsK hb, hbb⟩, let ⟨mc, h1, h2⟩ := hlim; ⟨mc, nsK h1, h2⟩⟩
  have e0 : Env0 P w K mg (hidT s₁.heap H) callerA [] s₁ H := ⟨rfl, hM, fun b o e => of_hidT e, Nat.le_of_eq (hidT_size _ _), trivial, fun b hb => absurd (show b ∈ ([] : List Addr) from hb) (by simp), hok, .of_eq hg⟩
  have hl : vals.length = ps.length := by rw [wellAll_len hwl]; exact hlen
  refine codeAny_mono ((F _ hKb (nsK hns)).run callerA [] s₁ H ⟨vals, []⟩ vals (vals.map toV) _ _ hr e0 (hbind s₁ vals hl) hV (hsp H _ hO hS)) fun r s' x => ?_
  cases r with
  | error e => exact (hCX H e s' x).elim
  | ok fl =>
    cases fl with
    | next => exact False.elim x
    | brk => exact False.elim x
    | cont => exact False.elim x
    | ret u =>
      obtain ⟨v, H', os, bare, un, hok', r', q⟩ := x
      have kept : ∀ b o, s₁.heap.get? b = some o → s'.heap.get? b = some o := fun b o e => by
        cases q2 : H b with
        | none => exact un.keep b o e q2 (by intro z; exact absurd (show b ∈ ([] : List Addr) from z) (by simp)) (by simp)
        | some u2 =>
          rcases hO b with z | ⟨ob, u3, z⟩
          · rw [q2] at z
            cases z
          · have z2 := un.frzs b ob _ z
            obtain ⟨e1, _⟩ := hok b _ z
            obtain ⟨e2, _⟩ := hok' b _ z2
            rw [e] at e1
            cases e1
            exact e2
      have KX' : K.In s'.heap := fun b o e => kept b o (KX b o e)
      obtain ⟨as, hrd⟩ := Dw.reads (R := R) (cl := cl) hok' KX' d0 v u q r'
      exact ⟨u, as, rfl, hrd, OldK.of_keep kept, os, bare⟩
theorem layable_weight {ds : List WData} (h : WData.layableAll ds = true) : ∀ d ∈ ds, d.weight ≤ 1048576 := fun d hd =>
  (PySem.W.layableW_iff.mp (List.all_eq_true.mp h d hd)).2.2
theorem encAll_len : ∀ (cs : List Codec) (a : Codec.denoteAll cs), (Codec.encAll cs a).length = cs.length
  | [], _ => rfl
  | c :: cs, a => by
    show (Codec.encAll cs a.2).length + 1 = cs.length + 1
    rw [encAll_len cs a.2]
theorem walk_spec {r : OpenSpec} {k : Nat} {q : Program} {loose : List Str} {XP : (Str → Option Value) → Heap → Prop} {YP : World → Heap → Prop} {d : DefRec} {K : Params → W.Frag} {CX : World → CXT} {ps : List Str} {sp : World → Sp}
    (hwell : r.wellSaid = true) (hdf : d.params.defaults = []) (hlen : r.args.length = ps.length) (hr : Room k callerA)
    (hY : ∀ (w : World) (h : Heap), YP w h → (K w.params).In h)
    (F : ∀ (w : World) (mg : Str → Option Value) (fa : Addr) (h : Heap), YP w h → (K w.params).In h → h.Ns mainGlobals mg → mg d.name = some (.ref fa) →
      ∃ fd : FuncData, (∀ (s : Shared) (us : List Value), us.length = ps.length → BindsTo s fd ⟨us, []⟩ (ps.zip us)) ∧
        ∀ base : Heap, (K w.params).In base → base.Ns mainGlobals mg → FnOk r.prog w (K w.params) mg base (CX w) k fa fd ps (sp w))
    (hsp : ∀ (w : World) (H : Hp) (xs : List V) (a : Codec.denoteAll r.args), OnlyF H → Codec.withinAll r.args a = true → Codec.app r.args r.asked a = true → DwAll (K w.params) H xs (Codec.encAll r.args a) →
      sp w xs H (fun v H' => Dw (K w.params) H' v (r.ret.enc (Codec.app r.args r.f a))) fun _ _ _ => False)
    (hCX : ∀ (w : World) (H : Hp) (s : Shared) (e : Value) (s' : Shared), CX w [] H s (fun _ _ _ => False) e s' → False) :
    PySem.W.WalkOS q loose XP YP r d [] (fun f vs => PySem.call f vs) := by
  intro w s_0 s₁ mg mb G Y fa o pm cd doc dV kV ho hd hcd hD hmg hg args vals as hpre hlay hrd hwl hlo
  obtain ⟨a, e1, e2⟩ := PySem.W.os_pre_some hpre
  obtain ⟨e3, hwi⟩ := Codec.encAll_of_decAll r.args args a e1
  subst e3
  have KX := hY w _ Y
  obtain ⟨fd, hb, hF⟩ := F w mg fa _ Y KX G.T.g hmg
  refine PySem.W.enter_call (codeAny_mono (spec_call (R := []) (cl := classAt s_0.heap) (d0 := r.ret.enc (Codec.app r.args r.f a)) KX G.T.g G.T.b G.T.builtins G.T.nolimit hg hwl (pl_encAll _ _) (layable_weight hlay) hr hF hb (by rw [encAll_len]; exact hlen)
    (fun H xs hO hS => hsp w H xs a hO hwi e2 hS) fun H e s' => hCX w H s₁ e s') fun r' s' hq => ?_)
  obtain ⟨u, as', rfl, h1, h2, h3, h4⟩ := hq
  exact ⟨.inl ⟨u, _, as', rfl, fun _ => rfl, h1, (OpenSpec.post_iff hwell hwi _ _).mpr rfl, fun z => Bool.noConfusion (show false = true from z)⟩, h2, h3, h4⟩
theorem walk_specK {r : OpenSpec} {k : Nat} {q : Program} {loose : List Str} {XP : (Str → Option Value) → Heap → Prop} {YP : World → Heap → Prop} {d : DefRec} {K : Params → W.Frag} {CX : CXT} {ps : List Str} {sp : W.Frag → Sp}
    (hwell : r.wellSaid = true) (hdf : d.params.defaults = []) (hlen : r.args.length = ps.length) (hr : Room k callerA)
    (hY : ∀ (w : World) (h : Heap), YP w h → (K w.params).In h)
    (F : ∀ (w : World) (mg : Str → Option Value) (fa : Addr) (h : Heap), YP w h → (K w.params).In h → h.Ns mainGlobals mg → mg d.name = some (.ref fa) →
      ∃ fd : FuncData, (∀ (s : Shared) (us : List Value), us.length = ps.length → BindsTo s fd ⟨us, []⟩ (ps.zip us)) ∧
        ∀ base : Heap, (K w.params).In base → base.Ns mainGlobals mg → FnOk r.prog w (K w.params) mg base CX k fa fd ps (sp (K w.params)))
    (hsp : ∀ (K : W.Frag) (H : Hp) (xs : List V) (a : Codec.denoteAll r.args), OnlyF H → Codec.withinAll r.args a = true → Codec.app r.args r.asked a = true → DwAll K H xs (Codec.encAll r.args a) →
      sp K xs H (fun v H' => Dw K H' v (r.ret.enc (Codec.app r.args r.f a))) fun _ _ _ => False)
    (hCX : ∀ (H : Hp) (s : Shared) (e : Value) (s' : Shared), CX [] H s (fun _ _ _ => False) e s' → False) :
    PySem.W.WalkOS q loose XP YP r d [] (fun f vs => PySem.call f vs) :=
  walk_spec (K := K) (CX := fun _ => CX) (sp := fun w => sp (K w.params)) hwell hdf hlen hr hY F (fun w H xs a h1 h2 h3 h4 => hsp (K w.params) H xs a h1 h2 h3 h4) fun _ H s e s' => hCX H s e s'
end L2
end
namespace CG
open PySem PySem.Spec PyProof.Rows L2
def top (i : Nat) : Stmt := PySem.Challenge.pw_cacheguess_s01_answers.main.body.getD i (.Pass ⟨0, 0, 0, 0⟩)
abbrev s_q70 : Stmt := inClass (top 8) 0
theorem sc_q70 : FnScope ["self", "size"] ["self", "size"] (defScope s_q70) := ⟨rfl, rfl, rfl, by decide +kernel, rfl, by decide +kernel, by decide +kernel⟩
abbrev s_q71 : Stmt := inClass (top 8) 1
theorem sc_q71 : FnScope ["self", "place"] ["self", "place"] (defScope s_q71) := ⟨rfl, rfl, rfl, by decide +kernel, rfl, by decide +kernel, by decide +kernel⟩
abbrev s_q59 : Stmt := inClass (top 8) 2
theorem sc_q59 : FnScope ["self", "place", "up", "at"] ["self", "place", "up"] (defScope s_q59) := ⟨rfl, rfl, rfl, by decide +kernel, rfl, by decide +kernel, by decide +kernel⟩
abbrev s_q64 : Stmt := inClass (top 9) 0
theorem sc_q64 : FnScope ["self", "settings", "size"] ["self", "settings"] (defScope s_q64) := ⟨rfl, rfl, rfl, by decide +kernel, rfl, by decide +kernel, by decide +kernel⟩
abbrev s_q5 : Stmt := inClass (top 9) 1
theorem sc_q5 : FnScope ["self", "address", "taken", "place"] ["self", "address", "taken"] (defScope s_q5) := ⟨rfl, rfl, rfl, by decide +kernel, rfl, by decide +kernel, by decide +kernel⟩
abbrev s_q53 : Stmt := inClass (top 9) 2
theorem sc_q53 : FnScope ["self", "place"] ["self", "place"] (defScope s_q53) := ⟨rfl, rfl, rfl, by decide +kernel, rfl, by decide +kernel, by decide +kernel⟩
abbrev s_q1 : Stmt := inClass (top 9) 3
theorem sc_q1 : FnScope ["self", "place"] ["self", "place"] (defScope s_q1) := ⟨rfl, rfl, rfl, by decide +kernel, rfl, by decide +kernel, by decide +kernel⟩
abbrev s_q11 : Stmt := inClass (top 9) 4
theorem sc_q11 : FnScope ["self", "place"] ["self", "place"] (defScope s_q11) := ⟨rfl, rfl, rfl, by decide +kernel, rfl, by decide +kernel, by decide +kernel⟩
abbrev s_q15 : Stmt := inClass (top 9) 5
theorem sc_q15 : FnScope ["self", "place", "taken"] ["self", "place", "taken"] (defScope s_q15) := ⟨rfl, rfl, rfl, by decide +kernel, rfl, by decide +kernel, by decide +kernel⟩
abbrev s_q7 : Stmt := inClass (top 9) 6
theorem sc_q7 : FnScope ["self", "place", "taken", "said"] ["self", "place", "taken"] (defScope s_q7) := ⟨rfl, rfl, rfl, by decide +kernel, rfl, by decide +kernel, by decide +kernel⟩
abbrev s_q23 : Stmt := inClass (top 9) 7
theorem sc_q23 : FnScope ["self", "place", "taken", "history"] ["self", "place", "taken"] (defScope s_q23) := ⟨rfl, rfl, rfl, by decide +kernel, rfl, by decide +kernel, by decide +kernel⟩
abbrev s_q3 : Stmt := inClass (top 9) 8
theorem sc_q3 : FnScope ["self", "history", "taken", "newest"] ["self", "history", "taken"] (defScope s_q3) := ⟨rfl, rfl, rfl, by decide +kernel, rfl, by decide +kernel, by decide +kernel⟩
abbrev s_q66 : Stmt := inClass (top 15) 0
theorem sc_q66 : FnScope ["self", "ways", "policy"] ["self", "ways", "policy"] (defScope s_q66) := ⟨rfl, rfl, rfl, by decide +kernel, rfl, by decide +kernel, by decide +kernel⟩
abbrev s_q55 : Stmt := inClass (top 15) 1
theorem sc_q55 : FnScope ["self", "line"] ["self", "line"] (defScope s_q55) := ⟨rfl, rfl, rfl, by decide +kernel, rfl, by decide +kernel, by decide +kernel⟩
abbrev s_q78 : Stmt := inClass (top 15) 2
theorem sc_q78 : FnScope ["self", "line"] ["self", "line"] (defScope s_q78) := ⟨rfl, rfl, rfl, by decide +kernel, rfl, by decide +kernel, by decide +kernel⟩
abbrev s_q67 : Stmt := inClass (top 15) 3
theorem sc_q67 : FnScope ["self", "line"] ["self", "line"] (defScope s_q67) := ⟨rfl, rfl, rfl, by decide +kernel, rfl, by decide +kernel, by decide +kernel⟩
abbrev s_q13 : Stmt := inClass (top 15) 4
theorem sc_q13 : FnScope ["self", "chance"] ["self", "chance"] (defScope s_q13) := ⟨rfl, rfl, rfl, by decide +kernel, rfl, by decide +kernel, by decide +kernel⟩
abbrev s_q65 : Stmt := inClass (top 15) 5
theorem sc_q65 : FnScope ["self", "way", "line", "marked"] ["self", "way", "line", "marked"] (defScope s_q65) := ⟨rfl, rfl, rfl, by decide +kernel, rfl, by decide +kernel, by decide +kernel⟩
abbrev s_q38 : Stmt := inClass (top 15) 6
theorem sc_q38 : FnScope ["self", "way"] ["self", "way"] (defScope s_q38) := ⟨rfl, rfl, rfl, by decide +kernel, rfl, by decide +kernel, by decide +kernel⟩
abbrev s_q33 : Stmt := inClass (top 15) 7
theorem sc_q33 : FnScope ["self", "way"] ["self", "way"] (defScope s_q33) := ⟨rfl, rfl, rfl, by decide +kernel, rfl, by decide +kernel, by decide +kernel⟩
abbrev s_q12 : Stmt := inClass (top 15) 8
theorem sc_q12 : FnScope ["self", "ways", "node"] ["self"] (defScope s_q12) := ⟨rfl, rfl, rfl, by decide +kernel, rfl, by decide +kernel, by decide +kernel⟩
abbrev s_q24 : Stmt := inClass (top 15) 9
theorem sc_q24 : FnScope ["self", "way", "node"] ["self", "way"] (defScope s_q24) := ⟨rfl, rfl, rfl, by decide +kernel, rfl, by decide +kernel, by decide +kernel⟩
abbrev s_q98 : Stmt := inClass (top 21) 0
theorem sc_q98 : FnScope ["self"] ["self"] (defScope s_q98) := ⟨rfl, rfl, rfl, by decide +kernel, rfl, by decide +kernel, by decide +kernel⟩
abbrev s_q72 : Stmt := inClass (top 21) 1
theorem sc_q72 : FnScope ["self", "address", "writing"] ["self", "address", "writing"] (defScope s_q72) := ⟨rfl, rfl, rfl, by decide +kernel, rfl, by decide +kernel, by decide +kernel⟩
abbrev s_q104 : Stmt := inClass (top 22) 0
theorem sc_q104 : FnScope ["self", "settings", "chance", "behind", "k"] ["self", "settings", "chance", "behind"] (defScope s_q104) := ⟨rfl, rfl, rfl, by decide +kernel, rfl, by decide +kernel, by decide +kernel⟩
abbrev s_q69 : Stmt := inClass (top 22) 1
theorem sc_q69 : FnScope ["self", "reads", "writes"] ["self"] (defScope s_q69) := ⟨rfl, rfl, rfl, by decide +kernel, rfl, by decide +kernel, by decide +kernel⟩
abbrev s_q25 : Stmt := inClass (top 22) 2
theorem sc_q25 : FnScope ["self", "address", "size", "writing", "first", "last", "line"] ["self", "address", "size", "writing"] (defScope s_q25) := ⟨rfl, rfl, rfl, by decide +kernel, rfl, by decide +kernel, by decide +kernel⟩
abbrev s_q79 : Stmt := inClass (top 22) 3
theorem sc_q79 : FnScope ["self", "address", "writing", "line"] ["self", "address", "writing"] (defScope s_q79) := ⟨rfl, rfl, rfl, by decide +kernel, rfl, by decide +kernel, by decide +kernel⟩
abbrev s_q49 : Stmt := inClass (top 22) 4
theorem sc_q49 : FnScope ["self", "line", "held"] ["self", "line"] (defScope s_q49) := ⟨rfl, rfl, rfl, by decide +kernel, rfl, by decide +kernel, by decide +kernel⟩
abbrev s_q39 : Stmt := inClass (top 22) 5
theorem sc_q39 : FnScope ["self", "line", "held", "found"] ["self", "line"] (defScope s_q39) := ⟨rfl, rfl, rfl, by decide +kernel, rfl, by decide +kernel, by decide +kernel⟩
abbrev s_q0 : Stmt := inClass (top 22) 6
theorem sc_q0 : FnScope ["self", "line", "marked"] ["self", "line", "marked"] (defScope s_q0) := ⟨rfl, rfl, rfl, by decide +kernel, rfl, by decide +kernel, by decide +kernel⟩
abbrev s_q34 : Stmt := inClass (top 22) 7
theorem sc_q34 : FnScope ["self", "line"] ["self", "line"] (defScope s_q34) := ⟨rfl, rfl, rfl, by decide +kernel, rfl, by decide +kernel, by decide +kernel⟩
abbrev s_q47 : Stmt := inClass (top 22) 8
theorem sc_q47 : FnScope ["self", "line", "marked", "held", "way"] ["self", "line", "marked"] (defScope s_q47) := ⟨rfl, rfl, rfl, by decide +kernel, rfl, by decide +kernel, by decide +kernel⟩
abbrev s_q16 : Stmt := inClass (top 22) 9
theorem sc_q16 : FnScope ["self", "line", "writing"] ["self", "line", "writing"] (defScope s_q16) := ⟨rfl, rfl, rfl, by decide +kernel, rfl, by decide +kernel, by decide +kernel⟩
abbrev s_q82 : Stmt := inClass (top 22) 10
theorem sc_q82 : FnScope ["self", "line"] ["self", "line"] (defScope s_q82) := ⟨rfl, rfl, rfl, by decide +kernel, rfl, by decide +kernel, by decide +kernel⟩
abbrev s_q97 : Stmt := inClass (top 25) 0
theorem sc_q97 : FnScope ["self"] ["self"] (defScope s_q97) := ⟨rfl, rfl, rfl, by decide +kernel, rfl, by decide +kernel, by decide +kernel⟩
abbrev s_q96 : Stmt := inClass (top 25) 1
theorem sc_q96 : FnScope ["self", "ways", "fell_out"] ["self", "ways"] (defScope s_q96) := ⟨rfl, rfl, rfl, by decide +kernel, rfl, by decide +kernel, by decide +kernel⟩
abbrev s_q91 : Stmt := inClass (top 27) 0
theorem sc_q91 : FnScope ["self", "set_bits", "ways", "k"] ["self", "set_bits", "ways"] (defScope s_q91) := ⟨rfl, rfl, rfl, by decide +kernel, rfl, by decide +kernel, by decide +kernel⟩
abbrev s_q20 : Stmt := inClass (top 27) 1
theorem sc_q20 : FnScope ["self", "address", "to", "at", "known", "others", "pair"] ["self", "address", "to"] (defScope s_q20) := ⟨rfl, rfl, rfl, by decide +kernel, rfl, by decide +kernel, by decide +kernel⟩
abbrev s_q86 : Stmt := inClass (top 28) 0
theorem sc_q86 : FnScope ["self", "most"] ["self", "most"] (defScope s_q86) := ⟨rfl, rfl, rfl, by decide +kernel, rfl, by decide +kernel, by decide +kernel⟩
abbrev s_q87 : Stmt := inClass (top 28) 1
theorem sc_q87 : FnScope ["self", "address"] ["self", "address"] (defScope s_q87) := ⟨rfl, rfl, rfl, by decide +kernel, rfl, by decide +kernel, by decide +kernel⟩
abbrev s_q9 : Stmt := inClass (top 28) 2
theorem sc_q9 : FnScope ["self", "to"] ["self", "to"] (defScope s_q9) := ⟨rfl, rfl, rfl, by decide +kernel, rfl, by decide +kernel, by decide +kernel⟩
abbrev s_q99 : Stmt := inClass (top 38) 0
theorem sc_q99 : FnScope ["self", "numbers"] ["self", "numbers"] (defScope s_q99) := ⟨rfl, rfl, rfl, by decide +kernel, rfl, by decide +kernel, by decide +kernel⟩
abbrev s_q84 : Stmt := inClass (top 38) 1
theorem sc_q84 : FnScope ["self"] ["self"] (defScope s_q84) := ⟨rfl, rfl, rfl, by decide +kernel, rfl, by decide +kernel, by decide +kernel⟩
abbrev s_q60 : Stmt := inClass (top 60) 0
theorem sc_q60 : FnScope ["self", "n", "settings", "guesses"] ["self", "n", "settings"] (defScope s_q60) := ⟨rfl, rfl, rfl, by decide +kernel, rfl, by decide +kernel, by decide +kernel⟩
abbrev s_q74 : Stmt := inClass (top 60) 1
theorem sc_q74 : FnScope ["self", "numbers", "records", "wrong", "record"] ["self", "numbers"] (defScope s_q74) := ⟨rfl, rfl, rfl, by decide +kernel, rfl, by decide +kernel, by decide +kernel⟩
abbrev s_q41 : Stmt := inClass (top 60) 2
theorem sc_q41 : FnScope ["self", "record"] ["self", "record"] (defScope s_q41) := ⟨rfl, rfl, rfl, by decide +kernel, rfl, by decide +kernel, by decide +kernel⟩
abbrev s_q4 : Stmt := inClass (top 60) 3
theorem sc_q4 : FnScope ["self", "record", "taken"] ["self", "record"] (defScope s_q4) := ⟨rfl, rfl, rfl, by decide +kernel, rfl, by decide +kernel, by decide +kernel⟩
abbrev s_q8 : Stmt := inClass (top 60) 4
theorem sc_q8 : FnScope ["self", "record"] ["self", "record"] (defScope s_q8) := ⟨rfl, rfl, rfl, by decide +kernel, rfl, by decide +kernel, by decide +kernel⟩
abbrev s_q61 : Stmt := inClass (top 60) 5
theorem sc_q61 : FnScope ["self", "numbers", "cache", "number"] ["self"] (defScope s_q61) := ⟨rfl, rfl, rfl, by decide +kernel, rfl, by decide +kernel, by decide +kernel⟩
abbrev s_q106 : Stmt := top 23
theorem sc_q106 : FnScope ["settings_of_each", "chance", "memory", "behind", "later", "settings", "first", "second"] ["settings_of_each", "chance", "memory"] (defScope s_q106) := ⟨rfl, rfl, rfl, by decide +kernel, rfl, by decide +kernel, by decide +kernel⟩
abbrev s_q107 : Stmt := top 39
theorem sc_q107 : FnScope ["numbers", "step", "at"] ["numbers"] (defScope s_q107) := ⟨rfl, rfl, rfl, by decide +kernel, rfl, by decide +kernel, by decide +kernel⟩
abbrev s_q103 : Stmt := top 40
theorem sc_q103 : FnScope ["records", "number", "record"] ["records"] (defScope s_q103) := ⟨rfl, rfl, rfl, by decide +kernel, rfl, by decide +kernel, by decide +kernel⟩
abbrev s_q111 : Stmt := top 48
theorem sc_q111 : FnScope ["numbers", "bounds", "number", "bound"] ["numbers", "bounds"] (defScope s_q111) := ⟨rfl, rfl, rfl, by decide +kernel, rfl, by decide +kernel, by decide +kernel⟩
abbrev s_q102 : Stmt := top 49
theorem sc_q102 : FnScope ["cache"] ["cache"] (defScope s_q102) := ⟨rfl, rfl, rfl, by decide +kernel, rfl, by decide +kernel, by decide +kernel⟩
abbrev s_q29 : Stmt := top 50
theorem sc_q29 : FnScope ["caches", "number", "before"] ["caches"] (defScope s_q29) := ⟨rfl, rfl, rfl, by decide +kernel, rfl, by decide +kernel, by decide +kernel⟩
abbrev s_q76 : Stmt := top 51
theorem sc_q76 : FnScope ["guesses"] ["guesses"] (defScope s_q76) := ⟨rfl, rfl, rfl, by decide +kernel, rfl, by decide +kernel, by decide +kernel⟩
abbrev s_q30 : Stmt := top 52
theorem sc_q30 : FnScope ["n", "settings", "k"] ["n", "settings"] (defScope s_q30) := ⟨rfl, rfl, rfl, by decide +kernel, rfl, by decide +kernel, by decide +kernel⟩
abbrev s_q21 : Stmt := top 53
theorem sc_q21 : FnScope ["n", "settings"] ["n", "settings"] (defScope s_q21) := ⟨rfl, rfl, rfl, by decide +kernel, rfl, by decide +kernel, by decide +kernel⟩
abbrev s_q63 : Stmt := top 54
theorem sc_q63 : FnScope ["n", "settings", "caches", "cache"] ["n", "settings"] (defScope s_q63) := ⟨rfl, rfl, rfl, by decide +kernel, rfl, by decide +kernel, by decide +kernel⟩
abbrev s_q94 : Stmt := top 61
theorem sc_q94 : FnScope ["n", "settings"] ["n", "settings"] (defScope s_q94) := ⟨rfl, rfl, rfl, by decide +kernel, rfl, by decide +kernel, by decide +kernel⟩
abbrev s_q110 : Stmt := top 62
theorem sc_q110 : FnScope ["calls", "at"] ["calls", "at"] (defScope s_q110) := ⟨rfl, rfl, rfl, by decide +kernel, rfl, by decide +kernel, by decide +kernel⟩
abbrev s_q109 : Stmt := top 63
theorem sc_q109 : FnScope ["calls", "processor", "answered", "at", "n", "settings", "answer", "records"] ["calls"] (defScope s_q109) := ⟨rfl, rfl, rfl, by decide +kernel, rfl, by decide +kernel, by decide +kernel⟩
def fl_k0 (x0 : V) : List (Str × V) := [("states", x0)]
theorem lk_q50 {x0 : V} : (fl_k0 x0).lookup ("states" : Str) = some x0 := by rfl
theorem nl_q71 {x0 : V} : (fl_k0 x0).lookup ("says" : Str) = none := by rfl
theorem nl_q59 {x0 : V} : (fl_k0 x0).lookup ("learn" : Str) = none := by rfl
def fl_k1 (x0 x1 x2 x3 x4 x5 x6 x7 x8 x9 : V) : List (Str × V) := [("way", x0), ("history_end", x1), ("common_history", x2), ("own_histories", x3), ("by_place", x4), ("by_common", x5), ("by_own", x6), ("choice", x7), ("branches", x8), ("wrong", x9)]
theorem lk_q77 {x0 x1 x2 x3 x4 x5 x6 x7 x8 x9 : V} : (fl_k1 x0 x1 x2 x3 x4 x5 x6 x7 x8 x9).lookup ("way" : Str) = some x0 := by rfl
theorem lk_q10 {x0 x1 x2 x3 x4 x5 x6 x7 x8 x9 : V} : (fl_k1 x0 x1 x2 x3 x4 x5 x6 x7 x8 x9).lookup ("history_end" : Str) = some x1 := by rfl
theorem lk_q2 {x0 x1 x2 x3 x4 x5 x6 x7 x8 x9 : V} : (fl_k1 x0 x1 x2 x3 x4 x5 x6 x7 x8 x9).lookup ("common_history" : Str) = some x2 := by rfl
theorem pf_q2 {x0 x1 x2 x3 x4 x5 x6 x7 x8 x9 y : V} : putF "common_history" y (fl_k1 x0 x1 x2 x3 x4 x5 x6 x7 x8 x9) = fl_k1 x0 x1 y x3 x4 x5 x6 x7 x8 x9 := by rfl
theorem lk_q6 {x0 x1 x2 x3 x4 x5 x6 x7 x8 x9 : V} : (fl_k1 x0 x1 x2 x3 x4 x5 x6 x7 x8 x9).lookup ("own_histories" : Str) = some x3 := by rfl
theorem lk_q32 {x0 x1 x2 x3 x4 x5 x6 x7 x8 x9 : V} : (fl_k1 x0 x1 x2 x3 x4 x5 x6 x7 x8 x9).lookup ("by_place" : Str) = some x4 := by rfl
theorem lk_q22 {x0 x1 x2 x3 x4 x5 x6 x7 x8 x9 : V} : (fl_k1 x0 x1 x2 x3 x4 x5 x6 x7 x8 x9).lookup ("by_common" : Str) = some x5 := by rfl
theorem lk_q43 {x0 x1 x2 x3 x4 x5 x6 x7 x8 x9 : V} : (fl_k1 x0 x1 x2 x3 x4 x5 x6 x7 x8 x9).lookup ("by_own" : Str) = some x6 := by rfl
theorem lk_q44 {x0 x1 x2 x3 x4 x5 x6 x7 x8 x9 : V} : (fl_k1 x0 x1 x2 x3 x4 x5 x6 x7 x8 x9).lookup ("choice" : Str) = some x7 := by rfl
theorem lk_q31 {x0 x1 x2 x3 x4 x5 x6 x7 x8 x9 : V} : (fl_k1 x0 x1 x2 x3 x4 x5 x6 x7 x8 x9).lookup ("branches" : Str) = some x8 := by rfl
theorem pf_q31 {x0 x1 x2 x3 x4 x5 x6 x7 x8 x9 y : V} : putF "branches" y (fl_k1 x0 x1 x2 x3 x4 x5 x6 x7 x8 x9) = fl_k1 x0 x1 x2 x3 x4 x5 x6 x7 y x9 := by rfl
theorem lk_q54 {x0 x1 x2 x3 x4 x5 x6 x7 x8 x9 : V} : (fl_k1 x0 x1 x2 x3 x4 x5 x6 x7 x8 x9).lookup ("wrong" : Str) = some x9 := by rfl
theorem pf_q54 {x0 x1 x2 x3 x4 x5 x6 x7 x8 x9 y : V} : putF "wrong" y (fl_k1 x0 x1 x2 x3 x4 x5 x6 x7 x8 x9) = fl_k1 x0 x1 x2 x3 x4 x5 x6 x7 x8 y := by rfl
theorem nl_q5 {x0 x1 x2 x3 x4 x5 x6 x7 x8 x9 : V} : (fl_k1 x0 x1 x2 x3 x4 x5 x6 x7 x8 x9).lookup ("follow_branch" : Str) = none := by rfl
theorem nl_q53 {x0 x1 x2 x3 x4 x5 x6 x7 x8 x9 : V} : (fl_k1 x0 x1 x2 x3 x4 x5 x6 x7 x8 x9).lookup ("guess" : Str) = none := by rfl
theorem nl_q1 {x0 x1 x2 x3 x4 x5 x6 x7 x8 x9 : V} : (fl_k1 x0 x1 x2 x3 x4 x5 x6 x7 x8 x9).lookup ("guess_by_common" : Str) = none := by rfl
theorem nl_q11 {x0 x1 x2 x3 x4 x5 x6 x7 x8 x9 : V} : (fl_k1 x0 x1 x2 x3 x4 x5 x6 x7 x8 x9).lookup ("own_history" : Str) = none := by rfl
theorem nl_q15 {x0 x1 x2 x3 x4 x5 x6 x7 x8 x9 : V} : (fl_k1 x0 x1 x2 x3 x4 x5 x6 x7 x8 x9).lookup ("learn_from" : Str) = none := by rfl
theorem nl_q7 {x0 x1 x2 x3 x4 x5 x6 x7 x8 x9 : V} : (fl_k1 x0 x1 x2 x3 x4 x5 x6 x7 x8 x9).lookup ("learn_choice" : Str) = none := by rfl
theorem nl_q23 {x0 x1 x2 x3 x4 x5 x6 x7 x8 x9 : V} : (fl_k1 x0 x1 x2 x3 x4 x5 x6 x7 x8 x9).lookup ("learn_own" : Str) = none := by rfl
theorem nl_q3 {x0 x1 x2 x3 x4 x5 x6 x7 x8 x9 : V} : (fl_k1 x0 x1 x2 x3 x4 x5 x6 x7 x8 x9).lookup ("longer_history" : Str) = none := by rfl
def fl_k2 (x0 x1 x2 x3 x4 : V) : List (Str × V) := [("policy", x0), ("lines", x1), ("marked", x2), ("order", x3), ("tree", x4)]
theorem lk_q46 {x0 x1 x2 x3 x4 : V} : (fl_k2 x0 x1 x2 x3 x4).lookup ("policy" : Str) = some x0 := by rfl
theorem lk_q56 {x0 x1 x2 x3 x4 : V} : (fl_k2 x0 x1 x2 x3 x4).lookup ("lines" : Str) = some x1 := by rfl
theorem lk_q45 {x0 x1 x2 x3 x4 : V} : (fl_k2 x0 x1 x2 x3 x4).lookup ("marked" : Str) = some x2 := by rfl
theorem lk_q57 {x0 x1 x2 x3 x4 : V} : (fl_k2 x0 x1 x2 x3 x4).lookup ("order" : Str) = some x3 := by rfl
theorem lk_q68 {x0 x1 x2 x3 x4 : V} : (fl_k2 x0 x1 x2 x3 x4).lookup ("tree" : Str) = some x4 := by rfl
theorem nl_q55 {x0 x1 x2 x3 x4 : V} : (fl_k2 x0 x1 x2 x3 x4).lookup ("holds" : Str) = none := by rfl
theorem nl_q78 {x0 x1 x2 x3 x4 : V} : (fl_k2 x0 x1 x2 x3 x4).lookup ("use" : Str) = none := by rfl
theorem nl_q67 {x0 x1 x2 x3 x4 : V} : (fl_k2 x0 x1 x2 x3 x4).lookup ("mark" : Str) = none := by rfl
theorem nl_q13 {x0 x1 x2 x3 x4 : V} : (fl_k2 x0 x1 x2 x3 x4).lookup ("way_to_fill" : Str) = none := by rfl
theorem nl_q65 {x0 x1 x2 x3 x4 : V} : (fl_k2 x0 x1 x2 x3 x4).lookup ("fill" : Str) = none := by rfl
theorem nl_q38 {x0 x1 x2 x3 x4 : V} : (fl_k2 x0 x1 x2 x3 x4).lookup ("use_way" : Str) = none := by rfl
theorem nl_q33 {x0 x1 x2 x3 x4 : V} : (fl_k2 x0 x1 x2 x3 x4).lookup ("put_last" : Str) = none := by rfl
theorem nl_q12 {x0 x1 x2 x3 x4 : V} : (fl_k2 x0 x1 x2 x3 x4).lookup ("way_by_tree" : Str) = none := by rfl
theorem nl_q24 {x0 x1 x2 x3 x4 : V} : (fl_k2 x0 x1 x2 x3 x4).lookup ("turn_tree" : Str) = none := by rfl
def fl_k3 (x0 x1 : V) : List (Str × V) := [("reads", x0), ("writes", x1)]
theorem lk_q83 {x0 x1 : V} : (fl_k3 x0 x1).lookup ("reads" : Str) = some x0 := by rfl
theorem pf_q83 {x0 x1 y : V} : putF "reads" y (fl_k3 x0 x1) = fl_k3 y x1 := by rfl
theorem lk_q73 {x0 x1 : V} : (fl_k3 x0 x1).lookup ("writes" : Str) = some x1 := by rfl
theorem pf_q73 {x0 x1 y : V} : putF "writes" y (fl_k3 x0 x1) = fl_k3 x0 y := by rfl
theorem nl_q72 {x0 x1 : V} : (fl_k3 x0 x1).lookup ("access" : Str) = none := by rfl
def fl_k4 (x0 x1 x2 x3 x4 x5 x6 x7 x8 x9 x10 x11 : V) : List (Str × V) := [("sets", x0), ("line_bits", x1), ("writes_through", x2), ("fetches_ahead", x3), ("chance", x4), ("behind", x5), ("reads_found", x6), ("reads_missed", x7), ("writes_found", x8), ("writes_missed", x9), ("put_away", x10), ("fetched_ahead", x11)]
theorem lk_q105 {x0 x1 x2 x3 x4 x5 x6 x7 x8 x9 x10 x11 : V} : (fl_k4 x0 x1 x2 x3 x4 x5 x6 x7 x8 x9 x10 x11).lookup ("sets" : Str) = some x0 := by rfl
theorem lk_q48 {x0 x1 x2 x3 x4 x5 x6 x7 x8 x9 x10 x11 : V} : (fl_k4 x0 x1 x2 x3 x4 x5 x6 x7 x8 x9 x10 x11).lookup ("line_bits" : Str) = some x1 := by rfl
theorem lk_q14 {x0 x1 x2 x3 x4 x5 x6 x7 x8 x9 x10 x11 : V} : (fl_k4 x0 x1 x2 x3 x4 x5 x6 x7 x8 x9 x10 x11).lookup ("writes_through" : Str) = some x2 := by rfl
theorem lk_q18 {x0 x1 x2 x3 x4 x5 x6 x7 x8 x9 x10 x11 : V} : (fl_k4 x0 x1 x2 x3 x4 x5 x6 x7 x8 x9 x10 x11).lookup ("fetches_ahead" : Str) = some x3 := by rfl
theorem lk_q81 {x0 x1 x2 x3 x4 x5 x6 x7 x8 x9 x10 x11 : V} : (fl_k4 x0 x1 x2 x3 x4 x5 x6 x7 x8 x9 x10 x11).lookup ("chance" : Str) = some x4 := by rfl
theorem lk_q80 {x0 x1 x2 x3 x4 x5 x6 x7 x8 x9 x10 x11 : V} : (fl_k4 x0 x1 x2 x3 x4 x5 x6 x7 x8 x9 x10 x11).lookup ("behind" : Str) = some x5 := by rfl
theorem lk_q35 {x0 x1 x2 x3 x4 x5 x6 x7 x8 x9 x10 x11 : V} : (fl_k4 x0 x1 x2 x3 x4 x5 x6 x7 x8 x9 x10 x11).lookup ("reads_found" : Str) = some x6 := by rfl
theorem pf_q35 {x0 x1 x2 x3 x4 x5 x6 x7 x8 x9 x10 x11 y : V} : putF "reads_found" y (fl_k4 x0 x1 x2 x3 x4 x5 x6 x7 x8 x9 x10 x11) = fl_k4 x0 x1 x2 x3 x4 x5 y x7 x8 x9 x10 x11 := by rfl
theorem lk_q26 {x0 x1 x2 x3 x4 x5 x6 x7 x8 x9 x10 x11 : V} : (fl_k4 x0 x1 x2 x3 x4 x5 x6 x7 x8 x9 x10 x11).lookup ("reads_missed" : Str) = some x7 := by rfl
theorem pf_q26 {x0 x1 x2 x3 x4 x5 x6 x7 x8 x9 x10 x11 y : V} : putF "reads_missed" y (fl_k4 x0 x1 x2 x3 x4 x5 x6 x7 x8 x9 x10 x11) = fl_k4 x0 x1 x2 x3 x4 x5 x6 y x8 x9 x10 x11 := by rfl
theorem lk_q27 {x0 x1 x2 x3 x4 x5 x6 x7 x8 x9 x10 x11 : V} : (fl_k4 x0 x1 x2 x3 x4 x5 x6 x7 x8 x9 x10 x11).lookup ("writes_found" : Str) = some x8 := by rfl
theorem pf_q27 {x0 x1 x2 x3 x4 x5 x6 x7 x8 x9 x10 x11 y : V} : putF "writes_found" y (fl_k4 x0 x1 x2 x3 x4 x5 x6 x7 x8 x9 x10 x11) = fl_k4 x0 x1 x2 x3 x4 x5 x6 x7 y x9 x10 x11 := by rfl
theorem lk_q19 {x0 x1 x2 x3 x4 x5 x6 x7 x8 x9 x10 x11 : V} : (fl_k4 x0 x1 x2 x3 x4 x5 x6 x7 x8 x9 x10 x11).lookup ("writes_missed" : Str) = some x9 := by rfl
theorem pf_q19 {x0 x1 x2 x3 x4 x5 x6 x7 x8 x9 x10 x11 y : V} : putF "writes_missed" y (fl_k4 x0 x1 x2 x3 x4 x5 x6 x7 x8 x9 x10 x11) = fl_k4 x0 x1 x2 x3 x4 x5 x6 x7 x8 y x10 x11 := by rfl
theorem lk_q58 {x0 x1 x2 x3 x4 x5 x6 x7 x8 x9 x10 x11 : V} : (fl_k4 x0 x1 x2 x3 x4 x5 x6 x7 x8 x9 x10 x11).lookup ("put_away" : Str) = some x10 := by rfl
theorem pf_q58 {x0 x1 x2 x3 x4 x5 x6 x7 x8 x9 x10 x11 y : V} : putF "put_away" y (fl_k4 x0 x1 x2 x3 x4 x5 x6 x7 x8 x9 x10 x11) = fl_k4 x0 x1 x2 x3 x4 x5 x6 x7 x8 x9 y x11 := by rfl
theorem lk_q17 {x0 x1 x2 x3 x4 x5 x6 x7 x8 x9 x10 x11 : V} : (fl_k4 x0 x1 x2 x3 x4 x5 x6 x7 x8 x9 x10 x11).lookup ("fetched_ahead" : Str) = some x11 := by rfl
theorem pf_q17 {x0 x1 x2 x3 x4 x5 x6 x7 x8 x9 x10 x11 y : V} : putF "fetched_ahead" y (fl_k4 x0 x1 x2 x3 x4 x5 x6 x7 x8 x9 x10 x11) = fl_k4 x0 x1 x2 x3 x4 x5 x6 x7 x8 x9 x10 y := by rfl
theorem nl_q69 {x0 x1 x2 x3 x4 x5 x6 x7 x8 x9 x10 x11 : V} : (fl_k4 x0 x1 x2 x3 x4 x5 x6 x7 x8 x9 x10 x11).lookup ("counted" : Str) = none := by rfl
theorem nl_q25 {x0 x1 x2 x3 x4 x5 x6 x7 x8 x9 x10 x11 : V} : (fl_k4 x0 x1 x2 x3 x4 x5 x6 x7 x8 x9 x10 x11).lookup ("access_bytes" : Str) = none := by rfl
theorem nl_q79 {x0 x1 x2 x3 x4 x5 x6 x7 x8 x9 x10 x11 : V} : (fl_k4 x0 x1 x2 x3 x4 x5 x6 x7 x8 x9 x10 x11).lookup ("access" : Str) = none := by rfl
theorem nl_q49 {x0 x1 x2 x3 x4 x5 x6 x7 x8 x9 x10 x11 : V} : (fl_k4 x0 x1 x2 x3 x4 x5 x6 x7 x8 x9 x10 x11).lookup ("read_line" : Str) = none := by rfl
theorem nl_q39 {x0 x1 x2 x3 x4 x5 x6 x7 x8 x9 x10 x11 : V} : (fl_k4 x0 x1 x2 x3 x4 x5 x6 x7 x8 x9 x10 x11).lookup ("write_line" : Str) = none := by rfl
theorem nl_q0 {x0 x1 x2 x3 x4 x5 x6 x7 x8 x9 x10 x11 : V} : (fl_k4 x0 x1 x2 x3 x4 x5 x6 x7 x8 x9 x10 x11).lookup ("fill_and_fetch_ahead" : Str) = none := by rfl
theorem nl_q34 {x0 x1 x2 x3 x4 x5 x6 x7 x8 x9 x10 x11 : V} : (fl_k4 x0 x1 x2 x3 x4 x5 x6 x7 x8 x9 x10 x11).lookup ("fetch_ahead" : Str) = none := by rfl
theorem nl_q47 {x0 x1 x2 x3 x4 x5 x6 x7 x8 x9 x10 x11 : V} : (fl_k4 x0 x1 x2 x3 x4 x5 x6 x7 x8 x9 x10 x11).lookup ("fill_line" : Str) = none := by rfl
theorem nl_q16 {x0 x1 x2 x3 x4 x5 x6 x7 x8 x9 x10 x11 : V} : (fl_k4 x0 x1 x2 x3 x4 x5 x6 x7 x8 x9 x10 x11).lookup ("access_behind" : Str) = none := by rfl
theorem nl_q82 {x0 x1 x2 x3 x4 x5 x6 x7 x8 x9 x10 x11 : V} : (fl_k4 x0 x1 x2 x3 x4 x5 x6 x7 x8 x9 x10 x11).lookup ("set_of" : Str) = none := by rfl
def fl_k5 (x0 : V) : List (Str × V) := [("bits", x0)]
theorem lk_q95 {x0 : V} : (fl_k5 x0).lookup ("bits" : Str) = some x0 := by rfl
theorem pf_q95 {x0 y : V} : putF "bits" y (fl_k5 x0) = fl_k5 y := by rfl
theorem nl_q96 {x0 : V} : (fl_k5 x0).lookup ("draw" : Str) = none := by rfl
def fl_k6 (x0 x1 x2 x3 : V) : List (Str × V) := [("sets", x0), ("ways", x1), ("jumps", x2), ("unknown", x3)]
theorem lk_q92 {x0 x1 x2 x3 : V} : (fl_k6 x0 x1 x2 x3).lookup ("sets" : Str) = some x0 := by rfl
theorem lk_q93 {x0 x1 x2 x3 : V} : (fl_k6 x0 x1 x2 x3).lookup ("ways" : Str) = some x1 := by rfl
theorem lk_q75 {x0 x1 x2 x3 : V} : (fl_k6 x0 x1 x2 x3).lookup ("jumps" : Str) = some x2 := by rfl
theorem lk_q52 {x0 x1 x2 x3 : V} : (fl_k6 x0 x1 x2 x3).lookup ("unknown" : Str) = some x3 := by rfl
theorem nl_q20 {x0 x1 x2 x3 : V} : (fl_k6 x0 x1 x2 x3).lookup ("follow_jump" : Str) = none := by rfl
def fl_k7 (x0 x1 x2 x3 : V) : List (Str × V) := [("kept", x0), ("most", x1), ("returns", x2), ("lost", x3)]
theorem lk_q88 {x0 x1 x2 x3 : V} : (fl_k7 x0 x1 x2 x3).lookup ("kept" : Str) = some x0 := by rfl
theorem lk_q90 {x0 x1 x2 x3 : V} : (fl_k7 x0 x1 x2 x3).lookup ("most" : Str) = some x1 := by rfl
theorem lk_q51 {x0 x1 x2 x3 : V} : (fl_k7 x0 x1 x2 x3).lookup ("returns" : Str) = some x2 := by rfl
theorem lk_q89 {x0 x1 x2 x3 : V} : (fl_k7 x0 x1 x2 x3).lookup ("lost" : Str) = some x3 := by rfl
theorem nl_q87 {x0 x1 x2 x3 : V} : (fl_k7 x0 x1 x2 x3).lookup ("keep" : Str) = none := by rfl
theorem nl_q9 {x0 x1 x2 x3 : V} : (fl_k7 x0 x1 x2 x3).lookup ("follow_return" : Str) = none := by rfl
def fl_k8 (x0 x1 x2 x3 x4 : V) : List (Str × V) := [("address", x0), ("to", x1), ("size", x2), ("kind", x3), ("taken", x4)]
theorem lk_q62 {x0 x1 x2 x3 x4 : V} : (fl_k8 x0 x1 x2 x3 x4).lookup ("address" : Str) = some x0 := by rfl
theorem lk_q108 {x0 x1 x2 x3 x4 : V} : (fl_k8 x0 x1 x2 x3 x4).lookup ("to" : Str) = some x1 := by rfl
theorem lk_q101 {x0 x1 x2 x3 x4 : V} : (fl_k8 x0 x1 x2 x3 x4).lookup ("size" : Str) = some x2 := by rfl
theorem lk_q100 {x0 x1 x2 x3 x4 : V} : (fl_k8 x0 x1 x2 x3 x4).lookup ("kind" : Str) = some x3 := by rfl
theorem lk_q85 {x0 x1 x2 x3 x4 : V} : (fl_k8 x0 x1 x2 x3 x4).lookup ("taken" : Str) = some x4 := by rfl
theorem nl_q84 {x0 x1 x2 x3 x4 : V} : (fl_k8 x0 x1 x2 x3 x4).lookup ("right" : Str) = none := by rfl
def fl_k9 (x0 x1 x2 x3 x4 : V) : List (Str × V) := [("memory", x0), ("caches", x1), ("branches", x2), ("targets", x3), ("returns", x4)]
theorem lk_q42 {x0 x1 x2 x3 x4 : V} : (fl_k9 x0 x1 x2 x3 x4).lookup ("memory" : Str) = some x0 := by rfl
theorem lk_q40 {x0 x1 x2 x3 x4 : V} : (fl_k9 x0 x1 x2 x3 x4).lookup ("caches" : Str) = some x1 := by rfl
theorem lk_q28 {x0 x1 x2 x3 x4 : V} : (fl_k9 x0 x1 x2 x3 x4).lookup ("branches" : Str) = some x2 := by rfl
theorem lk_q37 {x0 x1 x2 x3 x4 : V} : (fl_k9 x0 x1 x2 x3 x4).lookup ("targets" : Str) = some x3 := by rfl
theorem lk_q36 {x0 x1 x2 x3 x4 : V} : (fl_k9 x0 x1 x2 x3 x4).lookup ("returns" : Str) = some x4 := by rfl
theorem nl_q74 {x0 x1 x2 x3 x4 : V} : (fl_k9 x0 x1 x2 x3 x4).lookup ("run" : Str) = none := by rfl
theorem nl_q41 {x0 x1 x2 x3 x4 : V} : (fl_k9 x0 x1 x2 x3 x4).lookup ("follow" : Str) = none := by rfl
theorem nl_q4 {x0 x1 x2 x3 x4 : V} : (fl_k9 x0 x1 x2 x3 x4).lookup ("follow_branch" : Str) = none := by rfl
theorem nl_q8 {x0 x1 x2 x3 x4 : V} : (fl_k9 x0 x1 x2 x3 x4).lookup ("follow_jump" : Str) = none := by rfl
theorem nl_q61 {x0 x1 x2 x3 x4 : V} : (fl_k9 x0 x1 x2 x3 x4).lookup ("told" : Str) = none := by rfl
def MF (K : W.Frag) (C : Addr) (m qual : Str) (st : Stmt) (ps : List Str) : Prop := ∃ f fd, Fun K m qual st f fd ∧ Binds K fd ps [] ∧ Meth K C m f
def IF (K : W.Frag) (C : Addr) (qual : Str) (st : Stmt) (ps : List Str) : Prop := ∃ f fd, Fun K "__init__" qual st f fd ∧ Binds K fd ps [] ∧ Mk K C f
def DF (K : W.Frag) (mg : Str → Option Value) (x : Str) (st : Stmt) (ps : List Str) : Prop := ∃ f fd, Fun K x x st f fd ∧ Binds K fd ps [] ∧ mg x = some (.ref f)
def CI (mg : Str → Option Value) (x : Str) (i : Int) : Prop := ∃ t, mg x = some (.int i t)
def TK (K : W.Frag) (a : Addr) (xs : List V) : Prop := ∃ (o : Obj) (its : Array Value) (n : Nat), K.lookup a = some o ∧ o.cls = .type "tuple" ∧ o.data = .seq its n ∧ its.size ≤ sizeLine ∧ Vals xs its.toList
theorem mf_mk {K : W.Frag} {C : Addr} {m qual : Str} {st : Stmt} {ps : List Str} {f : Addr} {oc : Value} {od an : Option Addr} {osl : Array (Option Value)} {kV doc pm cdv ct : Value}
    (bd : ∀ (kV doc pm : Value) (an : Option Addr) (cdv ct : Value) (us : List Value), us.length = ps.length → bindArgs (PySem.W.fnOf m qual (defArgs st) (defBody st) (defScope st) .none kV doc pm an cdv ct) ⟨us, []⟩ = pure (ps.zip us))
    (a : PySem.W.findIn K (.ref C) m = some (some (.ref f))) (i : PySem.W.isFn K (.ref f) = true) (l : K.lookup f = some ⟨oc, od, .func (PySem.W.fnOf m qual (defArgs st) (defBody st) (defScope st) .none kV doc pm an cdv ct), osl⟩) (c : PySem.W.codeIn K cdv qual = true) (k : PySem.W.keepIn K (.ref f) = true) : MF K C m qual st ps :=
  have F := fun_mk (st := st) l c k
  ⟨f, _, F, F.binds bd, ⟨a, i, k⟩⟩
theorem if_mk {K : W.Frag} {C : Addr} {qual : Str} {st : Stmt} {ps : List Str} {f : Addr} {oc : Value} {od an : Option Addr} {osl : Array (Option Value)} {kV doc pm cdv ct : Value}
    (bd : ∀ (kV doc pm : Value) (an : Option Addr) (cdv ct : Value) (us : List Value), us.length = ps.length → bindArgs (PySem.W.fnOf "__init__" qual (defArgs st) (defBody st) (defScope st) .none kV doc pm an cdv ct) ⟨us, []⟩ = pure (ps.zip us))
    (a : PySem.W.findIn K (.ref C) "__init__" = some (some (.ref f))) (i : PySem.W.isFn K (.ref f) = true) (l : K.lookup f = some ⟨oc, od, .func (PySem.W.fnOf "__init__" qual (defArgs st) (defBody st) (defScope st) .none kV doc pm an cdv ct), osl⟩) (c : PySem.W.codeIn K cdv qual = true) (k : PySem.W.keepIn K (.ref f) = true)
    (mk : PySem.W.makesIn K C = true) (kc : PySem.W.keepIn K (.ref C) = true) : IF K C qual st ps :=
  have F := fun_mk (st := st) l c k
  ⟨f, _, F, F.binds bd, ⟨mk, a, i, kc⟩⟩
theorem df_mk {K : W.Frag} {h : Heap} {mg : Str → Option Value} (X : K.In h) (G : h.Ns mainGlobals mg) {x : Str} {st : Stmt} {ps : List Str} {f : Addr} {oc : Value} {od an : Option Addr} {osl : Array (Option Value)} {kV doc pm cdv ct : Value}
    (bd : ∀ (kV doc pm : Value) (an : Option Addr) (cdv ct : Value) (us : List Value), us.length = ps.length → bindArgs (PySem.W.fnOf x x (defArgs st) (defBody st) (defScope st) .none kV doc pm an cdv ct) ⟨us, []⟩ = pure (ps.zip us))
    (a : PySem.W.nsIn K mainGlobals x = some (some (.ref f))) (l : K.lookup f = some ⟨oc, od, .func (PySem.W.fnOf x x (defArgs st) (defBody st) (defScope st) .none kV doc pm an cdv ct), osl⟩) (c : PySem.W.codeIn K cdv x = true) (k : PySem.W.keepIn K (.ref f) = true) : DF K mg x st ps :=
  have F := fun_mk (st := st) l c k
  ⟨f, _, F, F.binds bd, PySem.W.mg_of X G a⟩
theorem ci_mk {K : W.Frag} {h : Heap} {mg : Str → Option Value} (X : K.In h) (G : h.Ns mainGlobals mg) {x : Str} {i : Int} {t : Tok} (a : PySem.W.nsIn K mainGlobals x = some (some (.int i t))) : CI mg x i := ⟨t, PySem.W.mg_of X G a⟩
structure TX_k0 (K : W.Frag) (mg : Str → Option Value) (C : Addr) : Prop where
  cl : Cls K C
  mgC : mg "Counters" = some (.ref C)
  n_j33 : NoAttr K C "states"
  init : IF K C "Counters.__init__" s_q70 ["self", "size"]
  m_h28 : MF K C "says" "Counters.says" s_q71 ["self", "place"]
  m_h17 : MF K C "learn" "Counters.learn" s_q59 ["self", "place", "up"]
structure TX_k1 (K : W.Frag) (mg : Str → Option Value) (C : Addr) : Prop where
  cl : Cls K C
  mgC : mg "Branches" = some (.ref C)
  n_j39 : NoAttr K C "way"
  n_j13 : NoAttr K C "history_end"
  n_j10 : NoAttr K C "common_history"
  n_j24 : NoAttr K C "own_histories"
  n_j6 : NoAttr K C "by_place"
  n_j4 : NoAttr K C "by_common"
  n_j5 : NoAttr K C "by_own"
  n_j9 : NoAttr K C "choice"
  n_j3 : NoAttr K C "branches"
  n_j45 : NoAttr K C "wrong"
  init : IF K C "Branches.__init__" s_q64 ["self", "settings"]
  m_h10 : MF K C "follow_branch" "Branches.follow_branch" s_q5 ["self", "address", "taken"]
  m_h13 : MF K C "guess" "Branches.guess" s_q53 ["self", "place"]
  m_h14 : MF K C "guess_by_common" "Branches.guess_by_common" s_q1 ["self", "place"]
  m_h23 : MF K C "own_history" "Branches.own_history" s_q11 ["self", "place"]
  m_h19 : MF K C "learn_from" "Branches.learn_from" s_q15 ["self", "place", "taken"]
  m_h18 : MF K C "learn_choice" "Branches.learn_choice" s_q7 ["self", "place", "taken"]
  m_h20 : MF K C "learn_own" "Branches.learn_own" s_q23 ["self", "place", "taken"]
  m_h21 : MF K C "longer_history" "Branches.longer_history" s_q3 ["self", "history", "taken"]
structure TX_k2 (K : W.Frag) (mg : Str → Option Value) (C : Addr) : Prop where
  cl : Cls K C
  mgC : mg "CacheSet" = some (.ref C)
  n_j25 : NoAttr K C "policy"
  n_j18 : NoAttr K C "lines"
  n_j20 : NoAttr K C "marked"
  n_j23 : NoAttr K C "order"
  n_j37 : NoAttr K C "tree"
  init : IF K C "CacheSet.__init__" s_q66 ["self", "ways", "policy"]
  m_h15 : MF K C "holds" "CacheSet.holds" s_q55 ["self", "line"]
  m_h32 : MF K C "use" "CacheSet.use" s_q78 ["self", "line"]
  m_h22 : MF K C "mark" "CacheSet.mark" s_q67 ["self", "line"]
  m_h35 : MF K C "way_to_fill" "CacheSet.way_to_fill" s_q13 ["self", "chance"]
  m_h6 : MF K C "fill" "CacheSet.fill" s_q65 ["self", "way", "line", "marked"]
  m_h33 : MF K C "use_way" "CacheSet.use_way" s_q38 ["self", "way"]
  m_h24 : MF K C "put_last" "CacheSet.put_last" s_q33 ["self", "way"]
  m_h34 : MF K C "way_by_tree" "CacheSet.way_by_tree" s_q12 ["self"]
  m_h31 : MF K C "turn_tree" "CacheSet.turn_tree" s_q24 ["self", "way"]
structure TX_k3 (K : W.Frag) (mg : Str → Option Value) (C : Addr) : Prop where
  cl : Cls K C
  mgC : mg "Memory" = some (.ref C)
  n_j27 : NoAttr K C "reads"
  n_j41 : NoAttr K C "writes"
  init : IF K C "Memory.__init__" s_q98 ["self"]
  m_h0 : MF K C "access" "Memory.access" s_q72 ["self", "address", "writing"]
structure TX_k4 (K : W.Frag) (mg : Str → Option Value) (C : Addr) : Prop where
  cl : Cls K C
  mgC : mg "Cache" = some (.ref C)
  n_j31 : NoAttr K C "sets"
  n_j17 : NoAttr K C "line_bits"
  n_j44 : NoAttr K C "writes_through"
  n_j12 : NoAttr K C "fetches_ahead"
  n_j8 : NoAttr K C "chance"
  n_j1 : NoAttr K C "behind"
  n_j28 : NoAttr K C "reads_found"
  n_j29 : NoAttr K C "reads_missed"
  n_j42 : NoAttr K C "writes_found"
  n_j43 : NoAttr K C "writes_missed"
  n_j26 : NoAttr K C "put_away"
  n_j11 : NoAttr K C "fetched_ahead"
  init : IF K C "Cache.__init__" s_q104 ["self", "settings", "chance", "behind"]
  m_h3 : MF K C "counted" "Cache.counted" s_q69 ["self"]
  m_h2 : MF K C "access_bytes" "Cache.access_bytes" s_q25 ["self", "address", "size", "writing"]
  m_h0 : MF K C "access" "Cache.access" s_q79 ["self", "address", "writing"]
  m_h25 : MF K C "read_line" "Cache.read_line" s_q49 ["self", "line"]
  m_h36 : MF K C "write_line" "Cache.write_line" s_q39 ["self", "line"]
  m_h7 : MF K C "fill_and_fetch_ahead" "Cache.fill_and_fetch_ahead" s_q0 ["self", "line", "marked"]
  m_h5 : MF K C "fetch_ahead" "Cache.fetch_ahead" s_q34 ["self", "line"]
  m_h8 : MF K C "fill_line" "Cache.fill_line" s_q47 ["self", "line", "marked"]
  m_h1 : MF K C "access_behind" "Cache.access_behind" s_q16 ["self", "line", "writing"]
  m_h29 : MF K C "set_of" "Cache.set_of" s_q82 ["self", "line"]
structure TX_k5 (K : W.Frag) (mg : Str → Option Value) (C : Addr) : Prop where
  cl : Cls K C
  mgC : mg "Chance" = some (.ref C)
  n_j2 : NoAttr K C "bits"
  init : IF K C "Chance.__init__" s_q97 ["self"]
  m_h4 : MF K C "draw" "Chance.draw" s_q96 ["self", "ways"]
structure TX_k6 (K : W.Frag) (mg : Str → Option Value) (C : Addr) : Prop where
  cl : Cls K C
  mgC : mg "Targets" = some (.ref C)
  n_j31 : NoAttr K C "sets"
  n_j40 : NoAttr K C "ways"
  n_j14 : NoAttr K C "jumps"
  n_j38 : NoAttr K C "unknown"
  init : IF K C "Targets.__init__" s_q91 ["self", "set_bits", "ways"]
  m_h11 : MF K C "follow_jump" "Targets.follow_jump" s_q20 ["self", "address", "to"]
structure TX_k7 (K : W.Frag) (mg : Str → Option Value) (C : Addr) : Prop where
  cl : Cls K C
  mgC : mg "Returns" = some (.ref C)
  n_j15 : NoAttr K C "kept"
  n_j22 : NoAttr K C "most"
  n_j30 : NoAttr K C "returns"
  n_j19 : NoAttr K C "lost"
  init : IF K C "Returns.__init__" s_q86 ["self", "most"]
  m_h16 : MF K C "keep" "Returns.keep" s_q87 ["self", "address"]
  m_h12 : MF K C "follow_return" "Returns.follow_return" s_q9 ["self", "to"]
structure TX_k8 (K : W.Frag) (mg : Str → Option Value) (C : Addr) : Prop where
  cl : Cls K C
  mgC : mg "Record" = some (.ref C)
  n_j0 : NoAttr K C "address"
  n_j36 : NoAttr K C "to"
  n_j32 : NoAttr K C "size"
  n_j16 : NoAttr K C "kind"
  n_j34 : NoAttr K C "taken"
  init : IF K C "Record.__init__" s_q99 ["self", "numbers"]
  m_h26 : MF K C "right" "Record.right" s_q84 ["self"]
structure TX_k9 (K : W.Frag) (mg : Str → Option Value) (C : Addr) : Prop where
  cl : Cls K C
  mgC : mg "Processor" = some (.ref C)
  n_j21 : NoAttr K C "memory"
  n_j7 : NoAttr K C "caches"
  n_j3 : NoAttr K C "branches"
  n_j35 : NoAttr K C "targets"
  n_j30 : NoAttr K C "returns"
  init : IF K C "Processor.__init__" s_q60 ["self", "n", "settings"]
  m_h27 : MF K C "run" "Processor.run" s_q74 ["self", "numbers"]
  m_h9 : MF K C "follow" "Processor.follow" s_q41 ["self", "record"]
  m_h10 : MF K C "follow_branch" "Processor.follow_branch" s_q4 ["self", "record"]
  m_h11 : MF K C "follow_jump" "Processor.follow_jump" s_q8 ["self", "record"]
  m_h30 : MF K C "told" "Processor.told" s_q61 ["self"]
structure Cs where
  k0 : Addr
  k1 : Addr
  k2 : Addr
  k3 : Addr
  k4 : Addr
  k5 : Addr
  k6 : Addr
  k7 : Addr
  k8 : Addr
  k9 : Addr
structure Txt (K : W.Frag) (mg : Str → Option Value) (t : Cs) : Prop where
  k0 : TX_k0 K mg t.k0
  k1 : TX_k1 K mg t.k1
  k2 : TX_k2 K mg t.k2
  k3 : TX_k3 K mg t.k3
  k4 : TX_k4 K mg t.k4
  k5 : TX_k5 K mg t.k5
  k6 : TX_k6 K mg t.k6
  k7 : TX_k7 K mg t.k7
  k8 : TX_k8 K mg t.k8
  k9 : TX_k9 K mg t.k9
  d_new_caches : DF K mg "new_caches" s_q106 ["settings_of_each", "chance", "memory"]
  d_records_of : DF K mg "records_of" s_q107 ["numbers"]
  d_first_wrong : DF K mg "first_wrong" s_q103 ["records"]
  d_within : DF K mg "within" s_q111 ["numbers", "bounds"]
  d_cache_right : DF K mg "cache_right" s_q102 ["cache"]
  d_line_lengths_right : DF K mg "line_lengths_right" s_q29 ["caches"]
  d_guesses_right : DF K mg "guesses_right" s_q76 ["guesses"]
  d_settings_of_caches : DF K mg "settings_of_caches" s_q30 ["n", "settings"]
  d_settings_of_guesses : DF K mg "settings_of_guesses" s_q21 ["n", "settings"]
  d_settings_right : DF K mg "settings_right" s_q63 ["n", "settings"]
  d_start_answer : DF K mg "start_answer" s_q94 ["n", "settings"]
  d_row_at : DF K mg "row_at" s_q110 ["calls", "at"]
  d_answers : DF K mg "answers" s_q109 ["calls"]
  c_NEVER : CI mg "NEVER" (0)
  c_BY_PLACE : CI mg "BY_PLACE" (1)
  c_BY_COMMON_HISTORY : CI mg "BY_COMMON_HISTORY" (2)
  c_BY_OWN_HISTORY : CI mg "BY_OWN_HISTORY" (3)
  c_BY_CHOICE : CI mg "BY_CHOICE" (4)
  c_COUNTER_AT_FIRST : CI mg "COUNTER_AT_FIRST" (1)
  c_COUNTER_TOP : CI mg "COUNTER_TOP" (3)
  c_EMPTY : CI mg "EMPTY" (-1)
  c_USED_LONGEST_AGO : CI mg "USED_LONGEST_AGO" (0)
  c_FILLED_LONGEST_AGO : CI mg "FILLED_LONGEST_AGO" (1)
  c_TREE : CI mg "TREE" (2)
  c_ADDRESS_END : CI mg "ADDRESS_END" (281474976710656)
  c_COUNT_END : CI mg "COUNT_END" (18446744073709551616)
  c_MOST_RECORDS : CI mg "MOST_RECORDS" (65536)
  c_MOST_SIZE : CI mg "MOST_SIZE" (4096)
  c_NUMBERS_OF_A_RECORD : CI mg "NUMBERS_OF_A_RECORD" (5)
  c_FETCH : CI mg "FETCH" (0)
  c_READ : CI mg "READ" (1)
  c_WRITE : CI mg "WRITE" (2)
  c_BRANCH : CI mg "BRANCH" (3)
  c_JUMP : CI mg "JUMP" (4)
  c_CALL : CI mg "CALL" (5)
  c_RETURN : CI mg "RETURN" (6)
  c_NUMBERS_OF_A_CACHE : CI mg "NUMBERS_OF_A_CACHE" (6)
  c_CACHE_BOUNDS : ∃ a a0 a1 a2 a3 a4 a5, mg "CACHE_BOUNDS" = some (.ref a) ∧ TK K a [.ref a0, .ref a1, .ref a2, .ref a3, .ref a4, .ref a5] ∧ TK K a0 [.int 0, .int 12] ∧ TK K a1 [.int 1, .int 16] ∧ TK K a2 [.int 4, .int 7] ∧ TK K a3 [.int 0, .int 3] ∧ TK K a4 [.int 0, .int 1] ∧ TK K a5 [.int 0, .int 1]
  c_GUESS_BOUNDS : ∃ a a0 a1 a2 a3 a4 a5 a6, mg "GUESS_BOUNDS" = some (.ref a) ∧ TK K a [.ref a0, .ref a1, .ref a2, .ref a3, .ref a4, .ref a5, .ref a6] ∧ TK K a0 [.int 0, .int 4] ∧ TK K a1 [.int 0, .int 14] ∧ TK K a2 [.int 0, .int 14] ∧ TK K a3 [.int 0, .int 10] ∧ TK K a4 [.int 0, .int 10] ∧ TK K a5 [.int 1, .int 8] ∧ TK K a6 [.int 0, .int 64]
  c_TREE_POLICY : CI mg "TREE_POLICY" (2)
  c_WAYS_OF_A_TREE : ∃ a, mg "WAYS_OF_A_TREE" = some (.ref a) ∧ TK K a [.int 1, .int 2, .int 4, .int 8, .int 16]
  c_WAYS_WITH_COMMON_HISTORY : ∃ a, mg "WAYS_WITH_COMMON_HISTORY" = some (.ref a) ∧ TK K a [.int 2, .int 4]
  c_FEWEST_CACHES : CI mg "FEWEST_CACHES" (2)
  c_MOST_CACHES : CI mg "MOST_CACHES" (4)
  c_START : CI mg "START" (0)
  c_RUN : CI mg "RUN" (1)
  b_len : mg "len" = none
  b_range : mg "range" = none
  b_min : mg "min" = none
  b_max : mg "max" = none
  b_list : mg "list" = none
  b_reversed : mg "reversed" = none
  b_enumerate : mg "enumerate" = none
  b_zip : mg "zip" = none
end CG
namespace CG
structure MSet where
  lines : List Int
  marked : List Bool
  order : List Nat
  tree : List Nat
structure MCache where
  ways : Nat
  policy : Nat
  bits : Nat
  through : Bool
  next : Bool
  sets : List MSet
  rf : Nat
  rm : Nat
  wf : Nat
  wm : Nat
  pa : Nat
  fa : Nat
structure MMem where
  caches : List MCache
  reads : Nat
  writes : Nat
  chance : Nat
def turnT : Nat → Nat → List Nat → List Nat
  | 0, _, t => t
  | f + 1, node, t => if 1 < node then turnT f (node / 2) (t.set (node / 2) (1 - node % 2)) else t
def pointT (ways : Nat) (t : List Nat) : Nat → Nat → Nat
  | 0, node => node
  | f + 1, node => if node < ways then pointT ways t f (2 * node + t.getD node 0) else node
def putLast (s : MSet) (w : Nat) : MSet := { s with order := s.order.erase w ++ [w] }
def turnTree (s : MSet) (w : Nat) : MSet := { s with tree := turnT (s.lines.length + w) (s.lines.length + w) s.tree }
def wayByTree (s : MSet) : Nat := pointT s.lines.length s.tree s.lines.length 1 - s.lines.length
def useWay (p : Nat) (s : MSet) (w : Nat) : MSet := if p = 0 then putLast s w else if p = 2 then turnTree s w else s
def wayToFill (p : Nat) (s : MSet) (x : Nat) : Nat × Nat :=
  if (-1 : Int) ∈ s.lines then (s.lines.idxOf (-1), x)
  else if p = 0 ∨ p = 1 then (s.order.headD 0, x)
  else if p = 2 then (wayByTree s, x)
  else (Sd39.chance x % s.lines.length, Sd39.chance x)
def fillSet (p : Nat) (s : MSet) (w : Nat) (line : Int) (mk : Bool) : MSet :=
  let s1 : MSet := { s with lines := s.lines.set w line, marked := s.marked.set w mk }
  useWay p (if p = 1 then putLast s1 w else s1) w
def useLine (p : Nat) (s : MSet) (line : Int) : MSet := useWay p s (s.lines.idxOf line)
def markLine (s : MSet) (line : Int) : MSet := { s with marked := s.marked.set (s.lines.idxOf line) true }
def MMem.modC (m : MMem) (i : Nat) (f : MCache → MCache) : MMem := { m with caches := m.caches.modify i f }
def MMem.modS (m : MMem) (i k : Nat) (f : MCache → MSet → MSet) : MMem := m.modC i fun c => { c with sets := c.sets.modify k (f c) }
abbrev Acc := Nat → Nat → Bool → MMem → MMem
def MMem.at (m : MMem) (i line : Nat) (f : MCache → Nat → MSet → MMem) : MMem := match m.caches[i]? with
  | none => m
  | some c => match c.sets[line % c.sets.length]? with
    | none => m
    | some s => f c (line % c.sets.length) s
def fillLine (acc : Acc) (i line : Nat) (mk : Bool) (m : MMem) : MMem := m.at i line fun c k s =>
  let v := wayToFill c.policy s m.chance
  let m1 : MMem := { m with chance := v.2 }
  let m2 := if s.marked.getD v.1 false = true then acc (Sd39.behind i) ((s.lines.getD v.1 0).toNat * 2 ^ c.bits) true (m1.modC i fun c => { c with pa := c.pa + 1 }) else m1
  let m3 := acc (Sd39.behind i) (line * 2 ^ c.bits) false m2
  m3.modS i k fun c s => fillSet c.policy s v.1 line mk
def fetchAhead (acc : Acc) (i line : Nat) (m : MMem) : MMem := m.at i line fun c k s =>
  if 2 ^ 48 ≤ line * 2 ^ c.bits ∨ (line : Int) ∈ s.lines then m else fillLine acc i line false (m.modC i fun c => { c with fa := c.fa + 1 })
def fillAhead (acc : Acc) (i line : Nat) (mk : Bool) (m : MMem) : MMem := match m.caches[i]? with
  | none => m
  | some c => if c.next = true then fetchAhead acc i (line + 1) (fillLine acc i line mk m) else fillLine acc i line mk m
def readLine (acc : Acc) (i line : Nat) (m : MMem) : MMem := m.at i line fun c k s =>
  if (line : Int) ∈ s.lines then (m.modC i fun c => { c with rf := c.rf + 1 }).modS i k fun c s => useLine c.policy s line
  else fillAhead acc i line false (m.modC i fun c => { c with rm := c.rm + 1 })
def writeLine (acc : Acc) (i line : Nat) (m : MMem) : MMem := m.at i line fun c k s =>
  if (line : Int) ∈ s.lines then
    let m1 := (m.modC i fun c => { c with wf := c.wf + 1 }).modS i k fun c s => useLine c.policy s line
    if c.through = true then acc (Sd39.behind i) (line * 2 ^ c.bits) true m1 else m1.modS i k fun _ s => markLine s line
  else
    let m1 := m.modC i fun c => { c with wm := c.wm + 1 }
    if c.through = true then acc (Sd39.behind i) (line * 2 ^ c.bits) true m1 else fillAhead acc i line true m1
def accStep (acc : Acc) : Acc := fun i a w m => match m.caches[i]? with
  | none => if w = true then { m with writes := m.writes + 1 } else { m with reads := m.reads + 1 }
  | some c => if w = true then writeLine acc i (a / 2 ^ c.bits) m else readLine acc i (a / 2 ^ c.bits) m
def access : Nat → Acc
  | 0 => fun _ _ _ m => m
  | d + 1 => accStep (access d)
def accBytes (i a n : Nat) (w : Bool) (m : MMem) : MMem := match m.caches[i]? with
  | none => m
  | some c => (List.range ((a + n - 1) / 2 ^ c.bits + 1 - a / 2 ^ c.bits)).foldl (fun m j => access 4 i ((a / 2 ^ c.bits + j) * 2 ^ c.bits) w m) m
structure SetOk (w bits : Nat) (s : MSet) : Prop where
  ll : s.lines.length = w
  ml : s.marked.length = w
  op : s.order.Perm (List.range w)
  tl : s.tree.length = w
  tb : ∀ x ∈ s.tree, x ≤ 1
  ln : ∀ (j : Nat) (l : Int), s.lines[j]? = some l → (l = -1 ∧ s.marked[j]? = some false) ∨ (∃ n : Nat, l = (n : Int) ∧ n * 2 ^ bits < 2 ^ 48)
structure CacheOk (c : MCache) : Prop where
  w0 : 0 < c.ways
  w16 : c.ways ≤ 16
  b : c.bits ≤ 7
  p : c.policy ≤ 3
  s0 : 0 < c.sets.length
  s1 : c.sets.length ≤ 4096
  st : ∀ (k : Nat) (s : MSet), c.sets[k]? = some s → SetOk c.ways c.bits s
def MemOk (m : MMem) : Prop := ∀ (i : Nat) (c : MCache), m.caches[i]? = some c → CacheOk c
def same (c c' : MCache) : Prop := c'.ways = c.ways ∧ c'.policy = c.policy ∧ c'.bits = c.bits ∧ c'.through = c.through ∧ c'.next = c.next ∧ c'.sets.length = c.sets.length
structure Shape (m m' : MMem) : Prop where
  len : m'.caches.length = m.caches.length
  at_ : ∀ (i : Nat) (c : MCache), m.caches[i]? = some c → ∃ c', m'.caches[i]? = some c' ∧ same c c'
theorem same.refl (c : MCache) : same c c := ⟨rfl, rfl, rfl, rfl, rfl, rfl⟩
theorem same.trans {a b c : MCache} (h : same a b) (g : same b c) : same a c :=
  ⟨g.1.trans h.1, g.2.1.trans h.2.1, g.2.2.1.trans h.2.2.1, g.2.2.2.1.trans h.2.2.2.1, g.2.2.2.2.1.trans h.2.2.2.2.1, g.2.2.2.2.2.trans h.2.2.2.2.2⟩
theorem Shape.refl (m : MMem) : Shape m m := ⟨rfl, fun i c h => ⟨c, h, same.refl c⟩⟩
theorem Shape.trans {a b c : MMem} (h : Shape a b) (g : Shape b c) : Shape a c := ⟨g.len.trans h.len, fun i x hx => by
  obtain ⟨y, hy, s1⟩ := h.at_ i x hx
  obtain ⟨z, hz, s2⟩ := g.at_ i y hy
  exact ⟨z, hz, s1.trans s2⟩⟩
theorem perm_putLast {l : List Nat} {w n : Nat} (h : l.Perm (List.range n)) (hw : w < n) : (l.erase w ++ [w]).Perm (List.range n) := by
  have hm : w ∈ l := h.mem_iff.mpr (List.mem_range.mpr hw)
  have p1 : (l.erase w ++ [w]).Perm (w :: l.erase w) := List.perm_append_comm
  exact p1.trans ((List.perm_cons_erase hm).symm.trans h)
theorem SetOk.putLast {w b : Nat} {s : MSet} (h : SetOk w b s) {j : Nat} (hj : j < w) : SetOk w b (putLast s j) :=
  ⟨h.ll, h.ml, perm_putLast h.op hj, h.tl, h.tb, h.ln⟩
theorem turnT_len : ∀ (f node : Nat) (t : List Nat), (turnT f node t).length = t.length
  | 0, _, _ => rfl
  | f + 1, node, t => by
    unfold turnT
    split
    · rw [turnT_len f, List.length_set]
    · rfl
theorem turnT_le : ∀ (f node : Nat) (t : List Nat), (∀ x ∈ t, x ≤ 1) → ∀ x ∈ turnT f node t, x ≤ 1
  | 0, _, _, h => h
  | f + 1, node, t, h => by
    unfold turnT
    split
    · refine turnT_le f _ _ fun x hx => ?_
      rcases List.mem_or_eq_of_mem_set hx with z | z
      · exact h x z
      · omega
    · exact h
theorem SetOk.turnTree {w b : Nat} {s : MSet} (h : SetOk w b s) (j : Nat) : SetOk w b (turnTree s j) :=
  ⟨h.ll, h.ml, h.op, (turnT_len _ _ _).trans h.tl, turnT_le _ _ _ h.tb, h.ln⟩
theorem SetOk.useWay {w b : Nat} {s : MSet} (h : SetOk w b s) (p : Nat) {j : Nat} (hj : j < w) : SetOk w b (useWay p s j) := by
  unfold CG.useWay
  split
  · exact h.putLast hj
  · split
    · exact h.turnTree j
    · exact h
theorem SetOk.s1 {w b : Nat} {s : MSet} (h : SetOk w b s) {j : Nat} (hj : j < w) {line : Nat} (hl : line * 2 ^ b < 2 ^ 48) (mk : Bool) : SetOk w b { s with lines := s.lines.set j line, marked := s.marked.set j mk } := by
  refine ⟨(List.length_set ..).trans h.ll, (List.length_set ..).trans h.ml, h.op, h.tl, h.tb, fun i l hi => ?_⟩
  by_cases e : j = i
  · subst e
    have hi : (s.lines.set j line)[j]? = some l := hi
    rw [List.getElem?_set_self (by rw [h.ll]; exact hj)] at hi
    exact .inr ⟨line, (Option.some.inj hi).symm, hl⟩
  · have hi : (s.lines.set j line)[i]? = some l := hi
    rw [List.getElem?_set_ne e] at hi
    rcases h.ln i l hi with ⟨z, y⟩ | z
    · refine .inl ⟨z, ?_⟩
      show (s.marked.set j mk)[i]? = some false
      rw [List.getElem?_set_ne e]
      exact y
    · exact .inr z
theorem SetOk.fillSet {w b : Nat} {s : MSet} (h : SetOk w b s) (p : Nat) {j : Nat} (hj : j < w) {line : Nat} (hl : line * 2 ^ b < 2 ^ 48) (mk : Bool) : SetOk w b (fillSet p s j line mk) := by
  have h1 := h.s1 hj hl mk
  show SetOk w b (CG.useWay p (if p = 1 then CG.putLast _ j else _) j)
  split
  · exact (h1.putLast hj).useWay p hj
  · exact h1.useWay p hj
theorem idx_lt {l : List Int} {x : Int} (h : x ∈ l) : l.idxOf x < l.length := List.idxOf_lt_length_of_mem h
theorem SetOk.useLine {w b : Nat} {s : MSet} (h : SetOk w b s) (p : Nat) {x : Int} (hx : x ∈ s.lines) : SetOk w b (useLine p s x) :=
  h.useWay p (by rw [← h.ll]; exact idx_lt hx)
theorem SetOk.markLine {w b : Nat} {s : MSet} (h : SetOk w b s) {n : Nat} (hx : (n : Int) ∈ s.lines) : SetOk w b (markLine s n) := by
  refine ⟨h.ll, (List.length_set ..).trans h.ml, h.op, h.tl, h.tb, fun i l hi => ?_⟩
  have hi : s.lines[i]? = some l := hi
  rcases h.ln i l hi with ⟨z, y⟩ | z
  · refine .inl ⟨z, ?_⟩
    show (s.marked.set (s.lines.idxOf (n : Int)) true)[i]? = some false
    rw [List.getElem?_set_ne]
    · exact y
    · intro e
      have q : s.lines[s.lines.idxOf (n : Int)]? = some (n : Int) := by
        rw [List.getElem?_eq_getElem (idx_lt hx)]
        exact congrArg some (List.getElem_idxOf (idx_lt hx))
      rw [e, hi] at q
      have := Option.some.inj q
      omega
  · exact .inr z
theorem pointT_lt : ∀ (f node : Nat) (ways : Nat) (t : List Nat), t.length = ways → (∀ x ∈ t, x ≤ 1) → node < 2 * ways → pointT ways t f node < 2 * ways
  | 0, _, _, _, _, _, h => h
  | f + 1, node, ways, t, hl, hb, h => by
    unfold pointT
    split
    · refine pointT_lt f _ ways t hl hb ?_
      have hn : node < t.length := by omega
      have : t.getD node 0 ≤ 1 := by
        rw [List.getD_eq_getElem?_getD, List.getElem?_eq_getElem hn]
        exact hb _ (List.getElem_mem hn)
      omega
    · exact h
theorem SetOk.way_lt {w b : Nat} {s : MSet} (h : SetOk w b s) (hw : 0 < w) (p x : Nat) : (wayToFill p s x).1 < w := by
  unfold wayToFill
  split
  · rename_i hm
    show s.lines.idxOf (-1) < w
    rw [← h.ll]
    exact idx_lt hm
  · split
    · show s.order.headD 0 < w
      cases e : s.order with
      | nil =>
        have q := h.op.length_eq
        rw [e, List.length_range] at q
        simp at q
        omega
      | cons a r =>
        have : a ∈ s.order := by rw [e]; exact List.mem_cons_self
        exact List.mem_range.mp (h.op.mem_iff.mp this)
    · split
      · show wayByTree s < w
        unfold wayByTree
        rw [h.ll]
        have q := pointT_lt w 1 w s.tree h.tl h.tb (by omega)
        omega
      · show Sd39.chance x % s.lines.length < w
        rw [h.ll]
        exact Nat.mod_lt _ hw
end CG
namespace CG
theorem get_modC {m : MMem} {i i' : Nat} {f : MCache → MCache} {c' : MCache} (h : (m.modC i f).caches[i']? = some c') : ∃ c, m.caches[i']? = some c ∧ c' = if i = i' then f c else c := by
  unfold MMem.modC at h
  rw [show ({ m with caches := m.caches.modify i f } : MMem).caches = m.caches.modify i f from rfl, List.getElem?_modify] at h
  cases e : m.caches[i']? with
  | none => rw [e] at h; simp at h
  | some c => rw [e] at h; simp at h; exact ⟨c, rfl, h.symm⟩
theorem modC_get {m : MMem} {i : Nat} {f : MCache → MCache} {c : MCache} (h : m.caches[i]? = some c) : (m.modC i f).caches[i]? = some (f c) := by
  show (m.caches.modify i f)[i]? = _
  rw [List.getElem?_modify, h]; simp
theorem modC_ne {m : MMem} {i j : Nat} {f : MCache → MCache} (h : i ≠ j) : (m.modC i f).caches[j]? = m.caches[j]? := by
  show (m.caches.modify i f)[j]? = _
  rw [List.getElem?_modify]
  cases m.caches[j]? <;> simp [h]
theorem modC_len {m : MMem} {i : Nat} {f : MCache → MCache} : (m.modC i f).caches.length = m.caches.length := by
  show (m.caches.modify i f).length = _
  rw [List.length_modify]
theorem get_mod_ {α : Type} {l : List α} {k k' : Nat} {f : α → α} {s' : α} (h : (l.modify k f)[k']? = some s') : ∃ s, l[k']? = some s ∧ s' = if k = k' then f s else s := by
  rw [List.getElem?_modify] at h
  cases e : l[k']? with
  | none => rw [e] at h; simp at h
  | some c => rw [e] at h; simp at h; exact ⟨c, rfl, h.symm⟩
theorem mod_get {α : Type} {l : List α} {k : Nat} {f : α → α} {s : α} (h : l[k]? = some s) : (l.modify k f)[k]? = some (f s) := by
  rw [List.getElem?_modify, h]; simp
theorem MemOk.modC {m : MMem} (h : MemOk m) {i : Nat} {f : MCache → MCache} (hf : ∀ c, m.caches[i]? = some c → CacheOk c → CacheOk (f c)) : MemOk (m.modC i f) := fun j c' hc' => by
  obtain ⟨c, hc, e⟩ := get_modC hc'
  by_cases z : i = j
  · subst z
    rw [if_pos rfl] at e
    rw [e]; exact hf c hc (h _ _ hc)
  · rw [if_neg z] at e
    rw [e]; exact h _ _ hc
theorem Shape.modC {m : MMem} {i : Nat} {f : MCache → MCache} (hf : ∀ c, same c (f c)) : Shape m (m.modC i f) := ⟨modC_len, fun j c hc => by
  by_cases z : i = j
  · subst z; exact ⟨_, modC_get hc, hf c⟩
  · exact ⟨c, by rw [modC_ne z]; exact hc, same.refl c⟩⟩
theorem MemOk.count {m : MMem} (h : MemOk m) {i : Nat} {f : MCache → MCache} (hf : ∀ c, same c (f c) ∧ (f c).sets = c.sets) : MemOk (m.modC i f) := h.modC fun c _ o => by
  obtain ⟨⟨e1, e2, e3, e4, e5, e6⟩, e7⟩ := hf c
  exact ⟨by rw [e1]; exact o.w0, by rw [e1]; exact o.w16, by rw [e3]; exact o.b, by rw [e2]; exact o.p, by rw [e6]; exact o.s0, by rw [e6]; exact o.s1, fun k s hs => by rw [e7] at hs; rw [e1, e3]; exact o.st k s hs⟩
theorem MemOk.modS {m : MMem} (h : MemOk m) {i k : Nat} {f : MCache → MSet → MSet} (hf : ∀ c s, m.caches[i]? = some c → c.sets[k]? = some s → CacheOk c → SetOk c.ways c.bits (f c s)) : MemOk (m.modS i k f) := h.modC fun c hc o => by
  refine ⟨o.w0, o.w16, o.b, o.p, ?_, ?_, fun k' s' hs' => ?_⟩
  · show 0 < (c.sets.modify k (f c)).length; rw [List.length_modify]; exact o.s0
  · show (c.sets.modify k (f c)).length ≤ 4096; rw [List.length_modify]; exact o.s1
  · obtain ⟨s, hs, e⟩ := get_mod_ hs'
    by_cases z : k = k'
    · subst z
      rw [if_pos rfl] at e
      rw [e]; exact hf c s hc hs o
    · rw [if_neg z] at e
      rw [e]; exact o.st _ _ hs
theorem Shape.modS {m : MMem} {i k : Nat} {f : MCache → MSet → MSet} : Shape m (m.modS i k f) := Shape.modC fun c => ⟨rfl, rfl, rfl, rfl, rfl, List.length_modify ..⟩
theorem Shape.back {m m' : MMem} (h : Shape m m') {i : Nat} {c' : MCache} (hc : m'.caches[i]? = some c') : ∃ c, m.caches[i]? = some c ∧ same c c' := by
  have hi : i < m.caches.length := by rw [← h.len]; exact (List.getElem?_eq_some_iff.mp hc).1
  obtain ⟨c2, h2, s⟩ := h.at_ i _ (List.getElem?_eq_getElem hi)
  rw [hc] at h2
  cases h2
  exact ⟨_, List.getElem?_eq_getElem hi, s⟩
def Good (m m' : MMem) : Prop := MemOk m' ∧ Shape m m'
def AccOk (acc : Acc) : Prop := ∀ i a w m, MemOk m → a < 2 ^ 48 → Good m (acc i a w m)
theorem Good.trans {a b c : MMem} (h : Good a b) (g : Good b c) : Good a c := ⟨g.1, h.2.trans g.2⟩
theorem good_at {m : MMem} (h : MemOk m) {i line : Nat} {f : MCache → Nat → MSet → MMem} (hf : ∀ c s, m.caches[i]? = some c → c.sets[line % c.sets.length]? = some s → CacheOk c → SetOk c.ways c.bits s → Good m (f c (line % c.sets.length) s)) : Good m (m.at i line f) := by
  unfold MMem.at
  cases e : m.caches[i]? with
  | none => exact ⟨h, Shape.refl m⟩
  | some c =>
    show Good m (match c.sets[line % c.sets.length]? with
      | none => m
      | some s => f c (line % c.sets.length) s)
    cases e2 : c.sets[line % c.sets.length]? with
    | none => exact ⟨h, Shape.refl m⟩
    | some s => exact hf c s e e2 (h _ _ e) ((h _ _ e).st _ _ e2)
theorem SetOk.marked_line {w b : Nat} {s : MSet} (h : SetOk w b s) {j : Nat} (hj : j < w) (hm : s.marked.getD j false = true) : ∃ n : Nat, s.lines[j]? = some (n : Int) ∧ n * 2 ^ b < 2 ^ 48 := by
  have hl : j < s.lines.length := by rw [h.ll]; exact hj
  rcases h.ln j _ (List.getElem?_eq_getElem hl) with ⟨_, z⟩ | ⟨n, e, z⟩
  · rw [List.getD_eq_getElem?_getD, z] at hm
    exact absurd hm (by simp)
  · exact ⟨n, by rw [List.getElem?_eq_getElem hl, e], z⟩
theorem fill_good {acc : Acc} (A : AccOk acc) {m : MMem} (h : MemOk m) {i line : Nat} {mk : Bool} (hl : ∀ c, m.caches[i]? = some c → line * 2 ^ c.bits < 2 ^ 48) : Good m (fillLine acc i line mk m) := by
  refine good_at h fun c s hc hs oc os => ?_
  have hv := os.way_lt oc.w0 c.policy m.chance
  generalize hV : wayToFill c.policy s m.chance = v at hv
  have g1 : Good m ({ m with chance := v.2 } : MMem) := ⟨h, ⟨rfl, fun i c h => ⟨c, h, same.refl c⟩⟩⟩
  have g2 : Good m (if s.marked.getD v.1 false = true then acc (Sd39.behind i) ((s.lines.getD v.1 0).toNat * 2 ^ c.bits) true (({ m with chance := v.2 } : MMem).modC i fun c => { c with pa := c.pa + 1 }) else { m with chance := v.2 }) := by
    split
    · rename_i hm
      have g : Good m (({ m with chance := v.2 } : MMem).modC i fun c => { c with pa := c.pa + 1 }) := g1.trans ⟨g1.1.count fun c => ⟨⟨rfl, rfl, rfl, rfl, rfl, rfl⟩, rfl⟩, Shape.modC fun c => ⟨rfl, rfl, rfl, rfl, rfl, rfl⟩⟩
      refine g.trans (A _ _ _ _ g.1 ?_)
      obtain ⟨n, hn, hb⟩ := os.marked_line hv hm
      rw [List.getD_eq_getElem?_getD, hn]
      exact hb
    · exact g1
  have g3 := g2.trans (A (Sd39.behind i) (line * 2 ^ c.bits) false _ g2.1 (hl c hc))
  refine g3.trans ⟨g3.1.modS fun c' s' hc' hs' oc' => ?_, Shape.modS⟩
  obtain ⟨c0, h0, sm⟩ := g3.2.back hc'
  rw [hc] at h0
  cases h0
  refine (oc'.st _ _ hs').fillSet _ (by rw [sm.1]; exact hv) ?_ mk
  rw [sm.2.2.1]
  exact hl c hc
theorem fetch_good {acc : Acc} (A : AccOk acc) {m : MMem} (h : MemOk m) {i line : Nat} : Good m (fetchAhead acc i line m) := by
  refine good_at h fun c s hc hs oc os => ?_
  split
  · exact ⟨h, Shape.refl m⟩
  · rename_i z
    have g : Good m (m.modC i fun c => { c with fa := c.fa + 1 }) := ⟨h.count fun c => ⟨⟨rfl, rfl, rfl, rfl, rfl, rfl⟩, rfl⟩, Shape.modC fun c => ⟨rfl, rfl, rfl, rfl, rfl, rfl⟩⟩
    refine g.trans (fill_good A g.1 fun c' hc' => ?_)
    rw [modC_get hc] at hc'
    cases hc'
    show line * 2 ^ c.bits < 2 ^ 48
    omega
theorem fillAhead_good {acc : Acc} (A : AccOk acc) {m : MMem} (h : MemOk m) {i line : Nat} {mk : Bool} (hl : ∀ c, m.caches[i]? = some c → line * 2 ^ c.bits < 2 ^ 48) : Good m (fillAhead acc i line mk m) := by
  unfold fillAhead
  cases e : m.caches[i]? with
  | none => exact ⟨h, Shape.refl m⟩
  | some c =>
    show Good m (if c.next = true then _ else _)
    have g := fill_good A h (mk := mk) hl
    split
    · exact g.trans (fetch_good A g.1)
    · exact g
theorem read_good {acc : Acc} (A : AccOk acc) {m : MMem} (h : MemOk m) {i line : Nat} (hl : ∀ c, m.caches[i]? = some c → line * 2 ^ c.bits < 2 ^ 48) : Good m (readLine acc i line m) := by
  refine good_at h fun c s hc hs oc os => ?_
  split
  · rename_i hm
    have g : Good m (m.modC i fun c => { c with rf := c.rf + 1 }) := ⟨h.count fun c => ⟨⟨rfl, rfl, rfl, rfl, rfl, rfl⟩, rfl⟩, Shape.modC fun c => ⟨rfl, rfl, rfl, rfl, rfl, rfl⟩⟩
    refine g.trans ⟨g.1.modS fun c' s' hc' hs' oc' => ?_, Shape.modS⟩
    rw [modC_get hc] at hc'
    cases hc'
    have hs' : c.sets[line % c.sets.length]? = some s' := hs'
    rw [hs] at hs'
    cases hs'
    exact os.useLine _ hm
  · have g : Good m (m.modC i fun c => { c with rm := c.rm + 1 }) := ⟨h.count fun c => ⟨⟨rfl, rfl, rfl, rfl, rfl, rfl⟩, rfl⟩, Shape.modC fun c => ⟨rfl, rfl, rfl, rfl, rfl, rfl⟩⟩
    refine g.trans (fillAhead_good A g.1 fun c' hc' => ?_)
    rw [modC_get hc] at hc'
    cases hc'
    exact hl c hc
theorem write_good {acc : Acc} (A : AccOk acc) {m : MMem} (h : MemOk m) {i line : Nat} (hl : ∀ c, m.caches[i]? = some c → line * 2 ^ c.bits < 2 ^ 48) : Good m (writeLine acc i line m) := by
  refine good_at h fun c s hc hs oc os => ?_
  split
  · rename_i hm
    have g : Good m (m.modC i fun c => { c with wf := c.wf + 1 }) := ⟨h.count fun c => ⟨⟨rfl, rfl, rfl, rfl, rfl, rfl⟩, rfl⟩, Shape.modC fun c => ⟨rfl, rfl, rfl, rfl, rfl, rfl⟩⟩
    have g2 := g.trans ⟨g.1.modS (k := line % c.sets.length) (f := fun c s => useLine c.policy s line) fun c' s' hc' hs' oc' => by
      rw [modC_get hc] at hc'
      cases hc'
      have hs' : c.sets[line % c.sets.length]? = some s' := hs'
      rw [hs] at hs'
      cases hs'
      exact os.useLine _ hm, Shape.modS⟩
    show Good m (if c.through = true then _ else _)
    split
    · exact g2.trans (A _ _ _ _ g2.1 (hl c hc))
    · refine g2.trans ⟨g2.1.modS fun c' s' hc' hs' oc' => ?_, Shape.modS⟩
      have q : (MMem.modS (m.modC i fun c => { c with wf := c.wf + 1 }) i (line % c.sets.length) fun c s => useLine c.policy s line).caches[i]? = some { c with wf := c.wf + 1, sets := c.sets.modify (line % c.sets.length) (fun s => useLine c.policy s line) } := modC_get (modC_get hc)
      rw [q] at hc'
      cases hc'
      have hs' : (c.sets.modify (line % c.sets.length) (fun s => useLine c.policy s line))[line % c.sets.length]? = some s' := hs'
      rw [mod_get hs] at hs'
      cases hs'
      refine (os.useLine _ hm).markLine ?_
      have : (useLine c.policy s line).lines = s.lines := by
        unfold useLine useWay putLast turnTree
        split
        · rfl
        · split <;> rfl
      rw [this]
      exact hm
  · have g : Good m (m.modC i fun c => { c with wm := c.wm + 1 }) := ⟨h.count fun c => ⟨⟨rfl, rfl, rfl, rfl, rfl, rfl⟩, rfl⟩, Shape.modC fun c => ⟨rfl, rfl, rfl, rfl, rfl, rfl⟩⟩
    show Good m (if c.through = true then _ else _)
    split
    · exact g.trans (A _ _ _ _ g.1 (hl c hc))
    · refine g.trans (fillAhead_good A g.1 fun c' hc' => ?_)
      rw [modC_get hc] at hc'
      cases hc'
      exact hl c hc
theorem div_line (a b : Nat) : a / 2 ^ b * 2 ^ b ≤ a := Nat.div_mul_le_self a (2 ^ b)
theorem step_ok {acc : Acc} (A : AccOk acc) : AccOk (accStep acc) := fun i a w m h ha => by
  unfold accStep
  cases e : m.caches[i]? with
  | none =>
    show Good m (if w = true then _ else _)
    split
    · exact ⟨h, ⟨rfl, fun i c h => ⟨c, h, same.refl c⟩⟩⟩
    · exact ⟨h, ⟨rfl, fun i c h => ⟨c, h, same.refl c⟩⟩⟩
  | some c =>
    have hl : ∀ c', m.caches[i]? = some c' → a / 2 ^ c.bits * 2 ^ c'.bits < 2 ^ 48 := fun c' hc' => by
      rw [e] at hc'
      cases hc'
      exact Nat.lt_of_le_of_lt (div_line _ _) ha
    show Good m (if w = true then _ else _)
    split
    · exact write_good A h hl
    · exact read_good A h hl
theorem access_ok : ∀ d, AccOk (access d)
  | 0 => fun _ _ _ m h _ => ⟨h, Shape.refl m⟩
  | d + 1 => step_ok (access_ok d)
def rank (n i : Nat) : Nat := if n ≤ i then 1 else if i < 2 then n else n - i + 1
theorem rank_behind {n i : Nat} (h2 : 2 ≤ n) (hi : i < n) : rank n (Sd39.behind i) + 1 ≤ rank n i := by
  unfold rank Sd39.behind
  repeat' split
  all_goals omega
theorem rank_pos (n i : Nat) (h : 2 ≤ n) : 0 < rank n i := by
  unfold rank
  repeat' split
  all_goals omega
end CG
namespace CG
structure SetRel0 (S k : Nat) (s : MSet) (z : Sd39.Set_) : Prop where
  wl : z.ways.length = s.lines.length
  wy : ∀ j, j < s.lines.length → (s.lines[j]? = some (-1) ∧ z.ways[j]? = some none) ∨ ∃ (n : Nat) (b : Bool), s.lines[j]? = some (n : Int) ∧ s.marked[j]? = some b ∧ n % S = k ∧ z.ways[j]? = some (some ⟨n / S, b⟩)
  od : ∃ r, s.order = r ++ z.order.reverse
  tr : ∀ n, 1 ≤ n → n < s.lines.length → s.tree[n]? = some (if z.bits.testBit n = true then 1 else 0)
structure SetRel (S k pol : Nat) (s : MSet) (z : Sd39.Set_) : Prop extends SetRel0 S k s z where
  oi : pol ≤ 1 → ∀ j, j < s.lines.length → s.lines[j]? ≠ some (-1) → j ∈ z.order
theorem findIdx_by {α β : Type} {p : α → Bool} {q : β → Bool} : ∀ {l : List α} {r : List β}, l.length = r.length → (∀ (j : Nat) (a : α) (b : β), l[j]? = some a → r[j]? = some b → p a = q b) → l.findIdx? p = r.findIdx? q
  | [], [], _, _ => rfl
  | a :: l, b :: r, h, e => by
    rw [List.findIdx?_cons, List.findIdx?_cons, e 0 a b rfl rfl, findIdx_by (l := l) (r := r) (by simpa using h) (fun j x y hx hy => e (j + 1) x y hx hy)]
  | [], _ :: _, h, _ => by simp at h
  | _ :: _, [], h, _ => by simp at h
theorem find_idxOf (x : Int) : ∀ r : List Int, r.findIdx? (fun y => y == x) = if x ∈ r then some (r.idxOf x) else none
  | [] => by simp
  | a :: r => by
    rw [List.findIdx?_cons, find_idxOf x r, List.idxOf_cons]
    by_cases h : a = x
    · subst h; simp
    · have h1 : (a == x) = false := beq_eq_false_iff_ne.mpr h
      have h2 : ¬ x = a := fun z => h z.symm
      simp only [h1, List.mem_cons, h2, false_or, cond_false]
      by_cases hm : x ∈ r <;> simp [hm]
theorem mod_div_eq {S k n m : Nat} (h1 : n % S = k) (h2 : m % S = k) (h : n / S = m / S) : n = m := by
  have e1 := Nat.div_add_mod n S
  have e2 := Nat.div_add_mod m S
  rw [← e1, ← e2, h1, h2, h]
theorem SetRel0.look {S k : Nat} {s : MSet} {z : Sd39.Set_} (R : SetRel0 S k s z) {line : Nat} (hk : line % S = k) {p : Option Sd39.Way → Bool} (hp : ∀ w, p w = match w with | some w => w.tag == line / S | none => false) :
    z.ways.findIdx? p = if (line : Int) ∈ s.lines then some (s.lines.idxOf (line : Int)) else none := by
  rw [← find_idxOf]
  refine findIdx_by R.wl fun j a b ha hb => ?_
  rcases R.wy j (List.getElem?_eq_some_iff.mp hb).1 with ⟨e1, e2⟩ | ⟨n, bb, e1, e2, e3, e4⟩
  · rw [e1] at hb; cases hb
    rw [e2] at ha; cases ha
    rw [hp]
    symm
    exact beq_eq_false_iff_ne.mpr (by omega)
  · rw [e1] at hb; cases hb
    rw [e4] at ha; cases ha
    rw [hp]
    show (n / S == line / S) = ((n : Int) == (line : Int))
    by_cases h : n = line
    · subst h; simp
    · rw [beq_eq_false_iff_ne.mpr (fun z => h (mod_div_eq e3 hk z)), beq_eq_false_iff_ne.mpr (by omega)]
theorem SetRel0.empty {S k : Nat} {s : MSet} {z : Sd39.Set_} (R : SetRel0 S k s z) : z.ways.findIdx? (fun w => w.isNone) = if (-1 : Int) ∈ s.lines then some (s.lines.idxOf (-1)) else none := by
  rw [← find_idxOf]
  refine findIdx_by R.wl fun j a b ha hb => ?_
  rcases R.wy j (List.getElem?_eq_some_iff.mp hb).1 with ⟨e1, e2⟩ | ⟨n, bb, e1, e2, e3, e4⟩
  · rw [e1] at hb; cases hb
    rw [e2] at ha; cases ha
    rfl
  · rw [e1] at hb; cases hb
    rw [e4] at ha; cases ha
    symm
    exact beq_eq_false_iff_ne.mpr (by omega)
theorem pow2_of {w : Nat} (h : Sd39.power2 w = true) : ∃ lv, w = 2 ^ lv ∧ Sd39.levelsOf w = lv := by
  unfold Sd39.power2 at h
  simp at h
  rcases h with rfl | rfl | rfl | rfl | rfl
  · exact ⟨0, rfl, by decide⟩
  · exact ⟨1, rfl, by decide⟩
  · exact ⟨2, rfl, by decide⟩
  · exact ⟨3, rfl, by decide⟩
  · exact ⟨4, rfl, by decide⟩
theorem pointed_eq {tree : List Nat} {bits lv : Nat} (h : ∀ n, 1 ≤ n → n < 2 ^ lv → tree[n]? = some (if bits.testBit n = true then 1 else 0)) : ∀ (k f e node : Nat), e + k = lv → 2 ^ e ≤ node → node < 2 ^ (e + 1) → k ≤ f → pointT (2 ^ lv) tree f node = Sd39.pointed bits k node
  | 0, f, e, node, he, h1, h2, hf => by
    have he : e = lv := by omega
    subst he
    cases f with
    | zero => rfl
    | succ f =>
      unfold pointT
      rw [if_neg (by omega)]
      rfl
  | k + 1, f, e, node, he, h1, h2, hf => by
    obtain ⟨f, rfl⟩ : ∃ g, f = g + 1 := ⟨f - 1, by omega⟩
    have hlt : node < 2 ^ lv := Nat.lt_of_lt_of_le h2 (Nat.pow_le_pow_right (by omega) (by omega))
    have hpos : 1 ≤ node := Nat.le_trans (Nat.two_pow_pos e) h1
    have e1 : 2 ^ (e + 1) = 2 * 2 ^ e := by rw [Nat.pow_succ]; omega
    have e2 : 2 ^ (e + 1 + 1) = 2 * 2 ^ (e + 1) := by rw [Nat.pow_succ]; omega
    unfold pointT Sd39.pointed
    rw [if_pos hlt, List.getD_eq_getElem?_getD, h node hpos hlt]
    show pointT (2 ^ lv) tree f (2 * node + if bits.testBit node = true then 1 else 0) = _
    have hb : (if bits.testBit node = true then 1 else 0) ≤ 1 := by split <;> omega
    refine pointed_eq h k f (e + 1) _ (by omega) ?_ ?_ (by omega)
    · omega
    · omega
def pth (w : Nat) : Nat → Nat → Nat → Option Bool
  | 0, _, _ => none
  | k + 1, node, n => if n = node then some (!(w / 2 ^ k % 2 == 1)) else pth w k (2 * node + w / 2 ^ k % 2) n
theorem pth_lt (w : Nat) : ∀ k node n, n < node → pth w k node n = none
  | 0, _, _, _ => rfl
  | k + 1, node, n, h => by
    unfold pth
    rw [if_neg (by omega)]
    exact pth_lt w k _ n (by omega)
theorem pth_hi (w : Nat) : ∀ k node n, (node + 1) * 2 ^ k ≤ 2 * n → pth w k node n = none
  | 0, _, _, _ => rfl
  | k + 1, node, n, h => by
    have hp := Nat.two_pow_pos k
    have e1 : (node + 1) * 2 ^ (k + 1) = 2 * ((node + 1) * 2 ^ k) := by rw [Nat.pow_succ, ← Nat.mul_assoc, Nat.mul_comm]
    have e2 : (node + 1) * 1 ≤ (node + 1) * 2 ^ k := Nat.mul_le_mul_left _ hp
    unfold pth
    rw [if_neg (by omega)]
    refine pth_hi w k _ n (Nat.le_trans (Nat.mul_le_mul_right _ (show 2 * node + w / 2 ^ k % 2 + 1 ≤ 2 * (node + 1) by omega)) ?_)
    rw [Nat.mul_assoc, ← e1]
    exact h
theorem testBit_add_self {x i : Nat} (h : x.testBit i = false) (j : Nat) : (x + 2 ^ i).testBit j = if i = j then true else x.testBit j := by
  by_cases e : i = j
  · subst e
    rw [if_pos rfl, Nat.add_comm, Nat.testBit_two_pow_add_eq, h]; rfl
  · rw [if_neg e]
    by_cases hl : j < i
    · rw [Nat.add_comm, Nat.testBit_two_pow_add_gt hl]
    · obtain ⟨d, rfl⟩ : ∃ d, j = i + (d + 1) := ⟨j - i - 1, by omega⟩
      have a1 : (x + 2 ^ i).testBit (i + (d + 1)) = ((x + 2 ^ i) / 2 ^ i).testBit (d + 1) := by rw [Nat.testBit_div_two_pow]; congr 1; omega
      have a2 : x.testBit (i + (d + 1)) = (x / 2 ^ i).testBit (d + 1) := by rw [Nat.testBit_div_two_pow]; congr 1; omega
      have a3 : (x + 2 ^ i) / 2 ^ i = x / 2 ^ i + 1 := Nat.add_div_right _ (Nat.two_pow_pos i)
      have a4 : (x / 2 ^ i).testBit 0 = false := by rw [Nat.testBit_div_two_pow, Nat.zero_add]; exact h
      have a5 : x / 2 ^ i % 2 = 0 := by
        rw [Nat.testBit_zero] at a4
        have := of_decide_eq_false a4
        omega
      rw [a1, a2, a3, Nat.testBit_succ, Nat.testBit_succ]
      congr 1
      omega
theorem testBit_sub_self {x i : Nat} (h : x.testBit i = true) (j : Nat) : (x - 2 ^ i).testBit j = if i = j then false else x.testBit j := by
  have hge : 2 ^ i ≤ x := Nat.ge_two_pow_of_testBit h
  obtain ⟨y, rfl⟩ : ∃ y, x = y + 2 ^ i := ⟨x - 2 ^ i, by omega⟩
  have hy : y.testBit i = false := by
    rw [Nat.add_comm, Nat.testBit_two_pow_add_eq] at h
    simpa using h
  rw [show y + 2 ^ i - 2 ^ i = y by omega, testBit_add_self hy]
  by_cases e : i = j
  · subst e; rw [if_pos rfl]; exact hy
  · rw [if_neg e, if_neg e]
theorem turned_bit (w : Nat) : ∀ (k node bits n : Nat), 1 ≤ node → (Sd39.turned w k node bits).testBit n = (pth w k node n).getD (bits.testBit n)
  | 0, _, _, _, _ => rfl
  | k + 1, node, bits, n, hn => by
    unfold Sd39.turned pth
    have hb : w / 2 ^ k % 2 = 0 ∨ w / 2 ^ k % 2 = 1 := by omega
    have key : ∀ (r : Bool), (if r = true then (if bits.testBit node = true then bits - 2 ^ node else bits) else (if bits.testBit node = true then bits else bits + 2 ^ node)).testBit n = if node = n then !r else bits.testBit n := fun r => by
      cases hb : bits.testBit node <;> cases r
      · simp only [Bool.false_eq_true, if_false]; rw [testBit_add_self hb]; rfl
      · simp only [Bool.false_eq_true, if_false, if_true]
        by_cases e : node = n
        · subst e; rw [if_pos rfl, hb]; rfl
        · rw [if_neg e]
      · simp only [Bool.false_eq_true, if_false, if_true]
        by_cases e : node = n
        · subst e; rw [if_pos rfl, hb]; rfl
        · rw [if_neg e]
      · simp only [if_true]; rw [testBit_sub_self hb]; rfl
    have e2 : (2 * node + if (w / 2 ^ k % 2 == 1) = true then 1 else 0) = 2 * node + w / 2 ^ k % 2 := by
      rcases hb with h | h <;> rw [h] <;> rfl
    show (Sd39.turned w k (2 * node + if (w / 2 ^ k % 2 == 1) = true then 1 else 0) _).testBit n = _
    rw [e2, turned_bit w k _ _ n (by omega), key]
    by_cases e : n = node
    · subst e
      rw [if_pos rfl, if_pos rfl, pth_lt w k _ n (by omega)]
      rfl
    · rw [if_neg e, if_neg (fun z => e z.symm)]
theorem pth_below (w : Nat) : ∀ (k node n : Nat), 1 ≤ node → pth w (k + 1) node n = if n = node * 2 ^ k + w / 2 % 2 ^ k then some (!(w % 2 == 1)) else pth (w / 2) k node n
  | 0, node, n, hn => by
    show (if n = node then some (!(w / 2 ^ 0 % 2 == 1)) else none) = if n = node * 2 ^ 0 + w / 2 % 2 ^ 0 then _ else none
    rw [Nat.pow_zero, Nat.mul_one, Nat.div_one, Nat.mod_one, Nat.add_zero]
  | k + 1, node, n, hn => by
    have ed : w / 2 / 2 ^ k = w / 2 ^ (k + 1) := by rw [Nat.div_div_eq_div_mul, Nat.pow_succ, Nat.mul_comm]
    show (if n = node then some (!(w / 2 ^ (k + 1) % 2 == 1)) else pth w (k + 1) (2 * node + w / 2 ^ (k + 1) % 2) n) = if n = node * 2 ^ (k + 1) + w / 2 % 2 ^ (k + 1) then _ else (if n = node then some (!(w / 2 / 2 ^ k % 2 == 1)) else pth (w / 2) k (2 * node + w / 2 / 2 ^ k % 2) n)
    rw [ed, pth_below w k _ n (by omega)]
    have e3 : w / 2 % 2 ^ (k + 1) = w / 2 % 2 ^ k + 2 ^ k * (w / 2 ^ (k + 1) % 2) := by
      rw [Nat.pow_succ, Nat.mod_mul, ed, Nat.pow_succ]
    have e4 : (2 * node + w / 2 ^ (k + 1) % 2) * 2 ^ k + w / 2 % 2 ^ k = node * 2 ^ (k + 1) + w / 2 % 2 ^ (k + 1) := by
      rw [e3, Nat.add_mul, Nat.pow_succ, Nat.mul_comm 2 node, Nat.mul_assoc, Nat.mul_comm 2 (2 ^ k), Nat.mul_comm (2 ^ k) (w / (2 ^ k * 2) % 2)]
      omega
    rw [e4]
    by_cases e : n = node
    · subst e
      have : n < n * 2 ^ (k + 1) := by
        have : 2 ≤ 2 ^ (k + 1) := by rw [Nat.pow_succ]; have := Nat.two_pow_pos k; omega
        have := Nat.mul_le_mul_left n this
        omega
      rw [if_pos rfl, if_neg (by omega), if_pos rfl]
    · rw [if_neg e, if_neg e]
theorem turnT_get : ∀ (lv w f n : Nat) (t : List Nat), w < 2 ^ lv → lv ≤ f → 1 ≤ n → n < t.length → 2 ^ lv ≤ t.length → (turnT f (2 ^ lv + w) t)[n]? = some (match pth w lv 1 n with | some b => if b = true then 1 else 0 | none => t.getD n 0)
  | 0, w, f, n, t, hw, hf, h1, hn, hl => by
    have hw : w = 0 := by simpa using hw
    subst hw
    have e : turnT f (2 ^ 0 + 0) t = t := by
      cases f with
      | zero => rfl
      | succ f => unfold turnT; rw [if_neg (by decide)]
    rw [e]
    show t[n]? = some (t.getD n 0)
    rw [List.getD_eq_getElem?_getD, List.getElem?_eq_getElem hn]; rfl
  | lv + 1, w, f, n, t, hw, hf, h1, hn, hl => by
    obtain ⟨f, rfl⟩ : ∃ g, f = g + 1 := ⟨f - 1, by omega⟩
    have hp := Nat.two_pow_pos lv
    have ep : 2 ^ (lv + 1) = 2 * 2 ^ lv := by rw [Nat.pow_succ]; omega
    have hd : (2 ^ (lv + 1) + w) / 2 = 2 ^ lv + w / 2 := by omega
    have hm : (2 ^ (lv + 1) + w) % 2 = w % 2 := by omega
    have hw2 : w / 2 < 2 ^ lv := by omega
    unfold turnT
    rw [if_pos (by omega), hd, hm, turnT_get lv (w / 2) f n _ hw2 (by omega) h1 (by rw [List.length_set]; exact hn) (by rw [List.length_set]; omega), pth_below w lv 1 n (by omega), Nat.one_mul, Nat.mod_eq_of_lt hw2]
    by_cases e : n = 2 ^ lv + w / 2
    · rw [if_pos e]
      have no : pth (w / 2) lv 1 n = none := by rw [e]; exact pth_hi (w / 2) lv 1 _ (by omega)
      rw [no]
      show some ((t.set (2 ^ lv + w / 2) (1 - w % 2)).getD n 0) = some (if (!(w % 2 == 1)) = true then 1 else 0)
      rw [List.getD_eq_getElem?_getD, e, List.getElem?_set_self (by omega)]
      rcases (by omega : w % 2 = 0 ∨ w % 2 = 1) with h | h <;> rw [h] <;> rfl
    · rw [if_neg e]
      cases pth (w / 2) lv 1 n with
      | some b => rfl
      | none =>
        show some ((t.set (2 ^ lv + w / 2) (1 - w % 2)).getD n 0) = some (t.getD n 0)
        rw [List.getD_eq_getElem?_getD, List.getElem?_set_ne (fun z => e z.symm), List.getD_eq_getElem?_getD]
theorem filter_erase {l : List Nat} (h : l.Nodup) (w : Nat) : l.erase w = l.filter (fun x => x != w) := h.erase_eq_filter w
theorem SetRel0.putLast {S k : Nat} {s : MSet} {z : Sd39.Set_} (R : SetRel0 S k s z) (nd : s.order.Nodup) (j : Nat) : SetRel0 S k (putLast s j) { z with order := j :: z.order.filter fun x => x != j } := by
  refine ⟨R.wl, R.wy, ?_, R.tr⟩
  obtain ⟨r, e⟩ := R.od
  refine ⟨r.filter (fun x => x != j), ?_⟩
  show s.order.erase j ++ [j] = r.filter (fun x => x != j) ++ (j :: z.order.filter fun x => x != j).reverse
  rw [filter_erase nd, e, List.filter_append, List.filter_reverse, List.reverse_cons, List.append_assoc]
theorem SetRel0.turn {S k lv : Nat} {s : MSet} {z : Sd39.Set_} (R : SetRel0 S k s z) (hl : s.lines.length = 2 ^ lv) (ht : s.tree.length = s.lines.length) {j : Nat} (hj : j < s.lines.length) : SetRel0 S k (turnTree s j) { z with bits := Sd39.turned j lv 1 z.bits } := by
  refine ⟨R.wl, R.wy, R.od, fun n h1 h2 => ?_⟩
  have h2 : n < s.lines.length := h2
  show (turnT (s.lines.length + j) (s.lines.length + j) s.tree)[n]? = some (if (Sd39.turned j lv 1 z.bits).testBit n = true then 1 else 0)
  have hlv : lv < 2 ^ lv := Nat.lt_two_pow_self
  rw [turned_bit j lv 1 z.bits n (by omega)]
  have q := turnT_get lv j (s.lines.length + j) n s.tree (by omega) (by omega) h1 (by omega) (by omega)
  rw [← hl] at q
  rw [q]
  cases pth j lv 1 n with
  | some b => rfl
  | none =>
    show some (s.tree.getD n 0) = some (if z.bits.testBit n = true then 1 else 0)
    rw [List.getD_eq_getElem?_getD, R.tr n h1 h2]; rfl
theorem SetRel0.fill {S k : Nat} {s : MSet} {z : Sd39.Set_} (R : SetRel0 S k s z) (hm : s.marked.length = s.lines.length) {j line : Nat} (hj : j < s.lines.length) (hk : line % S = k) (mk : Bool) :
    SetRel0 S k { s with lines := s.lines.set j (line : Int), marked := s.marked.set j mk } { z with ways := z.ways.set j (some ⟨line / S, mk⟩) } := by
  refine ⟨?_, fun i hi => ?_, R.od, fun n h1 h2 => R.tr n h1 (by have h2 : n < (s.lines.set j (line : Int)).length := h2; rw [List.length_set] at h2; exact h2)⟩
  · show (z.ways.set j _).length = (s.lines.set j _).length
    rw [List.length_set, List.length_set]; exact R.wl
  · have hi : i < (s.lines.set j (line : Int)).length := hi
    rw [List.length_set] at hi
    show ((s.lines.set j (line : Int))[i]? = some (-1) ∧ (z.ways.set j (some ⟨line / S, mk⟩))[i]? = some none) ∨ ∃ (n : Nat) (b : Bool), (s.lines.set j (line : Int))[i]? = some (n : Int) ∧ (s.marked.set j mk)[i]? = some b ∧ n % S = k ∧ (z.ways.set j (some ⟨line / S, mk⟩))[i]? = some (some ⟨n / S, b⟩)
    by_cases e : j = i
    · subst e
      rw [List.getElem?_set_self hj, List.getElem?_set_self (by have := R.wl; omega), List.getElem?_set_self (by have := R.wl; omega)]
      exact .inr ⟨line, mk, rfl, rfl, hk, rfl⟩
    · rw [List.getElem?_set_ne e, List.getElem?_set_ne e, List.getElem?_set_ne e]
      exact R.wy i hi
theorem mem_idx {l : List Int} {x : Int} (h : x ∈ l) : l[l.idxOf x]? = some x := by
  rw [List.getElem?_eq_getElem (idx_lt h)]
  exact congrArg some (List.getElem_idxOf (idx_lt h))
theorem SetRel0.mark {S k : Nat} {s : MSet} {z : Sd39.Set_} (R : SetRel0 S k s z) (hm : s.marked.length = s.lines.length) {line : Nat} (hx : (line : Int) ∈ s.lines) (hk : line % S = k) :
    SetRel0 S k (markLine s line) { z with ways := z.ways.set (s.lines.idxOf (line : Int)) (some ⟨line / S, true⟩) } := by
  have h := R.fill hm (idx_lt hx) hk true
  have e : s.lines.set (s.lines.idxOf (line : Int)) (line : Int) = s.lines := by
    apply List.ext_getElem?
    intro i
    rw [List.getElem?_set]
    split
    · rename_i q
      subst q
      rw [if_pos (idx_lt hx), mem_idx hx]
    · rfl
  rw [e] at h
  exact h
theorem ord_mem {S k pol : Nat} {s : MSet} {z : Sd39.Set_} (R : SetRel S k pol s z) {w bits : Nat} (os : SetOk w bits s) (hp : pol ≤ 1) (he : ¬ (-1 : Int) ∈ s.lines) : s.order = z.order.reverse := by
  obtain ⟨r, e⟩ := R.od
  cases r with
  | nil => exact e
  | cons a r =>
    have ha : a ∈ s.order := by rw [e]; exact List.mem_append_left _ List.mem_cons_self
    have hw : a < w := List.mem_range.mp (os.op.mem_iff.mp ha)
    have hl : a < s.lines.length := by rw [os.ll]; exact hw
    have hz := R.oi hp a hl fun q => he (List.mem_of_getElem? q)
    have nd : s.order.Nodup := os.op.nodup_iff.mpr List.nodup_range
    rw [e] at nd
    exact absurd rfl ((List.nodup_append.mp nd).2.2 a List.mem_cons_self a (List.mem_reverse.mpr hz))
theorem SetRel.victim {S k pol : Nat} {s : MSet} {z : Sd39.Set_} (R : SetRel S k pol s z) {w bits : Nat} (os : SetOk w bits s) (c : Sd39.Cache) (hw : c.ways = w) (hp : c.policy = pol) (hpow : pol = 2 → Sd39.power2 w = true) (x : Nat) : Sd39.victim c z x = wayToFill pol s x := by
  unfold Sd39.victim wayToFill
  rw [R.empty]
  by_cases he : (-1 : Int) ∈ s.lines
  · rw [if_pos he, if_pos he]
  · rw [if_neg he, if_neg he, hp]
    by_cases h1 : pol ≤ 1
    · have h2 : pol = 0 ∨ pol = 1 := by omega
      show (if pol ≤ 1 then _ else _) = _
      rw [if_pos h1, if_pos h2, ord_mem R os h1 he]
      rw [List.headD_eq_head?_getD, List.head?_reverse, ← List.getLastD_eq_getLast?]
    · have h2 : ¬ (pol = 0 ∨ pol = 1) := by omega
      show (if pol ≤ 1 then _ else _) = _
      rw [if_neg h1, if_neg h2]
      by_cases h3 : pol = 2
      · rw [if_pos h3, if_pos h3]
        obtain ⟨lv, e1, e2⟩ := pow2_of (hpow h3)
        unfold wayByTree
        rw [hw, os.ll, e2]
        have q := pointed_eq (tree := s.tree) (bits := z.bits) (lv := lv) (fun n a b => R.tr n a (by rw [os.ll, e1]; exact b)) lv w 0 1 (by omega) (by decide) (by decide) (by rw [e1]; exact Nat.le_of_lt Nat.lt_two_pow_self)
        rw [← e1] at q
        rw [q]
      · rw [if_neg h3, if_neg h3, hw, os.ll]
theorem SetRel.use {S k pol : Nat} {s : MSet} {z : Sd39.Set_} (R : SetRel S k pol s z) {w bits : Nat} (os : SetOk w bits s) (c : Sd39.Cache) (hw : c.ways = w) (hp : c.policy = pol) (hpow : pol = 2 → Sd39.power2 w = true) {j : Nat} (hj : j < w) : SetRel S k pol (useWay pol s j) (Sd39.used c z j false) := by
  have nd : s.order.Nodup := os.op.nodup_iff.mpr List.nodup_range
  unfold useWay Sd39.used
  rw [hp]
  by_cases h0 : pol = 0
  · rw [if_pos h0, if_pos (.inl h0)]
    refine ⟨R.putLast nd j, fun hp i hi hn => ?_⟩
    have := R.oi hp i hi hn
    by_cases e : i = j
    · rw [e]; exact List.mem_cons_self
    · exact List.mem_cons_of_mem _ (List.mem_filter.mpr ⟨this, by simpa using e⟩)
  · have hno : ¬ (pol = 0 ∨ (pol = 1 ∧ false = true)) := fun q => q.elim h0 fun q => absurd q.2 (by decide)
    rw [if_neg h0, if_neg hno]
    by_cases h2 : pol = 2
    · rw [if_pos h2, if_pos h2]
      obtain ⟨lv, e1, e2⟩ := pow2_of (hpow h2)
      rw [hw, e2]
      exact ⟨R.turn (os.ll.trans e1) (os.tl.trans os.ll.symm) (by rw [os.ll]; exact hj), fun hp => absurd hp (by omega)⟩
    · rw [if_neg h2, if_neg h2]; exact R
theorem SetRel.fillS {S k pol : Nat} {s : MSet} {z : Sd39.Set_} (R : SetRel S k pol s z) {w bits : Nat} (os : SetOk w bits s) (c : Sd39.Cache) (hw : c.ways = w) (hp : c.policy = pol) (hpow : pol = 2 → Sd39.power2 w = true) {j line : Nat} (hj : j < w) (hk : line % S = k) (mk : Bool) :
    SetRel S k pol (fillSet pol s j (line : Int) mk) (Sd39.used c { z with ways := z.ways.set j (some ⟨line / S, mk⟩) } j true) := by
  have nd : s.order.Nodup := os.op.nodup_iff.mpr List.nodup_range
  have hjl : j < s.lines.length := by rw [os.ll]; exact hj
  have F := R.fill (os.ml.trans os.ll.symm) hjl hk mk
  unfold fillSet useWay Sd39.used
  simp only [hp]
  have ord : ∀ i, i < (s.lines.set j (line : Int)).length → (s.lines.set j (line : Int))[i]? ≠ some (-1) → pol ≤ 1 → i ∈ j :: z.order.filter fun x => x != j := fun i hi hn h1 => by
    by_cases e : i = j
    · rw [e]; exact List.mem_cons_self
    · rw [List.getElem?_set_ne (fun q => e q.symm)] at hn
      rw [List.length_set] at hi
      exact List.mem_cons_of_mem _ (List.mem_filter.mpr ⟨R.oi h1 i hi hn, by simpa using e⟩)
  by_cases h0 : pol = 0
  · have h1 : ¬ pol = 1 := by omega
    rw [if_pos h0, if_neg h1, if_pos (.inl h0)]
    exact ⟨F.putLast nd j, fun h1 i hi hn => ord i hi hn h1⟩
  · rw [if_neg h0]
    by_cases h1 : pol = 1
    · have h2 : ¬ pol = 2 := by omega
      rw [if_neg h2, if_pos h1, if_pos (.inr ⟨h1, trivial⟩)]
      exact ⟨F.putLast nd j, fun h1 i hi hn => ord i hi hn h1⟩
    · have hno : ¬ (pol = 0 ∨ (pol = 1 ∧ True)) := fun q => q.elim h0 fun q => h1 q.1
      rw [if_neg h1, if_neg hno]
      by_cases h2 : pol = 2
      · rw [if_pos h2, if_pos h2]
        obtain ⟨lv, e1, e2⟩ := pow2_of (hpow h2)
        rw [hw, e2]
        exact ⟨F.turn (by show (s.lines.set j (line : Int)).length = 2 ^ lv; rw [List.length_set]; exact os.ll.trans e1) (by show s.tree.length = (s.lines.set j (line : Int)).length; rw [List.length_set]; exact os.tl.trans os.ll.symm) (by show j < (s.lines.set j (line : Int)).length; rw [List.length_set]; exact hjl), fun hp => absurd hp (by omega)⟩
      · rw [if_neg h2, if_neg h2]
        exact ⟨F, fun hp => absurd hp (by omega)⟩
end CG
namespace CG
structure LevRel (c : MCache) (l : Sd39.Level) : Prop where
  ways : c.ways = l.cache.ways
  pol : c.policy = l.cache.policy
  bits : c.bits = l.cache.line
  thr : c.through = l.cache.through
  nxt : c.next = l.cache.next
  sl : c.sets.length = 2 ^ l.cache.sets
  sl' : l.sets.length = c.sets.length
  p2 : c.policy = 2 → Sd39.power2 c.ways = true
  st : ∀ (k : Nat) (s : MSet) (z : Sd39.Set_), c.sets[k]? = some s → l.sets[k]? = some z → SetRel c.sets.length k c.policy s z
  cnt : l.counts = ⟨c.rf, c.rm, c.wf, c.wm, c.pa, c.fa⟩
structure MemRel (m : MMem) (M : Sd39.Mem) : Prop where
  len : M.levels.length = m.caches.length
  lv : ∀ (i : Nat) (c : MCache) (l : Sd39.Level), m.caches[i]? = some c → M.levels[i]? = some l → LevRel c l
  rd : M.reads = m.reads
  wr : M.writes = m.writes
  ch : M.chance = m.chance
theorem changed_mod {α : Type} (l : List α) (i : Nat) (f : α → α) : Sd39.changed l i f = l.modify i f := by
  apply List.ext_getElem?
  intro j
  unfold Sd39.changed
  rw [List.getElem?_map, List.getElem?_zipIdx, List.getElem?_modify]
  cases e : l[j]? with
  | none => simp
  | some x =>
    simp only [Option.map_some, Nat.zero_add]
    by_cases h : j = i
    · subst h; simp
    · have h' : ¬ i = j := fun q => h q.symm
      simp [h, h']
theorem MemRel.at_ {m : MMem} {M : Sd39.Mem} (R : MemRel m M) {i : Nat} {c : MCache} (hc : m.caches[i]? = some c) : ∃ l, M.levels[i]? = some l ∧ LevRel c l := by
  have hi : i < M.levels.length := by rw [R.len]; exact (List.getElem?_eq_some_iff.mp hc).1
  exact ⟨_, List.getElem?_eq_getElem hi, R.lv i c _ hc (List.getElem?_eq_getElem hi)⟩
theorem MemRel.mod {m : MMem} {M : Sd39.Mem} (R : MemRel m M) {i : Nat} {f : MCache → MCache} {g : Sd39.Level → Sd39.Level} (h : ∀ c l, m.caches[i]? = some c → M.levels[i]? = some l → LevRel c l → LevRel (f c) (g l)) : MemRel (m.modC i f) { M with levels := Sd39.changed M.levels i g } := by
  refine ⟨?_, fun j c l hc hl => ?_, R.rd, R.wr, R.ch⟩
  · show (Sd39.changed M.levels i g).length = _
    rw [changed_mod, List.length_modify, modC_len]; exact R.len
  · obtain ⟨c0, h0, e0⟩ := get_modC hc
    have hl : (Sd39.changed M.levels i g)[j]? = some l := hl
    rw [changed_mod] at hl
    obtain ⟨l0, k0, d0⟩ := get_mod_ hl
    by_cases z : i = j
    · subst z
      rw [if_pos rfl] at e0 d0
      rw [e0, d0]; exact h c0 l0 h0 k0 (R.lv _ _ _ h0 k0)
    · rw [if_neg z] at e0 d0
      rw [e0, d0]; exact R.lv _ _ _ h0 k0
theorem MemRel.put {m : MMem} {M : Sd39.Mem} (R : MemRel m M) {i k : Nat} {c : MCache} {s : MSet} (hc : m.caches[i]? = some c) (hs : c.sets[k]? = some s) {f : MCache → MSet → MSet} {z : Sd39.Set_} (S : SetRel c.sets.length k c.policy (f c s) z) : MemRel (m.modS i k f) (Sd39.putSet M i k z) := by
  refine R.mod fun c' l hc' hl L => ?_
  rw [hc] at hc'
  cases hc'
  refine ⟨L.ways, L.pol, L.bits, L.thr, L.nxt, (List.length_modify ..).trans L.sl, ?_, L.p2, fun k' s' z' hs' hz' => ?_, L.cnt⟩
  · show (l.sets.set k z).length = (c.sets.modify k (f c)).length
    rw [List.length_set, List.length_modify]; exact L.sl'
  · have ln : (c.sets.modify k (f c)).length = c.sets.length := List.length_modify ..
    show SetRel (c.sets.modify k (f c)).length k' c.policy s' z'
    rw [ln]
    obtain ⟨s0, hs0, es⟩ := get_mod_ (show (c.sets.modify k (f c))[k']? = some s' from hs')
    have hz' : (l.sets.set k z)[k']? = some z' := hz'
    by_cases y : k = k'
    · subst y
      rw [if_pos rfl] at es
      rw [hs] at hs0
      cases hs0
      rw [List.getElem?_set_self (by rw [L.sl']; exact (List.getElem?_eq_some_iff.mp hs).1)] at hz'
      cases hz'
      rw [es]; exact S
    · rw [if_neg y] at es
      rw [List.getElem?_set_ne y] at hz'
      rw [es]; exact L.st k' s0 z' hs0 hz'
theorem MemRel.cnt {m : MMem} {M : Sd39.Mem} (R : MemRel m M) {i : Nat} {f : MCache → MCache} {g : Sd39.Counts → Sd39.Counts} (h : ∀ c l, LevRel c l → LevRel (f c) { l with counts := g l.counts }) : MemRel (m.modC i f) (Sd39.count M i g) := R.mod fun c l _ _ L => h c l L
theorem LevRel.set_at {c : MCache} {l : Sd39.Level} (L : LevRel c l) (h0 : 0 < c.sets.length) (a : Nat) : ∃ s, c.sets[a / 2 ^ c.bits % c.sets.length]? = some s ∧ Sd39.setOf l.cache a = a / 2 ^ c.bits % c.sets.length ∧ l.sets[a / 2 ^ c.bits % c.sets.length]? = some (l.sets.getD (Sd39.setOf l.cache a) (Sd39.emptySet l.cache.ways)) ∧ SetRel c.sets.length (a / 2 ^ c.bits % c.sets.length) c.policy s (l.sets.getD (Sd39.setOf l.cache a) (Sd39.emptySet l.cache.ways)) := by
  have hk := Nat.mod_lt (a / 2 ^ c.bits) h0
  have e : Sd39.setOf l.cache a = a / 2 ^ c.bits % c.sets.length := by unfold Sd39.setOf; rw [← L.bits, ← L.sl]
  have hl : a / 2 ^ c.bits % c.sets.length < l.sets.length := by rw [L.sl']; exact hk
  have ez : l.sets[a / 2 ^ c.bits % c.sets.length]? = some (l.sets.getD (Sd39.setOf l.cache a) (Sd39.emptySet l.cache.ways)) := by
    rw [e, List.getD_eq_getElem?_getD, List.getElem?_eq_getElem hl]; rfl
  exact ⟨_, List.getElem?_eq_getElem hk, e, ez, L.st _ _ _ (List.getElem?_eq_getElem hk) ez⟩
theorem LevRel.tag {c : MCache} {l : Sd39.Level} (L : LevRel c l) (a : Nat) : Sd39.tagOf l.cache a = a / 2 ^ c.bits / c.sets.length := by
  unfold Sd39.tagOf
  rw [Nat.pow_add, ← Nat.div_div_eq_div_mul, ← L.bits, ← L.sl]
theorem LevRel.look {c : MCache} {l : Sd39.Level} (L : LevRel c l) {a : Nat} {s : MSet} {z : Sd39.Set_} (R : SetRel c.sets.length (a / 2 ^ c.bits % c.sets.length) c.policy s z) :
    Sd39.lookIn l.cache z a = if ((a / 2 ^ c.bits : Nat) : Int) ∈ s.lines then some (s.lines.idxOf ((a / 2 ^ c.bits : Nat) : Int)) else none := by
  unfold Sd39.lookIn
  refine R.look rfl fun w => ?_
  cases w with
  | none => rfl
  | some w => show (w.tag == Sd39.tagOf l.cache a) = _; rw [L.tag]
def Kept (n : Nat) (m m' : MMem) : Prop := ∀ j : Nat, j < n → m'.caches[j]? = m.caches[j]?
theorem Kept.refl (n : Nat) (m : MMem) : Kept n m m := fun _ _ => rfl
theorem Kept.trans {n : Nat} {a b c : MMem} (h : Kept n a b) (g : Kept n b c) : Kept n a c := fun j hj => (g j hj).trans (h j hj)
theorem Kept.modC {n i : Nat} {m : MMem} {f : MCache → MCache} (h : n ≤ i) : Kept n m (m.modC i f) := fun j hj => modC_ne (by omega)
theorem Kept.modS {n i k : Nat} {m : MMem} {f : MCache → MSet → MSet} (h : n ≤ i) : Kept n m (m.modS i k f) := Kept.modC h
theorem Kept.mono {n n' : Nat} {a b : MMem} (h : Kept n a b) (g : n' ≤ n) : Kept n' a b := fun j hj => h j (by omega)
def AccK (acc : Acc) : Prop := ∀ i a w m, 2 ≤ i → Kept i m (acc i a w m)
theorem behind_gt {i : Nat} : i < Sd39.behind i ∧ 2 ≤ Sd39.behind i := by
  unfold Sd39.behind
  split <;> omega
theorem kept_at {n : Nat} {m : MMem} {i line : Nat} {f : MCache → Nat → MSet → MMem} (h : ∀ c k s, Kept n m (f c k s)) : Kept n m (m.at i line f) := by
  unfold MMem.at
  split
  · exact Kept.refl n m
  · split
    · exact Kept.refl n m
    · exact h _ _ _
theorem fill_kept {acc : Acc} (A : AccK acc) {i line : Nat} {mk : Bool} {m : MMem} {n : Nat} (hn : n ≤ i) : Kept n m (fillLine acc i line mk m) := by
  refine kept_at fun c k s => ?_
  have hb := @behind_gt i
  have k1 : ∀ {a : Nat} {w : Bool} {m' : MMem}, Kept n m m' → Kept n m (acc (Sd39.behind i) a w m') := fun {a w m'} h => h.trans ((A _ a w m' hb.2).mono (by omega))
  refine Kept.trans (k1 ?_) (Kept.modS hn)
  split
  · exact k1 (Kept.trans (b := { m with chance := (wayToFill c.policy s m.chance).2 }) (fun _ _ => rfl) (Kept.modC hn))
  · exact fun _ _ => rfl
theorem fetch_kept {acc : Acc} (A : AccK acc) {i line : Nat} {m : MMem} {n : Nat} (hn : n ≤ i) : Kept n m (fetchAhead acc i line m) := by
  refine kept_at fun c k s => ?_
  split
  · exact Kept.refl n m
  · exact (Kept.modC hn).trans (fill_kept A hn)
theorem fillAhead_kept {acc : Acc} (A : AccK acc) {i line : Nat} {mk : Bool} {m : MMem} {n : Nat} (hn : n ≤ i) : Kept n m (fillAhead acc i line mk m) := by
  unfold fillAhead
  split
  · exact Kept.refl n m
  · split
    · exact (fill_kept A hn).trans (fetch_kept A hn)
    · exact fill_kept A hn
theorem access_kept : ∀ d, AccK (access d)
  | 0 => fun _ _ _ m _ => Kept.refl _ m
  | d + 1 => fun i a w m h2 => by
    have A := access_kept d
    have hb := @behind_gt i
    show Kept i m (accStep (access d) i a w m)
    unfold accStep
    split
    · split
      · exact fun _ _ => rfl
      · exact fun _ _ => rfl
    · split
      · refine kept_at fun c k s => ?_
        have k1 : ∀ {a : Nat} {w : Bool} {m' : MMem}, Kept i m m' → Kept i m (access d (Sd39.behind i) a w m') := fun {a w m'} h => h.trans ((A _ a w m' hb.2).mono (by omega))
        split
        · have kk : ∀ {f : MCache → MCache} {g : MCache → MSet → MSet}, Kept i m ((m.modC i f).modS i k g) := (Kept.modC (Nat.le_refl i)).trans (Kept.modS (Nat.le_refl i))
          show Kept i m (if c.through = true then _ else _)
          split
          · exact k1 kk
          · exact kk.trans (Kept.modS (Nat.le_refl i))
        · show Kept i m (if c.through = true then _ else _)
          split
          · exact k1 (Kept.modC (Nat.le_refl i))
          · exact (Kept.modC (Nat.le_refl i)).trans (fillAhead_kept A (Nat.le_refl i))
      · refine kept_at fun c k s => ?_
        split
        · exact (Kept.modC (Nat.le_refl i)).trans (Kept.modS (Nat.le_refl i))
        · exact (Kept.modC (Nat.le_refl i)).trans (fillAhead_kept A (Nat.le_refl i))
def Mono (m : MMem) : Prop := ∀ (i : Nat) (c c' : MCache), m.caches[i]? = some c → m.caches[Sd39.behind i]? = some c' → c.bits ≤ c'.bits
theorem Mono.shape {m m' : MMem} (h : Mono m) (s : Shape m m') : Mono m' := fun i c c' hc hc' => by
  obtain ⟨d, hd, sd⟩ := s.back hc
  obtain ⟨d', hd', sd'⟩ := s.back hc'
  rw [sd.2.2.1, sd'.2.2.1]
  exact h i d d' hd hd'
theorem div_behind {a b b' : Nat} (h : b ≤ b') : a / 2 ^ b * 2 ^ b / 2 ^ b' = a / 2 ^ b' := by
  obtain ⟨d, rfl⟩ : ∃ d, b' = b + d := ⟨b' - b, by omega⟩
  rw [Nat.pow_add, ← Nat.div_div_eq_div_mul, ← Nat.div_div_eq_div_mul, Nat.mul_div_cancel _ (Nat.two_pow_pos b)]
end CG
namespace CG
structure PreR (m : MMem) (M : Sd39.Mem) : Prop where
  R : MemRel m M
  O : MemOk m
  mo : Mono m
  n2 : 2 ≤ m.caches.length
theorem PreR.to {m m' : MMem} {M M' : Sd39.Mem} (P : PreR m M) (R : MemRel m' M') (g : Good m m') : PreR m' M' := ⟨R, g.1, P.mo.shape g.2, by rw [g.2.len]; exact P.n2⟩
def AccRel (d : Nat) : Prop := ∀ (f i a a' : Nat) (w : Bool) (m : MMem) (M : Sd39.Mem), PreR m M → rank m.caches.length i ≤ d → 3 * d ≤ f → a' < 2 ^ 48 → (∀ c, m.caches[i]? = some c → a / 2 ^ c.bits = a' / 2 ^ c.bits) → MemRel (access d i a' w m) (Sd39.access f i a w M)
theorem at_eq2 {m : MMem} {i line : Nat} {c : MCache} {s : MSet} {f : MCache → Nat → MSet → MMem} (hc : m.caches[i]? = some c) (hs : c.sets[line % c.sets.length]? = some s) : m.at i line f = f c (line % c.sets.length) s := by
  unfold MMem.at
  simp only [hc, hs]
theorem good_ch {m : MMem} (h : MemOk m) (x : Nat) : Good m ({ m with chance := x } : MMem) := ⟨h, ⟨rfl, fun i c h => ⟨c, h, same.refl c⟩⟩⟩
theorem good_cnt {m : MMem} (h : MemOk m) {i : Nat} {f : MCache → MCache} (hf : ∀ c, same c (f c) ∧ (f c).sets = c.sets) : Good m (m.modC i f) := ⟨h.count hf, Shape.modC fun c => (hf c).1⟩
def specAway (f i : Nat) (c : Sd39.Cache) (k : Nat) (o : Option Sd39.Way) (M : Sd39.Mem) : Sd39.Mem := match o with
  | some old => if old.dirty = true then Sd39.access f (Sd39.behind i) (Sd39.addressOf c old.tag k) true (Sd39.count M i fun n => { n with away := n.away + 1 }) else M
  | none => M
theorem fill_spec {f i a : Nat} {w : Bool} {M : Sd39.Mem} {l : Sd39.Level} (h : M.levels[i]? = some l) : Sd39.fill (f + 1) i a w M =
    (let z := l.sets.getD (Sd39.setOf l.cache a) (Sd39.emptySet l.cache.ways)
     let v := Sd39.victim l.cache z M.chance
     Sd39.putSet (Sd39.access f (Sd39.behind i) a false (specAway f i l.cache (Sd39.setOf l.cache a) ((z.ways[v.1]?).getD none) { M with chance := v.2 })) i (Sd39.setOf l.cache a) (Sd39.used l.cache { z with ways := z.ways.set v.1 (some ⟨Sd39.tagOf l.cache a, w⟩) } v.1 true)) := by
  rw [Sd39.fill]
  simp only [h]
  unfold specAway
  cases ((l.sets.getD (Sd39.setOf l.cache a) (Sd39.emptySet l.cache.ways)).ways[(Sd39.victim l.cache (l.sets.getD (Sd39.setOf l.cache a) (Sd39.emptySet l.cache.ways)) M.chance).1]?).getD none <;> rfl
theorem fill_rel {d : Nat} (A : AccRel d) {f i a line : Nat} {w : Bool} {m : MMem} {M : Sd39.Mem} {c : MCache} (P : PreR m M) (hc : m.caches[i]? = some c) (hr : rank m.caches.length i ≤ d + 1) (hf : 3 * d ≤ f) (hl : a / 2 ^ c.bits = line) (hb : line * 2 ^ c.bits < 2 ^ 48) :
    MemRel (fillLine (access d) i line w m) (Sd39.fill (f + 1) i a w M) := by
  obtain ⟨l, hlv, L⟩ := P.R.at_ hc
  have oc := P.O i c hc
  obtain ⟨s, hs, ek, ez, SR⟩ := L.set_at oc.s0 a
  rw [hl] at hs ek ez SR
  have os := oc.st _ _ hs
  have hi : i < m.caches.length := (List.getElem?_eq_some_iff.mp hc).1
  have hrb := rank_behind P.n2 hi
  unfold fillLine
  rw [at_eq2 hc hs, fill_spec hlv]
  simp only
  rw [ek] at ez SR ⊢
  generalize hz : l.sets.getD (line % c.sets.length) (Sd39.emptySet l.cache.ways) = z at ez SR ⊢
  rw [P.R.ch, SR.victim os l.cache L.ways.symm L.pol.symm L.p2 m.chance]
  have hv := os.way_lt oc.w0 c.policy m.chance
  generalize wayToFill c.policy s m.chance = v at hv ⊢
  have R1 : MemRel ({ m with chance := v.2 } : MMem) { M with chance := v.2 } := ⟨P.R.len, P.R.lv, P.R.rd, P.R.wr, rfl⟩
  have g1 := good_ch P.O v.2
  have hvl : v.1 < s.lines.length := by rw [os.ll]; exact hv
  have step2 : ∃ c2, MemRel (if s.marked.getD v.1 false = true then access d (Sd39.behind i) ((s.lines.getD v.1 0).toNat * 2 ^ c.bits) true (({ m with chance := v.2 } : MMem).modC i fun c => { c with pa := c.pa + 1 }) else { m with chance := v.2 })
      (specAway f i l.cache (line % c.sets.length) ((z.ways[v.1]?).getD none) { M with chance := v.2 }) ∧ Good m (if s.marked.getD v.1 false = true then access d (Sd39.behind i) ((s.lines.getD v.1 0).toNat * 2 ^ c.bits) true (({ m with chance := v.2 } : MMem).modC i fun c => { c with pa := c.pa + 1 }) else { m with chance := v.2 }) ∧
      (if s.marked.getD v.1 false = true then access d (Sd39.behind i) ((s.lines.getD v.1 0).toNat * 2 ^ c.bits) true (({ m with chance := v.2 } : MMem).modC i fun c => { c with pa := c.pa + 1 }) else { m with chance := v.2 }).caches[i]? = some c2 ∧ c2.sets = c.sets ∧ c2.policy = c.policy ∧ c2.bits = c.bits := by
    rcases SR.wy v.1 hvl with ⟨e1, e2⟩ | ⟨n, b, e1, e2, e3, e4⟩
    · have e5 : s.marked.getD v.1 false = false := by
        rcases os.ln v.1 _ e1 with ⟨_, q⟩ | ⟨n, q, _⟩
        · rw [List.getD_eq_getElem?_getD, q]; rfl
        · omega
      rw [e2, e5, if_neg Bool.false_ne_true]
      exact ⟨c, R1, g1, hc, rfl, rfl, rfl⟩
    · have e5 : s.marked.getD v.1 false = b := by rw [List.getD_eq_getElem?_getD, e2]; rfl
      rw [e4, e5]
      show ∃ c2, MemRel _ (if b = true then Sd39.access f (Sd39.behind i) (Sd39.addressOf l.cache (n / c.sets.length) (line % c.sets.length)) true (Sd39.count { M with chance := v.2 } i fun n => { n with away := n.away + 1 }) else { M with chance := v.2 }) ∧ _
      cases b with
      | false =>
        rw [if_neg Bool.false_ne_true, if_neg Bool.false_ne_true]
        exact ⟨c, R1, g1, hc, rfl, rfl, rfl⟩
      | true =>
        rw [if_pos rfl, if_pos rfl]
        have hnb : n * 2 ^ c.bits < 2 ^ 48 := by
          rcases os.ln v.1 _ e1 with ⟨q, _⟩ | ⟨n', q, h⟩
          · omega
          · have : n = n' := by omega
            rw [this]; exact h
        have ea : Sd39.addressOf l.cache (n / c.sets.length) (line % c.sets.length) = n * 2 ^ c.bits := by
          unfold Sd39.addressOf
          rw [← L.bits, ← L.sl, ← e3, Nat.mul_comm (n / c.sets.length), Nat.div_add_mod]
        have el : (s.lines.getD v.1 0).toNat * 2 ^ c.bits = n * 2 ^ c.bits := by rw [List.getD_eq_getElem?_getD, e1]; rfl
        rw [ea, el]
        have R2 : MemRel (({ m with chance := v.2 } : MMem).modC i fun c => { c with pa := c.pa + 1 }) (Sd39.count { M with chance := v.2 } i fun n => { n with away := n.away + 1 }) := R1.cnt fun c l L => ⟨L.ways, L.pol, L.bits, L.thr, L.nxt, L.sl, L.sl', L.p2, L.st, by show ({ l.counts with away := l.counts.away + 1 } : Sd39.Counts) = _; rw [L.cnt]⟩
        have g2 : Good m (({ m with chance := v.2 } : MMem).modC i fun c => { c with pa := c.pa + 1 }) := g1.trans (good_cnt g1.1 fun c => ⟨⟨rfl, rfl, rfl, rfl, rfl, rfl⟩, rfl⟩)
        have P2 := P.to R2 g2
        refine ⟨{ c with pa := c.pa + 1 }, A f _ _ _ true _ _ P2 (by rw [g2.2.len]; omega) hf hnb fun _ _ => rfl, g2.trans (access_ok d _ _ _ _ g2.1 hnb), ?_, rfl, rfl, rfl⟩
        rw [access_kept d _ _ _ _ behind_gt.2 i behind_gt.1]
        exact modC_get hc
  obtain ⟨c2, R2, g2, hc2, es2, ep2, eb2⟩ := step2
  generalize (if s.marked.getD v.1 false = true then access d (Sd39.behind i) ((s.lines.getD v.1 0).toNat * 2 ^ c.bits) true (({ m with chance := v.2 } : MMem).modC i fun c => { c with pa := c.pa + 1 }) else { m with chance := v.2 }) = m2 at R2 g2 hc2 ⊢
  generalize (specAway f i l.cache (line % c.sets.length) ((z.ways[v.1]?).getD none) { M with chance := v.2 }) = M2 at R2 ⊢
  have P2 := P.to R2 g2
  have R3 : MemRel (access d (Sd39.behind i) (line * 2 ^ c.bits) false m2) (Sd39.access f (Sd39.behind i) a false M2) := A f _ _ _ false _ _ P2 (by rw [g2.2.len]; omega) hf hb fun c' hc' => by
    have := P2.mo i c2 c' hc2 hc'
    rw [eb2] at this
    rw [← hl, div_behind this]
  have hc3 : (access d (Sd39.behind i) (line * 2 ^ c.bits) false m2).caches[i]? = some c2 := by
    rw [access_kept d _ _ _ _ behind_gt.2 i behind_gt.1]; exact hc2
  refine R3.put (c := c2) (s := s) hc3 (by rw [es2]; exact hs) ?_
  rw [es2, ep2, L.tag, hl]
  exact SR.fillS os l.cache L.ways.symm L.pol.symm L.p2 hv rfl w
end CG
namespace CG
theorem le48 {a b : Nat} (hb : b ≤ 7) : 2 ^ 48 ≤ a ↔ 2 ^ 48 ≤ a / 2 ^ b * 2 ^ b := by
  have e : (2 : Nat) ^ 48 = 2 ^ (48 - b) * 2 ^ b := by rw [← Nat.pow_add]; congr 1; omega
  rw [e]
  constructor
  · intro h
    exact Nat.mul_le_mul_right _ ((Nat.le_div_iff_mul_le (Nat.two_pow_pos b)).mpr h)
  · intro h
    exact Nat.le_trans h (Nat.div_mul_le_self _ _)
theorem ahead_rel {d : Nat} (A : AccRel d) {f i a line : Nat} {m : MMem} {M : Sd39.Mem} {c : MCache} (P : PreR m M) (hc : m.caches[i]? = some c) (hr : rank m.caches.length i ≤ d + 1) (hf : 3 * d ≤ f) (hl : a / 2 ^ c.bits = line) :
    MemRel (fetchAhead (access d) i line m) (Sd39.ahead (f + 2) i a M) := by
  obtain ⟨l, hlv, L⟩ := P.R.at_ hc
  have oc := P.O i c hc
  obtain ⟨s, hs, ek, ez, SR⟩ := L.set_at oc.s0 a
  have lk := L.look SR
  rw [hl] at hs ek ez SR lk
  unfold fetchAhead
  rw [at_eq2 hc hs, Sd39.ahead]
  simp only [hlv]
  rw [lk]
  have e48 : 2 ^ 48 ≤ a ↔ 2 ^ 48 ≤ line * 2 ^ c.bits := by rw [← hl]; exact le48 oc.b
  have e1 : (2 ^ 48 ≤ a ∨ (if (line : Int) ∈ s.lines then some (s.lines.idxOf (line : Int)) else none).isSome = true) ↔ (2 ^ 48 ≤ line * 2 ^ c.bits ∨ (line : Int) ∈ s.lines) := by
    rw [e48]
    refine or_congr Iff.rfl ?_
    by_cases h : (line : Int) ∈ s.lines
    · rw [if_pos h]; exact ⟨fun _ => h, fun _ => rfl⟩
    · rw [if_neg h]; exact ⟨fun q => absurd q (by decide), fun q => absurd q h⟩
  by_cases h : 2 ^ 48 ≤ line * 2 ^ c.bits ∨ (line : Int) ∈ s.lines
  · rw [if_pos h, if_pos (e1.mpr h)]; exact P.R
  · rw [if_neg h, if_neg (fun q => h (e1.mp q))]
    have R2 : MemRel (m.modC i fun c => { c with fa := c.fa + 1 }) (Sd39.count M i fun n => { n with ahead := n.ahead + 1 }) := P.R.cnt fun c l L => ⟨L.ways, L.pol, L.bits, L.thr, L.nxt, L.sl, L.sl', L.p2, L.st, by show ({ l.counts with ahead := l.counts.ahead + 1 } : Sd39.Counts) = _; rw [L.cnt]⟩
    have g2 : Good m (m.modC i fun c => { c with fa := c.fa + 1 }) := good_cnt P.O fun c => ⟨⟨rfl, rfl, rfl, rfl, rfl, rfl⟩, rfl⟩
    exact fill_rel A (P.to R2 g2) (modC_get hc) (by rw [g2.2.len]; exact hr) hf hl (by show line * 2 ^ c.bits < 2 ^ 48; omega)
theorem fillAhead_rel {d : Nat} (A : AccRel d) {f i a line : Nat} {w : Bool} {m : MMem} {M : Sd39.Mem} {c : MCache} {l : Sd39.Level} (P : PreR m M) (hc : m.caches[i]? = some c) (eN : c.next = l.cache.next) (eB : c.bits = l.cache.line) (hr : rank m.caches.length i ≤ d + 1) (hf : 3 * d ≤ f) (hl : a / 2 ^ c.bits = line) (hb : line * 2 ^ c.bits < 2 ^ 48) :
    MemRel (fillAhead (access d) i line w m) (if l.cache.next = true then Sd39.ahead (f + 2) i (a + 2 ^ l.cache.line) (Sd39.fill (f + 2) i a w M) else Sd39.fill (f + 2) i a w M) := by
  have F := fill_rel A (f := f + 1) (w := w) P hc hr (by omega) hl hb
  have g := fill_good (access_ok d) P.O (i := i) (line := line) (mk := w) fun c' hc' => by rw [hc] at hc'; cases hc'; exact hb
  unfold fillAhead
  simp only [hc]
  rw [← eN]
  by_cases h : c.next = true
  · rw [if_pos h, if_pos h]
    obtain ⟨c2, hc2, sm⟩ := g.2.at_ i c hc
    refine ahead_rel A (P.to F g) hc2 (by rw [g.2.len]; exact hr) hf ?_
    rw [sm.2.2.1, ← eB, Nat.add_div_right _ (Nat.two_pow_pos _), hl]
  · rw [if_neg h, if_neg h]; exact F
theorem use_lines (p : Nat) (s : MSet) (x : Int) : (useLine p s x).lines = s.lines := by
  unfold useLine useWay putLast turnTree
  split
  · rfl
  · split <;> rfl
theorem modCS {m : MMem} {i k : Nat} {f : MCache → MCache} {g : MCache → MSet → MSet} (h : ∀ c, ({ f c with sets := (f c).sets.modify k (g (f c)) } : MCache) = f { c with sets := c.sets.modify k (g c) }) : (m.modC i f).modS i k g = (m.modS i k g).modC i f := by
  unfold MMem.modS MMem.modC
  simp only [List.modify_modify_eq]
  congr 2
  funext c
  exact h c
theorem modSS {m : MMem} {i k : Nat} {g h : MCache → MSet → MSet} (hg : ∀ c x s, h { c with sets := x } s = h c s) : (m.modS i k g).modS i k h = m.modS i k fun c s => h c (g c s) := by
  unfold MMem.modS MMem.modC
  simp only [List.modify_modify_eq]
  congr 2
  funext c
  show ({ c with sets := (c.sets.modify k (g c)).modify k (h { c with sets := c.sets.modify k (g c) }) } : MCache) = _
  rw [List.modify_modify_eq]
  congr 2
  funext s
  exact hg _ _ _
theorem access_rel : ∀ d, AccRel d
  | 0 => fun f i a a' w m M P hr _ _ _ => absurd (rank_pos m.caches.length i P.n2) (by omega)
  | d + 1 => fun f i a a' w m M P hr hf ha' hl => by
    have A := access_rel d
    obtain ⟨f, rfl⟩ : ∃ g, f = g + 3 := ⟨f - 3, by omega⟩
    show MemRel (accStep (access d) i a' w m) _
    unfold accStep
    cases hc : m.caches[i]? with
    | none =>
      have hn : M.levels[i]? = none := List.getElem?_eq_none (by rw [P.R.len]; exact List.getElem?_eq_none_iff.mp hc)
      rw [Sd39.access]
      simp only [hn]
      cases w with
      | true =>
        rw [if_pos rfl, if_pos rfl]
        exact ⟨P.R.len, P.R.lv, P.R.rd, congrArg (· + 1) P.R.wr, P.R.ch⟩
      | false =>
        rw [if_neg Bool.false_ne_true, if_neg Bool.false_ne_true]
        exact ⟨P.R.len, P.R.lv, congrArg (· + 1) P.R.rd, P.R.wr, P.R.ch⟩
    | some c =>
      obtain ⟨l, hlv, L⟩ := P.R.at_ hc
      have oc := P.O i c hc
      have hll := hl c hc
      obtain ⟨line, hline⟩ : ∃ line, line = a' / 2 ^ c.bits := ⟨_, rfl⟩
      have hla : a / 2 ^ c.bits = line := hll.trans hline.symm
      have hb : line * 2 ^ c.bits < 2 ^ 48 := by rw [hline]; exact Nat.lt_of_le_of_lt (div_line _ _) ha'
      obtain ⟨s, hs, ek, ez, SR⟩ := L.set_at oc.s0 a
      have lk := L.look SR
      rw [hla] at hs ek ez SR lk
      have os := oc.st _ _ hs
      have hi : i < m.caches.length := (List.getElem?_eq_some_iff.mp hc).1
      have hrb := rank_behind P.n2 hi
      have beh : ∀ {m2 : MMem} {M2 : Sd39.Mem} {c2 : MCache}, MemRel m2 M2 → Good m m2 → m2.caches[i]? = some c2 → c2.bits = c.bits → MemRel (access d (Sd39.behind i) (line * 2 ^ c.bits) true m2) (Sd39.access (f + 2) (Sd39.behind i) a true M2) := fun {m2 M2 c2} R2 g2 hc2 eb2 => by
        have P2 := P.to R2 g2
        refine A (f + 2) _ _ _ true _ _ P2 (by rw [g2.2.len]; omega) (by omega) hb fun c' hc' => ?_
        have := P2.mo i c2 c' hc2 hc'
        rw [eb2] at this
        rw [← hla, div_behind this]
      rw [Sd39.access]
      simp only [hlv]
      rw [lk]
      rw [ek] at ez SR ⊢
      generalize hz : l.sets.getD (line % c.sets.length) (Sd39.emptySet l.cache.ways) = z at ez SR ⊢
      rw [← hline]
      have um := fun (hm : (line : Int) ∈ s.lines) => SR.use os l.cache L.ways.symm L.pol.symm L.p2 (j := s.lines.idxOf (line : Int)) (by rw [← os.ll]; exact idx_lt hm)
      cases w with
      | false =>
        rw [if_neg Bool.false_ne_true]
        unfold readLine
        rw [at_eq2 hc hs]
        by_cases hm : (line : Int) ∈ s.lines
        · rw [if_pos hm, if_pos hm, modCS (fun _ => rfl)]
          simp only [Bool.false_eq_true, false_and, if_false]
          refine (P.R.put hc hs (f := fun c s => useLine c.policy s line) (um hm)).cnt fun c l L => ⟨L.ways, L.pol, L.bits, L.thr, L.nxt, L.sl, L.sl', L.p2, L.st, by show ({ l.counts with readHits := l.counts.readHits + 1 } : Sd39.Counts) = _; rw [L.cnt]⟩
        · rw [if_neg hm, if_neg hm]
          simp only [Bool.false_eq_true, false_and, if_false]
          have R2 : MemRel (m.modC i fun c => { c with rm := c.rm + 1 }) (Sd39.count M i fun n => { n with readMisses := n.readMisses + 1 }) := P.R.cnt fun c l L => ⟨L.ways, L.pol, L.bits, L.thr, L.nxt, L.sl, L.sl', L.p2, L.st, by show ({ l.counts with readMisses := l.counts.readMisses + 1 } : Sd39.Counts) = _; rw [L.cnt]⟩
          have g2 : Good m (m.modC i fun c => { c with rm := c.rm + 1 }) := good_cnt P.O fun c => ⟨⟨rfl, rfl, rfl, rfl, rfl, rfl⟩, rfl⟩
          exact fillAhead_rel (f := f) (l := l) A (P.to R2 g2) (modC_get hc) L.nxt L.bits (by rw [g2.2.len]; exact hr) (by omega) hla hb
      | true =>
        rw [if_pos rfl]
        unfold writeLine
        rw [at_eq2 hc hs]
        by_cases hm : (line : Int) ∈ s.lines
        · rw [if_pos hm, if_pos hm]
          simp only [true_and, if_true]
          rw [← L.thr]
          have hs1 : ∀ {f : MCache → MCache}, (f c).sets = c.sets → (f c).sets[line % c.sets.length]? = some s := fun e => by rw [e]; exact hs
          by_cases ht : c.through = true
          · have ht' : ¬ c.through = false := by rw [ht]; decide
            rw [if_pos ht, if_neg ht', if_pos ht, modCS (fun _ => rfl)]
            have R2 := (P.R.put hc hs (f := fun c s => useLine c.policy s line) (um hm)).cnt (f := fun c => { c with wf := c.wf + 1 }) (g := fun n => { n with writeHits := n.writeHits + 1 }) (i := i) fun c l L => ⟨L.ways, L.pol, L.bits, L.thr, L.nxt, L.sl, L.sl', L.p2, L.st, by show ({ l.counts with writeHits := l.counts.writeHits + 1 } : Sd39.Counts) = _; rw [L.cnt]⟩
            have gS : Good m (m.modS i (line % c.sets.length) fun c s => useLine c.policy s line) := ⟨P.O.modS fun c' s' hc' hs' oc' => by
              rw [hc] at hc'
              cases hc'
              rw [hs] at hs'
              cases hs'
              exact os.useLine _ hm, Shape.modS⟩
            have g2 := gS.trans (good_cnt (i := i) (f := fun c => { c with wf := c.wf + 1 }) gS.1 fun c => ⟨⟨rfl, rfl, rfl, rfl, rfl, rfl⟩, rfl⟩)
            exact beh R2 g2 (modC_get (modC_get hc)) rfl
          · have ht' : c.through = false := by cases h : c.through with | true => exact absurd h ht | false => rfl
            rw [if_neg ht, if_pos ht', if_neg ht, modCS (fun _ => rfl), modCS (fun _ => rfl), modSS (fun _ _ _ => rfl)]
            refine (P.R.put hc hs (f := fun c s => markLine (useLine c.policy s line) line) ?_).cnt fun c l L => ⟨L.ways, L.pol, L.bits, L.thr, L.nxt, L.sl, L.sl', L.p2, L.st, by show ({ l.counts with writeHits := l.counts.writeHits + 1 } : Sd39.Counts) = _; rw [L.cnt]⟩
            have U := um hm
            have ou := os.useLine c.policy hm
            have K := U.mark (ou.ml.trans ou.ll.symm) (line := line) (by show (line : Int) ∈ (useLine c.policy s line).lines; rw [use_lines]; exact hm) rfl
            have ei : (useWay c.policy s (s.lines.idxOf (line : Int))).lines.idxOf (line : Int) = s.lines.idxOf (line : Int) := by
              rw [show (useWay c.policy s (s.lines.idxOf (line : Int))).lines = s.lines from use_lines c.policy s line]
            rw [ei] at K
            rw [L.tag, hla]
            exact ⟨K, U.oi⟩
        · rw [if_neg hm, if_neg hm]
          simp only [true_and, if_true]
          rw [← L.thr]
          have R2 : MemRel (m.modC i fun c => { c with wm := c.wm + 1 }) (Sd39.count M i fun n => { n with writeMisses := n.writeMisses + 1 }) := P.R.cnt fun c l L => ⟨L.ways, L.pol, L.bits, L.thr, L.nxt, L.sl, L.sl', L.p2, L.st, by show ({ l.counts with writeMisses := l.counts.writeMisses + 1 } : Sd39.Counts) = _; rw [L.cnt]⟩
          have g2 : Good m (m.modC i fun c => { c with wm := c.wm + 1 }) := good_cnt P.O fun c => ⟨⟨rfl, rfl, rfl, rfl, rfl, rfl⟩, rfl⟩
          by_cases ht : c.through = true
          · rw [if_pos ht, if_pos ht]
            exact beh R2 g2 (modC_get hc) rfl
          · rw [if_neg ht, if_neg ht]
            exact fillAhead_rel (f := f) (l := l) A (P.to R2 g2) (modC_get hc) L.nxt L.bits (by rw [g2.2.len]; exact hr) (by omega) hla hb
theorem touch_rel {i a n : Nat} {w : Bool} {m : MMem} {M : Sd39.Mem} (P : PreR m M) (h4 : m.caches.length ≤ 4) (hn : 0 < n) (han : a + n ≤ 2 ^ 48) : MemRel (accBytes i a n w m) (Sd39.touch i a n w M) ∧ Good m (accBytes i a n w m) := by
  unfold accBytes Sd39.touch
  cases hc : m.caches[i]? with
  | none =>
    have hn : M.levels[i]? = none := List.getElem?_eq_none (by rw [P.R.len]; exact List.getElem?_eq_none_iff.mp hc)
    simp only [hn]
    exact ⟨P.R, P.O, Shape.refl m⟩
  | some c =>
    obtain ⟨l, hlv, L⟩ := P.R.at_ hc
    have oc := P.O i c hc
    have hi : i < m.caches.length := (List.getElem?_eq_some_iff.mp hc).1
    simp only [hlv]
    rw [← L.bits]
    have hadr : ∀ x, x < (a + n - 1) / 2 ^ c.bits + 1 - a / 2 ^ c.bits → (a / 2 ^ c.bits + x) * 2 ^ c.bits < 2 ^ 48 := fun x hx => by
      have e1 : (a / 2 ^ c.bits + x) * 2 ^ c.bits ≤ (a + n - 1) / 2 ^ c.bits * 2 ^ c.bits := Nat.mul_le_mul_right _ (by omega)
      have e2 := div_line (a + n - 1) c.bits
      omega
    have go : ∀ j, j ≤ (a + n - 1) / 2 ^ c.bits + 1 - a / 2 ^ c.bits → MemRel ((List.range j).foldl (fun m x => access 4 i ((a / 2 ^ c.bits + x) * 2 ^ c.bits) w m) m) ((List.range j).foldl (fun m k => Sd39.access Sd39.FUEL i ((a / 2 ^ c.bits + k) * 2 ^ c.bits) w m) M) ∧ Good m ((List.range j).foldl (fun m x => access 4 i ((a / 2 ^ c.bits + x) * 2 ^ c.bits) w m) m) := fun j => by
      induction j with
      | zero => exact fun _ => ⟨P.R, P.O, Shape.refl m⟩
      | succ j ih =>
        intro hj
        obtain ⟨R, g⟩ := ih (by omega)
        rw [List.range_succ, List.foldl_append, List.foldl_append]
        have hr : rank m.caches.length i ≤ 4 := by
          unfold rank
          repeat' split
          all_goals omega
        exact ⟨access_rel 4 Sd39.FUEL i _ _ w _ _ (P.to R g) (by rw [g.2.len]; exact hr) (by decide) (hadr j (by omega)) fun _ _ => rfl, g.trans (access_ok 4 _ _ _ _ g.1 (hadr j (by omega)))⟩
    exact go _ (Nat.le_refl _)
end CG
namespace CG
def freshSet (n : Nat) : MSet := ⟨List.replicate n (-1), List.replicate n false, List.range n, List.replicate n 0⟩
structure Six where
  b0 : Nat
  ways : Nat
  bits : Nat
  pol : Nat
  th : Nat
  nx : Nat
def Six.l (x : Six) : List Nat := [x.b0, x.ways, x.bits, x.pol, x.th, x.nx]
def newCache (x : Six) : MCache := ⟨x.ways, x.pol, x.bits, decide (x.th = 1), decide (x.nx = 1), List.replicate (2 ^ x.b0) (freshSet x.ways), 0, 0, 0, 0, 0, 0⟩
def mem0 (xs : List Six) : MMem := ⟨xs.map newCache, 0, 0, 0xACE1⟩
def Six.cache (x : Six) : Sd39.Cache := ⟨x.b0, x.ways, x.bits, x.pol, x.th == 1, x.nx == 1⟩
def within (ns : List Nat) (bs : List (Nat × Nat)) : Bool := (ns.zip bs).all fun x => decide (x.2.1 ≤ x.1) && decide (x.1 ≤ x.2.2)
def cacheB : List (Nat × Nat) := [(0, 12), (1, 16), (4, 7), (0, 3), (0, 1), (0, 1)]
def guessB : List (Nat × Nat) := [(0, 4), (0, 14), (0, 14), (0, 10), (0, 10), (1, 8), (0, 64)]
def Six.ok (x : Six) : Bool := within x.l cacheB && (decide (x.pol ≠ 2) || decide (x.ways ∈ [1, 2, 4, 8, 16]))
def gl (g : Sd39.Guess) : List Nat := [g.kind, g.table, g.history, g.places, g.tsets, g.tways, g.returns]
def gOk (g : Sd39.Guess) : Bool := within (gl g) guessB && (decide (g.kind ∉ [2, 4]) || decide (g.history ≤ g.table))
def LinesOk (xs : List Six) : Prop := ∀ (i j : Nat) (x y : Six), xs[i]? = some x → xs[j]? = some y → 2 ≤ i → j < i → y.bits ≤ x.bits
theorem six_ok {x : Six} : x.ok = true ↔ x.b0 ≤ 12 ∧ (1 ≤ x.ways ∧ x.ways ≤ 16) ∧ (4 ≤ x.bits ∧ x.bits ≤ 7) ∧ x.pol ≤ 3 ∧ x.th ≤ 1 ∧ x.nx ≤ 1 ∧ (x.pol = 2 → Sd39.power2 x.ways = true) := by
  unfold Six.ok within Six.l cacheB Sd39.power2
  simp only [List.zip_cons_cons, List.zip_nil_left, List.zip_nil_right, List.all_cons, List.all_nil, Bool.and_true, Bool.and_eq_true, Bool.or_eq_true, decide_eq_true_eq, List.contains_iff_mem]
  constructor
  · rintro ⟨⟨⟨_, h1⟩, h2, h3, ⟨_, h4⟩, ⟨_, h5⟩, _, h6⟩, h7⟩
    exact ⟨h1, h2, h3, h4, h5, h6, fun e => h7.resolve_left (fun q => q e)⟩
  · rintro ⟨h1, h2, h3, h4, h5, h6, h7⟩
    refine ⟨⟨⟨Nat.zero_le _, h1⟩, h2, h3, ⟨Nat.zero_le _, h4⟩, ⟨Nat.zero_le _, h5⟩, Nat.zero_le _, h6⟩, ?_⟩
    by_cases e : x.pol = 2
    · exact .inr (h7 e)
    · exact .inl e
theorem six_spec (x : Six) : (x.cache.right && (decide (x.th ≤ 1) && decide (x.nx ≤ 1))) = x.ok := by
  rw [Bool.eq_iff_iff, six_ok]
  unfold Sd39.Cache.right Six.cache
  simp only [Bool.and_eq_true, Bool.or_eq_true, decide_eq_true_eq, bne_iff_ne]
  constructor
  · rintro ⟨⟨h1, h2, h3, h4, h5, h6, h7⟩, h8, h9⟩
    exact ⟨h1, ⟨h2, h3⟩, ⟨h4, h5⟩, h6, h8, h9, fun e => h7.resolve_left (fun q => q e)⟩
  · rintro ⟨h1, ⟨h2, h3⟩, ⟨h4, h5⟩, h6, h8, h9, h7⟩
    refine ⟨⟨h1, h2, h3, h4, h5, h6, ?_⟩, h8, h9⟩
    by_cases e : x.pol = 2
    · exact .inr (h7 e)
    · exact .inl e
theorem g_ok {g : Sd39.Guess} : gOk g = true ↔ g.kind ≤ 4 ∧ g.table ≤ 14 ∧ g.history ≤ 14 ∧ g.places ≤ 10 ∧ g.tsets ≤ 10 ∧ (1 ≤ g.tways ∧ g.tways ≤ 8) ∧ g.returns ≤ 64 ∧ (g.kind = 2 ∨ g.kind = 4 → g.history ≤ g.table) := by
  unfold gOk within gl guessB
  simp only [List.zip_cons_cons, List.zip_nil_left, List.zip_nil_right, List.all_cons, List.all_nil, Bool.and_true, Bool.and_eq_true, Bool.or_eq_true, decide_eq_true_eq, List.mem_cons, List.not_mem_nil, or_false, not_or]
  constructor
  · rintro ⟨⟨⟨_, h1⟩, ⟨_, h2⟩, ⟨_, h3⟩, ⟨_, h4⟩, ⟨_, h5⟩, h6, _, h7⟩, h8⟩
    exact ⟨h1, h2, h3, h4, h5, h6, h7, fun e => h8.resolve_left (fun q => e.elim q.1 q.2)⟩
  · rintro ⟨h1, h2, h3, h4, h5, h6, h7, h8⟩
    refine ⟨⟨⟨Nat.zero_le _, h1⟩, ⟨Nat.zero_le _, h2⟩, ⟨Nat.zero_le _, h3⟩, ⟨Nat.zero_le _, h4⟩, ⟨Nat.zero_le _, h5⟩, h6, Nat.zero_le _, h7⟩, ?_⟩
    by_cases e : g.kind = 2 ∨ g.kind = 4
    · exact .inr (h8 e)
    · exact .inl (not_or.mp e)
theorem g_spec (g : Sd39.Guess) : g.right = gOk g := by
  rw [Bool.eq_iff_iff, g_ok]
  unfold Sd39.Guess.right
  simp only [Bool.and_eq_true, Bool.or_eq_true, decide_eq_true_eq, bne_iff_ne]
  constructor
  · rintro ⟨h1, h2, h3, h4, h5, h6, h7, h8, h9⟩
    exact ⟨h1, h2, h3, h4, h5, ⟨h6, h7⟩, h8, fun e => h9.resolve_left (fun q => e.elim q.1 q.2)⟩
  · rintro ⟨h1, h2, h3, h4, h5, ⟨h6, h7⟩, h8, h9⟩
    refine ⟨h1, h2, h3, h4, h5, h6, h7, h8, ?_⟩
    by_cases e : g.kind = 2 ∨ g.kind = 4
    · exact .inr (h9 e)
    · exact .inl (not_or.mp e)
theorem lines_spec {xs : List Six} (h2 : 2 ≤ xs.length) (h4 : xs.length ≤ 4) : Sd39.linesRight (xs.map Six.cache) = true ↔ LinesOk xs := by
  have hl : ∀ c : Six, c.cache.line = c.bits := fun _ => rfl
  match xs, h2, h4 with
  | [a, b], _, _ =>
    refine ⟨fun _ => ?_, fun _ => rfl⟩
    intro i j x y hi hj h2 hji
    have := (List.getElem?_eq_some_iff.mp hi).1
    simp at this
    omega
  | [a, b, c], _, _ =>
    unfold Sd39.linesRight
    simp only [List.map_cons, List.map_nil, List.foldl_cons, List.foldl_nil, Bool.true_and, decide_eq_true_eq, hl, Nat.max_le]
    constructor
    · rintro ⟨h1, h2⟩ i j x y hi hj hi2 hji
      have := (List.getElem?_eq_some_iff.mp hi).1
      simp at this
      have : i = 2 := by omega
      subst this
      cases hi
      rcases (by omega : j = 0 ∨ j = 1) with rfl | rfl <;> cases hj
      · exact h1
      · exact h2
    · intro h
      exact ⟨h 2 0 c a rfl rfl (by omega) (by omega), h 2 1 c b rfl rfl (by omega) (by omega)⟩
  | [a, b, c, d], _, _ =>
    unfold Sd39.linesRight
    simp only [List.map_cons, List.map_nil, List.foldl_cons, List.foldl_nil, Bool.true_and, Bool.and_eq_true, decide_eq_true_eq, hl, Nat.max_le]
    constructor
    · rintro ⟨⟨h1, h2⟩, h3⟩ i j x y hi hj hi2 hji
      have := (List.getElem?_eq_some_iff.mp hi).1
      simp at this
      rcases (by omega : i = 2 ∨ i = 3) with rfl | rfl
      · cases hi
        rcases (by omega : j = 0 ∨ j = 1) with rfl | rfl <;> cases hj
        · exact h1
        · exact h2
      · cases hi
        rcases (by omega : j = 0 ∨ j = 1 ∨ j = 2) with rfl | rfl | rfl <;> cases hj
        · omega
        · omega
        · exact h3
    · intro h
      exact ⟨⟨h 2 0 c a rfl rfl (by omega) (by omega), h 2 1 c b rfl rfl (by omega) (by omega)⟩, h 3 2 d c rfl rfl (by omega) (by omega)⟩
theorem freshSet_ok (n bits : Nat) : SetOk n bits (freshSet n) := by
  refine ⟨List.length_replicate .., List.length_replicate .., List.Perm.refl _, List.length_replicate .., fun x hx => by rw [List.eq_of_mem_replicate hx]; omega, fun j l hj => ?_⟩
  have hj : (List.replicate n (-1 : Int))[j]? = some l := hj
  rw [List.getElem?_replicate] at hj
  split at hj
  · rename_i h
    cases hj
    exact .inl ⟨rfl, by show (List.replicate n false)[j]? = some false; rw [List.getElem?_replicate, if_pos h]⟩
  · cases hj
theorem freshSet_rel (S k pol n : Nat) : SetRel S k pol (freshSet n) (Sd39.emptySet n) := by
  have e1 : ∀ j, j < n → (freshSet n).lines[j]? = some (-1) := fun j hj => by show (List.replicate n (-1 : Int))[j]? = _; rw [List.getElem?_replicate, if_pos hj]
  have ll : (freshSet n).lines.length = n := List.length_replicate ..
  refine ⟨⟨?_, fun j hj => ?_, ⟨List.range n, by show List.range n = List.range n ++ ([] : List Nat).reverse; simp⟩, fun j h1 h2 => ?_⟩, fun _ j hj hn => absurd (e1 j (by rw [ll] at hj; exact hj)) hn⟩
  · show (List.replicate n none).length = (List.replicate n (-1 : Int)).length
    rw [List.length_replicate, List.length_replicate]
  · rw [ll] at hj
    exact .inl ⟨e1 j hj, by show (List.replicate n none)[j]? = _; rw [List.getElem?_replicate, if_pos hj]⟩
  · rw [ll] at h2
    show (List.replicate n 0)[j]? = some (if (0 : Nat).testBit j = true then 1 else 0)
    rw [List.getElem?_replicate, if_pos h2, Nat.zero_testBit, if_neg Bool.false_ne_true]
theorem mem0_get {xs : List Six} {i : Nat} {c : MCache} (h : (mem0 xs).caches[i]? = some c) : ∃ x, xs[i]? = some x ∧ c = newCache x := by
  have h : (xs.map newCache)[i]? = some c := h
  rw [List.getElem?_map] at h
  cases e : xs[i]? with
  | none => rw [e] at h; cases h
  | some x => rw [e] at h; cases h; exact ⟨x, rfl, rfl⟩
theorem mem0_ok {xs : List Six} (h : ∀ x ∈ xs, x.ok = true) : MemOk (mem0 xs) := fun i c hc => by
  obtain ⟨x, hx, rfl⟩ := mem0_get hc
  obtain ⟨h1, h2, h3, h4, h5, h6, h7⟩ := six_ok.mp (h x (List.mem_of_getElem? hx))
  have sl : (newCache x).sets.length = 2 ^ x.b0 := List.length_replicate ..
  have p12 : 2 ^ x.b0 ≤ 2 ^ 12 := Nat.pow_le_pow_right (by omega) h1
  refine ⟨h2.1, h2.2, h3.2, h4, by rw [sl]; exact Nat.two_pow_pos _, by rw [sl]; exact p12, fun k s hs => ?_⟩
  have hs : (List.replicate (2 ^ x.b0) (freshSet x.ways))[k]? = some s := hs
  rw [List.getElem?_replicate] at hs
  split at hs
  · cases hs; exact freshSet_ok _ _
  · cases hs
theorem mem0_pre {xs : List Six} (h2 : 2 ≤ xs.length) (h4 : xs.length ≤ 4) (h : ∀ x ∈ xs, x.ok = true) (hl : LinesOk xs) : PreR (mem0 xs) ⟨(xs.map Six.cache).map Sd39.levelOf, 0, 0, 0xACE1⟩ := by
  refine ⟨⟨?_, fun i c l hc hl => ?_, rfl, rfl, rfl⟩, mem0_ok h, fun i c c' hc hc' => ?_, ?_⟩
  · show ((xs.map Six.cache).map Sd39.levelOf).length = (xs.map newCache).length
    simp
  · obtain ⟨x, hx, rfl⟩ := mem0_get hc
    have hl : ((xs.map Six.cache).map Sd39.levelOf)[i]? = some l := hl
    rw [List.getElem?_map, List.getElem?_map, hx] at hl
    cases hl
    obtain ⟨h1, h2, h3, h4, h5, h6, h7⟩ := six_ok.mp (h x (List.mem_of_getElem? hx))
    have sl : (newCache x).sets.length = 2 ^ x.b0 := List.length_replicate ..
    refine ⟨rfl, rfl, rfl, ?_, ?_, sl, ?_, h7, fun k s z hs hz => ?_, rfl⟩
    · show decide (x.th = 1) = (x.th == 1); rw [Bool.eq_iff_iff]; simp
    · show decide (x.nx = 1) = (x.nx == 1); rw [Bool.eq_iff_iff]; simp
    · rw [sl]; exact List.length_replicate ..
    · have hs : (List.replicate (2 ^ x.b0) (freshSet x.ways))[k]? = some s := hs
      have hz : (List.replicate (2 ^ x.b0) (Sd39.emptySet x.ways))[k]? = some z := hz
      rw [List.getElem?_replicate] at hs hz
      split at hs
      · rename_i hk
        rw [if_pos hk] at hz
        cases hs
        cases hz
        exact freshSet_rel _ _ _ _
      · cases hs
  · obtain ⟨x, hx, rfl⟩ := mem0_get hc
    obtain ⟨y, hy, rfl⟩ := mem0_get hc'
    exact hl _ _ y x hy hx behind_gt.2 behind_gt.1
  · show 2 ≤ (xs.map newCache).length
    rw [List.length_map]; exact h2
end CG
namespace CG
theorem row_split {l a b : List Int} (h : PyFlat.row l = some (a, b)) : l = (a.length : Int) :: (a ++ b) := by
  cases l with
  | nil => cases h
  | cons n r =>
    simp only [PyFlat.row] at h
    split at h
    · rename_i hn
      injection h with h
      injection h with h1 h2
      have : a.length = n.toNat := by rw [← h1, List.length_take]; omega
      rw [this, ← h1, ← h2, List.take_append_drop, Int.toNat_of_nonneg hn.1]
    · cases h
theorem rows1_split {l t : List Int} {xs : List (List Int)} (h : PyFlat.rows 1 l = some (xs, t)) : ∃ a, xs = [a] ∧ l = (a.length : Int) :: (a ++ t) := by
  unfold PyFlat.rows at h
  cases e : PyFlat.row l with
  | none => rw [e] at h; cases h
  | some p =>
    obtain ⟨a, b⟩ := p
    rw [e] at h
    simp only [PyFlat.rows] at h
    injection h with h
    injection h with h1 h2
    exact ⟨a, h1.symm, by rw [← h2]; exact row_split e⟩
theorem call_split {p : Int} {r t : List Int} {c : List (List Int)} (h : PyFlat.call PySd39.shape (p :: r) = some (c, t)) :
    (p = 0 ∧ ∃ (x : Int) (row : List Int), r = x :: (row.length : Int) :: (row ++ t) ∧ c = [[0, x], row]) ∨ (p = 1 ∧ ∃ row : List Int, r = (row.length : Int) :: (row ++ t) ∧ c = [[1], row]) ∨ (p = 2 ∧ r = t ∧ c = [[2]]) := by
  unfold PyFlat.call PySd39.shape at h
  by_cases h0 : p = 0
  · subst h0
    simp only [if_true] at h
    split at h
    · cases h
    · rename_i hl
      cases r with
      | nil => simp at hl
      | cons x r =>
        cases e : PyFlat.rows 1 (List.drop 1 (x :: r)) with
        | none => rw [e] at h; cases h
        | some q =>
          obtain ⟨xs, t'⟩ := q
          rw [e] at h
          simp only at h
          injection h with h
          injection h with h1 h2
          obtain ⟨a, rfl, e2⟩ := rows1_split e
          subst h2
          refine .inl ⟨rfl, x, a, ?_, h1.symm⟩
          have e2 : r = (a.length : Int) :: (a ++ t') := e2
          rw [e2]
  · by_cases h1 : p = 1
    · subst h1
      simp only [h0, if_false, if_true] at h
      split at h
      · cases h
      · cases e : PyFlat.rows 1 (List.drop 0 r) with
        | none => rw [e] at h; cases h
        | some q =>
          obtain ⟨xs, t'⟩ := q
          rw [e] at h
          simp only at h
          injection h with h
          injection h with h1 h2
          obtain ⟨a, rfl, e2⟩ := rows1_split e
          subst h2
          exact .inr (.inl ⟨rfl, a, e2, h1.symm⟩)
    · by_cases h2 : p = 2
      · subst h2
        simp only [h0, h1, if_false, if_true] at h
        split at h
        · cases h
        · simp only [PyFlat.rows] at h
          injection h with h
          injection h with h1 h2
          exact .inr (.inr ⟨rfl, h2, h1.symm⟩)
      · simp only [h0, h1, h2, if_false] at h
        cases h
theorem calls_split {f : Nat} {l : List Int} {cs : List (List (List Int))} (h : PyFlat.calls PySd39.shape f l = some cs) : (l = [] ∧ cs = []) ∨ ∃ (p : Int) (r t : List Int) (c : List (List Int)) (cs' : List (List (List Int))) (f' : Nat), l = p :: r ∧ PyFlat.call PySd39.shape (p :: r) = some (c, t) ∧ PyFlat.calls PySd39.shape f' t = some cs' ∧ cs = c :: cs' := by
  cases l with
  | nil =>
    cases f <;> (unfold PyFlat.calls at h; cases h; exact .inl ⟨rfl, rfl⟩)
  | cons p r =>
    cases f with
    | zero => unfold PyFlat.calls at h; cases h
    | succ f =>
      unfold PyFlat.calls at h
      cases e : PyFlat.call PySd39.shape (p :: r) with
      | none => rw [e] at h; cases h
      | some q =>
        obtain ⟨c, t⟩ := q
        rw [e] at h
        simp only at h
        cases e2 : PyFlat.calls PySd39.shape f t with
        | none => rw [e2] at h; cases h
        | some cs' =>
          rw [e2] at h
          simp only at h
          injection h with h
          exact .inr ⟨p, r, t, c, cs', f, rfl, e, e2, h.symm⟩
theorem nat_all {b : List Int} {k : Nat} (h : (b.all fun z => Sd39Neutral.natural z k) = true) : b = (Sd39Neutral.nats b).map (fun n : Nat => (n : Int)) ∧ ∀ x ∈ Sd39Neutral.nats b, x < 2 ^ k := by
  have h' : ∀ z ∈ b, 0 ≤ z ∧ z < 2 ^ k := fun z hz => by
    have := List.all_eq_true.mp h z hz
    unfold Sd39Neutral.natural at this
    simpa using this
  unfold Sd39Neutral.nats
  constructor
  · rw [List.map_map]
    have : b.map ((fun n : Nat => (n : Int)) ∘ Int.toNat) = b.map id := List.map_congr_left fun z hz => by
      have := h' z hz
      show ((z.toNat : Nat) : Int) = z
      omega
    rw [this, List.map_id]
  · intro x hx
    obtain ⟨z, hz, rfl⟩ := List.mem_map.mp hx
    have := h' z hz
    have e : (2 : Int) ^ k = ((2 ^ k : Nat) : Int) := by norm_cast
    rw [e] at this
    omega
def sixOf (t : List Nat) (k : Nat) : Six := ⟨t.getD (6 * k) 0, t.getD (6 * k + 1) 0, t.getD (6 * k + 2) 0, t.getD (6 * k + 3) 0, t.getD (6 * k + 4) 0, t.getD (6 * k + 5) 0⟩
def sixes (t : List Nat) (n : Nat) : List Six := (List.range n).map (sixOf t)
theorem sixes_cache (t : List Nat) (n : Nat) : (List.range n).map (Sd39.cacheOf t) = (sixes t n).map Six.cache := by
  unfold sixes
  rw [List.map_map]
  rfl
def SetOkP (n : Nat) (t : List Nat) : Prop := (∀ x ∈ sixes t n, x.ok = true) ∧ LinesOk (sixes t n) ∧ gOk (Sd39.guessOf t n) = true
theorem sixes_len (t : List Nat) (n : Nat) : (sixes t n).length = n := by unfold sixes; rw [List.length_map, List.length_range]
theorem set_spec {n : Nat} {t : List Nat} (h2 : 2 ≤ n) (h4 : n ≤ 4) :
    ((((List.range n).map (Sd39.cacheOf t)).all Sd39.Cache.right && (((List.range n).all (Sd39.flagsRight t)) && ((Sd39.guessOf t n).right && Sd39.linesRight ((List.range n).map (Sd39.cacheOf t))))) = true) ↔ SetOkP n t := by
  rw [sixes_cache, g_spec]
  unfold SetOkP
  rw [Bool.and_eq_true, Bool.and_eq_true, Bool.and_eq_true, lines_spec (by rw [sixes_len]; exact h2) (by rw [sixes_len]; exact h4)]
  have e : (((sixes t n).map Six.cache).all Sd39.Cache.right = true ∧ (List.range n).all (Sd39.flagsRight t) = true) ↔ ∀ x ∈ sixes t n, x.ok = true := by
    constructor
    · rintro ⟨h1, h2⟩ x hx
      rw [← six_spec, Bool.and_eq_true]
      obtain ⟨k, hk, rfl⟩ := List.mem_map.mp hx
      exact ⟨List.all_eq_true.mp h1 _ (List.mem_map_of_mem hx), List.all_eq_true.mp h2 k hk⟩
    · intro h
      constructor
      · refine List.all_eq_true.mpr fun c hc => ?_
        obtain ⟨x, hx, rfl⟩ := List.mem_map.mp hc
        have := h x hx
        rw [← six_spec, Bool.and_eq_true] at this
        exact this.1
      · refine List.all_eq_true.mpr fun k hk => ?_
        have := h (sixOf t k) (List.mem_map_of_mem hk)
        rw [← six_spec, Bool.and_eq_true] at this
        exact this.2
  constructor
  · rintro ⟨h1, h2, h3, h4⟩
    exact ⟨e.mp ⟨h1, h2⟩, h4, h3⟩
  · rintro ⟨h1, h2, h3⟩
    exact ⟨(e.mpr h1).1, (e.mpr h1).2, h3, h2⟩
end CG
namespace CG
open PySem PySem.Spec PyProof.Rows L2
abbrev nv (n : Nat) : V := V.int (n : Int)
theorem pgl {X : Cx} {x : Str} {i : Int} {pos : Pos} (h : CI X.mg x i) (hg : Gl X x := by rfl) (hd : (x == ("__debug__" : Str)) = false := by decide) : PE X (.Name x pos) (tC (.int i)) := by
  obtain ⟨t, h⟩ := h
  exact pe_glob hg h ⟨t, rfl⟩ hd
theorem pe_or2 {X : Cx} {e : Expr} {t u : TE} (h : PE X e t) (g : PE X e u) : PE X e (fun σ H Q => t σ H Q ∨ u σ H Q) := fun pins s σ H Q I q => q.elim (h pins s σ H Q I) (g pins s σ H Q I)
theorem ixk {X : Cx} {K : W.Frag} (h : X.K = K) : IxR X (rIxL K) := by subst h; exact ix_list
theorem ixtk {X : Cx} {K : W.Frag} (h : X.K = K) : IxR X (rIxT K) := by subst h; exact ix_tup
theorem slk {X : Cx} {K : W.Frag} (h : X.K = K) : SlR X (rSlL K) := by subst h; exact sl_list
theorem u65 {k : Nat} {A : Around} (hr : Room k A) : A.units + 65 < cLine := by have := hr.un; omega
theorem nat_xor : ∀ a b : Nat, a + b = (a ^^^ b) + 2 * (a &&& b) := by
  intro a
  induction a using Nat.strongRecOn with
  | ind a ih =>
    intro b
    by_cases h0 : a = 0
    · subst h0; simp
    · have i := ih (a / 2) (by omega) (b / 2)
      have e1 : (a ^^^ b) / 2 = a / 2 ^^^ b / 2 := Nat.xor_div_two
      have e2 : (a &&& b) / 2 = a / 2 &&& b / 2 := Nat.and_div_two
      have o1 := @Nat.xor_mod_two_eq_one a b
      have o2 := @Nat.and_mod_two_eq_one a b
      rw [← e1, ← e2] at i
      omega
theorem bitAnd_nat (a b : Nat) : Builtin.bitAnd (a : Int) (b : Int) = ((a &&& b : Nat) : Int) := by
  unfold Builtin.bitAnd
  rw [decide_eq_true (Int.natCast_nonneg a), decide_eq_true (Int.natCast_nonneg b)]
  simp only [Int.toNat_natCast]
theorem bitXor_nat (a b : Nat) : Builtin.bitXor (a : Int) (b : Int) = ((a ^^^ b : Nat) : Int) := by
  rw [bitXor_and, bitAnd_nat]
  have := nat_xor a b
  omega
theorem pow_cast (k : Nat) : (2 : Int) ^ k = ((2 ^ k : Nat) : Int) := two_pow_cast k
theorem shl_cast (a k : Nat) : (a : Int) * 2 ^ (k : Int).toNat = ((a * 2 ^ k : Nat) : Int) := by
  rw [Int.toNat_natCast, pow_cast, Int.natCast_mul]
theorem shr_cast (a k : Nat) : (a : Int) / 2 ^ (k : Int).toNat = ((a / 2 ^ k : Nat) : Int) := by
  rw [Int.toNat_natCast, pow_cast, Int.natCast_ediv]
theorem sl : sizeLine = 16777216 := by decide
theorem cpow {a k : Nat} (h : a < 2 ^ 64) (hk : k ≤ 1000) : CPow (a : Int) (k : Int) := ⟨by omega, by omega, by rw [Int.natAbs_natCast]; exact h⟩
theorem at_nv {xs : List Nat} {j x : Nat} (h : xs[j]? = some x) : atI (xs.map nv) (j : Int) = some (nv x) := atI_nat (by rw [List.getElem?_map, h]; rfl)
theorem at_nat {xs : List V} {z : Int} {j : Nat} {v : V} (e : z = (j : Int)) (h : xs[j]? = some v) : atI xs z = some v := by rw [e]; exact atI_nat h
theorem ix_nat {n j : Nat} (h : j < n) : ixN n (j : Int) = some j := by
  unfold ixN
  rw [if_pos (Int.natCast_nonneg j), if_pos (by omega), Int.toNat_natCast]
theorem map_set_nv (xs : List Nat) (j x : Nat) : (xs.map nv).set j (nv x) = (xs.set j x).map nv := by rw [List.map_set]
theorem rep_nv (n x : Nat) : (List.replicate (n : Int).toNat [nv x]).flatten = (List.replicate n x).map nv := by
  rw [Int.toNat_natCast, List.map_replicate]
  induction n with
  | zero => rfl
  | succ n ih => rw [List.replicate_succ, List.flatten_cons, ih]; rfl
theorem rep_gen {α : Type} (n : Nat) (v : α) : (List.replicate n [v]).flatten = List.replicate n v := by
  induction n with
  | zero => rfl
  | succ n ih => rw [List.replicate_succ, List.flatten_cons, ih]; rfl
theorem changed_set {α : Type} (l : List α) (i : Nat) (f : α → α) : Sd39.changed l i f = l.modify i f := by
  apply List.ext_getElem?
  intro j
  unfold Sd39.changed
  rw [List.getElem?_map, List.getElem?_zipIdx, List.getElem?_modify]
  cases e : l[j]? with
  | none => simp
  | some x =>
    simp only [Option.map_some, Nat.zero_add]
    by_cases h : j = i
    · subst h; simp
    · have h' : ¬ i = j := fun q => h q.symm
      simp [h, h']
theorem changed_eq {α : Type} {l : List α} {i : Nat} {x : α} (h : l[i]? = some x) (f : α → α) : Sd39.changed l i f = l.set i (f x) := by
  rw [changed_set]
  apply List.ext_getElem?
  intro j
  rw [List.getElem?_modify, List.getElem?_set]
  by_cases e : i = j
  · subst e
    obtain ⟨hl, he⟩ := List.getElem?_eq_some_iff.mp h
    simp [hl, he]
  · simp [e]
theorem getD_of {l : List Nat} {j d x : Nat} (h : l[j]? = some x) : l.getD j d = x := by rw [List.getD_eq_getElem?_getD, h]; rfl
theorem get_mod {l : List Nat} (h : 0 < l.length) (p : Nat) : ∃ x, l[p % l.length]? = some x := ⟨_, List.getElem?_eq_getElem (Nat.mod_lt _ h)⟩
def But (H H' : Hp) (S : List Addr) : Prop := ∀ b o, H b = some o → b ∉ S → H' b = some o
theorem But.refl {H : Hp} {S : List Addr} : But H H S := fun _ _ e _ => e
theorem But.trans {H H1 H2 : Hp} {S : List Addr} (a : But H H1 S) (b : But H1 H2 S) : But H H2 S := fun c o e n => b c o (a c o e n) n
theorem But.new {H H1 : Hp} {S : List Addr} {p : Addr} {o : HO} (a : But H H1 S) (h : H1 p = none) : But H (upd H1 p o) S := fun b u e n => by
  have q := a b u e n
  rw [upd_ne (ne_of_none q h)]; exact q
theorem But.put {H H1 : Hp} {S : List Addr} {p : Addr} {o : HO} (a : But H H1 S) (h : p ∈ S) : But H (upd H1 p o) S := fun b u e n => by
  have q := a b u e n
  rw [upd_ne (fun z => n (by rw [z]; exact h))]; exact q
theorem But.at {H H' : Hp} {S : List Addr} (a : But H H' S) {b : Addr} {o : HO} (h : H b = some o) (n : b ∉ S) : H' b = some o := a b o h n
theorem But.of_same {H H' : Hp} {S : List Addr} (a : Same H H') : But H H' S := fun b o e _ => a b o e
theorem new_ne {H : Hp} {p : Addr} {o : HO} (h : H p = none) : Same H (upd H p o) := fun b u e => by rw [upd_ne (ne_of_none e h)]; exact e
def Fresh (H : Hp) (p C : Addr) : Prop := ∃ dx, H p = some (.ins C dx [])
end CG
namespace CG
open PySem PySem.Spec PyProof.Rows L2
section
variable {X : Cx}
theorem nv_map (ns : List Nat) : ns.map nv = (ns.map fun n : Nat => (n : Int)).map V.int := by rw [List.map_map]; rfl
def rRemove : V → List V → Hp → VK → Prop := fun x vs H Q => ∃ (l : Addr) (ns : List Nat) (k : Nat), x = .ref l ∧ vs = [nv k] ∧ H l = some (.lst (ns.map nv)) ∧ k ∈ ns ∧ Q .non (upd H l (.lst ((ns.erase k).map nv)))
theorem erase_at {ns : List Nat} {k : Nat} (h : k ∈ ns) : ns.erase k = ns.eraseIdx (ns.idxOf k) := List.erase_eq_eraseIdx_of_idxOf rfl
theorem eraseIdx_map {α β : Type} (f : α → β) : ∀ (l : List α) (i : Nat), (l.map f).eraseIdx i = (l.eraseIdx i).map f
  | [], _ => rfl
  | _ :: _, 0 => rfl
  | a :: l, i + 1 => by
    show f a :: (l.map f).eraseIdx i = f a :: (l.eraseIdx i).map f
    rw [eraseIdx_map f l i]
theorem idx_min {α : Type} [BEq α] [LawfulBEq α] {ns : List α} {k : α} {m : Nat} (h : m < ns.idxOf k) (e : ns[m]? = some k) : False := by
  have q := List.not_of_lt_findIdx (p := (· == k)) (xs := ns) (i := m) h
  obtain ⟨hl, he⟩ := List.getElem?_eq_some_iff.mp e
  rw [he] at q
  simp at q
theorem mt_remove : MtM X "list.remove" rRemove := by
  intro pins s σ H x vs v us Q I rx rv h
  obtain ⟨l, ns, k, rfl, rfl, hH, hm, q⟩ := h
  cases rx
  obtain ⟨u, rfl, ru⟩ := rv.one
  obtain ⟨t, rfl⟩ := ru
  obtain ⟨z, its, n, r, hl, e⟩ := I.lstM hH
  have hia : IntsAre its (ns.map fun n : Nat => (n : Int)) := intsAre_of (by rw [← nv_map]; exact r)
  have hlen : its.length = ns.length := by rw [← hl, List.length_map]
  have val : ∀ (m : Nat) (hm : m < its.toArray.size), ∃ x, ns[m]? = some x ∧ PyProof.Rows.isInt (k : Int) its.toArray[m] = ((x : Int) == (k : Int)) := fun m hm => by
    have hmn : m < ns.length := by rw [← hlen]; simpa using hm
    obtain ⟨u, hu, ru⟩ := r.get (i := m) (x := nv ns[m]) (by rw [List.getElem?_map, List.getElem?_eq_getElem hmn]; rfl)
    obtain ⟨t', rfl⟩ := ru
    obtain ⟨_, he⟩ := List.getElem?_eq_some_iff.mp hu
    refine ⟨ns[m], List.getElem?_eq_getElem hmn, ?_⟩
    rw [List.getElem_toArray, he]
    rfl
  have hj : ns.idxOf k < its.toArray.size := by rw [List.size_toArray, hlen]; exact List.idxOf_lt_length_of_mem hm
  refine call_meets F.slot_list_remove ⟨_, e, rfl⟩ F.entry_list_remove (F.args_list_remove_2 _ _)
    (MeetsSeq.list_remove l its.toArray n (.int k t) (PyProof.Rows.isInt (k : Int)) (fun y hy => eq_isInt (k : Int) t hia y (by simpa using hy)) (ns.idxOf k) hj ?_ ?_ (by rw [List.size_toArray]; omega)) ⟨e, ?_⟩
  · obtain ⟨x, hx, ex⟩ := val _ hj
    have hx' : ns[ns.idxOf k]? = some k := by
      rw [List.getElem?_eq_getElem (List.idxOf_lt_length_of_mem hm)]
      exact congrArg some (List.getElem_idxOf (List.idxOf_lt_length_of_mem hm))
    rw [hx'] at hx
    cases hx
    rw [ex]
    exact beq_self_eq_true _
  · intro m hm1 hm2
    obtain ⟨x, hx, ex⟩ := val m hm1
    rw [ex]
    refine beq_eq_false_iff_ne.mpr fun z => ?_
    have hxk : x = k := by omega
    subst hxk
    obtain ⟨hml, he⟩ := List.getElem?_eq_some_iff.mp hx
    exact idx_min hm2 hx
  refine ⟨.non, _, I.lset (its' := its.eraseIdx (ns.idxOf k)) (ys := (ns.erase k).map nv) hH e ?_ ?_ ?_, rfl, q⟩
  · rw [List.eraseIdxIfInBounds_toArray]
  · rw [erase_at hm, ← eraseIdx_map]
    exact r.eraseIdx _
  · rw [List.length_map, List.length_erase]
    rw [List.length_map] at z
    split <;> omega
def rInsert0 : V → List V → Hp → VK → Prop := fun x vs H Q => ∃ (l : Addr) (xs : List V) (y : V), x = .ref l ∧ vs = [.int 0, y] ∧ H l = some (.lst xs) ∧ xs.length < sizeLine ∧ Q .non (upd H l (.lst (y :: xs)))
theorem mt_insert : MtM X "list.insert" rInsert0 := by
  intro pins s σ H x vs v us Q I rx rv h
  obtain ⟨l, xs, y, rfl, rfl, hH, hz, q⟩ := h
  cases rx
  obtain ⟨u0, u, rfl, ru0, ru⟩ := rv.two
  obtain ⟨t, rfl⟩ := ru0
  obtain ⟨z, its, n, r, hl, e⟩ := I.lstM hH
  refine call_meets F.slot_list_insert ⟨_, e, rfl⟩ F.entry_list_insert (F.args_list_insert_3 _ _ _) (AutoSeq1.list_insert_list_int_val_1 l its.toArray n 0 t u (by decide) (by rw [List.size_toArray]; omega)) ⟨e, ?_⟩
  refine ⟨.non, _, I.lset (its' := u :: its) (ys := y :: xs) hH e ?_ (.cons ru r) (by rw [List.length_cons]; omega), rfl, q⟩
  simp
def rRange1 : List V → Hp → VK → Prop := fun xs H Q => ∃ n : Int, xs = [.int n] ∧ ∀ p, H p = none → Q (.ref p) (upd H p (.rng 0 n))
theorem call_range1 : CallR X (.type "range") rRange1 := by
  intro pins s σ H xs us Q I r h
  obtain ⟨n, rfl, q⟩ := h
  obtain ⟨u, rfl, t, rfl⟩ := vals1 r
  refine call_range_1 ⟨.ref s.heap.objs.size, upd H s.heap.objs.size (.rng 0 n), I.laid (fun b u e => Heap.get?_push_of_some _ e) (Nat.le_refl _) ⟨_, _, _, Heap.get?_push_size _ rfl⟩, rfl, q _ (I.hok.fresh (Nat.le_refl _))⟩
theorem vals_of {xs : List V} {us : List Value} (hl : xs.length = us.length) (h : ∀ (j : Nat) (x : V) (u : Value), xs[j]? = some x → us[j]? = some u → RelV x u) : Vals xs us := by
  induction xs generalizing us with
  | nil => cases us with
    | nil => exact .nil
    | cons a b => simp at hl
  | cons x xs ih => cases us with
    | nil => simp at hl
    | cons u us => exact .cons (h 0 x u rfl rfl) (ih (by simpa using hl) fun j x u h1 h2 => h (j + 1) x u h1 h2)
def rListRng : List V → Hp → VK → Prop := fun xs H Q => ∃ (p : Addr) (n : Nat), xs = [.ref p] ∧ H p = some (.rng 0 (n : Int)) ∧ n ≤ 65536 ∧ ∀ l, H l = none → Q (.ref l) (upd H l (.lst ((List.range n).map nv)))
theorem call_list_rng (hc : X.calm = true) : CallR X (.type "list") rListRng := by
  intro pins s σ H xs us Q I r h
  obtain ⟨p, n, rfl, hp, hn, q⟩ := h
  obtain ⟨u, rfl, ru⟩ := vals1 r
  cases ru
  obtain ⟨t, t1, t2, hr⟩ := (show ObjOk X.prog X.w H s.heap p (.rng 0 (n : Int)) from I.hok p _ hp)
  have hsz : Builtin.Range.rangeSize 0 (n : Int) 1 = ((n : Nat) : Int) := by rw [rangeSize_one]; split <;> omega
  refine call_list_range (I.ok.hd hc) hr (small_one (by omega) (by omega) (by omega) (by omega)) hsz (by omega) fun h' tk acc c hk hD hI => ?_
  refine ⟨.ref s.heap.objs.size, _, I.laid hk (Nat.le_refl _) (o := .lst ((List.range n).map nv)) ⟨by rw [List.length_map, List.length_range, sl]; omega, acc.toList, c, ?_, hD⟩, rfl, q _ (I.hok.fresh (Nat.le_refl _))⟩
  refine vals_of (by rw [List.length_map, List.length_range, Array.length_toList, hI.1]) fun j x u h1 h2 => ?_
  obtain ⟨t3, e3⟩ := hI.2 j u (by rw [← h2, Array.getElem?_toList])
  rw [List.getElem?_map] at h1
  have hj : j < n := by
    have h3 := (List.getElem?_eq_some_iff.mp h2).1
    rw [Array.length_toList, hI.1] at h3
    exact h3
  rw [List.getElem?_range hj] at h1
  cases h1
  exact ⟨t3, by rw [e3]; congr 1; omega⟩
theorem pe_list_range {a : Expr} {ta : TA} {p p2 pos pos2 : Pos} (hc : X.calm = true) (hm : X.mg "list" = none) (hm2 : X.mg "range" = none) (ha : PA X [a] ta) (hg : Gl X "list" := by rfl) (hg2 : Gl X "range" := by rfl)
    (hs : starEach [a] X.env = (false, eval a X.env) :: starEach [] X.env := by rfl) :
    PE X (.Call (.Name "list" p) [.Call (.Name "range" p2) [a] [] pos2] [] pos) (tCB rListRng (tCons (tCB rRange1 ta) tNil)) :=
  pe_callTy (p := p) (pos := pos) (call_list_rng hc) hg hm (by decide +kernel) (pa_cons (pe_callTy (p := p2) (pos := pos2) call_range1 hg2 hm2 boot_range ha (by decide) (by decide) hs rfl) pa_nil)
def PairsAt (H : Hp) : List Addr → List (Nat × Nat) → Prop
  | [], [] => True
  | a :: as, p :: ps => H a = some (.tup [nv p.1, nv p.2]) ∧ PairsAt H as ps
  | _, _ => False
def rNotInP (K : W.Frag) : R2 := fun x y H Q => ∃ (a l : Addr) (u w : Nat) (as : List Addr) (ps : List (Nat × Nat)), x = .ref a ∧ y = .ref l ∧ H a = some (.tup [nv u, nv w]) ∧ H l = some (.lst (as.map V.ref)) ∧ PairsAt H as ps ∧ Q (.bl (!decide ((u, w) ∈ ps))) H
theorem shaped2 (u w : Nat) : SeqAt.shaped (.tuple [.int (u : Int), .int (w : Int)]) = true := by rfl
theorem eqv2 (a b c d : Nat) : PyData.eqv (.tuple [.int (a : Int), .int (b : Int)]) (.tuple [.int (c : Int), .int (d : Int)]) = decide ((a, b) = (c, d)) := by
  show (((a : Int) == (c : Int)) && (((b : Int) == (d : Int)) && true)) = _
  have e0 : decide ((a, b) = (c, d)) = (decide (a = c) && decide (b = d)) := by
    rw [← Bool.decide_and]; exact decide_eq_decide.mpr (by rw [Prod.mk.injEq])
  rw [Bool.and_true, e0]
  have e1 : ((a : Int) == (c : Int)) = decide (a = c) := by
    rw [Bool.beq_eq_decide_eq]; exact decide_eq_decide.mpr (by omega)
  have e2 : ((b : Int) == (d : Int)) = decide (b = d) := by
    rw [Bool.beq_eq_decide_eq]; exact decide_eq_decide.mpr (by omega)
  rw [e1, e2]
theorem dp2 {K : W.Frag} {H : Hp} {a : Addr} {u w : Nat} (h : H a = some (.tup [nv u, nv w])) : Dp K H (.ref a) (.tuple [.int (u : Int), .int (w : Int)]) := .tup (SqT.of h) (.cons (.int _) (.cons (.int _) .nil))
noncomputable def isP (H : Hp) (u w : Nat) (v : Value) : Bool := @decide (∃ a, v = .ref a ∧ H a = some (.tup [nv u, nv w])) (Classical.propDecidable _)
theorem isP_ref {H : Hp} {u w c d : Nat} {a : Addr} (h : H a = some (.tup [nv c, nv d])) : isP H u w (.ref a) = decide ((c, d) = (u, w)) := by
  unfold isP
  by_cases e : (c, d) = (u, w)
  · rw [decide_eq_true e]
    cases e
    exact @decide_eq_true _ (Classical.propDecidable _) ⟨a, rfl, h⟩
  · rw [decide_eq_false e]
    refine @decide_eq_false _ (Classical.propDecidable _) fun ⟨b, e1, e2⟩ => e ?_
    cases e1
    rw [h] at e2
    injection e2 with e3
    injection e3 with e4
    injection e4 with e5 e6
    injection e6 with e7 _
    injection e5 with e8
    injection e7 with e9
    rw [Prod.mk.injEq]
    omega
theorem pairs_any {H : Hp} {u w : Nat} : ∀ {as : List Addr} {ps : List (Nat × Nat)}, PairsAt H as ps → (as.map Value.ref).any (isP H u w) = decide ((u, w) ∈ ps)
  | [], [], _ => by simp
  | a :: as, p :: ps, ⟨h, t⟩ => by
    rw [List.map_cons, List.any_cons, isP_ref h, pairs_any t, ← Bool.decide_or]
    exact decide_eq_decide.mpr (by rw [List.mem_cons]; exact or_congr eq_comm Iff.rfl)
  | [], _ :: _, h => h.elim
  | _ :: _, [], h => h.elim
theorem refs_of : ∀ {as : List Addr} {us : List Value}, Vals (as.map V.ref) us → us = as.map Value.ref
  | [], _, .nil => rfl
  | a :: as, _, .cons r t => by
    cases r
    rw [refs_of t]
    rfl
theorem pair_mem {H : Hp} : ∀ {as : List Addr} {ps : List (Nat × Nat)} {a : Addr}, PairsAt H as ps → a ∈ as → ∃ c d, H a = some (.tup [nv c, nv d])
  | [], _, _, _, h => by simp at h
  | b :: as, p :: ps, a, ⟨h, t⟩, hm => by
    rcases List.mem_cons.mp hm with rfl | hm
    · exact ⟨_, _, h⟩
    · exact pair_mem t hm
  | _ :: _, [], _, h, _ => h.elim
theorem op_notInP (hu : X.A.units + 65 < cLine) : OpR X (compareOp .NotIn) (rNotInP X.K) := by
  intro pins s σ H x y v u' Q I rx ry h
  obtain ⟨a, l, u, w, as, ps, rfl, rfl, ha, hl, hp, q⟩ := h
  cases rx
  cases ry
  obtain ⟨its, r, pl, hz⟩ := I.list (SqL.of hl)
  have ei := refs_of r
  subst ei
  obtain ⟨ra, r1⟩ := Dp.reads I _ _ _ (dp2 (K := X.K) ha) rfl
  refine SeqAt.notIn_listAt (isP H u w) pl.isList (fun z hz => ?_) ⟨.bl _, H, I, rfl, ?_⟩
  · have hz' : z ∈ as.map Value.ref := by simpa using hz
    obtain ⟨b, hb, rfl⟩ := List.mem_map.mp hz'
    obtain ⟨c, d, hcd⟩ := pair_mem hp hb
    obtain ⟨rb, r2⟩ := Dp.reads I _ _ _ (dp2 (K := X.K) hcd) rfl
    have e := SeqAt.eqAt_reads _ _ X.A.in1 s _ _ _ _ r2 r1 (SeqAt.canLay_of_shaped (shaped2 c d)) (SeqAt.canLay_of_shaped (shaped2 u w)) (SeqAt.room_of_shaped (shaped2 c d) (by show X.A.units + 1 + 64 < cLine; omega))
    rw [eqv2, ← isP_ref hcd] at e
    exact e
  · rw [show (as.map Value.ref).toArray.any (isP H u w) = (as.map Value.ref).any (isP H u w) by simp, pairs_any hp]
    exact q
end
end CG
namespace CG
open PySem PySem.Spec PyProof.Rows L2
def CtrAt (t : Cs) (H : Hp) (a l : Addr) (xs : List Nat) : Prop := (∃ dx, H a = some (.ins t.k0 dx (fl_k0 (.ref l)))) ∧ H l = some (.lst (xs.map nv))
def spCtrInit (t : Cs) : Sp := fun vs H Q _ => ∃ (p : Addr) (n : Nat), vs = [.ref p, nv n] ∧ Fresh H p t.k0 ∧ n ≤ 65536 ∧
  ∀ (H' : Hp) (l : Addr), CtrAt t H' p l (List.replicate n 1) → H l = none → But H H' [p] → Q .non H'
def spSays (t : Cs) : Sp := fun vs H Q _ => ∃ (a l : Addr) (xs : List Nat) (p : Nat), vs = [.ref a, nv p] ∧ CtrAt t H a l xs ∧ 0 < xs.length ∧ Q (.bl (Sd39.says (xs.getD (p % xs.length) 1))) H
def spLearn (t : Cs) : Sp := fun vs H Q _ => ∃ (a l : Addr) (xs : List Nat) (p : Nat) (up : Bool), vs = [.ref a, nv p, .bl up] ∧ CtrAt t H a l xs ∧ 0 < xs.length ∧
  Q .non (upd H l (.lst ((Sd39.changed xs (p % xs.length) fun x => Sd39.moved x up).map nv)))
section
variable {P : Program} {w : World} {K : W.Frag} {mg : Str → Option Value} {base : Heap} {t : Cs} {f : Addr} {fd : FuncData}
theorem ok_q70 (T : Txt K mg t) (F : Fun K "__init__" "Counters.__init__" s_q70 f fd) : FnOk P w K mg base CX0 1 f fd ["self", "size"] (spCtrInit t) := by
  refine F.ok sc_q70 (fun vs H Q E h => ?_) (fun cdv A outer s H vs Q E hr h => ?_)
  · obtain ⟨p, n, rfl, _⟩ := h
    rfl
  · obtain ⟨p, n, rfl, ⟨dx, hp⟩, hn, k⟩ := h
    refine ⟨_, (pss_one (ps_fld (pv 0) (pe_op op_rep (pe_lst (pa_cons (pgl T.c_COUNTER_AT_FIRST) pa_nil)) (pv 1)) rfl)), ?_⟩
    refine ⟨(by show 1 ≤ sizeLine; decide), fun q hq => ?_⟩
    refine ⟨_, rfl, q, n, _, rfl, rfl, upd_same, (by omega), (by omega), (by rw [sl, Int.toNat_natCast]; simp; omega), fun l hl => ?_⟩
    have b1 : But H (upd (upd H q (.lst [.int 1])) l (.lst (List.replicate (n : Int).toNat [.int 1]).flatten)) [p] := (But.refl.new hq).new hl
    have hl0 : H l = none := (new_ne hq).free hl
    have npl : p ≠ l := ne_of_none hp hl0
    have npq : p ≠ q := ne_of_none hp hq
    refine ⟨_, rfl, p, _, dx, [], rfl, ((new_ne hl) _ _ ((new_ne hq) _ _ hp)), T.k0.cl, T.k0.n_j33, (by show 0 < 1000; decide), ?_⟩
    refine k _ l ⟨⟨dx, upd_same⟩, ?_⟩ hl0 (b1.put (by simp))
    rw [upd_ne (Ne.symm npl), upd_same]
    exact congrArg (fun z => some (HO.lst z)) (rep_nv n 1)
theorem ok_q71 (T : Txt K mg t) (F : Fun K "says" "Counters.says" s_q71 f fd) : FnOk P w K mg base CX0 1 f fd ["self", "place"] (spSays t) := by
  refine F.ok sc_q71 (fun vs H Q E h => ?_) (fun cdv A outer s H vs Q E hr h => ?_)
  · obtain ⟨a, l, xs, p, rfl, _⟩ := h
    rfl
  · obtain ⟨a, l, xs, p, rfl, ⟨⟨dx, ha⟩, hl⟩, h0, k⟩ := h
    refine ⟨_, (pss_one (ps_ret (pe_cmpR op_ge (pe_ix ix_list (pe_fld (pv 0) rfl) (pe_op op_mod (pv 1) (pe_callB call_len_seq rfl T.b_len PySem.boot_len (pa_cons (pe_fld (pv 0) rfl) pa_nil))) (fun _ _ => rfl)) pe_int (nomark _)))), ?_⟩
    obtain ⟨x, hx⟩ := get_mod h0 p
    refine ⟨_, rfl, a, _, dx, _, _, rfl, ha, T.k0.cl, T.k0.n_j33, lk_q50, _, rfl, _, rfl, a, _, dx, _, _, rfl, ha, T.k0.cl, T.k0.n_j33, lk_q50, l, _, rfl, .inl (SqL.of hl), _, _, rfl, rfl, ?_, ?_⟩
    · rw [List.length_map]; omega
    refine ⟨l, _, _, nv x, rfl, rfl, SqL.of hl, at_nat (j := p % xs.length) (by rw [List.length_map]; rfl) (by rw [List.getElem?_map, hx]; rfl), _, _, rfl, rfl, ?_⟩
    rw [getD_of hx] at k
    have e : decide ((2 : Int) ≤ (x : Int)) = Sd39.says x := by
      unfold Sd39.says
      exact decide_eq_decide.mpr (by omega)
    show Q (.bl (decide ((2 : Int) ≤ (x : Int)))) H
    rw [e]
    exact k
theorem ok_q59 (T : Txt K mg t) (F : Fun K "learn" "Counters.learn" s_q59 f fd) : FnOk P w K mg base CX0 1 f fd ["self", "place", "up"] (spLearn t) := by
  refine F.ok sc_q59 (fun vs H Q E h => ?_) (fun cdv A outer s H vs Q E hr h => ?_)
  · obtain ⟨a, l, xs, p, up, rfl, _⟩ := h
    rfl
  · obtain ⟨a, l, xs, p, up, rfl, ⟨⟨dx, ha⟩, hl⟩, h0, k⟩ := h
    refine ⟨_, (pss_cons (ps_set (i := 3) sc_q59.nd rfl (Or.inl rfl) (pe_op op_mod (pv 1) (pe_callB call_len_seq rfl T.b_len PySem.boot_len (pa_cons (pe_fld (pv 0) rfl) pa_nil))))
      (pss_one (ps_if (pt_val (pv 2))
      (pss_one (ps_asg (pe_callB (call_min2 rfl) rfl T.b_min boot_min (pa_cons (pe_op op_add (pe_ix ix_list (pe_fld (pv 0) rfl) (pv 3) (fun _ _ => rfl)) pe_int) (pa_cons (pgl T.c_COUNTER_TOP) pa_nil))) (pg_sub (pe_fld (pv 0) rfl) (pv 3) set_list)))
      (pss_one (ps_asg (pe_callB (call_max2 rfl) rfl T.b_max boot_max (pa_cons (pe_op op_sub (pe_ix ix_list (pe_fld (pv 0) rfl) (pv 3) (fun _ _ => rfl)) pe_int) (pa_cons pe_int pa_nil))) (pg_sub (pe_fld (pv 0) rfl) (pv 3) set_list)))))), ?_⟩
    obtain ⟨x, hx⟩ := get_mod h0 p
    have hlt : p % xs.length < xs.length := Nat.mod_lt _ h0
    have e1 : (p : Int) % ((xs.map nv).length : Int) = ((p % xs.length : Nat) : Int) := by rw [List.length_map]; rfl
    refine ⟨_, rfl, _, rfl, a, _, dx, _, _, rfl, ha, T.k0.cl, T.k0.n_j33, lk_q50, l, _, rfl, .inl (SqL.of hl), _, _, rfl, rfl, ?_, ?_⟩
    · rw [List.length_map]; omega
    refine ⟨_, rfl, _, rfl, ?_⟩
    rw [changed_eq hx] at k
    cases up with
    | true =>
      refine iteT ?_
      refine ⟨_, rfl, a, _, dx, _, _, rfl, ha, T.k0.cl, T.k0.n_j33, lk_q50, _, rfl, l, _, _, nv x, rfl, rfl, SqL.of hl, at_nat e1 (by rw [List.getElem?_map, hx]; rfl), _, _, rfl, rfl, _, _, rfl, ?_⟩
      refine ⟨_, rfl, a, _, dx, _, _, rfl, ha, T.k0.cl, T.k0.n_j33, lk_q50, _, rfl, l, _, _, p % xs.length, rfl, rfl, hl, ?_, ?_⟩
      · rw [e1, List.length_map]; exact ix_nat hlt
      · have e2 : V.int (if (3 : Int) < (x : Int) + 1 then 3 else (x : Int) + 1) = nv (Sd39.moved x true) := by
          unfold Sd39.moved
          rw [if_pos rfl]
          refine congrArg V.int ?_
          split <;> omega
        show Q .non (upd H l (.lst ((xs.map nv).set (p % xs.length) (V.int (if (3 : Int) < (x : Int) + 1 then 3 else (x : Int) + 1)))))
        rw [e2, map_set_nv]
        exact k
    | false =>
      refine iteF ?_
      refine ⟨_, rfl, a, _, dx, _, _, rfl, ha, T.k0.cl, T.k0.n_j33, lk_q50, _, rfl, l, _, _, nv x, rfl, rfl, SqL.of hl, at_nat e1 (by rw [List.getElem?_map, hx]; rfl), _, _, rfl, rfl, _, _, rfl, ?_⟩
      refine ⟨_, rfl, a, _, dx, _, _, rfl, ha, T.k0.cl, T.k0.n_j33, lk_q50, _, rfl, l, _, _, p % xs.length, rfl, rfl, hl, ?_, ?_⟩
      · rw [e1, List.length_map]; exact ix_nat hlt
      · have e2 : V.int (if (0 : Int) > (x : Int) - 1 then 0 else (x : Int) - 1) = nv (Sd39.moved x false) := by
          unfold Sd39.moved
          rw [if_neg Bool.false_ne_true]
          refine congrArg V.int ?_
          split <;> omega
        show Q .non (upd H l (.lst ((xs.map nv).set (p % xs.length) (V.int (if (0 : Int) > (x : Int) - 1 then 0 else (x : Int) - 1)))))
        rw [e2, map_set_nv]
        exact k
end
end CG
namespace CG
open PySem PySem.Spec PyProof.Rows L2
abbrev fB (g : Sd39.Guess) (A : Nat → Addr) (b : Sd39.Br) : List (Str × V) := fl_k1 (nv g.kind) (nv (2 ^ g.history)) (nv b.history) (.ref (A 1)) (.ref (A 2)) (.ref (A 4)) (.ref (A 6)) (.ref (A 8)) (nv b.branches) (nv b.wrong)
structure BrAt (t : Cs) (H : Hp) (A : Nat → Addr) (g : Sd39.Guess) (b : Sd39.Br) : Prop where
  o : ∃ dx, H (A 0) = some (.ins t.k1 dx (fB g A b))
  own : H (A 1) = some (.lst (b.own.map nv))
  k1 : CtrAt t H (A 2) (A 3) b.by_
  k2 : CtrAt t H (A 4) (A 5) b.both
  k3 : CtrAt t H (A 6) (A 7) b.pattern
  k4 : CtrAt t H (A 8) (A 9) b.choose
  inj : ∀ i j, i < 10 → j < 10 → A i = A j → i = j
structure BrOk (g : Sd39.Guess) (b : Sd39.Br) : Prop where
  l1 : b.by_.length = 2 ^ g.table
  l2 : b.both.length = 2 ^ g.table
  l3 : b.pattern.length = 2 ^ g.history
  l4 : b.choose.length = 2 ^ g.table
  l5 : b.own.length = 2 ^ g.places
  hh : b.history < 2 ^ g.history
  ho : ∀ x ∈ b.own, x < 2 ^ g.history
  gh : g.history ≤ 14
  gk : g.kind ≤ 4
theorem cut {c : Prop} [Decidable c] {A : Prop} {R : Hp → Prop} {H : Hp} (Pv : Hp → Prop) (rest : ∀ H1, Pv H1 → R H1) (h1 : c → (∀ H1, Pv H1 → R H1) → A) (h2 : ¬ c → Pv H) : if c then A else R H := by
  by_cases h : c
  · rw [if_pos h]; exact h1 h rest
  · rw [if_neg h]; exact rest H (h2 h)
theorem cutOr {c1 c2 : Prop} [Decidable c1] [Decidable c2] {A : Prop} {R : Hp → Prop} {H : Hp} {X : Prop} (Pv : Hp → Prop) (rest : ∀ H1, Pv H1 → R H1) (hX : (if c2 then A else R H) → X) (h1 : c1 ∨ c2 → (∀ H1, Pv H1 → R H1) → A) (h2 : ¬ (c1 ∨ c2) → Pv H) :
    if c1 then (if true = true then A else R H) else X := by
  by_cases h : c1
  · rw [if_pos h, if_pos rfl]; exact h1 (.inl h) rest
  · rw [if_neg h]
    refine hX ?_
    by_cases g : c2
    · rw [if_pos g]; exact h1 (.inr g) rest
    · rw [if_neg g]; exact rest H (h2 fun z => z.elim h g)
theorem isk {n : Nat} {i : Int} (c : decide (nv n = V.int i) = true) : (n : Int) = i := by
  have e := of_decide_eq_true c
  injection e
theorem isnk {n : Nat} {i : Int} (c : ¬ decide (nv n = V.int i) = true) : ¬ (n : Int) = i := fun e => c (decide_eq_true (congrArg V.int e))
theorem kis {n m : Nat} (e : n = m) : decide (nv n = V.int (m : Int)) = true := by rw [e]; exact decide_eq_true rfl
theorem bl_dec (a b : Bool) : decide (V.bl a = V.bl b) = (a == b) := by cases a <;> cases b <;> rfl
theorem at3_lt {g : Sd39.Guess} {b : Sd39.Br} (O : BrOk g b) (p : Nat) : Sd39.at3 g b p < 2 ^ g.history := by
  unfold Sd39.at3
  have hlt : p / 4 % 2 ^ g.places < b.own.length := by rw [O.l5]; exact Nat.mod_lt _ (Nat.two_pow_pos _)
  rw [List.getD_eq_getElem?_getD, List.getElem?_eq_getElem hlt]
  exact O.ho _ (List.getElem_mem hlt)
theorem p2 (n : Nat) : 0 < 2 ^ n := Nat.two_pow_pos n
section
variable {t : Cs} {H H' : Hp} {A : Nat → Addr} {g : Sd39.Guess} {b : Sd39.Br}
theorem BrAt.ne (h : BrAt t H A g b) {i j : Nat} (hij : i ≠ j) (hi : i < 10 := by decide) (hj : j < 10 := by decide) : A i ≠ A j := fun e => hij (h.inj i j hi hj e)
theorem BrAt.up (h : BrAt t H A g b) (i : Nat) (hi : i < 10) (o : HO) {j : Nat} (hj : j < 10) (n : j ≠ i) : upd H (A i) o (A j) = H (A j) := upd_ne (h.ne n hj hi)
theorem BrAt.ctr (h : BrAt t H A g b) (i : Nat) (hi : i < 10) (o : HO) {c l : Nat} {xs : List Nat} (hc : c < 10) (hl : l < 10) (n1 : c ≠ i) (n2 : l ≠ i) (k : CtrAt t H (A c) (A l) xs) : CtrAt t (upd H (A i) o) (A c) (A l) xs := by
  obtain ⟨⟨dx, e1⟩, e2⟩ := k
  exact ⟨⟨dx, by rw [h.up i hi o hc n1]; exact e1⟩, by rw [h.up i hi o hl n2]; exact e2⟩
theorem BrAt.put1 (h : BrAt t H A g b) (xs : List Nat) : BrAt t (upd H (A 3) (.lst (xs.map nv))) A g { b with by_ := xs } := by
  have D {j : Nat} (hj : j < 10) (n : j ≠ 3) := h.up 3 (by decide) (.lst (xs.map nv)) hj n
  refine ⟨?_, ?_, ⟨?_, upd_same⟩, h.ctr 3 (by decide) _ (by decide) (by decide) (by decide) (by decide) h.k2, h.ctr 3 (by decide) _ (by decide) (by decide) (by decide) (by decide) h.k3, h.ctr 3 (by decide) _ (by decide) (by decide) (by decide) (by decide) h.k4, h.inj⟩
  · obtain ⟨dx, e⟩ := h.o; exact ⟨dx, by rw [D (by decide) (by decide)]; exact e⟩
  · rw [D (by decide) (by decide)]; exact h.own
  · obtain ⟨⟨dx, e⟩, _⟩ := h.k1; exact ⟨dx, by rw [D (by decide) (by decide)]; exact e⟩
theorem BrAt.put2 (h : BrAt t H A g b) (xs : List Nat) : BrAt t (upd H (A 5) (.lst (xs.map nv))) A g { b with both := xs } := by
  have D {j : Nat} (hj : j < 10) (n : j ≠ 5) := h.up 5 (by decide) (.lst (xs.map nv)) hj n
  refine ⟨?_, ?_, h.ctr 5 (by decide) _ (by decide) (by decide) (by decide) (by decide) h.k1, ⟨?_, upd_same⟩, h.ctr 5 (by decide) _ (by decide) (by decide) (by decide) (by decide) h.k3, h.ctr 5 (by decide) _ (by decide) (by decide) (by decide) (by decide) h.k4, h.inj⟩
  · obtain ⟨dx, e⟩ := h.o; exact ⟨dx, by rw [D (by decide) (by decide)]; exact e⟩
  · rw [D (by decide) (by decide)]; exact h.own
  · obtain ⟨⟨dx, e⟩, _⟩ := h.k2; exact ⟨dx, by rw [D (by decide) (by decide)]; exact e⟩
theorem BrAt.put3 (h : BrAt t H A g b) (xs : List Nat) : BrAt t (upd H (A 7) (.lst (xs.map nv))) A g { b with pattern := xs } := by
  have D {j : Nat} (hj : j < 10) (n : j ≠ 7) := h.up 7 (by decide) (.lst (xs.map nv)) hj n
  refine ⟨?_, ?_, h.ctr 7 (by decide) _ (by decide) (by decide) (by decide) (by decide) h.k1, h.ctr 7 (by decide) _ (by decide) (by decide) (by decide) (by decide) h.k2, ⟨?_, upd_same⟩, h.ctr 7 (by decide) _ (by decide) (by decide) (by decide) (by decide) h.k4, h.inj⟩
  · obtain ⟨dx, e⟩ := h.o; exact ⟨dx, by rw [D (by decide) (by decide)]; exact e⟩
  · rw [D (by decide) (by decide)]; exact h.own
  · obtain ⟨⟨dx, e⟩, _⟩ := h.k3; exact ⟨dx, by rw [D (by decide) (by decide)]; exact e⟩
theorem BrAt.put4 (h : BrAt t H A g b) (xs : List Nat) : BrAt t (upd H (A 9) (.lst (xs.map nv))) A g { b with choose := xs } := by
  have D {j : Nat} (hj : j < 10) (n : j ≠ 9) := h.up 9 (by decide) (.lst (xs.map nv)) hj n
  refine ⟨?_, ?_, h.ctr 9 (by decide) _ (by decide) (by decide) (by decide) (by decide) h.k1, h.ctr 9 (by decide) _ (by decide) (by decide) (by decide) (by decide) h.k2, h.ctr 9 (by decide) _ (by decide) (by decide) (by decide) (by decide) h.k3, ⟨?_, upd_same⟩, h.inj⟩
  · obtain ⟨dx, e⟩ := h.o; exact ⟨dx, by rw [D (by decide) (by decide)]; exact e⟩
  · rw [D (by decide) (by decide)]; exact h.own
  · obtain ⟨⟨dx, e⟩, _⟩ := h.k4; exact ⟨dx, by rw [D (by decide) (by decide)]; exact e⟩
theorem BrAt.putO (h : BrAt t H A g b) (xs : List Nat) : BrAt t (upd H (A 1) (.lst (xs.map nv))) A g { b with own := xs } := by
  have D {j : Nat} (hj : j < 10) (n : j ≠ 1) := h.up 1 (by decide) (.lst (xs.map nv)) hj n
  refine ⟨?_, upd_same, h.ctr 1 (by decide) _ (by decide) (by decide) (by decide) (by decide) h.k1, h.ctr 1 (by decide) _ (by decide) (by decide) (by decide) (by decide) h.k2, h.ctr 1 (by decide) _ (by decide) (by decide) (by decide) (by decide) h.k3, h.ctr 1 (by decide) _ (by decide) (by decide) (by decide) (by decide) h.k4, h.inj⟩
  obtain ⟨dx, e⟩ := h.o; exact ⟨dx, by rw [D (by decide) (by decide)]; exact e⟩
theorem BrAt.putB (h : BrAt t H A g b) {b' : Sd39.Br} {dx : Addr} {fs : List (Str × V)} (e : fs = fB g A b') (e1 : b'.own = b.own) (e2 : b'.by_ = b.by_) (e3 : b'.both = b.both) (e4 : b'.pattern = b.pattern) (e5 : b'.choose = b.choose) :
    BrAt t (upd H (A 0) (.ins t.k1 dx fs)) A g b' := by
  have D {j : Nat} (hj : j < 10) (n : j ≠ 0) := h.up 0 (by decide) (.ins t.k1 dx fs) hj n
  refine ⟨⟨dx, by rw [upd_same, e]⟩, ?_, ?_, ?_, ?_, ?_, h.inj⟩
  · rw [D (by decide) (by decide), e1]; exact h.own
  · rw [e2]; exact h.ctr 0 (by decide) _ (by decide) (by decide) (by decide) (by decide) h.k1
  · rw [e3]; exact h.ctr 0 (by decide) _ (by decide) (by decide) (by decide) (by decide) h.k2
  · rw [e4]; exact h.ctr 0 (by decide) _ (by decide) (by decide) (by decide) (by decide) h.k3
  · rw [e5]; exact h.ctr 0 (by decide) _ (by decide) (by decide) (by decide) (by decide) h.k4
def ButA (H H' : Hp) (A : Nat → Addr) : Prop := ∀ c o, H c = some o → (∀ i, i < 10 → A i ≠ c) → H' c = some o
theorem ButA.refl : ButA H H A := fun _ _ e _ => e
theorem ButA.put {i : Nat} {o : HO} (hi : i < 10) (h : ButA H H' A) : ButA H (upd H' (A i) o) A := fun c u e n => by
  rw [upd_ne (fun z => n i hi z.symm)]; exact h c u e n
theorem ButA.trans {H1 : Hp} (h : ButA H H1 A) (k : ButA H1 H' A) : ButA H H' A := fun c u e n => k c u (h c u e n) n
end
def spLonger (t : Cs) : Sp := fun vs H Q _ => ∃ (A : Nat → Addr) (g : Sd39.Guess) (b : Sd39.Br) (h : Nat) (k : Bool), vs = [.ref (A 0), nv h, .bl k] ∧ BrAt t H A g b ∧ Q (nv (Sd39.pushed h k g.history)) H
def spOwnH (t : Cs) : Sp := fun vs H Q _ => ∃ (A : Nat → Addr) (g : Sd39.Guess) (b : Sd39.Br) (p : Nat), vs = [.ref (A 0), nv (p / 4)] ∧ BrAt t H A g b ∧ BrOk g b ∧ Q (nv (Sd39.at3 g b p)) H
def spGBC (t : Cs) : Sp := fun vs H Q _ => ∃ (A : Nat → Addr) (g : Sd39.Guess) (b : Sd39.Br) (p : Nat), vs = [.ref (A 0), nv (p / 4)] ∧ BrAt t H A g b ∧ BrOk g b ∧ Q (.bl (Sd39.says (b.both.getD (Sd39.at2 g b p) 1))) H
def spGuess (t : Cs) : Sp := fun vs H Q _ => ∃ (A : Nat → Addr) (g : Sd39.Guess) (b : Sd39.Br) (p : Nat), vs = [.ref (A 0), nv (p / 4)] ∧ BrAt t H A g b ∧ BrOk g b ∧ Q (.bl (Sd39.guessed g b p)) H
def chosen (g : Sd39.Guess) (b : Sd39.Br) (p : Nat) (k : Bool) : List Nat :=
  if Sd39.says (b.by_.getD (Sd39.at1 g p) 1) ≠ Sd39.says (b.both.getD (Sd39.at2 g b p) 1) then Sd39.changed b.choose (Sd39.at1 g p) (fun x => Sd39.moved x (Sd39.says (b.both.getD (Sd39.at2 g b p) 1) == k)) else b.choose
def spChoice (t : Cs) : Sp := fun vs H Q _ => ∃ (A : Nat → Addr) (g : Sd39.Guess) (b : Sd39.Br) (p : Nat) (k : Bool), vs = [.ref (A 0), nv (p / 4), .bl k] ∧ BrAt t H A g b ∧ BrOk g b ∧
  ∀ H', BrAt t H' A g { b with choose := chosen g b p k } → ButA H H' A → Q .non H'
def spOwn (t : Cs) : Sp := fun vs H Q _ => ∃ (A : Nat → Addr) (g : Sd39.Guess) (b : Sd39.Br) (p : Nat) (k : Bool), vs = [.ref (A 0), nv (p / 4), .bl k] ∧ BrAt t H A g b ∧ BrOk g b ∧
  ∀ H', BrAt t H' A g { b with pattern := Sd39.changed b.pattern (Sd39.at3 g b p) (fun x => Sd39.moved x k), own := Sd39.changed b.own (p / 4 % 2 ^ g.places) fun h => Sd39.pushed h k g.history } → ButA H H' A → Q .non H'
def spLearnt (t : Cs) : Sp := fun vs H Q _ => ∃ (A : Nat → Addr) (g : Sd39.Guess) (b : Sd39.Br) (p : Nat) (k : Bool), vs = [.ref (A 0), nv (p / 4), .bl k] ∧ BrAt t H A g b ∧ BrOk g b ∧
  ∀ H', BrAt t H' A g (Sd39.learnt g b p k) → ButA H H' A → Q .non H'
def branched (g : Sd39.Guess) (b : Sd39.Br) (p : Nat) (k : Bool) : Sd39.Br := Sd39.learnt g { b with branches := b.branches + 1, wrong := b.wrong + if Sd39.guessed g b p = k then 0 else 1 } p k
def spBranch (t : Cs) : Sp := fun vs H Q _ => ∃ (A : Nat → Addr) (g : Sd39.Guess) (b : Sd39.Br) (p : Nat) (k : Bool), vs = [.ref (A 0), nv p, .bl k] ∧ BrAt t H A g b ∧ BrOk g b ∧
  ∀ H', BrAt t H' A g (branched g b p k) → ButA H H' A → Q .non H'
section
variable {P : Program} {w : World} {K : W.Frag} {mg : Str → Option Value} {base : Heap} {t : Cs} {f : Addr} {fd : FuncData}
theorem ok_q3 (T : Txt K mg t) (F : Fun K "longer_history" "Branches.longer_history" s_q3 f fd) : FnOk P w K mg base CX0 1 f fd ["self", "history", "taken"] (spLonger t) := by
  refine F.ok sc_q3 (fun vs H Q E h => ?_) (fun cdv A outer s H vs Q E hr h => ?_)
  · obtain ⟨A, g, b, h, k, rfl, _⟩ := h
    rfl
  · obtain ⟨A, g, b, h, k, rfl, B, q⟩ := h
    obtain ⟨dx, ho⟩ := B.o
    refine ⟨_, (pss_cons (ps_set (i := 3) sc_q3.nd rfl (Or.inl rfl) (pe_ifExp (pt_val (pv 2)) pe_int pe_int))
      (pss_one (ps_ret (pe_op op_mod (pe_op op_add (pe_op op_mul pe_int (pv 1)) (pv 3)) (pe_fld (pv 0) rfl))))), ?_⟩
    have c64 : CMul 2 (h : Int) := .inl ⟨by decide, by decide⟩
    have pp : (0 : Int) < ((2 ^ g.history : Nat) : Int) := by have := p2 g.history; omega
    refine ⟨_, rfl, _, rfl, ?_⟩
    have fin : ∀ z : Nat, z = (if k = true then 1 else 0) → Q (V.int ((2 * (h : Int) + (z : Int)) % ((2 ^ g.history : Nat) : Int))) H := fun z hz => by
      have e : (2 * (h : Int) + (z : Int)) % ((2 ^ g.history : Nat) : Int) = ((Sd39.pushed h k g.history : Nat) : Int) := by
        unfold Sd39.pushed
        rw [← hz]
        rw [Int.natCast_emod]
        rfl
      rw [e]
      exact q
    cases k with
    | true =>
      refine iteT ?_
      refine ⟨_, rfl, _, _, rfl, rfl, c64, _, rfl, _, _, rfl, rfl, _, rfl, _, _, _, _, _, rfl, ho, T.k1.cl, T.k1.n_j13, lk_q10, _, _, rfl, rfl, pp, fin 1 rfl⟩
    | false =>
      refine iteF ?_
      refine ⟨_, rfl, _, _, rfl, rfl, c64, _, rfl, _, _, rfl, rfl, _, rfl, _, _, _, _, _, rfl, ho, T.k1.cl, T.k1.n_j13, lk_q10, _, _, rfl, rfl, pp, fin 0 rfl⟩
theorem ok_q11 (T : Txt K mg t) (F : Fun K "own_history" "Branches.own_history" s_q11 f fd) : FnOk P w K mg base CX0 1 f fd ["self", "place"] (spOwnH t) := by
  refine F.ok sc_q11 (fun vs H Q E h => ?_) (fun cdv A outer s H vs Q E hr h => ?_)
  · obtain ⟨A, g, b, p, rfl, _⟩ := h
    rfl
  · obtain ⟨A, g, b, p, rfl, B, O, q⟩ := h
    obtain ⟨dx, ho⟩ := B.o
    refine ⟨_, (pss_one (ps_ret (pe_ix ix_list (pe_fld (pv 0) rfl) (pe_op op_mod (pv 1) (pe_callB call_len_seq rfl T.b_len PySem.boot_len (pa_cons (pe_fld (pv 0) rfl) pa_nil))) (fun _ _ => rfl)))), ?_⟩
    obtain ⟨x, hx⟩ := get_mod (l := b.own) (by rw [O.l5]; exact p2 _) (p / 4)
    refine ⟨_, rfl, _, _, _, _, _, rfl, ho, T.k1.cl, T.k1.n_j24, lk_q6, _, rfl, _, rfl, _, _, _, _, _, rfl, ho, T.k1.cl, T.k1.n_j24, lk_q6, A 1, _, rfl, .inl (SqL.of B.own), _, _, rfl, rfl, ?_, ?_⟩
    · rw [List.length_map, O.l5]; have := p2 g.places; omega
    refine ⟨A 1, _, _, nv x, rfl, rfl, SqL.of B.own, at_nat (j := p / 4 % b.own.length) (by rw [List.length_map]; rfl) (by rw [List.getElem?_map, hx]; rfl), ?_⟩
    unfold Sd39.at3 at q
    rw [O.l5] at hx
    rw [getD_of hx] at q
    exact q
theorem ok_q1 (T : Txt K mg t) (F : Fun K "guess_by_common" "Branches.guess_by_common" s_q1 f fd) : FnOk P w K mg base CX0 2 f fd ["self", "place"] (spGBC t) := by
  obtain ⟨f_q71, fd_q71, F_q71, b_q71, M_q71⟩ := T.k0.m_h28
  have G_q71 := ok_q71 (P := P) (w := w) (base := base) T F_q71
  refine F.ok sc_q1 (fun vs H Q E h => ?_) (fun cdv A outer s H vs Q E hr h => ?_)
  · obtain ⟨A, g, b, p, rfl, _⟩ := h
    rfl
  · obtain ⟨A, g, b, p, rfl, B, O, q⟩ := h
    obtain ⟨dx, ho⟩ := B.o
    obtain ⟨⟨d2, h2⟩, h3⟩ := B.k2
    refine ⟨_, (pss_one (ps_ret (pe_meth (pe_fld (pv 0) rfl) T.k0.cl M_q71 G_q71 (hr.mono (by omega)) b_q71 .nil pass0 (pa_cons (pe_op op_xor (pv 1) (pe_fld (pv 0) rfl)) pa_nil)))), ?_⟩
    refine ⟨_, rfl, _, _, _, _, _, rfl, ho, T.k1.cl, T.k1.n_j4, lk_q22, _, _, _, rfl, h2, nl_q71, _, rfl, _, rfl, _, _, _, _, _, rfl, ho, T.k1.cl, T.k1.n_j10, lk_q2, _, _, rfl, rfl, A 4, A 5, _, p / 4 ^^^ b.history, ?_, ⟨⟨d2, h2⟩, h3⟩, ?_, ?_⟩
    · show [V.ref (A 4), V.int (Builtin.bitXor ((p / 4 : Nat) : Int) (b.history : Int))] = _
      rw [bitXor_nat]
    · rw [O.l2]; exact p2 _
    · unfold Sd39.at2 at q
      rw [O.l2]
      exact q
theorem ok_q53 (T : Txt K mg t) (F : Fun K "guess" "Branches.guess" s_q53 f fd) : FnOk P w K mg base CX0 3 f fd ["self", "place"] (spGuess t) := by
  obtain ⟨f_q71, fd_q71, F_q71, b_q71, M_q71⟩ := T.k0.m_h28
  have G_q71 := ok_q71 (P := P) (w := w) (base := base) T F_q71
  obtain ⟨f_q1, fd_q1, F_q1, b_q1, M_q1⟩ := T.k1.m_h14
  have G_q1 := ok_q1 (P := P) (w := w) (base := base) T F_q1
  obtain ⟨f_q11, fd_q11, F_q11, b_q11, M_q11⟩ := T.k1.m_h23
  have G_q11 := ok_q11 (P := P) (w := w) (base := base) T F_q11
  refine F.ok sc_q53 (fun vs H Q E h => ?_) (fun cdv A outer s H vs Q E hr h => ?_)
  · obtain ⟨A, g, b, p, rfl, _⟩ := h
    rfl
  · obtain ⟨A, g, b, p, rfl, B, O, q⟩ := h
    obtain ⟨dx, ho⟩ := B.o
    obtain ⟨⟨d1, h2⟩, h3⟩ := B.k1
    obtain ⟨⟨d3, h6⟩, h7⟩ := B.k3
    obtain ⟨⟨d4, h8⟩, h9⟩ := B.k4
    refine ⟨_, (pss_cons (ps_if (pt_cmpR op_eq (pe_fld (pv 0) rfl) (pgl T.c_NEVER) (nomark _))
      (pss_one (ps_ret pe_bl))
      pss_nil)
      (pss_cons (ps_if (pt_cmpR op_eq (pe_fld (pv 0) rfl) (pgl T.c_BY_PLACE) (nomark _))
      (pss_one (ps_ret (pe_meth (pe_fld (pv 0) rfl) T.k0.cl M_q71 G_q71 (hr.mono (by omega)) b_q71 .nil pass0 (pa_cons (pv 1) pa_nil))))
      pss_nil)
      (pss_cons (ps_if (pt_cmpR op_eq (pe_fld (pv 0) rfl) (pgl T.c_BY_COMMON_HISTORY) (nomark _))
      (pss_one (ps_ret (pe_meth (pv 0) T.k1.cl M_q1 G_q1 (hr.mono (by omega)) b_q1 .nil pass0 (pa_cons (pv 1) pa_nil))))
      pss_nil)
      (pss_cons (ps_if (pt_cmpR op_eq (pe_fld (pv 0) rfl) (pgl T.c_BY_OWN_HISTORY) (nomark _))
      (pss_one (ps_ret (pe_meth (pe_fld (pv 0) rfl) T.k0.cl M_q71 G_q71 (hr.mono (by omega)) b_q71 .nil pass0 (pa_cons (pe_meth (pv 0) T.k1.cl M_q11 G_q11 (hr.mono (by omega)) b_q11 .nil pass0 (pa_cons (pv 1) pa_nil)) pa_nil))))
      pss_nil)
      (pss_cons (ps_if (pt_val (pe_meth (pe_fld (pv 0) rfl) T.k0.cl M_q71 G_q71 (hr.mono (by omega)) b_q71 .nil pass0 (pa_cons (pv 1) pa_nil)))
      (pss_one (ps_ret (pe_meth (pv 0) T.k1.cl M_q1 G_q1 (hr.mono (by omega)) b_q1 .nil pass0 (pa_cons (pv 1) pa_nil))))
      pss_nil)
      (pss_one (ps_ret (pe_meth (pe_fld (pv 0) rfl) T.k0.cl M_q71 G_q71 (hr.mono (by omega)) b_q71 .nil pass0 (pa_cons (pv 1) pa_nil))))))))), ?_⟩
    unfold Sd39.guessed at q
    have one : spSays t [.ref (A 2), nv (p / 4)] H (fun v H1 => (Sd39.guessed g b p = Sd39.says (b.by_.getD (Sd39.at1 g p) 1)) → Q v H1) E0 := by
      refine ⟨A 2, A 3, _, p / 4, rfl, ⟨⟨d1, h2⟩, h3⟩, by rw [O.l1]; exact p2 _, fun e => ?_⟩
      have q' : Q (.bl (Sd39.guessed g b p)) H := q
      rw [e] at q'
      rw [O.l1]
      exact q'
    refine ⟨_, rfl, _, _, _, _, _, rfl, ho, T.k1.cl, T.k1.n_j39, lk_q77, rfl, _, rfl, ?_⟩
    refine ite2 (fun c => ?_) (fun c => ?_)
    · have c := isk c
      rw [if_pos (by omega)] at q
      exact q
    · have c0 := isnk c
      rw [if_neg (by omega)] at q
      refine ⟨_, rfl, _, _, _, _, _, rfl, ho, T.k1.cl, T.k1.n_j39, lk_q77, rfl, _, rfl, ?_⟩
      refine ite2 (fun c => ?_) (fun c => ?_)
      · have c := isk c
        rw [if_pos (by omega)] at q
        refine ⟨_, rfl, _, _, _, _, _, rfl, ho, T.k1.cl, T.k1.n_j6, lk_q32, _, _, _, rfl, h2, nl_q71, _, rfl, A 2, A 3, _, p / 4, rfl, ⟨⟨d1, h2⟩, h3⟩, by rw [O.l1]; exact p2 _, ?_⟩
        rw [O.l1]
        exact q
      · have c1 := isnk c
        rw [if_neg (by omega)] at q
        refine ⟨_, rfl, _, _, _, _, _, rfl, ho, T.k1.cl, T.k1.n_j39, lk_q77, rfl, _, rfl, ?_⟩
        refine ite2 (fun c => ?_) (fun c => ?_)
        · have c := isk c
          rw [if_pos (by omega)] at q
          exact ⟨_, rfl, _, _, _, rfl, ho, nl_q1, _, rfl, A, g, b, p, rfl, B, O, q⟩
        · have c2 := isnk c
          rw [if_neg (by omega)] at q
          refine ⟨_, rfl, _, _, _, _, _, rfl, ho, T.k1.cl, T.k1.n_j39, lk_q77, rfl, _, rfl, ?_⟩
          refine ite2 (fun c => ?_) (fun c => ?_)
          · have c := isk c
            rw [if_pos (by omega)] at q
            refine ⟨_, rfl, _, _, _, _, _, rfl, ho, T.k1.cl, T.k1.n_j5, lk_q43, _, _, _, rfl, h6, nl_q71, _, rfl, _, _, _, rfl, ho, nl_q11, _, rfl, A, g, b, p, rfl, B, O, ?_⟩
            refine ⟨A 6, A 7, _, Sd39.at3 g b p, rfl, ⟨⟨d3, h6⟩, h7⟩, by rw [O.l3]; exact p2 _, ?_⟩
            rw [O.l3, Nat.mod_eq_of_lt (at3_lt O p)]
            exact q
          · have c3 := isnk c
            rw [if_neg (by omega)] at q
            refine ⟨_, rfl, _, _, _, _, _, rfl, ho, T.k1.cl, T.k1.n_j9, lk_q44, _, _, _, rfl, h8, nl_q71, _, rfl, A 8, A 9, _, p / 4, rfl, ⟨⟨d4, h8⟩, h9⟩, by rw [O.l4]; exact p2 _, _, rfl, ?_⟩
            rw [O.l4]
            refine ite2 (fun c => ?_) (fun c => ?_)
            · rw [if_pos (show Sd39.says (b.choose.getD (Sd39.at1 g p) 1) = true from c)] at q
              exact ⟨_, rfl, _, _, _, rfl, ho, nl_q1, _, rfl, A, g, b, p, rfl, B, O, q⟩
            · rw [if_neg (show ¬ Sd39.says (b.choose.getD (Sd39.at1 g p) 1) = true from c)] at q
              refine ⟨_, rfl, _, _, _, _, _, rfl, ho, T.k1.cl, T.k1.n_j6, lk_q32, _, _, _, rfl, h2, nl_q71, _, rfl, A 2, A 3, _, p / 4, rfl, ⟨⟨d1, h2⟩, h3⟩, by rw [O.l1]; exact p2 _, ?_⟩
              rw [O.l1]
              exact q
theorem ok_q7 (T : Txt K mg t) (F : Fun K "learn_choice" "Branches.learn_choice" s_q7 f fd) : FnOk P w K mg base CX0 3 f fd ["self", "place", "taken"] (spChoice t) := by
  obtain ⟨f_q71, fd_q71, F_q71, b_q71, M_q71⟩ := T.k0.m_h28
  have G_q71 := ok_q71 (P := P) (w := w) (base := base) T F_q71
  obtain ⟨f_q59, fd_q59, F_q59, b_q59, M_q59⟩ := T.k0.m_h17
  have G_q59 := ok_q59 (P := P) (w := w) (base := base) T F_q59
  obtain ⟨f_q1, fd_q1, F_q1, b_q1, M_q1⟩ := T.k1.m_h14
  have G_q1 := ok_q1 (P := P) (w := w) (base := base) T F_q1
  refine F.ok sc_q7 (fun vs H Q E h => ?_) (fun cdv A outer s H vs Q E hr h => ?_)
  · obtain ⟨A, g, b, p, k, rfl, _⟩ := h
    rfl
  · obtain ⟨A, g, b, p, k, rfl, B, O, q⟩ := h
    obtain ⟨dx, ho⟩ := B.o
    obtain ⟨⟨d1, h2⟩, h3⟩ := B.k1
    obtain ⟨⟨d4, h8⟩, h9⟩ := B.k4
    refine ⟨_, (pss_cons (ps_set (i := 3) sc_q7.nd rfl (Or.inl rfl) (pe_meth (pv 0) T.k1.cl M_q1 G_q1 (hr.mono (by omega)) b_q1 .nil pass0 (pa_cons (pv 1) pa_nil)))
      (pss_one (ps_if (pt_cmpR op_ne (pv 3) (pe_meth (pe_fld (pv 0) rfl) T.k0.cl M_q71 G_q71 (hr.mono (by omega)) b_q71 .nil pass0 (pa_cons (pv 1) pa_nil)) (nomark _))
      (pss_one (ps_expr (pe_meth (pe_fld (pv 0) rfl) T.k0.cl M_q59 G_q59 (hr.mono (by omega)) b_q59 .nil pass0 (pa_cons (pv 1) (pa_cons (pe_cmpR op_eq (pv 3) (pv 2) (nomark _)) pa_nil)))))
      pss_nil))), ?_⟩
    refine ⟨_, rfl, _, _, _, rfl, ho, nl_q1, _, rfl, A, g, b, p, rfl, B, O, ?_⟩
    refine ⟨_, rfl, _, rfl, _, _, _, _, _, rfl, ho, T.k1.cl, T.k1.n_j6, lk_q32, _, _, _, rfl, h2, nl_q71, _, rfl, A 2, A 3, _, p / 4, rfl, ⟨⟨d1, h2⟩, h3⟩, by rw [O.l1]; exact p2 _, rfl, _, rfl, ?_⟩
    rw [O.l1]
    refine ite2 (fun c => ?_) (fun c => ?_)
    · have c' : Sd39.says (b.by_.getD (Sd39.at1 g p) 1) ≠ Sd39.says (b.both.getD (Sd39.at2 g b p) 1) := fun e => by
        rw [show b.by_.getD (p / 4 % 2 ^ g.table) 1 = b.by_.getD (Sd39.at1 g p) 1 from rfl, e] at c
        simp at c
      refine ⟨_, rfl, _, _, _, _, _, rfl, ho, T.k1.cl, T.k1.n_j9, lk_q44, _, _, _, rfl, h8, nl_q59, _, rfl, _, rfl, _, rfl, rfl, A 8, A 9, _, p / 4, (Sd39.says (b.both.getD (Sd39.at2 g b p) 1) == k), ?_, ⟨⟨d4, h8⟩, h9⟩, by rw [O.l4]; exact p2 _, ?_⟩
      · show [V.ref (A 8), nv (p / 4), V.bl (decide (V.bl (Sd39.says (b.both.getD (Sd39.at2 g b p) 1)) = V.bl k))] = _
        rw [bl_dec]
      · have e := q (upd H (A 9) (.lst ((chosen g b p k).map nv))) (B.put4 _) (ButA.refl.put (by decide))
        unfold chosen at e
        rw [if_pos c'] at e
        rw [O.l4]
        exact e
    · have c' : Sd39.says (b.by_.getD (Sd39.at1 g p) 1) = Sd39.says (b.both.getD (Sd39.at2 g b p) 1) := by
        have c2 : decide (V.bl (Sd39.says (b.both.getD (Sd39.at2 g b p) 1)) = V.bl (Sd39.says (b.by_.getD (Sd39.at1 g p) 1))) = true := by
          unfold Sd39.at1
          simpa using c
        have c3 := of_decide_eq_true c2
        injection c3 with c4
        exact c4.symm
      refine q H ?_ ButA.refl
      have e : chosen g b p k = b.choose := by unfold chosen; rw [if_neg (fun z => z c')]
      rw [e]
      exact B
theorem ok_q23 (T : Txt K mg t) (F : Fun K "learn_own" "Branches.learn_own" s_q23 f fd) : FnOk P w K mg base CX0 2 f fd ["self", "place", "taken"] (spOwn t) := by
  obtain ⟨f_q3, fd_q3, F_q3, b_q3, M_q3⟩ := T.k1.m_h21
  have G_q3 := ok_q3 (P := P) (w := w) (base := base) T F_q3
  obtain ⟨f_q59, fd_q59, F_q59, b_q59, M_q59⟩ := T.k0.m_h17
  have G_q59 := ok_q59 (P := P) (w := w) (base := base) T F_q59
  obtain ⟨f_q11, fd_q11, F_q11, b_q11, M_q11⟩ := T.k1.m_h23
  have G_q11 := ok_q11 (P := P) (w := w) (base := base) T F_q11
  refine F.ok sc_q23 (fun vs H Q E h => ?_) (fun cdv A outer s H vs Q E hr h => ?_)
  · obtain ⟨A, g, b, p, k, rfl, _⟩ := h
    rfl
  · obtain ⟨A, g, b, p, k, rfl, B, O, q⟩ := h
    obtain ⟨dx, ho⟩ := B.o
    obtain ⟨⟨d3, h6⟩, h7⟩ := B.k3
    refine ⟨_, (pss_cons (ps_set (i := 3) sc_q23.nd rfl (Or.inl rfl) (pe_meth (pv 0) T.k1.cl M_q11 G_q11 (hr.mono (by omega)) b_q11 .nil pass0 (pa_cons (pv 1) pa_nil)))
      (pss_cons (ps_expr (pe_meth (pe_fld (pv 0) rfl) T.k0.cl M_q59 G_q59 (hr.mono (by omega)) b_q59 .nil pass0 (pa_cons (pv 3) (pa_cons (pv 2) pa_nil))))
      (pss_one (ps_asg (pe_meth (pv 0) T.k1.cl M_q3 G_q3 (hr.mono (by omega)) b_q3 .nil pass0 (pa_cons (pv 3) (pa_cons (pv 2) pa_nil))) (pg_sub (pe_fld (pv 0) rfl) (pe_op op_mod (pv 1) (pe_callB call_len_seq rfl T.b_len PySem.boot_len (pa_cons (pe_fld (pv 0) rfl) pa_nil))) set_list))))), ?_⟩
    obtain ⟨x, hx⟩ := get_mod (l := b.own) (by rw [O.l5]; exact p2 _) (p / 4)
    have ex : Sd39.at3 g b p = x := by
      unfold Sd39.at3
      rw [O.l5] at hx
      exact getD_of hx
    refine ⟨_, rfl, _, _, _, rfl, ho, nl_q11, _, rfl, A, g, b, p, rfl, B, O, ?_⟩
    refine ⟨_, rfl, _, _, _, _, _, rfl, ho, T.k1.cl, T.k1.n_j5, lk_q43, _, _, _, rfl, h6, nl_q59, _, rfl, _, rfl, A 6, A 7, _, Sd39.at3 g b p, k, rfl, ⟨⟨d3, h6⟩, h7⟩, by rw [O.l3]; exact p2 _, ?_⟩
    rw [O.l3, Nat.mod_eq_of_lt (at3_lt O p)]
    have B1 := B.put3 (Sd39.changed b.pattern (Sd39.at3 g b p) (fun x => Sd39.moved x k))
    obtain ⟨dx1, ho1⟩ := B1.o
    refine ⟨_, rfl, _, _, _, rfl, ho1, nl_q3, _, rfl, _, rfl, A, g, _, Sd39.at3 g b p, k, rfl, B1, ?_⟩
    refine ⟨_, rfl, _, _, _, _, _, rfl, ho1, T.k1.cl, T.k1.n_j24, lk_q6, _, rfl, _, rfl, _, _, _, _, _, rfl, ho1, T.k1.cl, T.k1.n_j24, lk_q6, A 1, _, rfl, .inl (SqL.of B1.own), _, _, rfl, rfl, ?_, ?_⟩
    · rw [List.length_map]; show (0 : Int) < (b.own.length : Int); rw [O.l5]; have := p2 g.places; omega
    have hlt : p / 4 % b.own.length < b.own.length := (List.getElem?_eq_some_iff.mp hx).1
    refine ⟨A 1, _, _, p / 4 % b.own.length, rfl, rfl, B1.own, ?_, ?_⟩
    · rw [List.length_map]; exact ix_nat hlt
    · have B2 := B1.putO (Sd39.changed b.own (p / 4 % 2 ^ g.places) fun h => Sd39.pushed h k g.history)
      have e : Sd39.changed b.own (p / 4 % 2 ^ g.places) (fun h => Sd39.pushed h k g.history) = b.own.set (p / 4 % b.own.length) (Sd39.pushed (Sd39.at3 g b p) k g.history) := by
        rw [ex, ← O.l5]
        exact changed_eq hx _
      have q1 := q _ B2 ((ButA.refl.put (by decide)).put (by decide))
      rw [e, ← map_set_nv] at q1
      exact q1
theorem ok_q15 (T : Txt K mg t) (F : Fun K "learn_from" "Branches.learn_from" s_q15 f fd) : FnOk P w K mg base CX0 4 f fd ["self", "place", "taken"] (spLearnt t) := by
  obtain ⟨f_q3, fd_q3, F_q3, b_q3, M_q3⟩ := T.k1.m_h21
  have G_q3 := ok_q3 (P := P) (w := w) (base := base) T F_q3
  obtain ⟨f_q23, fd_q23, F_q23, b_q23, M_q23⟩ := T.k1.m_h20
  have G_q23 := ok_q23 (P := P) (w := w) (base := base) T F_q23
  obtain ⟨f_q59, fd_q59, F_q59, b_q59, M_q59⟩ := T.k0.m_h17
  have G_q59 := ok_q59 (P := P) (w := w) (base := base) T F_q59
  obtain ⟨f_q7, fd_q7, F_q7, b_q7, M_q7⟩ := T.k1.m_h18
  have G_q7 := ok_q7 (P := P) (w := w) (base := base) T F_q7
  refine F.ok sc_q15 (fun vs H Q E h => ?_) (fun cdv A outer s H vs Q E hr h => ?_)
  · obtain ⟨A, g, b, p, k, rfl, _⟩ := h
    rfl
  · obtain ⟨A, g, b, p, k, rfl, B, O, q⟩ := h
    obtain ⟨dx, ho⟩ := B.o
    refine ⟨_, (pss_cons (ps_if (pt_cmpR op_eq (pe_fld (pv 0) rfl) (pgl T.c_BY_CHOICE) (nomark _))
      (pss_one (ps_expr (pe_meth (pv 0) T.k1.cl M_q7 G_q7 (hr.mono (by omega)) b_q7 .nil pass0 (pa_cons (pv 1) (pa_cons (pv 2) pa_nil)))))
      pss_nil)
      (pss_cons (ps_if (pw_or (pt_cmpR op_eq (pe_fld (pv 0) rfl) (pgl T.c_BY_PLACE) (nomark _)) (pw_or1 (pt_cmpR op_eq (pe_fld (pv 0) rfl) (pgl T.c_BY_CHOICE) (nomark _)))).pt
      (pss_one (ps_expr (pe_meth (pe_fld (pv 0) rfl) T.k0.cl M_q59 G_q59 (hr.mono (by omega)) b_q59 .nil pass0 (pa_cons (pv 1) (pa_cons (pv 2) pa_nil)))))
      pss_nil)
      (pss_cons (ps_if (pw_or (pt_cmpR op_eq (pe_fld (pv 0) rfl) (pgl T.c_BY_COMMON_HISTORY) (nomark _)) (pw_or1 (pt_cmpR op_eq (pe_fld (pv 0) rfl) (pgl T.c_BY_CHOICE) (nomark _)))).pt
      (pss_one (ps_expr (pe_meth (pe_fld (pv 0) rfl) T.k0.cl M_q59 G_q59 (hr.mono (by omega)) b_q59 .nil pass0 (pa_cons (pe_op op_xor (pv 1) (pe_fld (pv 0) rfl)) (pa_cons (pv 2) pa_nil)))))
      pss_nil)
      (pss_cons (ps_if (pt_cmpR op_eq (pe_fld (pv 0) rfl) (pgl T.c_BY_OWN_HISTORY) (nomark _))
      (pss_one (ps_expr (pe_meth (pv 0) T.k1.cl M_q23 G_q23 (hr.mono (by omega)) b_q23 .nil pass0 (pa_cons (pv 1) (pa_cons (pv 2) pa_nil)))))
      pss_nil)
      (pss_one (ps_fld (pv 0) (pe_meth (pv 0) T.k1.cl M_q3 G_q3 (hr.mono (by omega)) b_q3 .nil pass0 (pa_cons (pe_fld (pv 0) rfl) (pa_cons (pv 2) pa_nil))) rfl)))))), ?_⟩
    have gk := O.gk
    refine ⟨_, rfl, _, _, _, _, _, rfl, ho, T.k1.cl, T.k1.n_j39, lk_q77, rfl, _, rfl, ?_⟩
    refine cut (fun H1 => BrAt t H1 A g { b with choose := if g.kind = 4 then chosen g b p k else b.choose } ∧ ButA H H1 A) ?_ (fun c rest => ?_) (fun c => ?_)
    rotate_left
    · have c := isk c
      refine ⟨_, rfl, _, _, _, rfl, ho, nl_q7, _, rfl, _, rfl, A, g, b, p, k, rfl, B, O, fun H1 B1 k1 => rest H1 ⟨?_, k1⟩⟩
      rw [if_pos (by omega)]
      exact B1
    · have c := isnk c
      rw [if_neg (by omega)]
      exact ⟨B, ButA.refl⟩
    rintro H1 ⟨B1, k1⟩
    clear ho dx
    obtain ⟨dx, ho⟩ := B1.o
    obtain ⟨⟨d1, h2⟩, h3⟩ := B1.k1
    refine ⟨_, rfl, _, _, _, _, _, rfl, ho, T.k1.cl, T.k1.n_j39, lk_q77, rfl, _, rfl, ?_⟩
    refine cutOr (c2 := decide (nv g.kind = V.int 4) = true) (fun H2 => BrAt t H2 A g { b with choose := if g.kind = 4 then chosen g b p k else b.choose, by_ := if g.kind = 1 ∨ g.kind = 4 then Sd39.changed b.by_ (Sd39.at1 g p) (fun x => Sd39.moved x k) else b.by_ } ∧ ButA H H2 A) ?_ (fun z => ⟨_, rfl, _, _, _, _, _, rfl, ho, T.k1.cl, T.k1.n_j39, lk_q77, rfl, _, rfl, z⟩) (fun c rest => ?_) (fun c => ?_)
    rotate_left
    · have c' : g.kind = 1 ∨ g.kind = 4 := c.elim (fun z => .inl (by have := isk z; omega)) fun z => .inr (by have := isk z; omega)
      refine ⟨_, rfl, _, _, _, _, _, rfl, ho, T.k1.cl, T.k1.n_j6, lk_q32, _, _, _, rfl, h2, nl_q59, _, rfl, _, rfl, A 2, A 3, _, p / 4, k, rfl, ⟨⟨d1, h2⟩, h3⟩, by show 0 < b.by_.length; rw [O.l1]; exact p2 _, rest _ ⟨?_, k1.put (by decide)⟩⟩
      rw [if_pos c']
      have e := B1.put1 (Sd39.changed b.by_ (Sd39.at1 g p) (fun x => Sd39.moved x k))
      show BrAt t (upd H1 (A 3) (.lst ((Sd39.changed b.by_ (p / 4 % b.by_.length) fun x => Sd39.moved x k).map nv))) A g _
      rw [O.l1]
      exact e
    · have c' : ¬ (g.kind = 1 ∨ g.kind = 4) := fun z => c (z.elim (fun z => .inl (kis z)) fun z => .inr (kis z))
      rw [if_neg c']
      exact ⟨B1, k1⟩
    rintro H2 ⟨B2, k2⟩
    clear ho dx h2 h3 d1
    obtain ⟨dx, ho⟩ := B2.o
    obtain ⟨⟨d1, h4⟩, h5⟩ := B2.k2
    refine ⟨_, rfl, _, _, _, _, _, rfl, ho, T.k1.cl, T.k1.n_j39, lk_q77, rfl, _, rfl, ?_⟩
    refine cutOr (c2 := decide (nv g.kind = V.int 4) = true) (fun H3 => BrAt t H3 A g { b with choose := if g.kind = 4 then chosen g b p k else b.choose, by_ := if g.kind = 1 ∨ g.kind = 4 then Sd39.changed b.by_ (Sd39.at1 g p) (fun x => Sd39.moved x k) else b.by_, both := if g.kind = 2 ∨ g.kind = 4 then Sd39.changed b.both (Sd39.at2 g b p) (fun x => Sd39.moved x k) else b.both } ∧ ButA H H3 A) ?_ (fun z => ⟨_, rfl, _, _, _, _, _, rfl, ho, T.k1.cl, T.k1.n_j39, lk_q77, rfl, _, rfl, z⟩) (fun c rest => ?_) (fun c => ?_)
    rotate_left
    · have c' : g.kind = 2 ∨ g.kind = 4 := c.elim (fun z => .inl (by have := isk z; omega)) fun z => .inr (by have := isk z; omega)
      refine ⟨_, rfl, _, _, _, _, _, rfl, ho, T.k1.cl, T.k1.n_j4, lk_q22, _, _, _, rfl, h4, nl_q59, _, rfl, _, rfl, _, _, _, _, _, rfl, ho, T.k1.cl, T.k1.n_j10, lk_q2, _, _, rfl, rfl, _, rfl, A 4, A 5, _, p / 4 ^^^ b.history, k, ?_, ⟨⟨d1, h4⟩, h5⟩, by show 0 < b.both.length; rw [O.l2]; exact p2 _, rest _ ⟨?_, k2.put (by decide)⟩⟩
      · show [V.ref (A 4), V.int (Builtin.bitXor ((p / 4 : Nat) : Int) (b.history : Int)), V.bl k] = _
        rw [bitXor_nat]
      rw [if_pos c']
      have e := B2.put2 (Sd39.changed b.both (Sd39.at2 g b p) (fun x => Sd39.moved x k))
      show BrAt t (upd H2 (A 5) (.lst ((Sd39.changed b.both ((p / 4 ^^^ b.history) % b.both.length) fun x => Sd39.moved x k).map nv))) A g _
      rw [O.l2]
      exact e
    · have c' : ¬ (g.kind = 2 ∨ g.kind = 4) := fun z => c (z.elim (fun z => .inl (kis z)) fun z => .inr (kis z))
      rw [if_neg c']
      exact ⟨B2, k2⟩
    rintro H3 ⟨B3, k3⟩
    clear ho dx h4 h5 d1
    obtain ⟨dx, ho⟩ := B3.o
    refine ⟨_, rfl, _, _, _, _, _, rfl, ho, T.k1.cl, T.k1.n_j39, lk_q77, rfl, _, rfl, ?_⟩
    refine cut (fun H4 => ∃ b4, BrAt t H4 A g b4 ∧ ButA H H4 A ∧ b4.history = b.history ∧ { b4 with history := Sd39.pushed b.history k g.history } = Sd39.learnt g b p k) ?_ (fun c rest => ?_) (fun c => ?_)
    rotate_left
    · have c : g.kind = 3 := by have := isk c; omega
      rw [if_neg (by omega), if_neg (by omega), if_neg (by omega)] at B3
      have B3 : BrAt t H3 A g b := B3
      have ho : H3 (A 0) = some (.ins t.k1 dx (fB g A b)) := ho
      refine ⟨_, rfl, _, _, _, rfl, ho, nl_q23, _, rfl, _, rfl, A, g, b, p, k, rfl, B3, O, fun H4 B4 k4 => rest H4 ⟨_, B4, k3.trans k4, rfl, ?_⟩⟩
      unfold Sd39.learnt
      simp [c]
    · have c : ¬ g.kind = 3 := fun z => c (kis z)
      refine ⟨_, B3, k3, rfl, ?_⟩
      unfold Sd39.learnt chosen
      obtain h | h | h | h : g.kind = 0 ∨ g.kind = 1 ∨ g.kind = 2 ∨ g.kind = 4 := by omega
      all_goals simp [h]
      split <;> simp_all
    rintro H4 ⟨b4, B4, k4, e1, e2⟩
    clear ho dx
    obtain ⟨dx, ho⟩ := B4.o
    refine ⟨_, rfl, _, _, _, rfl, ho, nl_q3, _, rfl, _, _, _, _, _, rfl, ho, T.k1.cl, T.k1.n_j10, lk_q2, _, rfl, A, g, _, b4.history, k, rfl, B4, ?_⟩
    refine ⟨_, rfl, _, _, _, _, rfl, ho, T.k1.cl, T.k1.n_j10, (by show 10 < 1000; decide), ?_⟩
    refine q _ ?_ (k4.put (by decide))
    rw [← e2]
    refine B4.putB ?_ rfl rfl rfl rfl rfl
    rw [e1]
    exact pf_q2
theorem ok_q5 (T : Txt K mg t) (F : Fun K "follow_branch" "Branches.follow_branch" s_q5 f fd) : FnOk P w K mg base CX0 5 f fd ["self", "address", "taken"] (spBranch t) := by
  obtain ⟨f_q15, fd_q15, F_q15, b_q15, M_q15⟩ := T.k1.m_h19
  have G_q15 := ok_q15 (P := P) (w := w) (base := base) T F_q15
  obtain ⟨f_q53, fd_q53, F_q53, b_q53, M_q53⟩ := T.k1.m_h13
  have G_q53 := ok_q53 (P := P) (w := w) (base := base) T F_q53
  refine F.ok sc_q5 (fun vs H Q E h => ?_) (fun cdv A outer s H vs Q E hr h => ?_)
  · obtain ⟨A, g, b, p, k, rfl, _⟩ := h
    rfl
  · obtain ⟨A, g, b, p, k, rfl, B, O, q⟩ := h
    obtain ⟨dx, ho⟩ := B.o
    refine ⟨_, (pss_cons (ps_set (i := 3) sc_q5.nd rfl (Or.inl rfl) (pe_op op_fdiv (pv 1) pe_int))
      (pss_cons (ps_fldaug (pv 0) pe_int in_add)
      (pss_cons (ps_if (pt_cmpR op_ne (pe_meth (pv 0) T.k1.cl M_q53 G_q53 (hr.mono (by omega)) b_q53 .nil pass0 (pa_cons (pv 3) pa_nil)) (pv 2) (nomark _))
      (pss_one (ps_fldaug (pv 0) pe_int in_add))
      pss_nil)
      (pss_one (ps_expr (pe_meth (pv 0) T.k1.cl M_q15 G_q15 (hr.mono (by omega)) b_q15 .nil pass0 (pa_cons (pv 3) (pa_cons (pv 2) pa_nil)))))))), ?_⟩
    refine ⟨_, rfl, _, _, rfl, rfl, ⟨by decide, by decide⟩, ?_⟩
    refine ⟨_, rfl, _, _, _, _, _, rfl, ho, T.k1.cl, T.k1.n_j3, lk_q31, _, _, rfl, rfl, _, _, ho, (by show 10 < 1000; decide), ?_⟩
    have B1 : BrAt t (upd H (A 0) (.ins t.k1 dx (putF "branches" (.int ((b.branches : Int) + 1)) (fB g A b)))) A g { b with branches := b.branches + 1 } := B.putB pf_q31 rfl rfl rfl rfl rfl
    have k1 : ButA H (upd H (A 0) (.ins t.k1 dx (putF "branches" (.int ((b.branches : Int) + 1)) (fB g A b)))) A := ButA.refl.put (by decide)
    revert B1 k1
    generalize (upd H (A 0) (.ins t.k1 dx (putF "branches" (.int ((b.branches : Int) + 1)) (fB g A b)))) = H1
    intro B1 k1
    clear ho dx
    obtain ⟨dx, ho⟩ := B1.o
    have O1 : BrOk g { b with branches := b.branches + 1 } := ⟨O.l1, O.l2, O.l3, O.l4, O.l5, O.hh, O.ho, O.gh, O.gk⟩
    refine ⟨_, rfl, _, _, _, rfl, ho, nl_q53, _, rfl, A, g, _, p, rfl, B1, O1, _, rfl, rfl, _, rfl, ?_⟩
    refine cut (fun H2 => BrAt t H2 A g { b with branches := b.branches + 1, wrong := b.wrong + if Sd39.guessed g b p = k then 0 else 1 } ∧ ButA H H2 A) ?_ (fun c rest => ?_) (fun c => ?_)
    rotate_left
    · have c' : ¬ Sd39.guessed g b p = k := fun z => by
        rw [show Sd39.guessed g { b with branches := b.branches + 1 } p = Sd39.guessed g b p from rfl, z] at c
        simp at c
      refine ⟨_, rfl, _, _, _, _, _, rfl, ho, T.k1.cl, T.k1.n_j45, lk_q54, _, _, rfl, rfl, _, _, ho, (by show 10 < 1000; decide), rest _ ⟨?_, k1.put (by decide)⟩⟩
      rw [if_neg c']
      exact B1.putB pf_q54 rfl rfl rfl rfl rfl
    · have c' : Sd39.guessed g b p = k := by
        have c0 : ¬ (!decide (V.bl (Sd39.guessed g b p) = V.bl k)) = true := c
        have c2 : decide (V.bl (Sd39.guessed g b p) = V.bl k) = true := by simpa using c0
        have c3 := of_decide_eq_true c2
        injection c3
      rw [if_pos c']
      exact ⟨B1, k1⟩
    rintro H2 ⟨B2, k2⟩
    clear ho dx
    obtain ⟨dx, ho⟩ := B2.o
    refine ⟨_, rfl, _, _, _, rfl, ho, nl_q15, _, rfl, _, rfl, A, g, _, p, k, rfl, B2, ⟨O.l1, O.l2, O.l3, O.l4, O.l5, O.hh, O.ho, O.gh, O.gk⟩, fun H3 B3 k3 => q H3 B3 (k2.trans k3)⟩
end
end CG
namespace CG
open PySem PySem.Spec PyProof.Rows L2
theorem made {H1 H2 : Hp} {x dx C : Addr} (nx : H1 x = none) (nd : H1 dx = none) (k : But (upd (upd H1 dx (.own x)) x (.ins C dx [])) H2 [x]) : Same H1 H2 := fun b o e =>
  k b o (by rw [upd_ne (ne_of_none e nx), upd_ne (ne_of_none e nd)]; exact e) (by simp; exact ne_of_none e nx)
structure Mid (H : Hp) (p C dx : Addr) (fs : List (Str × V)) (H1 : Hp) : Prop where
  at_ : H1 p = some (.ins C dx fs)
  but : But H H1 [p]
section
variable {H H1 H2 : Hp} {p C dx : Addr} {fs : List (Str × V)}
theorem Mid.start (h : H p = some (.ins C dx fs)) : Mid H p C dx fs H := ⟨h, But.refl⟩
theorem Mid.put (m : Mid H p C dx fs H1) (f : Str) (v : V) : Mid H p C dx (putF f v fs) (upd H1 p (.ins C dx (putF f v fs))) := ⟨upd_same, m.but.put (by simp)⟩
theorem Mid.new (m : Mid H p C dx fs H1) (s : Same H1 H2) : Mid H p C dx fs H2 := ⟨s _ _ m.at_, m.but.trans (But.of_same s)⟩
theorem Mid.go {R : Hp → Prop} {f : Str} {v : V} (m : Mid H p C dx fs H1) (k : ∀ H2, Mid H p C dx (putF f v fs) H2 → But H1 H2 [p] → R H2) : R (upd H1 p (.ins C dx (putF f v fs))) := k _ (m.put f v) (But.refl.put (by simp))
theorem go_new {R : Hp → Prop} {o : HO} (hn : H1 p = none) (k : ∀ H2, H2 p = some o → Same H1 H2 → R H2) : R (upd H1 p o) := k _ upd_same (new_ne hn)
theorem go_put {R : Hp → Prop} {o : HO} (k : ∀ H2, H2 p = some o → But H1 H2 [p] → R H2) : R (upd H1 p o) := k _ upd_same (But.refl.put (by simp))
theorem nin {a b : Addr} (h : a ≠ b) : a ∉ [b] := by simp; exact h
theorem Mid.ne (m : Mid H p C dx fs H1) {b : Addr} (h : H1 b = none) : b ≠ p := (ne_of_none m.at_ h).symm
theorem Mid.none0 (m : Mid H p C dx fs H1) {b : Addr} (h : H1 b = none) : H b = none := by
  cases e : H b with
  | none => rfl
  | some o =>
    have q := m.but b o e (by simp; exact m.ne h)
    rw [h] at q; cases q
end
def spBrInit (t : Cs) : Sp := fun vs H Q _ => ∃ (p sl : Addr) (g : Sd39.Guess), vs = [.ref p, .ref sl] ∧ Fresh H p t.k1 ∧ H sl = some (.lst ([g.kind, g.table, g.history, g.places, g.tsets, g.tways, g.returns].map nv)) ∧ g.table ≤ 14 ∧ g.history ≤ 14 ∧ g.places ≤ 10 ∧
  ∀ (H' : Hp) (A : Nat → Addr), A 0 = p → BrAt t H' A g (Sd39.fresh g) → (∀ i, 0 < i → i < 10 → H (A i) = none) → But H H' [p] → Q .non H'
theorem pow14 {n : Nat} (h : n ≤ 14) : 2 ^ n ≤ 16384 := Nat.pow_le_pow_right (by decide) h
theorem shl1 (k : Nat) : (1 : Int) * 2 ^ (k : Int).toNat = ((2 ^ k : Nat) : Int) := by have := shl_cast 1 k; rw [Nat.one_mul] at this; exact this
theorem cpow1 {k : Nat} (h : k ≤ 1000) : CPow 1 (k : Int) := cpow (a := 1) (by decide) h
theorem rep1 {k : Nat} (h : k ≤ 14) : -(2 ^ 63) ≤ (1 : Int) * 2 ^ (k : Int).toNat ∧ (1 : Int) * 2 ^ (k : Int).toNat < 2 ^ 63 ∧ 1 * ((1 : Int) * 2 ^ (k : Int).toNat).toNat ≤ sizeLine := by
  rw [shl1, Int.toNat_natCast, sl]
  have := pow14 h
  generalize 2 ^ k = z at this ⊢
  omega
theorem mk_none {H1 : Hp} {x dx l : Addr} {o u : HO} (h : (upd (upd H1 dx o) x u) l = none) : H1 l = none ∧ l ≠ x := by
  have n1 : l ≠ x := fun e => by rw [e, upd_same] at h; cases h
  rw [upd_ne n1] at h
  have n2 : l ≠ dx := fun e => by rw [e, upd_same] at h; cases h
  rw [upd_ne n2] at h
  exact ⟨h, n1⟩
theorem CtrAt.keep {t : Cs} {H H' : Hp} {a l : Addr} {xs : List Nat} {S : List Addr} (c : CtrAt t H a l xs) (k : But H H' S) (h1 : a ∉ S) (h2 : l ∉ S) : CtrAt t H' a l xs := by
  obtain ⟨⟨dx, e1⟩, e2⟩ := c
  exact ⟨⟨dx, k _ _ e1 h1⟩, k _ _ e2 h2⟩
theorem CtrAt.same {t : Cs} {H H' : Hp} {a l : Addr} {xs : List Nat} (c : CtrAt t H a l xs) (k : Same H H') : CtrAt t H' a l xs := by
  obtain ⟨⟨dx, e1⟩, e2⟩ := c
  exact ⟨⟨dx, k _ _ e1⟩, k _ _ e2⟩
theorem CtrAt.ne {t : Cs} {H : Hp} {a l b : Addr} {xs : List Nat} (c : CtrAt t H a l xs) (h : H b = none) : a ≠ b ∧ l ≠ b := by
  obtain ⟨⟨dx, e1⟩, e2⟩ := c
  exact ⟨ne_of_none e1 h, ne_of_none e2 h⟩
theorem CtrAt.ne2 {t : Cs} {H : Hp} {a l : Addr} {xs : List Nat} (c : CtrAt t H a l xs) : a ≠ l := by
  obtain ⟨⟨dx, e1⟩, e2⟩ := c
  exact ne_of e1 e2 (by intro z; cases z)
def adr (l : List Addr) (i : Nat) : Addr := l.getD i 0
theorem adr_inj {l : List Addr} (h : l.Nodup) : ∀ i j, i < l.length → j < l.length → adr l i = adr l j → i = j := fun i j hi hj e => by
  unfold adr at e
  rw [List.getD_eq_getElem?_getD, List.getD_eq_getElem?_getD, List.getElem?_eq_getElem hi, List.getElem?_eq_getElem hj] at e
  exact (List.getElem_inj h).mp e
section
variable {P : Program} {w : World} {K : W.Frag} {mg : Str → Option Value} {base : Heap} {t : Cs} {f : Addr} {fd : FuncData}
theorem ok_q64 (T : Txt K mg t) (F : Fun K "__init__" "Branches.__init__" s_q64 f fd) : FnOk P w K mg base CX0 3 f fd ["self", "settings"] (spBrInit t) := by
  obtain ⟨f_q70, fd_q70, F_q70, b_q70, M_q70⟩ := T.k0.init
  have G_q70 := ok_q70 (P := P) (w := w) (base := base) T F_q70
  refine F.ok sc_q64 (fun vs H Q E h => ?_) (fun cdv A outer s H vs Q E hr h => ?_)
  · obtain ⟨p, sl, g, rfl, _⟩ := h
    rfl
  · obtain ⟨p, sl, g, rfl, ⟨dx, hp⟩, hS, g1, g2, g3, q⟩ := h
    have nsl : sl ≠ p := ne_of hS hp (by intro z; cases z)
    have ps : sl ∉ [p] := by simp; exact nsl
    refine ⟨_, (pss_cons (ps_set (i := 2) sc_q64.nd rfl (Or.inl rfl) (pe_op op_shl pe_int (pe_ix ix_list (pv 1) pe_int (fun _ _ => rfl))))
      (pss_cons (ps_fld (pv 0) (pe_ix ix_list (pv 1) pe_int (fun _ _ => rfl)) rfl)
      (pss_cons (ps_fld (pv 0) (pe_op op_shl pe_int (pe_ix ix_list (pv 1) pe_int (fun _ _ => rfl))) rfl)
      (pss_cons (ps_fld (pv 0) pe_int rfl)
      (pss_cons (ps_fld (pv 0) (pe_op op_rep (pe_lst (pa_cons pe_int pa_nil)) (pe_op op_shl pe_int (pe_ix ix_list (pv 1) pe_int (fun _ _ => rfl)))) rfl)
      (pss_cons (ps_fld (pv 0) (pe_make M_q70 G_q70 (hr.mono (by omega)) rfl T.k0.mgC b_q70 .nil pass0 (pa_cons (pv 2) pa_nil)) rfl)
      (pss_cons (ps_fld (pv 0) (pe_make M_q70 G_q70 (hr.mono (by omega)) rfl T.k0.mgC b_q70 .nil pass0 (pa_cons (pv 2) pa_nil)) rfl)
      (pss_cons (ps_fld (pv 0) (pe_make M_q70 G_q70 (hr.mono (by omega)) rfl T.k0.mgC b_q70 .nil pass0 (pa_cons (pe_fld (pv 0) rfl) pa_nil)) rfl)
      (pss_cons (ps_fld (pv 0) (pe_make M_q70 G_q70 (hr.mono (by omega)) rfl T.k0.mgC b_q70 .nil pass0 (pa_cons (pv 2) pa_nil)) rfl)
      (pss_cons (ps_fld (pv 0) pe_int rfl)
      (pss_one (ps_fld (pv 0) pe_int rfl)))))))))))), ?_⟩
    refine ⟨_, rfl, sl, _, _, nv g.table, rfl, rfl, SqL.of hS, at_nat (j := 1) rfl rfl, _, _, rfl, rfl, cpow1 (by omega), ?_⟩
    refine ⟨_, rfl, sl, _, _, nv g.kind, rfl, rfl, SqL.of hS, at_nat (j := 0) rfl rfl, _, rfl, _, _, _, _, rfl, hp, T.k1.cl, T.k1.n_j39, (by show 0 < 1000; decide), ?_⟩
    refine (Mid.start hp).go fun H1 m1 _ => ?_
    refine ⟨_, rfl, sl, _, _, nv g.history, rfl, rfl, SqL.of (m1.but.at hS ps), at_nat (j := 2) rfl rfl, _, _, rfl, rfl, cpow1 (by omega), _, rfl, _, _, _, _, rfl, m1.at_, T.k1.cl, T.k1.n_j13, (by show 1 < 1000; decide), ?_⟩
    refine m1.go fun H2 m2 _ => ?_
    refine ⟨_, rfl, _, _, _, _, rfl, m2.at_, T.k1.cl, T.k1.n_j10, (by show 2 < 1000; decide), ?_⟩
    refine m2.go fun H3 m3 _ => ?_
    refine ⟨(by show 1 ≤ sizeLine; decide), fun q1 hq1 => ?_⟩
    have m3' := m3.new (new_ne (o := .lst [.int 0]) hq1)
    refine ⟨_, rfl, sl, _, _, nv g.places, rfl, rfl, SqL.of (m3'.but.at hS ps), at_nat (j := 3) rfl rfl, _, _, rfl, rfl, cpow1 (by omega), q1, _, _, rfl, rfl, upd_same, (rep1 (by omega)).1, (rep1 (by omega)).2.1, (rep1 (by omega)).2.2, fun l1 hl1 => ?_⟩
    have n1 := m3'.none0 hl1
    have p1 := m3'.ne hl1
    refine ⟨_, rfl, p, _, dx, _, rfl, (new_ne hl1) _ _ m3'.at_, T.k1.cl, T.k1.n_j24, (by show 3 < 1000; decide), ?_⟩
    have m4 := m3'.new (new_ne (o := .lst (List.replicate ((1 : Int) * 2 ^ (g.places : Int).toNat).toNat [V.int 0]).flatten) hl1)
    refine m4.go fun H5 m5 k5 => ?_
    have e1 : H5 l1 = some (.lst ((List.replicate (2 ^ g.places) 0).map nv)) := by
      refine k5 _ _ ?_ (nin p1)
      rw [upd_same, shl1]
      exact congrArg (fun z => some (HO.lst z)) (rep_nv _ 0)
    clear k5 m4 m3' m3 m2 m1
    have sz : V.int (1 * 2 ^ (g.table : Int).toNat) = nv (2 ^ g.table) := congrArg V.int (shl1 _)
    have hz : V.int (1 * 2 ^ (g.history : Int).toNat) = nv (2 ^ g.history) := congrArg V.int (shl1 _)
    have b1 := pow14 g1
    have b2 := pow14 g2
    refine ⟨_, rfl, fun x2 dx2 nx2 nd2 _ => ⟨x2, 2 ^ g.table, congrArg (fun z => [V.ref x2, z]) sz, ⟨_, upd_same⟩, (by omega), fun H6 l3 C2 nl3 k6 => ⟨rfl, ?_⟩⟩⟩
    have s6 : Same H5 H6 := made nx2 nd2 k6
    have m6 := m5.new s6
    obtain ⟨n3, x3⟩ := mk_none nl3
    refine ⟨_, rfl, _, _, _, _, rfl, m6.at_, T.k1.cl, T.k1.n_j6, (by show 4 < 1000; decide), ?_⟩
    refine m6.go fun H7 m7 k7 => ?_
    have c2 : CtrAt t H7 x2 l3 (List.replicate (2 ^ g.table) 1) := C2.keep k7 (nin (m5.ne nx2)) (nin (m5.ne n3))
    have e1 := k7 _ _ (s6 _ _ e1) (nin p1)
    have a2 : l1 ≠ x2 ∧ l1 ≠ l3 := ⟨ne_of_none (H := H5) (by assumption) nx2, ne_of_none (H := H5) (by assumption) n3⟩
    have z2 : H x2 = none ∧ H l3 = none ∧ x2 ≠ p ∧ l3 ≠ p := ⟨m5.none0 nx2, m5.none0 n3, m5.ne nx2, m5.ne n3⟩
    clear C2 k6 k7 s6 m6 m5 nx2 nd2 nl3 n3 x3
    refine ⟨_, rfl, fun x4 dx4 nx4 nd4 _ => ⟨x4, 2 ^ g.table, congrArg (fun z => [V.ref x4, z]) sz, ⟨_, upd_same⟩, (by omega), fun H8 l5 C4 nl5 k8 => ⟨rfl, ?_⟩⟩⟩
    have s8 : Same H7 H8 := made nx4 nd4 k8
    have m8 := m7.new s8
    obtain ⟨n5, x5⟩ := mk_none nl5
    refine ⟨_, rfl, _, _, _, _, rfl, m8.at_, T.k1.cl, T.k1.n_j4, (by show 5 < 1000; decide), ?_⟩
    refine m8.go fun H9 m9 k9 => ?_
    have c4 : CtrAt t H9 x4 l5 (List.replicate (2 ^ g.table) 1) := C4.keep k9 (nin (m7.ne nx4)) (nin (m7.ne n5))
    have a4 : l1 ≠ x4 ∧ l1 ≠ l5 := ⟨ne_of_none e1 nx4, ne_of_none e1 n5⟩
    have a24 : (x2 ≠ x4 ∧ l3 ≠ x4) ∧ (x2 ≠ l5 ∧ l3 ≠ l5) := ⟨c2.ne nx4, c2.ne n5⟩
    have e1 := k9 _ _ (s8 _ _ e1) (nin p1)
    have c2 := (c2.same s8).keep k9 (nin z2.2.2.1) (nin z2.2.2.2)
    have z4 : H x4 = none ∧ H l5 = none ∧ x4 ≠ p ∧ l5 ≠ p := ⟨m7.none0 nx4, m7.none0 n5, m7.ne nx4, m7.ne n5⟩
    clear C4 k8 k9 s8 m8 m7 nx4 nd4 nl5 n5 x5
    refine ⟨_, rfl, p, _, dx, _, _, rfl, m9.at_, T.k1.cl, T.k1.n_j13, rfl, fun x6 dx6 nx6 nd6 _ => ⟨x6, 2 ^ g.history, congrArg (fun z => [V.ref x6, z]) hz, ⟨_, upd_same⟩, (by omega), fun H10 l7 C6 nl7 k10 => ⟨rfl, ?_⟩⟩⟩
    have s10 : Same H9 H10 := made nx6 nd6 k10
    have m10 := m9.new s10
    obtain ⟨n7, x7⟩ := mk_none nl7
    refine ⟨_, rfl, _, _, _, _, rfl, m10.at_, T.k1.cl, T.k1.n_j5, (by show 6 < 1000; decide), ?_⟩
    refine m10.go fun H11 m11 k11 => ?_
    have c6 : CtrAt t H11 x6 l7 (List.replicate (2 ^ g.history) 1) := C6.keep k11 (nin (m9.ne nx6)) (nin (m9.ne n7))
    have a6 : l1 ≠ x6 ∧ l1 ≠ l7 := ⟨ne_of_none e1 nx6, ne_of_none e1 n7⟩
    have a26 : (x2 ≠ x6 ∧ l3 ≠ x6) ∧ (x2 ≠ l7 ∧ l3 ≠ l7) := ⟨c2.ne nx6, c2.ne n7⟩
    have a46 : (x4 ≠ x6 ∧ l5 ≠ x6) ∧ (x4 ≠ l7 ∧ l5 ≠ l7) := ⟨c4.ne nx6, c4.ne n7⟩
    have e1 := k11 _ _ (s10 _ _ e1) (nin p1)
    have c2 := (c2.same s10).keep k11 (nin z2.2.2.1) (nin z2.2.2.2)
    have c4 := (c4.same s10).keep k11 (nin z4.2.2.1) (nin z4.2.2.2)
    have z6 : H x6 = none ∧ H l7 = none ∧ x6 ≠ p ∧ l7 ≠ p := ⟨m9.none0 nx6, m9.none0 n7, m9.ne nx6, m9.ne n7⟩
    clear C6 k10 k11 s10 m10 m9 nx6 nd6 nl7 n7 x7
    refine ⟨_, rfl, fun x8 dx8 nx8 nd8 _ => ⟨x8, 2 ^ g.table, congrArg (fun z => [V.ref x8, z]) sz, ⟨_, upd_same⟩, (by omega), fun H12 l9 C8 nl9 k12 => ⟨rfl, ?_⟩⟩⟩
    have s12 : Same H11 H12 := made nx8 nd8 k12
    have m12 := m11.new s12
    obtain ⟨n9, x9⟩ := mk_none nl9
    refine ⟨_, rfl, _, _, _, _, rfl, m12.at_, T.k1.cl, T.k1.n_j9, (by show 7 < 1000; decide), ?_⟩
    refine m12.go fun H13 m13 k13 => ?_
    have c8 : CtrAt t H13 x8 l9 (List.replicate (2 ^ g.table) 1) := C8.keep k13 (nin (m11.ne nx8)) (nin (m11.ne n9))
    have a8 : l1 ≠ x8 ∧ l1 ≠ l9 := ⟨ne_of_none e1 nx8, ne_of_none e1 n9⟩
    have a28 : (x2 ≠ x8 ∧ l3 ≠ x8) ∧ (x2 ≠ l9 ∧ l3 ≠ l9) := ⟨c2.ne nx8, c2.ne n9⟩
    have a48 : (x4 ≠ x8 ∧ l5 ≠ x8) ∧ (x4 ≠ l9 ∧ l5 ≠ l9) := ⟨c4.ne nx8, c4.ne n9⟩
    have a68 : (x6 ≠ x8 ∧ l7 ≠ x8) ∧ (x6 ≠ l9 ∧ l7 ≠ l9) := ⟨c6.ne nx8, c6.ne n9⟩
    have e1 := k13 _ _ (s12 _ _ e1) (nin p1)
    have c2 := (c2.same s12).keep k13 (nin z2.2.2.1) (nin z2.2.2.2)
    have c4 := (c4.same s12).keep k13 (nin z4.2.2.1) (nin z4.2.2.2)
    have c6 := (c6.same s12).keep k13 (nin z6.2.2.1) (nin z6.2.2.2)
    have z8 : H x8 = none ∧ H l9 = none ∧ x8 ≠ p ∧ l9 ≠ p := ⟨m11.none0 nx8, m11.none0 n9, m11.ne nx8, m11.ne n9⟩
    clear C8 k12 k13 s12 m12 m11 nx8 nd8 nl9 n9 x9
    refine ⟨_, rfl, _, _, _, _, rfl, m13.at_, T.k1.cl, T.k1.n_j3, (by show 8 < 1000; decide), ?_⟩
    refine m13.go fun H14 m14 k14 => ?_
    refine ⟨_, rfl, _, _, _, _, rfl, m14.at_, T.k1.cl, T.k1.n_j45, (by show 9 < 1000; decide), ?_⟩
    refine m14.go fun H15 m15 k15 => ?_
    have e1 := k15 _ _ (k14 _ _ e1 (nin p1)) (nin p1)
    have c2 := (c2.keep k14 (nin z2.2.2.1) (nin z2.2.2.2)).keep k15 (nin z2.2.2.1) (nin z2.2.2.2)
    have c4 := (c4.keep k14 (nin z4.2.2.1) (nin z4.2.2.2)).keep k15 (nin z4.2.2.1) (nin z4.2.2.2)
    have c6 := (c6.keep k14 (nin z6.2.2.1) (nin z6.2.2.2)).keep k15 (nin z6.2.2.1) (nin z6.2.2.2)
    have c8 := (c8.keep k14 (nin z8.2.2.1) (nin z8.2.2.2)).keep k15 (nin z8.2.2.1) (nin z8.2.2.2)
    refine q H15 (adr [p, l1, x2, l3, x4, l5, x6, l7, x8, l9]) rfl ⟨⟨dx, ?_⟩, e1, c2, c4, c6, c8, adr_inj (l := [p, l1, x2, l3, x4, l5, x6, l7, x8, l9]) ?_⟩ ?_ m15.but
    · have e := m15.at_
      rw [show (fun i j : Int => V.int (i * 2 ^ j.toNat)) 1 (g.history : Int) = nv (2 ^ g.history) from hz] at e
      exact e
    · simp only [List.nodup_cons, List.mem_cons, List.not_mem_nil, or_false, not_or, List.nodup_nil, and_true, not_false_eq_true]
      exact ⟨⟨p1.symm, z2.2.2.1.symm, z2.2.2.2.symm, z4.2.2.1.symm, z4.2.2.2.symm, z6.2.2.1.symm, z6.2.2.2.symm, z8.2.2.1.symm, z8.2.2.2.symm⟩, ⟨a2.1, a2.2, a4.1, a4.2, a6.1, a6.2, a8.1, a8.2⟩,
        ⟨c2.ne2, a24.1.1, a24.2.1, a26.1.1, a26.2.1, a28.1.1, a28.2.1⟩, ⟨a24.1.2, a24.2.2, a26.1.2, a26.2.2, a28.1.2, a28.2.2⟩,
        ⟨c4.ne2, a46.1.1, a46.2.1, a48.1.1, a48.2.1⟩, ⟨a46.1.2, a46.2.2, a48.1.2, a48.2.2⟩, ⟨c6.ne2, a68.1.1, a68.2.1⟩, ⟨a68.1.2, a68.2.2⟩, c8.ne2⟩
    · intro i h0 h10
      match i, h0, h10 with
      | 1, _, _ => exact n1
      | 2, _, _ => exact z2.1
      | 3, _, _ => exact z2.2.1
      | 4, _, _ => exact z4.1
      | 5, _, _ => exact z4.2.1
      | 6, _, _ => exact z6.1
      | 7, _, _ => exact z6.2.1
      | 8, _, _ => exact z8.1
      | 9, _, _ => exact z8.2.1
end
end CG
namespace CG
theorem ch_len {α : Type} (l : List α) (i : Nat) (f : α → α) : (Sd39.changed l i f).length = l.length := by rw [changed_mod, List.length_modify]
theorem pushed_lt (h : Nat) (k : Bool) (n : Nat) : Sd39.pushed h k n < 2 ^ n := Nat.mod_lt _ (Nat.two_pow_pos n)
theorem ch_mem {α : Type} {l : List α} {i : Nat} {f : α → α} {x : α} (h : x ∈ Sd39.changed l i f) : x ∈ l ∨ ∃ y ∈ l, x = f y := by
  rw [changed_mod] at h
  obtain ⟨j, hj⟩ := List.getElem?_of_mem h
  obtain ⟨s, hs, e⟩ := get_mod_ hj
  have hm := List.mem_of_getElem? hs
  split at e
  · exact .inr ⟨s, hm, e⟩
  · rw [e]; exact .inl hm
theorem iteB {g : Sd39.Guess} {c : Prop} [Decidable c] {x y : Sd39.Br} (hy : BrOk g y) (hx : BrOk g y → BrOk g x) : BrOk g (if c then x else y) := by
  split
  · exact hx hy
  · exact hy
theorem histB {g : Sd39.Guess} {s : Sd39.Br} {h : Nat} (O : BrOk g s) (hh : h < 2 ^ g.history) : BrOk g { s with history := h } := ⟨O.l1, O.l2, O.l3, O.l4, O.l5, hh, O.ho, O.gh, O.gk⟩
theorem ownB {g : Sd39.Guess} {s : Sd39.Br} {i j : Nat} {f : Nat → Nat} {k : Bool} (O : BrOk g s) : BrOk g { s with pattern := Sd39.changed s.pattern i f, own := Sd39.changed s.own j fun h => Sd39.pushed h k g.history } := by
  refine ⟨O.l1, O.l2, by rw [ch_len]; exact O.l3, O.l4, by rw [ch_len]; exact O.l5, O.hh, fun x hx => ?_, O.gh, O.gk⟩
  have hx : x ∈ Sd39.changed s.own j fun h => Sd39.pushed h k g.history := hx
  rcases ch_mem hx with z | ⟨y, _, z⟩
  · exact O.ho x z
  · rw [z]; exact pushed_lt _ _ _
theorem learnt_ok {g : Sd39.Guess} {b : Sd39.Br} (O : BrOk g b) (p : Nat) (k : Bool) : BrOk g (Sd39.learnt g b p k) := by
  unfold Sd39.learnt
  refine histB ?_ (pushed_lt _ _ _)
  refine iteB (iteB (iteB (iteB O ?_) ?_) ?_) ?_
  · exact fun O => ⟨by rw [ch_len]; exact O.l1, O.l2, O.l3, O.l4, O.l5, O.hh, O.ho, O.gh, O.gk⟩
  · exact fun O => ⟨O.l1, by rw [ch_len]; exact O.l2, O.l3, O.l4, O.l5, O.hh, O.ho, O.gh, O.gk⟩
  · exact fun O => ownB O
  · exact fun O => ⟨O.l1, O.l2, O.l3, by rw [ch_len]; exact O.l4, O.l5, O.hh, O.ho, O.gh, O.gk⟩
theorem branched_ok {g : Sd39.Guess} {b : Sd39.Br} (O : BrOk g b) (p : Nat) (k : Bool) : BrOk g (branched g b p k) := learnt_ok (b := { b with branches := b.branches + 1, wrong := b.wrong + if Sd39.guessed g b p = k then 0 else 1 }) ⟨O.l1, O.l2, O.l3, O.l4, O.l5, O.hh, O.ho, O.gh, O.gk⟩ p k
def Rest (b b' : Sd39.Br) : Prop := b'.targets = b.targets ∧ b'.stack = b.stack ∧ b'.jumps = b.jumps ∧ b'.missed = b.missed ∧ b'.returns = b.returns ∧ b'.lost = b.lost
theorem iteR {b : Sd39.Br} {c : Prop} [Decidable c] {x y : Sd39.Br} (hy : Rest b y) (hx : Rest b y → Rest b x) : Rest b (if c then x else y) := by
  split
  · exact hx hy
  · exact hy
theorem histR {b s : Sd39.Br} {h : Nat} (O : Rest b s) : Rest b { s with history := h } := O
theorem learnt_rest (g : Sd39.Guess) (b : Sd39.Br) (p : Nat) (k : Bool) : Rest b (Sd39.learnt g b p k) := by
  unfold Sd39.learnt
  refine histR ?_
  exact iteR (iteR (iteR (iteR ⟨rfl, rfl, rfl, rfl, rfl, rfl⟩ fun O => O) fun O => O) fun O => O) fun O => O
theorem branched_rest (g : Sd39.Guess) (b : Sd39.Br) (p : Nat) (k : Bool) : Rest b (branched g b p k) := learnt_rest g { b with branches := b.branches + 1, wrong := b.wrong + if Sd39.guessed g b p = k then 0 else 1 } p k
theorem fresh_ok {g : Sd39.Guess} (h1 : g.history ≤ 14) (h2 : g.kind ≤ 4) : BrOk g (Sd39.fresh g) := by
  refine ⟨List.length_replicate .., List.length_replicate .., List.length_replicate .., List.length_replicate .., List.length_replicate .., Nat.two_pow_pos _, fun x hx => ?_, h1, h2⟩
  rw [List.eq_of_mem_replicate hx]; exact Nat.two_pow_pos _
structure TgOk (g : Sd39.Guess) (ts : List (List Sd39.Target)) : Prop where
  l : ts.length = 2 ^ g.tsets
  w : ∀ l ∈ ts, l.length ≤ g.tways
  nd : ∀ l ∈ ts, (l.map (·.place)).Nodup
def pair (x : Sd39.Target) : Nat × Nat := (x.place, x.to)
theorem find_pair {p to : Nat} : ∀ {l : List Sd39.Target}, (l.map (·.place)).Nodup → (((l.find? fun x => x.place == p).map fun x => x.to) = some to ↔ (p, to) ∈ l.map pair)
  | [], _ => by simp
  | a :: l, h => by
    obtain ⟨h1, h2⟩ := List.nodup_cons.mp (show (a.place :: l.map (·.place)).Nodup from h)
    rw [List.map_cons, List.mem_cons, List.find?_cons]
    by_cases e : a.place = p
    · rw [show (a.place == p) = true from beq_iff_eq.mpr e]
      show (some a.to = some to) ↔ _
      constructor
      · intro q; exact .inl (by unfold pair; rw [e, Option.some.inj q])
      · rintro (q | q)
        · unfold pair at q; rw [Prod.mk.injEq] at q; rw [q.2]
        · obtain ⟨b, hb, hbe⟩ := List.mem_map.mp q
          unfold pair at hbe
          rw [Prod.mk.injEq] at hbe
          exact absurd (List.mem_map.mpr ⟨b, hb, hbe.1⟩) (by rw [← e]; exact h1)
    · rw [show (a.place == p) = false from beq_eq_false_iff_ne.mpr e]
      rw [find_pair h2]
      constructor
      · exact .inr
      · rintro (q | q)
        · unfold pair at q; rw [Prod.mk.injEq] at q; exact absurd q.1.symm e
        · exact q
theorem take_sub {α : Type} (n : Nat) (l : List α) : (l.take n).Sublist l := List.take_sublist n l
theorem kept_nd {p to n : Nat} {l : List Sd39.Target} (h : (l.map (·.place)).Nodup) : (((⟨p, to⟩ :: l.filter fun x => x.place != p : List Sd39.Target).take n).map (·.place)).Nodup := by
  refine ((take_sub n _).map _).nodup (List.nodup_cons.mpr ⟨fun q => ?_, ((List.filter_sublist).map _).nodup h⟩)
  obtain ⟨x, hx, e⟩ := List.mem_map.mp q
  have := (List.mem_filter.mp hx).2
  rw [e] at this
  simp at this
theorem jumped_tg {g : Sd39.Guess} {ts : List (List Sd39.Target)} (O : TgOk g ts) (p to i : Nat) : TgOk g (Sd39.changed ts i fun l => (⟨p, to⟩ :: l.filter fun x => x.place != p).take g.tways) := by
  refine ⟨by rw [ch_len]; exact O.l, fun l hl => ?_, fun l hl => ?_⟩
  · rcases ch_mem hl with z | ⟨y, _, z⟩
    · exact O.w l z
    · rw [z, List.length_take]; omega
  · rcases ch_mem hl with z | ⟨y, hy, z⟩
    · exact O.nd l z
    · rw [z]; exact kept_nd (O.nd y hy)
theorem fresh_tg (g : Sd39.Guess) : TgOk g (Sd39.fresh g).targets := by
  refine ⟨List.length_replicate .., fun l hl => ?_, fun l hl => ?_⟩
  · rw [List.eq_of_mem_replicate hl]; exact Nat.zero_le _
  · rw [List.eq_of_mem_replicate hl]; exact List.nodup_nil
end CG
namespace CG
open PySem PySem.Spec PyProof.Rows L2
def ChAt (t : Cs) (H : Hp) (c : Addr) (x : Nat) : Prop := ∃ dx, H c = some (.ins t.k5 dx (fl_k5 (nv x)))
def spChInit (t : Cs) : Sp := fun vs H Q _ => ∃ p, vs = [.ref p] ∧ Fresh H p t.k5 ∧ ∀ H', ChAt t H' p 0xACE1 → But H H' [p] → Q .non H'
def spDraw (t : Cs) : Sp := fun vs H Q _ => ∃ (c : Addr) (x w : Nat), vs = [.ref c, nv w] ∧ ChAt t H c x ∧ 0 < w ∧ ∀ H', ChAt t H' c (Sd39.chance x) → But H H' [c] → Q (nv (Sd39.chance x % w)) H'
structure SetAt (t : Cs) (H : Hp) (a : Addr) (A : Nat → Addr) (p : Nat) (s : MSet) : Prop where
  o : ∃ dx, H a = some (.ins t.k2 dx (fl_k2 (nv p) (.ref (A 0)) (.ref (A 1)) (.ref (A 2)) (.ref (A 3))))
  l0 : H (A 0) = some (.lst (s.lines.map V.int))
  l1 : H (A 1) = some (.lst (s.marked.map V.bl))
  l2 : H (A 2) = some (.lst (s.order.map nv))
  l3 : H (A 3) = some (.lst (s.tree.map nv))
  inj : ∀ i j, i < 4 → j < 4 → A i = A j → i = j
def ButS (H H' : Hp) (A : Nat → Addr) : Prop := ∀ c o, H c = some o → (∀ i, i < 4 → A i ≠ c) → H' c = some o
section
variable {t : Cs} {H H' H1 : Hp} {a : Addr} {A : Nat → Addr} {p : Nat} {s : MSet}
theorem ButS.refl : ButS H H A := fun _ _ e _ => e
theorem ButS.put {i : Nat} {o : HO} (hi : i < 4) (h : ButS H H' A) : ButS H (upd H' (A i) o) A := fun c u e n => by
  rw [upd_ne (fun z => n i hi z.symm)]; exact h c u e n
theorem ButS.trans (h : ButS H H1 A) (k : ButS H1 H' A) : ButS H H' A := fun c u e n => k c u (h c u e n) n
theorem SetAt.ne (h : SetAt t H a A p s) {i j : Nat} (hij : i ≠ j) (hi : i < 4 := by decide) (hj : j < 4 := by decide) : A i ≠ A j := fun e => hij (h.inj i j hi hj e)
theorem SetAt.nea (h : SetAt t H a A p s) {i : Nat} (hi : i < 4) : A i ≠ a := by
  obtain ⟨dx, e⟩ := h.o
  match i, hi with
  | 0, _ => exact ne_of h.l0 e (by intro z; cases z)
  | 1, _ => exact ne_of h.l1 e (by intro z; cases z)
  | 2, _ => exact ne_of h.l2 e (by intro z; cases z)
  | 3, _ => exact ne_of h.l3 e (by intro z; cases z)
theorem SetAt.oput (h : SetAt t H a A p s) (i : Nat) (hi : i < 4) (o : HO) : ∃ dx, upd H (A i) o a = some (.ins t.k2 dx (fl_k2 (nv p) (.ref (A 0)) (.ref (A 1)) (.ref (A 2)) (.ref (A 3)))) := by
  obtain ⟨dx, e⟩ := h.o
  exact ⟨dx, by rw [upd_ne (h.nea hi).symm]; exact e⟩
theorem SetAt.put0 (h : SetAt t H a A p s) (xs : List Int) : SetAt t (upd H (A 0) (.lst (xs.map V.int))) a A p { s with lines := xs } :=
  ⟨h.oput 0 (by decide) _, upd_same, by rw [upd_ne (h.ne (by decide))]; exact h.l1, by rw [upd_ne (h.ne (by decide))]; exact h.l2, by rw [upd_ne (h.ne (by decide))]; exact h.l3, h.inj⟩
theorem SetAt.put1 (h : SetAt t H a A p s) (xs : List Bool) : SetAt t (upd H (A 1) (.lst (xs.map V.bl))) a A p { s with marked := xs } :=
  ⟨h.oput 1 (by decide) _, by rw [upd_ne (h.ne (by decide))]; exact h.l0, upd_same, by rw [upd_ne (h.ne (by decide))]; exact h.l2, by rw [upd_ne (h.ne (by decide))]; exact h.l3, h.inj⟩
theorem SetAt.put2 (h : SetAt t H a A p s) (xs : List Nat) : SetAt t (upd H (A 2) (.lst (xs.map nv))) a A p { s with order := xs } :=
  ⟨h.oput 2 (by decide) _, by rw [upd_ne (h.ne (by decide))]; exact h.l0, by rw [upd_ne (h.ne (by decide))]; exact h.l1, upd_same, by rw [upd_ne (h.ne (by decide))]; exact h.l3, h.inj⟩
theorem SetAt.put3 (h : SetAt t H a A p s) (xs : List Nat) : SetAt t (upd H (A 3) (.lst (xs.map nv))) a A p { s with tree := xs } :=
  ⟨h.oput 3 (by decide) _, by rw [upd_ne (h.ne (by decide))]; exact h.l0, by rw [upd_ne (h.ne (by decide))]; exact h.l1, by rw [upd_ne (h.ne (by decide))]; exact h.l2, upd_same, h.inj⟩
theorem SetAt.keep (h : SetAt t H a A p s) (k : ∀ c o, H c = some o → (c = a ∨ ∃ i, i < 4 ∧ A i = c) → H' c = some o) : SetAt t H' a A p s := by
  obtain ⟨dx, e⟩ := h.o
  exact ⟨⟨dx, k _ _ e (.inl rfl)⟩, k _ _ h.l0 (.inr ⟨0, by decide, rfl⟩), k _ _ h.l1 (.inr ⟨1, by decide, rfl⟩), k _ _ h.l2 (.inr ⟨2, by decide, rfl⟩), k _ _ h.l3 (.inr ⟨3, by decide, rfl⟩), h.inj⟩
end
def spHolds (t : Cs) : Sp := fun vs H Q _ => ∃ (a : Addr) (A : Nat → Addr) (p : Nat) (s : MSet) (x : Int), vs = [.ref a, .int x] ∧ SetAt t H a A p s ∧ Q (.bl (decide (x ∈ s.lines))) H
def spPutLast (t : Cs) : Sp := fun vs H Q _ => ∃ (a : Addr) (A : Nat → Addr) (p : Nat) (s : MSet) (w : Nat), vs = [.ref a, nv w] ∧ SetAt t H a A p s ∧ w ∈ s.order ∧ s.order.length ≤ 16 ∧ ∀ H', SetAt t H' a A p (putLast s w) → ButS H H' A → Q .non H'
def spTurn (t : Cs) : Sp := fun vs H Q _ => ∃ (a : Addr) (A : Nat → Addr) (p : Nat) (s : MSet) (w : Nat), vs = [.ref a, nv w] ∧ SetAt t H a A p s ∧ w < s.tree.length ∧ s.lines.length = s.tree.length ∧ ∀ H', SetAt t H' a A p (turnTree s w) → ButS H H' A → Q .non H'
def spByTree (t : Cs) : Sp := fun vs H Q _ => ∃ (a : Addr) (A : Nat → Addr) (p : Nat) (s : MSet), vs = [.ref a] ∧ SetAt t H a A p s ∧ s.lines.length = s.tree.length ∧ 0 < s.lines.length ∧ Q (nv (wayByTree s)) H
def spUseWay (t : Cs) : Sp := fun vs H Q _ => ∃ (a : Addr) (A : Nat → Addr) (p n bits : Nat) (s : MSet) (w : Nat), vs = [.ref a, nv w] ∧ SetAt t H a A p s ∧ SetOk n bits s ∧ n ≤ 16 ∧ w < n ∧ ∀ H', SetAt t H' a A p (useWay p s w) → ButS H H' A → Q .non H'
def spUse (t : Cs) : Sp := fun vs H Q _ => ∃ (a : Addr) (A : Nat → Addr) (p n bits : Nat) (s : MSet) (x : Int), vs = [.ref a, .int x] ∧ SetAt t H a A p s ∧ SetOk n bits s ∧ n ≤ 16 ∧ x ∈ s.lines ∧ ∀ H', SetAt t H' a A p (useLine p s x) → ButS H H' A → Q .non H'
def spMark (t : Cs) : Sp := fun vs H Q _ => ∃ (a : Addr) (A : Nat → Addr) (p n bits : Nat) (s : MSet) (x : Int), vs = [.ref a, .int x] ∧ SetAt t H a A p s ∧ SetOk n bits s ∧ x ∈ s.lines ∧ ∀ H', SetAt t H' a A p (markLine s x) → ButS H H' A → Q .non H'
def spFill (t : Cs) : Sp := fun vs H Q _ => ∃ (a : Addr) (A : Nat → Addr) (p n bits : Nat) (s : MSet) (w : Nat) (x : Nat) (m : Bool), vs = [.ref a, nv w, nv x, .bl m] ∧ SetAt t H a A p s ∧ SetOk n bits s ∧ n ≤ 16 ∧ w < n ∧ x * 2 ^ bits < 2 ^ 48 ∧ ∀ H', SetAt t H' a A p (fillSet p s w x m) → ButS H H' A → Q .non H'
def spWay (t : Cs) : Sp := fun vs H Q _ => ∃ (a c : Addr) (A : Nat → Addr) (p n bits x : Nat) (s : MSet), vs = [.ref a, .ref c] ∧ SetAt t H a A p s ∧ SetOk n bits s ∧ 0 < n ∧ n ≤ 16 ∧ p ≤ 3 ∧ ChAt t H c x ∧ ∀ H', ChAt t H' c (wayToFill p s x).2 → But H H' [c] → Q (nv (wayToFill p s x).1) H'
def spSetInit (t : Cs) : Sp := fun vs H Q _ => ∃ (a : Addr) (p n : Nat), vs = [.ref a, nv n, nv p] ∧ Fresh H a t.k2 ∧ n ≤ 16 ∧
  ∀ (H' : Hp) (A : Nat → Addr), SetAt t H' a A p ⟨List.replicate n (-1), List.replicate n false, List.range n, List.replicate n 0⟩ → (∀ i, H (A i) = none) → (∀ i, ∃ i', i' < 4 ∧ A i = A i') → But H H' [a] → Q .non H'
theorem flat_ints (l : List Int) : (l.map V.int).all flatV = true := by rw [List.all_map]; exact List.all_eq_true.mpr fun x _ => rfl
theorem inV_ints (x : Int) (l : List Int) : inV (.int x) (l.map V.int) = decide (x ∈ l) := by
  unfold inV
  rw [List.any_map]
  by_cases h : x ∈ l
  · rw [decide_eq_true h]
    exact List.any_eq_true.mpr ⟨x, h, beq_self_eq_true x⟩
  · rw [decide_eq_false h]
    refine List.any_eq_false.mpr fun y hy e => h ?_
    have e' : y = x := eq_of_beq (show (y == x) = true from e)
    rw [← e']; exact hy
theorem index_ints {x : Int} {l : List Int} (h : x ∈ l) : (l.map V.int)[l.idxOf x]? = some (.int x) ∧ eqV (.int x) (.int x) = true ∧ ∀ (m : Nat) (z : V), m < l.idxOf x → (l.map V.int)[m]? = some z → eqV z (.int x) = false := by
  refine ⟨?_, beq_self_eq_true x, fun m z hm hz => ?_⟩
  · rw [List.getElem?_map, List.getElem?_eq_getElem (idx_lt h), List.getElem_idxOf (idx_lt h)]
    rfl
  · rw [List.getElem?_map] at hz
    cases e : l[m]? with
    | none => rw [e] at hz; cases hz
    | some y =>
      rw [e] at hz
      cases hz
      show (y == x) = false
      refine beq_eq_false_iff_ne.mpr fun q => ?_
      rw [q] at e
      exact idx_min hm e
section
variable {P : Program} {w : World} {K : W.Frag} {mg : Str → Option Value} {base : Heap} {t : Cs} {f : Addr} {fd : FuncData}
theorem ok_q97 (T : Txt K mg t) (F : Fun K "__init__" "Chance.__init__" s_q97 f fd) : FnOk P w K mg base CX0 1 f fd ["self"] (spChInit t) := by
  refine F.ok sc_q97 (fun vs H Q E h => ?_) (fun cdv A outer s H vs Q E hr h => ?_)
  · obtain ⟨p, rfl, _⟩ := h
    rfl
  · obtain ⟨p, rfl, ⟨dx, hp⟩, q⟩ := h
    refine ⟨_, (pss_one (ps_fld (pv 0) pe_int rfl)), ?_⟩
    refine ⟨_, rfl, _, _, _, _, rfl, hp, T.k5.cl, T.k5.n_j2, (by show 0 < 1000; decide), ?_⟩
    exact q _ ⟨dx, upd_same⟩ (But.refl.put (by simp))
theorem ok_q96 (T : Txt K mg t) (F : Fun K "draw" "Chance.draw" s_q96 f fd) : FnOk P w K mg base CX0 1 f fd ["self", "ways"] (spDraw t) := by
  refine F.ok sc_q96 (fun vs H Q E h => ?_) (fun cdv A outer s H vs Q E hr h => ?_)
  · obtain ⟨c, x, n, rfl, _⟩ := h
    rfl
  · obtain ⟨c, x, n, rfl, ⟨dx, hc⟩, hn, q⟩ := h
    refine ⟨_, (pss_cons (ps_set (i := 2) sc_q96.nd rfl (Or.inl rfl) (pe_op op_and (pe_fld (pv 0) rfl) pe_int))
      (pss_cons (ps_fld (pv 0) (pe_op op_shr (pe_fld (pv 0) rfl) pe_int) rfl)
      (pss_cons (ps_if (pt_cmpR op_eq (pv 2) pe_int (nomark _))
      (pss_one (ps_fld (pv 0) (pe_op op_xor (pe_fld (pv 0) rfl) pe_int) rfl))
      pss_nil)
      (pss_one (ps_ret (pe_op op_mod (pe_fld (pv 0) rfl) (pv 1))))))), ?_⟩
    refine ⟨_, rfl, _, _, _, _, _, rfl, hc, T.k5.cl, T.k5.n_j2, lk_q95, _, _, rfl, rfl, ?_⟩
    refine ⟨_, rfl, _, _, _, _, _, rfl, hc, T.k5.cl, T.k5.n_j2, lk_q95, _, _, rfl, rfl, (by show (0 : Int) ≤ 1; decide), _, rfl, _, _, _, _, rfl, hc, T.k5.cl, T.k5.n_j2, (by show 1 < 1000; decide), ?_⟩
    have e1 : (x : Int) / 2 ^ (1 : Int).toNat = ((x / 2 : Nat) : Int) := shr_cast x 1
    refine go_put fun H1 h1 k1 => ?_
    have h1 : H1 c = some (.ins t.k5 dx (fl_k5 (nv (x / 2)))) := by
      rw [h1, show (fun i j : Int => V.int (i / 2 ^ j.toNat)) (x : Int) 1 = nv (x / 2) from congrArg V.int e1]
      exact congrArg (fun z => some (HO.ins t.k5 dx z)) pf_q95
    refine ⟨_, rfl, rfl, _, rfl, ?_⟩
    have e2 : (V.int (Builtin.bitAnd (x : Int) 1) = V.int 1) ↔ x % 2 = 1 := by
      rw [show Builtin.bitAnd (x : Int) 1 = ((x &&& 1 : Nat) : Int) from bitAnd_nat x 1, Nat.and_one_is_mod]
      constructor
      · intro z; injection z with z; omega
      · intro z; rw [z]; rfl
    refine cut (fun H2 => ChAt t H2 c (Sd39.chance x) ∧ But H H2 [c]) ?_ (fun z rest => ?_) (fun z => ?_)
    rotate_left
    · have z := e2.mp (of_decide_eq_true z)
      refine ⟨_, rfl, _, _, _, _, _, rfl, h1, T.k5.cl, T.k5.n_j2, lk_q95, _, _, rfl, rfl, _, rfl, _, _, _, _, rfl, h1, T.k5.cl, T.k5.n_j2, (by show 1 < 1000; decide), ?_⟩
      refine rest _ ⟨⟨dx, ?_⟩, k1.put (by simp)⟩
      rw [upd_same]
      have e3 : Builtin.bitXor ((x / 2 : Nat) : Int) 46080 = ((x / 2 ^^^ 46080 : Nat) : Int) := bitXor_nat (x / 2) 46080
      unfold Sd39.chance
      rw [if_pos z, show (fun i j : Int => V.int (Builtin.bitXor i j)) ((x / 2 : Nat) : Int) 46080 = nv (x / 2 ^^^ 46080) from congrArg V.int e3]
      exact congrArg (fun z => some (HO.ins t.k5 dx z)) pf_q95
    · have z : ¬ x % 2 = 1 := fun y => z (decide_eq_true (e2.mpr y))
      refine ⟨⟨dx, ?_⟩, k1⟩
      unfold Sd39.chance
      rw [if_neg z, Nat.xor_zero]
      exact h1
    rintro H2 ⟨⟨dx2, h2⟩, k2⟩
    refine ⟨_, rfl, _, _, _, _, _, rfl, h2, T.k5.cl, T.k5.n_j2, lk_q95, _, rfl, _, _, rfl, rfl, ?_, ?_⟩
    · omega
    · have e4 : V.int ((Sd39.chance x : Int) % (n : Int)) = nv (Sd39.chance x % n) := by rw [← Int.natCast_emod]
      have q1 := q H2 ⟨dx2, h2⟩ k2
      rw [← e4] at q1
      exact q1
theorem ok_q55 (T : Txt K mg t) (F : Fun K "holds" "CacheSet.holds" s_q55 f fd) : FnOk P w K mg base CX0 1 f fd ["self", "line"] (spHolds t) := by
  refine F.ok sc_q55 (fun vs H Q E h => ?_) (fun cdv A outer s H vs Q E hr h => ?_)
  · obtain ⟨a, A, p, s, x, rfl, _⟩ := h
    rfl
  · obtain ⟨a, A, p, s, x, rfl, S, q⟩ := h
    obtain ⟨dx, ho⟩ := S.o
    refine ⟨_, (pss_one (ps_ret (pe_cmpR op_in_seq (pv 1) (pe_fld (pv 0) rfl) (by rfl)))), ?_⟩
    refine ⟨_, rfl, _, rfl, _, _, _, _, _, rfl, ho, T.k2.cl, T.k2.n_j18, lk_q56, A 0, _, rfl, .inl (SqL.of S.l0), rfl, flat_ints _, ?_⟩
    rw [if_neg Bool.false_ne_true, inV_ints]
    exact q
theorem ok_q33 (T : Txt K mg t) (F : Fun K "put_last" "CacheSet.put_last" s_q33 f fd) : FnOk P w K mg base CX0 1 f fd ["self", "way"] (spPutLast t) := by
  refine F.ok sc_q33 (fun vs H Q E h => ?_) (fun cdv A outer s H vs Q E hr h => ?_)
  · obtain ⟨a, A, p, s, x, rfl, _⟩ := h
    rfl
  · obtain ⟨a, A, p, s, x, rfl, S, hx, hl, q⟩ := h
    obtain ⟨dx, ho⟩ := S.o
    refine ⟨_, (pss_cons (ps_expr (pe_bm PySem.F.plainAttrs_list PySem.F.slot_list_remove PySem.F.type_list_remove mt_remove (pe_fld (pv 0) rfl) (pa_cons (pv 1) pa_nil)))
      (pss_one (ps_expr (pe_bm PySem.F.plainAttrs_list PySem.F.slot_list_append PySem.F.type_list_append mt_append (pe_fld (pv 0) rfl) (pa_cons (pv 1) pa_nil))))), ?_⟩
    refine ⟨_, rfl, _, _, _, _, _, rfl, ho, T.k2.cl, T.k2.n_j23, lk_q57, .inl ⟨rfl, _, SqL.of S.l2⟩, _, rfl, A 2, s.order, x, rfl, rfl, S.l2, hx, ?_⟩
    have S1 := S.put2 (s.order.erase x)
    obtain ⟨dx1, ho1⟩ := S1.o
    refine ⟨_, rfl, _, _, _, _, _, rfl, ho1, T.k2.cl, T.k2.n_j23, lk_q57, .inl ⟨rfl, _, SqL.of S1.l2⟩, _, rfl, A 2, _, _, rfl, rfl, S1.l2, ?_, ?_⟩
    · rw [List.length_map, sl]
      show (s.order.erase x).length < 16777216
      have := List.length_erase_of_mem hx
      omega
    · have S2 := S1.put2 (s.order.erase x ++ [x])
      rw [List.map_append] at S2
      exact q _ S2 ((ButS.refl.put (by decide)).put (by decide))
theorem ok_q24 (T : Txt K mg t) (F : Fun K "turn_tree" "CacheSet.turn_tree" s_q24 f fd) : FnOk P w K mg base CX0 1 f fd ["self", "way"] (spTurn t) := by
  refine F.ok sc_q24 (fun vs H Q E h => ?_) (fun cdv A outer s H vs Q E hr h => ?_)
  · obtain ⟨a, A, p, s, x, rfl, _⟩ := h
    rfl
  · obtain ⟨a, A, p, s, x, rfl, S, hx, hl, q⟩ := h
    obtain ⟨dx, ho⟩ := S.o
    refine ⟨_, (pss_cons (ps_set (i := 2) sc_q24.nd rfl (Or.inl rfl) (pe_op op_add (pe_callB call_len_seq rfl T.b_len PySem.boot_len (pa_cons (pe_fld (pv 0) rfl) pa_nil)) (pv 1)))
      (pss_one (ps_while PassesOwn.never (pt_cmpR op_gt (pv 2) pe_int (nomark _))
      (pss_cons (ps_asg (pe_op op_sub pe_int (pe_op op_mod (pv 2) pe_int)) (pg_sub (pe_fld (pv 0) rfl) (pe_op op_fdiv (pv 2) pe_int) set_list))
      (pss_one (ps_set (i := 2) sc_q24.nd rfl (Or.inl rfl) (pe_op op_fdiv (pv 2) pe_int))))))), ?_⟩
    refine ⟨_, rfl, _, _, _, _, _, rfl, ho, T.k2.cl, T.k2.n_j18, lk_q56, A 0, _, rfl, .inl (SqL.of S.l0), _, rfl, _, _, rfl, rfl, ?_⟩
    refine ⟨fun m σ H' => ∃ (node : Nat) (tr : List Nat), m = node ∧ σ = [some (.ref a), some (nv x), some (nv node)] ∧ SetAt t H' a A p { s with tree := tr } ∧ tr.length = s.tree.length ∧ node < 2 * s.tree.length ∧ (∃ f, node ≤ f ∧ turnT f node tr = turnT (s.lines.length + x) (s.lines.length + x) s.tree) ∧ ButS H H' A, ⟨s.lines.length + x, s.lines.length + x, s.tree, rfl, ?_, S, rfl, by omega, ⟨_, Nat.le_refl _, rfl⟩, ButS.refl⟩, ?_⟩
    · show [some (.ref a), some (nv x), some (V.int (((s.lines.map V.int).length : Int) + (x : Int)))] = _
      rw [List.length_map]
      rfl
    rintro m σ H' ⟨node, tr, hm, rfl, S', hlen, hn, ⟨f, hf, ef⟩, kp⟩
    obtain rfl := hm.symm
    obtain ⟨dx', ho'⟩ := S'.o
    refine ⟨_, rfl, _, _, rfl, rfl, _, rfl, ?_⟩
    refine ite2 (fun c => ⟨_, fun _ _ z => z, ?_⟩) (fun c => ?_)
    · have c : 1 < node := by have := of_decide_eq_true c; omega
      obtain ⟨f', rfl⟩ : ∃ f', f = f' + 1 := ⟨f - 1, by omega⟩
      refine ⟨_, rfl, _, _, rfl, rfl, (by show (0 : Int) < 2; decide), _, _, rfl, rfl, _, rfl, _, _, _, _, _, rfl, ho', T.k2.cl, T.k2.n_j37, lk_q68, _, rfl, _, _, rfl, rfl, ⟨by decide, by decide⟩, A 3, _, _, node / 2, rfl, rfl, S'.l3, ?_, ?_⟩
      · rw [List.length_map]
        exact ix_nat (by show node / 2 < tr.length; omega)
      · refine ⟨_, rfl, _, _, rfl, rfl, ⟨by decide, by decide⟩, node / 2, by omega, node / 2, tr.set (node / 2) (1 - node % 2), rfl, ?_, ?_, ?_, by omega, ⟨f', by omega, ?_⟩, kp.put (by decide)⟩
        · rfl
        · have e : V.int (1 - (node : Int) % 2) = nv (1 - node % 2) := congrArg V.int (by omega)
          have S2 := S'.put3 (tr.set (node / 2) (1 - node % 2))
          rw [← map_set_nv, ← e] at S2
          exact S2
        · rw [List.length_set]; exact hlen
        · rw [← ef]
          show _ = turnT (f' + 1) node tr
          rw [turnT, if_pos c]
    · have c : ¬ 1 < node := fun z => c (decide_eq_true (by omega))
      refine q H' ?_ kp
      have e : turnT (s.lines.length + x) (s.lines.length + x) s.tree = tr := by
        rw [← ef]
        cases f with
        | zero => rfl
        | succ f => rw [turnT, if_neg c]
      unfold turnTree
      rw [e]
      exact S'
theorem ok_q12 (T : Txt K mg t) (F : Fun K "way_by_tree" "CacheSet.way_by_tree" s_q12 f fd) : FnOk P w K mg base CX0 1 f fd ["self"] (spByTree t) := by
  refine F.ok sc_q12 (fun vs H Q E h => ?_) (fun cdv A outer s H vs Q E hr h => ?_)
  · obtain ⟨a, A, p, s, rfl, _⟩ := h
    rfl
  · obtain ⟨a, A, p, s, rfl, S, hl, h0, q⟩ := h
    obtain ⟨dx, ho⟩ := S.o
    refine ⟨_, (pss_cons (ps_set (i := 1) sc_q12.nd rfl (Or.inl rfl) (pe_callB call_len_seq rfl T.b_len PySem.boot_len (pa_cons (pe_fld (pv 0) rfl) pa_nil)))
      (pss_cons (ps_set (i := 2) sc_q12.nd rfl (Or.inl rfl) pe_int)
      (pss_cons (ps_while PassesOwn.never (pt_cmpR op_lt (pv 2) (pv 1) (nomark _))
      (pss_one (ps_set (i := 2) sc_q12.nd rfl (Or.inl rfl) (pe_op op_add (pe_op op_mul pe_int (pv 2)) (pe_ix ix_list (pe_fld (pv 0) rfl) (pv 2) (fun _ _ => rfl))))))
      (pss_one (ps_ret (pe_op op_sub (pv 2) (pv 1))))))), ?_⟩
    refine ⟨_, rfl, _, _, _, _, _, rfl, ho, T.k2.cl, T.k2.n_j18, lk_q56, A 0, _, rfl, .inl (SqL.of S.l0), ?_⟩
    refine ⟨fun m σ H' => ∃ (node : Nat), m = s.lines.length - node ∧ σ = [some (.ref a), some (nv s.lines.length), some (nv node)] ∧ H' = H ∧ 0 < node ∧ (∃ f, s.lines.length - node ≤ f ∧ pointT s.lines.length s.tree f node = pointT s.lines.length s.tree s.lines.length 1), ⟨s.lines.length - 1, 1, rfl, ?_, rfl, by decide, ⟨_, by omega, rfl⟩⟩, ?_⟩
    · show [some (.ref a), some (V.int ((s.lines.map V.int).length : Int)), some (V.int 1)] = _
      rw [List.length_map]
      rfl
    rintro m σ H' ⟨node, rfl, rfl, rfl, hn, ⟨f, hf, ef⟩⟩
    refine ⟨_, rfl, _, rfl, _, _, rfl, rfl, _, rfl, ?_⟩
    refine ite2 (fun c => ⟨_, fun _ _ z => z, ?_⟩) (fun c => ?_)
    · have c : node < s.lines.length := by have := of_decide_eq_true c; omega
      obtain ⟨f', rfl⟩ : ∃ f', f = f' + 1 := ⟨f - 1, by omega⟩
      have hlt : node < s.tree.length := by omega
      refine ⟨_, rfl, _, _, rfl, rfl, .inl ⟨by decide, by decide⟩, _, rfl, _, _, _, _, _, rfl, ho, T.k2.cl, T.k2.n_j37, lk_q68, _, rfl, A 3, _, _, nv s.tree[node], rfl, rfl, SqL.of S.l3, at_nv (List.getElem?_eq_getElem hlt), _, _, rfl, rfl, ?_⟩
      refine ⟨s.lines.length - (2 * node + s.tree[node]), by omega, 2 * node + s.tree[node], rfl, rfl, rfl, by omega, f', by omega, ?_⟩
      rw [← ef]
      show _ = pointT s.lines.length s.tree (f' + 1) node
      rw [pointT, if_pos c, getD_of (List.getElem?_eq_getElem hlt)]
    · have c : ¬ node < s.lines.length := fun z => c (decide_eq_true (by omega))
      refine ⟨_, rfl, _, rfl, _, _, rfl, rfl, ?_⟩
      have e : pointT s.lines.length s.tree s.lines.length 1 = node := by
        rw [← ef]
        cases f with
        | zero => rfl
        | succ f => rw [pointT, if_neg c]
      unfold wayByTree at q
      rw [e] at q
      have e2 : nv (node - s.lines.length) = V.int ((node : Int) - (s.lines.length : Int)) := congrArg V.int (by omega)
      rw [e2] at q
      exact q
theorem ok_q38 (T : Txt K mg t) (F : Fun K "use_way" "CacheSet.use_way" s_q38 f fd) : FnOk P w K mg base CX0 2 f fd ["self", "way"] (spUseWay t) := by
  obtain ⟨f_q33, fd_q33, F_q33, b_q33, M_q33⟩ := T.k2.m_h24
  have G_q33 := ok_q33 (P := P) (w := w) (base := base) T F_q33
  obtain ⟨f_q24, fd_q24, F_q24, b_q24, M_q24⟩ := T.k2.m_h31
  have G_q24 := ok_q24 (P := P) (w := w) (base := base) T F_q24
  refine F.ok sc_q38 (fun vs H Q E h => ?_) (fun cdv A outer s H vs Q E hr h => ?_)
  · obtain ⟨a, A, p, n, b, s, x, rfl, _⟩ := h
    rfl
  · obtain ⟨a, A, p, n, b, s, x, rfl, S, O, h16, hx, q⟩ := h
    obtain ⟨dx, ho⟩ := S.o
    refine ⟨_, (pss_one (ps_if (pt_cmpR op_eq (pe_fld (pv 0) rfl) (pgl T.c_USED_LONGEST_AGO) (nomark _))
      (pss_one (ps_expr (pe_meth (pv 0) T.k2.cl M_q33 G_q33 (hr.mono (by omega)) b_q33 .nil pass0 (pa_cons (pv 1) pa_nil))))
      (pss_one (ps_if (pt_cmpR op_eq (pe_fld (pv 0) rfl) (pgl T.c_TREE) (nomark _))
      (pss_one (ps_expr (pe_meth (pv 0) T.k2.cl M_q24 G_q24 (hr.mono (by omega)) b_q24 .nil pass0 (pa_cons (pv 1) pa_nil))))
      pss_nil)))), ?_⟩
    refine ⟨_, rfl, _, _, _, _, _, rfl, ho, T.k2.cl, T.k2.n_j25, lk_q46, rfl, _, rfl, ?_⟩
    refine ite2 (fun c => ?_) (fun c => ?_)
    · have c := isk c
      refine ⟨_, rfl, _, _, _, rfl, ho, nl_q33, _, rfl, a, A, p, s, x, rfl, S, O.op.mem_iff.mpr (List.mem_range.mpr hx), by rw [O.op.length_eq, List.length_range]; exact h16, fun H' S' k' => q H' ?_ k'⟩
      unfold useWay
      rw [if_pos (by omega)]
      exact S'
    · have c := isnk c
      refine ⟨_, rfl, _, _, _, _, _, rfl, ho, T.k2.cl, T.k2.n_j25, lk_q46, rfl, _, rfl, ?_⟩
      refine ite2 (fun c2 => ?_) (fun c2 => ?_)
      · have c2 := isk c2
        refine ⟨_, rfl, _, _, _, rfl, ho, nl_q24, _, rfl, a, A, p, s, x, rfl, S, by rw [O.tl]; exact hx, by rw [O.tl, O.ll], fun H' S' k' => q H' ?_ k'⟩
        unfold useWay
        rw [if_neg (by omega), if_pos (by omega)]
        exact S'
      · have c2 := isnk c2
        refine q H ?_ ButS.refl
        unfold useWay
        rw [if_neg (by omega), if_neg (by omega)]
        exact S
theorem ok_q78 (T : Txt K mg t) (F : Fun K "use" "CacheSet.use" s_q78 f fd) : FnOk P w K mg base CX0 3 f fd ["self", "line"] (spUse t) := by
  obtain ⟨f_q38, fd_q38, F_q38, b_q38, M_q38⟩ := T.k2.m_h33
  have G_q38 := ok_q38 (P := P) (w := w) (base := base) T F_q38
  refine F.ok sc_q78 (fun vs H Q E h => ?_) (fun cdv A outer s H vs Q E hr h => ?_)
  · obtain ⟨a, A, p, n, b, s, x, rfl, _⟩ := h
    rfl
  · obtain ⟨a, A, p, n, b, s, x, rfl, S, O, h16, hx, q⟩ := h
    obtain ⟨dx, ho⟩ := S.o
    refine ⟨_, (pss_one (ps_expr (pe_meth (pv 0) T.k2.cl M_q38 G_q38 (hr.mono (by omega)) b_q38 .nil pass0 (pa_cons (pe_bm PySem.F.plainAttrs_list PySem.F.slot_list_index PySem.F.type_list_index mt_index (pe_fld (pv 0) rfl) (pa_cons (pv 1) pa_nil)) pa_nil)))), ?_⟩
    obtain ⟨i1, i2, i3⟩ := index_ints hx
    refine ⟨_, rfl, _, _, _, rfl, ho, nl_q38, _, rfl, _, _, _, _, _, rfl, ho, T.k2.cl, T.k2.n_j18, lk_q56, .inl ⟨rfl, _, SqL.of S.l0⟩, _, rfl, A 0, _, .int x, s.lines.idxOf x, _, rfl, rfl, SqL.of S.l0, rfl, flat_ints _, i1, i2, i3, ?_⟩
    exact ⟨a, A, p, n, b, s, s.lines.idxOf x, rfl, S, O, h16, by rw [← O.ll]; exact idx_lt hx, q⟩
theorem ok_q67 (T : Txt K mg t) (F : Fun K "mark" "CacheSet.mark" s_q67 f fd) : FnOk P w K mg base CX0 1 f fd ["self", "line"] (spMark t) := by
  refine F.ok sc_q67 (fun vs H Q E h => ?_) (fun cdv A outer s H vs Q E hr h => ?_)
  · obtain ⟨a, A, p, n, b, s, x, rfl, _⟩ := h
    rfl
  · obtain ⟨a, A, p, n, b, s, x, rfl, S, O, hx, q⟩ := h
    obtain ⟨dx, ho⟩ := S.o
    refine ⟨_, (pss_one (ps_asg pe_bl (pg_sub (pe_fld (pv 0) rfl) (pe_bm PySem.F.plainAttrs_list PySem.F.slot_list_index PySem.F.type_list_index mt_index (pe_fld (pv 0) rfl) (pa_cons (pv 1) pa_nil)) set_list))), ?_⟩
    obtain ⟨i1, i2, i3⟩ := index_ints hx
    refine ⟨_, rfl, _, _, _, _, _, rfl, ho, T.k2.cl, T.k2.n_j20, lk_q45, _, rfl, _, _, _, _, _, rfl, ho, T.k2.cl, T.k2.n_j18, lk_q56, .inl ⟨rfl, _, SqL.of S.l0⟩, _, rfl, A 0, _, .int x, s.lines.idxOf x, _, rfl, rfl, SqL.of S.l0, rfl, flat_ints _, i1, i2, i3, ?_⟩
    refine ⟨A 1, _, _, s.lines.idxOf x, rfl, rfl, S.l1, ?_, ?_⟩
    · rw [List.length_map]
      exact ix_nat (by rw [O.ml, ← O.ll]; exact idx_lt hx)
    · have S2 := S.put1 (s.marked.set (s.lines.idxOf x) true)
      rw [List.map_set] at S2
      exact q _ S2 (ButS.refl.put (by decide))
theorem ok_q65 (T : Txt K mg t) (F : Fun K "fill" "CacheSet.fill" s_q65 f fd) : FnOk P w K mg base CX0 3 f fd ["self", "way", "line", "marked"] (spFill t) := by
  obtain ⟨f_q38, fd_q38, F_q38, b_q38, M_q38⟩ := T.k2.m_h33
  have G_q38 := ok_q38 (P := P) (w := w) (base := base) T F_q38
  obtain ⟨f_q33, fd_q33, F_q33, b_q33, M_q33⟩ := T.k2.m_h24
  have G_q33 := ok_q33 (P := P) (w := w) (base := base) T F_q33
  refine F.ok sc_q65 (fun vs H Q E h => ?_) (fun cdv A outer s H vs Q E hr h => ?_)
  · obtain ⟨a, A, p, n, b, s, x, l, m, rfl, _⟩ := h
    rfl
  · obtain ⟨a, A, p, n, b, s, x, l, m, rfl, S, O, h16, hx, hlb, q⟩ := h
    obtain ⟨dx, ho⟩ := S.o
    refine ⟨_, (pss_cons (ps_asg (pv 2) (pg_sub (pe_fld (pv 0) rfl) (pv 1) set_list))
      (pss_cons (ps_asg (pv 3) (pg_sub (pe_fld (pv 0) rfl) (pv 1) set_list))
      (pss_cons (ps_if (pt_cmpR op_eq (pe_fld (pv 0) rfl) (pgl T.c_FILLED_LONGEST_AGO) (nomark _))
      (pss_one (ps_expr (pe_meth (pv 0) T.k2.cl M_q33 G_q33 (hr.mono (by omega)) b_q33 .nil pass0 (pa_cons (pv 1) pa_nil))))
      pss_nil)
      (pss_one (ps_expr (pe_meth (pv 0) T.k2.cl M_q38 G_q38 (hr.mono (by omega)) b_q38 .nil pass0 (pa_cons (pv 1) pa_nil))))))), ?_⟩
    refine ⟨_, rfl, _, rfl, _, _, _, _, _, rfl, ho, T.k2.cl, T.k2.n_j18, lk_q56, _, rfl, A 0, _, _, x, rfl, rfl, S.l0, ?_, ?_⟩
    · rw [List.length_map]; exact ix_nat (by rw [O.ll]; exact hx)
    have S1 := S.put0 (s.lines.set x l)
    rw [List.map_set] at S1
    obtain ⟨dx1, ho1⟩ := S1.o
    refine ⟨_, rfl, _, rfl, _, _, _, _, _, rfl, ho1, T.k2.cl, T.k2.n_j20, lk_q45, _, rfl, A 1, _, _, x, rfl, rfl, S1.l1, ?_, ?_⟩
    · rw [List.length_map]; exact ix_nat (by show x < s.marked.length; rw [O.ml]; exact hx)
    have S2 := S1.put1 (s.marked.set x m)
    rw [List.map_set] at S2
    have k2 : ButS H _ A := (ButS.refl.put (i := 0) (o := .lst ((s.lines.map V.int).set x (nv l))) (by decide)).put (i := 1) (o := .lst ((s.marked.map V.bl).set x (V.bl m))) (by decide)
    have O2 := O.s1 hx hlb m
    obtain ⟨dx2, ho2⟩ := S2.o
    have hw : x ∈ s.order := O.op.mem_iff.mpr (List.mem_range.mpr hx)
    have hol : s.order.length ≤ 16 := by rw [O.op.length_eq, List.length_range]; exact h16
    refine ⟨_, rfl, _, _, _, _, _, rfl, ho2, T.k2.cl, T.k2.n_j25, lk_q46, rfl, _, rfl, ?_⟩
    refine ite2 (fun c => ?_) (fun c => ?_)
    · have c : p = 1 := by have := isk c; omega
      refine ⟨_, rfl, _, _, _, rfl, ho2, nl_q33, _, rfl, a, A, p, _, x, rfl, S2, hw, hol, fun H3 S3 k3 => ?_⟩
      obtain ⟨dx3, ho3⟩ := S3.o
      refine ⟨_, rfl, _, _, _, rfl, ho3, nl_q38, _, rfl, a, A, p, n, b, _, x, rfl, S3, O2.putLast hx, h16, hx, fun H4 S4 k4 => q H4 ?_ (k2.trans (k3.trans k4))⟩
      unfold fillSet
      simp only [if_pos c]
      exact S4
    · have c : ¬ p = 1 := by have := isnk c; omega
      refine ⟨_, rfl, _, _, _, rfl, ho2, nl_q38, _, rfl, a, A, p, n, b, _, x, rfl, S2, O2, h16, hx, fun H4 S4 k4 => q H4 ?_ (k2.trans k4)⟩
      unfold fillSet
      simp only [if_neg c]
      exact S4
theorem ok_q13 (T : Txt K mg t) (F : Fun K "way_to_fill" "CacheSet.way_to_fill" s_q13 f fd) : FnOk P w K mg base CX0 2 f fd ["self", "chance"] (spWay t) := by
  obtain ⟨f_q96, fd_q96, F_q96, b_q96, M_q96⟩ := T.k5.m_h4
  have G_q96 := ok_q96 (P := P) (w := w) (base := base) T F_q96
  obtain ⟨f_q12, fd_q12, F_q12, b_q12, M_q12⟩ := T.k2.m_h34
  have G_q12 := ok_q12 (P := P) (w := w) (base := base) T F_q12
  refine F.ok sc_q13 (fun vs H Q E h => ?_) (fun cdv A outer s H vs Q E hr h => ?_)
  · obtain ⟨a, c, A, p, n, b, x, s, rfl, _⟩ := h
    rfl
  · obtain ⟨a, c, A, p, n, b, x, s, rfl, S, O, h0, h16, hp, ⟨dc, hc⟩, q⟩ := h
    obtain ⟨dx, ho⟩ := S.o
    refine ⟨_, (pss_cons (ps_if (pt_cmpR op_in_seq (pgl T.c_EMPTY) (pe_fld (pv 0) rfl) (by rfl))
      (pss_one (ps_ret (pe_bm PySem.F.plainAttrs_list PySem.F.slot_list_index PySem.F.type_list_index mt_index (pe_fld (pv 0) rfl) (pa_cons (pgl T.c_EMPTY) pa_nil))))
      pss_nil)
      (pss_cons (ps_if (pw_or (pt_cmpR op_eq (pe_fld (pv 0) rfl) (pgl T.c_USED_LONGEST_AGO) (nomark _)) (pw_or1 (pt_cmpR op_eq (pe_fld (pv 0) rfl) (pgl T.c_FILLED_LONGEST_AGO) (nomark _)))).pt
      (pss_one (ps_ret (pe_ix ix_list (pe_fld (pv 0) rfl) pe_int (fun _ _ => rfl))))
      pss_nil)
      (pss_cons (ps_if (pt_cmpR op_eq (pe_fld (pv 0) rfl) (pgl T.c_TREE) (nomark _))
      (pss_one (ps_ret (pe_meth0 (pv 0) T.k2.cl M_q12 G_q12 (hr.mono (by omega)) b_q12 .nil pass0)))
      pss_nil)
      (pss_one (ps_ret (pe_meth (pv 1) T.k5.cl M_q96 G_q96 (hr.mono (by omega)) b_q96 .nil pass0 (pa_cons (pe_callB call_len_seq rfl T.b_len PySem.boot_len (pa_cons (pe_fld (pv 0) rfl) pa_nil)) pa_nil))))))), ?_⟩
    unfold wayToFill at q
    refine ⟨_, rfl, _, _, _, _, _, rfl, ho, T.k2.cl, T.k2.n_j18, lk_q56, A 0, _, rfl, .inl (SqL.of S.l0), rfl, flat_ints _, _, rfl, ?_⟩
    rw [if_neg Bool.false_ne_true, inV_ints]
    refine ite2 (fun z => ?_) (fun z => ?_)
    · have z := of_decide_eq_true z
      rw [if_pos z] at q
      obtain ⟨i1, i2, i3⟩ := index_ints z
      exact ⟨_, rfl, _, _, _, _, _, rfl, ho, T.k2.cl, T.k2.n_j18, lk_q56, .inl ⟨rfl, _, SqL.of S.l0⟩, A 0, _, .int (-1), s.lines.idxOf (-1), _, rfl, rfl, SqL.of S.l0, rfl, flat_ints _, i1, i2, i3, q H ⟨dc, hc⟩ But.refl⟩
    · have z : ¬ (-1 : Int) ∈ s.lines := fun y => z (decide_eq_true y)
      rw [if_neg z] at q
      have two : (p = 0 ∨ p = 1) → ∀ (D : Ends), D.rt = Q → tRet (tOp (rIxL K) (tFld K (tVar 0) "order") (tC (.int 0))) D [some (.ref a), some (.ref c)] H := fun y D hD => by
        rw [if_pos y] at q
        have hol : s.order.length = n := by rw [O.op.length_eq, List.length_range]
        obtain ⟨o1, r1, e1⟩ : ∃ o1 r1, s.order = o1 :: r1 := by
          cases e : s.order with
          | nil => rw [e] at hol; simp at hol; omega
          | cons o1 r1 => exact ⟨_, _, rfl⟩
        refine ⟨_, rfl, _, _, _, _, _, rfl, ho, T.k2.cl, T.k2.n_j23, lk_q57, A 2, _, _, nv o1, rfl, rfl, SqL.of S.l2, at_nat (j := 0) rfl (by rw [e1]; rfl), ?_⟩
        have q1 := q H ⟨dc, hc⟩ But.refl
        rw [e1] at q1
        rw [hD]
        exact q1
      refine ⟨_, rfl, _, _, _, _, _, rfl, ho, T.k2.cl, T.k2.n_j25, lk_q46, rfl, _, rfl, ?_⟩
      refine ite2 (fun y => iteT (two (.inl (by have := isk y; omega)) _ rfl)) (fun y => ?_)
      have y := isnk y
      refine ⟨_, rfl, _, _, _, _, _, rfl, ho, T.k2.cl, T.k2.n_j25, lk_q46, rfl, _, rfl, ?_⟩
      refine ite2 (fun y2 => two (.inr (by have := isk y2; omega)) _ rfl) (fun y2 => ?_)
      have y2 := isnk y2
      rw [if_neg (by omega)] at q
      refine ⟨_, rfl, _, _, _, _, _, rfl, ho, T.k2.cl, T.k2.n_j25, lk_q46, rfl, _, rfl, ?_⟩
      refine ite2 (fun y3 => ?_) (fun y3 => ?_)
      · have y3 := isk y3
        rw [if_pos (by omega)] at q
        exact ⟨_, rfl, _, _, _, rfl, ho, nl_q12, a, A, p, s, rfl, S, by rw [O.ll, O.tl], by rw [O.ll]; exact h0, q H ⟨dc, hc⟩ But.refl⟩
      · have y3 := isnk y3
        rw [if_neg (by omega)] at q
        refine ⟨_, rfl, _, _, _, rfl, hc, nl_q96, _, rfl, _, _, _, _, _, rfl, ho, T.k2.cl, T.k2.n_j18, lk_q56, A 0, _, rfl, .inl (SqL.of S.l0), c, x, s.lines.length, ?_, ⟨dc, hc⟩, by rw [O.ll]; exact h0, q⟩
        show [V.ref c, V.int ((s.lines.map V.int).length : Int)] = _
        rw [List.length_map]
theorem ok_q66 (T : Txt K mg t) (F : Fun K "__init__" "CacheSet.__init__" s_q66 f fd) : FnOk P w K mg base CX0 1 f fd ["self", "ways", "policy"] (spSetInit t) := by
  refine F.ok sc_q66 (fun vs H Q E h => ?_) (fun cdv A outer s H vs Q E hr h => ?_)
  · obtain ⟨a, p, n, rfl, _⟩ := h
    rfl
  · obtain ⟨a, p, n, rfl, ⟨dx, hp⟩, h16, q⟩ := h
    refine ⟨_, (pss_cons (ps_fld (pv 0) (pv 2) rfl)
      (pss_cons (ps_fld (pv 0) (pe_op op_rep (pe_lst (pa_cons (pgl T.c_EMPTY) pa_nil)) (pv 1)) rfl)
      (pss_cons (ps_fld (pv 0) (pe_op op_rep (pe_lst (pa_cons pe_bl pa_nil)) (pv 1)) rfl)
      (pss_cons (ps_fld (pv 0) (pe_list_range rfl T.b_list T.b_range (pa_cons (pv 1) pa_nil)) rfl)
      (pss_one (ps_fld (pv 0) (pe_op op_rep (pe_lst (pa_cons pe_int pa_nil)) (pv 1)) rfl)))))), ?_⟩
    have bd : -(2 ^ 63) ≤ (n : Int) ∧ (n : Int) < 2 ^ 63 ∧ 1 * (n : Int).toNat ≤ sizeLine := by rw [sl, Int.toNat_natCast]; omega
    refine ⟨_, rfl, _, rfl, _, _, _, _, rfl, hp, T.k2.cl, T.k2.n_j25, (by show 0 < 1000; decide), ?_⟩
    refine (Mid.start hp).go fun H1 m1 _ => ?_
    refine ⟨(by show 1 ≤ sizeLine; decide), fun q1 hq1 => ?_⟩
    refine ⟨_, rfl, q1, n, _, rfl, rfl, upd_same, bd.1, bd.2.1, bd.2.2, fun l0 hl0 => ?_⟩
    refine ⟨_, rfl, _, _, _, _, rfl, ((m1.new (new_ne hq1)).new (new_ne hl0)).at_, T.k2.cl, T.k2.n_j18, (by show 1 < 1000; decide), ?_⟩
    have z0 : H l0 = none ∧ l0 ≠ a := ⟨(m1.new (new_ne hq1)).none0 hl0, (m1.new (new_ne hq1)).ne hl0⟩
    refine ((m1.new (new_ne hq1)).new (new_ne hl0)).go fun H4 m4 k4 => ?_
    have e0 : H4 l0 = some (.lst ((List.replicate n (-1)).map V.int)) := by
      refine k4 _ _ ?_ (nin z0.2)
      rw [upd_same, Int.toNat_natCast, List.map_replicate]
      exact congrArg (fun z => some (HO.lst z)) (rep_gen n (V.int (-1)))
    clear k4 m1 hl0 hq1
    refine ⟨(by show 1 ≤ sizeLine; decide), fun q2 hq2 => ?_⟩
    refine ⟨_, rfl, q2, n, _, rfl, rfl, upd_same, bd.1, bd.2.1, bd.2.2, fun l1 hl1 => ?_⟩
    refine ⟨_, rfl, _, _, _, _, rfl, ((m4.new (new_ne hq2)).new (new_ne hl1)).at_, T.k2.cl, T.k2.n_j20, (by show 2 < 1000; decide), ?_⟩
    have z1 : H l1 = none ∧ l1 ≠ a := ⟨(m4.new (new_ne hq2)).none0 hl1, (m4.new (new_ne hq2)).ne hl1⟩
    have n01 : l0 ≠ l1 := ne_of_none (new_ne hq2 _ _ e0) hl1
    have f0 := new_ne (o := .lst (List.replicate (n : Int).toNat [V.bl false]).flatten) hl1 _ _ (new_ne hq2 _ _ e0)
    refine ((m4.new (new_ne hq2)).new (new_ne hl1)).go fun H7 m7 k7 => ?_
    have e1 : H7 l1 = some (.lst ((List.replicate n false).map V.bl)) := by
      refine k7 _ _ ?_ (nin z1.2)
      rw [upd_same, Int.toNat_natCast, List.map_replicate]
      exact congrArg (fun z => some (HO.lst z)) (rep_gen n (V.bl false))
    have e0 := k7 _ _ f0 (nin z0.2)
    clear k7 m4 hl1 hq2 f0
    refine ⟨_, rfl, (n : Int), rfl, fun q3 hq3 => ?_⟩
    refine ⟨q3, n, rfl, upd_same, by omega, fun l2 hl2 => ?_⟩
    refine ⟨_, rfl, _, _, _, _, rfl, ((m7.new (new_ne hq3)).new (new_ne hl2)).at_, T.k2.cl, T.k2.n_j23, (by show 3 < 1000; decide), ?_⟩
    have z2 : H l2 = none ∧ l2 ≠ a := ⟨(m7.new (new_ne hq3)).none0 hl2, (m7.new (new_ne hq3)).ne hl2⟩
    have n02 : l0 ≠ l2 := ne_of_none (new_ne hq3 _ _ e0) hl2
    have n12 : l1 ≠ l2 := ne_of_none (new_ne hq3 _ _ e1) hl2
    have f0 := new_ne (o := .lst ((List.range n).map nv)) hl2 _ _ (new_ne hq3 _ _ e0)
    have f1 := new_ne (o := .lst ((List.range n).map nv)) hl2 _ _ (new_ne hq3 _ _ e1)
    refine ((m7.new (new_ne hq3)).new (new_ne hl2)).go fun H10 m10 k10 => ?_
    have e2 := k10 _ _ upd_same (nin z2.2)
    have e0 := k10 _ _ f0 (nin z0.2)
    have e1 := k10 _ _ f1 (nin z1.2)
    clear k10 m7 hl2 hq3 f0 f1
    refine ⟨(by show 1 ≤ sizeLine; decide), fun q4 hq4 => ?_⟩
    refine ⟨_, rfl, q4, n, _, rfl, rfl, upd_same, bd.1, bd.2.1, bd.2.2, fun l3 hl3 => ?_⟩
    refine ⟨_, rfl, _, _, _, _, rfl, ((m10.new (new_ne hq4)).new (new_ne hl3)).at_, T.k2.cl, T.k2.n_j37, (by show 4 < 1000; decide), ?_⟩
    have z3 : H l3 = none ∧ l3 ≠ a := ⟨(m10.new (new_ne hq4)).none0 hl3, (m10.new (new_ne hq4)).ne hl3⟩
    have n03 : l0 ≠ l3 := ne_of_none (new_ne hq4 _ _ e0) hl3
    have n13 : l1 ≠ l3 := ne_of_none (new_ne hq4 _ _ e1) hl3
    have n23 : l2 ≠ l3 := ne_of_none (new_ne hq4 _ _ e2) hl3
    have f0 := new_ne (o := .lst (List.replicate (n : Int).toNat [V.int 0]).flatten) hl3 _ _ (new_ne hq4 _ _ e0)
    have f1 := new_ne (o := .lst (List.replicate (n : Int).toNat [V.int 0]).flatten) hl3 _ _ (new_ne hq4 _ _ e1)
    have f2 := new_ne (o := .lst (List.replicate (n : Int).toNat [V.int 0]).flatten) hl3 _ _ (new_ne hq4 _ _ e2)
    refine ((m10.new (new_ne hq4)).new (new_ne hl3)).go fun H13 m13 k13 => ?_
    have e3 : H13 l3 = some (.lst ((List.replicate n 0).map nv)) := by
      refine k13 _ _ ?_ (nin z3.2)
      rw [upd_same]
      exact congrArg (fun z => some (HO.lst z)) (rep_nv n 0)
    have e0 := k13 _ _ f0 (nin z0.2)
    have e1 := k13 _ _ f1 (nin z1.2)
    have e2 := k13 _ _ f2 (nin z2.2)
    refine q H13 (fun i => [l0, l1, l2, l3].getD i l0) ⟨⟨dx, m13.at_⟩, e0, e1, e2, e3, fun i j hi hj e => ?_⟩ ?_ ?_ m13.but
    · rw [List.getD_eq_getElem?_getD, List.getD_eq_getElem?_getD, List.getElem?_eq_getElem (l := [l0, l1, l2, l3]) hi, List.getElem?_eq_getElem (l := [l0, l1, l2, l3]) hj] at e
      refine (List.getElem_inj (xs := [l0, l1, l2, l3]) ?_).mp e
      simp only [List.nodup_cons, List.mem_cons, List.not_mem_nil, or_false, not_or, List.nodup_nil, and_true, not_false_eq_true]
      exact ⟨⟨n01, n02, n03⟩, ⟨n12, n13⟩, n23⟩
    · intro i
      match i with
      | 0 => exact z0.1
      | 1 => exact z1.1
      | 2 => exact z2.1
      | 3 => exact z3.1
      | _ + 4 => exact z0.1
    · intro i
      match i with
      | 0 => exact ⟨0, by decide, rfl⟩
      | 1 => exact ⟨1, by decide, rfl⟩
      | 2 => exact ⟨2, by decide, rfl⟩
      | 3 => exact ⟨3, by decide, rfl⟩
      | _ + 4 => exact ⟨0, by decide, rfl⟩
end
end CG
namespace CG
open PySem PySem.Spec PyProof.Rows L2
inductive Role where
  | chance | mem | cache (i : Nat) | sets (i : Nat) | set (i k : Nat) | part (i k j : Nat)
def behR (n i : Nat) : Role := if Sd39.behind i < n then .cache (Sd39.behind i) else .mem
def RoleOk (m : MMem) : Role → Prop
  | .chance => True
  | .mem => True
  | .cache i => i < m.caches.length
  | .sets i => i < m.caches.length
  | .set i k => ∃ c, m.caches[i]? = some c ∧ k < c.sets.length
  | .part i k j => (∃ c, m.caches[i]? = some c ∧ k < c.sets.length) ∧ j < 4
abbrev fC (L : Role → Addr) (n i : Nat) (c : MCache) : List (Str × V) :=
  fl_k4 (.ref (L (.sets i))) (nv c.bits) (.bl c.through) (.bl c.next) (.ref (L .chance)) (.ref (L (behR n i))) (nv c.rf) (nv c.rm) (nv c.wf) (nv c.wm) (nv c.pa) (nv c.fa)
structure MemInv (t : Cs) (L : Role → Addr) (m : MMem) (H : Hp) : Prop where
  ch : ChAt t H (L .chance) m.chance
  mm : ∃ dx, H (L .mem) = some (.ins t.k3 dx (fl_k3 (nv m.reads) (nv m.writes)))
  ca : ∀ i c, m.caches[i]? = some c → ∃ dx, H (L (.cache i)) = some (.ins t.k4 dx (fC L m.caches.length i c))
  ss : ∀ i c, m.caches[i]? = some c → H (L (.sets i)) = some (.lst ((List.range c.sets.length).map fun k => V.ref (L (.set i k))))
  st : ∀ i k c s, m.caches[i]? = some c → c.sets[k]? = some s → SetAt t H (L (.set i k)) (fun j => L (.part i k j)) c.policy s
  inj : ∀ r r', RoleOk m r → RoleOk m r' → L r = L r' → r = r'
def FrL (L : Role → Addr) (H H' : Hp) : Prop := ∀ b o, H b = some o → (∀ r, L r ≠ b) → H' b = some o
section
variable {t : Cs} {L : Role → Addr} {m m' : MMem} {H H' H1 : Hp}
theorem FrL.refl : FrL L H H := fun _ _ e _ => e
theorem FrL.trans (h : FrL L H H1) (k : FrL L H1 H') : FrL L H H' := fun b o e n => k b o (h b o e n) n
theorem FrL.put (h : FrL L H H') (r : Role) (o : HO) : FrL L H (upd H' (L r) o) := fun b u e n => by
  rw [upd_ne (n r).symm]; exact h b u e n
theorem FrL.but (h : FrL L H H1) {r : Role} (k : But H1 H' [L r]) : FrL L H H' := fun b u e n => k b u (h b u e n) (nin (n r).symm)
theorem FrL.buts (h : FrL L H H1) {i k : Nat} (kp : ButS H1 H' fun j => L (.part i k j)) : FrL L H H' := fun b u e n => kp b u (h b u e n) fun j _ => n (.part i k j)
theorem lt_of {l : List MCache} {i : Nat} {c : MCache} (h : l[i]? = some c) : i < l.length := (List.getElem?_eq_some_iff.mp h).1
theorem klt {c : MCache} {k : Nat} {s : MSet} (h : c.sets[k]? = some s) : k < c.sets.length := (List.getElem?_eq_some_iff.mp h).1
theorem RoleOk.back (h : Shape m m') {r : Role} (k : RoleOk m' r) : RoleOk m r := by
  have go : ∀ i k : Nat, (∃ c, m'.caches[i]? = some c ∧ k < c.sets.length) → ∃ c, m.caches[i]? = some c ∧ k < c.sets.length := fun i k ⟨c', hc', hk⟩ => by
    obtain ⟨c, hc, s⟩ := h.back hc'
    exact ⟨c, hc, by rw [← s.2.2.2.2.2]; exact hk⟩
  cases r with
  | chance => trivial
  | mem => trivial
  | cache i => show i < m.caches.length; rw [← h.len]; exact k
  | sets i => show i < m.caches.length; rw [← h.len]; exact k
  | set i j => exact go i j k
  | part i j z => exact ⟨go i j k.1, k.2⟩
theorem MemInv.setUp (I : MemInv t L m H) {i k : Nat} {c : MCache} {s : MSet} {f : MCache → MSet → MSet} (hc : m.caches[i]? = some c) (hs : c.sets[k]? = some s)
    (S : SetAt t H' (L (.set i k)) (fun j => L (.part i k j)) c.policy (f c s)) (kp : ButS H H' fun j => L (.part i k j)) : MemInv t L (m.modS i k f) H' := by
  have ok : ∀ j, j < 4 → RoleOk m (.part i k j) := fun j hj => ⟨⟨c, hc, klt hs⟩, hj⟩
  have ag : ∀ r o, RoleOk m r → (∀ j, r ≠ .part i k j) → H (L r) = some o → H' (L r) = some o := fun r o hr hn e => kp _ _ e fun j hj z => hn j (I.inj _ _ (ok j hj) hr z).symm
  have sh : Shape m (m.modS i k f) := Shape.modS
  have ln : (m.modS i k f).caches.length = m.caches.length := modC_len
  refine ⟨?_, ?_, fun i' c' hc' => ?_, fun i' c' hc' => ?_, fun i' k' c' s' hc' hs' => ?_, fun r r' h h' => I.inj r r' (h.back sh) (h'.back sh)⟩
  · obtain ⟨dx, e⟩ := I.ch; exact ⟨dx, ag .chance _ trivial (by intro j z; cases z) e⟩
  · obtain ⟨dx, e⟩ := I.mm; exact ⟨dx, ag .mem _ trivial (by intro j z; cases z) e⟩
  · obtain ⟨c0, h0, e0⟩ := get_modC hc'
    obtain ⟨dx, e⟩ := I.ca i' c0 h0
    refine ⟨dx, ?_⟩
    rw [ln]
    have e1 := ag (.cache i') _ (lt_of h0) (by intro j z; cases z) e
    rw [e0]
    by_cases z : i = i'
    · rw [if_pos z]; exact e1
    · rw [if_neg z]; exact e1
  · obtain ⟨c0, h0, e0⟩ := get_modC hc'
    have e1 := ag (.sets i') _ (lt_of h0) (by intro j z; cases z) (I.ss i' c0 h0)
    rw [e0]
    by_cases z : i = i'
    · rw [if_pos z]
      show H' (L (.sets i')) = some (.lst ((List.range (c0.sets.modify k (f c0)).length).map fun k => V.ref (L (.set i' k))))
      rw [List.length_modify]; exact e1
    · rw [if_neg z]; exact e1
  · obtain ⟨c0, h0, e0⟩ := get_modC hc'
    have go : ∀ s0, c0.sets[k']? = some s0 → (i' ≠ i ∨ k' ≠ k) → SetAt t H' (L (.set i' k')) (fun j => L (.part i' k' j)) c0.policy s0 := fun s0 hs0 hn => by
      refine (I.st i' k' c0 s0 h0 hs0).keep fun b o e hb => ?_
      rcases hb with rfl | ⟨j, hj, rfl⟩
      · exact ag (.set i' k') o ⟨c0, h0, klt hs0⟩ (by intro j z; cases z) e
      · exact ag (.part i' k' j) o ⟨⟨c0, h0, klt hs0⟩, hj⟩ (by intro j' z; injection z with z1 z2; exact hn.elim (fun q => q z1) fun q => q z2) e
    by_cases z : i = i'
    · subst z
      rw [if_pos rfl] at e0
      subst e0
      obtain ⟨s0, hs0, es⟩ := get_mod_ (show (c0.sets.modify k (f c0))[k']? = some s' from hs')
      rw [hc] at h0
      cases h0
      by_cases y : k = k'
      · subst y
        rw [if_pos rfl] at es
        rw [hs] at hs0
        cases hs0
        rw [es]; exact S
      · rw [if_neg y] at es
        rw [es]; exact go s0 hs0 (.inr fun q => y q.symm)
    · rw [if_neg z] at e0
      subst e0
      exact go s' hs' (.inl fun q => z q.symm)
theorem MemInv.cacheUp (I : MemInv t L m H) {i : Nat} {c : MCache} {dx : Addr} {f : MCache → MCache} (hf : ∀ c, same c (f c) ∧ (f c).sets = c.sets) (hc : m.caches[i]? = some c) {fs : List (Str × V)} (e : fs = fC L m.caches.length i (f c)) :
    MemInv t L (m.modC i f) (upd H (L (.cache i)) (.ins t.k4 dx fs)) := by
  have ag : ∀ r o, RoleOk m r → r ≠ .cache i → H (L r) = some o → upd H (L (.cache i)) (.ins t.k4 dx fs) (L r) = some o := fun r o hr hn e => by
    rw [upd_ne fun z => hn (I.inj _ _ hr (lt_of hc) z)]; exact e
  have sh : Shape m (m.modC i f) := Shape.modC fun c => (hf c).1
  have ln : (m.modC i f).caches.length = m.caches.length := modC_len
  refine ⟨?_, ?_, fun i' c' hc' => ?_, fun i' c' hc' => ?_, fun i' k' c' s' hc' hs' => ?_, fun r r' h h' => I.inj r r' (h.back sh) (h'.back sh)⟩
  · obtain ⟨dx, e⟩ := I.ch; exact ⟨dx, ag .chance _ trivial (by intro z; cases z) e⟩
  · obtain ⟨dx, e⟩ := I.mm; exact ⟨dx, ag .mem _ trivial (by intro z; cases z) e⟩
  · obtain ⟨c0, h0, e0⟩ := get_modC hc'
    rw [ln]
    by_cases z : i = i'
    · subst z
      rw [if_pos rfl] at e0
      rw [hc] at h0
      cases h0
      exact ⟨dx, by rw [upd_same, e, e0]⟩
    · rw [if_neg z] at e0
      obtain ⟨dx', e'⟩ := I.ca i' c0 h0
      rw [e0]
      exact ⟨dx', ag (.cache i') _ (lt_of h0) (by intro q; injection q with q; exact z q.symm) e'⟩
  · obtain ⟨c0, h0, e0⟩ := get_modC hc'
    have e1 := ag (.sets i') _ (lt_of h0) (by intro z; cases z) (I.ss i' c0 h0)
    have e2 : c'.sets.length = c0.sets.length := by
      rw [e0]
      split
      · exact (hf c0).1.2.2.2.2.2
      · rfl
    rw [e2]; exact e1
  · obtain ⟨c0, h0, e0⟩ := get_modC hc'
    have e2 : c'.sets = c0.sets ∧ c'.policy = c0.policy := by
      rw [e0]
      split
      · exact ⟨(hf c0).2, (hf c0).1.2.1⟩
      · exact ⟨rfl, rfl⟩
    rw [e2.1] at hs'
    rw [e2.2]
    refine (I.st i' k' c0 s' h0 hs').keep fun b o e hb => ?_
    rcases hb with rfl | ⟨j, hj, rfl⟩
    · exact ag (.set i' k') o ⟨c0, h0, klt hs'⟩ (by intro z; cases z) e
    · exact ag (.part i' k' j) o ⟨⟨c0, h0, klt hs'⟩, hj⟩ (by intro z; cases z) e
theorem MemInv.chUp (I : MemInv t L m H) {x : Nat} (hC : ChAt t H' (L .chance) x) (kp : But H H' [L .chance]) : MemInv t L { m with chance := x } H' := by
  have ag : ∀ r o, RoleOk m r → r ≠ .chance → H (L r) = some o → H' (L r) = some o := fun r o hr hn e => kp _ _ e (nin fun z => hn (I.inj _ _ hr trivial z))
  refine ⟨hC, ?_, fun i c hc => ?_, fun i c hc => ag (.sets i) _ (lt_of hc) (by intro z; cases z) (I.ss i c hc), fun i k c s hc hs => (I.st i k c s hc hs).keep fun b o e hb => ?_, fun r r' h h' => I.inj r r' h h'⟩
  · obtain ⟨dx, e⟩ := I.mm; exact ⟨dx, ag .mem _ trivial (by intro z; cases z) e⟩
  · obtain ⟨dx, e⟩ := I.ca i c hc; exact ⟨dx, ag (.cache i) _ (lt_of hc) (by intro z; cases z) e⟩
  · rcases hb with rfl | ⟨j, hj, rfl⟩
    · exact ag (.set i k) o ⟨c, hc, klt hs⟩ (by intro z; cases z) e
    · exact ag (.part i k j) o ⟨⟨c, hc, klt hs⟩, hj⟩ (by intro z; cases z) e
theorem MemInv.memUp (I : MemInv t L m H) {x y : Nat} {dx : Addr} {fs : List (Str × V)} (e : fs = fl_k3 (nv x) (nv y)) : MemInv t L { m with reads := x, writes := y } (upd H (L .mem) (.ins t.k3 dx fs)) := by
  have ag : ∀ r o, RoleOk m r → r ≠ .mem → H (L r) = some o → upd H (L .mem) (.ins t.k3 dx fs) (L r) = some o := fun r o hr hn e => by
    rw [upd_ne fun z => hn (I.inj _ _ hr trivial z)]; exact e
  refine ⟨?_, ⟨dx, by rw [upd_same, e]⟩, fun i c hc => ?_, fun i c hc => ag (.sets i) _ (lt_of hc) (by intro z; cases z) (I.ss i c hc), fun i k c s hc hs => (I.st i k c s hc hs).keep fun b o e hb => ?_, fun r r' h h' => I.inj r r' h h'⟩
  · obtain ⟨dx, e⟩ := I.ch; exact ⟨dx, ag .chance _ trivial (by intro z; cases z) e⟩
  · obtain ⟨dx, e⟩ := I.ca i c hc; exact ⟨dx, ag (.cache i) _ (lt_of hc) (by intro z; cases z) e⟩
  · rcases hb with rfl | ⟨j, hj, rfl⟩
    · exact ag (.set i k) o ⟨c, hc, klt hs⟩ (by intro z; cases z) e
    · exact ag (.part i k j) o ⟨⟨c, hc, klt hs⟩, hj⟩ (by intro z; cases z) e
end
theorem MemInv.same {t : Cs} {L : Role → Addr} {m : MMem} {H H' : Hp} (I : MemInv t L m H) (s : ∀ r o, H (L r) = some o → H' (L r) = some o) : MemInv t L m H' := by
  refine ⟨?_, ?_, fun i c hc => ?_, fun i c hc => s (.sets i) _ (I.ss i c hc), fun i k c z hc hs => (I.st i k c z hc hs).keep fun b o e hb => ?_, I.inj⟩
  · obtain ⟨dx, e⟩ := I.ch; exact ⟨dx, s .chance _ e⟩
  · obtain ⟨dx, e⟩ := I.mm; exact ⟨dx, s .mem _ e⟩
  · obtain ⟨dx, e⟩ := I.ca i c hc; exact ⟨dx, s (.cache i) _ e⟩
  · rcases hb with rfl | ⟨j, hj, rfl⟩
    · exact s (.set i k) o e
    · exact s (.part i k j) o e
def spMemInit (t : Cs) : Sp := fun vs H Q _ => ∃ p, vs = [.ref p] ∧ Fresh H p t.k3 ∧ ∀ H', (∃ dx, H' p = some (.ins t.k3 dx (fl_k3 (nv 0) (nv 0)))) → But H H' [p] → Q .non H'
def memStep (w : Bool) (m : MMem) : MMem := if w = true then { m with writes := m.writes + 1 } else { m with reads := m.reads + 1 }
def spMemAcc (t : Cs) : Sp := fun vs H Q _ => ∃ (L : Role → Addr) (m : MMem) (a : V) (w : Bool), vs = [.ref (L .mem), a, .bl w] ∧ MemInv t L m H ∧ ∀ H', MemInv t L (memStep w m) H' → FrL L H H' → Q .non H'
def spSetOf (t : Cs) : Sp := fun vs H Q _ => ∃ (L : Role → Addr) (m : MMem) (i line : Nat) (c : MCache), vs = [.ref (L (.cache i)), nv line] ∧ MemInv t L m H ∧ m.caches[i]? = some c ∧ 0 < c.sets.length ∧ Q (.ref (L (.set i (line % c.sets.length)))) H
def spAcc (t : Cs) (d : Nat) : Sp := fun vs H Q _ => ∃ (L : Role → Addr) (m : MMem) (i a : Nat) (w : Bool), vs = [.ref (L (.cache i)), nv a, .bl w] ∧ MemInv t L m H ∧ MemOk m ∧ 2 ≤ m.caches.length ∧ i < m.caches.length ∧ rank m.caches.length i ≤ d ∧ a < 2 ^ 48 ∧
  ∀ H', MemInv t L (access d i a w m) H' → FrL L H H' → Q .non H'
def spLine (t : Cs) (d : Nat) (more : List V) (bd : Bool) (g : Nat → Nat → MMem → MMem) : Sp := fun vs H Q _ => ∃ (L : Role → Addr) (m : MMem) (i line : Nat) (c : MCache), vs = .ref (L (.cache i)) :: nv line :: more ∧ MemInv t L m H ∧ MemOk m ∧ 2 ≤ m.caches.length ∧ m.caches[i]? = some c ∧ rank m.caches.length i ≤ d + 1 ∧ (bd = true → line * 2 ^ c.bits < 2 ^ 48) ∧ line < 2 ^ 60 ∧
  ∀ H', MemInv t L (g i line m) H' → FrL L H H' → Q .non H'
def behindLine (d : Nat) (w : Bool) (i line : Nat) (m : MMem) : MMem := match m.caches[i]? with
  | none => m
  | some c => access d (Sd39.behind i) (line * 2 ^ c.bits) w m
def spBehind (t : Cs) (d : Nat) : Sp := fun vs H Q E => ∃ w, spLine t d [.bl w] true (behindLine d w) vs H Q E
def spFillLine (t : Cs) (d : Nat) : Sp := fun vs H Q E => ∃ mk, spLine t d [.bl mk] true (fun i line m => fillLine (access d) i line mk m) vs H Q E
def spFetch (t : Cs) (d : Nat) : Sp := spLine t d [] false (fetchAhead (access d))
def spFillAhead (t : Cs) (d : Nat) : Sp := fun vs H Q E => ∃ mk, spLine t d [.bl mk] true (fun i line m => fillAhead (access d) i line mk m) vs H Q E
def spRead (t : Cs) (d : Nat) : Sp := spLine t d [] true (readLine (access d))
def spWrite (t : Cs) (d : Nat) : Sp := spLine t d [] true (writeLine (access d))
section
variable {P : Program} {w : World} {K : W.Frag} {mg : Str → Option Value} {base : Heap} {t : Cs} {f : Addr} {fd : FuncData}
theorem ok_q98 (T : Txt K mg t) (F : Fun K "__init__" "Memory.__init__" s_q98 f fd) : FnOk P w K mg base CX0 1 f fd ["self"] (spMemInit t) := by
  refine F.ok sc_q98 (fun vs H Q E h => ?_) (fun cdv A outer s H vs Q E hr h => ?_)
  · obtain ⟨p, rfl, _⟩ := h
    rfl
  · obtain ⟨p, rfl, ⟨dx, hp⟩, q⟩ := h
    refine ⟨_, (pss_cons (ps_fld (pv 0) pe_int rfl)
      (pss_one (ps_fld (pv 0) pe_int rfl))), ?_⟩
    refine ⟨_, rfl, _, _, _, _, rfl, hp, T.k3.cl, T.k3.n_j27, (by show 0 < 1000; decide), ?_⟩
    refine (Mid.start hp).go fun H1 m1 _ => ?_
    refine ⟨_, rfl, _, _, _, _, rfl, m1.at_, T.k3.cl, T.k3.n_j41, (by show 1 < 1000; decide), ?_⟩
    refine m1.go fun H2 m2 _ => ?_
    exact q H2 ⟨dx, m2.at_⟩ m2.but
theorem ok_q72 (T : Txt K mg t) (F : Fun K "access" "Memory.access" s_q72 f fd) : FnOk P w K mg base CX0 1 f fd ["self", "address", "writing"] (spMemAcc t) := by
  refine F.ok sc_q72 (fun vs H Q E h => ?_) (fun cdv A outer s H vs Q E hr h => ?_)
  · obtain ⟨L, m, a, k, rfl, _⟩ := h
    rfl
  · obtain ⟨L, m, a, k, rfl, I, q⟩ := h
    obtain ⟨dx, hm⟩ := I.mm
    refine ⟨_, (pss_one (ps_if (pt_val (pv 2))
      (pss_one (ps_fldaug (pv 0) pe_int in_add))
      (pss_one (ps_fldaug (pv 0) pe_int in_add)))), ?_⟩
    refine ⟨_, rfl, _, rfl, ?_⟩
    cases k with
    | true =>
      refine iteT ⟨_, rfl, _, _, _, _, _, rfl, hm, T.k3.cl, T.k3.n_j41, lk_q73, _, _, rfl, rfl, _, _, hm, (by show 2 < 1000; decide), ?_⟩
      exact q _ (I.memUp (x := m.reads) (y := m.writes + 1) pf_q73) (FrL.refl.put .mem _)
    | false =>
      refine iteF ⟨_, rfl, _, _, _, _, _, rfl, hm, T.k3.cl, T.k3.n_j27, lk_q83, _, _, rfl, rfl, _, _, hm, (by show 2 < 1000; decide), ?_⟩
      exact q _ (I.memUp (x := m.reads + 1) (y := m.writes) pf_q83) (FrL.refl.put .mem _)
theorem ok_q82 (T : Txt K mg t) (F : Fun K "set_of" "Cache.set_of" s_q82 f fd) : FnOk P w K mg base CX0 1 f fd ["self", "line"] (spSetOf t) := by
  refine F.ok sc_q82 (fun vs H Q E h => ?_) (fun cdv A outer s H vs Q E hr h => ?_)
  · obtain ⟨L, m, i, line, c, rfl, _⟩ := h
    rfl
  · obtain ⟨L, m, i, line, c, rfl, I, hc, h0, q⟩ := h
    obtain ⟨dx, ho⟩ := I.ca i c hc
    refine ⟨_, (pss_one (ps_ret (pe_ix ix_list (pe_fld (pv 0) rfl) (pe_op op_mod (pv 1) (pe_callB call_len_seq rfl T.b_len PySem.boot_len (pa_cons (pe_fld (pv 0) rfl) pa_nil))) (fun _ _ => rfl)))), ?_⟩
    have hlt : line % c.sets.length < c.sets.length := Nat.mod_lt _ h0
    refine ⟨_, rfl, _, _, _, _, _, rfl, ho, T.k4.cl, T.k4.n_j31, lk_q105, _, rfl, _, rfl, _, _, _, _, _, rfl, ho, T.k4.cl, T.k4.n_j31, lk_q105, L (.sets i), _, rfl, .inl (SqL.of (I.ss i c hc)), _, _, rfl, rfl, ?_, ?_⟩
    · rw [List.length_map, List.length_range]; omega
    refine ⟨L (.sets i), _, _, _, rfl, rfl, SqL.of (I.ss i c hc), at_nat (j := line % c.sets.length) (by rw [List.length_map, List.length_range]; rfl) (by rw [List.getElem?_map, List.getElem?_range hlt]; rfl), q⟩
end
end CG
namespace CG
open PySem PySem.Spec PyProof.Rows L2
theorem at_eq {m : MMem} {i line : Nat} {c : MCache} {s : MSet} {f : MCache → Nat → MSet → MMem} (hc : m.caches[i]? = some c) (hs : c.sets[line % c.sets.length]? = some s) : m.at i line f = f c (line % c.sets.length) s := by
  unfold MMem.at
  simp only [hc, hs]
theorem behind_eq {d : Nat} {w : Bool} {i line : Nat} {m : MMem} {c : MCache} (hc : m.caches[i]? = some c) : behindLine d w i line m = access d (Sd39.behind i) (line * 2 ^ c.bits) w m := by
  unfold behindLine
  simp only [hc]
theorem shl_v {x : V} {line bits : Nat} : (V.int ((line : Int) * 2 ^ (bits : Int).toNat)) = nv (line * 2 ^ bits) := congrArg V.int (shl_cast line bits)
theorem p60 {line b : Nat} (h : line * 2 ^ b < 2 ^ 48) : line < 2 ^ 60 := by
  have : line * 1 ≤ line * 2 ^ b := Nat.mul_le_mul_left _ (Nat.two_pow_pos b)
  omega
theorem same_pa (c : MCache) : same c { c with pa := c.pa + 1 } ∧ ({ c with pa := c.pa + 1 } : MCache).sets = c.sets := ⟨⟨rfl, rfl, rfl, rfl, rfl, rfl⟩, rfl⟩
theorem same_fa (c : MCache) : same c { c with fa := c.fa + 1 } ∧ ({ c with fa := c.fa + 1 } : MCache).sets = c.sets := ⟨⟨rfl, rfl, rfl, rfl, rfl, rfl⟩, rfl⟩
theorem same_rf (c : MCache) : same c { c with rf := c.rf + 1 } ∧ ({ c with rf := c.rf + 1 } : MCache).sets = c.sets := ⟨⟨rfl, rfl, rfl, rfl, rfl, rfl⟩, rfl⟩
theorem same_rm (c : MCache) : same c { c with rm := c.rm + 1 } ∧ ({ c with rm := c.rm + 1 } : MCache).sets = c.sets := ⟨⟨rfl, rfl, rfl, rfl, rfl, rfl⟩, rfl⟩
theorem same_wf (c : MCache) : same c { c with wf := c.wf + 1 } ∧ ({ c with wf := c.wf + 1 } : MCache).sets = c.sets := ⟨⟨rfl, rfl, rfl, rfl, rfl, rfl⟩, rfl⟩
theorem same_wm (c : MCache) : same c { c with wm := c.wm + 1 } ∧ ({ c with wm := c.wm + 1 } : MCache).sets = c.sets := ⟨⟨rfl, rfl, rfl, rfl, rfl, rfl⟩, rfl⟩
theorem set_of {c : MCache} (h : 0 < c.sets.length) (line : Nat) : ∃ s, c.sets[line % c.sets.length]? = some s := ⟨_, List.getElem?_eq_getElem (Nat.mod_lt _ h)⟩
theorem getDb {l : List Bool} {j : Nat} {b : Bool} (h : l[j]? = some b) : l.getD j false = b := by rw [List.getD_eq_getElem?_getD, h]; rfl
section
variable {P : Program} {w : World} {K : W.Frag} {mg : Str → Option Value} {base : Heap} {t : Cs} {f : Addr} {fd : FuncData}
theorem ok_q16 (T : Txt K mg t) {d : Nat} (IH : ∀ {f : Addr} {fd : FuncData}, Fun K "access" "Cache.access" s_q79 f fd → FnOk P w K mg base CX0 (6 * d + 4) f fd ["self", "address", "writing"] (spAcc t d)) (F : Fun K "access_behind" "Cache.access_behind" s_q16 f fd) : FnOk P w K mg base CX0 (6*d+5) f fd ["self", "line", "writing"] (spBehind t d) := by
  obtain ⟨f_q79, fd_q79, F_q79, b_q79, M_q79⟩ := T.k4.m_h0
  have G_q79 := IH F_q79
  obtain ⟨f_q72, fd_q72, F_q72, b_q72, M_q72⟩ := T.k3.m_h0
  have G_q72 := ok_q72 (P := P) (w := w) (base := base) T F_q72
  refine F.ok sc_q16 (fun vs H Q E h => ?_) (fun cdv A outer s H vs Q E hr h => ?_)
  · obtain ⟨k, L, m, i, line, c, rfl, _⟩ := h
    rfl
  · obtain ⟨k, L, m, i, line, c, rfl, I, O, h2, hc, hrk, hb, hl60, q⟩ := h
    obtain ⟨dx, ho⟩ := I.ca i c hc
    have oc := O i c hc
    have hb := hb rfl
    have hi := lt_of hc
    have hrb := rank_behind h2 hi
    have cp : CPow (line : Int) (c.bits : Int) := cpow (by omega) (by have := oc.b; omega)
    refine ⟨_, (pss_one (ps_expr (pe_or2 (pe_meth (pe_fld (pv 0) rfl) T.k4.cl M_q79 G_q79 (hr.mono (by omega)) b_q79 .nil pass0 (pa_cons (pe_op op_shl (pv 1) (pe_fld (pv 0) rfl)) (pa_cons (pv 2) pa_nil))) (pe_meth (pe_fld (pv 0) rfl) T.k3.cl M_q72 G_q72 (hr.mono (by omega)) b_q72 .nil pass0 (pa_cons (pe_op op_shl (pv 1) (pe_fld (pv 0) rfl)) (pa_cons (pv 2) pa_nil)))))), ?_⟩
    rw [behind_eq hc] at q
    by_cases hlt : Sd39.behind i < m.caches.length
    · have eb : behR m.caches.length i = .cache (Sd39.behind i) := if_pos hlt
      obtain ⟨dx2, ho2⟩ := I.ca (Sd39.behind i) _ (List.getElem?_eq_getElem hlt)
      rw [← eb] at ho2
      refine .inl ⟨_, rfl, _, _, _, _, _, rfl, ho, T.k4.cl, T.k4.n_j1, lk_q80, _, _, _, rfl, ho2, nl_q79, _, rfl, _, rfl, _, _, _, _, _, rfl, ho, T.k4.cl, T.k4.n_j17, lk_q48, _, _, rfl, rfl, cp, _, rfl, ?_⟩
      refine ⟨L, m, Sd39.behind i, line * 2 ^ c.bits, k, ?_, I, O, h2, hlt, by omega, hb, q⟩
      rw [eb]
      exact congrArg (fun z => [V.ref (L (.cache (Sd39.behind i))), z, V.bl k]) (shl_v (x := .non))
    · have eb : behR m.caches.length i = .mem := if_neg hlt
      obtain ⟨dx2, ho2⟩ := I.mm
      rw [← eb] at ho2
      refine .inr ⟨_, rfl, _, _, _, _, _, rfl, ho, T.k4.cl, T.k4.n_j1, lk_q80, _, _, _, rfl, ho2, nl_q72, _, rfl, _, rfl, _, _, _, _, _, rfl, ho, T.k4.cl, T.k4.n_j17, lk_q48, _, _, rfl, rfl, cp, _, rfl, ?_⟩
      refine ⟨L, m, _, k, by rw [eb]; rfl, I, fun H' I' k' => q H' ?_ k'⟩
      obtain ⟨d', rfl⟩ : ∃ d', d = d' + 1 := ⟨d - 1, by have := rank_pos m.caches.length (Sd39.behind i) h2; omega⟩
      show MemInv t L (accStep (access d') (Sd39.behind i) (line * 2 ^ c.bits) k m) H'
      unfold accStep
      simp only [List.getElem?_eq_none (Nat.le_of_not_lt hlt)]
      exact I'
theorem ok_q47 (T : Txt K mg t) {d : Nat} (IH : ∀ {f : Addr} {fd : FuncData}, Fun K "access" "Cache.access" s_q79 f fd → FnOk P w K mg base CX0 (6 * d + 4) f fd ["self", "address", "writing"] (spAcc t d)) (F : Fun K "fill_line" "Cache.fill_line" s_q47 f fd) : FnOk P w K mg base CX0 (6*d+6) f fd ["self", "line", "marked"] (spFillLine t d) := by
  obtain ⟨f_q65, fd_q65, F_q65, b_q65, M_q65⟩ := T.k2.m_h6
  have G_q65 := ok_q65 (P := P) (w := w) (base := base) T F_q65
  obtain ⟨f_q16, fd_q16, F_q16, b_q16, M_q16⟩ := T.k4.m_h1
  have G_q16 := ok_q16 (P := P) (w := w) (base := base) T IH F_q16
  obtain ⟨f_q13, fd_q13, F_q13, b_q13, M_q13⟩ := T.k2.m_h35
  have G_q13 := ok_q13 (P := P) (w := w) (base := base) T F_q13
  obtain ⟨f_q82, fd_q82, F_q82, b_q82, M_q82⟩ := T.k4.m_h29
  have G_q82 := ok_q82 (P := P) (w := w) (base := base) T F_q82
  refine F.ok sc_q47 (fun vs H Q E h => ?_) (fun cdv A outer s H vs Q E hr h => ?_)
  · obtain ⟨k, L, m, i, line, c, rfl, _⟩ := h
    rfl
  · obtain ⟨mk, L, m, i, line, c, rfl, I, O, h2, hc, hrk, hb, hl60, q⟩ := h
    obtain ⟨dx, ho⟩ := I.ca i c hc
    have oc := O i c hc
    have hb := hb rfl
    obtain ⟨s0, hs⟩ := set_of oc.s0 line
    have os := oc.st _ _ hs
    have S := I.st i _ c s0 hc hs
    obtain ⟨ds, hso⟩ := S.o
    refine ⟨_, (pss_cons (ps_set (i := 3) sc_q47.nd rfl (Or.inl rfl) (pe_meth (pv 0) T.k4.cl M_q82 G_q82 (hr.mono (by omega)) b_q82 .nil pass0 (pa_cons (pv 1) pa_nil)))
      (pss_cons (ps_set (i := 4) sc_q47.nd rfl (Or.inl rfl) (pe_meth (pv 3) T.k2.cl M_q13 G_q13 (hr.mono (by omega)) b_q13 .nil pass0 (pa_cons (pe_fld (pv 0) rfl) pa_nil)))
      (pss_cons (ps_if (pt_val (pe_ix ix_list (pe_fld (pv 3) rfl) (pv 4) (fun _ _ => rfl)))
      (pss_cons (ps_fldaug (pv 0) pe_int in_add)
      (pss_one (ps_expr (pe_meth (pv 0) T.k4.cl M_q16 G_q16 (hr.mono (by omega)) b_q16 .nil pass0 (pa_cons (pe_ix ix_list (pe_fld (pv 3) rfl) (pv 4) (fun _ _ => rfl)) (pa_cons pe_bl pa_nil))))))
      pss_nil)
      (pss_cons (ps_expr (pe_meth (pv 0) T.k4.cl M_q16 G_q16 (hr.mono (by omega)) b_q16 .nil pass0 (pa_cons (pv 1) (pa_cons pe_bl pa_nil))))
      (pss_one (ps_expr (pe_meth (pv 3) T.k2.cl M_q65 G_q65 (hr.mono (by omega)) b_q65 .nil pass0 (pa_cons (pv 4) (pa_cons (pv 1) (pa_cons (pv 2) pa_nil)))))))))), ?_⟩
    have q' : ∀ H', MemInv t L (fillLine (access d) i line mk m) H' → FrL L H H' → Q .non H' := q
    unfold fillLine at q'
    rw [at_eq hc hs] at q'
    clear q
    refine ⟨_, rfl, _, _, _, rfl, ho, nl_q82, _, rfl, L, m, i, line, c, rfl, I, hc, oc.s0, ?_⟩
    generalize hk : line % c.sets.length = k at *
    refine ⟨_, rfl, _, _, _, rfl, hso, nl_q13, _, rfl, _, _, _, _, _, rfl, ho, T.k4.cl, T.k4.n_j8, lk_q81, L (.set i k), L .chance, _, c.policy, c.ways, c.bits, m.chance, s0, rfl, S, os, oc.w0, oc.w16, oc.p, I.ch, fun H1 C1 k1 => ?_⟩
    have hv := os.way_lt oc.w0 c.policy m.chance
    generalize wayToFill c.policy s0 m.chance = v at *
    have I1 : MemInv t L { m with chance := v.2 } H1 := I.chUp C1 k1
    have O1 : MemOk { m with chance := v.2 } := O
    have f1 : FrL L H H1 := FrL.refl.but k1
    obtain ⟨dx1, ho1⟩ := I1.ca i c hc
    have S1 := I1.st i k c s0 hc hs
    obtain ⟨ds1, hso1⟩ := S1.o
    have hvm : v.1 < s0.marked.length := by rw [os.ml]; exact hv
    obtain ⟨bm, hbm⟩ : ∃ bm, s0.marked[v.1]? = some bm := ⟨_, List.getElem?_eq_getElem hvm⟩
    have ebm := getDb hbm
    refine ⟨_, rfl, _, _, _, _, _, rfl, hso1, T.k2.cl, T.k2.n_j20, lk_q45, _, rfl, L (.part i k 1), _, _, .bl bm, rfl, rfl, SqL.of S1.l1, at_nat (j := v.1) rfl (by rw [List.getElem?_map, hbm]; rfl), _, rfl, ?_⟩
    refine cut (fun H2 => MemInv t L (if s0.marked.getD v.1 false = true then access d (Sd39.behind i) ((s0.lines.getD v.1 0).toNat * 2 ^ c.bits) true (({ m with chance := v.2 } : MMem).modC i fun c => { c with pa := c.pa + 1 }) else { m with chance := v.2 }) H2 ∧ FrL L H H2) ?_ (fun z rest => ?_) (fun z => ?_)
    rotate_left
    · rw [ebm, if_pos z] at rest
      obtain ⟨n, hn, hnb⟩ := os.marked_line hv (by rw [ebm]; exact z)
      refine ⟨_, rfl, _, _, _, _, _, rfl, ho1, T.k4.cl, T.k4.n_j26, lk_q58, _, _, rfl, rfl, _, _, ho1, (by show 12 < 1000; decide), ?_⟩
      have I2 := I1.cacheUp (dx := dx1) (f := fun c => { c with pa := c.pa + 1 }) same_pa hc (fs := putF "put_away" (.int ((c.pa : Int) + 1)) (fC L m.caches.length i c)) pf_q58
      have hc2 : (({ m with chance := v.2 } : MMem).modC i fun c => { c with pa := c.pa + 1 }).caches[i]? = some { c with pa := c.pa + 1 } := modC_get hc
      obtain ⟨dx2, ho2⟩ := I2.ca i _ hc2
      have S2 := I2.st i k _ s0 hc2 hs
      obtain ⟨ds2, hso2⟩ := S2.o
      refine ⟨_, rfl, _, _, _, rfl, ho2, nl_q16, _, rfl, _, _, _, _, _, rfl, hso2, T.k2.cl, T.k2.n_j18, lk_q56, _, rfl, L (.part i k 0), _, _, nv n, rfl, rfl, SqL.of S2.l0, at_nat (j := v.1) rfl (by rw [List.getElem?_map, hn]; rfl), ?_⟩
      refine ⟨true, L, _, i, n, _, rfl, I2, O1.count same_pa, by rw [modC_len]; exact h2, hc2, by rw [modC_len]; exact hrk, fun _ => hnb, p60 hnb, fun H3 I3 k3 => rest H3 ⟨?_, (f1.put (.cache i) _).trans k3⟩⟩
      rw [behind_eq hc2] at I3
      rw [List.getD_eq_getElem?_getD, hn]
      exact I3
    · rw [ebm, if_neg z]
      exact ⟨I1, f1⟩
    rintro H2 ⟨I2, f2⟩
    have G2 : Good m (if s0.marked.getD v.1 false = true then access d (Sd39.behind i) ((s0.lines.getD v.1 0).toNat * 2 ^ c.bits) true (({ m with chance := v.2 } : MMem).modC i fun c => { c with pa := c.pa + 1 }) else { m with chance := v.2 }) := by
      have g1 : Good m ({ m with chance := v.2 } : MMem) := ⟨O, ⟨rfl, fun i c h => ⟨c, h, same.refl c⟩⟩⟩
      split
      · rename_i hm
        obtain ⟨n, hn, hnb⟩ := os.marked_line hv hm
        have g : Good m (({ m with chance := v.2 } : MMem).modC i fun c => { c with pa := c.pa + 1 }) := g1.trans ⟨g1.1.count same_pa, Shape.modC fun c => (same_pa c).1⟩
        refine g.trans (access_ok d _ _ _ _ g.1 ?_)
        rw [List.getD_eq_getElem?_getD, hn]
        exact hnb
      · exact g1
    simp only at q'
    generalize (if s0.marked.getD v.1 false = true then access d (Sd39.behind i) ((s0.lines.getD v.1 0).toNat * 2 ^ c.bits) true (({ m with chance := v.2 } : MMem).modC i fun c => { c with pa := c.pa + 1 }) else { m with chance := v.2 }) = m2 at *
    obtain ⟨c2, hc2, sm2⟩ := G2.2.at_ i c hc
    obtain ⟨dx2, ho2⟩ := I2.ca i c2 hc2
    refine ⟨_, rfl, _, _, _, rfl, ho2, nl_q16, _, rfl, ?_⟩
    refine ⟨false, L, m2, i, line, c2, rfl, I2, G2.1, by rw [G2.2.len]; exact h2, hc2, by rw [G2.2.len]; exact hrk, fun _ => by rw [sm2.2.2.1]; exact hb, hl60, fun H3 I3 k3 => ?_⟩
    rw [behind_eq hc2, sm2.2.2.1] at I3
    have G3 := G2.trans (access_ok d (Sd39.behind i) (line * 2 ^ c.bits) false m2 G2.1 hb)
    generalize access d (Sd39.behind i) (line * 2 ^ c.bits) false m2 = m3 at *
    obtain ⟨c3, hc3, sm3⟩ := G3.2.at_ i c hc
    have oc3 := G3.1 i c3 hc3
    have hkl : k < c3.sets.length := by rw [sm3.2.2.2.2.2]; exact klt hs
    have hs3 := List.getElem?_eq_getElem hkl
    have S3 := I3.st i k c3 _ hc3 hs3
    obtain ⟨ds3, hso3⟩ := S3.o
    refine ⟨_, rfl, _, _, _, rfl, hso3, nl_q65, _, rfl, _, rfl, _, rfl, ?_⟩
    refine ⟨_, _, c3.policy, c3.ways, c3.bits, _, v.1, line, mk, rfl, S3, oc3.st _ _ hs3, oc3.w16, by rw [sm3.1]; exact hv, by rw [sm3.2.2.1]; exact hb, fun H4 S4 k4 => ?_⟩
    refine q' H4 ?_ (f2.trans (k3.buts k4))
    exact I3.setUp (f := fun c s => fillSet c.policy s v.1 line mk) hc3 hs3 S4 k4
end
end CG
namespace CG
open PySem PySem.Spec PyProof.Rows L2
section
variable {P : Program} {w : World} {K : W.Frag} {mg : Str → Option Value} {base : Heap} {t : Cs} {f : Addr} {fd : FuncData}
theorem ok_q34 (T : Txt K mg t) {d : Nat} (IH : ∀ {f : Addr} {fd : FuncData}, Fun K "access" "Cache.access" s_q79 f fd → FnOk P w K mg base CX0 (6 * d + 4) f fd ["self", "address", "writing"] (spAcc t d)) (F : Fun K "fetch_ahead" "Cache.fetch_ahead" s_q34 f fd) : FnOk P w K mg base CX0 (6*d+7) f fd ["self", "line"] (spFetch t d) := by
  obtain ⟨f_q47, fd_q47, F_q47, b_q47, M_q47⟩ := T.k4.m_h8
  have G_q47 := ok_q47 (P := P) (w := w) (base := base) T IH F_q47
  obtain ⟨f_q55, fd_q55, F_q55, b_q55, M_q55⟩ := T.k2.m_h15
  have G_q55 := ok_q55 (P := P) (w := w) (base := base) T F_q55
  obtain ⟨f_q82, fd_q82, F_q82, b_q82, M_q82⟩ := T.k4.m_h29
  have G_q82 := ok_q82 (P := P) (w := w) (base := base) T F_q82
  refine F.ok sc_q34 (fun vs H Q E h => ?_) (fun cdv A outer s H vs Q E hr h => ?_)
  · obtain ⟨L, m, i, line, c, rfl, _⟩ := h
    rfl
  · obtain ⟨L, m, i, line, c, rfl, I, O, h2, hc, hrk, _, hl60, q⟩ := h
    obtain ⟨dx, ho⟩ := I.ca i c hc
    have oc := O i c hc
    obtain ⟨s0, hs⟩ := set_of oc.s0 line
    have os := oc.st _ _ hs
    have S := I.st i _ c s0 hc hs
    obtain ⟨ds, hso⟩ := S.o
    have cp : CPow (line : Int) (c.bits : Int) := cpow (by omega) (by have := oc.b; omega)
    refine ⟨_, (pss_cons (ps_if (pw_or (pt_cmpR op_ge (pe_op op_shl (pv 1) (pe_fld (pv 0) rfl)) (pgl T.c_ADDRESS_END) (nomark _)) (pw_or1 (pt_val (pe_meth (pe_meth (pv 0) T.k4.cl M_q82 G_q82 (hr.mono (by omega)) b_q82 .nil pass0 (pa_cons (pv 1) pa_nil)) T.k2.cl M_q55 G_q55 (hr.mono (by omega)) b_q55 .nil pass0 (pa_cons (pv 1) pa_nil))))).pt
      (pss_one ps_retN)
      pss_nil)
      (pss_cons (ps_fldaug (pv 0) pe_int in_add)
      (pss_one (ps_expr (pe_meth (pv 0) T.k4.cl M_q47 G_q47 (hr.mono (by omega)) b_q47 .nil pass0 (pa_cons (pv 1) (pa_cons pe_bl pa_nil))))))), ?_⟩
    unfold fetchAhead at q
    rw [at_eq hc hs] at q
    have e1 : decide ((281474976710656 : Int) ≤ (line : Int) * 2 ^ (c.bits : Int).toNat) = decide (2 ^ 48 ≤ line * 2 ^ c.bits) := by
      rw [shl_cast]
      exact decide_eq_decide.mpr (by omega)
    refine ⟨_, rfl, _, rfl, _, _, _, _, _, rfl, ho, T.k4.cl, T.k4.n_j17, lk_q48, _, _, rfl, rfl, cp, _, _, rfl, rfl, _, rfl, ?_⟩
    show if decide ((281474976710656 : Int) ≤ (line : Int) * 2 ^ (c.bits : Int).toNat) = true then _ else _
    rw [e1]
    refine ite2 (fun z => ?_) (fun z => ?_)
    · have z := of_decide_eq_true z
      rw [if_pos (.inl z)] at q
      exact iteT (q H I FrL.refl)
    · have z : ¬ 2 ^ 48 ≤ line * 2 ^ c.bits := fun y => z (decide_eq_true y)
      refine ⟨_, rfl, _, _, _, rfl, ho, nl_q82, _, rfl, L, m, i, line, c, rfl, I, hc, oc.s0, _, _, _, rfl, hso, nl_q55, _, rfl, _, _, _, s0, (line : Int), rfl, S, _, rfl, ?_⟩
      refine ite2 (fun y => ?_) (fun y => ?_)
      · rw [if_pos (.inr (of_decide_eq_true y))] at q
        exact q H I FrL.refl
      · have y : ¬ (line : Int) ∈ s0.lines := fun x => y (decide_eq_true x)
        rw [if_neg (fun x => x.elim z y)] at q
        refine ⟨_, rfl, _, _, _, _, _, rfl, ho, T.k4.cl, T.k4.n_j11, lk_q17, _, _, rfl, rfl, _, _, ho, (by show 12 < 1000; decide), ?_⟩
        have I2 := I.cacheUp (dx := dx) (f := fun c => { c with fa := c.fa + 1 }) same_fa hc (fs := putF "fetched_ahead" (.int ((c.fa : Int) + 1)) (fC L m.caches.length i c)) pf_q17
        have hc2 : (m.modC i fun c => { c with fa := c.fa + 1 }).caches[i]? = some { c with fa := c.fa + 1 } := modC_get hc
        obtain ⟨dx2, ho2⟩ := I2.ca i _ hc2
        refine ⟨_, rfl, _, _, _, rfl, ho2, nl_q47, _, rfl, ?_⟩
        exact ⟨false, L, _, i, line, _, rfl, I2, O.count same_fa, by rw [modC_len]; exact h2, hc2, by rw [modC_len]; exact hrk, fun _ => Nat.lt_of_not_le z, hl60, fun H3 I3 k3 => q H3 I3 ((FrL.refl.put (.cache i) _).trans k3)⟩
theorem ok_q0 (T : Txt K mg t) {d : Nat} (IH : ∀ {f : Addr} {fd : FuncData}, Fun K "access" "Cache.access" s_q79 f fd → FnOk P w K mg base CX0 (6 * d + 4) f fd ["self", "address", "writing"] (spAcc t d)) (F : Fun K "fill_and_fetch_ahead" "Cache.fill_and_fetch_ahead" s_q0 f fd) : FnOk P w K mg base CX0 (6*d+8) f fd ["self", "line", "marked"] (spFillAhead t d) := by
  obtain ⟨f_q34, fd_q34, F_q34, b_q34, M_q34⟩ := T.k4.m_h5
  have G_q34 := ok_q34 (P := P) (w := w) (base := base) T IH F_q34
  obtain ⟨f_q47, fd_q47, F_q47, b_q47, M_q47⟩ := T.k4.m_h8
  have G_q47 := ok_q47 (P := P) (w := w) (base := base) T IH F_q47
  refine F.ok sc_q0 (fun vs H Q E h => ?_) (fun cdv A outer s H vs Q E hr h => ?_)
  · obtain ⟨k, L, m, i, line, c, rfl, _⟩ := h
    rfl
  · obtain ⟨mk, L, m, i, line, c, rfl, I, O, h2, hc, hrk, hb, hl60, q⟩ := h
    obtain ⟨dx, ho⟩ := I.ca i c hc
    have hb := hb rfl
    refine ⟨_, (pss_cons (ps_expr (pe_meth (pv 0) T.k4.cl M_q47 G_q47 (hr.mono (by omega)) b_q47 .nil pass0 (pa_cons (pv 1) (pa_cons (pv 2) pa_nil))))
      (pss_one (ps_if (pt_val (pe_fld (pv 0) rfl))
      (pss_one (ps_expr (pe_meth (pv 0) T.k4.cl M_q34 G_q34 (hr.mono (by omega)) b_q34 .nil pass0 (pa_cons (pe_op op_add (pv 1) pe_int) pa_nil))))
      pss_nil))), ?_⟩
    have q' : ∀ H', MemInv t L (fillAhead (access d) i line mk m) H' → FrL L H H' → Q .non H' := q
    unfold fillAhead at q'
    simp only [hc] at q'
    clear q
    have G := fill_good (access_ok d) O (i := i) (line := line) (mk := mk) fun c' hc' => by rw [hc] at hc'; cases hc'; exact hb
    refine ⟨_, rfl, _, _, _, rfl, ho, nl_q47, _, rfl, _, rfl, mk, L, m, i, line, c, rfl, I, O, h2, hc, hrk, fun _ => hb, hl60, fun H2 I2 k2 => ?_⟩
    have I2 : MemInv t L (fillLine (access d) i line mk m) H2 := I2
    generalize fillLine (access d) i line mk m = m2 at *
    obtain ⟨c2, hc2, sm2⟩ := G.2.at_ i c hc
    obtain ⟨dx2, ho2⟩ := I2.ca i c2 hc2
    refine ⟨_, rfl, _, _, _, _, _, rfl, ho2, T.k4.cl, T.k4.n_j12, lk_q18, _, rfl, ?_⟩
    rw [sm2.2.2.2.2.1]
    refine ite2 (fun z => ?_) (fun z => ?_)
    · rw [if_pos z] at q'
      refine ⟨_, rfl, _, _, _, rfl, ho2, nl_q34, _, rfl, _, _, rfl, rfl, ?_⟩
      have h60 : line * 1 ≤ line * 2 ^ c.bits := Nat.mul_le_mul_left _ (Nat.two_pow_pos _)
      exact ⟨L, m2, i, line + 1, c2, rfl, I2, G.1, by rw [G.2.len]; exact h2, hc2, by rw [G.2.len]; exact hrk, fun y => absurd y Bool.false_ne_true, by omega, fun H3 I3 k3 => q' H3 I3 (k2.trans k3)⟩
    · rw [if_neg z] at q'
      exact q' H2 I2 k2
theorem ok_q49 (T : Txt K mg t) {d : Nat} (IH : ∀ {f : Addr} {fd : FuncData}, Fun K "access" "Cache.access" s_q79 f fd → FnOk P w K mg base CX0 (6 * d + 4) f fd ["self", "address", "writing"] (spAcc t d)) (F : Fun K "read_line" "Cache.read_line" s_q49 f fd) : FnOk P w K mg base CX0 (6*d+9) f fd ["self", "line"] (spRead t d) := by
  obtain ⟨f_q55, fd_q55, F_q55, b_q55, M_q55⟩ := T.k2.m_h15
  have G_q55 := ok_q55 (P := P) (w := w) (base := base) T F_q55
  obtain ⟨f_q78, fd_q78, F_q78, b_q78, M_q78⟩ := T.k2.m_h32
  have G_q78 := ok_q78 (P := P) (w := w) (base := base) T F_q78
  obtain ⟨f_q0, fd_q0, F_q0, b_q0, M_q0⟩ := T.k4.m_h7
  have G_q0 := ok_q0 (P := P) (w := w) (base := base) T IH F_q0
  obtain ⟨f_q82, fd_q82, F_q82, b_q82, M_q82⟩ := T.k4.m_h29
  have G_q82 := ok_q82 (P := P) (w := w) (base := base) T F_q82
  refine F.ok sc_q49 (fun vs H Q E h => ?_) (fun cdv A outer s H vs Q E hr h => ?_)
  · obtain ⟨L, m, i, line, c, rfl, _⟩ := h
    rfl
  · obtain ⟨L, m, i, line, c, rfl, I, O, h2, hc, hrk, hb, hl60, q⟩ := h
    obtain ⟨dx, ho⟩ := I.ca i c hc
    have hb := hb rfl
    have oc := O i c hc
    obtain ⟨s0, hs⟩ := set_of oc.s0 line
    have os := oc.st _ _ hs
    have S := I.st i _ c s0 hc hs
    obtain ⟨ds, hso⟩ := S.o
    refine ⟨_, (pss_cons (ps_set (i := 2) sc_q49.nd rfl (Or.inl rfl) (pe_meth (pv 0) T.k4.cl M_q82 G_q82 (hr.mono (by omega)) b_q82 .nil pass0 (pa_cons (pv 1) pa_nil)))
      (pss_one (ps_if (pt_val (pe_meth (pv 2) T.k2.cl M_q55 G_q55 (hr.mono (by omega)) b_q55 .nil pass0 (pa_cons (pv 1) pa_nil)))
      (pss_cons (ps_fldaug (pv 0) pe_int in_add)
      (pss_one (ps_expr (pe_meth (pv 2) T.k2.cl M_q78 G_q78 (hr.mono (by omega)) b_q78 .nil pass0 (pa_cons (pv 1) pa_nil)))))
      (pss_cons (ps_fldaug (pv 0) pe_int in_add)
      (pss_one (ps_expr (pe_meth (pv 0) T.k4.cl M_q0 G_q0 (hr.mono (by omega)) b_q0 .nil pass0 (pa_cons (pv 1) (pa_cons pe_bl pa_nil))))))))), ?_⟩
    unfold readLine at q
    rw [at_eq hc hs] at q
    refine ⟨_, rfl, _, _, _, rfl, ho, nl_q82, _, rfl, L, m, i, line, c, rfl, I, hc, oc.s0, ?_⟩
    refine ⟨_, rfl, _, _, _, rfl, hso, nl_q55, _, rfl, _, _, _, s0, (line : Int), rfl, S, _, rfl, ?_⟩
    refine ite2 (fun z => ?_) (fun z => ?_)
    · have z := of_decide_eq_true z
      rw [if_pos z] at q
      refine ⟨_, rfl, _, _, _, _, _, rfl, ho, T.k4.cl, T.k4.n_j28, lk_q35, _, _, rfl, rfl, _, _, ho, (by show 12 < 1000; decide), ?_⟩
      have I2 := I.cacheUp (dx := dx) (f := fun c => { c with rf := c.rf + 1 }) same_rf hc (fs := putF "reads_found" (.int ((c.rf : Int) + 1)) (fC L m.caches.length i c)) pf_q35
      have hc2 : (m.modC i fun c => { c with rf := c.rf + 1 }).caches[i]? = some { c with rf := c.rf + 1 } := modC_get hc
      have S2 := I2.st i _ _ s0 hc2 hs
      obtain ⟨ds2, hso2⟩ := S2.o
      refine ⟨_, rfl, _, _, _, rfl, hso2, nl_q78, _, rfl, _, _, c.policy, c.ways, c.bits, s0, (line : Int), rfl, S2, os, oc.w16, z, fun H3 S3 k3 => q H3 ?_ ((FrL.refl.put (.cache i) _).buts k3)⟩
      exact I2.setUp (f := fun c s => useLine c.policy s line) hc2 hs S3 k3
    · have z : ¬ (line : Int) ∈ s0.lines := fun x => z (decide_eq_true x)
      rw [if_neg z] at q
      refine ⟨_, rfl, _, _, _, _, _, rfl, ho, T.k4.cl, T.k4.n_j29, lk_q26, _, _, rfl, rfl, _, _, ho, (by show 12 < 1000; decide), ?_⟩
      have I2 := I.cacheUp (dx := dx) (f := fun c => { c with rm := c.rm + 1 }) same_rm hc (fs := putF "reads_missed" (.int ((c.rm : Int) + 1)) (fC L m.caches.length i c)) pf_q26
      have hc2 : (m.modC i fun c => { c with rm := c.rm + 1 }).caches[i]? = some { c with rm := c.rm + 1 } := modC_get hc
      obtain ⟨dx2, ho2⟩ := I2.ca i _ hc2
      refine ⟨_, rfl, _, _, _, rfl, ho2, nl_q0, _, rfl, ?_⟩
      exact ⟨false, L, _, i, line, _, rfl, I2, O.count same_rm, by rw [modC_len]; exact h2, hc2, by rw [modC_len]; exact hrk, fun _ => hb, hl60, fun H3 I3 k3 => q H3 I3 ((FrL.refl.put (.cache i) _).trans k3)⟩
theorem ok_q39 (T : Txt K mg t) {d : Nat} (IH : ∀ {f : Addr} {fd : FuncData}, Fun K "access" "Cache.access" s_q79 f fd → FnOk P w K mg base CX0 (6 * d + 4) f fd ["self", "address", "writing"] (spAcc t d)) (F : Fun K "write_line" "Cache.write_line" s_q39 f fd) : FnOk P w K mg base CX0 (6*d+9) f fd ["self", "line"] (spWrite t d) := by
  obtain ⟨f_q16, fd_q16, F_q16, b_q16, M_q16⟩ := T.k4.m_h1
  have G_q16 := ok_q16 (P := P) (w := w) (base := base) T IH F_q16
  obtain ⟨f_q67, fd_q67, F_q67, b_q67, M_q67⟩ := T.k2.m_h22
  have G_q67 := ok_q67 (P := P) (w := w) (base := base) T F_q67
  obtain ⟨f_q0, fd_q0, F_q0, b_q0, M_q0⟩ := T.k4.m_h7
  have G_q0 := ok_q0 (P := P) (w := w) (base := base) T IH F_q0
  obtain ⟨f_q78, fd_q78, F_q78, b_q78, M_q78⟩ := T.k2.m_h32
  have G_q78 := ok_q78 (P := P) (w := w) (base := base) T F_q78
  obtain ⟨f_q55, fd_q55, F_q55, b_q55, M_q55⟩ := T.k2.m_h15
  have G_q55 := ok_q55 (P := P) (w := w) (base := base) T F_q55
  obtain ⟨f_q82, fd_q82, F_q82, b_q82, M_q82⟩ := T.k4.m_h29
  have G_q82 := ok_q82 (P := P) (w := w) (base := base) T F_q82
  refine F.ok sc_q39 (fun vs H Q E h => ?_) (fun cdv A outer s H vs Q E hr h => ?_)
  · obtain ⟨L, m, i, line, c, rfl, _⟩ := h
    rfl
  · obtain ⟨L, m, i, line, c, rfl, I, O, h2, hc, hrk, hb, hl60, q⟩ := h
    obtain ⟨dx, ho⟩ := I.ca i c hc
    have hb := hb rfl
    have oc := O i c hc
    obtain ⟨s0, hs⟩ := set_of oc.s0 line
    have os := oc.st _ _ hs
    have S := I.st i _ c s0 hc hs
    obtain ⟨ds, hso⟩ := S.o
    refine ⟨_, (pss_cons (ps_set (i := 2) sc_q39.nd rfl (Or.inl rfl) (pe_meth (pv 0) T.k4.cl M_q82 G_q82 (hr.mono (by omega)) b_q82 .nil pass0 (pa_cons (pv 1) pa_nil)))
      (pss_cons (ps_set (i := 3) sc_q39.nd rfl (Or.inl rfl) (pe_meth (pv 2) T.k2.cl M_q55 G_q55 (hr.mono (by omega)) b_q55 .nil pass0 (pa_cons (pv 1) pa_nil)))
      (pss_cons (ps_if (pt_val (pv 3))
      (pss_cons (ps_fldaug (pv 0) pe_int in_add)
      (pss_one (ps_expr (pe_meth (pv 2) T.k2.cl M_q78 G_q78 (hr.mono (by omega)) b_q78 .nil pass0 (pa_cons (pv 1) pa_nil)))))
      (pss_one (ps_fldaug (pv 0) pe_int in_add)))
      (pss_one (ps_if (pt_val (pe_fld (pv 0) rfl))
      (pss_one (ps_expr (pe_meth (pv 0) T.k4.cl M_q16 G_q16 (hr.mono (by omega)) b_q16 .nil pass0 (pa_cons (pv 1) (pa_cons pe_bl pa_nil)))))
      (pss_one (ps_if (pt_val (pv 3))
      (pss_one (ps_expr (pe_meth (pv 2) T.k2.cl M_q67 G_q67 (hr.mono (by omega)) b_q67 .nil pass0 (pa_cons (pv 1) pa_nil))))
      (pss_one (ps_expr (pe_meth (pv 0) T.k4.cl M_q0 G_q0 (hr.mono (by omega)) b_q0 .nil pass0 (pa_cons (pv 1) (pa_cons pe_bl pa_nil)))))))))))), ?_⟩
    unfold writeLine at q
    rw [at_eq hc hs] at q
    refine ⟨_, rfl, _, _, _, rfl, ho, nl_q82, _, rfl, L, m, i, line, c, rfl, I, hc, oc.s0, ?_⟩
    refine ⟨_, rfl, _, _, _, rfl, hso, nl_q55, _, rfl, _, _, _, s0, (line : Int), rfl, S, ?_⟩
    refine ⟨_, rfl, _, rfl, ?_⟩
    by_cases z : (line : Int) ∈ s0.lines
    · rw [decide_eq_true z]
      rw [if_pos z] at q
      refine iteT ⟨_, rfl, _, _, _, _, _, rfl, ho, T.k4.cl, T.k4.n_j42, lk_q27, _, _, rfl, rfl, _, _, ho, (by show 12 < 1000; decide), ?_⟩
      have I2 := I.cacheUp (dx := dx) (f := fun c => { c with wf := c.wf + 1 }) same_wf hc (fs := putF "writes_found" (.int ((c.wf : Int) + 1)) (fC L m.caches.length i c)) pf_q27
      have hc2 : (m.modC i fun c => { c with wf := c.wf + 1 }).caches[i]? = some { c with wf := c.wf + 1 } := modC_get hc
      have S2 := I2.st i _ _ s0 hc2 hs
      obtain ⟨ds2, hso2⟩ := S2.o
      refine ⟨_, rfl, _, _, _, rfl, hso2, nl_q78, _, rfl, _, _, c.policy, c.ways, c.bits, s0, (line : Int), rfl, S2, os, oc.w16, z, fun H3 S3 k3 => ?_⟩
      have I3 := I2.setUp (f := fun c s => useLine c.policy s line) hc2 hs S3 k3
      have f3 : FrL L H H3 := (FrL.refl.put (.cache i) _).buts k3
      have hc3 : ((m.modC i fun c => { c with wf := c.wf + 1 }).modS i (line % c.sets.length) fun c s => useLine c.policy s line).caches[i]? = some { c with wf := c.wf + 1, sets := c.sets.modify (line % c.sets.length) (fun s => useLine c.policy s line) } := modC_get hc2
      have G3 : MemOk ((m.modC i fun c => { c with wf := c.wf + 1 }).modS i (line % c.sets.length) fun c s => useLine c.policy s line) := (O.count same_wf).modS fun c' s' hc' hs' oc' => by
        rw [hc2] at hc'
        cases hc'
        have hs' : c.sets[line % c.sets.length]? = some s' := hs'
        rw [hs] at hs'
        cases hs'
        exact os.useLine _ z
      have L3 : ((m.modC i fun c => { c with wf := c.wf + 1 }).modS i (line % c.sets.length) fun c s => useLine c.policy s line).caches.length = m.caches.length := by unfold MMem.modS; rw [modC_len, modC_len]
      have hs3 : (c.sets.modify (line % c.sets.length) (fun s => useLine c.policy s line))[line % c.sets.length]? = some (useLine c.policy s0 line) := mod_get hs
      simp only at q
      obtain ⟨dx3, ho3⟩ := I3.ca i _ hc3
      refine ⟨_, rfl, _, _, _, _, _, rfl, ho3, T.k4.cl, T.k4.n_j44, lk_q14, _, rfl, ?_⟩
      refine ite2 (fun y => ?_) (fun y => ?_)
      · have y : c.through = true := y
        rw [if_pos y] at q
        refine ⟨_, rfl, _, _, _, rfl, ho3, nl_q16, _, rfl, ?_⟩
        refine ⟨true, L, _, i, line, _, rfl, I3, G3, by rw [L3]; exact h2, hc3, by rw [L3]; exact hrk, fun _ => hb, hl60, fun H4 I4 k4 => q H4 ?_ (f3.trans k4)⟩
        rw [behind_eq hc3] at I4
        exact I4
      · have y : ¬ c.through = true := y
        rw [if_neg y] at q
        refine ⟨_, rfl, _, rfl, iteT ?_⟩
        have S3' := I3.st i _ _ _ hc3 hs3
        obtain ⟨ds3, hso3⟩ := S3'.o
        have lin : (useLine c.policy s0 line).lines = s0.lines := by
          unfold useLine useWay putLast turnTree
          split
          · rfl
          · split <;> rfl
        refine ⟨_, rfl, _, _, _, rfl, hso3, nl_q67, _, rfl, _, _, c.policy, c.ways, c.bits, _, (line : Int), rfl, S3', os.useLine _ z, by rw [lin]; exact z, fun H4 S4 k4 => q H4 ?_ (f3.buts k4)⟩
        exact I3.setUp (f := fun _ s => markLine s line) hc3 hs3 S4 k4
    · rw [decide_eq_false z]
      rw [if_neg z] at q
      refine iteF ⟨_, rfl, _, _, _, _, _, rfl, ho, T.k4.cl, T.k4.n_j43, lk_q19, _, _, rfl, rfl, _, _, ho, (by show 12 < 1000; decide), ?_⟩
      have I2 := I.cacheUp (dx := dx) (f := fun c => { c with wm := c.wm + 1 }) same_wm hc (fs := putF "writes_missed" (.int ((c.wm : Int) + 1)) (fC L m.caches.length i c)) pf_q19
      have f2 : FrL L H (upd H (L (.cache i)) (.ins t.k4 dx (putF "writes_missed" (.int ((c.wm : Int) + 1)) (fC L m.caches.length i c)))) := FrL.refl.put (.cache i) _
      have hc2 : (m.modC i fun c => { c with wm := c.wm + 1 }).caches[i]? = some { c with wm := c.wm + 1 } := modC_get hc
      obtain ⟨dx2, ho2⟩ := I2.ca i _ hc2
      simp only at q
      refine ⟨_, rfl, _, _, _, _, _, rfl, ho2, T.k4.cl, T.k4.n_j44, lk_q14, _, rfl, ?_⟩
      refine ite2 (fun y => ?_) (fun y => ?_)
      · have y : c.through = true := y
        rw [if_pos y] at q
        refine ⟨_, rfl, _, _, _, rfl, ho2, nl_q16, _, rfl, ?_⟩
        refine ⟨true, L, _, i, line, _, rfl, I2, O.count same_wm, by rw [modC_len]; exact h2, hc2, by rw [modC_len]; exact hrk, fun _ => hb, hl60, fun H4 I4 k4 => q H4 ?_ (f2.trans k4)⟩
        rw [behind_eq hc2] at I4
        exact I4
      · have y : ¬ c.through = true := y
        rw [if_neg y] at q
        refine ⟨_, rfl, _, rfl, iteF ?_⟩
        refine ⟨_, rfl, _, _, _, rfl, ho2, nl_q0, _, rfl, ?_⟩
        exact ⟨true, L, _, i, line, _, rfl, I2, O.count same_wm, by rw [modC_len]; exact h2, hc2, by rw [modC_len]; exact hrk, fun _ => hb, hl60, fun H3 I3 k3 => q H3 I3 (f2.trans k3)⟩
theorem ok_q79_step (T : Txt K mg t) {d : Nat} (IH : ∀ {f : Addr} {fd : FuncData}, Fun K "access" "Cache.access" s_q79 f fd → FnOk P w K mg base CX0 (6 * d + 4) f fd ["self", "address", "writing"] (spAcc t d)) (F : Fun K "access" "Cache.access" s_q79 f fd) : FnOk P w K mg base CX0 (6*(d+1)+4) f fd ["self", "address", "writing"] (spAcc t (d+1)) := by
  obtain ⟨f_q39, fd_q39, F_q39, b_q39, M_q39⟩ := T.k4.m_h36
  have G_q39 := ok_q39 (P := P) (w := w) (base := base) T IH F_q39
  obtain ⟨f_q49, fd_q49, F_q49, b_q49, M_q49⟩ := T.k4.m_h25
  have G_q49 := ok_q49 (P := P) (w := w) (base := base) T IH F_q49
  refine F.ok sc_q79 (fun vs H Q E h => ?_) (fun cdv A outer s H vs Q E hr h => ?_)
  · obtain ⟨L, m, i, a, k, rfl, _⟩ := h
    rfl
  · obtain ⟨L, m, i, a, k, rfl, I, O, h2, hi, hrk, ha, q⟩ := h
    have hc := List.getElem?_eq_getElem hi
    generalize m.caches[i] = c at hc
    obtain ⟨dx, ho⟩ := I.ca i c hc
    have oc := O i c hc
    have hb : a / 2 ^ c.bits * 2 ^ c.bits < 2 ^ 48 := Nat.lt_of_le_of_lt (div_line _ _) ha
    refine ⟨_, (pss_cons (ps_set (i := 3) sc_q79.nd rfl (Or.inl rfl) (pe_op op_shr (pv 1) (pe_fld (pv 0) rfl)))
      (pss_one (ps_if (pt_val (pv 2))
      (pss_one (ps_expr (pe_meth (pv 0) T.k4.cl M_q39 G_q39 (hr.mono (by omega)) b_q39 .nil pass0 (pa_cons (pv 3) pa_nil))))
      (pss_one (ps_expr (pe_meth (pv 0) T.k4.cl M_q49 G_q49 (hr.mono (by omega)) b_q49 .nil pass0 (pa_cons (pv 3) pa_nil))))))), ?_⟩
    have q' : ∀ H', MemInv t L (accStep (access d) i a k m) H' → FrL L H H' → Q .non H' := q
    unfold accStep at q'
    simp only [hc] at q'
    clear q
    refine ⟨_, rfl, _, rfl, _, _, _, _, _, rfl, ho, T.k4.cl, T.k4.n_j17, lk_q48, _, _, rfl, rfl, (by show (0 : Int) ≤ (c.bits : Int); omega), ?_⟩
    have e1 : V.int ((a : Int) / 2 ^ (c.bits : Int).toNat) = nv (a / 2 ^ c.bits) := congrArg V.int (shr_cast a c.bits)
    refine ⟨_, rfl, _, rfl, ?_⟩
    cases k with
    | true =>
      rw [if_pos rfl] at q'
      refine iteT ⟨_, rfl, _, _, _, rfl, ho, nl_q39, _, rfl, ?_⟩
      exact ⟨L, m, i, a / 2 ^ c.bits, c, congrArg (fun z => [V.ref (L (.cache i)), z]) e1, I, O, h2, hc, hrk, fun _ => hb, p60 hb, q'⟩
    | false =>
      rw [if_neg Bool.false_ne_true] at q'
      refine iteF ⟨_, rfl, _, _, _, rfl, ho, nl_q49, _, rfl, ?_⟩
      exact ⟨L, m, i, a / 2 ^ c.bits, c, congrArg (fun z => [V.ref (L (.cache i)), z]) e1, I, O, h2, hc, hrk, fun _ => hb, p60 hb, q'⟩
theorem acc_all (T : Txt K mg t) : ∀ d, ∀ {f : Addr} {fd : FuncData}, Fun K "access" "Cache.access" s_q79 f fd → FnOk P w K mg base CX0 (6 * d + 4) f fd ["self", "address", "writing"] (spAcc t d)
  | 0, f, fd => fun _ => by
    have no : ∀ vs H Q E, ¬ spAcc t 0 vs H Q E := fun vs H Q E ⟨L, m, i, a, k, _, _, _, h2, _, hrk, _⟩ => by
      have := rank_pos m.caches.length i h2
      omega
    exact ⟨fun vs H Q E h => absurd h (no vs H Q E), fun A outer s H args us vs Q E _ _ _ _ h => absurd h (no vs H Q E)⟩
  | d + 1, f, fd => fun F => ok_q79_step T (fun {f fd} F' => acc_all T d F') F
theorem ok_q79 (T : Txt K mg t) (F : Fun K "access" "Cache.access" s_q79 f fd) : FnOk P w K mg base CX0 28 f fd ["self", "address", "writing"] (spAcc t 4) := acc_all T 4 F
end
end CG
namespace CG
open PySem PySem.Spec PyProof.Rows L2
theorem fold_good {i : Nat} {k : Bool} {g : Nat → Nat} : ∀ (j : Nat) (m : MMem), MemOk m → (∀ x, x < j → g x < 2 ^ 48) → Good m ((List.range j).foldl (fun m x => access 4 i (g x) k m) m)
  | 0, m, h, _ => ⟨h, Shape.refl m⟩
  | j + 1, m, h, hg => by
    rw [List.range_succ, List.foldl_append]
    have ih := fold_good (i := i) (k := k) (g := g) j m h fun x hx => hg x (by omega)
    exact ih.trans (access_ok 4 i (g j) k _ ih.1 (hg j (by omega)))
def spBytes (t : Cs) : Sp := fun vs H Q _ => ∃ (L : Role → Addr) (m : MMem) (i a n : Nat) (k : Bool), vs = [.ref (L (.cache i)), nv a, nv n, .bl k] ∧ MemInv t L m H ∧ MemOk m ∧ 2 ≤ m.caches.length ∧ m.caches.length ≤ 4 ∧ i < m.caches.length ∧ 0 < n ∧ a + n ≤ 2 ^ 48 ∧
  ∀ H', MemInv t L (accBytes i a n k m) H' → FrL L H H' → Q .non H'
def counted (c : MCache) : List Nat := [c.rf, c.rm, c.wf, c.wm, c.pa, c.fa]
def spCounted (t : Cs) : Sp := fun vs H Q _ => ∃ (L : Role → Addr) (m : MMem) (i : Nat) (c : MCache), vs = [.ref (L (.cache i))] ∧ MemInv t L m H ∧ m.caches[i]? = some c ∧
  ∀ (H' : Hp) (p : Addr), H' p = some (.lst ((counted c).map nv)) → Same H H' → H p = none → Q (.ref p) H'
theorem rank4 {n i : Nat} (h2 : 2 ≤ n) (h4 : n ≤ 4) (hi : i < n) : rank n i ≤ 4 := by
  unfold rank
  repeat' split
  all_goals omega
section
variable {P : Program} {w : World} {K : W.Frag} {mg : Str → Option Value} {base : Heap} {t : Cs} {f : Addr} {fd : FuncData}
theorem ok_q25 (T : Txt K mg t) (F : Fun K "access_bytes" "Cache.access_bytes" s_q25 f fd) : FnOk P w K mg base CX0 29 f fd ["self", "address", "size", "writing"] (spBytes t) := by
  obtain ⟨f_q79, fd_q79, F_q79, b_q79, M_q79⟩ := T.k4.m_h0
  have G_q79 := ok_q79 (P := P) (w := w) (base := base) T F_q79
  refine F.ok sc_q25 (fun vs H Q E h => ?_) (fun cdv A outer s H vs Q E hr h => ?_)
  · obtain ⟨L, m, i, a, n, k, rfl, _⟩ := h
    rfl
  · obtain ⟨L, m, i, a, n, k, rfl, I, O, h2, h4, hi, hn, han, q⟩ := h
    have hc := List.getElem?_eq_getElem hi
    generalize m.caches[i] = c at hc
    obtain ⟨dx, ho⟩ := I.ca i c hc
    have oc := O i c hc
    refine ⟨_, (pss_cons (ps_set (i := 4) sc_q25.nd rfl (Or.inl rfl) (pe_op op_shr (pv 1) (pe_fld (pv 0) rfl)))
      (pss_cons (ps_set (i := 5) sc_q25.nd rfl (Or.inl rfl) (pe_op op_shr (pe_op op_sub (pe_op op_add (pv 1) (pv 2)) pe_int) (pe_fld (pv 0) rfl)))
      (pss_one (ps_for PassesOwn.never rfl (pi_range2 rfl T.b_range (pa_cons (pv 4) (pa_cons (pe_op op_add (pv 5) pe_int) pa_nil))) (pg_name (i := 6) sc_q25.nd rfl (Or.inl rfl))
      (pss_one (ps_expr (pe_meth (pv 0) T.k4.cl M_q79 G_q79 (hr.mono (by omega)) b_q79 .nil pass0 (pa_cons (pe_op op_shl (pv 6) (pe_fld (pv 0) rfl)) (pa_cons (pv 3) pa_nil))))))))), ?_⟩
    unfold accBytes at q
    simp only [hc] at q
    have cb : (0 : Int) ≤ (c.bits : Int) := by omega
    obtain ⟨f0, ef0⟩ : ∃ f0 : Int, f0 = (a : Int) / 2 ^ (c.bits : Int).toNat := ⟨_, rfl⟩
    obtain ⟨l0, el0⟩ : ∃ l0 : Int, l0 = ((a : Int) + (n : Int) - 1) / 2 ^ (c.bits : Int).toNat := ⟨_, rfl⟩
    have ef : f0 = ((a / 2 ^ c.bits : Nat) : Int) := by rw [ef0]; exact shr_cast a c.bits
    have el : l0 = (((a + n - 1) / 2 ^ c.bits : Nat) : Int) := by
      rw [el0, ← shr_cast]
      congr 1
      omega
    have hle : a / 2 ^ c.bits ≤ (a + n - 1) / 2 ^ c.bits := Nat.div_le_div_right (by omega)
    have hlast : (a + n - 1) / 2 ^ c.bits ≤ a + n - 1 := Nat.div_le_self _ _
    have hadr : ∀ x, x < (a + n - 1) / 2 ^ c.bits + 1 - a / 2 ^ c.bits → (a / 2 ^ c.bits + x) * 2 ^ c.bits < 2 ^ 48 := fun x hx => by
      have e1 : (a / 2 ^ c.bits + x) * 2 ^ c.bits ≤ (a + n - 1) / 2 ^ c.bits * 2 ^ c.bits := Nat.mul_le_mul_right _ (by omega)
      have e2 := div_line (a + n - 1) c.bits
      omega
    have htn : (l0 + 1 - f0).toNat = (a + n - 1) / 2 ^ c.bits + 1 - a / 2 ^ c.bits := by rw [ef, el]; omega
    have bds : -(2 ^ 62) ≤ f0 ∧ f0 < 2 ^ 62 ∧ -(2 ^ 62) ≤ l0 + 1 ∧ l0 + 1 < 2 ^ 62 := by
      rw [ef, el]
      generalize (a + n - 1) / 2 ^ c.bits = x at hle hlast
      generalize a / 2 ^ c.bits = y at hle
      omega
    refine ⟨_, rfl, _, rfl, _, _, _, _, _, rfl, ho, T.k4.cl, T.k4.n_j17, lk_q48, _, _, rfl, rfl, cb, ?_⟩
    refine ⟨_, rfl, _, rfl, _, _, rfl, rfl, _, _, rfl, rfl, _, rfl, _, _, _, _, _, rfl, ho, T.k4.cl, T.k4.n_j17, lk_q48, _, _, rfl, rfl, cb, ?_⟩
    refine ⟨_, rfl, _, rfl, _, _, rfl, rfl, f0, l0 + 1, by rw [ef0, el0], bds, ?_⟩
    refine for_range (lo := f0) (n := (l0 + 1 - f0).toNat) (fun j σ H' => ∃ v : Option V, σ = [some (.ref (L (.cache i))), some (nv a), some (nv n), some (.bl k), some (.int f0), some (.int l0), v] ∧ MemInv t L ((List.range j).foldl (fun m x => access 4 i ((a / 2 ^ c.bits + x) * 2 ^ c.bits) k m) m) H' ∧ FrL L H H') ⟨none, by rw [ef0, el0]; rfl, I, FrL.refl⟩ ?_ ?_
    · rintro j σ H' hj ⟨v, rfl, I', f'⟩
      rw [htn] at hj
      have G := fold_good (i := i) (k := k) (g := fun x => (a / 2 ^ c.bits + x) * 2 ^ c.bits) j m O fun x hx => hadr x (by omega)
      obtain ⟨c', hc', sm⟩ := G.2.at_ i c hc
      obtain ⟨dx', ho'⟩ := I'.ca i c' hc'
      have e2 : f0 + (j : Int) = ((a / 2 ^ c.bits + j : Nat) : Int) := by rw [ef]; omega
      have hb' := oc.b
      have cp : CPow (f0 + (j : Int)) (c'.bits : Int) := by
        rw [e2, sm.2.2.1]
        refine cpow ?_ (by omega)
        have := hadr j hj
        have h1 : (a / 2 ^ c.bits + j) * 1 ≤ (a / 2 ^ c.bits + j) * 2 ^ c.bits := Nat.mul_le_mul_left _ (Nat.two_pow_pos _)
        omega
      refine ⟨_, rfl, _, _, _, rfl, ho', nl_q79, _, rfl, _, rfl, _, _, _, _, _, rfl, ho', T.k4.cl, T.k4.n_j17, lk_q48, _, _, rfl, rfl, cp, _, rfl, ?_⟩
      refine ⟨L, _, i, (a / 2 ^ c.bits + j) * 2 ^ c.bits, k, ?_, I', G.1, by rw [G.2.len]; exact h2, by rw [G.2.len]; exact hi, by rw [G.2.len]; exact rank4 h2 h4 hi, hadr j hj, fun H2 I2 k2 => ⟨_, rfl, ?_, f'.trans k2⟩⟩
      · show [V.ref (L (.cache i)), V.int ((f0 + (j : Int)) * 2 ^ (c'.bits : Int).toNat), V.bl k] = _
        rw [e2, sm.2.2.1, shl_cast]
      · rw [List.range_succ, List.foldl_append]
        exact I2
    · rintro σ H' ⟨v, rfl, I', f'⟩
      rw [htn] at I'
      exact q H' I' f'
theorem ok_q69 (T : Txt K mg t) (F : Fun K "counted" "Cache.counted" s_q69 f fd) : FnOk P w K mg base CX0 1 f fd ["self"] (spCounted t) := by
  refine F.ok sc_q69 (fun vs H Q E h => ?_) (fun cdv A outer s H vs Q E hr h => ?_)
  · obtain ⟨L, m, i, c, rfl, _⟩ := h
    rfl
  · obtain ⟨L, m, i, c, rfl, I, hc, q⟩ := h
    obtain ⟨dx, ho⟩ := I.ca i c hc
    refine ⟨_, (pss_cons (ps_set (i := 1) sc_q69.nd rfl (Or.inl rfl) (pe_lst (pa_cons (pe_fld (pv 0) rfl) (pa_cons (pe_fld (pv 0) rfl) pa_nil))))
      (pss_cons (ps_set (i := 2) sc_q69.nd rfl (Or.inl rfl) (pe_lst (pa_cons (pe_fld (pv 0) rfl) (pa_cons (pe_fld (pv 0) rfl) pa_nil))))
      (pss_one (ps_ret (pe_op op_cat (pe_op op_cat (pv 1) (pv 2)) (pe_lst (pa_cons (pe_fld (pv 0) rfl) (pa_cons (pe_fld (pv 0) rfl) pa_nil)))))))), ?_⟩
    refine ⟨_, rfl, _, _, _, _, _, rfl, ho, T.k4.cl, T.k4.n_j28, lk_q35, _, rfl, _, _, _, _, _, rfl, ho, T.k4.cl, T.k4.n_j29, lk_q26, (by show 2 ≤ sizeLine; decide), fun p1 n1 => ?_⟩
    have ho1 := new_ne (o := .lst [nv c.rf, nv c.rm]) n1 _ _ ho
    refine ⟨_, rfl, _, _, _, _, _, rfl, ho1, T.k4.cl, T.k4.n_j42, lk_q27, _, rfl, _, _, _, _, _, rfl, ho1, T.k4.cl, T.k4.n_j43, lk_q19, (by show 2 ≤ sizeLine; decide), fun p2 n2 => ?_⟩
    have ho2 := new_ne (o := .lst [nv c.wf, nv c.wm]) n2 _ _ ho1
    have e1 := new_ne (o := .lst [nv c.wf, nv c.wm]) n2 _ _ (upd_same (H := H) (a := p1) (o := .lst [nv c.rf, nv c.rm]))
    refine ⟨_, rfl, _, rfl, p1, p2, _, _, rfl, rfl, e1, upd_same, (by show 4 ≤ sizeLine; decide), fun p3 n3 => ?_⟩
    have ho3 := new_ne (o := .lst ([nv c.rf, nv c.rm] ++ [nv c.wf, nv c.wm])) n3 _ _ ho2
    refine ⟨_, rfl, _, _, _, _, _, rfl, ho3, T.k4.cl, T.k4.n_j26, lk_q58, _, rfl, _, _, _, _, _, rfl, ho3, T.k4.cl, T.k4.n_j11, lk_q17, (by show 2 ≤ sizeLine; decide), fun p4 n4 => ?_⟩
    refine ⟨p3, p4, _, _, rfl, rfl, new_ne n4 _ _ upd_same, upd_same, (by show 6 ≤ sizeLine; decide), fun p5 n5 => ?_⟩
    have s1 : Same H _ := (((new_ne (o := .lst [nv c.rf, nv c.rm]) n1).trans (new_ne (o := .lst [nv c.wf, nv c.wm]) n2)).trans (new_ne (o := .lst ([nv c.rf, nv c.rm] ++ [nv c.wf, nv c.wm])) n3)).trans (new_ne (o := .lst [nv c.pa, nv c.fa]) n4)
    exact q _ p5 upd_same (s1.trans (new_ne n5)) (s1.free n5)
end
end CG
namespace CG
open PySem PySem.Spec PyProof.Rows L2
inductive CRole where
  | sets | set (k : Nat) | part (k j : Nat)
def COk (n : Nat) : CRole → Prop
  | .sets => True
  | .set k => k < n
  | .part k j => k < n ∧ j < 4
structure NewC (t : Cs) (H1 H' : Hp) (M : CRole → Addr) (j pol ways : Nat) : Prop where
  ls : H' (M .sets) = some (.lst ((List.range j).map fun k => V.ref (M (.set k))))
  st : ∀ k, k < j → SetAt t H' (M (.set k)) (fun z => M (.part k z)) pol (freshSet ways)
  fr : ∀ r, H1 (M r) = none
  inj : ∀ r r', COk j r → COk j r' → M r = M r' → r = r'
  rep : ∀ r, ∃ r', COk j r' ∧ M r = M r'
section
variable {t : Cs} {H1 H' H2 : Hp} {M : CRole → Addr} {j pol ways : Nat}
theorem SetAt.som {t : Cs} {H : Hp} {a : Addr} {A : Nat → Addr} {p : Nat} {s : MSet} (h : SetAt t H a A p s) {i : Nat} (hi : i < 4) : ∃ o, H (A i) = some o :=
  match i, hi with
  | 0, _ => ⟨_, h.l0⟩
  | 1, _ => ⟨_, h.l1⟩
  | 2, _ => ⟨_, h.l2⟩
  | 3, _ => ⟨_, h.l3⟩
theorem NewC.som (N : NewC t H1 H' M j pol ways) {r : CRole} (h : COk j r) : ∃ o, H' (M r) = some o := by
  cases r with
  | sets => exact ⟨_, N.ls⟩
  | set k => obtain ⟨dx, e⟩ := (N.st k h).o; exact ⟨_, e⟩
  | part k z => exact (N.st k h.1).som h.2
theorem NewC.keep (N : NewC t H1 H' M j pol ways) (k : ∀ r o, H' (M r) = some o → H2 (M r) = some o) : NewC t H1 H2 M j pol ways :=
  ⟨k .sets _ N.ls, fun i hi => (N.st i hi).keep fun c o e hb => by
    rcases hb with rfl | ⟨z, hz, rfl⟩
    · exact k (.set i) o e
    · exact k (.part i z) o e, N.fr, N.inj, N.rep⟩
theorem NewC.add (N : NewC t H1 H' M j pol ways) (sm : Same H1 H') {x dx : Addr} {A : Nat → Addr} (nx : H' x = none) (nd : H' dx = none) (S : SetAt t H2 x A pol (freshSet ways))
    (fr : ∀ i, (upd (upd H' dx (.own x)) x (.ins t.k2 dx [])) (A i) = none) (al : ∀ i, ∃ i', i' < 4 ∧ A i = A i') (kp : But (upd (upd H' dx (.own x)) x (.ins t.k2 dx [])) H2 [x]) :
    H2 (M .sets) = some (.lst ((List.range j).map fun k => V.ref (M (.set k)))) ∧ ∃ M' : CRole → Addr, M' .sets = M .sets ∧ NewC t H1 (upd H2 (M .sets) (.lst ((List.range j).map (fun k => V.ref (M (.set k))) ++ [.ref x]))) M' (j + 1) pol ways := by
  have s2 : Same H' H2 := made nx nd kp
  have fA : ∀ i, H' (A i) = none ∧ A i ≠ x := fun i => mk_none (fr i)
  have oldx : ∀ r, COk j r → M r ≠ x := fun r h => by obtain ⟨o, e⟩ := N.som h; exact ne_of_none e nx
  have oldA : ∀ r i, COk j r → M r ≠ A i := fun r i h => by obtain ⟨o, e⟩ := N.som h; exact ne_of_none e (fA i).1
  refine ⟨s2 _ _ N.ls, fun r => match r with
    | .sets => M .sets
    | .set k => if k = j then x else M (.set k)
    | .part k z => if k = j then A z else M (.part k z), rfl, ?_, fun k hk => ?_, fun r => ?_, fun r r' h h' e => ?_, fun r => ?_⟩
  · rw [upd_same, List.range_succ, List.map_append]
    congr 2
    congr 1
    · refine List.map_congr_left fun k hk => ?_
      have : k ≠ j := by have := List.mem_range.mp hk; omega
      simp only [if_neg this]
    · simp
  · by_cases z : k = j
    · subst z
      simp only [if_pos rfl]
      refine S.keep fun c o e hb => ?_
      rw [upd_ne ?_]
      · exact e
      · rcases hb with rfl | ⟨i, hi, rfl⟩
        · exact (oldx .sets trivial).symm
        · exact (oldA .sets i trivial).symm
    · simp only [if_neg z]
      have hk' : k < j := by omega
      refine (N.st k hk').keep fun c o e hb => ?_
      rw [upd_ne ?_]
      · exact s2 _ _ e
      · rcases hb with rfl | ⟨i, hi, rfl⟩
        · intro q; cases N.inj (.set k) .sets hk' trivial q
        · intro q; cases N.inj (.part k i) .sets ⟨hk', hi⟩ trivial q
  · cases r with
    | sets => exact N.fr .sets
    | set k =>
      show H1 (if k = j then x else M (.set k)) = none
      split
      · exact sm.free nx
      · exact N.fr _
    | part k z =>
      show H1 (if k = j then A z else M (.part k z)) = none
      split
      · exact sm.free (fA z).1
      · exact N.fr _
  ·
    have old : ∀ {r : CRole}, COk (j + 1) r → COk j r ∨ (r = .set j) ∨ ∃ z, r = .part j z ∧ z < 4 := fun {r} h => by
      cases r with
      | sets => exact .inl trivial
      | set k =>
        by_cases z : k = j
        · exact .inr (.inl (by rw [z]))
        · exact .inl (show k < j by have : k < j + 1 := h; omega)
      | part k z =>
        by_cases y : k = j
        · exact .inr (.inr ⟨z, by rw [y], h.2⟩)
        · exact .inl (show k < j ∧ z < 4 from ⟨by have : k < j + 1 := h.1; omega, h.2⟩)
    have val : ∀ {r : CRole}, COk j r → (match r with
      | .sets => M .sets
      | .set k => if k = j then x else M (.set k)
      | .part k z => if k = j then A z else M (.part k z)) = M r := fun {r} h => by
      cases r with
      | sets => rfl
      | set k => simp only [if_neg (show ¬ k = j from Nat.ne_of_lt h)]
      | part k z => simp only [if_neg (show ¬ k = j from Nat.ne_of_lt h.1)]
    rcases old h with o | o | ⟨z, o, hz⟩ <;> rcases old h' with o' | o' | ⟨z', o', hz'⟩
    · rw [val o, val o'] at e; exact N.inj r r' o o' e
    · subst o'; simp only [if_pos rfl] at e; rw [val o] at e; exact absurd e (oldx r o)
    · subst o'; simp only [if_pos rfl] at e; rw [val o] at e; exact absurd e (oldA r z' o)
    · subst o; simp only [if_pos rfl] at e; rw [val o'] at e; exact absurd e.symm (oldx r' o')
    · rw [o, o']
    · subst o; subst o'; simp only [if_pos rfl] at e; exact absurd e.symm (fA z').2
    · subst o; simp only [if_pos rfl] at e; rw [val o'] at e; exact absurd e.symm (oldA r' z o')
    · subst o; subst o'; simp only [if_pos rfl] at e; exact absurd e (fA z).2
    · subst o; subst o'; simp only [if_pos rfl] at e; rw [S.inj z z' hz hz' e]
  · have val : ∀ {r : CRole}, COk j r → (match r with
      | .sets => M .sets
      | .set k => if k = j then x else M (.set k)
      | .part k z => if k = j then A z else M (.part k z)) = M r := fun {r} h => by
      cases r with
      | sets => rfl
      | set k => simp only [if_neg (show ¬ k = j from Nat.ne_of_lt h)]
      | part k z => simp only [if_neg (show ¬ k = j from Nat.ne_of_lt h.1)]
    have up : ∀ {r : CRole}, COk j r → COk (j + 1) r := fun {r} h => by
      cases r with
      | sets => trivial
      | set k => exact Nat.lt_succ_of_lt h
      | part k z => exact ⟨Nat.lt_succ_of_lt h.1, h.2⟩
    cases r with
    | sets => exact ⟨.sets, trivial, rfl⟩
    | set k =>
      by_cases z : k = j
      · exact ⟨.set k, show k < j + 1 by omega, rfl⟩
      · obtain ⟨r', h', e'⟩ := N.rep (.set k)
        refine ⟨r', up h', ?_⟩
        rw [val h', ← e']
        exact if_neg z
    | part k y =>
      by_cases z : k = j
      · subst z
        obtain ⟨y', hy', ey⟩ := al y
        refine ⟨.part k y', ⟨Nat.lt_succ_self k, hy'⟩, ?_⟩
        simp only [if_pos rfl]
        exact ey
      · obtain ⟨r', h', e'⟩ := N.rep (.part k y)
        refine ⟨r', up h', ?_⟩
        rw [val h', ← e']
        exact if_neg z
end
theorem tYes_go {σ : L2.St} {H : Hp} {Q : Bool → Hp → Prop} (h : Q true H) : tYes σ H Q := h
def spCacheInit (t : Cs) : Sp := fun vs H Q _ => ∃ (p sl ch : Addr) (bh : V) (b0 ways bits pol th nx : Nat), vs = [.ref p, .ref sl, .ref ch, bh] ∧ Fresh H p t.k4 ∧ H sl = some (.lst ([b0, ways, bits, pol, th, nx].map nv)) ∧ b0 ≤ 12 ∧ ways ≤ 16 ∧
  ∀ (H' : Hp) (M : CRole → Addr), (∃ dx, H' p = some (.ins t.k4 dx (fl_k4 (.ref (M .sets)) (nv bits) (.bl (decide (th = 1))) (.bl (decide (nx = 1))) (.ref ch) bh (nv 0) (nv 0) (nv 0) (nv 0) (nv 0) (nv 0)))) → NewC t H H' M (2 ^ b0) pol ways → But H H' [p] → Q .non H'
theorem dec1 (n : Nat) : decide (nv n = V.int 1) = decide (n = 1) := decide_eq_decide.mpr ⟨fun e => by injection e with e; omega, fun e => by rw [e]; rfl⟩
section
variable {P : Program} {w : World} {K : W.Frag} {mg : Str → Option Value} {base : Heap} {t : Cs} {f : Addr} {fd : FuncData}
theorem ok_q104 (T : Txt K mg t) (F : Fun K "__init__" "Cache.__init__" s_q104 f fd) : FnOk P w K mg base CX0 3 f fd ["self", "settings", "chance", "behind"] (spCacheInit t) := by
  obtain ⟨f_q66, fd_q66, F_q66, b_q66, M_q66⟩ := T.k2.init
  have G_q66 := ok_q66 (P := P) (w := w) (base := base) T F_q66
  refine F.ok sc_q104 (fun vs H Q E h => ?_) (fun cdv A outer s H vs Q E hr h => ?_)
  · obtain ⟨p, sl, ch, bh, b0, ways, bits, pol, th, nx, rfl, _⟩ := h
    rfl
  · obtain ⟨p, sl, ch, bh, b0, ways, bits, pol, th, nx, rfl, ⟨dx, hp⟩, hS, g1, g2, q⟩ := h
    have nsl : sl ≠ p := ne_of hS hp (by intro z; cases z)
    have ps : sl ∉ [p] := nin nsl
    have b14 := pow14 (n := b0) (by omega)
    refine ⟨_, (pss_cons (ps_fld (pv 0) (pe_lc (own := [("k", 4)]) rfl sc_q104.nd (pi_range1 rfl T.b_range (pa_cons (pe_op op_shl pe_int (pe_ix ix_list (pv 1) pe_int (fun _ _ => rfl))) pa_nil)) (blkOk_by (by rfl)) (fun _ _ _ _ _ => pg_name (i := 4) sc_q104.nd rfl (Or.inl rfl)) (fun _ _ _ _ _ => pts_nil) (fun _ _ _ _ _ => (pe_make M_q66 G_q66 (hr.mono (by omega)) rfl T.k2.mgC b_q66 .nil pass0 (pa_cons (pe_ix (ixk (K := K) rfl) (pv 1) pe_int (fun _ _ => rfl)) (pa_cons (pe_ix (ixk (K := K) rfl) (pv 1) pe_int (fun _ _ => rfl)) pa_nil))))) rfl)
      (pss_cons (ps_fld (pv 0) (pe_ix ix_list (pv 1) pe_int (fun _ _ => rfl)) rfl)
      (pss_cons (ps_fld (pv 0) (pe_cmpR op_eq (pe_ix ix_list (pv 1) pe_int (fun _ _ => rfl)) pe_int (nomark _)) rfl)
      (pss_cons (ps_fld (pv 0) (pe_cmpR op_eq (pe_ix ix_list (pv 1) pe_int (fun _ _ => rfl)) pe_int (nomark _)) rfl)
      (pss_cons (ps_fld (pv 0) (pv 2) rfl)
      (pss_cons (ps_fld (pv 0) (pv 3) rfl)
      (pss_cons (ps_fld (pv 0) pe_int rfl)
      (pss_cons (ps_fld (pv 0) pe_int rfl)
      (pss_cons (ps_fld (pv 0) pe_int rfl)
      (pss_cons (ps_fld (pv 0) pe_int rfl)
      (pss_cons (ps_fld (pv 0) pe_int rfl)
      (pss_one (ps_fld (pv 0) pe_int rfl))))))))))))), ?_⟩
    have en : ((1 : Int) * 2 ^ (b0 : Int).toNat).toNat = 2 ^ b0 := by rw [shl1, Int.toNat_natCast]
    refine ⟨_, rfl, sl, _, _, nv b0, rfl, rfl, SqL.of hS, at_nat (j := 0) rfl rfl, _, _, rfl, rfl, cpow1 (by omega), 1 * 2 ^ (b0 : Int).toNat, rfl, ?_, ?_, fun D hD => ?_⟩
    · rw [shl1]; generalize 2 ^ b0 = z at b14; omega
    · rw [shl1]; generalize 2 ^ b0 = z at b14; omega
    refine lc_range (lo := 0) (n := ((1 : Int) * 2 ^ (b0 : Int).toNat).toNat) (fun j H' => ∃ M : CRole → Addr, M .sets = D ∧ NewC t H H' M j pol ways ∧ Same H H') ⟨fun _ => D, rfl, ⟨upd_same, fun k hk => absurd hk (Nat.not_lt_zero _), fun _ => hD, fun r r' h h' _ => ?_, fun _ => ⟨.sets, trivial, rfl⟩⟩, new_ne hD⟩ ?_ ?_
    · cases r with
      | sets => cases r' with
        | sets => rfl
        | set k => exact absurd h' (Nat.not_lt_zero _)
        | part k z => exact absurd h'.1 (Nat.not_lt_zero _)
      | set k => exact absurd h (Nat.not_lt_zero _)
      | part k z => exact absurd h.1 (Nat.not_lt_zero _)
    · rintro j H' hj ⟨M, rfl, N, sm⟩
      rw [en] at hj
      refine ⟨rfl, tYes_go ?_⟩
      refine iteT ?_
      have hS' := sm _ _ hS
      refine ⟨_, rfl, sl, _, _, nv ways, rfl, rfl, SqL.of hS', at_nat (j := 1) rfl rfl, _, rfl, sl, _, _, nv pol, rfl, rfl, SqL.of hS', at_nat (j := 3) rfl rfl, fun x dx' nx' nd' _ => ⟨x, pol, ways, rfl, ⟨_, upd_same⟩, g2, fun H2 A S fr al kp => ⟨rfl, ?_⟩⟩⟩
      obtain ⟨e1, M', e2, N'⟩ := N.add sm nx' nd' S fr al kp
      refine ⟨_, e1, by rw [List.length_map, List.length_range, CG.sl]; omega, M', e2, N', fun b o e => ?_⟩
      rw [upd_ne (ne_of_none e (N.fr .sets))]
      exact (made nx' nd' kp) _ _ (sm _ _ e)
    · rintro H1 ⟨M, rfl, N, sm⟩
      rw [en] at N
      have m0 : Mid H p t.k4 dx [] H1 := (Mid.start hp).new sm
      have nep : ∀ r, M r ≠ p := fun r => (ne_of_none hp (N.fr r)).symm
      refine ⟨_, rfl, _, _, _, _, rfl, m0.at_, T.k4.cl, T.k4.n_j31, (by show 0 < 1000; decide), ?_⟩
      refine m0.go fun H2 m2 k2 => ?_
      have N2 := N.keep (H2 := H2) fun r o e => k2 _ _ e (nin (nep r))
      refine ⟨_, rfl, sl, _, _, nv bits, rfl, rfl, SqL.of (m2.but.at hS ps), at_nat (j := 2) rfl rfl, _, rfl, _, _, _, _, rfl, m2.at_, T.k4.cl, T.k4.n_j17, (by show 1 < 1000; decide), ?_⟩
      refine m2.go fun H3 m3 k3 => ?_
      have N3 := N2.keep (H2 := H3) fun r o e => k3 _ _ e (nin (nep r))
      refine ⟨_, rfl, sl, _, _, nv th, rfl, rfl, SqL.of (m3.but.at hS ps), at_nat (j := 4) rfl rfl, rfl, _, rfl, _, _, _, _, rfl, m3.at_, T.k4.cl, T.k4.n_j44, (by show 2 < 1000; decide), ?_⟩
      refine m3.go fun H4 m4 k4 => ?_
      have N4 := N3.keep (H2 := H4) fun r o e => k4 _ _ e (nin (nep r))
      refine ⟨_, rfl, sl, _, _, nv nx, rfl, rfl, SqL.of (m4.but.at hS ps), at_nat (j := 5) rfl rfl, rfl, _, rfl, _, _, _, _, rfl, m4.at_, T.k4.cl, T.k4.n_j12, (by show 3 < 1000; decide), ?_⟩
      refine m4.go fun H5 m5 k5 => ?_
      have N5 := N4.keep (H2 := H5) fun r o e => k5 _ _ e (nin (nep r))
      refine ⟨_, rfl, _, rfl, _, _, _, _, rfl, m5.at_, T.k4.cl, T.k4.n_j8, (by show 4 < 1000; decide), ?_⟩
      refine m5.go fun H6 m6 k6 => ?_
      have N6 := N5.keep (H2 := H6) fun r o e => k6 _ _ e (nin (nep r))
      refine ⟨_, rfl, _, rfl, _, _, _, _, rfl, m6.at_, T.k4.cl, T.k4.n_j1, (by show 5 < 1000; decide), ?_⟩
      refine m6.go fun H7 m7 k7 => ?_
      have N7 := N6.keep (H2 := H7) fun r o e => k7 _ _ e (nin (nep r))
      refine ⟨_, rfl, _, _, _, _, rfl, m7.at_, T.k4.cl, T.k4.n_j28, (by show 6 < 1000; decide), ?_⟩
      refine m7.go fun H8 m8 k8 => ?_
      have N8 := N7.keep (H2 := H8) fun r o e => k8 _ _ e (nin (nep r))
      refine ⟨_, rfl, _, _, _, _, rfl, m8.at_, T.k4.cl, T.k4.n_j29, (by show 7 < 1000; decide), ?_⟩
      refine m8.go fun H9 m9 k9 => ?_
      have N9 := N8.keep (H2 := H9) fun r o e => k9 _ _ e (nin (nep r))
      refine ⟨_, rfl, _, _, _, _, rfl, m9.at_, T.k4.cl, T.k4.n_j42, (by show 8 < 1000; decide), ?_⟩
      refine m9.go fun H10 m10 k10 => ?_
      have N10 := N9.keep (H2 := H10) fun r o e => k10 _ _ e (nin (nep r))
      refine ⟨_, rfl, _, _, _, _, rfl, m10.at_, T.k4.cl, T.k4.n_j43, (by show 9 < 1000; decide), ?_⟩
      refine m10.go fun H11 m11 k11 => ?_
      have N11 := N10.keep (H2 := H11) fun r o e => k11 _ _ e (nin (nep r))
      refine ⟨_, rfl, _, _, _, _, rfl, m11.at_, T.k4.cl, T.k4.n_j26, (by show 10 < 1000; decide), ?_⟩
      refine m11.go fun H12 m12 k12 => ?_
      have N12 := N11.keep (H2 := H12) fun r o e => k12 _ _ e (nin (nep r))
      refine ⟨_, rfl, _, _, _, _, rfl, m12.at_, T.k4.cl, T.k4.n_j11, (by show 11 < 1000; decide), ?_⟩
      refine m12.go fun H13 m13 k13 => ?_
      have N13 := N12.keep (H2 := H13) fun r o e => k13 _ _ e (nin (nep r))
      refine q H13 M ⟨dx, ?_⟩ N13 m13.but
      have e := m13.at_
      rw [dec1, dec1] at e
      exact e
end
end CG
namespace CG
open PySem PySem.Spec PyProof.Rows L2
theorem cut_from (xs : List V) (k : Nat) : cutV xs (some (k : Int)) none = xs.drop k := by
  unfold cutV
  rw [HT.sIx_nat, HT.sIx_none]
  by_cases h : k ≤ xs.length
  · rw [Nat.min_eq_left h]
    exact List.take_of_length_le (by rw [List.length_drop]; exact Nat.le_refl _)
  · rw [Nat.min_eq_right (by omega), List.drop_length, List.drop_eq_nil_of_le (by omega)]
    simp
theorem for_rev {K : W.Frag} {a : Addr} {xs : List V} {g : TG} {tb : TS} {D : Ends} {σ : L2.St} {H : Hp} (Pv : Nat → L2.St → Hp → Prop) (h0 : Pv 0 σ H) (hl : ∀ i σ H, i ≤ xs.length → Pv i σ H → SqL K H a xs)
    (hs : ∀ i x σ H, i < xs.length → xs[xs.length - 1 - i]? = some x → Pv i σ H → g x σ H fun σ2 H2 => tb { D with nx := Pv (i + 1), ct := Pv (i + 1), bk := D.nx } σ2 H2) (hd : ∀ σ H, Pv xs.length σ H → D.nx σ H) :
    ∃ W : Nat → Nat → L2.St → Hp → Prop, (∃ m, W 0 m σ H) ∧ ∀ i m σ H, W i m σ H →
      ((Itv K a xs.length).stop i H ∧ D.nx σ H) ∨ ((Itv K a xs.length).go i H ∧ ∃ N : L2.St → Hp → Prop, (∀ σ' H', N σ' H' → ∃ m', m' < m ∧ W (i + 1) m' σ' H') ∧ ∀ x H', (Itv K a xs.length).yld i H x H' → g x σ H' fun σ2 H2 => tb { D with nx := N, ct := N, bk := D.nx } σ2 H2) := by
  refine ⟨fun i m σ H => m = xs.length - i ∧ i ≤ xs.length ∧ Pv i σ H, ⟨xs.length, by simp, Nat.zero_le _, h0⟩, ?_⟩
  rintro i m σ H ⟨rfl, hi, p⟩
  have q := hl i σ H hi p
  by_cases hlt : i < xs.length
  · have hx : xs.length - 1 - i < xs.length := by omega
    refine .inr ⟨⟨hlt, xs, xs[xs.length - 1 - i], q, List.getElem?_eq_getElem hx⟩, Pv (i + 1), fun σ' H' p' => ⟨xs.length - (i + 1), by omega, rfl, hlt, p'⟩, fun x H' y => ?_⟩
    obtain ⟨e, y⟩ := y
    subst e
    exact hs i x σ _ hlt (y xs q) p
  · have e : i = xs.length := by omega
    subst e
    exact .inl ⟨Nat.le_refl _, hd σ H p⟩
def BOk (xs : List Six) (B : Nat → Prop) : Role → Prop
  | .chance => True
  | .mem => True
  | .cache i => B i
  | .sets i => B i
  | .set i k => B i ∧ ∃ x, xs[i]? = some x ∧ k < 2 ^ x.b0
  | .part i k j => (B i ∧ ∃ x, xs[i]? = some x ∧ k < 2 ^ x.b0) ∧ j < 4
structure PInv (t : Cs) (L : Role → Addr) (xs : List Six) (B : Nat → Prop) (H0 H : Hp) : Prop where
  ch : ChAt t H (L .chance) 0xACE1
  mm : ∃ dx, H (L .mem) = some (.ins t.k3 dx (fl_k3 (nv 0) (nv 0)))
  ca : ∀ i x, B i → xs[i]? = some x → ∃ dx, H (L (.cache i)) = some (.ins t.k4 dx (fC L xs.length i (newCache x)))
  ss : ∀ i x, B i → xs[i]? = some x → H (L (.sets i)) = some (.lst ((List.range (2 ^ x.b0)).map fun k => V.ref (L (.set i k))))
  st : ∀ i k x, B i → xs[i]? = some x → k < 2 ^ x.b0 → SetAt t H (L (.set i k)) (fun j => L (.part i k j)) x.pol (freshSet x.ways)
  inj : ∀ r r', BOk xs B r → BOk xs B r' → L r = L r' → r = r'
  bh : ∀ i, B i → Sd39.behind i < xs.length → B (Sd39.behind i)
  lt : ∀ i, B i → i < xs.length
  tot : ∀ r, L r = L .mem ∨ L r = L .chance ∨ H0 (L r) = none
  rep : ∀ r, ∃ r', BOk xs B r' ∧ L r = L r'
section
variable {t : Cs} {L : Role → Addr} {xs : List Six} {B : Nat → Prop} {H0 H H' : Hp}
theorem PInv.som (P : PInv t L xs B H0 H) {r : Role} (h : BOk xs B r) : ∃ o, H (L r) = some o := by
  have get : ∀ i, B i → ∃ x, xs[i]? = some x := fun i hb => ⟨_, List.getElem?_eq_getElem (P.lt i hb)⟩
  cases r with
  | chance => obtain ⟨dx, e⟩ := P.ch; exact ⟨_, e⟩
  | mem => obtain ⟨dx, e⟩ := P.mm; exact ⟨_, e⟩
  | cache i => obtain ⟨x, hx⟩ := get i h; obtain ⟨dx, e⟩ := P.ca i x h hx; exact ⟨_, e⟩
  | sets i => obtain ⟨x, hx⟩ := get i h; exact ⟨_, P.ss i x h hx⟩
  | set i k => obtain ⟨hb, x, hx, hk⟩ := h; obtain ⟨dx, e⟩ := (P.st i k x hb hx hk).o; exact ⟨_, e⟩
  | part i k j => obtain ⟨⟨hb, x, hx, hk⟩, hj⟩ := h; exact (P.st i k x hb hx hk).som hj
theorem PInv.keep (P : PInv t L xs B H0 H) (k : ∀ r o, H (L r) = some o → H' (L r) = some o) : PInv t L xs B H0 H' := by
  refine ⟨?_, ?_, fun i x hb hx => ?_, fun i x hb hx => k (.sets i) _ (P.ss i x hb hx), fun i z x hb hx hz => (P.st i z x hb hx hz).keep fun c o e hc => ?_, P.inj, P.bh, P.lt, P.tot, P.rep⟩
  · obtain ⟨dx, e⟩ := P.ch; exact ⟨dx, k .chance _ e⟩
  · obtain ⟨dx, e⟩ := P.mm; exact ⟨dx, k .mem _ e⟩
  · obtain ⟨dx, e⟩ := P.ca i x hb hx; exact ⟨dx, k (.cache i) _ e⟩
  · rcases hc with rfl | ⟨j, hj, rfl⟩
    · exact k (.set i z) o e
    · exact k (.part i z j) o e
def layAdd (L : Role → Addr) (i : Nat) (p : Addr) (M : CRole → Addr) : Role → Addr
  | .chance => L .chance
  | .mem => L .mem
  | .cache j => if j = i then p else L (.cache j)
  | .sets j => if j = i then M .sets else L (.sets j)
  | .set j k => if j = i then M (.set k) else L (.set j k)
  | .part j k z => if j = i then M (.part k z) else L (.part j k z)
theorem lay_old {i : Nat} {p : Addr} {M : CRole → Addr} (hn : ¬ B i) {r : Role} (h : BOk xs B r) : layAdd L i p M r = L r := by
  have ne : ∀ j, B j → ¬ j = i := fun j hj e => hn (e ▸ hj)
  cases r with
  | chance => rfl
  | mem => rfl
  | cache j => exact if_neg (ne j h)
  | sets j => exact if_neg (ne j h)
  | set j k => exact if_neg (ne j h.1)
  | part j k z => exact if_neg (ne j h.1.1)
theorem PInv.add (P : PInv t L xs B H0 H) (s0 : Same H0 H) {i : Nat} {x : Six} {p dx : Addr} {M : CRole → Addr} {bh : V} (hn : ¬ B i) (hx : xs[i]? = some x) (hb : Sd39.behind i < xs.length → B (Sd39.behind i)) (eb : bh = .ref (L (behR xs.length i)))
    (np : H p = none) (nd : H dx = none) (hc : ∃ dx, H' p = some (.ins t.k4 dx (fl_k4 (.ref (M .sets)) (nv x.bits) (.bl (decide (x.th = 1))) (.bl (decide (x.nx = 1))) (.ref (L .chance)) bh (nv 0) (nv 0) (nv 0) (nv 0) (nv 0) (nv 0))))
    (N : NewC t (upd (upd H dx (.own p)) p (.ins t.k4 dx [])) H' M (2 ^ x.b0) x.pol x.ways) (kp : But (upd (upd H dx (.own p)) p (.ins t.k4 dx [])) H' [p]) :
    PInv t (layAdd L i p M) xs (fun j => B j ∨ j = i) H0 H' ∧ Same H H' := by
  have sm : Same H H' := made np nd kp
  have fM : ∀ r, H (M r) = none ∧ M r ≠ p := fun r => mk_none (N.fr r)
  have bok : ∀ j, B j → BOk xs B (behR xs.length j) := fun j hj => by
    unfold behR
    split
    · rename_i h; exact P.bh j hj h
    · trivial
  have boki : BOk xs B (behR xs.length i) := by
    unfold behR
    split
    · rename_i h; exact hb h
    · trivial
  have oldv : ∀ r, BOk xs B r → layAdd L i p M r = L r := fun r h => lay_old hn h
  have oldp : ∀ r, BOk xs B r → L r ≠ p := fun r h => by obtain ⟨o, e⟩ := P.som h; exact ne_of_none e np
  have oldM : ∀ r q, BOk xs B r → L r ≠ M q := fun r q h => by obtain ⟨o, e⟩ := P.som h; exact ne_of_none e (fM q).1
  have ch' : layAdd L i p M .chance = L .chance := rfl
  have mm' : layAdd L i p M .mem = L .mem := rfl
  have fcE : ∀ j c, BOk xs B (behR xs.length j) → layAdd L i p M (.sets j) = L (.sets j) → fC (layAdd L i p M) xs.length j c = fC L xs.length j c := fun j c h1 h2 => by
    unfold fC
    rw [h2, oldv _ h1, ch']
  refine ⟨⟨?_, ?_, fun j y hB hy => ?_, fun j y hB hy => ?_, fun j k y hB hy hk => ?_, fun r r' h h' e => ?_, fun j hB hj => ?_, fun j hB => ?_, fun r => ?_, fun r => ?_⟩, sm⟩
  · obtain ⟨dx, e⟩ := P.ch; exact ⟨dx, sm _ _ e⟩
  · obtain ⟨dx, e⟩ := P.mm; exact ⟨dx, sm _ _ e⟩
  · by_cases z : j = i
    · subst z
      rw [hx] at hy
      cases hy
      obtain ⟨dx', e⟩ := hc
      refine ⟨dx', ?_⟩
      show H' (if j = j then p else _) = _
      rw [if_pos rfl, e, eb]
      unfold fC
      rw [oldv _ boki, ch', show layAdd L j p M (.sets j) = M .sets from if_pos rfl]
      rfl
    · have hB := hB.resolve_right z
      obtain ⟨dx', e⟩ := P.ca j y hB hy
      refine ⟨dx', ?_⟩
      rw [fcE j _ (bok j hB) (oldv (.sets j) hB), oldv (.cache j) hB]
      exact sm _ _ e
  · by_cases z : j = i
    · subst z
      rw [hx] at hy
      cases hy
      show H' (if j = j then M .sets else _) = some (.lst ((List.range (2 ^ x.b0)).map fun k => V.ref (if j = j then M (.set k) else L (.set j k))))
      simp only [if_pos rfl]
      exact N.ls
    · have hB := hB.resolve_right z
      have e := sm _ _ (P.ss j y hB hy)
      rw [oldv (.sets j) hB, e]
      refine congrArg (fun q => some (HO.lst q)) (List.map_congr_left fun k hk => ?_)
      rw [oldv (.set j k) ⟨hB, y, hy, List.mem_range.mp hk⟩]
  · by_cases z : j = i
    · subst z
      rw [hx] at hy
      cases hy
      show SetAt t H' (if j = j then M (.set k) else _) (fun z => if j = j then M (.part k z) else L (.part j k z)) x.pol (freshSet x.ways)
      simp only [if_pos rfl]
      exact N.st k hk
    · have hB := hB.resolve_right z
      have S := P.st j k y hB hy hk
      rw [oldv (.set j k) ⟨hB, y, hy, hk⟩]
      have eA : (fun z => layAdd L i p M (.part j k z)) = fun z => L (.part j k z) := by
        funext q
        exact if_neg z
      rw [eA]
      exact S.keep fun c o e _ => sm _ _ e
  ·
    have old : ∀ {r : Role}, BOk xs (fun j => B j ∨ j = i) r → BOk xs B r ∨ (r = .cache i) ∨ ∃ q, COk (2 ^ x.b0) q ∧ r = (match q with | .sets => Role.sets i | .set k => .set i k | .part k z => .part i k z) := fun {r} h => by
      cases r with
      | chance => exact .inl trivial
      | mem => exact .inl trivial
      | cache j => rcases h with h | h
                   · exact .inl h
                   · exact .inr (.inl (by rw [h]))
      | sets j => rcases h with h | h
                  · exact .inl h
                  · exact .inr (.inr ⟨.sets, trivial, by rw [h]⟩)
      | set j k =>
        obtain ⟨h, y, hy, hk⟩ := h
        rcases h with h | h
        · exact .inl ⟨h, y, hy, hk⟩
        · subst h
          rw [hx] at hy
          cases hy
          exact .inr (.inr ⟨.set k, hk, rfl⟩)
      | part j k z =>
        obtain ⟨⟨h, y, hy, hk⟩, hz⟩ := h
        rcases h with h | h
        · exact .inl ⟨⟨h, y, hy, hk⟩, hz⟩
        · subst h
          rw [hx] at hy
          cases hy
          exact .inr (.inr ⟨.part k z, ⟨hk, hz⟩, rfl⟩)
    have nval : ∀ q : CRole, layAdd L i p M (match q with | .sets => Role.sets i | .set k => .set i k | .part k z => .part i k z) = M q := fun q => by
      cases q <;> exact if_pos rfl
    have pval : layAdd L i p M (.cache i) = p := if_pos rfl
    rcases old h with o | o | ⟨q, hq, o⟩ <;> rcases old h' with o' | o' | ⟨q', hq', o'⟩
    · rw [oldv _ o, oldv _ o'] at e; exact P.inj _ _ o o' e
    · subst o'; rw [oldv _ o, pval] at e; exact absurd e (oldp _ o)
    · subst o'; rw [oldv _ o, nval] at e; exact absurd e (oldM _ _ o)
    · subst o; rw [oldv _ o', pval] at e; exact absurd e.symm (oldp _ o')
    · rw [o, o']
    · subst o; subst o'; rw [pval, nval] at e; exact absurd e.symm (fM q').2
    · subst o; rw [oldv _ o', nval] at e; exact absurd e.symm (oldM _ _ o')
    · subst o; subst o'; rw [pval, nval] at e; exact absurd e (fM q).2
    · subst o; subst o'; rw [nval, nval] at e; rw [N.inj q q' hq hq' e]
  · rcases hB with hB | hB
    · exact .inl (P.bh j hB hj)
    · subst hB; exact .inl (hb hj)
  · rcases hB with hB | hB
    · exact P.lt j hB
    · subst hB; exact (List.getElem?_eq_some_iff.mp hx).1
  · have new : ∀ b, H b = none → layAdd L i p M .mem = b ∨ True ∧ H0 b = none := fun b hb => .inr ⟨trivial, s0.free hb⟩
    have fin : ∀ b, H b = none → (b = L .mem ∨ b = L .chance ∨ H0 b = none) := fun b hb => .inr (.inr (s0.free hb))
    cases r with
    | chance => exact .inr (.inl rfl)
    | mem => exact .inl rfl
    | cache j =>
      show (if j = i then p else L (.cache j)) = _ ∨ (if j = i then p else L (.cache j)) = _ ∨ H0 (if j = i then p else L (.cache j)) = none
      split
      · exact fin p np
      · exact P.tot (.cache j)
    | sets j =>
      show (if j = i then M .sets else L (.sets j)) = _ ∨ (if j = i then M .sets else L (.sets j)) = _ ∨ H0 (if j = i then M .sets else L (.sets j)) = none
      split
      · exact fin _ (fM _).1
      · exact P.tot (.sets j)
    | set j k =>
      show (if j = i then M (.set k) else L (.set j k)) = _ ∨ (if j = i then M (.set k) else L (.set j k)) = _ ∨ H0 (if j = i then M (.set k) else L (.set j k)) = none
      split
      · exact fin _ (fM _).1
      · exact P.tot (.set j k)
    | part j k z =>
      show (if j = i then M (.part k z) else L (.part j k z)) = _ ∨ (if j = i then M (.part k z) else L (.part j k z)) = _ ∨ H0 (if j = i then M (.part k z) else L (.part j k z)) = none
      split
      · exact fin _ (fM _).1
      · exact P.tot (.part j k z)
  · have up : ∀ {r : Role}, BOk xs B r → BOk xs (fun j => B j ∨ j = i) r := fun {r} h => by
      cases r with
      | chance => trivial
      | mem => trivial
      | cache j => exact .inl h
      | sets j => exact .inl h
      | set j k => exact ⟨.inl h.1, h.2⟩
      | part j k z => exact ⟨⟨.inl h.1.1, h.1.2⟩, h.2⟩
    have old : ∀ r, layAdd L i p M r = L r → ∃ r', BOk xs (fun j => B j ∨ j = i) r' ∧ layAdd L i p M r = layAdd L i p M r' := fun r e => by
      obtain ⟨r', h', e'⟩ := P.rep r
      exact ⟨r', up h', by rw [e, oldv r' h']; exact e'⟩
    have nval : ∀ q : CRole, layAdd L i p M (match q with | .sets => Role.sets i | .set k => .set i k | .part k z => .part i k z) = M q := fun q => by
      cases q <;> exact if_pos rfl
    have nw : ∀ q : CRole, ∃ r', BOk xs (fun j => B j ∨ j = i) r' ∧ M q = layAdd L i p M r' := fun q => by
      obtain ⟨q', h', e'⟩ := N.rep q
      refine ⟨_, ?_, e'.trans (nval q').symm⟩
      cases q' with
      | sets => exact .inr rfl
      | set k => exact ⟨.inr rfl, x, hx, h'⟩
      | part k z => exact ⟨⟨.inr rfl, x, hx, h'.1⟩, h'.2⟩
    cases r with
    | chance => exact old .chance rfl
    | mem => exact old .mem rfl
    | cache j =>
      by_cases z : j = i
      · exact ⟨.cache j, .inr z, rfl⟩
      · exact old _ (if_neg z)
    | sets j =>
      by_cases z : j = i
      · exact ⟨.sets j, .inr z, rfl⟩
      · exact old _ (if_neg z)
    | set j k =>
      by_cases z : j = i
      · subst z; rw [show layAdd L j p M (.set j k) = M (.set k) from if_pos rfl]; exact nw _
      · exact old _ (if_neg z)
    | part j k y =>
      by_cases z : j = i
      · subst z; rw [show layAdd L j p M (.part j k y) = M (.part k y) from if_pos rfl]; exact nw _
      · exact old _ (if_neg z)
theorem PInv.allS (P : PInv t L xs B H0 H) (r : Role) : ∃ o, H (L r) = some o := by
  obtain ⟨r', h', e'⟩ := P.rep r
  obtain ⟨o, e⟩ := P.som h'
  exact ⟨o, by rw [e']; exact e⟩
theorem BOk.role {r : Role} (hl : ∀ i, B i → i < xs.length) (h : BOk xs B r) : RoleOk (mem0 xs) r := by
  have ln : (mem0 xs).caches.length = xs.length := List.length_map ..
  have go : ∀ {i k : Nat}, (B i ∧ ∃ x, xs[i]? = some x ∧ k < 2 ^ x.b0) → ∃ c, (mem0 xs).caches[i]? = some c ∧ k < c.sets.length := fun {i k} ⟨_, x, hx, hk⟩ => by
    refine ⟨newCache x, ?_, ?_⟩
    · show (xs.map newCache)[i]? = _
      rw [List.getElem?_map, hx]; rfl
    · show k < (List.replicate (2 ^ x.b0) (freshSet x.ways)).length
      rw [List.length_replicate]; exact hk
  cases r with
  | chance => trivial
  | mem => trivial
  | cache i => show i < (mem0 xs).caches.length; rw [ln]; exact hl i h
  | sets i => show i < (mem0 xs).caches.length; rw [ln]; exact hl i h
  | set i k => exact go h
  | part i k j => exact ⟨go h.1, h.2⟩
theorem PInv.whole (P : PInv t L xs B H0 H) (hB : ∀ i, i < xs.length → B i) : MemInv t L (mem0 xs) H := by
  have get : ∀ {i : Nat} {c : MCache}, (mem0 xs).caches[i]? = some c → ∃ x, xs[i]? = some x ∧ c = newCache x := fun {i c} h => by
    have h : (xs.map newCache)[i]? = some c := h
    rw [List.getElem?_map] at h
    cases e : xs[i]? with
    | none => rw [e] at h; cases h
    | some x => rw [e] at h; cases h; exact ⟨x, rfl, rfl⟩
  have lt : ∀ {i : Nat} {x : Six}, xs[i]? = some x → B i := fun {i x} h => hB i (List.getElem?_eq_some_iff.mp h).1
  have ln : (mem0 xs).caches.length = xs.length := List.length_map ..
  have sl : ∀ x : Six, (newCache x).sets.length = 2 ^ x.b0 := fun x => List.length_replicate ..
  have ok : ∀ r, RoleOk (mem0 xs) r → BOk xs B r := fun r h => by
    have go : ∀ {i k : Nat}, (∃ c, (mem0 xs).caches[i]? = some c ∧ k < c.sets.length) → B i ∧ ∃ x, xs[i]? = some x ∧ k < 2 ^ x.b0 := fun {i k} ⟨c, hc, hk⟩ => by
      obtain ⟨x, hx, rfl⟩ := get hc
      exact ⟨lt hx, x, hx, by rw [← sl]; exact hk⟩
    cases r with
    | chance => trivial
    | mem => trivial
    | cache i => exact hB i (by rw [← ln]; exact h)
    | sets i => exact hB i (by rw [← ln]; exact h)
    | set i k => exact go h
    | part i k j => exact ⟨go h.1, h.2⟩
  refine ⟨P.ch, P.mm, fun i c hc => ?_, fun i c hc => ?_, fun i k c s hc hs => ?_, fun r r' h h' => P.inj r r' (ok r h) (ok r' h')⟩
  · obtain ⟨x, hx, rfl⟩ := get hc
    rw [ln]
    exact P.ca i x (lt hx) hx
  · obtain ⟨x, hx, rfl⟩ := get hc
    rw [sl]
    exact P.ss i x (lt hx) hx
  · obtain ⟨x, hx, rfl⟩ := get hc
    have hk : k < 2 ^ x.b0 := by rw [← sl]; exact (List.getElem?_eq_some_iff.mp hs).1
    have es : s = freshSet x.ways := by
      have hs : (List.replicate (2 ^ x.b0) (freshSet x.ways))[k]? = some s := hs
      rw [List.getElem?_replicate, if_pos hk] at hs
      exact (Option.some.inj hs).symm
    rw [es]
    exact P.st i k x (lt hx) hx hk
end
end CG
namespace CG
open PySem PySem.Spec PyProof.Rows L2
def SixOk (x : Six) : Prop := x.b0 ≤ 12 ∧ x.ways ≤ 16
structure SetsAt (H : Hp) (se : Addr) (sa : Nat → Addr) (xs : List Six) : Prop where
  l : H se = some (.lst ((List.range xs.length).map fun i => V.ref (sa i)))
  e : ∀ i x, xs[i]? = some x → H (sa i) = some (.lst (x.l.map nv))
theorem SetsAt.same {H H' : Hp} {se : Addr} {sa : Nat → Addr} {xs : List Six} (h : SetsAt H se sa xs) (s : Same H H') : SetsAt H' se sa xs := ⟨s _ _ h.l, fun i x hx => s _ _ (h.e i x hx)⟩
def spNew (t : Cs) : Sp := fun vs H Q _ => ∃ (se ch mm : Addr) (sa : Nat → Addr) (xs : List Six), vs = [.ref se, .ref ch, .ref mm] ∧ SetsAt H se sa xs ∧ 2 ≤ xs.length ∧ xs.length ≤ 4 ∧ (∀ x ∈ xs, SixOk x) ∧ ChAt t H ch 0xACE1 ∧ (∃ dx, H mm = some (.ins t.k3 dx (fl_k3 (nv 0) (nv 0)))) ∧ ch ≠ mm ∧
  ∀ (H' : Hp) (L : Role → Addr) (q : Addr), MemInv t L (mem0 xs) H' → H' q = some (.lst ((List.range xs.length).map fun i => V.ref (L (.cache i)))) → L .mem = mm → L .chance = ch → (∀ r, L r = mm ∨ L r = ch ∨ H (L r) = none) → (∀ r, L r ≠ q) → (∀ r, ∃ r', RoleOk (mem0 xs) r' ∧ L r = L r') → H q = none → Same H H' → Q (.ref q) H'
section
variable {P : Program} {w : World} {K : W.Frag} {mg : Str → Option Value} {base : Heap} {t : Cs} {f : Addr} {fd : FuncData}
theorem ok_q106 (T : Txt K mg t) (F : Fun K "new_caches" "new_caches" s_q106 f fd) : FnOk P w K mg base CX0 5 f fd ["settings_of_each", "chance", "memory"] (spNew t) := by
  obtain ⟨f_q104, fd_q104, F_q104, b_q104, M_q104⟩ := T.k4.init
  have G_q104 := ok_q104 (P := P) (w := w) (base := base) T F_q104
  refine F.ok sc_q106 (fun vs H Q E h => ?_) (fun cdv A outer s H vs Q E hr h => ?_)
  · obtain ⟨se, ch, mm, sa, xs, rfl, _⟩ := h
    rfl
  · obtain ⟨se, ch, mm, sa, xs, rfl, SE, h2, h4, hok, C0, ⟨dm, M0⟩, ncm, q⟩ := h
    refine ⟨_, (pss_cons (ps_set (i := 3) sc_q106.nd rfl (Or.inl rfl) (pv 2))
      (pss_cons (ps_set (i := 4) sc_q106.nd rfl (Or.inl rfl) (pe_lst pa_nil))
      (pss_cons (ps_for PassesOwn.never rfl (pi_reversed rfl T.b_reversed (pa_cons (pe_slice sl_list (pv 0) (po_some pe_int) po_none) pa_nil)) (pg_name (i := 5) sc_q106.nd rfl (Or.inl rfl))
      (pss_cons (ps_set (i := 3) sc_q106.nd rfl (Or.inl rfl) (pe_make M_q104 G_q104 (hr.mono (by omega)) rfl T.k4.mgC b_q104 .nil pass0 (pa_cons (pv 5) (pa_cons (pv 1) (pa_cons (pv 3) pa_nil)))))
      (pss_one (ps_expr (pe_bm PySem.F.plainAttrs_list PySem.F.slot_list_insert PySem.F.type_list_insert mt_insert (pv 4) (pa_cons pe_int (pa_cons (pv 3) pa_nil)))))))
      (pss_cons (ps_set (i := 6) sc_q106.nd rfl (Or.inl rfl) (pe_make M_q104 G_q104 (hr.mono (by omega)) rfl T.k4.mgC b_q104 .nil pass0 (pa_cons (pe_ix ix_list (pv 0) pe_int (fun _ _ => rfl)) (pa_cons (pv 1) (pa_cons (pv 3) pa_nil)))))
      (pss_cons (ps_set (i := 7) sc_q106.nd rfl (Or.inl rfl) (pe_make M_q104 G_q104 (hr.mono (by omega)) rfl T.k4.mgC b_q104 .nil pass0 (pa_cons (pe_ix ix_list (pv 0) pe_int (fun _ _ => rfl)) (pa_cons (pv 1) (pa_cons (pv 3) pa_nil)))))
      (pss_one (ps_ret (pe_op op_cat (pe_lst (pa_cons (pv 6) (pa_cons (pv 7) pa_nil))) (pv 4))))))))), ?_⟩
    have six : ∀ i, i < xs.length → ∃ x, xs[i]? = some x ∧ SixOk x := fun i hi => ⟨_, List.getElem?_eq_getElem hi, hok _ (List.getElem_mem hi)⟩
    refine ⟨_, rfl, ?_⟩
    refine ⟨Nat.zero_le _, fun la nla => ?_⟩
    refine go_new nla fun H1 e1 s1 => ?_
    have SE1 := SE.same s1
    refine ⟨_, rfl, _, rfl, se, _, rfl, SqL.of SE1.l, fun sl nsl => ?_⟩
    have ecut : cutV ((List.range xs.length).map fun i => V.ref (sa i)) (some 2) none = ((List.range xs.length).map fun i => V.ref (sa i)).drop 2 := cut_from _ 2
    rw [ecut]
    have lenD : (((List.range xs.length).map fun i => V.ref (sa i)).drop 2).length = xs.length - 2 := by rw [List.length_drop, List.length_map, List.length_range]
    have e1' := new_ne (o := .lst (((List.range xs.length).map fun i => V.ref (sa i)).drop 2)) nsl _ _ e1
    have s2 : Same H (upd H1 sl (.lst (((List.range xs.length).map fun i => V.ref (sa i)).drop 2))) := s1.trans (new_ne nsl)
    refine ⟨sl, _, rfl, SqL.of upd_same, ?_⟩
    refine for_rev (K := K) (a := sl) (xs := ((List.range xs.length).map fun i => V.ref (sa i)).drop 2) (fun j σ H' => ∃ (L : Role → Addr) (v : Option V), σ = [some (.ref se), some (.ref ch), some (.ref mm), some (.ref (L (if j = 0 then .mem else .cache (xs.length - j)))), some (.ref la), v, none, none] ∧ PInv t L xs (fun i => xs.length - j ≤ i ∧ i < xs.length) H H' ∧ L .mem = mm ∧ L .chance = ch ∧
        H' la = some (.lst ((List.range j).map fun z => V.ref (L (.cache (xs.length - j + z))))) ∧ (∀ r, L r ≠ la) ∧ Same H H' ∧ H' sl = some (.lst (((List.range xs.length).map fun i => V.ref (sa i)).drop 2))) ?_ ?_ ?_ ?_
    · refine ⟨fun r => match r with | .chance => ch | _ => mm, none, rfl, ⟨?_, ⟨dm, s2 _ _ M0⟩, fun i x h => absurd h (by omega), fun i x h => absurd h (by omega), fun i k x h => absurd h (by omega), fun r r' h h' e => ?_, fun i h => absurd h (by omega), fun i h => absurd h (by omega), fun r => ?_, fun r => ?_⟩, rfl, rfl, e1', fun r => ?_, s2, upd_same⟩
      · obtain ⟨dc, e⟩ := C0; exact ⟨dc, s2 _ _ e⟩
      · have no : ∀ {r : Role}, BOk xs (fun i => xs.length - 0 ≤ i ∧ i < xs.length) r → r = .chance ∨ r = .mem := fun {r} h => by
          cases r with
          | chance => exact .inl rfl
          | mem => exact .inr rfl
          | cache i => exact absurd (show xs.length - 0 ≤ i ∧ i < xs.length from h) (by omega)
          | sets i => exact absurd (show xs.length - 0 ≤ i ∧ i < xs.length from h) (by omega)
          | set i k => exact absurd (show xs.length - 0 ≤ i ∧ i < xs.length from h.1) (by omega)
          | part i k j => exact absurd (show xs.length - 0 ≤ i ∧ i < xs.length from h.1.1) (by omega)
        rcases no h with rfl | rfl <;> rcases no h' with rfl | rfl
        · rfl
        · exact absurd e ncm
        · exact absurd e.symm ncm
        · rfl
      · cases r with
        | chance => exact .inr (.inl rfl)
        | _ => exact .inl rfl
      · cases r with
        | chance => exact ⟨.chance, trivial, rfl⟩
        | _ => exact ⟨.mem, trivial, rfl⟩
      · cases r with
        | chance => obtain ⟨dc, e⟩ := C0; exact ne_of_none e nla
        | _ => exact ne_of_none M0 nla
    · rintro j σ H' _ ⟨L, v, _, _, _, _, _, _, _, hsl⟩
      exact SqL.of hsl
    · rintro j y σ H' hj hy ⟨L, v, rfl, PI, em, ec, hla, nL, sm, hsl⟩
      rw [lenD] at hj hy
      obtain ⟨i, hi⟩ : ∃ i, i = xs.length - 1 - j := ⟨_, rfl⟩
      obtain ⟨x, hx, ox⟩ := six i (by omega)
      have ey : y = .ref (sa i) := by
        rw [List.getElem?_drop, List.getElem?_map, show 2 + (xs.length - 2 - 1 - j) = i by omega, List.getElem?_range (by omega)] at hy
        exact (Option.some.inj hy).symm
      subst ey
      have hset := (SE.same sm).e i x hx
      have bi : Sd39.behind i = i + 1 := by unfold Sd39.behind; rw [if_neg (by omega)]
      have eb : (if j = 0 then Role.mem else .cache (xs.length - j)) = behR xs.length i := by
        unfold behR
        rw [bi]
        by_cases z : j = 0
        · rw [if_pos z, if_neg (by omega)]
        · rw [if_neg z, if_pos (by omega), show xs.length - j = i + 1 by omega]
      refine ⟨_, rfl, _, rfl, _, rfl, fun p dx np nd _ => ⟨p, sa i, ch, _, x.b0, x.ways, x.bits, x.pol, x.th, x.nx, rfl, ⟨_, upd_same⟩, ?_, ox.1, ox.2, fun H2 M hc N kp => ⟨rfl, ?_⟩⟩⟩
      · rw [upd_ne (ne_of_none hset np), upd_ne (ne_of_none hset nd)]; exact hset
      have fM : ∀ r, H' (M r) = none ∧ M r ≠ p := fun r => mk_none (N.fr r)
      obtain ⟨PI2, sm2⟩ := PI.add sm (i := i) (x := x) (bh := .ref (L (if j = 0 then .mem else .cache (xs.length - j)))) (fun h => absurd h.1 (by omega)) hx (fun h => by rw [bi] at h ⊢; exact ⟨by omega, h⟩) (by rw [eb]) np nd (by rw [ec]; exact hc) N kp
      have hla2 := sm2 _ _ hla
      have nL2 : ∀ r, layAdd L i p M r ≠ la := fun r => by
        have a1 : p ≠ la := (ne_of_none hla np).symm
        have a2 : ∀ q, M q ≠ la := fun q => (ne_of_none hla (fM q).1).symm
        cases r with
        | chance => exact nL .chance
        | mem => exact nL .mem
        | cache k => show (if k = i then p else L (.cache k)) ≠ la; split; exact a1; exact nL _
        | sets k => show (if k = i then M .sets else L (.sets k)) ≠ la; split; exact a2 _; exact nL _
        | set k z => show (if k = i then M (.set z) else L (.set k z)) ≠ la; split; exact a2 _; exact nL _
        | part k z y => show (if k = i then M (.part z y) else L (.part k z y)) ≠ la; split; exact a2 _; exact nL _
      refine ⟨_, rfl, .inl ⟨rfl, _, SqL.of hla2⟩, _, rfl, la, _, _, rfl, rfl, hla2, by rw [List.length_map, List.length_range, CG.sl]; omega, ?_⟩
      refine ⟨layAdd L i p M, some (.ref (sa i)), ?_, ?_, em, ec, ?_, nL2, ?_, ?_⟩
      · rw [if_neg (show ¬ j + 1 = 0 by omega), show xs.length - (j + 1) = i by omega]
        show _ = [some (V.ref se), some (V.ref ch), some (V.ref mm), some (V.ref (if i = i then p else _)), some (V.ref la), _, none, none]
        rw [if_pos rfl]
        rfl
      · have PI3 := PI2.keep (H' := upd H2 la (.lst (V.ref p :: (List.range j).map fun z => V.ref (L (.cache (xs.length - j + z)))))) fun r o e => by rw [upd_ne (nL2 r)]; exact e
        have eB : (fun i' => (xs.length - j ≤ i' ∧ i' < xs.length) ∨ i' = i) = fun i' => xs.length - (j + 1) ≤ i' ∧ i' < xs.length := by
          funext i'
          exact propext ⟨fun h => by omega, fun h => by omega⟩
        rw [eB] at PI3
        exact PI3
      · rw [upd_same, List.range_succ_eq_map, List.map_cons, List.map_map, show xs.length - (j + 1) + 0 = i by omega]
        refine congrArg (fun q => some (HO.lst q)) ?_
        congr 1
        · show V.ref p = V.ref (if i = i then p else _)
          rw [if_pos rfl]
        · refine List.map_congr_left fun z hz => ?_
          show V.ref (L (.cache (xs.length - j + z))) = V.ref (if xs.length - (j + 1) + (z + 1) = i then p else L (.cache (xs.length - (j + 1) + (z + 1))))
          rw [if_neg (by omega), show xs.length - (j + 1) + (z + 1) = xs.length - j + z by omega]
      · exact fun b o e => by rw [upd_ne (ne_of_none e nla)]; exact sm2 _ _ (sm _ _ e)
      · rw [upd_ne ?_]
        · exact sm2 _ _ hsl
        · exact (ne_of_none e1 nsl).symm
    · rintro σ H' ⟨L, v, rfl, PI, em, ec, hla, nL, sm, hsl⟩
      rw [lenD] at PI hla
      rw [lenD]
      have ebk : (if xs.length - 2 = 0 then Role.mem else .cache (xs.length - (xs.length - 2))) = behR xs.length 0 := by
        show _ = (if 2 < xs.length then Role.cache 2 else .mem)
        by_cases z : xs.length - 2 = 0
        · rw [if_pos z, if_neg (by omega)]
        · rw [if_neg z, if_pos (by omega), show xs.length - (xs.length - 2) = 2 by omega]
      rw [ebk]
      have eB0 : (fun i' => xs.length - (xs.length - 2) ≤ i' ∧ i' < xs.length) = fun i' => 2 ≤ i' ∧ i' < xs.length := by
        funext i'
        exact propext ⟨fun h => by omega, fun h => by omega⟩
      rw [eB0] at PI
      rw [show xs.length - (xs.length - 2) = 2 by omega] at hla
      clear ebk eB0 hsl
      obtain ⟨x0, hx0, o0⟩ := six 0 (by omega)
      obtain ⟨x1, hx1, o1⟩ := six 1 (by omega)
      have SE2 := SE.same sm
      have hs0 := SE2.e 0 x0 hx0
      refine ⟨_, rfl, se, _, _, .ref (sa 0), rfl, rfl, SqL.of SE2.l, at_nat (j := 0) rfl (by rw [List.getElem?_map, List.getElem?_range (by omega)]; rfl), _, rfl, _, rfl, fun p dx np nd _ => ⟨p, sa 0, ch, _, x0.b0, x0.ways, x0.bits, x0.pol, x0.th, x0.nx, rfl, ⟨_, upd_same⟩, ?_, o0.1, o0.2, fun H2 M hc N kp => ⟨rfl, ?_⟩⟩⟩
      · rw [upd_ne (ne_of_none hs0 np), upd_ne (ne_of_none hs0 nd)]; exact hs0
      have fM : ∀ r, H' (M r) = none ∧ M r ≠ p := fun r => mk_none (N.fr r)
      obtain ⟨PI2, sm2⟩ := PI.add sm (i := 0) (x := x0) (bh := .ref (L (behR xs.length 0))) (fun h => absurd h.1 (by omega)) hx0 (fun h => ⟨Nat.le_refl 2, h⟩) rfl np nd (by rw [ec]; exact hc) N kp
      have hla2 := sm2 _ _ hla
      have nL2 : ∀ r, layAdd L 0 p M r ≠ la := fun r => by
        have a1 : p ≠ la := (ne_of_none hla np).symm
        have a2 : ∀ q, M q ≠ la := fun q => (ne_of_none hla (fM q).1).symm
        cases r with
        | chance => exact nL .chance
        | mem => exact nL .mem
        | cache k => show (if k = 0 then p else L (.cache k)) ≠ la; split; exact a1; exact nL _
        | sets k => show (if k = 0 then M .sets else L (.sets k)) ≠ la; split; exact a2 _; exact nL _
        | set k z => show (if k = 0 then M (.set z) else L (.set k z)) ≠ la; split; exact a2 _; exact nL _
        | part k z y => show (if k = 0 then M (.part z y) else L (.part k z y)) ≠ la; split; exact a2 _; exact nL _
      have bk2 : layAdd L 0 p M (behR xs.length 1) = L (behR xs.length 0) := by
        show layAdd L 0 p M (if 2 < xs.length then .cache 2 else .mem) = L (if 2 < xs.length then .cache 2 else .mem)
        split
        · rfl
        · rfl
      have smA := sm.trans sm2
      have SE3 := SE.same smA
      have hs1 := SE3.e 1 x1 hx1
      refine ⟨_, rfl, se, _, _, .ref (sa 1), rfl, rfl, SqL.of SE3.l, at_nat (j := 1) rfl (by rw [List.getElem?_map, List.getElem?_range (by omega)]; rfl), _, rfl, _, rfl, fun p' dx' np' nd' _ => ⟨p', sa 1, ch, _, x1.b0, x1.ways, x1.bits, x1.pol, x1.th, x1.nx, rfl, ⟨_, upd_same⟩, ?_, o1.1, o1.2, fun H3 M' hc' N' kp' => ⟨rfl, ?_⟩⟩⟩
      · rw [upd_ne (ne_of_none hs1 np'), upd_ne (ne_of_none hs1 nd')]; exact hs1
      have fM' : ∀ r, H2 (M' r) = none ∧ M' r ≠ p' := fun r => mk_none (N'.fr r)
      obtain ⟨PI3, sm3⟩ := PI2.add smA (i := 1) (x := x1) (bh := .ref (L (behR xs.length 0))) (fun h => by rcases h with h | h; exact absurd h.1 (by omega); exact absurd h (by omega)) hx1 (fun h => .inl ⟨Nat.le_refl 2, h⟩) (by rw [bk2]) np' nd' (by rw [show layAdd L 0 p M .chance = ch from ec]; exact hc') N' kp'
      have hla3 := sm3 _ _ hla2
      have nL3 : ∀ r, layAdd (layAdd L 0 p M) 1 p' M' r ≠ la := fun r => by
        have a1 : p' ≠ la := (ne_of_none hla2 np').symm
        have a2 : ∀ q, M' q ≠ la := fun q => (ne_of_none hla2 (fM' q).1).symm
        cases r with
        | chance => exact nL2 .chance
        | mem => exact nL2 .mem
        | cache k => show (if k = 1 then p' else layAdd L 0 p M (.cache k)) ≠ la; split; exact a1; exact nL2 _
        | sets k => show (if k = 1 then M' .sets else layAdd L 0 p M (.sets k)) ≠ la; split; exact a2 _; exact nL2 _
        | set k z => show (if k = 1 then M' (.set z) else layAdd L 0 p M (.set k z)) ≠ la; split; exact a2 _; exact nL2 _
        | part k z y => show (if k = 1 then M' (.part z y) else layAdd L 0 p M (.part k z y)) ≠ la; split; exact a2 _; exact nL2 _
      have I3 := PI3.whole fun i hi => by
        by_cases z0 : i = 0
        · exact .inl (.inr z0)
        · by_cases z1 : i = 1
          · exact .inr z1
          · exact .inl (.inl ⟨by omega, hi⟩)
      have tot := PI3.tot
      have alL := PI3.allS
      have rep : ∀ r, ∃ r', RoleOk (mem0 xs) r' ∧ layAdd (layAdd L 0 p M) 1 p' M' r = layAdd (layAdd L 0 p M) 1 p' M' r' := fun r => by
        obtain ⟨r', h', e'⟩ := PI3.rep r
        exact ⟨r', h'.role PI3.lt, e'⟩
      have em3 : layAdd (layAdd L 0 p M) 1 p' M' .mem = mm := em
      have ec3 : layAdd (layAdd L 0 p M) 1 p' M' .chance = ch := ec
      clear hc' N' kp' PI2 PI3
      have cL : (List.range xs.length).map (fun i => V.ref (layAdd (layAdd L 0 p M) 1 p' M' (.cache i))) = [V.ref p, V.ref p'] ++ (List.range (xs.length - 2)).map (fun z => V.ref (L (.cache (2 + z)))) := by
        obtain ⟨n, hn⟩ : ∃ n, xs.length = n + 2 := ⟨xs.length - 2, by omega⟩
        rw [hn, List.range_succ_eq_map, List.map_cons, List.map_map, List.range_succ_eq_map, List.map_cons, List.map_map]
        show _ = V.ref p :: V.ref p' :: _
        congr 2
        refine List.map_congr_left fun z hz => ?_
        show V.ref (if z + 1 + 1 = 1 then p' else if z + 1 + 1 = 0 then p else L (.cache (z + 1 + 1))) = _
        rw [if_neg (by omega), if_neg (by omega), show z + 1 + 1 = 2 + z by omega]
      have smF := smA.trans sm3
      generalize layAdd (layAdd L 0 p M) 1 p' M' = LL at *
      refine ⟨_, rfl, _, rfl, (by show 2 ≤ sizeLine; decide), fun a na => ?_⟩
      have hla4 := new_ne (o := .lst [.ref p, .ref p']) na _ _ hla3
      refine ⟨_, rfl, a, la, _, _, rfl, rfl, upd_same, hla4, by rw [List.length_map, List.length_range, CG.sl]; show 2 + _ ≤ _; omega, fun r nr => ?_⟩
      have sB : Same H3 (upd (upd H3 a (.lst [V.ref p, V.ref p'])) r (.lst ([V.ref p, V.ref p'] ++ (List.range (xs.length - 2)).map fun z => V.ref (L (.cache (2 + z)))))) := (new_ne na).trans (new_ne nr)
      refine q _ LL r (I3.same fun r o e => sB _ _ e) (by rw [upd_same, cL]) em3 ec3 (fun z => by have := tot z; rw [em3, ec3] at this; exact this) (fun z => ?_) rep (smF.free ((new_ne na).free nr)) (smF.trans sB)
      obtain ⟨o, e⟩ := alL z
      exact ne_of_none (new_ne na _ _ e) nr
end
end CG
namespace CG
open PySem PySem.Spec PyProof.Rows L2
theorem tYes2 {σ : L2.St} {H : Hp} {Q : Bool → Hp → Prop} (h : Q true H) : tYes σ H Q := h
theorem cut_takeT (xs : List V) (k : Nat) : cutV xs none (some (k : Int)) = xs.take k := by
  unfold cutV
  rw [HT.sIx_none, HT.sIx_nat, Nat.sub_zero, List.drop_zero]
  rcases Nat.le_total k xs.length with h | h
  · rw [Nat.min_eq_left h]
  · rw [Nat.min_eq_right h, List.take_length, List.take_of_length_le h]
theorem cut_dropT (xs : List V) (k : Nat) : cutV xs (some (k : Int)) none = xs.drop k := by
  unfold cutV
  rw [HT.sIx_none, HT.sIx_nat]
  rcases Nat.le_total k xs.length with h | h
  · rw [Nat.min_eq_left h, List.take_of_length_le (by rw [List.length_drop]; omega)]
  · rw [Nat.min_eq_right h, List.drop_length, List.drop_of_length_le h, List.take_nil]
theorem cut_midT (xs : List V) (i j : Nat) (h : i ≤ j) : cutV xs (some (i : Int)) (some (j : Int)) = (xs.drop i).take (j - i) := by
  unfold cutV
  rw [HT.sIx_nat, HT.sIx_nat]
  by_cases h1 : i ≤ xs.length
  · rw [Nat.min_eq_left h1]
    rcases Nat.le_total j xs.length with h2 | h2
    · rw [Nat.min_eq_left h2]
    · rw [Nat.min_eq_right h2, List.take_of_length_le (by rw [List.length_drop]; omega), List.take_of_length_le (by rw [List.length_drop]; omega)]
  · rw [Nat.min_eq_right (by omega), Nat.min_eq_right (by omega), Nat.sub_self, List.take_zero, List.drop_of_length_le (by omega), List.take_nil]
theorem PairsAt.keep {H H' : Hp} : ∀ {as : List Addr} {ps : List (Nat × Nat)}, PairsAt H as ps → (∀ a ∈ as, ∀ o, H a = some o → H' a = some o) → PairsAt H' as ps
  | [], [], _, _ => trivial
  | a :: as, p :: ps, ⟨h, t⟩, k => ⟨k a List.mem_cons_self _ h, PairsAt.keep t fun b hb => k b (List.mem_cons_of_mem _ hb)⟩
  | [], _ :: _, h, _ => h.elim
  | _ :: _, [], h, _ => h.elim
theorem PairsAt.len {H : Hp} : ∀ {as : List Addr} {ps : List (Nat × Nat)}, PairsAt H as ps → as.length = ps.length
  | [], [], _ => rfl
  | a :: as, p :: ps, ⟨_, t⟩ => by rw [List.length_cons, List.length_cons, PairsAt.len t]
  | [], _ :: _, h => h.elim
  | _ :: _, [], h => h.elim
theorem PairsAt.snoc {H : Hp} {a : Addr} {p : Nat × Nat} (h : H a = some (.tup [nv p.1, nv p.2])) : ∀ {as : List Addr} {ps : List (Nat × Nat)}, PairsAt H as ps → PairsAt H (as ++ [a]) (ps ++ [p])
  | [], [], _ => ⟨h, trivial⟩
  | b :: as, q :: ps, ⟨g, t⟩ => ⟨g, PairsAt.snoc h t⟩
  | [], _ :: _, h => h.elim
  | _ :: _, [], h => h.elim
theorem PairsAt.take {H : Hp} : ∀ (n : Nat) {as : List Addr} {ps : List (Nat × Nat)}, PairsAt H as ps → PairsAt H (as.take n) (ps.take n)
  | 0, _, _, _ => by rw [List.take_zero, List.take_zero]; trivial
  | n + 1, [], [], _ => trivial
  | n + 1, a :: as, p :: ps, ⟨h, t⟩ => ⟨h, PairsAt.take n t⟩
  | n + 1, [], _ :: _, h => h.elim
  | n + 1, _ :: _, [], h => h.elim
theorem PairsAt.get {H : Hp} : ∀ {as : List Addr} {ps : List (Nat × Nat)} {i : Nat} {a : Addr}, PairsAt H as ps → as[i]? = some a → ∃ p, ps[i]? = some p ∧ H a = some (.tup [nv p.1, nv p.2])
  | [], [], i, a, _, h => by simp at h
  | b :: as, p :: ps, 0, a, ⟨g, _⟩, h => by
    have e : b = a := Option.some.inj h
    subst e
    exact ⟨p, rfl, g⟩
  | b :: as, p :: ps, i + 1, a, ⟨_, t⟩, h => PairsAt.get (i := i) t h
  | [], _ :: _, _, _, h, _ => h.elim
  | _ :: _, [], _, _, h, _ => h.elim
structure TgAt (t : Cs) (H : Hp) (lab : Addr → Nat) (a l : Addr) (ways : Nat) (ts : List (List Sd39.Target)) (j mi : Nat) : Prop where
  o : ∃ dx, H a = some (.ins t.k6 dx (fl_k6 (.ref l) (nv ways) (nv j) (nv mi)))
  la : lab a = 3
  ll : lab l = 3
  s : ∃ as : List Addr, H l = some (.lst (as.map V.ref)) ∧ as.length = ts.length ∧ ∀ (k : Nat) (b : Addr) (x : List Sd39.Target), as[k]? = some b → ts[k]? = some x → lab b = 3 ∧ b ≠ l ∧ ∃ ps : List Addr, H b = some (.lst (ps.map V.ref)) ∧ PairsAt H ps (x.map pair) ∧ ∀ p ∈ ps, lab p = 3
structure LabUp (n : Nat) (H H' : Hp) (lab lab' : Addr → Nat) : Prop where
  old : ∀ b, lab b ≠ 0 → lab' b = lab b
  new : ∀ b, lab b = 0 → lab' b ≠ 0 → H b = none ∧ lab' b = n ∧ ∃ o, H' b = some o
  keep : ∀ b o, H b = some o → lab b ≠ n → H' b = some o
  dom : ∀ b o, H b = some o → ∃ o', H' b = some o'
theorem TgAt.keep {t : Cs} {H H' : Hp} {lab lab' : Addr → Nat} {a l : Addr} {ways j mi : Nat} {ts : List (List Sd39.Target)} (h : TgAt t H lab a l ways ts j mi) (k : ∀ b o, H b = some o → lab b = 3 → H' b = some o) (e : ∀ b, lab b = 3 → lab' b = 3) : TgAt t H' lab' a l ways ts j mi := by
  obtain ⟨⟨dx, h1⟩, h2, h3, as, h4, h5, h6⟩ := h
  refine ⟨⟨dx, k _ _ h1 h2⟩, e _ h2, e _ h3, as, k _ _ h4 h3, h5, fun i b x hb hx => ?_⟩
  obtain ⟨g1, g2, ps, g3, g4, g5⟩ := h6 i b x hb hx
  exact ⟨e _ g1, g2, ps, k _ _ g3 g1, g4.keep fun p hp o ho => k _ _ ho (g5 p hp), fun p hp => e _ (g5 p hp)⟩
def spTgInit (t : Cs) : Sp := fun vs H Q _ => ∃ (p : Addr) (bits ways : Nat), vs = [.ref p, nv bits, nv ways] ∧ Fresh H p t.k6 ∧ bits ≤ 10 ∧
  ∀ (H' : Hp) (l : Addr) (as : List Addr), (∃ dx, H' p = some (.ins t.k6 dx (fl_k6 (.ref l) (nv ways) (nv 0) (nv 0)))) → H' l = some (.lst (as.map V.ref)) → as.length = 2 ^ bits → (∀ b ∈ as, H' b = some (.lst []) ∧ H b = none ∧ b ≠ l) → H l = none → But H H' [p] → Q .non H'
def spJump (t : Cs) : Sp := fun vs H Q _ => ∃ (lab : Addr → Nat) (a l : Addr) (g : Sd39.Guess) (b : Sd39.Br) (p to : Nat), vs = [.ref a, nv p, nv to] ∧ TgAt t H lab a l g.tways b.targets b.jumps b.missed ∧ TgOk g b.targets ∧ g.tways ≤ 8 ∧ g.tsets ≤ 10 ∧ (∀ b, lab b ≠ 0 → ∃ o, H b = some o) ∧
  ∀ (H' : Hp) (lab' : Addr → Nat), TgAt t H' lab' a l g.tways (Sd39.jumped g b p to).targets (Sd39.jumped g b p to).jumps (Sd39.jumped g b p to).missed → LabUp 3 H H' lab lab' → Q .non H'
theorem none_but {H H1 : Hp} {a d : Addr} (k : But H H1 [a]) (h : H1 d = none) (n : d ≠ a) : H d = none := by
  cases e : H d with
  | none => rfl
  | some o => rw [k _ _ e (nin n)] at h; cases h
theorem jump_end {t : Cs} {H H8 : Hp} {lab : Addr → Nat} {a l c T1 L3 dx : Addr} {as qs ps : List Addr} {ways j mi k p to : Nat} {ts : List (List Sd39.Target)} {x : List Sd39.Target}
    (ho : H8 a = some (.ins t.k6 dx (fl_k6 (.ref l) (nv ways) (nv j) (nv mi)))) (hl : H8 l = some (.lst (as.map V.ref))) (fr : But H H8 [a]) (la : lab a = 3) (ll : lab l = 3) (hn : as.length = ts.length)
    (hs : ∀ (k : Nat) (b : Addr) (x : List Sd39.Target), as[k]? = some b → ts[k]? = some x → lab b = 3 ∧ b ≠ l ∧ ∃ ps : List Addr, H b = some (.lst (ps.map V.ref)) ∧ PairsAt H ps (x.map pair) ∧ ∀ p ∈ ps, lab p = 3)
    (hc : as[k]? = some c) (hx : ts[k]? = some x) (tot : ∀ b, lab b ≠ 0 → ∃ o, H b = some o) (e3 : H8 L3 = some (.lst (((T1 :: qs).take ways).map V.ref))) (nL : H L3 = none) (nT : H T1 = none) (e5 : H8 T1 = some (.tup [nv p, nv to])) {fs0 : List (Str × V)} (hoH : H a = some (.ins t.k6 dx fs0))
    (hP : PairsAt H8 (T1 :: qs) ((⟨p, to⟩ :: x.filter fun z => z.place != p : List Sd39.Target).map pair)) (hsub : ∀ q ∈ qs, q ∈ ps) (lps : ∀ q ∈ ps, lab q = 3) :
    TgAt t (upd H8 l (.lst ((as.map V.ref).set k (.ref L3)))) (fun d => if d = T1 ∨ d = L3 then 3 else lab d) a l ways (ts.set k ((⟨p, to⟩ :: x.filter fun z => z.place != p : List Sd39.Target).take ways)) j mi ∧ LabUp 3 H (upd H8 l (.lst ((as.map V.ref).set k (.ref L3)))) lab (fun d => if d = T1 ∨ d = L3 then 3 else lab d) := by
  have l3 : ∀ d, lab d = 3 → (if d = T1 ∨ d = L3 then 3 else lab d) = 3 := fun d h => by split; rfl; exact h
  have nla : a ≠ l := ne_of ho hl (by intro z; cases z)
  have nL3 : L3 ≠ l := fun z => by
    obtain ⟨o, e⟩ := tot l (by rw [ll]; decide)
    rw [← z, nL] at e; cases e
  have hk : k < as.length := (List.getElem?_eq_some_iff.mp hc).1
  have tup_ne : ∀ {q : Addr} {xs : List V}, H8 q = some (.tup xs) → q ≠ l := fun e => ne_of e hl (by intro z; cases z)
  refine ⟨⟨⟨dx, by rw [upd_ne nla]; exact ho⟩, l3 a la, l3 l ll, as.set k L3, by rw [upd_same, List.map_set], by rw [List.length_set, List.length_set]; exact hn, fun i b y hb hy => ?_⟩, fun b hb => ?_, fun b hb hb' => ?_, fun b o e hb => ?_, fun b o e => ?_⟩
  · by_cases z : k = i
    · subst z
      rw [List.getElem?_set_self hk] at hb
      rw [List.getElem?_set_self (by rw [← hn]; exact hk)] at hy
      cases hb
      cases hy
      refine ⟨if_pos (.inr rfl), nL3, (T1 :: qs).take ways, by rw [upd_ne nL3]; exact e3, ?_, fun q hq => ?_⟩
      · rw [List.map_take]
        exact (hP.take ways).keep fun q hq o e => by
          obtain ⟨u, v, e'⟩ := pair_mem hP (List.mem_of_mem_take hq)
          rw [upd_ne (tup_ne e')]; exact e
      · rcases List.mem_cons.mp (List.mem_of_mem_take hq) with y | y
        · exact if_pos (.inl y)
        · exact l3 q (lps q (hsub q y))
    · rw [List.getElem?_set_ne z] at hb hy
      obtain ⟨g1, g2, ps', g3, g4, g5⟩ := hs i b y hb hy
      have na : b ≠ a := ne_of g3 hoH (by intro z; cases z)
      refine ⟨l3 b g1, g2, ps', by rw [upd_ne g2]; exact fr _ _ g3 (nin na), ?_, fun q hq => l3 q (g5 q hq)⟩
      exact g4.keep fun q hq o e => by
        obtain ⟨u, v, e'⟩ := pair_mem g4 hq
        have nq : q ≠ a := ne_of e' hoH (by intro z; cases z)
        rw [upd_ne (tup_ne (fr _ _ e' (nin nq)))]
        exact fr _ _ e (nin nq)
  · obtain ⟨o, e⟩ := tot b hb
    exact if_neg fun z => z.elim (fun z => by rw [z, nT] at e; cases e) (fun z => by rw [z, nL] at e; cases e)
  · have hb' : (if b = T1 ∨ b = L3 then 3 else lab b) ≠ 0 := hb'
    by_cases z : b = T1 ∨ b = L3
    · refine ⟨z.elim (fun z => by rw [z]; exact nT) (fun z => by rw [z]; exact nL), if_pos z, ?_⟩
      rcases z with z | z
      · exact ⟨_, by rw [z, upd_ne (tup_ne e5)]; exact e5⟩
      · exact ⟨_, by rw [z, upd_ne nL3]; exact e3⟩
    · rw [if_neg z] at hb'; exact absurd hb hb'
  · have na : b ≠ a := fun z => hb (by rw [z]; exact la)
    have nl : b ≠ l := fun z => hb (by rw [z]; exact ll)
    rw [upd_ne nl]; exact fr _ _ e (nin na)
  · by_cases z : b = l
    · exact ⟨_, by rw [z]; exact upd_same⟩
    · rw [upd_ne z]
      by_cases y : b = a
      · exact ⟨_, by rw [y]; exact ho⟩
      · exact ⟨_, fr _ _ e (nin y)⟩
section
variable {P : Program} {w : World} {K : W.Frag} {mg : Str → Option Value} {base : Heap} {t : Cs} {f : Addr} {fd : FuncData}
theorem ok_q91 (T : Txt K mg t) (F : Fun K "__init__" "Targets.__init__" s_q91 f fd) : FnOk P w K mg base CX0 1 f fd ["self", "set_bits", "ways"] (spTgInit t) := by
  refine F.ok sc_q91 (fun vs H Q E h => ?_) (fun cdv A outer s H vs Q E hr h => ?_)
  · obtain ⟨p, bits, ways, rfl, _⟩ := h
    rfl
  · obtain ⟨p, bits, ways, rfl, ⟨dx, hp⟩, g1, q⟩ := h
    have b14 := pow14 (n := bits) (by omega)
    refine ⟨_, (pss_cons (ps_fld (pv 0) (pe_lc (own := [("k", 3)]) rfl sc_q91.nd (pi_range1 rfl T.b_range (pa_cons (pe_op op_shl pe_int (pv 1)) pa_nil)) (blkOk_by (by rfl)) (fun _ _ _ _ _ => pg_name (i := 3) sc_q91.nd rfl (Or.inl rfl)) (fun _ _ _ _ _ => pts_nil) (fun _ _ _ _ _ => (pe_lst pa_nil))) rfl)
      (pss_cons (ps_fld (pv 0) (pv 2) rfl)
      (pss_cons (ps_fld (pv 0) pe_int rfl)
      (pss_one (ps_fld (pv 0) pe_int rfl))))), ?_⟩
    have en : ((1 : Int) * 2 ^ (bits : Int).toNat).toNat = 2 ^ bits := by rw [shl1, Int.toNat_natCast]
    refine ⟨_, rfl, _, _, rfl, rfl, cpow1 (by omega), 1 * 2 ^ (bits : Int).toNat, rfl, ?_, ?_, fun D hD => ?_⟩
    · rw [shl1]; generalize 2 ^ bits = z at b14; omega
    · rw [shl1]; generalize 2 ^ bits = z at b14; omega
    refine lc_range (lo := 0) (n := ((1 : Int) * 2 ^ (bits : Int).toNat).toNat) (fun j H' => ∃ as : List Addr, H' D = some (.lst (as.map V.ref)) ∧ as.length = j ∧ (∀ b ∈ as, H' b = some (.lst []) ∧ H b = none ∧ b ≠ D) ∧ Same H H') ⟨[], upd_same, rfl, fun b hb => absurd hb (by simp), new_ne hD⟩ ?_ ?_
    · rintro j H' hj ⟨as, hl, hn, hb, sm⟩
      rw [en] at hj
      refine ⟨rfl, tYes2 ?_⟩
      refine iteT ?_
      refine ⟨Nat.zero_le _, fun x nx => ?_⟩
      have nD : D ≠ x := ne_of_none hl nx
      refine ⟨_, new_ne nx _ _ hl, by rw [List.length_map, hn, CG.sl]; omega, as ++ [x], by rw [upd_same, List.map_append]; rfl, by rw [List.length_append, hn]; rfl, fun b hm => ?_, fun b o e => ?_⟩
      · rcases List.mem_append.mp hm with z | z
        · obtain ⟨e1, e2, e3⟩ := hb b z
          exact ⟨by rw [upd_ne e3]; exact new_ne nx _ _ e1, e2, e3⟩
        · have e := List.mem_singleton.mp z
          subst e
          exact ⟨by rw [upd_ne nD.symm, upd_same], sm.free nx, nD.symm⟩
      · rw [upd_ne (ne_of_none e hD)]
        exact new_ne nx _ _ (sm _ _ e)
    · rintro H1 ⟨as, hl, hn, hb, sm⟩
      rw [en] at hn
      have m0 : Mid H p t.k6 dx [] H1 := (Mid.start hp).new sm
      have nD : D ≠ p := (ne_of_none hp hD).symm
      have nb : ∀ b ∈ as, b ≠ p := fun b hm => (ne_of_none hp (hb b hm).2.1).symm
      refine ⟨_, rfl, _, _, _, _, rfl, m0.at_, T.k6.cl, T.k6.n_j31, (by show 0 < 1000; decide), ?_⟩
      refine m0.go fun H2 m2 k2 => ?_
      refine ⟨_, rfl, _, rfl, _, _, _, _, rfl, m2.at_, T.k6.cl, T.k6.n_j40, (by show 1 < 1000; decide), ?_⟩
      refine m2.go fun H3 m3 k3 => ?_
      refine ⟨_, rfl, _, _, _, _, rfl, m3.at_, T.k6.cl, T.k6.n_j14, (by show 2 < 1000; decide), ?_⟩
      refine m3.go fun H4 m4 k4 => ?_
      refine ⟨_, rfl, _, _, _, _, rfl, m4.at_, T.k6.cl, T.k6.n_j38, (by show 3 < 1000; decide), ?_⟩
      refine m4.go fun H5 m5 k5 => ?_
      have kk : But H1 H5 [p] := ((k2.trans k3).trans k4).trans k5
      exact q H5 D as ⟨dx, m5.at_⟩ (kk _ _ hl (nin nD)) hn (fun b hm => ⟨kk _ _ (hb b hm).1 (nin (nb b hm)), (hb b hm).2⟩) hD m5.but
theorem ok_q20 (T : Txt K mg t) (F : Fun K "follow_jump" "Targets.follow_jump" s_q20 f fd) : FnOk P w K mg base CX0 1 f fd ["self", "address", "to"] (spJump t) := by
  refine F.ok sc_q20 (fun vs H Q E h => ?_) (fun cdv A outer s H vs Q E hr h => ?_)
  · obtain ⟨lab, a, l, g, b, p, to, rfl, _⟩ := h
    rfl
  · obtain ⟨lab, a, l, g, b, p, to, rfl, TA, TO, g1, g2, tot, q⟩ := h
    obtain ⟨⟨dx, ho⟩, la, ll, as, hl, hn, hs⟩ := TA
    refine ⟨_, (pss_cons (ps_set (i := 3) sc_q20.nd rfl (Or.inl rfl) (pe_op op_mod (pe_op op_fdiv (pv 1) pe_int) (pe_callB call_len_seq rfl T.b_len PySem.boot_len (pa_cons (pe_fld (pv 0) rfl) pa_nil))))
      (pss_cons (ps_set (i := 4) sc_q20.nd rfl (Or.inl rfl) (pe_ix ix_list (pe_fld (pv 0) rfl) (pv 3) (fun _ _ => rfl)))
      (pss_cons (ps_fldaug (pv 0) pe_int in_add)
      (pss_cons (ps_if (pt_cmpR (op_notInP (u65 hr)) (pe_tup (pa_cons (pv 1) (pa_cons (pv 2) pa_nil))) (pv 4) (by rfl))
      (pss_one (ps_fldaug (pv 0) pe_int in_add))
      pss_nil)
      (pss_cons (ps_setLc (i := 5) (own := [("pair", 6)]) rfl sc_q20.nd rfl rfl (sw_true rfl rfl rfl rfl) (pi_list (pv 4)) (blkOk_by (by rfl)) (fun _ _ _ _ _ => pg_name (i := 6) sc_q20.nd rfl (Or.inl rfl)) (fun _ _ _ _ _ => (pts_one (pt_cmpR op_ne (pe_ix (ixtk (K := K) rfl) (pv 6) pe_int (fun _ _ => rfl)) (pv 1) (nomark _)))) (fun _ _ _ _ _ => (pv 6)))
      (pss_one (ps_asg (pe_slice sl_list (pe_op op_cat (pe_lst (pa_cons (pe_tup (pa_cons (pv 1) (pa_cons (pv 2) pa_nil))) pa_nil)) (pv 5)) po_none (po_some (pe_fld (pv 0) rfl))) (pg_sub (pe_fld (pv 0) rfl) (pv 3) set_list)))))))), ?_⟩
    have h0 : 0 < as.length := by rw [hn, TO.l]; exact Nat.two_pow_pos _
    have hk : p / 4 % as.length < as.length := Nat.mod_lt _ h0
    have ek : p / 4 % 2 ^ g.tsets = p / 4 % as.length := by rw [hn, TO.l]
    obtain ⟨k, hkk⟩ : ∃ k, k = p / 4 % as.length := ⟨_, rfl⟩
    rw [← hkk] at hk ek
    have hkt : k < b.targets.length := by rw [← hn]; exact hk
    obtain ⟨c, hc⟩ : ∃ c, as[k]? = some c := ⟨_, List.getElem?_eq_getElem hk⟩
    obtain ⟨x, hx⟩ : ∃ x, b.targets[k]? = some x := ⟨_, List.getElem?_eq_getElem hkt⟩
    have xm := List.mem_of_getElem? hx
    obtain ⟨lc3, ncl, ps, hcl, hps, lps⟩ := hs k c x hc hx
    have hxw := TO.w x xm
    have hxn := TO.nd x xm
    have hpl : ps.length = x.length := by rw [hps.len, List.length_map]
    have cn : ((as.map V.ref).length : Int) = ((as.length : Nat) : Int) := by rw [List.length_map]
    refine ⟨_, rfl, _, _, rfl, rfl, ⟨by decide, by decide⟩, _, rfl, _, _, _, _, _, rfl, ho, T.k6.cl, T.k6.n_j31, lk_q92, l, _, rfl, .inl (SqL.of hl), _, _, rfl, rfl, ?_, ?_⟩
    · rw [List.length_map]; omega
    have eat : (p : Int) / 4 % ((as.map V.ref).length : Int) = (k : Int) := by rw [cn, hkk]; rfl
    refine ⟨_, rfl, _, _, _, _, _, rfl, ho, T.k6.cl, T.k6.n_j31, lk_q92, _, rfl, l, _, _, .ref c, rfl, rfl, SqL.of hl, at_nat (j := k) eat (by rw [List.getElem?_map, hc]; rfl), ?_⟩
    have nla : l ≠ a := ne_of hl ho (by intro z; cases z)
    have nca : c ≠ a := ne_of hcl ho (by intro z; cases z)
    have npa : ∀ q ∈ ps, q ≠ a := fun q hq => by
      obtain ⟨u, v, e⟩ := pair_mem hps hq
      exact ne_of e ho (by intro z; cases z)
    refine ⟨_, rfl, _, _, _, _, _, rfl, ho, T.k6.cl, T.k6.n_j14, lk_q75, _, _, rfl, rfl, _, _, ho, (by show 4 < 1000; decide), ?_⟩
    refine go_put fun H1 e1 k1 => ?_
    have ho1 : H1 a = some (.ins t.k6 dx (fl_k6 (.ref l) (nv g.tways) (nv (b.jumps + 1)) (nv b.missed))) := e1
    have hl1 := k1 _ _ hl (nin nla)
    have hc1 := k1 _ _ hcl (nin nca)
    have hps1 : PairsAt H1 ps (x.map pair) := hps.keep fun q hq o e => k1 _ _ e (nin (npa q hq))
    refine ⟨_, rfl, _, rfl, (by show 2 ≤ sizeLine; decide), fun T0 nT0 => ?_⟩
    refine ⟨_, rfl, T0, c, p, to, ps, x.map pair, rfl, rfl, upd_same, new_ne nT0 _ _ hc1, hps1.keep fun q hq o e => new_ne nT0 _ _ e, _, rfl, ?_⟩
    have s2 : Same H1 (upd H1 T0 (.tup [nv p, nv to])) := new_ne nT0
    have ho2 := s2 _ _ ho1
    have etg : (if Sd39.targetOf g b p = some to then 0 else 1) = if (p, to) ∈ x.map pair then 0 else 1 := by
      have e : Sd39.targetOf g b p = (x.find? fun z => z.place == p).map fun z => z.to := by
        unfold Sd39.targetOf
        rw [ek, List.getD_eq_getElem?_getD, hx]; rfl
      rw [e]
      by_cases z : (p, to) ∈ x.map pair
      · rw [if_pos z, if_pos ((find_pair hxn).mpr z)]
      · rw [if_neg z, if_neg (fun y => z ((find_pair hxn).mp y))]
    refine cut (fun H3 => H3 a = some (.ins t.k6 dx (fl_k6 (.ref l) (nv g.tways) (nv (b.jumps + 1)) (nv (b.missed + if Sd39.targetOf g b p = some to then 0 else 1)))) ∧ But (upd H1 T0 (.tup [nv p, nv to])) H3 [a]) ?_ (fun z rest => ?_) (fun z => ?_)
    rotate_left
    · have z' : ¬ (p, to) ∈ x.map pair := by simpa using z
      rw [etg, if_neg z'] at rest
      refine ⟨_, rfl, _, _, _, _, _, rfl, ho2, T.k6.cl, T.k6.n_j38, lk_q52, _, _, rfl, rfl, _, _, ho2, (by show 4 < 1000; decide), rest _ ⟨upd_same, But.refl.put (by simp)⟩⟩
    · have z' : (p, to) ∈ x.map pair := by simpa using z
      rw [etg, if_pos z']
      exact ⟨ho2, But.refl⟩
    rintro H3 ⟨ho3, k3⟩
    have hc3 := k3 _ _ (s2 _ _ hc1) (nin nca)
    have hl3 := k3 _ _ (s2 _ _ hl1) (nin nla)
    have hps3 : PairsAt H3 ps (x.map pair) := hps1.keep fun q hq o e => k3 _ _ (s2 _ _ e) (nin (npa q hq))
    have fr3 : But H H3 [a] := fun d o e n => k3 _ _ (s2 _ _ (k1 _ _ e n)) n
    refine ⟨_, rfl, c, rfl, ⟨_, SqL.of hc3⟩, fun D hD => ?_⟩
    refine lc_list (K := K) (a := c) (xs := ps.map V.ref) (fun i H' => ∃ qs : List Addr, H' D = some (.lst (qs.map V.ref)) ∧ PairsAt H' qs (((x.take i).filter fun z => z.place != p).map pair) ∧ (∀ q ∈ qs, q ∈ ps) ∧ Same H3 H') ⟨[], upd_same, by rw [List.take_zero]; trivial, fun q hq => absurd hq (by simp), new_ne hD⟩ ?_ ?_ ?_
    · rintro i H' _ ⟨qs, _, _, _, sm⟩
      exact SqL.of (sm _ _ hc3)
    · rintro i y H' hy ⟨qs, hD', hq, hsub, sm⟩
      rw [List.getElem?_map] at hy
      cases eq : ps[i]? with
      | none => rw [eq] at hy; cases hy
      | some q =>
        rw [eq] at hy
        cases hy
        have hqm := List.mem_of_getElem? eq
        obtain ⟨pr, hpr, ht⟩ := hps3.get eq
        rw [List.getElem?_map] at hpr
        cases ex : x[i]? with
        | none => rw [ex] at hpr; cases hpr
        | some tg =>
          rw [ex] at hpr
          cases hpr
          have ht' := sm _ _ ht
          have hin : i < x.length := (List.getElem?_eq_some_iff.mp ex).1
          have etk : x.take (i + 1) = x.take i ++ [tg] := by rw [List.take_succ, ex]; rfl
          refine ⟨rfl, ?_⟩
          refine ⟨_, rfl, q, _, _, nv tg.place, rfl, rfl, SqT.of ht', at_nat (j := 0) rfl rfl, _, rfl, rfl, _, rfl, ?_⟩
          have hqn : qs.length ≤ i := by
            rw [hq.len, List.length_map]
            exact Nat.le_trans (List.length_filter_le _ _) (by rw [List.length_take]; omega)
          refine ite2 (fun z => ?_) (fun z => ?_)
          · have z' : ¬ tg.place = p := fun y => by rw [y] at z; simp at z
            refine ⟨_, rfl, _, hD', by rw [List.length_map, CG.sl]; omega, qs ++ [q], by rw [upd_same, List.map_append]; rfl, ?_, fun v hv => ?_, fun d o e => ?_⟩
            · rw [etk, List.filter_append, List.map_append, List.filter_cons, if_pos (by simpa using z')]
              have nq : ∀ v ∈ ps, v ≠ D := fun v hv => by
                obtain ⟨u1, u2, e⟩ := pair_mem hps3 hv
                exact ne_of_none e hD
              exact (hq.snoc (p := pair tg) ht').keep fun v hv o e => by
                rw [upd_ne (nq v ?_)]
                · exact e
                · rcases List.mem_append.mp hv with y | y
                  · exact hsub v y
                  · rw [List.mem_singleton.mp y]; exact hqm
            · rcases List.mem_append.mp hv with y | y
              · exact hsub v y
              · rw [List.mem_singleton.mp y]; exact hqm
            · rw [upd_ne (ne_of_none e hD)]; exact sm _ _ e
          · have z' : tg.place = p := by
              have := fun y => z (by rw [decide_eq_false y]; rfl)
              have q1 : nv tg.place = nv p := Classical.byContradiction this
              injection q1 with q2
              omega
            refine ⟨qs, hD', ?_, hsub, sm⟩
            rw [etk, List.filter_append, List.filter_cons, if_neg (by simpa using z'), List.filter_nil, List.append_nil]
            exact hq
    · rintro H4 ⟨qs, hD', hq, hsub, sm⟩
      rw [List.length_map, hpl, List.take_length] at hq
      have hqn : qs.length ≤ 8 := by
        rw [hq.len, List.length_map]
        exact Nat.le_trans (List.length_filter_le _ _) (by omega)
      have ho4 := sm _ _ ho3
      have hl4 := sm _ _ hl3
      refine ⟨_, rfl, _, rfl, (by show 2 ≤ sizeLine; decide), fun T1 nT1 => ?_⟩
      refine go_new nT1 fun H5 e5 s5 => ?_
      refine ⟨(by show 1 ≤ sizeLine; decide), fun L1 nL1 => ?_⟩
      have s6 : Same H5 (upd H5 L1 (.lst [.ref T1])) := new_ne nL1
      have hD6 := s6 _ _ (s5 _ _ hD')
      refine ⟨_, rfl, L1, D, _, _, rfl, rfl, upd_same, hD6, by rw [List.length_map, CG.sl]; show 1 + _ ≤ _; omega, fun L2 nL2 => ?_⟩
      have s7 : Same (upd H5 L1 (.lst [.ref T1])) (upd (upd H5 L1 (.lst [.ref T1])) L2 (.lst ([.ref T1] ++ qs.map V.ref))) := new_ne nL2
      have s47 := (s5.trans s6).trans s7
      have ho7 := s47 _ _ ho4
      refine ⟨_, rfl, _, _, _, _, _, rfl, ho7, T.k6.cl, T.k6.n_j40, lk_q93, _, rfl, L2, _, rfl, SqL.of upd_same, fun L3 nL3 => ?_⟩
      have s8 : Same (upd (upd H5 L1 (.lst [.ref T1])) L2 (.lst ([.ref T1] ++ qs.map V.ref))) (upd (upd (upd H5 L1 (.lst [.ref T1])) L2 (.lst ([.ref T1] ++ qs.map V.ref))) L3 (.lst (cutV ([.ref T1] ++ qs.map V.ref) none (some (g.tways : Int))))) := new_ne nL3
      have s48 := s47.trans s8
      have ho8 := s48 _ _ ho4
      have hl8 := s48 _ _ hl4
      refine ⟨_, rfl, _, _, _, _, _, rfl, ho8, T.k6.cl, T.k6.n_j31, lk_q92, _, rfl, l, _, _, k, rfl, rfl, hl8, ?_, ?_⟩
      · rw [eat]; exact ix_nat (by rw [List.length_map]; exact hk)
      have nT : H T1 = none := none_but fr3 (sm.free nT1) (fun z => by rw [z, ho4] at nT1; cases nT1)
      have nL : H L3 = none := none_but fr3 (sm.free (s47.free nL3)) (fun z => by rw [z, ho7] at nL3; cases nL3)
      have e3 := upd_same (H := upd (upd H5 L1 (.lst [.ref T1])) L2 (.lst ([.ref T1] ++ qs.map V.ref))) (a := L3) (o := .lst (cutV ([.ref T1] ++ qs.map V.ref) none (some (g.tways : Int))))
      rw [cut_takeT] at e3 s48 s8 ho8 hl8 ⊢
      have e3' : _ = some (HO.lst (((T1 :: qs).take g.tways).map V.ref)) := e3.trans (by rw [List.map_take]; rfl)
      have hP : PairsAt _ (T1 :: qs) ((⟨p, to⟩ :: x.filter fun z => z.place != p : List Sd39.Target).map pair) := ⟨s8 _ _ (s7 _ _ (s6 _ _ e5)), hq.keep fun d hd o e => s48 _ _ e⟩
      obtain ⟨r1, r2⟩ := jump_end (lab := lab) (ts := b.targets) (k := k) (x := x) ho8 hl8 (fun d o e n => s48 _ _ (sm _ _ (fr3 _ _ e n))) la ll hn hs hc hx tot e3' nL nT (s8 _ _ (s7 _ _ (s6 _ _ e5))) ho hP hsub lps
      refine q _ _ ?_ r2
      have ej : (Sd39.jumped g b p to).targets = b.targets.set k ((⟨p, to⟩ :: x.filter fun z => z.place != p : List Sd39.Target).take g.tways) := by
        unfold Sd39.jumped Sd39.keep
        dsimp only
        rw [ek, changed_eq hx]
      rw [ej]
      exact r1
def RtAt (t : Cs) (H : Hp) (a l : Addr) (most : Nat) (st : List Nat) (n lost : Nat) : Prop := (∃ dx, H a = some (.ins t.k7 dx (fl_k7 (.ref l) (nv most) (nv n) (nv lost)))) ∧ H l = some (.lst (st.map nv))
def spRtInit (t : Cs) : Sp := fun vs H Q _ => ∃ (p : Addr) (most : Nat), vs = [.ref p, nv most] ∧ Fresh H p t.k7 ∧ ∀ (H' : Hp) (l : Addr), RtAt t H' p l most [] 0 0 → H l = none → But H H' [p] → Q .non H'
def spKeep (t : Cs) : Sp := fun vs H Q _ => ∃ (a l : Addr) (most : Nat) (st : List Nat) (n lost x : Nat), vs = [.ref a, nv x] ∧ RtAt t H a l most st n lost ∧ st.length ≤ 64 ∧ ∀ (H' : Hp) (l' : Addr), RtAt t H' a l' most ((x :: st).take most) n lost → H l' = none → But H H' [a] → Q .non H'
def spRet (t : Cs) : Sp := fun vs H Q _ => ∃ (a l : Addr) (most : Nat) (st : List Nat) (n lost to : Nat), vs = [.ref a, nv to] ∧ RtAt t H a l most st n lost ∧ ∀ (H' : Hp) (l' : Addr), RtAt t H' a l' most (st.drop 1) (n + 1) (lost + if st.head? = some to then 0 else 1) → H l' = none → But H H' [a] → Q .non H'
theorem ok_q86 (T : Txt K mg t) (F : Fun K "__init__" "Returns.__init__" s_q86 f fd) : FnOk P w K mg base CX0 1 f fd ["self", "most"] (spRtInit t) := by
  refine F.ok sc_q86 (fun vs H Q E h => ?_) (fun cdv A outer s H vs Q E hr h => ?_)
  · obtain ⟨p, most, rfl, _⟩ := h
    rfl
  · obtain ⟨p, most, rfl, ⟨dx, hp⟩, q⟩ := h
    refine ⟨_, (pss_cons (ps_fld (pv 0) (pe_lst pa_nil) rfl)
      (pss_cons (ps_fld (pv 0) (pv 1) rfl)
      (pss_cons (ps_fld (pv 0) pe_int rfl)
      (pss_one (ps_fld (pv 0) pe_int rfl))))), ?_⟩
    refine ⟨Nat.zero_le _, fun l nl => ?_⟩
    have m0 : Mid H p t.k7 dx [] (upd H l (.lst [])) := (Mid.start hp).new (new_ne nl)
    have nlp : l ≠ p := (ne_of_none hp nl).symm
    refine ⟨_, rfl, _, _, _, _, rfl, m0.at_, T.k7.cl, T.k7.n_j15, (by show 0 < 1000; decide), ?_⟩
    refine m0.go fun H2 m2 k2 => ?_
    have h2 := k2 _ _ upd_same (nin nlp)
    refine ⟨_, rfl, _, rfl, _, _, _, _, rfl, m2.at_, T.k7.cl, T.k7.n_j22, (by show 1 < 1000; decide), ?_⟩
    refine m2.go fun H3 m3 k3 => ?_
    refine ⟨_, rfl, _, _, _, _, rfl, m3.at_, T.k7.cl, T.k7.n_j30, (by show 2 < 1000; decide), ?_⟩
    refine m3.go fun H4 m4 k4 => ?_
    refine ⟨_, rfl, _, _, _, _, rfl, m4.at_, T.k7.cl, T.k7.n_j19, (by show 3 < 1000; decide), ?_⟩
    refine m4.go fun H5 m5 k5 => ?_
    exact q H5 l ⟨⟨dx, m5.at_⟩, k5 _ _ (k4 _ _ (k3 _ _ h2 (nin nlp)) (nin nlp)) (nin nlp)⟩ nl m5.but
theorem ok_q87 (T : Txt K mg t) (F : Fun K "keep" "Returns.keep" s_q87 f fd) : FnOk P w K mg base CX0 1 f fd ["self", "address"] (spKeep t) := by
  refine F.ok sc_q87 (fun vs H Q E h => ?_) (fun cdv A outer s H vs Q E hr h => ?_)
  · obtain ⟨a, l, most, st, n, lost, x, rfl, _⟩ := h
    rfl
  · obtain ⟨a, l, most, st, n, lost, x, rfl, ⟨⟨dx, ho⟩, hl⟩, h64, q⟩ := h
    refine ⟨_, (pss_one (ps_fld (pv 0) (pe_slice sl_list (pe_op op_cat (pe_lst (pa_cons (pv 1) pa_nil)) (pe_fld (pv 0) rfl)) po_none (po_some (pe_fld (pv 0) rfl))) rfl)), ?_⟩
    refine ⟨_, rfl, (by show 1 ≤ sizeLine; decide), fun L1 n1 => ?_⟩
    have s1 : Same H (upd H L1 (.lst [nv x])) := new_ne n1
    have ho1 := s1 _ _ ho
    have hl1 := s1 _ _ hl
    refine ⟨_, rfl, _, _, _, _, _, rfl, ho1, T.k7.cl, T.k7.n_j15, lk_q88, L1, l, _, _, rfl, rfl, upd_same, hl1, by rw [List.length_map, CG.sl]; show 1 + _ ≤ _; omega, fun L2 n2 => ?_⟩
    have s2 := s1.trans (new_ne (o := .lst ([nv x] ++ st.map nv)) n2)
    have ho2 := s2 _ _ ho
    refine ⟨_, rfl, _, _, _, _, _, rfl, ho2, T.k7.cl, T.k7.n_j22, lk_q90, _, rfl, L2, _, rfl, SqL.of upd_same, fun L3 n3 => ?_⟩
    have s3 := s2.trans (new_ne (o := .lst (cutV ([nv x] ++ st.map nv) none (some (most : Int)))) n3)
    have ho3 := s3 _ _ ho
    refine ⟨_, rfl, _, _, _, _, rfl, ho3, T.k7.cl, T.k7.n_j15, (by show 4 < 1000; decide), ?_⟩
    have n3a : L3 ≠ a := (ne_of_none ho2 n3).symm
    refine q _ L3 ⟨⟨dx, upd_same⟩, ?_⟩ (s2.free n3) (fun d o e nn => by rw [upd_ne (fun z => nn (by simp [z]))]; exact s3 _ _ e)
    rw [upd_ne n3a, upd_same, cut_takeT, List.map_take]
    rfl
end
end CG
namespace CG
open PySem PySem.Spec PyProof.Rows L2
section
variable {P : Program} {w : World} {K : W.Frag} {mg : Str → Option Value} {base : Heap} {t : Cs} {f : Addr} {fd : FuncData}
theorem ok_q9 (T : Txt K mg t) (F : Fun K "follow_return" "Returns.follow_return" s_q9 f fd) : FnOk P w K mg base CX0 1 f fd ["self", "to"] (spRet t) := by
  refine F.ok sc_q9 (fun vs H Q E h => ?_) (fun cdv A outer s H vs Q E hr h => ?_)
  · obtain ⟨a, l, most, st, n, lost, to, rfl, _⟩ := h
    rfl
  · obtain ⟨a, l, most, st, n, lost, to, rfl, ⟨⟨dx, ho⟩, hl⟩, q⟩ := h
    refine ⟨_, (pss_cons (ps_fldaug (pv 0) pe_int in_add)
      (pss_cons (ps_if (pt_cmpR (op_neD hr.units) (pe_slice sl_list (pe_fld (pv 0) rfl) po_none (po_some pe_int)) (pe_lst (pa_cons (pv 1) pa_nil)) (nomark _))
      (pss_one (ps_fldaug (pv 0) pe_int in_add))
      pss_nil)
      (pss_one (ps_fld (pv 0) (pe_slice sl_list (pe_fld (pv 0) rfl) (po_some pe_int) po_none) rfl)))), ?_⟩
    have nla : l ≠ a := ne_of hl ho (by intro z; cases z)
    refine ⟨_, rfl, _, _, _, _, _, rfl, ho, T.k7.cl, T.k7.n_j30, lk_q51, _, _, rfl, rfl, _, _, ho, (by show 4 < 1000; decide), ?_⟩
    refine go_put fun H1 e1 k1 => ?_
    have ho1 : H1 a = some (.ins t.k7 dx (fl_k7 (.ref l) (nv most) (nv (n + 1)) (nv lost))) := e1
    have hl1 := k1 _ _ hl (nin nla)
    refine ⟨_, rfl, _, _, _, _, _, rfl, ho1, T.k7.cl, T.k7.n_j15, lk_q88, _, rfl, l, _, rfl, SqL.of hl1, fun L1 n1 => ?_⟩
    have e1c : cutV (st.map nv) none (some 1) = (st.take 1).map nv := by rw [List.map_take]; exact cut_takeT _ 1
    rw [e1c]
    have s1 : Same H1 (upd H1 L1 (.lst ((st.take 1).map nv))) := new_ne n1
    refine ⟨_, rfl, (by show 1 ≤ sizeLine; decide), fun L2 n2 => ?_⟩
    have s2 : Same (upd H1 L1 (.lst ((st.take 1).map nv))) (upd (upd H1 L1 (.lst ((st.take 1).map nv))) L2 (.lst [nv to])) := new_ne n2
    have ho2 := s2 _ _ (s1 _ _ ho1)
    have tail : ∀ (H3 : Hp) (lo : Nat), H3 a = some (.ins t.k7 dx (fl_k7 (.ref l) (nv most) (nv (n + 1)) (nv lo))) → But (upd (upd H1 L1 (.lst ((st.take 1).map nv))) L2 (.lst [nv to])) H3 [a] → lo = (lost + if st.head? = some to then 0 else 1) → ∀ L3, H3 L3 = none → Q .non (upd (upd H3 L3 (.lst ((st.drop 1).map nv))) a (.ins t.k7 dx (fl_k7 (.ref L3) (nv most) (nv (n + 1)) (nv lo)))) := fun H3 lo h3 k3 elo L3 n3 => by
      subst elo
      have kk : But H H3 [a] := fun d o e nn => k3 _ _ (s2 _ _ (s1 _ _ (k1 _ _ e nn))) nn
      have n3a : L3 ≠ a := (ne_of_none h3 n3).symm
      refine q _ L3 ⟨⟨dx, upd_same⟩, by rw [upd_ne n3a, upd_same]⟩ (none_but kk n3 n3a) fun d o e nn => ?_
      rw [upd_ne (fun z => nn (by simp [z]))]
      exact new_ne n3 _ _ (kk _ _ e nn)
    have e2c : cutV (st.map nv) (some 1) none = (st.drop 1).map nv := by rw [List.map_drop]; exact cut_dropT _ 1
    have hl2 := s2 _ _ (s1 _ _ hl1)
    have ed : ∃ d, Dp K (upd (upd H1 L1 (.lst ((st.take 1).map nv))) L2 (.lst [nv to])) (.ref L1) d ∧ SeqAt.shaped d = true ∧ PyData.eqv d (.list [.int (to : Int)]) = decide (st.head? = some to) := by
      have hL1 := s2 _ _ (upd_same (H := H1) (a := L1) (o := .lst ((st.take 1).map nv)))
      cases st with
      | nil => exact ⟨.list [], .lst (SqL.of hL1) .nil, rfl, rfl⟩
      | cons x r =>
        refine ⟨.list [.int (x : Int)], .lst (SqL.of hL1) (.cons (.int _) .nil), rfl, ?_⟩
        show (((x : Int) == (to : Int)) && true) = _
        rw [Bool.and_true, Bool.eq_iff_iff]
        simp
        omega
    obtain ⟨d, hd, hsh, hev⟩ := ed
    refine ⟨d, .list [.int (to : Int)], hd, .lst (SqL.of upd_same) (.cons (.int _) .nil), hsh, rfl, _, rfl, ?_⟩
    rw [hev]
    refine cut (fun H3 => H3 a = some (.ins t.k7 dx (fl_k7 (.ref l) (nv most) (nv (n + 1)) (nv (lost + if st.head? = some to then 0 else 1)))) ∧ But (upd (upd H1 L1 (.lst ((st.take 1).map nv))) L2 (.lst [nv to])) H3 [a]) ?_ (fun z rest => ?_) (fun z => ?_)
    rotate_left
    · have z' : ¬ st.head? = some to := by simpa using z
      rw [if_neg z'] at rest
      exact ⟨_, rfl, _, _, _, _, _, rfl, ho2, T.k7.cl, T.k7.n_j19, lk_q89, _, _, rfl, rfl, _, _, ho2, (by show 4 < 1000; decide), rest _ ⟨upd_same, But.refl.put (by simp)⟩⟩
    · have z' : st.head? = some to := by simpa using z
      rw [if_pos z']
      exact ⟨ho2, But.refl⟩
    rintro H3 ⟨h3, k3⟩
    have hl3 := k3 _ _ hl2 (nin nla)
    refine ⟨_, rfl, _, _, _, _, _, rfl, h3, T.k7.cl, T.k7.n_j15, lk_q88, _, rfl, l, _, rfl, SqL.of hl3, fun L3 n3 => ?_⟩
    rw [e2c]
    have h3' := new_ne (o := .lst ((st.drop 1).map nv)) n3 _ _ h3
    exact ⟨_, rfl, _, _, _, _, rfl, h3', T.k7.cl, T.k7.n_j15, (by show 4 < 1000; decide), tail H3 _ h3 k3 rfl L3 n3⟩
end
end CG
namespace CG
open PySem PySem.Spec PyProof.Rows L2
theorem lc_rangeC {lo c : Int} {n : Nat} {g : TG} {tt : TT} {te : TE} {vs : List Nat} {σ : L2.St} {H1 : Hp} {D : Addr} {Qd : Hp → Prop} (Pv : Nat → Hp → Prop) (h0 : Pv 0 (upd H1 D (.lst [])))
    (hs : ∀ i H, i < n → Pv i H → g (.int (lo + (i : Nat) * c)) (wipe σ vs) H fun σ2 H2 => wipe σ2 vs = wipe σ vs ∧ tt σ2 H2 fun b H3 =>
      if b = true then te σ2 H3 fun y H4 => ∃ acc, H4 D = some (.lst acc) ∧ acc.length < sizeLine ∧ Pv (i + 1) (upd H4 D (.lst (acc ++ [y]))) else Pv (i + 1) H3) (hd : ∀ H, Pv n H → Qd H) :
    ∃ W : Nat → Nat → Hp → Prop, (∃ m, W 0 m (upd H1 D (.lst []))) ∧ ∀ i m H, W i m H →
      ((Itc lo c n).stop i H ∧ Qd H) ∨ ((Itc lo c n).go i H ∧ ∃ Nx : Hp → Prop, (∀ H', Nx H' → ∃ m', m' < m ∧ W (i + 1) m' H') ∧ ∀ x H', (Itc lo c n).yld i H x H' → g x (wipe σ vs) H' fun σ2 H2 => wipe σ2 vs = wipe σ vs ∧ tt σ2 H2 fun b H3 =>
        if b = true then te σ2 H3 fun y H4 => ∃ acc, H4 D = some (.lst acc) ∧ acc.length < sizeLine ∧ Nx (upd H4 D (.lst (acc ++ [y]))) else Nx H3) := by
  refine ⟨fun i m H => m = n - i ∧ i ≤ n ∧ Pv i H, ⟨n, by simp, Nat.zero_le _, h0⟩, ?_⟩
  rintro i m H ⟨rfl, hi, p⟩
  by_cases hlt : i < n
  · refine .inr ⟨hlt, Pv (i + 1), fun H' p' => ⟨n - (i + 1), by omega, rfl, hlt, p'⟩, fun x H' y => ?_⟩
    obtain ⟨e, y⟩ := y
    subst e y
    exact hs i _ hlt p
  · have e : i = n := by omega
    subst e
    exact .inl ⟨Nat.le_refl _, hd H p⟩
theorem for_enum {K : W.Frag} {a : Addr} {xs : List V} {g : TG} {tb : TS} {D : Ends} {σ : L2.St} {H : Hp} (Pv : Nat → L2.St → Hp → Prop) (h0 : Pv 0 σ H) (hl : ∀ i σ H, i ≤ xs.length → Pv i σ H → SqL K H a xs)
    (hs : ∀ i x T σ H, xs[i]? = some x → H T = none → Pv i σ H → g (.ref T) σ (upd H T (.tup [.int (i : Nat), x])) fun σ2 H2 => tb { D with nx := Pv (i + 1), ct := Pv (i + 1), bk := D.nx } σ2 H2) (hd : ∀ σ H, Pv xs.length σ H → D.nx σ H) :
    ∃ W : Nat → Nat → L2.St → Hp → Prop, (∃ m, W 0 m σ H) ∧ ∀ i m σ H, W i m σ H →
      ((Ite K a).stop i H ∧ D.nx σ H) ∨ ((Ite K a).go i H ∧ ∃ N : L2.St → Hp → Prop, (∀ σ' H', N σ' H' → ∃ m', m' < m ∧ W (i + 1) m' σ' H') ∧ ∀ x H', (Ite K a).yld i H x H' → g x σ H' fun σ2 H2 => tb { D with nx := N, ct := N, bk := D.nx } σ2 H2) := by
  refine ⟨fun i m σ H => m = xs.length - i ∧ i ≤ xs.length ∧ Pv i σ H, ⟨xs.length, by simp, Nat.zero_le _, h0⟩, ?_⟩
  rintro i m σ H ⟨rfl, hi, p⟩
  have q := hl i σ H hi p
  by_cases hlt : i < xs.length
  · refine .inr ⟨⟨xs, xs[i], q, by simp [hlt]⟩, Pv (i + 1), fun σ' H' p' => ⟨xs.length - (i + 1), by omega, rfl, hlt, p'⟩, fun v H' z => ?_⟩
    obtain ⟨T, x, rfl, hT, rfl, e1⟩ := z
    exact hs i x T σ H (e1 xs q) hT p
  · have e : i = xs.length := by omega
    subst e
    exact .inl ⟨⟨xs, q, Nat.le_refl _⟩, hd σ H p⟩
theorem fits {i : Int} (h1 : -(2 ^ 63) ≤ i) (h2 : i < 2 ^ 63) : Builtin.Range.rangeFitsLong i = true := by
  unfold Builtin.Range.rangeFitsLong
  rw [decide_eq_true h1, decide_eq_true h2]
  rfl
theorem rgc5 {k : Nat} (h : k ≤ 16000) : RgC 0 ((5 * k : Nat) : Int) 5 k := by
  have e : Builtin.Range.rangeSize 0 ((5 * k : Nat) : Int) 5 = (k : Int) := by
    unfold Builtin.Range.rangeSize
    rw [if_pos (by decide)]
    split <;> omega
  refine ⟨by decide, by decide, ?_, e⟩
  unfold Builtin.Range.small
  rw [e, fits (i := 0) (by decide) (by decide), fits (i := ((5 * k : Nat) : Int)) (by omega) (by omega), fits (i := 5) (by decide) (by decide), fits (i := (k : Int)) (by omega) (by omega), if_pos (by decide), fits (by omega) (by omega), Bool.or_true]
  rfl
def rl (r : Sd39.Rec) : List Nat := [r.address, r.to, r.size, r.kind, r.taken]
def RecAt (t : Cs) (H : Hp) (a : Addr) (r : Sd39.Rec) : Prop := ∃ dx, H a = some (.ins t.k8 dx (fl_k8 (nv r.address) (nv r.to) (nv r.size) (nv r.kind) (nv r.taken)))
structure RecsAt (t : Cs) (H : Hp) (q : Addr) (as : List Addr) (rs : List Sd39.Rec) : Prop where
  l : H q = some (.lst (as.map V.ref))
  n : as.length = rs.length
  e : ∀ (j : Nat) (a : Addr) (r : Sd39.Rec), as[j]? = some a → rs[j]? = some r → RecAt t H a r
theorem RecAt.same {t : Cs} {H H' : Hp} {a : Addr} {r : Sd39.Rec} (h : RecAt t H a r) (s : ∀ o, H a = some o → H' a = some o) : RecAt t H' a r := by
  obtain ⟨dx, e⟩ := h; exact ⟨dx, s _ e⟩
theorem recs_get : ∀ (k : Nat) (ns : List Nat), ns.length = 5 * k → (Sd39Neutral.recs ns).length = k ∧ ∀ i, i < k → ∃ r, (Sd39Neutral.recs ns)[i]? = some r ∧ (ns.drop (5 * i)).take 5 = rl r
  | 0, ns, h => by
    have : ns = [] := List.length_eq_zero_iff.mp (by omega)
    subst this
    exact ⟨rfl, fun i hi => absurd hi (Nat.not_lt_zero _)⟩
  | k + 1, a :: b :: c :: d :: e :: r, h => by
    obtain ⟨h1, h2⟩ := recs_get k r (by simp at h; omega)
    refine ⟨by show (_ :: Sd39Neutral.recs r).length = _; rw [List.length_cons, h1], fun i hi => ?_⟩
    cases i with
    | zero => exact ⟨_, rfl, rfl⟩
    | succ i =>
      obtain ⟨q, e1, e2⟩ := h2 i (by omega)
      refine ⟨q, e1, ?_⟩
      rw [← e2, show 5 * (i + 1) = 5 + 5 * i by omega, ← List.drop_drop]
      rfl
  | k + 1, [], h => by simp at h
  | k + 1, [_], h => by simp at h; omega
  | k + 1, [_, _], h => by simp at h; omega
  | k + 1, [_, _, _], h => by simp at h; omega
  | k + 1, [_, _, _, _], h => by simp at h; omega
def spRecInit (t : Cs) : Sp := fun vs H Q _ => ∃ (p l : Addr) (r : Sd39.Rec), vs = [.ref p, .ref l] ∧ Fresh H p t.k8 ∧ H l = some (.lst ((rl r).map nv)) ∧ ∀ H', RecAt t H' p r → But H H' [p] → Q .non H'
def spRight (t : Cs) : Sp := fun vs H Q _ => ∃ (a : Addr) (r : Sd39.Rec), vs = [.ref a] ∧ RecAt t H a r ∧ Q (.bl r.right) H
def spRecs (t : Cs) : Sp := fun vs H Q _ => ∃ (l : Addr) (ns : List Nat) (k : Nat), vs = [.ref l] ∧ H l = some (.lst (ns.map nv)) ∧ ns.length = 5 * k ∧ k ≤ 16000 ∧
  ∀ (H' : Hp) (q : Addr) (as : List Addr), RecsAt t H' q as (Sd39Neutral.recs ns) → H q = none → (∀ a ∈ as, H a = none) → Same H H' → Q (.ref q) H'
def firstV (rs : List Sd39.Rec) : V := match Sd39.firstWrong rs with
  | some k => nv k
  | none => .non
def spFirst (t : Cs) : Sp := fun vs H Q _ => ∃ (q : Addr) (as : List Addr) (rs : List Sd39.Rec), vs = [.ref q] ∧ RecsAt t H q as rs ∧ ∀ H', Same H H' → Q (firstV rs) H'
theorem wrong_step {rs : List Sd39.Rec} {i : Nat} {r : Sd39.Rec} (hi : rs[i]? = some r) (h : ∀ (j : Nat) (r : Sd39.Rec), j < i → rs[j]? = some r → r.right = true) (hr : r.right = false) : Sd39.firstWrong rs = some i := by
  obtain ⟨hl, he⟩ := List.getElem?_eq_some_iff.mp hi
  unfold Sd39.firstWrong
  rw [List.findIdx?_eq_some_iff_getElem]
  refine ⟨hl, by rw [he, hr]; rfl, fun j hj => ?_⟩
  rw [h j _ hj (List.getElem?_eq_getElem (by omega))]
  decide
theorem wrong_none {rs : List Sd39.Rec} (h : ∀ (j : Nat) (r : Sd39.Rec), rs[j]? = some r → r.right = true) : Sd39.firstWrong rs = none := by
  unfold Sd39.firstWrong
  rw [List.findIdx?_eq_none_iff]
  intro r hr
  obtain ⟨j, hj⟩ := List.getElem?_of_mem hr
  rw [h j r hj]; rfl
section
variable {P : Program} {w : World} {K : W.Frag} {mg : Str → Option Value} {base : Heap} {t : Cs} {f : Addr} {fd : FuncData}
theorem ok_q99 (T : Txt K mg t) (F : Fun K "__init__" "Record.__init__" s_q99 f fd) : FnOk P w K mg base CX0 1 f fd ["self", "numbers"] (spRecInit t) := by
  refine F.ok sc_q99 (fun vs H Q E h => ?_) (fun cdv A outer s H vs Q E hr h => ?_)
  · obtain ⟨p, l, r, rfl, _⟩ := h
    rfl
  · obtain ⟨p, l, r, rfl, ⟨dx, hp⟩, hl, q⟩ := h
    have ps : l ∉ [p] := nin (ne_of hl hp (by intro z; cases z))
    refine ⟨_, (pss_cons (ps_fld (pv 0) (pe_ix ix_list (pv 1) pe_int (fun _ _ => rfl)) rfl)
      (pss_cons (ps_fld (pv 0) (pe_ix ix_list (pv 1) pe_int (fun _ _ => rfl)) rfl)
      (pss_cons (ps_fld (pv 0) (pe_ix ix_list (pv 1) pe_int (fun _ _ => rfl)) rfl)
      (pss_cons (ps_fld (pv 0) (pe_ix ix_list (pv 1) pe_int (fun _ _ => rfl)) rfl)
      (pss_one (ps_fld (pv 0) (pe_ix ix_list (pv 1) pe_int (fun _ _ => rfl)) rfl)))))), ?_⟩
    have m0 : Mid H p t.k8 dx [] H := Mid.start hp
    refine ⟨_, rfl, l, _, _, nv r.address, rfl, rfl, SqL.of hl, at_nat (j := 0) rfl rfl, _, rfl, _, _, _, _, rfl, m0.at_, T.k8.cl, T.k8.n_j0, (by show 0 < 1000; decide), ?_⟩
    refine m0.go fun H2 m2 k2 => ?_
    refine ⟨_, rfl, l, _, _, nv r.to, rfl, rfl, SqL.of (m2.but.at hl ps), at_nat (j := 1) rfl rfl, _, rfl, _, _, _, _, rfl, m2.at_, T.k8.cl, T.k8.n_j36, (by show 1 < 1000; decide), ?_⟩
    refine m2.go fun H3 m3 k3 => ?_
    refine ⟨_, rfl, l, _, _, nv r.size, rfl, rfl, SqL.of (m3.but.at hl ps), at_nat (j := 2) rfl rfl, _, rfl, _, _, _, _, rfl, m3.at_, T.k8.cl, T.k8.n_j32, (by show 2 < 1000; decide), ?_⟩
    refine m3.go fun H4 m4 k4 => ?_
    refine ⟨_, rfl, l, _, _, nv r.kind, rfl, rfl, SqL.of (m4.but.at hl ps), at_nat (j := 3) rfl rfl, _, rfl, _, _, _, _, rfl, m4.at_, T.k8.cl, T.k8.n_j16, (by show 3 < 1000; decide), ?_⟩
    refine m4.go fun H5 m5 k5 => ?_
    refine ⟨_, rfl, l, _, _, nv r.taken, rfl, rfl, SqL.of (m5.but.at hl ps), at_nat (j := 4) rfl rfl, _, rfl, _, _, _, _, rfl, m5.at_, T.k8.cl, T.k8.n_j34, (by show 4 < 1000; decide), ?_⟩
    refine m5.go fun H6 m6 k6 => ?_
    exact q H6 ⟨dx, m6.at_⟩ m6.but
theorem ok_q84 (T : Txt K mg t) (F : Fun K "right" "Record.right" s_q84 f fd) : FnOk P w K mg base CX0 1 f fd ["self"] (spRight t) := by
  refine F.ok sc_q84 (fun vs H Q E h => ?_) (fun cdv A outer s H vs Q E hr h => ?_)
  · obtain ⟨a, r, rfl, _⟩ := h
    rfl
  · obtain ⟨a, r, rfl, ⟨dx, ho⟩, q⟩ := h
    refine ⟨_, (pss_cons (ps_if (pw_or (pt_cmpR op_gt (pe_fld (pv 0) rfl) (pgl T.c_RETURN) (nomark _)) (pw_or1 (pt_cmpR op_gt (pe_fld (pv 0) rfl) pe_int (nomark _)))).pt
      (pss_one (ps_ret pe_bl))
      pss_nil)
      (pss_cons (ps_if (pw_or (pt_cmpR op_lt (pe_fld (pv 0) rfl) pe_int (nomark _)) (pw_or1 (pt_cmpR op_gt (pe_fld (pv 0) rfl) (pgl T.c_MOST_SIZE) (nomark _)))).pt
      (pss_one (ps_ret pe_bl))
      pss_nil)
      (pss_one (ps_ret (pe_and (pe_cmpR op_le (pe_op op_add (pe_fld (pv 0) rfl) (pe_fld (pv 0) rfl)) (pgl T.c_ADDRESS_END) (nomark _)) (pe_one (pe_cmpR op_lt (pe_fld (pv 0) rfl) (pgl T.c_ADDRESS_END) (nomark _)))))))), ?_⟩
    have er : r.right = (decide (r.kind ≤ 6) && (decide (r.taken ≤ 1) && (decide (1 ≤ r.size) && (decide (r.size ≤ 4096) && (decide (r.address + r.size ≤ 2 ^ 48) && decide (r.to < 2 ^ 48)))))) := rfl
    have no : ¬ r.right = true → Q (.bl false) H := fun e => by
      have : r.right = false := by cases h : r.right with | true => exact absurd h e | false => rfl
      rw [this] at q; exact q
    have rt : r.right = true ↔ r.kind ≤ 6 ∧ r.taken ≤ 1 ∧ 1 ≤ r.size ∧ r.size ≤ 4096 ∧ r.address + r.size ≤ 2 ^ 48 ∧ r.to < 2 ^ 48 := by
      rw [er]; simp only [Bool.and_eq_true, decide_eq_true_eq]
    refine ⟨_, rfl, _, _, _, _, _, rfl, ho, T.k8.cl, T.k8.n_j16, lk_q100, _, _, rfl, rfl, _, rfl, ?_⟩
    refine ite2 (fun z => iteT (no fun y => ?_)) (fun z => ?_)
    · have z := of_decide_eq_true z
      have := (rt.mp y).1
      omega
    have z1 : r.kind ≤ 6 := by
      have : ¬ ((6 : Int) < (r.kind : Int)) := fun y => z (decide_eq_true y)
      omega
    refine ⟨_, rfl, _, _, _, _, _, rfl, ho, T.k8.cl, T.k8.n_j34, lk_q85, _, _, rfl, rfl, _, rfl, ?_⟩
    refine ite2 (fun z => no fun y => ?_) (fun z => ?_)
    · have z := of_decide_eq_true z
      have := (rt.mp y).2.1
      omega
    have z2 : r.taken ≤ 1 := by
      have : ¬ ((1 : Int) < (r.taken : Int)) := fun y => z (decide_eq_true y)
      omega
    refine ⟨_, rfl, _, _, _, _, _, rfl, ho, T.k8.cl, T.k8.n_j32, lk_q101, _, _, rfl, rfl, _, rfl, ?_⟩
    refine ite2 (fun z => iteT (no fun y => ?_)) (fun z => ?_)
    · have z := of_decide_eq_true z
      have := (rt.mp y).2.2.1
      omega
    have z3 : 1 ≤ r.size := by
      have : ¬ ((r.size : Int) < (1 : Int)) := fun y => z (decide_eq_true y)
      omega
    refine ⟨_, rfl, _, _, _, _, _, rfl, ho, T.k8.cl, T.k8.n_j32, lk_q101, _, _, rfl, rfl, _, rfl, ?_⟩
    refine ite2 (fun z => no fun y => ?_) (fun z => ?_)
    · have z := of_decide_eq_true z
      have := (rt.mp y).2.2.2.1
      omega
    have z4 : r.size ≤ 4096 := by
      have : ¬ ((4096 : Int) < (r.size : Int)) := fun y => z (decide_eq_true y)
      omega
    refine ⟨_, rfl, _, _, _, _, _, rfl, ho, T.k8.cl, T.k8.n_j0, lk_q62, _, rfl, _, _, _, _, _, rfl, ho, T.k8.cl, T.k8.n_j32, lk_q101, _, _, rfl, rfl, _, _, rfl, rfl, _, rfl, ?_⟩
    refine ite2 (fun z => ?_) (fun z => no fun y => ?_)
    · have z5 := of_decide_eq_true z
      have z5 : (r.address : Int) + (r.size : Int) ≤ 281474976710656 := z5
      refine ⟨_, rfl, _, _, _, _, _, rfl, ho, T.k8.cl, T.k8.n_j36, lk_q108, _, _, rfl, rfl, ?_⟩
      have e : r.right = decide ((r.to : Int) < 281474976710656) := by
        rw [Bool.eq_iff_iff, rt, decide_eq_true_eq]
        exact ⟨fun y => by have := y.2.2.2.2.2; omega, fun y => ⟨z1, z2, z3, z4, by omega, by omega⟩⟩
      rw [e] at q
      exact q
    · have := (rt.mp y).2.2.2.2.1
      exact z (decide_eq_true (show (r.address : Int) + (r.size : Int) ≤ 281474976710656 by omega))
theorem ok_q107 (T : Txt K mg t) (F : Fun K "records_of" "records_of" s_q107 f fd) : FnOk P w K mg base CX0 3 f fd ["numbers"] (spRecs t) := by
  obtain ⟨f_q99, fd_q99, F_q99, b_q99, M_q99⟩ := T.k8.init
  have G_q99 := ok_q99 (P := P) (w := w) (base := base) T F_q99
  refine F.ok sc_q107 (fun vs H Q E h => ?_) (fun cdv A outer s H vs Q E hr h => ?_)
  · obtain ⟨l, ns, k, rfl, _⟩ := h
    rfl
  · obtain ⟨l, ns, k, rfl, hl, hn, hk, q⟩ := h
    refine ⟨_, (pss_cons (ps_set (i := 1) sc_q107.nd rfl (Or.inr rfl) (pgl T.c_NUMBERS_OF_A_RECORD))
      (pss_one (ps_ret (pe_lc (own := [("at", 2)]) rfl sc_q107.nd (pi_range3 rfl T.b_range (pa_cons pe_int (pa_cons (pe_callB call_len_seq rfl T.b_len PySem.boot_len (pa_cons (pv 0) pa_nil)) (pa_cons (pv 1) pa_nil)))) (blkOk_by (by rfl)) (fun _ _ _ _ _ => pg_name (i := 2) sc_q107.nd rfl (Or.inl rfl)) (fun _ _ _ _ _ => pts_nil) (fun _ _ _ _ _ => (pe_make M_q99 G_q99 (hr.mono (by omega)) rfl T.k8.mgC b_q99 .nil pass0 (pa_cons (pe_slice (slk (K := K) rfl) (pv 0) (po_some (pv 2)) (po_some (pe_op op_add (pv 2) (pv 1)))) pa_nil))))))), ?_⟩
    obtain ⟨r1, r2⟩ := recs_get k ns hn
    have eln : ((ns.map nv).length : Int) = ((5 * k : Nat) : Int) := by rw [List.length_map, hn]
    refine ⟨_, rfl, l, _, rfl, .inl (SqL.of hl), _, rfl, 0, _, 5, k, rfl, by rw [eln]; exact rgc5 hk, fun D hD => ?_⟩
    refine lc_rangeC (lo := 0) (c := 5) (n := k) (fun i H' => ∃ as : List Addr, H' D = some (.lst (as.map V.ref)) ∧ as.length = i ∧ (∀ a ∈ as, H a = none ∧ a ≠ D) ∧ (∀ (j : Nat) (a : Addr) (r : Sd39.Rec), as[j]? = some a → (Sd39Neutral.recs ns)[j]? = some r → RecAt t H' a r) ∧ Same H H') ⟨[], upd_same, rfl, fun a ha => absurd ha (by simp), fun j a r ha => absurd ha (by simp), new_ne hD⟩ ?_ ?_
    · rintro i H' hi ⟨as, hDl, hlen, hfr, hre, sm⟩
      obtain ⟨r, hr1, hr2⟩ := r2 i hi
      refine ⟨rfl, tYes2 ?_⟩
      refine iteT ?_
      have hl' := sm _ _ hl
      refine ⟨_, rfl, _, rfl, _, rfl, _, rfl, _, rfl, _, _, rfl, rfl, _, rfl, l, _, rfl, SqL.of hl', fun L1 n1 => ?_⟩
      have ecut : cutV (ns.map nv) (some (0 + (i : Int) * 5)) (some (0 + (i : Int) * 5 + 5)) = (rl r).map nv := by
        have e1 : (0 + (i : Int) * 5) = ((5 * i : Nat) : Int) := by omega
        have e2 : (((5 * i : Nat) : Int) + 5) = ((5 * i + 5 : Nat) : Int) := by omega
        rw [e1, e2, cut_midT _ _ _ (by omega), show 5 * i + 5 - 5 * i = 5 by omega, ← List.map_drop, ← List.map_take, hr2]
      rw [ecut]
      have s1 : Same H' (upd H' L1 (.lst ((rl r).map nv))) := new_ne n1
      refine fun x dx nx nd _ => ⟨x, L1, r, rfl, ⟨_, upd_same⟩, ?_, fun H2 R2 kp => ⟨rfl, ?_⟩⟩
      · rw [upd_ne (ne_of_none upd_same nx), upd_ne (ne_of_none upd_same nd)]; exact upd_same
      have s2 : Same H' H2 := s1.trans (made nx nd kp)
      have nDx : x ≠ D := (ne_of_none (s1 _ _ hDl) nx).symm
      refine ⟨_, s2 _ _ hDl, by rw [List.length_map, hlen, CG.sl]; omega, as ++ [x], by rw [upd_same, List.map_append]; rfl, by rw [List.length_append, hlen]; rfl, fun a ha => ?_, fun j a r' ha hr' => ?_, fun b o e => by rw [upd_ne (ne_of_none e hD)]; exact s2 _ _ (sm _ _ e)⟩
      · rcases List.mem_append.mp ha with z | z
        · exact hfr a z
        · rw [List.mem_singleton.mp z]; exact ⟨sm.free (s1.free nx), nDx⟩
      · by_cases z : j < as.length
        · rw [List.getElem?_append_left z] at ha
          have hm := List.mem_of_getElem? ha
          refine (hre j a r' ha hr').same fun o e => by rw [upd_ne (hfr a hm).2]; exact s2 _ _ e
        · rw [List.getElem?_append_right (by omega)] at ha
          have z2 : j = as.length := by
            have := (List.getElem?_eq_some_iff.mp ha).1
            simp at this
            omega
          subst z2
          rw [Nat.sub_self] at ha
          have e : x = a := Option.some.inj ha
          subst e
          rw [hlen, hr1] at hr'
          cases hr'
          exact R2.same fun o e => by rw [upd_ne nDx]; exact e
    · rintro H' ⟨as, hDl, hlen, hfr, hre, sm⟩
      exact q H' D as ⟨hDl, by rw [hlen, r1], hre⟩ hD (fun a ha => (hfr a ha).1) sm
theorem ok_q103 (T : Txt K mg t) (F : Fun K "first_wrong" "first_wrong" s_q103 f fd) : FnOk P w K mg base CX0 2 f fd ["records"] (spFirst t) := by
  obtain ⟨f_q84, fd_q84, F_q84, b_q84, M_q84⟩ := T.k8.m_h26
  have G_q84 := ok_q84 (P := P) (w := w) (base := base) T F_q84
  refine F.ok sc_q103 (fun vs H Q E h => ?_) (fun cdv A outer s H vs Q E hr h => ?_)
  · obtain ⟨q, as, rs, rfl, _⟩ := h
    rfl
  · obtain ⟨q, as, rs, rfl, R, k⟩ := h
    refine ⟨_, (pss_cons (ps_for PassesOwn.never rfl (pi_enum rfl T.b_enumerate (pa_cons (pv 0) pa_nil)) (pg_tup rfl (pgs_cons (pg_name (i := 1) sc_q103.nd rfl (Or.inl rfl)) (pgs_cons (pg_name (i := 2) sc_q103.nd rfl (Or.inl rfl)) pgs_nil)))
      (pss_one (ps_if (pt_not (pt_val (pe_meth0 (pv 2) T.k8.cl M_q84 G_q84 (hr.mono (by omega)) b_q84 .nil pass0)))
      (pss_one (ps_ret (pv 1)))
      pss_nil)))
      (pss_one (ps_ret pe_non))), ?_⟩
    refine ⟨_, rfl, q, _, rfl, SqL.of R.l, ?_⟩
    refine for_enum (K := K) (a := q) (xs := as.map V.ref) (fun i σ H' => ∃ v w : Option V, σ = [some (.ref q), v, w] ∧ Same H H' ∧ ∀ (j : Nat) (r : Sd39.Rec), j < i → rs[j]? = some r → r.right = true) ⟨none, none, rfl, Same.refl H, fun j r h => absurd h (Nat.not_lt_zero _)⟩ ?_ ?_ ?_
    · rintro i σ H' _ ⟨v, w, rfl, sm, _⟩
      exact SqL.of (sm _ _ R.l)
    · rintro i y T σ H' hy nT ⟨v, w, rfl, sm, hok⟩
      rw [List.getElem?_map] at hy
      cases ea : as[i]? with
      | none => rw [ea] at hy; cases hy
      | some a =>
        rw [ea] at hy
        cases hy
        have hin : i < rs.length := by rw [← R.n]; exact (List.getElem?_eq_some_iff.mp ea).1
        have hr := List.getElem?_eq_getElem hin
        generalize rs[i] = r at hr
        have sT : Same H (upd H' T (.tup [.int (i : Nat), .ref a])) := sm.trans (new_ne nT)
        have RA := R.e i a r ea hr
        obtain ⟨dx, ho⟩ := RA.same fun o e => sT _ _ e
        refine ⟨T, _, rfl, SqT.of upd_same, rfl, _, _, rfl, _, _, rfl, rfl, ?_⟩
        refine ⟨_, rfl, _, _, _, rfl, ho, nl_q84, a, r, rfl, ⟨dx, ho⟩, _, rfl, ?_⟩
        cases e : r.right with
        | false =>
          refine iteT ⟨_, rfl, ?_⟩
          have ew := wrong_step hr hok e
          have := k _ sT
          unfold firstV at this
          rw [ew] at this
          exact this
        | true =>
          refine iteF ⟨_, _, rfl, sT, fun j r' hj hr' => ?_⟩
          by_cases z : j = i
          · subst z
            rw [hr] at hr'
            cases hr'
            exact e
          · exact hok j r' (by omega) hr'
    · rintro σ H' ⟨v, w, rfl, sm, hok⟩
      have ew := wrong_none (rs := rs) fun j r hr => hok j r (by rw [List.length_map, R.n]; exact (List.getElem?_eq_some_iff.mp hr).1) hr
      have := k _ sm
      unfold firstV at this
      rw [ew] at this
      exact this
end
end CG
namespace CG
open PySem PySem.Spec PyProof.Rows L2
section
variable {prog : Program} {w : World} {A : Around} {E : Value → Shared → Prop} {s : Shared}
theorem next_tup {I T : Addr} {n : Nat} {ys : Array Value} {y : Value} {Q : Value → Shared → Prop} (a : s.heap.IsTupleIter I T n) (b : s.heap.IsTuple T ys) (e : ys[n]? = some y)
    (q : ∀ h', h'.IsTupleIter I T (n + 1) → Heap.SameBut I s.heap h' → Q y { s with heap := h' }) : wpAny (model prog w) A (Builtin.SmallTypes.nextOf (.ref I)) Q E s := by
  obtain ⟨u, hu, uc, ud⟩ := id a
  obtain ⟨v, hv, _, vn, vd⟩ := b
  unfold Builtin.SmallTypes.nextOf
  refine wpAny_bind (wpAny_callSpecial?_slot (name := Str.ofString "__next__") a.typeIs F.slot_tuple_iterator_next (wpAny_call_entry F.slot_tuple_iterator_next a.typeIs F.entry_tuple_iterator_next ?_ (F.args_tuple_iterator_next_1 _)))
  show wpAny _ _ (field (.ref I) 0 >>= _) _ _ s
  refine wpAny_bind (wpAny_field hu ud (x := .ref T) rfl ?_)
  show wpAny _ _ (if (Value.ref T == Value.none) = true then _ else _) _ _ s
  rw [if_neg (show ¬ ((Value.ref T == Value.none) = true) from Bool.false_ne_true)]
  show wpAny _ _ (field (.ref I) 1 >>= _) _ _ s
  refine wpAny_bind (wpAny_field hu ud (x := .int n 0) rfl ?_)
  show wpAny _ _ (seqItems? (.ref T) >>= _) _ _ s
  refine wpAny_bind (wpAny_seqItems hv vd ?_)
  simp only [Int.toNat_natCast, e]
  refine wpAny_bind (wpAny_setField hu ud (by simp) (wpAny_pure ⟨y, rfl, wpAny_pure (q _ ?_ (Heap.SameBut.update ..))⟩))
  exact ⟨_, Heap.get?_update_self _ hu (Obj.isFreed_of_fields (Obj.data_mapFields ud _)), (Obj.cls_mapFields ..).trans uc, by rw [Obj.data_mapFields ud]; simp [rawInt]⟩
structure ZLT (h : Heap) (z TI TO i1 i2 l1 l2 : Addr) (k : Nat) (f : Value) : Prop where
  z : IsZip h z TI TO f
  ti : IsPair h TI (.ref i1) (.ref i2)
  to : ∃ a b, IsPair h TO a b
  h1 : h.IsListIter i1 l1 k
  h2 : h.IsTupleIter i2 l2 k
theorem zlt_item {z TI TO i1 i2 l1 l2 : Addr} {k : Nat} {xs ys : Array Value} {x y : Value} {Q : Value → Shared → Prop} (D : ZipApart z TI TO i1 i2 l1 l2) (Z : ZLT s.heap z TI TO i1 i2 l1 l2 k .none)
    (hl1 : s.heap.IsList l1 xs) (hl2 : s.heap.IsTuple l2 ys) (hx : xs[k]? = some x) (hy : ys[k]? = some y)
    (hQ : ∀ h', ZLT h' z TI TO i1 i2 l1 l2 (k + 1) (rawInt s.heap.objs.size) → IsPair h' s.heap.objs.size x y → h'.objs.size = s.heap.objs.size + 1 →
      (∀ c o, c ≠ z → c ≠ TO → c ≠ i1 → c ≠ i2 → s.heap.get? c = some o → h'.get? c = some o) → Q (.ref s.heap.objs.size) { s with heap := h' }) :
    wpAny (model prog w) A (Builtin.«zip.__next__» ⟨[.ref z], []⟩) (fun fin s' => ∃ v, fin = .done (.ret v) ∧ Q v s') E s := by
  obtain ⟨hz, hTI, ⟨a, b, hTO⟩, h1, h2⟩ := Z
  show wpAny _ _ (field (.ref z) 2 >>= _) _ _ _
  refine wpAny_bind (wpAny_field hz rfl (x := .bool false) rfl ?_)
  show wpAny _ _ (field (.ref z) 3 >>= _) _ _ _
  refine wpAny_bind (wpAny_field hz rfl (x := .ref TI) rfl (wpAny_bind (wpAny_seqItems hTI rfl ?_)))
  show wpAny _ _ (Builtin.SmallTypes.ownedTupleIsFree (.ref z) >>= _) _ _ _
  refine wpAny_bind ?_
  unfold Builtin.SmallTypes.ownedTupleIsFree
  refine wpAny_bind (wpAny_field hz rfl (x := .none) rfl (wpAny_pure ?_))
  simp only [if_true]
  refine wpAny_bind (wpAny_rule (wpAny_bind (wpAny_field hz rfl (x := .ref TO) rfl (wpAny_bind (wpAny_setField_rec hz (by simp) fun g1 (z1 : IsZip g1 z TI TO .ellipsis) c1 => wpAny_bind ?_)))))
  simp only [List.zipIdx_cons, List.zipIdx_nil, List.forIn_cons, List.forIn_nil]
  have d1 := c1.extBut
  refine wpAny_bind (wpAny_bind (wpAny_onRaise ?_))
  show wpAny _ _ (Builtin.SmallTypes.nextOf (.ref i1) >>= _) _ _ _
  refine wpAny_bind (wpAny_nextOf_list_item (h1.extBut d1 D.i1z) (hl1.extBut d1 D.l1z) hx fun g2 e2 c2 => wpAny_pure ?_)
  have d2 := c2.extBut
  have t2 : IsPair g2 TO a b := d2 _ _ D.TOi1 (d1 _ _ D.TOz hTO)
  refine wpAny_bind (wpAny_seqItems t2 rfl (wpAny_bind (wpAny_updateSeq_pair t2 fun g3 (t3 : IsPair g3 TO x b) c3 => wpAny_bind (wpAny_letGo (wpAny_pure ?_)))))
  have d3 := c3.extBut
  refine wpAny_bind (wpAny_bind (wpAny_onRaise ?_))
  show wpAny _ _ (Builtin.SmallTypes.nextOf (.ref i2) >>= _) _ _ _
  refine wpAny_bind (next_tup (((h2.extBut d1 D.i2z).extBut d2 D.i12.symm).extBut d3 D.TOi2.symm) (((hl2.extBut d1 D.l2z).extBut d2 D.l2i1).extBut d3 D.l2TO) hy fun g4 e4 c4 => wpAny_pure ?_)
  have d4 := c4.extBut
  have t4 : IsPair g4 TO x b := d4 _ _ D.TOi2 t3
  refine wpAny_bind (wpAny_seqItems t4 rfl (wpAny_bind (wpAny_updateSeq_pair t4 fun g5 (t5 : IsPair g5 TO x y) c5 => wpAny_bind (wpAny_letGo (wpAny_pure (wpAny_pure (wpAny_bind (wpAny_seqItems t5 rfl (wpAny_bind (wpAny_newTuple ?_))))))))))
  have d5 := c5.extBut
  have sz : g5.objs.size = s.heap.objs.size := by rw [c5.1, c4.1, c3.1, c2.1, c1.1]
  have z5 : IsZip g5 z TI TO .ellipsis := d5 _ _ D.TOz.symm (d4 _ _ D.i2z.symm (d3 _ _ D.TOz.symm (d2 _ _ D.i1z.symm z1)))
  have k5 : ∀ c o, c ≠ z → c ≠ TO → c ≠ i1 → c ≠ i2 → s.heap.get? c = some o → g5.get? c = some o := fun c o n1 n2 n3 n4 e => d5 _ _ n2 (d4 _ _ n4 (d3 _ _ n2 (d2 _ _ n3 (d1 _ _ n1 e))))
  have j1 : g5.IsListIter i1 l1 (k + 1) := ((e2.extBut d3 D.TOi1.symm).extBut d4 D.i12).extBut d5 D.TOi1.symm
  have j2 : g5.IsTupleIter i2 l2 (k + 1) := e4.extBut d5 D.TOi2.symm
  have zl : z < g5.objs.size := Heap.lt_size z5
  show wpAny _ _ (Builtin.SmallTypes.ownedTupleHandOut (.ref z) (.ref g5.objs.size) >>= _) _ _ _
  refine wpAny_bind ?_
  unfold Builtin.SmallTypes.ownedTupleHandOut
  have z6 : IsZip (g5.push { cls := .type "tuple", data := .seq #[x, y] }) z TI TO .ellipsis := Heap.get?_push_of_some _ z5
  refine wpAny_bind (wpAny_setField_rec z6 (by simp) fun g7 (z7 : IsZip g7 z TI TO (rawInt g5.objs.size)) c7 => wpAny_setField_rec z7 (by simp) fun g8 (z8 : IsZip g8 z TI TO (rawInt g5.objs.size)) c8 => ?_)
  have up : ∀ c o, c ≠ z → g5.get? c = some o → g8.get? c = some o := fun c o n e => c8.extBut _ _ n (c7.extBut _ _ n (Heap.get?_push_of_some _ e))
  have p8 : IsPair g8 g5.objs.size x y := c8.extBut _ _ (Nat.ne_of_gt zl) (c7.extBut _ _ (Nat.ne_of_gt zl) (Heap.get?_push_size _ rfl))
  have s8 : g8.objs.size = g5.objs.size + 1 := by rw [c8.1, c7.1, Heap.size_push]
  rw [sz] at z8 p8 s8
  refine wpAny_pure ⟨_, rfl, ?_⟩
  show Q (.ref g5.objs.size) _
  rw [sz]
  exact hQ g8 ⟨z8, up _ _ D.TIz (k5 _ _ D.TIz D.TITO D.TIi1 D.TIi2 hTI), ⟨_, _, up _ _ D.TOz t5⟩, j1.at fun o e => up _ o D.i1z e, j2.at fun o e => up _ o D.i2z e⟩ p8 s8 fun c o n1 n2 n3 n4 e => up c o n1 (k5 c o n1 n2 n3 n4 e)
theorem zlt_end {z TI TO i1 i2 l1 l2 : Addr} {k : Nat} {xs : Array Value} {Q : Fin → Shared → Prop} (hh : A.handled = none) (D : ZipApart z TI TO i1 i2 l1 l2) (Z : ZLT s.heap z TI TO i1 i2 l1 l2 k .none) (hl1 : s.heap.IsList l1 xs) (hx : xs[k]? = none)
    (hE : ∀ h' e, (∀ c o, c ≠ z → c ≠ i1 → s.heap.get? c = some o → h'.get? c = some o) → (∃ o, h'.get? e = some o ∧ o.cls = .type "StopIteration") → E (.ref e) { s with heap := h' }) :
    wpAny (model prog w) A (Builtin.«zip.__next__» ⟨[.ref z], []⟩) Q E s := by
  obtain ⟨hz, hTI, ⟨a, b, hTO⟩, h1, h2⟩ := Z
  show wpAny _ _ (field (.ref z) 2 >>= _) _ _ _
  refine wpAny_bind (wpAny_field hz rfl (x := .bool false) rfl ?_)
  show wpAny _ _ (field (.ref z) 3 >>= _) _ _ _
  refine wpAny_bind (wpAny_field hz rfl (x := .ref TI) rfl (wpAny_bind (wpAny_seqItems hTI rfl ?_)))
  show wpAny _ _ (Builtin.SmallTypes.ownedTupleIsFree (.ref z) >>= _) _ _ _
  refine wpAny_bind ?_
  unfold Builtin.SmallTypes.ownedTupleIsFree
  refine wpAny_bind (wpAny_field hz rfl (x := .none) rfl (wpAny_pure ?_))
  simp only [if_true]
  refine wpAny_bind (wpAny_rule (wpAny_bind (wpAny_field hz rfl (x := .ref TO) rfl (wpAny_bind (wpAny_setField_rec hz (by simp) fun g1 (z1 : IsZip g1 z TI TO .ellipsis) c1 => wpAny_bind ?_)))))
  simp only [List.zipIdx_cons, List.zipIdx_nil, List.forIn_cons, List.forIn_nil]
  refine wpAny_bind (wpAny_bind (wpAny_onRaise ?_))
  show wpAny _ _ (Builtin.SmallTypes.nextOf (.ref i1) >>= _) _ _ _
  refine wpAny_bind (wpAny_nextOf_list_end hh (h1.extBut c1.extBut D.i1z) (hl1.extBut c1.extBut D.l1z) hx fun g2 e c2 ⟨oe, hoe, hce⟩ => ?_)
  have z2 : IsZip g2 z TI TO .ellipsis := c2 _ _ D.i1z.symm z1
  have nz : e ≠ z := fun q => by subst q; rw [z2] at hoe; cases hoe; simp at hce
  exact wpAny_setField_rec z2 (by simp) fun g3 _ c3 => hE g3 e (fun c o n1 n3 q => c3.extBut _ _ n1 (c2 _ _ n3 (c1.extBut _ _ n1 q))) ⟨oe, c3.extBut _ _ nz hoe, hce⟩
theorem zlt_new (l1 l2 : Addr) (xs ys : Array Value) :
    Meets (Builtin.«zip.__new__» ⟨[.type "zip", .ref l1, .ref l2], []⟩) (fun _ R s => s.heap.IsList l1 xs ∧ s.heap.IsTuple l2 ys ∧
      R (.ok (.ret (.ref (s.heap.objs.size + 4)))) { s with heap := ((((s.heap.push { cls := .type "list_iterator", data := .fields #[.ref l1, .int 0 0] }).push { cls := .type "tuple_iterator", data := .fields #[.ref l2, .int 0 0] }).push { cls := .type "tuple", data := .seq #[.ref s.heap.objs.size, .ref (s.heap.objs.size + 1)] }).push { cls := .type "tuple", data := .seq #[.none, .none] }).push { cls := .type "zip", data := .fields #[.none, .bool false, .bool false, .ref (s.heap.objs.size + 2), .ref (s.heap.objs.size + 3)] } }) :=
  .of_wp fun prog w A R s h => by
    obtain ⟨hp, g, d, tk, os⟩ := s
    obtain ⟨hl1, hl2, h⟩ := h
    have hsub := sub_zip
    have L1 : Heap.IsList (Shared.heap ⟨hp, g, d, tk, os⟩) l1 xs := hl1
    have L2 : Heap.IsTuple (Shared.heap ⟨hp.push { cls := .type "list_iterator", data := .fields #[.ref l1, .int 0 0] }, g, d, tk, os⟩) l2 ys := Heap.IsTuple.push hl2 _
    wp_walk using wpAny_pyIter_list L1, wpAny_pyIter_tuple L2
    refine ⟨_, rfl, ?_⟩
    simp only [Heap.size_push]
    exact h
theorem call_zlt {l1 l2 : Addr} {xs ys : Array Value} {Q : Value → Shared → Prop} (hl1 : s.heap.IsList l1 xs) (hl2 : s.heap.IsTuple l2 ys)
    (h : ∀ h', ZLT h' (s.heap.objs.size + 4) (s.heap.objs.size + 2) (s.heap.objs.size + 3) s.heap.objs.size (s.heap.objs.size + 1) l1 l2 0 .none → (∀ c o, s.heap.get? c = some o → h'.get? c = some o) → Q (.ref (s.heap.objs.size + 4)) { s with heap := h' }) :
    wpAny (model prog w) A (call (.type "zip") [.ref l1, .ref l2]) Q E s := by
  refine callType_new F.called_zip (by decide) (F.typeCall_zip_2 _ _) (F.newCall_zip_2 _ _) (fun obj => F.args_object_init_3 obj _ _) F.entry_zip_new (zlt_new l1 l2 xs ys) ⟨hl1, hl2, ?_⟩
  obtain ⟨g1, e1⟩ : ∃ g1, g1 = s.heap.push { cls := .type "list_iterator", data := .fields #[.ref l1, .int 0 0] } := ⟨_, rfl⟩
  obtain ⟨g2, e2⟩ : ∃ g2, g2 = g1.push { cls := .type "tuple_iterator", data := .fields #[.ref l2, .int 0 0] } := ⟨_, rfl⟩
  obtain ⟨g3, e3⟩ : ∃ g3, g3 = g2.push { cls := .type "tuple", data := .seq #[.ref s.heap.objs.size, .ref (s.heap.objs.size + 1)] } := ⟨_, rfl⟩
  obtain ⟨g4, e4⟩ : ∃ g4, g4 = g3.push { cls := .type "tuple", data := .seq #[.none, .none] } := ⟨_, rfl⟩
  obtain ⟨g5, e5⟩ : ∃ g5, g5 = g4.push { cls := .type "zip", data := .fields #[.none, .bool false, .bool false, .ref (s.heap.objs.size + 2), .ref (s.heap.objs.size + 3)] } := ⟨_, rfl⟩
  have z1 : g1.objs.size = s.heap.objs.size + 1 := by rw [e1]; exact Heap.size_push ..
  have z2 : g2.objs.size = s.heap.objs.size + 2 := by rw [e2, Heap.size_push, z1]
  have z3 : g3.objs.size = s.heap.objs.size + 3 := by rw [e3, Heap.size_push, z2]
  have z4 : g4.objs.size = s.heap.objs.size + 4 := by rw [e4, Heap.size_push, z3]
  have u5 : ∀ c o, g4.get? c = some o → g5.get? c = some o := fun c o e => by rw [e5]; exact Heap.get?_push_of_some _ e
  have u4 : ∀ c o, g3.get? c = some o → g5.get? c = some o := fun c o e => u5 c o (by rw [e4]; exact Heap.get?_push_of_some _ e)
  have u3 : ∀ c o, g2.get? c = some o → g5.get? c = some o := fun c o e => u4 c o (by rw [e3]; exact Heap.get?_push_of_some _ e)
  have u2 : ∀ c o, g1.get? c = some o → g5.get? c = some o := fun c o e => u3 c o (by rw [e2]; exact Heap.get?_push_of_some _ e)
  have u1 : ∀ c o, s.heap.get? c = some o → g5.get? c = some o := fun c o e => u2 c o (by rw [e1]; exact Heap.get?_push_of_some _ e)
  have a1 := u2 s.heap.objs.size _ (by rw [e1]; exact Heap.get?_push_size _ rfl)
  have a2 := u3 (s.heap.objs.size + 1) _ (by rw [e2, ← z1]; exact Heap.get?_push_size _ rfl)
  have a3 := u4 (s.heap.objs.size + 2) _ (by rw [e3, ← z2]; exact Heap.get?_push_size _ rfl)
  have a4 := u5 (s.heap.objs.size + 3) _ (by rw [e4, ← z3]; exact Heap.get?_push_size _ rfl)
  have a5 : g5.get? (s.heap.objs.size + 4) = some { cls := .type "zip", data := .fields #[.none, .bool false, .bool false, .ref (s.heap.objs.size + 2), .ref (s.heap.objs.size + 3)] } := by rw [e5, ← z4]; exact Heap.get?_push_size _ rfl
  rw [← e1, ← e2, ← e3, ← e4, ← e5]
  exact ⟨⟨_, a5, rfl⟩, h g5 ⟨a5, a3, ⟨_, _, a4⟩, ⟨_, a1, rfl, rfl⟩, ⟨_, a2, rfl, rfl⟩⟩ u1⟩
end
def Izt (K : W.Frag) (a b : Addr) : It :=
  ⟨fun i H => ∃ (xs ys : List V) (x y : V), SqL K H a xs ∧ SqT K H b ys ∧ xs[i]? = some x ∧ ys[i]? = some y,
    fun i H v H' => ∃ T x y, v = .ref T ∧ H T = none ∧ H' = upd H T (.tup [x, y]) ∧ (∀ xs, SqL K H a xs → xs[i]? = some x) ∧ ∀ ys, SqT K H b ys → ys[i]? = some y,
    fun i H => ∃ xs ys : List V, SqL K H a xs ∧ SqT K H b ys ∧ xs.length ≤ i⟩
theorem turn_zlt {P : Program} {w : World} {K : W.Frag} {elts : List Expr} {kk : Nat} {tpos : Pos} {a b z TI TO i1 i2 : Addr} (D : ZipApart z TI TO i1 i2 a b) :
    Turn P w K (.Tuple elts kk tpos) (Izt K a b) [z, TI, TO, i1, i2] z (fun i h => ZLT h z TI TO i1 i2 a b i .none) where
  mem := by simp
  obj := fun i h st c hc => by
    obtain ⟨hz, hTI, ⟨x, y, hTO⟩, ⟨o1, e1, _, d1⟩, ⟨o2, e2, _, d2⟩⟩ := st
    have e' : c = z ∨ c = TI ∨ c = TO ∨ c = i1 ∨ c = i2 := by simpa using hc
    rcases e' with q | q | q | q | q
    · rw [q]; exact ⟨_, hz, fun v q => nomatch q⟩
    · rw [q]; exact ⟨_, hTI, fun v q => nomatch q⟩
    · rw [q]; exact ⟨_, hTO, fun v q => nomatch q⟩
    · rw [q]; exact ⟨o1, e1, fun v q => by rw [d1] at q; cases q⟩
    · rw [q]; exact ⟨o2, e2, fun v q => by rw [d2] at q; cases q⟩
  keep := fun i h h' st k => by
    obtain ⟨hz, hTI, ⟨x, y, hTO⟩, h1, h2⟩ := st
    exact ⟨k z (by simp) _ hz, k TI (by simp) _ hTI, ⟨x, y, k TO (by simp) _ hTO⟩, h1.at fun o q => k i1 (by simp) o q, h2.at fun o q => k i2 (by simp) o q⟩
  item := by
    intro X hP hw hK hc i pins s σ H E I hf st hg
    subst hP hw hK
    obtain ⟨xs, ys, x, y, hqx, hqy, hx, hy⟩ := hg
    obtain ⟨its, rv, p, _⟩ := I.list hqx
    obtain ⟨its2, rv2, p2, _⟩ := I.tuple hqy
    obtain ⟨u, hu, ru⟩ := rv.get hx
    obtain ⟨u2, hu2, ru2⟩ := rv2.get hy
    have hzl : z < s.heap.objs.size := Heap.lt_size st.z
    have hT : s.TypeIs (.ref z) "zip" := ⟨_, st.z, rfl⟩
    have old : ∀ c ∈ [z, TI, TO, i1, i2], c < s.heap.objs.size := fun c hcm => by
      have e' : c = z ∨ c = TI ∨ c = TO ∨ c = i1 ∨ c = i2 := by simpa using hcm
      obtain ⟨_, hTI, ⟨_, _, hTO⟩, ⟨_, e1, _⟩, ⟨_, e2, _⟩⟩ := st
      rcases e' with q | q | q | q | q
      · rw [q]; exact hzl
      · rw [q]; exact Heap.lt_size hTI
      · rw [q]; exact Heap.lt_size hTO
      · rw [q]; exact Heap.lt_size e1
      · rw [q]; exact Heap.lt_size e2
    unfold pyNext
    refine wpAny_bind (wpAny_attempt (wpAny_callSpecial?_slot (name := Str.ofString "__next__") hT F.slot_zip_next (wpAny_call_entry F.slot_zip_next hT F.entry_zip_next (zlt_item D st p.isList (show s.heap.IsTuple b its2.toArray from p2) (x := u) (y := u2) (by simpa using hu) (by simpa using hu2) fun h' Z hT1 hsz hk => wpAny_pure ?_) (F.args_zip_next_1 _))))
    refine ⟨_, rfl, wpAny_letOwnedTupleGo_zip (s := { s with heap := h' }) Z.z fun h'' z'' sb => ?_⟩
    have hT2 : h''.get? s.heap.objs.size = some { cls := .type "tuple", data := .seq #[u, u2] } := (sb.2 _ (Nat.ne_of_gt hzl)).trans hT1
    have new : ObjOk X.prog X.w (upd H s.heap.objs.size (.tup [x, y])) h'' s.heap.objs.size (.tup [x, y]) :=
      ⟨by show 2 ≤ sizeLine; decide, [u, u2], .cons ru (.cons ru2 .nil), ⟨_, hT2, rfl, _, rfl⟩⟩
    have I1 : Inv X pins σ (upd H s.heap.objs.size (.tup [x, y])) { s with heap := h'' } :=
      I.turnedNew (t' := s.toks) (ch := [z, TI, TO, i1, i2]) (fun c o hb q => (sb.2 c (fun q' => hb (by simp [q']))).trans (hk c o (fun q' => hb (by simp [q'])) (fun q' => hb (by simp [q'])) (fun q' => hb (by simp [q'])) (fun q' => hb (by simp [q'])) q)) hf (Nat.le_refl _) new
    obtain ⟨_, a1, ⟨xa, ya, a2⟩, a3, a4⟩ := Z
    refine ⟨.ref s.heap.objs.size, _, I1, rfl, ⟨_, x, y, rfl, I.hok.fresh (Nat.le_refl _), rfl, fun l hl => by rw [I.list_inj hl hqx]; exact hx, fun l hl => by rw [I.tuple_inj hl hqy]; exact hy⟩, ⟨z'', (sb.2 _ D.TIz).trans a1, ⟨xa, ya, (sb.2 _ D.TOz).trans a2⟩, a3.at fun o q => (sb.2 _ D.i1z).trans q, a4.at fun o q => (sb.2 _ D.i2z).trans q⟩, fun c hcm => ?_⟩
    rw [upd_ne (Nat.ne_of_lt (old c hcm))]
    exact (hf c hcm).1
  done := by
    intro X hP hw hK hc i pins s σ H E I hf st hg
    subst hP hw hK
    obtain ⟨xs, ys, hqx, hqy, hend⟩ := hg
    obtain ⟨its, rv, p, _⟩ := I.list hqx
    have l1 := rv.length
    have hT : s.TypeIs (.ref z) "zip" := ⟨_, st.z, rfl⟩
    unfold pyNext
    refine wpAny_bind (wpAny_attempt (wpAny_callSpecial?_slot (name := Str.ofString "__next__") hT F.slot_zip_next (wpAny_call_entry F.slot_zip_next hT F.entry_zip_next (zlt_end (I.ok.hd hc) D st p.isList (by simp; omega) fun h' e hk ⟨oe, hoe, hce⟩ => ?_) (F.args_zip_next_1 _))))
    refine wpAny_bind (wpAny_isInstance (T := "StopIteration") (b := true) ⟨oe, hoe, hce⟩ isSubtype_stop (wpAny_pure ⟨rfl, I.turnedL (t' := s.toks) (ch := [z, TI, TO, i1, i2]) (fun c o hb q => hk c o (fun q' => hb (by simp [q'])) (fun q' => hb (by simp [q'])) q) hf⟩))
  self := fun A i s Q E st h => wpAny_pyIter_zip st.z h
def iZlt (K : W.Frag) (ta : TA) : TI := fun σ H R => ta σ H fun vs H1 => ∃ a b xs ys, vs = [.ref a, .ref b] ∧ SqL K H1 a xs ∧ SqT K H1 b ys ∧ R (Izt K a b) H1
theorem pi_zipLT {X : Cx} {e e2 : Expr} {ta : TA} {p pos tpos : Pos} {elts : List Expr} {kk : Nat} (hg : Gl X "zip") (hm : X.mg "zip" = none) (ha : PA X [e, e2] ta)
    (hs : starEach [e, e2] X.env = (false, eval e X.env) :: starEach [e2] X.env := by rfl) (hpl : (backTo pos (starEach [e2] X.env)).any (·.1) = false := by rfl) :
    PI X (.Tuple elts kk tpos) (.Call (.Name "zip" p) [e, e2] [] pos) (iZlt X.K ta) := by
  intro pins s σ H R I h
  refine Call_ (ld_blt I hg hm boot_zip5 (PyProof.Rows.callWith_type1 (thn (ha pos pins s σ H _ I h) fun us s1 ⟨vs, H1, I1, r1, q1⟩ => ?_) hs hpl))
  obtain ⟨a, b, xs, ys, ex, hqx, hqy, q⟩ := q1
  subst ex
  cases r1 with
  | cons r rr =>
    cases rr with
    | cons r' rr =>
      cases rr
      cases r
      cases r'
      obtain ⟨its, rv, p1, _⟩ := I1.list hqx
      obtain ⟨its2, rv2, p2, _⟩ := I1.tuple hqy
      have p2 : s1.heap.IsTuple b its2.toArray := p2
      have la : a < s1.heap.objs.size := p1.lt
      have lb : b < s1.heap.objs.size := by obtain ⟨o, ho, _⟩ := p2; exact Heap.lt_size ho
      refine call_zlt p1.isList p2 fun h' Z hk => wpAny_pyIter_zip Z.z ?_
      have I2 : Inv X pins σ H1 { s1 with heap := h' } := I1.kept (t' := s1.toks) hk
      refine ⟨s1.heap.objs.size + 4, [s1.heap.objs.size + 4, s1.heap.objs.size + 2, s1.heap.objs.size + 3, s1.heap.objs.size, s1.heap.objs.size + 1], _, _, H1, rfl, I2, turn_zlt (PySem.W.ktu_apart s1.heap.objs.size a b la lb), Z, fun c hcm => ?_, q⟩
      have e' : c = s1.heap.objs.size + 4 ∨ c = s1.heap.objs.size + 2 ∨ c = s1.heap.objs.size + 3 ∨ c = s1.heap.objs.size ∨ c = s1.heap.objs.size + 1 := by simpa using hcm
      have hle : s1.heap.objs.size ≤ c := by
        rcases e' with z | z | z | z | z <;> rw [z]
        all_goals first | exact Nat.le_add_right _ _ | exact Nat.le_refl _
      exact I1.fpOk hle (I1.hok.fresh hle)
theorem for_zlt {K : W.Frag} {a b : Addr} {xs ys : List V} {g : TG} {tb : TS} {D : Ends} {σ : L2.St} {H : Hp} (hxy : xs.length ≤ ys.length) (Pv : Nat → L2.St → Hp → Prop) (h0 : Pv 0 σ H) (hl : ∀ i σ H, i ≤ xs.length → Pv i σ H → SqL K H a xs ∧ SqT K H b ys)
    (hs : ∀ i x y T σ H, xs[i]? = some x → ys[i]? = some y → H T = none → Pv i σ H → g (.ref T) σ (upd H T (.tup [x, y])) fun σ2 H2 => tb { D with nx := Pv (i + 1), ct := Pv (i + 1), bk := D.nx } σ2 H2) (hd : ∀ σ H, Pv xs.length σ H → D.nx σ H) :
    ∃ W : Nat → Nat → L2.St → Hp → Prop, (∃ m, W 0 m σ H) ∧ ∀ i m σ H, W i m σ H →
      ((Izt K a b).stop i H ∧ D.nx σ H) ∨ ((Izt K a b).go i H ∧ ∃ N : L2.St → Hp → Prop, (∀ σ' H', N σ' H' → ∃ m', m' < m ∧ W (i + 1) m' σ' H') ∧ ∀ x H', (Izt K a b).yld i H x H' → g x σ H' fun σ2 H2 => tb { D with nx := N, ct := N, bk := D.nx } σ2 H2) := by
  refine ⟨fun i m σ H => m = xs.length - i ∧ i ≤ xs.length ∧ Pv i σ H, ⟨xs.length, by simp, Nat.zero_le _, h0⟩, ?_⟩
  rintro i m σ H ⟨rfl, hi, p⟩
  obtain ⟨q1, q2⟩ := hl i σ H hi p
  by_cases hlt : i < xs.length
  · have hlt2 : i < ys.length := by omega
    refine .inr ⟨⟨xs, ys, xs[i], ys[i], q1, q2, by simp [hlt], by simp [hlt2]⟩, Pv (i + 1), fun σ' H' p' => ⟨xs.length - (i + 1), by omega, rfl, hlt, p'⟩, fun v H' z => ?_⟩
    obtain ⟨T, x, y, rfl, hT, rfl, e1, e2⟩ := z
    exact hs i x y T σ H (e1 xs q1) (e2 ys q2) hT p
  · have e : i = xs.length := by omega
    subst e
    exact .inl ⟨⟨xs, ys, q1, q2, Nat.le_refl _⟩, hd σ H p⟩
end CG
namespace CG
open PySem PySem.Spec PyProof.Rows L2
theorem pgr {X : Cx} {x : Str} {a : Addr} {pos : Pos} (h : X.mg x = some (.ref a)) (hg : Gl X x := by rfl) (hd : (x == ("__debug__" : Str)) = false := by decide) : PE X (.Name x pos) (tC (.ref a)) := pe_glob (x := x) hg h (show L2.RelV (.ref a) (.ref a) from rfl) hd
theorem within_iff {ns : List Nat} {bs : List (Nat × Nat)} : within ns bs = true ↔ ∀ (j n : Nat) (p : Nat × Nat), ns[j]? = some n → bs[j]? = some p → p.1 ≤ n ∧ n ≤ p.2 := by
  unfold within
  rw [List.all_eq_true]
  constructor
  · intro h j n p hn hp
    have := h (n, p) (List.mem_of_getElem? (i := j) (by rw [List.getElem?_zip_eq_some]; exact ⟨hn, hp⟩))
    simpa using this
  · intro h z hz
    obtain ⟨j, hj⟩ := List.getElem?_of_mem hz
    rw [List.getElem?_zip_eq_some] at hj
    have := h j z.1 z.2 hj.1 hj.2
    simpa using this
theorem six_cut {t : List Nat} {k : Nat} (h : 6 * k + 6 ≤ t.length) : (t.drop (6 * k)).take 6 = (sixOf t k).l := by
  unfold sixOf Six.l
  have g : ∀ i, i < 6 → ∃ x, t[6 * k + i]? = some x ∧ t.getD (6 * k + i) 0 = x := fun i hi => ⟨t[6 * k + i]'(by omega), List.getElem?_eq_getElem (by omega), by rw [List.getD_eq_getElem?_getD, List.getElem?_eq_getElem (by omega)]; rfl⟩
  apply List.ext_getElem?
  intro i
  rw [List.getElem?_take]
  by_cases hi : i < 6
  · rw [if_pos hi, List.getElem?_drop]
    obtain ⟨x, e1, e2⟩ := g i hi
    rw [e1, ← e2]
    match i, hi with
    | 0, _ => rfl
    | 1, _ => rfl
    | 2, _ => rfl
    | 3, _ => rfl
    | 4, _ => rfl
    | 5, _ => rfl
  · rw [if_neg hi]
    symm
    exact List.getElem?_eq_none (by simp; omega)
theorem seven_cut {t : List Nat} {n : Nat} (h : t.length = 6 * n + 7) : t.drop (6 * n) = gl (Sd39.guessOf t n) := by
  unfold Sd39.guessOf gl
  have g : ∀ i, i < 7 → ∃ x, t[6 * n + i]? = some x ∧ t.getD (6 * n + i) 0 = x := fun i hi => ⟨t[6 * n + i]'(by omega), List.getElem?_eq_getElem (by omega), by rw [List.getD_eq_getElem?_getD, List.getElem?_eq_getElem (by omega)]; rfl⟩
  apply List.ext_getElem?
  intro i
  rw [List.getElem?_drop]
  by_cases hi : i < 7
  · obtain ⟨x, e1, e2⟩ := g i hi
    rw [e1, ← e2]
    match i, hi with
    | 0, _ => rfl
    | 1, _ => rfl
    | 2, _ => rfl
    | 3, _ => rfl
    | 4, _ => rfl
    | 5, _ => rfl
    | 6, _ => rfl
  · rw [List.getElem?_eq_none (by omega)]
    symm
    exact List.getElem?_eq_none (by simp; omega)
def spWithin (K : W.Frag) : Sp := fun vs H Q _ => ∃ (a b : Addr) (ns : List Nat) (bs : List (Nat × Nat)) (as : List Addr), vs = [.ref a, .ref b] ∧ H a = some (.lst (ns.map nv)) ∧ TK K b (as.map V.ref) ∧ as.length = bs.length ∧ (∀ (i : Nat) (c : Addr) (p : Nat × Nat), as[i]? = some c → bs[i]? = some p → TK K c [nv p.1, nv p.2]) ∧ ns.length ≤ bs.length ∧ ∀ H', Same H H' → Q (.bl (within ns bs)) H'
def spCacheRight : Sp := fun vs H Q _ => ∃ (a : Addr) (x : Six), vs = [.ref a] ∧ H a = some (.lst (x.l.map nv)) ∧ ∀ H', Same H H' → Q (.bl x.ok) H'
def spGuessRight : Sp := fun vs H Q _ => ∃ (a : Addr) (g : Sd39.Guess), vs = [.ref a] ∧ H a = some (.lst ((gl g).map nv)) ∧ ∀ H', Same H H' → Q (.bl (gOk g)) H'
def spLines : Sp := fun vs H Q _ => ∃ (se : Addr) (sa : Nat → Addr) (xs : List Six), vs = [.ref se] ∧ SetsAt H se sa xs ∧ 2 ≤ xs.length ∧ xs.length ≤ 4 ∧ ∀ (H' : Hp) (b : Bool), Same H H' → (b = true ↔ LinesOk xs) → Q (.bl b) H'
def spSetsOf : Sp := fun vs H Q _ => ∃ (n : Nat) (l : Addr) (ts : List Nat), vs = [nv n, .ref l] ∧ n ≤ 4 ∧ H l = some (.lst (ts.map nv)) ∧ 6 * n ≤ ts.length ∧ ∀ (H' : Hp) (se : Addr) (sa : Nat → Addr), SetsAt H' se sa (sixes ts n) → H se = none → (∀ i, i < n → H (sa i) = none) → Same H H' → Q (.ref se) H'
def spGuessesOf : Sp := fun vs H Q _ => ∃ (n : Nat) (l : Addr) (ts : List Nat), vs = [nv n, .ref l] ∧ n ≤ 4 ∧ H l = some (.lst (ts.map nv)) ∧ ∀ (H' : Hp) (p : Addr), H' p = some (.lst ((ts.drop (6 * n)).map nv)) → H p = none → Same H H' → Q (.ref p) H'
def spSetRight : Sp := fun vs H Q _ => ∃ (n : Nat) (l : Addr) (ts : List Nat), vs = [nv n, .ref l] ∧ 2 ≤ n ∧ n ≤ 4 ∧ H l = some (.lst (ts.map nv)) ∧ ts.length = 6 * n + 7 ∧ ∀ (H' : Hp) (b : Bool), Same H H' → (b = true ↔ SetOkP n ts) → Q (.bl b) H'
section
variable {P : Program} {w : World} {K : W.Frag} {mg : Str → Option Value} {base : Heap} {t : Cs} {f : Addr} {fd : FuncData}
theorem ok_q111 (T : Txt K mg t) (F : Fun K "within" "within" s_q111 f fd) : FnOk P w K mg base CX0 1 f fd ["numbers", "bounds"] (spWithin K) := by
  refine F.ok sc_q111 (fun vs H Q E h => ?_) (fun cdv A outer s H vs Q E hr h => ?_)
  · obtain ⟨a, b, ns, bs, as, rfl, _⟩ := h
    rfl
  · obtain ⟨a, b, ns, bs, as, rfl, hl, tk, hn, hb, hle, q⟩ := h
    refine ⟨_, (pss_cons (ps_for PassesOwn.never rfl (pi_zipLT rfl T.b_zip (pa_cons (pv 0) (pa_cons (pv 1) pa_nil))) (pg_tup rfl (pgs_cons (pg_name (i := 2) sc_q111.nd rfl (Or.inl rfl)) (pgs_cons (pg_name (i := 3) sc_q111.nd rfl (Or.inl rfl)) pgs_nil)))
      (pss_one (ps_if (pw_or (pt_cmpR op_lt (pv 2) (pe_ix ix_tup (pv 3) pe_int (fun _ _ => rfl)) (nomark _)) (pw_or1 (pt_cmpR op_gt (pv 2) (pe_ix ix_tup (pv 3) pe_int (fun _ _ => rfl)) (nomark _)))).pt
      (pss_one (ps_ret pe_bl))
      pss_nil)))
      (pss_one (ps_ret pe_bl))), ?_⟩
    have fin : ∀ H', Same H H' → ¬ (within ns bs = true) → Q (.bl false) H' := fun H' s e => by
      have : within ns bs = false := by cases h : within ns bs with | true => exact absurd h e | false => rfl
      have := q H' s
      rw [‹within ns bs = false›] at this
      exact this
    refine ⟨_, rfl, _, rfl, a, b, _, _, rfl, SqL.of hl, .inr tk, ?_⟩
    refine for_zlt (K := K) (a := a) (b := b) (xs := ns.map nv) (ys := as.map V.ref) (by rw [List.length_map, List.length_map, hn]; exact hle) (fun i σ H' => ∃ v w : Option V, σ = [some (.ref a), some (.ref b), v, w] ∧ Same H H' ∧ ∀ (j n : Nat) (p : Nat × Nat), j < i → ns[j]? = some n → bs[j]? = some p → p.1 ≤ n ∧ n ≤ p.2) ⟨none, none, rfl, Same.refl H, fun j n p h => absurd h (Nat.not_lt_zero _)⟩ ?_ ?_ ?_
    · rintro i σ H' _ ⟨v, w, rfl, sm, _⟩
      exact ⟨SqL.of (sm _ _ hl), .inr tk⟩
    · rintro i x y T σ H' hx hy nT ⟨v, w, rfl, sm, hok⟩
      rw [List.getElem?_map] at hx hy
      cases en : ns[i]? with
      | none => rw [en] at hx; cases hx
      | some n =>
        cases ec : as[i]? with
        | none => rw [ec] at hy; cases hy
        | some c =>
          rw [en] at hx
          rw [ec] at hy
          cases hx
          cases hy
          obtain ⟨p, hp⟩ : ∃ p, bs[i]? = some p := ⟨_, List.getElem?_eq_getElem (by rw [← hn]; exact (List.getElem?_eq_some_iff.mp ec).1)⟩
          have tkc := hb i c p ec hp
          have sT : Same H (upd H' T (.tup [nv n, .ref c])) := sm.trans (new_ne nT)
          refine ⟨T, _, rfl, SqT.of upd_same, rfl, _, _, rfl, _, _, rfl, rfl, ?_⟩
          refine ⟨_, rfl, _, rfl, c, _, _, nv p.1, rfl, rfl, .inr tkc, at_nat (j := 0) rfl rfl, _, _, rfl, rfl, _, rfl, ?_⟩
          refine ite2 (fun z => iteT (fin _ sT fun y => ?_)) (fun z => ?_)
          · have z := of_decide_eq_true z
            have := within_iff.mp y i n p en hp
            omega
          have z1 : p.1 ≤ n := by
            have : ¬ ((n : Int) < (p.1 : Int)) := fun y => z (decide_eq_true y)
            omega
          refine ⟨_, rfl, _, rfl, c, _, _, nv p.2, rfl, rfl, .inr tkc, at_nat (j := 1) rfl rfl, _, _, rfl, rfl, _, rfl, ?_⟩
          refine ite2 (fun z => fin _ sT fun y => ?_) (fun z => ?_)
          · have z := of_decide_eq_true z
            have := within_iff.mp y i n p en hp
            omega
          have z2 : n ≤ p.2 := by
            have : ¬ ((p.2 : Int) < (n : Int)) := fun y => z (decide_eq_true y)
            omega
          refine ⟨_, _, rfl, sT, fun j n' p' hj hn' hp' => ?_⟩
          by_cases e : j = i
          · subst e
            rw [en] at hn'
            rw [hp] at hp'
            cases hn'
            cases hp'
            exact ⟨z1, z2⟩
          · exact hok j n' p' (by omega) hn' hp'
    · rintro σ H' ⟨v, w, rfl, sm, hok⟩
      have e : within ns bs = true := within_iff.mpr fun j n p hn' hp => hok j n p (by rw [List.length_map]; exact (List.getElem?_eq_some_iff.mp hn').1) hn' hp
      have := q H' sm
      rw [e] at this
      exact this
theorem ok_q102 (T : Txt K mg t) (F : Fun K "cache_right" "cache_right" s_q102 f fd) : FnOk P w K mg base CX0 3 f fd ["cache"] (spCacheRight) := by
  obtain ⟨f_q111, fd_q111, F_q111, b_q111, g_q111⟩ := T.d_within
  have G_q111 := ok_q111 (P := P) (w := w) (base := base) T F_q111
  refine F.ok sc_q102 (fun vs H Q E h => ?_) (fun cdv A outer s H vs Q E hr h => ?_)
  · obtain ⟨a, x, rfl, _⟩ := h
    rfl
  · obtain ⟨a, x, rfl, hl, q⟩ := h
    obtain ⟨bA, b0, b1, b2, b3, b4, b5, g_CACHE_BOUNDS, tk, k0, k1, k2, k3, k4, k5⟩ := T.c_CACHE_BOUNDS
    obtain ⟨wA, g_WAYS_OF_A_TREE, tw⟩ := T.c_WAYS_OF_A_TREE
    refine ⟨_, (pss_cons (ps_if (pt_not (pt_val (pe_call G_q111 (hr.mono (by omega)) rfl g_q111 F_q111.kp b_q111 .nil pass0 (pa_cons (pv 0) (pa_cons (pgr g_CACHE_BOUNDS) pa_nil)))))
      (pss_one (ps_ret pe_bl))
      pss_nil)
      (pss_one (ps_ret (pe_or (pe_cmpR op_ne (pe_ix ix_list (pv 0) pe_int (fun _ _ => rfl)) (pgl T.c_TREE_POLICY) (nomark _)) (pe_one (pe_cmpR op_in_seq (pe_ix ix_list (pv 0) pe_int (fun _ _ => rfl)) (pgr g_WAYS_OF_A_TREE) (by rfl))))))), ?_⟩
    refine ⟨_, rfl, a, bA, x.l, cacheB, [b0, b1, b2, b3, b4, b5], rfl, hl, tk, rfl, fun i c p hc hp => ?_, Nat.le_refl _, fun H1 s1 => ⟨_, rfl, ?_⟩⟩
    · match i, hc, hp with
      | 0, hc, hp => cases hc; cases hp; exact k0
      | 1, hc, hp => cases hc; cases hp; exact k1
      | 2, hc, hp => cases hc; cases hp; exact k2
      | 3, hc, hp => cases hc; cases hp; exact k3
      | 4, hc, hp => cases hc; cases hp; exact k4
      | 5, hc, hp => cases hc; cases hp; exact k5
      | i + 6, hc, hp => cases hc
    have q1 := q H1 s1
    unfold Six.ok at q1
    cases ew : within x.l cacheB with
    | false =>
      rw [ew, Bool.false_and] at q1
      exact iteT q1
    | true =>
      rw [ew, Bool.true_and] at q1
      refine iteF ?_
      have hl1 := s1 _ _ hl
      refine ⟨_, rfl, a, _, _, nv x.pol, rfl, rfl, SqL.of hl1, at_nat (j := 3) rfl rfl, rfl, _, rfl, ?_⟩
      by_cases z : x.pol = 2
      · have e2 : (!decide (nv x.pol = V.int 2)) = false := by rw [z]; rfl
        rw [e2]
        rw [z, decide_eq_false (by decide : ¬ (2 : Nat) ≠ 2), Bool.false_or] at q1
        refine iteF ⟨_, rfl, a, _, _, nv x.ways, rfl, rfl, SqL.of hl1, at_nat (j := 1) rfl rfl, wA, _, rfl, .inr (.inr tw), rfl, rfl, ?_⟩
        have ei : inV (nv x.ways) [.int 1, .int 2, .int 4, .int 8, .int 16] = decide (x.ways ∈ [1, 2, 4, 8, 16]) := by
          rw [Bool.eq_iff_iff, decide_eq_true_eq]
          unfold inV
          rw [List.any_eq_true]
          simp [eqV, nv]
          omega
        show Q (.bl (inV (nv x.ways) [.int 1, .int 2, .int 4, .int 8, .int 16])) H1
        rw [ei]
        exact q1
      · have e2 : (!decide (nv x.pol = V.int 2)) = true := by
          rw [decide_eq_false (fun e => z (by injection e with e; omega))]; rfl
        rw [e2]
        rw [decide_eq_true z, Bool.true_or] at q1
        exact iteT q1
theorem ok_q76 (T : Txt K mg t) (F : Fun K "guesses_right" "guesses_right" s_q76 f fd) : FnOk P w K mg base CX0 3 f fd ["guesses"] (spGuessRight) := by
  obtain ⟨f_q111, fd_q111, F_q111, b_q111, g_q111⟩ := T.d_within
  have G_q111 := ok_q111 (P := P) (w := w) (base := base) T F_q111
  refine F.ok sc_q76 (fun vs H Q E h => ?_) (fun cdv A outer s H vs Q E hr h => ?_)
  · obtain ⟨a, g, rfl, _⟩ := h
    rfl
  · obtain ⟨a, g, rfl, hl, q⟩ := h
    obtain ⟨bA, b0, b1, b2, b3, b4, b5, b6, g_GUESS_BOUNDS, tk, k0, k1, k2, k3, k4, k5, k6⟩ := T.c_GUESS_BOUNDS
    obtain ⟨wA, g_WAYS_WITH_COMMON_HISTORY, tw⟩ := T.c_WAYS_WITH_COMMON_HISTORY
    refine ⟨_, (pss_cons (ps_if (pt_not (pt_val (pe_call G_q111 (hr.mono (by omega)) rfl g_q111 F_q111.kp b_q111 .nil pass0 (pa_cons (pv 0) (pa_cons (pgr g_GUESS_BOUNDS) pa_nil)))))
      (pss_one (ps_ret pe_bl))
      pss_nil)
      (pss_one (ps_ret (pe_or (pe_cmpR op_notIn_seq (pe_ix ix_list (pv 0) pe_int (fun _ _ => rfl)) (pgr g_WAYS_WITH_COMMON_HISTORY) (by rfl)) (pe_one (pe_cmpR op_le (pe_ix ix_list (pv 0) pe_int (fun _ _ => rfl)) (pe_ix ix_list (pv 0) pe_int (fun _ _ => rfl)) (nomark _))))))), ?_⟩
    refine ⟨_, rfl, a, bA, gl g, guessB, [b0, b1, b2, b3, b4, b5, b6], rfl, hl, tk, rfl, fun i c p hc hp => ?_, Nat.le_refl _, fun H1 s1 => ⟨_, rfl, ?_⟩⟩
    · match i, hc, hp with
      | 0, hc, hp => cases hc; cases hp; exact k0
      | 1, hc, hp => cases hc; cases hp; exact k1
      | 2, hc, hp => cases hc; cases hp; exact k2
      | 3, hc, hp => cases hc; cases hp; exact k3
      | 4, hc, hp => cases hc; cases hp; exact k4
      | 5, hc, hp => cases hc; cases hp; exact k5
      | 6, hc, hp => cases hc; cases hp; exact k6
      | i + 7, hc, hp => cases hc
    have q1 := q H1 s1
    unfold gOk at q1
    cases ew : within (gl g) guessB with
    | false =>
      rw [ew, Bool.false_and] at q1
      exact iteT q1
    | true =>
      rw [ew, Bool.true_and] at q1
      refine iteF ?_
      have hl1 := s1 _ _ hl
      refine ⟨_, rfl, a, _, _, nv g.kind, rfl, rfl, SqL.of hl1, at_nat (j := 0) rfl rfl, wA, _, rfl, .inr (.inr tw), rfl, rfl, _, rfl, ?_⟩
      have ei : (!inV (nv g.kind) [.int 2, .int 4]) = decide (g.kind ∉ [2, 4]) := by
        rw [Bool.eq_iff_iff, decide_eq_true_eq, Bool.not_eq_true', ← Bool.not_eq_true]
        refine not_congr ?_
        unfold inV
        rw [List.any_eq_true]
        simp [eqV, nv]
        omega
      show if (!inV (nv g.kind) [.int 2, .int 4]) = true then _ else _
      rw [ei]
      by_cases z : g.kind ∉ [2, 4]
      · rw [decide_eq_true z] at q1 ⊢
        rw [Bool.true_or] at q1
        exact iteT q1
      · rw [decide_eq_false z] at q1 ⊢
        rw [Bool.false_or] at q1
        refine iteF ⟨_, rfl, a, _, _, nv g.history, rfl, rfl, SqL.of hl1, at_nat (j := 2) rfl rfl, _, rfl, a, _, _, nv g.table, rfl, rfl, SqL.of hl1, at_nat (j := 1) rfl rfl, _, _, rfl, rfl, ?_⟩
        have e : decide ((g.history : Int) ≤ (g.table : Int)) = decide (g.history ≤ g.table) := decide_eq_decide.mpr (by omega)
        rw [← e] at q1
        exact q1
end
end CG
namespace CG
open PySem PySem.Spec PyProof.Rows L2
section
variable {P : Program} {w : World} {K : W.Frag} {mg : Str → Option Value} {base : Heap} {t : Cs} {f : Addr} {fd : FuncData}
theorem ok_q29 (T : Txt K mg t) (F : Fun K "line_lengths_right" "line_lengths_right" s_q29 f fd) : FnOk P w K mg base CX0 1 f fd ["caches"] (spLines) := by
  refine F.ok sc_q29 (fun vs H Q E h => ?_) (fun cdv A outer s H vs Q E hr h => ?_)
  · obtain ⟨se, sa, xs, rfl, _⟩ := h
    rfl
  · obtain ⟨se, sa, xs, rfl, SE, h2, h4, q⟩ := h
    refine ⟨_, (pss_cons (ps_for PassesOwn.never rfl (pi_range2 rfl T.b_range (pa_cons pe_int (pa_cons (pe_callB call_len_seq rfl T.b_len PySem.boot_len (pa_cons (pv 0) pa_nil)) pa_nil))) (pg_name (i := 1) sc_q29.nd rfl (Or.inl rfl))
      (pss_one (ps_for PassesOwn.never rfl (pi_list (pe_slice sl_list (pv 0) po_none (po_some (pv 1)))) (pg_name (i := 2) sc_q29.nd rfl (Or.inl rfl))
      (pss_one (ps_if (pt_cmpR op_lt (pe_ix ix_list (pe_ix ix_list (pv 0) (pv 1) (fun _ _ => rfl)) pe_int (fun _ _ => rfl)) (pe_ix ix_list (pv 2) pe_int (fun _ _ => rfl)) (nomark _))
      (pss_one (ps_ret pe_bl))
      pss_nil)))))
      (pss_one (ps_ret pe_bl))), ?_⟩
    have eln : (((List.range xs.length).map fun i => V.ref (sa i)).length : Int) = (xs.length : Int) := by rw [List.length_map, List.length_range]
    refine ⟨_, rfl, se, _, rfl, .inl (SqL.of SE.l), 2, _, rfl, ⟨by decide, by decide, by omega, by omega⟩, ?_⟩
    rw [eln]
    have etn : ((xs.length : Int) - 2).toNat = xs.length - 2 := by omega
    rw [etn]
    have no : ∀ (H' : Hp) (i j : Nat) (x y : Six), Same H H' → xs[i]? = some x → xs[j]? = some y → 2 ≤ i → j < i → x.bits < y.bits → Q (.bl false) H' := fun H' i j x y s hx hy hi hj hlt => q H' false s ⟨fun e => absurd e (by decide), fun e => by have := e i j x y hx hy hi hj; omega⟩
    refine for_range (lo := 2) (n := xs.length - 2) (fun i σ H' => ∃ v w : Option V, σ = [some (.ref se), v, w] ∧ Same H H' ∧ ∀ (i' j : Nat) (x y : Six), i' < 2 + i → xs[i']? = some x → xs[j]? = some y → 2 ≤ i' → j < i' → y.bits ≤ x.bits) ⟨none, none, rfl, Same.refl H, fun i' j x y h1 _ _ h2 => absurd h1 (by omega)⟩ ?_ ?_
    · rintro i σ H' hi ⟨v, w, rfl, sm, hok⟩
      obtain ⟨x, hx⟩ : ∃ x, xs[2 + i]? = some x := ⟨_, List.getElem?_eq_getElem (by omega)⟩
      have SE' := SE.same sm
      refine ⟨_, rfl, _, rfl, _, rfl, se, _, rfl, SqL.of SE'.l, fun L nL => ?_⟩
      have ei : (2 + (i : Int)) = ((2 + i : Nat) : Int) := by omega
      have ecut : cutV ((List.range xs.length).map fun i => V.ref (sa i)) none (some (2 + (i : Int))) = (List.range (2 + i)).map fun i => V.ref (sa i) := by
        rw [ei, cut_takeT, ← List.map_take, List.take_range, Nat.min_eq_left (by omega)]
      rw [ecut]
      have sL : Same H' (upd H' L (.lst ((List.range (2 + i)).map fun i => V.ref (sa i)))) := new_ne nL
      refine ⟨L, rfl, ⟨_, SqL.of upd_same⟩, ?_⟩
      refine for_list (K := K) (a := L) (xs := (List.range (2 + i)).map fun i => V.ref (sa i)) (fun j σ H2 => ∃ w : Option V, σ = [some (.ref se), some (.int (2 + (i : Int))), w] ∧ Same H H2 ∧ H2 L = some (.lst ((List.range (2 + i)).map fun i => V.ref (sa i))) ∧ ∀ (j' : Nat) (y : Six), j' < j → xs[j']? = some y → y.bits ≤ x.bits) ⟨w, rfl, sm.trans sL, upd_same, fun j' y h => absurd h (Nat.not_lt_zero _)⟩ ?_ ?_ ?_
      · rintro j σ H2 _ ⟨w, rfl, _, hL, _⟩
        exact SqL.of hL
      · rintro j z σ H2 hz ⟨w, rfl, s2, hL, hok2⟩
        rw [List.getElem?_map] at hz
        have hj : j < 2 + i := by
          by_cases e : j < 2 + i
          · exact e
          · rw [List.getElem?_eq_none (by rw [List.length_range]; omega)] at hz
            cases hz
        rw [List.getElem?_range hj] at hz
        cases hz
        obtain ⟨y, hy⟩ : ∃ y, xs[j]? = some y := ⟨_, List.getElem?_eq_getElem (by omega)⟩
        have S2 := SE.same s2
        refine ⟨_, rfl, _, rfl, se, _, _, .ref (sa (2 + i)), rfl, rfl, SqL.of S2.l, at_nat (j := 2 + i) ei (by rw [List.getElem?_map, List.getElem?_range (by omega)]; rfl), sa (2 + i), _, _, nv x.bits, rfl, rfl, SqL.of (S2.e _ _ hx), at_nat (j := 2) rfl rfl, _, rfl, sa j, _, _, nv y.bits, rfl, rfl, SqL.of (S2.e _ _ hy), at_nat (j := 2) rfl rfl, _, _, rfl, rfl, _, rfl, ?_⟩
        refine ite2 (fun z => ?_) (fun z => ?_)
        · have z := of_decide_eq_true z
          exact no _ (2 + i) j x y s2 hx hy (by omega) hj (by omega)
        · have z : ¬ ((x.bits : Int) < (y.bits : Int)) := fun e => z (decide_eq_true e)
          refine ⟨_, rfl, s2, hL, fun j' y' hj' hy' => ?_⟩
          by_cases e : j' = j
          · subst e
            rw [hy] at hy'
            cases hy'
            omega
          · exact hok2 j' y' (by omega) hy'
      · rintro σ H2 ⟨w, rfl, s2, hL, hok2⟩
        refine ⟨_, _, rfl, s2, fun i' j x' y hi' hx' hy h2' hj => ?_⟩
        by_cases e : i' = 2 + i
        · subst e
          rw [hx] at hx'
          cases hx'
          exact hok2 j y (by rw [List.length_map, List.length_range]; exact hj) hy
        · exact hok i' j x' y (by omega) hx' hy h2' hj
    · rintro σ H' ⟨v, w, rfl, sm, hok⟩
      exact q H' true sm ⟨fun _ i j x y hx hy h1 h2 => hok i j x y (by have := (List.getElem?_eq_some_iff.mp hx).1; omega) hx hy h1 h2, fun _ => rfl⟩
theorem ok_q30 (T : Txt K mg t) (F : Fun K "settings_of_caches" "settings_of_caches" s_q30 f fd) : FnOk P w K mg base CX0 1 f fd ["n", "settings"] (spSetsOf) := by
  refine F.ok sc_q30 (fun vs H Q E h => ?_) (fun cdv A outer s H vs Q E hr h => ?_)
  · obtain ⟨n, l, ts, rfl, _⟩ := h
    rfl
  · obtain ⟨n, l, ts, rfl, hn, hl, hts, q⟩ := h
    refine ⟨_, (pss_one (ps_ret (pe_lc (own := [("k", 2)]) rfl sc_q30.nd (pi_range1 rfl T.b_range (pa_cons (pv 0) pa_nil)) (blkOk_by (by rfl)) (fun _ _ _ _ _ => pg_name (i := 2) sc_q30.nd rfl (Or.inl rfl)) (fun _ _ _ _ _ => pts_nil) (fun _ _ _ _ _ => (pe_slice (slk (K := K) rfl) (pv 1) (po_some (pe_op op_mul (pgl T.c_NUMBERS_OF_A_CACHE) (pv 2))) (po_some (pe_op op_mul (pgl T.c_NUMBERS_OF_A_CACHE) (pe_op op_add (pv 2) pe_int)))))))), ?_⟩
    refine ⟨_, rfl, _, rfl, by omega, by omega, fun D hD => ?_⟩
    refine lc_range (lo := 0) (n := ((n : Int)).toNat) (fun i H' => ∃ sa : Nat → Addr, H' D = some (.lst ((List.range i).map fun j => V.ref (sa j))) ∧ (∀ j, j < i → H' (sa j) = some (.lst ((sixOf ts j).l.map nv)) ∧ H (sa j) = none ∧ sa j ≠ D) ∧ Same H H') ⟨fun _ => D, upd_same, fun j hj => absurd hj (Nat.not_lt_zero _), new_ne hD⟩ ?_ ?_
    · rintro i H' hi ⟨sa, hDl, hfr, sm⟩
      rw [Int.toNat_natCast] at hi
      refine ⟨rfl, tYes2 ?_⟩
      refine iteT ?_
      have hl' := sm _ _ hl
      refine ⟨_, rfl, _, rfl, _, _, rfl, rfl, .inl ⟨by decide, by decide⟩, _, rfl, _, rfl, _, _, rfl, rfl, _, _, rfl, rfl, .inl ⟨by decide, by decide⟩, _, rfl, l, _, rfl, SqL.of hl', fun L nL => ?_⟩
      have ecut : cutV (ts.map nv) (some (6 * (0 + (i : Int)))) (some (6 * (0 + (i : Int) + 1))) = (sixOf ts i).l.map nv := by
        rw [show (6 * (0 + (i : Int))) = ((6 * i : Nat) : Int) by omega, show (6 * (0 + (i : Int) + 1)) = ((6 * i + 6 : Nat) : Int) by omega, cut_midT _ _ _ (by omega), show 6 * i + 6 - 6 * i = 6 by omega, ← List.map_drop, ← List.map_take, six_cut (by omega)]
      rw [ecut]
      have s1 : Same H' (upd H' L (.lst ((sixOf ts i).l.map nv))) := new_ne nL
      have nLD : L ≠ D := (ne_of_none hDl nL).symm
      refine ⟨_, s1 _ _ hDl, by rw [List.length_map, List.length_range, CG.sl]; omega, fun j => if j = i then L else sa j, ?_, fun j hj => ?_, fun b o e => by rw [upd_ne (ne_of_none e hD)]; exact s1 _ _ (sm _ _ e)⟩
      · rw [upd_same, List.range_succ, List.map_append]
        refine congrArg (fun z => some (HO.lst z)) ?_
        congr 1
        · refine List.map_congr_left fun j hj => ?_
          show V.ref (sa j) = V.ref (if j = i then L else sa j)
          rw [if_neg (by have := List.mem_range.mp hj; omega)]
        · show [V.ref L] = [V.ref (if i = i then L else sa i)]
          rw [if_pos rfl]
      · by_cases e : j = i
        · subst e
          show upd _ D _ (if j = j then L else sa j) = _ ∧ H (if j = j then L else sa j) = none ∧ (if j = j then L else sa j) ≠ D
          rw [if_pos rfl, upd_ne nLD]
          exact ⟨upd_same, sm.free nL, nLD⟩
        · show upd _ D _ (if j = i then L else sa j) = _ ∧ H (if j = i then L else sa j) = none ∧ (if j = i then L else sa j) ≠ D
          obtain ⟨f1, f2, f3⟩ := hfr j (by omega)
          rw [if_neg e, upd_ne f3]
          exact ⟨s1 _ _ f1, f2, f3⟩
    · rintro H' ⟨sa, hDl, hfr, sm⟩
      rw [Int.toNat_natCast] at hDl hfr
      refine q H' D sa ⟨by rw [sixes_len]; exact hDl, fun i x hx => ?_⟩ hD (fun i hi => (hfr i hi).2.1) sm
      unfold sixes at hx
      rw [List.getElem?_map] at hx
      have hi : i < n := by
        by_cases e : i < n
        · exact e
        · rw [List.getElem?_eq_none (by rw [List.length_range]; omega)] at hx
          cases hx
      rw [List.getElem?_range hi] at hx
      cases hx
      exact (hfr i hi).1
theorem ok_q21 (T : Txt K mg t) (F : Fun K "settings_of_guesses" "settings_of_guesses" s_q21 f fd) : FnOk P w K mg base CX0 1 f fd ["n", "settings"] (spGuessesOf) := by
  refine F.ok sc_q21 (fun vs H Q E h => ?_) (fun cdv A outer s H vs Q E hr h => ?_)
  · obtain ⟨n, l, ts, rfl, _⟩ := h
    rfl
  · obtain ⟨n, l, ts, rfl, hn, hl, q⟩ := h
    refine ⟨_, (pss_one (ps_ret (pe_slice sl_list (pv 1) (po_some (pe_op op_mul (pgl T.c_NUMBERS_OF_A_CACHE) (pv 0))) po_none))), ?_⟩
    refine ⟨_, rfl, _, rfl, _, _, rfl, rfl, .inl ⟨by decide, by decide⟩, _, rfl, l, _, rfl, SqL.of hl, fun L nL => ?_⟩
    rw [show (6 * (n : Int)) = ((6 * n : Nat) : Int) by omega, cut_dropT, ← List.map_drop]
    exact q _ L upd_same nL (new_ne nL)
theorem ok_q63 (T : Txt K mg t) (F : Fun K "settings_right" "settings_right" s_q63 f fd) : FnOk P w K mg base CX0 5 f fd ["n", "settings"] (spSetRight) := by
  obtain ⟨f_q76, fd_q76, F_q76, b_q76, g_q76⟩ := T.d_guesses_right
  have G_q76 := ok_q76 (P := P) (w := w) (base := base) T F_q76
  obtain ⟨f_q21, fd_q21, F_q21, b_q21, g_q21⟩ := T.d_settings_of_guesses
  have G_q21 := ok_q21 (P := P) (w := w) (base := base) T F_q21
  obtain ⟨f_q29, fd_q29, F_q29, b_q29, g_q29⟩ := T.d_line_lengths_right
  have G_q29 := ok_q29 (P := P) (w := w) (base := base) T F_q29
  obtain ⟨f_q102, fd_q102, F_q102, b_q102, g_q102⟩ := T.d_cache_right
  have G_q102 := ok_q102 (P := P) (w := w) (base := base) T F_q102
  obtain ⟨f_q30, fd_q30, F_q30, b_q30, g_q30⟩ := T.d_settings_of_caches
  have G_q30 := ok_q30 (P := P) (w := w) (base := base) T F_q30
  refine F.ok sc_q63 (fun vs H Q E h => ?_) (fun cdv A outer s H vs Q E hr h => ?_)
  · obtain ⟨n, l, ts, rfl, _⟩ := h
    rfl
  · obtain ⟨n, l, ts, rfl, h2, h4, hl, hts, q⟩ := h
    refine ⟨_, (pss_cons (ps_set (i := 2) sc_q63.nd rfl (Or.inl rfl) (pe_call G_q30 (hr.mono (by omega)) rfl g_q30 F_q30.kp b_q30 .nil pass0 (pa_cons (pv 0) (pa_cons (pv 1) pa_nil))))
      (pss_cons (ps_for PassesOwn.never rfl (pi_list (pv 2)) (pg_name (i := 3) sc_q63.nd rfl (Or.inl rfl))
      (pss_one (ps_if (pt_not (pt_val (pe_call G_q102 (hr.mono (by omega)) rfl g_q102 F_q102.kp b_q102 .nil pass0 (pa_cons (pv 3) pa_nil))))
      (pss_one (ps_ret pe_bl))
      pss_nil)))
      (pss_one (ps_ret (pe_and (pe_call G_q29 (hr.mono (by omega)) rfl g_q29 F_q29.kp b_q29 .nil pass0 (pa_cons (pv 2) pa_nil)) (pe_one (pe_call G_q76 (hr.mono (by omega)) rfl g_q76 F_q76.kp b_q76 .nil pass0 (pa_cons (pe_call G_q21 (hr.mono (by omega)) rfl g_q21 F_q21.kp b_q21 .nil pass0 (pa_cons (pv 0) (pa_cons (pv 1) pa_nil))) pa_nil)))))))), ?_⟩
    refine ⟨_, rfl, _, rfl, n, l, ts, rfl, h4, hl, by omega, fun H1 se sa SE _ _ s1 => ?_⟩
    have ls := sixes_len ts n
    refine ⟨_, rfl, se, rfl, ⟨_, SqL.of SE.l⟩, ?_⟩
    refine for_list (K := K) (a := se) (xs := (List.range (sixes ts n).length).map fun i => V.ref (sa i)) (fun i σ H' => ∃ v : Option V, σ = [some (nv n), some (.ref l), some (.ref se), v] ∧ Same H1 H' ∧ ∀ (j : Nat) (x : Six), j < i → (sixes ts n)[j]? = some x → x.ok = true) ⟨none, rfl, Same.refl H1, fun j x h => absurd h (Nat.not_lt_zero _)⟩ ?_ ?_ ?_
    · rintro i σ H' _ ⟨v, rfl, sm, _⟩
      exact SqL.of (sm _ _ SE.l)
    · rintro i z σ H' hz ⟨v, rfl, sm, hok⟩
      rw [List.getElem?_map] at hz
      have hi : i < (sixes ts n).length := by
        by_cases e : i < (sixes ts n).length
        · exact e
        · rw [List.getElem?_eq_none (by rw [List.length_range]; omega)] at hz
          cases hz
      rw [List.getElem?_range hi] at hz
      cases hz
      obtain ⟨x, hx⟩ : ∃ x, (sixes ts n)[i]? = some x := ⟨_, List.getElem?_eq_getElem hi⟩
      refine ⟨_, rfl, sa i, x, rfl, (SE.same sm).e i x hx, fun H2 s2 => ⟨_, rfl, ?_⟩⟩
      cases e : x.ok with
      | false => exact iteT (q H2 false (s1.trans (sm.trans s2)) ⟨fun e => absurd e (by decide), fun y => by rw [y.1 x (List.mem_of_getElem? hx)] at e; cases e⟩)
      | true =>
        refine iteF ⟨_, rfl, sm.trans s2, fun j y hj hy => ?_⟩
        by_cases z : j = i
        · subst z
          rw [hx] at hy
          cases hy
          exact e
        · exact hok j y (by omega) hy
    · rintro σ H' ⟨v, rfl, sm, hok⟩
      have all : ∀ x ∈ sixes ts n, x.ok = true := fun x hx => by
        obtain ⟨j, hj⟩ := List.getElem?_of_mem hx
        exact hok j x (by rw [List.length_map, List.length_range]; exact (List.getElem?_eq_some_iff.mp hj).1) hj
      refine ⟨_, rfl, se, sa, sixes ts n, rfl, SE.same sm, by rw [ls]; exact h2, by rw [ls]; exact h4, fun H2 b s2 hb => ⟨_, rfl, ?_⟩⟩
      have s12 := s1.trans (sm.trans s2)
      cases b with
      | false => exact iteF (q H2 false s12 ⟨fun e => absurd e (by decide), fun y => absurd (hb.mpr y.2.1) (by decide)⟩)
      | true =>
        have hlines := hb.mp rfl
        refine iteT ⟨_, rfl, _, rfl, n, l, ts, rfl, h4, s12 _ _ hl, fun H3 p hp _ s3 => ?_⟩
        rw [seven_cut hts] at hp
        refine ⟨p, Sd39.guessOf ts n, rfl, hp, fun H4 s4 => q H4 _ ((s12.trans s3).trans s4) ⟨fun e => ⟨all, hlines, e⟩, fun y => y.2.2⟩⟩
end
end CG
namespace CG
open PySem PySem.Spec PyProof.Rows L2
theorem RoleOk.fwd {m m' : MMem} (h : Shape m m') {r : Role} (k : RoleOk m r) : RoleOk m' r := by
  have go : ∀ i k : Nat, (∃ c, m.caches[i]? = some c ∧ k < c.sets.length) → ∃ c, m'.caches[i]? = some c ∧ k < c.sets.length := fun i k ⟨c, hc, hk⟩ => by
    obtain ⟨c', hc', s⟩ := h.at_ i c hc
    exact ⟨c', hc', by rw [s.2.2.2.2.2]; exact hk⟩
  cases r with
  | chance => trivial
  | mem => trivial
  | cache i => show i < m'.caches.length; rw [h.len]; exact k
  | sets i => show i < m'.caches.length; rw [h.len]; exact k
  | set i j => exact go i j k
  | part i j z => exact ⟨go i j k.1, k.2⟩
theorem MemInv.som {t : Cs} {L : Role → Addr} {m : MMem} {H : Hp} (I : MemInv t L m H) {r : Role} (h : RoleOk m r) : ∃ o, H (L r) = some o := by
  have go : ∀ i k : Nat, (∃ c, m.caches[i]? = some c ∧ k < c.sets.length) → ∃ c s, m.caches[i]? = some c ∧ c.sets[k]? = some s := fun i k ⟨c, hc, hk⟩ => ⟨c, _, hc, List.getElem?_eq_getElem hk⟩
  cases r with
  | chance => obtain ⟨dx, e⟩ := I.ch; exact ⟨_, e⟩
  | mem => obtain ⟨dx, e⟩ := I.mm; exact ⟨_, e⟩
  | cache i => obtain ⟨dx, e⟩ := I.ca i _ (List.getElem?_eq_getElem h); exact ⟨_, e⟩
  | sets i => exact ⟨_, I.ss i _ (List.getElem?_eq_getElem h)⟩
  | set i k =>
    obtain ⟨c, s, hc, hs⟩ := go i k h
    obtain ⟨dx, e⟩ := (I.st i k c s hc hs).o
    exact ⟨_, e⟩
  | part i k j =>
    obtain ⟨c, s, hc, hs⟩ := go i k h.1
    exact (I.st i k c s hc hs).som h.2
theorem BrAt.som {t : Cs} {H : Hp} {A : Nat → Addr} {g : Sd39.Guess} {b : Sd39.Br} (B : BrAt t H A g b) {i : Nat} (hi : i < 10) : ∃ o, H (A i) = some o := by
  obtain ⟨⟨d0, e0⟩, e1, ⟨⟨d2, e2⟩, e3⟩, ⟨⟨d4, e4⟩, e5⟩, ⟨⟨d6, e6⟩, e7⟩, ⟨⟨d8, e8⟩, e9⟩, _⟩ := B
  match i, hi with
  | 0, _ => exact ⟨_, e0⟩
  | 1, _ => exact ⟨_, e1⟩
  | 2, _ => exact ⟨_, e2⟩
  | 3, _ => exact ⟨_, e3⟩
  | 4, _ => exact ⟨_, e4⟩
  | 5, _ => exact ⟨_, e5⟩
  | 6, _ => exact ⟨_, e6⟩
  | 7, _ => exact ⟨_, e7⟩
  | 8, _ => exact ⟨_, e8⟩
  | 9, _ => exact ⟨_, e9⟩
theorem BrAt.keep {t : Cs} {H H' : Hp} {A : Nat → Addr} {g : Sd39.Guess} {b : Sd39.Br} (B : BrAt t H A g b) (k : ∀ i o, i < 10 → H (A i) = some o → H' (A i) = some o) : BrAt t H' A g b := by
  obtain ⟨⟨d0, e0⟩, e1, ⟨⟨d2, e2⟩, e3⟩, ⟨⟨d4, e4⟩, e5⟩, ⟨⟨d6, e6⟩, e7⟩, ⟨⟨d8, e8⟩, e9⟩, inj⟩ := B
  exact ⟨⟨d0, k 0 _ (by decide) e0⟩, k 1 _ (by decide) e1, ⟨⟨d2, k 2 _ (by decide) e2⟩, k 3 _ (by decide) e3⟩, ⟨⟨d4, k 4 _ (by decide) e4⟩, k 5 _ (by decide) e5⟩, ⟨⟨d6, k 6 _ (by decide) e6⟩, k 7 _ (by decide) e7⟩, ⟨⟨d8, k 8 _ (by decide) e8⟩, k 9 _ (by decide) e9⟩, inj⟩
theorem RtAt.keep {t : Cs} {H H' : Hp} {a l : Addr} {most n lost : Nat} {st : List Nat} (R : RtAt t H a l most st n lost) (k1 : ∀ o, H a = some o → H' a = some o) (k2 : ∀ o, H l = some o → H' l = some o) : RtAt t H' a l most st n lost := by
  obtain ⟨⟨dx, e⟩, e2⟩ := R
  exact ⟨⟨dx, k1 _ e⟩, k2 _ e2⟩
structure Pts where
  L : Role → Addr
  A : Nat → Addr
  ta : Addr
  tl : Addr
  ra : Addr
  rl : Addr
  cl : Addr
structure PrW (t : Cs) (H : Hp) (lab : Addr → Nat) (p : Addr) (s : Sd39.St) (z : Pts) (m : MMem) : Prop where
  o : ∃ dx, H p = some (.ins t.k9 dx (fl_k9 (.ref (z.L .mem)) (.ref z.cl) (.ref (z.A 0)) (.ref z.ta) (.ref z.ra)))
  cl : H z.cl = some (.lst ((List.range m.caches.length).map fun i => V.ref (z.L (.cache i))))
  mem : MemInv t z.L m H
  pre : PreR m s.mem
  n4 : m.caches.length ≤ 4
  rep : ∀ r, ∃ r', RoleOk m r' ∧ z.L r = z.L r'
  br : BrAt t H z.A s.guess s.br
  bo : BrOk s.guess s.br
  tg : TgAt t H lab z.ta z.tl s.guess.tways s.br.targets s.br.jumps s.br.missed
  to : TgOk s.guess s.br.targets
  w8 : s.guess.tways ≤ 8
  t10 : s.guess.tsets ≤ 10
  rt : RtAt t H z.ra z.rl s.guess.returns s.br.stack s.br.returns s.br.lost
  st : s.br.stack.length ≤ 64
  r64 : s.guess.returns ≤ 64
  l1 : ∀ r, lab (z.L r) = 1
  l2 : ∀ i, i < 10 → lab (z.A i) = 2
  l4 : lab z.ra = 4 ∧ lab z.rl = 4
  l5 : lab p = 5 ∧ lab z.cl = 5
  tot : ∀ b, lab b ≠ 0 → ∃ o, H b = some o
def PrAt (t : Cs) (H : Hp) (lab : Addr → Nat) (p : Addr) (s : Sd39.St) : Prop := ∃ z m, PrW t H lab p s z m
def Stp (H H' : Hp) (lab lab' : Addr → Nat) : Prop := ∀ b o, H b = some o → lab b = 0 → H' b = some o ∧ lab' b = 0
theorem Stp.refl {H : Hp} {lab : Addr → Nat} : Stp H H lab lab := fun _ _ e z => ⟨e, z⟩
theorem Stp.trans {H H1 H2 : Hp} {a b c : Addr → Nat} (h : Stp H H1 a b) (g : Stp H1 H2 b c) : Stp H H2 a c := fun x o e z => g x o (h x o e z).1 (h x o e z).2
theorem Stp.of_same {H H' : Hp} {lab : Addr → Nat} (s : Same H H') : Stp H H' lab lab := fun b o e z => ⟨s b o e, z⟩
section
variable {t : Cs} {H H' : Hp} {lab lab' : Addr → Nat} {p : Addr} {s : Sd39.St} {z : Pts} {m m' : MMem}
theorem PrW.same (W : PrW t H lab p s z m) (k : ∀ b o, H b = some o → lab b ≠ 0 → H' b = some o) : PrW t H' lab p s z m := by
  refine ⟨?_, k _ _ W.cl (by rw [W.l5.2]; decide), W.mem.same fun r o e => k _ _ e (by rw [W.l1]; decide), W.pre, W.n4, W.rep, W.br.keep fun i o hi e => k _ _ e (by rw [W.l2 i hi]; decide), W.bo, W.tg.keep (fun b o e h => k _ _ e (by rw [h]; decide)) (fun _ h => h), W.to, W.w8, W.t10, W.rt.keep (fun o e => k _ _ e (by rw [W.l4.1]; decide)) (fun o e => k _ _ e (by rw [W.l4.2]; decide)), W.st, W.r64, W.l1, W.l2, W.l4, W.l5, fun b hb => ?_⟩
  · obtain ⟨dx, e⟩ := W.o; exact ⟨dx, k _ _ e (by rw [W.l5.1]; decide)⟩
  · obtain ⟨o, e⟩ := W.tot b hb; exact ⟨o, k _ _ e hb⟩
theorem PrW.memUp (W : PrW t H lab p s z m) {M' : Sd39.Mem} (I' : MemInv t z.L m' H') (fr : FrL z.L H H') (R : MemRel m' M') (g : Good m m') : PrW t H' lab p { s with mem := M' } z m' ∧ Stp H H' lab lab := by
  have k : ∀ b o, H b = some o → lab b ≠ 1 → H' b = some o := fun b o e h => fr b o e fun r q => h (by rw [← q]; exact W.l1 r)
  refine ⟨⟨?_, ?_, I', W.pre.to R g, by rw [g.2.len]; exact W.n4, fun r => ?_, W.br.keep fun i o hi e => k _ _ e (by rw [W.l2 i hi]; decide), W.bo, W.tg.keep (fun b o e h => k _ _ e (by rw [h]; decide)) (fun _ h => h), W.to, W.w8, W.t10, W.rt.keep (fun o e => k _ _ e (by rw [W.l4.1]; decide)) (fun o e => k _ _ e (by rw [W.l4.2]; decide)), W.st, W.r64, W.l1, W.l2, W.l4, W.l5, fun b hb => ?_⟩, fun b o e h => ⟨k b o e (by rw [h]; decide), h⟩⟩
  · obtain ⟨dx, e⟩ := W.o; exact ⟨dx, k _ _ e (by rw [W.l5.1]; decide)⟩
  · rw [g.2.len]; exact k _ _ W.cl (by rw [W.l5.2]; decide)
  · obtain ⟨r', h', e'⟩ := W.rep r; exact ⟨r', h'.fwd g.2, e'⟩
  · obtain ⟨o, e⟩ := W.tot b hb
    by_cases q : ∃ r, z.L r = b
    · obtain ⟨r, rfl⟩ := q
      obtain ⟨r', h', e'⟩ := W.rep r
      rw [e']
      exact I'.som (h'.fwd g.2)
    · exact ⟨o, fr b o e fun r y => q ⟨r, y⟩⟩
theorem PrW.brUp (W : PrW t H lab p s z m) {b' : Sd39.Br} (B' : BrAt t H' z.A s.guess b') (kp : ButA H H' z.A) (O' : BrOk s.guess b') (rs : Rest s.br b') : PrW t H' lab p { s with br := b' } z m ∧ Stp H H' lab lab := by
  have k : ∀ b o, H b = some o → lab b ≠ 2 → H' b = some o := fun b o e h => kp b o e fun i hi q => h (by rw [← q]; exact W.l2 i hi)
  obtain ⟨r1, r2, r3, r4, r5, r6⟩ := rs
  refine ⟨⟨?_, k _ _ W.cl (by rw [W.l5.2]; decide), W.mem.same fun r o e => k _ _ e (by rw [W.l1]; decide), W.pre, W.n4, W.rep, B', O', ?_, ?_, W.w8, W.t10, ?_, ?_, W.r64, W.l1, W.l2, W.l4, W.l5, fun b hb => ?_⟩, fun b o e h => ⟨k b o e (by rw [h]; decide), h⟩⟩
  · obtain ⟨dx, e⟩ := W.o; exact ⟨dx, k _ _ e (by rw [W.l5.1]; decide)⟩
  · show TgAt t H' lab z.ta z.tl s.guess.tways b'.targets b'.jumps b'.missed
    rw [r1, r3, r4]
    exact W.tg.keep (fun b o e h => k _ _ e (by rw [h]; decide)) (fun _ h => h)
  · show TgOk s.guess b'.targets
    rw [r1]; exact W.to
  · show RtAt t H' z.ra z.rl s.guess.returns b'.stack b'.returns b'.lost
    rw [r2, r5, r6]
    exact W.rt.keep (fun o e => k _ _ e (by rw [W.l4.1]; decide)) (fun o e => k _ _ e (by rw [W.l4.2]; decide))
  · show b'.stack.length ≤ 64
    rw [r2]; exact W.st
  · obtain ⟨o, e⟩ := W.tot b hb
    by_cases q : ∃ i, i < 10 ∧ z.A i = b
    · obtain ⟨i, hi, rfl⟩ := q
      exact B'.som hi
    · exact ⟨o, kp b o e fun i hi y => q ⟨i, hi, y⟩⟩
theorem PrW.tgUp (W : PrW t H lab p s z m) {a to : Nat} (T' : TgAt t H' lab' z.ta z.tl s.guess.tways (Sd39.jumped s.guess s.br a to).targets (Sd39.jumped s.guess s.br a to).jumps (Sd39.jumped s.guess s.br a to).missed) (up : LabUp 3 H H' lab lab') : PrW t H' lab' p { s with br := Sd39.jumped s.guess s.br a to } z m ∧ Stp H H' lab lab' := by
  have k : ∀ b o, H b = some o → lab b ≠ 3 → H' b = some o := up.keep
  have lb : ∀ {b : Addr} {i : Nat}, lab b = i + 1 → lab' b = i + 1 := fun {b i} h => by rw [up.old b (by rw [h]; omega)]; exact h
  have kB : BrAt t H' z.A s.guess s.br := W.br.keep fun i o hi e => k _ _ e (by rw [W.l2 i hi]; decide)
  refine ⟨⟨?_, k _ _ W.cl (by rw [W.l5.2]; decide), W.mem.same fun r o e => k _ _ e (by rw [W.l1]; decide), W.pre, W.n4, W.rep, ⟨kB.o, kB.own, kB.k1, kB.k2, kB.k3, kB.k4, kB.inj⟩, ⟨W.bo.l1, W.bo.l2, W.bo.l3, W.bo.l4, W.bo.l5, W.bo.hh, W.bo.ho, W.bo.gh, W.bo.gk⟩, T', jumped_tg W.to _ _ _, W.w8, W.t10, W.rt.keep (fun o e => k _ _ e (by rw [W.l4.1]; decide)) (fun o e => k _ _ e (by rw [W.l4.2]; decide)), W.st, W.r64, fun r => lb (W.l1 r), fun i hi => lb (W.l2 i hi), ⟨lb W.l4.1, lb W.l4.2⟩, ⟨lb W.l5.1, lb W.l5.2⟩, fun b hb => ?_⟩, fun b o e h => ⟨k b o e (by rw [h]; decide), ?_⟩⟩
  · obtain ⟨dx, e⟩ := W.o; exact ⟨dx, k _ _ e (by rw [W.l5.1]; decide)⟩
  · by_cases h0 : lab b = 0
    · exact (up.new b h0 hb).2.2
    · obtain ⟨o, e⟩ := W.tot b h0
      exact up.dom b o e
  · by_cases h0 : lab' b = 0
    · exact h0
    · have := (up.new b h h0).1
      rw [e] at this; cases this
theorem PrW.rtUp (W : PrW t H lab p s z m) {rl' : Addr} {st' : List Nat} {n' lost' : Nat} (R' : RtAt t H' z.ra rl' s.guess.returns st' n' lost') (nw : H rl' = none) (kp : But H H' [z.ra]) (h64 : st'.length ≤ 64) :
    PrW t H' (fun d => if d = rl' then 4 else lab d) p { s with br := { s.br with stack := st', returns := n', lost := lost' } } { z with rl := rl' } m ∧ Stp H H' lab (fun d => if d = rl' then 4 else lab d) := by
  have k : ∀ b o, H b = some o → lab b ≠ 4 → H' b = some o := fun b o e h => kp b o e (nin fun q => h (by rw [q]; exact W.l4.1))
  have lb : ∀ {b : Addr} {i : Nat}, lab b = i + 1 → (if b = rl' then 4 else lab b) = i + 1 := fun {b i} h => by
    rw [if_neg fun q => ?_]
    · exact h
    · obtain ⟨o, e⟩ := W.tot b (by rw [h]; omega)
      rw [q, nw] at e; cases e
  have kB : BrAt t H' z.A s.guess s.br := W.br.keep fun i o hi e => k _ _ e (by rw [W.l2 i hi]; decide)
  refine ⟨⟨?_, k _ _ W.cl (by rw [W.l5.2]; decide), W.mem.same fun r o e => k _ _ e (by rw [W.l1]; decide), W.pre, W.n4, W.rep, ⟨kB.o, kB.own, kB.k1, kB.k2, kB.k3, kB.k4, kB.inj⟩, ⟨W.bo.l1, W.bo.l2, W.bo.l3, W.bo.l4, W.bo.l5, W.bo.hh, W.bo.ho, W.bo.gh, W.bo.gk⟩, W.tg.keep (fun b o e h => k _ _ e (by rw [h]; decide)) (fun b h => lb h), W.to, W.w8, W.t10, R', h64, W.r64, fun r => lb (W.l1 r), fun i hi => lb (W.l2 i hi), ⟨lb W.l4.1, if_pos rfl⟩, ⟨lb W.l5.1, lb W.l5.2⟩, fun b hb => ?_⟩, fun b o e h => ⟨k b o e (by rw [h]; decide), ?_⟩⟩
  · obtain ⟨dx, e⟩ := W.o; exact ⟨dx, k _ _ e (by rw [W.l5.1]; decide)⟩
  · have hb : (if b = rl' then 4 else lab b) ≠ 0 := hb
    by_cases q : b = rl'
    · rw [q]; exact ⟨_, R'.2⟩
    · rw [if_neg q] at hb
      obtain ⟨o, e⟩ := W.tot b hb
      by_cases y : b = z.ra
      · obtain ⟨⟨dx, e'⟩, _⟩ := R'
        rw [y]; exact ⟨_, e'⟩
      · exact ⟨o, kp _ _ e (nin y)⟩
  · show (if b = rl' then 4 else lab b) = 0
    rw [if_neg fun q => ?_]
    · exact h
    · rw [q, nw] at e; cases e
end
def spFB (t : Cs) : Sp := fun vs H Q _ => ∃ (lab : Addr → Nat) (p a : Addr) (s : Sd39.St) (r : Sd39.Rec), vs = [.ref p, .ref a] ∧ PrAt t H lab p s ∧ RecAt t H a r ∧ lab a = 0 ∧ r.kind = 3 ∧ ∀ (H' : Hp) (lab' : Addr → Nat), PrAt t H' lab' p (Sd39.follow s r) → Stp H H' lab lab' → Q .non H'
def spFJ (t : Cs) : Sp := fun vs H Q _ => ∃ (lab : Addr → Nat) (p a : Addr) (s : Sd39.St) (r : Sd39.Rec), vs = [.ref p, .ref a] ∧ PrAt t H lab p s ∧ RecAt t H a r ∧ lab a = 0 ∧ (r.kind = 4 ∨ r.kind = 5) ∧ ∀ (H' : Hp) (lab' : Addr → Nat), PrAt t H' lab' p (Sd39.follow s r) → Stp H H' lab lab' → Q .non H'
def spFollow (t : Cs) : Sp := fun vs H Q _ => ∃ (lab : Addr → Nat) (p a : Addr) (s : Sd39.St) (r : Sd39.Rec), vs = [.ref p, .ref a] ∧ PrAt t H lab p s ∧ RecAt t H a r ∧ lab a = 0 ∧ r.right = true ∧ ∀ (H' : Hp) (lab' : Addr → Nat), PrAt t H' lab' p (Sd39.follow s r) → Stp H H' lab lab' → Q .non H'
theorem follow3 {s : Sd39.St} {r : Sd39.Rec} (h : r.kind = 3) : Sd39.follow s r = { s with br := if (r.taken == 1) = true then Sd39.jumped s.guess (branched s.guess s.br r.address (r.taken == 1)) r.address r.to else branched s.guess s.br r.address (r.taken == 1) } := by
  unfold Sd39.follow branched
  rw [h]
  rfl
theorem follow4 {s : Sd39.St} {r : Sd39.Rec} (h : r.kind = 4) : Sd39.follow s r = { s with br := Sd39.jumped s.guess s.br r.address r.to } := by
  unfold Sd39.follow
  rw [h]
  rfl
theorem follow5 {s : Sd39.St} {r : Sd39.Rec} (h : r.kind = 5) : Sd39.follow s r = { s with br := { Sd39.jumped s.guess s.br r.address r.to with stack := ((r.address + r.size) :: (Sd39.jumped s.guess s.br r.address r.to).stack).take s.guess.returns } } := by
  unfold Sd39.follow
  rw [h]
  rfl
theorem follow6 {s : Sd39.St} {r : Sd39.Rec} (h : r.kind = 6) : Sd39.follow s r = { s with br := { s.br with returns := s.br.returns + 1, lost := s.br.lost + (if s.br.stack.head? = some r.to then 0 else 1), stack := s.br.stack.drop 1 } } := by
  unfold Sd39.follow
  rw [h]
  rfl
end CG
namespace CG
open PySem PySem.Spec PyProof.Rows L2
section
variable {P : Program} {w : World} {K : W.Frag} {mg : Str → Option Value} {base : Heap} {t : Cs} {f : Addr} {fd : FuncData}
theorem ok_q4 (T : Txt K mg t) (F : Fun K "follow_branch" "Processor.follow_branch" s_q4 f fd) : FnOk P w K mg base CX0 8 f fd ["self", "record"] (spFB t) := by
  obtain ⟨f_q20, fd_q20, F_q20, b_q20, M_q20⟩ := T.k6.m_h11
  have G_q20 := ok_q20 (P := P) (w := w) (base := base) T F_q20
  obtain ⟨f_q5, fd_q5, F_q5, b_q5, M_q5⟩ := T.k1.m_h10
  have G_q5 := ok_q5 (P := P) (w := w) (base := base) T F_q5
  refine F.ok sc_q4 (fun vs H Q E h => ?_) (fun cdv A outer s H vs Q E hr h => ?_)
  · obtain ⟨lab, p, a, s, r, rfl, _⟩ := h
    rfl
  · obtain ⟨lab, p, a, s, r, rfl, ⟨z, m, W⟩, ⟨dr, hr0⟩, la, hk, q⟩ := h
    obtain ⟨dx, ho⟩ := W.o
    obtain ⟨db, hb⟩ := W.br.o
    rw [follow3 hk] at q
    refine ⟨_, (pss_cons (ps_set (i := 2) sc_q4.nd rfl (Or.inl rfl) (pe_cmpR op_eq (pe_fld (pv 1) rfl) pe_int (nomark _)))
      (pss_cons (ps_expr (pe_meth (pe_fld (pv 0) rfl) T.k1.cl M_q5 G_q5 (hr.mono (by omega)) b_q5 .nil pass0 (pa_cons (pe_fld (pv 1) rfl) (pa_cons (pv 2) pa_nil))))
      (pss_one (ps_if (pt_val (pv 2))
      (pss_one (ps_expr (pe_meth (pe_fld (pv 0) rfl) T.k6.cl M_q20 G_q20 (hr.mono (by omega)) b_q20 .nil pass0 (pa_cons (pe_fld (pv 1) rfl) (pa_cons (pe_fld (pv 1) rfl) pa_nil)))))
      pss_nil)))), ?_⟩
    refine ⟨_, rfl, _, _, _, _, _, rfl, hr0, T.k8.cl, T.k8.n_j34, lk_q85, rfl, ?_⟩
    have et : decide (nv r.taken = V.int 1) = (r.taken == 1) := by
      rw [dec1, Bool.eq_iff_iff]; simp
    refine ⟨_, rfl, _, _, _, _, _, rfl, ho, T.k9.cl, T.k9.n_j3, lk_q28, _, _, _, rfl, hb, nl_q5, _, rfl, _, _, _, _, _, rfl, hr0, T.k8.cl, T.k8.n_j0, lk_q62, _, rfl, z.A, s.guess, s.br, r.address, (r.taken == 1), ?_, W.br, W.bo, fun H1 B1 k1 => ?_⟩
    · show [V.ref (z.A 0), nv r.address, V.bl (decide (nv r.taken = V.int 1))] = _
      rw [et]
    obtain ⟨W1, st1⟩ := W.brUp B1 k1 (branched_ok W.bo _ _) (branched_rest _ _ _ _)
    refine ⟨_, rfl, _, rfl, ?_⟩
    rw [et]
    cases ek : (r.taken == 1) with
    | false =>
      rw [ek] at q W1
      exact iteF (q H1 lab ⟨z, m, W1⟩ st1)
    | true =>
      rw [ek] at q W1
      obtain ⟨hr1, la1⟩ := st1 _ _ hr0 la
      obtain ⟨dx1, ho1⟩ := W1.o
      obtain ⟨dt, htg⟩ := W1.tg.o
      refine iteT ⟨_, rfl, _, _, _, _, _, rfl, ho1, T.k9.cl, T.k9.n_j35, lk_q37, _, _, _, rfl, htg, nl_q20, _, rfl, _, _, _, _, _, rfl, hr1, T.k8.cl, T.k8.n_j0, lk_q62, _, rfl, _, _, _, _, _, rfl, hr1, T.k8.cl, T.k8.n_j36, lk_q108, lab, z.ta, z.tl, s.guess, _, r.address, r.to, rfl, W1.tg, W1.to, W1.w8, W1.t10, W1.tot, fun H2 lab2 T2 up => ?_⟩
      obtain ⟨W2, st2⟩ := W1.tgUp T2 up
      exact q H2 lab2 ⟨z, m, W2⟩ (st1.trans st2)
theorem ok_q8 (T : Txt K mg t) (F : Fun K "follow_jump" "Processor.follow_jump" s_q8 f fd) : FnOk P w K mg base CX0 8 f fd ["self", "record"] (spFJ t) := by
  obtain ⟨f_q87, fd_q87, F_q87, b_q87, M_q87⟩ := T.k7.m_h16
  have G_q87 := ok_q87 (P := P) (w := w) (base := base) T F_q87
  obtain ⟨f_q20, fd_q20, F_q20, b_q20, M_q20⟩ := T.k6.m_h11
  have G_q20 := ok_q20 (P := P) (w := w) (base := base) T F_q20
  refine F.ok sc_q8 (fun vs H Q E h => ?_) (fun cdv A outer s H vs Q E hr h => ?_)
  · obtain ⟨lab, p, a, s, r, rfl, _⟩ := h
    rfl
  · obtain ⟨lab, p, a, s, r, rfl, ⟨z, m, W⟩, ⟨dr, hr0⟩, la, hk, q⟩ := h
    obtain ⟨dx, ho⟩ := W.o
    obtain ⟨dt, htg⟩ := W.tg.o
    refine ⟨_, (pss_cons (ps_expr (pe_meth (pe_fld (pv 0) rfl) T.k6.cl M_q20 G_q20 (hr.mono (by omega)) b_q20 .nil pass0 (pa_cons (pe_fld (pv 1) rfl) (pa_cons (pe_fld (pv 1) rfl) pa_nil))))
      (pss_one (ps_if (pt_cmpR op_eq (pe_fld (pv 1) rfl) (pgl T.c_CALL) (nomark _))
      (pss_one (ps_expr (pe_meth (pe_fld (pv 0) rfl) T.k7.cl M_q87 G_q87 (hr.mono (by omega)) b_q87 .nil pass0 (pa_cons (pe_op op_add (pe_fld (pv 1) rfl) (pe_fld (pv 1) rfl)) pa_nil))))
      pss_nil))), ?_⟩
    refine ⟨_, rfl, _, _, _, _, _, rfl, ho, T.k9.cl, T.k9.n_j35, lk_q37, _, _, _, rfl, htg, nl_q20, _, rfl, _, _, _, _, _, rfl, hr0, T.k8.cl, T.k8.n_j0, lk_q62, _, rfl, _, _, _, _, _, rfl, hr0, T.k8.cl, T.k8.n_j36, lk_q108, lab, z.ta, z.tl, s.guess, s.br, r.address, r.to, rfl, W.tg, W.to, W.w8, W.t10, W.tot, fun H2 lab2 T2 up => ?_⟩
    obtain ⟨W2, st2⟩ := W.tgUp T2 up
    obtain ⟨hr2, la2⟩ := st2 _ _ hr0 la
    refine ⟨_, rfl, _, _, _, _, _, rfl, hr2, T.k8.cl, T.k8.n_j16, lk_q100, rfl, _, rfl, ?_⟩
    refine ite2 (fun c => ?_) (fun c => ?_)
    · have c := isk c
      have k5 : r.kind = 5 := by omega
      rw [follow5 k5] at q
      obtain ⟨dx2, ho2⟩ := W2.o
      obtain ⟨drt, hrt⟩ := W2.rt.1
      refine ⟨_, rfl, _, _, _, _, _, rfl, ho2, T.k9.cl, T.k9.n_j30, lk_q36, _, _, _, rfl, hrt, nl_q87, _, rfl, _, _, _, _, _, rfl, hr2, T.k8.cl, T.k8.n_j0, lk_q62, _, rfl, _, _, _, _, _, rfl, hr2, T.k8.cl, T.k8.n_j32, lk_q101, _, _, rfl, rfl, z.ra, z.rl, _, _, _, _, r.address + r.size, rfl, W2.rt, W2.st, fun H3 l' R3 n3 k3 => ?_⟩
      obtain ⟨W3, st3⟩ := W2.rtUp R3 n3 k3 (by rw [List.length_take]; have := W2.r64; omega)
      exact q H3 _ ⟨_, m, W3⟩ (st2.trans st3)
    · have c := isnk c
      have k4 : r.kind = 4 := by omega
      rw [follow4 k4] at q
      exact q H2 lab2 ⟨z, m, W2⟩ st2
theorem ok_q41 (T : Txt K mg t) (F : Fun K "follow" "Processor.follow" s_q41 f fd) : FnOk P w K mg base CX0 32 f fd ["self", "record"] (spFollow t) := by
  obtain ⟨f_q25, fd_q25, F_q25, b_q25, M_q25⟩ := T.k4.m_h2
  have G_q25 := ok_q25 (P := P) (w := w) (base := base) T F_q25
  obtain ⟨f_q4, fd_q4, F_q4, b_q4, M_q4⟩ := T.k9.m_h10
  have G_q4 := ok_q4 (P := P) (w := w) (base := base) T F_q4
  obtain ⟨f_q8, fd_q8, F_q8, b_q8, M_q8⟩ := T.k9.m_h11
  have G_q8 := ok_q8 (P := P) (w := w) (base := base) T F_q8
  obtain ⟨f_q9, fd_q9, F_q9, b_q9, M_q9⟩ := T.k7.m_h12
  have G_q9 := ok_q9 (P := P) (w := w) (base := base) T F_q9
  refine F.ok sc_q41 (fun vs H Q E h => ?_) (fun cdv A outer s H vs Q E hr h => ?_)
  · obtain ⟨lab, p, a, s, r, rfl, _⟩ := h
    rfl
  · obtain ⟨lab, p, a, s, r, rfl, PA, ⟨dr, hr0⟩, la, hok, q⟩ := h
    obtain ⟨z, m, W⟩ := PA
    obtain ⟨dx, ho⟩ := W.o
    have rt : r.kind ≤ 6 ∧ r.taken ≤ 1 ∧ 1 ≤ r.size ∧ r.size ≤ 4096 ∧ r.address + r.size ≤ 2 ^ 48 ∧ r.to < 2 ^ 48 := by
      have er : r.right = (decide (r.kind ≤ 6) && (decide (r.taken ≤ 1) && (decide (1 ≤ r.size) && (decide (r.size ≤ 4096) && (decide (r.address + r.size ≤ 2 ^ 48) && decide (r.to < 2 ^ 48)))))) := rfl
      rw [er] at hok
      simpa only [Bool.and_eq_true, decide_eq_true_eq] using hok
    have n2 := W.pre.n2
    have ca : ∀ i, i < m.caches.length → ∃ c dc, m.caches[i]? = some c ∧ H (z.L (.cache i)) = some (.ins t.k4 dc (fC z.L m.caches.length i c)) := fun i hi => by
      obtain ⟨dc, e⟩ := W.mem.ca i _ (List.getElem?_eq_getElem hi)
      exact ⟨_, dc, List.getElem?_eq_getElem hi, e⟩
    obtain ⟨c0, dc0, hc0, e0⟩ := ca 0 (by omega)
    obtain ⟨c1, dc1, hc1, e1⟩ := ca 1 (by omega)
    have touch : ∀ (i : Nat) (k : Bool) (H' : Hp), i < m.caches.length → MemInv t z.L (accBytes i r.address r.size k m) H' → FrL z.L H H' → Sd39.follow s r = { s with mem := Sd39.touch i r.address r.size k s.mem } → Q .non H' := fun i k H' hi I' fr ef => by
      obtain ⟨R, g⟩ := touch_rel (i := i) (w := k) W.pre W.n4 (by omega) rt.2.2.2.2.1
      obtain ⟨W', st'⟩ := W.memUp I' fr R g
      rw [← ef] at W'
      exact q H' lab ⟨z, _, W'⟩ st'
    refine ⟨_, (pss_one (ps_if (pt_cmpR op_eq (pe_fld (pv 1) rfl) (pgl T.c_FETCH) (nomark _))
      (pss_one (ps_expr (pe_meth (pe_ix ix_list (pe_fld (pv 0) rfl) pe_int (fun _ _ => rfl)) T.k4.cl M_q25 G_q25 (hr.mono (by omega)) b_q25 .nil pass0 (pa_cons (pe_fld (pv 1) rfl) (pa_cons (pe_fld (pv 1) rfl) (pa_cons pe_bl pa_nil))))))
      (pss_one (ps_if (pw_or (pt_cmpR op_eq (pe_fld (pv 1) rfl) (pgl T.c_READ) (nomark _)) (pw_or1 (pt_cmpR op_eq (pe_fld (pv 1) rfl) (pgl T.c_WRITE) (nomark _)))).pt
      (pss_one (ps_expr (pe_meth (pe_ix ix_list (pe_fld (pv 0) rfl) pe_int (fun _ _ => rfl)) T.k4.cl M_q25 G_q25 (hr.mono (by omega)) b_q25 .nil pass0 (pa_cons (pe_fld (pv 1) rfl) (pa_cons (pe_fld (pv 1) rfl) (pa_cons (pe_cmpR op_eq (pe_fld (pv 1) rfl) (pgl T.c_WRITE) (nomark _)) pa_nil))))))
      (pss_one (ps_if (pt_cmpR op_eq (pe_fld (pv 1) rfl) (pgl T.c_BRANCH) (nomark _))
      (pss_one (ps_expr (pe_meth (pv 0) T.k9.cl M_q4 G_q4 (hr.mono (by omega)) b_q4 .nil pass0 (pa_cons (pv 1) pa_nil))))
      (pss_one (ps_if (pw_or (pt_cmpR op_eq (pe_fld (pv 1) rfl) (pgl T.c_JUMP) (nomark _)) (pw_or1 (pt_cmpR op_eq (pe_fld (pv 1) rfl) (pgl T.c_CALL) (nomark _)))).pt
      (pss_one (ps_expr (pe_meth (pv 0) T.k9.cl M_q8 G_q8 (hr.mono (by omega)) b_q8 .nil pass0 (pa_cons (pv 1) pa_nil))))
      (pss_one (ps_expr (pe_meth (pe_fld (pv 0) rfl) T.k7.cl M_q9 G_q9 (hr.mono (by omega)) b_q9 .nil pass0 (pa_cons (pe_fld (pv 1) rfl) pa_nil)))))))))))), ?_⟩
    refine ⟨_, rfl, _, _, _, _, _, rfl, hr0, T.k8.cl, T.k8.n_j16, lk_q100, rfl, _, rfl, ?_⟩
    refine ite2 (fun c => ?_) (fun c => ?_)
    · have c := isk c
      refine ⟨_, rfl, _, _, _, _, _, rfl, ho, T.k9.cl, T.k9.n_j7, lk_q40, z.cl, _, _, .ref (z.L (.cache 0)), rfl, rfl, SqL.of W.cl, at_nat (j := 0) rfl (by rw [List.getElem?_map, List.getElem?_range (by omega)]; rfl), _, _, _, rfl, e0, nl_q25, _, rfl, _, _, _, _, _, rfl, hr0, T.k8.cl, T.k8.n_j0, lk_q62, _, rfl, _, _, _, _, _, rfl, hr0, T.k8.cl, T.k8.n_j32, lk_q101, z.L, m, 0, r.address, r.size, false, rfl, W.mem, W.pre.O, n2, W.n4, by omega, by omega, rt.2.2.2.2.1, fun H' I' fr => touch 0 false H' (by omega) I' fr ?_⟩
      unfold Sd39.follow
      rw [if_pos (by omega)]
    have k0 : r.kind ≠ 0 := fun y => isnk c (by rw [y]; rfl)
    have body12 : ∀ k : Bool, (r.kind = 1 ∧ k = false ∨ r.kind = 2 ∧ k = true) → ∀ H', MemInv t z.L (accBytes 1 r.address r.size k m) H' → FrL z.L H H' → Q .non H' := fun k hk H' I' fr => touch 1 k H' (by omega) I' fr (by
      unfold Sd39.follow
      rw [if_neg k0]
      rcases hk with ⟨h1, h2⟩ | ⟨h1, h2⟩
      · rw [if_pos h1, h2]
      · rw [if_neg (by omega), if_pos h1, h2])
    have go12 : (r.kind = 1 ∨ r.kind = 2) → (decide (nv r.kind = V.int 2) = false ∧ r.kind = 1 ∨ decide (nv r.kind = V.int 2) = true ∧ r.kind = 2) := fun h => by
      rcases h with h | h
      · exact .inl ⟨by rw [h]; rfl, h⟩
      · exact .inr ⟨by rw [h]; rfl, h⟩
    have do12 : (r.kind = 1 ∨ r.kind = 2) → ∀ H', MemInv t z.L (accBytes 1 r.address r.size (decide (nv r.kind = V.int 2)) m) H' → FrL z.L H H' → Q .non H' := fun h => body12 _ (by
      rcases go12 h with ⟨h1, h2⟩ | ⟨h1, h2⟩
      · exact .inl ⟨h2, h1⟩
      · exact .inr ⟨h2, h1⟩)
    refine ⟨_, rfl, _, _, _, _, _, rfl, hr0, T.k8.cl, T.k8.n_j16, lk_q100, rfl, _, rfl, ?_⟩
    refine ite2 (fun c1 => ?_) (fun c1 => ?_)
    · have c1 := isk c1
      exact iteT ⟨_, rfl, _, _, _, _, _, rfl, ho, T.k9.cl, T.k9.n_j7, lk_q40, z.cl, _, _, .ref (z.L (.cache 1)), rfl, rfl, SqL.of W.cl, at_nat (j := 1) rfl (by rw [List.getElem?_map, List.getElem?_range (by omega)]; rfl), _, _, _, rfl, e1, nl_q25, _, rfl, _, _, _, _, _, rfl, hr0, T.k8.cl, T.k8.n_j0, lk_q62, _, rfl, _, _, _, _, _, rfl, hr0, T.k8.cl, T.k8.n_j32, lk_q101, _, rfl, _, _, _, _, _, rfl, hr0, T.k8.cl, T.k8.n_j16, lk_q100, rfl, z.L, m, 1, r.address, r.size, decide (nv r.kind = V.int 2), rfl, W.mem, W.pre.O, n2, W.n4, by omega, by omega, rt.2.2.2.2.1, do12 (.inl (by omega))⟩
    have k1 : r.kind ≠ 1 := fun y => isnk c1 (by rw [y]; rfl)
    refine ⟨_, rfl, _, _, _, _, _, rfl, hr0, T.k8.cl, T.k8.n_j16, lk_q100, rfl, _, rfl, ?_⟩
    refine ite2 (fun c2 => ?_) (fun c2 => ?_)
    · have c2 := isk c2
      exact ⟨_, rfl, _, _, _, _, _, rfl, ho, T.k9.cl, T.k9.n_j7, lk_q40, z.cl, _, _, .ref (z.L (.cache 1)), rfl, rfl, SqL.of W.cl, at_nat (j := 1) rfl (by rw [List.getElem?_map, List.getElem?_range (by omega)]; rfl), _, _, _, rfl, e1, nl_q25, _, rfl, _, _, _, _, _, rfl, hr0, T.k8.cl, T.k8.n_j0, lk_q62, _, rfl, _, _, _, _, _, rfl, hr0, T.k8.cl, T.k8.n_j32, lk_q101, _, rfl, _, _, _, _, _, rfl, hr0, T.k8.cl, T.k8.n_j16, lk_q100, rfl, z.L, m, 1, r.address, r.size, decide (nv r.kind = V.int 2), rfl, W.mem, W.pre.O, n2, W.n4, by omega, by omega, rt.2.2.2.2.1, do12 (.inr (by omega))⟩
    have k2 : r.kind ≠ 2 := fun y => isnk c2 (by rw [y]; rfl)
    refine ⟨_, rfl, _, _, _, _, _, rfl, hr0, T.k8.cl, T.k8.n_j16, lk_q100, rfl, _, rfl, ?_⟩
    refine ite2 (fun c3 => ?_) (fun c3 => ?_)
    · have c3 := isk c3
      exact ⟨_, rfl, _, _, _, rfl, ho, nl_q4, _, rfl, lab, p, a, s, r, rfl, ⟨z, m, W⟩, ⟨dr, hr0⟩, la, by omega, q⟩
    have k3 : r.kind ≠ 3 := fun y => isnk c3 (by rw [y]; rfl)
    refine ⟨_, rfl, _, _, _, _, _, rfl, hr0, T.k8.cl, T.k8.n_j16, lk_q100, rfl, _, rfl, ?_⟩
    refine ite2 (fun c4 => ?_) (fun c4 => ?_)
    · have c4 := isk c4
      exact iteT ⟨_, rfl, _, _, _, rfl, ho, nl_q8, _, rfl, lab, p, a, s, r, rfl, ⟨z, m, W⟩, ⟨dr, hr0⟩, la, .inl (by omega), q⟩
    have k4 : r.kind ≠ 4 := fun y => isnk c4 (by rw [y]; rfl)
    refine ⟨_, rfl, _, _, _, _, _, rfl, hr0, T.k8.cl, T.k8.n_j16, lk_q100, rfl, _, rfl, ?_⟩
    refine ite2 (fun c5 => ?_) (fun c5 => ?_)
    · have c5 := isk c5
      exact ⟨_, rfl, _, _, _, rfl, ho, nl_q8, _, rfl, lab, p, a, s, r, rfl, ⟨z, m, W⟩, ⟨dr, hr0⟩, la, .inr (by omega), q⟩
    have k5 : r.kind ≠ 5 := fun y => isnk c5 (by rw [y]; rfl)
    have k6 : r.kind = 6 := by have := rt.1; omega
    obtain ⟨drt, hrt⟩ := W.rt.1
    rw [follow6 k6] at q
    refine ⟨_, rfl, _, _, _, _, _, rfl, ho, T.k9.cl, T.k9.n_j30, lk_q36, _, _, _, rfl, hrt, nl_q9, _, rfl, _, _, _, _, _, rfl, hr0, T.k8.cl, T.k8.n_j36, lk_q108, z.ra, z.rl, _, _, _, _, r.to, rfl, W.rt, fun H3 l' R3 n3 k3' => ?_⟩
    obtain ⟨W3, st3⟩ := W.rtUp R3 n3 k3' (by rw [List.length_drop]; have := W.st; omega)
    exact q H3 _ ⟨_, m, W3⟩ st3
end
end CG
namespace CG
open PySem PySem.Spec PyProof.Rows L2
def runS (s : Sd39.St) (rs : List Sd39.Rec) : Sd39.St × Int := match Sd39.firstWrong rs with
  | some k => (s, -2 - (k : Int))
  | none => (rs.foldl Sd39.follow s, 0)
def spRun (t : Cs) : Sp := fun vs H Q _ => ∃ (lab : Addr → Nat) (p l : Addr) (s : Sd39.St) (ns : List Nat) (k : Nat), vs = [.ref p, .ref l] ∧ PrAt t H lab p s ∧ H l = some (.lst (ns.map nv)) ∧ ns.length = 5 * k ∧ k ≤ 16000 ∧
  ∀ (H' : Hp) (lab' : Addr → Nat), PrAt t H' lab' p (runS s (Sd39Neutral.recs ns)).1 → Stp H H' lab lab' → Q (.int (runS s (Sd39Neutral.recs ns)).2) H'
def spTold (t : Cs) : Sp := fun vs H Q _ => ∃ (lab : Addr → Nat) (p : Addr) (s : Sd39.St), vs = [.ref p] ∧ PrAt t H lab p s ∧ ∀ (H' : Hp) (q : Addr), H' q = some (.lst (((Sd39.told s).length :: Sd39.told s).map nv)) → H q = none → Same H H' → Q (.ref q) H'
theorem all_right {rs : List Sd39.Rec} (h : Sd39.firstWrong rs = none) {i : Nat} {r : Sd39.Rec} (hr : rs[i]? = some r) : r.right = true := by
  unfold Sd39.firstWrong at h
  rw [List.findIdx?_eq_none_iff] at h
  have := h r (List.mem_of_getElem? hr)
  simpa using this
theorem PrW.lab0 {t : Cs} {H : Hp} {lab : Addr → Nat} {p : Addr} {s : Sd39.St} {z : Pts} {m : MMem} (W : PrW t H lab p s z m) {b : Addr} (h : H b = none) : lab b = 0 := by
  by_cases e : lab b = 0
  · exact e
  · obtain ⟨o, q⟩ := W.tot b e
    rw [h] at q; cases q
theorem PrAt.same {t : Cs} {H H' : Hp} {lab : Addr → Nat} {p : Addr} {s : Sd39.St} (W : PrAt t H lab p s) (k : Same H H') : PrAt t H' lab p s := by
  obtain ⟨z, m, W⟩ := W
  exact ⟨z, m, W.same fun b o e _ => k b o e⟩
theorem ext_go {R : Hp → Prop} {H Hk : Hp} {N q : Addr} {xs zs : List V} (sm : Same H Hk) (nN : H N = none) (hN : Hk N = some (.lst xs)) (nq : Hk q = none) (k : ∀ H2, H2 N = some (.lst (xs ++ zs)) → Same H H2 → R H2) : R (upd (upd Hk q (.lst zs)) N (.lst (xs ++ zs))) :=
  k _ upd_same fun b o e => by rw [upd_ne (ne_of_none e nN)]; exact new_ne nq _ _ (sm _ _ e)
def nums (m : MMem) (s : Sd39.St) : List Nat := m.caches.flatMap counted ++ [m.reads, m.writes] ++ [s.br.branches, s.br.wrong] ++ [s.br.jumps, s.br.missed] ++ [s.br.returns, s.br.lost]
theorem told_eq {m : MMem} {s : Sd39.St} (P : PreR m s.mem) : Sd39.told s = (nums m s).map fun n => n % 2 ^ 64 := by
  unfold Sd39.told nums
  have e : s.mem.levels.flatMap (fun l => [l.counts.readHits, l.counts.readMisses, l.counts.writeHits, l.counts.writeMisses, l.counts.away, l.counts.ahead]) = m.caches.flatMap counted := by
    rw [List.flatMap_def, List.flatMap_def]
    congr 1
    apply List.ext_getElem?
    intro i
    rw [List.getElem?_map, List.getElem?_map]
    cases hc : m.caches[i]? with
    | none =>
      have hn : s.mem.levels[i]? = none := List.getElem?_eq_none (by rw [P.R.len]; exact List.getElem?_eq_none_iff.mp hc)
      rw [hn]; rfl
    | some c =>
      obtain ⟨l, hl, L⟩ := P.R.at_ hc
      rw [hl]
      show some [l.counts.readHits, l.counts.readMisses, l.counts.writeHits, l.counts.writeMisses, l.counts.away, l.counts.ahead] = some (counted c)
      rw [L.cnt]
      rfl
  rw [e, P.R.rd, P.R.wr]
  refine congrArg (List.map fun n => n % 2 ^ 64) ?_
  simp only [List.append_assoc]
  rfl
theorem counted_len (m : MMem) (i : Nat) : ((m.caches.take i).flatMap counted).length ≤ 6 * i := by
  have : ∀ l : List MCache, (l.flatMap counted).length = 6 * l.length := fun l => by
    induction l with
    | nil => rfl
    | cons c l ih => rw [List.flatMap_cons, List.length_append, ih, List.length_cons]; show 6 + _ = _; omega
  rw [this, List.length_take]
  omega
section
variable {P : Program} {w : World} {K : W.Frag} {mg : Str → Option Value} {base : Heap} {t : Cs} {f : Addr} {fd : FuncData}
theorem ok_q74 (T : Txt K mg t) (F : Fun K "run" "Processor.run" s_q74 f fd) : FnOk P w K mg base CX0 35 f fd ["self", "numbers"] (spRun t) := by
  obtain ⟨f_q41, fd_q41, F_q41, b_q41, M_q41⟩ := T.k9.m_h9
  have G_q41 := ok_q41 (P := P) (w := w) (base := base) T F_q41
  obtain ⟨f_q103, fd_q103, F_q103, b_q103, g_q103⟩ := T.d_first_wrong
  have G_q103 := ok_q103 (P := P) (w := w) (base := base) T F_q103
  obtain ⟨f_q107, fd_q107, F_q107, b_q107, g_q107⟩ := T.d_records_of
  have G_q107 := ok_q107 (P := P) (w := w) (base := base) T F_q107
  refine F.ok sc_q74 (fun vs H Q E h => ?_) (fun cdv A outer s H vs Q E hr h => ?_)
  · obtain ⟨lab, p, l, s, ns, k, rfl, _⟩ := h
    rfl
  · obtain ⟨lab, p, l, s, ns, k, rfl, PA, hl, hn, hk, q⟩ := h
    refine ⟨_, (pss_cons (ps_set (i := 2) sc_q74.nd rfl (Or.inl rfl) (pe_call G_q107 (hr.mono (by omega)) rfl g_q107 F_q107.kp b_q107 .nil pass0 (pa_cons (pv 1) pa_nil)))
      (pss_cons (ps_if (pt_cmpR op_gt (pe_callB call_len_seq rfl T.b_len PySem.boot_len (pa_cons (pv 2) pa_nil)) (pgl T.c_MOST_RECORDS) (nomark _))
      (pss_one (ps_ret (pe_un un_neg pe_int)))
      pss_nil)
      (pss_cons (ps_set (i := 3) sc_q74.nd rfl (Or.inl rfl) (pe_call G_q103 (hr.mono (by omega)) rfl g_q103 F_q103.kp b_q103 .nil pass0 (pa_cons (pv 2) pa_nil)))
      (pss_cons (ps_if (pt_cmp (pc_notN (pv 3)))
      (pss_one (ps_ret (pe_op op_sub (pe_un un_neg pe_int) (pv 3))))
      pss_nil)
      (pss_cons (ps_for PassesOwn.never rfl (pi_list (pv 2)) (pg_name (i := 4) sc_q74.nd rfl (Or.inl rfl))
      (pss_one (ps_expr (pe_meth (pv 0) T.k9.cl M_q41 G_q41 (hr.mono (by omega)) b_q41 .nil pass0 (pa_cons (pv 4) pa_nil)))))
      (pss_one (ps_ret pe_int))))))), ?_⟩
    have hrl := (recs_get k ns hn).1
    generalize hrs : Sd39Neutral.recs ns = rs at q hrl
    refine ⟨_, rfl, l, ns, k, rfl, hl, hn, hk, fun H1 c as RA nc na s1 => ?_⟩
    rw [hrs] at RA
    have lab0 : ∀ b, H b = none → lab b = 0 := fun b h => by obtain ⟨z, m, W⟩ := PA; exact W.lab0 h
    refine ⟨_, rfl, c, _, rfl, .inl (SqL.of RA.l), _, _, rfl, rfl, _, rfl, ?_⟩
    refine ite2 (fun z => ?_) (fun z => ?_)
    · have z := of_decide_eq_true z
      rw [List.length_map, RA.n, hrl] at z
      exact absurd z (by show ¬ ((65536 : Int) < (k : Int)); omega)
    refine ⟨_, rfl, c, as, rs, rfl, RA, fun H2 s2 => ?_⟩
    have s12 := s1.trans s2
    unfold runS at q
    unfold firstV
    cases ew : Sd39.firstWrong rs with
    | some j =>
      rw [ew] at q
      refine ⟨_, rfl, _, rfl, iteT ⟨_, rfl, _, rfl, _, _, rfl, rfl, ?_⟩⟩
      exact q H2 lab (PA.same s12) (Stp.of_same s12)
    | none =>
      rw [ew] at q
      refine ⟨_, rfl, _, rfl, iteF ?_⟩
      have hc2 := s2 _ _ RA.l
      refine ⟨_, rfl, c, rfl, ⟨_, SqL.of hc2⟩, ?_⟩
      have lc : lab c = 0 := lab0 c nc
      refine for_list (K := K) (a := c) (xs := as.map V.ref) (fun i σ H' => ∃ (v : Option V) (lab' : Addr → Nat), σ = [some (.ref p), some (.ref l), some (.ref c), some .non, v] ∧ PrAt t H' lab' p ((rs.take i).foldl Sd39.follow s) ∧ Stp H2 H' lab lab') ⟨none, lab, rfl, by rw [List.take_zero]; exact PA.same s12, Stp.refl⟩ ?_ ?_ ?_
      · rintro i σ H' _ ⟨v, lab', rfl, _, st⟩
        exact SqL.of (st _ _ hc2 lc).1
      · rintro i y σ H' hy ⟨v, lab', rfl, PA', st⟩
        rw [List.getElem?_map] at hy
        cases ea : as[i]? with
        | none => rw [ea] at hy; cases hy
        | some a =>
          rw [ea] at hy
          cases hy
          have hin : i < rs.length := by rw [← RA.n]; exact (List.getElem?_eq_some_iff.mp ea).1
          have hr := List.getElem?_eq_getElem hin
          generalize rs[i] = r at hr
          obtain ⟨dr, hra⟩ := RA.e i a r ea hr
          obtain ⟨hra', la'⟩ := st _ _ (s2 _ _ hra) (lab0 a (na a (List.mem_of_getElem? ea)))
          obtain ⟨z, m, W⟩ := PA'
          obtain ⟨dx, ho⟩ := W.o
          refine ⟨_, rfl, _, _, _, rfl, ho, nl_q41, _, rfl, lab', p, a, _, r, rfl, ⟨z, m, W⟩, ⟨dr, hra'⟩, la', all_right ew hr, fun H3 lab3 P3 st3 => ⟨_, lab3, rfl, ?_, st.trans st3⟩⟩
          have etk : rs.take (i + 1) = rs.take i ++ [r] := by rw [List.take_succ, hr]; rfl
          rw [etk, List.foldl_append]
          exact P3
      · rintro σ H' ⟨v, lab', rfl, P', st⟩
        rw [List.length_map, RA.n, List.take_length] at P'
        exact q H' lab' P' ((Stp.of_same s12).trans st)
end
end CG
namespace CG
open PySem PySem.Spec PyProof.Rows L2
section
variable {P : Program} {w : World} {K : W.Frag} {mg : Str → Option Value} {base : Heap} {t : Cs} {f : Addr} {fd : FuncData}
theorem ok_q61 (T : Txt K mg t) (F : Fun K "told" "Processor.told" s_q61 f fd) : FnOk P w K mg base CX0 3 f fd ["self"] (spTold t) := by
  obtain ⟨f_q69, fd_q69, F_q69, b_q69, M_q69⟩ := T.k4.m_h3
  have G_q69 := ok_q69 (P := P) (w := w) (base := base) T F_q69
  refine F.ok sc_q61 (fun vs H Q E h => ?_) (fun cdv A outer s H vs Q E hr h => ?_)
  · obtain ⟨lab, p, s, rfl, _⟩ := h
    rfl
  · obtain ⟨lab, p, s, rfl, ⟨z, m, W⟩, q⟩ := h
    obtain ⟨dx, ho⟩ := W.o
    rw [told_eq W.pre] at q
    refine ⟨_, (pss_cons (ps_set (i := 1) sc_q61.nd rfl (Or.inl rfl) (pe_lst pa_nil))
      (pss_cons (ps_for PassesOwn.never rfl (pi_list (pe_fld (pv 0) rfl)) (pg_name (i := 2) sc_q61.nd rfl (Or.inl rfl))
      (pss_one (ps_expr (pe_bm PySem.F.plainAttrs_list PySem.F.slot_list_extend PySem.F.type_list_extend mt_extend (pv 1) (pa_cons (pe_meth0 (pv 2) T.k4.cl M_q69 G_q69 (hr.mono (by omega)) b_q69 .nil pass0) pa_nil)))))
      (pss_cons (ps_expr (pe_bm PySem.F.plainAttrs_list PySem.F.slot_list_extend PySem.F.type_list_extend mt_extend (pv 1) (pa_cons (pe_lst (pa_cons (pe_fld (pe_fld (pv 0) rfl) rfl) (pa_cons (pe_fld (pe_fld (pv 0) rfl) rfl) pa_nil))) pa_nil)))
      (pss_cons (ps_expr (pe_bm PySem.F.plainAttrs_list PySem.F.slot_list_extend PySem.F.type_list_extend mt_extend (pv 1) (pa_cons (pe_lst (pa_cons (pe_fld (pe_fld (pv 0) rfl) rfl) (pa_cons (pe_fld (pe_fld (pv 0) rfl) rfl) pa_nil))) pa_nil)))
      (pss_cons (ps_expr (pe_bm PySem.F.plainAttrs_list PySem.F.slot_list_extend PySem.F.type_list_extend mt_extend (pv 1) (pa_cons (pe_lst (pa_cons (pe_fld (pe_fld (pv 0) rfl) rfl) (pa_cons (pe_fld (pe_fld (pv 0) rfl) rfl) pa_nil))) pa_nil)))
      (pss_cons (ps_expr (pe_bm PySem.F.plainAttrs_list PySem.F.slot_list_extend PySem.F.type_list_extend mt_extend (pv 1) (pa_cons (pe_lst (pa_cons (pe_fld (pe_fld (pv 0) rfl) rfl) (pa_cons (pe_fld (pe_fld (pv 0) rfl) rfl) pa_nil))) pa_nil)))
      (pss_one (ps_ret (pe_op op_cat (pe_lst (pa_cons (pe_callB call_len_seq rfl T.b_len PySem.boot_len (pa_cons (pv 1) pa_nil)) pa_nil)) (pe_lc (own := [("number", 3)]) rfl sc_q61.nd (pi_list (pv 1)) (blkOk_by (by rfl)) (fun _ _ _ _ _ => pg_name (i := 3) sc_q61.nd rfl (Or.inl rfl)) (fun _ _ _ _ _ => pts_nil) (fun _ _ _ _ _ => (pe_op op_mod (pv 3) (pgl T.c_COUNT_END))))))))))))), ?_⟩
    refine ⟨Nat.zero_le _, fun N nN => ?_⟩
    refine go_new nN fun H1 e1 s1 => ?_
    refine ⟨_, rfl, _, _, _, _, _, rfl, s1 _ _ ho, T.k9.cl, T.k9.n_j7, lk_q40, z.cl, rfl, ⟨_, SqL.of (s1 _ _ W.cl)⟩, ?_⟩
    have n4 := W.n4
    refine for_list (K := K) (a := z.cl) (xs := (List.range m.caches.length).map fun i => V.ref (z.L (.cache i))) (fun i σ H' => ∃ v : Option V, σ = [some (.ref p), some (.ref N), v, none] ∧ H' N = some (.lst (((m.caches.take i).flatMap counted).map nv)) ∧ Same H H') ⟨none, rfl, e1, s1⟩ ?_ ?_ ?_
    · rintro i σ H' _ ⟨v, rfl, _, sm⟩
      exact SqL.of (sm _ _ W.cl)
    · rintro i y σ H' hy ⟨v, rfl, hN, sm⟩
      rw [List.getElem?_map] at hy
      have hi : i < m.caches.length := by
        by_cases e : i < m.caches.length
        · exact e
        · rw [List.getElem?_eq_none (by rw [List.length_range]; omega)] at hy
          cases hy
      rw [List.getElem?_range hi] at hy
      cases hy
      have hc := List.getElem?_eq_getElem hi
      generalize m.caches[i] = c at hc
      have I' : MemInv t z.L m H' := W.mem.same fun r o e => sm _ _ e
      obtain ⟨dc, hoc⟩ := I'.ca i c hc
      refine ⟨_, rfl, .inl ⟨rfl, _, SqL.of hN⟩, _, rfl, _, _, _, rfl, hoc, nl_q69, z.L, m, i, c, rfl, I', hc, fun H2 u hu s2 nu => ?_⟩
      have hN2 := s2 _ _ hN
      refine ⟨N, u, _, _, rfl, rfl, hN2, hu, ?_, ?_⟩
      · have := counted_len m i
        rw [List.length_map, List.length_map, CG.sl]
        show _ + 6 ≤ _
        omega
      refine ⟨_, rfl, ?_, fun b o e => by rw [upd_ne (ne_of_none e nN)]; exact s2 _ _ (sm _ _ e)⟩
      have etk : m.caches.take (i + 1) = m.caches.take i ++ [c] := by rw [List.take_succ, hc]; rfl
      rw [upd_same, etk, List.flatMap_append, List.map_append]
      simp
    · rintro σ H' ⟨v, rfl, hN, sm⟩
      rw [List.length_map, List.length_range, List.take_length] at hN
      have l0 : (m.caches.flatMap counted).length ≤ 24 := by
        have := counted_len m m.caches.length
        rw [List.take_length] at this
        omega
      have W' := W.same (H' := H') fun b o e _ => sm _ _ e
      obtain ⟨dm, hm⟩ := W'.mem.mm
      refine ⟨_, rfl, .inl ⟨rfl, _, SqL.of hN⟩, _, rfl, _, _, _, _, _, rfl, sm _ _ ho, T.k9.cl, T.k9.n_j21, lk_q42, _, _, _, _, _, rfl, hm, T.k3.cl, T.k3.n_j27, lk_q83, _, rfl, _, _, _, _, _, rfl, sm _ _ ho, T.k9.cl, T.k9.n_j21, lk_q42, _, _, _, _, _, rfl, hm, T.k3.cl, T.k3.n_j41, lk_q73, (by show 2 ≤ sizeLine; decide), fun u nu => ?_⟩
      refine ⟨N, u, _, _, rfl, rfl, new_ne nu _ _ hN, upd_same, by rw [List.length_map, CG.sl]; show _ + 2 ≤ _; omega, ?_⟩
      refine ext_go sm nN hN nu fun H2 hN2 sm2 => ?_
      clear W' hm dm
      have W' := W.same (H' := H2) fun b o e _ => sm2 _ _ e
      obtain ⟨db, hb⟩ := W'.br.o
      refine ⟨_, rfl, .inl ⟨rfl, _, SqL.of hN2⟩, _, rfl, _, _, _, _, _, rfl, sm2 _ _ ho, T.k9.cl, T.k9.n_j3, lk_q28, _, _, _, _, _, rfl, hb, T.k1.cl, T.k1.n_j3, lk_q31, _, rfl, _, _, _, _, _, rfl, sm2 _ _ ho, T.k9.cl, T.k9.n_j3, lk_q28, _, _, _, _, _, rfl, hb, T.k1.cl, T.k1.n_j45, lk_q54, (by show 2 ≤ sizeLine; decide), fun u2 nu2 => ?_⟩
      refine ⟨N, u2, _, _, rfl, rfl, new_ne nu2 _ _ hN2, upd_same, by rw [List.length_append, List.length_map, CG.sl]; show _ + 2 + 2 ≤ _; omega, ?_⟩
      refine ext_go sm2 nN hN2 nu2 fun H3 hN3 sm3 => ?_
      clear W' hb db
      have W' := W.same (H' := H3) fun b o e _ => sm3 _ _ e
      obtain ⟨dt, ht⟩ := W'.tg.o
      refine ⟨_, rfl, .inl ⟨rfl, _, SqL.of hN3⟩, _, rfl, _, _, _, _, _, rfl, sm3 _ _ ho, T.k9.cl, T.k9.n_j35, lk_q37, _, _, _, _, _, rfl, ht, T.k6.cl, T.k6.n_j14, lk_q75, _, rfl, _, _, _, _, _, rfl, sm3 _ _ ho, T.k9.cl, T.k9.n_j35, lk_q37, _, _, _, _, _, rfl, ht, T.k6.cl, T.k6.n_j38, lk_q52, (by show 2 ≤ sizeLine; decide), fun u3 nu3 => ?_⟩
      refine ⟨N, u3, _, _, rfl, rfl, new_ne nu3 _ _ hN3, upd_same, by rw [List.length_append, List.length_append, List.length_map, CG.sl]; show _ + 2 + 2 + 2 ≤ _; omega, ?_⟩
      refine ext_go sm3 nN hN3 nu3 fun H4 hN4 sm4 => ?_
      clear W' ht dt
      have W' := W.same (H' := H4) fun b o e _ => sm4 _ _ e
      obtain ⟨dr, hrt⟩ := W'.rt.1
      refine ⟨_, rfl, .inl ⟨rfl, _, SqL.of hN4⟩, _, rfl, _, _, _, _, _, rfl, sm4 _ _ ho, T.k9.cl, T.k9.n_j30, lk_q36, _, _, _, _, _, rfl, hrt, T.k7.cl, T.k7.n_j30, lk_q51, _, rfl, _, _, _, _, _, rfl, sm4 _ _ ho, T.k9.cl, T.k9.n_j30, lk_q36, _, _, _, _, _, rfl, hrt, T.k7.cl, T.k7.n_j19, lk_q89, (by show 2 ≤ sizeLine; decide), fun u4 nu4 => ?_⟩
      refine ⟨N, u4, _, _, rfl, rfl, new_ne nu4 _ _ hN4, upd_same, by rw [List.length_append, List.length_append, List.length_append, List.length_map, CG.sl]; show _ + 2 + 2 + 2 + 2 ≤ _; omega, ?_⟩
      refine ext_go sm4 nN hN4 nu4 fun H5 hN5 sm5 => ?_
      clear W' hrt dr
      have hN5 : H5 N = some (.lst ((nums m s).map nv)) := by
        rw [hN5]
        unfold nums
        simp only [List.map_append]
        rfl
      have ln : (nums m s).length ≤ 32 := by
        unfold nums
        simp only [List.length_append, List.length_cons, List.length_nil]
        omega
      generalize nums m s = ns at hN5 ln q
      refine ⟨_, rfl, N, _, rfl, .inl (SqL.of hN5), (by show 1 ≤ sizeLine; decide), fun L1 n1 => ?_⟩
      have s6 : Same H5 (upd H5 L1 (.lst [.int ((ns.map nv).length : Int)])) := new_ne n1
      have hN6 := s6 _ _ hN5
      refine ⟨_, rfl, N, rfl, ⟨_, SqL.of hN6⟩, fun D hD => ?_⟩
      refine lc_list (K := K) (a := N) (xs := ns.map nv) (fun i H' => H' D = some (.lst (((ns.take i).map fun n => n % 2 ^ 64).map nv)) ∧ Same (upd H5 L1 (.lst [.int ((ns.map nv).length : Int)])) H') ⟨by rw [List.take_zero]; exact upd_same, new_ne hD⟩ ?_ ?_ ?_
      · rintro i H' _ ⟨_, s7⟩
        exact SqL.of (s7 _ _ hN6)
      · rintro i y H' hy ⟨hD', s7⟩
        rw [List.getElem?_map] at hy
        cases ey : ns[i]? with
        | none => rw [ey] at hy; cases hy
        | some x =>
          rw [ey] at hy
          cases hy
          refine ⟨rfl, tYes2 (iteT ?_)⟩
          refine ⟨_, rfl, _, _, rfl, rfl, (by show (0 : Int) < 18446744073709551616; decide), _, hD', ?_, ?_, fun b o e => by rw [upd_ne (ne_of_none e hD)]; exact s7 _ _ e⟩
          · rw [List.length_map, List.length_map, List.length_take, CG.sl]; omega
          · have etk : ns.take (i + 1) = ns.take i ++ [x] := by rw [List.take_succ, ey]; rfl
            rw [upd_same, etk, List.map_append, List.map_append]
            rfl
      · rintro H' ⟨hD', s7⟩
        rw [List.length_map, List.take_length] at hD'
        refine ⟨L1, D, _, _, rfl, rfl, s7 _ _ upd_same, hD', by simp only [List.length_map, List.length_cons, List.length_nil, CG.sl]; omega, fun u5 nu5 => ?_⟩
        refine q _ u5 ?_ (sm5.free (s6.free (s7.free nu5))) ((sm5.trans (s6.trans s7)).trans (new_ne nu5))
        rw [upd_same, List.length_map, List.length_map]
        rfl
end
end CG
namespace CG
open PySem PySem.Spec PyProof.Rows L2
def spPrInit (t : Cs) : Sp := fun vs H Q _ => ∃ (p : Addr) (n : Nat) (l : Addr) (ts : List Nat), vs = [.ref p, nv n, .ref l] ∧ Fresh H p t.k9 ∧ 2 ≤ n ∧ n ≤ 4 ∧ H l = some (.lst (ts.map nv)) ∧ ts.length = 6 * n + 7 ∧ SetOkP n ts ∧
  ∀ (H' : Hp) (lab : Addr → Nat), PrAt t H' lab p (Sd39.begun ((List.range n).map (Sd39.cacheOf ts)) (Sd39.guessOf ts n)) → (∀ b, lab b ≠ 0 → b = p ∨ H b = none) → But H H' [p] → Q .non H'
noncomputable def labOf (p : Addr) (z : Pts) (as : List Addr) (b : Addr) : Nat :=
  open Classical in if b = p ∨ b = z.cl then 5 else if ∃ r, z.L r = b then 1 else if ∃ i, i < 10 ∧ z.A i = b then 2 else if b = z.ta ∨ b = z.tl ∨ b ∈ as then 3 else if b = z.ra ∨ b = z.rl then 4 else 0
theorem pr_new {t : Cs} {H H' : Hp} {p : Addr} {z : Pts} {as : List Addr} {xs : List Six} {g : Sd39.Guess}
    (o : ∃ dx, H' p = some (.ins t.k9 dx (fl_k9 (.ref (z.L .mem)) (.ref z.cl) (.ref (z.A 0)) (.ref z.ta) (.ref z.ra)))) (cl : H' z.cl = some (.lst ((List.range xs.length).map fun i => V.ref (z.L (.cache i)))))
    (mem : MemInv t z.L (mem0 xs) H') (rep : ∀ r, ∃ r', RoleOk (mem0 xs) r' ∧ z.L r = z.L r') (h2 : 2 ≤ xs.length) (h4 : xs.length ≤ 4) (ok : ∀ x ∈ xs, x.ok = true) (ln : LinesOk xs) (gk : gOk g = true)
    (br : BrAt t H' z.A g (Sd39.fresh g)) (tg : ∃ dx, H' z.ta = some (.ins t.k6 dx (fl_k6 (.ref z.tl) (nv g.tways) (nv 0) (nv 0)))) (tl : H' z.tl = some (.lst (as.map V.ref))) (al : as.length = 2 ^ g.tsets) (ha : ∀ b ∈ as, H' b = some (.lst []) ∧ b ≠ z.tl)
    (rt : RtAt t H' z.ra z.rl g.returns [] 0 0)
    (n1 : ∀ r, z.L r ≠ p ∧ z.L r ≠ z.cl) (n2 : ∀ i, i < 10 → z.A i ≠ p ∧ z.A i ≠ z.cl ∧ ∀ r, z.L r ≠ z.A i) (n3 : ∀ b, b = z.ta ∨ b = z.tl ∨ b ∈ as → b ≠ p ∧ b ≠ z.cl ∧ (∀ r, z.L r ≠ b) ∧ ∀ i, i < 10 → z.A i ≠ b)
    (n4 : ∀ b, b = z.ra ∨ b = z.rl → b ≠ p ∧ b ≠ z.cl ∧ (∀ r, z.L r ≠ b) ∧ (∀ i, i < 10 → z.A i ≠ b) ∧ ¬ (b = z.ta ∨ b = z.tl ∨ b ∈ as)) :
    PrAt t H' (labOf p z as) p ⟨g, ⟨(xs.map Six.cache).map Sd39.levelOf, 0, 0, 0xACE1⟩, Sd39.fresh g⟩ := by
  obtain ⟨g1, g2, g3, g4, g5, g6, g7, g8⟩ := g_ok.mp gk
  have ls : (mem0 xs).caches.length = xs.length := List.length_map ..
  have e5 : labOf p z as p = 5 ∧ labOf p z as z.cl = 5 := ⟨if_pos (.inl rfl), if_pos (.inr rfl)⟩
  have e1 : ∀ r, labOf p z as (z.L r) = 1 := fun r => by
    unfold labOf
    rw [if_neg (fun q => q.elim (n1 r).1 (n1 r).2), if_pos ⟨r, rfl⟩]
  have e2 : ∀ i, i < 10 → labOf p z as (z.A i) = 2 := fun i hi => by
    unfold labOf
    rw [if_neg (fun q => q.elim (n2 i hi).1 (n2 i hi).2.1), if_neg (fun ⟨r, q⟩ => (n2 i hi).2.2 r q), if_pos ⟨i, hi, rfl⟩]
  have e3 : ∀ b, b = z.ta ∨ b = z.tl ∨ b ∈ as → labOf p z as b = 3 := fun b hb => by
    unfold labOf
    rw [if_neg (fun q => q.elim (n3 b hb).1 (n3 b hb).2.1), if_neg (fun ⟨r, q⟩ => (n3 b hb).2.2.1 r q), if_neg (fun ⟨i, hi, q⟩ => (n3 b hb).2.2.2 i hi q), if_pos hb]
  have e4 : ∀ b, b = z.ra ∨ b = z.rl → labOf p z as b = 4 := fun b hb => by
    unfold labOf
    rw [if_neg (fun q => q.elim (n4 b hb).1 (n4 b hb).2.1), if_neg (fun ⟨r, q⟩ => (n4 b hb).2.2.1 r q), if_neg (fun ⟨i, hi, q⟩ => (n4 b hb).2.2.2.1 i hi q), if_neg (n4 b hb).2.2.2.2, if_pos hb]
  refine ⟨z, mem0 xs, o, by rw [ls]; exact cl, mem, mem0_pre h2 h4 ok ln, by rw [ls]; exact h4, rep, br, fresh_ok g3 g1, ⟨tg, e3 _ (.inl rfl), e3 _ (.inr (.inl rfl)), as, tl, ?_, fun k b x hb hx => ?_⟩, fresh_tg g, g6.2, g5, rt, Nat.zero_le _, g7, e1, e2, ⟨e4 _ (.inl rfl), e4 _ (.inr rfl)⟩, e5, fun b hb => ?_⟩
  · show as.length = (List.replicate (2 ^ g.tsets) []).length
    rw [al, List.length_replicate]
  · have hx : (List.replicate (2 ^ g.tsets) ([] : List Sd39.Target))[k]? = some x := hx
    have hm := List.mem_of_getElem? hb
    have ex : x = [] := List.eq_of_mem_replicate (List.mem_of_getElem? hx)
    subst ex
    exact ⟨e3 b (.inr (.inr hm)), (ha b hm).2, [], (ha b hm).1, trivial, fun q hq => absurd hq (by simp)⟩
  · by_cases q5 : b = p ∨ b = z.cl
    · rcases q5 with q | q
      · obtain ⟨dx, e⟩ := o; rw [q]; exact ⟨_, e⟩
      · rw [q]; exact ⟨_, cl⟩
    by_cases q1 : ∃ r, z.L r = b
    · obtain ⟨r, rfl⟩ := q1
      obtain ⟨r', h', e'⟩ := rep r
      rw [e']; exact mem.som h'
    by_cases q2 : ∃ i, i < 10 ∧ z.A i = b
    · obtain ⟨i, hi, rfl⟩ := q2
      exact br.som hi
    by_cases q3 : b = z.ta ∨ b = z.tl ∨ b ∈ as
    · rcases q3 with q | q | q
      · obtain ⟨dx, e⟩ := tg; rw [q]; exact ⟨_, e⟩
      · rw [q]; exact ⟨_, tl⟩
      · exact ⟨_, (ha b q).1⟩
    by_cases q4 : b = z.ra ∨ b = z.rl
    · rcases q4 with q | q
      · obtain ⟨⟨dx, e⟩, _⟩ := rt; rw [q]; exact ⟨_, e⟩
      · rw [q]; exact ⟨_, rt.2⟩
    · have e0 : labOf p z as b = 0 := by
        unfold labOf
        rw [if_neg q5, if_neg q1, if_neg q2, if_neg q3, if_neg q4]
      exact absurd e0 hb
theorem lab_in {p : Addr} {z : Pts} {as : List Addr} {b : Addr} (h : labOf p z as b ≠ 0) : (b = p ∨ b = z.cl) ∨ (∃ r, z.L r = b) ∨ (∃ i, i < 10 ∧ z.A i = b) ∨ (b = z.ta ∨ b = z.tl ∨ b ∈ as) ∨ (b = z.ra ∨ b = z.rl) := by
  unfold labOf at h
  by_cases q5 : b = p ∨ b = z.cl
  · exact .inl q5
  by_cases q1 : ∃ r, z.L r = b
  · exact .inr (.inl q1)
  by_cases q2 : ∃ i, i < 10 ∧ z.A i = b
  · exact .inr (.inr (.inl q2))
  by_cases q3 : b = z.ta ∨ b = z.tl ∨ b ∈ as
  · exact .inr (.inr (.inr (.inl q3)))
  by_cases q4 : b = z.ra ∨ b = z.rl
  · exact .inr (.inr (.inr (.inr q4)))
  · rw [if_neg q5, if_neg q1, if_neg q2, if_neg q3, if_neg q4] at h
    exact absurd rfl h
section
variable {P : Program} {w : World} {K : W.Frag} {mg : Str → Option Value} {base : Heap} {t : Cs} {f : Addr} {fd : FuncData}
theorem ok_q60 (T : Txt K mg t) (F : Fun K "__init__" "Processor.__init__" s_q60 f fd) : FnOk P w K mg base CX0 8 f fd ["self", "n", "settings"] (spPrInit t) := by
  obtain ⟨f_q86, fd_q86, F_q86, b_q86, M_q86⟩ := T.k7.init
  have G_q86 := ok_q86 (P := P) (w := w) (base := base) T F_q86
  obtain ⟨f_q91, fd_q91, F_q91, b_q91, M_q91⟩ := T.k6.init
  have G_q91 := ok_q91 (P := P) (w := w) (base := base) T F_q91
  obtain ⟨f_q64, fd_q64, F_q64, b_q64, M_q64⟩ := T.k1.init
  have G_q64 := ok_q64 (P := P) (w := w) (base := base) T F_q64
  obtain ⟨f_q106, fd_q106, F_q106, b_q106, g_q106⟩ := T.d_new_caches
  have G_q106 := ok_q106 (P := P) (w := w) (base := base) T F_q106
  obtain ⟨f_q97, fd_q97, F_q97, b_q97, M_q97⟩ := T.k5.init
  have G_q97 := ok_q97 (P := P) (w := w) (base := base) T F_q97
  obtain ⟨f_q30, fd_q30, F_q30, b_q30, g_q30⟩ := T.d_settings_of_caches
  have G_q30 := ok_q30 (P := P) (w := w) (base := base) T F_q30
  obtain ⟨f_q98, fd_q98, F_q98, b_q98, M_q98⟩ := T.k3.init
  have G_q98 := ok_q98 (P := P) (w := w) (base := base) T F_q98
  obtain ⟨f_q21, fd_q21, F_q21, b_q21, g_q21⟩ := T.d_settings_of_guesses
  have G_q21 := ok_q21 (P := P) (w := w) (base := base) T F_q21
  refine F.ok sc_q60 (fun vs H Q E h => ?_) (fun cdv A outer s H vs Q E hr h => ?_)
  · obtain ⟨p, n, l, ts, rfl, _⟩ := h
    rfl
  · obtain ⟨p, n, l, ts, rfl, ⟨dx, hp⟩, h2, h4, hl, hts, hok, q⟩ := h
    have nlp : l ≠ p := ne_of hl hp (by intro z; cases z)
    obtain ⟨ok1, ok2, ok3⟩ := hok
    obtain ⟨g1, g2, g3, g4, g5, g6, g7, g8⟩ := g_ok.mp ok3
    have lsx := sixes_len ts n
    rw [sixes_cache] at q
    refine ⟨_, (pss_cons (ps_set (i := 3) sc_q60.nd rfl (Or.inl rfl) (pe_call G_q21 (hr.mono (by omega)) rfl g_q21 F_q21.kp b_q21 .nil pass0 (pa_cons (pv 1) (pa_cons (pv 2) pa_nil))))
      (pss_cons (ps_fld (pv 0) (pe_make0 M_q98 G_q98 (hr.mono (by omega)) rfl T.k3.mgC b_q98 .nil pass0) rfl)
      (pss_cons (ps_fld (pv 0) (pe_call G_q106 (hr.mono (by omega)) rfl g_q106 F_q106.kp b_q106 .nil pass0 (pa_cons (pe_call G_q30 (hr.mono (by omega)) rfl g_q30 F_q30.kp b_q30 .nil pass0 (pa_cons (pv 1) (pa_cons (pv 2) pa_nil))) (pa_cons (pe_make0 M_q97 G_q97 (hr.mono (by omega)) rfl T.k5.mgC b_q97 .nil pass0) (pa_cons (pe_fld (pv 0) rfl) pa_nil)))) rfl)
      (pss_cons (ps_fld (pv 0) (pe_make M_q64 G_q64 (hr.mono (by omega)) rfl T.k1.mgC b_q64 .nil pass0 (pa_cons (pv 3) pa_nil)) rfl)
      (pss_cons (ps_fld (pv 0) (pe_make M_q91 G_q91 (hr.mono (by omega)) rfl T.k6.mgC b_q91 .nil pass0 (pa_cons (pe_ix ix_list (pv 3) pe_int (fun _ _ => rfl)) (pa_cons (pe_ix ix_list (pv 3) pe_int (fun _ _ => rfl)) pa_nil))) rfl)
      (pss_one (ps_fld (pv 0) (pe_make M_q86 G_q86 (hr.mono (by omega)) rfl T.k7.mgC b_q86 .nil pass0 (pa_cons (pe_ix ix_list (pv 3) pe_int (fun _ _ => rfl)) pa_nil)) rfl))))))), ?_⟩
    refine ⟨_, rfl, _, rfl, n, l, ts, rfl, h4, hl, fun H1 gs hg ng s1 => ?_⟩
    rw [seven_cut hts] at hg
    generalize Sd39.guessOf ts n = g at hg ok3 g1 g2 g3 g4 g5 g6 g7 g8 q
    have m1 : Mid H p t.k9 dx [] H1 := (Mid.start hp).new s1
    have ngp : gs ≠ p := (ne_of_none hp ng).symm
    refine fun mm dmm nmm ndm _ => ⟨mm, rfl, ⟨_, upd_same⟩, fun H2 hm2 k2 => ⟨rfl, ?_⟩⟩
    have s2 : Same H1 H2 := made nmm ndm k2
    have m2 := m1.new s2
    have mmp : mm ≠ p := m1.ne nmm
    have nm0 : H mm = none := m1.none0 nmm
    refine ⟨_, rfl, _, _, _, _, rfl, m2.at_, T.k9.cl, T.k9.n_j21, (by show 0 < 1000; decide), ?_⟩
    refine m2.go fun H3 m3 k3 => ?_
    obtain ⟨dm, hm2⟩ := hm2
    have hm3 := k3 _ _ hm2 (nin mmp)
    have hg3 := k3 _ _ (s2 _ _ hg) (nin ngp)
    have hl3 := m3.but _ _ hl (nin nlp)
    refine ⟨_, rfl, _, rfl, n, l, ts, rfl, h4, hl3, by omega, fun H4 se sa SE nse nsa s4 => ?_⟩
    have m4 := m3.new s4
    refine fun ch dch nch ndch _ => ⟨ch, rfl, ⟨_, upd_same⟩, fun H5 hch k5 => ⟨rfl, ?_⟩⟩
    have s5 : Same H4 H5 := made nch ndch k5
    have m5 := m4.new s5
    have chp : ch ≠ p := m4.ne nch
    have nc0 : H ch = none := m4.none0 nch
    have hm5 := s5 _ _ (s4 _ _ hm3)
    have chm : ch ≠ mm := (ne_of_none (s4 _ _ hm3) nch).symm
    refine ⟨_, rfl, p, _, dx, _, _, rfl, m5.at_, T.k9.cl, T.k9.n_j21, rfl, ?_⟩
    refine ⟨se, ch, mm, sa, sixes ts n, rfl, SE.same s5, by rw [lsx]; exact h2, by rw [lsx]; exact h4, fun x hx => ?_, hch, ⟨dm, hm5⟩, chm, fun H6 L cl I6 hcl em ec tot ncl rep ncl0 s6 => ?_⟩
    · obtain ⟨a1, a2, _⟩ := six_ok.mp (ok1 x hx); exact ⟨a1, a2.2⟩
    have m6 := m5.new s6
    have nL : ∀ r, L r ≠ p := fun r => by
      rcases tot r with e | e | e
      · rw [e]; exact mmp
      · rw [e]; exact chp
      · exact m5.ne e
    have nL0 : ∀ r, H (L r) = none := fun r => by
      rcases tot r with e | e | e
      · rw [e]; exact nm0
      · rw [e]; exact nc0
      · exact m5.none0 e
    have clp : cl ≠ p := m5.ne ncl0
    have ncl1 : H cl = none := m5.none0 ncl0
    refine ⟨_, rfl, _, _, _, _, rfl, m6.at_, T.k9.cl, T.k9.n_j7, (by show 1 < 1000; decide), ?_⟩
    refine m6.go fun H7 m7 k7 => ?_
    have I7 : MemInv t L (mem0 (sixes ts n)) H7 := I6.same fun r o e => k7 _ _ e (nin (nL r))
    have hcl7 := k7 _ _ hcl (nin clp)
    have hg7 := k7 _ _ (s6 _ _ (s5 _ _ (s4 _ _ hg3))) (nin ngp)
    have oL : ∀ r, ∃ o, H7 (L r) = some o := fun r => by
      obtain ⟨r', h', e'⟩ := rep r
      rw [e']; exact I7.som h'
    clear k7 k5 k3 k2 m6 m5 m4 m3 m2 m1 I6 hcl SE hch hm3 hm5 hg3
    refine ⟨_, rfl, fun xb dxb nxb ndb _ => ⟨xb, gs, g, rfl, ⟨_, upd_same⟩, ?_, g2, g3, g4, fun H8 A eA B8 nA k8 => ⟨rfl, ?_⟩⟩⟩
    · rw [upd_ne (ne_of_none hg7 nxb), upd_ne (ne_of_none hg7 ndb)]; exact hg7
    have s8 : Same H7 H8 := made nxb ndb k8
    have m8 := m7.new s8
    have nA7 : ∀ i, i < 10 → H7 (A i) = none := fun i hi => by
      by_cases e : i = 0
      · rw [e, eA]; exact nxb
      · exact (mk_none (nA i (by omega) hi)).1
    have Ap : ∀ i, i < 10 → A i ≠ p := fun i hi => m7.ne (nA7 i hi)
    have nA0 : ∀ i, i < 10 → H (A i) = none := fun i hi => m7.none0 (nA7 i hi)
    have Acl : ∀ i, i < 10 → A i ≠ cl := fun i hi => (ne_of_none hcl7 (nA7 i hi)).symm
    have AL : ∀ i, i < 10 → ∀ r, L r ≠ A i := fun i hi r => by
      obtain ⟨o, e⟩ := oL r
      exact ne_of_none e (nA7 i hi)
    refine ⟨_, rfl, _, _, _, _, rfl, m8.at_, T.k9.cl, T.k9.n_j3, (by show 2 < 1000; decide), ?_⟩
    refine m8.go fun H9 m9 k9 => ?_
    have I9 : MemInv t L (mem0 (sixes ts n)) H9 := I7.same fun r o e => k9 _ _ (s8 _ _ e) (nin (nL r))
    have hcl9 := k9 _ _ (s8 _ _ hcl7) (nin clp)
    have hg9 := k9 _ _ (s8 _ _ hg7) (nin ngp)
    have B9 : BrAt t H9 A g (Sd39.fresh g) := B8.keep fun i o hi e => k9 _ _ e (nin (Ap i hi))
    have oL9 : ∀ r, ∃ o, H9 (L r) = some o := fun r => by
      obtain ⟨r', h', e'⟩ := rep r
      rw [e']; exact I9.som h'
    clear k9 k8 m8 I7 hcl7 hg7 B8 nA nA7 oL nxb ndb m7
    refine ⟨_, rfl, gs, _, _, nv g.tsets, rfl, rfl, SqL.of hg9, at_nat (j := 4) rfl rfl, _, rfl, gs, _, _, nv g.tways, rfl, rfl, SqL.of hg9, at_nat (j := 5) rfl rfl, fun xt dxt nxt ndt _ => ⟨xt, g.tsets, g.tways, rfl, ⟨_, upd_same⟩, g5, fun H10 tl as ht htl hal has ntl k10 => ⟨rfl, ?_⟩⟩⟩
    have s10 : Same H9 H10 := made nxt ndt k10
    have m10 := m9.new s10
    have nT : ∀ b, b = xt ∨ b = tl ∨ b ∈ as → H9 b = none := fun b hb => by
      rcases hb with e | e | e
      · rw [e]; exact nxt
      · rw [e]; exact (mk_none ntl).1
      · exact (mk_none (has b e).2.1).1
    have n3 : ∀ b, b = xt ∨ b = tl ∨ b ∈ as → b ≠ p ∧ b ≠ cl ∧ (∀ r, L r ≠ b) ∧ ∀ i, i < 10 → A i ≠ b := fun b hb => by
      refine ⟨m9.ne (nT b hb), (ne_of_none hcl9 (nT b hb)).symm, fun r => ?_, fun i hi => ?_⟩
      · obtain ⟨o, e⟩ := oL9 r; exact ne_of_none e (nT b hb)
      · obtain ⟨o, e⟩ := B9.som hi; exact ne_of_none e (nT b hb)
    have nT0 : ∀ b, b = xt ∨ b = tl ∨ b ∈ as → H b = none := fun b hb => m9.none0 (nT b hb)
    refine ⟨_, rfl, _, _, _, _, rfl, m10.at_, T.k9.cl, T.k9.n_j35, (by show 3 < 1000; decide), ?_⟩
    refine m10.go fun H11 m11 k11 => ?_
    have I11 : MemInv t L (mem0 (sixes ts n)) H11 := I9.same fun r o e => k11 _ _ (s10 _ _ e) (nin (nL r))
    have hcl11 := k11 _ _ (s10 _ _ hcl9) (nin clp)
    have hg11 := k11 _ _ (s10 _ _ hg9) (nin ngp)
    have B11 : BrAt t H11 A g (Sd39.fresh g) := B9.keep fun i o hi e => k11 _ _ (s10 _ _ e) (nin (Ap i hi))
    obtain ⟨dt, ht⟩ := ht
    have ht11 := k11 _ _ ht (nin (n3 xt (.inl rfl)).1)
    have htl11 := k11 _ _ htl (nin (n3 tl (.inr (.inl rfl))).1)
    have has11 : ∀ b ∈ as, H11 b = some (.lst []) ∧ b ≠ tl := fun b hb => ⟨k11 _ _ (has b hb).1 (nin (n3 b (.inr (.inr hb))).1), (has b hb).2.2⟩
    have oL11 : ∀ r, ∃ o, H11 (L r) = some o := fun r => by
      obtain ⟨r', h', e'⟩ := rep r
      rw [e']; exact I11.som h'
    clear k11 k10 m10 I9 hcl9 hg9 B9 oL9 nT nxt ndt m9 has ht htl ntl
    refine ⟨_, rfl, gs, _, _, nv g.returns, rfl, rfl, SqL.of hg11, at_nat (j := 6) rfl rfl, fun xr dxr nxr ndr _ => ⟨xr, g.returns, rfl, ⟨_, upd_same⟩, fun H12 rl hrt nrl k12 => ⟨rfl, ?_⟩⟩⟩
    have s12 : Same H11 H12 := made nxr ndr k12
    have m12 := m11.new s12
    have nR : ∀ b, b = xr ∨ b = rl → H11 b = none := fun b hb => by
      rcases hb with e | e
      · rw [e]; exact nxr
      · rw [e]; exact (mk_none nrl).1
    have n4 : ∀ b, b = xr ∨ b = rl → b ≠ p ∧ b ≠ cl ∧ (∀ r, L r ≠ b) ∧ (∀ i, i < 10 → A i ≠ b) ∧ ¬ (b = xt ∨ b = tl ∨ b ∈ as) := fun b hb => by
      refine ⟨m11.ne (nR b hb), (ne_of_none hcl11 (nR b hb)).symm, fun r => ?_, fun i hi => ?_, fun y => ?_⟩
      · obtain ⟨o, e⟩ := oL11 r; exact ne_of_none e (nR b hb)
      · obtain ⟨o, e⟩ := B11.som hi; exact ne_of_none e (nR b hb)
      · rcases y with e | e | e
        · exact ne_of_none ht11 (nR b hb) e.symm
        · exact ne_of_none htl11 (nR b hb) e.symm
        · exact ne_of_none (has11 b e).1 (nR b hb) rfl
    have nR0 : ∀ b, b = xr ∨ b = rl → H b = none := fun b hb => m11.none0 (nR b hb)
    refine ⟨_, rfl, _, _, _, _, rfl, m12.at_, T.k9.cl, T.k9.n_j30, (by show 4 < 1000; decide), ?_⟩
    refine m12.go fun H13 m13 k13 => ?_
    have kk : ∀ b o, H11 b = some o → b ≠ p → H13 b = some o := fun b o e nb => k13 _ _ (s12 _ _ e) (nin nb)
    have R13 : RtAt t H13 xr rl g.returns [] 0 0 := hrt.keep (fun o e => k13 _ _ e (nin (n4 xr (.inl rfl)).1)) (fun o e => k13 _ _ e (nin (n4 rl (.inr rfl)).1))
    refine q H13 _ (pr_new (H := H) (z := ⟨L, A, xt, tl, xr, rl, cl⟩) (as := as) ⟨dx, ?_⟩ (kk _ _ hcl11 clp) (I11.same fun r o e => kk _ _ e (nL r)) rep (by rw [lsx]; exact h2) (by rw [lsx]; exact h4) ok1 ok2 ok3 (B11.keep fun i o hi e => kk _ _ e (Ap i hi)) ⟨dt, kk _ _ ht11 (n3 xt (.inl rfl)).1⟩ (kk _ _ htl11 (n3 tl (.inr (.inl rfl))).1) hal (fun b hb => ⟨kk _ _ (has11 b hb).1 (n3 b (.inr (.inr hb))).1, (has11 b hb).2⟩) R13 (fun r => ⟨nL r, ncl r⟩) (fun i hi => ⟨Ap i hi, Acl i hi, AL i hi⟩) n3 n4) (fun b hb => ?_) m13.but
    · have e := m13.at_
      rw [← em, ← eA] at e
      exact e
    · rcases lab_in hb with (e | e) | ⟨r, e⟩ | ⟨i, hi, e⟩ | e | e
      · exact .inl e
      · exact .inr (by rw [e]; exact ncl1)
      · exact .inr (by rw [← e]; exact nL0 r)
      · exact .inr (by rw [← e]; exact nA0 i hi)
      · exact .inr (nT0 b e)
      · exact .inr (nR0 b e)
end
end CG
namespace CG
theorem whole0 (x : Int) (r : List Int) : PySd39.whole [[0, x], r] = [[0, x], r] := rfl
theorem whole1 (r : List Int) : PySd39.whole [[1], r] = [[1, (r.length : Int) / 5], r] := rfl
noncomputable def startV (n : Int) (ts : List Nat) : Int := open Classical in if n < 2 ∨ 4 < n then -1 else if SetOkP n.toNat ts then 0 else -2
noncomputable def startS (n : Int) (ts : List Nat) : Option Sd39.St := open Classical in if n < 2 ∨ 4 < n then none else if SetOkP n.toNat ts then some (Sd39.begun ((List.range n.toNat).map (Sd39.cacheOf ts)) (Sd39.guessOf ts n.toNat)) else none
theorem step0 (x : Int) (row : List Int) : Sd39Neutral.step none [[0, x], row] = (startS x (Sd39Neutral.nats row), [startV x (Sd39Neutral.nats row)]) := by
  show ((Sd39.step none (.start x (Sd39Neutral.nats row))).1, (Sd39.step none (.start x (Sd39Neutral.nats row))).2.value :: Sd39Neutral.ints (Sd39.step none (.start x (Sd39Neutral.nats row))).2.out) = _
  unfold Sd39.step startS startV
  by_cases h : x < 2 ∨ 4 < x
  · simp only [h, if_true]
    rfl
  · simp only [h, if_false]
    have e := set_spec (n := x.toNat) (t := Sd39Neutral.nats row) (by omega) (by omega)
    by_cases g : SetOkP x.toNat (Sd39Neutral.nats row)
    · simp only [if_pos (e.mpr g), if_pos g]
      rfl
    · simp only [if_neg (fun q => g (e.mp q)), if_neg g]
      rfl
theorem step1 (st : Sd39.St) (k : Int) (row : List Int) (h0 : 0 ≤ k) (h1 : k ≤ 65536) : Sd39Neutral.step (some st) [[1, k], row] = (some (runS st (Sd39Neutral.recs (Sd39Neutral.nats row))).1, [(runS st (Sd39Neutral.recs (Sd39Neutral.nats row))).2]) := by
  show ((Sd39.step (some st) (.run (Sd39Neutral.recs (Sd39Neutral.nats row)) k)).1, (Sd39.step (some st) (.run (Sd39Neutral.recs (Sd39Neutral.nats row)) k)).2.value :: Sd39Neutral.ints (Sd39.step (some st) (.run (Sd39Neutral.recs (Sd39Neutral.nats row)) k)).2.out) = _
  unfold Sd39.step runS
  have h : ¬ (k < 0 ∨ Sd39.RECORDS < k) := by unfold Sd39.RECORDS; omega
  simp only [h, if_false]
  cases Sd39.firstWrong (Sd39Neutral.recs (Sd39Neutral.nats row)) <;> rfl
theorem step2 (st : Sd39.St) : Sd39Neutral.step (some st) [[2]] = (some st, ((Sd39.told st).length : Int) :: Sd39Neutral.ints (Sd39.told st)) := rfl
def tl (s : Option Sd39.St) (rest : List (List (List Int))) : List Int := PyFlat.told (PyFlat.played Sd39Neutral.step s (rest.map PySd39.whole))
theorem tl_cons (s : Option Sd39.St) (c : List (List Int)) (r : List (List (List Int))) : tl s (c :: r) = ((Sd39Neutral.step s (PySd39.whole c)).2.length : Int) :: ((Sd39Neutral.step s (PySd39.whole c)).2 ++ tl (Sd39Neutral.step s (PySd39.whole c)).1 r) := rfl
def RunOk (r : List (List (List Int))) : Prop := ∀ c ∈ r, Sd39Neutral.asked1 (PySd39.whole c) = true ∧ ∀ x row, c ≠ [[0, x], row]
def RestOk (s : Option Sd39.St) (rest : List (List (List Int))) : Prop := match s with
  | none => rest = [] ∨ ∃ x row r, rest = [[0, x], row] :: r ∧ Sd39Neutral.asked1 [[0, x], row] = true ∧ (r = [] ∨ startV x (Sd39Neutral.nats row) = 0) ∧ RunOk r
  | some _ => RunOk rest
theorem asked_start {ns : List Int} (h : PySd39.answers_asked ns = true) : ∃ raw, PyFlat.calls PySd39.shape ns.length ns = some raw ∧ raw.length ≤ 300 ∧ PySd39.answers ns = tl none raw ∧ RestOk none raw := by
  unfold PySd39.answers_asked at h
  have ec : PySd39.calls ns = match PyFlat.calls PySd39.shape ns.length ns with
    | none => none
    | some cs => some (cs.map PySd39.whole) := rfl
  have ea : PySd39.answers ns = match PySd39.calls ns with
    | none => []
    | some cs => PyFlat.told (PyFlat.played Sd39Neutral.step Sd39Neutral.start cs) := rfl
  cases e : PyFlat.calls PySd39.shape ns.length ns with
  | none => rw [ec, e] at h; cases h
  | some raw =>
    rw [ec, e] at h
    rw [ec, e] at ea
    simp only [Bool.and_eq_true] at h
    obtain ⟨h1, h2⟩ := h
    refine ⟨raw, rfl, ?_, ea, ?_⟩
    · unfold PyFlat.atMost at h1
      have := of_decide_eq_true h1
      rw [List.length_map] at this
      exact this
    · unfold Sd39Neutral.asked at h2
      simp only [Bool.and_eq_true] at h2
      obtain ⟨⟨h3, _⟩, h4⟩ := h2
      rcases calls_split e with ⟨_, hr⟩ | ⟨p, r, t, c, cs', f', hl, hc, _, hr⟩
      · exact .inl hr
      · subst hr
        have a1 := List.all_eq_true.mp h3
        rw [List.map_cons] at h4
        simp only [Bool.and_eq_true] at h4
        obtain ⟨h5, h6⟩ := h4
        have run : RunOk cs' := fun d hd => by
          refine ⟨a1 _ (List.mem_map_of_mem (List.mem_cons_of_mem _ hd)), fun x row q => ?_⟩
          have := List.all_eq_true.mp h5 _ (List.mem_map_of_mem hd)
          rw [q, whole0] at this
          cases this
        rcases call_split hc with ⟨_, x, row, _, hcc⟩ | ⟨_, row, _, hcc⟩ | ⟨_, _, hcc⟩
        · subst hcc
          rw [whole0] at h6
          refine .inr ⟨x, row, cs', rfl, a1 _ (List.mem_map_of_mem List.mem_cons_self), ?_, run⟩
          have h6 : ((cs'.map PySd39.whole).isEmpty || ((Sd39Neutral.step Sd39Neutral.start [[0, x], row]).2 == [0])) = true := h6
          rw [Bool.or_eq_true] at h6
          rcases h6 with h6 | h6
          · left
            cases cs' with
            | nil => rfl
            | cons _ _ => cases h6
          · right
            rw [show Sd39Neutral.start = none from rfl, step0] at h6
            have := eq_of_beq h6
            exact (List.cons.inj this).1
        · subst hcc
          cases h6
        · subst hcc
          cases h6
theorem start_row {x : Int} {row : List Int} (h : Sd39Neutral.asked1 [[0, x], row] = true) : row = (Sd39Neutral.nats row).map (fun n : Nat => (n : Int)) ∧ (2 ≤ x ∧ x ≤ 4 → row.length = 6 * x.toNat + 7) := by
  have h : (Sd39Neutral.whole32 x && ((row.all (fun (z : Int) => Sd39Neutral.natural z 32) && Sd39Neutral.long row (Sd39Neutral.many x) 0 31))) = true := h
  rw [Bool.and_eq_true, Bool.and_eq_true] at h
  refine ⟨(nat_all h.2.1).1, fun hx => ?_⟩
  have e := h.2.2
  unfold Sd39Neutral.long Sd39Neutral.many at e
  have e := of_decide_eq_true e
  rw [if_pos hx, if_pos (by omega)] at e
  omega
theorem run_row {row : List Int} (hl : row.length ≤ 16000) (h : Sd39Neutral.asked1 [[1, (row.length : Int) / 5], row] = true) : row = (Sd39Neutral.nats row).map (fun n : Nat => (n : Int)) ∧ (Sd39Neutral.nats row).length = 5 * (row.length / 5) := by
  have h : (Sd39Neutral.whole32 ((row.length : Int) / 5) && ((row.all (fun (z : Int) => Sd39Neutral.natural z 64) && Sd39Neutral.long row (5 * ((row.length : Int) / 5)) 0 327680))) = true := h
  rw [Bool.and_eq_true, Bool.and_eq_true] at h
  refine ⟨(nat_all h.2.1).1, ?_⟩
  have e := h.2.2
  unfold Sd39Neutral.long at e
  have e := of_decide_eq_true e
  rw [if_pos (by omega)] at e
  unfold Sd39Neutral.nats
  rw [List.length_map]
  omega
theorem told_len {m : MMem} {s : Sd39.St} (P : PreR m s.mem) (h4 : m.caches.length ≤ 4) : (Sd39.told s).length ≤ 32 := by
  rw [told_eq P, List.length_map]
  unfold nums
  have := counted_len m m.caches.length
  rw [List.take_length] at this
  simp only [List.length_append, List.length_cons, List.length_nil]
  omega
theorem drop_at {α : Type} {l : List α} {i : Nat} {x : α} {r : List α} (h : l.drop i = x :: r) : l[i]? = some x ∧ l.drop (i + 1) = r ∧ i < l.length := by
  have e : (l.drop i)[0]? = some x := by rw [h]; rfl
  rw [List.getElem?_drop, Nat.add_zero] at e
  refine ⟨e, ?_, (List.getElem?_eq_some_iff.mp e).1⟩
  rw [← List.drop_drop, h]
  rfl
end CG
namespace CG
open PySem PySem.Spec PyProof.Rows L2
theorem sq_keep {K : W.Frag} {H H' : Hp} {a : Addr} {xs : List V} (h : SqL K H a xs) (k : ∀ o, H a = some o → H' a = some o) : SqL K H' a xs := by
  rcases h with (h | ⟨o, h⟩) | h
  · exact .inl (.inl (k _ h))
  · exact .inl (.inr ⟨o, k _ h⟩)
  · exact .inr h
theorem ints_nv {row : List Int} (h : row = (Sd39Neutral.nats row).map (fun n : Nat => (n : Int))) : row.map V.int = (Sd39Neutral.nats row).map nv := by
  rw [nv_map, ← h]
def spStart : Sp := fun vs H Q _ => ∃ (n : Int) (l : Addr) (ts : List Nat), vs = [.int n, .ref l] ∧ H l = some (.lst (ts.map nv)) ∧ (2 ≤ n ∧ n ≤ 4 → ts.length = 6 * n.toNat + 7) ∧ ∀ H', Same H H' → Q (.int (startV n ts)) H'
def spRow (K : W.Frag) : Sp := fun vs H Q _ => ∃ (a : Addr) (ns : List Int) (i : Nat) (row rest : List Int), vs = [.ref a, nv i] ∧ SqL K H a (ns.map V.int) ∧ ns.drop i = (row.length : Int) :: (row ++ rest) ∧ ∀ (H' : Hp) (q : Addr), H' q = some (.lst (row.map V.int)) → H q = none → Same H H' → Q (.ref q) H'
section
variable {P : Program} {w : World} {K : W.Frag} {mg : Str → Option Value} {base : Heap} {t : Cs} {f : Addr} {fd : FuncData}
theorem ok_q110 (T : Txt K mg t) (F : Fun K "row_at" "row_at" s_q110 f fd) : FnOk P w K mg base CX0 1 f fd ["calls", "at"] (spRow K) := by
  refine F.ok sc_q110 (fun vs H Q E h => ?_) (fun cdv A outer s H vs Q E hr h => ?_)
  · obtain ⟨a, ns, i, row, rest, rfl, _⟩ := h
    rfl
  · obtain ⟨a, ns, i, row, rest, rfl, hS, hd, q⟩ := h
    obtain ⟨h1, h2, h3⟩ := drop_at hd
    refine ⟨_, (pss_one (ps_ret (pe_slice sl_list (pv 0) (po_some (pe_op op_add (pv 1) pe_int)) (po_some (pe_op op_add (pe_op op_add (pv 1) pe_int) (pe_ix ix_list (pv 0) (pv 1) (fun _ _ => rfl))))))), ?_⟩
    refine ⟨_, rfl, _, rfl, _, _, rfl, rfl, _, rfl, _, rfl, _, _, rfl, rfl, _, rfl, _, rfl, a, _, _, .int (row.length : Int), rfl, rfl, hS, at_nat (j := i) rfl (by rw [List.getElem?_map, h1]; rfl), _, _, rfl, rfl, _, rfl, a, _, rfl, hS, fun L nL => ?_⟩
    have ec : cutV (ns.map V.int) (some ((i : Int) + 1)) (some ((i : Int) + 1 + (row.length : Int))) = row.map V.int := by
      rw [show ((i : Int) + 1) = ((i + 1 : Nat) : Int) by omega, show (((i + 1 : Nat) : Int) + (row.length : Int)) = ((i + 1 + row.length : Nat) : Int) by omega, cut_midT _ _ _ (by omega), ← List.map_drop, h2, show i + 1 + row.length - (i + 1) = row.length by omega, ← List.map_take, List.take_left]
    rw [ec]
    exact q _ L upd_same nL (new_ne nL)
theorem ok_q94 (T : Txt K mg t) (F : Fun K "start_answer" "start_answer" s_q94 f fd) : FnOk P w K mg base CX0 7 f fd ["n", "settings"] (spStart) := by
  obtain ⟨f_q63, fd_q63, F_q63, b_q63, g_q63⟩ := T.d_settings_right
  have G_q63 := ok_q63 (P := P) (w := w) (base := base) T F_q63
  refine F.ok sc_q94 (fun vs H Q E h => ?_) (fun cdv A outer s H vs Q E hr h => ?_)
  · obtain ⟨n, l, ts, rfl, _⟩ := h
    rfl
  · obtain ⟨n, l, ts, rfl, hl, hts, q⟩ := h
    refine ⟨_, (pss_cons (ps_if (pw_or (pt_cmpR op_lt (pv 0) (pgl T.c_FEWEST_CACHES) (nomark _)) (pw_or1 (pt_cmpR op_gt (pv 0) (pgl T.c_MOST_CACHES) (nomark _)))).pt
      (pss_one (ps_ret (pe_un un_neg pe_int)))
      pss_nil)
      (pss_cons (ps_if (pt_not (pt_val (pe_call G_q63 (hr.mono (by omega)) rfl g_q63 F_q63.kp b_q63 .nil pass0 (pa_cons (pv 0) (pa_cons (pv 1) pa_nil)))))
      (pss_one (ps_ret (pe_un un_neg pe_int)))
      pss_nil)
      (pss_one (ps_ret pe_int)))), ?_⟩
    unfold startV at q
    refine ⟨_, rfl, _, _, rfl, rfl, _, rfl, ?_⟩
    refine ite2 (fun z => ?_) (fun z => ?_)
    · have z : n < 2 := of_decide_eq_true z
      have q1 := q H (Same.refl H)
      rw [if_pos (.inl z)] at q1
      exact iteT ⟨_, rfl, q1⟩
    have z1 : ¬ n < 2 := fun y => z (decide_eq_true y)
    refine ⟨_, rfl, _, _, rfl, rfl, _, rfl, ?_⟩
    refine ite2 (fun z => ?_) (fun z => ?_)
    · have z : 4 < n := of_decide_eq_true z
      have q1 := q H (Same.refl H)
      rw [if_pos (.inr z)] at q1
      exact ⟨_, rfl, q1⟩
    have z2 : ¬ 4 < n := fun y => z (decide_eq_true y)
    have en : nv n.toNat = V.int n := congrArg V.int (by omega)
    have hno : ¬ (n < 2 ∨ 4 < n) := fun y => y.elim z1 z2
    refine ⟨_, rfl, _, rfl, n.toNat, l, ts, by rw [en]; rfl, by omega, by omega, hl, hts (by omega), fun H1 b s1 hb => ⟨_, rfl, ?_⟩⟩
    have q1 := q H1 s1
    rw [if_neg hno] at q1
    cases b with
    | false =>
      rw [if_neg (fun y => absurd (hb.mpr y) (by decide))] at q1
      exact iteT ⟨_, rfl, q1⟩
    | true =>
      rw [if_pos (hb.mp rfl)] at q1
      exact iteF q1
end
end CG
namespace CG
open PySem PySem.Spec PyProof.Rows L2
def spAns (K : W.Frag) : Sp := fun vs H Q _ => ∃ (a : Addr) (ns : List Int), vs = [.ref a] ∧ SqL K H a (ns.map V.int) ∧ ns.length ≤ 16000 ∧ PySd39.answers_asked ns = true ∧ ∀ (H' : Hp) (p : Addr), H' p = some (.lst ((PySd39.answers ns).map V.int)) → Q (.ref p) H'
def PvOk (t : Cs) (H0 H : Hp) (a an : Addr) (pv : V) (s : Option Sd39.St) : Prop := match s with
  | none => pv = .non
  | some st => ∃ p lab, pv = .ref p ∧ PrAt t H lab p st ∧ lab an = 0 ∧ (∀ o, H0 a = some o → lab a = 0)
structure AnW (t : Cs) (H0 : Hp) (ns : List Int) (a an : Addr) (m : Nat) (σ : L2.St) (H : Hp) (at_ : Nat) (out : List Int) (rest : List (List (List Int))) (s : Option Sd39.St) (pv : V) : Prop where
  m : m = ns.length - at_
  sg : ∃ v4 v5 v6 v7, σ = [some (.ref a), some pv, some (.ref an), some (nv at_), v4, v5, v6, v7]
  cs : ∃ f, PyFlat.calls PySd39.shape f (ns.drop at_) = some rest
  eq : out ++ tl s rest = PySd39.answers ns
  anl : H an = some (.lst (out.map V.int))
  ak : ∀ o, H0 a = some o → H a = some o
  ln : out.length + 40 * rest.length ≤ 12000
  ro : RestOk s rest
  pv : PvOk t H0 H a an pv s
theorem an_end {t : Cs} {H0 H : Hp} {ns : List Int} {a an : Addr} {m m' : Nat} {σ' : L2.St} {at_ at' : Nat} {out ans : List Int} {c : List (List Int)} {cs' : List (List (List Int))} {s s' : Option Sd39.St} {pv' : V} {zs : List V} {n : Int}
    (hs : Sd39Neutral.step s (PySd39.whole c) = (s', ans)) (he : out ++ tl s (c :: cs') = PySd39.answers ns) (ha : H0 an = none) (ak : ∀ o, H0 a = some o → H a = some o) (hl : out.length + 40 * (c :: cs').length ≤ 12000) (hla : ans.length ≤ 33)
    (hz : zs = ans.map V.int) (hn : n = (ans.length : Int)) (hm : m = ns.length - at_) (hm' : m' = ns.length - at') (hat : at_ < at' ∧ at_ < ns.length) (hcs : ∃ f, PyFlat.calls PySd39.shape f (ns.drop at') = some cs') (hσ : ∃ v4 v5 v6 v7, σ' = [some (.ref a), some pv', some (.ref an), some (nv at'), v4, v5, v6, v7]) (ro : RestOk s' cs') (pv : PvOk t H0 H a an pv' s') :
    m' < m ∧ AnW t H0 ns a an m' σ' (upd (upd H an (.lst (out.map V.int ++ [.int n]))) an (.lst ((out.map V.int ++ [.int n]) ++ zs))) at' (out ++ ((ans.length : Int) :: ans)) cs' s' pv' := by
  have kk : ∀ b o, b ≠ an → H b = some o → upd (upd H an (.lst (out.map V.int ++ [.int n]))) an (.lst ((out.map V.int ++ [.int n]) ++ zs)) b = some o := fun b o nb e => by rw [upd_ne nb, upd_ne nb]; exact e
  refine ⟨by omega, hm', hσ, hcs, ?_, ?_, fun o e => kk _ _ (ne_of_none e ha) (ak o e), ?_, ro, ?_⟩
  · rw [← he, tl_cons, hs, List.append_assoc]
    rfl
  · rw [upd_same, hz, hn]
    simp
  · simp only [List.length_append, List.length_cons] at hl ⊢
    omega
  · cases s' with
    | none => exact pv
    | some st =>
      obtain ⟨p, lab, e, ⟨z, m, W⟩, l1, l2⟩ := pv
      exact ⟨p, lab, e, ⟨z, m, W.same fun b o h hb => kk b o (fun q => hb (by rw [q]; exact l1)) h⟩, l1, l2⟩
section
variable {P : Program} {w : World} {K : W.Frag} {mg : Str → Option Value} {base : Heap} {t : Cs} {f : Addr} {fd : FuncData}
theorem ok_q109 (T : Txt K mg t) (F : Fun K "answers" "answers" s_q109 f fd) : FnOk P w K mg base CX0 60 f fd ["calls"] (spAns K) := by
  obtain ⟨f_q60, fd_q60, F_q60, b_q60, M_q60⟩ := T.k9.init
  have G_q60 := ok_q60 (P := P) (w := w) (base := base) T F_q60
  obtain ⟨f_q94, fd_q94, F_q94, b_q94, g_q94⟩ := T.d_start_answer
  have G_q94 := ok_q94 (P := P) (w := w) (base := base) T F_q94
  obtain ⟨f_q110, fd_q110, F_q110, b_q110, g_q110⟩ := T.d_row_at
  have G_q110 := ok_q110 (P := P) (w := w) (base := base) T F_q110
  obtain ⟨f_q74, fd_q74, F_q74, b_q74, M_q74⟩ := T.k9.m_h27
  have G_q74 := ok_q74 (P := P) (w := w) (base := base) T F_q74
  obtain ⟨f_q61, fd_q61, F_q61, b_q61, M_q61⟩ := T.k9.m_h30
  have G_q61 := ok_q61 (P := P) (w := w) (base := base) T F_q61
  refine F.ok sc_q109 (fun vs H Q E h => ?_) (fun cdv A outer s H vs Q E hr h => ?_)
  · obtain ⟨a, ns, rfl, _⟩ := h
    rfl
  · obtain ⟨a, ns, rfl, hS, h16, hask, k⟩ := h
    obtain ⟨raw, hraw, h300, hans, hro⟩ := asked_start hask
    refine ⟨_, (pss_cons (ps_set (i := 1) sc_q109.nd rfl (Or.inl rfl) pe_non)
      (pss_cons (ps_set (i := 2) sc_q109.nd rfl (Or.inl rfl) (pe_lst pa_nil))
      (pss_cons (ps_set (i := 3) sc_q109.nd rfl (Or.inl rfl) pe_int)
      (pss_cons (ps_while PassesOwn.never (pt_cmpR op_lt (pv 3) (pe_callB call_len_seq rfl T.b_len PySem.boot_len (pa_cons (pv 0) pa_nil)) (nomark _))
      (pss_cons (ps_if (pt_cmpR op_eq (pe_ix ix_list (pv 0) (pv 3) (fun _ _ => rfl)) (pgl T.c_START) (nomark _))
      (pss_cons (ps_set (i := 4) sc_q109.nd rfl (Or.inl rfl) (pe_ix ix_list (pv 0) (pe_op op_add (pv 3) pe_int) (fun _ _ => rfl)))
      (pss_cons (ps_set (i := 5) sc_q109.nd rfl (Or.inl rfl) (pe_call G_q110 (hr.mono (by omega)) rfl g_q110 F_q110.kp b_q110 .nil pass0 (pa_cons (pv 0) (pa_cons (pe_op op_add (pv 3) pe_int) pa_nil))))
      (pss_cons (ps_set (i := 6) sc_q109.nd rfl (Or.inl rfl) (pe_lst (pa_cons (pe_call G_q94 (hr.mono (by omega)) rfl g_q94 F_q94.kp b_q94 .nil pass0 (pa_cons (pv 4) (pa_cons (pv 5) pa_nil))) pa_nil)))
      (pss_cons (ps_if (pt_cmpR (op_eqD hr.units) (pv 6) (pe_lst (pa_cons pe_int pa_nil)) (nomark _))
      (pss_one (ps_set (i := 1) sc_q109.nd rfl (Or.inl rfl) (pe_make M_q60 G_q60 (hr.mono (by omega)) rfl T.k9.mgC b_q60 .nil pass0 (pa_cons (pv 4) (pa_cons (pv 5) pa_nil)))))
      pss_nil)
      (pss_one (ps_aug (i := 3) sc_q109.nd rfl (Or.inl rfl) (pe_op op_add pe_int (pe_callB call_len_seq rfl T.b_len PySem.boot_len (pa_cons (pv 5) pa_nil))) ip_add))))))
      (pss_one (ps_if (pt_cmpR op_eq (pe_ix ix_list (pv 0) (pv 3) (fun _ _ => rfl)) (pgl T.c_RUN) (nomark _))
      (pss_cons (ps_set (i := 7) sc_q109.nd rfl (Or.inl rfl) (pe_call G_q110 (hr.mono (by omega)) rfl g_q110 F_q110.kp b_q110 .nil pass0 (pa_cons (pv 0) (pa_cons (pe_op op_add (pv 3) pe_int) pa_nil))))
      (pss_cons (ps_set (i := 6) sc_q109.nd rfl (Or.inl rfl) (pe_lst (pa_cons (pe_meth (pv 1) T.k9.cl M_q74 G_q74 (hr.mono (by omega)) b_q74 .nil pass0 (pa_cons (pv 7) pa_nil)) pa_nil)))
      (pss_one (ps_aug (i := 3) sc_q109.nd rfl (Or.inl rfl) (pe_op op_add pe_int (pe_callB call_len_seq rfl T.b_len PySem.boot_len (pa_cons (pv 7) pa_nil))) ip_add))))
      (pss_cons (ps_set (i := 6) sc_q109.nd rfl (Or.inl rfl) (pe_meth0 (pv 1) T.k9.cl M_q61 G_q61 (hr.mono (by omega)) b_q61 .nil pass0))
      (pss_one (ps_aug (i := 3) sc_q109.nd rfl (Or.inl rfl) pe_int ip_add))))))
      (pss_cons (ps_expr (pe_bm PySem.F.plainAttrs_list PySem.F.slot_list_append PySem.F.type_list_append mt_append (pv 2) (pa_cons (pe_callB call_len_seq rfl T.b_len PySem.boot_len (pa_cons (pv 6) pa_nil)) pa_nil)))
      (pss_one (ps_expr (pe_bm PySem.F.plainAttrs_list PySem.F.slot_list_extend PySem.F.type_list_extend mt_extend (pv 2) (pa_cons (pv 6) pa_nil)))))))
      (pss_one (ps_ret (pv 2))))))), ?_⟩
    refine ⟨Nat.zero_le _, fun an nan => ?_⟩
    have sq : ∀ H', (∀ o, H a = some o → H' a = some o) → SqL K H' a (ns.map V.int) := fun H' ak => sq_keep hS ak
    refine ⟨fun m σ H' => ∃ at_ out rest s pv, AnW t H ns a an m σ H' at_ out rest s pv, ⟨ns.length, 0, [], raw, none, .non, rfl, ⟨none, none, none, none, rfl⟩, ⟨ns.length, hraw⟩, hans.symm, upd_same, fun o e => new_ne nan _ _ e, by show 0 + _ ≤ _; omega, hro, rfl⟩, ?_⟩
    rintro m σ H' ⟨at_, out, rest, s, pv, em, ⟨v4, v5, v6, v7, rfl⟩, ⟨f, hcs⟩, heq, hAn, ak, hln, ro, pk⟩
    have hS' := sq H' ak
    have eln : ((ns.map V.int).length : Int) = (ns.length : Int) := by rw [List.length_map]
    refine ⟨_, rfl, _, rfl, a, _, rfl, .inl hS', _, _, rfl, rfl, _, rfl, ?_⟩
    refine ite2 (fun c => ⟨_, fun _ _ z => z, ?_⟩) (fun c => ?_)
    rotate_left
    · have c : ¬ at_ < ns.length := fun y => c (decide_eq_true (by rw [eln]; omega))
      have ed : ns.drop at_ = [] := List.drop_of_length_le (by omega)
      rw [ed] at hcs
      rcases calls_split hcs with ⟨_, hr⟩ | ⟨_, _, _, _, _, _, hl, _⟩
      · subst hr
        have heq : out ++ [] = PySd39.answers ns := heq
        rw [List.append_nil] at heq
        refine ⟨_, rfl, k H' an ?_⟩
        rw [← heq]; exact hAn
      · cases hl
    have c : at_ < ns.length := by have := of_decide_eq_true c; rw [eln] at this; omega
    rcases calls_split hcs with ⟨hl, _⟩ | ⟨p0, r0, t0, cc, cs', f', hl, hc, hcs', hr⟩
    · exact absurd (congrArg List.length hl) (by rw [List.length_drop]; show _ ≠ 0; omega)
    subst hr
    obtain ⟨g0, gd0, _⟩ := drop_at hl
    refine ⟨_, rfl, _, rfl, a, _, _, .int p0, rfl, rfl, hS', at_nat (j := at_) rfl (by rw [List.getElem?_map, g0]; rfl), rfl, _, rfl, ?_⟩
    rcases call_split hc with ⟨rfl, x, row, hr0, rfl⟩ | ⟨rfl, row, hr0, rfl⟩ | ⟨rfl, hr0, rfl⟩
    ·
      rw [hr0] at gd0
      obtain ⟨g1, gd1, _⟩ := drop_at gd0
      obtain ⟨g2, gd2, _⟩ := drop_at gd1
      obtain ⟨rfl, ⟨hv, hrun⟩, has⟩ : s = none ∧ ((cs' = [] ∨ startV x (Sd39Neutral.nats row) = 0) ∧ RunOk cs') ∧ Sd39Neutral.asked1 [[0, x], row] = true := by
        cases s with
        | some st => exact absurd rfl ((ro [[0, x], row] List.mem_cons_self).2 x row)
        | none =>
          rcases ro with e | ⟨x', row', r', e, h1, h2, h3⟩
          · cases e
          · injection e with e1 e2
            injection e1 with e3 e4
            injection e3 with e5 e6
            injection e6 with e7 _
            injection e4 with e8 _
            subst e2 e7 e8
            exact ⟨rfl, ⟨h2, h3⟩, h1⟩
      obtain ⟨hrow, hrl⟩ := start_row has
      have hpv : pv = .non := pk
      refine iteT ?_
      refine ⟨_, rfl, _, rfl, _, _, rfl, rfl, a, _, _, .int x, rfl, rfl, hS', at_nat (j := at_ + 1) rfl (by rw [List.getElem?_map, g1]; rfl), ?_⟩
      refine ⟨_, rfl, _, rfl, _, _, rfl, rfl, a, ns, at_ + 2, row, t0, rfl, hS', gd1, fun H1 q5 hq5 nq5 s1 => ?_⟩
      have hq5' := hq5
      rw [ints_nv hrow] at hq5'
      have hnl : (Sd39Neutral.nats row).length = row.length := by unfold Sd39Neutral.nats; rw [List.length_map]
      refine ⟨_, rfl, _, rfl, x, q5, Sd39Neutral.nats row, rfl, hq5', by rw [hnl]; exact hrl, fun H2 s2 => ⟨(by show 1 ≤ sizeLine; decide), fun q6 nq6 => ?_⟩⟩
      obtain ⟨v, hvv⟩ : ∃ v, v = startV x (Sd39Neutral.nats row) := ⟨_, rfl⟩
      rw [← hvv]
      have s3 : Same H2 (upd H2 q6 (.lst [.int v])) := new_ne nq6
      refine ⟨_, rfl, (by show 1 ≤ sizeLine; decide), fun q0 nq0 => ?_⟩
      have s4 : Same (upd H2 q6 (.lst [.int v])) (upd (upd H2 q6 (.lst [.int v])) q0 (.lst [.int 0])) := new_ne nq0
      have sA := ((s1.trans s2).trans s3).trans s4
      have hq6 := s4 _ _ (upd_same (H := H2) (a := q6) (o := .lst [.int v]))
      have hq5A := s4 _ _ (s3 _ _ (s2 _ _ hq5))
      have hAnA := sA _ _ hAn
      have akA : ∀ o, H a = some o → upd (upd H2 q6 (.lst [.int v])) q0 (.lst [.int 0]) a = some o := fun o e => sA _ _ (ak o e)
      have nq6a : q6 ≠ an := (ne_of_none (s2 _ _ (s1 _ _ hAn)) nq6).symm
      have edrop : ns.drop (at_ + (3 + row.length)) = t0 := by
        rw [show at_ + (3 + row.length) = (at_ + 3) + row.length by omega, ← List.drop_drop, gd2, List.drop_left]
      have e3 : V.int ((at_ : Int) + (3 + ((row.map V.int).length : Int))) = nv (at_ + (3 + row.length)) := by rw [List.length_map]; rfl
      refine ⟨.list [.int v], .list [.int 0], .lst (SqL.of hq6) (.cons (.int _) .nil), .lst (SqL.of upd_same) (.cons (.int _) .nil), rfl, rfl, _, rfl, ?_⟩
      have eev : PyData.eqv (.list [.int v]) (.list [.int 0]) = decide (v = 0) := by
        show ((v == (0 : Int)) && true) = _
        rw [Bool.and_true, Bool.eq_iff_iff]
        simp
      rw [eev]
      have hstep := step0 x row
      rw [← hvv] at hstep hv
      refine ite2 (fun c0 => ?_) (fun c0 => ?_)
      · have c0 := of_decide_eq_true c0
        have hx : ¬ (x < 2 ∨ 4 < x) ∧ SetOkP x.toNat (Sd39Neutral.nats row) := by
          rw [hvv] at c0
          unfold startV at c0
          by_cases y : x < 2 ∨ 4 < x
          · rw [if_pos y] at c0; exact absurd c0 (by decide)
          · rw [if_neg y] at c0
            by_cases y2 : SetOkP x.toNat (Sd39Neutral.nats row)
            · exact ⟨y, y2⟩
            · rw [if_neg y2] at c0; exact absurd c0 (by decide)
        have eS : startS x (Sd39Neutral.nats row) = some (Sd39.begun ((List.range x.toNat).map (Sd39.cacheOf (Sd39Neutral.nats row))) (Sd39.guessOf (Sd39Neutral.nats row) x.toNat)) := by
          unfold startS
          rw [if_neg hx.1, if_pos hx.2]
        have exn : V.int x = nv x.toNat := congrArg V.int (by omega)
        refine ⟨_, rfl, _, rfl, fun p dx np nd _ => ⟨p, x.toNat, q5, Sd39Neutral.nats row, ?_, ⟨_, upd_same⟩, by omega, by omega, ?_, by rw [hnl]; exact hrl (by omega), hx.2, fun H4 lab PA hlab k4 => ⟨rfl, ?_⟩⟩⟩
        · rw [← exn]; rfl
        · rw [upd_ne (ne_of_none hq5A np), upd_ne (ne_of_none hq5A nd), ← ints_nv hrow]; exact hq5A
        have s5 := made np nd k4
        have hAn4 := s5 _ _ hAnA
        have hq64 := s5 _ _ hq6
        have hq54 := s5 _ _ hq5A
        have lz : ∀ b o, upd (upd H2 q6 (.lst [.int v])) q0 (.lst [.int 0]) b = some o → lab b = 0 := fun b o e => by
          by_cases y : lab b = 0
          · exact y
          · rcases hlab b y with y | y
            · exact absurd y (ne_of_none e np)
            · rw [(mk_none y).1] at e; cases e
        refine ⟨_, rfl, _, rfl, q5, _, rfl, .inl (SqL.of hq54), _, _, rfl, rfl, _, _, rfl, rfl, ?_⟩
        refine ⟨_, rfl, .inl ⟨rfl, _, SqL.of hAn4⟩, _, rfl, q6, _, rfl, .inl (SqL.of hq64), an, _, _, rfl, rfl, hAn4, by rw [List.length_map, CG.sl]; omega, ?_⟩
        refine ⟨_, rfl, .inl ⟨rfl, _, SqL.of upd_same⟩, _, rfl, an, q6, _, _, rfl, rfl, upd_same, by rw [upd_ne nq6a]; exact hq64, by simp only [List.length_append, List.length_map, List.length_cons, List.length_nil, CG.sl]; omega, ?_⟩
        obtain ⟨st, hst⟩ : ∃ st, st = Sd39.begun ((List.range x.toNat).map (Sd39.cacheOf (Sd39Neutral.nats row))) (Sd39.guessOf (Sd39Neutral.nats row) x.toNat) := ⟨_, rfl⟩
        rw [← hst] at eS PA
        rw [eS] at hstep
        obtain ⟨r1, r2⟩ := an_end (t := t) (H0 := H) (s' := some st) (H := H4) (ns := ns) (m := m) (at_ := at_) (out := out) (pv' := .ref p) (zs := [.int v]) (n := (([.int v] : List V).length : Int)) (at' := at_ + (3 + row.length)) hstep heq nan (fun o e => s5 _ _ (akA o e)) hln (by show 1 ≤ 33; decide) rfl rfl em rfl ⟨by omega, c⟩ ⟨f', by rw [edrop]; exact hcs'⟩ ⟨_, _, _, _, by rw [← e3]⟩ hrun ⟨p, lab, rfl, PA, lz _ _ hAnA, fun o e => lz _ _ (akA o e)⟩
        exact ⟨_, r1, _, _, _, _, _, r2⟩
      · have c0 : ¬ v = 0 := fun y => c0 (decide_eq_true y)
        have ecs : cs' = [] := hv.resolve_right c0
        subst ecs
        have eS : startS x (Sd39Neutral.nats row) = none := by
          rw [hvv] at c0
          unfold startV at c0
          unfold startS
          by_cases y : x < 2 ∨ 4 < x
          · rw [if_pos y]
          · rw [if_neg y] at c0 ⊢
            by_cases y2 : SetOkP x.toNat (Sd39Neutral.nats row)
            · rw [if_pos y2] at c0; exact absurd rfl c0
            · rw [if_neg y2]
        refine ⟨_, rfl, _, rfl, q5, _, rfl, .inl (SqL.of hq5A), _, _, rfl, rfl, _, _, rfl, rfl, ?_⟩
        refine ⟨_, rfl, .inl ⟨rfl, _, SqL.of hAnA⟩, _, rfl, q6, _, rfl, .inl (SqL.of hq6), an, _, _, rfl, rfl, hAnA, by rw [List.length_map, CG.sl]; omega, ?_⟩
        refine ⟨_, rfl, .inl ⟨rfl, _, SqL.of upd_same⟩, _, rfl, an, q6, _, _, rfl, rfl, upd_same, by rw [upd_ne nq6a]; exact hq6, by simp only [List.length_append, List.length_map, List.length_cons, List.length_nil, CG.sl]; omega, ?_⟩
        rw [eS] at hstep
        obtain ⟨r1, r2⟩ := an_end (t := t) (H0 := H) (s' := none) (H := upd (upd H2 q6 (.lst [.int v])) q0 (.lst [.int 0])) (ns := ns) (m := m) (at_ := at_) (out := out) (pv' := pv) (zs := [.int v]) (n := (([.int v] : List V).length : Int)) (at' := at_ + (3 + row.length)) hstep heq nan akA hln (by show 1 ≤ 33; decide) rfl rfl em rfl ⟨by omega, c⟩ ⟨f', by rw [edrop]; exact hcs'⟩ ⟨_, _, _, _, by rw [← e3]⟩ (.inl rfl) hpv
        exact ⟨_, r1, _, _, _, _, _, r2⟩
    ·
      rw [hr0] at gd0
      obtain ⟨g1, gd1, _⟩ := drop_at gd0
      obtain ⟨st, rfl⟩ : ∃ st, s = some st := by
        cases s with
        | some st => exact ⟨st, rfl⟩
        | none =>
          rcases ro with e | ⟨x', row', r', e, _⟩
          · cases e
          · injection e with e1 e2
            injection e1 with e3 e4
            injection e3 with e5 e6
            cases e6
      have hrun : RunOk cs' := fun d hd => ro d (List.mem_cons_of_mem _ hd)
      have has := (ro [[1], row] List.mem_cons_self).1
      rw [whole1] at has
      have hrl : row.length ≤ 16000 := by
        have := congrArg List.length gd1
        rw [List.length_drop, List.length_append] at this
        omega
      obtain ⟨hrow, hnl⟩ := run_row hrl has
      obtain ⟨p, lab, rfl, ⟨z, mm, W⟩, lan, la⟩ := pk
      refine iteF ?_
      refine ⟨_, rfl, _, rfl, a, _, _, .int 1, rfl, rfl, hS', at_nat (j := at_) rfl (by rw [List.getElem?_map, g0]; rfl), rfl, _, rfl, iteT ?_⟩
      refine ⟨_, rfl, _, rfl, _, _, rfl, rfl, a, ns, at_ + 1, row, t0, rfl, hS', gd0, fun H1 q7 hq7 nq7 s1 => ?_⟩
      have hq7' := hq7
      rw [ints_nv hrow] at hq7'
      have W1 := W.same (H' := H1) fun b o e _ => s1 _ _ e
      obtain ⟨dx1, ho1⟩ := W1.o
      have hAn1 := s1 _ _ hAn
      refine ⟨_, rfl, _, _, _, rfl, ho1, nl_q74, _, rfl, lab, p, q7, st, Sd39Neutral.nats row, row.length / 5, rfl, ⟨z, mm, W1⟩, hq7', hnl, by omega, fun H2 lab2 P2 st2 => ⟨(by show 1 ≤ sizeLine; decide), fun q6 nq6 => ?_⟩⟩
      have hstep := step1 st ((row.length : Int) / 5) row (by omega) (by omega)
      generalize runS st (Sd39Neutral.recs (Sd39Neutral.nats row)) = rv at P2 hstep
      obtain ⟨hAn2, lan2⟩ := st2 _ _ hAn1 lan
      obtain ⟨hq72, _⟩ := st2 _ _ hq7 (W.lab0 nq7)
      have s3 : Same H2 (upd H2 q6 (.lst [.int rv.2])) := new_ne nq6
      have hAn3 := s3 _ _ hAn2
      have hq63 := upd_same (H := H2) (a := q6) (o := .lst [.int rv.2])
      have hq73 := s3 _ _ hq72
      have nq6a : q6 ≠ an := (ne_of_none hAn2 nq6).symm
      have ak3 : ∀ o, H a = some o → upd H2 q6 (.lst [.int rv.2]) a = some o := fun o e => s3 _ _ (st2 _ _ (s1 _ _ (ak o e)) (la o e)).1
      have edrop : ns.drop (at_ + (2 + row.length)) = t0 := by
        rw [show at_ + (2 + row.length) = (at_ + 2) + row.length by omega, ← List.drop_drop, gd1, List.drop_left]
      have e3 : V.int ((at_ : Int) + (2 + ((row.map V.int).length : Int))) = nv (at_ + (2 + row.length)) := by rw [List.length_map]; rfl
      refine ⟨_, rfl, _, rfl, q7, _, rfl, .inl (SqL.of hq73), _, _, rfl, rfl, _, _, rfl, rfl, ?_⟩
      refine ⟨_, rfl, .inl ⟨rfl, _, SqL.of hAn3⟩, _, rfl, q6, _, rfl, .inl (SqL.of hq63), an, _, _, rfl, rfl, hAn3, by rw [List.length_map, CG.sl]; omega, ?_⟩
      refine ⟨_, rfl, .inl ⟨rfl, _, SqL.of upd_same⟩, _, rfl, an, q6, _, _, rfl, rfl, upd_same, by rw [upd_ne nq6a]; exact hq63, by simp only [List.length_append, List.length_map, List.length_cons, List.length_nil, CG.sl]; omega, ?_⟩
      obtain ⟨r1, r2⟩ := an_end (t := t) (H0 := H) (s' := some rv.1) (H := upd H2 q6 (.lst [.int rv.2])) (ns := ns) (m := m) (at_ := at_) (out := out) (c := [[1], row]) (pv' := .ref p) (zs := [.int rv.2]) (n := (([.int rv.2] : List V).length : Int)) (at' := at_ + (2 + row.length)) hstep heq nan ak3 hln (by show 1 ≤ 33; decide) rfl rfl em rfl ⟨by omega, c⟩ ⟨f', by rw [edrop]; exact hcs'⟩ ⟨_, _, _, _, by rw [← e3]⟩ hrun ⟨p, lab2, rfl, P2.same s3, lan2, fun o e => (st2 _ _ (s1 _ _ (ak o e)) (la o e)).2⟩
      exact ⟨_, r1, _, _, _, _, _, r2⟩
    ·
      obtain ⟨st, rfl⟩ : ∃ st, s = some st := by
        cases s with
        | some st => exact ⟨st, rfl⟩
        | none =>
          rcases ro with e | ⟨x', row', r', e, _⟩
          · cases e
          · injection e with e1 e2
            injection e1 with e3 e4
            cases e4
      have hrun : RunOk cs' := fun d hd => ro d (List.mem_cons_of_mem _ hd)
      obtain ⟨p, lab, rfl, ⟨z, mm, W⟩, lan, la⟩ := pk
      obtain ⟨dx1, ho1⟩ := W.o
      have htl := told_len W.pre W.n4
      refine iteF ?_
      refine ⟨_, rfl, _, rfl, a, _, _, .int 2, rfl, rfl, hS', at_nat (j := at_) rfl (by rw [List.getElem?_map, g0]; rfl), rfl, _, rfl, iteF ?_⟩
      refine ⟨_, rfl, _, _, _, rfl, ho1, nl_q61, lab, p, st, rfl, ⟨z, mm, W⟩, fun H1 q6 hq6 nq6 s1 => ?_⟩
      have hAn1 := s1 _ _ hAn
      have nq6a : q6 ≠ an := (ne_of_none hAn nq6).symm
      have hstep := step2 st
      have ez : ((Sd39.told st).length :: Sd39.told st).map nv = (((Sd39.told st).length : Int) :: Sd39Neutral.ints (Sd39.told st)).map V.int := by
        rw [nv_map]; rfl
      refine ⟨_, rfl, _, _, rfl, rfl, ?_⟩
      refine ⟨_, rfl, .inl ⟨rfl, _, SqL.of hAn1⟩, _, rfl, q6, _, rfl, .inl (SqL.of hq6), an, _, _, rfl, rfl, hAn1, by rw [List.length_map, CG.sl]; omega, ?_⟩
      refine ⟨_, rfl, .inl ⟨rfl, _, SqL.of upd_same⟩, _, rfl, an, q6, _, _, rfl, rfl, upd_same, by rw [upd_ne nq6a]; exact hq6, by simp only [List.length_append, List.length_map, List.length_cons, List.length_nil, CG.sl]; omega, ?_⟩
      obtain ⟨r1, r2⟩ := an_end (t := t) (H0 := H) (s' := some st) (H := H1) (ns := ns) (m := m) (at_ := at_) (out := out) (c := [[2]]) (pv' := .ref p) (zs := ((Sd39.told st).length :: Sd39.told st).map nv) (n := ((((Sd39.told st).length :: Sd39.told st).map nv).length : Int)) (at' := at_ + 1) hstep heq nan (fun o e => s1 _ _ (ak o e)) hln (by unfold Sd39Neutral.ints; rw [List.length_cons, List.length_map]; omega) ez (by rw [ez, List.length_map]) em rfl ⟨by omega, c⟩ ⟨f', by rw [gd0, hr0]; exact hcs'⟩ ⟨_, _, _, _, rfl⟩ hrun ⟨p, lab, rfl, ⟨z, mm, W.same fun b o e _ => s1 _ _ e⟩, lan, la⟩
      exact ⟨_, r1, _, _, _, _, _, r2⟩
end
end CG
namespace CG
open PySem PySem.Spec PyProof.Rows L2
theorem fin_mk {P : Program} {w : World} {K : W.Frag} {h : Heap} {mg : Str → Option Value} {fa : Addr} (X : K.In h) (G : h.Ns mainGlobals mg) (hfa : mg "answers" = some (.ref fa))
    {c0 c1 c2 c3 c4 c5 c6 c7 c8 c9 : Addr}
    (a0 : PySem.W.nsIn K mainGlobals "Counters" = some (some (.ref c0)))
    (a1 : PySem.W.nsIn K mainGlobals "Branches" = some (some (.ref c1)))
    (a2 : PySem.W.nsIn K mainGlobals "CacheSet" = some (some (.ref c2)))
    (a3 : PySem.W.nsIn K mainGlobals "Memory" = some (some (.ref c3)))
    (a4 : PySem.W.nsIn K mainGlobals "Cache" = some (some (.ref c4)))
    (a5 : PySem.W.nsIn K mainGlobals "Chance" = some (some (.ref c5)))
    (a6 : PySem.W.nsIn K mainGlobals "Targets" = some (some (.ref c6)))
    (a7 : PySem.W.nsIn K mainGlobals "Returns" = some (some (.ref c7)))
    (a8 : PySem.W.nsIn K mainGlobals "Record" = some (some (.ref c8)))
    (a9 : PySem.W.nsIn K mainGlobals "Processor" = some (some (.ref c9)))
    (t0 : mg "Counters" = some (.ref c0) → TX_k0 K mg c0)
    (t1 : mg "Branches" = some (.ref c1) → TX_k1 K mg c1)
    (t2 : mg "CacheSet" = some (.ref c2) → TX_k2 K mg c2)
    (t3 : mg "Memory" = some (.ref c3) → TX_k3 K mg c3)
    (t4 : mg "Cache" = some (.ref c4) → TX_k4 K mg c4)
    (t5 : mg "Chance" = some (.ref c5) → TX_k5 K mg c5)
    (t6 : mg "Targets" = some (.ref c6) → TX_k6 K mg c6)
    (t7 : mg "Returns" = some (.ref c7) → TX_k7 K mg c7)
    (t8 : mg "Record" = some (.ref c8) → TX_k8 K mg c8)
    (t9 : mg "Processor" = some (.ref c9) → TX_k9 K mg c9)
    (d0 : DF K mg "new_caches" s_q106 ["settings_of_each", "chance", "memory"])
    (d1 : DF K mg "records_of" s_q107 ["numbers"])
    (d2 : DF K mg "first_wrong" s_q103 ["records"])
    (d3 : DF K mg "within" s_q111 ["numbers", "bounds"])
    (d4 : DF K mg "cache_right" s_q102 ["cache"])
    (d5 : DF K mg "line_lengths_right" s_q29 ["caches"])
    (d6 : DF K mg "guesses_right" s_q76 ["guesses"])
    (d7 : DF K mg "settings_of_caches" s_q30 ["n", "settings"])
    (d8 : DF K mg "settings_of_guesses" s_q21 ["n", "settings"])
    (d9 : DF K mg "settings_right" s_q63 ["n", "settings"])
    (d10 : DF K mg "start_answer" s_q94 ["n", "settings"])
    (d11 : DF K mg "row_at" s_q110 ["calls", "at"])
    (d12 : DF K mg "answers" s_q109 ["calls"])
    (e0 : CI mg "NEVER" (0))
    (e1 : CI mg "BY_PLACE" (1))
    (e2 : CI mg "BY_COMMON_HISTORY" (2))
    (e3 : CI mg "BY_OWN_HISTORY" (3))
    (e4 : CI mg "BY_CHOICE" (4))
    (e5 : CI mg "COUNTER_AT_FIRST" (1))
    (e6 : CI mg "COUNTER_TOP" (3))
    (e7 : CI mg "EMPTY" (-1))
    (e8 : CI mg "USED_LONGEST_AGO" (0))
    (e9 : CI mg "FILLED_LONGEST_AGO" (1))
    (e10 : CI mg "TREE" (2))
    (e11 : CI mg "ADDRESS_END" (281474976710656))
    (e12 : CI mg "COUNT_END" (18446744073709551616))
    (e13 : CI mg "MOST_RECORDS" (65536))
    (e14 : CI mg "MOST_SIZE" (4096))
    (e15 : CI mg "NUMBERS_OF_A_RECORD" (5))
    (e16 : CI mg "FETCH" (0))
    (e17 : CI mg "READ" (1))
    (e18 : CI mg "WRITE" (2))
    (e19 : CI mg "BRANCH" (3))
    (e20 : CI mg "JUMP" (4))
    (e21 : CI mg "CALL" (5))
    (e22 : CI mg "RETURN" (6))
    (e23 : CI mg "NUMBERS_OF_A_CACHE" (6))
    (e24 : ∃ a a0 a1 a2 a3 a4 a5, mg "CACHE_BOUNDS" = some (.ref a) ∧ TK K a [.ref a0, .ref a1, .ref a2, .ref a3, .ref a4, .ref a5] ∧ TK K a0 [.int 0, .int 12] ∧ TK K a1 [.int 1, .int 16] ∧ TK K a2 [.int 4, .int 7] ∧ TK K a3 [.int 0, .int 3] ∧ TK K a4 [.int 0, .int 1] ∧ TK K a5 [.int 0, .int 1])
    (e25 : ∃ a a0 a1 a2 a3 a4 a5 a6, mg "GUESS_BOUNDS" = some (.ref a) ∧ TK K a [.ref a0, .ref a1, .ref a2, .ref a3, .ref a4, .ref a5, .ref a6] ∧ TK K a0 [.int 0, .int 4] ∧ TK K a1 [.int 0, .int 14] ∧ TK K a2 [.int 0, .int 14] ∧ TK K a3 [.int 0, .int 10] ∧ TK K a4 [.int 0, .int 10] ∧ TK K a5 [.int 1, .int 8] ∧ TK K a6 [.int 0, .int 64])
    (e26 : CI mg "TREE_POLICY" (2))
    (e27 : ∃ a, mg "WAYS_OF_A_TREE" = some (.ref a) ∧ TK K a [.int 1, .int 2, .int 4, .int 8, .int 16])
    (e28 : ∃ a, mg "WAYS_WITH_COMMON_HISTORY" = some (.ref a) ∧ TK K a [.int 2, .int 4])
    (e29 : CI mg "FEWEST_CACHES" (2))
    (e30 : CI mg "MOST_CACHES" (4))
    (e31 : CI mg "START" (0))
    (e32 : CI mg "RUN" (1))
    (b_len : PySem.W.nsIn K mainGlobals "len" = some none)
    (b_range : PySem.W.nsIn K mainGlobals "range" = some none)
    (b_min : PySem.W.nsIn K mainGlobals "min" = some none)
    (b_max : PySem.W.nsIn K mainGlobals "max" = some none)
    (b_list : PySem.W.nsIn K mainGlobals "list" = some none)
    (b_reversed : PySem.W.nsIn K mainGlobals "reversed" = some none)
    (b_enumerate : PySem.W.nsIn K mainGlobals "enumerate" = some none)
    (b_zip : PySem.W.nsIn K mainGlobals "zip" = some none)
    : ∃ fd : FuncData, (∀ (s : Shared) (us : List Value), us.length = (["calls"] : List Str).length → BindsTo s fd ⟨us, []⟩ ((["calls"] : List Str).zip us)) ∧ ∀ base : Heap, K.In base → base.Ns mainGlobals mg → FnOk P w K mg base CX0 60 fa fd ["calls"] (spAns K) := by
  have T : Txt K mg ⟨c0, c1, c2, c3, c4, c5, c6, c7, c8, c9⟩ := ⟨t0 (PySem.W.mg_of X G a0), t1 (PySem.W.mg_of X G a1), t2 (PySem.W.mg_of X G a2), t3 (PySem.W.mg_of X G a3), t4 (PySem.W.mg_of X G a4), t5 (PySem.W.mg_of X G a5), t6 (PySem.W.mg_of X G a6), t7 (PySem.W.mg_of X G a7), t8 (PySem.W.mg_of X G a8), t9 (PySem.W.mg_of X G a9), d0, d1, d2, d3, d4, d5, d6, d7, d8, d9, d10, d11, d12, e0, e1, e2, e3, e4, e5, e6, e7, e8, e9, e10, e11, e12, e13, e14, e15, e16, e17, e18, e19, e20, e21, e22, e23, e24, e25, e26, e27, e28, e29, e30, e31, e32, PySem.W.mg_none_of X G b_len, PySem.W.mg_none_of X G b_range, PySem.W.mg_none_of X G b_min, PySem.W.mg_none_of X G b_max, PySem.W.mg_none_of X G b_list, PySem.W.mg_none_of X G b_reversed, PySem.W.mg_none_of X G b_enumerate, PySem.W.mg_none_of X G b_zip⟩
  obtain ⟨f, fd, F, hb, hm⟩ := T.d_answers
  have e := hfa.symm.trans hm
  cases e
  refine ⟨fd, fun s us hl => ?_, fun base _ _ => ok_q109 T F⟩
  obtain ⟨oc, od, kV, doc, pm, an, cdv, ct, osl, rfl, lk, hcd⟩ := F.ex
  exact match us, hl with | [_], _ => .of_eq rfl
theorem ti_mk {K : W.Frag} {h : Heap} {mg : Str → Option Value} (X : K.In h) (G : h.Ns mainGlobals mg) {x : Str} {a : Addr} {oc : Value} {od : Option Addr} {its : Array Value} {n : Nat} {sl : Array (Option Value)} {xs : List V} (h1 : PySem.W.nsIn K mainGlobals x = some (some (.ref a))) (h2 : K.lookup a = some ⟨oc, od, .seq its n, sl⟩)
    (h3 : oc = .type "tuple") (h4 : its.size ≤ sizeLine) (h5 : Vals xs its.toList) : ∃ a, mg x = some (.ref a) ∧ TK K a xs := ⟨a, PySem.W.mg_of X G h1, _, its, n, h2, h3, rfl, h4, h5⟩
theorem tk_mk {K : W.Frag} {a : Addr} {oc : Value} {od : Option Addr} {its : Array Value} {n : Nat} {sl : Array (Option Value)} {xs : List V} (h2 : K.lookup a = some ⟨oc, od, .seq its n, sl⟩)
    (h3 : oc = .type "tuple") (h4 : its.size ≤ sizeLine) (h5 : Vals xs its.toList) : TK K a xs := ⟨_, its, n, h2, h3, rfl, h4, h5⟩
theorem tt6_mk {K : W.Frag} {h : Heap} {mg : Str → Option Value} (X : K.In h) (G : h.Ns mainGlobals mg) {x : Str} {a : Addr} {oc : Value} {od : Option Addr} {n : Nat} {sl : Array (Option Value)} {a0 a1 a2 a3 a4 a5 : Addr} {x0 x1 x2 x3 x4 x5 : List V} (h1 : PySem.W.nsIn K mainGlobals x = some (some (.ref a))) (h2 : K.lookup a = some ⟨oc, od, .seq #[.ref a0, .ref a1, .ref a2, .ref a3, .ref a4, .ref a5] n, sl⟩) (h3 : oc = .type "tuple")
    (k0 : TK K a0 x0)
    (k1 : TK K a1 x1)
    (k2 : TK K a2 x2)
    (k3 : TK K a3 x3)
    (k4 : TK K a4 x4)
    (k5 : TK K a5 x5)
    : ∃ a a0 a1 a2 a3 a4 a5, mg x = some (.ref a) ∧ TK K a [.ref a0, .ref a1, .ref a2, .ref a3, .ref a4, .ref a5] ∧ TK K a0 x0 ∧ TK K a1 x1 ∧ TK K a2 x2 ∧ TK K a3 x3 ∧ TK K a4 x4 ∧ TK K a5 x5 :=
  ⟨a, a0, a1, a2, a3, a4, a5, PySem.W.mg_of X G h1, ⟨_, _, n, h2, h3, rfl, by show 6 ≤ sizeLine; decide, (.cons rfl (.cons rfl (.cons rfl (.cons rfl (.cons rfl (.cons rfl .nil))))))⟩, k0, k1, k2, k3, k4, k5⟩
theorem tt7_mk {K : W.Frag} {h : Heap} {mg : Str → Option Value} (X : K.In h) (G : h.Ns mainGlobals mg) {x : Str} {a : Addr} {oc : Value} {od : Option Addr} {n : Nat} {sl : Array (Option Value)} {a0 a1 a2 a3 a4 a5 a6 : Addr} {x0 x1 x2 x3 x4 x5 x6 : List V} (h1 : PySem.W.nsIn K mainGlobals x = some (some (.ref a))) (h2 : K.lookup a = some ⟨oc, od, .seq #[.ref a0, .ref a1, .ref a2, .ref a3, .ref a4, .ref a5, .ref a6] n, sl⟩) (h3 : oc = .type "tuple")
    (k0 : TK K a0 x0)
    (k1 : TK K a1 x1)
    (k2 : TK K a2 x2)
    (k3 : TK K a3 x3)
    (k4 : TK K a4 x4)
    (k5 : TK K a5 x5)
    (k6 : TK K a6 x6)
    : ∃ a a0 a1 a2 a3 a4 a5 a6, mg x = some (.ref a) ∧ TK K a [.ref a0, .ref a1, .ref a2, .ref a3, .ref a4, .ref a5, .ref a6] ∧ TK K a0 x0 ∧ TK K a1 x1 ∧ TK K a2 x2 ∧ TK K a3 x3 ∧ TK K a4 x4 ∧ TK K a5 x5 ∧ TK K a6 x6 :=
  ⟨a, a0, a1, a2, a3, a4, a5, a6, PySem.W.mg_of X G h1, ⟨_, _, n, h2, h3, rfl, by show 7 ≤ sizeLine; decide, (.cons rfl (.cons rfl (.cons rfl (.cons rfl (.cons rfl (.cons rfl (.cons rfl .nil)))))))⟩, k0, k1, k2, k3, k4, k5, k6⟩
end CG
namespace PySem.W.Fast
def tw3718647863567070963:=0
def tw10353202708603354740:=0
def tw7003697736379544195:=0
def tw4809277762166868830:=0
def tw12490231201180653726:=0
def tw17719035667075940520:=0
def tw7989705821658213885:=0
def tw2292395088689845582:=0
def tw14331215581562348028:=0
def tw3400329814832098589:=0
def tw4273741672827197949:=0
def tw5911911804124998498:=0
def tw9070937730811525973:=0
def tw2298818345940479157:=0
def tw9220129192872122113:=0
def tw9417957325751415762:=0
def tw17330101715357824108:=0
def tw10919503227918293819:=0
def tw567147053571819260:=0
def tw13692152165971407213:=0
def tw17081864142067394491:=0
def tw7894935692430438928:=0
def tw480749088369579873:=0
def tw18004896481236184126:=0
def tw2565721274148955848:=0
def tw6950885294161228674:=0
def tw18330091334159498766:=0
def tw10547822028868504018:=0
def tw17753550586962671031:=0
def tw13342796342129024978:=0
def tw2848492683476223109:=0
def tw2509715820241887079:=0
def tw13401001309219356537:=0
def tw16961906275554487471:=0
def tw7480168836114810252:=0
def tw17772750249661145379:=0
def tw12626701928262761158:=0
def tw17008275833737201620:=0
def tw7791879239589959134:=0
def tw14008944566615695358:=0
def tw15092461270905343477:=0
def tw1772137389695594183:=0
def tw5216417761275979545:=0
def tw6152366753582611837:=0
def tw6980468893508749154:=0
def tw10192488517377047781:=0
def tw10606015677365926681:=0
def tw2815743203244036142:=0
def tw7159717397863736421:=0
def tw6310458439417459487:=0
def tw8242697416409141704:=0
def tw12645738570097296871:=0
def tw8945376529093727055:=0
def tw12508185182310030222:=0
def tw8250792262186448133:=0
def tw6279752800317493863:=0
def tw16924380076040851997:=0
def tw16683124759276830853:=0
def tw7191648647073338386:=0
def tw10076618411955620216:=0
def tw5237530946816236228:=0
def tw1682238237369420672:=0
def tw12109189489318924460:=0
def tw733551050044033218:=0
def tw12820932704062609366:=0
def tw5929679812306370248:=0
def tw7794499876383541032:=0
def tw7677916650605185881:=0
def tw15172610953969037450:=0
def tw6668215653633779081:=0
def tw14303138267133424300:=0
def tw5365232445250854281:=0
def tw6033961069747059917:=0
def tw9928574162658364647:=0
def tw1135078932014340811:=0
def tw11118618708558527100:=0
def tw16370963785461392163:=0
def tw9825211773418896024:=0
def tw3295677697202507139:=0
def tw12896586732130347600:=0
def tw5788343238506169131:=0
def tw1714696960048431533:=0
def tw3331598846608821589:=0
def tw2903417288606161350:=0
def tw5881698883709693889:=0
def tw734881089302589209:=0
def tw8737461464298622300:=0
def tw4047939847962225008:=0
def tw16020191774001324970:=0
def tw7611467696875687716:=0
def tw16270270924951386245:=0
def tw9145134350078916051:=0
def tw18256491126299558277:=0
def tw15902483928665241406:=0
def tw13972723294646217062:=0
def tw8667827131083782974:=0
def tw2004911149568985116:=0
def tw9886156370764456594:=0
def tw9081896908460783530:=0
def tw8265260997459020792:=0
def tw9045386446547823408:=0
def tw13476636307540649690:=0
def tw18077179591805508196:=0
def tw8764073163255612779:=0
def tw6421872540510420399:=0
def tw7326110689532529389:=0
def tw9701208300222176091:=0
def tw17204990108335152814:=0
def tw11927824049868983639:=0
def tw12439004307968416931:=0
def tw7498549694516648895:=0
def tw7686290312817481028:=0
def tw11081059595229847126:=0
def tw10029895741443902712:=0
def tw7483971333642428508:=0
def tw7715120175840765550:=0
def tw8887342136338144219:=0
def tw2584253962347130022:=0
def tw17061881454394408250:=0
def tw5046401548497477890:=0
def tw7381502505994702413:=0
def tw4932224150576605591:=0
def tw15697811692279714798:=0
def tw9055819681163358221:=0
def tw7158924822656469392:=0
def tw845372718518167941:=0
def tw17566728513292670772:=0
def tw11076366656842024307:=0
def tw13441044895313225996:=0
def tw7926502585902261683:=0
def tw4120226302942772992:=0
def tw8160519958135987001:=0
def tw17852919985551367897:=0
def tw1176784464532698385:=0
def tw2074772841938636722:=0
def tw12633574577063852799:=0
def tw5489314403429534699:=0
def tw9964504845639860681:=0
def tw7402221118477111773:=0
def tw3716194722678504475:=0
def tw7204443316534937523:=0
def tw5371061041195880456:=0
def tw1818684634913880272:=0
def tw17067576551759908437:=0
def tw6466563131519277750:=0
def tw11296885016562665552:=0
def tw3137302099432837791:=0
def tw1058715224405508354:=0
def tw1345954973940595593:=0
def tw2916258566373095403:=0
def tw7073199180008104848:=0
def tw14835758804780226786:=0
def tw8281181994584053361:=0
def tw8736244945337077980:=0
def tw13756717164067887413:=0
def tw2712736780555741455:=0
def tw9120715560167133873:=0
def tw7276327893096682616:=0
def tw7669293679438331006:=0
def tw11108444623445633012:=0
def tw9802424123538921772:=0
def tw9408385290941888729:=0
def tw2489589836774685157:=0
def tw13689105988898875739:=0
def tw2946897639828716077:=0
def tw7566735587329489788:=0
def tw4071491601048097783:=0
def tw8728249509441116209:=0
def tw9160318208042100578:=0
def tw11794008490550277381:=0
def tw4285079574236195103:=0
def tw8854955746540062766:=0
def tw10070302071595440512:=0
def tw16415841210986895215:=0
def tw5478985616195162374:=0
def tw7376910676117899525:=0
def tw2620032424963550861:=0
def tw14273030109791460064:=0
def tw11572595679923811206:=0
def tw12943368327065353415:=0
def tw10295613760798629687:=0
def tw10126633587803205017:=0
def tw5816742830303119641:=0
def tw5759475270647199554:=0
def tw9652981415911646769:=0
def tw12884813366169249921:=0
def tw11850493406911407460:=0
def tw981999520514540012:=0
def tw8376530562534892744:=0
def tw13376603441234830776:=0
def tw11883245415280541568:=0
def tw10965309176484467006:=0
def tw17759040140677505207:=0
def tw16171833277999925066:=0
def tw1709195436083047280:=0
def tw16619199330078614816:=0
def tw11603372769972091468:=0
def tw13252205513134238908:=0
def tw9180387422237141163:=0
def tw2342055766454446776:=0
def tw8548194925697965608:=0
def tw14747791564666406880:=0
def tw9233238706007113964:=0
def tw5788345161450532377:=0
def tw12574783546988053899:=0
def tw2680642167728725921:=0
def tw2127928384619136762:=0
def tw1669647786061096429:=0
def tw12333001407777096910:=0
def tw16319128599953306734:=0
def tw5662519163070012540:=0
def tw2500362859348001933:=0
def tw5471699494728980147:=0
def tw9499953740733855832:=0
def tw5967438866550648475:=0
def tw4061097504847353523:=0
def tw15576121243618339204:=0
def tw7010056205445371779:=0
def tw727029998471613015:=0
def tw15742757699601618515:=0
def tw11878927525565712851:=0
def tw10944362378186440563:=0
def tw2404604407322648226:=0
def tw6692286859579605557:=0
def tw10356224060700559654:=0
def tw5624328658940148024:=0
def tw7315152211082271229:=0
def tw1315072821174486508:=0
def tw4011491275819093744:=0
def tw6199531069430868206:=0
def tw2423755412591998125:=0
def tw6619384949561341747:=0
def tw1763074944851170589:=0
def tw11495585166683210982:=0
def tw5561623840763036338:=0
def tw9642988687104053557:=0
def tw13794455793920031549:=0
def tw14818642188431069682:=0
def tw7773277249712221432:=0
def tw14297035350187194849:=0
def tw11772544751737545614:=0
def tw18333533963779641797:=0
def tw1448019248247435361:=0
def tw7984144050903690567:=0
def tw17785768279074225756:=0
def tw11247248269849951606:=0
def tw7204183376202942939:=0
def tw17615510662282096556:=0
def tw16574671361031242967:=0
def tw14051770359459827726:=0
def tw18341503254458363303:=0
def tw14196354947566774116:=0
def tw7633498533922933294:=0
def tw15372109776068091193:=0
def tw6769988709959557465:=0
def tw5971483704279790607:=0
def tw7529362341309026127:=0
def tw11480757419588643300:=0
def tw2171409165635203040:=0
def tw17860005250117019375:=0
def tw2899266206271598419:=0
def tw3332893059783151247:=0
def tw1654991695435714729:=0
def tw12456433128512458474:=0
def tw1566706136284093814:=0
def tw4984797676499117789:=0
def tw439025642272460893:=0
def tw5837215984886544784:=0
def tw15067076867138169120:=0
def tw14713025018740211097:=0
def tw14438550518316748893:=0
def tw2448182988903007859:=0
def tw8349808026716989721:=0
def tw15315756939011289926:=0
def tw3431347876603121889:=0
def tw8988921162874089454:=0
def tw682766133874549754:=0
def tw4787258478085932616:=0
def tw16833303120249341935:=0
def tw9515402734597112566:=0
def tw636315370796899891:=0
def tw5584833835490627294:=0
def tw2383595952057058983:=0
def tw6147621764798598303:=0
def tw884014515087214422:=0
def tw9808610632576912909:=0
def tw12105393150617036264:=0
def tw4169427162774491026:=0
def tw1805919654243438818:=0
def tw9968835562176108296:=0
def tw3209747695602503608:=0
def tw7628351509511127756:=0
def tw18125615211300401662:=0
def tw214560040082850063:=0
def tw8119906554592010324:=0
def tw7741733991802499810:=0
def tw16821531995730946256:=0
def tw13123289446847524253:=0
def tw13500599177810206922:=0
def tw15577326049550668725:=0
def tw353036340153484198:=0
def tw9741218187552676249:=0
def tw3519729936205454968:=0
def tw12900117036247254422:=0
def tw1541103793499527456:=0
def tw308539448454123971:=0
def tw205933486722244897:=0
def tw4377647824630488920:=0
def tw7277764948482559888:=0
def tw11607603012680605494:=0
def tw2626566149387121197:=0
def tw6323699057655820671:=0
def tw5736148839550040313:=0
def tw9768780145153333521:=0
def tw18193817628201080860:=0
def tw1042573238225016329:=0
def tw4196521963728027626:=0
def tw17096850804061288274:=0
def tw18298535019455684709:=0
def tw6200517256872849523:=0
def tw11132274450033771014:=0
def tw11386206865496738135:=0
def tw6613321699644649982:=0
def tw17600969387003859635:=0
def tw16770875987652080721:=0
def tw12023713644857891517:=0
def tw15037404165410037001:=0
def tw13483340110230355451:=0
def tw15588992246168226196:=0
def tw4591305166312124807:=0
def tw9807360700727661289:=0
def tw13270982909511830115:=0
def tw8711991487250516486:=0
def tw7173961323660092759:=0
def tw2499524564896387057:=0
def tw6525661729788446090:=0
def tw14493292780344825354:=0
def tw4194885940018944205:=0
def tw193770260678986753:=0
def tw16205827677904785470:=0
def tw17755595933256690616:=0
def tw15043244151095368997:=0
def tw11000842490039852132:=0
def tw17581769121523257796:=0
def tw4757395253893217633:=0
def tw16107399779892143250:=0
def tw6899129465310406242:=0
def tw11246340110527974181:=0
def tw14768741830291677517:=0
def tw7330538181421444708:=0
def tw10161762658902267027:=0
def tw1711138909978876917:=0
def tw659303652374223347:=0
def tw13354561169030551352:=0
def tw13821491394143350266:=0
def tw4914828013212198914:=0
def tw16984729016828878829:=0
def tw2522339117725534169:=0
def tw17017945620955031439:=0
def tw14524993425085200738:=0
def tw14421175876339066929:=0
def tw11261565397966506096:=0
def tw532339007141347077:=0
def tw1418708940534894357:=0
def tw14951172472198176277:=0
def tw12681993476830667004:=0
def tw10387058828396090902:=0
def tw3554669578992090770:=0
def tw14848891430631154014:=0
def tw5965015618506371715:=0
def tw1816302136205900068:=0
def tw12040644192529735576:=0
def tw14242831585030296896:=0
def tw15362627370714425596:=0
def tw13315467664644138329:=0
def tw7991196781253880598:=0
def tw17212096135436698766:=0
def tw10814182655375029799:=0
def tw14082450555655929260:=0
def tw13629994300404657149:=0
def tw5060848143369726107:=0
def tw8941711979998851379:=0
def tw2493322653088750574:=0
def tw6350387937651300317:=0
def tw5876728474128218086:=0
def tw1919239530951978623:=0
def tw17823283670107235325:=0
def tw8916445161698836738:=0
def tw4593513484448759811:=0
def tw320729516541828245:=0
def tw10465048186650393678:=0
def tw14522089959913510208:=0
def tw6010816830969034000:=0
def tw14789525402943001140:=0
def tw10132570082090004723:=0
def tw10493447973092834142:=0
def tw17339709102922642868:=0
def tw15477295474162346843:=0
def tw7015521017161730941:=0
def tw7976089277257468784:=0
def tw4236172821312775474:=0
def tw1877705240888527636:=0
def tw16524670593930145649:=0
def tw2355052670674982624:=0
def tw6744755952600480868:=0
def tw12616940947667730284:=0
def tw1016175003215546715:=0
def tw8323347601624837331:=0
def tw6450628737208742645:=0
def tw1603654321200821798:=0
def tw9716704445414491550:=0
def tw16105289672184605178:=0
def tw2994933027658519047:=0
def tw13083302575310276288:=0
def tw15561180645026604308:=0
def tw16621128905614727511:=0
def tw11158377781462497920:=0
def tw7863372060666665395:=0
def tw15484027545946389376:=0
def tw10651237722665725130:=0
def tw8760051130288298028:=0
def tw10177913807721309942:=0
def tw5050369923169866637:=0
def tw2917098581777701381:=0
def tw13395841012039767881:=0
def tw3171880496388755240:=0
def tw11349547727018779596:=0
def tw14117164792935531594:=0
def tw6599368915795625186:=0
def tw7800251737197352287:=0
def tw5976895871162131907:=0
def tw18261604087219338485:=0
def tw701734852564077882:=0
def tw5060684424404552308:=0
def tw1797395536392152154:=0
def tw14167436808770196946:=0
def tw10825256886581263675:=0
def tw8075528522246550610:=0
def tw15922525283275067463:=0
def tw8302083673632079569:=0
def tw2946901905427710756:=0
def tw15036586050620407975:=0
def tw8220382561320767991:=0
def tw7250863298467199728:=0
def tw4567119563463590753:=0
def tw5000901101864644585:=0
def tw12952010561954287186:=0
def tw3914935104708802855:=0
def tw11312055739105535995:=0
def tw3044551087316258695:=0
def tw4641226143771076992:=0
def tw2042565477637390484:=0
def tw3425764613592735871:=0
def tw4332176607778084943:=0
def tw12517153803505466523:=0
def tw8925772861186873090:=0
def tw12748843258141448875:=0
def tw3611603328919530950:=0
def tw15205299123946488613:=0
def tw15729677744148253474:=0
def tw1572148319306245945:=0
def tw2191512100607931310:=0
def tw3475896826170972993:=0
def tw14025599671790399197:=0
def tw2604381229875665623:=0
def tw797648566731502222:=0
def tw9632057867724061416:=0
def tw14380022460022063181:=0
def tw5124180234731697758:=0
def tw9850404943429446763:=0
def tw3258332134969474342:=0
def tw13902962852984082981:=0
def tw4097041934530739972:=0
def tw8440561804995426263:=0
def tw4046969532787799898:=0
def tw14863270927810119856:=0
def tw13061704487340150464:=0
def tw9308425698056494057:=0
def tw4843898690686172528:=0
def tw5185197436470797924:=0
def tw4725331348772690081:=0
def tw6518263580302983372:=0
def tw7331504198892747129:=0
def tw16155266933951983933:=0
def tw12958591280411356126:=0
def tw8347713587212435965:=0
def tw9256229887796672432:=0
def tw13134610692201615075:=0
def tw14174107510813830118:=0
def tw13346629137398732778:=0
def tw13917303155685079558:=0
def tw17749118798731510836:=0
def tw16312293284328651015:=0
def tw8308861417247688841:=0
def tw14489499571828105834:=0
def tw762907536628950647:=0
def tw12481368321804493811:=0
def tw17162322606787454506:=0
def tw262410127352139213:=0
def tw14094399845480733549:=0
def tw6585209253031513237:=0
def tw8857894213345097509:=0
def tw7231386199756403941:=0
def tw10547385308991829212:=0
def tw15368237591087242982:=0
def tw2960085101788947550:=0
def tw8718091696148632400:=0
def tw18384370655076534755:=0
def tw1366013489717948259:=0
def tw15980954663146438953:=0
def tw5986230721209495927:=0
def tw16089029704246388593:=0
def tw3219972276321194883:=0
def tw6660283036113153496:=0
def tw14021105977554698876:=0
def tw9155443292533694371:=0
def tw8797151118123291055:=0
def tw13840982361671341810:=0
def tw9686861390144745432:=0
def tw5801688680372587778:=0
def tw535572382320130374:=0
def tw3254583213700881301:=0
def tw11588356754751881204:=0
def tw11005119562432814865:=0
def tw10376453206273668964:=0
def tw3790112354138736227:=0
def tw14654618163530775442:=0
def tw13991562212912938389:=0
def tw5682836635473277598:=0
def tw17785351605331242229:=0
def tw10471407585076475296:=0
def tw5244859399030566085:=0
def tw7767881941676673764:=0
def tw17938831603061469357:=0
def tw6016968367388228764:=0
def tw12635106954052508555:=0
def tw1442217406084722378:=0
def tw1997584678320698316:=0
def tw5144555738293697863:=0
def tw9575628530722689637:=0
def tw202280856532377831:=0
def tw15250471350514408145:=0
def tw15793841064208128026:=0
def tw8599579961960301179:=0
def tw12398291570897530131:=0
def tw1554543960708312389:=0
def tw2876022177913495588:=0
def tw6291194757160559314:=0
def tw9699599807848347481:=0
def tw6423105350871746305:=0
def tw2359417819784989251:=0
def tw5576474878877001511:=0
def tw14111300942452368648:=0
def tw11305390144458392871:=0
def tw6165011909328068108:=0
def tw8147036481143020893:=0
def tw1178491466734743558:=0
def tw1911832316934073037:=0
def tw15885151819760668694:=0
def tw16947243214645284835:=0
def tw7581976305807413819:=0
def tw1013838772754526849:=0
def tw16412104770865109554:=0
def tw6532660915752311968:=0
end PySem.W.Fast
open PySem PySem.W PyProof.Rows
set_option maxRecDepth 100000 in
set_option maxHeartbeats 0 in
theorem PySem.Challenge.cw_cacheguess_s01_answers_holds : PySem.Challenge.rw_cacheguess_s01_answers.Holds := by
  w_on; k_headS; (case hw => exact ⟨[.list [.int 0, .int 0, .int 0]], by decide +kernel, by decide +kernel⟩)
  k_fillS
  refine L2.walk_specK (r := PySem.Challenge.rw_cacheguess_s01_answers) (k := 60) (CX := L2.CX0) (ps := ["calls"]) (sp := CG.spAns) (by decide +kernel) rfl rfl ⟨rfl, by decide, by decide⟩ (fun w h Y => PySem.W.kIn_of Y) ?F ?S (fun _ _ _ _ z => z)
  case F =>
    intro w mg fa h Y KX G hmg
    refine' CG.fin_mk KX G hmg ?a0 ?a1 ?a2 ?a3 ?a4 ?a5 ?a6 ?a7 ?a8 ?a9 ?t0 ?t1 ?t2 ?t3 ?t4 ?t5 ?t6 ?t7 ?t8 ?t9 ?d0 ?d1 ?d2 ?d3 ?d4 ?d5 ?d6 ?d7 ?d8 ?d9 ?d10 ?d11 ?d12 ?e0 ?e1 ?e2 ?e3 ?e4 ?e5 ?e6 ?e7 ?e8 ?e9 ?e10 ?e11 ?e12 ?e13 ?e14 ?e15 ?e16 ?e17 ?e18 ?e19 ?e20 ?e21 ?e22 ?e23 ?e24 ?e25 ?e26 ?e27 ?e28 ?e29 ?e30 ?e31 ?e32 ?b_len ?b_range ?b_min ?b_max ?b_list ?b_reversed ?b_enumerate ?b_zip
    (case a0 => k_is)
    (case a1 => k_is)
    (case a2 => k_is)
    (case a3 => k_is)
    (case a4 => k_is)
    (case a5 => k_is)
    (case a6 => k_is)
    (case a7 => k_is)
    (case a8 => k_is)
    (case a9 => k_is)
    case t0 =>
      intro mC
      refine' ⟨⟨?pg, ?hd, ?po, ?sa⟩, mC, ?n_j33, ?m0, ?m1, ?m2⟩
      (case pg => k_is); (case hd => k_is); (case po => k_is); (case sa => k_is)
      (case n_j33 => (unfold L2.NoAttr; k_is))
      case m0 =>
        refine' CG.if_mk (fun _ _ _ _ _ _ us hl => match us, hl with | [_, _], _ => rfl) ?a ?i ?l ?c ?k ?mk ?kc
        (case a => k_is); (case i => k_is); (case l => k_is); (case c => k_is); (case k => k_is); (case mk => k_is); (case kc => k_is)
      case m1 =>
        refine' CG.mf_mk (fun _ _ _ _ _ _ us hl => match us, hl with | [_, _], _ => rfl) ?a ?i ?l ?c ?k
        (case a => k_is); (case i => k_is); (case l => k_is); (case c => k_is); (case k => k_is)
      case m2 =>
        refine' CG.mf_mk (fun _ _ _ _ _ _ us hl => match us, hl with | [_, _, _], _ => rfl) ?a ?i ?l ?c ?k
        (case a => k_is); (case i => k_is); (case l => k_is); (case c => k_is); (case k => k_is)
    case t1 =>
      intro mC
      refine' ⟨⟨?pg, ?hd, ?po, ?sa⟩, mC, ?n_j39, ?n_j13, ?n_j10, ?n_j24, ?n_j6, ?n_j4, ?n_j5, ?n_j9, ?n_j3, ?n_j45, ?m0, ?m1, ?m2, ?m3, ?m4, ?m5, ?m6, ?m7, ?m8⟩
      (case pg => k_is); (case hd => k_is); (case po => k_is); (case sa => k_is)
      (case n_j39 => (unfold L2.NoAttr; k_is)); (case n_j13 => (unfold L2.NoAttr; k_is)); (case n_j10 => (unfold L2.NoAttr; k_is)); (case n_j24 => (unfold L2.NoAttr; k_is)); (case n_j6 => (unfold L2.NoAttr; k_is)); (case n_j4 => (unfold L2.NoAttr; k_is)); (case n_j5 => (unfold L2.NoAttr; k_is)); (case n_j9 => (unfold L2.NoAttr; k_is)); (case n_j3 => (unfold L2.NoAttr; k_is)); (case n_j45 => (unfold L2.NoAttr; k_is))
      case m0 =>
        refine' CG.if_mk (fun _ _ _ _ _ _ us hl => match us, hl with | [_, _], _ => rfl) ?a ?i ?l ?c ?k ?mk ?kc
        (case a => k_is); (case i => k_is); (case l => k_is); (case c => k_is); (case k => k_is); (case mk => k_is); (case kc => k_is)
      case m1 =>
        refine' CG.mf_mk (fun _ _ _ _ _ _ us hl => match us, hl with | [_, _, _], _ => rfl) ?a ?i ?l ?c ?k
        (case a => k_is); (case i => k_is); (case l => k_is); (case c => k_is); (case k => k_is)
      case m2 =>
        refine' CG.mf_mk (fun _ _ _ _ _ _ us hl => match us, hl with | [_, _], _ => rfl) ?a ?i ?l ?c ?k
        (case a => k_is); (case i => k_is); (case l => k_is); (case c => k_is); (case k => k_is)
      case m3 =>
        refine' CG.mf_mk (fun _ _ _ _ _ _ us hl => match us, hl with | [_, _], _ => rfl) ?a ?i ?l ?c ?k
        (case a => k_is); (case i => k_is); (case l => k_is); (case c => k_is); (case k => k_is)
      case m4 =>
        refine' CG.mf_mk (fun _ _ _ _ _ _ us hl => match us, hl with | [_, _], _ => rfl) ?a ?i ?l ?c ?k
        (case a => k_is); (case i => k_is); (case l => k_is); (case c => k_is); (case k => k_is)
      case m5 =>
        refine' CG.mf_mk (fun _ _ _ _ _ _ us hl => match us, hl with | [_, _, _], _ => rfl) ?a ?i ?l ?c ?k
        (case a => k_is); (case i => k_is); (case l => k_is); (case c => k_is); (case k => k_is)
      case m6 =>
        refine' CG.mf_mk (fun _ _ _ _ _ _ us hl => match us, hl with | [_, _, _], _ => rfl) ?a ?i ?l ?c ?k
        (case a => k_is); (case i => k_is); (case l => k_is); (case c => k_is); (case k => k_is)
      case m7 =>
        refine' CG.mf_mk (fun _ _ _ _ _ _ us hl => match us, hl with | [_, _, _], _ => rfl) ?a ?i ?l ?c ?k
        (case a => k_is); (case i => k_is); (case l => k_is); (case c => k_is); (case k => k_is)
      case m8 =>
        refine' CG.mf_mk (fun _ _ _ _ _ _ us hl => match us, hl with | [_, _, _], _ => rfl) ?a ?i ?l ?c ?k
        (case a => k_is); (case i => k_is); (case l => k_is); (case c => k_is); (case k => k_is)
    case t2 =>
      intro mC
      refine' ⟨⟨?pg, ?hd, ?po, ?sa⟩, mC, ?n_j25, ?n_j18, ?n_j20, ?n_j23, ?n_j37, ?m0, ?m1, ?m2, ?m3, ?m4, ?m5, ?m6, ?m7, ?m8, ?m9⟩
      (case pg => k_is); (case hd => k_is); (case po => k_is); (case sa => k_is)
      (case n_j25 => (unfold L2.NoAttr; k_is)); (case n_j18 => (unfold L2.NoAttr; k_is)); (case n_j20 => (unfold L2.NoAttr; k_is)); (case n_j23 => (unfold L2.NoAttr; k_is)); (case n_j37 => (unfold L2.NoAttr; k_is))
      case m0 =>
        refine' CG.if_mk (fun _ _ _ _ _ _ us hl => match us, hl with | [_, _, _], _ => rfl) ?a ?i ?l ?c ?k ?mk ?kc
        (case a => k_is); (case i => k_is); (case l => k_is); (case c => k_is); (case k => k_is); (case mk => k_is); (case kc => k_is)
      case m1 =>
        refine' CG.mf_mk (fun _ _ _ _ _ _ us hl => match us, hl with | [_, _], _ => rfl) ?a ?i ?l ?c ?k
        (case a => k_is); (case i => k_is); (case l => k_is); (case c => k_is); (case k => k_is)
      case m2 =>
        refine' CG.mf_mk (fun _ _ _ _ _ _ us hl => match us, hl with | [_, _], _ => rfl) ?a ?i ?l ?c ?k
        (case a => k_is); (case i => k_is); (case l => k_is); (case c => k_is); (case k => k_is)
      case m3 =>
        refine' CG.mf_mk (fun _ _ _ _ _ _ us hl => match us, hl with | [_, _], _ => rfl) ?a ?i ?l ?c ?k
        (case a => k_is); (case i => k_is); (case l => k_is); (case c => k_is); (case k => k_is)
      case m4 =>
        refine' CG.mf_mk (fun _ _ _ _ _ _ us hl => match us, hl with | [_, _], _ => rfl) ?a ?i ?l ?c ?k
        (case a => k_is); (case i => k_is); (case l => k_is); (case c => k_is); (case k => k_is)
      case m5 =>
        refine' CG.mf_mk (fun _ _ _ _ _ _ us hl => match us, hl with | [_, _, _, _], _ => rfl) ?a ?i ?l ?c ?k
        (case a => k_is); (case i => k_is); (case l => k_is); (case c => k_is); (case k => k_is)
      case m6 =>
        refine' CG.mf_mk (fun _ _ _ _ _ _ us hl => match us, hl with | [_, _], _ => rfl) ?a ?i ?l ?c ?k
        (case a => k_is); (case i => k_is); (case l => k_is); (case c => k_is); (case k => k_is)
      case m7 =>
        refine' CG.mf_mk (fun _ _ _ _ _ _ us hl => match us, hl with | [_, _], _ => rfl) ?a ?i ?l ?c ?k
        (case a => k_is); (case i => k_is); (case l => k_is); (case c => k_is); (case k => k_is)
      case m8 =>
        refine' CG.mf_mk (fun _ _ _ _ _ _ us hl => match us, hl with | [_], _ => rfl) ?a ?i ?l ?c ?k
        (case a => k_is); (case i => k_is); (case l => k_is); (case c => k_is); (case k => k_is)
      case m9 =>
        refine' CG.mf_mk (fun _ _ _ _ _ _ us hl => match us, hl with | [_, _], _ => rfl) ?a ?i ?l ?c ?k
        (case a => k_is); (case i => k_is); (case l => k_is); (case c => k_is); (case k => k_is)
    case t3 =>
      intro mC
      refine' ⟨⟨?pg, ?hd, ?po, ?sa⟩, mC, ?n_j27, ?n_j41, ?m0, ?m1⟩
      (case pg => k_is); (case hd => k_is); (case po => k_is); (case sa => k_is)
      (case n_j27 => (unfold L2.NoAttr; k_is)); (case n_j41 => (unfold L2.NoAttr; k_is))
      case m0 =>
        refine' CG.if_mk (fun _ _ _ _ _ _ us hl => match us, hl with | [_], _ => rfl) ?a ?i ?l ?c ?k ?mk ?kc
        (case a => k_is); (case i => k_is); (case l => k_is); (case c => k_is); (case k => k_is); (case mk => k_is); (case kc => k_is)
      case m1 =>
        refine' CG.mf_mk (fun _ _ _ _ _ _ us hl => match us, hl with | [_, _, _], _ => rfl) ?a ?i ?l ?c ?k
        (case a => k_is); (case i => k_is); (case l => k_is); (case c => k_is); (case k => k_is)
    case t4 =>
      intro mC
      refine' ⟨⟨?pg, ?hd, ?po, ?sa⟩, mC, ?n_j31, ?n_j17, ?n_j44, ?n_j12, ?n_j8, ?n_j1, ?n_j28, ?n_j29, ?n_j42, ?n_j43, ?n_j26, ?n_j11, ?m0, ?m1, ?m2, ?m3, ?m4, ?m5, ?m6, ?m7, ?m8, ?m9, ?m10⟩
      (case pg => k_is); (case hd => k_is); (case po => k_is); (case sa => k_is)
      (case n_j31 => (unfold L2.NoAttr; k_is)); (case n_j17 => (unfold L2.NoAttr; k_is)); (case n_j44 => (unfold L2.NoAttr; k_is)); (case n_j12 => (unfold L2.NoAttr; k_is)); (case n_j8 => (unfold L2.NoAttr; k_is)); (case n_j1 => (unfold L2.NoAttr; k_is)); (case n_j28 => (unfold L2.NoAttr; k_is)); (case n_j29 => (unfold L2.NoAttr; k_is)); (case n_j42 => (unfold L2.NoAttr; k_is)); (case n_j43 => (unfold L2.NoAttr; k_is)); (case n_j26 => (unfold L2.NoAttr; k_is)); (case n_j11 => (unfold L2.NoAttr; k_is))
      case m0 =>
        refine' CG.if_mk (fun _ _ _ _ _ _ us hl => match us, hl with | [_, _, _, _], _ => rfl) ?a ?i ?l ?c ?k ?mk ?kc
        (case a => k_is); (case i => k_is); (case l => k_is); (case c => k_is); (case k => k_is); (case mk => k_is); (case kc => k_is)
      case m1 =>
        refine' CG.mf_mk (fun _ _ _ _ _ _ us hl => match us, hl with | [_], _ => rfl) ?a ?i ?l ?c ?k
        (case a => k_is); (case i => k_is); (case l => k_is); (case c => k_is); (case k => k_is)
      case m2 =>
        refine' CG.mf_mk (fun _ _ _ _ _ _ us hl => match us, hl with | [_, _, _, _], _ => rfl) ?a ?i ?l ?c ?k
        (case a => k_is); (case i => k_is); (case l => k_is); (case c => k_is); (case k => k_is)
      case m3 =>
        refine' CG.mf_mk (fun _ _ _ _ _ _ us hl => match us, hl with | [_, _, _], _ => rfl) ?a ?i ?l ?c ?k
        (case a => k_is); (case i => k_is); (case l => k_is); (case c => k_is); (case k => k_is)
      case m4 =>
        refine' CG.mf_mk (fun _ _ _ _ _ _ us hl => match us, hl with | [_, _], _ => rfl) ?a ?i ?l ?c ?k
        (case a => k_is); (case i => k_is); (case l => k_is); (case c => k_is); (case k => k_is)
      case m5 =>
        refine' CG.mf_mk (fun _ _ _ _ _ _ us hl => match us, hl with | [_, _], _ => rfl) ?a ?i ?l ?c ?k
        (case a => k_is); (case i => k_is); (case l => k_is); (case c => k_is); (case k => k_is)
      case m6 =>
        refine' CG.mf_mk (fun _ _ _ _ _ _ us hl => match us, hl with | [_, _, _], _ => rfl) ?a ?i ?l ?c ?k
        (case a => k_is); (case i => k_is); (case l => k_is); (case c => k_is); (case k => k_is)
      case m7 =>
        refine' CG.mf_mk (fun _ _ _ _ _ _ us hl => match us, hl with | [_, _], _ => rfl) ?a ?i ?l ?c ?k
        (case a => k_is); (case i => k_is); (case l => k_is); (case c => k_is); (case k => k_is)
      case m8 =>
        refine' CG.mf_mk (fun _ _ _ _ _ _ us hl => match us, hl with | [_, _, _], _ => rfl) ?a ?i ?l ?c ?k
        (case a => k_is); (case i => k_is); (case l => k_is); (case c => k_is); (case k => k_is)
      case m9 =>
        refine' CG.mf_mk (fun _ _ _ _ _ _ us hl => match us, hl with | [_, _, _], _ => rfl) ?a ?i ?l ?c ?k
        (case a => k_is); (case i => k_is); (case l => k_is); (case c => k_is); (case k => k_is)
      case m10 =>
        refine' CG.mf_mk (fun _ _ _ _ _ _ us hl => match us, hl with | [_, _], _ => rfl) ?a ?i ?l ?c ?k
        (case a => k_is); (case i => k_is); (case l => k_is); (case c => k_is); (case k => k_is)
    case t5 =>
      intro mC
      refine' ⟨⟨?pg, ?hd, ?po, ?sa⟩, mC, ?n_j2, ?m0, ?m1⟩
      (case pg => k_is); (case hd => k_is); (case po => k_is); (case sa => k_is)
      (case n_j2 => (unfold L2.NoAttr; k_is))
      case m0 =>
        refine' CG.if_mk (fun _ _ _ _ _ _ us hl => match us, hl with | [_], _ => rfl) ?a ?i ?l ?c ?k ?mk ?kc
        (case a => k_is); (case i => k_is); (case l => k_is); (case c => k_is); (case k => k_is); (case mk => k_is); (case kc => k_is)
      case m1 =>
        refine' CG.mf_mk (fun _ _ _ _ _ _ us hl => match us, hl with | [_, _], _ => rfl) ?a ?i ?l ?c ?k
        (case a => k_is); (case i => k_is); (case l => k_is); (case c => k_is); (case k => k_is)
    case t6 =>
      intro mC
      refine' ⟨⟨?pg, ?hd, ?po, ?sa⟩, mC, ?n_j31, ?n_j40, ?n_j14, ?n_j38, ?m0, ?m1⟩
      (case pg => k_is); (case hd => k_is); (case po => k_is); (case sa => k_is)
      (case n_j31 => (unfold L2.NoAttr; k_is)); (case n_j40 => (unfold L2.NoAttr; k_is)); (case n_j14 => (unfold L2.NoAttr; k_is)); (case n_j38 => (unfold L2.NoAttr; k_is))
      case m0 =>
        refine' CG.if_mk (fun _ _ _ _ _ _ us hl => match us, hl with | [_, _, _], _ => rfl) ?a ?i ?l ?c ?k ?mk ?kc
        (case a => k_is); (case i => k_is); (case l => k_is); (case c => k_is); (case k => k_is); (case mk => k_is); (case kc => k_is)
      case m1 =>
        refine' CG.mf_mk (fun _ _ _ _ _ _ us hl => match us, hl with | [_, _, _], _ => rfl) ?a ?i ?l ?c ?k
        (case a => k_is); (case i => k_is); (case l => k_is); (case c => k_is); (case k => k_is)
    case t7 =>
      intro mC
      refine' ⟨⟨?pg, ?hd, ?po, ?sa⟩, mC, ?n_j15, ?n_j22, ?n_j30, ?n_j19, ?m0, ?m1, ?m2⟩
      (case pg => k_is); (case hd => k_is); (case po => k_is); (case sa => k_is)
      (case n_j15 => (unfold L2.NoAttr; k_is)); (case n_j22 => (unfold L2.NoAttr; k_is)); (case n_j30 => (unfold L2.NoAttr; k_is)); (case n_j19 => (unfold L2.NoAttr; k_is))
      case m0 =>
        refine' CG.if_mk (fun _ _ _ _ _ _ us hl => match us, hl with | [_, _], _ => rfl) ?a ?i ?l ?c ?k ?mk ?kc
        (case a => k_is); (case i => k_is); (case l => k_is); (case c => k_is); (case k => k_is); (case mk => k_is); (case kc => k_is)
      case m1 =>
        refine' CG.mf_mk (fun _ _ _ _ _ _ us hl => match us, hl with | [_, _], _ => rfl) ?a ?i ?l ?c ?k
        (case a => k_is); (case i => k_is); (case l => k_is); (case c => k_is); (case k => k_is)
      case m2 =>
        refine' CG.mf_mk (fun _ _ _ _ _ _ us hl => match us, hl with | [_, _], _ => rfl) ?a ?i ?l ?c ?k
        (case a => k_is); (case i => k_is); (case l => k_is); (case c => k_is); (case k => k_is)
    case t8 =>
      intro mC
      refine' ⟨⟨?pg, ?hd, ?po, ?sa⟩, mC, ?n_j0, ?n_j36, ?n_j32, ?n_j16, ?n_j34, ?m0, ?m1⟩
      (case pg => k_is); (case hd => k_is); (case po => k_is); (case sa => k_is)
      (case n_j0 => (unfold L2.NoAttr; k_is)); (case n_j36 => (unfold L2.NoAttr; k_is)); (case n_j32 => (unfold L2.NoAttr; k_is)); (case n_j16 => (unfold L2.NoAttr; k_is)); (case n_j34 => (unfold L2.NoAttr; k_is))
      case m0 =>
        refine' CG.if_mk (fun _ _ _ _ _ _ us hl => match us, hl with | [_, _], _ => rfl) ?a ?i ?l ?c ?k ?mk ?kc
        (case a => k_is); (case i => k_is); (case l => k_is); (case c => k_is); (case k => k_is); (case mk => k_is); (case kc => k_is)
      case m1 =>
        refine' CG.mf_mk (fun _ _ _ _ _ _ us hl => match us, hl with | [_], _ => rfl) ?a ?i ?l ?c ?k
        (case a => k_is); (case i => k_is); (case l => k_is); (case c => k_is); (case k => k_is)
    case t9 =>
      intro mC
      refine' ⟨⟨?pg, ?hd, ?po, ?sa⟩, mC, ?n_j21, ?n_j7, ?n_j3, ?n_j35, ?n_j30, ?m0, ?m1, ?m2, ?m3, ?m4, ?m5⟩
      (case pg => k_is); (case hd => k_is); (case po => k_is); (case sa => k_is)
      (case n_j21 => (unfold L2.NoAttr; k_is)); (case n_j7 => (unfold L2.NoAttr; k_is)); (case n_j3 => (unfold L2.NoAttr; k_is)); (case n_j35 => (unfold L2.NoAttr; k_is)); (case n_j30 => (unfold L2.NoAttr; k_is))
      case m0 =>
        refine' CG.if_mk (fun _ _ _ _ _ _ us hl => match us, hl with | [_, _, _], _ => rfl) ?a ?i ?l ?c ?k ?mk ?kc
        (case a => k_is); (case i => k_is); (case l => k_is); (case c => k_is); (case k => k_is); (case mk => k_is); (case kc => k_is)
      case m1 =>
        refine' CG.mf_mk (fun _ _ _ _ _ _ us hl => match us, hl with | [_, _], _ => rfl) ?a ?i ?l ?c ?k
        (case a => k_is); (case i => k_is); (case l => k_is); (case c => k_is); (case k => k_is)
      case m2 =>
        refine' CG.mf_mk (fun _ _ _ _ _ _ us hl => match us, hl with | [_, _], _ => rfl) ?a ?i ?l ?c ?k
        (case a => k_is); (case i => k_is); (case l => k_is); (case c => k_is); (case k => k_is)
      case m3 =>
        refine' CG.mf_mk (fun _ _ _ _ _ _ us hl => match us, hl with | [_, _], _ => rfl) ?a ?i ?l ?c ?k
        (case a => k_is); (case i => k_is); (case l => k_is); (case c => k_is); (case k => k_is)
      case m4 =>
        refine' CG.mf_mk (fun _ _ _ _ _ _ us hl => match us, hl with | [_, _], _ => rfl) ?a ?i ?l ?c ?k
        (case a => k_is); (case i => k_is); (case l => k_is); (case c => k_is); (case k => k_is)
      case m5 =>
        refine' CG.mf_mk (fun _ _ _ _ _ _ us hl => match us, hl with | [_], _ => rfl) ?a ?i ?l ?c ?k
        (case a => k_is); (case i => k_is); (case l => k_is); (case c => k_is); (case k => k_is)
    case d0 =>
      refine' CG.df_mk KX G (fun _ _ _ _ _ _ us hl => match us, hl with | [_, _, _], _ => rfl) ?a ?l ?c ?k
      (case a => k_is); (case l => k_is); (case c => k_is); (case k => k_is)
    case d1 =>
      refine' CG.df_mk KX G (fun _ _ _ _ _ _ us hl => match us, hl with | [_], _ => rfl) ?a ?l ?c ?k
      (case a => k_is); (case l => k_is); (case c => k_is); (case k => k_is)
    case d2 =>
      refine' CG.df_mk KX G (fun _ _ _ _ _ _ us hl => match us, hl with | [_], _ => rfl) ?a ?l ?c ?k
      (case a => k_is); (case l => k_is); (case c => k_is); (case k => k_is)
    case d3 =>
      refine' CG.df_mk KX G (fun _ _ _ _ _ _ us hl => match us, hl with | [_, _], _ => rfl) ?a ?l ?c ?k
      (case a => k_is); (case l => k_is); (case c => k_is); (case k => k_is)
    case d4 =>
      refine' CG.df_mk KX G (fun _ _ _ _ _ _ us hl => match us, hl with | [_], _ => rfl) ?a ?l ?c ?k
      (case a => k_is); (case l => k_is); (case c => k_is); (case k => k_is)
    case d5 =>
      refine' CG.df_mk KX G (fun _ _ _ _ _ _ us hl => match us, hl with | [_], _ => rfl) ?a ?l ?c ?k
      (case a => k_is); (case l => k_is); (case c => k_is); (case k => k_is)
    case d6 =>
      refine' CG.df_mk KX G (fun _ _ _ _ _ _ us hl => match us, hl with | [_], _ => rfl) ?a ?l ?c ?k
      (case a => k_is); (case l => k_is); (case c => k_is); (case k => k_is)
    case d7 =>
      refine' CG.df_mk KX G (fun _ _ _ _ _ _ us hl => match us, hl with | [_, _], _ => rfl) ?a ?l ?c ?k
      (case a => k_is); (case l => k_is); (case c => k_is); (case k => k_is)
    case d8 =>
      refine' CG.df_mk KX G (fun _ _ _ _ _ _ us hl => match us, hl with | [_, _], _ => rfl) ?a ?l ?c ?k
      (case a => k_is); (case l => k_is); (case c => k_is); (case k => k_is)
    case d9 =>
      refine' CG.df_mk KX G (fun _ _ _ _ _ _ us hl => match us, hl with | [_, _], _ => rfl) ?a ?l ?c ?k
      (case a => k_is); (case l => k_is); (case c => k_is); (case k => k_is)
    case d10 =>
      refine' CG.df_mk KX G (fun _ _ _ _ _ _ us hl => match us, hl with | [_, _], _ => rfl) ?a ?l ?c ?k
      (case a => k_is); (case l => k_is); (case c => k_is); (case k => k_is)
    case d11 =>
      refine' CG.df_mk KX G (fun _ _ _ _ _ _ us hl => match us, hl with | [_, _], _ => rfl) ?a ?l ?c ?k
      (case a => k_is); (case l => k_is); (case c => k_is); (case k => k_is)
    case d12 =>
      refine' CG.df_mk KX G (fun _ _ _ _ _ _ us hl => match us, hl with | [_], _ => rfl) ?a ?l ?c ?k
      (case a => k_is); (case l => k_is); (case c => k_is); (case k => k_is)
    case e0 =>
      refine' CG.ci_mk KX G ?a
      (case a => k_is)
    case e1 =>
      refine' CG.ci_mk KX G ?a
      (case a => k_is)
    case e2 =>
      refine' CG.ci_mk KX G ?a
      (case a => k_is)
    case e3 =>
      refine' CG.ci_mk KX G ?a
      (case a => k_is)
    case e4 =>
      refine' CG.ci_mk KX G ?a
      (case a => k_is)
    case e5 =>
      refine' CG.ci_mk KX G ?a
      (case a => k_is)
    case e6 =>
      refine' CG.ci_mk KX G ?a
      (case a => k_is)
    case e7 =>
      refine' CG.ci_mk KX G ?a
      (case a => k_is)
    case e8 =>
      refine' CG.ci_mk KX G ?a
      (case a => k_is)
    case e9 =>
      refine' CG.ci_mk KX G ?a
      (case a => k_is)
    case e10 =>
      refine' CG.ci_mk KX G ?a
      (case a => k_is)
    case e11 =>
      refine' CG.ci_mk KX G ?a
      (case a => k_is)
    case e12 =>
      refine' CG.ci_mk KX G ?a
      (case a => k_is)
    case e13 =>
      refine' CG.ci_mk KX G ?a
      (case a => k_is)
    case e14 =>
      refine' CG.ci_mk KX G ?a
      (case a => k_is)
    case e15 =>
      refine' CG.ci_mk KX G ?a
      (case a => k_is)
    case e16 =>
      refine' CG.ci_mk KX G ?a
      (case a => k_is)
    case e17 =>
      refine' CG.ci_mk KX G ?a
      (case a => k_is)
    case e18 =>
      refine' CG.ci_mk KX G ?a
      (case a => k_is)
    case e19 =>
      refine' CG.ci_mk KX G ?a
      (case a => k_is)
    case e20 =>
      refine' CG.ci_mk KX G ?a
      (case a => k_is)
    case e21 =>
      refine' CG.ci_mk KX G ?a
      (case a => k_is)
    case e22 =>
      refine' CG.ci_mk KX G ?a
      (case a => k_is)
    case e23 =>
      refine' CG.ci_mk KX G ?a
      (case a => k_is)
    case e24 =>
      refine' CG.tt6_mk KX G ?a ?l ?c ?k0 ?k1 ?k2 ?k3 ?k4 ?k5
      (case a => k_is); (case l => k_is); (case c => rfl)
      (case k0 => (refine' CG.tk_mk ?l ?c ?z ?v; (case l => k_is); (case c => rfl); (case z => decide); (case v => exact .cons ⟨_, rfl⟩ (.cons ⟨_, rfl⟩ .nil))))
      (case k1 => (refine' CG.tk_mk ?l ?c ?z ?v; (case l => k_is); (case c => rfl); (case z => decide); (case v => exact .cons ⟨_, rfl⟩ (.cons ⟨_, rfl⟩ .nil))))
      (case k2 => (refine' CG.tk_mk ?l ?c ?z ?v; (case l => k_is); (case c => rfl); (case z => decide); (case v => exact .cons ⟨_, rfl⟩ (.cons ⟨_, rfl⟩ .nil))))
      (case k3 => (refine' CG.tk_mk ?l ?c ?z ?v; (case l => k_is); (case c => rfl); (case z => decide); (case v => exact .cons ⟨_, rfl⟩ (.cons ⟨_, rfl⟩ .nil))))
      (case k4 => (refine' CG.tk_mk ?l ?c ?z ?v; (case l => k_is); (case c => rfl); (case z => decide); (case v => exact .cons ⟨_, rfl⟩ (.cons ⟨_, rfl⟩ .nil))))
      (case k5 => (refine' CG.tk_mk ?l ?c ?z ?v; (case l => k_is); (case c => rfl); (case z => decide); (case v => exact .cons ⟨_, rfl⟩ (.cons ⟨_, rfl⟩ .nil))))
    case e25 =>
      refine' CG.tt7_mk KX G ?a ?l ?c ?k0 ?k1 ?k2 ?k3 ?k4 ?k5 ?k6
      (case a => k_is); (case l => k_is); (case c => rfl)
      (case k0 => (refine' CG.tk_mk ?l ?c ?z ?v; (case l => k_is); (case c => rfl); (case z => decide); (case v => exact .cons ⟨_, rfl⟩ (.cons ⟨_, rfl⟩ .nil))))
      (case k1 => (refine' CG.tk_mk ?l ?c ?z ?v; (case l => k_is); (case c => rfl); (case z => decide); (case v => exact .cons ⟨_, rfl⟩ (.cons ⟨_, rfl⟩ .nil))))
      (case k2 => (refine' CG.tk_mk ?l ?c ?z ?v; (case l => k_is); (case c => rfl); (case z => decide); (case v => exact .cons ⟨_, rfl⟩ (.cons ⟨_, rfl⟩ .nil))))
      (case k3 => (refine' CG.tk_mk ?l ?c ?z ?v; (case l => k_is); (case c => rfl); (case z => decide); (case v => exact .cons ⟨_, rfl⟩ (.cons ⟨_, rfl⟩ .nil))))
      (case k4 => (refine' CG.tk_mk ?l ?c ?z ?v; (case l => k_is); (case c => rfl); (case z => decide); (case v => exact .cons ⟨_, rfl⟩ (.cons ⟨_, rfl⟩ .nil))))
      (case k5 => (refine' CG.tk_mk ?l ?c ?z ?v; (case l => k_is); (case c => rfl); (case z => decide); (case v => exact .cons ⟨_, rfl⟩ (.cons ⟨_, rfl⟩ .nil))))
      (case k6 => (refine' CG.tk_mk ?l ?c ?z ?v; (case l => k_is); (case c => rfl); (case z => decide); (case v => exact .cons ⟨_, rfl⟩ (.cons ⟨_, rfl⟩ .nil))))
    case e26 =>
      refine' CG.ci_mk KX G ?a
      (case a => k_is)
    case e27 =>
      refine' CG.ti_mk KX G ?a ?l ?c ?z ?v
      (case a => k_is); (case l => k_is); (case c => rfl); (case z => decide); (case v => exact (.cons ⟨_, rfl⟩ (.cons ⟨_, rfl⟩ (.cons ⟨_, rfl⟩ (.cons ⟨_, rfl⟩ (.cons ⟨_, rfl⟩ .nil))))))
    case e28 =>
      refine' CG.ti_mk KX G ?a ?l ?c ?z ?v
      (case a => k_is); (case l => k_is); (case c => rfl); (case z => decide); (case v => exact (.cons ⟨_, rfl⟩ (.cons ⟨_, rfl⟩ .nil)))
    case e29 =>
      refine' CG.ci_mk KX G ?a
      (case a => k_is)
    case e30 =>
      refine' CG.ci_mk KX G ?a
      (case a => k_is)
    case e31 =>
      refine' CG.ci_mk KX G ?a
      (case a => k_is)
    case e32 =>
      refine' CG.ci_mk KX G ?a
      (case a => k_is)
    (case b_len => k_is)
    (case b_range => k_is)
    (case b_min => k_is)
    (case b_max => k_is)
    (case b_list => k_is)
    (case b_reversed => k_is)
    (case b_enumerate => k_is)
    (case b_zip => k_is)
  case S =>
    intro K H xs a hO hwi hask hx
    cases hx with
    | cons h1 h2 =>
      cases h2
      cases h1 with
      | lst hs ha =>
        have e := L2.ints_dw a.1 _ ha
        subst e
        have q : ((Codec.inLen 0 16000 a.1 && a.1.all (Codec.inInt (-2147483648) 18446744073709551615)) && true) = true := hwi
        rw [Bool.and_eq_true, Bool.and_eq_true] at q
        exact ⟨_, a.1, rfl, hs, (Codec.inNat_iff.mp q.1.1).2, hask, fun H' p hp => .lst (L2.SqL.of hp) (L2.dw_ints _)⟩
#print axioms PySem.Challenge.cw_cacheguess_s01_answers_holds
