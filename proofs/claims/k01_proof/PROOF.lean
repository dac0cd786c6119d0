import PyProof.Rows.All
import Wide.All
import OpenK.AllK
import Wide.FinOn
import Lean
import PyProof.EqAt
import PyProof.EqKinds
import PyProof.TupleCall
import PySem.SetOps
import PyProof.Rows.SetFrom
import PyProof.CollectIter
import PyProof.WalksMore
import PyProof.FactsAll.subtypes_4
import PyProof.Rows.SortShell
import PyProof.FactsAll.set_1
import PyProof.FactsAll.set_2
import KE.KSortTup
import KE.KTryMore
import PyProof.ExcArgsOwn
import PyProof.ExcAttrAll.ValueError
import KE.LcSums
import KE.KRevSl
import PyProof.NeKinds
import PyProof.ListRange
import PyProof.TupleOfSeq
import PySem.Challenge.RW_forcemark_k01_whole_closure
set_option Elab.async false
set_option linter.all false
set_option maxRecDepth 100000
namespace L2
open PySem PySem.Spec PyProof.Rows
abbrev Key := Sum Int Str
def keyIs : Key → Value → Bool
  | .inl k, v => Value.isInt k v
  | .inr x, v => Value.isStrOf x v
def keyH (w : World) : Key → Int
  | .inl k => hashInt k
  | .inr x => hashStr w x
theorem keyIs_shape : ∀ {k : Key} {v : Value}, keyIs k v = true → (∃ i t, k = Sum.inl i ∧ v = Value.int i t) ∨ (∃ x t, k = Sum.inr x ∧ v = Value.str x t)
  | .inl i, v, h => by
    obtain ⟨t, e⟩ := Value.isInt_shape (k := i) (v := v) h
    exact .inl ⟨i, t, rfl, e⟩
  | .inr x, v, h => by
    obtain ⟨t, e⟩ := Value.isStrOf_shape (x := x) (v := v) h
    exact .inr ⟨x, t, rfl, e⟩
theorem key_ll (a b : Int) : decide ((Sum.inl a : Key) = Sum.inl b) = (a == b) := by
  by_cases e : a = b
  · subst e; simp
  · have h : ¬ (Sum.inl a : Key) = Sum.inl b := fun q => e (Sum.inl.inj q)
    rw [decide_eq_false h]
    exact (beq_eq_false_iff_ne.mpr e).symm
theorem key_rr (a b : Str) : decide ((Sum.inr a : Key) = Sum.inr b) = decide (a = b) := by
  by_cases e : a = b
  · subst e; simp
  · have h : ¬ (Sum.inr a : Key) = Sum.inr b := fun q => e (Sum.inr.inj q)
    rw [decide_eq_false h, decide_eq_false e]
theorem key_lr (a : Int) (b : Str) : decide ((Sum.inl a : Key) = Sum.inr b) = false := decide_eq_false (fun q => nomatch q)
theorem key_rl (a : Str) (b : Int) : decide ((Sum.inr a : Key) = Sum.inl b) = false := decide_eq_false (fun q => nomatch q)
def mixKind (prog : Program) (w : World) : PySem.KeyKind prog w Key where
  is := keyIs
  hash := keyH w
  inj := fun v a b ha hb => by
    rcases keyIs_shape ha with ⟨i, t, rfl, rfl⟩ | ⟨x, t, rfl, rfl⟩
    · rcases keyIs_shape hb with ⟨j, u, rfl, e⟩ | ⟨y, u, rfl, e⟩
      · injection e with e1 _; rw [e1]
      · exact nomatch e
    · rcases keyIs_shape hb with ⟨j, u, rfl, e⟩ | ⟨y, u, rfl, e⟩
      · exact nomatch e
      · injection e with e1 _; rw [e1]
  byValue := fun k v h => by
    rcases keyIs_shape h with ⟨i, t, rfl, rfl⟩ | ⟨x, t, rfl, rfl⟩ <;> rfl
  pyHash := fun hv h => by
    rcases keyIs_shape hv with ⟨i, t, rfl, rfl⟩ | ⟨x, t, rfl, rfl⟩
    · exact wpAny_pyHash_int h
    · exact wpAny_pyHash_str h
  eqBool := fun hu hv h => by
    rcases keyIs_shape hu with ⟨i, t, rfl, rfl⟩ | ⟨x, t, rfl, rfl⟩
    · rcases keyIs_shape hv with ⟨j, u, rfl, rfl⟩ | ⟨y, u, rfl, rfl⟩
      · rw [key_ll] at h; exact wpAny_eqBool_int h
      · rw [key_lr] at h; exact SeqAt.EqAt.int_str i t y u _ _ _ _ h
    · rcases keyIs_shape hv with ⟨j, u, rfl, rfl⟩ | ⟨y, u, rfl, rfl⟩
      · rw [key_rl] at h; exact SeqAt.EqAt.str_int x t j u _ _ _ _ h
      · rw [key_rr] at h; exact wpAny_eqBool_str h
  «strs» := fun k x t v h => by
    rcases keyIs_shape h with ⟨i, u, rfl, e⟩ | ⟨y, u, rfl, e⟩
    · exact nomatch e
    · injection e with e1 _
      subst e1
      cases v <;> rfl
end L2
namespace L2
open PySem PySem.Spec PyProof.Rows
inductive V where
  | non | bl (b : Bool) | int (i : Int) | str (x : Str) | byt (b : Array UInt8) | flt (b : UInt64) | ref (a : Addr) | ty (n : String)
  deriving DecidableEq
def RelV : V → Value → Prop
  | .non, u => u = Value.none
  | .bl b, u => u = Value.bool b
  | .int i, u => ∃ t, u = Value.int i t
  | .str x, u => ∃ t, u = Value.str x t
  | .byt b, u => ∃ t, u = Value.bytes b t
  | .flt b, u => ∃ t, u = Value.float b t
  | .ref a, u => u = Value.ref a
  | .ty n, u => u = Value.type n
abbrev Vals : List V → List Value → Prop := Paired RelV
theorem Vals.length {xs : List V} {us : List Value} (r : Vals xs us) : xs.length = us.length := Paired.length r
theorem Vals.get : ∀ {xs : List V} {us : List Value} {i : Nat} {x : V}, Vals xs us → xs[i]? = some x → ∃ u, us[i]? = some u ∧ RelV x u
  | _, _, _, _, .nil, e => by simp at e
  | _, _, 0, _, .cons r _, e => by simp at e; subst e; exact ⟨_, rfl, r⟩
  | _, _, i + 1, x, .cons _ t, e => by
    obtain ⟨u, h1, h2⟩ := Vals.get (i := i) (x := x) t (by simpa using e)
    exact ⟨u, by simpa using h1, h2⟩
theorem Vals.append : ∀ {xs ys : List V} {us ws : List Value}, Vals xs us → Vals ys ws → Vals (xs ++ ys) (us ++ ws)
  | _, _, _, _, .nil, s => s
  | _, _, _, _, .cons r t, s => .cons r (Vals.append t s)
theorem Vals.take : ∀ {xs : List V} {us : List Value} (n : Nat), Vals xs us → Vals (xs.take n) (us.take n)
  | _, _, 0, _ => .nil
  | _, _, _ + 1, .nil => .nil
  | _, _, n + 1, .cons r t => .cons r (Vals.take n t)
theorem Vals.drop : ∀ {xs : List V} {us : List Value} (n : Nat), Vals xs us → Vals (xs.drop n) (us.drop n)
  | _, _, 0, r => r
  | _, _, _ + 1, .nil => .nil
  | _, _, n + 1, .cons _ t => Vals.drop n t
def RelO : Option V → Option Value → Prop
  | some v, some u => RelV v u
  | none, none => True
  | _, _ => False
def KV {κ : Type} : List (κ × V) → List (κ × Value) → Prop := Paired fun (p : κ × V) (q : κ × Value) => p.1 = q.1 ∧ RelV p.2 q.2
def kV : Key → V
  | .inl i => .int i
  | .inr x => .str x
inductive HO where
  | lst (xs : List V)
  | tup (xs : List V)
  | dK (kvs : List (Key × V)) | dT (kvs : List (List Key × V))
  | set (S : Int → Bool) (n : Nat)
  | ins (C dx : Addr) (fs : List (Str × V))
  | own (x : Addr)
  | xd (fs : List (Str × V))
  | met (f x : Addr)
  | rng (lo hi : Int)
  | frz (o : Obj) (u : HO)
  | tbl (ps : Array Value)
  | ext (φ : Heap → Prop)
abbrev Hp := Addr → Option HO
def upd (H : Hp) (a : Addr) (o : HO) : Hp := fun b => if b = a then some o else H b
theorem upd_same {H : Hp} {a : Addr} {o : HO} : upd H a o a = some o := by unfold upd; rw [if_pos rfl]
theorem upd_ne {H : Hp} {a b : Addr} {o : HO} (h : b ≠ a) : upd H a o b = H b := by unfold upd; rw [if_neg h]
theorem ne_of_none {H : Hp} {a b : Addr} {o : HO} (h : H a = some o) (h' : H b = none) : a ≠ b := by
  intro e; subst e; rw [h] at h'; cases h'
section
variable (P : Program) (w : World)
def ObjOk (H : Hp) (h : Heap) (a : Addr) : HO → Prop
  | .lst xs => xs.length ≤ sizeLine ∧ ∃ (its : List Value) (n : Nat), Vals xs its ∧ h.get? a = some { cls := .type "list", data := .seq its.toArray n }
  | .tup xs => xs.length ≤ sizeLine ∧ ∃ its : List Value, Vals xs its ∧ IsTup h a its.toArray
  | .dK kvs => kvs.length ≤ sizeLine ∧ (a == sysModules) = false ∧ ∃ vs, KV kvs vs ∧ h.DictOf (mixKind P w) a vs
  | .dT kvs => kvs.length ≤ sizeLine ∧ (a == sysModules) = false ∧ ∃ xs : List (List Key × Addr × Value),
      Paired (fun (p : List Key × V) (q : List Key × Addr × Value) => p.1 = q.1 ∧ H q.2.1 = some (.tup (p.1.map kV)) ∧ RelV p.2 q.2.2) kvs xs ∧
      ∃ o es ep, h.get? a = some o ∧ o.ExactDict ∧ o.data = .dict es ep ∧ es.toList = xs.map (entryOfKey (tupleKind (mixKind P w))) ∧ (xs.map (·.1)).Nodup
  | .set S n => h.SetOf (intKind P w) a S n
  | .ins C dx fs => H dx = some (.own a) ∧ fs.length ≤ 1000 ∧ dx ≠ a ∧ h.get? a = some (PySem.W.instObj C dx) ∧
      ∃ mA, h.Ns1 dx mA ∧ (∀ f, RelO (fs.lookup f) (mA f)) ∧ PySem.Within mA (fs.map (·.1))
  | .own _ => ∃ o, h.get? a = some o
  | .xd fs => ∃ mA, h.Ns1 a mA ∧ ∀ f, RelO (fs.lookup f) (mA f)
  | .rng lo hi => ∃ t u v, h.get? a = some { cls := .type "range", data := .fields #[.int lo t, .int hi u, .int 1 v] }
  | .frz o u => h.get? a = some o ∧ ObjOk H h a u
  | .tbl ps => h.get? a = some { cls := .none, data := .fields ps }
  | .met f x => h.get? a = some (PySem.W.methodObj (.ref f) (.ref x))
  | .ext φ => φ h ∧ (∃ o, h.get? a = some o) ∧ ∀ h1 h2 : Heap, φ h1 → (∀ o, h1.get? a = some o → h2.get? a = some o) → φ h2
def HOk (H : Hp) (h : Heap) : Prop := ∀ a o, H a = some o → ObjOk P w H h a o
end
section
variable {P : Program} {w : World} {H H' : Hp} {h h' : Heap} {a : Addr} {o : HO}
theorem ObjOk.lt (x : ObjOk P w H h a o) : a < h.objs.size := by
  cases o with
  | lst xs => obtain ⟨_, _, _, _, e⟩ := x; exact Heap.lt_size e
  | tup xs => obtain ⟨_, _, _, p⟩ := x; exact p.lt
  | dK kvs => obtain ⟨_, _, _, _, o, _, _, e, _⟩ := x; exact Heap.lt_size e
  | dT kvs => obtain ⟨_, _, _, _, o, _, _, e, _⟩ := x; exact Heap.lt_size e
  | set S n => obtain ⟨o, _, _, _, e, _⟩ := x; exact Heap.lt_size e
  | ins C dx fs => obtain ⟨_, _, _, e, _⟩ := x; exact Heap.lt_size e
  | own y => obtain ⟨_, e⟩ := x; exact Heap.lt_size e
  | xd fs => obtain ⟨_, ⟨_, _, _, e, _⟩, _⟩ := x; exact Heap.lt_size e
  | rng lo hi => obtain ⟨_, _, _, e⟩ := x; exact Heap.lt_size e
  | frz ob u => obtain ⟨e, _⟩ := x; exact Heap.lt_size e
  | tbl ps => exact Heap.lt_size (show h.get? a = some _ from x)
  | met f y => exact Heap.lt_size (show h.get? a = some _ from x)
  | ext φ => obtain ⟨_, ⟨_, e⟩, _⟩ := x; exact Heap.lt_size e
theorem Paired.mapP {α β : Type} {F G : α → β → Prop} : ∀ {l₁ : List α} {l₂ : List β}, Paired F l₁ l₂ → (∀ a b, F a b → G a b) → Paired G l₁ l₂
  | _, _, .nil, _ => .nil
  | _, _, .cons r t, f => .cons (f _ _ r) (Paired.mapP t f)
theorem ObjOk.stay (x : ObjOk P w H h a o) (k : ∀ b u, (b = a ∨ H b = some (.own a)) → h.get? b = some u → h'.get? b = some u)
    (ho : ∀ b, H b = some (.own a) → H' b = some (.own a)) (ht : ∀ b xs, H b = some (.tup xs) → H' b = some (.tup xs)) : ObjOk P w H' h' a o := by
  induction o with
  | lst xs => obtain ⟨z, its, n, r, e⟩ := x; exact ⟨z, its, n, r, k _ _ (.inl rfl) e⟩
  | tup xs => obtain ⟨z, its, r, ob, e, c⟩ := x; exact ⟨z, its, r, ob, k _ _ (.inl rfl) e, c⟩
  | dK kvs => obtain ⟨z, y, vs, r, ob, es, ep, e, c⟩ := x; exact ⟨z, y, vs, r, ob, es, ep, k _ _ (.inl rfl) e, c⟩
  | dT kvs =>
    obtain ⟨z, y, xs, r, ob, es, ep, e, c⟩ := x
    exact ⟨z, y, xs, Paired.mapP r fun p q z => ⟨z.1, ht _ _ z.2.1, z.2.2⟩, ob, es, ep, k _ _ (.inl rfl) e, c⟩
  | set S n => obtain ⟨ob, es, ep, t, e, c⟩ := x; exact ⟨ob, es, ep, t, k _ _ (.inl rfl) e, c⟩
  | ins C dx fs =>
    obtain ⟨d, z, ne, e, mA, ⟨od, es, ep, e2, c⟩, r⟩ := x
    exact ⟨ho _ d, z, ne, k _ _ (.inl rfl) e, mA, ⟨od, es, ep, k _ _ (.inr d) e2, c⟩, r⟩
  | own y => obtain ⟨ob, e⟩ := x; exact ⟨ob, k _ _ (.inl rfl) e⟩
  | xd fs => obtain ⟨mA, ⟨od, es, ep, e, c⟩, r⟩ := x; exact ⟨mA, ⟨od, es, ep, k _ _ (.inl rfl) e, c⟩, r⟩
  | rng lo hi => obtain ⟨t, u, v, e⟩ := x; exact ⟨t, u, v, k _ _ (.inl rfl) e⟩
  | frz ob u ih => obtain ⟨e, q⟩ := x; exact ⟨k _ _ (.inl rfl) e, ih q⟩
  | tbl ps =>
    have e : h.get? a = some { cls := .none, data := .fields ps } := x
    show h'.get? a = some { cls := .none, data := .fields ps }
    exact k a _ (.inl rfl) e
  | met f y =>
    have e : h.get? a = some (PySem.W.methodObj (.ref f) (.ref y)) := x
    show h'.get? a = some (PySem.W.methodObj (.ref f) (.ref y))
    exact k a _ (.inl rfl) e
  | ext φ => obtain ⟨p, ⟨o, e⟩, st⟩ := x; exact ⟨st _ _ p fun o q => k _ _ (.inl rfl) q, ⟨o, k _ _ (.inl rfl) e⟩, st⟩
theorem HOk.lt (x : HOk P w H h) (e : H a = some o) : a < h.objs.size := (x a o e).lt
theorem HOk.fresh (x : HOk P w H h) (e : h.objs.size ≤ a) : H a = none := by
  cases q : H a with
  | none => rfl
  | some u => exact absurd (Nat.lt_of_lt_of_le (x.lt q) e) (Nat.lt_irrefl _)
theorem HOk.kept (x : HOk P w H h) (k : ∀ b u, h.get? b = some u → h'.get? b = some u) : HOk P w H h' := fun a o e =>
  (x a o e).stay (fun b u _ q => k b u q) (fun _ q => q) fun _ _ q => q
theorem HOk.laid (x : HOk P w H h) (k : ∀ b u, h.get? b = some u → h'.get? b = some u) (hp : h.objs.size ≤ a) (new : ObjOk P w (upd H a o) h' a o) : HOk P w (upd H a o) h' := fun b u e => by
  have hn := x.fresh hp
  by_cases hb : b = a
  · subst hb; rw [upd_same] at e; cases e; exact new
  · rw [upd_ne hb] at e
    exact (x b u e).stay (fun c v _ q => k c v q) (fun c q => by rw [upd_ne (ne_of_none q hn)]; exact q) fun c xs q => by rw [upd_ne (ne_of_none q hn)]; exact q
end
def Rd (H : Hp) (a : Addr) (u : HO) : Prop := H a = some u ∨ ∃ o, H a = some (.frz o u)
theorem Rd.ok {P : Program} {w : World} {H : Hp} {h : Heap} {a : Addr} {u : HO} (r : Rd H a u) (x : HOk P w H h) : ObjOk P w H h a u := by
  rcases r with r | ⟨o, r⟩
  · exact x a u r
  · obtain ⟨_, q⟩ := x a _ r
    exact q
def Mut : Option HO → Prop
  | some (.lst _) => True
  | some (.dK _) => True
  | some (.dT _) => True
  | some (.set _ _) => True
  | some (.ins _ _ _) => True
  | some (.ext _) => True
  | _ => False
section
variable {P : Program} {w : World} {H : Hp} {h h' : Heap} {x e : Addr} {o' : HO}
theorem HOk.write (ok : HOk P w H h) (mu : Mut (H x)) (he : e = x ∨ H e = some (.own x)) (k : ∀ b u, b ≠ e → h.get? b = some u → h'.get? b = some u) (heo : ∃ u, h'.get? e = some u)
    (new : ObjOk P w (upd H x o') h' x o') : HOk P w (upd H x o') h' := fun b u q => by
  have nown : ∀ c y, H c = some (.own y) → c ≠ x := fun c y r z => by subst z; rw [r] at mu; exact mu
  have ntup : ∀ c xs, H c = some (.tup xs) → c ≠ x := fun c xs r z => by subst z; rw [r] at mu; exact mu
  by_cases hb : b = x
  · subst hb; rw [upd_same] at q; cases q; exact new
  · rw [upd_ne hb] at q
    by_cases hbe : b = e
    · have q' : H b = some (.own x) := by
        rcases he with z | z
        · exact absurd (hbe.trans z) hb
        · rw [hbe]; exact z
      rw [q] at q'; cases q'
      obtain ⟨v, hv⟩ := heo
      exact ⟨v, by rw [hbe]; exact hv⟩
    · refine (ok b u q).stay (fun c v hc r => k c v ?_ r) (fun c r => by rw [upd_ne (nown c b r)]; exact r) fun c xs r => by rw [upd_ne (ntup c xs r)]; exact r
      rcases hc with rfl | hc
      · exact hbe
      · rintro rfl
        rcases he with z | z
        · exact nown c b hc z
        · rw [hc] at z; cases z; exact hb rfl
end
structure Un (fs ex : List Addr) (H H' : Hp) (h h' : Heap) : Prop where
  keep : ∀ b o, h.get? b = some o → H b = none → b ∉ fs → b ∉ ex → h'.get? b = some o
  slot : ∀ b o, h.get? b = some o → H b = none → b ∈ fs → b ∉ ex → ∃ sl, h'.get? b = some { o with slots := sl }
  free : ∀ b o, h.get? b = some o → H b = none → b ∉ ex → H' b = none
  there : ∀ b o, h.get? b = some o → b ∉ ex → ∃ o', h'.get? b = some o'
  tups : ∀ b xs, H b = some (.tup xs) → H' b = some (.tup xs)
  frzs : ∀ b o u, H b = some (.frz o u) → H' b = some (.frz o u)
  tbls : ∀ b ps, H b = some (.tbl ps) → ∃ more, H' b = some (.tbl (ps ++ more))
section
variable {fs fs' ex ex' : List Addr} {H H1 H2 : Hp} {h h1 h2 h' : Heap} {a x e : Addr} {o : HO}
theorem Un.any (u : Un fs ex H H1 h h1) {b : Addr} {ob : Obj} (q : h.get? b = some ob) (n : H b = none) (hx : b ∉ ex) : ∃ sl, h1.get? b = some { ob with slots := sl } := by
  by_cases hb : b ∈ fs
  · exact u.slot b ob q n hb hx
  · exact ⟨ob.slots, u.keep b ob q n hb hx⟩
theorem Un.trans (a : Un fs ex H H1 h h1) (b : Un fs ex H1 H2 h1 h2) : Un fs ex H H2 h h2 where
  keep := fun c ob q n hc hx => b.keep c ob (a.keep c ob q n hc hx) (a.free c ob q n hx) hc hx
  slot := fun c ob q n hc hx => by
    obtain ⟨sl, e1⟩ := a.slot c ob q n hc hx
    obtain ⟨sl', e2⟩ := b.slot c _ e1 (a.free c ob q n hx) hc hx
    exact ⟨sl', e2⟩
  free := fun c ob q n hx => by
    obtain ⟨o', e1⟩ := a.there c ob q hx
    exact b.free c o' e1 (a.free c ob q n hx) hx
  there := fun c ob q hx => by
    obtain ⟨o', e1⟩ := a.there c ob q hx
    exact b.there c o' e1 hx
  tups := fun c xs q => b.tups c xs (a.tups c xs q)
  frzs := fun c ob xs q => b.frzs c ob xs (a.frzs c ob xs q)
  tbls := fun c ps q => by
    obtain ⟨m1, e1⟩ := a.tbls c ps q
    obtain ⟨m2, e2⟩ := b.tbls c _ e1
    exact ⟨m1 ++ m2, by rw [e2, Array.append_assoc]⟩
theorem Un.kept (k : ∀ b u, h.get? b = some u → h'.get? b = some u) : Un fs ex H H h h' :=
  ⟨fun b ob q _ _ _ => k b ob q, fun b ob q _ _ _ => ⟨ob.slots, k b ob q⟩, fun _ _ _ n _ => n, fun b ob q _ => ⟨ob, k b ob q⟩, fun _ _ q => q, fun _ _ _ q => q, fun _ ps q => ⟨#[], by rw [q]; simp⟩⟩
theorem Un.refl : Un fs ex H H h h := Un.kept fun _ _ q => q
theorem Un.laid (k : ∀ b u, h.get? b = some u → h'.get? b = some u) (hp : h.objs.size ≤ a) (hn : H a = none) : Un fs ex H (upd H a o) h h' where
  keep := fun b u q _ _ _ => k b u q
  slot := fun b u q _ _ _ => ⟨u.slots, k b u q⟩
  free := fun b u q n _ => by rw [upd_ne (Nat.ne_of_lt (Nat.lt_of_lt_of_le (Heap.lt_size q) hp))]; exact n
  there := fun b u q _ => ⟨u, k b u q⟩
  tups := fun b xs q => by rw [upd_ne (ne_of_none q hn)]; exact q
  frzs := fun b u xs q => by rw [upd_ne (ne_of_none q hn)]; exact q
  tbls := fun b ps q => ⟨#[], by rw [upd_ne (ne_of_none q hn), q]; simp⟩
theorem Un.write (mu : Mut (H x)) (he : e = x ∨ H e = some (.own x)) (k : ∀ b u, b ≠ e → h.get? b = some u → h'.get? b = some u) (heo : ∃ u, h'.get? e = some u) : Un fs ex H (upd H x o) h h' := by
  have hx : ∀ b, H b = none → b ≠ x := fun b n z => by subst z; rw [n] at mu; exact mu
  have hb : ∀ b, H b = none → b ≠ e := fun b n z => by
    subst z
    rcases he with r | r
    · exact hx b n r
    · rw [n] at r; cases r
  have hm : ∀ b u, H b = some u → ¬ Mut (some u) → b ≠ x := fun b u q nm z => by subst z; rw [q] at mu; exact nm mu
  refine ⟨fun b u q n _ _ => k b u (hb b n) q, fun b u q n _ _ => ⟨u.slots, k b u (hb b n) q⟩, fun b u q n _ => by rw [upd_ne (hx b n)]; exact n, fun b u q _ => ?_,
    fun b xs q => by rw [upd_ne (hm b _ q fun z => z)]; exact q, fun b u xs q => by rw [upd_ne (hm b _ q fun z => z)]; exact q, fun b ps q => ⟨#[], by rw [upd_ne (hm b _ q fun z => z), q]; simp⟩⟩
  by_cases hbe : b = e
  · subst hbe; exact heo
  · exact ⟨u, k b u hbe q⟩
end
def trk (h : Heap) (H : Hp) : List Addr := (List.range h.objs.size).filter fun a => (H a).isSome
def hidT (h : Heap) (H : Hp) : Heap := PySem.W.hideAll h (trk h H)
theorem hidT_size (h : Heap) (H : Hp) : (hidT h H).objs.size = h.objs.size := PySem.W.hideAll_size _ _
theorem hidT_get {h : Heap} {H : Hp} {b : Addr} {o : Obj} (e : h.get? b = some o) (n : H b = none) : (hidT h H).get? b = some o :=
  PySem.W.hideAll_get _ e fun hm => by
    have q : (H b).isSome = true := (List.mem_filter.mp hm).2
    rw [n] at q; simp at q
theorem of_hidT {h : Heap} {H : Hp} {b : Addr} {o : Obj} (e : (hidT h H).get? b = some o) : h.get? b = some o ∧ H b = none := by
  have e' : h.get? b = some o := PySem.W.of_hideAll (trk h H) e
  refine ⟨e', ?_⟩
  cases q : H b with
  | none => rfl
  | some x =>
    have hm : b ∈ trk h H := List.mem_filter.mpr ⟨List.mem_range.mpr (Heap.lt_size e'), by simp [q]⟩
    have z : (hidT h H).get? b = none := PySem.W.hideAll_none (trk h H) hm
    rw [z] at e; cases e
end L2
namespace L2
open PySem PySem.Spec PyProof.Rows
structure Mod (K : PySem.W.Frag) (mg : Str → Option Value) (base : Heap) : Prop where
  kin : K.In base
  glob : base.Ns mainGlobals mg
  blt : ∃ mb, base.Ns builtinsNs mb ∧ ∀ x : Str, x ≠ "__name__" → mb x = bootBuiltins x
  nolimit : base.NoLimit
structure Cx where
  prog : Program
  w : World
  K : PySem.W.Frag
  mg : Str → Option Value
  base : Heap
  A : Around
  N : List Str
  s₀ : Shared
  H₀ : Hp
  env : Env
  outer : List Env
  stack : List Env
  ex : List Addr
  fn : Str → Bool
  calm : Bool
  pn : List (Addr × Obj)
  xe : Value → Shared → Prop
def frs (l : List Env) : List Addr := l.filterMap (·.frame)
abbrev Cx.fs (X : Cx) : List Addr := frs X.outer
def Vis (sc : Scope) (x : Str) : Prop := sc.names.lookup x = some .local ∨ sc.names.lookup x = some .cell ∨ sc.names.lookup x = some .free
def Loc (sc : Scope) (x : Str) : Prop := sc.names.lookup x = some .local ∨ sc.names.lookup x = some .cell
def Look (env : Env) (h : Heap) (m : Str → Option Value) (x : Str) (u : Value) : Prop :=
  (env.kindOf x = some .local ∧ m x = some u) ∨ ((env.kindOf x = some .cell ∨ env.kindOf x = some .free) ∧ ∃ c, env.cells.lookup x = some c ∧ h.IsCell c (some u))
structure Cx.Ok (X : Cx) : Prop where
  mod : Mod X.K X.mg X.base
  kind : X.env.scope.kind = .function
  glob : X.env.globals = mainGlobals
  blt : X.env.builtins = builtinsNs
  above : X.s₀.heap.objs.size ≤ X.env.locals
  inj : ∀ x y c, X.env.cells.lookup x = some c → X.env.cells.lookup y = some c → x = y
  has : ∀ x, (X.env.kindOf x = some .cell ∨ X.env.kindOf x = some .free) → ∃ c, X.env.cells.lookup x = some c
  cab : ∀ x c, X.fn x = true → X.env.cells.lookup x = some c → X.s₀.heap.objs.size ≤ c
  hd : X.calm = true → X.A.handled = none
  frames : X.A.frames = some X.stack
  stk : X.stack = X.outer ∨ (X.stack = X.env :: X.outer ∧ X.env.frame = some X.env.locals)
  exf : ∀ b ∈ X.ex, b ≠ X.env.locals ∧ ∀ x c, X.env.cells.lookup x = some c → c ≠ b
  bs : ∀ b o, X.base.get? b = some o → X.s₀.heap.get? b = some o ∧ X.H₀ b = none
  bsz : X.base.objs.size ≤ X.s₀.heap.objs.size
  noex : ∀ b o, X.base.get? b = some o → b ∉ X.ex
  exfs : ∀ b ∈ X.ex, b ∉ X.fs
  funs : X.s₀.heap.FunFrames X.base X.outer
  frf : ∀ b ∈ X.fs, X.H₀ b = none
structure Inv (X : Cx) (pins : List (Addr × Obj)) (σ : List (Option V)) (H : Hp) (s : Shared) : Prop where
  ok : X.Ok
  os : s.os = X.s₀.os
  bare : AllBare s.gens
  base : Un X.fs X.ex X.H₀ H X.s₀.heap s.heap
  loc : ∃ m, s.heap.Ns X.env.locals m ∧ ∀ (i : Nat) (x : Str) (v : V), X.N[i]? = some x → σ[i]? = some (some v) → Vis X.env.scope x → ∃ u, RelV v u ∧ Look X.env s.heap m x u
  cell : ∀ x c, X.env.cells.lookup x = some c → ∃ v, s.heap.IsCell c v
  free : H X.env.locals = none
  freeC : ∀ x c, X.env.cells.lookup x = some c → H c = none
  pin : ∀ p ∈ X.pn ++ pins, s.heap.get? p.1 = some p.2 ∧ H p.1 = none ∧ p.1 ≠ X.env.locals ∧ p.1 ∉ X.fs ∧ ∀ v, p.2.data ≠ .cell v
  hok : HOk X.prog X.w H s.heap
  len : σ.length = X.N.length
section
variable {X : Cx} {pins : List (Addr × Obj)} {σ : List (Option V)} {H H' : Hp} {s : Shared} {h' : Heap}
theorem Cx.Ok.nofr (ok : X.Ok) {b : Addr} {o : Obj} (e : X.base.get? b = some o) : b ∉ X.fs := fun hb => by
  have := (ok.funs.mem hb).1
  rw [e] at this; cases this
theorem Inv.bs (I : Inv X pins σ H s) : ∀ b o, X.base.get? b = some o → s.heap.get? b = some o ∧ H b = none := fun b o e =>
  ⟨I.base.keep b o (I.ok.bs b o e).1 (I.ok.bs b o e).2 (I.ok.nofr e) (I.ok.noex b o e), I.base.free b o (I.ok.bs b o e).1 (I.ok.bs b o e).2 (I.ok.noex b o e)⟩
theorem Inv.bk (I : Inv X pins σ H s) : ∀ b o, X.base.get? b = some o → s.heap.get? b = some o := fun b o e => (I.bs b o e).1
theorem Inv.mod (I : Inv X pins σ H s) : Mod X.K X.mg X.base := I.ok.mod
theorem Inv.kIn (I : Inv X pins σ H s) : X.K.In s.heap := I.ok.mod.kin.keeps I.bk
theorem Inv.lt (I : Inv X pins σ H s) : X.env.locals < s.heap.objs.size := let ⟨_, hn, _⟩ := I.loc; hn.lt
theorem Inv.sz (I : Inv X pins σ H s) : X.s₀.heap.objs.size ≤ s.heap.objs.size := Nat.le_trans I.ok.above (Nat.le_of_lt I.lt)
theorem Inv.nofs (I : Inv X pins σ H s) {a : Addr} (h : s.heap.objs.size ≤ a) : a ∉ X.fs := fun hb => by
  obtain ⟨_, o, ho, _⟩ := I.ok.funs.mem hb
  exact absurd (Nat.lt_of_lt_of_le (Heap.lt_size ho) (Nat.le_trans I.sz h)) (Nat.lt_irrefl _)
theorem Inv.cne (I : Inv X pins σ H s) : ∀ x c, X.env.cells.lookup x = some c → c ≠ X.env.locals := fun x c e z => by
  obtain ⟨v, o, ho, hd⟩ := I.cell x c e
  obtain ⟨m, ⟨o', es, ep, ho', hd', _⟩, _⟩ := I.loc
  rw [z, ho'] at ho; cases ho; rw [hd'] at hd; cases hd
theorem Inv.funs (I : Inv X pins σ H s) : s.heap.FunFrames X.base X.outer := by
  have all : ∀ (l : List Env), (∀ b ∈ frs l, b ∈ X.fs) → X.s₀.heap.FunFrames X.base l → s.heap.FunFrames X.base l := by
    intro l
    induction l with
    | nil => intro _ _; trivial
    | cons env r ih =>
      intro hs hl
      obtain ⟨hk, ⟨L, o, hf, hn, ho, hd⟩, hr⟩ := hl
      have hL : L ∈ X.fs := hs L (by unfold frs; rw [List.filterMap_cons, hf]; exact List.mem_cons_self)
      obtain ⟨sl, e⟩ := I.base.slot L o ho (I.ok.frf L hL) hL fun z => I.ok.exfs L z hL
      exact ⟨hk, ⟨L, _, hf, hn, e, hd⟩, ih (fun b hb => hs b (by unfold frs; rw [List.filterMap_cons, hf]; exact List.mem_cons_of_mem _ hb)) hr⟩
  exact all X.outer (fun _ hb => hb) I.ok.funs
theorem Inv.stack (I : Inv X pins σ H s) : s.heap.FunFrames X.base X.stack := by
  rcases I.ok.stk with e | ⟨e, hf⟩
  · rw [e]; exact I.funs
  · rw [e]
    obtain ⟨m, hn, _⟩ := I.loc
    refine .cons (by rw [I.ok.kind]; decide) hf hn ?_ I.funs
    exact Heap.get?_none_of_le (Nat.le_trans I.ok.bsz I.ok.above)
theorem Inv.stkSub (I : Inv X pins σ H s) : ∀ b ∈ frs X.stack, b ∈ X.env.locals :: X.fs := fun b hb => by
  rcases I.ok.stk with e | ⟨e, hf⟩
  · rw [e] at hb; exact List.mem_cons_of_mem _ hb
  · rw [e] at hb
    unfold frs at hb
    rw [List.filterMap_cons, hf] at hb
    exact hb
theorem Inv.stkFree (I : Inv X pins σ H s) : ∀ b ∈ frs X.stack, H b = none := fun b hb => by
  rcases List.mem_cons.mp (I.stkSub b hb) with e | hb
  · rw [e]; exact I.free
  · obtain ⟨_, o, ho, _⟩ := I.ok.funs.mem hb
    exact I.base.free b o ho (I.ok.frf b hb) fun z => I.ok.exfs b z hb
theorem Inv.step {g' : Array GenState} {t' : Nat} {d' : Drawn} {ch : List Addr} (I : Inv X pins σ H s)
    (hch : ∀ b ∈ ch, (b ∈ X.ex ∨ X.s₀.heap.objs.size ≤ b) ∧ b ≠ X.env.locals ∧ (∀ x c, X.env.cells.lookup x = some c → c ≠ b) ∧ ∀ p ∈ X.pn ++ pins, p.1 ≠ b)
    (keep : ∀ b o, b ≠ X.env.locals → b ∉ X.fs → b ∉ ch → s.heap.get? b = some o → H b = none → h'.get? b = some o)
    (slot : ∀ b o, b ≠ X.env.locals → b ∈ X.fs → b ∉ ch → s.heap.get? b = some o → H b = none → ∃ sl, h'.get? b = some { o with slots := sl }) (free : ∀ b o, b ∉ ch → s.heap.get? b = some o → H b = none → H' b = none)
    (there : ∀ b o, b ∉ ch → s.heap.get? b = some o → ∃ o', h'.get? b = some o')
    (tups : ∀ b xs, H b = some (.tup xs) → H' b = some (.tup xs)) (frzs : ∀ b o u, H b = some (.frz o u) → H' b = some (.frz o u)) (tbls : ∀ b ps, H b = some (.tbl ps) → ∃ more, H' b = some (.tbl (ps ++ more)))
    (ns : ∀ m, s.heap.Ns X.env.locals m → h'.Ns X.env.locals m) (hok : HOk X.prog X.w H' h') (hg : AllBare g') :
    Inv X pins σ H' { s with heap := h', gens := g', drawn := d', toks := t' } := by
  have neL : ∀ b o, X.s₀.heap.get? b = some o → b ≠ X.env.locals := fun b o e => Nat.ne_of_lt (Nat.lt_of_lt_of_le (Heap.lt_size e) I.ok.above)
  have neC : ∀ b o, X.s₀.heap.get? b = some o → b ∉ X.ex → b ∉ ch := fun b o e hx hb => by
    rcases (hch b hb).1 with z | z
    · exact hx z
    · exact absurd (Nat.lt_of_lt_of_le (Heap.lt_size e) z) (Nat.lt_irrefl _)
  have cellK : ∀ x c, X.env.cells.lookup x = some c → ∀ v, s.heap.IsCell c v → h'.IsCell c v := fun x c e v ⟨o, ho, hd⟩ => by
    have nch : c ∉ ch := fun z => (hch c z).2.2.1 x c e rfl
    by_cases hc : c ∈ X.fs
    · obtain ⟨sl, q⟩ := slot c o (I.cne x c e) hc nch ho (I.freeC x c e)
      exact ⟨_, q, hd⟩
    · exact ⟨o, keep c o (I.cne x c e) hc nch ho (I.freeC x c e), hd⟩
  refine ⟨I.ok, I.os, hg, ⟨fun b o e n hb hx => ?_, fun b o e n hb hx => ?_, fun b o e n hx => ?_, fun b o e hx => ?_, fun b xs e => tups b xs (I.base.tups b xs e), fun b o xs e => frzs b o xs (I.base.frzs b o xs e), fun b ps e => ?_⟩, ?_, fun x c e => ?_, ?_, fun x c e => ?_, fun p hp => ?_, hok, I.len⟩
  · exact keep b o (neL b o e) hb (neC b o e hx) (I.base.keep b o e n hb hx) (I.base.free b o e n hx)
  · obtain ⟨sl, e1⟩ := I.base.slot b o e n hb hx
    obtain ⟨sl', e2⟩ := slot b _ (neL b o e) hb (neC b o e hx) e1 (I.base.free b o e n hx)
    exact ⟨sl', e2⟩
  · obtain ⟨o', e1⟩ := I.base.there b o e hx
    exact free b o' (neC b o e hx) e1 (I.base.free b o e n hx)
  · obtain ⟨o', e1⟩ := I.base.there b o e hx
    exact there b o' (neC b o e hx) e1
  · obtain ⟨m1, e1⟩ := I.base.tbls b ps e
    obtain ⟨m2, e2⟩ := tbls b _ e1
    exact ⟨m1 ++ m2, by rw [e2, Array.append_assoc]⟩
  · obtain ⟨m, hn, hl⟩ := I.loc
    refine ⟨m, ns m hn, fun i x v e1 e2 e3 => ?_⟩
    obtain ⟨u, r, l⟩ := hl i x v e1 e2 e3
    refine ⟨u, r, ?_⟩
    rcases l with l | ⟨k, c, e, z⟩
    · exact .inl l
    · exact .inr ⟨k, c, e, cellK x c e _ z⟩
  · obtain ⟨v, z⟩ := I.cell x c e
    exact ⟨v, cellK x c e v z⟩
  · obtain ⟨m, ⟨o, _, _, ho, _⟩, _⟩ := I.loc
    exact free _ o (fun z => (hch _ z).2.1 rfl) ho I.free
  · obtain ⟨v, o, ho, hd⟩ := I.cell x c e
    exact free c o (fun z => (hch c z).2.2.1 x c e rfl) ho (I.freeC x c e)
  · obtain ⟨e, n, ne, nf, d⟩ := I.pin p hp
    have nch : p.1 ∉ ch := fun z => (hch p.1 z).2.2.2 p hp rfl
    exact ⟨keep p.1 p.2 ne nf nch e n, free p.1 p.2 nch e n, ne, nf, d⟩
theorem Inv.un {t' : Nat} (I : Inv X pins σ H s) (u : Un X.fs [] H H' s.heap h') (hok : HOk X.prog X.w H' h') : Inv X pins σ H' { s with heap := h', toks := t' } := by
  obtain ⟨m, ⟨o, es, ep, ho, r⟩, _⟩ := id I.loc
  obtain ⟨sl, hL⟩ := u.any ho I.free (by simp)
  exact I.step (g' := s.gens) (d' := s.drawn) (ch := []) (fun _ z => nomatch z) (fun b o _ hb _ e n => u.keep b o e n hb (by simp)) (fun b o _ hb _ e n => u.slot b o e n hb (by simp)) (fun b o _ e n => u.free b o e n (by simp)) (fun b o _ e => u.there b o e (by simp)) u.tups u.frzs u.tbls (fun m' hm => by
    obtain ⟨o', es', ep', ho', r'⟩ := hm
    rw [ho] at ho'; cases ho'
    exact ⟨_, es', ep', hL, r'⟩) hok I.bare
theorem Inv.call {g' : Array GenState} {t' : Nat} {d' : Drawn} {ch : List Addr} (I : Inv X pins σ H s) (u : Un (frs X.stack) ch H H' s.heap h') (hok : HOk X.prog X.w H' h') (hg : AllBare g')
    (hch : ∀ b ∈ ch, (b ∈ X.ex ∨ X.s₀.heap.objs.size ≤ b) ∧ b ≠ X.env.locals ∧ (∀ x c, X.env.cells.lookup x = some c → c ≠ b) ∧ ∀ p ∈ X.pn ++ pins, p.1 ≠ b) :
    Inv X pins σ H' { s with heap := h', gens := g', drawn := d', toks := t' } := by
  obtain ⟨m, ⟨o, es, ep, ho, r⟩, _⟩ := id I.loc
  obtain ⟨sl, hL⟩ := u.any ho I.free fun z => (hch _ z).2.1 rfl
  exact I.step (ch := ch) hch (fun b o hL hb hc e n => u.keep b o e n (fun z => (List.mem_cons.mp (I.stkSub b z)).elim hL hb) hc) (fun b o _ _ hc e n => u.any e n hc) (fun b o hc e n => u.free b o e n hc) (fun b o hc e => u.there b o e hc) u.tups u.frzs u.tbls (fun m' hm => by
    obtain ⟨o', es', ep', ho', r'⟩ := hm
    rw [ho] at ho'; cases ho'
    exact ⟨_, es', ep', hL, r'⟩) hok hg
theorem Inv.turned {t' : Nat} {it : Addr} (I : Inv X pins σ H s) (k : ∀ b o, b ≠ it → s.heap.get? b = some o → h'.get? b = some o) (hn : H it = none) (hL : it ≠ X.env.locals)
    (h1 : it ∈ X.ex ∨ X.s₀.heap.objs.size ≤ it) (h2 : ∀ x c, X.env.cells.lookup x = some c → c ≠ it) (h3 : ∀ p ∈ X.pn ++ pins, p.1 ≠ it) : Inv X pins σ H { s with heap := h', toks := t' } := by
  have nit : ∀ b u, H b = some u → b ≠ it := fun b u e z => by rw [z, hn] at e; cases e
  refine I.step (g' := s.gens) (d' := s.drawn) (ch := [it]) (fun b hb => ?_) (fun b o _ _ hc e _ => k b o (fun z => hc (by simp [z])) e) (fun b o _ _ hc e _ => ⟨o.slots, k b o (fun z => hc (by simp [z])) e⟩) (fun _ _ _ _ n => n)
    (fun b o hc e => ⟨o, k b o (fun z => hc (by simp [z])) e⟩) (fun _ _ e => e) (fun _ _ _ e => e) (fun b ps e => ⟨#[], by rw [e]; simp⟩) (fun m hm => ?_) (fun b u e => ?_) I.bare
  · have e : b = it := by simpa using hb
    subst e
    exact ⟨h1, hL, h2, h3⟩
  · obtain ⟨o, es, ep, ho, r⟩ := hm
    exact ⟨o, es, ep, k _ o (Ne.symm hL) ho, r⟩
  · refine (I.hok b u e).stay (fun c v hc q => k c v ?_ q) (fun _ q => q) fun _ _ q => q
    rcases hc with z | z
    · rw [z]; exact nit b u e
    · exact nit c _ z
theorem Inv.tok (I : Inv X pins σ H s) (t : Nat) : Inv X pins σ H { s with toks := t } := I.un (h' := s.heap) (t' := t) Un.refl I.hok
theorem Inv.kept {t' : Nat} (I : Inv X pins σ H s) (k : ∀ b u, s.heap.get? b = some u → h'.get? b = some u) : Inv X pins σ H { s with heap := h', toks := t' } := I.un (Un.kept k) (I.hok.kept k)
theorem Inv.laid {a : Addr} {o : HO} {t' : Nat} (I : Inv X pins σ H s) (k : ∀ b u, s.heap.get? b = some u → h'.get? b = some u) (hp : s.heap.objs.size ≤ a) (new : ObjOk X.prog X.w (upd H a o) h' a o) :
    Inv X pins σ (upd H a o) { s with heap := h', toks := t' } := I.un (Un.laid k hp (I.hok.fresh hp)) (I.hok.laid k hp new)
theorem Inv.write {x e : Addr} {o : HO} {t' : Nat} (I : Inv X pins σ H s) (mu : Mut (H x)) (he : e = x ∨ H e = some (.own x)) (k : ∀ b u, b ≠ e → s.heap.get? b = some u → h'.get? b = some u) (heo : ∃ u, h'.get? e = some u)
    (new : ObjOk X.prog X.w (upd H x o) h' x o) : Inv X pins σ (upd H x o) { s with heap := h', toks := t' } := I.un (Un.write mu he k heo) (I.hok.write mu he k heo new)
theorem Inv.pins_of {pins' : List (Addr × Obj)} (I : Inv X pins σ H s) (h : ∀ p ∈ pins', s.heap.get? p.1 = some p.2 ∧ H p.1 = none ∧ p.1 ≠ X.env.locals ∧ p.1 ∉ X.fs ∧ ∀ v, p.2.data ≠ .cell v) : Inv X pins' σ H s :=
  ⟨I.ok, I.os, I.bare, I.base, I.loc, I.cell, I.free, I.freeC, fun p hp => (List.mem_append.mp hp).elim (fun z => I.pin p (List.mem_append_left _ z)) (h p), I.hok, I.len⟩
theorem nodup_ix {N : List Str} (hN : N.Nodup) {i j : Nat} {x : Str} (a : N[i]? = some x) (b : N[j]? = some x) : i = j := by
  obtain ⟨h1, e1⟩ := List.getElem?_eq_some_iff.mp a
  obtain ⟨h2, e2⟩ := List.getElem?_eq_some_iff.mp b
  exact (List.getElem_inj hN).mp (e1.trans e2.symm)
theorem store_ok2 {M : Model} {A : Around} {E : Value → Shared → Prop} {i : Nat} {x : Str} {v : V} {u : Value} {Q : Unit → Shared → Prop} (I : Inv X pins σ H s) (hN : X.N.Nodup) (hi : X.N[i]? = some x) (hx : Loc X.env.scope x) (r : RelV v u)
    (h : ∀ s', Inv X pins (σ.set i (some v)) H s' → (∃ a, Heap.SameBut a s.heap s'.heap ∧ (a = X.env.locals ∨ X.env.cells.lookup x = some a)) → Q () s') (hf : X.fn x = true ∨ X.env.scope.names.lookup x = some .local := by first | exact .inl rfl | exact .inr rfl | assumption) : wpAny M A (storeName X.env x u) Q E s := by
  obtain ⟨m, hn, hl⟩ := id I.loc
  have hcls : (X.env.scope.kind == .class || (X.env.scope.kind == .module && X.env.locals != X.env.globals)) = false := by rw [I.ok.kind]; rfl
  have hiσ : i < σ.length := by rw [I.len]; exact (List.getElem?_eq_some_iff.mp hi).1
  have cne := I.cne
  have tracked : ∀ {a : Addr} {h' : Heap}, (∃ o, s.heap.get? a = some o ∧ H a = none) → Heap.SameBut a s.heap h' → HOk X.prog X.w H h' := fun {a h'} ha hs b ob e => by
    obtain ⟨_, _, hfree⟩ := ha
    refine (I.hok b ob e).stay (fun c w' hc q => (hs.2 c ?_).trans q) (fun _ q => q) fun _ _ q => q
    rintro rfl
    rcases hc with rfl | hc
    · rw [hfree] at e; cases e
    · rw [hfree] at hc; cases hc
  rcases hx with hk | hk
  · refine wpAny_storeName_local hk hn (fun h' hn' hs => ?_) hcls
    obtain ⟨oL, _, _, hoL, _⟩ := id hn
    refine h _ ⟨I.ok, I.os, I.bare, ⟨fun b o e n hb hx => ?_, fun b o e n hb hx => ?_, I.base.free, fun b o e hx => ?_, I.base.tups, I.base.frzs, I.base.tbls⟩, ⟨_, hn', fun j y v' e1 e2 e3 => ?_⟩, fun y c e => ?_, I.free, I.freeC, fun p hp => ?_, tracked ⟨oL, hoL, I.free⟩ hs, by simpa using I.len⟩ ⟨_, hs, .inl rfl⟩
    · exact (hs.2 b (Nat.ne_of_lt (Nat.lt_of_lt_of_le (Heap.lt_size e) I.ok.above))).trans (I.base.keep b o e n hb hx)
    · obtain ⟨sl, e1⟩ := I.base.slot b o e n hb hx
      exact ⟨sl, (hs.2 b (Nat.ne_of_lt (Nat.lt_of_lt_of_le (Heap.lt_size e) I.ok.above))).trans e1⟩
    · obtain ⟨o', e1⟩ := I.base.there b o e hx
      exact ⟨o', (hs.2 b (Nat.ne_of_lt (Nat.lt_of_lt_of_le (Heap.lt_size e) I.ok.above))).trans e1⟩
    · by_cases hj : j = i
      · subst hj
        rw [hi] at e1; cases e1
        rw [List.getElem?_set_self hiσ] at e2
        cases e2
        exact ⟨u, r, .inl ⟨hk, by simp⟩⟩
      · rw [List.getElem?_set_ne (Ne.symm hj)] at e2
        obtain ⟨u', r', q⟩ := hl j y v' e1 e2 e3
        refine ⟨u', r', ?_⟩
        rcases q with ⟨k, e⟩ | ⟨k, c, e, z⟩
        · refine .inl ⟨k, ?_⟩
          have : y ≠ x := fun e => hj (nodup_ix hN e1 (e ▸ hi))
          simp [this, e]
        · exact .inr ⟨k, c, e, z.sameBut hs (cne y c e)⟩
    · obtain ⟨w', z⟩ := I.cell y c e
      exact ⟨w', z.sameBut hs (cne y c e)⟩
    · obtain ⟨e, n, ne, nf, d⟩ := I.pin p hp
      exact ⟨(hs.2 p.1 ne).trans e, n, ne, nf, d⟩
  · have hfn : X.fn x = true := by
      rcases hf with z | z
      · exact z
      · rw [z] at hk; cases hk
    obtain ⟨c, hc⟩ := I.ok.has x (.inl hk)
    obtain ⟨w', z⟩ := I.cell x c hc
    refine wpAny_storeName_cell I.ok.kind hk hc z (fun h' hc' hs => ?_)
    obtain ⟨oc, hoc, hocd⟩ := id z
    refine h { s with heap := h' } ⟨I.ok, I.os, I.bare, ⟨fun b o e n hb hx => ?_, fun b o e n hb hx => ?_, I.base.free, fun b o e hx => ?_, I.base.tups, I.base.frzs, I.base.tbls⟩, ⟨m, hn.sameBut hs (Ne.symm (cne x c hc)), fun j y v' e1 e2 e3 => ?_⟩, fun y c' e => ?_, I.free, I.freeC, fun p hp => ?_, tracked ⟨oc, hoc, I.freeC x c hc⟩ hs, by simpa using I.len⟩ ⟨c, hs, .inr hc⟩
    · exact (hs.2 b (Nat.ne_of_lt (Nat.lt_of_lt_of_le (Heap.lt_size e) (I.ok.cab x c hfn hc)))).trans (I.base.keep b o e n hb hx)
    · obtain ⟨sl, e1⟩ := I.base.slot b o e n hb hx
      exact ⟨sl, (hs.2 b (Nat.ne_of_lt (Nat.lt_of_lt_of_le (Heap.lt_size e) (I.ok.cab x c hfn hc)))).trans e1⟩
    · obtain ⟨o', e1⟩ := I.base.there b o e hx
      exact ⟨o', (hs.2 b (Nat.ne_of_lt (Nat.lt_of_lt_of_le (Heap.lt_size e) (I.ok.cab x c hfn hc)))).trans e1⟩
    · by_cases hj : j = i
      · subst hj
        rw [hi] at e1; cases e1
        rw [List.getElem?_set_self hiσ] at e2
        cases e2
        exact ⟨u, r, .inr ⟨.inl hk, c, hc, hc'⟩⟩
      · rw [List.getElem?_set_ne (Ne.symm hj)] at e2
        obtain ⟨u', r', q⟩ := hl j y v' e1 e2 e3
        refine ⟨u', r', ?_⟩
        rcases q with q | ⟨k, c', e, z'⟩
        · exact .inl q
        · refine .inr ⟨k, c', e, z'.sameBut hs ?_⟩
          rintro rfl
          exact hj (nodup_ix hN e1 (I.ok.inj _ _ _ e hc ▸ hi))
    · by_cases hcc : c' = c
      · subst hcc; exact ⟨_, hc'⟩
      · obtain ⟨w2, z2⟩ := I.cell y c' e
        exact ⟨w2, z2.sameBut hs hcc⟩
    · obtain ⟨e, n, ne, nf, d⟩ := I.pin p hp
      refine ⟨(hs.2 p.1 ?_).trans e, n, ne, nf, d⟩
      intro q
      rw [q, hoc] at e
      have q' : oc = p.2 := Option.some.inj e
      exact d w' (by rw [← q']; exact hocd)
theorem store_ok {M : Model} {A : Around} {E : Value → Shared → Prop} {i : Nat} {x : Str} {v : V} {u : Value} {Q : Unit → Shared → Prop} (I : Inv X pins σ H s) (hN : X.N.Nodup) (hi : X.N[i]? = some x) (hx : Loc X.env.scope x) (r : RelV v u)
    (h : ∀ s', Inv X pins (σ.set i (some v)) H s' → Q () s') (hf : X.fn x = true ∨ X.env.scope.names.lookup x = some .local := by first | exact .inl rfl | exact .inr rfl | assumption) : wpAny M A (storeName X.env x u) Q E s :=
  store_ok2 I hN hi hx r (fun s' I' _ => h s' I') hf
theorem Inv.call' {s' : Shared} {ch : List Addr} (I : Inv X pins σ H s) (ho : s'.os = s.os) (u : Un (frs X.stack) ch H H' s.heap s'.heap) (hok : HOk X.prog X.w H' s'.heap) (hg : AllBare s'.gens)
    (hch : ∀ b ∈ ch, (b ∈ X.ex ∨ X.s₀.heap.objs.size ≤ b) ∧ b ≠ X.env.locals ∧ (∀ x c, X.env.cells.lookup x = some c → c ≠ b) ∧ ∀ p ∈ X.pn ++ pins, p.1 ≠ b) : Inv X pins σ H' s' := by
  obtain ⟨h', g', d', t', o'⟩ := s'
  have e : o' = s.os := ho
  subst e
  exact I.call (g' := g') (t' := t') (d' := d') u hok hg hch
end
abbrev XK := Value → Option Addr → Hp → Prop
abbrev St := List (Option V)
abbrev VK := V → Hp → Prop
abbrev TE := St → Hp → VK → Prop
abbrev TT := St → Hp → (Bool → Hp → Prop) → Prop
abbrev TA := St → Hp → (List V → Hp → Prop) → Prop
structure Ends where
  nx : St → Hp → Prop
  rt : VK
  bk : St → Hp → Prop := fun _ _ => False
  ct : St → Hp → Prop := fun _ _ => False
abbrev TS := Ends → St → Hp → Prop
def EP (X : Cx) (pins : List (Addr × Obj)) (σ : St) (Q : VK) (u : Value) (s' : Shared) : Prop := ∃ v H', Inv X pins σ H' s' ∧ RelV v u ∧ Q v H'
def TP (X : Cx) (pins : List (Addr × Obj)) (σ : St) (Q : Bool → Hp → Prop) (b : Bool) (s' : Shared) : Prop := ∃ H', Inv X pins σ H' s' ∧ Q b H'
def AP (X : Cx) (pins : List (Addr × Obj)) (σ : St) (Q : List V → Hp → Prop) (us : List Value) (s' : Shared) : Prop := ∃ vs H', Inv X pins σ H' s' ∧ Vals vs us ∧ Q vs H'
def SP (X : Cx) (pins : List (Addr × Obj)) (D : Ends) (f : Flow) (s' : Shared) : Prop :=
  match f with
  | .next => ∃ σ' H', Inv X pins σ' H' s' ∧ D.nx σ' H'
  | .brk => ∃ σ' H', Inv X pins σ' H' s' ∧ D.bk σ' H'
  | .cont => ∃ σ' H', Inv X pins σ' H' s' ∧ D.ct σ' H'
  | .ret u => ∃ v σ' H', Inv X pins σ' H' s' ∧ RelV v u ∧ D.rt v H'
def PE (X : Cx) (e : Expr) (t : TE) : Prop :=
  ∀ (pins : List (Addr × Obj)) (s : Shared) (σ : St) (H : Hp) (Q : VK), Inv X pins σ H s → t σ H Q → wpAny (model X.prog X.w) X.A (eval e X.env) (EP X pins σ Q) X.xe s
def PT (X : Cx) (e : Expr) (t : TT) : Prop :=
  ∀ (pins : List (Addr × Obj)) (s : Shared) (σ : St) (H : Hp) (Q : Bool → Hp → Prop), Inv X pins σ H s → t σ H Q → wpAny (model X.prog X.w) X.A (isTrue e X.env (eval e X.env)) (TP X pins σ Q) X.xe s
def PW (X : Cx) (e : Expr) (t : TT) : Prop :=
  ∀ (whole : Sem Value) (pins : List (Addr × Obj)) (s : Shared) (σ : St) (H : Hp) (Q : Bool → Hp → Prop), Inv X pins σ H s → t σ H Q → wpAny (model X.prog X.w) X.A (isTrue e X.env whole) (TP X pins σ Q) X.xe s
theorem PW.pt {X : Cx} {e : Expr} {t : TT} (h : PW X e t) : PT X e t := h _
def PA (X : Cx) (es : List Expr) (t : TA) : Prop :=
  ∀ (pos : Pos) (pins : List (Addr × Obj)) (s : Shared) (σ : St) (H : Hp) (Q : List V → Hp → Prop), Inv X pins σ H s → t σ H Q → wpAny (model X.prog X.w) X.A (spliced (backTo pos (starEach es X.env))) (AP X pins σ Q) X.xe s
def PS (X : Cx) (st : Stmt) (t : TS) : Prop :=
  ∀ (pins : List (Addr × Obj)) (s : Shared) (σ : St) (H : Hp) (D : Ends), Inv X pins σ H s → t D σ H → wpAny (model X.prog X.w) X.A (exec st X.env) (SP X pins D) X.xe s
def PSs (X : Cx) (st : List Stmt) (t : TS) : Prop :=
  ∀ (pins : List (Addr × Obj)) (s : Shared) (σ : St) (H : Hp) (D : Ends), Inv X pins σ H s → t D σ H → wpAny (model X.prog X.w) X.A (execs st X.env) (SP X pins D) X.xe s
theorem thn {α : Type} {t : Sem α} {Q Q' : α → Shared → Prop} {M : Model} {A : Around} {E : Value → Shared → Prop} {s : Shared} (h : wpAny M A t Q E s) (hQ : ∀ a s, Q a s → Q' a s) : wpAny M A t Q' E s := wpAny_mono h hQ fun _ _ x => x
end L2
namespace L2
open PySem PySem.Spec PyProof.Rows
section
variable {X : Cx}
theorem bin {a b : Expr} {ta tb : TE} (ha : PE X a ta) (hb : PE X b tb) {pins : List (Addr × Obj)} {s : Shared} {σ : St} {H : Hp} {R : V → V → Hp → Prop} (I : Inv X pins σ H s) (h : ta σ H fun x H1 => tb σ H1 fun y H2 => R x y H2)
    {α : Type} {Q : α → Shared → Prop} {f : Value → Value → Sem α}
    (hf : ∀ v u s2 x y H2, Inv X pins σ H2 s2 → RelV x v → RelV y u → R x y H2 → wpAny (model X.prog X.w) X.A (f v u) Q X.xe s2) :
    wpAny (model X.prog X.w) X.A (eval a X.env) (fun v s₁ => wpAny (model X.prog X.w) X.A (eval b X.env) (fun u s₂ => wpAny (model X.prog X.w) X.A (f v u) Q X.xe s₂) X.xe s₁) X.xe s := by
  refine thn (ha pins s σ H _ I h) fun v s1 ⟨x, H1, I1, r1, q1⟩ => ?_
  refine thn (hb pins s1 σ H1 _ I1 q1) fun u s2 ⟨y, H2, I2, r2, q2⟩ => ?_
  exact hf v u s2 x y H2 I2 r1 r2 q2
def tVar (i : Nat) : TE := fun σ H Q => ∃ v, σ[i]? = some (some v) ∧ Q v H
def tC (v : V) : TE := fun _ H Q => Q v H
theorem pe_var {i : Nat} {x : Str} {pos : Pos} (hN : X.N[i]? = some x) (hv : Vis X.env.scope x) (hd : (x == ("__debug__" : Str)) = false := by decide) (hcd : (x == ("__classdict__" : Str)) = false := by decide) : PE X (.Name x pos) (tVar i) := by
  intro pins s σ H Q I h
  obtain ⟨v, e, h⟩ := h
  obtain ⟨m, hn, hl⟩ := I.loc
  obtain ⟨u, r, l⟩ := hl i x v hN e hv
  have fin : EP X pins σ Q u s := ⟨v, H, I, r, h⟩
  rcases l with ⟨hk, hm⟩ | ⟨hk, c, hc, hcell⟩
  · exact wpAny_Name (wpAny_loadName_local I.ok.kind hk hn hm fin) hd
  · rcases hk with hk | hk
    · exact wpAny_Name (wpAny_loadName_cell I.ok.kind hk hc hcell fin) hd
    · exact wpAny_Name (wpAny_loadName_free I.ok.kind hk hc hcell fin hcd) hd
theorem pe_int {i j pos} : PE X (.Constant (.int i) j pos) (tC (.int i)) := fun _ _ _ H _ I h => wpAny_Constant_int ⟨.int i, H, I.tok _, ⟨_, rfl⟩, h⟩
theorem pe_bl {b j pos} : PE X (.Constant (.bool b) j pos) (tC (.bl b)) := fun _ _ _ H _ I h => Constant_bool ⟨.bl b, H, I, rfl, h⟩
theorem pe_non {j pos} : PE X (.Constant .none j pos) (tC .non) := fun _ _ _ H _ I h => Constant_none ⟨.non, H, I, rfl, h⟩
theorem pe_str {x j pos} : PE X (.Constant (.str x) j pos) (tC (.str x)) := fun _ _ _ H _ I h => Calls.Constant_str ⟨.str x, H, I.tok _, ⟨_, rfl⟩, h⟩
def Gl (X : Cx) (x : Str) : Prop := X.env.kindOf x = some .globalImplicit
theorem ld_glob {E : Value → Shared → Prop} {pins : List (Addr × Obj)} {s : Shared} {σ : St} {H : Hp} {x : Str} {u : Value} {pos : Pos} {Q : Value → Shared → Prop} (I : Inv X pins σ H s) (hg : Gl X x) (hm : X.mg x = some u) (h : Q u s)
    (hd : (x == ("__debug__" : Str)) = false := by decide) : wpAny (model X.prog X.w) X.A (eval (.Name x pos) X.env) Q E s :=
  Calls.Name_function_global I.ok.kind hg (Calls.loadGlobal_global (by rw [I.ok.glob]; exact I.mod.glob.keeps I.bk) hm h) hd
theorem ld_blt {E : Value → Shared → Prop} {pins : List (Addr × Obj)} {s : Shared} {σ : St} {H : Hp} {x : Str} {u : Value} {pos : Pos} {Q : Value → Shared → Prop} (I : Inv X pins σ H s) (hg : Gl X x) (hm : X.mg x = none) (hv : bootBuiltins x = some u) (h : Q u s)
    (hn : x ≠ "__name__" := by decide) (hd : (x == ("__debug__" : Str)) = false := by decide) : wpAny (model X.prog X.w) X.A (eval (.Name x pos) X.env) Q E s := by
  obtain ⟨mb, h1, h2⟩ := I.mod.blt
  exact Calls.Name_function_global I.ok.kind hg (Calls.loadGlobal_builtin (by rw [I.ok.glob]; exact I.mod.glob.keeps I.bk) hm (by rw [I.ok.blt]; exact h1.keeps I.bk) ((h2 x hn).trans hv) h) hd
theorem pe_glob {x : Str} {v : V} {u : Value} {pos : Pos} (hg : Gl X x) (hm : X.mg x = some u) (r : RelV v u) (hd : (x == ("__debug__" : Str)) = false := by decide) : PE X (.Name x pos) (tC v) :=
  fun _ _ _ H _ I h => ld_glob I hg hm ⟨v, H, I, r, h⟩ hd
theorem pe_bltn {x : Str} {v : V} {u : Value} {pos : Pos} (hg : Gl X x) (hm : X.mg x = none) (hv : bootBuiltins x = some u) (r : RelV v u) (hn : x ≠ "__name__" := by decide) (hd : (x == ("__debug__" : Str)) = false := by decide) : PE X (.Name x pos) (tC v) :=
  fun _ _ _ H _ I h => ld_blt I hg hm hv ⟨v, H, I, r, h⟩ hn hd
variable {a b : Expr} {ta tb : TE} {pos : Pos}
def PC (X : Cx) (op : CmpOp) (a b : Expr) (t : TE) : Prop :=
  ∀ (pins : List (Addr × Obj)) (s : Shared) (σ : St) (H : Hp) (Q : VK), Inv X pins σ H s → t σ H Q →
    wpAny (model X.prog X.w) X.A (eval a X.env) (fun v s₁ => wpAny (model X.prog X.w) X.A (eval b X.env) (fun u s₂ => wpAny (model X.prog X.w) X.A (compareOp op v u) (EP X pins σ Q) X.xe s₂) X.xe s₁) X.xe s
theorem nobehind (b : Expr) {op : CmpOp} (h : op ≠ .In) (h2 : op ≠ .NotIn) : behindInMarks op b = false := by
  have e1 : (op == CmpOp.In) = false := by cases op <;> first | rfl | exact absurd rfl h
  have e2 : (op == CmpOp.NotIn) = false := by cases op <;> first | rfl | exact absurd rfl h2
  cases b <;> simp [behindInMarks, e1, e2]
def tIsN (ta : TE) : TE := fun σ H Q => ta σ H fun x H1 => Q (.bl (decide (x = .non))) H1
theorem RelV.none_iff {x : V} {v : Value} (r : RelV x v) : (v == Value.none) = decide (x = .non) := by
  cases x with
  | non => cases r; rfl
  | bl _ => cases r; rfl
  | int _ => obtain ⟨t, rfl⟩ := r; rfl
  | str _ => obtain ⟨t, rfl⟩ := r; rfl
  | byt _ => obtain ⟨t, rfl⟩ := r; rfl
  | flt _ => obtain ⟨t, rfl⟩ := r; rfl
  | ref _ => cases r; rfl
  | ty _ => cases r; rfl
theorem pc_isN {j pos'} (ha : PE X a ta) : PC X .Is a (.Constant .none j pos') (tIsN ta) := by
  intro pins s σ H Q I h
  refine thn (ha pins s σ H _ I h) fun v s1 ⟨x, H1, I1, r1, q1⟩ => ?_
  exact Constant_none (is_none_gen ⟨.bl _, H1, I1, by rw [r1.none_iff]; rfl, q1⟩)
def tB (t : TE) : TT := fun σ H Q => t σ H fun x H1 => ∃ c, x = .bl c ∧ Q c H1
theorem pt_cmp {op : CmpOp} {t : TE} (h : PC X op a b t) (h1 : behindInMarks op b = false := by first | exact nobehind _ (by decide) (by decide) | rfl) : PT X (.Compare a [op] [b] pos) (tB t) := by
  intro pins s σ H Q I hw
  refine wpAny_isTrue_Compare1 (thn (h pins s σ H _ I hw) fun v s1 h1 => thn h1 fun u s2 h2 => thn h2 fun c s3 ⟨x, H1, I1, r1, q1⟩ => ?_) h1
  obtain ⟨d, rfl, q⟩ := q1
  cases r1
  exact wpAny_truthy_bool ⟨H1, I1, q⟩
variable {tA tB' : TT} {rest : List Expr}
def tAnd (t u : TT) : TT := fun σ H Q => t σ H fun c H1 => if c = true then u σ H1 Q else Q false H1
def tOr (t u : TT) : TT := fun σ H Q => t σ H fun c H1 => if c = true then Q true H1 else u σ H1 Q
def tNot (t : TT) : TT := fun σ H Q => t σ H fun c H1 => Q (!c) H1
theorem pw_and1 (ha : PT X a tA) : PW X (.BoolOp .And [a] pos) tA := by
  intro wh pins s σ H Q I h
  refine isTrue_and (thn (ha pins s σ H Q I h) fun c s1 e => ?_)
  cases c with
  | true => exact isTrue_and_nil e
  | false => exact e
theorem pw_or1 (ha : PT X a tA) : PW X (.BoolOp .Or [a] pos) tA := by
  intro wh pins s σ H Q I h
  refine isTrue_or (thn (ha pins s σ H Q I h) fun c s1 e => ?_)
  cases c with
  | false => exact isTrue_or_nil e
  | true => exact e
theorem pw_and (ha : PT X a tA) (hb : PW X (.BoolOp .And (b :: rest) pos) tB') : PW X (.BoolOp .And (a :: b :: rest) pos) (tAnd tA tB') := by
  intro wh pins s σ H Q I h
  refine isTrue_and (thn (ha pins s σ H _ I h) fun c s1 ⟨H1, I1, q1⟩ => ?_)
  cases c with
  | true => exact hb wh pins s1 σ H1 Q I1 q1
  | false => exact ⟨H1, I1, q1⟩
theorem pw_or (ha : PT X a tA) (hb : PW X (.BoolOp .Or (b :: rest) pos) tB') : PW X (.BoolOp .Or (a :: b :: rest) pos) (tOr tA tB') := by
  intro wh pins s σ H Q I h
  refine isTrue_or (thn (ha pins s σ H _ I h) fun c s1 ⟨H1, I1, q1⟩ => ?_)
  cases c with
  | true => exact ⟨H1, I1, q1⟩
  | false => exact hb wh pins s1 σ H1 Q I1 q1
theorem pt_not (ha : PT X a tA) : PT X (.UnaryOp .Not a pos) (tNot tA) := by
  intro pins s σ H Q I h
  exact isTrue_not (ha pins s σ H (fun c H1 => Q (!c) H1) I h)
def tAndV (ta tb : TE) : TE := fun σ H Q => ta σ H fun x H1 => ∃ c, x = .bl c ∧ if c = true then tb σ H1 Q else Q (.bl false) H1
def tOrV (ta tb : TE) : TE := fun σ H Q => ta σ H fun x H1 => ∃ c, x = .bl c ∧ if c = true then Q (.bl true) H1 else tb σ H1 Q
theorem pe_one {op} {t : TE} (h : PE X a t) : PE X (.BoolOp op [a] pos) t := fun pins s σ H Q I hw => BoolOp_one (h pins s σ H Q I hw)
theorem pe_and (ha : PE X a ta) (hb : PE X (.BoolOp .And (b :: rest) pos) tb) : PE X (.BoolOp .And (a :: b :: rest) pos) (tAndV ta tb) := by
  intro pins s σ H Q I h
  refine BoolOp_and (thn (ha pins s σ H _ I h) fun v s1 ⟨x, H1, I1, r1, q1⟩ => ?_)
  obtain ⟨c, rfl, q1⟩ := q1
  cases r1
  refine wpAny_truthy_bool ?_
  cases c with
  | true => exact hb pins s1 σ H1 Q I1 q1
  | false => exact ⟨.bl false, H1, I1, rfl, q1⟩
theorem pe_or (ha : PE X a ta) (hb : PE X (.BoolOp .Or (b :: rest) pos) tb) : PE X (.BoolOp .Or (a :: b :: rest) pos) (tOrV ta tb) := by
  intro pins s σ H Q I h
  refine BoolOp_or (thn (ha pins s σ H _ I h) fun v s1 ⟨x, H1, I1, r1, q1⟩ => ?_)
  obtain ⟨c, rfl, q1⟩ := q1
  cases r1
  refine wpAny_truthy_bool ?_
  cases c with
  | false => exact hb pins s1 σ H1 Q I1 q1
  | true => exact ⟨.bl true, H1, I1, rfl, q1⟩
def tIf (t : TT) (ta tb : TE) : TE := fun σ H Q => t σ H fun c H1 => if c = true then ta σ H1 Q else tb σ H1 Q
theorem pe_ifExp {c : Expr} (hc : PT X c tA) (ha : PE X a ta) (hb : PE X b tb) : PE X (.IfExp c a b pos) (tIf tA ta tb) := by
  intro pins s σ H Q I h
  refine wpAny_IfExp (thn (hc pins s σ H _ I h) fun d s1 ⟨H1, I1, q1⟩ => ?_)
  cases d with
  | true => exact ha pins s1 σ H1 Q I1 q1
  | false => exact hb pins s1 σ H1 Q I1 q1
end
end L2
namespace L2
open PySem PySem.Spec PyProof.Rows
def SqL (K : PySem.W.Frag) (H : Hp) (a : Addr) (xs : List V) : Prop :=
  Rd H a (.lst xs) ∨
    ∃ (o : Obj) (its : Array Value) (n : Nat), K.lookup a = some o ∧ o.cls = .type "list" ∧ o.dict = none ∧ o.data = .seq its n ∧ its.size ≤ sizeLine ∧ Vals xs its.toList
def SqT (K : PySem.W.Frag) (H : Hp) (a : Addr) (xs : List V) : Prop :=
  Rd H a (.tup xs) ∨
    ∃ (o : Obj) (its : Array Value) (n : Nat), K.lookup a = some o ∧ o.cls = .type "tuple" ∧ o.data = .seq its n ∧ its.size ≤ sizeLine ∧ Vals xs its.toList
def absV : Value → Option V
  | .none => some .non
  | .bool b => some (.bl b)
  | .int i _ => some (.int i)
  | .str x _ => some (.str x)
  | .bytes b _ => some (.byt b)
  | .float b _ => some (.flt b)
  | .ref a => some (.ref a)
  | .type n => some (.ty n)
  | _ => none
theorem RelV.abs {x : V} {u : Value} (r : RelV x u) : absV u = some x := by
  cases x with
  | non => cases r; rfl
  | bl _ => cases r; rfl
  | int _ => obtain ⟨t, rfl⟩ := r; rfl
  | str _ => obtain ⟨t, rfl⟩ := r; rfl
  | byt _ => obtain ⟨t, rfl⟩ := r; rfl
  | flt _ => obtain ⟨t, rfl⟩ := r; rfl
  | ref _ => cases r; rfl
  | ty _ => cases r; rfl
theorem RelV.inj {x y : V} {u : Value} (r : RelV x u) (q : RelV y u) : x = y := Option.some.inj (r.abs.symm.trans q.abs)
theorem Vals.inj : ∀ {xs ys : List V} {us : List Value}, Vals xs us → Vals ys us → xs = ys
  | _, _, _, .nil, .nil => rfl
  | _, _, _, .cons r t, .cons r' t' => by rw [r.inj r', Vals.inj t t']
section
variable {X : Cx} {pins : List (Addr × Obj)} {σ : St} {H : Hp} {s : Shared} {a : Addr} {xs ys : List V}
theorem SqL.of {K : PySem.W.Frag} (h : H a = some (.lst xs)) : SqL K H a xs := .inl (.inl h)
theorem SqT.of {K : PySem.W.Frag} (h : H a = some (.tup xs)) : SqT K H a xs := .inl (.inl h)
theorem Inv.list (I : Inv X pins σ H s) (h : SqL X.K H a xs) : ∃ its : List Value, Vals xs its ∧ PlainL s.heap a its.toArray ∧ xs.length ≤ sizeLine := by
  rcases h with h | ⟨o, its, n, hk, hc, hd, hs, hz, r⟩
  · obtain ⟨z, its, n, r, e⟩ := h.ok I.hok
    exact ⟨its, r, ⟨_, n, e, rfl, rfl, rfl⟩, z⟩
  · refine ⟨its.toList, r, ⟨o, n, I.kIn a o hk, hc, hd, by simpa using hs⟩, ?_⟩
    have e := r.length
    simp only [Array.length_toList] at e
    omega
theorem Inv.tuple (I : Inv X pins σ H s) (h : SqT X.K H a xs) : ∃ its : List Value, Vals xs its ∧ IsTup s.heap a its.toArray ∧ xs.length ≤ sizeLine := by
  rcases h with h | ⟨o, its, n, hk, hc, hs, hz, r⟩
  · obtain ⟨z, its, r, p⟩ := h.ok I.hok
    exact ⟨its, r, p, z⟩
  · refine ⟨its.toList, r, ⟨o, I.kIn a o hk, hc, n, by simpa using hs⟩, ?_⟩
    have e := r.length
    simp only [Array.length_toList] at e
    omega
theorem Inv.list_inj (I : Inv X pins σ H s) (h : SqL X.K H a xs) (h' : SqL X.K H a ys) : xs = ys := by
  obtain ⟨its, r, ⟨o, n, e, _, _, d⟩, _⟩ := I.list h
  obtain ⟨its', r', ⟨o', n', e', _, _, d'⟩, _⟩ := I.list h'
  rw [e] at e'; cases e'
  rw [d] at d'
  injection d' with d1 _
  have : its = its' := by simpa using congrArg Array.toList d1
  subst this
  exact r.inj r'
theorem Inv.tuple_inj (I : Inv X pins σ H s) (h : SqT X.K H a xs) (h' : SqT X.K H a ys) : xs = ys := by
  obtain ⟨its, r, ⟨o, e, _, n, d⟩, _⟩ := I.tuple h
  obtain ⟨its', r', ⟨o', e', _, n', d'⟩, _⟩ := I.tuple h'
  rw [e] at e'; cases e'
  rw [d] at d'
  injection d' with d1 _
  have : its = its' := by simpa using congrArg Array.toList d1
  subst this
  exact r.inj r'
end
section
variable {X : Cx} {pins : List (Addr × Obj)} {σ : St} {H : Hp} {s : Shared} {E : Value → Shared → Prop}
end
section
variable {X : Cx} {st : Stmt} {rest : List Stmt} {t u : TS} {e : Expr} {te : TE} {pos : Pos}
def tNext : TS := fun D σ H => D.nx σ H
def tSeq (t u : TS) : TS := fun D σ H => t { D with nx := u D } σ H
theorem pss_nil : PSs X [] tNext := fun _ _ σ H _ I h => wpAny_execs_nil ⟨σ, H, I, h⟩
theorem pss_cons (h1 : PS X st t) (h2 : PSs X rest u) : PSs X (st :: rest) (tSeq t u) := by
  intro pins s σ H D I h
  refine wpAny_execs_cons (thn (h1 pins s σ H { D with nx := u D } I h) fun f s1 q => ?_)
  cases f with
  | next =>
    obtain ⟨σ', H', I', q⟩ := q
    exact h2 pins s1 σ' H' D I' q
  | ret v => exact q
  | brk => exact q
  | cont => exact q
theorem pss_one (h1 : PS X st t) : PSs X [st] t := by
  intro pins s σ H D I h
  refine wpAny_execs_cons (thn (h1 pins s σ H D I h) fun f s1 q => ?_)
  cases f with
  | next => exact wpAny_execs_nil q
  | ret v => exact q
  | brk => exact q
  | cont => exact q
theorem Inv.quiet {pins : List (Addr × Obj)} {σ : St} {H : Hp} {s : Shared} (I : Inv X pins σ H s) : interactive X.env = false := by simp [interactive, I.ok.kind]
def tDrop (te : TE) : TS := fun D σ H => te σ H fun _ H1 => D.nx σ H1
theorem ps_expr (he : PE X e te) (hs : swapsWith e none pos.line X.env = pure false := by rfl) : PS X (.Expr e pos) (tDrop te) := by
  intro pins s σ H D I h
  exact wpAny_Expr_any (thn (he pins s σ H _ I h) fun v s1 ⟨x, H1, I1, r1, q1⟩ => ⟨σ, H1, I1, q1⟩) I.quiet hs
def tRet (te : TE) : TS := fun D σ H => te σ H D.rt
theorem ps_ret (he : PE X e te) : PS X (.Return (some e) pos) (tRet te) := by
  intro pins s σ H D I h
  exact wpAny_Return_some (thn (he pins s σ H _ I h) fun v s1 ⟨x, H1, I1, r1, q1⟩ => ⟨x, σ, H1, I1, r1, q1⟩)
def tIfS (c : TT) (t u : TS) : TS := fun D σ H => c σ H fun b H1 => if b = true then t D σ H1 else u D σ H1
theorem ps_if {c : Expr} {a b : List Stmt} {tc : TT} (hc : PT X c tc) (ha : PSs X a t) (hb : PSs X b u) : PS X (.If c a b pos) (tIfS tc t u) := by
  intro pins s σ H D I h
  refine wpAny_If (thn (hc pins s σ H _ I h) fun d s1 ⟨H1, I1, q1⟩ => ?_)
  cases d with
  | true => exact ha pins s1 σ H1 D I1 q1
  | false => exact hb pins s1 σ H1 D I1 q1
end
abbrev TG := V → St → Hp → (St → Hp → Prop) → Prop
abbrev TGs := List V → St → Hp → (St → Hp → Prop) → Prop
def PG (X : Cx) (target : Expr) (t : TG) : Prop :=
  ∀ (pins : List (Addr × Obj)) (s : Shared) (σ : St) (H : Hp) (v : V) (u : Value) (Q : St → Hp → Prop), Inv X pins σ H s → RelV v u → t v σ H Q →
    wpAny (model X.prog X.w) X.A (assign target X.env u) (fun _ s' => ∃ σ' H', Inv X pins σ' H' s' ∧ Q σ' H') X.xe s
def PGs (X : Cx) (ts : List Expr) (t : TGs) : Prop :=
  ∀ (pins : List (Addr × Obj)) (s : Shared) (σ : St) (H : Hp) (vs : List V) (us : List Value) (Q : St → Hp → Prop), Inv X pins σ H s → Vals vs us → t vs σ H Q →
    wpAny (model X.prog X.w) X.A (assignInOrder ((assignEach ts X.env).map (·.2)) us) (fun _ s' => ∃ σ' H', Inv X pins σ' H' s' ∧ Q σ' H') X.xe s
section
variable {X : Cx} {pos : Pos}
def gName (i : Nat) : TG := fun v σ H Q => Q (σ.set i (some v)) H
theorem pg_name {i : Nat} {x : Str} (hN : X.N.Nodup) (hi : X.N[i]? = some x) (hx : Loc X.env.scope x) (hf : X.fn x = true ∨ X.env.scope.names.lookup x = some .local := by first | exact .inl rfl | exact .inr rfl | assumption) : PG X (.Name x pos) (gName i) := by
  intro pins s σ H v u Q I r h
  exact wpAny_assign_Name (store_ok I hN hi hx r (fun s' I' => ⟨_, H, I', h⟩) hf)
def gNil : TGs := fun vs σ H Q => vs = [] ∧ Q σ H
def gCons (t : TG) (u : TGs) : TGs := fun vs σ H Q => ∃ v r, vs = v :: r ∧ t v σ H fun σ' H' => u r σ' H' Q
theorem pgs_nil : PGs X [] gNil := by
  intro pins s σ H vs us Q I r h
  obtain ⟨e, h⟩ := h
  subst e
  cases r
  exact assignInOrder_nil ⟨σ, H, I, h⟩
theorem pgs_cons {e : Expr} {es : List Expr} {t : TG} {u : TGs} (h1 : PG X e t) (h2 : PGs X es u)
    (hs : (assignEach (e :: es) X.env).map (·.2) = assign e X.env :: (assignEach es X.env).map (·.2) := by rfl) : PGs X (e :: es) (gCons t u) := by
  intro pins s σ H vs us Q I r h
  obtain ⟨v, vr, e1, h⟩ := h
  subst e1
  cases r with
  | cons r rr =>
    rw [hs]
    refine assignInOrder_cons (thn (h1 pins s σ H _ _ _ I r h) fun _ s1 ⟨σ1, H1, I1, q1⟩ => ?_)
    exact h2 pins s1 σ1 H1 _ _ Q I1 rr q1
def gTup (K : PySem.W.Frag) (n : Nat) (t : TGs) : TG := fun v σ H Q => ∃ a xs, v = .ref a ∧ SqT K H a xs ∧ xs.length = n ∧ t xs σ H Q
theorem pg_tup {es : List Expr} {k : Nat} {t : TGs} {n : Nat} (hc : X.calm = true) (h : PGs X es t)
    (hn : (assignEach es X.env).length = n := by rfl) (hst : (assignEach es X.env).findIdx? (·.1) = none := by rfl) : PG X (.Tuple es k pos) (gTup X.K n t) := by
  intro pins s σ H v u Q I r hw
  obtain ⟨a, xs, e1, hq, hl, hw⟩ := hw
  subst e1
  cases r
  obtain ⟨its, rv, ht, hz⟩ := I.tuple hq
  refine assign_Tuple_tuple (I.ok.hd hc) ht (by simp [hn, ← hl, rv.length]) hst fun h' hx => ?_
  have I1 : Inv X pins σ H { s with heap := h' } := I.kept (t' := s.toks) fun b o e => hx b o (Nat.ne_of_lt (Heap.lt_size e)) e
  exact h pins _ σ H xs _ Q I1 (by simpa using rv) hw
def tAsg (te : TE) (g : TG) : TS := fun D σ H => te σ H fun x H1 => g x σ H1 D.nx
theorem ps_asg {tg e : Expr} {te : TE} {g : TG} (he : PE X e te) (hg : PG X tg g) (hs : swapsWithSole [tg] e pos.line X.env = pure false := by rfl) (hw : swappedStores [tg] e X.env = pure none := by rfl)
    (h1 : (assignEach [tg] X.env).map (·.2) = [assign tg X.env] := by rfl) : PS X (.Assign [tg] e pos) (tAsg te g) := by
  intro pins s σ H D I h
  refine wpAny_Assign_stores (thn (he pins s σ H _ I h) fun v s1 ⟨x, H1, I1, r1, q1⟩ => ?_) hs hw
  rw [h1]
  exact thn (hg pins s1 σ H1 x v _ I1 r1 q1) fun _ s2 q => q
theorem ps_set {i : Nat} {x : Str} {e : Expr} {te : TE} {pos' : Pos} (hN : X.N.Nodup) (hi : X.N[i]? = some x) (hx : Loc X.env.scope x) (he : PE X e te) (hs : swapsWith e (some (.Name x pos')) pos.line X.env = pure false := by rfl) (hf : X.fn x = true ∨ X.env.scope.names.lookup x = some .local := by first | exact .inl rfl | exact .inr rfl | assumption) :
    PS X (.Assign [.Name x pos'] e pos) (tAsg te (gName i)) := by
  intro pins s σ H D I h
  refine wpAny_Assign_Name (thn (he pins s σ H _ I h) fun v s1 ⟨y, H1, I1, r1, q1⟩ => ?_) hs
  exact store_ok I1 hN hi hx r1 (fun s2 I2 => ⟨_, H1, I2, q1⟩) hf
end
section
variable {X : Cx} {pos : Pos}
def tWhile (c : TT) (tb : TS) : TS := fun D σ H => ∃ W : Nat → St → Hp → Prop, (∃ m, W m σ H) ∧ ∀ m σ H, W m σ H →
  c σ H fun b H1 => if b = true then ∃ N : St → Hp → Prop, (∀ σ' H', N σ' H' → ∃ m', m' < m ∧ W m' σ' H') ∧ tb { D with nx := N, ct := N, bk := D.nx } σ H1 else D.nx σ H1
theorem ps_while {c : Expr} {body : List Stmt} {tc : TT} {tb : TS} (hp : PassesOwn (model X.prog X.w) X.A X.env X.xe) (hc : PT X c tc) (hb : PSs X body tb) : PS X (.While c body [] pos) (tWhile tc tb) := by
  intro pins s σ H D I h
  obtain ⟨W, ⟨m0, w0⟩, turn⟩ := h
  refine wpAny_While (codeAny_whileLoop (fun n s' => ∃ σ' H', Inv X pins σ' H' s' ∧ W n σ' H') ?_ m0 ⟨σ, H, I, w0⟩)
  rintro n s1 ⟨σ1, H1, I1, w1⟩
  refine wpAny_passesOwn hp (thn (hc pins s1 σ1 H1 _ I1 (turn n σ1 H1 w1)) fun b s2 ⟨H2, I2, q2⟩ => ?_)
  cases b with
  | true =>
    obtain ⟨N, hN, q2⟩ := q2
    rw [if_pos rfl]
    refine wpAny_passesOwn hp (thn (hb pins s2 σ1 H2 _ I2 q2) fun f s3 q3 => ?_)
    cases f with
    | next =>
      obtain ⟨σ3, H3, I3, n3⟩ := q3
      obtain ⟨m', hm, w3⟩ := hN σ3 H3 n3
      exact ⟨m', hm, σ3, H3, I3, w3⟩
    | cont =>
      obtain ⟨σ3, H3, I3, n3⟩ := q3
      obtain ⟨m', hm, w3⟩ := hN σ3 H3 n3
      exact ⟨m', hm, σ3, H3, I3, w3⟩
    | brk => exact q3
    | ret v => exact q3
  | false =>
    rw [if_neg Bool.false_ne_true]
    exact wpAny_execs_nil ⟨σ1, H2, I2, q2⟩
end
structure It where
  go : Nat → Hp → Prop
  yld : Nat → Hp → V → Hp → Prop
  stop : Nat → Hp → Prop
def FpOk (X : Cx) (pins : List (Addr × Obj)) (H : Hp) (b : Addr) : Prop :=
  H b = none ∧ b ≠ X.env.locals ∧ b ∉ X.fs ∧ (b ∈ X.ex ∨ X.s₀.heap.objs.size ≤ b) ∧ (∀ x c, X.env.cells.lookup x = some c → c ≠ b) ∧ ∀ p ∈ X.pn ++ pins, p.1 ≠ b
theorem Inv.fpOk {X : Cx} {pins : List (Addr × Obj)} {σ : St} {H H' : Hp} {s : Shared} {b : Addr} (I : Inv X pins σ H s) (hb : s.heap.objs.size ≤ b) (hn : H' b = none) : FpOk X pins H' b := by
  refine ⟨hn, Nat.ne_of_gt (Nat.lt_of_lt_of_le I.lt hb), I.nofs hb, .inr (Nat.le_trans I.sz hb), fun x c e z => ?_, fun p hp z => ?_⟩
  · obtain ⟨v, q⟩ := I.cell x c e
    exact absurd (Nat.lt_of_lt_of_le q.lt (by rw [z]; exact hb)) (Nat.lt_irrefl _)
  · exact absurd (Nat.lt_of_lt_of_le (Heap.lt_size (I.pin p hp).1) (by rw [z]; exact hb)) (Nat.lt_irrefl _)
structure Turn (P : Program) (w : World) (K : PySem.W.Frag) (tg : Expr) (J : It) (fp : List Addr) (it : Addr) (tn : Nat → Heap → Prop) : Prop where
  mem : it ∈ fp
  obj : ∀ i h, tn i h → ∀ b ∈ fp, ∃ o, h.get? b = some o ∧ ∀ v, o.data ≠ .cell v
  keep : ∀ i h h', tn i h → (∀ b ∈ fp, ∀ o, h.get? b = some o → h'.get? b = some o) → tn i h'
  item : ∀ (X : Cx), X.prog = P → X.w = w → X.K = K → X.calm = true → ∀ (i : Nat) (pins : List (Addr × Obj)) (s : Shared) (σ : St) (H : Hp) (E : Value → Shared → Prop), Inv X pins σ H s → (∀ b ∈ fp, FpOk X pins H b) → tn i s.heap → J.go i H →
    wpAny (model P w) X.A (pyNext (.ref it)) (fun r s1 => ∃ u, r = some u ∧
      wpAny (model P w) X.A (letOwnedTupleGo tg (.ref it) u) (fun _ s2 => ∃ x H', Inv X pins σ H' s2 ∧ RelV x u ∧ J.yld i H x H' ∧ tn (i + 1) s2.heap ∧ ∀ b ∈ fp, H' b = none) E s1) E s
  done : ∀ (X : Cx), X.prog = P → X.w = w → X.K = K → X.calm = true → ∀ (i : Nat) (pins : List (Addr × Obj)) (s : Shared) (σ : St) (H : Hp) (E : Value → Shared → Prop), Inv X pins σ H s → (∀ b ∈ fp, FpOk X pins H b) → tn i s.heap → J.stop i H →
    wpAny (model P w) X.A (pyNext (.ref it)) (fun r s1 => r = none ∧ Inv X pins σ H s1) E s
  self : ∀ (A : Around) (i : Nat) (s : Shared) (Q : Value → Shared → Prop) (E : Value → Shared → Prop), tn i s.heap → Q (.ref it) s → wpAny (model P w) A (pyIter (.ref it)) Q E s
abbrev TI := St → Hp → (It → Hp → Prop) → Prop
def PIE (X : Cx) (pins : List (Addr × Obj)) (σ : St) (tg : Expr) (R : It → Hp → Prop) (itv : Value) (s2 : Shared) : Prop :=
  ∃ (it : Addr) (fp : List Addr) (tn : Nat → Heap → Prop) (J : It) (H' : Hp), itv = .ref it ∧ Inv X pins σ H' s2 ∧ Turn X.prog X.w X.K tg J fp it tn ∧ tn 0 s2.heap ∧ (∀ b ∈ fp, FpOk X pins H' b) ∧ R J H'
def PI (X : Cx) (tg iter : Expr) (wi : TI) : Prop :=
  ∀ (pins : List (Addr × Obj)) (s : Shared) (σ : St) (H : Hp) (R : It → Hp → Prop), Inv X pins σ H s → wi σ H R →
    wpAny (model X.prog X.w) X.A (eval iter X.env) (fun v s1 => wpAny (model X.prog X.w) X.A (pyIter v) (PIE X pins σ tg R) X.xe s1) X.xe s
theorem go_of {M : Model} {A : Around} {E : Value → Shared → Prop} {s : Shared} {tg : Expr} {it : Addr} {u : Value} {o : Obj} {n : String} {vs : Array Value} {Q : Unit → Shared → Prop} (ho : s.heap.get? it = some o) (hc : o.cls = .type n) (hd : o.data = .fields vs)
    (hn : ["enumerate", "zip", "dict_itemiterator", "dict_reverseitemiterator", "odict_iterator", "itertools.zip_longest", "itertools.pairwise"].contains n = false) (hQ : Q () s) : wpAny M A (letOwnedTupleGo tg (.ref it) u) Q E s := by
  unfold letOwnedTupleGo
  cases tg <;> first
    | exact wpAny_pure hQ
    | (cases u <;> first
        | exact wpAny_pure hQ
        | (refine wpAny_bind (wpAny_load ho ?_)
           rw [hc, hd]
           show wpAny M A (if (["enumerate", "zip", "dict_itemiterator", "dict_reverseitemiterator", "odict_iterator", "itertools.zip_longest", "itertools.pairwise"].contains n && vs[0]? == some (rawInt _)) = true then _ else _) Q E s
           rw [if_neg (by intro h; rw [hn, Bool.false_and] at h; cases h)]
           exact wpAny_pure hQ))
def Itl (K : PySem.W.Frag) (a : Addr) : It :=
  ⟨fun i H => ∃ xs x, SqL K H a xs ∧ xs[i]? = some x, fun i H x H' => H' = H ∧ ∀ xs, SqL K H a xs → xs[i]? = some x, fun i H => ∃ xs, SqL K H a xs ∧ xs.length ≤ i⟩
def Itt (K : PySem.W.Frag) (a : Addr) : It :=
  ⟨fun i H => ∃ xs x, SqT K H a xs ∧ xs[i]? = some x, fun i H x H' => H' = H ∧ ∀ xs, SqT K H a xs → xs[i]? = some x, fun i H => ∃ xs, SqT K H a xs ∧ xs.length ≤ i⟩
def Itr (lo : Int) (n : Nat) : It := ⟨fun i _ => i < n, fun i H x H' => H' = H ∧ x = .int (lo + i), fun i _ => n ≤ i⟩
theorem turn_list {P : Program} {w : World} {K : PySem.W.Frag} {tg : Expr} (a it : Addr) : Turn P w K tg (Itl K a) [it] it (fun i h => h.IsListIter it a i) where
  mem := by simp
  obj := fun i h st b hb => by
    have e : b = it := by simpa using hb
    subst e
    obtain ⟨o, e, c, d⟩ := st
    exact ⟨o, e, fun v z => by rw [d] at z; cases z⟩
  keep := fun i h h' st k => st.at fun o e => k it (by simp) o e
  item := by
    intro X hP hw hK hc i pins s σ H E I hf st hg
    subst hP hw hK
    obtain ⟨xs, x, hq, hx⟩ := hg
    obtain ⟨its, rv, p, hz⟩ := I.list hq
    obtain ⟨u, hu, ru⟩ := rv.get hx
    obtain ⟨f0, f1, f2, f3, f4, f5⟩ := hf it (by simp)
    refine wpAny_pyNext_list_item st p.isList (x := u) (by simpa using hu) fun h' st' sb => ?_
    have I1 : Inv X pins σ H { s with heap := h' } := I.turned (t' := s.toks) (fun b o hb e => (sb.2 b hb).trans e) f0 f1 f3 f4 f5
    obtain ⟨o, e, c, d⟩ := id st'
    exact ⟨u, rfl, go_of (s := { s with heap := h' }) e c d (by decide) ⟨x, H, I1, ru, ⟨rfl, fun ys hy => by rw [I.list_inj hy hq]; exact hx⟩, st', fun b hb => (hf b hb).1⟩⟩
  done := by
    intro X hP hw hK hc i pins s σ H E I hf st hg
    subst hP hw hK
    obtain ⟨xs, hq, hx⟩ := hg
    obtain ⟨its, rv, p, hz⟩ := I.list hq
    obtain ⟨f0, f1, f2, f3, f4, f5⟩ := hf it (by simp)
    have hl := rv.length
    exact wpAny_pyNext_list_end (I.ok.hd hc) st p.isList (by simp; omega) fun h' eb => ⟨rfl, I.turned (t' := s.toks) (fun b o hb e => eb b o hb e) f0 f1 f3 f4 f5⟩
  self := fun _ _ _ _ _ st h => wpAny_pyIter_listiter st h
theorem turn_tuple {P : Program} {w : World} {K : PySem.W.Frag} {tg : Expr} (a it : Addr) : Turn P w K tg (Itt K a) [it] it (fun i h => h.IsTupleIter it a i) where
  mem := by simp
  obj := fun i h st b hb => by
    have e : b = it := by simpa using hb
    subst e
    obtain ⟨o, e, c, d⟩ := st
    exact ⟨o, e, fun v z => by rw [d] at z; cases z⟩
  keep := fun i h h' st k => st.at fun o e => k it (by simp) o e
  item := by
    intro X hP hw hK hc i pins s σ H E I hf st hg
    subst hP hw hK
    obtain ⟨xs, x, hq, hx⟩ := hg
    obtain ⟨its, rv, p, hz⟩ := I.tuple hq
    obtain ⟨u, hu, ru⟩ := rv.get hx
    obtain ⟨f0, f1, f2, f3, f4, f5⟩ := hf it (by simp)
    refine wpAny_pyNext_tuple_item st (show s.heap.IsTuple a its.toArray from p) (x := u) (by simpa using hu) fun h' st' sb => ?_
    have I1 : Inv X pins σ H { s with heap := h' } := I.turned (t' := s.toks) (fun b o hb e => (sb.2 b hb).trans e) f0 f1 f3 f4 f5
    obtain ⟨o, e, c, d⟩ := id st'
    exact ⟨u, rfl, go_of (s := { s with heap := h' }) e c d (by decide) ⟨x, H, I1, ru, ⟨rfl, fun ys hy => by rw [I.tuple_inj hy hq]; exact hx⟩, st', fun b hb => (hf b hb).1⟩⟩
  done := by
    intro X hP hw hK hc i pins s σ H E I hf st hg
    subst hP hw hK
    obtain ⟨xs, hq, hx⟩ := hg
    obtain ⟨its, rv, p, hz⟩ := I.tuple hq
    obtain ⟨f0, f1, f2, f3, f4, f5⟩ := hf it (by simp)
    have hl := rv.length
    exact wpAny_pyNext_tuple_end (I.ok.hd hc) st (show s.heap.IsTuple a its.toArray from p) (by simp; omega) fun h' eb => ⟨rfl, I.turned (t' := s.toks) (fun b o hb e => eb b o hb e) f0 f1 f3 f4 f5⟩
  self := fun _ _ _ _ _ st h => wpAny_pyIter_tupleiter st h
theorem turn_range {P : Program} {w : World} {K : PySem.W.Frag} {tg : Expr} (it : Addr) (lo : Int) (n : Nat) : Turn P w K tg (Itr lo n) [it] it (fun i h => IsRangeIter h it (lo + (i : Nat) * 1) ((n : Int) - (i : Nat)) 1) where
  mem := by simp
  obj := fun i h st b hb => by
    have e : b = it := by simpa using hb
    subst e
    exact ⟨_, st, fun v z => by
      have z' : Data.fields _ = Data.cell v := z
      cases z'⟩
  keep := fun i h h' st k => k it (by simp) _ st
  item := by
    intro X hP hw hK hc i pins s σ H E I hf st hg
    subst hP hw hK
    obtain ⟨f0, f1, f2, f3, f4, f5⟩ := hf it (by simp)
    have W := Walks.range (prog := X.prog) (w := X.w) (I.ok.hd hc) it lo 1 n
    refine W.item i s _ _ hg st fun v h' tk hv st' kk => ?_
    obtain ⟨t, rfl⟩ := hv
    have I1 : Inv X pins σ H { s with heap := h', toks := tk } := I.turned (fun b o hb e => kk b o (by simpa using hb) e) f0 f1 f3 f4 f5
    refine ⟨_, rfl, go_of (s := { s with heap := h', toks := tk }) (n := "range_iterator") st' rfl rfl (by decide) ⟨.int (lo + i), H, I1, ⟨t, ?_⟩, ⟨rfl, rfl⟩, st', fun b hb => (hf b hb).1⟩⟩
    rw [Int.mul_one]
  done := by
    intro X hP hw hK hc i pins s σ H E I hf st hg
    subst hP hw hK
    obtain ⟨f0, f1, f2, f3, f4, f5⟩ := hf it (by simp)
    exact wpAny_pyNext_range_end (I.ok.hd hc) st (by have : n ≤ i := hg; omega) fun h' eb => ⟨rfl, I.turned (t' := s.toks) (fun b o hb e => eb b o hb e) f0 f1 f3 f4 f5⟩
  self := fun _ _ _ _ _ st h => wpAny_pyIter_rangeiter st h
end L2
namespace L2
open PySem PySem.Spec PyProof.Rows
section
variable {X : Cx} {tg : Expr}
theorem range_it {pins : List (Addr × Obj)} {σ : St} {H : Hp} {s : Shared} {R : It → Hp → Prop} {E : Value → Shared → Prop} {lo hi : Int} {t u v : Tok} {tk : Nat} (I : Inv X pins σ H s) (h1 : -(2 ^ 62) ≤ lo) (h2 : lo < 2 ^ 62) (h3 : -(2 ^ 62) ≤ hi) (h4 : hi < 2 ^ 62)
    (q : R (Itr lo (hi - lo).toNat) H) : wpAny (model X.prog X.w) X.A (pyIter (.ref s.heap.objs.size)) (PIE X pins σ tg R) E { s with heap := s.heap.push { cls := .type "range", data := .fields #[.int lo t, .int hi u, .int 1 v] }, toks := tk } := by
  refine wpAny_pyIter_range (IsRange.new ..) (small_one h1 h2 h3 h4) ?_
  have I1 : Inv X pins σ H { s with heap := s.heap.push { cls := .type "range", data := .fields #[.int lo t, .int hi u, .int 1 v] }, toks := tk } := I.kept fun b o e => Heap.get?_push_of_some _ e
  refine ⟨(s.heap.push { cls := .type "range", data := .fields #[.int lo t, .int hi u, .int 1 v] }).objs.size, [(s.heap.push { cls := .type "range", data := .fields #[.int lo t, .int hi u, .int 1 v] }).objs.size], _, _, H, rfl,
    I1.kept (t' := tk) fun b o e => Heap.get?_push_of_some _ e, turn_range _ lo (hi - lo).toNat, ?_, fun b hb => ?_, q⟩
  · have e1 : lo + ((0 : Nat) : Int) * 1 = lo := by simp
    have e2 : (((hi - lo).toNat : Nat) : Int) - ((0 : Nat) : Int) = Builtin.Range.rangeSize lo hi 1 := by rw [rangeSize_one]; split <;> omega
    show IsRangeIter _ _ (lo + ((0 : Nat) : Int) * 1) ((((hi - lo).toNat : Nat) : Int) - ((0 : Nat) : Int)) 1
    rw [e1, e2]
    exact Heap.get?_push_size _ rfl
  · have e : b = (s.heap.push { cls := .type "range", data := .fields #[.int lo t, .int hi u, .int 1 v] }).objs.size := by simpa using hb
    subst e
    exact I1.fpOk (Nat.le_refl _) (I1.hok.fresh (Nat.le_refl _))
def iRng1 (ta : TA) : TI := fun σ H R => ta σ H fun vs H1 => ∃ j : Int, vs = [.int j] ∧ -(2 ^ 62) ≤ j ∧ j < 2 ^ 62 ∧ R (Itr 0 j.toNat) H1
def iRng2 (ta : TA) : TI := fun σ H R => ta σ H fun vs H1 => ∃ i j : Int, vs = [.int i, .int j] ∧ (-(2 ^ 62) ≤ i ∧ i < 2 ^ 62 ∧ -(2 ^ 62) ≤ j ∧ j < 2 ^ 62) ∧ R (Itr i (j - i).toNat) H1
theorem pi_range1 {a : Expr} {ta : TA} {p pos : Pos} (hg : Gl X "range") (hm : X.mg "range" = none) (ha : PA X [a] ta) (hs : starEach [a] X.env = [(false, eval a X.env)] := by rfl) : PI X tg (.Call (.Name "range" p) [a] [] pos) (iRng1 ta) := by
  intro pins s σ H R I h
  refine Call_ (ld_blt I hg hm boot_range (PyProof.Rows.callWith_type1 (thn (ha pos pins s σ H _ I h) fun us s1 ⟨vs, H1, I1, r1, q1⟩ => ?_) hs rfl))
  obtain ⟨j, e, q1, q2, q⟩ := q1
  subst e
  cases r1 with
  | cons r rr =>
    cases rr
    obtain ⟨t, rfl⟩ := r
    exact call_range_1 (range_it I1 (by omega) (by omega) q1 q2 (by simpa using q))
theorem pi_range2 {a b : Expr} {ta : TA} {p pos : Pos} (hg : Gl X "range") (hm : X.mg "range" = none) (ha : PA X [a, b] ta) (hs : starEach [a, b] X.env = [(false, eval a X.env), (false, eval b X.env)] := by rfl) (hs2 : starEach [b] X.env = [(false, eval b X.env)] := by rfl) :
    PI X tg (.Call (.Name "range" p) [a, b] [] pos) (iRng2 ta) := by
  intro pins s σ H R I h
  refine Call_ (ld_blt I hg hm boot_range (PyProof.Rows.callWith_type1 (thn (ha pos pins s σ H _ I h) fun us s1 ⟨vs, H1, I1, r1, q1⟩ => ?_) (by rw [hs, hs2]) (by rw [hs2]; rfl)))
  obtain ⟨i, j, e, ⟨q1, q2, q3, q4⟩, q⟩ := q1
  subst e
  cases r1 with
  | cons r rr =>
    cases rr with
    | cons r' rr =>
      cases rr
      obtain ⟨t, rfl⟩ := r
      obtain ⟨t', rfl⟩ := r'
      exact call_range_2 (range_it I1 q1 q2 q3 q4 q)
def tFor (wi : TI) (g : TG) (tb : TS) : TS := fun D σ H => wi σ H fun J H1 => ∃ W : Nat → Nat → St → Hp → Prop, (∃ m, W 0 m σ H1) ∧ ∀ i m σ H, W i m σ H →
  (J.stop i H ∧ D.nx σ H) ∨ (J.go i H ∧ ∃ N : St → Hp → Prop, (∀ σ' H', N σ' H' → ∃ m', m' < m ∧ W (i + 1) m' σ' H') ∧ ∀ x H', J.yld i H x H' → g x σ H' fun σ2 H2 => tb { D with nx := N, ct := N, bk := D.nx } σ2 H2)
def pinsAt (fp : List Addr) (h : Heap) : List (Addr × Obj) := fp.filterMap fun b => (h.get? b).map fun o => (b, o)
theorem mem_pinsAt {fp : List Addr} {h : Heap} {b : Addr} {o : Obj} (hb : b ∈ fp) (e : h.get? b = some o) : (b, o) ∈ pinsAt fp h := List.mem_filterMap.mpr ⟨b, hb, by rw [e]; rfl⟩
theorem of_pinsAt {fp : List Addr} {h : Heap} {p : Addr × Obj} (hp : p ∈ pinsAt fp h) : p.1 ∈ fp ∧ h.get? p.1 = some p.2 := by
  obtain ⟨b, hb, e⟩ := List.mem_filterMap.mp hp
  cases q : h.get? b with
  | none => rw [q] at e; cases e
  | some o =>
    rw [q] at e
    have e' : (b, o) = p := Option.some.inj e
    subst e'
    exact ⟨hb, q⟩
theorem Inv.pinned {pins : List (Addr × Obj)} {σ : St} {H : Hp} {s : Shared} {fp : List Addr} (I : Inv X pins σ H s) (hf : ∀ b ∈ fp, FpOk X pins H b) (ho : ∀ b ∈ fp, ∃ o, s.heap.get? b = some o ∧ ∀ v, o.data ≠ .cell v) : Inv X (pins ++ pinsAt fp s.heap) σ H s :=
  I.pins_of fun p hp => (List.mem_append.mp hp).elim (fun z => I.pin p (List.mem_append_right _ z)) fun z => by
    obtain ⟨hb, e⟩ := of_pinsAt z
    obtain ⟨f0, f1, f2, _⟩ := hf p.1 hb
    obtain ⟨o, e', d⟩ := ho p.1 hb
    rw [e] at e'; cases e'
    exact ⟨e, f0, f1, f2, d⟩
theorem Inv.unpinned {pins pl : List (Addr × Obj)} {σ : St} {H : Hp} {s : Shared} (I : Inv X (pins ++ pl) σ H s) : Inv X pins σ H s := I.pins_of fun p hp => I.pin p (List.mem_append_right _ (List.mem_append_left _ hp))
theorem ps_for {iter : Expr} {body : List Stmt} {wi : TI} {g : TG} {tb : TS} {pos : Pos} (hp : PassesOwn (model X.prog X.w) X.A X.env X.xe) (hc : X.calm = true) (hi : PI X tg iter wi) (hg : PG X tg g) (hb : PSs X body tb)
    (hs : ∀ x, foldedSetIterable iter X.env x = pure x := by intro _; rfl) : PS X (.For tg iter body [] pos) (tFor wi g tb) := by
  intro pins s σ H D I h
  refine wpAny_For (thn (hi pins s σ H _ I h) fun v s1 h1 => thn h1 fun itv s2 h2 => ?_) hs
  obtain ⟨it, fp, tn, J, H2, e, I2, T, st2, f2, W, ⟨m0, w0⟩, turn⟩ := h2
  subst e
  have stat : ∀ {H' : Hp}, (∀ b ∈ fp, H' b = none) → ∀ b ∈ fp, FpOk X pins H' b := fun hn b hb => ⟨hn b hb, (f2 b hb).2⟩
  refine codeAny_forLoop_any (fun n s' => ∃ i σ' H', Inv X pins σ' H' s' ∧ tn i s'.heap ∧ (∀ b ∈ fp, H' b = none) ∧ W i n σ' H') ?_ m0 ⟨0, σ, H2, I2, st2, fun b hb => (f2 b hb).1, w0⟩
  rintro n s3 ⟨i, σ3, H3, I3, st3, fr3, w3⟩
  rcases turn i n σ3 H3 w3 with ⟨stop, qn⟩ | ⟨go, N, hN, step⟩
  · refine wpAny_passesOwn hp (thn (T.done X rfl rfl rfl hc i pins s3 σ3 H3 X.xe I3 (stat fr3) st3 stop) fun r s4 ⟨hr, I4⟩ => ?_)
    subst hr
    exact wpAny_execs_nil ⟨σ3, H3, I4, qn⟩
  · refine wpAny_passesOwn hp (thn (T.item X rfl rfl rfl hc i pins s3 σ3 H3 X.xe I3 (stat fr3) st3 go) fun r s4 ⟨u, hr, h4⟩ => ?_)
    subst hr
    refine wpAny_passesOwn hp (thn h4 fun _ s5 ⟨x, H5, I5, r5, y5, st5, fr5⟩ => ?_)
    have I5' := I5.pinned (stat fr5) (T.obj _ _ st5)
    refine wpAny_passesOwn hp (thn (hg _ s5 σ3 H5 x u _ I5' r5 (step x H5 y5)) fun _ s6 ⟨σ6, H6, I6, q6⟩ => ?_)
    refine wpAny_passesOwn hp (thn (hb _ s6 σ6 H6 _ I6 q6) fun f s7 q7 => ?_)
    have again : ∀ {σ7 : St} {H7 : Hp}, Inv X (pins ++ pinsAt fp s5.heap) σ7 H7 s7 → N σ7 H7 → ∃ m, m < n ∧ ∃ i σ' H', Inv X pins σ' H' s7 ∧ tn i s7.heap ∧ (∀ b ∈ fp, H' b = none) ∧ W i m σ' H' := fun {σ7 H7} I7 n7 => by
      obtain ⟨m', hm, w7⟩ := hN σ7 H7 n7
      refine ⟨m', hm, i + 1, σ7, H7, I7.unpinned, T.keep _ _ _ st5 fun b hb o e => (I7.pin (b, o) (List.mem_append_right _ (List.mem_append_right _ (mem_pinsAt hb e)))).1, fun b hb => ?_, w7⟩
      obtain ⟨o, e, d⟩ := T.obj _ _ st5 b hb
      exact (I7.pin (b, o) (List.mem_append_right _ (List.mem_append_right _ (mem_pinsAt hb e)))).2.1
    cases f with
    | next => obtain ⟨σ7, H7, I7, n7⟩ := q7; exact again I7 n7
    | cont => obtain ⟨σ7, H7, I7, n7⟩ := q7; exact again I7 n7
    | brk => obtain ⟨σ7, H7, I7, q7⟩ := q7; exact ⟨σ7, H7, I7.unpinned, q7⟩
    | ret v => obtain ⟨x7, σ7, H7, I7, r7, q7⟩ := q7; exact ⟨x7, σ7, H7, I7.unpinned, r7, q7⟩
end
end L2
namespace L2
open PySem PySem.Spec PyProof.Rows
abbrev R2 := V → V → Hp → VK → Prop
def OpR (X : Cx) (f : Value → Value → Sem Value) (r : R2) : Prop :=
  ∀ (pins : List (Addr × Obj)) (s : Shared) (σ : St) (H : Hp) (x y : V) (v u : Value) (Q : VK), Inv X pins σ H s → RelV x v → RelV y u → r x y H Q →
    wpAny (model X.prog X.w) X.A (f v u) (EP X pins σ Q) X.xe s
def UnR (X : Cx) (f : Value → Sem Value) (r : V → Hp → VK → Prop) : Prop :=
  ∀ (pins : List (Addr × Obj)) (s : Shared) (σ : St) (H : Hp) (x : V) (v : Value) (Q : VK), Inv X pins σ H s → RelV x v → r x H Q →
    wpAny (model X.prog X.w) X.A (f v) (EP X pins σ Q) X.xe s
def CallR (X : Cx) (f : Value) (r : List V → Hp → VK → Prop) : Prop :=
  ∀ (pins : List (Addr × Obj)) (s : Shared) (σ : St) (H : Hp) (xs : List V) (us : List Value) (Q : VK), Inv X pins σ H s → Vals xs us → r xs H Q →
    wpAny (model X.prog X.w) X.A (call f us) (EP X pins σ Q) X.xe s
def TruR (X : Cx) (r : V → Hp → (Bool → Hp → Prop) → Prop) : Prop :=
  ∀ (pins : List (Addr × Obj)) (s : Shared) (σ : St) (H : Hp) (x : V) (v : Value) (Q : Bool → Hp → Prop), Inv X pins σ H s → RelV x v → r x H Q →
    wpAny (model X.prog X.w) X.A (truthy v) (TP X pins σ Q) X.xe s
def tOp (r : R2) (ta tb : TE) : TE := fun σ H Q => ta σ H fun x H1 => tb σ H1 fun y H2 => r x y H2 Q
def tUn (r : V → Hp → VK → Prop) (ta : TE) : TE := fun σ H Q => ta σ H fun x H1 => r x H1 Q
def rI (C : Int → Int → Prop) (g : Int → Int → V) : R2 := fun x y H Q => ∃ i j, x = .int i ∧ y = .int j ∧ C i j ∧ Q (g i j) H
def rI0 (g : Int → Int → V) : R2 := fun x y H Q => ∃ i j, x = .int i ∧ y = .int j ∧ Q (g i j) H
def rU (g : Int → V) : V → Hp → VK → Prop := fun x H Q => ∃ i, x = .int i ∧ Q (g i) H
section
variable {X : Cx} {a b c : Expr} {ta tb tc : TE} {pos : Pos}
theorem binT (ha : PE X a ta) (hb : PE X b tb) {pins : List (Addr × Obj)} {s : Shared} {σ : St} {H : Hp} {R : V → V → Hp → Prop} (I : Inv X pins σ H s)
    (h : ta σ H fun x H1 => tb σ H1 fun y H2 => R x y H2) {Q : Value → Shared → Prop} {f : Value → Value → Sem Value}
    (hf : ∀ v u s2 x y H2, Inv X pins σ H2 s2 → RelV x v → RelV y u → R x y H2 → wpAny (model X.prog X.w) X.A (f v u) Q X.xe s2) :
    wpAny (model X.prog X.w) X.A (eval a X.env) (fun v s₁ => wpAny (model X.prog X.w) X.A (eval b X.env) (fun u s₂ => wpAny (model X.prog X.w) X.A (f v u) Q X.xe s₂) X.xe s₁) X.xe s := by
  refine thn (ha pins s σ H _ I h) fun v s1 ⟨x, H1, I1, r1, q1⟩ => ?_
  refine thn (hb pins s1 σ H1 _ I1 q1) fun u s2 ⟨y, H2, I2, r2, q2⟩ => ?_
  exact hf v u s2 x y H2 I2 r1 r2 q2
theorem pe_op {op : Operator} {r : R2} (ho : OpR X (binaryOp op) r) (ha : PE X a ta) (hb : PE X b tb) : PE X (.BinOp a op b pos) (tOp r ta tb) := by
  intro pins s σ H Q I h
  exact wpAny_BinOp (binT ha hb I h fun v u s2 x y H2 I2 rx ry q => ho pins s2 σ H2 x y v u Q I2 rx ry q)
theorem pe_un {op : UnaryOp} {r : V → Hp → VK → Prop} (ho : UnR X (unaryOp op) r) (ha : PE X a ta) : PE X (.UnaryOp op a pos) (tUn r ta) := by
  intro pins s σ H Q I h
  exact UnaryOp_ (thn (ha pins s σ H _ I h) fun v s1 ⟨x, H1, I1, r1, q1⟩ => ho pins s1 σ H1 x v Q I1 r1 q1)
theorem opI {f : Value → Value → Sem Value} {C : Int → Int → Prop} {g : Int → Int → Int}
    (rule : ∀ (i j : Int) (t u : Tok) (s : Shared) (Q : Value → Shared → Prop) (E : Value → Shared → Prop), C i j → Q (.int (g i j) s.toks) { s with toks := s.toks + 1 } → wpAny (model X.prog X.w) X.A (f (.int i t) (.int j u)) Q E s) :
    OpR X f (rI C fun i j => .int (g i j)) := by
  intro pins s σ H x y v u Q I rx ry h
  obtain ⟨i, j, rfl, rfl, hc, q⟩ := h
  obtain ⟨t, rfl⟩ := rx
  obtain ⟨t', rfl⟩ := ry
  exact rule i j t t' s _ _ hc ⟨.int (g i j), H, I.tok _, ⟨_, rfl⟩, q⟩
theorem opI0 {f : Value → Value → Sem Value} {g : Int → Int → Int}
    (rule : ∀ (i j : Int) (t u : Tok) (s : Shared) (Q : Value → Shared → Prop) (E : Value → Shared → Prop), Q (.int (g i j) s.toks) { s with toks := s.toks + 1 } → wpAny (model X.prog X.w) X.A (f (.int i t) (.int j u)) Q E s) :
    OpR X f (rI0 fun i j => .int (g i j)) := by
  intro pins s σ H x y v u Q I rx ry h
  obtain ⟨i, j, rfl, rfl, q⟩ := h
  obtain ⟨t, rfl⟩ := rx
  obtain ⟨t', rfl⟩ := ry
  exact rule i j t t' s _ _ ⟨.int (g i j), H, I.tok _, ⟨_, rfl⟩, q⟩
theorem opB0 {f : Value → Value → Sem Value} {g : Int → Int → Bool}
    (rule : ∀ (i j : Int) (t u : Tok) (s : Shared) (Q : Value → Shared → Prop) (E : Value → Shared → Prop), Q (.bool (g i j)) s → wpAny (model X.prog X.w) X.A (f (.int i t) (.int j u)) Q E s) :
    OpR X f (rI0 fun i j => .bl (g i j)) := by
  intro pins s σ H x y v u Q I rx ry h
  obtain ⟨i, j, rfl, rfl, q⟩ := h
  obtain ⟨t, rfl⟩ := rx
  obtain ⟨t', rfl⟩ := ry
  exact rule i j t t' s _ _ ⟨.bl (g i j), H, I, rfl, q⟩
def CDiv (i j : Int) : Prop := 0 < j ∧ j < 1073741824
def CMul (i j : Int) : Prop := (-(2 ^ 64) < i ∧ i < 2 ^ 64) ∨ (-(2 ^ 64) < j ∧ j < 2 ^ 64)
theorem CMul.ok {i j : Int} (h : CMul i j) : IntMulOk i j := by
  rcases h with ⟨h1, h2⟩ | ⟨h1, h2⟩
  · exact .of_left (intBits_le_64 h1 h2)
  · exact .of_right (intBits_le_64 h1 h2)
theorem op_add : OpR X (binaryOp .Add) (rI0 fun i j => .int (i + j)) := opI0 fun _ _ _ _ _ _ _ q => add_int q
theorem op_sub : OpR X (binaryOp .Sub) (rI0 fun i j => .int (i - j)) := opI0 fun _ _ _ _ _ _ _ q => sub_int q
theorem op_mul : OpR X (binaryOp .Mult) (rI CMul fun i j => .int (i * j)) := opI fun _ _ _ _ _ _ _ hc q => mul_int q hc.ok
theorem op_fdiv : OpR X (binaryOp .FloorDiv) (rI CDiv fun i j => .int (i / j)) := opI fun i j _ _ _ _ _ hc q => by
  have h1 : (0 : Int) < j := hc.1
  have h2 : j < 1073741824 := hc.2
  exact floordiv_int (by omega) (by rw [Int.fdiv_eq_ediv_of_nonneg i (by omega)]; exact q) (.inl (PyProof.noPylong_small (by omega)))
theorem op_mod : OpR X (binaryOp .Mod) (rI (fun _ j => 0 < j) fun i j => .int (i % j)) := opI fun i j _ _ _ _ _ hc q => by
  have h1 : (0 : Int) < j := hc
  exact mod_int' (by omega) (by rw [Int.fmod_eq_emod_of_nonneg i (by omega)]; exact q)
theorem unI {f : Value → Sem Value} {g : Int → Int}
    (rule : ∀ (i : Int) (t : Tok) (s : Shared) (Q : Value → Shared → Prop) (E : Value → Shared → Prop), Q (.int (g i) s.toks) { s with toks := s.toks + 1 } → wpAny (model X.prog X.w) X.A (f (.int i t)) Q E s) :
    UnR X f (rU fun i => .int (g i)) := by
  intro pins s σ H x v Q I rx h
  obtain ⟨i, rfl, q⟩ := h
  obtain ⟨t, rfl⟩ := rx
  exact rule i t s _ _ ⟨.int (g i), H, I.tok _, ⟨_, rfl⟩, q⟩
theorem un_neg : UnR X (unaryOp .USub) (rU fun i => .int (-i)) := unI fun _ _ _ _ _ q => neg_int q
end
section
variable {X : Cx} {a b c : Expr} {ta tb tc : TE} {pos : Pos}
theorem op_lt : OpR X (compareOp .Lt) (rI0 fun i j => .bl (decide (i < j))) := opB0 fun _ _ _ _ _ _ _ q => lt_int q
theorem op_le : OpR X (compareOp .LtE) (rI0 fun i j => .bl (decide (i ≤ j))) := opB0 fun _ _ _ _ _ _ _ q => le_int q
theorem op_gt : OpR X (compareOp .Gt) (rI0 fun i j => .bl (decide (j < i))) := opB0 fun _ _ _ _ _ _ _ q => gt_int q
theorem nomark (b : Expr) {op : CmpOp} (h : op ≠ .In := by decide) (h2 : op ≠ .NotIn := by decide) : behindInMarks op b = false := by
  have e1 : (op == CmpOp.In) = false := by cases op <;> first | rfl | exact absurd rfl h
  have e2 : (op == CmpOp.NotIn) = false := by cases op <;> first | rfl | exact absurd rfl h2
  cases b <;> simp [behindInMarks, e1, e2]
theorem pe_cmpR {op : CmpOp} {r : R2} (ho : OpR X (compareOp op) r) (ha : PE X a ta) (hb : PE X b tb) (hm : behindInMarks op b = false) : PE X (.Compare a [op] [b] pos) (tOp r ta tb) := by
  intro pins s σ H Q I h
  exact wpAny_Compare1 (binT ha hb I h fun v u s2 x y H2 I2 rx ry q => ho pins s2 σ H2 x y v u Q I2 rx ry q) hm
def tTest (t : TE) : TT := fun σ H Q => t σ H fun x H' => ∃ k, x = .bl k ∧ Q k H'
theorem pt_cmpR {op : CmpOp} {r : R2} (ho : OpR X (compareOp op) r) (ha : PE X a ta) (hb : PE X b tb) (hm : behindInMarks op b = false) : PT X (.Compare a [op] [b] pos) (tTest (tOp r ta tb)) := by
  intro pins s σ H Q I h
  refine wpAny_isTrue_Compare1 (thn (ha pins s σ H _ I h) fun v s1 ⟨x, H1, I1, r1, q1⟩ => thn (hb pins s1 σ H1 _ I1 q1) fun u s2 ⟨y, H2, I2, r2, q2⟩ =>
    thn (ho pins s2 σ H2 x y v u _ I2 r1 r2 q2) fun c s3 ⟨z, H3, I3, r3, k, e, q3⟩ => ?_) hm
  subst e
  cases r3
  exact wpAny_truthy_bool ⟨H3, I3, q3⟩
def tChain (r r' : R2) (ta tb tc : TE) : TE := fun σ H Q => ta σ H fun x H1 => tb σ H1 fun y H2 => r x y H2 fun z H3 => ∃ k, z = .bl k ∧
  (if k = true then tc σ H3 fun w' H4 => r' y w' H4 Q else Q (.bl false) H3)
theorem pe_chain {op op' : CmpOp} {r r' : R2} (ho : OpR X (compareOp op) r) (ho' : OpR X (compareOp op') r') (ha : PE X a ta) (hb : PE X b tb) (hc : PE X c tc)
    (hm : lastMarks [op, op'] [b, c] = false := by with_unfolding_all rfl) : PE X (.Compare a [op, op'] [b, c] pos) (tChain r r' ta tb tc) := by
  intro pins s σ H Q I h
  refine Compare_chain (thn (ha pins s σ H _ I h) fun v s1 ⟨x, H1, I1, r1, q1⟩ => chain_link (thn (hb pins s1 σ H1 _ I1 q1) fun u s2 ⟨y, H2, I2, r2, q2⟩ =>
    thn (ho pins s2 σ H2 x y v u _ I2 r1 r2 q2) fun d s3 ⟨z, H3, I3, r3, k, e, q3⟩ => ?_)) hm
  subst e
  cases r3
  refine wpAny_truthy_bool ?_
  cases k with
  | false => exact ite_ff ⟨.bl false, H3, I3, rfl, q3⟩
  | true => exact ite_tt (chain_last (thn (hc pins s3 σ H3 _ I3 q3) fun w' s4 ⟨z', H4, I4, r4, q4⟩ => ho' pins s4 σ H4 y z' u w' Q I4 r2 r4 q4))
theorem pt_chain {op op' : CmpOp} {r r' : R2} (ho : OpR X (compareOp op) r) (ho' : OpR X (compareOp op') r') (ha : PE X a ta) (hb : PE X b tb) (hc : PE X c tc)
    (hm : lastMarks [op, op'] [b, c] = false := by with_unfolding_all rfl) : PT X (.Compare a [op, op'] [b, c] pos) (tTest (tChain r r' ta tb tc)) := by
  intro pins s σ H Q I h
  refine isTrue_chain (thn (ha pins s σ H _ I h) fun v s1 ⟨x, H1, I1, r1, q1⟩ => test_link (thn (hb pins s1 σ H1 _ I1 q1) fun u s2 ⟨y, H2, I2, r2, q2⟩ =>
    thn (ho pins s2 σ H2 x y v u _ I2 r1 r2 q2) fun d s3 ⟨z, H3, I3, r3, k, e, q3⟩ => ?_)) hm
  subst e
  cases r3
  refine wpAny_truthy_bool ?_
  cases k with
  | false =>
    obtain ⟨k', e', q'⟩ := q3
    cases e'
    exact ite_ff ⟨H3, I3, q'⟩
  | true =>
    refine ite_tt (test_last (thn (hc pins s3 σ H3 _ I3 q3) fun w' s4 ⟨z', H4, I4, r4, q4⟩ => thn (ho' pins s4 σ H4 y z' u w' _ I4 r2 r4 q4) fun d' s5 ⟨z2, H5, I5, r5, k2, e2, q5⟩ => ?_))
    subst e2
    cases r5
    exact wpAny_truthy_bool ⟨H5, I5, q5⟩
def TruV (K : PySem.W.Frag) (x : V) (H : Hp) (k : Bool) : Prop :=
  match x with
  | .non => k = false
  | .bl b => k = b
  | .int i => k = (i != 0)
  | .str y => y.length ≤ sizeLine ∧ k = ((y.length : Int) != 0)
  | .byt y => y.size ≤ sizeLine ∧ k = ((y.size : Int) != 0)
  | .ref p => (∃ xs, SqL K H p xs ∧ k = !xs.isEmpty) ∨ (∃ xs, SqT K H p xs ∧ k = !xs.isEmpty) ∨ ∃ kvs, H p = some (.dK kvs) ∧ k = !kvs.isEmpty
  | _ => False
theorem isEmpty_kv {κ : Type} {kvs : List (κ × V)} {vs : List (κ × Value)} (r : KV kvs vs) : (!vs.isEmpty) = !kvs.isEmpty := by
  cases r <;> rfl
theorem isEmpty_of {xs : List V} {its : List Value} (r : Vals xs its) : (!its.toArray.isEmpty) = !xs.isEmpty := by
  cases r <;> simp
theorem line63 : (sizeLine : Nat) < 2 ^ 63 := by rw [sizeLine_eq]; decide
theorem tru_ok : TruR X (fun x H Q => ∃ k, TruV X.K x H k ∧ Q k H) := by
  intro pins s σ H x v Q I rx h
  obtain ⟨k, e, q⟩ := h
  have hl := line63
  have hs : sizeLine = 16777216 := sizeLine_eq
  cases x with
  | non =>
    cases rx
    have e' : k = false := e
    subst e'
    exact truthy_none ⟨H, I, q⟩
  | bl b =>
    cases rx
    have e' : k = b := e
    subst e'
    exact wpAny_truthy_bool ⟨H, I, q⟩
  | int i =>
    obtain ⟨t, rfl⟩ := rx
    have e' : k = (i != 0) := e
    subst e'
    exact PySem.P.truthy_int ⟨H, I, q⟩
  | str y =>
    obtain ⟨t, rfl⟩ := rx
    obtain ⟨hy, e'⟩ : y.length ≤ sizeLine ∧ k = ((y.length : Int) != 0) := e
    subst e'
    exact PySem.P.truthy_str (by omega) ⟨H, I.tok _, q⟩
  | byt y =>
    obtain ⟨t, rfl⟩ := rx
    obtain ⟨hy, e'⟩ : y.size ≤ sizeLine ∧ k = ((y.size : Int) != 0) := e
    subst e'
    exact PySem.W.truthy_bytes (by omega) ⟨H, I.tok _, q⟩
  | ref p =>
    cases rx
    have e' : (∃ xs, SqL X.K H p xs ∧ k = !xs.isEmpty) ∨ (∃ xs, SqT X.K H p xs ∧ k = !xs.isEmpty) ∨ ∃ kvs, H p = some (.dK kvs) ∧ k = !kvs.isEmpty := e
    rcases e' with ⟨xs, hx, e'⟩ | ⟨xs, hx, e'⟩ | ⟨kvs, hx, e'⟩
    · subst e'
      obtain ⟨its, r, pl, hz⟩ := I.list hx
      have hlen := r.length
      exact wpAny_truthy_list pl.isList (by simp only [List.size_toArray]; omega) ⟨H, I.tok _, by rw [isEmpty_of r]; exact q⟩
    · subst e'
      obtain ⟨its, r, pl, hz⟩ := I.tuple hx
      have hlen := r.length
      exact truthy_tuple pl (by simp only [List.size_toArray]; omega) ⟨H, I.tok _, by rw [isEmpty_of r]; exact q⟩
    · subst e'
      obtain ⟨hz, hS, vs, r, m⟩ : kvs.length ≤ sizeLine ∧ (p == sysModules) = false ∧ ∃ vs, KV kvs vs ∧ s.heap.DictOf (mixKind X.prog X.w) p vs := I.hok p _ hx
      have hlen : kvs.length = vs.length := Paired.length r
      exact wpAny_truthy_dict hS m (by omega) ⟨H, I.tok _, by rw [isEmpty_kv r]; exact q⟩
  | _ => exact (show False from e).elim
theorem pt_truth (ha : PE X a ta) (he : ∀ whole, isTrue a X.env whole = (do let v ← whole; standAt a.pos; holding [v] (truthy v))) :
    PT X a (fun σ H Q => ta σ H fun x H' => ∃ k, TruV X.K x H' k ∧ Q k H') := by
  intro pins s σ H Q I h
  exact isTrue_plain (thn (ha pins s σ H _ I h) fun v s1 ⟨x, H1, I1, r1, q1⟩ => tru_ok pins s1 σ H1 x v Q I1 r1 q1) (he _)
theorem op_add_str : OpR X (binaryOp .Add) (fun x y H Q => ∃ i j, x = .str i ∧ y = .str j ∧ i.length + j.length ≤ sizeLine ∧ Q (.str (i ++ j)) H) := by
  intro pins s σ H x y v u Q I rx ry h
  obtain ⟨i, j, rfl, rfl, hz, q⟩ := h
  obtain ⟨t, rfl⟩ := rx
  obtain ⟨t', rfl⟩ := ry
  exact add_str (fun t' tk => ⟨.str (i ++ j), H, I.tok _, ⟨_, rfl⟩, q⟩) hz
theorem vals1 {x : V} {us : List Value} (r : Vals [x] us) : ∃ u, us = [u] ∧ RelV x u := by
  cases r with
  | cons r1 r2 => cases r2; exact ⟨_, rfl, r1⟩
theorem vals2 {x y : V} {us : List Value} (r : Vals [x, y] us) : ∃ u w', us = [u, w'] ∧ RelV x u ∧ RelV y w' := by
  cases r with
  | cons r1 r2 =>
    cases r2 with
    | cons r3 r4 => cases r4; exact ⟨_, _, rfl, r1, r3⟩
end
end L2
namespace L2
open PySem PySem.Spec PyProof.Rows
structure ObjM (h : Heap) (x dx C : Addr) (mA : Str → Option Value) : Prop where
  obj : h.get? x = some (PySem.W.instObj C dx)
  ns : h.Ns1 dx mA
  ne : dx ≠ x
theorem lookIn_ns {h : Heap} {dx : Addr} {mA : Str → Option Value} (n : h.Ns1 dx mA) : ∃ od, h.get? dx = some od ∧ ∀ name, PySem.W.lookIn name od = some (mA name) := by
  obtain ⟨o, es, ep, ho, hd, hk, _, hm⟩ := n
  refine ⟨o, ho, fun name => ?_⟩
  have e := hm name
  unfold nsFind findBy at e
  rw [← Array.find?_toList] at e
  unfold PySem.W.lookIn
  rw [hd]
  dsimp only
  split
  · rename_i y q
    rw [q] at e
    exact congrArg some e
  · rename_i q
    rw [q] at e
    have a : es.toList.any (·.refKey) = false := by
      rw [List.any_eq_false]
      intro y hy
      obtain ⟨z, t, hkey⟩ := hk y (Array.mem_toList_iff.mp hy)
      simp [DictEntry.refKey, hkey]
    have a' : ¬ es.toList.any (·.refKey) = true := by rw [a]; exact Bool.false_ne_true
    rw [if_neg a']
    exact congrArg some e
theorem ObjM.look {h : Heap} {x dx C : Addr} {mA : Str → Option Value} (I : ObjM h x dx C mA) : ∃ od, PySem.W.InstAt h x (PySem.W.instObj C dx) C (some od) ∧ ∀ name, PySem.W.lookIn name od = some (mA name) :=
  let ⟨od, ho, hl⟩ := lookIn_ns I.ns
  ⟨od, ⟨I.obj, rfl, rfl, ho⟩, hl⟩
section
variable {prog : Program} {w : World} {A : Around} {E : Value → Shared → Prop} {s : Shared} {K : PySem.W.Frag} {x dx C f : Addr} {mA : Str → Option Value} {name : Str} {v : Value}
end
section
variable {P : Program} {w : World} {H H' : Hp} {h h' : Heap} {a C dx : Addr} {fs fs' : List (Str × V)}
theorem ins_get (hok : HOk P w H h) (e : H a = some (.ins C dx fs)) : ∃ mA, ObjM h a dx C mA ∧ (∀ f, RelO (fs.lookup f) (mA f)) ∧ PySem.Within mA (fs.map (·.1)) ∧ fs.length ≤ 1000 ∧ H dx = some (.own a) := by
  obtain ⟨d, z, ne, ob, mA, n, r, q⟩ := (show ObjOk P w H h a (.ins C dx fs) from hok a _ e)
  exact ⟨mA, ⟨ob, n, ne⟩, r, q, z, d⟩
end
structure Cls (K : PySem.W.Frag) (C : Addr) : Prop where
  pg : PySem.W.plainGet K C Str.empty = true
  hd : PySem.W.hasDictIn K C = true
  po : PySem.W.plainOver K C = true
  sa : PySem.W.findIn K (.ref C) "__setattr__" = some (some (.builtin "object.__setattr__"))
theorem Cls.get {K : PySem.W.Frag} {C : Addr} (c : Cls K C) (f : Str) : PySem.W.plainGet K C f = true := c.pg
section
variable {X : Cx} {pins : List (Addr × Obj)} {σ : St} {H : Hp} {s : Shared} {a C dx : Addr} {fs : List (Str × V)} {f : Str} {v : V} {A : Around} {E : Value → Shared → Prop}
end
section
variable {X : Cx} {o e value : Expr} {f : Str} {pos pos' tpos : Pos} {ta tv : TE}
end
section
variable {X : Cx} {pins : List (Addr × Obj)} {σ : St} {H : Hp} {s : Shared} {A : Around} {E : Value → Shared → Prop} {Q : Value → Shared → Prop} {c : Value} {b : Bool}
inductive TyOf (K : PySem.W.Frag) (H : Hp) : V → Value → Prop where
  | non : TyOf K H .non (.type "NoneType")
  | bl (x : Bool) : TyOf K H (.bl x) (.type "bool")
  | int (i : Int) : TyOf K H (.int i) (.type "int")
  | str (x : Str) : TyOf K H (.str x) (.type "str")
  | flt (x : UInt64) : TyOf K H (.flt x) (.type "float")
  | lst {a : Addr} {xs : List V} (e : H a = some (.lst xs)) : TyOf K H (.ref a) (.type "list")
  | frz {a : Addr} {o : Obj} {xs : List V} (e : H a = some (.frz o (.lst xs))) : TyOf K H (.ref a) (.type "list")
  | tup {a : Addr} {xs : List V} (e : H a = some (.tup xs)) : TyOf K H (.ref a) (.type "tuple")
  | dK {a : Addr} {kvs : List (Key × V)} (e : H a = some (.dK kvs)) : TyOf K H (.ref a) (.type "dict")
  | dT {a : Addr} {kvs : List (List Key × V)} (e : H a = some (.dT kvs)) : TyOf K H (.ref a) (.type "dict")
  | ins {a C dx : Addr} {fs : List (Str × V)} (e : H a = some (.ins C dx fs)) (cl : Cls K C) (ha : PySem.W.findIn K (.ref C) "__class__" = some (some (.builtin "object.__class__")))
      (hn : PySem.W.specialIn K (.builtin "object.__class__") "__get__" = some (some (.builtin "getset_descriptor.__get__"))) (htk : PySem.W.takesIn K (.builtin "object.__class__") = some true)
      (hm : PySem.W.mroIn K C (.type "object") = some true) : TyOf K H (.ref a) (.ref C)
theorem isinst_ok {x : V} {u t : Value} (I : Inv X pins σ H s) (rx : RelV x u) (ty : TyOf X.K H x t) (e : PySem.W.kitOne X.K t c = some b) (h : ∀ tk, Q (.bool b) { s with toks := tk }) :
    wpAny (model X.prog X.w) A (call (.builtin "isinstance") [u, c]) Q E s := by
  cases ty with
  | non => cases (show u = Value.none from rx); exact PySem.W.kia_one PySem.W.kitx_none I.kIn True.intro e (fun z => nomatch z) h
  | bl y => cases (show u = Value.bool y from rx); exact PySem.W.kia_one PySem.W.kitx_bool I.kIn True.intro e (fun z => nomatch z) h
  | int i => obtain ⟨t, q⟩ := (show ∃ t, u = Value.int i t from rx); cases q; exact PySem.W.kia_one PySem.W.kitx_int I.kIn True.intro e (fun z => nomatch z) h
  | str y => obtain ⟨t, q⟩ := (show ∃ t, u = Value.str y t from rx); cases q; exact PySem.W.kia_one PySem.W.kitx_str I.kIn True.intro e (fun z => nomatch z) h
  | flt y => obtain ⟨t, q⟩ := (show ∃ t, u = Value.float y t from rx); cases q; exact PySem.W.kia_one PySem.W.kitx_float I.kIn True.intro e (fun z => nomatch z) h
  | @lst a xs ea =>
    cases (show u = Value.ref a from rx)
    obtain ⟨_, _, n, _, h1⟩ := (show ObjOk X.prog X.w H s.heap a (.lst xs) from I.hok a _ ea)
    exact PySem.W.kia_one PySem.W.kitx_list I.kIn ⟨_, h1, rfl⟩ e (fun z => nomatch z) h
  | @frz a ob xs ea =>
    cases (show u = Value.ref a from rx)
    obtain ⟨_, _, _, n, _, h1⟩ := (show ObjOk X.prog X.w H s.heap a (.frz ob (.lst xs)) from I.hok a _ ea)
    exact PySem.W.kia_one PySem.W.kitx_list I.kIn ⟨_, h1, rfl⟩ e (fun z => nomatch z) h
  | @tup a xs ea =>
    cases (show u = Value.ref a from rx)
    obtain ⟨_, _, _, p⟩ := (show ObjOk X.prog X.w H s.heap a (.tup xs) from I.hok a _ ea)
    obtain ⟨o, h1, h2, _⟩ := p
    exact PySem.W.kia_one PySem.W.kitx_tuple I.kIn ⟨o, h1, h2⟩ e (fun z => nomatch z) h
  | @dK a kvs ea =>
    cases (show u = Value.ref a from rx)
    obtain ⟨_, _, vs, _, p⟩ := (show ObjOk X.prog X.w H s.heap a (.dK kvs) from I.hok a _ ea)
    obtain ⟨o, es, ep, h1, h2, _⟩ := p
    exact PySem.W.kia_one PySem.W.kitx_dict I.kIn ⟨o, h1, h2.1⟩ e (fun z => nomatch z) h
  | @dT a kvs ea =>
    cases (show u = Value.ref a from rx)
    obtain ⟨_, _, xs, _, o, es, ep, h1, h2, _⟩ := (show ObjOk X.prog X.w H s.heap a (.dT kvs) from I.hok a _ ea)
    exact PySem.W.kia_one PySem.W.kitx_dict I.kIn ⟨o, h1, h2.1⟩ e (fun z => nomatch z) h
  | @ins a C dx fs ea cl ha hn htk hm =>
    cases (show u = Value.ref a from rx)
    obtain ⟨mA, O, _⟩ := ins_get I.hok ea
    obtain ⟨od, J, _⟩ := O.look
    exact PySem.W.kia_one (PySem.W.kitx_own (cl.get _) cl.hd ha hn htk hm) I.kIn J e (fun z => nomatch z) h
end
end L2
namespace L2
open PySem PySem.Spec PyProof.Rows
structure Room (k : Nat) (A : Around) : Prop where
  hd : A.handled = none
  dp : A.depth + 3 * k + 5 < recursionLimit
  un : A.units + 16 * k + 200 < cLine
theorem Room.mono {j k : Nat} {A : Around} (r : Room k A) (h : j ≤ k) : Room j A := ⟨r.hd, by have := r.dp; omega, by have := r.un; omega⟩
theorem Room.deeper {k : Nat} {A : Around} (r : Room (k + 1) A) (env : Env) : Room k (A.deeper env) :=
  ⟨r.hd, by have := r.dp; show A.depth + 1 + 3 * k + 5 < _; omega, by have := r.un; show A.units + 3 + 16 * k + 200 < _; omega⟩
theorem Room.depth {k : Nat} {A : Around} (r : Room k A) : A.depth < recursionLimit := by have := r.dp; omega
theorem Room.units {k : Nat} {A : Around} (r : Room k A) : A.units + 64 < cLine := by have := r.un; omega
theorem Room.units0 {k : Nat} {A : Around} (r : Room k A) : A.units < cLine := by have := r.un; omega
def tNil : TA := fun _ H Q => Q [] H
def tCons (ta : TE) (tr : TA) : TA := fun σ H Q => ta σ H fun x H1 => tr σ H1 fun xs H2 => Q (x :: xs) H2
section
variable {X : Cx} {e : Expr} {es : List Expr} {te : TE} {t : TA} {pos : Pos}
theorem pa_nil : PA X [] tNil := fun _ _ _ _ H Q I h => Calls.spliced_nil ⟨[], H, I, .nil, h⟩
theorem pa_cons (ha : PE X e te) (hr : PA X es t) (hs : starEach (e :: es) X.env = (false, eval e X.env) :: starEach es X.env := by rfl) : PA X (e :: es) (tCons te t) := by
  intro pos pins s σ H Q I h
  rw [hs]
  show wpAny _ _ (spliced ((false, eval e X.env) :: backTo pos (starEach es X.env))) _ _ s
  refine Calls.spliced_cons (thn (ha pins s σ H _ I h) fun u s1 ⟨x, H1, I1, r1, q1⟩ => ?_)
  exact thn (hr pos pins s1 σ H1 _ I1 q1) fun us s2 ⟨xs, H2, I2, r2, q2⟩ => ⟨x :: xs, H2, I2, .cons r1 r2, q2⟩
def tTup (t : TA) : TE := fun σ H Q => t σ H fun xs H1 => xs.length ≤ sizeLine ∧ ∀ p, H1 p = none → Q (.ref p) (upd H1 p (.tup xs))
def tLst (t : TA) : TE := fun σ H Q => t σ H fun xs H1 => xs.length ≤ sizeLine ∧ ∀ p, H1 p = none → Q (.ref p) (upd H1 p (.lst xs))
theorem pe_tup {x1} (h : PA X es t) : PE X (.Tuple es x1 pos) (tTup t) := by
  intro pins s σ H Q I hq
  refine wpAny_Tuple_spliced (thn (h pos pins s σ H _ I hq) fun us s1 ⟨xs, H1, I1, r, z, q⟩ => ⟨by rw [← r.length]; exact z, ?_⟩)
  have hf : H1 s1.heap.objs.size = none := I1.hok.fresh (Nat.le_refl _)
  refine ⟨.ref s1.heap.objs.size, upd H1 s1.heap.objs.size (.tup xs), I1.laid (t' := s1.toks) (fun b u e => Heap.get?_push_of_some _ e) (Nat.le_refl _) ?_, rfl, q _ hf⟩
  exact ⟨z, us, r, ⟨_, Heap.get?_push_size _ rfl, rfl, _, rfl⟩⟩
theorem pe_lst (h : PA X es t) : PE X (.List es pos) (tLst t) := by
  intro pins s σ H Q I hq
  refine wpAny_List_spliced (thn (h pos pins s σ H _ I hq) fun us s1 ⟨xs, H1, I1, r, z, q⟩ => ⟨by rw [← r.length]; exact z, ?_⟩)
  have hf : H1 s1.heap.objs.size = none := I1.hok.fresh (Nat.le_refl _)
  refine ⟨.ref s1.heap.objs.size, upd H1 s1.heap.objs.size (.lst xs), I1.laid (t' := s1.toks) (fun b u e => Heap.get?_push_of_some _ e) (Nat.le_refl _) ?_, rfl, q _ hf⟩
  exact ⟨z, us, 0, r, Heap.get?_push_size _ rfl⟩
end
abbrev Sp := List V → Hp → VK → XK → Prop
abbrev CXT := List Env → Hp → Shared → XK → Value → Shared → Prop
structure Env0 (P : Program) (w : World) (K : PySem.W.Frag) (mg : Str → Option Value) (base : Heap) (A : Around) (outer : List Env) (s : Shared) (H : Hp) : Prop where
  frames : A.frames = some outer
  mod : Mod K mg base
  bs : ∀ b o, base.get? b = some o → s.heap.get? b = some o ∧ H b = none
  bsz : base.objs.size ≤ s.heap.objs.size
  funs : s.heap.FunFrames base outer
  frf : ∀ b ∈ frs outer, H b = none
  hok : HOk P w H s.heap
  bare : AllBare s.gens
def CE (outer : List Env) (P : Program) (w : World) (H : Hp) (s : Shared) (Q : VK) (u : Value) (s' : Shared) : Prop :=
  ∃ v H', s'.os = s.os ∧ AllBare s'.gens ∧ Un (frs outer) [] H H' s.heap s'.heap ∧ HOk P w H' s'.heap ∧ RelV v u ∧ Q v H'
def CR (CX : CXT) (outer : List Env) (P : Program) (w : World) (H : Hp) (s : Shared) (Q : VK) (E : XK) (r : Result) (s' : Shared) : Prop :=
  match r with
  | .ok (.ret u) => CE outer P w H s Q u s'
  | .ok _ => False
  | .error e => CX outer H s E e s'
structure FnOk (P : Program) (w : World) (K : PySem.W.Frag) (mg : Str → Option Value) (base : Heap) (CX : CXT) (k : Nat) (f : Addr) (fd : FuncData) (ps : List Str) (sp : Sp) : Prop where
  len : ∀ vs H Q E, sp vs H Q E → vs.length = ps.length
  run : ∀ (A : Around) (outer : List Env) (s : Shared) (H : Hp) (args : Args) (us : List Value) (vs : List V) (Q : VK) (E : XK), Room k A → Env0 P w K mg base A outer s H → BindsTo s fd args (ps.zip us) → Vals vs us → sp vs H Q E →
    codeAny (model P w) A (.call (.ref f) args) (CR CX outer P w H s Q E) s
theorem FnOk.imp {P : Program} {w : World} {K : PySem.W.Frag} {mg : Str → Option Value} {base : Heap} {CX : CXT} {k : Nat} {f : Addr} {fd : FuncData} {ps : List Str} {sp sp' : Sp} (F : FnOk P w K mg base CX k f fd ps sp)
    (h : ∀ vs H Q E, sp' vs H Q E → sp vs H Q E) : FnOk P w K mg base CX k f fd ps sp' :=
  ⟨fun vs H Q E q => F.len vs H Q E (h _ _ _ _ q), fun A outer s H args us vs Q E hr he hb hv hs => F.run A outer s H args us vs Q E hr he hb hv (h _ _ _ _ hs)⟩
section
variable {X : Cx} {pins : List (Addr × Obj)} {σ : St} {H : Hp} {s s' : Shared}
theorem Inv.env0 (I : Inv X pins σ H s) : Env0 X.prog X.w X.K X.mg X.base X.A X.stack s H :=
  ⟨I.ok.frames, I.ok.mod, I.bs, Nat.le_trans I.ok.bsz I.sz, I.stack, I.stkFree, I.hok, I.bare⟩
theorem Inv.after {Q : VK} {u : Value} (I : Inv X pins σ H s) (h : CE X.stack X.prog X.w H s Q u s') : EP X pins σ Q u s' := by
  obtain ⟨v, H', os, bare, un, hok, r, q⟩ := h
  obtain ⟨hh, g, d, t, os'⟩ := s'
  obtain rfl : os' = s.os := os
  exact ⟨v, H', I.call (h' := hh) (g' := g) (d' := d) (t' := t) (ch := []) un hok bare (fun b z => absurd z (by simp)), r, q⟩
end
def Binds (K : PySem.W.Frag) (fd : FuncData) (ps : List Str) (ds : List Value) : Prop :=
  ∀ (s : Shared) (us : List Value), K.In s.heap → (us ++ ds).length = ps.length → BindsTo s fd ⟨us, []⟩ (ps.zip (us ++ ds))
theorem Binds.all {K : PySem.W.Frag} {fd : FuncData} {ps : List Str} (h : ∀ us : List Value, us.length = ps.length → bindArgs fd ⟨us, []⟩ = pure (ps.zip us)) : Binds K fd ps [] := fun s us _ hl => by
  rw [List.append_nil] at hl ⊢
  exact .of_eq (h us hl)
def Passes (CX : CXT) (X : Cx) (E : XK) : Prop := ∀ (pins : List (Addr × Obj)) (σ : St) (H : Hp) (s : Shared) (e : Value) (s' : Shared), Inv X pins σ H s → CX X.stack H s E e s' → X.xe e s'
section
variable {X : Cx} {CX : CXT} {k : Nat} {f C : Addr} {fd : FuncData} {ps : List Str} {sp : Sp} {dvs : List V} {ds : List Value} {E : XK} {x m : Str} {p pos apos : Pos} {e o : Expr} {es : List Expr} {ta : TE} {t : TA}
end
section
variable {X : Cx} {CX : CXT} {k : Nat} {f C : Addr} {fd : FuncData} {ps ks : List Str} {sp : Sp} {E : XK} {x m : Str} {p pos apos kpos : Pos} {e o : Expr} {es : List Expr} {kws : List Keyword} {te ta : TE} {t tk : TA} {nm : Option Str}
variable {g : List Value → List Value → List Value} {gV : List V → List V → List V}
end
structure FnScope (N P : List Str) (sc : Scope) : Prop where
  kind : sc.kind = .function
  co : sc.isCoroutine = false
  gen : sc.isGenerator = false
  nd : N.Nodup
  pre : N.take P.length = P
  par : ∀ x ∈ P, sc.names.lookup x = some .local ∨ sc.names.lookup x = some .cell
  nofree : ∀ y ∈ sc.names, y.2 ≠ .free
theorem bindL_out {kindOf : Str → Option NameKind} {x : Str} : ∀ {binds : List (Str × Value)} {m : Str → Option Value}, (∀ v, (x, v) ∉ binds) → bindL kindOf binds m x = m x
  | [], _, _ => rfl
  | (n, v) :: r, m, h => by
    unfold bindL
    rw [bindL_out fun w hw => h w (List.mem_cons_of_mem _ hw)]
    split
    · have : x ≠ n := by rintro rfl; exact h v List.mem_cons_self
      simp [this]
    · rfl
theorem bindC_out {kindOf : Str → Option NameKind} {x : Str} : ∀ {binds : List (Str × Value)} {m : Str → Option Value}, (∀ v, (x, v) ∉ binds) → bindC kindOf binds m x = m x
  | [], _, _ => rfl
  | (n, v) :: r, m, h => by
    unfold bindC
    rw [bindC_out fun w hw => h w (List.mem_cons_of_mem _ hw)]
    split
    · rfl
    · have : x ≠ n := by rintro rfl; exact h v List.mem_cons_self
      simp [this]
theorem bindL_get {kindOf : Str → Option NameKind} {x : Str} {v : Value} : ∀ {P : List Str} {vs : List Value} {i : Nat} {m : Str → Option Value}, P.Nodup → P[i]? = some x → vs[i]? = some v → kindOf x = some .local →
    bindL kindOf (P.zip vs) m x = some v
  | [], _, _, _, _, h, _, _ => by simp at h
  | _ :: _, [], _, _, _, _, h, _ => by simp at h
  | p :: P, w :: vs, 0, m, nd, h1, h2, hk => by
    simp at h1 h2; subst h1; subst h2
    show bindL kindOf ((p, w) :: P.zip vs) m p = _
    unfold bindL
    rw [bindL_out fun v hv => (List.nodup_cons.mp nd).1 (List.of_mem_zip hv).1, if_pos hk]
    simp
  | p :: P, w :: vs, i + 1, m, nd, h1, h2, hk => by
    show bindL kindOf ((p, w) :: P.zip vs) m x = _
    unfold bindL
    exact bindL_get (i := i) (List.nodup_cons.mp nd).2 (by simpa using h1) (by simpa using h2) hk
theorem bindC_get {kindOf : Str → Option NameKind} {x : Str} {v : Value} : ∀ {P : List Str} {vs : List Value} {i : Nat} {m : Str → Option Value}, P.Nodup → P[i]? = some x → vs[i]? = some v → kindOf x ≠ some .local →
    bindC kindOf (P.zip vs) m x = some v
  | [], _, _, _, _, h, _, _ => by simp at h
  | _ :: _, [], _, _, _, _, h, _ => by simp at h
  | p :: P, w :: vs, 0, m, nd, h1, h2, hk => by
    simp at h1 h2; subst h1; subst h2
    show bindC kindOf ((p, w) :: P.zip vs) m p = _
    unfold bindC
    rw [bindC_out fun v hv => (List.nodup_cons.mp nd).1 (List.of_mem_zip hv).1, if_neg hk]
    simp
  | p :: P, w :: vs, i + 1, m, nd, h1, h2, hk => by
    show bindC kindOf ((p, w) :: P.zip vs) m x = _
    unfold bindC
    exact bindC_get (i := i) (List.nodup_cons.mp nd).2 (by simpa using h1) (by simpa using h2) hk
def start (N : List Str) (vs : List V) : St := vs.map some ++ List.replicate (N.length - vs.length) none
def cxOf (CX : CXT) (P : Program) (w : World) (K : PySem.W.Frag) (mg : Str → Option Value) (base : Heap) (N : List Str) (qual : Str) (scope : Scope) (f : Addr) (cd : Value) (A : Around) (outer : List Env) (s : Shared) (H : Hp) (E : XK) : Cx where
  prog := P
  w := w
  K := K
  mg := mg
  base := base
  A := A.deeper (envOfC qual scope s.heap.objs.size f cd)
  N := N
  s₀ := s
  H₀ := H
  env := envOfC qual scope s.heap.objs.size f cd
  outer := outer
  stack := envOfC qual scope s.heap.objs.size f cd :: outer
  ex := []
  calm := true
  fn := fun _ => true
  pn := []
  xe := fun e s' => wpAny (model P w) (A.deeper (envOfC qual scope s.heap.objs.size f cd)) (leaving (envOfC qual scope s.heap.objs.size f cd) e) (fun _ s'' => CX outer H s E e s'') (fun e' s'' => CX outer H s E e' s'') s'
theorem cell_has {sc : Scope} {n : Nat} {x : Str} (h : sc.names.lookup x = some .cell) : ∃ c, (cellsFrom n sc.names []).lookup x = some c := by
  have q := PySem.W.cellsFrom_some sc.names n [] (.inl h)
  exact Option.isSome_iff_exists.mp q
theorem inv_start {CX : CXT} {P : Program} {w : World} {K : PySem.W.Frag} {mg : Str → Option Value} {base : Heap} {N ps : List Str} {qual : Str} {scope : Scope} {f : Addr} {cd : Value} {A : Around} {outer : List Env} {s s1 : Shared} {H : Hp} {E : XK} {us : List Value} {vs : List V}
    (S : FnScope N ps scope) (hd : A.handled = none) (e0 : Env0 P w K mg base A outer s H) (hl : vs.length = ps.length) (r : Vals vs us)
    (x : InCallC s s.heap.objs.size (bindL (envOfC qual scope s.heap.objs.size f cd).kindOf (ps.zip us) fun _ => none) (cellsFrom (s.heap.objs.size + 1) scope.names []) (bindC (envOfC qual scope s.heap.objs.size f cd).kindOf (ps.zip us) fun _ => none) s1) :
    Inv (cxOf CX P w K mg base N qual scope f cd A outer s H E) [] (start N vs) H s1 := by
  have hpl : ps.length ≤ N.length := by have := congrArg List.length S.pre; rw [List.length_take] at this; omega
  obtain ⟨h1, tk, rfl, hk⟩ := x.done
  have noA : ∀ b : Addr, b ∉ (cxOf CX P w K mg base N qual scope f cd A outer s H E).ex := fun b z => absurd (show b ∈ ([] : List Addr) from z) (by simp)
  refine ⟨⟨e0.mod, S.kind, rfl, rfl, Nat.le_refl _, fun y z c h1 h2 => ?_, fun y hy => ?_, fun y c _ h => ?_, fun _ => hd, Around.frames_deeper e0.frames, .inr ⟨rfl, rfl⟩, fun b z => absurd z (noA b), e0.bs, e0.bsz, fun b _ _ => noA b, fun b z => absurd z (noA b), e0.funs, e0.frf⟩,
    rfl, e0.bare, Un.kept hk, ⟨_, x.toInCall.ns, fun i y v h1 h2 h3 => ?_⟩, fun y c h => ⟨_, x.cell y c h⟩, e0.hok.fresh (Nat.le_refl _), fun y c h => ?_, fun p hp => absurd (show p ∈ ([] : List (Addr × Obj)) from hp) (by simp), e0.hok.kept hk, ?_⟩
  · exact name_of_addr x.apart (PySem.mem_of_lookup h1) (PySem.mem_of_lookup h2)
  · have hy : scope.names.lookup y = some .cell ∨ scope.names.lookup y = some .free := hy
    rcases hy with hy | hy
    · exact cell_has hy
    · exact absurd rfl (S.nofree _ (PySem.mem_of_lookup hy))
  · exact Nat.le_of_lt (x.above y c (PySem.mem_of_lookup h))
  · have hi : i < vs.length := by
      unfold start at h2
      by_cases hi : i < vs.length
      · exact hi
      · rw [List.getElem?_append_right (by simpa using hi)] at h2
        rw [List.getElem?_replicate] at h2
        split at h2 <;> cases h2
    have ha : vs[i]? = some v := by
      unfold start at h2
      rw [List.getElem?_append_left (by simpa using hi), List.getElem?_map] at h2
      cases e : vs[i]? with
      | none => rw [e] at h2; cases h2
      | some a => rw [e] at h2; cases h2; rfl
    obtain ⟨u, hu, rv⟩ := r.get ha
    have hp : ps[i]? = some y := by
      rw [← S.pre, List.getElem?_take_of_lt (by omega)]; exact h1
    have ndP : ps.Nodup := by rw [← S.pre]; exact S.nd.sublist (List.take_sublist _ _)
    refine ⟨u, rv, ?_⟩
    rcases S.par y (List.mem_of_getElem? hp) with k | k
    · exact .inl ⟨k, bindL_get ndP hp hu k⟩
    · obtain ⟨c, e⟩ := cell_has (n := s.heap.objs.size + 1) k
      refine .inr ⟨.inl k, c, e, ?_⟩
      have q := x.cell y c e
      rw [bindC_get ndP hp hu (by show scope.names.lookup y ≠ _; rw [k]; decide)] at q
      exact q
  · exact e0.hok.fresh (Nat.le_of_lt (x.above y c (PySem.mem_of_lookup h)))
  · unfold start
    show _ = N.length
    rw [List.length_append, List.length_map, List.length_replicate]
    omega
theorem fn_of {CX : CXT} {P : Program} {w : World} {K : PySem.W.Frag} {mg : Str → Option Value} {base : Heap} {k : Nat} {f : Addr} {name qual : Str} {params : Arguments} {body : List Stmt} {scope : Scope} {dV kV doc pm cdv ct oc : Value} {an od : Option Addr}
    {osl : Array (Option Value)} {N ps : List Str} {sp : Sp} (lk : K.lookup f = some ⟨oc, od, .func (PySem.W.fnOf name qual params body scope dV kV doc pm an cdv ct), osl⟩) (hcd : PySem.W.codeIn K cdv qual = true) (S : FnScope N ps scope)
    (len : ∀ vs H Q E, sp vs H Q E → vs.length = ps.length)
    (hbody : ∀ (A : Around) (outer : List Env) (s : Shared) (H : Hp) (vs : List V) (Q : VK) (E : XK), Room k (A.deeper (envOfC qual scope s.heap.objs.size f cdv)) → sp vs H Q E →
      ∃ t, PSs (cxOf CX P w K mg base N qual scope f cdv A outer s H E) body t ∧ t { nx := fun _ H' => Q .non H', rt := Q } (start N vs) H) :
    FnOk P w K mg base CX (k + 1) f (PySem.W.fnOf name qual params body scope dV kV doc pm an cdv ct) ps sp := by
  refine ⟨len, fun A outer s H args us vs Q E hr e0 hb r hsp => ?_⟩
  have hl := len _ _ _ _ hsp
  have KX : K.In s.heap := e0.mod.kin.keeps fun b o e => (e0.bs b o e).1
  have lim : s.heap.NoLimit := e0.mod.nolimit.keeps fun b o e => (e0.bs b o e).1
  have hkind : ∀ y ∈ ps.zip us, scope.names.lookup y.1 = some .local ∨ (scope.names.lookup y.1 = some .cell ∧ ((cellsFrom (s.heap.objs.size + 1) scope.names []).lookup y.1).isSome = true) := fun ⟨n, v⟩ hy => by
    rcases S.par n (List.of_mem_zip hy).1 with q | q
    · exact .inl q
    · exact .inr ⟨q, PySem.W.cellsFrom_some _ _ _ (.inl q)⟩
  refine codeAny_call_function hr.depth (KX _ _ lk) rfl S.co S.gen rfl (PySem.W.codeRec_of KX hcd) (hb _ _ _ _ ?_)
  refine wpAny_newFunctionEnv_cells S.kind hkind fun env he s1 x => ?_
  subst he
  refine ⟨lim.keeps x.toInCall.keep, codeAny_func ?_⟩
  obtain ⟨t, ht, hq⟩ := hbody A outer s H vs Q E (hr.deeper _) hsp
  have I : Inv (cxOf CX P w K mg base N qual scope f cdv A outer s H E) [] (start N vs) H s1 := inv_start S hr.hd e0 hl r x
  refine wpAny_mono (ht [] s1 (start N vs) H _ I hq) (fun fl s' hs => ?_) fun e s' hs => hs
  have fin : ∀ {σ' : St} {H' : Hp} {v : V} {u : Value}, Inv (cxOf CX P w K mg base N qual scope f cdv A outer s H E) [] σ' H' s' → RelV v u → Q v H' → CE outer P w H s Q u s' :=
    fun {σ' H' v u} J rv q => ⟨v, H', J.os, J.bare, J.base, J.hok, rv, q⟩
  cases fl with
  | ret u =>
    obtain ⟨v, σ', H', J, rv, q⟩ := hs
    exact fin J rv q
  | next =>
    obtain ⟨σ', H', J, q⟩ := hs
    exact fin (v := V.non) (u := Value.none) J rfl q
  | brk =>
    obtain ⟨_, _, _, q⟩ := hs
    exact False.elim q
  | cont =>
    obtain ⟨_, _, _, q⟩ := hs
    exact False.elim q
end L2
namespace L2
open PySem PySem.Spec PyProof.Rows
section
variable {X : Cx} {x : Str} {p pos : Pos} {e : Expr} {es : List Expr} {t : TA} {id T : String} {r : List V → Hp → VK → Prop}
def tCB (r : List V → Hp → VK → Prop) (t : TA) : TE := fun σ H Q => t σ H fun vs H1 => r vs H1 Q
theorem pe_callB (hc : CallR X (.builtin id) r) (hg : Gl X x) (hm : X.mg x = none) (hv : bootBuiltins x = some (.builtin id)) (ha : PA X (e :: es) t) (hn : x ≠ "__name__" := by decide) (hdb : (x == ("__debug__" : Str)) = false := by decide)
    (he : starEach (e :: es) X.env = (false, eval e X.env) :: starEach es X.env := by rfl) (hpl : (backTo pos (starEach es X.env)).any (·.1) = false := by rfl) : PE X (.Call (.Name x p) (e :: es) [] pos) (tCB r t) := by
  intro pins s σ H Q I h
  refine wpAny_Call_Name_kw (ld_blt I hg hm hv ?_ hn hdb)
  exact PyProof.Rows.callWith_builtin1 (thn (ha pos pins s σ H _ I h) fun us s1 ⟨vs, H1, I1, r1, q1⟩ => hc pins s1 σ H1 vs us Q I1 r1 q1) he hpl
theorem pe_callTy (hc : CallR X (.type T) r) (hg : Gl X x) (hm : X.mg x = none) (hv : bootBuiltins x = some (.type T)) (ha : PA X (e :: es) t) (hn : x ≠ "__name__" := by decide) (hdb : (x == ("__debug__" : Str)) = false := by decide)
    (he : starEach (e :: es) X.env = (false, eval e X.env) :: starEach es X.env := by rfl) (hpl : (backTo pos (starEach es X.env)).any (·.1) = false := by rfl) : PE X (.Call (.Name x p) (e :: es) [] pos) (tCB r t) := by
  intro pins s σ H Q I h
  refine wpAny_Call_Name_kw (ld_blt I hg hm hv ?_ hn hdb)
  exact PyProof.Rows.callWith_type1 (thn (ha pos pins s σ H _ I h) fun us s1 ⟨vs, H1, I1, r1, q1⟩ => hc pins s1 σ H1 vs us Q I1 r1 q1) he hpl
end
end L2
namespace HT
open PySem PyProof.Rows
def lexLt : List Int → List Int → Bool
  | [], [] => false
  | [], _ :: _ => true
  | _ :: _, [] => false
  | x :: xs, y :: ys => if x = y then lexLt xs ys else decide (x < y)
theorem lexLt_cons (x y : Int) (xs ys : List Int) : lexLt (x :: xs) (y :: ys) = if x = y then lexLt xs ys else decide (x < y) := rfl
theorem lexLt_nil_nil : lexLt [] [] = false := rfl
theorem lexLt_nil_cons (y : Int) (ys : List Int) : lexLt [] (y :: ys) = true := rfl
theorem lexLt_cons_nil (x : Int) (xs : List Int) : lexLt (x :: xs) [] = false := rfl
theorem eqAt_int (A : Around) (s : Shared) (a : Int) (t : Tok) (c : Int) (u : Tok) : ∃ e, SeqAt.EqAt A s (.int a t) (.int c u) e ∧ (e = true ↔ a = c) :=
  ⟨(a == c), SeqAt.EqAt.int_int a t c u, by simp⟩
theorem rcLt_int (A : Around) (s : Shared) (a : Int) (t : Tok) (c : Int) (u : Tok) (prog : Program) (w : World) (E : Value → Shared → Prop) (Q : Value → Shared → Prop) (h : Q (.bool (decide (a < c))) s) :
    wpAny (model prog w) A (richCompare .Lt (.int a t) (.int c u)) Q E s :=
  (PyProof.Rows.lt_int h : wpAny (model prog w) A (compareOp .Lt (.int a t) (.int c u)) Q E s)
section
open PySem.SeqAt
open PySem.AutoSeq1 (wpAny_loadPart')
open PySem.MeetsSeq PySem.MeetsSeq2 PySem.MeetsSeq3
theorem tuple_lt_ints (l b : Addr) (items items2 : Array Value) (n n2 : Nat) (dd dd2 : Option Addr) (sl sl2 : Array (Option Value)) (ns ms : List Int) (hi : IntsAre items.toList ns) (hj : IntsAre items2.toList ms) :
    Meets (Builtin.«tuple.__lt__» ⟨[.ref l, .ref b], []⟩)
      (fun _ R s => s.heap.get? l = some { cls := .type "tuple", dict := dd, data := .seq items n, slots := sl } ∧ s.heap.get? b = some { cls := .type "tuple", dict := dd2, data := .seq items2 n2, slots := sl2 } ∧
        R (.ok (.ret (.bool (lexLt ns ms)))) s) :=
  .of_wp fun prog w A R s h => by
    obtain ⟨hp, g, d, tk, os⟩ := s; obtain ⟨hl, hb, h⟩ := h
    have f2 := AutoSeq1.sub_tuple_tuple
    have z1 : items.size = ns.length := by rw [← hi.length]; simp
    have z2 : items2.size = ms.length := by rw [← hj.length]; simp
    wp_walk using wpAny_loadPart' hl, wpAny_loadPart' hb, wpAny_forIn_list _ (fun rest b s' => b.1 = none ∧ s' = ⟨hp, g, d, tk, os⟩ ∧ ∃ (vs ws : List Value) (ns' ms' : List Int), rest = vs.zip ws ∧
      IntsAre vs ns' ∧ IntsAre ws ms' ∧ ns'.length + items2.size = ms'.length + items.size ∧ R (.ok (.ret (.bool (lexLt ns' ms')))) ⟨hp, g, d, tk, os⟩) _
    case turn =>
      rintro ⟨y, x⟩ rest b s' ⟨hb', rfl, vs, ws, ns', ms', hz, hvi, hwi, hlen, hR⟩
      cases hvi with
      | nil => rw [List.zip_nil_left] at hz; cases hz
      | cons a t hvi' =>
        cases hwi with
        | nil => rw [List.zip_nil_right] at hz; cases hz
        | cons c u hwi' =>
          rw [List.zip_cons_cons] at hz
          injection hz with hyx hrest
          injection hyx with hy hx
          subst hy hx
          rw [lexLt_cons] at hR
          simp only [List.length_cons] at hlen
          obtain ⟨e, he, hiff⟩ := eqAt_int A.in1 ⟨hp, g, d, tk, os⟩ a t c u
          refine wpAny_bind (he prog w _ _ ?_)
          cases e with
          | true =>
            rw [if_pos (hiff.mp rfl)] at hR
            wp_walk
            exact ⟨rfl, rfl, _, _, _, _, hrest, hvi', hwi', by omega, hR⟩
          | false =>
            rw [if_neg (fun q => absurd (hiff.mpr q) Bool.false_ne_true)] at hR
            have hri := rcLt_int A.in1 ⟨hp, g, d, tk, os⟩ a t c u prog w
            wp_walk using hri
            exact ⟨_, rfl, by simpa using hR⟩
    case fin =>
      rintro ⟨b1, b2⟩ s' ⟨hb', rfl, vs, ws, ns', ms', hz, hvi, hwi, hlen, hR⟩
      simp only at hb'
      subst hb'
      have hv : lexLt ns' ms' = decide (items.size < items2.size) := by
        cases hvi with
        | nil =>
          cases hwi with
          | nil =>
            simp only [List.length_nil] at hlen
            rw [lexLt_nil_nil]
            exact (decide_eq_false (by omega)).symm
          | cons c u hw =>
            simp only [List.length_nil, List.length_cons] at hlen
            rw [lexLt_nil_cons]
            exact (decide_eq_true (by omega)).symm
        | cons a t hv =>
          cases hwi with
          | nil =>
            simp only [List.length_nil, List.length_cons] at hlen
            rw [lexLt_cons_nil]
            exact (decide_eq_false (by omega)).symm
          | cons c u hw =>
            rw [List.zip_cons_cons] at hz
            cases hz
      rw [hv] at hR
      wp_walk
      exact ⟨_, rfl, by simpa [Builtin.Tuple.tupleCompareSizes] using hR⟩
    case h =>
      exact ⟨rfl, rfl, items.toList, items2.toList, ns, ms, rfl, hi, hj, by omega, h⟩
end
section
variable {prog : Program} {w : World} {A : Around} {E : Value → Shared → Prop} {s : Shared}
theorem lt_tupInts {l b : Addr} {items items2 : Array Value} {ns ms : List Int} {Q : Value → Shared → Prop} (hl : IsTup s.heap l items) (hb : IsTup s.heap b items2) (hi : IntsAre items.toList ns) (hj : IntsAre items2.toList ms)
    (hu : A.units < cLine) (h : Q (.bool (lexLt ns ms)) s) : wpAny (model prog w) A (compareOp .Lt (.ref l) (.ref b)) Q E s := by
  obtain ⟨⟨cls, dd, data, sl⟩, ho, hc, n, hd⟩ := id hl
  obtain ⟨⟨cls2, dd2, data2, sl2⟩, ho2, hc2, n2, hd2⟩ := id hb
  simp only at hc hd hc2 hd2
  subst hc hd hc2 hd2
  exact richCompare_meets_room (op := .Lt) ⟨_, ho, rfl⟩ ⟨_, ho2, rfl⟩ PySem.F.slot_tuple_lt PySem.F.entry_tuple_lt (PySem.F.args_tuple_lt_2 _ _) (tuple_lt_ints l b items items2 n n2 dd dd2 sl sl2 ns ms hi hj)
    ⟨ho, ho2, show Value.bool (lexLt ns ms) ≠ Value.notImplemented ∧ Q (.bool (lexLt ns ms)) s from ⟨(fun x => nomatch x), h⟩⟩ hu
theorem cat_tup {t b : Addr} {vs ws : List Value} {Q : Value → Shared → Prop} (ht : IsTup s.heap t vs.toArray) (hb : IsTup s.heap b ws.toArray) (hv : vs ≠ [])
    (h1 : ws = [] → Q (.ref t) s) (h2 : ws ≠ [] → Q (.ref s.heap.objs.size) { s with heap := s.heap.push { cls := .type "tuple", data := .seq (vs ++ ws).toArray } })
    (hsz : vs.length + ws.length ≤ sizeLine) : wpAny (model prog w) A (binaryOp .Add (.ref t) (.ref b)) Q E s := by
  obtain ⟨⟨cls, dd, data, sl⟩, ho, hc, n, hd⟩ := id ht
  obtain ⟨⟨cls2, dd2, data2, sl2⟩, ho2, hc2, n2, hd2⟩ := id hb
  simp only at hc hd hc2 hd2
  subst hc hd hc2 hd2
  have e : vs.toArray ++ ws.toArray = (vs ++ ws).toArray := by simp
  by_cases hw : ws = []
  · exact concat_meets ⟨_, ho, rfl⟩ ⟨_, ho2, rfl⟩ noFill_tuple_add seq_tuple_add PySem.F.slot_tuple_add PySem.F.entry_tuple_add (PySem.F.args_tuple_add_2 _ _)
      (tuple_addW1 t b vs.toArray ws.toArray n n2 dd dd2 sl sl2 (by simpa using hv) (by simp [hw])) ⟨ho, ho2, h1 hw⟩
  · refine concat_meets ⟨_, ho, rfl⟩ ⟨_, ho2, rfl⟩ noFill_tuple_add seq_tuple_add PySem.F.slot_tuple_add PySem.F.entry_tuple_add (PySem.F.args_tuple_add_2 _ _)
      (tuple_addW2 t b vs.toArray ws.toArray n n2 dd dd2 sl sl2 (by simpa using hv) (by simpa using hw) (by rw [List.size_toArray, List.size_toArray]; exact hsz)) ⟨ho, ho2, ?_⟩
    rw [e]
    exact h2 hw
def sIx (n d : Nat) : Option Int → Nat
  | none => d
  | some v => if v < 0 then (v + (n : Int)).toNat else min v.toNat n
theorem sIx_le (n d : Nat) (hd : d ≤ n) (o : Option Int) : sIx n d o ≤ n := by
  cases o with
  | none => exact hd
  | some v =>
    show (if v < 0 then (v + (n : Int)).toNat else min v.toNat n) ≤ n
    by_cases hv : v < 0
    · rw [if_pos hv]; omega
    · rw [if_neg hv]; exact Nat.min_le_right _ _
theorem clip_eq (v : Int) (n d : Nat) : (if v < 0 then max (v + (n : Int)) 0 else min v (n : Int)) = ((sIx n d (some v) : Nat) : Int) := by
  show (if v < 0 then max (v + (n : Int)) 0 else min v (n : Int)) = (((if v < 0 then (v + (n : Int)).toNat else min v.toNat n) : Nat) : Int)
  by_cases hv : v < 0
  · simp only [if_pos hv]; omega
  · simp only [if_neg hv]; omega
theorem adjust_gen (lo hi : Option Int) (n : Nat) : Builtin.Slice.sliceAdjust lo hi 1 (n : Int) = (((sIx n 0 lo : Nat) : Int), ((sIx n n hi : Nat) : Int)) := by
  have h1 : ¬ ((1 : Int) < 0) := by omega
  unfold Builtin.Slice.sliceAdjust
  simp only [h1, if_false]
  refine Prod.ext ?_ ?_
  · cases lo with
    | none => rfl
    | some v => exact clip_eq v n 0
  · cases hi with
    | none => rfl
    | some v => exact clip_eq v n n
theorem places_gen (i j : Nat) : Builtin.Slice.slicePlaces (i : Int) (j : Int) 1 = j - i := by
  unfold Builtin.Slice.slicePlaces
  have h1 : (1 : Int) > 0 := by omega
  simp only [h1, if_true, Int.ediv_one]
  split <;> omega
theorem slicePart_ {v : Value} {o : Option Int} {Q : Option Int → Shared → Prop} (p : IsPart v o) (h : Q o s) : wpAny (model prog w) A (Builtin.Slice.slicePartIndex v) Q E s := by
  cases p with
  | none => exact slicePart_none h
  | int i t => exact slicePart_int h
theorem sliceApplied_gen {sl : Addr} {vl vu : Value} {lo hi : Option Int} {n : Nat} {Q : Int × Int × Nat → Shared → Prop} (hs : s.heap.IsSliceOf sl vl vu .none) (pl : IsPart vl lo) (pu : IsPart vu hi)
    (h : Q (((sIx n 0 lo : Nat) : Int), 1, sIx n n hi - sIx n 0 lo) s) : wpAny (model prog w) A (Builtin.Slice.sliceApplied (.ref sl) (pure (n : Int))) Q E s := by
  obtain ⟨os, hos, hcs, hds⟩ := id hs
  unfold Builtin.Slice.sliceApplied Builtin.Slice.sliceFields
  refine wpAny_bind (wpAny_bind (wpAny_field hos hds (x := vl) rfl (wpAny_bind (wpAny_field hos hds (x := vu) rfl (wpAny_bind (wpAny_field hos hds (x := .none) rfl (wpAny_pure ?_)))))))
  refine wpAny_bind (slicePart_none ?_)
  show wpAny _ _ (if ((1 : Int) == 0) = true then _ else _) _ _ s
  rw [if_neg (by decide)]
  refine wpAny_bind (slicePart_ pl (wpAny_bind (slicePart_ pu (wpAny_bind (wpAny_pure ?_)))))
  show wpAny _ _ (match Builtin.Slice.sliceAdjust lo hi 1 (n : Int) with | (lo, hi) => pure (lo, (1 : Int), Builtin.Slice.slicePlaces lo hi 1)) _ _ s
  rw [adjust_gen lo hi n]
  show wpAny _ _ (pure (((sIx n 0 lo : Nat) : Int), (1 : Int), Builtin.Slice.slicePlaces ((sIx n 0 lo : Nat) : Int) ((sIx n n hi : Nat) : Int) 1)) _ _ s
  rw [places_gen]
  exact wpAny_pure h
theorem pick_gen (xs : Array Value) (i k : Nat) : ((List.range k).filterMap fun (m : Nat) => xs[((i : Int) + (m : Int) * 1).toNat]?).toArray = ((xs.toList.drop i).take k).toArray := by
  have e : (fun (m : Nat) => xs[((i : Int) + (m : Int) * 1).toNat]?) = fun m => xs[i + m]? := by
    funext m
    have : ((i : Int) + (m : Int) * 1).toNat = i + m := by omega
    rw [this]
  rw [e]
  have := pick_run xs i k
  rw [List.filterMap_map] at this
  have e2 : ((fun x => xs[x]?) ∘ fun x => i + x) = fun m => xs[i + m]? := rfl
  rw [e2] at this
  rw [this]
theorem getItem_tuple_cut {t sl : Addr} {items : Array Value} {vl vu : Value} {lo hi : Option Int} {Q : Value → Shared → Prop} (ht : IsTup s.heap t items) (hs : s.heap.IsSliceOf sl vl vu .none) (pl : IsPart vl lo) (pu : IsPart vu hi)
    (hw : ¬ (sIx items.size 0 lo = 0 ∧ sIx items.size items.size hi = items.size))
    (h : Q (.ref s.heap.objs.size) { s with heap := s.heap.push { cls := .type "tuple", data := .seq ((items.toList.drop (sIx items.size 0 lo)).take (sIx items.size items.size hi - sIx items.size 0 lo)).toArray } })
    (hsz : items.size ≤ sizeLine) : wpAny (model prog w) A (getItem (.ref t) (.ref sl)) Q E s := by
  have htake : sizeOk (.seq ((items.toList.drop (sIx items.size 0 lo)).take (sIx items.size items.size hi - sIx items.size 0 lo)).toArray) := by
    show ((items.toList.drop (sIx items.size 0 lo)).take (sIx items.size items.size hi - sIx items.size 0 lo)).toArray.size ≤ sizeLine
    rw [List.size_toArray, List.length_take, List.length_drop, Array.length_toList]
    omega
  have hj : sIx items.size items.size hi ≤ items.size := sIx_le _ _ (Nat.le_refl _) hi
  obtain ⟨os, hos, hcs, hds⟩ := id hs
  have hTs : s.TypeIs (.ref sl) "slice" := ⟨os, hos, hcs⟩
  unfold getItem
  try with_reducible refine wpAny_holding ?_
  first | refine wpAny_bind (wpAny_pure ?_) | skip
  refine wpAny_bind (wpAny_sequenceKey ht.typeIs (by decide) ?_)
  refine wpAny_bind (wpAny_callSpecial?_slot (name := Str.ofString "__getitem__") ht.typeIs PyProof.Rows.slot_tuple_getitem
    (wpAny_call_entry PyProof.Rows.slot_tuple_getitem ht.typeIs entry_tuple_getitem ?_ (args_tuple_getitem _ _)))
  show wpAny _ _ (Builtin.Tuple.tupleItemsOf (.ref t) >>= _) _ _ s
  refine wpAny_bind (tupleItemsOf_ ht ?_)
  refine wpAny_bind (wpAny_typeOf hTs ?_)
  rw [if_pos (by decide)]
  refine wpAny_bind (sliceApplied_gen hs pl pu ?_)
  have hno : ¬ ((((sIx items.size 0 lo : Nat) : Int) == 0 && (1 : Int) == 1 && (sIx items.size items.size hi - sIx items.size 0 lo) == items.size) = true) := by
    intro q
    rw [Bool.and_eq_true, Bool.and_eq_true] at q
    have q1 : ((sIx items.size 0 lo : Nat) : Int) = 0 := eq_of_beq q.1.1
    have q2 : sIx items.size items.size hi - sIx items.size 0 lo = items.size := eq_of_beq q.2
    exact hw ⟨by omega, by omega⟩
  show wpAny _ _ (if (((sIx items.size 0 lo : Nat) : Int) == 0 && (1 : Int) == 1 && (sIx items.size items.size hi - sIx items.size 0 lo) == items.size) = true then _ else _) _ _ s
  rw [if_neg hno, pick_gen]
  first
    | exact wpAny_bind (m := Builtin.Tuple.tupleExact _) (wpAny_newObj_type (wpAny_pure ⟨_, rfl, wpAny_pure h⟩) htake)
    | exact wpAny_bind (m := Builtin.Tuple.tupleExact _) (wpAny_newObj_type (wpAny_bind (wpAny_pure (wpAny_pure ⟨_, rfl, wpAny_pure h⟩))) htake)
    | exact wpAny_bind (wpAny_bind (m := Builtin.Tuple.tupleExact _) (wpAny_newObj_type (wpAny_pure (wpAny_pure ⟨_, rfl, wpAny_pure h⟩)) htake))
    | exact wpAny_bind (wpAny_bind (m := Builtin.Tuple.tupleExact _) (wpAny_newObj_type (wpAny_pure ⟨_, rfl, wpAny_pure h⟩) htake))
end
end HT
namespace L2
open PySem PySem.Spec PyProof.Rows
abbrev TO := St → Hp → (Option Int → Hp → Prop) → Prop
def PO (X : Cx) (e : Option Expr) (t : TO) : Prop :=
  ∀ (pins : List (Addr × Obj)) (s : Shared) (σ : St) (H : Hp) (Q : Option Int → Hp → Prop), Inv X pins σ H s → t σ H Q →
    wpAny (model X.prog X.w) X.A (evalPart e X.env) (fun u s' => ∃ o H', Inv X pins σ H' s' ∧ IsPart u o ∧ Q o H') X.xe s
def tNoPart : TO := fun _ H Q => Q none H
def tPart (t : TE) : TO := fun σ H Q => t σ H fun x H1 => ∃ i, x = .int i ∧ Q (some i) H1
theorem intsAre_of {ns : List Int} : ∀ {us : List Value}, Vals (ns.map V.int) us → IntsAre us ns := by
  induction ns with
  | nil => intro us r; rw [List.map_nil] at r; cases r; exact .nil
  | cons n ns ih =>
    intro us r
    rw [List.map_cons] at r
    cases r with
    | cons r1 r2 =>
      obtain ⟨t, e⟩ := r1
      subst e
      exact .cons n t (ih r2)
section
variable {X : Cx} {e : Expr} {te : TE} {lo hi : Option Expr} {tl th : TO} {pos p2 : Pos}
theorem po_none : PO X none tNoPart := by
  intro pins s σ H Q I h
  rw [evalPart_none]
  exact wpAny_pure ⟨none, H, I, .none, h⟩
theorem po_some (h : PE X e te) : PO X (some e) (tPart te) := by
  intro pins s σ H Q I hw
  rw [evalPart_some]
  refine thn (h pins s σ H _ I hw) fun u s1 ⟨x, H1, I1, r1, q1⟩ => ?_
  obtain ⟨i, rfl, q⟩ := q1
  obtain ⟨t, rfl⟩ := r1
  exact ⟨some i, H1, I1, .int i t, q⟩
def SlR (X : Cx) (r : V → Option Int → Option Int → Hp → VK → Prop) : Prop :=
  ∀ (pins : List (Addr × Obj)) (s : Shared) (σ : St) (H : Hp) (x : V) (v vl vu : Value) (lo hi : Option Int) (sl : Addr) (Q : VK), Inv X pins σ H s → RelV x v → s.heap.IsSliceOf sl vl vu .none → IsPart vl lo → IsPart vu hi → r x lo hi H Q →
    ∃ T id, typeLookup (.type T) "__getitem__" = pure (some (.builtin id)) ∧ s.TypeIs v T ∧ wpAny (model X.prog X.w) X.A (getItem v (.ref sl)) (EP X pins σ Q) X.xe s
def tSl (r : V → Option Int → Option Int → Hp → VK → Prop) (te : TE) (tl th : TO) : TE := fun σ H Q => te σ H fun x H1 => tl σ H1 fun l H2 => th σ H2 fun u H3 => r x l u H3 Q
theorem pe_slice {r : V → Option Int → Option Int → Hp → VK → Prop} (hr : SlR X r) (he : PE X e te) (hl : PO X lo tl) (hu : PO X hi th) : PE X (.Subscript e (.Slice lo hi none p2) pos) (tSl r te tl th) := by
  intro pins s σ H Q I h
  refine Subscript_ (thn (he pins s σ H _ I h) fun v s1 ⟨x, H1, I1, r1, q1⟩ => ?_)
  refine wpAny_Slice (thn (hl pins s1 σ H1 _ I1 q1) fun vl s2 ⟨l, H2, I2, pl, q2⟩ => thn (hu pins s2 σ H2 _ I2 q2) fun vu s3 ⟨u, H3, I3, pu, q3⟩ => ?_)
  rw [evalPart_none]
  refine wpAny_pure ?_
  have I4 : Inv X pins σ H3 { s3 with heap := s3.heap.push { cls := .type "slice", data := .fields #[vl, vu, .none] } } := I3.kept (t' := s3.toks) fun b ob q => Heap.get?_push_of_some _ q
  obtain ⟨T, id, hT, ht, hg⟩ := hr pins { s3 with heap := s3.heap.push { cls := .type "slice", data := .fields #[vl, vu, .none] } } σ H3 x v vl vu l u s3.heap.objs.size Q I4 r1 (Heap.IsSliceOf.new ..) pl pu q3
  show wpAny (model X.prog X.w) X.A (subscriptTail e (.Slice lo hi none p2) v (.ref s3.heap.objs.size)) (EP X pins σ Q) X.xe { s3 with heap := s3.heap.push { cls := .type "slice", data := .fields #[vl, vu, .none] } }
  exact tail_any (ops := [.ref s3.heap.objs.size, v]) ht hT hg (by with_unfolding_all rfl)
def cutV (xs : List V) (lo hi : Option Int) : List V := (xs.drop (HT.sIx xs.length 0 lo)).take (HT.sIx xs.length xs.length hi - HT.sIx xs.length 0 lo)
theorem cutV_length (xs : List V) (lo hi : Option Int) : (cutV xs lo hi).length ≤ xs.length := by
  unfold cutV
  rw [List.length_take, List.length_drop]
  omega
def rSlT (K : PySem.W.Frag) : V → Option Int → Option Int → Hp → VK → Prop := fun x lo hi H Q => ∃ a xs, x = .ref a ∧ SqT K H a xs ∧
  ¬ (HT.sIx xs.length 0 lo = 0 ∧ HT.sIx xs.length xs.length hi = xs.length) ∧ ∀ p, H p = none → Q (.ref p) (upd H p (.tup (cutV xs lo hi)))
theorem sl_tup : SlR X (rSlT X.K) := by
  intro pins s σ H x v vl vu lo hi sl Q I rx hs pl pu h
  obtain ⟨a, xs, rfl, hx, hw, q⟩ := h
  cases rx
  obtain ⟨its, r, ht, hz⟩ := I.tuple hx
  have hlen : its.toArray.size = xs.length := by rw [List.size_toArray]; exact r.length.symm
  refine ⟨"tuple", _, PyProof.Rows.slot_tuple_getitem.lookup, ht.typeIs, ?_⟩
  refine HT.getItem_tuple_cut ht hs pl pu (by rw [hlen]; exact hw) ?_ (by rw [hlen]; exact hz)
  rw [hlen]
  refine ⟨.ref s.heap.objs.size, _, I.laid (t' := s.toks) (o := .tup (cutV xs lo hi)) (fun b ob q => Heap.get?_push_of_some _ q) (Nat.le_refl _) ?_, rfl, q _ (I.hok.fresh (Nat.le_refl _))⟩
  exact ⟨Nat.le_trans (cutV_length xs lo hi) hz, _, (r.drop (HT.sIx xs.length 0 lo)).take (HT.sIx xs.length xs.length hi - HT.sIx xs.length 0 lo), IsTup.new _ _⟩
def rLtT (K : PySem.W.Frag) : R2 := fun x y H Q => ∃ a b ns ms, x = .ref a ∧ y = .ref b ∧ SqT K H a (ns.map V.int) ∧ SqT K H b (ms.map V.int) ∧ Q (.bl (HT.lexLt ns ms)) H
theorem op_ltT (hu : X.A.units < cLine) : OpR X (compareOp .Lt) (rLtT X.K) := by
  intro pins s σ H x y v u Q I rx ry h
  obtain ⟨a, b, ns, ms, rfl, rfl, ha, hb, q⟩ := h
  cases rx
  cases ry
  obtain ⟨its, r1, p1, _⟩ := I.tuple ha
  obtain ⟨its2, r2, p2, _⟩ := I.tuple hb
  have i1 : IntsAre its.toArray.toList ns := intsAre_of r1
  have i2 : IntsAre its2.toArray.toList ms := intsAre_of r2
  exact HT.lt_tupInts p1 p2 i1 i2 hu ⟨.bl (HT.lexLt ns ms), H, I, rfl, q⟩
def rCatT (K : PySem.W.Frag) : R2 := fun x y H Q => ∃ a b xs ys, x = .ref a ∧ y = .ref b ∧ SqT K H a xs ∧ SqT K H b ys ∧ xs ≠ [] ∧ xs.length + ys.length ≤ sizeLine ∧
  (ys = [] → Q (.ref a) H) ∧ (ys ≠ [] → ∀ p, H p = none → Q (.ref p) (upd H p (.tup (xs ++ ys))))
theorem Vals.nil_iff {xs : List V} {us : List Value} (r : Vals xs us) : us = [] ↔ xs = [] := by
  cases r with
  | nil => simp
  | cons _ _ => simp
theorem op_catT : OpR X (binaryOp .Add) (rCatT X.K) := by
  intro pins s σ H x y v u Q I rx ry h
  obtain ⟨a, b, xs, ys, rfl, rfl, ha, hb, hx, hz, q1, q2⟩ := h
  cases rx
  cases ry
  obtain ⟨its, r1, p1, _⟩ := I.tuple ha
  obtain ⟨its2, r2, p2, _⟩ := I.tuple hb
  refine HT.cat_tup p1 p2 (fun z => hx (r1.nil_iff.mp z)) (fun z => ⟨.ref a, H, I, rfl, q1 (r2.nil_iff.mp z)⟩) (fun z => ?_) (by rw [← r1.length, ← r2.length]; exact hz)
  refine ⟨.ref s.heap.objs.size, _, I.laid (t' := s.toks) (o := .tup (xs ++ ys)) (fun b ob q => Heap.get?_push_of_some _ q) (Nat.le_refl _) ?_, rfl, q2 (fun w => z (r2.nil_iff.mpr w)) _ (I.hok.fresh (Nat.le_refl _))⟩
  exact ⟨by rw [List.length_append]; exact hz, _, r1.append r2, IsTup.new _ _⟩
end
end L2
namespace L2
open PySem PySem.Spec PyProof.Rows
def ixN (n : Nat) (i : Int) : Option Nat := if 0 ≤ i then (if i < n then some i.toNat else none) else if -(n : Int) ≤ i then some (i + n).toNat else none
def atI {α : Type} (xs : List α) (i : Int) : Option α := (ixN xs.length i).bind fun j => xs[j]?
theorem ixN_seq {n : Nat} {i : Int} {j : Nat} (h : ixN n i = some j) : seqIndex? i n = some j ∧ j < n ∧ -(n : Int) ≤ i ∧ i < n := by
  unfold ixN at h
  by_cases h0 : 0 ≤ i
  · rw [if_pos h0] at h
    by_cases h1 : i < n
    · rw [if_pos h1] at h
      have e : i.toNat = j := Option.some.inj h
      exact ⟨by rw [seqIndex_of h0 h1, e], by omega, by omega, h1⟩
    · rw [if_neg h1] at h; cases h
  · rw [if_neg h0] at h
    by_cases h1 : -(n : Int) ≤ i
    · rw [if_pos h1] at h
      have e : (i + n).toNat = j := Option.some.inj h
      exact ⟨by rw [seqIndex_neg (by omega) h1, e], by omega, h1, by omega⟩
    · rw [if_neg h1] at h; cases h
theorem atI_get {α : Type} {xs : List α} {i : Int} {v : α} (h : atI xs i = some v) : ∃ j, seqIndex? i xs.length = some j ∧ xs[j]? = some v ∧ j < xs.length ∧ -(xs.length : Int) ≤ i ∧ i < xs.length := by
  unfold atI at h
  cases e : ixN xs.length i with
  | none => rw [e] at h; cases h
  | some j =>
    rw [e] at h
    obtain ⟨h1, h2, h3, h4⟩ := ixN_seq e
    exact ⟨j, h1, h, h2, h3, h4⟩
def PlainIx (b : Expr) : Prop := ∀ o i, subscripted b false o i = operate [o, i] (getItem o i)
def IxR (X : Cx) (r : R2) : Prop :=
  ∀ (value slice : Expr) (pins : List (Addr × Obj)) (s : Shared) (σ : St) (H : Hp) (x y : V) (v u : Value) (Q : VK), Inv X pins σ H s → RelV x v → RelV y u → r x y H Q →
    subscripted slice false v u = operate [v, u] (getItem v u) → wpAny (model X.prog X.w) X.A (subscriptTail value slice v u) (EP X pins σ Q) X.xe s
def MtR (X : Cx) (id : String) (r : V → List V → Hp → VK → Prop) : Prop :=
  ∀ (pins : List (Addr × Obj)) (s : Shared) (σ : St) (H : Hp) (x : V) (xs : List V) (v : Value) (us : List Value) (Q : VK), Inv X pins σ H s → RelV x v → Vals xs us → r x xs H Q →
    wpAny (model X.prog X.w) X.A (call (.builtin id) (v :: us)) (EP X pins σ Q) X.xe s
section
variable {X : Cx} {a b : Expr} {ta tb : TE} {pos : Pos}
theorem pe_ix {r : R2} (hr : IxR X r) (ha : PE X a ta) (hb : PE X b tb) (hs : PlainIx b) : PE X (.Subscript a b pos) (tOp r ta tb) := by
  intro pins s σ H Q I h
  exact Subscript_ (binT ha hb I h fun v u s2 x y H2 I2 rx ry q => hr a b pins s2 σ H2 x y v u Q I2 rx ry q (hs _ _))
def rIxL (K : PySem.W.Frag) : R2 := fun x y H Q => ∃ p xs i v, x = .ref p ∧ y = .int i ∧ SqL K H p xs ∧ atI xs i = some v ∧ Q v H
def rIxT (K : PySem.W.Frag) : R2 := fun x y H Q => ∃ p xs i v, x = .ref p ∧ y = .int i ∧ SqT K H p xs ∧ atI xs i = some v ∧ Q v H
theorem ix_list : IxR X (rIxL X.K) := by
  intro value slice pins s σ H x y v u Q I rx ry h hs
  obtain ⟨p, xs, i, z, rfl, rfl, hq, he, q⟩ := h
  cases rx
  obtain ⟨t, rfl⟩ := ry
  obtain ⟨its, r, pl, hz⟩ := I.list hq
  obtain ⟨j, h1, h2, h3, h4, h5⟩ := atI_get he
  obtain ⟨w, ew, rw'⟩ := r.get h2
  have hl := r.length
  have hn := line63
  have fin : EP X pins σ Q w s := ⟨z, H, I, rw', q⟩
  by_cases h0 : 0 ≤ i
  · have hj : i.toNat = j := by
      rw [seqIndex_of h0 h5] at h1
      exact Option.some.inj h1
    exact item_listR pl.isList h0 (by omega) (by rw [hj]; simpa using ew) fin hs
  · have hj : (i + (its.toArray.size : Int)).toNat = j := by
      rw [seqIndex_neg (by omega) h4] at h1
      rw [List.size_toArray, ← hl]
      exact Option.some.inj h1
    exact subscriptTail_builtinR (x := w) pl.isList.typeIs slot_list_getitem.lookup
      (wpAny_getItem_list_neg (Q := fun r s' => r = w ∧ EP X pins σ Q r s') pl.isList (by omega) (by rw [List.size_toArray] <;> omega) (by omega) (by rw [hj]; simpa using ew) ⟨rfl, fin⟩) hs
theorem ix_tup : IxR X (rIxT X.K) := by
  intro value slice pins s σ H x y v u Q I rx ry h hs
  obtain ⟨p, xs, i, z, rfl, rfl, hq, he, q⟩ := h
  cases rx
  obtain ⟨t, rfl⟩ := ry
  obtain ⟨its, r, pl, hz⟩ := I.tuple hq
  obtain ⟨j, h1, h2, h3, h4, h5⟩ := atI_get he
  obtain ⟨w, ew, rw'⟩ := r.get h2
  have hl := r.length
  have hn := line63
  have fin : EP X pins σ Q w s := ⟨z, H, I, rw', q⟩
  exact subscriptTail_builtinR (x := w) pl.typeIs slot_tuple_getitem.lookup
    (getItem_tuple (j := j) (Q := fun r s' => r = w ∧ EP X pins σ Q r s') pl (by omega) (by omega) (by rw [List.size_toArray, ← hl]; exact h1) (by simpa using ew) ⟨rfl, fin⟩) hs
theorem slice_bounds (lo hi : Option Int) (n : Nat) : (sliceBounds lo hi none n).1 = ((HT.sIx n 0 lo : Nat) : Int) ∧ (sliceBounds lo hi none n).2.1 = ((HT.sIx n n hi : Nat) : Int) ∧ (sliceBounds lo hi none n).2.2 = 1 := by
  refine ⟨?_, ?_, rfl⟩
  · cases lo with
    | none => simp [sliceBounds, HT.sIx]
    | some i =>
      simp only [sliceBounds, HT.sIx, Option.getD_none, show (1 : Int) > 0 by decide, if_true]
      by_cases h : i < 0
      · simp only [h, if_true] <;> omega
      · simp only [h, if_false] <;> omega
  · cases hi with
    | none => simp [sliceBounds, HT.sIx]
    | some i =>
      simp only [sliceBounds, HT.sIx, Option.getD_none, show (1 : Int) > 0 by decide, if_true]
      by_cases h : i < 0
      · simp only [h, if_true] <;> omega
      · simp only [h, if_false] <;> omega
theorem slicePick_cut (its : List Value) (lo hi : Option Int) : slicePick its.toArray lo hi none = ((its.drop (HT.sIx its.length 0 lo)).take (HT.sIx its.length its.length hi - HT.sIx its.length 0 lo)).toArray := by
  obtain ⟨h1, h2, h3⟩ := slice_bounds lo hi its.toArray.size
  unfold slicePick
  rw [h1, h2, h3]
  simp only [sliceRange_one, pick_run, List.size_toArray] <;> rfl
def rSlL (K : PySem.W.Frag) : V → Option Int → Option Int → Hp → VK → Prop := fun x lo hi H Q => ∃ a xs, x = .ref a ∧ SqL K H a xs ∧ ∀ p, H p = none → Q (.ref p) (upd H p (.lst (cutV xs lo hi)))
theorem sl_list : SlR X (rSlL X.K) := by
  intro pins s σ H x v vl vu lo hi sl Q I rx hs pl pu h
  obtain ⟨a, xs, rfl, hx, q⟩ := h
  cases rx
  obtain ⟨its, r, ht, hz⟩ := I.list hx
  have hlen := r.length
  refine ⟨"list", _, slot_list_getitem.lookup, ht.isList.typeIs, ?_⟩
  refine wpAny_getItem_list_slice ht.isList hs pl pu .none (by simp) ?_ (by rw [List.size_toArray] <;> omega)
  rw [slicePick_cut, ← hlen]
  refine ⟨.ref s.heap.objs.size, _, I.laid (t' := s.toks) (o := .lst (cutV xs lo hi)) (fun b ob q => Heap.get?_push_of_some _ q) (Nat.le_refl _) ?_, rfl, q _ (I.hok.fresh (Nat.le_refl _))⟩
  exact ⟨Nat.le_trans (cutV_length xs lo hi) hz, _, 0, (r.drop (HT.sIx xs.length 0 lo)).take (HT.sIx xs.length xs.length hi - HT.sIx xs.length 0 lo), Heap.get?_push_size _ rfl⟩
theorem call_len_seq : CallR X (.builtin "len") (fun xs H Q => ∃ p ys, xs = [.ref p] ∧ (SqL X.K H p ys ∨ SqT X.K H p ys) ∧ Q (.int ys.length) H) := by
  intro pins s σ H xs us Q I r h
  obtain ⟨p, ys, rfl, hq, q⟩ := h
  obtain ⟨u, rfl, rx⟩ := vals1 r
  cases rx
  have hn := line63
  rcases hq with hq | hq
  · obtain ⟨its, r', pl, hz⟩ := I.list hq
    have hlen := r'.length
    exact Calls.call_len_list pl.isList (by simp only [List.size_toArray] <;> omega) ⟨.int ys.length, H, I.tok _, ⟨s.toks + 1, by rw [List.size_toArray, hlen]⟩, q⟩
  · obtain ⟨its, r', pl, hz⟩ := I.tuple hq
    have hlen := r'.length
    exact len_tuple pl (by simp only [List.size_toArray] <;> omega) ⟨.int ys.length, H, I.tok _, ⟨s.toks + 1, by rw [List.size_toArray, hlen]⟩, q⟩
theorem call_list_of : CallR X (.type "list") (fun xs H Q => ∃ p ys, xs = [.ref p] ∧ (SqL X.K H p ys ∨ SqT X.K H p ys) ∧ ∀ l, H l = none → Q (.ref l) (upd H l (.lst ys))) := by
  intro pins s σ H xs us Q I r h
  obtain ⟨p, ys, rfl, hq, q⟩ := h
  obtain ⟨u, rfl, rx⟩ := vals1 r
  cases rx
  have fin : ∀ (its : List Value), Vals ys its → ys.length ≤ sizeLine → ∀ (h' : Heap) (c' : Nat), (∀ b o', s.heap.get? b = some o' → h'.get? b = some o') →
      h'.get? s.heap.objs.size = some { cls := .type "list", dict := none, data := .seq its.toArray c', slots := #[] } → EP X pins σ Q (.ref s.heap.objs.size) { s with heap := h' } := fun its r' hz h' c' kp e =>
    ⟨.ref s.heap.objs.size, _, I.laid (t' := s.toks) kp (Nat.le_refl _) (show ObjOk X.prog X.w _ h' _ (.lst ys) from ⟨hz, its, c', r', e⟩), rfl, q _ (I.hok.fresh (Nat.le_refl _))⟩
  rcases hq with hq | hq
  · obtain ⟨its, r', pl, hz⟩ := I.list hq
    have hlen := r'.length
    obtain ⟨o, ho, hc, n, hd⟩ := pl.isList
    exact call_list_seq p (.inl rfl) ho hc hd (fun h' c' kp e => fin its r' hz h' c' kp e) (by simp only [List.size_toArray] <;> omega)
  · obtain ⟨its, r', pl, hz⟩ := I.tuple hq
    have hlen := r'.length
    obtain ⟨o, ho, hc, n, hd⟩ := pl
    exact call_list_seq p (.inr rfl) ho hc hd (fun h' c' kp e => fin its r' hz h' c' kp e) (by simp only [List.size_toArray] <;> omega)
theorem call_tuple_of : CallR X (.type "tuple") (fun xs H Q => ∃ p ys, xs = [.ref p] ∧ ((SqL X.K H p ys ∧ ∀ l, H l = none → Q (.ref l) (upd H l (.tup ys))) ∨ (SqT X.K H p ys ∧ Q (.ref p) H))) := by
  intro pins s σ H xs us Q I r h
  obtain ⟨p, ys, rfl, h⟩ := h
  obtain ⟨u, rfl, rx⟩ := vals1 r
  cases rx
  rcases h with ⟨hq, q⟩ | ⟨hq, q⟩
  · obtain ⟨its, r', pl, hz⟩ := I.list hq
    have hlen := r'.length
    refine call_tuple_list pl.isList (fun h' kp => ?_) (by simp only [List.size_toArray] <;> omega)
    have I1 : Inv X pins σ H { s with heap := h' } := I.kept (t' := s.toks) kp
    have I2 : Inv X pins σ (upd H h'.objs.size (.tup ys)) { s with heap := h'.push { cls := .type "tuple", data := .seq its.toArray } } :=
      I1.laid (t' := s.toks) (fun b o e => Heap.get?_push_of_some _ e) (Nat.le_refl _) (show ObjOk X.prog X.w _ _ _ (.tup ys) from ⟨hz, its, r', IsTup.new _ _⟩)
    exact ⟨.ref h'.objs.size, _, I2, rfl, q _ (I1.hok.fresh (Nat.le_refl _))⟩
  · obtain ⟨its, r', pl, hz⟩ := I.tuple hq
    exact call_tuple_same pl ⟨.ref p, H, I, rfl, q⟩
def tyV (K : PySem.W.Frag) (T : String) (x : V) (H : Hp) : Prop := match x with
  | .str _ => T = "str"
  | .int _ => T = "int"
  | .ref p => (T = "list" ∧ ∃ xs, SqL K H p xs) ∨ (T = "tuple" ∧ ∃ o, K.lookup p = some o ∧ o.cls = .type "tuple" ∧ o.dict = none) ∨
      (T = "dict" ∧ ((∃ kvs, H p = some (.dK kvs)) ∨ ∃ kvs, H p = some (.dT kvs))) ∨ (T = "set" ∧ ∃ S n, H p = some (.set S n))
  | _ => False
theorem tyV_is {pins : List (Addr × Obj)} {σ : St} {H : Hp} {s : Shared} {T : String} {x : V} {v : Value} (I : Inv X pins σ H s) (r : RelV x v) (ty : tyV X.K T x H) :
    s.TypeIs v T ∧ ∀ a, v = .ref a → ∃ ob, s.heap.get? a = some ob ∧ ob.dict = none := by
  cases x with
  | str z =>
    obtain ⟨t, rfl⟩ := r
    cases (show T = "str" from ty)
    exact ⟨typeIs_str s z t, fun _ e => nomatch e⟩
  | int i =>
    obtain ⟨t, rfl⟩ := r
    cases (show T = "int" from ty)
    exact ⟨typeIs_int s i t, fun _ e => nomatch e⟩
  | ref p =>
    cases r
    rcases ty with ⟨rfl, xs, hq⟩ | ⟨rfl, o, hk, hc, hd⟩ | ⟨rfl, hk⟩ | ⟨rfl, S, n, hk⟩
    · obtain ⟨its, _, pl, _⟩ := I.list hq
      refine ⟨pl.isList.typeIs, fun a e => ?_⟩
      cases e
      obtain ⟨o, n, e, c, hd, _⟩ := pl
      exact ⟨o, e, hd⟩
    · refine ⟨⟨o, I.kIn p o hk, hc⟩, fun a e => ?_⟩
      cases e
      exact ⟨o, I.kIn _ o hk, hd⟩
    · have z : ∃ o, s.heap.get? p = some o ∧ o.ExactDict := by
        rcases hk with ⟨kvs, hk⟩ | ⟨kvs, hk⟩
        · obtain ⟨_, _, _, _, o, _, _, e, ex, _⟩ := I.hok p _ hk
          exact ⟨o, e, ex⟩
        · obtain ⟨_, _, _, _, o, _, _, e, ex, _⟩ := I.hok p _ hk
          exact ⟨o, e, ex⟩
      obtain ⟨o, e, ex⟩ := z
      refine ⟨⟨o, e, ex.1⟩, fun a e2 => ?_⟩
      cases e2
      exact ⟨o, e, ex.2.1⟩
    · obtain ⟨o, _, _, _, e, ex, _⟩ := I.hok p _ hk
      refine ⟨⟨o, e, ex.1⟩, fun a e2 => ?_⟩
      cases e2
      exact ⟨o, e, ex.2.1⟩
  | _ => exact False.elim ty
def tBM (K : PySem.W.Frag) (T : String) (r : V → List V → Hp → VK → Prop) (to : TE) (t : TA) : TE := fun σ H Q => to σ H fun x H1 => tyV K T x H1 ∧ t σ H1 fun xs H2 => r x xs H2 Q
variable {o e : Expr} {es : List Expr} {to : TE} {t : TA} {name : Str} {apos cpos : Pos} {T id : String} {r : V → List V → Hp → VK → Prop}
theorem pe_bm (pa : PlainAttrs T) (slot : Slot T name id) (hty : typeOf (.builtin id) = pure (.type "method_descriptor")) (hm : MtR X id r) (ho : PE X o to) (ha : PA X (e :: es) t)
    (hbase : attributeBase o name X.env (eval o X.env) = eval o X.env := by rfl)
    (hfew : ((backTo cpos (starEach (e :: es) X.env)).all (fun x => !x.1) && (backToKw cpos (keywordEach [] X.env)).all (fun x => x.1.isSome)
      && decide ((e :: es).length + ([] : List Keyword).length + (if ([] : List Keyword).isEmpty then 0 else 1) < 30)) = true := by rfl)
    (hline : (apos.endLine == cpos.line) = true := by rfl) (hs : starEach (e :: es) X.env = (false, eval e X.env) :: starEach es X.env := by rfl) (hplain : (backTo cpos (starEach es X.env)).any (·.1) = false := by rfl) :
    PE X (.Call (.Attribute o name apos) (e :: es) [] cpos) (tBM X.K T r to t) := by
  intro pins s σ H Q I h
  refine wpAny_Call_method_late hbase hfew hline rfl (thn (ho pins s σ H _ I h) fun v s1 ⟨x, H1, I1, r1, ty, q1⟩ => ?_)
  obtain ⟨h1, h2⟩ := tyV_is I1 r1 ty
  refine ⟨T, id, pa, slot, hty, h1, h2, ?_⟩
  have hA := ha cpos pins s1 σ H1 _ I1 q1
  rw [hs] at hA ⊢
  refine Calls.callWith_builtin (by show (false || (backTo cpos (starEach es X.env)).any (·.1)) = false; rw [hplain] <;> rfl) (Calls.evalArgs_plain ?_)
  exact thn hA fun us s2 ⟨vs, H2, I2, r2, q2⟩ => hm pins s2 σ H2 x vs v us Q I2 r1 r2 q2
/- xs.append(e), list.index on a module's tuple .. are MtR facts of 06m -/
end
end L2
namespace L2
open PySem PySem.Spec PyProof.Rows
def MtM (X : Cx) (id : String) (r : V → List V → Hp → VK → Prop) : Prop :=
  ∀ (pins : List (Addr × Obj)) (s : Shared) (σ : St) (H : Hp) (x : V) (xs : List V) (v : Value) (us : List Value) (Q : VK), Inv X pins σ H s → RelV x v → Vals xs us → r x xs H Q →
    wpAny (model X.prog X.w) X.A (call (.builtin id) (v :: us)) (EP X pins σ Q) X.xe s
theorem Vals.one : ∀ {x : V} {us : List Value}, Vals [x] us → ∃ u, us = [u] ∧ RelV x u
  | _, _, .cons r .nil => ⟨_, rfl, r⟩
theorem Vals.reverse {xs : List V} {us : List Value} (h : Vals xs us) : Vals xs.reverse us.reverse := by
  induction h with
  | nil => exact .nil
  | cons r t ih => rw [List.reverse_cons, List.reverse_cons]; exact Vals.append ih (.cons r .nil)
theorem Vals.rep {xs : List V} {us : List Value} (h : Vals xs us) : ∀ k : Nat, Vals (List.replicate k xs).flatten (List.replicate k us).flatten
  | 0 => .nil
  | k + 1 => by
    rw [List.replicate_succ, List.replicate_succ, List.flatten_cons, List.flatten_cons]
    exact Vals.append h (Vals.rep h k)
section
variable {X : Cx} {pins : List (Addr × Obj)} {σ : St} {H : Hp} {s : Shared} {l b : Addr} {xs ys zs : List V}
theorem Inv.lset {its its' : List Value} {n : Nat} {f : Array Value → Array Value} {t' : Nat} (I : Inv X pins σ H s) (hH : H l = some (.lst xs))
    (e : s.heap.get? l = some { cls := .type "list", data := .seq its.toArray n }) (hf : f its.toArray = its'.toArray) (hv : Vals ys its') (hz : ys.length ≤ sizeLine) :
    Inv X pins σ (upd H l (.lst ys)) { s with heap := s.heap.update l (Obj.mapSeq f), toks := t' } := by
  have q := PySem.IsL.update e f
  rw [hf] at q
  refine I.write (x := l) (e := l) (by rw [hH]; exact trivial) (.inl rfl) (fun b' u hb hu => (Heap.get?_update_other s.heap (Obj.mapSeq f) (Ne.symm hb)).trans hu) ⟨_, q⟩ ?_
  exact ⟨hz, its', _, hv, q⟩
theorem Inv.lnew {its : List Value} {t' : Nat} (I : Inv X pins σ H s) (hv : Vals ys its) (hz : ys.length ≤ sizeLine) :
    Inv X pins σ (upd H s.heap.objs.size (.lst ys)) { s with heap := s.heap.push { cls := .type "list", data := .seq its.toArray }, toks := t' } :=
  I.laid (fun _ _ q => Heap.get?_push_of_some _ q) (Nat.le_refl _) ⟨hz, its, 0, hv, Heap.get?_push_size _ rfl⟩
theorem Inv.fresh (I : Inv X pins σ H s) : H s.heap.objs.size = none := I.hok.fresh (Nat.le_refl _)
theorem Inv.lstM (I : Inv X pins σ H s) (hH : H l = some (.lst xs)) : xs.length ≤ sizeLine ∧ ∃ (its : List Value) (n : Nat), Vals xs its ∧ xs.length = its.length ∧ s.heap.get? l = some { cls := .type "list", data := .seq its.toArray n } := by
  obtain ⟨z, its, n, r, e⟩ := I.hok l _ hH
  exact ⟨z, its, n, r, r.length, e⟩
end
section
variable {X : Cx}
def rAppend : V → List V → Hp → VK → Prop := fun x vs H Q => ∃ l xs y, x = .ref l ∧ vs = [y] ∧ H l = some (.lst xs) ∧ xs.length < sizeLine ∧ Q .non (upd H l (.lst (xs ++ [y])))
theorem mt_append : MtM X "list.append" rAppend := by
  intro pins s σ H x vs v us Q I rx rv h
  obtain ⟨l, xs, y, rfl, rfl, hH, hz, q⟩ := h
  cases rx
  obtain ⟨u, rfl, ru⟩ := rv.one
  obtain ⟨z, its, n, r, hl, e⟩ := I.lstM hH
  refine call_meets F.slot_list_append ⟨_, e, rfl⟩ F.entry_list_append (F.args_list_append_2 _ _) (PySem.list_append l its.toArray n u (by rw [List.size_toArray]; omega)) ⟨e, ?_⟩
  refine ⟨.non, _, I.lset (its' := its ++ [u]) hH e (by simp) (r.append (.cons ru .nil)) ?_, rfl, q⟩
  rw [List.length_append, List.length_singleton]
  omega
theorem len_rep {α : Type} (xs : List α) (k : Nat) : (List.replicate k xs).flatten.length = k * xs.length := by
  induction k with
  | zero => simp
  | succ k ih => rw [List.replicate_succ, List.flatten_cons, List.length_append, ih, Nat.succ_mul, Nat.add_comm]
end
section
variable {prog : Program} {w : World} {A : Around} {E : Value → Shared → Prop} {s : Shared}
end
section
variable {X : Cx}
end
end L2
namespace Att
open PySem PySem.W PySem.Calls PyProof.Rows
theorem ints_of_wellAll {P : Params} {h : Heap} : ∀ (ns : List Int) (vs : List Value), WellAll P h vs (ns.map WData.int) → IntsAre vs ns := by
  intro ns
  induction ns with
  | nil =>
    intro vs w
    rw [List.map_nil] at w
    cases w
    exact .nil
  | cons n ns ih =>
    intro vs w
    rw [List.map_cons] at w
    cases w with
    | cons a b =>
      cases a
      exact .cons _ _ (ih _ b)
theorem script_of {l : OpenLaw} {n : Nat} (hn : l.most = some n) {P : Params} {h : Heap} {args : List WData} {vals : List Value}
    (hpre : l.row.toRowW.claim.pre args = true) (hwl : WellAll P h vals args) :
    ∃ a vs ns, vals = [Value.ref a] ∧ args = [WData.list (ns.map WData.int)] ∧ h.get? a = some { cls := .type "list", data := .seq vs.toArray } ∧ IntsAre vs ns ∧ ns.length ≤ n := by
  have hsh : WShape.hasAll [] args [.list .int] = true := (pre_splitW hpre).1
  have hc : l.pre.holds [] { args := args } = true := (pre_splitW hpre).2
  obtain ⟨d, r, rfl, h1, h2⟩ := hasAllW_cons hsh
  obtain rfl := hasAllW_nil h2
  obtain ⟨xs, rfl, h3⟩ := hasW_list h1
  obtain ⟨ns, rfl⟩ := items_int h3
  have hlen : ns.length ≤ n := by
    unfold OpenLaw.pre at hc
    have h4 : (WTm.not (.lt (.lit (.int (n : Int))) (.len (.arg 0)))).holds [] { args := [.list (ns.map .int)] } = true := by
      have h4 := (holds_andW hc).1
      rw [hn] at h4
      exact h4
    have h5 := condW_of h4 (w_not (w_lt w_lit (w_len_list (w_arg rfl))))
    rw [List.length_map] at h5
    refine Nat.le_of_not_lt fun q => ?_
    have q' : (n : Int) < ((ns.length : Nat) : Int) := by omega
    first
      | (rw [decide_eq_true q'] at h5; exact absurd h5 (by decide))
      | (simp at h5; omega)
  cases hwl with
  | cons w1 w2 =>
    cases w2
    cases w1 with
    | list ho hall => exact ⟨_, _, ns, rfl, rfl, ho, ints_of_wellAll ns _ hall, hlen⟩
theorem post_true (l : OpenLaw) (args : List WData) : l.row.toRowW.claim.post args (.bool true) args = true :=
  postW_of (r := l.row.toRowW) (X := (true == true))
    (show WShape.has [] (.bool true) .bool = true by first | rfl | decide | simp [WShape.has, WShape.arms, WShape.armsAll])
    (show (WTm.eq .res (.lit (.bool true))).value [] { args := args, res := some (.bool true), after := args } = some (.bool (true == true)) from w_eq_bool (w_res rfl) w_lit) rfl
theorem attach_call {l : OpenLaw} {n : Nat} {q : Program} {loose : List Str} {XP : (Str → Option Value) → Heap → Prop} {YP : World → Heap → Prop} {d : DefRec}
    (hn : l.most = some n) (hdf : d.params.defaults = [])
    (call : ∀ (w : World) (s₀ s₁ : Shared) (mg mb : Str → Option Value) (fa : Addr) (o : Obj) (pm cd doc : Value) (a : Addr) (vs : List Value) (ns : List Int),
      Ground q loose [] XP w s₀ mg mb s₁.heap → YP w s₁.heap →
      s₁.heap.get? fa = some o → o.data = .func (docDef d.name d.params d.body d.scope pm cd doc) → s₁.heap.CodeRec cd d.name → mg d.name = some (.ref fa) →
      s₁.heap.get? a = some { cls := .type "list", data := .seq vs.toArray } → IntsAre vs ns → ns.length ≤ n → s₁.gens = #[] →
      codeAny (model l.prog w) callerA (.call (.ref fa) ⟨[.ref a], []⟩) (fun r s' => r = .ok (.ret (.bool true)) ∧ OldK s₁.heap s'.heap ∧ s'.os = s₁.os ∧ AllBare s'.gens) s₁) :
    WalkO q loose XP YP l.row.toRowW d [] (fun f vs => PySem.call f vs) := by
  intro w s₀ s₁ mg mb G Y fa o pm cd doc dV kV ho hd hcd hD hmg hg args vals as hpre hlay hrd hwl hlo
  obtain rfl : dV = .none := Dflts.none hD hdf
  obtain rfl : kV = .none := Dflts.noKw hD
  obtain ⟨a, vs, ns, rfl, rfl, hobj, hints, hlen⟩ := script_of hn hpre hwl
  refine enter_call (codeAny_mono (call w s₀ s₁ mg mb fa o pm cd doc a vs ns G Y ho (fd_plain hd) hcd hmg hobj hints hlen hg) fun r s' hq => ?_)
  obtain ⟨rfl, h2, h3, h4⟩ := hq
  exact ⟨.inl ⟨.bool true, .bool true, [], rfl, fun _ => rfl, .bool true, post_true l _, fun _ => ⟨List.Pairwise.nil, fun _ hm => (nomatch hm)⟩⟩, h2, h3, h4⟩
section
variable {prog : Program} {w : World} {A : Around} {E : Value → Shared → Prop} {s : Shared} {K : Frag}
end
end Att
namespace L2
open PySem PySem.Spec PyProof.Rows
theorem vals_ints : ∀ {vs : List Value} {ns : List Int}, IntsAre vs ns → Vals (ns.map V.int) vs
  | _, _, .nil => .nil
  | _, _, .cons n t h => .cons ⟨t, rfl⟩ (vals_ints h)
def Only (H : Hp) : Prop := ∀ b, H b = none ∨ ∃ o xs, H b = some (.frz o (.lst xs))
theorem law_call {P : Program} {w : World} {K : PySem.W.Frag} {mg mb : Str → Option Value} {CX : CXT} {k : Nat} {fa a : Addr} {fd : FuncData} {x : Str} {sp : Sp} {s₁ : Shared} {vs : List Value} {ns : List Int}
    (KX : K.In s₁.heap) (hns : s₁.heap.Ns mainGlobals mg) (hb : s₁.heap.Ns builtinsNs mb) (hbb : ∀ x : Str, x ≠ "__name__" → mb x = bootBuiltins x) (hlim : s₁.heap.NoLimit) (hg : s₁.gens = #[])
    (ha : s₁.heap.get? a = some { cls := .type "list", data := .seq vs.toArray }) (hi : IntsAre vs ns) (hl : ns.length ≤ sizeLine) (hr : Room k callerA)
    (F : ∀ base : Heap, K.In base → base.Ns mainGlobals mg → FnOk P w K mg base CX k fa fd [x] sp) (hbind : ∀ (s : Shared) (u : Value), BindsTo s fd ⟨[u], []⟩ [(x, u)])
    (hsp : ∀ H : Hp, Only H → SqL K H a (ns.map V.int) → sp [.ref a] H (fun v _ => v = .bl true) fun _ _ _ => False)
    (hCX : ∀ H e s', CX [] H s₁ (fun _ _ _ => False) e s' → False) :
    codeAny (model P w) callerA (.call (.ref fa) ⟨[.ref a], []⟩) (fun r s' => r = .ok (.ret (.bool true)) ∧ OldK s₁.heap s'.heap ∧ s'.os = s₁.os ∧ AllBare s'.gens) s₁ := by
  have rv := vals_ints hi
  have lenV := hi.length
  have core : ∀ H : Hp, Only H → SqL K H a (ns.map V.int) → HOk P w H s₁.heap → (∀ b, H b ≠ none → b = a) → (H a ≠ none → K.lookup a = none) →
      codeAny (model P w) callerA (.call (.ref fa) ⟨[.ref a], []⟩) (fun r s' => r = .ok (.ret (.bool true)) ∧ OldK s₁.heap s'.heap ∧ s'.os = s₁.os ∧ AllBare s'.gens) s₁ := by
    intro H hO hS hok hA hK
    have base_of : ∀ {b : Addr} {o : Obj}, s₁.heap.get? b = some o → H b = none → (hidT s₁.heap H).get? b = some o := fun e n => hidT_get e n
    have noA : ∀ {b : Addr} {o : Obj} {es : Array DictEntry} {ep : Nat}, s₁.heap.get? b = some o → o.data = .dict es ep → H b = none := fun {b o es ep} e d => by
      cases q : H b with
      | none => rfl
      | some u =>
        have e' : b = a := hA b (by rw [q]; simp)
        subst e'
        rw [ha] at e; cases e
        have d' : Data.seq vs.toArray _ = Data.dict es ep := d
        cases d'
    have nsK : ∀ {b : Addr} {m : Str → Option Value}, s₁.heap.Ns b m → (hidT s₁.heap H).Ns b m := fun {b m} ⟨o, es, ep, e, d, r⟩ => ⟨o, es, ep, base_of e (noA e d), d, r⟩
    have hKb : K.In (hidT s₁.heap H) := fun b o e => base_of (KX b o e) (by
      cases q : H b with
      | none => rfl
      | some u =>
        have e' : b = a := hA b (by rw [q]; simp)
        subst e'
        rw [hK (by rw [q]; simp)] at e; cases e)
    have hM : Mod K mg (hidT s₁.heap H) := ⟨hKb, nsK hns, ⟨mb, nsK hb, hbb⟩, let ⟨mc, h1, h2⟩ := hlim; ⟨mc, nsK h1, h2⟩⟩
    have e0 : Env0 P w K mg (hidT s₁.heap H) callerA [] s₁ H := ⟨rfl, hM, fun b o e => of_hidT e, Nat.le_of_eq (hidT_size _ _), trivial, fun b hb => absurd (show b ∈ ([] : List Addr) from hb) (by simp), hok, .of_eq hg⟩
    refine codeAny_mono ((F _ hKb (nsK hns)).run callerA [] s₁ H ⟨[.ref a], []⟩ [.ref a] [.ref a] _ _ hr e0 (hbind s₁ (.ref a)) (.cons rfl .nil) (hsp H hO hS)) fun r s' h => ?_
    cases r with
    | error e => exact (hCX H e s' h).elim
    | ok fl =>
      cases fl with
      | next => exact False.elim h
      | brk => exact False.elim h
      | cont => exact False.elim h
      | ret u =>
        obtain ⟨v, H', os, bare, un, hok', r', q⟩ := h
        have q' : v = .bl true := q
        subst q'
        obtain rfl : u = Value.bool true := r'
        refine ⟨rfl, OldK.of_keep fun b o e => ?_, os, bare⟩
        cases q : H b with
        | none => exact un.keep b o e q (by intro z; exact absurd (show b ∈ ([] : List Addr) from z) (by simp)) (by simp)
        | some u =>
          rcases hO b with z | ⟨ob, xs, z⟩
          · rw [q] at z; cases z
          · have z2 := un.frzs b ob _ z
            obtain ⟨e1, _⟩ := hok b _ z
            obtain ⟨e2, _⟩ := hok' b _ z2
            rw [e] at e1; cases e1
            exact e2
  cases hk : K.lookup a with
  | some o =>
    have e := KX a o hk
    rw [ha] at e
    cases e
    refine core (fun _ => none) (fun _ => .inl rfl) (.inr ⟨_, vs.toArray, _, hk, rfl, rfl, rfl, by rw [List.size_toArray, lenV]; exact hl, by simpa using rv⟩) (fun b u z => by have z' : (none : Option HO) = some u := z; cases z') (fun b z => absurd rfl z) fun z => absurd rfl z
  | none =>
    refine core (fun b => if b = a then some (.frz { cls := .type "list", data := .seq vs.toArray } (.lst (ns.map V.int))) else none) (fun b => ?_) (.inl (.inr ⟨{ cls := .type "list", data := .seq vs.toArray }, if_pos rfl⟩)) (fun b u z => ?_) (fun b z => ?_) fun _ => hk
    · by_cases hb : b = a
      · exact .inr ⟨_, _, if_pos hb⟩
      · exact .inl (if_neg hb)
    · by_cases hb : b = a
      · have z' := (if_pos hb).symm.trans z
        cases z'
        subst hb
        exact ⟨ha, by rw [List.length_map]; exact hl, vs, _, rv, ha⟩
      · have z' := (if_neg hb).symm.trans z
        cases z'
    · by_cases hb : b = a
      · exact hb
      · exact absurd (if_neg hb) z
end L2
namespace L2
open PySem PySem.Spec PyProof.Rows
theorem walk_of {l : PySem.W.OpenLaw} {n k : Nat} {q : Program} {loose : List Str} {XP : (Str → Option Value) → Heap → Prop} {YP : World → Heap → Prop} {d : DefRec} {K : Params → PySem.W.Frag} {CX : World → CXT} {sp : World → Sp} {x : Str}
    (hn : l.most = some n) (hn2 : n ≤ sizeLine) (hdf : d.params.defaults = []) (hr : Room k callerA)
    (hY : ∀ (w : World) (h : Heap), YP w h → (K w.params).In h)
    (F : ∀ (w : World) (mg : Str → Option Value) (fa : Addr) (h : Heap), (K w.params).In h → h.Ns mainGlobals mg → mg d.name = some (.ref fa) →
      ∃ fd : FuncData, (∀ (s : Shared) (u : Value), BindsTo s fd ⟨[u], []⟩ [(x, u)]) ∧
        ∀ base : Heap, (K w.params).In base → base.Ns mainGlobals mg → FnOk l.prog w (K w.params) mg base (CX w) k fa fd [x] (sp w))
    (hsp : ∀ (w : World) (H : Hp) (a : Addr) (ns : List Int), ns.length ≤ n → Only H → SqL (K w.params) H a (ns.map V.int) → sp w [.ref a] H (fun v _ => v = .bl true) fun _ _ _ => False)
    (hCX : ∀ (w : World) (H : Hp) (s : Shared) (e : Value) (s' : Shared), CX w [] H s (fun _ _ _ => False) e s' → False) :
    PySem.W.WalkO q loose XP YP l.row.toRowW d [] (fun f vs => PySem.call f vs) := by
  refine Att.attach_call hn hdf fun w s₀ s₁ mg mb fa o pm cd doc a vs ns G Y ho hd hcd hmg hobj hints hlen hg => ?_
  have KX := hY w _ Y
  obtain ⟨fd, hb, hF⟩ := F w mg fa _ KX G.T.g hmg
  exact law_call KX G.T.g G.T.b G.T.builtins G.T.nolimit hg hobj hints (Nat.le_trans hlen hn2) hr hF hb (fun H hO hS => hsp w H a ns hlen hO hS) fun H e s' => hCX w H s₁ e s'
end L2
/- THE LAST THEOREM (shape; LID, My.* are yours):
   My.Adr: a structure of the addresses that your layer names (classes, functions); My.Txt K t: a structure (Prop) of the equations over K;
   My.txt_mk : {K} {implicit addresses ..} (e1 : nsIn K mainGlobals "law" = some (some (.ref f))) (e2 : K.lookup f = some ⟨oc, od, .func (fnOf "law" "law" params body scope dV kV doc pm an cdv ct), sl⟩) (e3 : codeIn K cdv "law" = true) .. : ∃ t, My.Txt K t
set_option maxRecDepth 100000 in
set_option maxHeartbeats 0 in
theorem PySem.Challenge.cw_LID_holds : PySem.Challenge.rw_LID.Holds := by
  w_on; o_law; k_head; (case hw => w_witness2)
  k_fill
  refine L2.walk_of (l := PySem.Challenge.rw_LID) (n := 63) (k := 40) (x := "script") (CX := fun w => ..) (sp := fun _ => My.sp_law) rfl (by decide) rfl ⟨rfl, by decide, by decide⟩ (fun w h Y => PySem.W.kIn_of Y) ?F ?S ?C
  case F =>
    intro w mg fa h KX G hmg
    have T : ∃ t, My.Txt (L2.KOf KX) t := by
      dsimp only [L2.KOf]                          -- K must stand as «<heap const> w.params» for k_is
      refine' My.txt_mk ?e1 ?e2 ?e3 ..
      (case e1 => PySem.W.k_is)                    -- in the order: a name -> its address -> its object -> its parts
      (case e2 => PySem.W.k_is)
      ..
    obtain ⟨t, T⟩ := T
    have e0 := hmg.symm.trans (PySem.W.mg_of KX G T.law)
    cases e0                                       -- fa is the law's own address
    exact ⟨_, fun s u => .of_eq rfl, fun base kb nb => My.law_fn T kb nb⟩     -- if «.of_eq rfl» comes too early: refine' ⟨_, ?b, fun base kb nb => My.law_fn T kb nb⟩; exact fun s u => .of_eq rfl
  case S => exact fun w H a ns hl hO hS => ..
  case C => exact ..
(the tactic k_is has no namespace: write k_is) -/
namespace L2
open PySem PySem.Spec PyProof.Rows
def defArgs (s : Stmt) : Arguments := match s with
  | .FunctionDef _ a _ _ _ _ _ _ _ _ => a
  | _ => { posonlyargs := [], args := [], vararg := none, kwonlyargs := [], kw_defaults := [], kwarg := none, defaults := [] }
def defBody (s : Stmt) : List Stmt := match s with
  | .FunctionDef _ _ b _ _ _ _ _ _ _ => b
  | _ => []
def defScope (s : Stmt) : Scope := match s with
  | .FunctionDef _ _ _ _ _ _ sc _ _ _ => sc
  | _ => { kind := .function, names := [], isGenerator := false, isCoroutine := false }
abbrev E0 : XK := fun _ _ _ => False
structure Fun (K : PySem.W.Frag) (x qual : Str) (st : Stmt) (f : Addr) (fd : FuncData) : Prop where
  ex : ∃ (oc : Value) (od : Option Addr) (kV doc pm : Value) (an : Option Addr) (cdv ct : Value) (osl : Array (Option Value)),
    fd = PySem.W.fnOf x qual (defArgs st) (defBody st) (defScope st) .none kV doc pm an cdv ct ∧ K.lookup f = some ⟨oc, od, .func fd, osl⟩ ∧ PySem.W.codeIn K cdv qual = true
  kp : PySem.W.keepIn K (.ref f) = true
section
variable {P : Program} {w : World} {K : PySem.W.Frag} {mg : Str → Option Value} {base : Heap}
theorem Fun.binds {x qual : Str} {st : Stmt} {f : Addr} {fd : FuncData} {ps : List Str} (F : Fun K x qual st f fd)
    (h : ∀ (kV doc pm : Value) (an : Option Addr) (cdv ct : Value) (us : List Value), us.length = ps.length → bindArgs (PySem.W.fnOf x qual (defArgs st) (defBody st) (defScope st) .none kV doc pm an cdv ct) ⟨us, []⟩ = pure (ps.zip us)) : Binds K fd ps [] := by
  obtain ⟨oc, od, kV, doc, pm, an, cdv, ct, osl, rfl, lk, hcd⟩ := F.ex
  exact .all (h kV doc pm an cdv ct)
theorem fun_mk {x qual : Str} {st : Stmt} {f : Addr} {oc : Value} {od an : Option Addr} {osl : Array (Option Value)} {kV doc pm cdv ct : Value} (l : K.lookup f = some ⟨oc, od, .func (PySem.W.fnOf x qual (defArgs st) (defBody st) (defScope st) .none kV doc pm an cdv ct), osl⟩)
    (c : PySem.W.codeIn K cdv qual = true) (k : PySem.W.keepIn K (.ref f) = true) : Fun K x qual st f (PySem.W.fnOf x qual (defArgs st) (defBody st) (defScope st) .none kV doc pm an cdv ct) := ⟨⟨oc, od, kV, doc, pm, an, cdv, ct, osl, rfl, l, c⟩, k⟩
end
section
variable {X : Cx}
end
def Same (H H' : Hp) : Prop := ∀ b o, H b = some o → H' b = some o
theorem Same.refl (H : Hp) : Same H H := fun _ _ h => h
theorem Same.trans {H H1 H2 : Hp} (a : Same H H1) (b : Same H1 H2) : Same H H2 := fun c o h => b c o (a c o h)
theorem Same.free {H H' : Hp} (e : Same H H') {l : Addr} (h : H' l = Option.none) : H l = Option.none := by
  cases q : H l with
  | none => rfl
  | some o =>
    rw [e l o q] at h
    cases h
theorem Same.seq {K : PySem.W.Frag} {H H' : Hp} {a : Addr} {xs : List V} (e : Same H H') (h : SqL K H a xs) : SqL K H' a xs := by
  rcases h with (h | ⟨o, h⟩) | h
  · exact .inl (.inl (e _ _ h))
  · exact .inl (.inr ⟨o, e _ _ h⟩)
  · exact .inr h
end L2
namespace L2
open PySem PySem.Spec PyProof.Rows
abbrev NoE : Value → Shared → Prop := fun _ _ => False
abbrev tests (ifs : List Expr) (env : Env) : Sem Bool := forIn ifs true fun c r => if r = true then do let ok ← isTrue c env (eval c env); pure (ForInStep.yield ok) else pure (ForInStep.yield r)
theorem never {α : Type} {t : Sem α} {Q : α → Shared → Prop} {M : Model} {A : Around} {E : Value → Shared → Prop} {s : Shared} (h : wpAny M A t Q NoE s) : wpAny M A t Q E s := wpAny_mono h (fun _ _ q => q) fun _ _ z => z.elim
theorem compLoop_go {prog : Program} {w : World} {A : Around} {R : Result → Shared → Prop} {s : Shared} {elt target iter : Expr} {ifs : List Expr} {scope : Scope} {pos : Pos} {it acc : Value} {env : Env} (I : Nat → Shared → Prop)
    (turn : ∀ n s, I n s → wpAny (model prog w) A (pyNext it) (fun r s₁ => match r with
      | none => R (.ok .next) s₁
      | some v => wpAny (model prog w) A (letOwnedTupleGo target it v) (fun _ s₁' => wpAny (model prog w) A (assign target env v) (fun _ s₂ =>
          wpAny (model prog w) A (tests ifs env) (fun ok s₃ =>
            if ok = true then wpAny (model prog w) A (eval elt env) (fun x s₄ =>
              wpAny (model prog w) A (call (.builtin "list.append") [acc, x]) (fun _ s₅ => ∃ m, m < n ∧ I m s₅) NoE s₄) NoE s₃
            else ∃ m, m < n ∧ I m s₃) NoE s₂) NoE s₁') NoE s₁) NoE s)
    (n : Nat) (h : I n s) : codeAny (model prog w) A (.compLoop (.ListComp elt [⟨target, iter, ifs, 0⟩] scope pos) 0 it acc env) R s := by
  refine codeAny_loop rfl I (fun n s hI => ?_) n h
  show wpAny _ A ((compTurn (.ListComp elt [⟨target, iter, ifs, 0⟩] scope pos) 0 it acc env).onRaise (fun x => do noteFrame x env; theTreesLotGoes x)) _ _ s
  refine wpAny_noted ?_
  rw [compTurn_list]
  refine wpAny_bind (wpAny_standAt (wpAny_bind (wpAny_mono (turn n s hI) (fun r s₁ h₁ => ?_) fun _ _ z => z.elim)))
  cases r with
  | none => exact wpAny_pure h₁
  | some v =>
    refine wpAny_bind (wpAny_mono h₁ (fun _ s₁' h₁' => ?_) fun _ _ z => z.elim)
    refine wpAny_bind (wpAny_mono h₁' (fun _ s₂ h₂ => wpAny_bind (wpAny_mono h₂ (fun ok s₃ h₃ => ?_) fun _ _ z => z.elim)) fun _ _ z => z.elim)
    cases ok with
    | false => exact wpAny_pure ⟨rfl, h₃⟩
    | true =>
      exact wpAny_bind (wpAny_bind (wpAny_mono h₃ (fun x s₄ h₄ => wpAny_bind (wpAny_mono h₄ (fun _ s₅ h₅ => wpAny_pure (wpAny_pure ⟨rfl, h₅⟩)) fun _ _ z => z.elim)) fun _ _ z => z.elim))
def clFrom (env : Env) : List (Str × NameKind) → List (Str × Addr) → List (Str × Addr)
  | [], cs => cs
  | (n, k) :: r, cs => clFrom env r (if k == .free then (n, (env.cells.lookup n).getD 0) :: cs else cs)
theorem closure_eq_aux {env : Env} : ∀ (names : List (Str × NameKind)) (cs : List (Str × Addr)), (∀ y ∈ names, y.2 = .free → ∃ c, env.cells.lookup y.1 = some c) →
    (forIn names cs fun (x : Str × NameKind) (r : List (Str × Addr)) => (match x with
      | (name, kind) => if (kind == NameKind.free) = true then (do let a ← cellOf env name; pure (ForInStep.yield ((name, a) :: r))) else pure (ForInStep.yield r) : Sem (ForInStep (List (Str × Addr))))) = pure (clFrom env names cs)
  | [], cs, _ => rfl
  | (n, k) :: r, cs, h => by
    have ih := fun cs' => closure_eq_aux (env := env) r cs' fun y hy => h y (List.mem_cons_of_mem _ hy)
    rw [List.forIn_cons]
    unfold clFrom
    cases hk : (k == NameKind.free) with
    | true =>
      obtain ⟨c, hc⟩ := h (n, k) List.mem_cons_self (by simpa using hk)
      dsimp only at hc
      simp only [hk, if_true]
      unfold cellOf
      rw [hc]
      simp only [pure_bind, Option.getD_some]
      exact ih _
    | false =>
      simp only [hk, Bool.false_eq_true, if_false, pure_bind]
      exact ih _
theorem closure_eq {scope : Scope} {env : Env} (h : ∀ y ∈ scope.names, y.2 = .free → ∃ c, env.cells.lookup y.1 = some c) : closureFor scope env = pure (clFrom env scope.names []) := by
  unfold closureFor
  have e := closure_eq_aux (env := env) scope.names [] h
  first
    | (simp only [bind_pure]; exact e)
    | (rw [bind_pure]; exact e)
    | (refine Eq.trans ?_ (Eq.trans (congrArg (fun m => m >>= fun r => pure r) e) (by simp)); rfl)
theorem clFrom_mem {env : Env} {x : Str} {c : Addr} : ∀ {names : List (Str × NameKind)} {cs : List (Str × Addr)}, (clFrom env names cs).lookup x = some c → cs.lookup x = some c ∨ ((x, NameKind.free) ∈ names ∧ c = (env.cells.lookup x).getD 0)
  | [], _, h => .inl h
  | (n, k) :: r, cs, h => by
    unfold clFrom at h
    rcases clFrom_mem h with q | ⟨q1, q2⟩
    · cases hk : (k == NameKind.free) with
      | true =>
        rw [hk] at q
        simp only [if_true, List.lookup_cons] at q
        cases hx : x == n with
        | true =>
          rw [hx] at q
          have e1 : x = n := by simpa using hx
          have e2 : k = .free := by simpa using hk
          subst e1 e2
          exact .inr ⟨List.mem_cons_self, (Option.some.inj q).symm⟩
        | false => rw [hx] at q; exact .inl q
      | false => rw [hk] at q; exact .inl (by simpa using q)
    · exact .inr ⟨List.mem_cons_of_mem _ q1, q2⟩
theorem clFrom_keep {env : Env} {x : Str} : ∀ {names : List (Str × NameKind)} {cs : List (Str × Addr)}, (∃ c, cs.lookup x = some c) → ∃ c, (clFrom env names cs).lookup x = some c
  | [], _, h => h
  | (n, k) :: r, cs, h => by
    unfold clFrom
    refine clFrom_keep ?_
    split
    · rw [List.lookup_cons]
      cases x == n with
      | true => exact ⟨_, rfl⟩
      | false => exact h
    · exact h
theorem clFrom_has {env : Env} {x : Str} : ∀ {names : List (Str × NameKind)} {cs : List (Str × Addr)}, (x, NameKind.free) ∈ names → ∃ c, (clFrom env names cs).lookup x = some c
  | (n, k) :: r, cs, h => by
    unfold clFrom
    rcases List.mem_cons.mp h with e | e
    · cases e
      refine clFrom_keep ⟨(env.cells.lookup x).getD 0, ?_⟩
      simp
    · exact clFrom_has e
theorem relabel_lookup {scope : Scope} {env : Env} {x : Str} : ((relabel scope env).names.lookup x) = (scope.names.lookup x).map fun k => if (k == .free && env.scope.kind == .function && env.kindOf x == some .cell) then NameKind.cell else k := by
  show ((scope.names.map fun (n, k) => if (k == NameKind.free && env.scope.kind == .function && env.kindOf n == some .cell) then (n, NameKind.cell) else (n, k)).lookup x) = _
  induction scope.names with
  | nil => rfl
  | cons p r ih =>
    obtain ⟨n, k⟩ := p
    rw [List.map_cons, List.lookup_cons (k := n)]
    dsimp only
    cases hx : x == n with
    | true =>
      have e : x = n := by simpa using hx
      subst e
      by_cases hc : (k == NameKind.free && env.scope.kind == .function && env.kindOf x == some .cell) = true
      · rw [if_pos hc, List.lookup_cons, beq_self_eq_true]
        show some NameKind.cell = some (if (k == NameKind.free && env.scope.kind == .function && env.kindOf x == some .cell) = true then NameKind.cell else k)
        rw [if_pos hc]
      · rw [if_neg hc, List.lookup_cons, beq_self_eq_true]
        show some k = some (if (k == NameKind.free && env.scope.kind == .function && env.kindOf x == some .cell) = true then NameKind.cell else k)
        rw [if_neg hc]
    | false =>
      by_cases hc : (k == NameKind.free && env.scope.kind == .function && env.kindOf n == some .cell) = true
      · rw [if_pos hc, List.lookup_cons, hx]; exact ih
      · rw [if_neg hc, List.lookup_cons, hx]; exact ih
theorem mem_of_lookup' {α β : Type} [BEq α] [LawfulBEq α] {x : α} {k : β} : ∀ {l : List (α × β)}, l.lookup x = some k → (x, k) ∈ l
  | (n, j) :: r, h => by
    rw [List.lookup_cons] at h
    cases hx : x == n with
    | true =>
      rw [hx] at h
      cases h
      rw [beq_iff_eq.mp hx]
      exact List.mem_cons_self
    | false => rw [hx] at h; exact List.mem_cons_of_mem _ (mem_of_lookup' h)
def blockChk (scF scB : Scope) (N : List Str) : Bool :=
  scB.names.all (fun y => (y.2 != .cell) && (y.2 != .free || scF.names.lookup y.1 == some .cell || scF.names.lookup y.1 == some .free) && (y.2 != .local || scB.names.lookup y.1 == some .local)) &&
  N.all (fun x => scB.names.lookup x != some .local) && scB.kind == .function
abbrev Cx.block (X : Cx) (scope : Scope) (ns : List Str) (C : Addr) (s : Shared) (H : Hp) (fp : List Addr) : Cx :=
  { X with N := X.N ++ ns, s₀ := s, H₀ := H, env := compEnvC scope (clFrom X.env scope.names []) C X.env, outer := X.stack, ex := fp, fn := fun _ => false, pn := [], xe := NoE }
section
variable {X : Cx} {scope : Scope} {ns : List Str} {pins : List (Addr × Obj)} {σ : St} {H : Hp} {s : Shared}
structure BlockOk (X : Cx) (scope : Scope) : Prop where
  clos : closureFor scope X.env = pure (clFrom X.env scope.names [])
  cell : ∀ y ∈ scope.names, y.2 ≠ .cell
  kind : scope.kind = .function
  names : ∀ y ∈ scope.names, y.2 = .local → scope.names.lookup y.1 = some .local
  sub : ∀ x c, (clFrom X.env scope.names []).lookup x = some c → X.env.cells.lookup x = some c
  has : ∀ x, ((relabel scope X.env).names.lookup x = some .cell ∨ (relabel scope X.env).names.lookup x = some .free) → ∃ c, (clFrom X.env scope.names []).lookup x = some c
  vis : ∀ x ∈ X.N, Vis (relabel scope X.env) x → ((relabel scope X.env).names.lookup x = some .cell ∨ (relabel scope X.env).names.lookup x = some .free) ∧ (X.env.kindOf x = some .cell ∨ X.env.kindOf x = some .free)
theorem blockOk (ok : X.Ok) (h : blockChk X.env.scope scope X.N = true) : BlockOk X scope := by
  unfold blockChk at h
  simp only [Bool.and_eq_true, List.all_eq_true, bne_iff_ne, Bool.or_eq_true, beq_iff_eq] at h
  obtain ⟨⟨h1, h2⟩, h3⟩ := h
  have fr : ∀ y ∈ scope.names, y.2 = .free → (X.env.kindOf y.1 = some .cell ∨ X.env.kindOf y.1 = some .free) := fun y hy e => by
    rcases (h1 y hy).1.2 with (q | q) | q
    · exact absurd e q
    · exact .inl q
    · exact .inr q
  have hc : ∀ y ∈ scope.names, y.2 = .free → ∃ c, X.env.cells.lookup y.1 = some c := fun y hy e => ok.has y.1 (fr y hy e)
  have back : ∀ x k, (relabel scope X.env).names.lookup x = some k → (k = .cell ∨ k = .free) → (x, NameKind.free) ∈ scope.names := fun x k e hk => by
    rw [relabel_lookup] at e
    cases q : scope.names.lookup x with
    | none => rw [q] at e; cases e
    | some j =>
      rw [q] at e
      have m := mem_of_lookup' q
      have e' : (if (j == .free && X.env.scope.kind == .function && X.env.kindOf x == some .cell) = true then NameKind.cell else j) = k := Option.some.inj e
      by_cases hj : j = .free
      · subst hj; exact m
      · have : (j == NameKind.free && X.env.scope.kind == .function && X.env.kindOf x == some .cell) = false := by
          have : (j == NameKind.free) = false := by simpa using hj
          rw [this]; rfl
        rw [this] at e'
        simp only [Bool.false_eq_true, if_false] at e'
        subst e'
        rcases hk with z | z
        · exact absurd z (h1 _ m).1.1
        · exact absurd z hj
  refine ⟨closure_eq hc, fun y hy => (h1 y hy).1.1, h3, fun y hy e => ?_, fun x c e => ?_, fun x e => ?_, fun x hx v => ?_⟩
  · rcases (h1 y hy).2 with q | q
    · exact absurd e q
    · exact q
  · rcases clFrom_mem e with q | ⟨q1, q2⟩
    · cases q
    · obtain ⟨c', h'⟩ := hc _ q1 rfl
      dsimp only at h'
      rw [h'] at q2
      rw [h', q2]; rfl
  · refine clFrom_has ?_
    rcases e with e | e
    · exact back x _ e (.inl rfl)
    · exact back x _ e (.inr rfl)
  · have nl := h2 x hx
    have fin : ((relabel scope X.env).names.lookup x = some .cell ∨ (relabel scope X.env).names.lookup x = some .free) := by
      rcases v with e | e | e
      · exfalso
        rw [relabel_lookup] at e
        cases q : scope.names.lookup x with
        | none => rw [q] at e; cases e
        | some j =>
          rw [q] at e
          have e' : (if (j == .free && X.env.scope.kind == .function && X.env.kindOf x == some .cell) = true then NameKind.cell else j) = .local := Option.some.inj e
          split at e'
          · cases e'
          · subst e'; exact nl q
      · exact .inl e
      · exact .inr e
    refine ⟨fin, ?_⟩
    have m : (x, NameKind.free) ∈ scope.names := by
      rcases fin with e | e
      · exact back x _ e (.inl rfl)
      · exact back x _ e (.inr rfl)
    exact fr _ m rfl
theorem block_ok {C : Addr} {fp : List Addr} (I : Inv X pins σ H s) (B : BlockOk X scope) (hC : s.heap.objs.size ≤ C) (hf : ∀ b ∈ fp, FpOk X pins H b ∧ b < s.heap.objs.size) : (X.block scope ns C s H fp).Ok := by
  have ok := I.ok
  refine ⟨ok.mod, B.kind, ok.glob, ok.blt, hC, fun x y c h1 h2 => ok.inj x y c (B.sub x c h1) (B.sub y c h2), fun x hx => B.has x hx, fun x c h _ => (by cases h), ok.hd, ok.frames, .inl rfl, fun b hb => ⟨?_, fun x c e => ?_⟩, I.bs,
    Nat.le_trans ok.bsz I.sz, fun b o e hb => ?_, fun b hb h => ?_, I.stack, I.stkFree⟩
  · exact Nat.ne_of_lt (Nat.lt_of_lt_of_le (hf b hb).2 hC)
  · exact (hf b hb).1.2.2.2.2.1 x c (B.sub x c e)
  · have h1 := (I.ok.bs b o e).1
    rcases (hf b hb).1.2.2.2.1 with z | z
    · exact I.ok.noex b o e z
    · exact absurd (Nat.lt_of_lt_of_le (Heap.lt_size h1) z) (Nat.lt_irrefl _)
  · obtain ⟨⟨_, f1, f2, _⟩, _⟩ := hf b hb
    rcases List.mem_cons.mp (I.stkSub b h) with z | z
    · exact f1 z
    · exact f2 z
end
def PTs (X : Cx) (ifs : List Expr) (t : TT) : Prop :=
  ∀ (pins : List (Addr × Obj)) (s : Shared) (σ : St) (H : Hp) (Q : Bool → Hp → Prop), Inv X pins σ H s → t σ H Q → wpAny (model X.prog X.w) X.A (tests ifs X.env) (TP X pins σ Q) X.xe s
def tYes : TT := fun _ H Q => Q true H
theorem pts_nil {X : Cx} : PTs X [] tYes := fun _ _ _ H _ I h => wpAny_tests_nil ⟨H, I, h⟩
theorem pts_one {X : Cx} {c : Expr} {tc : TT} (h : PT X c tc) : PTs X [c] tc := fun pins s σ H Q I q => wpAny_tests_one (h pins s σ H Q I q)
def CompW (J : It) (g : TG) (tc : TT) (te : TE) (D : Addr) (Q : VK) (σ0 : St) (H0 : Hp) : Prop :=
  ∃ W : Nat → Nat → List V → St → Hp → Prop, (∃ m, W 0 m [] σ0 (upd H0 D (.lst []))) ∧ ∀ i m vals σ1 H, W i m vals σ1 H → H D = some (.lst vals) ∧
    ((J.stop i H ∧ Q (.ref D) H) ∨ (J.go i H ∧ vals.length < sizeLine ∧ ∀ x H', J.yld i H x H' → g x σ1 H' fun σ2 H2 => tc σ2 H2 fun b H3 =>
      if b = true then te σ2 H3 fun v H4 => H4 D = some (.lst vals) ∧ ∃ m', m' < m ∧ W (i + 1) m' (vals ++ [v]) σ2 (upd H4 D (.lst (vals ++ [v])))
      else ∃ m', m' < m ∧ W (i + 1) m' vals σ2 H3))
def tComp (wi : TI) (g : TG) (tc : TT) (te : TE) (k : Nat) : TE := fun σ H Q => wi σ H fun J H1 => ∀ D, H1 D = none → CompW J g tc te D Q (σ ++ List.replicate k none) H1
section
variable {X : Cx} {scope : Scope} {ns : List Str} {tg iter elt : Expr} {ifs : List Expr} {pos : Pos} {wi : TI} {g : TG} {tc : TT} {te : TE} {pins : List (Addr × Obj)} {σ : St} {H2 : Hp} {s2 : Shared} {J : It} {fp : List Addr} {it : Addr} {tn : Nat → Heap → Prop}
theorem comp_core {Q : VK} {E : Value → Shared → Prop} {RR : Value → Addr → Result → Shared → Prop} (hc : X.calm = true) (B : BlockOk X scope)
    (hg : ∀ C s H fp, PG (X.block scope ns C s H fp) tg g) (ht : ∀ C s H fp, PTs (X.block scope ns C s H fp) ifs tc) (he : ∀ C s H fp, PE (X.block scope ns C s H fp) elt te)
    (I2 : Inv X pins σ H2 s2) (T : Turn X.prog X.w X.K tg J fp it tn) (st : tn 0 s2.heap) (hf : ∀ b ∈ fp, FpOk X pins H2 b) (h : ∀ D, H2 D = none → CompW J g tc te D Q (σ ++ List.replicate ns.length none) H2)
    (fin : ∀ D C s' H', Inv X pins σ H' s' → (∃ m, s'.heap.Ns C m) → FpOk X pins H' C → Q (.ref D) H' → RR (.ref D) C (.ok .next) s') :
    wpAny (model X.prog X.w) X.A (newList []) (fun acc s₃ => wpAny (model X.prog X.w) X.A (newFunctionEnv scope X.env.globals (clFrom X.env scope.names []) [] X.env.qual none .none (some X.env)) (fun cenv s₄ =>
      codeAny (model X.prog X.w) X.A (.compStart (.ListComp elt [⟨tg, iter, ifs, 0⟩] scope pos) 0 (.ref it) acc { cenv with scope := relabel scope X.env }) (RR acc cenv.locals) s₄) E s₃) E s2 := by
  refine wpAny_newObj_type (wpAny_newFunctionEnv B.cell (by intro y hy; simp at hy) (fun h₁ hns₁ hsb₁ => ?_) B.kind)
  dsimp only at hns₁ hsb₁ ⊢
  generalize hH2 : s2.heap.push { cls := .type "list", dict := none, data := .seq ([] : List Value).toArray } = G at hns₁ hsb₁ ⊢
  have hC : G.objs.size = s2.heap.objs.size + 1 := by rw [← hH2, Heap.size_push]
  have hDC : s2.heap.objs.size ≠ G.objs.size := by rw [hC]; exact Nat.ne_of_lt (Nat.lt_succ_self _)
  have hCle : s2.heap.objs.size ≤ G.objs.size := by rw [hC]; exact Nat.le_succ _
  have old : ∀ b o, s2.heap.get? b = some o → h₁.get? b = some o := fun b o e => hsb₁.extBut b o (Nat.ne_of_lt (Nat.lt_of_lt_of_le (Heap.lt_size e) hCle)) (Heap.get?_push_of_some _ (hH2 ▸ Heap.get?_push_of_some _ e))
  have hacc : h₁.get? s2.heap.objs.size = some { cls := .type "list", data := .seq ([] : List Value).toArray } := hsb₁.extBut _ _ hDC (Heap.get?_push_of_some _ (hH2 ▸ Heap.get?_push_size _ rfl))
  have hfresh : H2 s2.heap.objs.size = none := I2.fresh
  have hfb : ∀ b ∈ fp, FpOk X pins H2 b ∧ b < s2.heap.objs.size := fun b hb => ⟨hf b hb, by obtain ⟨o, e, _⟩ := T.obj _ _ st b hb; exact Heap.lt_size e⟩
  have ok : (X.block scope ns G.objs.size s2 H2 fp).Ok := block_ok I2 B hCle hfb
  obtain ⟨W, ⟨m0, w0⟩, turn⟩ := h s2.heap.objs.size hfresh
  have I0 : Inv (X.block scope ns G.objs.size s2 H2 fp) [] (σ ++ List.replicate ns.length none) (upd H2 s2.heap.objs.size (.lst [])) { s2 with heap := h₁, toks := s2.toks + ([] : List (Str × Value)).length } := by
    refine ⟨ok, rfl, I2.bare, Un.laid old (Nat.le_refl _) hfresh, ⟨_, hns₁, fun i x v e1 e2 e3 => ?_⟩, fun x c e => ?_, ?_, fun x c e => ?_, fun p hp => absurd (show p ∈ ([] : List (Addr × Obj)) from hp) (by simp), I2.hok.laid old (Nat.le_refl _) ⟨Nat.zero_le _, [], 0, .nil, hacc⟩, ?_⟩
    · -- a name of the def, seen through its cell
      have hi : i < σ.length := by
        rcases Nat.lt_or_ge i σ.length with z | z
        · exact z
        · rw [List.getElem?_append_right z, List.getElem?_replicate] at e2
          split at e2 <;> cases e2
      rw [List.getElem?_append_left hi] at e2
      have e1 : (X.N ++ ns)[i]? = some x := e1
      rw [List.getElem?_append_left (by rw [← I2.len]; exact hi)] at e1
      obtain ⟨k1, k2⟩ := B.vis x (List.mem_of_getElem? e1) e3
      obtain ⟨m, _, hl⟩ := I2.loc
      have hv : Vis X.env.scope x := by
        rcases k2 with z | z
        · exact .inr (.inl z)
        · exact .inr (.inr z)
      obtain ⟨u, r, l⟩ := hl i x v e1 e2 hv
      refine ⟨u, r, .inr ⟨k1, ?_⟩⟩
      rcases l with ⟨q, _⟩ | ⟨_, c, hc1, hc2⟩
      · rcases k2 with z | z
        · rw [z] at q; cases q
        · rw [z] at q; cases q
      · obtain ⟨c', hc'⟩ := B.has x k1
        have := B.sub x c' hc'
        rw [hc1] at this
        cases this
        obtain ⟨o, ho, hd⟩ := hc2
        exact ⟨c, hc', o, old c o ho, hd⟩
    · obtain ⟨v, o, ho, hd⟩ := I2.cell x c (B.sub x c e)
      exact ⟨v, o, old c o ho, hd⟩
    · show upd H2 s2.heap.objs.size (.lst []) G.objs.size = none
      rw [upd_ne (Ne.symm hDC)]
      exact I2.hok.fresh hCle
    · have hc0 := I2.freeC x c (B.sub x c e)
      obtain ⟨v, o, ho, hd⟩ := I2.cell x c (B.sub x c e)
      rw [upd_ne (Nat.ne_of_lt (Heap.lt_size ho))]
      exact hc0
    · show (σ ++ List.replicate ns.length none).length = (X.N ++ ns).length
      rw [List.length_append, List.length_append, List.length_replicate, I2.len]
  have stat : ∀ {H' : Hp}, (∀ b ∈ fp, H' b = none) → ∀ b ∈ fp, FpOk (X.block scope ns G.objs.size s2 H2 fp) [] H' b := fun hn b hb => by
    obtain ⟨_, f1, f2, f3, f4, f5⟩ := hf b hb
    refine ⟨hn b hb, Nat.ne_of_lt (Nat.lt_of_lt_of_le (hfb b hb).2 hCle), fun z => ?_, .inl hb, fun x c e => f4 x c (B.sub x c e), fun p hp => absurd (show p ∈ ([] : List (Addr × Obj)) from hp) (by simp)⟩
    rcases List.mem_cons.mp (I2.stkSub b z) with z | z
    · exact f1 z
    · exact f2 z
  have fr0 : ∀ b ∈ fp, upd H2 s2.heap.objs.size (.lst []) b = none := fun b hb => by
    rw [upd_ne (Nat.ne_of_lt (hfb b hb).2)]
    exact (hf b hb).1
  have loop : ∀ s₃ : Shared, s₃ = { s2 with heap := h₁, toks := s2.toks + ([] : List (Str × Value)).length } →
      codeAny (model X.prog X.w) X.A (.compLoop (.ListComp elt [⟨tg, iter, ifs, 0⟩] scope pos) 0 (.ref it) (.ref s2.heap.objs.size) (compEnvC scope (clFrom X.env scope.names []) G.objs.size X.env)) (RR (.ref s2.heap.objs.size) G.objs.size) s₃ := by
    rintro s₃ rfl
    refine compLoop_go (fun n s' => ∃ i vals σ1 H', Inv (X.block scope ns G.objs.size s2 H2 fp) [] σ1 H' s' ∧ tn i s'.heap ∧ (∀ b ∈ fp, H' b = none) ∧ W i n vals σ1 H') ?_ m0 ⟨0, [], _, _, I0, T.keep _ _ _ st fun b _ o e => old b o e, fr0, w0⟩
    rintro n s3 ⟨i, vals, σ1, H3, I3, st3, fr3, w3⟩
    obtain ⟨hD, cs⟩ := turn i n vals σ1 H3 w3
    rcases cs with ⟨stop, q⟩ | ⟨go, hsz, step⟩
    · refine thn (T.done (X.block scope ns G.objs.size s2 H2 fp) rfl rfl rfl hc i [] s3 σ1 H3 NoE I3 (stat fr3) st3 stop) fun r s4 ⟨hr, I4⟩ => ?_
      subst hr
      have I' : Inv X pins σ H3 s4 := I2.call' (ch := fp) I4.os I4.base I4.hok I4.bare fun b hb => by
        obtain ⟨_, f1, f2, f3, f4, f5⟩ := hf b hb
        exact ⟨f3, f1, f4, f5⟩
      obtain ⟨m4, hn4, _⟩ := I4.loc
      exact fin _ _ s4 H3 I' ⟨m4, hn4⟩ (I2.fpOk hCle I4.free) q
    · refine thn (T.item (X.block scope ns G.objs.size s2 H2 fp) rfl rfl rfl hc i [] s3 σ1 H3 NoE I3 (stat fr3) st3 go) fun r s4 ⟨u, hr, h4⟩ => ?_
      subst hr
      refine thn h4 fun _ s5 ⟨x, H5, I5, r5, y5, st5, fr5⟩ => ?_
      have I5' := I5.pinned (stat fr5) (T.obj _ _ st5)
      refine thn (hg G.objs.size s2 H2 fp _ s5 σ1 H5 x u _ I5' r5 (step x H5 y5)) fun _ s6 ⟨σ6, H6, I6, q6⟩ => ?_
      refine thn (ht G.objs.size s2 H2 fp _ s6 σ6 H6 _ I6 q6) fun b s7 ⟨H7, I7, q7⟩ => ?_
      have again : ∀ {s' : Shared} {σ' : St} {H' : Hp} {vs' : List V}, Inv (X.block scope ns G.objs.size s2 H2 fp) ([] ++ pinsAt fp s5.heap) σ' H' s' → (∃ m', m' < n ∧ W (i + 1) m' vs' σ' H') →
          ∃ m, m < n ∧ ∃ i vals σ1 H', Inv (X.block scope ns G.objs.size s2 H2 fp) [] σ1 H' s' ∧ tn i s'.heap ∧ (∀ b ∈ fp, H' b = none) ∧ W i m vals σ1 H' := fun {s' σ' H' vs'} I' ⟨m', hm, w'⟩ => by
        refine ⟨m', hm, i + 1, vs', σ', H', I'.unpinned, T.keep _ _ _ st5 fun b hb o e => (I'.pin (b, o) (List.mem_append_right _ (List.mem_append_right _ (mem_pinsAt hb e)))).1, fun b hb => ?_, w'⟩
        obtain ⟨o, e, d⟩ := T.obj _ _ st5 b hb
        exact (I'.pin (b, o) (List.mem_append_right _ (List.mem_append_right _ (mem_pinsAt hb e)))).2.1
      cases b with
      | false =>
        rw [if_neg Bool.false_ne_true] at q7
        rw [if_neg Bool.false_ne_true]
        exact again I7 q7
      | true =>
        rw [if_pos rfl] at q7
        rw [if_pos rfl]
        refine thn (he G.objs.size s2 H2 fp _ s7 σ6 H7 _ I7 q7) fun u8 s8 ⟨v8, H8, I8, r8, hD8, w8⟩ => ?_
        refine thn (mt_append (X := X.block scope ns G.objs.size s2 H2 fp) _ s8 σ6 H8 (.ref s2.heap.objs.size) [v8] (.ref s2.heap.objs.size) [u8] _ I8 rfl (.cons r8 .nil) ⟨_, vals, v8, rfl, rfl, hD8, hsz, w8⟩) fun _ s9 ⟨_, H9, I9, _, q9⟩ => again I9 q9
  exact codeAny_compStart_list (loop _ rfl) (T.self X.A 0 _ _ _ (T.keep _ _ _ st fun b _ o e => old b o e) (loop _ rfl))
theorem pe_comp (hc : X.calm = true) (chk : blockChk X.env.scope scope X.N = true) (hi : PI X tg iter wi)
    (hg : ∀ C s H fp, PG (X.block scope ns C s H fp) tg g) (ht : ∀ C s H fp, PTs (X.block scope ns C s H fp) ifs tc) (he : ∀ C s H fp, PE (X.block scope ns C s H fp) elt te)
    (hs : ∀ x, foldedSetIterable iter X.env x = pure x := by intro _; rfl) : PE X (.ListComp elt [⟨tg, iter, ifs, 0⟩] scope pos) (tComp wi g tc te ns.length) := by
  intro pins s σ H Q I h
  have B := blockOk I.ok chk
  rw [eval_ListComp]
  refine wpAny_comprehension_free (use := none) rfl hs B.clos B.kind B.names (thn (hi pins s σ H _ I h) fun v s1 h1 => thn h1 fun itv s2 h2 => ?_)
  obtain ⟨it, fp, tn, J, H2, e, I2, T, st2, f2, hW⟩ := h2
  subst e
  refine comp_core (Q := Q) (RR := fun acc C => compPost (model X.prog X.w) X.A X.xe none (EP X pins σ Q) acc C) hc B hg ht he I2 T st2 f2 hW fun D C s' H' I' hn fc q => ?_
  obtain ⟨m, hn⟩ := hn
  obtain ⟨c0, c1, c2, c3, c4, c5⟩ := fc
  exact ⟨m, hn, fun h' hs' => ⟨.ref D, H', I'.turned (t' := s'.toks) (fun b o hb e => hs'.extBut b o hb e) c0 c1 c3 c4 c5, rfl, q⟩⟩
theorem ps_setComp {i : Nat} {y : Str} {py spos : Pos} (hN : X.N.Nodup) (hi' : X.N[i]? = some y) (hy : Loc X.env.scope y) (hc : X.calm = true) (chk : blockChk X.env.scope scope X.N = true) (hi : PI X tg iter wi)
    (hg : ∀ C s H fp, PG (X.block scope ns C s H fp) tg g) (ht : ∀ C s H fp, PTs (X.block scope ns C s H fp) ifs tc) (he : ∀ C s H fp, PE (X.block scope ns C s H fp) elt te)
    (hsw : swapsWith (.ListComp elt [⟨tg, iter, ifs, 0⟩] scope pos) (some (.Name y py)) spos.line X.env = pure true := by rfl)
    (hs : ∀ x, foldedSetIterable iter X.env x = pure x := by intro _; rfl) (hf : X.fn y = true ∨ X.env.scope.names.lookup y = some .local := by first | exact .inl rfl | exact .inr rfl | assumption) :
    PS X (.Assign [.Name y py] (.ListComp elt [⟨tg, iter, ifs, 0⟩] scope pos) spos) (tAsg (tComp wi g tc te ns.length) (gName i)) := by
  intro pins s σ H D I h
  have B := blockOk I.ok chk
  rw [exec_Assign_Name_used _ _ _ _ hsw]
  refine wpAny_bind (wpAny_standAt (wpAny_bind ?_))
  show wpAny _ X.A (do let _ ← comprehension (.ListComp elt [⟨tg, iter, ifs, 0⟩] scope pos) scope X.env _ (newList []) false (eval iter X.env) (some (assign (.Name y py) X.env))) _ _ s
  refine wpAny_bind (wpAny_mono (wpAny_comprehension_free (use := some (assign (.Name y py) X.env)) (Q := fun _ s' => SP X pins D .next s') rfl hs B.clos B.kind B.names (thn (hi pins s σ H _ I h) fun v s1 h1 => thn h1 fun itv s2 h2 => ?_))
    (fun _ s' hq => wpAny_pure (wpAny_pure hq)) fun _ _ e => e)
  obtain ⟨it, fp, tn, J, H2, e, I2, T, st2, f2, hW⟩ := h2
  subst e
  refine comp_core (RR := fun acc C => compPost (model X.prog X.w) X.A X.xe (some (assign (.Name y py) X.env)) (fun _ s' => SP X pins D .next s') acc C) hc B hg ht he I2 T st2 f2 hW fun A C s' H' I' hn fc q => ?_
  obtain ⟨m, hn⟩ := hn
  obtain ⟨c0, c1, c2, c3, c4, c5⟩ := fc
  show wpAny _ X.A (assign (.Name y py) X.env (.ref A)) _ _ _
  refine wpAny_assign_Name (store_ok2 I' hN hi' hy (v := .ref A) rfl (fun s3 I3 hsb => ?_) hf)
  obtain ⟨a, hs3, ha⟩ := hsb
  have hCa : C ≠ a := by
    rcases ha with z | z
    · rw [z]; exact c1
    · exact fun w => c4 _ _ z w.symm
  refine ⟨m, hn.sameBut hs3 hCa, fun h' hs' => ?_⟩
  exact ⟨_, H', I3.turned (t' := s3.toks) (fun b o hb e => hs'.extBut b o hb e) c0 c1 c3 c4 c5, q⟩
end
end L2
namespace L2
open PySem PySem.Spec PyProof.Rows
theorem ObjOk.there {P : Program} {w : World} {H : Hp} {h : Heap} {a : Addr} {o : HO} (x : ObjOk P w H h a o) : ∃ u, h.get? a = some u := by
  cases o with
  | lst xs => obtain ⟨_, _, _, _, e⟩ := x; exact ⟨_, e⟩
  | tup xs => obtain ⟨_, _, _, o, e, _⟩ := x; exact ⟨_, e⟩
  | dK kvs => obtain ⟨_, _, _, _, o, _, _, e, _⟩ := x; exact ⟨_, e⟩
  | dT kvs => obtain ⟨_, _, _, _, o, _, _, e, _⟩ := x; exact ⟨_, e⟩
  | set S n => obtain ⟨o, _, _, _, e, _⟩ := x; exact ⟨_, e⟩
  | ins C dx fs => obtain ⟨_, _, _, e, _⟩ := x; exact ⟨_, e⟩
  | own y => obtain ⟨_, e⟩ := x; exact ⟨_, e⟩
  | xd fs => obtain ⟨_, ⟨_, _, _, e, _⟩, _⟩ := x; exact ⟨_, e⟩
  | rng lo hi => obtain ⟨_, _, _, e⟩ := x; exact ⟨_, e⟩
  | frz ob u => obtain ⟨e, _⟩ := x; exact ⟨_, e⟩
  | tbl ps => exact ⟨_, (show h.get? a = some _ from x)⟩
  | met f y => exact ⟨_, (show h.get? a = some _ from x)⟩
  | ext φ => obtain ⟨_, ⟨o, e⟩, _⟩ := x; exact ⟨_, e⟩
def CXm (P : Program) (w : World) : CXT := fun outer H s E e s' => ∃ (a : Addr) (C : Value) (t : Addr) (H' : Hp) (B : Heap), e = .ref a ∧ s'.os = s.os ∧ AllBare s'.gens ∧ Heap.FlyingW B outer a C (.ref t) s'.heap ∧ HOk P w H' B ∧
  Un (frs outer) [] H H' s.heap s'.heap ∧ (∀ b o, s.heap.get? b = some o → b ∉ frs outer → ∃ o', B.get? b = some o' ∧ (H b = none → o' = o)) ∧ s.heap.get? a = none ∧ E C none H'
theorem CXm.E0 {P : Program} {w : World} {outer : List Env} {H : Hp} {s s' : Shared} {e : Value} (h : CXm P w outer H s E0 e s') : False := by
  obtain ⟨a, C, t, H', B, _, _, _, _, _, _, _, _, z⟩ := h
  exact z
section
variable {P : Program} {w : World} {K : PySem.W.Frag} {mg : Str → Option Value} {base : Heap} {N : List Str} {qual : Str} {scope : Scope} {f : Addr} {cd : Value} {A : Around} {outer : List Env} {s₀ : Shared} {H₀ : Hp} {E : XK}
def Raises (X : Cx) (E : XK) : Prop := ∀ (pins : List (Addr × Obj)) (σ : St) (H : Hp) (s : Shared) (e C : Addr) (args : List Value) (h' : Heap), Inv X pins σ H s → Heap.MadeExcOf s.heap h' e (.ref C) args → E (.ref C) none H → X.xe (.ref e) { s with heap := h' }
theorem hide_frames {X : Cx} {pins : List (Addr × Obj)} {σ : St} {H : Hp} {s : Shared} (I : Inv X pins σ H s) : s.heap.FunFrames (PySem.W.hideAll s.heap (frs X.stack)) X.stack :=
  PySem.W.funFrames_hide I.stack fun env he b hb => List.mem_filterMap.mpr ⟨env, he, hb⟩
theorem hide_hok {X : Cx} {pins : List (Addr × Obj)} {σ : St} {H : Hp} {s : Shared} (I : Inv X pins σ H s) : HOk X.prog X.w H (PySem.W.hideAll s.heap (frs X.stack)) := fun a o e => by
  refine (I.hok a o e).stay (fun b u hb q => PySem.W.hideAll_get _ q fun hm => ?_) (fun _ q => q) fun _ _ q => q
  have n := I.stkFree b hm
  rcases hb with z | z
  · rw [z, e] at n; cases n
  · rw [z] at n; cases n
theorem Un.flight {H' H0 : Hp} {h h1 h2 B : Heap} {fs : List Addr} (u : Un fs [] H0 H' h h1) (up : h1.UpToSlots h2) (hB : B.StaysIn h2) (hd : ∀ b ∈ fs, ∀ o, h1.get? b = some o → ∀ vs, o.data ≠ .fields vs) (hf : ∀ b ∈ fs, H0 b = none)
    (kB : ∀ b o, h.get? b = some o → b ∉ fs → ∃ o', B.get? b = some o' ∧ (H0 b = none → o' = o)) : Un fs [] H0 H' h h2 := by
  refine ⟨fun b o e n hb _ => ?_, fun b o e n hb _ => ?_, u.free, fun b o e _ => ?_, u.tups, u.frzs, u.tbls⟩
  · obtain ⟨o', e', q⟩ := kB b o e hb
    rw [← q n]
    exact hB b o' e'
  · obtain ⟨sl, e1⟩ := u.slot b o e n hb (by simp)
    obtain ⟨sl', e2⟩ := up b _ e1 (hd b hb _ e1)
    exact ⟨sl', e2⟩
  · by_cases hb : b ∈ fs
    · obtain ⟨sl, e1⟩ := u.slot b o e (hf b hb) hb (by simp)
      obtain ⟨sl', e2⟩ := up b _ e1 (hd b hb _ e1)
      exact ⟨_, e2⟩
    · obtain ⟨o', e', _⟩ := kB b o e hb
      exact ⟨o', hB b o' e'⟩
theorem frames_data {h base' : Heap} {l : List Env} (F : h.FunFrames base' l) : ∀ b ∈ frs l, ∀ o, h.get? b = some o → ∀ vs, o.data ≠ .fields vs := fun b hb o e vs => by
  obtain ⟨_, o', e', d⟩ := F.mem hb
  rw [e] at e'
  cases e'
  exact d vs
theorem raises_def : Raises (cxOf (CXm P w) P w K mg base N qual scope f cd A outer s₀ H₀ E) E := by
  intro pins σ H s e C args h' I hx q
  have ho : ∀ b ∈ frs outer, b ∈ frs (cxOf (CXm P w) P w K mg base N qual scope f cd A outer s₀ H₀ E).stack := fun b hb => by
    show b ∈ frs (envOfC qual scope s₀.heap.objs.size f cd :: outer)
    unfold frs at hb ⊢
    rw [List.filterMap_cons]
    exact List.mem_cons_of_mem _ hb
  have nst : ∀ b, b < s₀.heap.objs.size → b ∉ frs outer → b ∉ frs (cxOf (CXm P w) P w K mg base N qual scope f cd A outer s₀ H₀ E).stack := fun b hb hn z => by
    rcases List.mem_cons.mp (I.stkSub b z) with q | q
    · exact absurd (Nat.lt_of_lt_of_le hb I.ok.above) (by rw [q]; exact Nat.lt_irrefl _)
    · exact hn q
  show wpAny (model P w) (A.deeper (envOfC qual scope s₀.heap.objs.size f cd)) (leaving (envOfC qual scope s₀.heap.objs.size f cd) (.ref e)) _ _ _
  refine wpAny_leaves_madeW (h := s.heap) (base := PySem.W.hideAll s.heap (frs (cxOf (CXm P w) P w K mg base N qual scope f cd A outer s₀ H₀ E).stack)) I.ok.frames rfl (fun b o q => PySem.W.of_hideAll _ q) (hide_frames I) hx fun h2 t fl tp nt up => ?_
  have kB : ∀ b o, s₀.heap.get? b = some o → b ∉ frs outer → ∃ o', (PySem.W.hideAll s.heap (frs (cxOf (CXm P w) P w K mg base N qual scope f cd A outer s₀ H₀ E).stack)).get? b = some o' ∧ (H₀ b = none → o' = o) := fun b o e hb => by
    obtain ⟨o', e'⟩ := I.base.there b o e (by simp [cxOf])
    refine ⟨o', PySem.W.hideAll_get _ e' (nst b (Heap.lt_size e) hb), fun n => ?_⟩
    have := I.base.keep b o e n hb (by simp [cxOf])
    rw [e'] at this
    exact Option.some.inj this
  refine ⟨e, .ref C, t, H, _, rfl, I.os, I.bare, fl, hide_hok I, ?_, kB, ?_, q⟩
  · have u1 : Un (frs outer) [] H₀ H s₀.heap h' := I.base.trans (Un.kept hx.keeps)
    refine u1.flight up fl.1 (fun b hb o e' => ?_) (fun b hb => I.ok.frf b hb) kB
    have fd := frames_data (I.stack) b (ho b hb)
    obtain ⟨_, o2, e2, _⟩ := I.stack.mem (ho b hb)
    have e3 := hx.keeps b o2 e2
    rw [e'] at e3
    cases e3
    exact fd o e2
  · cases z : s₀.heap.get? e with
    | none => rfl
    | some o =>
      obtain ⟨o', e'⟩ := I.base.there e o z (by simp [cxOf])
      rw [hx.new] at e'
      cases e'
theorem passes_def : Passes (CXm P w) (cxOf (CXm P w) P w K mg base N qual scope f cd A outer s₀ H₀ E) E := by
  intro pins σ H s e s' I h
  obtain ⟨a, C, t, H', B, rfl, os, bare, fl, hok, un, kB, new, q⟩ := h
  have I' : Inv (cxOf (CXm P w) P w K mg base N qual scope f cd A outer s₀ H₀ E) pins σ H' s' := I.call' (ch := []) os un (hok.kept fl.1) bare fun b z => absurd z (by simp)
  have ho : ∀ b ∈ frs outer, b ∈ frs (cxOf (CXm P w) P w K mg base N qual scope f cd A outer s₀ H₀ E).stack := fun b hb => by
    show b ∈ frs (envOfC qual scope s₀.heap.objs.size f cd :: outer)
    unfold frs at hb ⊢
    rw [List.filterMap_cons]
    exact List.mem_cons_of_mem _ hb
  have nst : ∀ b, b < s₀.heap.objs.size → b ∉ frs outer → b ∉ frs (cxOf (CXm P w) P w K mg base N qual scope f cd A outer s₀ H₀ E).stack := fun b hb hn z => by
    rcases List.mem_cons.mp (I.stkSub b z) with q | q
    · exact absurd (Nat.lt_of_lt_of_le hb I.ok.above) (by rw [q]; exact Nat.lt_irrefl _)
    · exact hn q
  show wpAny (model P w) (A.deeper (envOfC qual scope s₀.heap.objs.size f cd)) (leaving (envOfC qual scope s₀.heap.objs.size f cd) (.ref a)) _ _ _
  refine wpAny_leaves_onW I.ok.frames rfl fl fun h2 fl2 up => ?_
  have kB2 : ∀ b o, s₀.heap.get? b = some o → b ∉ frs outer → ∃ o', B.get? b = some o' ∧ (H₀ b = none → o' = o) := fun b o e hb => by
    obtain ⟨o1, e1⟩ := I.base.there b o e (by simp [cxOf])
    obtain ⟨o', e', q'⟩ := kB b o1 e1 (nst b (Heap.lt_size e) hb)
    refine ⟨o', e', fun n => ?_⟩
    have k1 := I.base.keep b o e n hb (by simp [cxOf])
    rw [e1] at k1
    cases k1
    exact q' (I.base.free b o e n (by simp [cxOf]))
  refine ⟨a, C, t, H', B, rfl, I'.os, I'.bare, fl2, hok, ?_, kB2, ?_, q⟩
  · have u1 : Un (frs outer) [] H₀ H' s₀.heap s'.heap := I'.base
    refine u1.flight up fl2.1 (fun b hb o e' => frames_data I'.stack b (ho b hb) o e') (fun b hb => I.ok.frf b hb) kB2
  · cases z : s₀.heap.get? a with
    | none => rfl
    | some o =>
      obtain ⟨o', e'⟩ := I.base.there a o z (by simp [cxOf])
      rw [new] at e'
      cases e'
end
def bmV : List Value := [.type "ValueError", .type "Exception", .type "BaseException", .type "object"]
structure ExcCls (K : PySem.W.Frag) (mg : Str → Option Value) (x : Str) (C : Addr) : Prop where
  bound : mg x = some (.ref C)
  exc : PySem.W.excIn K C bmV "ValueError.__new__" = true
theorem exc_obj {K : PySem.W.Frag} {h : Heap} {C : Addr} {bmB : List Value} {newId : String} (X : K.In h) (q : PySem.W.excIn K C bmB newId = true) :
    ∃ bm N nm q bs hdct sn sub ab col dd k0 k1 k2 k3 k5 mN, h.get? C = some (excClassObj nm q C N bs bm hdct sn sub ab col dd k0 k1 k2 k3 k5 newId) ∧ h.Ns N mN ∧ mN "__init__" = none ∧ OwnTail h bmB bm := by
  unfold PySem.W.excIn at q
  split at q
  · rename_i dd cd sl ho
    split at q
    · rename_i C' bm k0 k1 k2 k3 n k5 hm hs
      simp only [Bool.and_eq_true, beq_iff_eq, Bool.not_eq_true'] at q
      obtain ⟨⟨⟨⟨⟨rfl, rfl⟩, hdel⟩, ht⟩, hok⟩, hni⟩ := q
      obtain ⟨nm, bs, mro, ns, qn, hd, sn, sub, ab, col, del⟩ := cd
      dsimp only at hm hdel hok hni
      subst hm hdel
      have hsl : sl = #[k0, k1, k2, k3, some (.builtin n), k5] := by
        obtain ⟨l⟩ := sl
        simp only at hs
        rw [hs]
      subst hsl
      exact ⟨bm, ns, nm, qn, bs, hd, sn, sub, ab, col, dd, k0, k1, k2, k3, k5, _, X _ _ ho, .of_isNs (PySem.W.isNs_of_in X hok), PySem.W.nsMap_none_of_in X hok hni, PySem.W.tail_of_in X ht⟩
    · cases q
  · cases q
def tRaise (te : TE) (C : Addr) (E : XK) : TS := fun _ σ H => te σ H fun _ H1 => E (.ref C) none H1
theorem ps_raise {X : Cx} {x : Str} {C : Addr} {e₀ : Expr} {te : TE} {E : XK} {np cpos pos : Pos} (hc : X.calm = true) (hr : Raises X E) (hC : ExcCls X.K X.mg x C) (hg : Gl X x) (he : PE X e₀ te) (hd : (x == ("__debug__" : Str)) = false := by decide)
    (hst : starEach [e₀] X.env = [(false, eval e₀ X.env)] := by rfl) : PS X (.Raise (some (.Call (.Name x np) [e₀] [] cpos)) none pos) (tRaise te C E) := by
  intro pins s σ H D I h
  obtain ⟨tl, N, nm, q, bs, hdct, sn, sub, ab, col, dd, k0, k1, k2, k3, k5, mN, hCo, hN, hni, T⟩ := exc_obj (h := X.base) I.ok.mod.kin hC.exc
  refine wpAny_Raise_call_subT (C := C) (nm := nm) (q := q) (N := N) (bs := bs) (bm := tl) (hdct := hdct) (sn := sn) (sub := sub) (ab := ab) (col := col) (dd := dd) (k0 := k0) (k1 := k1) (k2 := k2) (k3 := k3) (k5 := k5)
    PySem.F.excBase_ValueError (mN := mN) (T.hasType PySem.F.excBase_ValueError.hasBase) (I.ok.hd hc) (by rw [hst]; rfl) hni (ld_glob I hg hC.bound ⟨rfl, ?_⟩ hd)
  rw [hst]
  refine Calls.evalArgs_plain (Calls.spliced_cons (thn (he pins s σ H _ I h) fun u s1 ⟨v, H1, I1, r1, q1⟩ => ?_))
  refine Calls.spliced_nil ⟨rfl, (by show 1 ≤ sizeLine; decide), I1.bk _ _ hCo, hN.keeps I1.bk, T.keeps I1.bk, fun h' e hx => hr pins σ H1 s1 e C _ h' I1 hx q1⟩
def PassesX (CX : CXT) (X : Cx) (Ex : St → XK) : Prop := ∀ (pins : List (Addr × Obj)) (σ : St) (H : Hp) (s : Shared) (e : Value) (s' : Shared), Inv X pins σ H s → CX X.stack H s (Ex σ) e s' → X.xe e s'
def tCallX (sp : Sp) (dvs : List V) (Ex : St → XK) (t : TA) : TE := fun σ H Q => t σ H fun vs H1 => sp (vs ++ dvs) H1 Q (Ex σ)
section
variable {X : Cx} {CX : CXT} {k : Nat} {f C : Addr} {fd : FuncData} {ps : List Str} {sp : Sp} {dvs : List V} {ds : List Value} {Ex : St → XK} {x m : Str} {p pos apos : Pos} {e o : Expr} {es : List Expr} {ta : TE} {t : TA}
theorem run_fnX {pins : List (Addr × Obj)} {σ : St} {H : Hp} {s : Shared} {Q : VK} {us : List Value} {vs : List V} (F : FnOk X.prog X.w X.K X.mg X.base CX k f fd ps sp) (hr : Room k X.A) (hb : Binds X.K fd ps ds) (hd : Vals dvs ds) (hx : PassesX CX X Ex)
    (I : Inv X pins σ H s) (r : Vals vs us) (h : sp (vs ++ dvs) H Q (Ex σ)) : wpAny (model X.prog X.w) X.A (call (.ref f) us) (EP X pins σ Q) X.xe s := by
  have r2 : Vals (vs ++ dvs) (us ++ ds) := r.append hd
  have hl : (us ++ ds).length = ps.length := by rw [← r2.length]; exact F.len _ _ _ _ h
  refine wpAny_call (codeAny_mono (F.run X.A X.stack s H ⟨us, []⟩ (us ++ ds) (vs ++ dvs) Q (Ex σ) hr I.env0 (hb s us I.kIn hl) r2 h) fun r s' hq => ?_)
  cases r with
  | error e => exact hx pins σ H s e s' I hq
  | ok fl =>
    cases fl with
    | ret u => exact I.after hq
    | next => exact False.elim hq
    | brk => exact False.elim hq
    | cont => exact False.elim hq
theorem pe_callX (F : FnOk X.prog X.w X.K X.mg X.base CX k f fd ps sp) (hr : Room k X.A) (hg : Gl X x) (hm : X.mg x = some (.ref f)) (hk : PySem.W.keepIn X.K (.ref f) = true) (hb : Binds X.K fd ps ds) (hd : Vals dvs ds) (hx : PassesX CX X Ex)
    (ha : PA X (e :: es) t) (hdb : (x == ("__debug__" : Str)) = false := by decide) (he : starEach (e :: es) X.env = (false, eval e X.env) :: starEach es X.env := by rfl) (hpl : (backTo pos (starEach es X.env)).any (·.1) = false := by rfl) :
    PE X (.Call (.Name x p) (e :: es) [] pos) (tCallX sp dvs Ex t) := by
  intro pins s σ H Q I h
  refine wpAny_Call_Name_kw (ld_glob I hg hm ?_ hdb)
  refine PySem.W.callWith_K (h₀ := X.base) I.ok.mod.kin hk (thn (ha pos pins s σ H _ I h) fun us s1 ⟨vs, H1, I1, r, q⟩ => ⟨I1.kIn, ?_⟩) he hpl
  exact run_fnX F hr hb hd hx I1 r q
end
section
variable {P : Program} {w : World} {K : PySem.W.Frag} {mg : Str → Option Value} {base : Heap}
theorem Fun.okM {x qual : Str} {st : Stmt} {f : Addr} {fd : FuncData} {N ps : List Str} {k : Nat} {sp : Sp} (F : Fun K x qual st f fd) (S : FnScope N ps (defScope st)) (len : ∀ vs H Q E, sp vs H Q E → vs.length = ps.length)
    (hbody : ∀ (cdv : Value) (A : Around) (outer : List Env) (s : Shared) (H : Hp) (vs : List V) (Q : VK) (E : XK), Room k (A.deeper (envOfC qual (defScope st) s.heap.objs.size f cdv)) → sp vs H Q E →
      ∃ t, PSs (cxOf (CXm P w) P w K mg base N qual (defScope st) f cdv A outer s H E) (defBody st) t ∧ t { nx := fun _ H' => Q .non H', rt := Q } (start N vs) H) : FnOk P w K mg base (CXm P w) (k + 1) f fd ps sp := by
  obtain ⟨oc, od, kV, doc, pm, an, cdv, ct, osl, rfl, lk, hcd⟩ := F.ex
  exact fn_of lk hcd S len fun A outer s H vs Q E hr hsp => hbody cdv A outer s H vs Q E hr hsp
end
def ExcO (a : Addr) (C : Value) : HO := .ext fun h => ∃ o vs, h.get? a = some o ∧ o.cls = C ∧ o.data = .fields vs
abbrev Cx.tryX (X : Cx) (pins : List (Addr × Obj)) (Ex : St → XK) : Cx :=
  { X with pn := X.pn ++ pins, xe := fun e s' => ∃ σ H s, Inv X pins σ H s ∧ CXm X.prog X.w X.stack H s (Ex σ) e s' }
abbrev Cx.inExc (X : Cx) (a : Addr) : Cx := { X with A := X.A.mark (some (.ref a)), calm := false, xe := NoE }
section
variable {X : Cx} {pins : List (Addr × Obj)} {σ : St} {H : Hp} {s : Shared} {Ex : St → XK}
theorem Cx.Ok.tryX (ok : X.Ok) : (X.tryX pins Ex).Ok := ⟨ok.mod, ok.kind, ok.glob, ok.blt, ok.above, ok.inj, ok.has, ok.cab, ok.hd, ok.frames, ok.stk, ok.exf, ok.bs, ok.bsz, ok.noex, ok.exfs, ok.funs, ok.frf⟩
theorem Inv.toTry (I : Inv X pins σ H s) (Ex : St → XK) : Inv (X.tryX pins Ex) [] σ H s := ⟨I.ok.tryX, I.os, I.bare, I.base, I.loc, I.cell, I.free, I.freeC, fun p hp => I.pin p (by simpa using hp), I.hok, I.len⟩
theorem Inv.ofTry {pins' : List (Addr × Obj)} (ok : X.Ok) (I : Inv (X.tryX pins Ex) pins' σ H s) : Inv X pins σ H s := ⟨ok, I.os, I.bare, I.base, I.loc, I.cell, I.free, I.freeC, fun p hp => I.pin p (List.mem_append_left _ hp), I.hok, I.len⟩
theorem passes_try (ok : X.Ok) : PassesX (CXm X.prog X.w) (X.tryX pins Ex) Ex := fun pins' σ H s e s' I h => ⟨σ, H, s, I.ofTry ok, h⟩
theorem Cx.Ok.inExc {a : Addr} (ok : X.Ok) (hm : (X.A.mark (some (.ref a))).frames = X.A.frames := by rfl) : (X.inExc a).Ok := ⟨ok.mod, ok.kind, ok.glob, ok.blt, ok.above, ok.inj, ok.has, ok.cab, fun h => (by cases h), hm.trans ok.frames, ok.stk, ok.exf, ok.bs, ok.bsz, ok.noex, ok.exfs, ok.funs, ok.frf⟩
theorem Inv.toExc {a : Addr} (I : Inv X pins σ H s) : Inv (X.inExc a) pins σ H s := ⟨I.ok.inExc, I.os, I.bare, I.base, I.loc, I.cell, I.free, I.freeC, I.pin, I.hok, I.len⟩
theorem Inv.ofExc {a : Addr} (ok : X.Ok) (I : Inv (X.inExc a) pins σ H s) : Inv X pins σ H s := ⟨ok, I.os, I.bare, I.base, I.loc, I.cell, I.free, I.freeC, I.pin, I.hok, I.len⟩
theorem Inv.unbound {i : Nat} {x : Str} {m : Str → Option Value} {v : Option Value} {h' : Heap} {t' : Nat} (I : Inv X pins σ H s) (hN : X.N.Nodup) (hi : X.N[i]? = some x)
    (hl : ∀ (i : Nat) (x : Str) (v : V), X.N[i]? = some x → σ[i]? = some (some v) → Vis X.env.scope x → ∃ u, RelV v u ∧ Look X.env s.heap m x u)
    (hn' : h'.Ns X.env.locals (fun y => if y = x then v else m y)) (hs : Heap.SameBut X.env.locals s.heap h') : Inv X pins (σ.set i none) H { s with heap := h', toks := t' } := by
  have cne := I.cne
  obtain ⟨mm, ⟨oL, _, _, hoL, _⟩, _⟩ := id I.loc
  have tracked : HOk X.prog X.w H h' := fun b ob e => by
    refine (I.hok b ob e).stay (fun c w' hc q => (hs.2 c ?_).trans q) (fun _ q => q) fun _ _ q => q
    rintro rfl
    have hfree := I.free
    rcases hc with rfl | hc
    · rw [hfree] at e; cases e
    · rw [hfree] at hc; cases hc
  refine ⟨I.ok, I.os, I.bare, ⟨fun b o e n hb hx => ?_, fun b o e n hb hx => ?_, I.base.free, fun b o e hx => ?_, I.base.tups, I.base.frzs, I.base.tbls⟩, ⟨_, hn', fun j y v' e1 e2 e3 => ?_⟩, fun y c e => ?_, I.free, I.freeC, fun p hp => ?_, tracked, by simpa using I.len⟩
  · exact (hs.2 b (Nat.ne_of_lt (Nat.lt_of_lt_of_le (Heap.lt_size e) I.ok.above))).trans (I.base.keep b o e n hb hx)
  · obtain ⟨sl, e1⟩ := I.base.slot b o e n hb hx
    exact ⟨sl, (hs.2 b (Nat.ne_of_lt (Nat.lt_of_lt_of_le (Heap.lt_size e) I.ok.above))).trans e1⟩
  · obtain ⟨o', e1⟩ := I.base.there b o e hx
    exact ⟨o', (hs.2 b (Nat.ne_of_lt (Nat.lt_of_lt_of_le (Heap.lt_size e) I.ok.above))).trans e1⟩
  · by_cases hj : j = i
    · subst hj
      rw [List.getElem?_set] at e2
      split at e2
      · split at e2 <;> cases e2
      · rename_i z; exact absurd rfl z
    · rw [List.getElem?_set_ne (Ne.symm hj)] at e2
      obtain ⟨u', r', q⟩ := hl j y v' e1 e2 e3
      refine ⟨u', r', ?_⟩
      rcases q with ⟨k, e⟩ | ⟨k, c, e, z⟩
      · refine .inl ⟨k, ?_⟩
        have : y ≠ x := fun e => hj (nodup_ix hN e1 (e ▸ hi))
        simp [this, e]
      · exact .inr ⟨k, c, e, z.sameBut hs (cne y c e)⟩
  · obtain ⟨w', z⟩ := I.cell y c e
    exact ⟨w', z.sameBut hs (cne y c e)⟩
  · obtain ⟨e, n, ne, nf, d⟩ := I.pin p hp
    exact ⟨(hs.2 p.1 ne).trans e, n, ne, nf, d⟩
theorem Inv.landed {a t : Addr} {C : Value} {H' : Hp} {B : Heap} {s' : Shared} {h2 : Heap} {tk : Nat} (I : Inv X pins σ H s) (os : s'.os = s.os) (bare : AllBare s'.gens) (fl : Heap.FlyingW B X.stack a C (.ref t) s'.heap) (hok : HOk X.prog X.w H' B) (un : Un (frs X.stack) [] H H' s.heap s'.heap)
    (kB : ∀ b o, s.heap.get? b = some o → b ∉ frs X.stack → ∃ o', B.get? b = some o' ∧ (H b = none → o' = o)) (hB : B.StaysIn h2) (up : s'.heap.UpToSlots h2) : Inv X pins σ H' { s' with heap := h2, toks := tk } := by
  have u2 : Un (frs X.stack) [] H H' s.heap h2 := un.flight up hB (fun b hb o e => frames_data fl.2.2.1 b hb o e) I.stkFree kB
  exact I.call' (s' := { s' with heap := h2, toks := tk }) (ch := []) os u2 (hok.kept hB) bare fun b z => absurd z (by simp)
theorem Inv.landedO {a t : Addr} {C : Value} {H' : Hp} {B : Heap} {s' : Shared} {h2 : Heap} {tk : Nat} (I : Inv X pins σ H s) (os : s'.os = s.os) (bare : AllBare s'.gens) (fl : Heap.FlyingW B X.stack a C (.ref t) s'.heap) (hok : HOk X.prog X.w H' B) (un : Un (frs X.stack) [] H H' s.heap s'.heap)
    (kB : ∀ b o, s.heap.get? b = some o → b ∉ frs X.stack → ∃ o', B.get? b = some o' ∧ (H b = none → o' = o)) (new : s.heap.get? a = none) (fl2 : Heap.FlyingW B X.stack a C (.ref t) h2) (up : s'.heap.UpToSlots h2) :
    Inv X pins σ (upd H' a (ExcO a C)) { s' with heap := h2, toks := tk } ∧ H' a = none := by
  have u2 : Un (frs X.stack) [] H H' s.heap h2 := un.flight up fl2.1 (fun b hb o e => frames_data fl.2.2.1 b hb o e) I.stkFree kB
  have na : H' a = none := by
    cases q : H' a with
    | none => rfl
    | some o =>
      obtain ⟨u, e⟩ := (hok a o q).there
      rw [fl.2.1] at e
      cases e
  have ne : ∀ b o, s.heap.get? b = some o → b ≠ a := fun b o e z => by rw [z, new] at e; cases e
  have neH : ∀ b o, H b = some o → b ≠ a := fun b o e => by
    obtain ⟨u, e'⟩ := (I.hok b o e).there
    exact ne b u e'
  have u3 : Un (frs X.stack) [] H (upd H' a (ExcO a C)) s.heap h2 := by
    refine ⟨u2.keep, u2.slot, fun b o e n hx => ?_, u2.there, fun b xs e => ?_, fun b o u e => ?_, fun b ps e => ?_⟩
    · rw [upd_ne (ne b o e)]; exact u2.free b o e n hx
    · rw [upd_ne (neH b _ e)]; exact u2.tups b xs e
    · rw [upd_ne (neH b _ e)]; exact u2.frzs b o u e
    · rw [upd_ne (neH b _ e)]; exact u2.tbls b ps e
  obtain ⟨oe, vs, he, hc, hd, _⟩ := fl2.first
  have hk2 : HOk X.prog X.w (upd H' a (ExcO a C)) h2 := fun b o e => by
    by_cases hb : b = a
    · subst hb
      rw [upd_same] at e
      cases e
      refine ⟨⟨oe, vs, he, hc, hd⟩, ⟨oe, he⟩, fun h1 h3 x k => ?_⟩
      obtain ⟨o, vs', q1, q2, q3⟩ := x
      exact ⟨o, vs', k o q1, q2, q3⟩
    · rw [upd_ne hb] at e
      have x := hok.kept fl2.1 b o e
      refine x.stay (fun _ _ _ q => q) (fun c q => ?_) fun c xs q => ?_
      · rw [upd_ne (ne_of_none q na)]; exact q
      · rw [upd_ne (ne_of_none q na)]; exact q
  exact ⟨I.call' (s' := { s' with heap := h2, toks := tk }) (ch := []) os u3 hk2 bare fun b z => absurd z (by simp), na⟩
end
def exOf (K : PySem.W.Frag) (CM : Addr) (i : Nat) (ts : TS) (D : Ends) : St → XK := fun σ C _ H' => PySem.W.exmOne K C (.ref CM) = some true ∧ ∀ a, H' a = none → ts { nx := fun σ' H2 => D.nx (σ'.set i none) H2, rt := D.rt, bk := fun σ' H2 => D.bk (σ'.set i none) H2, ct := fun σ' H2 => D.ct (σ'.set i none) H2 } (σ.set i (some (.ref a))) (upd H' a (ExcO a C))
def tTry (K : PySem.W.Frag) (CM : Addr) (i : Nat) (tb : (St → XK) → TS) (ts : TS) : TS := fun D σ H => tb (exOf K CM i ts D) D σ H
theorem ld_globA {X : Cx} {A : Around} {E : Value → Shared → Prop} {pins : List (Addr × Obj)} {s : Shared} {σ : St} {H : Hp} {x : Str} {u : Value} {pos : Pos} {Q : Value → Shared → Prop} (I : Inv X pins σ H s) (hg : Gl X x) (hm : X.mg x = some u) (h : Q u s)
    (hd : (x == ("__debug__" : Str)) = false := by decide) : wpAny (model X.prog X.w) A (eval (.Name x pos) X.env) Q E s :=
  Calls.Name_function_global I.ok.kind hg (Calls.loadGlobal_global (by rw [I.ok.glob]; exact I.mod.glob.keeps I.bk) hm h) hd
theorem ps_try {X : Cx} {M n : Str} {CM : Addr} {i : Nat} {body : List Stmt} {b₀ : Stmt} {suite : List Stmt} {np hpos pos : Pos} {tb : (St → XK) → TS} {ts : TS} (hN : X.N.Nodup) (hi : X.N[i]? = some n) (hn : X.env.scope.names.lookup n = some .local) (hg : Gl X M) (hM : X.mg M = some (.ref CM))
    (hb : ∀ pins Ex, X.Ok → PSs (X.tryX pins Ex) body (tb Ex)) (hs : ∀ a, PSs (X.inExc a) (b₀ :: suite) ts) (hd : (M == ("__debug__" : Str)) = false := by decide) (hf : X.env.frame = some X.env.locals := by rfl) (hst : X.stack = X.env :: X.outer := by rfl) :
    PS X (.Try body [.ExceptHandler (some (.Name M np)) (some n) (b₀ :: suite) hpos] [] [] pos) (tTry X.K CM i tb ts) := by
  intro pins s σ H D I h
  refine wpAny_Try_except (wpAny_mono (hb pins _ I.ok [] s σ H D (I.toTry _) h) (fun fl s1 q => ?_) fun e s1 q => ?_)
  · cases fl with
    | next =>
      obtain ⟨σ', H', I', q⟩ := q
      exact wpAny_execs_nil ⟨σ', H', I'.ofTry I.ok, q⟩
    | brk => obtain ⟨σ', H', I', q⟩ := q; exact ⟨σ', H', I'.ofTry I.ok, q⟩
    | cont => obtain ⟨σ', H', I', q⟩ := q; exact ⟨σ', H', I'.ofTry I.ok, q⟩
    | ret u => obtain ⟨v, σ', H', I', r, q⟩ := q; exact ⟨v, σ', H', I'.ofTry I.ok, r, q⟩
  · obtain ⟨σ0, H0, s0, I0, a, C, t, H', B, rfl, os, bare, fl, hok, un, kB, new, hm, hq⟩ := q
    have fl' : Heap.FlyingW B (X.env :: X.outer) a C (.ref t) s1.heap := by rw [← hst]; exact fl
    have hfr : X.A.frames = some (X.env :: X.outer) := by rw [← hst]; exact I.ok.frames
    refine wpAny_looks_onW hfr hf fl' fun h4 held4 up4 => ?_
    refine wpAny_landsW held4 fun h5 fl5 up5 => ?_
    have fl5' : Heap.FlyingW B X.stack a C (.ref t) h5 := by rw [hst]; exact fl5
    have up45 := up4.trans up5
    have I5 : Inv X pins σ0 H' { s1 with heap := h5, toks := s1.toks } := I0.landed os bare fl hok un kB fl5.1 up45
    refine wpAny_handleBy_cons (codeAny_handlers_test (ld_globA I5 hg hM ?_ hd)) (by intro z; cases z)
    obtain ⟨ob, hob, hobc⟩ := fl5.there
    have LT : PySem.W.Looks (model X.prog X.w) h5 (typeOf (.ref a)) C := hobc ▸ (PySem.W.Looks.ld hob).andThen .now
    refine (PySem.W.exm_one (M := model X.prog X.w) (h := h5) I5.kIn LT hm).here ?_
    show codeAny _ _ (.handlers (.ref a) [.ExceptHandler none (some n) (b₀ :: suite) hpos] X.env) _ _
    refine codeAny_handlers_suite_as ?_
    refine lands_againW fl5 fun h6 fl6 up6 => ?_
    have fl6' : Heap.FlyingW B X.stack a C (.ref t) h6 := by rw [hst]; exact fl6
    obtain ⟨I6, na⟩ := I0.landedO (tk := s1.toks) os bare fl hok un kB new fl6' (up45.trans up6)
    refine store_ok I6 hN hi (.inl hn) (v := .ref a) rfl (fun s7 I7 => ?_) (.inr hn)
    refine never (thn (hs a pins s7 _ _ _ I7.toExc (hq a na)) fun f8 s8 q8 => ?_)
    have goes : ∀ {σ8 : St} {H8 : Hp} {Q : Unit → Shared → Prop}, Inv (X.inExc a) pins σ8 H8 s8 → (∀ s9, Inv X pins (σ8.set i none) H8 s9 → Q () s9) → wpAny (model X.prog X.w) X.A (do bindName X.env n .none; unbindBehindTheSuite X.env n hpos) Q X.xe s8 := fun {σ8 H8 Q} I8 k => by
      have J8 := I8.ofExc I.ok
      obtain ⟨m8, hn8, hl8⟩ := id J8.loc
      refine wpAny_nameGoes_keeps hn hn8 (by rw [J8.ok.kind]; rfl) fun h9 v9 hn9 hs9 => k _ (J8.unbound hN hi hl8 hn9 hs9)
    cases f8 with
    | next => obtain ⟨σ8, H8, I8, q8⟩ := q8; exact goes I8 fun s9 I9 => ⟨_, H8, I9, q8⟩
    | brk => obtain ⟨σ8, H8, I8, q8⟩ := q8; exact goes I8 fun s9 I9 => ⟨_, H8, I9, q8⟩
    | cont => obtain ⟨σ8, H8, I8, q8⟩ := q8; exact goes I8 fun s9 I9 => ⟨_, H8, I9, q8⟩
    | ret u => obtain ⟨v8, σ8, H8, I8, r8, q8⟩ := q8; exact goes I8 fun s9 I9 => ⟨v8, _, H8, I9, r8, q8⟩
end L2
namespace SetPure
open PySem
def pl (p : Nat → Bool) : List Nat := (List.range 7).filter p
def bp (bs : List Bool) : Nat → Bool := fun i => bs.getD i false
def tb (mask : Nat) (p : Nat → Bool) (fin : Nat) (led : Bool) (mov : Nat) : SetTable := { mask := mask, place := (pl p).toArray, dummies := #[], finger := fin, led := led, moves := mov, plain := true }
def hs (p : Nat → Bool) : Array Int := ((pl p).map Int.ofNat).toArray
def rank (p : Nat → Bool) (h : Nat) : Nat := ((List.range h).filter p).length
def orP (p : Nat → Bool) (h : Nat) : Nat → Bool := fun i => p i || i == h
def allB (P : List Bool → Bool) : Bool := [false, true].all fun b0 => [false, true].all fun b1 => [false, true].all fun b2 => [false, true].all fun b3 => [false, true].all fun b4 => [false, true].all fun b5 => [false, true].all fun b6 => P [b0, b1, b2, b3, b4, b5, b6]
theorem allB_of {P : List Bool → Bool} (h : allB P = true) (p : Nat → Bool) : P [p 0, p 1, p 2, p 3, p 4, p 5, p 6] = true := by
  have key : ∀ (f : Bool → Bool), ([false, true].all f) = true → ∀ b, f b = true := fun f hf b => by
    simp only [List.all_cons, List.all_nil, Bool.and_true, Bool.and_eq_true] at hf
    cases b
    · exact hf.1
    · exact hf.2
  exact key _ (key _ (key _ (key _ (key _ (key _ (key _ h (p 0)) (p 1)) (p 2)) (p 3)) (p 4)) (p 5)) (p 6)
theorem bp_eq (p : Nat → Bool) {i : Nat} (h : i < 7) : bp [p 0, p 1, p 2, p 3, p 4, p 5, p 6] i = p i := by
  match i, h with
  | 0, _ => rfl
  | 1, _ => rfl
  | 2, _ => rfl
  | 3, _ => rfl
  | 4, _ => rfl
  | 5, _ => rfl
  | 6, _ => rfl
theorem pl_bp (p : Nat → Bool) : pl (bp [p 0, p 1, p 2, p 3, p 4, p 5, p 6]) = pl p := List.filter_congr fun i hi => bp_eq p (List.mem_range.mp hi)
theorem rank_bp (p : Nat → Bool) {h : Nat} (hh : h < 7) : rank (bp [p 0, p 1, p 2, p 3, p 4, p 5, p 6]) h = rank p h := by
  unfold rank
  congr 1
  exact List.filter_congr fun i hi => bp_eq p (Nat.lt_trans (List.mem_range.mp hi) hh)
theorem pl_orP_bp (p : Nat → Bool) (h : Nat) : pl (orP (bp [p 0, p 1, p 2, p 3, p 4, p 5, p 6]) h) = pl (orP p h) := List.filter_congr fun i hi => by unfold orP; rw [bp_eq p (List.mem_range.mp hi)]
def masks : List Nat := [7, 15, 31]
def chkBelow : Bool := allB fun bs => (List.range 7).all fun h => (SetTable.below (pl (bp bs)).toArray h == rank (bp bs) h) && ((pl (bp bs)).toArray[rank (bp bs) h]? == some h) == bp bs h
theorem chkBelow_ok : chkBelow = true := by decide +kernel
theorem below_tb (p : Nat → Bool) {h : Nat} (hh : h < 7) : SetTable.below (pl p).toArray h = rank p h ∧ ((pl p).toArray[rank p h]? == some h) = p h := by
  have q := allB_of chkBelow_ok p
  skip
  have q := List.all_eq_true.mp q h (List.mem_range.mpr hh)
  rw [pl_bp, rank_bp p hh, bp_eq p hh] at q
  simp only [Bool.and_eq_true, beq_iff_eq] at q
  exact ⟨q.1, by have := q.2; cases hp : p h <;> simp_all⟩
theorem slot_tb {mask : Nat} {p : Nat → Bool} {fin : Nat} {led : Bool} {mov : Nat} {h : Nat} (hh : h < 7) (hp : p h = false) : (tb mask p fin led mov).slot h = .empty := by
  obtain ⟨e1, e2⟩ := below_tb p hh
  unfold SetTable.slot
  dsimp only
  show (if ((pl p).toArray[SetTable.below (pl p).toArray h]? == some h) = true then _ else _) = _
  rw [e1, e2, hp]
  rfl
theorem bits_small {h : Nat} (hh : h < 7) : SetTable.bits (h : Int) = h := by
  unfold SetTable.bits
  omega
theorem freeSlot_tb {mask : Nat} {p : Nat → Bool} {fin : Nat} {led : Bool} {mov : Nat} {h : Nat} (hm : mask ∈ masks) (hh : h < 7) (hp : p h = false) : (tb mask p fin led mov).freeSlot (h : Int) = some (h, false) := by
  have hs := slot_tb (mask := mask) (fin := fin) (led := led) (mov := mov) hh hp
  have hmm : h % (mask + 1) = h := by
    simp only [masks, List.mem_cons, List.not_mem_nil, or_false] at hm
    rcases hm with rfl | rfl | rfl <;> omega
  unfold SetTable.freeSlot SetTable.probe
  have hf : ∃ n, 10 * SetTable.turns (tb mask p fin led mov).mask = n + 1 := ⟨10 * SetTable.turns mask - 1, by show 10 * (mask + 15) = 10 * (mask + 15) - 1 + 1; omega⟩
  obtain ⟨n, hn⟩ := hf
  rw [hn]
  have hj : (SetTable.probeStart (tb mask p fin led mov) (h : Int)).j = h := by
    show SetTable.bits (h : Int) % (mask + 1) = h
    rw [bits_small hh, hmm]
  have hd : (SetTable.probeStart (tb mask p fin led mov) (h : Int)).dummy = none := rfl
  unfold SetTable.probe.go
  rw [hj, hs, hd]
  rfl
def chkPut : Bool := allB fun bs => (List.range 7).all fun h => bp bs h || SetTable.insertAt (pl (bp bs)).toArray (rank (bp bs) h) h == (pl (orP (bp bs) h)).toArray
theorem chkPut_ok : chkPut = true := by decide +kernel
theorem put_tb {mask : Nat} {p : Nat → Bool} {fin : Nat} {led : Bool} {mov : Nat} {h : Nat} (hh : h < 7) (hp : p h = false) : (tb mask p fin led mov).put h = (tb mask (orP p h) fin led mov, rank p h) := by
  have q := allB_of chkPut_ok p
  skip
  have q := List.all_eq_true.mp q h (List.mem_range.mpr hh)
  rw [pl_bp, rank_bp p hh, bp_eq p hh, pl_orP_bp, hp, Bool.false_or, beq_iff_eq] at q
  unfold SetTable.put
  dsimp only
  show (({ tb mask p fin led mov with place := SetTable.insertAt (pl p).toArray (SetTable.below (pl p).toArray h) h, dummies := _ } : SetTable), SetTable.below (pl p).toArray h) = _
  rw [(below_tb p hh).1, q]
  rfl
def chkLaid : Bool := masks.all fun m => allB fun bs => (SetTable.laid m 0 0 true true (hs (bp bs))).map (fun r => (r.1.place, r.2)) == some ((pl (bp bs)).toArray, Array.range (pl (bp bs)).length)
theorem chkLaid_ok : chkLaid = true := by decide +kernel
theorem laid_tb {m : Nat} (hm : m ∈ masks) (p : Nat → Bool) (fin mov : Nat) (led : Bool) : SetTable.laid m fin mov led true (hs p) = some (tb m p fin led mov, Array.range (pl p).length) := by
  have q := List.all_eq_true.mp chkLaid_ok m hm
  skip
  have q := allB_of q p
  skip
  have eh : hs (bp [p 0, p 1, p 2, p 3, p 4, p 5, p 6]) = hs p := by unfold hs; rw [pl_bp]
  rw [eh, pl_bp, beq_iff_eq] at q
  unfold SetTable.laid at q ⊢
  cases e : SetTable.layClean m (hs p) with
  | none => rw [e] at q; cases q
  | some ow =>
    rw [e] at q
    simp only [Option.bind_eq_bind, Option.bind_some, Option.map_some, Option.some.injEq, Prod.mk.injEq, Option.pure_def] at q ⊢
    obtain ⟨q1, q2⟩ := q
    refine ⟨?_, q2⟩
    unfold tb
    rw [q1]
theorem len_pl (p : Nat → Bool) : (pl p).length ≤ 7 := by
  have := List.length_filter_le p (List.range 7)
  simpa [pl] using this
theorem len_orP {p : Nat → Bool} {h : Nat} (hh : h < 7) (hp : p h = false) : (pl (orP p h)).length = (pl p).length + 1 := by
  have q := allB_of chkPut_ok p
  skip
  have q := List.all_eq_true.mp q h (List.mem_range.mpr hh)
  rw [pl_bp, rank_bp p hh, bp_eq p hh, pl_orP_bp, hp, Bool.false_or, beq_iff_eq] at q
  have hr : rank p h ≤ (pl p).length := by
    obtain ⟨e1, _⟩ := below_tb p hh
    unfold rank pl
    have h7 : h + (7 - h) = 7 := by omega
    have : List.range 7 = List.range h ++ (List.range' h (7 - h)) := by
      have q := List.range'_append_1 (s := 0) (m := h) (n := 7 - h)
      rw [h7, Nat.zero_add] at q
      rw [List.range_eq_range', List.range_eq_range']
      exact q.symm
    rw [this, List.filter_append, List.length_append]
    exact Nat.le_add_right _ _
  have e := congrArg Array.size q
  unfold SetTable.insertAt at e
  simp only [Array.size_append, Array.size_push, Array.size_extract, List.size_toArray] at e
  omega
end SetPure
namespace SetPure
open PySem
abbrev bt (w : World) : Bool := w.params.followText "set-order"
def Elems (p : Nat → Bool) (es : Array (Int × Value)) : Prop := Paired (fun (i : Nat) (e : Int × Value) => e.1 = (i : Int) ∧ ∃ t, e.2 = .int i t) (pl p) es.toList
def smallObj (w : World) (es : Array (Int × Value)) (ep mask : Nat) (p : Nat → Bool) (fin mov : Nat) : Obj := { cls := .type "set", dict := none, data := .set es ep (tb mask p fin (!bt w) mov) }
def IsSmall (w : World) (h : Heap) (a : Addr) (p : Nat → Bool) : Prop := ∃ es ep mask fin mov, h.get? a = some (smallObj w es ep mask p fin mov) ∧ Elems p es ∧ mask ∈ masks ∧ (mask = 7 → (pl p).length ≤ 4)
theorem hash_small {i : Nat} (h : i < 7) : hashInt (i : Int) = i := by
  match i, h with
  | 0, _ => decide
  | 1, _ => decide
  | 2, _ => decide
  | 3, _ => decide
  | 4, _ => decide
  | 5, _ => decide
  | 6, _ => decide
theorem mem_pl {p : Nat → Bool} {i : Nat} : i ∈ pl p ↔ i < 7 ∧ p i = true := by
  unfold pl
  rw [List.mem_filter, List.mem_range]
theorem Elems.size {p : Nat → Bool} {es : Array (Int × Value)} (h : Elems p es) : es.size = (pl p).length := by rw [← Array.length_toList]; exact (Paired.length h).symm
theorem paired_mem {α β : Type} {F : α → β → Prop} : ∀ {l : List α} {m : List β}, Paired F l m → ∀ b ∈ m, ∃ a ∈ l, F a b
  | _, _, .nil, _, h => by simp at h
  | _, _, .cons (a := x) (b := y) (l₁ := l) (l₂ := m) r t, b, h => by
    rcases List.mem_cons.mp h with e | e
    · subst e; exact ⟨x, List.mem_cons_self, r⟩
    · obtain ⟨a, ha, q⟩ := paired_mem t b e
      exact ⟨a, List.mem_cons_of_mem _ ha, q⟩
theorem paired_mem' {α β : Type} {F : α → β → Prop} : ∀ {l : List α} {m : List β}, Paired F l m → ∀ a ∈ l, ∃ b ∈ m, F a b
  | _, _, .nil, _, h => by simp at h
  | _, _, .cons (a := x) (b := y) (l₁ := l) (l₂ := m) r t, b, h => by
    rcases List.mem_cons.mp h with e | e
    · subst e; exact ⟨y, List.mem_cons_self, r⟩
    · obtain ⟨a, ha, q⟩ := paired_mem' t b e
      exact ⟨a, List.mem_cons_of_mem _ ha, q⟩
theorem Elems.elems {p : Nat → Bool} {es : Array (Int × Value)} (h : Elems p es) (prog : Program) (w : World) : ElemsOf (intKind prog w) es.toList := fun e he => by
  obtain ⟨i, hi, h1, t, h2⟩ := paired_mem h e he
  have hi7 := (mem_pl.mp hi).1
  refine ⟨⟨(i : Int), ?_, ?_⟩, ?_⟩
  · rw [h2]; exact intKind_is _ _ _ _
  · rw [h1]; exact (hash_small hi7).symm
  · rw [h2]; rfl
theorem fits_tb {mask : Nat} {p : Nat → Bool} {fin : Nat} {led : Bool} {mov n : Nat} (hn : n = (pl p).length) (hm : (pl p).length ≤ mask) : (tb mask p fin led mov).fits n = true := by
  unfold SetTable.fits
  have h1 : (tb mask p fin led mov).place.size = (pl p).length := by show ((pl p).toArray).size = _; simp
  have h2 : (tb mask p fin led mov).fill = (pl p).length := by show ((pl p).toArray).size + 0 = _; simp
  rw [h1, h2, hn]
  simp only [beq_self_eq_true, Bool.true_and, decide_eq_true_eq]
  exact hm
theorem mask_ge {mask : Nat} (h : mask ∈ masks) : 7 ≤ mask := by
  simp only [masks, List.mem_cons, List.not_mem_nil, or_false] at h
  rcases h with rfl | rfl | rfl <;> decide
theorem fits_of {mask : Nat} {p : Nat → Bool} {fin : Nat} {led : Bool} {mov n : Nat} (hn : n = (pl p).length) (hm : mask ∈ masks) : (tb mask p fin led mov).fits n = true := fits_tb hn (Nat.le_trans (len_pl p) (mask_ge hm))
theorem paired_insert {α β : Type} {F : α → β → Prop} {x : α} {y : β} (r : F x y) : ∀ {l : List α} {m : List β} (k : Nat), Paired F l m → Paired F (l.take k ++ x :: l.drop k) (m.take k ++ y :: m.drop k)
  | _, _, 0, h => by simpa using Paired.cons r h
  | _, _, _ + 1, .nil => by simpa using Paired.cons r .nil
  | _, _, k + 1, .cons q t => by simpa using Paired.cons q (paired_insert r k t)
theorem insertAt_toList {α : Type} (xs : Array α) (k : Nat) (x : α) : (SetTable.insertAt xs k x).toList = xs.toList.take k ++ x :: xs.toList.drop k := by
  unfold SetTable.insertAt
  simp [List.take_of_length_le]
theorem pl_orP {p : Nat → Bool} {h : Nat} (hh : h < 7) (hp : p h = false) : pl (orP p h) = (pl p).take (rank p h) ++ h :: (pl p).drop (rank p h) := by
  have q := allB_of chkPut_ok p
  have q := List.all_eq_true.mp q h (List.mem_range.mpr hh)
  rw [pl_bp, rank_bp p hh, bp_eq p hh, pl_orP_bp, hp, Bool.false_or, beq_iff_eq] at q
  have e := congrArg Array.toList q
  rw [insertAt_toList] at e
  exact e.symm
theorem Elems.insert {p : Nat → Bool} {es : Array (Int × Value)} {h : Nat} {t : Tok} (E : Elems p es) (hh : h < 7) (hp : p h = false) : Elems (orP p h) (SetTable.insertAt es (rank p h) ((h : Int), .int h t)) := by
  unfold Elems
  rw [pl_orP hh hp, insertAt_toList]
  exact paired_insert ⟨rfl, t, rfl⟩ _ E
theorem pl_orP_same {p : Nat → Bool} {h : Nat} (hp : p h = true) : pl (orP p h) = pl p := List.filter_congr fun i _ => by
  unfold orP
  by_cases e : i = h
  · subst e; rw [hp]; rfl
  · simp [e]
theorem tb_congr {p q : Nat → Bool} (e : pl p = pl q) (mask fin : Nat) (led : Bool) (mov : Nat) : tb mask p fin led mov = tb mask q fin led mov := by unfold tb; rw [e]
theorem IsSmall.congr {w : World} {h : Heap} {a : Addr} {p q : Nat → Bool} (e : pl p = pl q) (x : IsSmall w h a p) : IsSmall w h a q := by
  obtain ⟨es, ep, mask, fin, mov, h1, h2, h3, h4⟩ := x
  refine ⟨es, ep, mask, fin, mov, ?_, ?_, h3, ?_⟩
  · rw [h1]; unfold smallObj; rw [tb_congr e]
  · unfold Elems at h2 ⊢; rw [← e]; exact h2
  · rw [← e]; exact h4
theorem range_filterMap {α : Type} (es : Array α) : (Array.range es.size).filterMap (es[·]?) = es := by
  have e : ((Array.range es.size).filterMap (es[·]?)).toList = es.toList := by
    rw [Array.toList_filterMap, Array.toList_range]
    exact filterMap_getElem?_range es
  exact Array.ext' e
theorem Elems.hashes {p : Nat → Bool} {es : Array (Int × Value)} (E : Elems p es) : es.map (·.1) = hs p := by
  have key : ∀ {l : List Nat} {m : List (Int × Value)}, Paired (fun (i : Nat) (e : Int × Value) => e.1 = (i : Int) ∧ ∃ t, e.2 = .int i t) l m → m.map (·.1) = l.map Int.ofNat := by
    intro l m h
    induction h with
    | nil => rfl
    | cons r _ ih => rw [List.map_cons, List.map_cons, ih, r.1]; rfl
  have e := key E
  unfold hs
  refine Array.ext' ?_
  rw [Array.toList_map, e]
theorem coversAll_range (n : Nat) : coversAll (Array.range n) n = true := by
  unfold coversAll
  rw [Array.toList_range]
  exact List.isPerm_iff.mpr (List.Perm.refl _)
theorem relayAll_small {mask : Nat} {p : Nat → Bool} {fin : Nat} {led : Bool} {mov : Nat} {es : Array (Int × Value)} (E : Elems p es) {m : Nat} {wanted : Nat} (hw : SetTable.sizeAbove wanted - 1 = m) (hm : m ∈ masks) :
    ∃ mov', relayAll (tb mask p fin led mov) es wanted = (es, tb m p fin led mov', false) := by
  refine ⟨(tb mask p fin led mov).movedTo m, ?_⟩
  unfold relayAll SetTable.relaid
  rw [E.hashes, hw]
  have e : SetTable.laid m (tb mask p fin led mov).finger ((tb mask p fin led mov).movedTo m) (tb mask p fin led mov).led (tb mask p fin led mov).plain (hs p) = _ := laid_tb hm p fin ((tb mask p fin led mov).movedTo m) led
  rw [e]
  dsimp only
  rw [← E.size, range_filterMap, coversAll_range, fits_of E.size hm]
  rfl
section
variable {prog : Program} {w : World} {A : Around} {E : Value → Shared → Prop} {s : Shared}
theorem IsSmall.at {h h' : Heap} {a : Addr} {p : Nat → Bool} (x : IsSmall w h a p) (k : ∀ o, h.get? a = some o → h'.get? a = some o) : IsSmall w h' a p := by
  obtain ⟨es, ep, mask, fin, mov, h1, h2⟩ := x
  exact ⟨es, ep, mask, fin, mov, k _ h1, h2⟩
theorem store_small {h : Heap} {a : Addr} {es es' : Array (Int × Value)} {ep mask mask' : Nat} {p p' : Nat → Bool} {fin fin' mov mov' : Nat} (ho : h.get? a = some (smallObj w es ep mask p fin mov)) :
    (h.update a (Obj.putSet es' (tb mask' p' fin' (!bt w) mov'))).get? a = some (smallObj w es' (ep + 1) mask' p' fin' mov') := by
  have := Heap.get?_update_self (Obj.putSet es' (tb mask' p' fin' (!bt w) mov')) ho (by rw [putSet_of es' _ (rfl : (smallObj w es ep mask p fin mov).data = .set es ep (tb mask p fin (!bt w) mov))]; rfl)
  rw [putSet_of es' _ (rfl : (smallObj w es ep mask p fin mov).data = .set es ep (tb mask p fin (!bt w) mov))] at this
  exact this
theorem small_le {n : Nat} (h : n ≤ 7) : n ≤ sizeLine := by rw [sizeLine_eq]; omega
theorem add_small {a : Addr} {p : Nat → Bool} {i : Nat} {t : Tok} {Q : Bool → Shared → Prop} (hi : i < 7) (hS : IsSmall w s.heap a p)
    (h : ∀ b h', Heap.SameBut a s.heap h' → IsSmall w h' a (orP p i) → Q b { s with heap := h' }) : wpAny (model prog w) A (setAddHashed a (.int i t) (i : Int)) Q E s := by
  obtain ⟨es, ep, mask, fin, mov, ho, El, hm, h4⟩ := id hS
  have hd : (smallObj w es ep mask p fin mov).data = .set es ep (tb mask p fin (!bt w) mov) := rfl
  have hf : (tb mask p fin (!bt w) mov).fits es.size = true := fits_of El.size hm
  have hel := El.elems prog w
  have hkey : (intKind prog w).is (i : Int) (.int i t) = true := intKind_is _ _ _ _
  have hb : es.size < scanBound := by rw [El.size]; exact Nat.lt_of_le_of_lt (len_pl p) (by decide)
  have hh : (intKind prog w).hash (i : Int) = (i : Int) := hash_small hi
  unfold setAddHashed setAddHashedIn
  refine wpAny_holding (wpAny_bind (wpAny_setState_of ho hd hf ?_))
  dsimp only
  rw [byScan_of rfl hb hel]
  simp only [↓reduceIte]
  unfold setAddByScan
  refine wpAny_bind ?_
  refine wpAny_bind (wpAny_rule ?_)
  have sc : ∀ {Q' : ScanMet → Shared → Prop}, Q' (match es.toList.findIdx? (fun e => (intKind prog w).is (i : Int) e.2) with | some j => .found (0 + j) | none => .absent) s → wpAny (model prog w) A (setScan a (.int i t) (i : Int) true es) Q' E s := fun {Q'} q => by
    have := wpAny_setScan_of (knd := intKind prog w) (A := A) (E := E) (adding := true) hkey ho hd hf hel q
    rw [hh] at this
    exact this
  refine wpAny_bind (sc ?_)
  have fin_ : p i = (es.toList.findIdx? (fun e => (intKind prog w).is (i : Int) e.2)).isSome := by
    cases hr : List.findIdx? (fun e => (intKind prog w).is (i : Int) e.2) es.toList with
    | some j =>
      obtain ⟨hj, hpj, _⟩ := List.findIdx?_eq_some_iff_getElem.mp hr
      obtain ⟨k, hk, e1, u, e2⟩ := paired_mem El _ (List.getElem_mem hj)
      rw [e2] at hpj
      have : (k : Int) = (i : Int) := (intKind prog w).inj _ _ _ (intKind_is _ _ _ _) hpj
      have : k = i := by omega
      subst this
      rw [(mem_pl.mp hk).2]; rfl
    | none =>
      cases hp : p i with
      | false => rfl
      | true =>
        obtain ⟨e, he, e1, u, e2⟩ := paired_mem' El i (mem_pl.mpr ⟨hi, hp⟩)
        have := List.findIdx?_eq_none_iff.mp hr e he
        rw [e2, intKind_is] at this
        cases this
  cases hr : List.findIdx? (fun e => (intKind prog w).is (i : Int) e.2) es.toList with
  | some j =>
    rw [hr] at fin_
    dsimp only
    refine wpAny_pure (wpAny_pure ?_)
    have e : s = { s with heap := s.heap } := by cases s; rfl
    rw [e]
    exact h _ s.heap (Heap.SameBut.refl a s.heap) (hS.congr (pl_orP_same fin_).symm)
  | none =>
    rw [hr] at fin_
    have hp : p i = false := fin_
    dsimp only
    have hL : layNew (tb mask p fin (!bt w) mov) es (i : Int) (.int i t) = (SetTable.insertAt es (rank p i) ((i : Int), .int i t), tb mask (orP p i) fin (!bt w) mov, false, false) := by
      unfold layNew
      rw [freeSlot_tb hm hi hp]
      dsimp only
      rw [put_tb hi hp]
      dsimp only
      have E' := El.insert (t := t) hi hp
      unfold SetTable.orStandIn
      rw [fits_of E'.size hm]
      rfl
    have E' := El.insert (t := t) hi hp
    rw [hL]
    dsimp only
    refine wpAny_bind (wpAny_pure ?_)
    have hpl : (tb mask (orP p i) fin (!bt w) mov).plain = true := rfl
    rw [if_pos hpl, hashByValue_scannable 8 (rfl : (Value.int i t).scannable = true)]
    refine wpAny_bind (wpAny_pure ?_)
    have hk : plainKind (Value.int i t) = true := rfl
    rw [hk]
    simp only [↓reduceIte]
    have ho1 := store_small (es' := SetTable.insertAt es (rank p i) ((i : Int), .int i t)) (mask' := mask) (p' := orP p i) (fin' := fin) (mov' := mov) ho
    refine wpAny_bind (wpAny_storeSet_of ho hd ?_ (small_le (by rw [E'.size]; exact len_pl _)))
    have hsb1 := Heap.SameBut.update s.heap a (Obj.putSet (SetTable.insertAt es (rank p i) ((i : Int), .int i t)) (tb mask (orP p i) fin (!bt w) mov))
    have hlen := len_orP hi hp
    have hfill : (tb mask (orP p i) fin (!bt w) mov).fill = (pl (orP p i)).length := by show ((pl (orP p i)).toArray).size + 0 = _; simp
    by_cases htf : (tb mask (orP p i) fin (!bt w) mov).tooFull = true
    · have h7 : mask = 7 ∧ (pl (orP p i)).length = 5 := by
        unfold SetTable.tooFull at htf
        rw [hfill] at htf
        have hm' := hm
        have hl8 := len_pl (orP p i)
        simp only [masks, List.mem_cons, List.not_mem_nil, or_false] at hm'
        have hd' : (pl (orP p i)).length * 5 ≥ mask * 3 := by simpa [tb] using htf
        rcases hm' with rfl | rfl | rfl
        · have := h4 rfl; exact ⟨rfl, by omega⟩
        · omega
        · omega
      obtain ⟨h7, h5⟩ := h7
      rw [htf]
      simp only [Bool.not_false, Bool.true_and, ↓reduceIte]
      have hsz : (SetTable.insertAt es (rank p i) ((i : Int), Value.int i t)).size = 5 := by rw [E'.size]; exact h5
      obtain ⟨mov', hRl⟩ := relayAll_small (mask := mask) (fin := fin) (led := !bt w) (mov := mov) E' (wanted := SetTable.grown (SetTable.insertAt es (rank p i) ((i : Int), Value.int i t)).size) (m := 31) (by rw [hsz]; decide) (by decide)
      rw [hRl]
      dsimp only
      refine wpAny_bind (wpAny_pure ?_)
      refine wpAny_bind (wpAny_storeSet_of ho1 rfl ?_ (small_le (by rw [E'.size]; exact len_pl _)))
      refine wpAny_pure (wpAny_pure (h _ _ (hsb1.trans (Heap.SameBut.update _ a _)) ⟨_, _, 31, fin, mov', store_small ho1, E', by decide, fun z => by cases z⟩))
    · have htf' : (tb mask (orP p i) fin (!bt w) mov).tooFull = false := by simpa using htf
      rw [htf']
      simp only [Bool.and_false, Bool.false_eq_true, ↓reduceIte]
      refine wpAny_pure (wpAny_pure (h _ _ hsb1 ⟨_, _, mask, fin, mov, ho1, E', hm, fun z => ?_⟩))
      subst z
      unfold SetTable.tooFull at htf'
      rw [hfill] at htf'
      have : ¬ (pl (orP p i)).length * 5 ≥ 7 * 3 := by simpa [tb] using htf'
      omega
end
def seen (val : Nat → Nat) (i : Nat) : Nat → Bool := fun j => (List.range i).any fun k => val k == j
theorem seen_succ (val : Nat → Nat) (i : Nat) : pl (orP (seen val i) (val i)) = pl (seen val (i + 1)) := List.filter_congr fun j _ => by
  unfold orP seen
  rw [List.range_succ, List.any_append]
  simp only [List.any_cons, List.any_nil, Bool.or_false]
  congr 1
  exact Bool.eq_iff_iff.mpr ⟨fun h => by rw [beq_iff_eq] at h ⊢; exact h.symm, fun h => by rw [beq_iff_eq] at h ⊢; exact h.symm⟩
theorem small_fresh (w : World) (h : Heap) : IsSmall w (h.push { cls := .type "set", dict := none, data := .set #[] 0 (.fresh 0 0 (!bt w)) }) h.objs.size (fun _ => false) := by
  refine ⟨#[], 0, 7, 0, 0, ?_, ?_, by decide, fun _ => by decide⟩
  · rw [Heap.get?_push_size _ rfl]; rfl
  · exact Paired.nil
section
variable {prog : Program} {w : World} {A : Around} {R : Result → Shared → Prop} {I : Addr} {fp wr : List Addr} {G : Array GenState → Array GenState → Prop} {n : Nat} {P : Nat → Value → Prop} {St : Nat → Shared → Prop}
theorem update_loop (W : WalksS prog w A.in1 I fp wr G n P St) (S : Addr) (hSf : S ∉ fp) (val : Nat → Nat) (hval : ∀ i v, P i v → val i < 7 ∧ ∃ t, v = .int (val i) t) :
    ∀ (k i : Nat) (s : Shared), n - i = k → i ≤ n → St i s → IsSmall w s.heap S (seen val i) →
      (∀ s', Moved (S :: wr) G s s' → IsSmall w s'.heap S (seen val n) → R (.ok (.ret .none)) s') → codeAny (model prog w) A (.builtin "set.update.loop" ⟨[.ref S, .ref I], []⟩) R s := by
  have hSw : S ∉ wr := fun h => hSf (W.sub _ h)
  have hsub : ∀ b ∈ wr, b ∈ S :: wr := fun b hb => List.mem_cons_of_mem _ hb
  intro k
  induction k with
  | zero =>
    intro i s hk hi hst hS hR
    have hin : i = n := by omega
    subst hin
    refine codeAny_builtin PyProof.Rows.F.entry_set_update_loop ?_
    rw [Around.under_plainId PyProof.Rows.F.plain_set_update_loop _]
    show wpAny _ A.in1 (pyNext (.ref I) >>= _) _ _ s
    refine wpAny_bind (W.done s _ _ hst fun s' hm => ?_)
    show wpAny _ A.in1 (ret Value.none) _ _ s'
    exact wpAny_pure (hR s' (hm.mono hsub) (hS.at fun o e => hm.heap S _ hSw e))
  | succ k ih =>
    intro i s hk hi hst hS hR
    have hlt : i < n := by omega
    refine codeAny_builtin PyProof.Rows.F.entry_set_update_loop ?_
    rw [Around.under_plainId PyProof.Rows.F.plain_set_update_loop _]
    show wpAny _ A.in1 (pyNext (.ref I) >>= _) _ _ s
    refine wpAny_bind (W.item i s _ _ hlt hst fun v s' hP hst' hm => ?_)
    obtain ⟨hv7, t, rfl⟩ := hval i v hP
    have hS' : IsSmall w s'.heap S (seen val i) := hS.at fun o e => hm.heap S _ hSw e
    show wpAny _ A.in1 (holding [Value.int (val i) t] (setAdd S (.int (val i) t)) >>= _) _ _ s'
    refine wpAny_bind (wpAny_holding ?_)
    unfold setAdd
    refine wpAny_holding ?_
    refine wpAny_bind ((intKind prog w).pyHash (k := (val i : Int)) (intKind_is _ _ _ _) ?_)
    have hh : (intKind prog w).hash (val i : Int) = (val i : Int) := hash_small hv7
    rw [hh]
    refine add_small (s := { s' with toks := s'.toks + 1 }) hv7 hS' fun b h' hsb hS2 => ?_
    refine wpAny_pure ⟨plainId_quiet PyProof.Rows.F.plain_set_update_loop _, ih (i + 1) _ (by omega) hlt (W.frame _ s' _ _ hst' (Nat.le_succ _) fun b hb o e => ?_) (hS2.congr (seen_succ val i)) fun s'' hm'' hS'' => ?_⟩
    · rw [hsb.2 b (fun h : b = S => hSf (by rw [← h]; exact hb))]; exact e
    · refine hR s'' (Moved.trans W.gtrans ((hm.mono hsub).then_heap (Nat.le_succ _) fun b o hb e => ?_) hm'') hS''
      rw [hsb.2 b (fun h : b = S => hb (by rw [h]; exact List.mem_cons_self))]; exact e
end
theorem code_set_new_w {prog : Program} {w : World} {A : Around} {E : Value → Shared → Prop} {s : Shared} (a : Value) {Q₁ : Value → Shared → Prop}
    (h : Q₁ (.ref s.heap.objs.size) { s with heap := s.heap.push { cls := .type "set", dict := none, data := .set #[] 0 (.fresh 0 0 (!bt w)) } }) :
    codeAny (model prog w) A (.call (.builtin "set.__new__") ⟨[.type "set", a], []⟩) (wants Q₁ E) s := by
  refine codeAny_of_tree ?_
  show wpAny _ A.in1 (do checkBuiltinCall "set.__new__" ⟨[.type "set", a], []⟩; again (.builtin "set.__new__" ⟨[.type "set", a], []⟩)) _ _ s
  refine wpAny_bind (wpAny_of_eq (F.newCall_set_1 a) (wpAny_pure ⟨plainId_quiet F.plain_set_new _, codeAny_builtin F.entry_set_new ?_⟩))
  rw [Around.under_plainId F.plain_set_new _]
  unfold Builtin.«set.__new__» Builtin.Frozenset.newClass
  have hsub := sub_set_self
  obtain ⟨hp, g, d, tk, os⟩ := s
  dsimp only
  wp_walk
  refine wpAny_askSetting (wpAny_pure ?_)
  dsimp only
  simp only [newObj]
  refine wpAny_bind (wpAny_alloc (wpAny_pure ?_))
  exact wpAny_pure h
set_option maxHeartbeats 3200000 in
theorem call_set_list {prog : Program} {w : World} {A : Around} {E : Value → Shared → Prop} {s : Shared} {l : Addr} {items : Array Value} {val : Nat → Nat} {Q : Value → Shared → Prop}
    (hh : A.handled = none) (hl : s.heap.IsList l items) (hval : ∀ i v, items[i]? = some v → val i < 7 ∧ ∃ t, v = .int (val i) t)
    (h : ∀ (h' : Heap) (tk : Nat), IsSmall w h' s.heap.objs.size (seen val items.size) → (∀ b o, b < s.heap.objs.size → s.heap.get? b = some o → h'.get? b = some o) → Q (.ref s.heap.objs.size) { s with heap := h', toks := tk }) :
    wpAny (model prog w) A (call (.type "set") [.ref l]) Q E s := by
  obtain ⟨c, tl, hmro⟩ := F.called_set.mro
  have hmade := F.called_set.made
  have hsub := F.called_set.sub
  refine wpAny_call (codeAny_of_tree ?_)
  show wpAny _ _ (callAny (.type "set") _) _ _ _
  refine wpAny_pure ⟨Code.quiet_builtin _ (by decide +kernel), codeAny_builtin F.entry_type_call ?_⟩
  rw [Around.under_plain (weight_type_call_type "set" [.ref l] []) rfl]
  have h1 := F.called_set.notType
  have h2 := F.called_set.canCreate
  have hct := F.typeCall_set_1 (.ref l)
  repeat (any_goals (first | assumption | wp_step))
  refine codeAny_mono (code_set_new_w (.ref l) (E := E) (Q₁ := fun obj s₁ => obj = .ref s.heap.objs.size ∧ s₁ = { s with heap := s.heap.push { cls := .type "set", dict := none, data := .set #[] 0 (.fresh 0 0 (!bt w)) } }) ⟨rfl, rfl⟩) fun r s₁ hr => ?_
  cases r with
  | error e => exact hr
  | ok fl =>
    cases fl with
    | ret obj =>
      obtain ⟨rfl, rfl⟩ := hr
      have hS : (s.heap.push { cls := .type "set", dict := none, data := .set #[] 0 (.fresh 0 0 (!bt w)) }).get? s.heap.objs.size = some { cls := .type "set", dict := none, data := .set #[] 0 (.fresh 0 0 (!bt w)) } := Heap.get?_push_size _ rfl
      have hT : Shared.TypeIs { s with heap := s.heap.push { cls := .type "set", dict := none, data := .set #[] 0 (.fresh 0 0 (!bt w)) } } (.ref s.heap.objs.size) "set" := ⟨_, hS, rfl⟩
      have hli := F.called_set.init.lookup
      have hbi := F.called_set.init.bind (.ref s.heap.objs.size)
      repeat (any_goals (first | assumption | wp_step))
      refine codeAny_mono (codeAny_call_builtin (R := wants (fun r s₂ => r = .none ∧ ∃ h' tk, s₂ = { s with heap := h', toks := tk } ∧ IsSmall w h' s.heap.objs.size (seen val items.size) ∧
          (∀ b o, b < s.heap.objs.size → s.heap.get? b = some o → h'.get? b = some o)) E) F.called_set.init.plain F.entry_set_init (check_set_init_1 hT ?_)) fun r₂ s₂ hr₂ => ?_
      · obtain ⟨ol, hol, hcl, nl, hdl⟩ := hl
        obtain ⟨ocls, odict, odata, oslots⟩ := ol
        simp only at hcl hdl
        subst hcl; subst hdl
        have hol' : (s.heap.push { cls := .type "set", dict := none, data := .set #[] 0 (.fresh 0 0 (!bt w)) }).get? l = some { cls := .type "list", dict := odict, data := .seq items nl, slots := oslots } := Heap.get?_push_of_some _ hol
        have hsls := F.sub_list_set
        have hslf := F.sub_list_frozenset
        have hne : (Value.type "list" == Value.type "dict") = false := by decide
        have hl1 : (s.heap.push { cls := .type "set", dict := none, data := .set #[] 0 (.fresh 0 0 (!bt w)) }).IsList l items := ⟨_, hol', rfl, nl, rfl⟩
        unfold Builtin.«set.__init__» noKeywords Builtin.Frozenset.updateFrom
        generalize hPI : pyIter = PI
        wp_walk
        subst hPI
        refine wpAny_pyIter_list hl1 ?_
        refine wpAny_bind (wpAny_runValue ?_)
        have hlS : l < s.heap.objs.size := Heap.lt_size hol
        have hh3 : A.in1.in1.in1.handled = none := by simp [hh]
        have hneI : l ≠ (s.heap.push { cls := .type "set", dict := none, data := .set #[] 0 (.fresh 0 0 (!bt w)) }).objs.size := by
          rw [Heap.size_push]; exact Nat.ne_of_lt (Nat.lt_succ_of_lt hlS)
        have hSf : s.heap.objs.size ∉ [(s.heap.push { cls := .type "set", dict := none, data := .set #[] 0 (.fresh 0 0 (!bt w)) }).objs.size, l] := by
          rw [Heap.size_push]; simp only [List.mem_cons, List.mem_singleton, List.not_mem_nil, or_false, not_or]
          exact ⟨Nat.ne_of_lt (Nat.lt_succ_self _), Nat.ne_of_gt hlS⟩
        refine update_loop ((Walks.list hh3 _ l hneI items).toS) s.heap.objs.size hSf val hval (items.size - 0) 0 _ (by omega) (Nat.zero_le _) ⟨⟨_, Heap.get?_push_size _ rfl, rfl, rfl⟩, (hl1.push _)⟩ ?hS0 ?hR
        case hS0 => exact ((small_fresh w s.heap).congr rfl).at fun o e => Heap.get?_push_of_some _ e
        case hR =>
          intro s' hm hS'
          obtain ⟨h', g', d', tk', os'⟩ := s'
          have eg : g' = s.gens := hm.gens
          have ed : d' = s.drawn := hm.drawn
          have eo : os' = s.os := hm.os
          subst eg; subst ed; subst eo
          show wpAny _ _ _ _ _ _
          refine wpAny_pure ?_
          show wpAny _ _ (ret Value.none) _ _ _
          refine wpAny_pure ⟨rfl, h', tk', rfl, hS', fun b o hb e => ?_⟩
          have hb1 : b ≠ s.heap.objs.size := Nat.ne_of_lt hb
          have hb2 : b ≠ (s.heap.push { cls := .type "set", dict := none, data := .set #[] 0 (.fresh 0 0 (!bt w)) }).objs.size := by
            rw [Heap.size_push]; exact Nat.ne_of_lt (Nat.lt_succ_of_lt hb)
          exact hm.heap b o (by simp only [List.mem_cons, List.mem_singleton, List.not_mem_nil, or_false, not_or]; exact ⟨hb1, hb2⟩) (Heap.get?_push_of_some _ (Heap.get?_push_of_some _ e))
      · cases r₂ with
        | error e => exact hr₂
        | ok fl₂ =>
          cases fl₂ with
          | ret r =>
            obtain ⟨rfl, h', tk, rfl, hS', hk'⟩ := hr₂
            repeat (any_goals (first | assumption | wp_step))
            exact h _ _ hS' hk'
          | _ => exact hr₂.elim
    | _ => exact hr.elim
set_option maxHeartbeats 3200000 in
theorem call_set_tuple {prog : Program} {w : World} {A : Around} {E : Value → Shared → Prop} {s : Shared} {l : Addr} {items : Array Value} {val : Nat → Nat} {Q : Value → Shared → Prop}
    (hh : A.handled = none) (hl : s.heap.IsTuple l items) (hval : ∀ i v, items[i]? = some v → val i < 7 ∧ ∃ t, v = .int (val i) t)
    (h : ∀ (h' : Heap) (tk : Nat), IsSmall w h' s.heap.objs.size (seen val items.size) → (∀ b o, b < s.heap.objs.size → s.heap.get? b = some o → h'.get? b = some o) → Q (.ref s.heap.objs.size) { s with heap := h', toks := tk }) :
    wpAny (model prog w) A (call (.type "set") [.ref l]) Q E s := by
  obtain ⟨c, tl, hmro⟩ := F.called_set.mro
  have hmade := F.called_set.made
  have hsub := F.called_set.sub
  refine wpAny_call (codeAny_of_tree ?_)
  show wpAny _ _ (callAny (.type "set") _) _ _ _
  refine wpAny_pure ⟨Code.quiet_builtin _ (by decide +kernel), codeAny_builtin F.entry_type_call ?_⟩
  rw [Around.under_plain (weight_type_call_type "set" [.ref l] []) rfl]
  have h1 := F.called_set.notType
  have h2 := F.called_set.canCreate
  have hct := F.typeCall_set_1 (.ref l)
  repeat (any_goals (first | assumption | wp_step))
  refine codeAny_mono (code_set_new_w (.ref l) (E := E) (Q₁ := fun obj s₁ => obj = .ref s.heap.objs.size ∧ s₁ = { s with heap := s.heap.push { cls := .type "set", dict := none, data := .set #[] 0 (.fresh 0 0 (!bt w)) } }) ⟨rfl, rfl⟩) fun r s₁ hr => ?_
  cases r with
  | error e => exact hr
  | ok fl =>
    cases fl with
    | ret obj =>
      obtain ⟨rfl, rfl⟩ := hr
      have hS : (s.heap.push { cls := .type "set", dict := none, data := .set #[] 0 (.fresh 0 0 (!bt w)) }).get? s.heap.objs.size = some { cls := .type "set", dict := none, data := .set #[] 0 (.fresh 0 0 (!bt w)) } := Heap.get?_push_size _ rfl
      have hT : Shared.TypeIs { s with heap := s.heap.push { cls := .type "set", dict := none, data := .set #[] 0 (.fresh 0 0 (!bt w)) } } (.ref s.heap.objs.size) "set" := ⟨_, hS, rfl⟩
      have hli := F.called_set.init.lookup
      have hbi := F.called_set.init.bind (.ref s.heap.objs.size)
      repeat (any_goals (first | assumption | wp_step))
      refine codeAny_mono (codeAny_call_builtin (R := wants (fun r s₂ => r = .none ∧ ∃ h' tk, s₂ = { s with heap := h', toks := tk } ∧ IsSmall w h' s.heap.objs.size (seen val items.size) ∧
          (∀ b o, b < s.heap.objs.size → s.heap.get? b = some o → h'.get? b = some o)) E) F.called_set.init.plain F.entry_set_init (check_set_init_1 hT ?_)) fun r₂ s₂ hr₂ => ?_
      · obtain ⟨ol, hol, hcl, nl, hdl⟩ := hl
        obtain ⟨ocls, odict, odata, oslots⟩ := ol
        simp only at hcl hdl
        subst hcl; subst hdl
        have hol' : (s.heap.push { cls := .type "set", dict := none, data := .set #[] 0 (.fresh 0 0 (!bt w)) }).get? l = some { cls := .type "tuple", dict := odict, data := .seq items nl, slots := oslots } := Heap.get?_push_of_some _ hol
        have hsls := F.sub_tuple_set
        have hslf := F.sub_tuple_frozenset
        have hne : (Value.type "tuple" == Value.type "dict") = false := by decide
        have hl1 : (s.heap.push { cls := .type "set", dict := none, data := .set #[] 0 (.fresh 0 0 (!bt w)) }).IsTuple l items := ⟨_, hol', rfl, nl, rfl⟩
        unfold Builtin.«set.__init__» noKeywords Builtin.Frozenset.updateFrom
        generalize hPI : pyIter = PI
        wp_walk
        subst hPI
        refine wpAny_pyIter_tuple hl1 ?_
        refine wpAny_bind (wpAny_runValue ?_)
        have hlS : l < s.heap.objs.size := Heap.lt_size hol
        have hh3 : A.in1.in1.in1.handled = none := by simp [hh]
        have hneI : l ≠ (s.heap.push { cls := .type "set", dict := none, data := .set #[] 0 (.fresh 0 0 (!bt w)) }).objs.size := by
          rw [Heap.size_push]; exact Nat.ne_of_lt (Nat.lt_succ_of_lt hlS)
        have hSf : s.heap.objs.size ∉ [(s.heap.push { cls := .type "set", dict := none, data := .set #[] 0 (.fresh 0 0 (!bt w)) }).objs.size, l] := by
          rw [Heap.size_push]; simp only [List.mem_cons, List.mem_singleton, List.not_mem_nil, or_false, not_or]
          exact ⟨Nat.ne_of_lt (Nat.lt_succ_self _), Nat.ne_of_gt hlS⟩
        refine update_loop ((Walks.tuple hh3 _ l hneI items).toS) s.heap.objs.size hSf val hval (items.size - 0) 0 _ (by omega) (Nat.zero_le _) ⟨⟨_, Heap.get?_push_size _ rfl, rfl, rfl⟩, (hl1.push _)⟩ ?hS0 ?hR
        case hS0 => exact ((small_fresh w s.heap).congr rfl).at fun o e => Heap.get?_push_of_some _ e
        case hR =>
          intro s' hm hS'
          obtain ⟨h', g', d', tk', os'⟩ := s'
          have eg : g' = s.gens := hm.gens
          have ed : d' = s.drawn := hm.drawn
          have eo : os' = s.os := hm.os
          subst eg; subst ed; subst eo
          show wpAny _ _ _ _ _ _
          refine wpAny_pure ?_
          show wpAny _ _ (ret Value.none) _ _ _
          refine wpAny_pure ⟨rfl, h', tk', rfl, hS', fun b o hb e => ?_⟩
          have hb1 : b ≠ s.heap.objs.size := Nat.ne_of_lt hb
          have hb2 : b ≠ (s.heap.push { cls := .type "set", dict := none, data := .set #[] 0 (.fresh 0 0 (!bt w)) }).objs.size := by
            rw [Heap.size_push]; exact Nat.ne_of_lt (Nat.lt_succ_of_lt hb)
          exact hm.heap b o (by simp only [List.mem_cons, List.mem_singleton, List.not_mem_nil, or_false, not_or]; exact ⟨hb1, hb2⟩) (Heap.get?_push_of_some _ (Heap.get?_push_of_some _ e))
      · cases r₂ with
        | error e => exact hr₂
        | ok fl₂ =>
          cases fl₂ with
          | ret r =>
            obtain ⟨rfl, h', tk, rfl, hS', hk'⟩ := hr₂
            repeat (any_goals (first | assumption | wp_step))
            exact h _ _ hS' hk'
          | _ => exact hr₂.elim
    | _ => exact hr.elim
end SetPure
namespace SetPure
open PySem
def orQ (p q : Nat → Bool) : Nat → Bool := fun i => p i || q i
theorem erase_perm {α : Type} : ∀ {l : List α} {i : Nat} (h : i < l.length), l.Perm (l[i] :: l.eraseIdx i)
  | a :: l, 0, _ => List.Perm.refl _
  | a :: l, i + 1, h => by
    have ih := erase_perm (l := l) (i := i) (by simpa using h)
    exact (ih.cons a).trans (List.Perm.swap _ _ _)
theorem pick_go {α : Type} (next : Nat → Nat) : ∀ (fuel k : Nat) (left : List α) (out : Array α), left.length = fuel → (pickOrder.go next fuel k left out).toList.Perm (out.toList ++ left)
  | 0, k, left, out, h => by
    have : left = [] := List.length_eq_zero_iff.mp h
    subst this
    unfold pickOrder.go
    simp
  | fuel + 1, k, left, out, h => by
    unfold pickOrder.go
    have hlt : next k % left.length < left.length := Nat.mod_lt _ (by omega)
    rw [List.getElem?_eq_getElem hlt]
    dsimp only
    refine (pick_go next fuel (k + 1) (left.eraseIdx (next k % left.length)) (out.push left[next k % left.length]) (by rw [List.length_eraseIdx_of_lt hlt]; omega)).trans ?_
    rw [Array.toList_push, List.append_assoc]
    refine List.Perm.append_left _ ?_
    have e : left.Perm (left[next k % left.length] :: left.eraseIdx (next k % left.length)) := erase_perm hlt
    exact e.symm
theorem pick_perm {α : Type} (next : Nat → Nat) (xs : Array α) : (pickOrder next xs).toList.Perm xs.toList := by
  unfold pickOrder
  exact (pick_go next xs.size 0 xs.toList #[] (by simp)).trans (by simp)
section
variable {prog : Program} {w : World} {A : Around} {E : Value → Shared → Prop} {s : Shared}
theorem state_small {a : Addr} {es : Array (Int × Value)} {ep mask : Nat} {p : Nat → Bool} {fin mov : Nat} {Q : (Array (Int × Value) × Nat × SetTable) → Shared → Prop} (ho : s.heap.get? a = some (smallObj w es ep mask p fin mov)) (El : Elems p es) (hm : mask ∈ masks)
    (h : Q (es, ep, tb mask p fin (!bt w) mov) s) : wpAny (model prog w) A (setState a) Q E s := wpAny_setState_of ho rfl (fits_of El.size hm) h
theorem byText_wp {Q : Bool → Shared → Prop} (h : Q (bt w) s) : wpAny (model prog w) A setsByText Q E s := wpAny_bind (wpAny_askSetting (wpAny_pure h))
theorem walk_small {a : Addr} {es : Array (Int × Value)} {ep mask : Nat} {p : Nat → Bool} {fin mov : Nat} {Q : Array (Int × Value) → Shared → Prop} (ho : s.heap.get? a = some (smallObj w es ep mask p fin mov)) (El : Elems p es) (hm : mask ∈ masks)
    (h : Q (if bt w = true then pickOrder (w.params.setOrder a ep) es else es) s) : wpAny (model prog w) A (setWalk a) Q E s := by
  unfold setWalk
  refine wpAny_bind (state_small ho El hm ?_)
  refine wpAny_bind (byText_wp ?_)
  cases hb : bt w with
  | true =>
    rw [hb] at h
    simp only [↓reduceIte] at h ⊢
    exact wpAny_bind (wpAny_askSetting (wpAny_pure h))
  | false =>
    rw [hb] at h
    simp only [Bool.false_eq_true, ↓reduceIte] at h ⊢
    wp_walk
    exact h
theorem reord_small {es : Array (Int × Value)} {p : Nat → Bool} (El : Elems p es) : (Array.range (pl p).length).filterMap (es[·]?) = es := by rw [← El.size]; exact range_filterMap es
theorem relay_small {a : Addr} {es : Array (Int × Value)} {ep mask : Nat} {p : Nat → Bool} {fin mov wanted m : Nat} {Q : Unit → Shared → Prop} (ho : s.heap.get? a = some (smallObj w es ep mask p fin mov)) (El : Elems p es) (hm : mask ∈ masks) (hw : SetTable.sizeAbove wanted - 1 = m) (hm' : m ∈ masks)
    (hz : SetTable.sizeAbove wanted ≤ 64) (h : ∀ h' ep' mov', Heap.SameBut a s.heap h' → h'.get? a = some (smallObj w es ep' m p fin mov') → Q () { s with heap := h' }) : wpAny (model prog w) A (setRelay a wanted) Q E s := by
  unfold setRelay
  refine wpAny_bind (state_small ho El hm ?_)
  dsimp only
  rw [if_neg (by rw [sizeLine_eq]; omega)]
  have e : SetTable.relaid (tb mask p fin (!bt w) mov) (es.map (·.1)) wanted = some (tb m p fin (!bt w) ((tb mask p fin (!bt w) mov).movedTo m), Array.range (pl p).length) := by
    unfold SetTable.relaid
    rw [El.hashes, hw]
    exact laid_tb hm' p fin _ (!bt w)
  rw [e]
  refine wpAny_bind (wpAny_of_eq (a := (es, tb m p fin (!bt w) ((tb mask p fin (!bt w) mov).movedTo m))) ?_ ?_)
  · show (if (((Array.range (pl p).length).filterMap (es[·]?)).size != es.size) = true then (unsupported "internal:set-table-lost-an-element" : Sem PUnit) >>= fun _ => pure (((Array.range (pl p).length).filterMap (es[·]?)), tb m p fin (!bt w) ((tb mask p fin (!bt w) mov).movedTo m))
      else pure (((Array.range (pl p).length).filterMap (es[·]?)), tb m p fin (!bt w) ((tb mask p fin (!bt w) mov).movedTo m))) = _
    rw [reord_small El]
    simp only [bne_self_eq_false, Bool.false_eq_true, ↓reduceIte]
  exact wpAny_storeSet_of ho rfl (h _ _ _ (Heap.SameBut.update _ _ _) (store_small ho)) (small_le (by rw [El.size]; exact len_pl _))
theorem pl_orQ_nil {p q : Nat → Bool} (h : pl q = []) : pl (orQ p q) = pl p := List.filter_congr fun i hi => by
  unfold orQ
  cases hq : q i with
  | false => simp
  | true =>
    have : i ∈ pl q := mem_pl.mpr ⟨List.mem_range.mp hi, hq⟩
    rw [h] at this
    simp at this
theorem pl_orQ_nil' {p q : Nat → Bool} (h : pl p = []) : pl (orQ p q) = pl q := List.filter_congr fun i hi => by
  unfold orQ
  cases hq : p i with
  | false => simp
  | true =>
    have : i ∈ pl p := mem_pl.mpr ⟨List.mem_range.mp hi, hq⟩
    rw [h] at this
    simp at this
theorem room_mask {n : Nat} (h5 : 5 ≤ n) (h14 : n ≤ 14) : SetTable.sizeAbove (n * 2) - 1 ∈ masks ∧ SetTable.sizeAbove (n * 2) ≤ 64 ∧ ¬ SetTable.sizeAbove (n * 2) - 1 = 7 := by
  have : n = 5 ∨ n = 6 ∨ n = 7 ∨ n = 8 ∨ n = 9 ∨ n = 10 ∨ n = 11 ∨ n = 12 ∨ n = 13 ∨ n = 14 := by omega
  rcases this with rfl | rfl | rfl | rfl | rfl | rfl | rfl | rfl | rfl | rfl <;> decide
theorem roomFor_small {a : Addr} {es : Array (Int × Value)} {ep mask : Nat} {p : Nat → Bool} {fin mov more : Nat} {Q : Unit → Shared → Prop} (ho : s.heap.get? a = some (smallObj w es ep mask p fin mov)) (El : Elems p es) (hm : mask ∈ masks) (h4 : mask = 7 → (pl p).length ≤ 4) (h7 : more ≤ 7)
    (h : ∀ h' ep' mask' mov', Heap.SameBut a s.heap h' → h'.get? a = some (smallObj w es ep' mask' p fin mov') → mask' ∈ masks → (mask' = 7 → (pl p).length + more ≤ 4) → Q () { s with heap := h' }) : wpAny (model prog w) A (setRoomFor a more) Q E s := by
  unfold setRoomFor
  refine wpAny_bind (state_small ho El hm ?_)
  have hfill : (tb mask p fin (!bt w) mov).fill = (pl p).length := by show ((pl p).toArray).size + 0 = _; simp
  have hpsz : (tb mask p fin (!bt w) mov).place.size = (pl p).length := by show ((pl p).toArray).size = _; simp
  have hl := len_pl p
  dsimp only
  by_cases hr : ((pl p).length + more) * 5 ≥ mask * 3
  · have e : (tb mask p fin (!bt w) mov).roomFor more = some (((pl p).length + more) * 2) := by
      unfold SetTable.roomFor
      rw [hfill, hpsz]
      exact if_pos hr
    rw [e]
    dsimp only
    have hmg := mask_ge hm
    obtain ⟨r1, r2, r3⟩ := room_mask (n := (pl p).length + more) (by omega) (by omega)
    exact relay_small ho El hm rfl r1 r2 fun h' ep' mov' hs e => h h' ep' _ mov' hs e r1 fun z => absurd z r3
  · have e : (tb mask p fin (!bt w) mov).roomFor more = none := by
      unfold SetTable.roomFor
      rw [hfill, hpsz]
      exact if_neg hr
    rw [e]
    have es' : s = { s with heap := s.heap } := by cases s; rfl
    refine wpAny_pure ?_
    rw [es']
    exact h s.heap ep mask mov (Heap.SameBut.refl _ _) ho hm fun z => by subst z; omega
theorem each_small {a o : Addr} (hao : a ≠ o) {q : Nat → Bool} {eo : Array (Int × Value)} {epo masko fino movo : Nat} (Eo : Elems q eo) (hmo : masko ∈ masks) (each : Sem Unit)
    (heach : ∀ (s' : Shared) (Q' : Unit → Shared → Prop), s'.heap.get? o = some (smallObj w eo epo masko q fino movo) → Q' () s' → wpAny (model prog w) A each Q' E s') {R : Shared → Prop} :
    ∀ (l : List (Int × Value)) (p : Nat → Bool) (s : Shared), (∀ e ∈ l, ∃ i : Nat, i < 7 ∧ e.1 = (i : Int) ∧ ∃ t, e.2 = .int i t) → IsSmall w s.heap a p → s.heap.get? o = some (smallObj w eo epo masko q fino movo) →
      (∀ h', Heap.SameBut a s.heap h' → IsSmall w h' a (fun i => p i || l.any fun e => e.1 == (i : Int)) → R { s with heap := h' }) →
      wpAny (model prog w) A (forIn l PUnit.unit fun (x : Int × Value) (_ : PUnit) => (do
        let _ ← holding [x.2] (setAddHashed a x.2 x.1)
        each
        if ((← setState o).2.1 != epo) = true then (unsupported "set.changed-during-merge" : Sem PUnit) >>= fun _ => pure (ForInStep.yield PUnit.unit) else pure (ForInStep.yield PUnit.unit) : Sem (ForInStep PUnit))) (fun _ s' => R s') E s
  | [], p, s, _, hS, ho, h => by
    rw [List.forIn_nil]
    have e : s = { s with heap := s.heap } := by cases s; rfl
    refine wpAny_pure ?_
    rw [e]
    exact h s.heap (Heap.SameBut.refl _ _) (hS.congr (List.filter_congr fun i _ => by simp))
  | (x1, x2) :: l, p, s, hl, hS, ho, h => by
    obtain ⟨i, hi, e1, t, e2⟩ := hl _ List.mem_cons_self
    dsimp only at e1 e2
    subst e1 e2
    rw [List.forIn_cons]
    refine wpAny_bind (wpAny_bind (wpAny_holding (add_small hi hS fun b h1 hs1 hS1 => ?_)))
    have ho1 : h1.get? o = some (smallObj w eo epo masko q fino movo) := (hs1.2 o (Ne.symm hao)).trans ho
    refine wpAny_bind (heach { s with heap := h1 } _ ho1 ?_)
    refine wpAny_bind (state_small (s := { s with heap := h1 }) ho1 Eo hmo ?_)
    simp only [bne_self_eq_false, Bool.false_eq_true, ↓reduceIte]
    refine wpAny_pure ?_
    refine each_small hao Eo hmo each heach l (orP p i) { s with heap := h1 } (fun e he => hl e (List.mem_cons_of_mem _ he)) hS1 ho1 fun h2 hs2 hS2 => ?_
    refine h h2 (hs1.trans hs2) (hS2.congr (List.filter_congr fun j _ => ?_))
    unfold orP
    rw [List.any_cons, Bool.or_assoc]
    congr 2
    dsimp only
    exact Bool.eq_iff_iff.mpr ⟨fun z => by rw [beq_iff_eq] at z ⊢; omega, fun z => by rw [beq_iff_eq] at z ⊢; omega⟩
theorem any_elems {q : Nat → Bool} {es : Array (Int × Value)} (El : Elems q es) {l : List (Int × Value)} (hp : l.Perm es.toList) {i : Nat} (hi : i < 7) : (l.any fun e => e.1 == (i : Int)) = q i := by
  cases hq : q i with
  | true =>
    obtain ⟨e, he, e1, _⟩ := paired_mem' El i (mem_pl.mpr ⟨hi, hq⟩)
    exact List.any_eq_true.mpr ⟨e, hp.mem_iff.mpr he, by rw [e1]; simp⟩
  | false =>
    refine List.any_eq_false.mpr fun e he => ?_
    obtain ⟨j, hj, e1, _⟩ := paired_mem El e (hp.mem_iff.mp he)
    rw [e1]
    intro z
    rw [beq_iff_eq] at z
    have : j = i := by omega
    subst this
    rw [(mem_pl.mp hj).2] at hq
    cases hq
theorem merge_small {a o : Addr} (hao : a ≠ o) {p q : Nat → Bool} (each : Sem Unit) {Q : Unit → Shared → Prop} (hS : IsSmall w s.heap a p) {eo : Array (Int × Value)} {epo masko fino movo : Nat} (ho : s.heap.get? o = some (smallObj w eo epo masko q fino movo)) (Eo : Elems q eo) (hmo : masko ∈ masks) (h4o : masko = 7 → (pl q).length ≤ 4)
    (heach : ∀ (s' : Shared) (Q' : Unit → Shared → Prop), s'.heap.get? o = some (smallObj w eo epo masko q fino movo) → Q' () s' → wpAny (model prog w) A each Q' E s')
    (h : ∀ h', Heap.SameBut a s.heap h' → IsSmall w h' a (orQ p q) → Q () { s with heap := h' }) : wpAny (model prog w) A (setMerge a o each) Q E s := by
  have ebeq : (a == o) = false := by simpa using hao
  unfold setMerge
  rw [ebeq]
  simp only [Bool.false_eq_true, ↓reduceIte]
  refine wpAny_bind (state_small ho Eo hmo ?_)
  dsimp only
  have es0 : s = { s with heap := s.heap } := by cases s; rfl
  cases hE : eo.isEmpty with
  | true =>
    simp only [↓reduceIte]
    have hq : pl q = [] := by
      have := Eo.size
      have e0 : eo.size = 0 := by simpa using hE
      rw [e0] at this
      exact List.length_eq_zero_iff.mp this.symm
    refine wpAny_pure ?_
    rw [es0]
    exact h s.heap (Heap.SameBut.refl _ _) (hS.congr (pl_orQ_nil hq).symm)
  | false =>
    simp only [Bool.false_eq_true, ↓reduceIte]
    obtain ⟨es, ep, mask, fin, mov, hoa, El, hm, h4⟩ := hS
    have h7 : eo.size ≤ 7 := by rw [Eo.size]; exact len_pl q
    refine wpAny_bind (roomFor_small hoa El hm h4 h7 fun h1 ep1 mask1 mov1 hs1 ho1 hm1 h41 => ?_)
    have hoo1 : h1.get? o = some (smallObj w eo epo masko q fino movo) := (hs1.2 o (Ne.symm hao)).trans ho
    refine wpAny_bind (state_small (s := { s with heap := h1 }) ho1 El hm1 ?_)
    dsimp only
    have hfill : (tb mask1 p fin (!bt w) mov1).fill = (pl p).length := by show ((pl p).toArray).size + 0 = _; simp
    by_cases hp0 : (pl p).length = 0
    · have hpn : pl p = [] := List.length_eq_zero_iff.mp hp0
      by_cases hmm : mask1 = masko
      · have hr : SetTable.road (tb mask1 p fin (!bt w) mov1) (tb masko q fino (!bt w) movo) = .slotForSlot := by
          unfold SetTable.road
          rw [hfill, hp0, hmm]
          have e1 : ((tb masko p fin (!bt w) mov1).mask == (tb masko q fino (!bt w) movo).mask) = true := by show (masko == masko) = true; simp
          rw [e1]
          rfl
        rw [hr]
        dsimp only
        have et : ({ tb masko q fino (!bt w) movo with finger := (tb mask1 p fin (!bt w) mov1).finger, led := (tb mask1 p fin (!bt w) mov1).led && (tb masko q fino (!bt w) movo).led, moves := (tb mask1 p fin (!bt w) mov1).moves, plain := (tb mask1 p fin (!bt w) mov1).plain && (tb masko q fino (!bt w) movo).plain } : SetTable) = tb masko q fin (!bt w) mov1 := by
          show (⟨masko, (pl q).toArray, #[], fin, (!bt w) && (!bt w), mov1, true && true⟩ : SetTable) = ⟨masko, (pl q).toArray, #[], fin, !bt w, mov1, true⟩
          rw [Bool.and_self, Bool.and_self]
        rw [et]
        refine wpAny_storeSet_of (s := { s with heap := h1 }) ho1 rfl ?_ (small_le h7)
        exact h _ (hs1.trans (Heap.SameBut.update _ _ _)) (IsSmall.congr (pl_orQ_nil' hpn).symm ⟨_, _, masko, fin, mov1, store_small ho1, Eo, hmo, h4o⟩)
      · have hr : SetTable.road (tb mask1 p fin (!bt w) mov1) (tb masko q fino (!bt w) movo) = .clean := by
          unfold SetTable.road
          rw [hfill, hp0]
          have : ((tb mask1 p fin (!bt w) mov1).mask == (tb masko q fino (!bt w) movo).mask) = false := by show (mask1 == masko) = false; simpa using hmm
          rw [this]
          rfl
        rw [hr]
        dsimp only
        have el : SetTable.laid (tb mask1 p fin (!bt w) mov1).mask (tb mask1 p fin (!bt w) mov1).finger (tb mask1 p fin (!bt w) mov1).moves ((tb mask1 p fin (!bt w) mov1).led && (tb masko q fino (!bt w) movo).led) ((tb mask1 p fin (!bt w) mov1).plain && (tb masko q fino (!bt w) movo).plain) (eo.map (·.1)) = some (tb mask1 q fin (!bt w) mov1, Array.range (pl q).length) := by
          show SetTable.laid mask1 fin mov1 ((!bt w) && (!bt w)) (true && true) _ = _
          rw [Bool.and_self, Bool.and_self, Eo.hashes]
          exact laid_tb hm1 q fin mov1 (!bt w)
        rw [el]
        refine wpAny_bind (wpAny_of_eq (a := (eo, tb mask1 q fin (!bt w) mov1)) ?_ ?_)
        · show (if (((Array.range (pl q).length).filterMap (eo[·]?)).size != eo.size) = true then (unsupported "internal:set-table-lost-an-element" : Sem PUnit) >>= fun _ => pure (((Array.range (pl q).length).filterMap (eo[·]?)), tb mask1 q fin (!bt w) mov1)
            else pure (((Array.range (pl q).length).filterMap (eo[·]?)), tb mask1 q fin (!bt w) mov1)) = _
          rw [reord_small Eo]
          simp only [bne_self_eq_false, Bool.false_eq_true, ↓reduceIte]
        · refine wpAny_storeSet_of (s := { s with heap := h1 }) ho1 rfl ?_ (small_le h7)
          refine h _ (hs1.trans (Heap.SameBut.update _ _ _)) (IsSmall.congr (pl_orQ_nil' hpn).symm ⟨_, _, mask1, fin, mov1, store_small ho1, Eo, hm1, fun z => ?_⟩)
          have := h41 z
          rw [Eo.size] at this
          omega
    · have hr : SetTable.road (tb mask1 p fin (!bt w) mov1) (tb masko q fino (!bt w) movo) = .oneByOne := by
        unfold SetTable.road
        rw [hfill]
        exact if_pos (by simpa using hp0)
      rw [hr]
      dsimp only
      unfold setWalkUnseen
      refine wpAny_bind (wpAny_bind (state_small (s := { s with heap := h1 }) hoo1 Eo hmo ?_))
      refine wpAny_bind (byText_wp (s := { s with heap := h1 }) ?_)
      have hc : ((bt w || ((tb masko q fino (!bt w) movo).led && (tb masko q fino (!bt w) movo).plain)) || decide (eo.size ≤ 1)) = true := by
        show ((bt w || ((!bt w) && true)) || decide (eo.size ≤ 1)) = true
        cases bt w <;> rfl
      dsimp only
      rw [if_pos hc]
      refine walk_small (s := { s with heap := h1 }) hoo1 Eo hmo ?_
      have hperm : (if bt w = true then pickOrder (w.params.setOrder o epo) eo else eo).toList.Perm eo.toList := by
        split
        · exact pick_perm _ _
        · exact List.Perm.refl _
      generalize (if bt w = true then pickOrder (w.params.setOrder o epo) eo else eo) = ord at hperm ⊢
      rw [← Array.forIn_toList]
      refine wpAny_bind (each_small hao Eo hmo each heach ord.toList p { s with heap := h1 } (fun e he => ?_) ⟨es, ep1, mask1, fin, mov1, ho1, El, hm1, fun z => ?_⟩ hoo1 fun h2 hs2 hS2 => wpAny_pure ?_)
      · obtain ⟨i, hi, e1, t, e2⟩ := paired_mem Eo e (hperm.mem_iff.mp he)
        exact ⟨i, (mem_pl.mp hi).1, e1, t, e2⟩
      · have := h41 z; omega
      · refine h h2 (hs1.trans hs2) (hS2.congr (List.filter_congr fun i hi => ?_))
        unfold orQ
        rw [any_elems Eo hperm (List.mem_range.mp hi)]
theorem entry_set_or : entryFor table "set.__or__" = some Builtin.«frozenset.__or__» :=
  entryFor_alias (id' := "frozenset.__or__") (by kernel_rfl) rfl (by decide +kernel) (by kernel_rfl)
theorem args_set_or (a b : Value) : argsOk "set.__or__" ⟨[a, b], []⟩ := PySem.F.args_set_or_2 a b
def unionOf (id : String) (l : Addr) (r : Value) : Sem Value := do
  let result ← Builtin.Frozenset.copyOf l
  if r != .ref l then holding [result] (Builtin.Frozenset.updateFrom id (← Builtin.Frozenset.addrOf result) r)
  return result
theorem or_eq (a b : Addr) : Builtin.«frozenset.__or__» ⟨[.ref a, .ref b], []⟩ = (do
    let (self, other) ← Builtin.Frozenset.slot1 "__or__" ⟨[.ref a, .ref b], []⟩
    let (l, r) := if false then (other, self) else (self, other)
    if !(← Builtin.Frozenset.isAnySet l <&&> Builtin.Frozenset.isAnySet r) then rule s!"frozenset.{"__or__"}.declined"; return ← ret .notImplemented
    ret (← unionOf s!"frozenset.{"__or__"}" (← Builtin.Frozenset.addrOf l) r)) := rfl
theorem IsSmall.typeIs {a : Addr} {p : Nat → Bool} (h : IsSmall w s.heap a p) : s.TypeIs (.ref a) "set" := by
  obtain ⟨es, ep, mask, fin, mov, ho, _⟩ := h
  exact ⟨_, ho, rfl⟩
theorem isAnySet_wp {a : Addr} {Q : Bool → Shared → Prop} (hT : s.TypeIs (.ref a) "set") (h : Q true s) : wpAny (model prog w) A (Builtin.Frozenset.isAnySet (.ref a)) Q E s := by
  unfold Builtin.Frozenset.isAnySet
  refine wpAny_bind (wpAny_isInstance hT sub_set_self ?_)
  exact wpAny_pure h
theorem newSet_wp {Q : Value → Shared → Prop} (h : Q (.ref s.heap.objs.size) { s with heap := s.heap.push { cls := .type "set", dict := none, data := .set #[] 0 (.fresh 0 0 (!bt w)) } }) : wpAny (model prog w) A (newSet (.type "set")) Q E s := by
  unfold newSet
  refine wpAny_bind (byText_wp ?_)
  dsimp only
  simp only [newObj]
  exact wpAny_bind (wpAny_alloc (wpAny_pure h))
theorem or_small {a b : Addr} {p q : Nat → Bool} {Q : Value → Shared → Prop} (hab : a ≠ b) (hA : IsSmall w s.heap a p) (hB : IsSmall w s.heap b q)
    (h : ∀ h', (∀ c o, s.heap.get? c = some o → h'.get? c = some o) → IsSmall w h' s.heap.objs.size (orQ p q) → Q (.ref s.heap.objs.size) { s with heap := h' }) : wpAny (model prog w) A (binaryOp .BitOr (.ref a) (.ref b)) Q E s := by
  refine wpAny_binaryOp_same hA.typeIs hB.typeIs PySem.F.fills_set_or PySem.F.slot_set_or ?_
  refine wpAny_call_entry PySem.F.slot_set_or hA.typeIs entry_set_or ?_ (args_set_or _ _)
  rw [or_eq]
  refine wpAny_bind (m := Builtin.Frozenset.slot1 "__or__" _) (wpAny_pure ?_)
  simp only [Bool.false_eq_true, ↓reduceIte]
  refine wpAny_bind ?_
  refine wpAny_bind (isAnySet_wp hA.typeIs ?_)
  show wpAny _ _ (Builtin.Frozenset.isAnySet (.ref b)) _ _ _
  refine isAnySet_wp hB.typeIs ?_
  simp only [Bool.not_true, Bool.false_eq_true, ↓reduceIte]
  refine wpAny_bind (m := Builtin.Frozenset.addrOf _) (wpAny_pure ?_)
  unfold unionOf
  refine wpAny_bind ?_
  obtain ⟨ea, epa, ma, fa, mva, hoa, Ela, hma, h4a⟩ := id hA
  obtain ⟨eb, epb, mb, fb, mvb, hob, Elb, hmb, h4b⟩ := id hB
  have la : a < s.heap.objs.size := Heap.lt_size hoa
  have lb : b < s.heap.objs.size := Heap.lt_size hob
  unfold Builtin.Frozenset.copyOf Builtin.Frozenset.baseOf
  refine wpAny_bind (wpAny_bind (wpAny_bind (wpAny_isInstance hA.typeIs sub_set_self (wpAny_pure ?_))))
  simp only [↓reduceIte]
  refine wpAny_bind (newSet_wp ?_)
  refine wpAny_bind (m := Builtin.Frozenset.addrOf _) (wpAny_pure ?_)
  have hS0 := small_fresh w s.heap
  refine wpAny_bind (merge_small (s := { s with heap := s.heap.push { cls := .type "set", dict := none, data := .set #[] 0 (.fresh 0 0 (!bt w)) } }) (Nat.ne_of_gt la) (pure ()) hS0 (Heap.get?_push_of_some _ hoa) Ela hma h4a (fun s' Q' _ hq => wpAny_pure hq) fun h1 hs1 hS1 => ?_)
  refine wpAny_pure ?_
  have kept1 : ∀ c o, s.heap.get? c = some o → h1.get? c = some o := fun c o e => (hs1.2 c (Nat.ne_of_lt (Heap.lt_size e))).trans (Heap.get?_push_of_some _ e)
  have hne : (Value.ref b != Value.ref a) = true := by simp [Ne.symm hab]
  rw [hne]
  simp only [↓reduceIte]
  have hob1 := kept1 b _ hob
  have hB1 : IsSmall w h1 b q := hB.at fun o e => kept1 b o e
  refine wpAny_bind (m := Builtin.Frozenset.addrOf _) (wpAny_pure ?_)
  refine wpAny_bind (m := holding _ _) ?_
  refine wpAny_holding ?_
  unfold Builtin.Frozenset.updateFrom
  refine wpAny_bind (isAnySet_wp (s := { s with heap := h1 }) hB1.typeIs ?_)
  simp only [↓reduceIte]
  refine wpAny_bind (m := Builtin.Frozenset.addrOf _) (wpAny_pure ?_)
  unfold Builtin.Frozenset.merge
  refine wpAny_bind (wpAny_setEpoch_of (s := { s with heap := h1 }) hob1 rfl (fits_of Elb.size hmb) ?_)
  refine merge_small (s := { s with heap := h1 }) (Nat.ne_of_gt lb) _ hS1 hob1 Elb hmb h4b (fun s' Q' ho' hq => ?_) fun h2 hs2 hS2 => ?_
  · unfold Builtin.Frozenset.unchanged
    refine wpAny_bind (wpAny_setEpoch_of ho' rfl (fits_of Elb.size hmb) ?_)
    simp only [bne_self_eq_false, Bool.false_eq_true, ↓reduceIte]
    exact wpAny_pure hq
  · refine wpAny_pure (wpAny_pure ⟨_, rfl, (fun z => nomatch z), h h2 (fun c o e => (hs2.2 c (Nat.ne_of_lt (Heap.lt_size e))).trans (kept1 c o e)) (hS2.congr (List.filter_congr fun i _ => ?_))⟩)
    unfold orQ
    simp
end
end SetPure
namespace SetPure
open PySem
def slotOf (p : Nat → Bool) : Nat → Nat
  | 0 => 0
  | i + 1 => (pl p).getD i 0 + 1
theorem slotOf_congr {p q : Nat → Bool} (e : pl p = pl q) (i : Nat) : slotOf p i = slotOf q i := by cases i <;> simp [slotOf, e]
def chkNext : Bool := allB fun bs => (List.range ((pl (bp bs)).length + 1)).all fun i => SetTable.below (pl (bp bs)).toArray (slotOf (bp bs) i) == i
theorem chkNext_ok : chkNext = true := by decide +kernel
theorem below_slot (p : Nat → Bool) {i : Nat} (h : i ≤ (pl p).length) : SetTable.below (pl p).toArray (slotOf p i) = i := by
  have q := allB_of chkNext_ok p
  have q := List.all_eq_true.mp q i (List.mem_range.mpr (by rw [pl_bp]; omega))
  rw [pl_bp, slotOf_congr (pl_bp p), beq_iff_eq] at q
  exact q
def ordOf (w : World) (S : Addr) (ep : Nat) (es : Array (Int × Value)) : Array (Int × Value) := if bt w = true then pickOrder (w.params.setOrder S ep) es else es
theorem ord_perm (w : World) (S : Addr) (ep : Nat) (es : Array (Int × Value)) : (ordOf w S ep es).toList.Perm es.toList := by
  unfold ordOf
  split
  · exact pick_perm _ _
  · exact List.Perm.refl _
theorem ord_size (w : World) (S : Addr) (ep : Nat) (es : Array (Int × Value)) : (ordOf w S ep es).size = es.size := by
  have := (ord_perm w S ep es).length_eq
  simpa using this
theorem slot_setiter_next : Slot "set_iterator" "__next__" "set_iterator.__next__" :=
  .of (owner := "set_iterator") (n := "__next__") (by rw [typeLookup_type, builtinLookup_eq_fast]; kernel_rfl) (by decide +kernel) (by decide +kernel) (by decide +kernel)
    (by first | exact .inl (by decide +kernel) | exact .inr (by decide +kernel)) (by rw [isSubtype_type]; kernel_rfl)
theorem entry_setiter_next : entryFor table "set_iterator.__next__" = some Builtin.«set_iterator.__next__» := entryFor_of_fast (by kernel_rfl)
theorem args_setiter_next (a : Value) : argsOk "set_iterator.__next__" ⟨[a], []⟩ := by unfold argsOk; kernel_rfl
theorem entry_set_iter : entryFor table "set.__iter__" = some Builtin.«frozenset.__iter__» :=
  entryFor_alias (id' := "frozenset.__iter__") (by kernel_rfl) rfl (by decide +kernel) (by kernel_rfl)
structure IterAt (w : World) (I S : Addr) (es : Array (Int × Value)) (ep mask : Nat) (p : Nat → Bool) (fin mov : Nat) (i : Nat) (h : Heap) : Prop where
  set : h.get? S = some (smallObj w es ep mask p fin mov)
  it : ∃ (slot : Nat) (o : Obj), h.get? I = some o ∧ o.cls = .type "set_iterator" ∧ o.data = .fields #[rawInt slot, rawInt i, .ref S, rawInt es.size, rawInt ep] ∧ (bt w = false → slot = slotOf p i)
section
variable {prog : Program} {w : World} {A : Around} {E : Value → Shared → Prop} {s : Shared} {I S : Addr} {es : Array (Int × Value)} {ep mask : Nat} {p : Nat → Bool} {fin mov i : Nat}
theorem IterAt.typeIs (x : IterAt w I S es ep mask p fin mov i s.heap) : s.TypeIs (.ref I) "set_iterator" := by
  obtain ⟨slot, o, ho, hc, _⟩ := x.it
  exact ⟨o, ho, hc⟩
theorem next_wp {slot : Nat} {Q : Option (Value × Nat) → Shared → Prop} (ho : s.heap.get? S = some (smallObj w es ep mask p fin mov)) (El : Elems p es) (hm : mask ∈ masks) (hi : i ≤ es.size) (hs : bt w = false → slot = slotOf p i)
    (h : ∀ nx, (bt w = false → nx = slotOf p (i + 1)) → Q (((ordOf w S ep es)[i]?).map fun e => (e.2, nx)) s) : wpAny (model prog w) A (setNext S slot i ep) Q E s := by
  unfold setNext
  refine wpAny_bind (state_small ho El hm ?_)
  refine wpAny_bind (byText_wp ?_)
  cases hb : bt w with
  | true =>
    simp only [↓reduceIte, bne_self_eq_false, Bool.false_eq_true]
    refine wpAny_bind (walk_small ho El hm (wpAny_pure ?_))
    exact h slot fun z => by rw [hb] at z; cases z
  | false =>
    simp only [Bool.false_eq_true, ↓reduceIte]
    have hsl := hs hb
    have hn := h (slotOf p (i + 1)) fun _ => rfl
    have ho' : ordOf w S ep es = es := by unfold ordOf; rw [hb]; rfl
    rw [ho'] at hn
    have hbl : SetTable.below (tb mask p fin (!false) mov).place slot = i := by
      show SetTable.below (pl p).toArray slot = i
      rw [hsl]
      exact below_slot p (by rw [← El.size]; exact hi)
    have hsz := El.size
    wp_walk
    rw [hbl]
    show Q (match es[i]?, (pl p).toArray[i]? with | some (_, x), some j => some (x, j + 1) | _, _ => none) s
    rcases Nat.lt_or_ge i es.size with hlt | hge
    · have e1 : es[i]? = some es[i] := Array.getElem?_eq_getElem hlt
      have hlp : i < (pl p).length := by rw [← hsz]; exact hlt
      have e2 : (pl p).toArray[i]? = some (pl p)[i] := by simp [hlp]
      rw [e1] at hn
      rw [e1, e2]
      have e3 : slotOf p (i + 1) = (pl p)[i] + 1 := by simp [slotOf, hlp]
      rw [e3] at hn
      exact hn
    · have e1 : es[i]? = none := Array.getElem?_eq_none hge
      rw [e1] at hn ⊢
      exact hn
theorem item_set {x : Int × Value} {Q : Option Value → Shared → Prop} (st : IterAt w I S es ep mask p fin mov i s.heap) (hIS : I ≠ S) (El : Elems p es) (hm : mask ∈ masks) (hx : (ordOf w S ep es)[i]? = some x)
    (hQ : ∀ h', IterAt w I S es ep mask p fin mov (i + 1) h' → Heap.SameBut I s.heap h' → Q (some x.2) { s with heap := h' }) : wpAny (model prog w) A (pyNext (.ref I)) Q E s := by
  obtain ⟨hset, slot, o, ho, hc, hd, hsl⟩ := id st
  have hlt : i < es.size := by
    rw [← ord_size w S ep es]
    exact (Array.getElem?_eq_some_iff.mp hx).1
  unfold pyNext
  refine wpAny_bind (wpAny_attempt (wpAny_callSpecial?_slot (name := Str.ofString "__next__") st.typeIs slot_setiter_next
    (wpAny_call_entry slot_setiter_next st.typeIs entry_setiter_next ?_ (args_setiter_next _))))
  unfold Builtin.«set_iterator.__next__»
  refine wpAny_bind (m := slotArgs "__next__" 0 _) (wpAny_pure ?_)
  refine wpAny_bind (wpAny_fieldsOf ho hd ?_)
  dsimp only [rawInt]
  refine wpAny_bind (wpAny_setEntries_of hset rfl (fits_of El.size hm) ?_)
  simp only [bne_self_eq_false, Bool.false_eq_true, ↓reduceIte, Int.toNat_natCast]
  refine wpAny_bind (next_wp hset El hm (Nat.le_of_lt hlt) hsl fun nx hnx => ?_)
  rw [hx]
  simp only [Option.map_some]
  have h1 := Obj.data_mapFields hd (·.setIfInBounds 0 (rawInt nx))
  refine wpAny_bind (wpAny_setField ho hd (by simp) ?_)
  have ho1 := Heap.get?_update_self (Obj.mapFields (·.setIfInBounds 0 (rawInt nx))) ho (Obj.isFreed_of_fields h1)
  refine wpAny_bind (wpAny_setField ho1 h1 (by simp) (wpAny_pure ⟨x.2, rfl, wpAny_pure (hQ _ ?_ ((Heap.SameBut.update ..).trans (Heap.SameBut.update ..)))⟩))
  have h2 := Obj.data_mapFields h1 (·.setIfInBounds 1 (rawInt ((i : Int) + 1)))
  refine ⟨?_, nx, _, Heap.get?_update_self _ ho1 (Obj.isFreed_of_fields h2), ?_, ?_, hnx⟩
  · rw [Heap.get?_update_other _ _ hIS, Heap.get?_update_other _ _ hIS]
    exact hset
  · rw [Obj.cls_mapFields, Obj.cls_mapFields]; exact hc
  · refine h2.trans ?_; simp [rawInt]
theorem end_set {Q : Option Value → Shared → Prop} (hh : A.handled = none) (st : IterAt w I S es ep mask p fin mov es.size s.heap) (El : Elems p es) (hm : mask ∈ masks)
    (hQ : ∀ h', Heap.ExtBut I s.heap h' → Q none { s with heap := h' }) : wpAny (model prog w) A (pyNext (.ref I)) Q E s := by
  obtain ⟨hset, slot, o, ho, hc, hd, hsl⟩ := id st
  unfold pyNext
  refine wpAny_bind (wpAny_attempt (wpAny_callSpecial?_slot (name := Str.ofString "__next__") st.typeIs slot_setiter_next
    (wpAny_call_entry slot_setiter_next st.typeIs entry_setiter_next ?_ (args_setiter_next _))))
  unfold Builtin.«set_iterator.__next__»
  refine wpAny_bind (m := slotArgs "__next__" 0 _) (wpAny_pure ?_)
  refine wpAny_bind (wpAny_fieldsOf ho hd ?_)
  dsimp only [rawInt]
  refine wpAny_bind (wpAny_setEntries_of hset rfl (fits_of El.size hm) ?_)
  simp only [bne_self_eq_false, Bool.false_eq_true, ↓reduceIte, Int.toNat_natCast]
  refine wpAny_bind (next_wp hset El hm (Nat.le_refl _) hsl fun nx hnx => ?_)
  have hx : (ordOf w S ep es)[es.size]? = none := Array.getElem?_eq_none (by rw [ord_size]; exact Nat.le_refl _)
  rw [hx]
  simp only [Option.map_none]
  refine wpAny_bind (wpAny_setField ho hd (by simp) ?_)
  show wpAny _ _ (newExc (.type "StopIteration") [] >>= _) _ _ _
  refine wpAny_bind ?_
  simp only [newExc, newTuple]
  refine wpAny_bind (wpAny_newObj_type ?_ (by size_fits))
  refine wpAny_bind (m := firstArgMember _ _) (wpAny_of_eq (a := Value.none) (by first | rfl | (simp only [firstArgMember]; rfl)) ?_)
  refine wpAny_newObj_type ?_ (by size_fits)
  simp only [raiseNew]
  refine wpAny_bind (wpAny_handled ?_)
  rw [show A.in1.handled = none from hh]
  refine wpAny_bind (wpAny_pure (wpAny_throw ?_))
  refine wpAny_bind (wpAny_isInstance (T := "StopIteration") (b := true) ⟨_, Heap.get?_push_size _ rfl, rfl⟩ isSubtype_stop ?_)
  exact wpAny_pure (hQ _ (((Heap.SameBut.update ..).extBut.push _).push _))
theorem iter_set {Q : Value → Shared → Prop} (hset : s.heap.get? S = some (smallObj w es ep mask p fin mov)) (El : Elems p es) (hm : mask ∈ masks)
    (hQ : Q (.ref s.heap.objs.size) { s with heap := s.heap.push { cls := .type "set_iterator", data := .fields #[rawInt 0, rawInt 0, .ref S, rawInt es.size, rawInt ep] } }) : wpAny (model prog w) A (pyIter (.ref S)) Q E s := by
  have hT : s.TypeIs (.ref S) "set" := ⟨_, hset, rfl⟩
  refine wpAny_pyIter_slot hT PySem.F.slot_set_iter (wpAny_call_entry PySem.F.slot_set_iter hT entry_set_iter ?_ (PySem.F.args_set_iter_1 _))
  unfold Builtin.«frozenset.__iter__»
  refine wpAny_bind (m := Builtin.Frozenset.slot0 "__iter__" _) (wpAny_pure ?_)
  unfold Builtin.Frozenset.sizeOf
  refine wpAny_bind (wpAny_bind (wpAny_setEntries_of hset rfl (fits_of El.size hm) (wpAny_pure ?_)))
  unfold setDrawn
  refine wpAny_bind (wpAny_bind (state_small hset El hm ?_))
  refine wpAny_bind (byText_wp (wpAny_pure ?_))
  have hdr : (!bt w && ((!(tb mask p fin (!bt w) mov).plain) && decide (es.size > 1))) = false := by
    show (!bt w && ((!true) && decide (es.size > 1))) = false
    simp
  show wpAny _ _ (if (!bt w && ((!(tb mask p fin (!bt w) mov).plain) && decide (es.size > 1))) = true then _ else _) _ _ _
  rw [hdr]
  simp only [Bool.false_eq_true, ↓reduceIte]
  refine wpAny_bind (wpAny_pure ?_)
  refine wpAny_bind (wpAny_setEpoch_of hset rfl (fits_of El.size hm) ?_)
  exact wpAny_bind (wpAny_newObj_type (wpAny_pure ⟨_, rfl, "set_iterator", _, ⟨_, Heap.get?_push_size _ rfl, rfl⟩, slot_setiter_next.lookup, hQ⟩))
theorem extend_set {D : Addr} {res : Value} {R : Result → Shared → Prop} (hh : A.handled = none) (hIS : I ≠ S) (hDI : D ≠ I) (hDS : D ≠ S) (El : Elems p es) (hm : mask ∈ masks) :
    ∀ (k i : Nat) (s : Shared) (acc : Array Value) (c : Nat), es.size - i = k → i ≤ es.size → IterAt w I S es ep mask p fin mov i s.heap → s.heap.get? D = some { cls := .type "list", dict := none, data := .seq acc c, slots := #[] } → acc.toList = ((ordOf w S ep es).toList.take i).map (·.2) →
      (∀ h' acc' c', (∀ b o, b ≠ I → b ≠ D → s.heap.get? b = some o → h'.get? b = some o) → h'.get? D = some { cls := .type "list", dict := none, data := .seq acc' c', slots := #[] } → acc'.toList = (ordOf w S ep es).toList.map (·.2) → R (.ok (.ret res)) { s with heap := h' }) →
      codeAny (model prog w) A (.builtin "list.extend.loop" ⟨[.ref D, .ref I, res], []⟩) R s := by
  intro k
  induction k with
  | zero =>
    intro i s acc c hk hi hst hD hacc hR
    have hin : i = es.size := by omega
    subst hin
    refine codeAny_builtin PySem.F.entry_extend_loop ?_
    rw [Around.under_plainId PySem.F.plain_extend_loop _]
    show wpAny _ A.in1 (pyNext (.ref I) >>= _) _ _ s
    refine wpAny_bind (end_set (by simpa using hh) hst El hm fun h' he => ?_)
    refine wpAny_pure (hR h' acc c (fun b o h1 _ e => he b o h1 e) (he D _ hDI hD) ?_)
    rw [hacc, List.take_of_length_le (by rw [Array.length_toList, ord_size]; exact Nat.le_refl _)]
  | succ k ih =>
    intro i s acc c hk hi hst hD hacc hR
    have hlt : i < es.size := by omega
    have hlt' : i < (ordOf w S ep es).size := by rw [ord_size]; exact hlt
    refine codeAny_builtin PySem.F.entry_extend_loop ?_
    rw [Around.under_plainId PySem.F.plain_extend_loop _]
    show wpAny _ A.in1 (pyNext (.ref I) >>= _) _ _ s
    have hx : (ordOf w S ep es)[i]? = some (ordOf w S ep es)[i] := Array.getElem?_eq_getElem hlt'
    refine wpAny_bind (item_set hst hIS El hm hx fun h1 hst1 hs1 => ?_)
    have hD1 : h1.get? D = _ := (hs1.2 D hDI).trans hD
    show wpAny _ A.in1 (updateSeq D (·.push (ordOf w S ep es)[i].2) >>= _) _ _ _
    refine wpAny_bind ?_
    have hal : acc.size ≤ 7 := by
      have e1 : acc.size = acc.toList.length := by simp
      rw [e1, hacc, List.length_map]
      have := List.length_take_le' i (ordOf w S ep es).toList
      have e2 : (ordOf w S ep es).toList.length = es.size := by simp [ord_size]
      have e3 := El.size
      have e4 := len_pl p
      omega
    refine wpAny_updateSeq (s := { s with heap := h1 }) hD1 rfl (wpAny_pure ⟨plainId_quiet PySem.F.plain_extend_loop _, ih (i + 1) _ (acc.push (ordOf w S ep es)[i].2) _ (by omega) hlt ?_ (Heap.get?_update_self _ hD1 rfl) ?_ fun h2 acc' c' k2 hD2 hacc2 => ?_⟩) (by rw [sizeLine_eq]; omega) (by show (acc.push _).size ≤ sizeLine + 1; rw [Array.size_push, sizeLine_eq]; omega)
    · obtain ⟨a1, slot, o, a2, a3⟩ := hst1
      exact ⟨(Heap.get?_update_other _ _ hDS).trans a1, slot, o, (Heap.get?_update_other _ _ hDI).trans a2, a3⟩
    · rw [Array.toList_push, hacc]
      have e : (ordOf w S ep es).toList[i]? = some (ordOf w S ep es)[i] := by rw [Array.getElem?_toList]; exact hx
      rw [List.take_succ, e, List.map_append]
      rfl
    · exact hR h2 acc' c' (fun b o hb1 hb2 e => k2 b o hb1 hb2 ((Heap.get?_update_other _ _ (Ne.symm hb2)).trans ((hs1.2 b hb1).trans e))) hD2 hacc2
end
section
variable {prog : Program} {w : World} {A : Around} {E : Value → Shared → Prop} {s : Shared} {S : Addr} {p : Nat → Bool}
theorem hint_set {Q : Bool → Shared → Prop} (hT : s.TypeIs (.ref S) "set") (h : Q false s) : wpAny (model prog w) A (Builtin.List.listLengthHint (.ref S)) Q E s := by
  unfold Builtin.List.listLengthHint
  refine wpAny_bind (wpAny_specialOf hT PySem.F.slot_set_len.lookup ?_)
  have hsp : splitId "set.__len__" = some ("set", "__len__") := by decide +kernel
  simp only [hsp]
  refine wpAny_bind (wpAny_isInstance (b := true) hT sub_set_self ?_)
  rw [if_neg (by decide), if_pos (by decide +kernel)]
  refine wpAny_bind (wpAny_typeOf hT ?_)
  exact wpAny_pure h
theorem collect_set {Q : List Value → Shared → Prop} (hh : A.handled = none) (hS : IsSmall w s.heap S p)
    (h : ∀ h' tk vs, s.heap.objs.size ≤ h'.objs.size → (∀ b o, s.heap.get? b = some o → h'.get? b = some o) → (∃ es : Array (Int × Value), Elems p es ∧ vs.Perm (es.toList.map (·.2))) → Q vs { s with heap := h', toks := tk }) : wpAny (model prog w) A (collect (.ref S)) Q E s := by
  obtain ⟨es, ep, mask, fin, mov, hset, El, hm, h4⟩ := id hS
  have lS : S < s.heap.objs.size := Heap.lt_size hset
  unfold collect
  refine wpAny_bind (wpAny_runValue (codeAny_builtin PySem.F.entry_proto_collect ?_))
  rw [Around.under_plainId PySem.F.plain_proto_collect _]
  show wpAny _ A.in1 (newList [] >>= fun l => again (.builtin "list.__iadd__" ⟨[l, .ref S], []⟩)) _ _ s
  refine wpAny_bind (wpAny_newObj_type ?_)
  refine wpAny_pure ⟨plainId_quiet PySem.F.plain_list_iadd _, codeAny_builtin PySem.F.entry_list_iadd ?_⟩
  rw [Around.under_plainId PySem.F.plain_list_iadd _]
  have hset1 := Heap.get?_push_of_some { cls := .type "list", data := .seq ([] : List Value).toArray } hset
  have hD1 : (s.heap.push { cls := .type "list", data := .seq ([] : List Value).toArray }).get? s.heap.objs.size = some { cls := .type "list", data := .seq ([] : List Value).toArray } := Heap.get?_push_size _ rfl
  show wpAny _ A.in1 (Builtin.List.listExtendWith (.ref s.heap.objs.size) (.ref S) (.ref s.heap.objs.size)) _ _ _
  unfold Builtin.List.listExtendWith
  refine wpAny_bind (wpAny_typeOf (T := "set") ⟨_, hset1, rfl⟩ ?_)
  have h1 : Builtin.List.listSameRef (.ref s.heap.objs.size) (.ref S) = false := by simp [Builtin.List.listSameRef, Nat.ne_of_gt lS]
  rw [if_neg (by rw [h1]; decide)]
  refine wpAny_bind (iter_set hset1 El hm ?_)
  have hset2 := Heap.get?_push_of_some { cls := .type "set_iterator", data := .fields #[rawInt 0, rawInt 0, .ref S, rawInt es.size, rawInt ep] } hset1
  have hD2 := Heap.get?_push_of_some { cls := .type "set_iterator", data := .fields #[rawInt 0, rawInt 0, .ref S, rawInt es.size, rawInt ep] } hD1
  refine wpAny_bind (wpAny_holding (hint_set ⟨_, hset2, rfl⟩ ?_))
  refine wpAny_bind (wpAny_rule ?_)
  refine wpAny_bind ?_
  show wpAny _ A.in1 (updateSeq s.heap.objs.size (·.push .none) >>= fun _ => updateSeq s.heap.objs.size (·.pop)) _ _ _
  refine wpAny_bind (wpAny_updateSeq hD2 rfl ?_)
  have hD3 := Heap.get?_update_self (Obj.mapSeq (·.push Value.none)) hD2 rfl
  refine wpAny_updateSeq hD3 rfl ?_
  have hD4 := Heap.get?_update_self (Obj.mapSeq (·.pop)) hD3 rfl
  have oth : ∀ b o, b ≠ s.heap.objs.size → ((s.heap.push { cls := .type "list", data := .seq ([] : List Value).toArray }).push { cls := .type "set_iterator", data := .fields #[rawInt 0, rawInt 0, .ref S, rawInt es.size, rawInt ep] }).get? b = some o →
      ((((s.heap.push { cls := .type "list", data := .seq ([] : List Value).toArray }).push { cls := .type "set_iterator", data := .fields #[rawInt 0, rawInt 0, .ref S, rawInt es.size, rawInt ep] }).update s.heap.objs.size (Obj.mapSeq (·.push Value.none))).update s.heap.objs.size (Obj.mapSeq (·.pop))).get? b = some o :=
    fun b o hb e => (Heap.get?_update_other _ _ (Ne.symm hb)).trans ((Heap.get?_update_other _ _ (Ne.symm hb)).trans e)
  have eI : (s.heap.push { cls := .type "list", data := .seq ([] : List Value).toArray }).objs.size = s.heap.objs.size + 1 := by rw [Heap.size_push]
  have hIS : (s.heap.push { cls := .type "list", data := .seq ([] : List Value).toArray }).objs.size ≠ S := by rw [eI]; exact Nat.ne_of_gt (Nat.lt_succ_of_lt lS)
  have hDI : s.heap.objs.size ≠ (s.heap.push { cls := .type "list", data := .seq ([] : List Value).toArray }).objs.size := by rw [eI]; exact Nat.ne_of_lt (Nat.lt_succ_self _)
  refine wpAny_pure ⟨plainId_quiet PySem.F.plain_extend_loop _, extend_set (by simpa using hh) hIS hDI (Nat.ne_of_gt lS) El hm es.size 0 _ _ _ rfl (Nat.zero_le _) ⟨oth S _ (Nat.ne_of_lt lS) hset2, 0, _, oth _ _ (Ne.symm hDI) (Heap.get?_push_size _ rfl), rfl, rfl, fun _ => rfl⟩ hD4 rfl fun h' acc' c' k' hD' hacc' => ?_⟩
  show wpAny _ A (load s.heap.objs.size >>= _) _ _ _
  refine wpAny_bind (wpAny_load hD' ?_)
  refine wpAny_pure (h h' _ _ (Nat.le_of_lt (Heap.lt_size hD')) (fun b o e => ?_) ⟨es, El, ?_⟩)
  · have lb := Heap.lt_size e
    exact k' b o (by rw [eI]; exact Nat.ne_of_lt (Nat.lt_succ_of_lt lb)) (Nat.ne_of_lt lb) (oth b o (Nat.ne_of_lt lb) (Heap.get?_push_of_some _ (Heap.get?_push_of_some _ e)))
  · rw [hacc']
    exact (ord_perm w S ep es).map _
theorem sorted_uniq : ∀ {a b : List Int}, a.Perm b → a.Pairwise (· ≤ ·) → b.Pairwise (· ≤ ·) → a = b
  | [], b, p, _, _ => (List.Perm.nil_eq p)
  | x :: r, [], p, _, _ => absurd p.length_eq (by simp)
  | x :: r, y :: t, p, ha, hb => by
    obtain ⟨a1, a2⟩ := List.pairwise_cons.mp ha
    obtain ⟨b1, b2⟩ := List.pairwise_cons.mp hb
    have h1 : x ≤ y := by
      rcases List.mem_cons.mp (p.mem_iff.mpr (List.mem_cons_self (a := y) (l := t))) with e | e
      · omega
      · exact a1 y e
    have h2 : y ≤ x := by
      rcases List.mem_cons.mp (p.mem_iff.mp (List.mem_cons_self (a := x) (l := r))) with e | e
      · omega
      · exact b1 x e
    have e : x = y := by omega
    subst e
    rw [sorted_uniq (List.Perm.cons_inv p) a2 b2]
theorem pl_sorted (p : Nat → Bool) : ((pl p).map Int.ofNat).Pairwise (· ≤ ·) := by
  rw [List.pairwise_map]
  have h : (List.range 7).Pairwise (· ≤ ·) := by decide
  exact (h.sublist List.filter_sublist).imp fun {a b} hab => by simpa using hab
open PyProof.Rows in
theorem sorted_set {Q : Value → Shared → Prop} (hh : A.handled = none) (hS : IsSmall w s.heap S p)
    (h : ∀ h' tk l (out : List Value) (n : Nat), (∀ b o, s.heap.get? b = some o → h'.get? b = some o) → s.heap.get? l = none → h'.get? l = some { cls := .type "list", data := .seq out.toArray n } → s.heap.objs.size ≤ l → IntsAre out ((pl p).map Int.ofNat) → Q (.ref l) { s with heap := h', toks := tk }) :
    wpAny (model prog w) A (call (.builtin "sorted") [.ref S]) Q E s := by
  refine Calls.call_function_entry kind_sorted plain_sorted entry_sorted (args_sorted1 _) ?_
  unfold Builtin.«sorted»
  refine wpAny_bind (m := checkCount "sorted" 1 1 _) (wpAny_pure ?_)
  refine wpAny_bind (collect_set (by simpa using hh) hS fun h1 tk1 vs hge k1 hvs => ?_)
  obtain ⟨es, El, hp⟩ := hvs
  have key : ∀ {l : List Nat} {m : List (Int × Value)}, Paired (fun (i : Nat) (e : Int × Value) => e.1 = (i : Int) ∧ ∃ t, e.2 = .int i t) l m → (m.map (·.2)).map numOf = l.map Int.ofNat ∧ ∀ v ∈ m.map (·.2), ∃ n t, v = Value.int n t := by
    intro l m hlm
    induction hlm with
    | nil => exact ⟨rfl, fun v hv => by simp at hv⟩
    | cons r _ ih =>
      obtain ⟨r1, t, r2⟩ := r
      refine ⟨?_, fun v hv => ?_⟩
      · rw [List.map_cons, List.map_cons, List.map_cons, ih.1, r2]; rfl
      · rcases List.mem_cons.mp hv with e | e
        · exact ⟨_, t, e.trans r2⟩
        · exact ih.2 v e
  obtain ⟨k1', k2'⟩ := key El
  have hI : IntsAre vs (vs.map numOf) := intsAre_map vs fun v hv => k2' v (hp.mem_iff.mp hv)
  have hnp : (vs.map numOf).Perm ((pl p).map Int.ofNat) := by rw [← k1']; exact hp.map _
  have h64 : vs.length < 64 := by
    have e1 := hp.length_eq
    have e2 := El.size
    have e3 := len_pl p
    rw [List.length_map] at e1
    have e4 : es.toList.length = es.size := by simp
    omega
  refine wpAny_bind (wpAny_newList ?_ (by rw [sizeLine_eq]; omega))
  have hoL : (h1.push (seqObj "list" vs.toArray 0)).get? h1.objs.size = some (seqObj "list" vs.toArray 0) := Heap.get?_push_size _ rfl
  refine wpAny_bind (wpAny_holding (wpAny_call_entry slot_list_sort ⟨_, hoL, rfl⟩ entry_list_sort (list_sort_tree hoL hI h64 fun out ns' a1 a2 a3 => ⟨_, rfl, ?_⟩) (args_list_sort _)))
  have en : ns' = (pl p).map Int.ofNat := sorted_uniq (a2.trans hnp) a3 (pl_sorted p)
  subst en
  have hl1 : (h1.push (seqObj "list" vs.toArray 0)).objs.size = h1.objs.size + 1 := size_push' _ _
  have hsz1 : ((h1.push (seqObj "list" vs.toArray 0)).update h1.objs.size (Obj.mapSeq fun _ => #[])).objs.size = h1.objs.size + 1 := by rw [Heap.size_update, hl1]
  have kept : ∀ b o, b ≠ h1.objs.size → h1.get? b = some o → (sortedHeap (h1.push (seqObj "list" vs.toArray 0)) h1.objs.size vs out).get? b = some o := fun b o hb e => by
    unfold sortedHeap
    rw [Heap.get?_update_other _ _ (Ne.symm hb)]
    refine Heap.get?_push_of_some _ (Heap.get?_push_of_some _ ?_)
    rw [Heap.get?_update_other _ _ (Ne.symm hb)]
    exact Heap.get?_push_of_some _ e
  obtain ⟨n2, hL⟩ : ∃ n2, (sortedHeap (h1.push (seqObj "list" vs.toArray 0)) h1.objs.size vs out).get? h1.objs.size = some (seqObj "list" out n2) := by
    unfold sortedHeap
    have e1 : ∃ e1, ((h1.push (seqObj "list" vs.toArray 0)).update h1.objs.size (Obj.mapSeq fun _ => #[])).get? h1.objs.size = some (seqObj "list" #[] e1) := ⟨_, get?_update_seq hoL (fun _ => #[])⟩
    obtain ⟨e1, ho1⟩ := e1
    exact ⟨_, get?_update_seq (Heap.get?_push_of_some _ (Heap.get?_push_of_some _ ho1)) (fun _ => out)⟩
  refine wpAny_pure ⟨_, rfl, h _ _ h1.objs.size out.toList n2 (fun b o e => kept b o (Nat.ne_of_lt (Nat.lt_of_lt_of_le (Heap.lt_size e) hge)) (k1 b o e)) (Heap.get?_none_of_le hge) ?_ hge a1⟩
  rw [hL]
end
end SetPure
namespace SortPure
open PySem PySem.W PyProof.Rows
def IsPair (h : Heap) (v : Value) (u x : Int) : Prop := ∃ a o t t' n, v = .ref a ∧ h.get? a = some o ∧ o.cls = .type "tuple" ∧ o.data = .seq #[.int u t, .int x t'] n
theorem IsPair.keeps {h h' : Heap} {v : Value} {u x : Int} (p : IsPair h v u x) (k : ∀ b o, h.get? b = some o → h'.get? b = some o) : IsPair h' v u x := by
  obtain ⟨a, o, t, t', n, e, ho, r⟩ := p
  exact ⟨a, o, t, t', n, e, k a o ho, r⟩
abbrev Pairs (h : Heap) (vs : List Value) (ps : List (Int × Int)) : Prop := Paired (fun (v : Value) (p : Int × Int) => IsPair h v p.1 p.2) vs ps
theorem Pairs.keeps {h h' : Heap} (k : ∀ b o, h.get? b = some o → h'.get? b = some o) : ∀ {vs : List Value} {ps : List (Int × Int)}, Pairs h vs ps → Pairs h' vs ps
  | _, _, .nil => .nil
  | _, _, .cons r t => .cons (r.keeps k) (Pairs.keeps k t)
theorem Pairs.get {h : Heap} : ∀ {vs : List Value} {ps : List (Int × Int)} {i : Nat} {p : Int × Int}, Pairs h vs ps → ps[i]? = some p → IsPair h (vs.getD i Value.none) p.1 p.2
  | _, _, _, _, .nil, e => by simp at e
  | _, _, 0, _, .cons r _, e => by simp at e; subst e; simpa using r
  | _, _, i + 1, _, .cons _ t, e => by
    have := Pairs.get t (i := i) (by simpa using e)
    simpa using this
section
variable {prog : Program} {w : World} {A : Around} {E : Value → Shared → Prop} {s : Shared}
theorem lt_pairs {v u : Value} {a b c d : Int} {Q : Bool → Shared → Prop} (hv : IsPair s.heap v a b) (hu : IsPair s.heap u c d) (hlt : c < a) (h : Q false s) : wpAny (model prog w) A (keyLt' (tuples' true) v u) Q E s := by
  obtain ⟨x, ox, t1, t2, n, rfl, hx, hcx, dx⟩ := hv
  obtain ⟨y, oy, t3, t4, k, rfl, hy, hcy, dy⟩ := hu
  refine kat_lt hx dx hy dy ?_
  show KatLex prog w A true _ Q [(.int a t1, .int c t3), (.int b t2, .int d t4)] 0 s
  refine kat_cons (wpAny_eqBool_int ?_)
  have e : (a == c) = false := by simp; omega
  rw [e]
  refine kat_no ?_
  show wpAny _ _ (oneLt' true _ _) _ _ _
  refine oneLt_int ?_
  have : decide (a < c) = false := by simp; omega
  rw [this]
  exact h
theorem firsts_pairs {h : Heap} : ∀ {vs : List Value} {ps : List (Int × Int)}, Pairs h vs ps → ∃ fs : List Value, KatTups h vs fs ∧ fs.length = vs.length ∧ ∀ v ∈ fs, ∃ n t, v = Value.int n t
  | _, _, .nil => ⟨[], trivial, rfl, fun v hv => by simp at hv⟩
  | _, _, .cons r t => by
    obtain ⟨fs, k, l, q⟩ := firsts_pairs t
    obtain ⟨a, o, t1, t2, n, rfl, ho, hc, hd⟩ := r
    refine ⟨_ :: fs, KatTups.cons ho hc hd rfl k, by simp [l], fun v hv => ?_⟩
    rcases List.mem_cons.mp hv with e | e
    · exact ⟨_, t1, e⟩
    · exact q v e
theorem asc_pairs {vs : List Value} {ps : List (Int × Int)} {C : Nat → Shared → Prop} (hp : Pairs s.heap vs ps) (hr : ps.Pairwise fun p q => p.1 < q.1) (h : C vs.length s) :
    ∀ (f n : Nat), 1 ≤ n → n + f = vs.length → (kas_asc (List.toArray (List.range vs.length)) f n).kasWp (kas_ask prog w A (tuples' true) vs) C s
  | 0, n, _, e => by
    unfold kas_asc
    show C n s
    have : n = vs.length := by omega
    rw [this]
    exact h
  | f + 1, n, h1, e => by
    unfold kas_asc
    show kas_ask prog w A (tuples' true) vs _ _ (fun c s' => KasT.kasWp _ (if c = true then .ret n else kas_asc (List.toArray (List.range vs.length)) f (n + 1)) C s') s
    have hl := Paired.length hp
    have g1 : (List.toArray (List.range vs.length)).getD n 0 = n := by
      have : n < vs.length := by omega
      simp [Array.getD, this]
    have g2 : (List.toArray (List.range vs.length)).getD (n - 1) 0 = n - 1 := by
      have : n - 1 < vs.length := by omega
      simp [Array.getD, this]
    rw [g1, g2]
    unfold kas_ask
    have hn : n < ps.length := by omega
    have hn1 : n - 1 < ps.length := by omega
    have e1 : ps[n]? = some ps[n] := List.getElem?_eq_getElem hn
    have e2 : ps[n - 1]? = some ps[n - 1] := List.getElem?_eq_getElem hn1
    have hlt : ps[n - 1].1 < ps[n].1 := List.pairwise_iff_getElem.mp hr (n - 1) n hn1 hn (by omega)
    refine lt_pairs (hp.get e1) (hp.get e2) hlt ?_
    show KasT.kasWp _ (if false = true then _ else kas_asc (List.toArray (List.range vs.length)) f (n + 1)) C s
    rw [if_neg Bool.false_ne_true]
    exact asc_pairs hp hr h f (n + 1) (by omega) (by omega)
theorem sort_pairs {vs : List Value} {ps : List (Int × Int)} {G : Array Nat → Shared → Prop} (h2 : 2 ≤ vs.length) (hp : Pairs s.heap vs ps) (hr : ps.Pairwise fun p q => p.1 < q.1) (h : G (List.toArray (List.range vs.length)) s) :
    (kas_sort vs.length).kasWp (kas_ask prog w A (tuples' true) vs) G s := by
  unfold kas_sort kas_count
  rw [KasT.kasWp_bind, KasT.kasWp_bind]
  refine asc_pairs hp hr ?_ (vs.length - 1) 1 (Nat.le_refl _) (by omega)
  rw [if_pos (by simp)]
  show KasT.kasWp _ (if vs.length < vs.length then _ else _) G s
  rw [if_neg (Nat.lt_irrefl _)]
  exact h
theorem getD_range (vs : List Value) : ((List.range vs.length).map fun i => vs.getD i Value.none) = vs := by
  apply List.ext_getElem
  · simp
  · intro i h1 h2
    simp
    rw [List.getElem?_eq_getElem h2]; rfl
theorem list_sort_same {a : Addr} {vs : List Value} {ps : List (Int × Int)} {n : Nat} {P : PySem.Fin → Shared → Prop} (ho : s.heap.get? a = some (seqObj "list" vs.toArray n)) (hp : Pairs s.heap vs ps) (hr : ps.Pairwise fun p q => p.1 < q.1) (hna : ∀ v ∈ vs, v ≠ .ref a) (h64 : vs.length < 64)
    (h : P (.done (.ret .none)) { s with heap := sortedHeap s.heap a vs vs.toArray }) : wpAny (model prog w) A (Builtin.«list.sort» ⟨[.ref a], []⟩) P E s := by
  rw [list_sort_plain]
  have ha : a < s.heap.objs.size := Heap.lt_size ho
  refine wpAny_bind (listItems_at ho rfl ?_)
  refine wpAny_bind (listUpdate_at ho rfl ?_)
  obtain ⟨e1, ho1⟩ : ∃ e1, (s.heap.update a (Obj.mapSeq fun _ => #[])).get? a = some (seqObj "list" #[] e1) := ⟨_, get?_update_seq ho (fun _ => #[])⟩
  refine wpAny_bind (seqEpoch_at ho1 rfl ?_)
  refine wpAny_bind (wpAny_newTuple ?_)
  refine wpAny_bind (wpAny_newList ?_)
  refine wpAny_holding ?_
  have ho6 : (((s.heap.update a (Obj.mapSeq fun _ => #[])).push (seqObj "tuple" vs.toArray 0)).push (seqObj "list" #[] 0)).get? a = some (seqObj "list" #[] e1) := by
    rw [Heap.get?_push_ne _ _ _ (by rw [size_push', Heap.size_update]; exact Nat.ne_of_lt (Nat.lt_succ_of_lt ha)), Heap.get?_push_ne _ _ _ (by rw [Heap.size_update]; exact Nat.ne_of_lt ha)]
    exact ho1
  show wpAny (model prog w) A _ P E { s with heap := ((s.heap.update a (Obj.mapSeq fun _ => #[])).push (seqObj "tuple" vs.toArray 0)).push (seqObj "list" #[] 0) }
  dsimp only
  have hsz : vs.toArray.size = vs.length := by simp
  by_cases h2 : vs.toArray.size < 2
  · rw [if_pos h2, if_pos h2]
    refine wpAny_bind (wpAny_pure ?_)
    rw [StateT.run_pure]
    refine wpAny_bind (wpAny_pure ?_)
    dsimp only
    have e0 : (arrOf (SortSt.mk' general' (vs.toArray.zip vs.toArray) #[] 7 none)).map (·.2) = vs.toArray := by
      show (vs.toArray.zip vs.toArray).map (·.2) = _
      apply Array.ext'
      simp [List.map_snd_zip]
    rw [e0]
    refine wpAny_bind (seqEpoch_at ho6 rfl ?_)
    refine wpAny_bind (listUpdate_at ho6 rfl ?_ (hsz2 := by rw [hsz, sizeLine_eq]; omega))
    simp only [bne_self_eq_false, Bool.false_eq_true, if_false]
    exact wpAny_pure h
  · rw [if_neg h2, if_neg h2]
    have keep : ∀ b o, b ≠ a → s.heap.get? b = some o → (((s.heap.update a (Obj.mapSeq fun _ => #[])).push (seqObj "tuple" vs.toArray 0)).push (seqObj "list" #[] 0)).get? b = some o := fun b o hb e => by
      refine Heap.get?_push_of_some _ (Heap.get?_push_of_some _ ?_)
      rw [Heap.get?_update_other _ _ (Ne.symm hb)]
      exact e
    have hp' : Pairs (((s.heap.update a (Obj.mapSeq fun _ => #[])).push (seqObj "tuple" vs.toArray 0)).push (seqObj "list" #[] 0)) vs ps := by
      have key : ∀ {us : List Value} {qs : List (Int × Int)}, Pairs s.heap us qs → (∀ v ∈ us, v ≠ .ref a) → Pairs (((s.heap.update a (Obj.mapSeq fun _ => #[])).push (seqObj "tuple" vs.toArray 0)).push (seqObj "list" #[] 0)) us qs := by
        intro us qs hq
        induction hq with
        | nil => exact fun _ => .nil
        | cons r t ih =>
          intro hu
          refine .cons ?_ (ih fun v hv => hu v (List.mem_cons_of_mem _ hv))
          obtain ⟨x, o, t1, t2, m, rfl, hx, r'⟩ := r
          exact ⟨x, o, t1, t2, m, rfl, keep x o (fun z => hu _ List.mem_cons_self (by rw [z])) hx, r'⟩
      exact key hp hna
    obtain ⟨fs, k1, k2, k3⟩ := firsts_pairs hp'
    refine wpAny_bind (kat_kind (T := .type "int") k1 (by omega) (fun v hv => ?_) (by decide) ?_)
    · obtain ⟨m, t, rfl⟩ := k3 v hv
      exact Looks.of_pure rfl
    · have et : (Value.type "int" != Value.type "tuple") = true := by decide
      rw [et]
      refine wpAny_bind (wpAny_mono (kat_run (κ := tuples' true) (Q := fun st' s' => ∃ p : Array Nat, p = List.toArray (List.range vs.length) ∧ s' = { s with heap := ((s.heap.update a (Obj.mapSeq fun _ => #[])).push (seqObj "tuple" vs.toArray 0)).push (seqObj "list" #[] 0) } ∧ arrOf st' = p.map (kas_item (vs.toArray.zip vs.toArray)) ∧ failedOf st' = none)
        (G := fun p s' => p = List.toArray (List.range vs.length) ∧ s' = { s with heap := ((s.heap.update a (Obj.mapSeq fun _ => #[])).push (seqObj "tuple" vs.toArray 0)).push (seqObj "list" #[] 0) }) rfl (by omega) h64
        (fun p' st' s' a1 a2 a3 a4 => ⟨p', a4.1, a4.2, a2, a3⟩) (sort_pairs (by omega) hp' hr ⟨rfl, rfl⟩)) ?_ fun _ _ e => e)
      rintro ⟨⟨⟩, st'⟩ s' ⟨p, rfl, rfl, har, hf⟩
      dsimp only
      have hout := kat_snds rfl har
      rw [show (List.toArray (List.range vs.length)).toList = List.range vs.length from rfl, getD_range] at hout
      rw [hout]
      refine wpAny_bind (seqEpoch_at ho6 rfl ?_)
      refine wpAny_bind (listUpdate_at ho6 rfl ?_ (hsz2 := by rw [hsz, sizeLine_eq]; omega))
      rw [hf]
      simp only [bne_self_eq_false, Bool.false_eq_true, if_false]
      exact wpAny_pure h
theorem collect_tuple {l : Addr} {vs : List Value} {Q : List Value → Shared → Prop} (hl : IsTup s.heap l vs.toArray)
    (h : Q vs { s with heap := (s.heap.push (seqObj "list" #[] 0)).update s.heap.objs.size (Obj.mapSeq (· ++ vs.toArray)) }) (hsz : vs.length ≤ sizeLine) :
    wpAny (model prog w) A (collect (.ref l)) Q E s := by
  obtain ⟨o, ho, hc, n, hd⟩ := id hl
  unfold collect
  refine wpAny_bind (wpAny_runValue (codeAny_builtin entry_proto_collect' ?_))
  show wpAny _ _ (do again (.builtin "list.__iadd__" ⟨[← newList [], .ref l], []⟩)) _ _ s
  refine wpAny_bind (wpAny_newList (wpAny_pure ⟨Code.quiet_builtin _ (by decide +kernel), codeAny_builtin entry_list_iadd' ?_⟩))
  show wpAny _ _ (Builtin.List.listExtendWith (.ref s.heap.objs.size) (.ref l) (.ref s.heap.objs.size)) _ _ { s with heap := s.heap.push (seqObj "list" #[] 0) }
  unfold Builtin.List.listExtendWith
  have ho' : (s.heap.push (seqObj "list" #[] 0)).get? l = some o := Heap.get?_push_of_some _ ho
  refine wpAny_bind (wpAny_typeOf (T := "tuple") ⟨o, ho', hc⟩ ?_)
  have ht : (Value.type "tuple" == Value.type "tuple") = true := by rfl
  rw [if_pos (by rw [ht]; simp)]
  refine wpAny_bind (listItems_at ho' hd ?_)
  refine wpAny_bind (listItems_at (xs := #[]) (n := 0) (Heap.get?_push_size _ rfl) rfl ?_)
  rw [if_neg (by simp)]
  refine wpAny_bind (listUpdate_at (xs := #[]) (n := 0) (Heap.get?_push_size _ rfl) rfl ?_ (Nat.zero_le _) (by show (#[] ++ vs.toArray).size ≤ sizeLine + 1; simp only [Array.size_append, List.size_toArray, List.length_nil]; omega))
  refine wpAny_pure ?_
  show wpAny (model prog w) A (do
      let o ← load s.heap.objs.size
      match o.data with
      | .seq xs _ => pure xs.toList
      | _ => unsupported "internal:collect") Q E { s with heap := (s.heap.push (seqObj "list" #[] 0)).update s.heap.objs.size (Obj.mapSeq (· ++ vs.toArray)) }
  refine wpAny_bind (wpAny_load (get?_update_seq (Heap.get?_push_size _ rfl) _) ?_)
  show wpAny _ _ (pure ((#[] : Array Value) ++ vs.toArray).toList) Q E _
  rw [show ((#[] : Array Value) ++ vs.toArray).toList = vs by simp]
  exact wpAny_pure h
def Sorted (s : Shared) (out : List Value) (Q : Value → Shared → Prop) : Prop := ∀ h' D n, (∀ b o, s.heap.get? b = some o → h'.get? b = some o) → s.heap.objs.size ≤ D → h'.get? D = some { cls := .type "list", data := .seq out.toArray n } → Q (.ref D) { s with heap := h' }
theorem sortedAll_ok {Q : Value → Shared → Prop} {vs out : List Value} (h : Sorted s out Q) : Q (.ref (s.heap.objs.size + 1)) { s with heap := sortedAll s.heap vs out.toArray } := by
  have hsz : ((s.heap.push (seqObj "list" #[] 0)).update s.heap.objs.size (Obj.mapSeq (· ++ vs.toArray))).objs.size = s.heap.objs.size + 1 := by rw [Heap.size_update, size_push']
  have hoL : (((s.heap.push (seqObj "list" #[] 0)).update s.heap.objs.size (Obj.mapSeq (· ++ vs.toArray))).push (seqObj "list" vs.toArray 0)).get? (s.heap.objs.size + 1) = some (seqObj "list" vs.toArray 0) := by
    rw [← hsz]; exact Heap.get?_push_size _ rfl
  obtain ⟨n2, hL⟩ : ∃ n2, (sortedAll s.heap vs out.toArray).get? (s.heap.objs.size + 1) = some (seqObj "list" out.toArray n2) := by
    unfold sortedAll sortedHeap
    obtain ⟨e1, ho1⟩ : ∃ e1, ((((s.heap.push (seqObj "list" #[] 0)).update s.heap.objs.size (Obj.mapSeq (· ++ vs.toArray))).push (seqObj "list" vs.toArray 0)).update (s.heap.objs.size + 1) (Obj.mapSeq fun _ => #[])).get? (s.heap.objs.size + 1) = some (seqObj "list" #[] e1) := ⟨_, get?_update_seq hoL (fun _ => #[])⟩
    exact ⟨_, get?_update_seq (Heap.get?_push_of_some _ (Heap.get?_push_of_some _ ho1)) (fun _ => out.toArray)⟩
  refine h _ _ n2 (fun b o e => ?_) (Nat.le_succ _) hL
  have hlt := Heap.lt_size e
  have n1 : s.heap.objs.size + 1 ≠ b := Nat.ne_of_gt (Nat.lt_succ_of_lt hlt)
  unfold sortedAll sortedHeap
  rw [Heap.get?_update_other _ _ n1]
  refine Heap.get?_push_of_some _ (Heap.get?_push_of_some _ ?_)
  rw [Heap.get?_update_other _ _ n1]
  refine Heap.get?_push_of_some _ ?_
  rw [Heap.get?_update_other _ _ (Nat.ne_of_gt hlt)]
  exact Heap.get?_push_of_some _ e
theorem sorted_by {l : Addr} {vs out : List Value} {Q : Value → Shared → Prop} (h64 : vs.length < 64)
    (hcol : ∀ {Q' : List Value → Shared → Prop}, Q' vs { s with heap := (s.heap.push (seqObj "list" #[] 0)).update s.heap.objs.size (Obj.mapSeq (· ++ vs.toArray)) } → wpAny (model prog w) A.in1 (collect (.ref l)) Q' E s)
    (hsort : ∀ (hh : Heap) (P : PySem.Fin → Shared → Prop), (∀ b o, s.heap.get? b = some o → hh.get? b = some o) → hh.get? (s.heap.objs.size + 1) = some (seqObj "list" vs.toArray 0) → (∀ out, Sorted s out Q → P (.done (.ret .none)) { s with heap := sortedHeap hh (s.heap.objs.size + 1) vs out.toArray }) → True → wpAny (model prog w) A.in1.in1 (Builtin.«list.sort» ⟨[.ref (s.heap.objs.size + 1)], []⟩) P E { s with heap := hh }) :
    wpAny (model prog w) A (call (.builtin "sorted") [.ref l]) Q E s := by
  refine Calls.call_function_entry kind_sorted plain_sorted entry_sorted (args_sorted1 _) ?_
  unfold Builtin.«sorted»
  refine wpAny_bind (m := checkCount "sorted" 1 1 _) (wpAny_pure ?_)
  refine wpAny_bind (hcol ?_)
  refine wpAny_bind (wpAny_newList ?_ (by rw [sizeLine_eq]; omega))
  have hsz : ((s.heap.push (seqObj "list" #[] 0)).update s.heap.objs.size (Obj.mapSeq (· ++ vs.toArray))).objs.size = s.heap.objs.size + 1 := by
    rw [Heap.size_update, size_push']
  have hoL : (((s.heap.push (seqObj "list" #[] 0)).update s.heap.objs.size (Obj.mapSeq (· ++ vs.toArray))).push (seqObj "list" vs.toArray 0)).get? (s.heap.objs.size + 1) = some (seqObj "list" vs.toArray 0) := by
    rw [← hsz]; exact Heap.get?_push_size _ rfl
  show wpAny _ _ _ _ _ { s with heap := ((s.heap.push (seqObj "list" #[] 0)).update s.heap.objs.size (Obj.mapSeq (· ++ vs.toArray))).push (seqObj "list" vs.toArray 0) }
  rw [hsz]
  refine wpAny_bind (wpAny_holding (wpAny_call_entry slot_list_sort ⟨_, hoL, rfl⟩ entry_list_sort (hsort _ _ (fun b o e => ?_) hoL (fun out h => ⟨_, rfl, ?_⟩) trivial) (args_list_sort _)))
  · have hlt := Heap.lt_size e
    refine Heap.get?_push_of_some _ ?_
    rw [Heap.get?_update_other _ _ (Nat.ne_of_gt hlt)]
    exact Heap.get?_push_of_some _ e
  · exact wpAny_pure ⟨_, rfl, sortedAll_ok h⟩
theorem sorted_pairs {l : Addr} {vs : List Value} {ps : List (Int × Int)} {Q : Value → Shared → Prop} (hl : s.heap.IsList l vs.toArray) (hp : Pairs s.heap vs ps) (hr : ps.Pairwise fun p q => p.1 < q.1) (h64 : vs.length < 64) (h : Sorted s vs Q) :
    wpAny (model prog w) A (call (.builtin "sorted") [.ref l]) Q E s := by
  refine sorted_by (out := vs) h64 (fun {Q'} q => collect_list hl q (by rw [sizeLine_eq]; omega)) fun hh P kk ho hP _ => ?_
  refine list_sort_same (s := { s with heap := hh }) ho (hp.keeps kk) hr (fun v hv z => ?_) h64 (hP vs h)
  have key : ∀ {us : List Value} {qs : List (Int × Int)}, Pairs s.heap us qs → ∀ v ∈ us, ∃ a o, v = .ref a ∧ s.heap.get? a = some o := by
    intro us qs hq
    induction hq with
    | nil => intro v hv; simp at hv
    | cons r t ih =>
      intro v hv
      rcases List.mem_cons.mp hv with e | e
      · obtain ⟨x, o, _, _, _, e1, hx, _⟩ := r
        exact ⟨x, o, e.trans e1, hx⟩
      · exact ih v e
  obtain ⟨a, o, e, ha⟩ := key hp v hv
  rw [e] at z
  cases z
  exact absurd (Heap.lt_size ha) (Nat.not_lt.mpr (Nat.le_succ _))
theorem sorted_ints_by {l : Addr} {vs : List Value} {ns ms : List Int} {Q : Value → Shared → Prop} (hI : IntsAre vs ns) (hm : ∀ ns' : List Int, ns'.Perm ns → ns'.Pairwise (· ≤ ·) → ns' = ms) (h64 : vs.length < 64)
    (hcol : ∀ {Q' : List Value → Shared → Prop}, Q' vs { s with heap := (s.heap.push (seqObj "list" #[] 0)).update s.heap.objs.size (Obj.mapSeq (· ++ vs.toArray)) } → wpAny (model prog w) A.in1 (collect (.ref l)) Q' E s)
    (h : ∀ out, IntsAre out ms → Sorted s out Q) : wpAny (model prog w) A (call (.builtin "sorted") [.ref l]) Q E s := by
  refine sorted_by (out := vs) h64 hcol fun hh P kk ho hP _ => ?_
  refine list_sort_tree (s := { s with heap := hh }) ho hI h64 fun out ns' a1 a2 a3 => ?_
  rw [hm ns' a2 a3] at a1
  have := hP out.toList (h out.toList a1)
  rw [Array.toArray_toList] at this
  exact this
end
end SortPure
namespace PySem.W
open PySem PySem.Spec PySem.Calls PyProof.Rows Builtin Builtin.ObjectAttr Builtin.Getset_descriptor
structure ExcIsi (K : Frag) (C : Addr) : Prop where
  ga : findIn K (.ref C) "__getattribute__" = some (some (.builtin "BaseException.__getattribute__"))
  gt : findIn K (.ref C) "__getattr__" = some none
  ca : findIn K (.ref C) "__class__" = some (some (.builtin "object.__class__"))
  cg : specialIn K (.builtin "object.__class__") "__get__" = some (some (.builtin "getset_descriptor.__get__"))
  tk : takesIn K (.builtin "object.__class__") = some true
  ob : mroIn K C (.type "object") = some true
  be : mroIn K C (.type "BaseException") = some true
section
variable {prog : Program} {w : World} {A : Around} {E : Value → Shared → Prop} {R : Result → Shared → Prop} {s : Shared} {K : Frag} {x C : Addr} {o : Obj}
theorem exc_class_get {tp : Value} (X : K.In s.heap) (hx : s.heap.get? x = some o) (hc : o.cls = .ref C) (hm : mroIn K C (.type "object") = some true)
    (h : R (.ok (.ret (.ref C))) s) : codeAny (model prog w) A (.call (.builtin "getset_descriptor.__get__") ⟨[.builtin "object.__class__", .ref x, tp], []⟩) R s := by
  obtain ⟨hh, g, dr, t, os⟩ := s
  have L0 : Looks (model prog w) hh (typeOf (.ref x)) (.ref C) := hc ▸ (Looks.ld hx).andThen .now
  have L1 := looks_mroIn (M := model prog w) X hm
  refine codeAny_call_builtin KF.slot_gs.plain KF.entry_gs (KF.slot_gs.check _ _ _ _ _ _ _ _ KF.type_class (KF.args_gs _ _ _) ?_)
  unfold Builtin.«getset_descriptor.__get__» descrGet
  rw [dga_obj]
  refine wpAny_bind (wpAny_pure ?_)
  unfold descrGetter descrCheckInstance descrNameAndClass isInstance
  simp only [KF.owner_class]
  repeat lk
  refine ⟨Code.quiet_builtin _ (by decide +kernel), codeAny_builtin KF.entry_class ?_⟩
  unfold Builtin.«object.__class__» shownTypeOf
  repeat lk
  exact h
theorem exc_check {nameV : Value} {Q : Unit → Shared → Prop} (X : K.In s.heap) (T : ExcIsi K C) (hx : s.heap.get? x = some o) (hc : o.cls = .ref C) (hq : Q () s) :
    wpAny (model prog w) A (checkBuiltinCall "BaseException.__getattribute__" ⟨[.ref x, nameV], []⟩) Q E s := by
  obtain ⟨hh, g, dr, t, os⟩ := s
  have hk : builtinKind "BaseException.__getattribute__" = some .slot := by decide +kernel
  have hsplit : splitId "BaseException.__getattribute__" = some ("BaseException", "__getattribute__") := by decide +kernel
  have ha := PySem.F.args_bexc_ga (.ref x) nameV
  have L0 : Looks (model prog w) hh (typeOf (.ref x)) (.ref C) := hc ▸ (Looks.ld hx).andThen .now
  have LB : Looks (model prog w) hh (isInstance (.ref x) (.type "BaseException")) true := L0.andThen (looks_mroIn X T.be)
  simp only [checkBuiltinCall, hk, hsplit]
  refine wpAny_bind (LB.at ?_)
  repeat (any_goals (first | assumption | wp_step))
theorem exc_class {Q : Option Value → Shared → Prop} (X : K.In s.heap) (T : ExcIsi K C) (hx : s.heap.get? x = some o) (hc : o.cls = .ref C) (h : Q (some (.ref C)) { s with toks := s.toks + 1 }) : wpAny (model prog w) A (getAttr? (.ref x) "__class__") Q E s := by
  obtain ⟨hh, g, d, t, os⟩ := s
  have L0 : Looks (model prog w) hh (typeOf (.ref x)) (.ref C) := hc ▸ (Looks.ld hx).andThen .now
  have L1 := looks_findIn (M := model prog w) X T.ga
  have L2 := looks_findIn (M := model prog w) X T.gt
  unfold getAttr? getAttrBy? getAttrBy
  refine wpAny_bind (wpAny_mkText (wpAny_bind (wpAny_attempt (wpAny_holding (wpAny_bind (L0.at (wpAny_bind (L1.at ?_))))))))
  have hx2 : (Value.builtin "BaseException.__getattribute__" == Value.builtin "object.__getattribute__") = false := by decide +kernel
  dsimp only
  rw [hx2]
  simp only [Bool.and_false, Bool.false_eq_true, ↓reduceIte]
  unfold getAttrByItsOwn hookBefore
  refine wpAny_bind ?_
  rw [if_pos (show onTheHeap (Value.ref C) = true from rfl)]
  refine L2.at ?_
  refine wpAny_bind (wpAny_attempt (wpAny_holding ?_))
  unfold callGetattribute
  rw [if_neg (by simp)]
  unfold boundAndCalled
  refine wpAny_bind (wpAny_of_eq (PySem.F.excAttr_ValueError.ga.bind (.ref x)) ?_)
  dsimp only
  refine wpAny_call (codeAny_call_builtin PySem.F.excAttr_ValueError.ga.plain PySem.F.entry_bexc_ga ?_)
  refine exc_check X T hx hc ?_
  have LF : Looks (model prog w) hh (find (.ref x) (.ref C) "__class__") (.bind (.builtin "getset_descriptor.__get__") (.builtin "object.__class__")) :=
    (looks_findIn (M := model prog w) X T.ca).andThen ((looks_specialIn (M := model prog w) X T.cg).andThen ((show Looks (model prog w) hh (dataDescriptor? (some (.builtin "object.__class__")) (some (.builtin "getset_descriptor.__get__"))) (some (.builtin "getset_descriptor.__get__", .builtin "object.__class__")) from (looks_takesIn (M := model prog w) X T.tk).andThen .now).andThen (Looks.tag .now)))
  unfold Builtin.«object.__getattribute__»
  refine wpAny_bind (m := slotArgs "__getattribute__" 1 _) (wpAny_pure ?_)
  refine wpAny_bind (m := attrName _) (wpAny_pure ?_)
  refine wpAny_bind (L0.at (wpAny_bind (LF.at ?_)))
  show wpAny _ _ (holding [.builtin "object.__class__"] (call (.builtin "getset_descriptor.__get__") [.builtin "object.__class__", .ref x, .ref C]) >>= ret) _ _ _
  refine wpAny_bind (wpAny_holding (wpAny_call (exc_class_get X hx hc T.ob ?_)))
  refine wpAny_pure ?_
  refine wpAny_of_eq (a := Value.ref C) rfl ?_
  exact wpAny_pure h
theorem kitx_exc (T : ExcIsi K C) (hcl : (clsIn K C).isSome = true) : KitX K (.ref x) (.ref C) (fun h => ∃ o vs, h.get? x = some o ∧ o.cls = .ref C ∧ o.data = .fields vs) where
  ty := fun _ _ _ ⟨o, _, ho, hc, _⟩ => hc ▸ (Looks.ld ho).andThen .now
  it := fun _ _ X _ => by
    obtain ⟨cdD, hcD⟩ := Option.isSome_iff_exists.mp hcl
    unfold clsIn at hcD
    split at hcD
    · rename_i c' d' cd' sl' ho
      intro A' Q' E' s' k q
      unfold isType loadHead
      exact wpAny_bind (wpAny_loadPart (k _ _ (X _ _ ho)) (wpAny_pure q))
    · cases hcD
  ne := fun h tp dd its n sl X htp => by
    obtain ⟨cdD, hcD⟩ := Option.isSome_iff_exists.mp hcl
    refine Bool.eq_false_iff.mpr fun q => ?_
    have e : C = tp := Value.ref.inj (beq_iff_eq.mp q)
    subst e
    unfold clsIn at hcD
    split at hcD
    · rename_i c' d' cd' sl' ho
      have z := (X _ _ ho).symm.trans htp
      cases z
    · cases hcD
  ca := fun X ⟨o, _, ho, hc, _⟩ k => exc_class X T ho hc k
end
end PySem.W
namespace FM
abbrev Ln := Int × Int
def nb (ls : List Ln) (s : Int) : List Int := ls.flatMap fun p => (if p.1 = s then [p.2] else []) ++ (if p.2 = s then [p.1] else [])
def bare (ls : List Ln) (m : List Int) (s : Int) : List Int := (nb ls s).filter fun x => !(decide (x ∈ m))
def only (s : Int) : List Int → Option Ln
  | [x] => some (s, x)
  | _ => none
def stepOf (ls : List Ln) (m : List Int) (s : Int) : Option Ln := only s (bare ls m s)
def steps (ls : List Ln) (m : List Int) : List Ln := m.filterMap (stepOf ls m)
def ins (x : Int) : List Int → List Int
  | [] => [x]
  | y :: r => if x < y then x :: y :: r else if x = y then y :: r else y :: ins x r
def usort (xs : List Int) : List Int := xs.foldr ins []
def behind (m : List Int) (st : List Ln) : List Int := usort (m ++ st.map (·.2))
def Rising (l : List Int) : Prop := l.Pairwise (· < ·)
theorem mem_ins {x y : Int} : ∀ {l : List Int}, y ∈ ins x l ↔ y = x ∨ y ∈ l
  | [] => by simp [ins]
  | z :: r => by
    unfold ins
    split
    · simp
    · split
      · rename_i h; subst h; simp
      · simp only [List.mem_cons, mem_ins (l := r)]
        constructor
        · rintro (h | h | h)
          · exact .inr (.inl h)
          · exact .inl h
          · exact .inr (.inr h)
        · rintro (h | h | h)
          · exact .inr (.inl h)
          · exact .inl h
          · exact .inr (.inr h)
theorem rising_ins {x : Int} : ∀ {l : List Int}, Rising l → Rising (ins x l)
  | [], _ => by simp [ins, Rising]
  | z :: r, h => by
    obtain ⟨h1, h2⟩ := List.pairwise_cons.mp h
    unfold ins
    split
    · rename_i hx
      refine List.pairwise_cons.mpr ⟨fun y hy => ?_, h⟩
      rcases List.mem_cons.mp hy with e | e
      · subst e; exact hx
      · exact Int.lt_trans hx (h1 y e)
    · split
      · exact h
      · rename_i a b
        refine List.pairwise_cons.mpr ⟨fun y hy => ?_, rising_ins h2⟩
        rcases mem_ins.mp hy with e | e
        · subst e; omega
        · exact h1 y e
theorem rising_usort : ∀ (l : List Int), Rising (usort l)
  | [] => List.Pairwise.nil
  | x :: r => rising_ins (rising_usort r)
theorem mem_usort {y : Int} : ∀ {l : List Int}, y ∈ usort l ↔ y ∈ l
  | [] => by simp [usort]
  | x :: r => by
    show y ∈ ins x (usort r) ↔ _
    rw [mem_ins, mem_usort (l := r), List.mem_cons]
theorem rising_ext : ∀ {a b : List Int}, Rising a → Rising b → (∀ x, x ∈ a ↔ x ∈ b) → a = b
  | [], [], _, _, _ => rfl
  | [], y :: r, _, _, h => absurd ((h y).mpr (List.mem_cons_self ..)) (by simp)
  | x :: r, [], _, _, h => absurd ((h x).mp (List.mem_cons_self ..)) (by simp)
  | x :: r, y :: t, ha, hb, h => by
    obtain ⟨a1, a2⟩ := List.pairwise_cons.mp ha
    obtain ⟨b1, b2⟩ := List.pairwise_cons.mp hb
    have e : x = y := by
      rcases List.mem_cons.mp ((h x).mp (List.mem_cons_self ..)) with e | e
      · exact e
      · rcases List.mem_cons.mp ((h y).mpr (List.mem_cons_self ..)) with e' | e'
        · exact e'.symm
        · have := b1 x e; have := a1 y e'; omega
    subst e
    rw [rising_ext a2 b2 fun z => ?_]
    constructor
    · intro hz
      rcases List.mem_cons.mp ((h z).mp (List.mem_cons_of_mem _ hz)) with e | e
      · subst e; exact absurd (a1 _ hz) (by omega)
      · exact e
    · intro hz
      rcases List.mem_cons.mp ((h z).mpr (List.mem_cons_of_mem _ hz)) with e | e
      · subst e; exact absurd (b1 _ hz) (by omega)
      · exact e
theorem usort_rising {l : List Int} (h : Rising l) : usort l = l := rising_ext (rising_usort l) h fun _ => mem_usort
theorem usort_congr {a b : List Int} (h : ∀ x, x ∈ a ↔ x ∈ b) : usort a = usort b := rising_ext (rising_usort a) (rising_usort b) fun x => by rw [mem_usort, mem_usort, h]
theorem only_some {s u v : Int} {l : List Int} : only s l = some (u, v) ↔ u = s ∧ l = [v] := by
  unfold only
  split
  · simp only [Option.some.injEq, Prod.mk.injEq]
    constructor
    · rintro ⟨h1, h2⟩; subst h1 h2; simp
    · rintro ⟨h1, h2⟩; subst h1; simp at h2; simp [h2]
  · rename_i h
    constructor
    · intro h'; cases h'
    · rintro ⟨_, h2⟩; exact absurd h2 (h v)
theorem mem_steps {ls : List Ln} {m : List Int} {u v : Int} : (u, v) ∈ steps ls m ↔ u ∈ m ∧ bare ls m u = [v] := by
  unfold steps stepOf
  rw [List.mem_filterMap]
  constructor
  · rintro ⟨a, ha, e⟩
    obtain ⟨rfl, e⟩ := only_some.mp e
    exact ⟨ha, e⟩
  · rintro ⟨h1, h2⟩
    exact ⟨u, h1, only_some.mpr ⟨rfl, h2⟩⟩
theorem mem_bare {ls : List Ln} {m : List Int} {s x : Int} : x ∈ bare ls m s ↔ x ∈ nb ls s ∧ ¬ x ∈ m := by
  unfold bare
  rw [List.mem_filter]
  simp
theorem bare_mono {ls : List Ln} {m t : List Int} {s : Int} (h : ∀ x ∈ m, x ∈ t) : bare ls t s = (bare ls m s).filter fun x => !(decide (x ∈ t)) := by
  unfold bare
  rw [List.filter_filter]
  refine List.filter_congr fun x _ => ?_
  by_cases hx : x ∈ t
  · simp [hx]
  · have : ¬ x ∈ m := fun z => hx (h x z)
    simp [hx, this]
theorem step_into {ls : List Ln} {m t : List Int} {u v : Int} (h : ∀ x ∈ m, x ∈ t) (c : steps ls t = []) (s : (u, v) ∈ steps ls m) : v ∈ t := by
  obtain ⟨h1, h2⟩ := mem_steps.mp s
  by_cases hv : v ∈ t
  · exact hv
  · have e : bare ls t u = [v] := by rw [bare_mono h, h2]; simp [hv]
    have : (u, v) ∈ steps ls t := mem_steps.mpr ⟨h u h1, e⟩
    rw [c] at this
    exact absurd this (by simp)
theorem step_new {ls : List Ln} {m : List Int} {u v : Int} (s : (u, v) ∈ steps ls m) : v ∈ nb ls u ∧ ¬ v ∈ m := by
  obtain ⟨_, h2⟩ := mem_steps.mp s
  exact mem_bare.mp (by rw [h2]; simp)
def Good (n : Int) (ls : List Ln) : Prop := ∀ p ∈ ls, 0 ≤ p.1 ∧ p.1 < p.2 ∧ p.2 < n
def Within (n : Int) (m : List Int) : Prop := ∀ x ∈ m, 0 ≤ x ∧ x < n
theorem mem_nb {ls : List Ln} {s x : Int} : x ∈ nb ls s ↔ (s, x) ∈ ls ∨ (x, s) ∈ ls := by
  unfold nb
  rw [List.mem_flatMap]
  constructor
  · rintro ⟨⟨a, b⟩, hp, hx⟩
    rcases List.mem_append.mp hx with h | h
    · dsimp only at h
      split at h
      · rename_i e; subst e; rw [List.mem_singleton] at h; subst h; exact .inl hp
      · simp at h
    · dsimp only at h
      split at h
      · rename_i e; subst e; rw [List.mem_singleton] at h; subst h; exact .inr hp
      · simp at h
  · rintro (h | h)
    · exact ⟨_, h, by simp⟩
    · exact ⟨_, h, by simp⟩
theorem nb_within {n : Int} {ls : List Ln} (g : Good n ls) {s x : Int} (h : x ∈ nb ls s) : 0 ≤ x ∧ x < n := by
  rcases mem_nb.mp h with h | h
  · have := g _ h; dsimp only at this; omega
  · have := g _ h; dsimp only at this; omega
theorem behind_rising (m : List Int) (st : List Ln) : Rising (behind m st) := rising_usort _
theorem mem_behind {m : List Int} {st : List Ln} {x : Int} : x ∈ behind m st ↔ x ∈ m ∨ ∃ u, (u, x) ∈ st := by
  unfold behind
  rw [mem_usort, List.mem_append, List.mem_map]
  constructor
  · rintro (h | ⟨⟨u, y⟩, h, rfl⟩)
    · exact .inl h
    · exact .inr ⟨u, h⟩
  · rintro (h | ⟨u, h⟩)
    · exact .inl h
    · exact .inr ⟨(u, x), h, rfl⟩
theorem behind_within {n : Int} {ls : List Ln} {m : List Int} {st : List Ln} (g : Good n ls) (w : Within n m) (hs : ∀ p ∈ st, p ∈ steps ls m) : Within n (behind m st) := fun x hx => by
  rcases mem_behind.mp hx with h | ⟨u, h⟩
  · exact w x h
  · exact nb_within g (step_new (hs _ h)).1
theorem rising_len : ∀ {l : List Int} {a n : Int}, Rising l → (∀ x ∈ l, a ≤ x ∧ x < n) → (l.length : Int) ≤ max 0 (n - a)
  | [], a, n, _, _ => by simp; omega
  | x :: r, a, n, h, w => by
    obtain ⟨h1, h2⟩ := List.pairwise_cons.mp h
    have hx := w x (List.mem_cons_self ..)
    have := rising_len (a := x + 1) (n := n) h2 fun y hy => ⟨h1 y hy, (w y (List.mem_cons_of_mem _ hy)).2⟩
    rw [List.length_cons]
    push_cast
    omega
theorem within_len {l : List Int} {n : Nat} (h : Rising l) (w : Within n l) : l.length ≤ n := by
  have := rising_len (a := 0) (n := n) h w
  omega
theorem longer : ∀ {a b : List Int}, Rising a → Rising b → (∀ x ∈ a, x ∈ b) → a.length ≤ b.length
  | [], _, _, _, _ => Nat.zero_le _
  | x :: r, [], _, _, h => absurd (h x (List.mem_cons_self ..)) (by simp)
  | x :: r, y :: t, ha, hb, h => by
    obtain ⟨a1, a2⟩ := List.pairwise_cons.mp ha
    obtain ⟨b1, b2⟩ := List.pairwise_cons.mp hb
    have := longer (a := r) (b := t) a2 b2 fun z hz => by
      rcases List.mem_cons.mp (h z (List.mem_cons_of_mem _ hz)) with e | e
      · subst e
        rcases List.mem_cons.mp (h x (List.mem_cons_self ..)) with e' | e'
        · subst e'; exact absurd (a1 _ hz) (by omega)
        · have := b1 _ e'; have := a1 _ hz; omega
      · exact e
    simp only [List.length_cons]; omega
theorem same_len : ∀ {a b : List Int}, Rising a → Rising b → (∀ x ∈ a, x ∈ b) → b.length ≤ a.length → a = b
  | [], [], _, _, _, _ => rfl
  | [], y :: t, _, _, _, h => by simp at h
  | x :: r, [], _, _, h, _ => absurd (h x (List.mem_cons_self ..)) (by simp)
  | x :: r, y :: t, ha, hb, h, hl => by
    obtain ⟨a1, a2⟩ := List.pairwise_cons.mp ha
    obtain ⟨b1, b2⟩ := List.pairwise_cons.mp hb
    have hr : ∀ z ∈ r, z ∈ t := fun z hz => by
      rcases List.mem_cons.mp (h z (List.mem_cons_of_mem _ hz)) with e | e
      · subst e
        rcases List.mem_cons.mp (h x (List.mem_cons_self ..)) with e' | e'
        · subst e'; exact absurd (a1 _ hz) (by omega)
        · have := b1 _ e'; have := a1 _ hz; omega
      · exact e
    have e := same_len a2 b2 hr (by simpa using hl)
    subst e
    rcases List.mem_cons.mp (h x (List.mem_cons_self ..)) with e' | e'
    · rw [e']
    · exact absurd (a1 _ e') (by omega)
theorem behind_longer {ls : List Ln} {m : List Int} {st : List Ln} (r : Rising m) (hs : ∀ p ∈ st, p ∈ steps ls m) (ne : st ≠ []) : m.length < (behind m st).length := by
  have sub : ∀ x ∈ m, x ∈ behind m st := fun x hx => mem_behind.mpr (.inl hx)
  rcases Nat.lt_or_ge m.length (behind m st).length with h | h
  · exact h
  · have e := same_len r (behind_rising m st) sub h
    obtain ⟨⟨u, v⟩, hp⟩ := List.exists_mem_of_ne_nil _ ne
    have : v ∈ behind m st := mem_behind.mpr (.inr ⟨u, hp⟩)
    rw [← e] at this
    exact absurd this (step_new (hs _ hp)).2
def rnds (ls : List Ln) : Nat → List Int → List (List Int)
  | 0, m => [m]
  | k + 1, m => if steps ls m = [] then [m] else m :: rnds ls k (behind m (steps ls m))
def fin (ls : List Ln) : Nat → List Int → List Int
  | 0, m => m
  | k + 1, m => if steps ls m = [] then m else fin ls k (behind m (steps ls m))
theorem rnds_last (ls : List Ln) : ∀ (k : Nat) (m : List Int), (rnds ls k m).getLast? = some (fin ls k m)
  | 0, m => rfl
  | k + 1, m => by
    unfold rnds fin
    split
    · rfl
    · rw [List.getLast?_cons, rnds_last ls k]; rfl
def seqc (ls : List Ln) : Nat → List Int → List Int
  | 0, m => m
  | k + 1, m => match (steps ls m).getLast? with
    | none => m
    | some p => seqc ls k (behind m [p])
structure Fin (ls : List Ln) (m t : List Int) : Prop where
  up : ∀ x ∈ m, x ∈ t
  low : ∀ s, (∀ x ∈ m, x ∈ s) → steps ls s = [] → ∀ x ∈ t, x ∈ s
theorem fin_Fin (ls : List Ln) : ∀ (k : Nat) (m : List Int), Fin ls m (fin ls k m)
  | 0, m => ⟨fun _ h => h, fun _ h _ => h⟩
  | k + 1, m => by
    unfold fin
    split
    · exact ⟨fun _ h => h, fun _ h _ => h⟩
    · have ih := fin_Fin ls k (behind m (steps ls m))
      refine ⟨fun x hx => ih.up x (mem_behind.mpr (.inl hx)), fun s hs hc => ih.low s (fun x hx => ?_) hc⟩
      rcases mem_behind.mp hx with h | ⟨u, h⟩
      · exact hs x h
      · exact step_into hs hc h
theorem last_mem {α : Type} {l : List α} {p : α} (h : l.getLast? = some p) : p ∈ l := List.mem_of_getLast? h
theorem seqc_Fin (ls : List Ln) : ∀ (k : Nat) (m : List Int), Fin ls m (seqc ls k m)
  | 0, m => ⟨fun _ h => h, fun _ h _ => h⟩
  | k + 1, m => by
    unfold seqc
    split
    · exact ⟨fun _ h => h, fun _ h _ => h⟩
    · rename_i p hp
      have ih := seqc_Fin ls k (behind m [p])
      refine ⟨fun x hx => ih.up x (mem_behind.mpr (.inl hx)), fun s hs hc => ih.low s (fun x hx => ?_) hc⟩
      rcases mem_behind.mp hx with h | ⟨u, h⟩
      · exact hs x h
      · rw [List.mem_singleton] at h
        subst h
        exact step_into hs hc (last_mem hp)
theorem fin_closed {n : Nat} {ls : List Ln} (g : Good n ls) : ∀ (k : Nat) (m : List Int), Rising m → Within n m → n < k + m.length → steps ls (fin ls k m) = []
  | 0, m, r, w, h => absurd (within_len r w) (by omega)
  | k + 1, m, r, w, h => by
    unfold fin
    split
    · assumption
    · rename_i ne
      have hs : ∀ p ∈ steps ls m, p ∈ steps ls m := fun _ z => z
      exact fin_closed g k _ (behind_rising _ _) (behind_within g w hs) (by have := behind_longer r hs ne; omega)
theorem seqc_closed {n : Nat} {ls : List Ln} (g : Good n ls) : ∀ (k : Nat) (m : List Int), Rising m → Within n m → n < k + m.length → steps ls (seqc ls k m) = []
  | 0, m, r, w, h => absurd (within_len r w) (by omega)
  | k + 1, m, r, w, h => by
    unfold seqc
    split
    · rename_i e
      exact List.getLast?_eq_none_iff.mp e
    · rename_i p hp
      have hs : ∀ q ∈ [p], q ∈ steps ls m := fun q hq => by rw [List.mem_singleton] at hq; subst hq; exact last_mem hp
      exact seqc_closed g k _ (behind_rising _ _) (behind_within g w hs) (by have := behind_longer r hs (by simp); omega)
theorem fin_rising (ls : List Ln) : ∀ (k : Nat) (m : List Int), Rising m → Rising (fin ls k m)
  | 0, _, r => r
  | k + 1, m, r => by
    unfold fin
    split
    · exact r
    · exact fin_rising ls k _ (behind_rising _ _)
theorem seqc_rising (ls : List Ln) : ∀ (k : Nat) (m : List Int), Rising m → Rising (seqc ls k m)
  | 0, _, r => r
  | k + 1, m, r => by
    unfold seqc
    split
    · exact r
    · exact seqc_rising ls k _ (behind_rising _ _)
theorem Fin.one {ls : List Ln} {m s t : List Int} (a : Fin ls m s) (b : Fin ls m t) (ha : Rising s) (hb : Rising t) (ca : steps ls s = []) (cb : steps ls t = []) : s = t :=
  rising_ext ha hb fun x => ⟨a.low t b.up cb x, b.low s a.up ca x⟩
theorem fin_eq_seqc {n : Nat} {ls : List Ln} {m : List Int} (g : Good n ls) (r : Rising m) (w : Within n m) {j k : Nat} (hj : n < j + m.length) (hk : n < k + m.length) : fin ls j m = seqc ls k m :=
  (fin_Fin ls j m).one (seqc_Fin ls k m) (fin_rising ls j m r) (seqc_rising ls k m r) (fin_closed g j m r w hj) (seqc_closed g k m r w hk)
def lexLt2 (p q : Ln) : Prop := p.1 < q.1 ∨ (p.1 = q.1 ∧ p.2 < q.2)
theorem steps_rise (ls : List Ln) (m : List Int) (h : Rising m) : (steps ls m).Pairwise fun p q => p.1 < q.1 := by
  unfold steps
  rw [List.pairwise_filterMap]
  refine h.imp fun {a b} hab => ?_
  rintro ⟨u, v⟩ hu ⟨u', v'⟩ hu'
  obtain ⟨rfl, _⟩ := only_some.mp hu
  obtain ⟨rfl, _⟩ := only_some.mp hu'
  exact hab
end FM
namespace DT
def loopX {γ : Type} (g : Nat → γ → Option (Bool × γ)) : List Nat → γ → Option γ
  | [], c => some c
  | x :: l, c => match g x c with
    | none => none
    | some (true, c') => some c'
    | some (false, c') => loopX g l c'
section
variable (lt : Nat → Nat → Bool)
def at2 (p : Array Nat) (i j : Nat) : Option Bool := match p[i]?, p[j]? with
  | some a, some b => some (lt a b)
  | _, _ => none
def ascG (p : Array Nat) (lo : Nat) (_ n : Nat) : Option (Bool × Nat) := (at2 lt p (lo + n) (lo + n - 1)).map fun b => if b = true then (true, n) else (false, n + 1)
def cnt (p : Array Nat) (lo nrem : Nat) : Option Nat := (loopX (ascG lt p lo) (List.range' 1 (nrem - 1)) 1).bind fun n =>
  if (n == nrem) = true then some n else if n > 1 then (match at2 lt p lo (lo + n - 1) with
    | some true => some n
    | _ => none) else none
def plG (p : Array Nat) (lo k : Nat) (_ : Nat) (c : Nat × Nat) : Option (Bool × Nat × Nat) :=
  if c.1 ≥ c.2 then some (true, c.1, c.2) else (at2 lt p (lo + k) (lo + (c.1 + c.2) / 2)).map fun b => if b = true then (false, c.1, (c.1 + c.2) / 2) else (false, (c.1 + c.2) / 2 + 1, c.2)
def bub (p : Array Nat) (src dst : Nat) : Array Nat := (List.range (src - dst)).foldl (fun a k => a.swapIfInBounds (src - k) (src - k - 1)) p
def binG (lo : Nat) (k : Nat) (p : Array Nat) : Option (Bool × Array Nat) := (loopX (plG lt p lo k) (List.range' 0 k) (0, k)).map fun c => (false, bub p (lo + k) (lo + c.1))
def bin (p : Array Nat) (lo n ok : Nat) : Option (Array Nat) := loopX (binG lt lo) (List.range' (max ok 1) (n - max ok 1)) p
def bey (left : Bool) (key : Nat) (arr : Array Nat) (base i : Nat) : Option Bool := (arr[base + i]?).map fun x => if left = true then lt x key else !lt key x
def galR (by' : Nat → Option Bool) (hint mo : Nat) (_ : Nat) (c : Nat × Nat) : Option (Bool × Nat × Nat) := if c.2 ≥ mo then some (true, c.1, c.2) else (by' (hint + c.2)).map fun more => if (!more) = true then (true, c.1, c.2) else (false, c.2, 2 * c.2 + 1)
def galL (by' : Nat → Option Bool) (hint mo : Nat) (_ : Nat) (c : Nat × Nat) : Option (Bool × Nat × Nat) := if c.2 ≥ mo then some (true, c.1, c.2) else (by' (hint - c.2)).map fun found => if found = true then (true, c.1, c.2) else (false, c.2, 2 * c.2 + 1)
def galM (by' : Nat → Option Bool) (_ : Nat) (c : Nat × Nat) : Option (Bool × Nat × Nat) := if c.1 ≥ c.2 then some (true, c.1, c.2) else (by' (c.1 + (c.2 - c.1) / 2)).map fun more => if more = true then (false, c.1 + (c.2 - c.1) / 2 + 1, c.2) else (false, c.1, c.1 + (c.2 - c.1) / 2)
def gal (left : Bool) (key : Nat) (arr : Array Nat) (base n hint : Nat) : Option Nat := match bey lt left key arr base hint with
  | none => none
  | some true => match loopX (galR (bey lt left key arr base) hint (n - hint)) (List.range' 0 n) (0, 1) with
    | none => none
    | some c => (loopX (galM (bey lt left key arr base)) (List.range' 0 n) (hint + c.1 + 1, hint + min c.2 (n - hint))).map (·.2)
  | some false => match loopX (galL (bey lt left key arr base) hint (hint + 1)) (List.range' 0 n) (0, 1) with
    | none => none
    | some c => (loopX (galM (bey lt left key arr base)) (List.range' 0 n) (hint + 1 - min c.2 (hint + 1), hint - c.1)).map (·.2)
structure MS where
  r : Option (Array Nat)
  out : Array Nat
  ia : Nat
  ib : Nat
  mg : Nat
  ac : Nat
  bc : Nat
  gs : Nat
variable (a b : Array Nat)
def mDone (out : Array Nat) (ia ib : Nat) : Array Nat := out ++ a.extract ia a.size ++ b.extract ib b.size
def mLast (out : Array Nat) (ia ib : Nat) : Array Nat := out ++ b.extract ib b.size ++ a.extract ia a.size
def m1G (mg : Nat) (_ : Nat) (c : MS) : Option (Bool × MS) := match b[c.ib]?, a[c.ia]? with
  | some y, some x => if lt y x = true then
      (if (c.ib + 1 == b.size) = true then some (true, { c with r := some (mDone a b (c.out.push y) c.ia (c.ib + 1)), out := c.out.push y, ib := c.ib + 1, ac := 0, bc := c.bc + 1 })
      else if c.bc + 1 ≥ mg then some (true, { c with r := none, out := c.out.push y, ib := c.ib + 1, ac := 0, bc := c.bc + 1 })
      else some (false, { c with r := none, out := c.out.push y, ib := c.ib + 1, ac := 0, bc := c.bc + 1 }))
    else (if (c.ia + 1 + 1 == a.size) = true then some (true, { c with r := some (mLast a b (c.out.push x) (c.ia + 1) c.ib), out := c.out.push x, ia := c.ia + 1, ac := c.ac + 1, bc := 0 })
      else if c.ac + 1 ≥ mg then some (true, { c with r := none, out := c.out.push x, ia := c.ia + 1, ac := c.ac + 1, bc := 0 })
      else some (false, { c with r := none, out := c.out.push x, ia := c.ia + 1, ac := c.ac + 1, bc := 0 }))
  | _, _ => none
def m2c (c : MS) : Option (Bool × MS) := match a[c.ia]? with
  | none => none
  | some x => if (c.ia + 1 + 1 == a.size) = true then some (true, { c with r := some (mLast a b (c.out.push x) (c.ia + 1) c.ib), out := c.out.push x, ia := c.ia + 1 })
    else if (decide (c.ac < 7) && decide (c.bc < 7)) = true then some (true, { c with r := none, out := c.out.push x, ia := c.ia + 1 })
    else some (false, { c with r := none, out := c.out.push x, ia := c.ia + 1 })
def m2b (c : MS) : Option (Bool × MS) := match b[c.ib]? with
  | none => none
  | some y => if (c.ib + 1 == b.size) = true then some (true, { c with r := some (mDone a b (c.out.push y) c.ia (c.ib + 1)), out := c.out.push y, ib := c.ib + 1 })
    else match a[c.ia]? with
    | none => none
    | some x => match gal lt true x b (c.ib + 1) (b.size - (c.ib + 1)) 0 with
      | none => none
      | some k => if k > 0 then (if (c.ib + 1 + k == b.size) = true then some (true, { c with r := some (mDone a b (c.out.push y ++ b.extract (c.ib + 1) (c.ib + 1 + k)) c.ia (c.ib + 1 + k)), out := c.out.push y ++ b.extract (c.ib + 1) (c.ib + 1 + k), ib := c.ib + 1 + k, bc := k })
          else m2c a b { c with out := c.out.push y ++ b.extract (c.ib + 1) (c.ib + 1 + k), ib := c.ib + 1 + k, bc := k })
        else m2c a b { c with out := c.out.push y, ib := c.ib + 1, bc := k }
def m2a (c : MS) : Option (Bool × MS) := match b[c.ib]? with
  | none => none
  | some y => match gal lt false y a c.ia (a.size - c.ia) 0 with
    | none => none
    | some k => if k > 0 then (if (c.ia + k + 1 == a.size) = true then some (true, { c with r := some (mLast a b (c.out ++ a.extract c.ia (c.ia + k)) (c.ia + k) c.ib), out := c.out ++ a.extract c.ia (c.ia + k), ia := c.ia + k, ac := k })
        else if (c.ia + k == a.size) = true then some (true, { c with r := some (mDone a b (c.out ++ a.extract c.ia (c.ia + k)) (c.ia + k) c.ib), out := c.out ++ a.extract c.ia (c.ia + k), ia := c.ia + k, ac := k })
        else m2b lt a b { c with out := c.out ++ a.extract c.ia (c.ia + k), ia := c.ia + k, ac := k })
      else m2b lt a b { c with ac := k }
def m2G (_ : Nat) (c : MS) : Option (Bool × MS) := if c.mg > 1 then m2a lt a b { c with mg := c.mg - 1, gs := c.mg - 1 } else m2a lt a b { c with gs := c.mg }
def m0G (_ : Nat) (c : MS) : Option (Bool × MS) := match loopX (m1G lt a b c.mg) (List.range' 0 (a.size + b.size)) { c with r := none, ac := 0, bc := 0 } with
  | none => none
  | some c1 => match c1.r with
    | some r => some (true, { c1 with r := some r, mg := c.mg, gs := c.gs })
    | none => match loopX (m2G lt a b) (List.range' 0 (a.size + b.size)) { c1 with r := none, mg := c.mg + 1, gs := c.gs } with
      | none => none
      | some c2 => match c2.r with
        | some r => some (true, { c2 with r := some r })
        | none => some (false, { c2 with r := none, mg := c2.mg + 1, gs := c2.mg + 1 })
def mlo (gs : Nat) : Option (Array Nat × Nat) := match b[0]? with
  | none => none
  | some y => if (1 == b.size) = true then some (mDone a b #[y] 0 1, gs) else if (0 + 1 == a.size) = true then some (mLast a b #[y] 0 1, gs)
    else match loopX (m0G lt a b) (List.range' 0 (a.size + b.size)) ⟨none, #[y], 0, 1, gs, 0, 0, gs⟩ with
    | none => none
    | some c => c.r.map fun r => (r, c.gs)
end
structure TS where
  p : Array Nat
  pend : Array (Nat × Nat × Nat)
  gs : Nat
section
variable (lt : Nat → Nat → Bool)
def put (sa : Nat) (p m : Array Nat) : Array Nat := m.toList.zipIdx.foldl (fun a (x : Nat × Nat) => a.setIfInBounds (sa + x.2) x.1) p
def mAt (i : Nat) (t : TS) : Option TS := match t.pend[i]?, t.pend[i + 1]? with
  | some (sa, na, pw), some (sb, nb, _) => match t.p[sb]? with
    | none => none
    | some y => match gal lt false y t.p sa na 0 with
      | none => none
      | some k => if (na - k == 0) = true then some { t with pend := (t.pend.setIfInBounds i (sa, na + nb, pw)).eraseIdxIfInBounds (i + 1) } else
        match t.p[sa + k + (na - k) - 1]? with
        | none => none
        | some x => match gal lt true x t.p sb nb (nb - 1) with
          | none => none
          | some nb' => if (nb' == 0) = true then some { t with pend := (t.pend.setIfInBounds i (sa, na + nb, pw)).eraseIdxIfInBounds (i + 1) } else
            if na - k ≤ nb' then (match mlo lt (t.p.extract (sa + k) sb) (t.p.extract sb (sb + nb')) t.gs with
              | none => none
              | some m => some ⟨put (sa + k) t.p m.1, (t.pend.setIfInBounds i (sa, na + nb, pw)).eraseIdxIfInBounds (i + 1), m.2⟩) else none
  | _, _ => none
def pwr : Nat → Nat → Nat → Nat → Nat
  | 0, _, _, _ => 0
  | f + 1, x, y, n => if x ≥ n then 1 + pwr f (2 * (x - n)) (2 * (y - n)) n else if y ≥ n then 1 else 1 + pwr f (2 * x) (2 * y) n
def mnr : Nat → Nat → Nat → Nat
  | 0, n, r => n + r
  | f + 1, n, r => if n < 64 then n + r else mnr f (n / 2) (max r (n % 2))
def run1 (p : Array Nat) (lo size mr : Nat) : Option (Nat × Array Nat) := match cnt lt p lo (size - lo) with
  | none => none
  | some found => if found < mr then (bin lt p lo (min (size - lo) mr) found).map fun q => (min (size - lo) mr, q) else some (found, p)
def rnG (size mr : Nat) (_ : Nat) (c : Nat × TS) : Option (Bool × Nat × TS) := if c.1 ≥ size then some (true, c) else
  match run1 lt c.2.p c.1 size mr with
  | none => none
  | some r => match c.2.pend.back? with
    | none => some (false, c.1 + r.1, ⟨r.2, c.2.pend.push (c.1, r.1, 0), c.2.gs⟩)
    | some q => if c.2.pend.size > 1 then none else some (false, c.1 + r.1, ⟨r.2, (c.2.pend.modify (c.2.pend.size - 1) fun x => (x.1, x.2.1, pwr size (2 * q.1 + q.2.1) (2 * q.1 + q.2.1 + q.2.1 + r.1) size)).push (c.1, r.1, 0), c.2.gs⟩)
def fnG (_ : Nat) (t : TS) : Option (Bool × TS) := if t.pend.size ≤ 1 then some (true, t) else if t.pend.size = 2 then (mAt lt 0 t).map fun t' => (false, t') else none
def runs (n : Nat) : Option (Array Nat) := match loopX (rnG lt n (mnr n n 0)) (List.range' 0 n) (0, ⟨Array.range n, #[], 7⟩) with
  | none => none
  | some c => (loopX (fnG lt) (List.range' 0 n) c.2).map (·.p)
end
end DT
namespace DS
open PySem (Str sizeLine)
inductive D where
  | non | bl (b : Bool) | int (i : Int) | str (x : Str) | lst (xs : List D) | tup (xs : List D) | set (xs : List Int) | exc (n : String)
inductive Sl where
  | un | sh (d : D) | ow (xs : List D)
abbrev Rho := List Sl
inductive R (α : Type) where
  | ok (a : α) | er (n : String)
abbrev M (α : Type) := Rho → Option (Rho × R α)
section
variable {α β : Type}
def ret (a : α) : M α := fun ρ => some (ρ, .ok a)
def lft (o : Option α) : M α := fun ρ => match o with
  | none => none
  | some a => some (ρ, .ok a)
def bnd (m : M α) (f : α → M β) : M β := fun ρ => match m ρ with
  | none => none
  | some (ρ', .er n) => some (ρ', .er n)
  | some (ρ', .ok a) => f a ρ'
end
def vr (i : Nat) : M D := fun ρ => match ρ[i]? with
  | some (.sh d) => some (ρ, .ok d)
  | some (.ow xs) => some (ρ.set i (.sh (.lst xs)), .ok (.lst xs))
  | _ => none
def pk (i : Nat) : M (List D) := fun ρ => match ρ[i]? with
  | some (.sh (.lst xs)) => some (ρ, .ok xs)
  | some (.ow xs) => some (ρ, .ok xs)
  | _ => none
def cst (d : D) : M D := ret d
def op1 (f : D → Option D) (a : M D) : M D := bnd a fun x => lft (f x)
def op2 (f : D → D → Option D) (a b : M D) : M D := bnd a fun x => bnd b fun y => lft (f x y)
def isL : D → Option Unit
  | .lst _ => some ()
  | _ => none
def opL (f : D → D → Option D) (a b : M D) : M D := bnd a fun x => bnd (lft (isL x)) fun _ => bnd b fun y => lft (f x y)
def nilA : M (List D) := ret []
def consA (a : M D) (r : M (List D)) : M (List D) := bnd a fun x => bnd r fun xs => ret (x :: xs)
def fits (xs : List D) : Option (List D) := if xs.length ≤ sizeLine then some xs else none
def tupE (a : M (List D)) : M D := bnd a fun xs => lft ((fits xs).map .tup)
def lstE (a : M (List D)) : M D := bnd a fun xs => lft ((fits xs).map .lst)
def cal (F : List D → Option (R D)) (a : M (List D)) : M D := bnd a fun xs ρ => match F xs with
  | none => none
  | some r => some (ρ, r)
def blt (f : List D → Option D) (a : M (List D)) : M D := bnd a fun xs => lft (f xs)
def truth : D → Option Bool
  | .non => some false
  | .bl b => some b
  | .int i => some (i != 0)
  | .str x => if x.length ≤ sizeLine then some ((x.length : Int) != 0) else none
  | .lst xs => some (!xs.isEmpty)
  | .tup xs => some (!xs.isEmpty)
  | _ => none
def asB : D → Option Bool
  | .bl b => some b
  | _ => none
def tst (a : M D) : M Bool := bnd a fun x => lft (truth x)
def tsB (a : M D) : M Bool := bnd a fun x => lft (asB x)
def andT (a b : M Bool) : M Bool := bnd a fun x => if x = true then b else ret false
def orT (a b : M Bool) : M Bool := bnd a fun x => if x = true then ret true else b
def notT (a : M Bool) : M Bool := bnd a fun x => ret (!x)
def andV (a b : M D) : M D := bnd (tsB a) fun x => if x = true then b else ret (.bl false)
def orV (a b : M D) : M D := bnd (tsB a) fun x => if x = true then ret (.bl true) else b
def notV (a : M D) : M D := bnd (tsB a) fun x => ret (.bl (!x))
def ifE (c : M Bool) (a b : M D) : M D := bnd c fun x => if x = true then a else b
def chn (f g : D → D → Option D) (a b c : M D) : M D := bnd a fun x => bnd b fun y => bnd (lft ((f x y).bind asB)) fun k => if k = true then bnd c fun z => lft (g y z) else ret (.bl false)
def mulOk (i j : Int) : Bool := (decide (-(2 ^ 64) < i) && decide (i < 2 ^ 64)) || (decide (-(2 ^ 64) < j) && decide (j < 2 ^ 64))
def addD : D → D → Option D
  | .int i, .int j => some (.int (i + j))
  | .lst a, .lst b => if a.length + b.length ≤ sizeLine then some (.lst (a ++ b)) else none
  | .tup a, .tup b => if a.length + b.length ≤ sizeLine then some (.tup (a ++ b)) else none
  | .str a, .str b => if a.length + b.length ≤ sizeLine then some (.str (a ++ b)) else none
  | _, _ => none
def subD : D → D → Option D
  | .int i, .int j => some (.int (i - j))
  | _, _ => none
def mulD : D → D → Option D
  | .int i, .int j => if mulOk i j = true then some (.int (i * j)) else none
  | .lst a, .int k => if (decide (-(2 ^ 63) ≤ k) && decide (k < 2 ^ 63) && decide (a.length * k.toNat ≤ sizeLine)) = true then some (.lst (List.replicate k.toNat a).flatten) else none
  | _, _ => none
def fdvD : D → D → Option D
  | .int i, .int j => if (decide (0 < j) && decide (j < 1073741824)) = true then some (.int (i / j)) else none
  | _, _ => none
def modD : D → D → Option D
  | .int i, .int j => if 0 < j then some (.int (i % j)) else none
  | _, _ => none
def negD : D → Option D
  | .int i => some (.int (-i))
  | _ => none
mutual
def eqD : D → D → Bool
  | .non, .non => true
  | .bl a, .bl b => a == b
  | .bl a, .int b => (if a then (1 : Int) else 0) == b
  | .int a, .bl b => a == (if b then (1 : Int) else 0)
  | .int a, .int b => a == b
  | .str a, .str b => a == b
  | .lst a, .lst b => eqDs a b
  | .tup a, .tup b => eqDs a b
  | _, _ => false
def eqDs : List D → List D → Bool
  | [], [] => true
  | x :: xs, y :: ys => eqD x y && eqDs xs ys
  | _, _ => false
end
mutual
def dep : D → Option Nat
  | .lst xs => (deps xs).map (· + 1)
  | .tup xs => (deps xs).map (· + 1)
  | .set _ => none
  | .exc _ => none
  | _ => some 0
def deps : List D → Option Nat
  | [] => some 0
  | x :: xs => match dep x, deps xs with
    | some a, some b => some (max a b)
    | _, _ => none
end
def eqOk (d : D) : Bool := match dep d with
  | some n => decide (n ≤ 20)
  | none => false
def eqF (x y : D) : Option D := if (eqOk x && eqOk y) = true then some (.bl (eqD x y)) else none
def neF (x y : D) : Option D := if (eqOk x && eqOk y) = true then some (.bl (!eqD x y)) else none
def lexLt : List Int → List Int → Bool
  | [], [] => false
  | [], _ :: _ => true
  | _ :: _, [] => false
  | x :: xs, y :: ys => if x = y then lexLt xs ys else decide (x < y)
def intsD : List D → Option (List Int)
  | [] => some []
  | .int i :: r => (intsD r).map (i :: ·)
  | _ => none
def ltF : D → D → Option D
  | .int i, .int j => some (.bl (decide (i < j)))
  | .tup a, .tup b => match intsD a, intsD b with
    | some x, some y => some (.bl (lexLt x y))
    | _, _ => none
  | _, _ => none
def leF : D → D → Option D
  | .int i, .int j => some (.bl (decide (i ≤ j)))
  | _, _ => none
def gtF : D → D → Option D
  | .int i, .int j => some (.bl (decide (j < i)))
  | _, _ => none
def geF : D → D → Option D
  | .int i, .int j => some (.bl (decide (j ≤ i)))
  | _, _ => none
def inD (x : D) (xs : List D) : Bool := xs.any fun y => eqD y x
def items : D → Option (List D)
  | .lst xs => some xs
  | .tup xs => some xs
  | _ => none
def inF (x y : D) : Option D := match items y with
  | some ys => if (eqOk x && ys.all eqOk) = true then some (.bl (inD x ys)) else none
  | none => none
def niF (x y : D) : Option D := match items y with
  | some ys => if (eqOk x && ys.all eqOk) = true then some (.bl (!inD x ys)) else none
  | none => none
def isN : D → Option D
  | .non => some (.bl true)
  | _ => some (.bl false)
def ixN (n : Nat) (i : Int) : Option Nat := if 0 ≤ i then (if i < n then some i.toNat else none) else if -(n : Int) ≤ i then some (i + n).toNat else none
def atI {α : Type} (xs : List α) (i : Int) : Option α := (ixN xs.length i).bind fun j => xs[j]?
def ixD : D → D → Option D
  | .lst xs, .int i => atI xs i
  | .tup xs, .int i => atI xs i
  | _, _ => none
def ixV (i : Nat) (k : M D) : M D := bnd (pk i) fun _ => bnd k fun j => bnd (pk i) fun xs => lft (ixD (.lst xs) j)
def lenV (i : Nat) : M D := bnd (pk i) fun xs => ret (.int xs.length)
def sIx (n d : Nat) : Option Int → Nat
  | none => d
  | some v => if v < 0 then (max (v + (n : Int)) 0).toNat else (min v (n : Int)).toNat
def cut {α : Type} (xs : List α) (lo hi : Option Int) : List α := (xs.drop (sIx xs.length 0 lo)).take (sIx xs.length xs.length hi - sIx xs.length 0 lo)
def asI : D → Option Int
  | .int i => some i
  | _ => none
def part : Option (M D) → M (Option Int)
  | none => ret none
  | some a => bnd a fun x => lft ((asI x).map some)
def slD (x : D) (lo hi : Option Int) : Option D := match x with
  | .lst xs => some (.lst (cut xs lo hi))
  | .tup xs => some (.tup (cut xs lo hi))
  | _ => none
def slE (a : M D) (lo hi : Option (M D)) : M D := bnd a fun x => bnd (part lo) fun l => bnd (part hi) fun h => lft (slD x l h)
def revD : D → Option D
  | .lst xs => some (.lst xs.reverse)
  | .tup xs => some (.tup xs.reverse)
  | _ => none
def lenF : List D → Option D
  | [.lst xs] => some (.int xs.length)
  | [.tup xs] => some (.int xs.length)
  | _ => none
def bools : List D → Option (List Bool)
  | [] => some []
  | .bl b :: r => (bools r).map (b :: ·)
  | _ => none
def allF : List D → Option D
  | [.lst xs] => (bools xs).map fun bs => .bl (bs.all id)
  | _ => none
def tupF : List D → Option D
  | [.lst xs] => some (.tup xs)
  | [.tup xs] => some (.tup xs)
  | _ => none
def lstF : List D → Option D
  | [.lst xs] => some (.lst xs)
  | [.tup xs] => some (.lst xs)
  | _ => none
def maxF : List D → Option D
  | [.int i, .int j] => some (.int (if j > i then j else i))
  | _ => none
def insI (x : Int) : List Int → List Int
  | [] => [x]
  | y :: ys => if x ≤ y then x :: y :: ys else y :: insI x ys
def sortI (xs : List Int) : List Int := xs.foldr insI []
def insU (x : Int) : List Int → List Int
  | [] => [x]
  | y :: ys => if x < y then x :: y :: ys else if x = y then y :: ys else y :: insU x ys
def sortU (xs : List Int) : List Int := xs.foldr insU []
def pairs : List D → Option (List (Int × Int))
  | [] => some []
  | .tup [.int i, .int j] :: r => (pairs r).map ((i, j) :: ·)
  | _ => none
def risesFst : List (Int × Int) → Bool
  | p :: q :: r => decide (p.1 < q.1) && risesFst (q :: r)
  | _ => true
def srtF : List D → Option D
  | [.set xs] => some (.lst (xs.map .int))
  | [.lst xs] => if xs.length < 64 then (match intsD xs with
    | some ns => some (.lst ((sortI ns).map .int))
    | none => match pairs xs with
      | some ps => if risesFst ps = true then some (.lst xs) else none
      | none => none) else none
  | [.tup xs] => if xs.length < 64 then (match intsD xs with
    | some ns => some (.lst ((sortI ns).map .int))
    | none => none) else none
  | _ => none
def small (xs : List Int) : Bool := xs.all fun x => decide (0 ≤ x) && decide (x < 7)
def setF : List D → Option D
  | [d] => match items d with
    | some xs => match intsD xs with
      | some ns => if small ns = true then some (.set (sortU ns)) else none
      | none => none
    | none => none
  | _ => none
def uniD : D → D → Option D
  | .set a, .set b => some (.set (sortU (a ++ b)))
  | _, _ => none
def isiE (cls : List String) (sup : String → String → Bool) (m : String) : D → Option D
  | .exc n => if cls.contains n = true then some (.bl (sup n m)) else none
  | _ => none
def isiB : D → Option D
  | .bl _ => some (.bl true)
  | _ => none
def cntD (o x : D) : Option D := match o with
  | .lst xs => if (eqOk x && xs.all eqOk) = true then some (.int (xs.countP fun y => eqD y x)) else none
  | _ => none
def idxD (o x : D) : Option D := match o with
  | .lst xs => if (eqOk x && xs.all eqOk) = true then (if (xs.findIdx fun y => eqD y x) < xs.length then some (.int (xs.findIdx fun y => eqD y x)) else none) else none
  | _ => none
abbrev FI := M (List D)
def itE (a : M D) : FI := bnd a fun x => lft (items x)
def rng (lo hi : Int) : List D := (List.range (hi - lo).toNat).map fun (k : Nat) => .int (lo + k)
def inR : Int → Bool
  | .ofNat k => Nat.ble k 2305843009213693951
  | .negSucc k => Nat.ble k 2305843009213693951
theorem inR_iff {i : Int} : inR i = true ↔ -2305843009213693952 ≤ i ∧ i ≤ 2305843009213693951 := by
  cases i with
  | ofNat k => rw [inR, Nat.ble_eq]; simp; omega
  | negSucc k => rw [inR, Nat.ble_eq]; omega
theorem inR_62 {i : Int} (h : inR i = true) : (decide (-(2 ^ 62) ≤ i) && decide (i < 2 ^ 62)) = true := by
  have := inR_iff.mp h
  simp; omega
def rg1 : List D → Option (List D)
  | [.int j] => if inR j = true then some (rng 0 j) else none
  | _ => none
def rg2 : List D → Option (List D)
  | [.int i, .int j] => if (inR i && inR j) = true then some (rng i j) else none
  | _ => none
def revL : D → Option (List D)
  | .lst xs => some xs.reverse
  | _ => none
def itRev (a : M D) : FI := bnd a fun x => lft (revL x)
def itR1 (a : M (List D)) : FI := bnd a fun xs => lft (rg1 xs)
def itR2 (a : M (List D)) : FI := bnd a fun xs => lft (rg2 xs)
inductive Tg where
  | nm (i : Nat) | tp (is : List Nat)
def sets : List Nat → List D → Rho → Rho
  | i :: is, d :: ds, ρ => sets is ds (ρ.set i (.sh d))
  | _, _, ρ => ρ
def asg : Tg → D → Rho → Option Rho
  | .nm i, d, ρ => some (ρ.set i (.sh d))
  | .tp is, .tup ds, ρ => if ds.length = is.length then some (sets is ds ρ) else none
  | _, _, _ => none
def above (n : Nat) : Tg → Bool
  | .nm i => decide (n ≤ i)
  | .tp is => is.all fun i => decide (n ≤ i)
def compL (tg : Tg) (c : M Bool) (e : M D) : List D → List D → Rho → Option (Rho × List D)
  | [], acc, ρ => some (ρ, acc)
  | d :: ds, acc, ρ => match asg tg d ρ with
    | none => none
    | some ρ1 => match c ρ1 with
      | some (ρ2, .ok true) => (match e ρ2 with
        | some (ρ3, .ok v) => compL tg c e ds (acc ++ [v]) ρ3
        | _ => none)
      | some (ρ2, .ok false) => compL tg c e ds acc ρ2
      | _ => none
def compE (it : FI) (tg : Tg) (k : Nat) (c : M Bool) (e : M D) : M D := fun ρ => match it ρ with
  | none => none
  | some (ρ1, .er n) => some (ρ1, .er n)
  | some (ρ1, .ok ds) => if (decide (ds.length ≤ sizeLine) && above ρ1.length tg) = true then (match compL tg c e ds [] (ρ1 ++ List.replicate k .un) with
    | some (ρ2, acc) => some (ρ2.take ρ1.length, .ok (.lst acc))
    | none => none) else none
def yes : M Bool := ret true
def lend (i : Nat) (m : M D) : M D := fun ρ => match ρ[i]? with
  | some (.ow xs) => (match m (ρ.set i (.sh (.lst xs))) with
    | some (_, .ok (.bl b)) => some (ρ, .ok (.bl b))
    | _ => none)
  | _ => none
inductive O where
  | nx | rt (d : D) | er (n : String) | bk | ct
abbrev FS := Rho → Option (Rho × O)
def sNx : FS := fun ρ => some (ρ, .nx)
def sBk : FS := fun ρ => some (ρ, .bk)
def sCt : FS := fun ρ => some (ρ, .ct)
def sq (a b : FS) : FS := fun ρ => match a ρ with
  | some (ρ', .nx) => b ρ'
  | r => r
def sx (a : M D) (f : D → FS) : FS := fun ρ => match a ρ with
  | none => none
  | some (ρ', .er n) => some (ρ', .er n)
  | some (ρ', .ok d) => f d ρ'
def sE (a : M D) : FS := sx a fun _ ρ => some (ρ, .nx)
def sR (a : M D) : FS := sx a fun d ρ => some (ρ, .rt d)
def sRN : FS := fun ρ => some (ρ, .rt .non)
def sA (tg : Tg) (a : M D) : FS := sx a fun d ρ => match asg tg d ρ with
  | some ρ' => some (ρ', .nx)
  | none => none
def sO (i : Nat) (a : M (List D)) : FS := fun ρ => match a ρ with
  | none => none
  | some (ρ', .er n) => some (ρ', .er n)
  | some (ρ', .ok xs) => if xs.length ≤ sizeLine then some (ρ'.set i (.ow xs), .nx) else none
def sP (i : Nat) (a : M D) : FS := fun ρ => match ρ[i]? with
  | some (.ow _) => (match a ρ with
    | none => none
    | some (ρ', .er n) => some (ρ', .er n)
    | some (ρ', .ok d) => match ρ'[i]? with
      | some (.ow xs) => if xs.length < sizeLine then some (ρ'.set i (.ow (xs ++ [d])), .nx) else none
      | _ => none)
  | _ => none
def sX (i : Nat) (a : M D) : FS := fun ρ => match ρ[i]? with
  | some (.ow _) => (match a ρ with
    | none => none
    | some (ρ', .er n) => some (ρ', .er n)
    | some (ρ', .ok (.lst ys)) => (match ρ'[i]? with
      | some (.ow xs) => if xs.length + ys.length ≤ sizeLine then some (ρ'.set i (.ow (xs ++ ys)), .nx) else none
      | _ => none)
    | _ => none)
  | _ => none
def sI (c : M Bool) (a b : FS) : FS := fun ρ => match c ρ with
  | none => none
  | some (ρ', .er n) => some (ρ', .er n)
  | some (ρ', .ok true) => a ρ'
  | some (ρ', .ok false) => b ρ'
def sT (n : String) : FS := fun ρ => some (ρ, .er n)
def whN (c : M Bool) (b : FS) : Nat → FS
  | 0, _ => none
  | n + 1, ρ => match c ρ with
    | none => none
    | some (ρ', .er n) => some (ρ', .er n)
    | some (ρ', .ok false) => some (ρ', .nx)
    | some (ρ', .ok true) => match b ρ' with
      | some (ρ2, .nx) => whN c b n ρ2
      | some (ρ2, .ct) => whN c b n ρ2
      | some (ρ2, .bk) => some (ρ2, .nx)
      | r => r
def fuel : Nat := 1000000
def sW (c : M Bool) (b : FS) : FS := whN c b fuel
def forL (tg : Tg) (b : FS) : List D → FS
  | [], ρ => some (ρ, .nx)
  | d :: ds, ρ => match asg tg d ρ with
    | none => none
    | some ρ1 => match b ρ1 with
      | some (ρ2, .nx) => forL tg b ds ρ2
      | some (ρ2, .ct) => forL tg b ds ρ2
      | some (ρ2, .bk) => some (ρ2, .nx)
      | r => r
def sF (it : FI) (tg : Tg) (b : FS) : FS := fun ρ => match it ρ with
  | none => none
  | some (ρ1, .er n) => some (ρ1, .er n)
  | some (ρ1, .ok ds) => forL tg b ds ρ1
def sTry (cls : List String) (sup : String → Bool) (i : Nat) (b h : FS) : FS := fun ρ => match b ρ with
  | some (ρ1, .er n) => if (cls.contains n && sup n) = true then (match h (ρ1.set i (.sh (.exc n))) with
    | some (_, .er _) => none
    | some (ρ2, o) => some (ρ2.set i .un, o)
    | none => none) else none
  | r => r
def outc : Option (Rho × O) → Option (R D)
  | some (_, .rt d) => some (.ok d)
  | some (_, .nx) => some (.ok .non)
  | some (_, .er n) => some (.er n)
  | _ => none
def run (ps N : Nat) (b : FS) (ds : List D) : Option (R D) := if ds.length = ps then outc (b (ds.map .sh ++ List.replicate (N - ps) .un)) else none
def addN (u v : Int) (cs : List (List Int)) : List (List Int) := cs.modify u.toNat (· ++ [v])
def nearF (n : Nat) (ps : List (Int × Int)) : List (List Int) := ps.foldl (fun cs p => addN p.2 p.1 (addN p.1 p.2 cs)) (List.replicate n [])
def inN (n : Int) (p : Int × Int) : Bool := decide (0 ≤ p.1) && decide (p.1 < n) && decide (0 ≤ p.2) && decide (p.2 < n)
end DS
namespace DS
open PySem (Str sizeLine)
theorem set_end {ρ : Rho} {s t : Sl} {i : Nat} (h : i = ρ.length) : (ρ ++ [s]).set i t = ρ ++ [t] := by
  subst h; simp
theorem set_end2 {ρ : Rho} {s s' t t' : Sl} {i j : Nat} (h : i = ρ.length) (h' : j = ρ.length + 1) : ((ρ ++ [s, s']).set i t).set j t' = ρ ++ [t, t'] := by
  subst h; subst h'; simp
theorem get_end {ρ : Rho} {s : Sl} : (ρ ++ [s])[ρ.length]? = some s := by simp
theorem compL_one {i : Nat} {c : M Bool} {e : M D} {ρ : Rho} {p : D → Bool} {f : D → D} (hi : i = ρ.length) : ∀ (ds acc : List D) (s : Sl),
    (∀ d ∈ ds, c (ρ ++ [.sh d]) = some (ρ ++ [.sh d], .ok (p d))) → (∀ d ∈ ds, p d = true → e (ρ ++ [.sh d]) = some (ρ ++ [.sh d], .ok (f d))) →
    ∃ s', compL (.nm i) c e ds acc (ρ ++ [s]) = some (ρ ++ [s'], acc ++ (ds.filter p).map f)
  | [], acc, s, _, _ => ⟨s, by simp [compL]⟩
  | d :: ds, acc, s, hc, he => by
    have h1 := hc d (by simp)
    unfold compL
    rw [asg, set_end hi]
    dsimp only
    rw [h1]
    cases q : p d with
    | true =>
      dsimp only
      rw [he d (by simp) q]
      dsimp only
      obtain ⟨s', r⟩ := compL_one hi ds (acc ++ [f d]) (.sh d) (fun x hx => hc x (by simp [hx])) (fun x hx => he x (by simp [hx]))
      exact ⟨s', by rw [r, List.filter_cons_of_pos q]; simp⟩
    | false =>
      dsimp only
      obtain ⟨s', r⟩ := compL_one hi ds acc (.sh d) (fun x hx => hc x (by simp [hx])) (fun x hx => he x (by simp [hx]))
      exact ⟨s', by rw [r, List.filter_cons_of_neg (by simp [q])]⟩
theorem compE_one {it : FI} {i : Nat} {c : M Bool} {e : M D} {ρ : Rho} {ds : List D} (p : D → Bool) (f : D → D) (hit : it ρ = some (ρ, .ok ds)) (hl : ds.length ≤ sizeLine) (hi : i = ρ.length)
    (hc : ∀ d ∈ ds, c (ρ ++ [.sh d]) = some (ρ ++ [.sh d], .ok (p d))) (he : ∀ d ∈ ds, p d = true → e (ρ ++ [.sh d]) = some (ρ ++ [.sh d], .ok (f d))) :
    compE it (.nm i) 1 c e ρ = some (ρ, .ok (.lst ((ds.filter p).map f))) := by
  obtain ⟨s', r⟩ := compL_one hi ds [] .un hc he
  unfold compE
  rw [hit]
  dsimp only
  rw [if_pos (by rw [decide_eq_true hl, hi]; simp [above]), show List.replicate 1 Sl.un = [Sl.un] from rfl, r]
  simp
theorem compE_map {it : FI} {i : Nat} {e : M D} {ρ : Rho} {ds : List D} (f : D → D) (hit : it ρ = some (ρ, .ok ds)) (hl : ds.length ≤ sizeLine) (hi : i = ρ.length)
    (he : ∀ d ∈ ds, e (ρ ++ [.sh d]) = some (ρ ++ [.sh d], .ok (f d))) : compE it (.nm i) 1 yes e ρ = some (ρ, .ok (.lst (ds.map f))) := by
  rw [compE_one (fun _ => true) f hit hl hi (fun _ _ => rfl) (fun d hd _ => he d hd), List.filter_eq_self.mpr (fun _ _ => rfl)]
theorem compL_two {i j : Nat} {c : M Bool} {e : M D} {ρ : Rho} {p : D × D → Bool} {f : D × D → D} (hi : i = ρ.length) (hj : j = ρ.length + 1) : ∀ (ds : List (D × D)) (acc : List D) (s t : Sl),
    (∀ d ∈ ds, c (ρ ++ [.sh d.1, .sh d.2]) = some (ρ ++ [.sh d.1, .sh d.2], .ok (p d))) → (∀ d ∈ ds, p d = true → e (ρ ++ [.sh d.1, .sh d.2]) = some (ρ ++ [.sh d.1, .sh d.2], .ok (f d))) →
    ∃ s' t', compL (.tp [i, j]) c e (ds.map fun d => .tup [d.1, d.2]) acc (ρ ++ [s, t]) = some (ρ ++ [s', t'], acc ++ (ds.filter p).map f)
  | [], acc, s, t, _, _ => ⟨s, t, by simp [compL]⟩
  | d :: ds, acc, s, t, hc, he => by
    have h1 := hc d (by simp)
    rw [List.map_cons]
    unfold compL
    rw [asg, if_pos (show [d.1, d.2].length = [i, j].length from rfl), show sets [i, j] [d.1, d.2] (ρ ++ [s, t]) = ((ρ ++ [s, t]).set i (.sh d.1)).set j (.sh d.2) from rfl, set_end2 hi hj]
    dsimp only
    rw [h1]
    cases q : p d with
    | true =>
      dsimp only
      rw [he d (by simp) q]
      dsimp only
      obtain ⟨s', t', r⟩ := compL_two hi hj ds (acc ++ [f d]) (.sh d.1) (.sh d.2) (fun x hx => hc x (by simp [hx])) (fun x hx => he x (by simp [hx]))
      exact ⟨s', t', by rw [r, List.filter_cons_of_pos q]; simp⟩
    | false =>
      dsimp only
      obtain ⟨s', t', r⟩ := compL_two hi hj ds acc (.sh d.1) (.sh d.2) (fun x hx => hc x (by simp [hx])) (fun x hx => he x (by simp [hx]))
      exact ⟨s', t', by rw [r, List.filter_cons_of_neg (by simp [q])]⟩
theorem compE_two {it : FI} {i j : Nat} {c : M Bool} {e : M D} {ρ : Rho} {ds : List (D × D)} (p : D × D → Bool) (f : D × D → D) (hit : it ρ = some (ρ, .ok (ds.map fun d => .tup [d.1, d.2]))) (hl : ds.length ≤ sizeLine) (hi : i = ρ.length) (hj : j = ρ.length + 1)
    (hc : ∀ d ∈ ds, c (ρ ++ [.sh d.1, .sh d.2]) = some (ρ ++ [.sh d.1, .sh d.2], .ok (p d))) (he : ∀ d ∈ ds, p d = true → e (ρ ++ [.sh d.1, .sh d.2]) = some (ρ ++ [.sh d.1, .sh d.2], .ok (f d))) :
    compE it (.tp [i, j]) 2 c e ρ = some (ρ, .ok (.lst ((ds.filter p).map f))) := by
  obtain ⟨s', t', r⟩ := compL_two hi hj ds [] .un .un hc he
  unfold compE
  rw [hit]
  dsimp only
  rw [if_pos (by rw [decide_eq_true (by simpa using hl), hi, hj]; simp [above]), show List.replicate 2 Sl.un = [Sl.un, Sl.un] from rfl, r]
  simp
abbrev I (l : List Int) : List D := l.map D.int
theorem ints_I : ∀ l : List Int, intsD (I l) = some l
  | [] => rfl
  | x :: l => by simp only [List.map_cons, intsD, ints_I l]; rfl
theorem bools_map {α : Type} (f : α → Bool) : ∀ l : List α, bools (l.map fun x => .bl (f x)) = some (l.map f)
  | [] => rfl
  | x :: l => by simp only [List.map_cons, bools, bools_map f l]; rfl
theorem allF_map {α : Type} (f : α → Bool) (l : List α) : allF [.lst (l.map fun x => .bl (f x))] = some (.bl (l.all f)) := by
  rw [allF, bools_map]; simp
theorem atI_get {α : Type} {xs : List α} {k : Nat} (h : k < xs.length) : atI xs (k : Int) = some xs[k] := by
  unfold atI ixN
  rw [if_pos (by omega), if_pos (by omega)]
  simp [h]
theorem atI_nat {α : Type} {xs : List α} {k : Nat} {x : α} (h : xs[k]? = some x) : atI xs (k : Int) = some x := by
  obtain ⟨h1, h2⟩ := List.getElem?_eq_some_iff.mp h
  rw [atI_get h1, h2]
theorem atI_zero {α : Type} (x : α) (xs : List α) : atI (x :: xs) 0 = some x := atI_nat (k := 0) (by simp)
theorem atI_one {α : Type} (x y : α) (xs : List α) : atI (x :: y :: xs) 1 = some y := atI_nat (k := 1) (by simp)
theorem atI_last {α : Type} {xs : List α} {x : α} (h : xs.getLast? = some x) : atI xs (-1) = some x := by
  have hne : xs ≠ [] := by rintro rfl; cases h
  have hp : 0 < xs.length := List.length_pos_iff.mpr hne
  unfold atI ixN
  rw [if_neg (by omega), if_pos (by omega)]
  rw [List.getLast?_eq_getElem?] at h
  rw [show (-1 + (xs.length : Int)).toNat = xs.length - 1 by omega]
  exact h
theorem mul_small {i j : Int} (h : -18446744073709551616 < i ∧ i < 18446744073709551616) : mulOk i j = true := by
  unfold mulOk
  simp only [Bool.or_eq_true, Bool.and_eq_true, decide_eq_true_eq]
  exact .inl ⟨by omega, by omega⟩
theorem mul_small' {i j : Int} (h : -18446744073709551616 < j ∧ j < 18446744073709551616) : mulOk i j = true := by
  unfold mulOk
  simp only [Bool.or_eq_true, Bool.and_eq_true, decide_eq_true_eq]
  exact .inr ⟨by omega, by omega⟩
theorem line_eq : sizeLine = 16777216 := by unfold sizeLine; rfl
mutual
theorem eqD_refl : ∀ (d : D), (dep d).isSome = true → eqD d d = true
  | .non, _ => by simp [eqD]
  | .bl _, _ => by simp [eqD]
  | .int _, _ => by simp [eqD]
  | .str _, _ => by simp [eqD]
  | .lst xs, h => by
    rw [eqD]
    refine eqDs_refl xs ?_
    rw [dep] at h
    simpa using h
  | .tup xs, h => by
    rw [eqD]
    refine eqDs_refl xs ?_
    rw [dep] at h
    simpa using h
  | .set _, h => by simp [dep] at h
  | .exc _, h => by simp [dep] at h
theorem eqDs_refl : ∀ (ds : List D), (deps ds).isSome = true → eqDs ds ds = true
  | [], _ => by simp [eqDs]
  | d :: ds, h => by
    rw [eqDs]
    rw [deps] at h
    cases h1 : dep d with
    | none => simp [h1] at h
    | some a =>
      cases h2 : deps ds with
      | none => simp [h1, h2] at h
      | some b => rw [eqD_refl d (by simp [h1]), eqDs_refl ds (by simp [h2])]; rfl
end
theorem deps_le {k : Nat} : ∀ {ds : List D}, (∀ d ∈ ds, ∃ n, dep d = some n ∧ n ≤ k) → ∃ n, deps ds = some n ∧ n ≤ k
  | [], _ => ⟨0, by simp [deps], by omega⟩
  | d :: ds, h => by
    obtain ⟨a, h1, h2⟩ := h d (by simp)
    obtain ⟨b, h3, h4⟩ := deps_le (ds := ds) fun x hx => h x (by simp [hx])
    exact ⟨max a b, by simp [deps, h1, h3], by omega⟩
theorem dep_lst {k : Nat} {ds : List D} (h : ∀ d ∈ ds, ∃ n, dep d = some n ∧ n ≤ k) : ∃ n, dep (.lst ds) = some n ∧ n ≤ k + 1 := by
  obtain ⟨n, h1, h2⟩ := deps_le h
  exact ⟨n + 1, by simp [dep, h1], by omega⟩
theorem dep_tup {k : Nat} {ds : List D} (h : ∀ d ∈ ds, ∃ n, dep d = some n ∧ n ≤ k) : ∃ n, dep (.tup ds) = some n ∧ n ≤ k + 1 := by
  obtain ⟨n, h1, h2⟩ := deps_le h
  exact ⟨n + 1, by simp [dep, h1], by omega⟩
theorem dep_I {l : List Int} : ∀ d ∈ I l, ∃ n, dep d = some n ∧ n ≤ 0 := fun d hd => by
  obtain ⟨i, _, rfl⟩ := List.mem_map.mp hd
  exact ⟨0, by simp [dep], by omega⟩
theorem eqOk_of {d : D} {k : Nat} (h : ∃ n, dep d = some n ∧ n ≤ k) (hk : k ≤ 20) : eqOk d = true := by
  obtain ⟨n, h1, h2⟩ := h
  unfold eqOk
  rw [h1]
  simp; omega
theorem eqOk_int (i : Int) : eqOk (.int i) = true := by simp [eqOk, dep]
theorem all_eqOk_I (l : List Int) : (I l).all eqOk = true := by
  rw [List.all_eq_true]
  intro d hd
  obtain ⟨i, _, rfl⟩ := List.mem_map.mp hd
  exact eqOk_int i
theorem eqD_int (a b : Int) : eqD (.int a) (.int b) = decide (a = b) := by
  rw [eqD]
  by_cases h : a = b <;> simp [h]
theorem inD_I (x : Int) : ∀ l : List Int, inD (.int x) (I l) = decide (x ∈ l)
  | [] => rfl
  | y :: l => by
    have := inD_I x l
    unfold inD at this ⊢
    rw [show I (y :: l) = .int y :: I l from rfl, List.any_cons, this, eqD_int]
    by_cases h : y = x
    · simp [h]
    · have h' : ¬ x = y := fun e => h e.symm
      simp [h, h']
end DS
namespace DS
open PySem (Str sizeLine)
section
variable {α β : Type}
theorem ap_ret (a : α) (ρ : Rho) : ret a ρ = some (ρ, .ok a) := rfl
theorem ap_lft (a : α) (ρ : Rho) : lft (some a) ρ = some (ρ, .ok a) := rfl
theorem ap_bnd (m : M α) (f : α → M β) (ρ : Rho) : bnd m f ρ = (match m ρ with
  | none => none
  | some (ρ', .er n) => some (ρ', .er n)
  | some (ρ', .ok a) => f a ρ') := rfl
end
section
variable (a b c : M D) (x y : M Bool) (as : M (List D)) (ρ : Rho)
theorem ap_vr (i : Nat) : vr i ρ = (match ρ[i]? with
  | some (.sh d) => some (ρ, .ok d)
  | some (.ow xs) => some (ρ.set i (.sh (.lst xs)), .ok (.lst xs))
  | _ => none) := rfl
theorem ap_pk (i : Nat) : pk i ρ = (match ρ[i]? with
  | some (.sh (.lst xs)) => some (ρ, .ok xs)
  | some (.ow xs) => some (ρ, .ok xs)
  | _ => none) := rfl
theorem ap_cst (d : D) : cst d ρ = some (ρ, .ok d) := rfl
theorem ap_op1 (f : D → Option D) : op1 f a ρ = bnd a (fun x => lft (f x)) ρ := rfl
theorem ap_op2 (f : D → D → Option D) : op2 f a b ρ = bnd a (fun x => bnd b fun y => lft (f x y)) ρ := rfl
theorem ap_opL (f : D → D → Option D) : opL f a b ρ = bnd a (fun x => bnd (lft (isL x)) fun _ => bnd b fun y => lft (f x y)) ρ := rfl
theorem ap_nilA : nilA ρ = some (ρ, .ok []) := rfl
theorem ap_consA : consA a as ρ = bnd a (fun x => bnd as fun xs => ret (x :: xs)) ρ := rfl
theorem ap_tupE : tupE as ρ = bnd as (fun xs => lft ((fits xs).map .tup)) ρ := rfl
theorem ap_lstE : lstE as ρ = bnd as (fun xs => lft ((fits xs).map .lst)) ρ := rfl
theorem ap_cal (F : List D → Option (R D)) : cal F as ρ = bnd as (fun xs ρ => match F xs with
  | none => none
  | some r => some (ρ, r)) ρ := rfl
theorem ap_blt (f : List D → Option D) : blt f as ρ = bnd as (fun xs => lft (f xs)) ρ := rfl
theorem ap_tst : tst a ρ = bnd a (fun x => lft (truth x)) ρ := rfl
theorem ap_tsB : tsB a ρ = bnd a (fun x => lft (asB x)) ρ := rfl
theorem ap_andT : andT x y ρ = bnd x (fun z => if z = true then y else ret false) ρ := rfl
theorem ap_orT : orT x y ρ = bnd x (fun z => if z = true then ret true else y) ρ := rfl
theorem ap_notT : notT x ρ = bnd x (fun z => ret (!z)) ρ := rfl
theorem ap_andV : andV a b ρ = bnd (tsB a) (fun z => if z = true then b else ret (.bl false)) ρ := rfl
theorem ap_orV : orV a b ρ = bnd (tsB a) (fun z => if z = true then ret (.bl true) else b) ρ := rfl
theorem ap_notV : notV a ρ = bnd (tsB a) (fun z => ret (.bl (!z))) ρ := rfl
theorem ap_ifE : ifE x a b ρ = bnd x (fun z => if z = true then a else b) ρ := rfl
theorem ap_chn (f g : D → D → Option D) : chn f g a b c ρ = bnd a (fun x => bnd b fun y => bnd (lft ((f x y).bind asB)) fun k => if k = true then bnd c fun z => lft (g y z) else ret (.bl false)) ρ := rfl
theorem ap_ixV (i : Nat) : ixV i a ρ = bnd (pk i) (fun _ => bnd a fun j => bnd (pk i) fun xs => lft (ixD (.lst xs) j)) ρ := rfl
theorem ap_lenV (i : Nat) : lenV i ρ = bnd (pk i) (fun xs => ret (.int xs.length)) ρ := rfl
theorem ap_partN : part none ρ = some (ρ, .ok none) := rfl
theorem ap_partS : part (some a) ρ = bnd a (fun x => lft ((asI x).map some)) ρ := rfl
theorem ap_slE (lo hi : Option (M D)) : slE a lo hi ρ = bnd a (fun x => bnd (part lo) fun l => bnd (part hi) fun h => lft (slD x l h)) ρ := rfl
theorem ap_itE : itE a ρ = bnd a (fun x => lft (items x)) ρ := rfl
theorem ap_itRev : itRev a ρ = bnd a (fun x => lft (revL x)) ρ := rfl
theorem ap_itR1 : itR1 as ρ = bnd as (fun xs => lft (rg1 xs)) ρ := rfl
theorem ap_itR2 : itR2 as ρ = bnd as (fun xs => lft (rg2 xs)) ρ := rfl
theorem ap_yes : yes ρ = some (ρ, .ok true) := rfl
theorem ap_ite {α : Type} (p : Prop) [Decidable p] (m n : M α) : (if p then m else n) ρ = if p then m ρ else n ρ := by split <;> rfl
end
section
variable (a : M D) (x : M Bool) (as : M (List D)) (s t : FS) (ρ : Rho)
theorem ap_sNx : sNx ρ = some (ρ, .nx) := rfl
theorem ap_sBk : sBk ρ = some (ρ, .bk) := rfl
theorem ap_sCt : sCt ρ = some (ρ, .ct) := rfl
theorem ap_sq : sq s t ρ = (match s ρ with
  | some (ρ', .nx) => t ρ'
  | r => r) := rfl
theorem ap_sx (f : D → FS) : sx a f ρ = (match a ρ with
  | none => none
  | some (ρ', .er n) => some (ρ', .er n)
  | some (ρ', .ok d) => f d ρ') := rfl
theorem ap_sE : sE a ρ = sx a (fun _ ρ => some (ρ, .nx)) ρ := rfl
theorem ap_sR : sR a ρ = sx a (fun d ρ => some (ρ, .rt d)) ρ := rfl
theorem ap_sRN : sRN ρ = some (ρ, .rt .non) := rfl
theorem ap_sA (tg : Tg) : sA tg a ρ = sx a (fun d ρ => match asg tg d ρ with
  | some ρ' => some (ρ', .nx)
  | none => none) ρ := rfl
theorem ap_sO (i : Nat) : sO i as ρ = (match as ρ with
  | none => none
  | some (ρ', .er n) => some (ρ', .er n)
  | some (ρ', .ok xs) => if xs.length ≤ sizeLine then some (ρ'.set i (.ow xs), .nx) else none) := rfl
theorem ap_sP (i : Nat) : sP i a ρ = (match ρ[i]? with
  | some (.ow _) => (match a ρ with
    | none => none
    | some (ρ', .er n) => some (ρ', .er n)
    | some (ρ', .ok d) => match ρ'[i]? with
      | some (.ow xs) => if xs.length < sizeLine then some (ρ'.set i (.ow (xs ++ [d])), .nx) else none
      | _ => none)
  | _ => none) := rfl
theorem ap_sX (i : Nat) : sX i a ρ = (match ρ[i]? with
  | some (.ow _) => (match a ρ with
    | none => none
    | some (ρ', .er n) => some (ρ', .er n)
    | some (ρ', .ok (.lst ys)) => (match ρ'[i]? with
      | some (.ow xs) => if xs.length + ys.length ≤ sizeLine then some (ρ'.set i (.ow (xs ++ ys)), .nx) else none
      | _ => none)
    | _ => none)
  | _ => none) := rfl
theorem ap_sI : sI x s t ρ = (match x ρ with
  | none => none
  | some (ρ', .er n) => some (ρ', .er n)
  | some (ρ', .ok true) => s ρ'
  | some (ρ', .ok false) => t ρ') := rfl
theorem ap_sT (n : String) : sT n ρ = some (ρ, .er n) := rfl
theorem ap_sF (it : FI) (tg : Tg) : sF it tg s ρ = (match it ρ with
  | none => none
  | some (ρ1, .er n) => some (ρ1, .er n)
  | some (ρ1, .ok ds) => forL tg s ds ρ1) := rfl
theorem ap_sTry (cls : List String) (sup : String → Bool) (i : Nat) : sTry cls sup i s t ρ = (match s ρ with
  | some (ρ1, .er n) => if (cls.contains n && sup n) = true then (match t (ρ1.set i (.sh (.exc n))) with
    | some (_, .er _) => none
    | some (ρ2, o) => some (ρ2.set i .un, o)
    | none => none) else none
  | r => r) := rfl
end
theorem ap_run {ps N : Nat} {b : FS} {ds : List D} (h : ds.length = ps) : run ps N b ds = outc (b (ds.map .sh ++ List.replicate (N - ps) .un)) := by unfold run; rw [if_pos h]
theorem ap_run1 {N : Nat} {b : FS} {x : D} : run 1 N b [x] = outc (b (.sh x :: List.replicate (N - 1) .un)) := ap_run rfl
theorem ap_run2 {N : Nat} {b : FS} {x y : D} : run 2 N b [x, y] = outc (b (.sh x :: .sh y :: List.replicate (N - 2) .un)) := ap_run rfl
theorem ap_run3 {N : Nat} {b : FS} {x y z : D} : run 3 N b [x, y, z] = outc (b (.sh x :: .sh y :: .sh z :: List.replicate (N - 3) .un)) := ap_run rfl
theorem addI (i j : Int) : addD (.int i) (.int j) = some (.int (i + j)) := rfl
theorem subI (i j : Int) : subD (.int i) (.int j) = some (.int (i - j)) := rfl
theorem negI (i : Int) : negD (.int i) = some (.int (-i)) := rfl
theorem mulI {i j : Int} (h : mulOk i j = true) : mulD (.int i) (.int j) = some (.int (i * j)) := by rw [mulD, if_pos h]
theorem mulK (i : Int) {j : Int} (h : (decide (-18446744073709551616 < j) && decide (j < 18446744073709551616)) = true) : mulD (.int i) (.int j) = some (.int (i * j)) := mulI (mul_small' (by simpa using h))
theorem mulK' {i : Int} (j : Int) (h : (decide (-18446744073709551616 < i) && decide (i < 18446744073709551616)) = true) : mulD (.int i) (.int j) = some (.int (i * j)) := mulI (mul_small (by simpa using h))
theorem fdvI (i : Int) {j : Int} (h : (decide (0 < j) && decide (j < 1073741824)) = true) : fdvD (.int i) (.int j) = some (.int (i / j)) := by rw [fdvD, if_pos h]
theorem modI (i : Int) {j : Int} (h : 0 < j) : modD (.int i) (.int j) = some (.int (i % j)) := by rw [modD, if_pos h]
theorem eqI (i j : Int) : eqF (.int i) (.int j) = some (.bl (decide (i = j))) := rfl
theorem neI (i j : Int) : neF (.int i) (.int j) = some (.bl (!decide (i = j))) := rfl
theorem ltI (i j : Int) : ltF (.int i) (.int j) = some (.bl (decide (i < j))) := rfl
theorem leI (i j : Int) : leF (.int i) (.int j) = some (.bl (decide (i ≤ j))) := rfl
theorem gtI (i j : Int) : gtF (.int i) (.int j) = some (.bl (decide (j < i))) := rfl
theorem geI (i j : Int) : geF (.int i) (.int j) = some (.bl (decide (j ≤ i))) := rfl
theorem ltT (a b : List Int) : ltF (.tup (I a)) (.tup (I b)) = some (.bl (lexLt a b)) := by
  rw [ltF, ints_I, ints_I]
theorem niT (x : Int) (l : List Int) : niF (.int x) (.tup (I l)) = some (.bl (!decide (x ∈ l))) := by
  unfold niF; rw [items]; dsimp only; rw [if_pos (by rw [eqOk_int, all_eqOk_I]; rfl), inD_I]
theorem niL (x : Int) (l : List Int) : niF (.int x) (.lst (I l)) = some (.bl (!decide (x ∈ l))) := by
  unfold niF; rw [items]; dsimp only; rw [if_pos (by rw [eqOk_int, all_eqOk_I]; rfl), inD_I]
theorem inT (x : Int) (l : List Int) : inF (.int x) (.tup (I l)) = some (.bl (decide (x ∈ l))) := by
  unfold inF; rw [items]; dsimp only; rw [if_pos (by rw [eqOk_int, all_eqOk_I]; rfl), inD_I]
theorem inL (x : Int) (l : List Int) : inF (.int x) (.lst (I l)) = some (.bl (decide (x ∈ l))) := by
  unfold inF; rw [items]; dsimp only; rw [if_pos (by rw [eqOk_int, all_eqOk_I]; rfl), inD_I]
theorem ixL (xs : List D) (i : Int) : ixD (.lst xs) (.int i) = atI xs i := rfl
theorem ixT (xs : List D) (i : Int) : ixD (.tup xs) (.int i) = atI xs i := rfl
theorem lenL (xs : List D) : lenF [.lst xs] = some (.int xs.length) := rfl
theorem lenT (xs : List D) : lenF [.tup xs] = some (.int xs.length) := rfl
theorem trT (xs : List D) : truth (.tup xs) = some (!xs.isEmpty) := rfl
theorem trN : truth .non = some false := rfl
theorem trL (xs : List D) : truth (.lst xs) = some (!xs.isEmpty) := rfl
theorem trB (b : Bool) : truth (.bl b) = some b := rfl
theorem asb (b : Bool) : asB (.bl b) = some b := rfl
theorem itmL (xs : List D) : items (.lst xs) = some xs := rfl
theorem itmT (xs : List D) : items (.tup xs) = some xs := rfl
theorem fitS {xs : List D} (h : (decide (xs.length ≤ 1000)) = true) : fits xs = some xs := by
  unfold fits; rw [if_pos]; rw [line_eq]; simp at h; omega
theorem rg1_ok {j : Int} (h0 : 0 ≤ j) (h : j ≤ 1000000000) : rg1 [.int j] = some (rng 0 j) := by
  rw [rg1, if_pos (inR_iff.mpr (by omega))]
theorem rg2_ok {i j : Int} (h0 : 0 ≤ i) (h : i ≤ 1000000000) (h1 : 0 ≤ j) (h2 : j ≤ 1000000000) : rg2 [.int i, .int j] = some (rng i j) := by
  rw [rg2, if_pos]; rw [Bool.and_eq_true]; exact ⟨inR_iff.mpr (by omega), inR_iff.mpr (by omega)⟩
theorem isN_non : isN .non = some (.bl true) := rfl
theorem tupL (xs : List D) : tupF [.lst xs] = some (.tup xs) := rfl
theorem tupT (xs : List D) : tupF [.tup xs] = some (.tup xs) := rfl
theorem lstL (xs : List D) : lstF [.lst xs] = some (.lst xs) := rfl
theorem lstT (xs : List D) : lstF [.tup xs] = some (.lst xs) := rfl
theorem forL_step {i : Nat} {b : FS} {d : D} {ds : List D} {ρ ρ2 : Rho} (h : b (ρ.set i (.sh d)) = some (ρ2, .nx)) : forL (.nm i) b (d :: ds) ρ = forL (.nm i) b ds ρ2 := by
  rw [forL, asg]; dsimp only; rw [h]
theorem forL_nil {tg : Tg} {b : FS} {ρ : Rho} : forL tg b [] ρ = some (ρ, .nx) := by rw [forL]
theorem whN_stop {c : M Bool} {b : FS} {n : Nat} {ρ ρ' : Rho} (h : c ρ = some (ρ', .ok false)) : whN c b (n + 1) ρ = some (ρ', .nx) := by
  rw [whN, h]
theorem whN_step {c : M Bool} {b : FS} {n : Nat} {ρ ρ' ρ2 : Rho} (h : c ρ = some (ρ', .ok true)) (h2 : b ρ' = some (ρ2, .nx)) : whN c b (n + 1) ρ = whN c b n ρ2 := by
  rw [whN, h]; dsimp only; rw [h2]
theorem sq_nx {s t : FS} {ρ ρ' : Rho} (h : s ρ = some (ρ', .nx)) : sq s t ρ = t ρ' := by rw [ap_sq, h]
theorem sA_nm {a : M D} {ρ ρ' : Rho} {i : Nat} {d : D} (h : a ρ = some (ρ', .ok d)) : sA (.nm i) a ρ = some (ρ'.set i (.sh d), .nx) := by rw [ap_sA, ap_sx, h]; rfl
theorem sI_t {c : M Bool} {s t : FS} {ρ ρ' : Rho} (h : c ρ = some (ρ', .ok true)) : sI c s t ρ = s ρ' := by rw [ap_sI, h]
theorem sI_f {c : M Bool} {s t : FS} {ρ ρ' : Rho} (h : c ρ = some (ρ', .ok false)) : sI c s t ρ = t ρ' := by rw [ap_sI, h]
theorem sR_ok {a : M D} {ρ ρ' : Rho} {d : D} (h : a ρ = some (ρ', .ok d)) : sR a ρ = some (ρ', .rt d) := by rw [ap_sR, ap_sx, h]
theorem sets2 (i j : Nat) (a b : D) (ρ : Rho) : sets [i, j] [a, b] ρ = (ρ.set i (.sh a)).set j (.sh b) := rfl
theorem asg_nm' (i : Nat) (d : D) (ρ : Rho) : asg (.nm i) d ρ = some (ρ.set i (.sh d)) := rfl
theorem asg_tp' (is : List Nat) (ds : List D) (ρ : Rho) : asg (.tp is) (.tup ds) ρ = if ds.length = is.length then some (sets is ds ρ) else none := rfl
theorem outc_rt (ρ : Rho) (d : D) : outc (some (ρ, .rt d)) = some (.ok d) := rfl
theorem outc_nx (ρ : Rho) : outc (some (ρ, .nx)) = some (.ok .non) := rfl
theorem outc_er (ρ : Rho) (n : String) : outc (some (ρ, .er n)) = some (.er n) := rfl
theorem if_true' {α : Type} (a b : α) : (if True then a else b) = a := rfl
end DS
local macro_rules | `(tactic| simp! only [$as,*] $[$l]?) => `(tactic| simp only [DS.ap_ret, DS.ap_lft, DS.ap_bnd, DS.ap_vr, DS.ap_pk, DS.ap_cst, DS.ap_op1, DS.ap_op2, DS.ap_opL, DS.ap_nilA, DS.ap_consA, DS.ap_tupE, DS.ap_lstE, DS.ap_cal, DS.ap_blt, DS.ap_tst, DS.ap_tsB, DS.ap_andT, DS.ap_orT, DS.ap_notT, DS.ap_andV, DS.ap_orV, DS.ap_notV, DS.ap_ifE, DS.ap_chn, DS.ap_ixV, DS.ap_lenV, DS.ap_partN, DS.ap_partS, DS.ap_slE, DS.ap_itE, DS.ap_itRev, DS.ap_itR1, DS.ap_itR2, DS.ap_yes, DS.ap_ite, DS.ap_sNx, DS.ap_sBk, DS.ap_sCt, DS.ap_sq, DS.ap_sx, DS.ap_sE, DS.ap_sR, DS.ap_sRN, DS.ap_sA, DS.ap_sO, DS.ap_sP, DS.ap_sX, DS.ap_sI, DS.ap_sT, DS.ap_sF, DS.ap_sTry, List.getElem?_cons_zero, List.getElem?_cons_succ, List.set_cons_zero, List.set_cons_succ, DS.asg_nm', DS.asg_tp', DS.outc_rt, DS.outc_nx, DS.outc_er, Option.map_some, Option.bind_some, List.map_cons, List.map_nil, List.cons_append, List.nil_append, List.replicate_zero, List.replicate_succ, DS.addI, DS.subI, DS.negI, DS.eqI, DS.neI, DS.ltI, DS.leI, DS.gtI, DS.geI, DS.ltT, DS.niT, DS.niL, DS.inT, DS.inL, DS.ixL, DS.ixT, DS.lenL, DS.lenT, DS.trL, DS.trT, DS.trN, DS.trB, DS.asb, DS.itmL, DS.itmT, DS.isN_non, DS.tupL, DS.tupT, DS.lstL, DS.lstT, DS.atI_zero, DS.atI_one, Nat.zero_le, DS.if_true', List.length_nil, DS.sets2, Nat.reduceSub, if_true, $as,*] $[$l]?)
namespace DS
theorem insU_ins (x : Int) : ∀ l : List Int, insU x l = FM.ins x l
  | [] => rfl
  | y :: l => by rw [insU, FM.ins, insU_ins x l]
theorem sortU_usort : ∀ l : List Int, sortU l = FM.usort l
  | [] => rfl
  | x :: l => by
    have ih := sortU_usort l
    unfold sortU FM.usort at ih ⊢
    rw [List.foldr_cons, List.foldr_cons, ih, insU_ins]
theorem insI_p (x : Int) : ∀ l : List Int, (insI x l).Perm (x :: l)
  | [] => .refl _
  | y :: l => by
    rw [insI]
    split
    · exact .refl _
    · exact ((insI_p x l).cons y).trans (.swap x y l)
theorem sortI_p : ∀ l : List Int, (sortI l).Perm l
  | [] => .refl _
  | x :: l => (insI_p x (sortI l)).trans ((sortI_p l).cons x)
theorem insI_s (x : Int) : ∀ l : List Int, l.Pairwise (· ≤ ·) → (insI x l).Pairwise (· ≤ ·)
  | [], _ => by simp [insI]
  | y :: l, h => by
    obtain ⟨h1, h2⟩ := List.pairwise_cons.mp h
    rw [insI]
    split
    · rename_i hle
      refine List.pairwise_cons.mpr ⟨fun z hz => ?_, h⟩
      rcases List.mem_cons.mp hz with rfl | hz
      · exact hle
      · exact Int.le_trans hle (h1 z hz)
    · rename_i hle
      refine List.pairwise_cons.mpr ⟨fun z hz => ?_, insI_s x l h2⟩
      rcases List.mem_cons.mp ((insI_p x l).mem_iff.mp hz) with rfl | hz
      · omega
      · exact h1 z hz
theorem sortI_s : ∀ l : List Int, (sortI l).Pairwise (· ≤ ·)
  | [] => .nil
  | x :: l => insI_s x _ (sortI_s l)
end DS
namespace L2
open PySem PySem.Spec PyProof.Rows
open DS (D Sl Rho R M FS O Tg)
structure Rc where
  K : PySem.W.Frag
  w : World
  ad : String → Addr
def SetO (w : World) (a : Addr) (p : Nat → Bool) : HO := .ext fun h => SetPure.IsSmall w h a p
mutual
def Rep (r : Rc) (G : Hp) : D → V → Prop
  | .non, v => v = .non
  | .bl b, v => v = .bl b
  | .int i, v => v = .int i
  | .str x, v => v = .str x
  | .lst ds, v => ∃ a vs, v = .ref a ∧ SqL r.K G a vs ∧ vs.length ≤ sizeLine ∧ Reps r G ds vs
  | .tup ds, v => ∃ a vs, v = .ref a ∧ SqT r.K G a vs ∧ vs.length ≤ sizeLine ∧ Reps r G ds vs
  | .set xs, v => ∃ a p, v = .ref a ∧ G a = some (SetO r.w a p) ∧ xs = (SetPure.pl p).map Int.ofNat
  | .exc n, v => ∃ a, v = .ref a ∧ G a = some (ExcO a (.ref (r.ad n)))
def Reps (r : Rc) (G : Hp) : List D → List V → Prop
  | [], vs => vs = []
  | d :: ds, vs => ∃ v t, vs = v :: t ∧ Rep r G d v ∧ Reps r G ds t
end
theorem Same.seqT {K : PySem.W.Frag} {H H' : Hp} {a : Addr} {xs : List V} (e : Same H H') (h : SqT K H a xs) : SqT K H' a xs := by
  rcases h with (h | ⟨o, h⟩) | h
  · exact .inl (.inl (e _ _ h))
  · exact .inl (.inr ⟨o, e _ _ h⟩)
  · exact .inr h
section
variable {r : Rc} {G G' H : Hp}
mutual
theorem Rep.mono (s : Same G G') : ∀ {d : D} {v : V}, Rep r G d v → Rep r G' d v
  | .non, _, h => by rw [Rep] at h ⊢; exact h
  | .bl _, _, h => by rw [Rep] at h ⊢; exact h
  | .int _, _, h => by rw [Rep] at h ⊢; exact h
  | .str _, _, h => by rw [Rep] at h ⊢; exact h
  | .lst ds, _, h => by
    rw [Rep] at h ⊢
    obtain ⟨a, vs, e, q, l, t⟩ := h
    exact ⟨a, vs, e, s.seq q, l, Reps.mono s t⟩
  | .tup ds, _, h => by
    rw [Rep] at h ⊢
    obtain ⟨a, vs, e, q, l, t⟩ := h
    exact ⟨a, vs, e, s.seqT q, l, Reps.mono s t⟩
  | .set _, _, h => by
    rw [Rep] at h ⊢
    obtain ⟨a, p, e, q, z⟩ := h
    exact ⟨a, p, e, s _ _ q, z⟩
  | .exc _, _, h => by
    rw [Rep] at h ⊢
    obtain ⟨a, e, q⟩ := h
    exact ⟨a, e, s _ _ q⟩
theorem Reps.mono (s : Same G G') : ∀ {ds : List D} {vs : List V}, Reps r G ds vs → Reps r G' ds vs
  | [], _, h => by rw [Reps] at h ⊢; exact h
  | d :: ds, _, h => by
    rw [Reps] at h ⊢
    obtain ⟨v, t, e, q, z⟩ := h
    exact ⟨v, t, e, Rep.mono s q, Reps.mono s z⟩
end
theorem Reps.nil : Reps r G [] [] := by rw [Reps]
theorem Reps.nil_inv {vs : List V} (h : Reps r G [] vs) : vs = [] := by rw [Reps] at h; exact h
theorem Reps.cons {d : D} {ds : List D} {v : V} {vs : List V} (h : Rep r G d v) (t : Reps r G ds vs) : Reps r G (d :: ds) (v :: vs) := by
  rw [Reps]; exact ⟨v, vs, rfl, h, t⟩
theorem Reps.cons_inv {d : D} {ds : List D} {vs : List V} (h : Reps r G (d :: ds) vs) : ∃ v t, vs = v :: t ∧ Rep r G d v ∧ Reps r G ds t := by
  rw [Reps] at h; exact h
theorem Reps.length : ∀ {ds : List D} {vs : List V}, Reps r G ds vs → ds.length = vs.length
  | [], _, h => by rw [h.nil_inv]; rfl
  | d :: ds, _, h => by
    obtain ⟨v, t, rfl, _, z⟩ := h.cons_inv
    simp [Reps.length z]
theorem Reps.get : ∀ {ds : List D} {vs : List V} {i : Nat} {d : D}, Reps r G ds vs → ds[i]? = some d → ∃ v, vs[i]? = some v ∧ Rep r G d v
  | [], _, _, _, _, e => by simp at e
  | d :: ds, _, 0, _, h, e => by
    obtain ⟨v, t, rfl, q, z⟩ := h.cons_inv
    simp at e
    subst e
    exact ⟨v, rfl, q⟩
  | d :: ds, _, i + 1, x, h, e => by
    obtain ⟨v, t, rfl, q, z⟩ := h.cons_inv
    obtain ⟨u, h1, h2⟩ := Reps.get (i := i) (d := x) z (by simpa using e)
    exact ⟨u, by simpa using h1, h2⟩
theorem Reps.get_of {ds : List D} {vs : List V} {i : Nat} {v : V} (h : Reps r G ds vs) (e : vs[i]? = some v) : ∃ d, ds[i]? = some d ∧ Rep r G d v := by
  have hl := h.length
  have hi : i < ds.length := by have := (List.getElem?_eq_some_iff.mp e).1; omega
  obtain ⟨u, h1, h2⟩ := h.get (i := i) (d := ds[i]) (by simp [hi])
  rw [e] at h1
  cases h1
  exact ⟨ds[i], by simp [hi], h2⟩
theorem Reps.append : ∀ {ds es : List D} {vs us : List V}, Reps r G ds vs → Reps r G es us → Reps r G (ds ++ es) (vs ++ us)
  | [], _, _, _, h, k => by rw [h.nil_inv]; exact k
  | d :: ds, _, _, _, h, k => by
    obtain ⟨v, t, rfl, q, z⟩ := h.cons_inv
    exact .cons q (Reps.append z k)
theorem Reps.snoc {ds : List D} {vs : List V} {d : D} {v : V} (h : Reps r G ds vs) (k : Rep r G d v) : Reps r G (ds ++ [d]) (vs ++ [v]) := h.append (.cons k .nil)
theorem Reps.take : ∀ {ds : List D} {vs : List V} (n : Nat), Reps r G ds vs → Reps r G (ds.take n) (vs.take n)
  | _, _, 0, _ => by simp; exact .nil
  | [], _, n + 1, h => by rw [h.nil_inv]; simp; exact .nil
  | d :: ds, _, n + 1, h => by
    obtain ⟨v, t, rfl, q, z⟩ := h.cons_inv
    exact .cons q (Reps.take n z)
theorem Reps.drop : ∀ {ds : List D} {vs : List V} (n : Nat), Reps r G ds vs → Reps r G (ds.drop n) (vs.drop n)
  | _, _, 0, h => h
  | [], _, n + 1, h => by rw [h.nil_inv]; simp; exact .nil
  | d :: ds, _, n + 1, h => by
    obtain ⟨v, t, rfl, q, z⟩ := h.cons_inv
    exact Reps.drop n z
theorem Reps.reverse : ∀ {ds : List D} {vs : List V}, Reps r G ds vs → Reps r G ds.reverse vs.reverse
  | [], _, h => by rw [h.nil_inv]; exact .nil
  | d :: ds, _, h => by
    obtain ⟨v, t, rfl, q, z⟩ := h.cons_inv
    simp only [List.reverse_cons]
    exact (Reps.reverse z).snoc q
theorem Reps.flat {ds : List D} {vs : List V} (h : Reps r G ds vs) : ∀ k : Nat, Reps r G (List.replicate k ds).flatten (List.replicate k vs).flatten
  | 0 => by simp; exact .nil
  | k + 1 => by
    rw [List.replicate_succ, List.replicate_succ, List.flatten_cons, List.flatten_cons]
    exact h.append (Reps.flat h k)
theorem Reps.ints : ∀ {ds : List D} {vs : List V} {ns : List Int}, Reps r G ds vs → DS.intsD ds = some ns → vs = ns.map V.int
  | [], _, _, h, e => by rw [h.nil_inv]; rw [DS.intsD] at e; cases e; rfl
  | .int i :: ds, _, ns, h, e => by
    obtain ⟨v, t, rfl, q, z⟩ := h.cons_inv
    rw [DS.intsD] at e
    cases e2 : DS.intsD ds with
    | none => rw [e2] at e; cases e
    | some ms =>
      rw [e2] at e
      cases e
      rw [Rep] at q
      rw [q, Reps.ints z e2]
      rfl
  | .non :: _, _, _, _, e => by simp [DS.intsD] at e
  | .bl _ :: _, _, _, _, e => by simp [DS.intsD] at e
  | .str _ :: _, _, _, _, e => by simp [DS.intsD] at e
  | .lst _ :: _, _, _, _, e => by simp [DS.intsD] at e
  | .tup _ :: _, _, _, _, e => by simp [DS.intsD] at e
  | .set _ :: _, _, _, _, e => by simp [DS.intsD] at e
  | .exc _ :: _, _, _, _, e => by simp [DS.intsD] at e
theorem Reps.ofInts : ∀ (ns : List Int), Reps r G (ns.map D.int) (ns.map V.int)
  | [] => .nil
  | n :: ns => .cons (by rw [Rep]) (Reps.ofInts ns)
theorem Reps.bools : ∀ {ds : List D} {vs : List V} {bs : List Bool}, Reps r G ds vs → DS.bools ds = some bs → vs = bs.map V.bl
  | [], _, _, h, e => by rw [h.nil_inv]; rw [DS.bools] at e; cases e; rfl
  | .bl i :: ds, _, ns, h, e => by
    obtain ⟨v, t, rfl, q, z⟩ := h.cons_inv
    rw [DS.bools] at e
    cases e2 : DS.bools ds with
    | none => rw [e2] at e; cases e
    | some ms =>
      rw [e2] at e
      cases e
      rw [Rep] at q
      rw [q, Reps.bools z e2]
      rfl
  | .non :: _, _, _, _, e => by simp [DS.bools] at e
  | .int _ :: _, _, _, _, e => by simp [DS.bools] at e
  | .str _ :: _, _, _, _, e => by simp [DS.bools] at e
  | .lst _ :: _, _, _, _, e => by simp [DS.bools] at e
  | .tup _ :: _, _, _, _, e => by simp [DS.bools] at e
  | .set _ :: _, _, _, _, e => by simp [DS.bools] at e
  | .exc _ :: _, _, _, _, e => by simp [DS.bools] at e
theorem Reps.atI {ds : List D} {vs : List V} {i : Int} {d : D} (h : Reps r G ds vs) (e : DS.atI ds i = some d) : ∃ v, L2.atI vs i = some v ∧ Rep r G d v := by
  unfold DS.atI at e
  unfold L2.atI
  rw [← h.length]
  rw [show DS.ixN ds.length i = L2.ixN ds.length i from rfl] at e
  cases q : L2.ixN ds.length i with
  | none => rw [q] at e; cases e
  | some j =>
    rw [q] at e
    exact h.get e
theorem Reps.cut {ds : List D} {vs : List V} (h : Reps r G ds vs) (lo hi : Option Int) : Reps r G (DS.cut ds lo hi) (cutV vs lo hi) := by
  unfold DS.cut cutV
  have e : ∀ n d o, DS.sIx n d o = HT.sIx n d o := fun n d o => by
    cases o with
    | none => rfl
    | some v =>
      show (if v < 0 then (max (v + (n : Int)) 0).toNat else (min v (n : Int)).toNat) = (if v < 0 then (v + (n : Int)).toNat else min v.toNat n)
      split <;> omega
  rw [e, e, ← h.length]
  exact (h.drop _).take _
structure Ext (G H G' H' : Hp) : Prop where
  same : Same H H'
  view : Same G G'
  sub : Same G' H'
  new : ∀ b o, G' b = some o → G b = some o ∨ H b = none
theorem Ext.refl (s : Same G H) : Ext G H G H := ⟨Same.refl _, Same.refl _, s, fun _ _ e => .inl e⟩
theorem Ext.trans {G1 H1 G2 H2 : Hp} (a : Ext G H G1 H1) (b : Ext G1 H1 G2 H2) : Ext G H G2 H2 :=
  ⟨a.same.trans b.same, a.view.trans b.view, b.sub, fun x o e => by
    rcases b.new x o e with q | q
    · exact a.new x o q
    · exact .inr (a.same.free q)⟩
theorem Same.upd {p : Addr} {o : HO} (h : H p = none) : Same H (upd H p o) := fun b u e => by
  rw [upd_ne (ne_of_none e h)]; exact e
theorem Ext.lay {p : Addr} {o : HO} (s : Same G H) (h : H p = none) : Ext G H (upd G p o) (upd H p o) := by
  have hg : G p = none := s.free h
  refine ⟨Same.upd h, Same.upd hg, fun b u e => ?_, fun b u e => ?_⟩
  · by_cases hb : b = p
    · subst hb; rw [upd_same] at e ⊢; exact e
    · rw [upd_ne hb] at e ⊢; exact s b u e
  · by_cases hb : b = p
    · subst hb; exact .inr h
    · rw [upd_ne hb] at e; exact .inl e
end
structure Db where
  r : Rc
  H₀ : Hp
  G₀ : Hp
structure SR (c : Db) (ρ : Rho) (σ : St) (H G : Hp) (hs : List (Addr × List V)) (ts : List D) (us : List V) : Prop where
  ext : Ext c.G₀ c.H₀ G H
  ln : ρ.length = σ.length
  sh : ∀ (i : Nat) (d : D), ρ[i]? = some (Sl.sh d) → ∃ v, σ[i]? = some (some v) ∧ Rep c.r G d v
  ow : ∀ (i : Nat) (ds : List D), ρ[i]? = some (Sl.ow ds) → ∃ (a : Addr) (vs : List V), σ[i]? = some (some (V.ref a)) ∧ H a = some (.lst vs) ∧ G a = none ∧ c.H₀ a = none ∧ vs.length ≤ sizeLine ∧ Reps c.r G ds vs ∧ ∀ p ∈ hs, p.1 ≠ a
  inj : ∀ (i j : Nat) (ds es : List D) (a : Addr), ρ[i]? = some (Sl.ow ds) → ρ[j]? = some (Sl.ow es) → σ[i]? = some (some (V.ref a)) → σ[j]? = some (some (V.ref a)) → i = j
  hd : ∀ p ∈ hs, H p.1 = some (.lst p.2) ∧ G p.1 = none ∧ c.H₀ p.1 = none
  nd : (hs.map (·.1)).Nodup
  tu : Reps c.r G ts us
section
variable {c : Db} {ρ ρ' : Rho} {σ : St} {H H' G G' : Hp} {hs : List (Addr × List V)} {ts : List D} {us : List V} {d : D} {v : V}
theorem SR.grow (s : SR c ρ σ H G hs ts us) (e : Ext G H G' H') : SR c ρ σ H' G' hs ts us := by
  have keep : ∀ a vs, H a = some (.lst vs) → G a = none → G' a = none := fun a vs h1 h2 => by
    cases q : G' a with
    | none => rfl
    | some o =>
      rcases e.new a o q with z | z
      · rw [h2] at z; cases z
      · rw [h1] at z; cases z
  refine ⟨s.ext.trans e, s.ln, fun i d h => ?_, fun i ds h => ?_, s.inj, fun p hp => ?_, s.nd, s.tu.mono e.view⟩
  · obtain ⟨v, h1, h2⟩ := s.sh i d h
    exact ⟨v, h1, h2.mono e.view⟩
  · obtain ⟨a, vs, h1, h2, h3, h4, h5, h6, h7⟩ := s.ow i ds h
    exact ⟨a, vs, h1, e.same _ _ h2, keep a vs h2 h3, h4, h5, h6.mono e.view, h7⟩
  · obtain ⟨h1, h2, h3⟩ := s.hd p hp
    exact ⟨e.same _ _ h1, keep _ _ h1 h2, h3⟩
theorem SR.sub (s : SR c ρ σ H G hs ts us) : Same G H := s.ext.sub
theorem SR.push (s : SR c ρ σ H G hs ts us) (h : Rep c.r G d v) : SR c ρ σ H G hs (d :: ts) (v :: us) := ⟨s.ext, s.ln, s.sh, s.ow, s.inj, s.hd, s.nd, .cons h s.tu⟩
theorem SR.pop (s : SR c ρ σ H G hs (d :: ts) us) : ∃ v t, us = v :: t ∧ Rep c.r G d v ∧ SR c ρ σ H G hs ts t := by
  obtain ⟨v, t, e, q, z⟩ := s.tu.cons_inv
  exact ⟨v, t, e, q, s.ext, s.ln, s.sh, s.ow, s.inj, s.hd, s.nd, z⟩
theorem SR.pop1 {v : V} {us : List V} (s : SR c ρ σ H G hs (d :: ts) (v :: us)) : Rep c.r G d v ∧ SR c ρ σ H G hs ts us := by
  obtain ⟨v', t, e, q, z⟩ := s.pop
  cases e
  exact ⟨q, z⟩
theorem SR.pushs {ds : List D} {vs : List V} (s : SR c ρ σ H G hs ts us) (h : Reps c.r G ds vs) : SR c ρ σ H G hs (ds ++ ts) (vs ++ us) := ⟨s.ext, s.ln, s.sh, s.ow, s.inj, s.hd, s.nd, h.append s.tu⟩
theorem get_set {α : Type} {l : List α} {i j : Nat} {x y : α} (h : (l.set i x)[j]? = some y) : (j = i ∧ y = x) ∨ (j ≠ i ∧ l[j]? = some y) := by
  by_cases e : j = i
  · subst e
    rw [List.getElem?_set] at h
    simp at h
    exact .inl ⟨rfl, h.2.symm⟩
  · rw [List.getElem?_set_ne (Ne.symm e)] at h
    exact .inr ⟨e, h⟩
theorem SR.share (s : SR c ρ σ H G hs ts us) {i : Nat} {ds : List D} (h : ρ[i]? = some (.ow ds)) : ∃ a vs, σ[i]? = some (some (.ref a)) ∧ H a = some (.lst vs) ∧
    SR c (ρ.set i (.sh (.lst ds))) σ H (upd G a (.lst vs)) hs ts us ∧ Rep c.r (upd G a (.lst vs)) (.lst ds) (.ref a) := by
  obtain ⟨a, vs, h1, h2, h3, h4, h5, h6, h7⟩ := s.ow i ds h
  have mono : Same G (upd G a (.lst vs)) := Same.upd h3
  have rep : Rep c.r (upd G a (.lst vs)) (.lst ds) (.ref a) := by
    rw [Rep]; exact ⟨a, vs, rfl, SqL.of upd_same, h5, h6.mono mono⟩
  refine ⟨a, vs, h1, h2, ⟨⟨s.ext.same, s.ext.view.trans mono, fun b o e => ?_, fun b o e => ?_⟩, by simpa using s.ln, fun j d e => ?_, fun j es e => ?_, fun j k es fs b e1 e2 e3 e4 => ?_, fun p hp => ?_, s.nd, s.tu.mono mono⟩, rep⟩
  · by_cases hb : b = a
    · subst hb; rw [upd_same] at e; cases e; exact h2
    · rw [upd_ne hb] at e; exact s.ext.sub b o e
  · by_cases hb : b = a
    · subst hb; exact .inr h4
    · rw [upd_ne hb] at e; exact s.ext.new b o e
  · rcases get_set e with ⟨rfl, z⟩ | ⟨_, z⟩
    · cases z; exact ⟨.ref a, h1, rep⟩
    · obtain ⟨v, q1, q2⟩ := s.sh j d z
      exact ⟨v, q1, q2.mono mono⟩
  · rcases get_set e with ⟨_, z⟩ | ⟨ne, z⟩
    · cases z
    · obtain ⟨b, ws, q1, q2, q3, q4, q5, q6, q7⟩ := s.ow j es z
      have hb : b ≠ a := fun q => ne (s.inj j i es ds a z h (by rw [← q]; exact q1) h1)
      exact ⟨b, ws, q1, q2, by rw [upd_ne hb]; exact q3, q4, q5, q6.mono mono, q7⟩
  · rcases get_set e1 with ⟨_, z⟩ | ⟨_, z1⟩
    · cases z
    · rcases get_set e2 with ⟨_, z⟩ | ⟨_, z2⟩
      · cases z
      · exact s.inj j k es fs b z1 z2 e3 e4
  · obtain ⟨q1, q2, q3⟩ := s.hd p hp
    exact ⟨q1, by rw [upd_ne (h7 p hp)]; exact q2, q3⟩
theorem SR.bind (s : SR c ρ σ H G hs ts us) (h : Rep c.r G d v) (i : Nat) : SR c (ρ.set i (.sh d)) (σ.set i (some v)) H G hs ts us := by
  by_cases hi : i < σ.length
  case neg =>
    rw [List.set_eq_of_length_le (by have := s.ln; omega), List.set_eq_of_length_le (by omega)]
    exact s
  refine ⟨s.ext, by simpa using s.ln, fun j e q => ?_, fun j es q => ?_, fun j k es fs b e1 e2 e3 e4 => ?_, s.hd, s.nd, s.tu⟩
  · rcases get_set q with ⟨rfl, z⟩ | ⟨ne, z⟩
    · cases z; exact ⟨v, by simp [hi], h⟩
    · obtain ⟨u, q1, q2⟩ := s.sh j e z
      exact ⟨u, by rw [List.getElem?_set_ne (Ne.symm ne)]; exact q1, q2⟩
  · rcases get_set q with ⟨_, z⟩ | ⟨ne, z⟩
    · cases z
    · obtain ⟨a, vs, q1, q2⟩ := s.ow j es z
      exact ⟨a, vs, by rw [List.getElem?_set_ne (Ne.symm ne)]; exact q1, q2⟩
  · rcases get_set e1 with ⟨_, z⟩ | ⟨n1, z1⟩
    · cases z
    · rcases get_set e2 with ⟨_, z⟩ | ⟨n2, z2⟩
      · cases z
      · rw [List.getElem?_set_ne (Ne.symm n1)] at e3
        rw [List.getElem?_set_ne (Ne.symm n2)] at e4
        exact s.inj j k es fs b z1 z2 e3 e4
theorem SR.unbind (s : SR c ρ σ H G hs ts us) (i : Nat) : SR c (ρ.set i .un) (σ.set i none) H G hs ts us := by
  refine ⟨s.ext, by simpa using s.ln, fun j e q => ?_, fun j es q => ?_, fun j k es fs b e1 e2 e3 e4 => ?_, s.hd, s.nd, s.tu⟩
  · rcases get_set q with ⟨_, z⟩ | ⟨ne, z⟩
    · cases z
    · obtain ⟨u, q1, q2⟩ := s.sh j e z
      exact ⟨u, by rw [List.getElem?_set_ne (Ne.symm ne)]; exact q1, q2⟩
  · rcases get_set q with ⟨_, z⟩ | ⟨ne, z⟩
    · cases z
    · obtain ⟨a, vs, q1, q2⟩ := s.ow j es z
      exact ⟨a, vs, by rw [List.getElem?_set_ne (Ne.symm ne)]; exact q1, q2⟩
  · rcases get_set e1 with ⟨_, z⟩ | ⟨n1, z1⟩
    · cases z
    · rcases get_set e2 with ⟨_, z⟩ | ⟨n2, z2⟩
      · cases z
      · rw [List.getElem?_set_ne (Ne.symm n1)] at e3
        rw [List.getElem?_set_ne (Ne.symm n2)] at e4
        exact s.inj j k es fs b z1 z2 e3 e4
theorem SR.own (s : SR c ρ σ H G hs ts us) {ds : List D} {vs : List V} (h : Reps c.r G ds vs) {p : Addr} (hp : H p = none) (hz : vs.length ≤ sizeLine) (i : Nat) :
    SR c (ρ.set i (.ow ds)) (σ.set i (some (.ref p))) (upd H p (.lst vs)) G hs ts us := by
  have hg : G p = none := s.sub.free hp
  have h0 : c.H₀ p = none := s.ext.same.free hp
  have mono : Same H (upd H p (.lst vs)) := Same.upd hp
  by_cases hi : i < σ.length
  case neg =>
    rw [List.set_eq_of_length_le (by have := s.ln; omega), List.set_eq_of_length_le (by omega)]
    refine ⟨⟨s.ext.same.trans mono, s.ext.view, s.ext.sub.trans mono, s.ext.new⟩, s.ln, s.sh, fun j es q => ?_, s.inj, fun q hq => ?_, s.nd, s.tu⟩
    · obtain ⟨a, ws, q1, q2, q3⟩ := s.ow j es q
      exact ⟨a, ws, q1, mono _ _ q2, q3⟩
    · obtain ⟨q1, q2, q3⟩ := s.hd q hq
      exact ⟨mono _ _ q1, q2, q3⟩
  refine ⟨⟨s.ext.same.trans mono, s.ext.view, s.ext.sub.trans mono, s.ext.new⟩, by simpa using s.ln, fun j e q => ?_, fun j es q => ?_, fun j k es fs b e1 e2 e3 e4 => ?_, fun q hq => ?_, s.nd, s.tu⟩
  · rcases get_set q with ⟨_, z⟩ | ⟨ne, z⟩
    · cases z
    · obtain ⟨u, q1, q2⟩ := s.sh j e z
      exact ⟨u, by rw [List.getElem?_set_ne (Ne.symm ne)]; exact q1, q2⟩
  · rcases get_set q with ⟨rfl, z⟩ | ⟨ne, z⟩
    · cases z
      refine ⟨p, vs, by simp [hi], upd_same, hg, h0, hz, h, fun q hq e => ?_⟩
      rw [← e, (s.hd q hq).1] at hp
      cases hp
    · obtain ⟨a, ws, q1, q2, q3⟩ := s.ow j es z
      exact ⟨a, ws, by rw [List.getElem?_set_ne (Ne.symm ne)]; exact q1, mono _ _ q2, q3⟩
  · rcases get_set e1 with ⟨j1, z1⟩ | ⟨n1, z1⟩
    · rcases get_set e2 with ⟨k2, z2⟩ | ⟨n2, z2⟩
      · exact j1.trans k2.symm
      · rw [j1] at e3
        rw [List.getElem?_set_ne (Ne.symm n2)] at e4
        simp [hi] at e3
        obtain ⟨a, ws, q1, q2, _⟩ := s.ow k fs z2
        rw [e4] at q1
        cases q1
        rw [← e3, hp] at q2
        cases q2
    · rcases get_set e2 with ⟨k2, z2⟩ | ⟨n2, z2⟩
      · rw [k2] at e4
        rw [List.getElem?_set_ne (Ne.symm n1)] at e3
        simp [hi] at e4
        obtain ⟨a, ws, q1, q2, _⟩ := s.ow j es z1
        rw [e3] at q1
        cases q1
        rw [← e4, hp] at q2
        cases q2
      · rw [List.getElem?_set_ne (Ne.symm n1)] at e3
        rw [List.getElem?_set_ne (Ne.symm n2)] at e4
        exact s.inj j k es fs b z1 z2 e3 e4
  · obtain ⟨q1, q2, q3⟩ := s.hd q hq
    exact ⟨mono _ _ q1, q2, q3⟩
theorem SR.more (s : SR c ρ σ H G hs ts us) (h : Rep c.r G d v) {i : Nat} {ds : List D} (ho : ρ[i]? = some (.ow ds)) (hz : ds.length < sizeLine) :
    ∃ a vs, σ[i]? = some (some (.ref a)) ∧ H a = some (.lst vs) ∧ vs.length < sizeLine ∧ SR c (ρ.set i (.ow (ds ++ [d]))) σ (upd H a (.lst (vs ++ [v]))) G hs ts us := by
  obtain ⟨a, vs, h1, h2, h3, h4, h5, h6, h7⟩ := s.ow i ds ho
  have hl := h6.length
  have oth : ∀ b o, b ≠ a → H b = some o → upd H a (.lst (vs ++ [v])) b = some o := fun b o n e => by rw [upd_ne n]; exact e
  refine ⟨a, vs, h1, h2, by omega, ⟨⟨fun b o e => oth b o (ne_of_none e h4) (s.ext.same b o e), s.ext.view, fun b o e => oth b o (ne_of_none e h3) (s.ext.sub b o e), s.ext.new⟩, by simpa using s.ln, fun j e q => ?_, fun j es q => ?_, fun j k es fs b e1 e2 e3 e4 => ?_, fun q hq => ?_, s.nd, s.tu⟩⟩
  · rcases get_set q with ⟨_, z⟩ | ⟨ne, z⟩
    · cases z
    · exact s.sh j e z
  · rcases get_set q with ⟨rfl, z⟩ | ⟨ne, z⟩
    · cases z
      exact ⟨a, vs ++ [v], h1, upd_same, h3, h4, by simp; omega, h6.snoc h, h7⟩
    · obtain ⟨b, ws, q1, q2, q3⟩ := s.ow j es z
      have hb : b ≠ a := fun q => ne (s.inj j i es ds a z ho (by rw [← q]; exact q1) h1)
      exact ⟨b, ws, q1, oth b _ hb q2, q3⟩
  · have w1 : ∃ x, ρ[j]? = some (.ow x) := by
      rcases get_set e1 with ⟨j1, _⟩ | ⟨_, z1⟩
      · exact ⟨ds, by rw [j1]; exact ho⟩
      · exact ⟨es, z1⟩
    have w2 : ∃ x, ρ[k]? = some (.ow x) := by
      rcases get_set e2 with ⟨j1, _⟩ | ⟨_, z1⟩
      · exact ⟨ds, by rw [j1]; exact ho⟩
      · exact ⟨fs, z1⟩
    obtain ⟨x1, w1⟩ := w1
    obtain ⟨x2, w2⟩ := w2
    exact s.inj j k x1 x2 b w1 w2 e3 e4
  · obtain ⟨q1, q2, q3⟩ := s.hd q hq
    exact ⟨oth _ _ (h7 q hq) q1, q2, q3⟩
theorem SR.peek (s : SR c ρ σ H G hs ts us) {i : Nat} {xs : List D} {r : R (List D)} (h : DS.pk i ρ = some (ρ', r)) : ρ' = ρ ∧ ∃ xs, r = .ok xs ∧ ∃ a vs, σ[i]? = some (some (.ref a)) ∧ SqL c.r.K H a vs ∧ vs.length ≤ sizeLine ∧ Reps c.r G xs vs := by
  unfold DS.pk at h
  split at h
  · rename_i xs e
    cases h
    obtain ⟨v, q1, q2⟩ := s.sh i _ e
    rw [Rep] at q2
    obtain ⟨a, vs, rfl, z1, z2, z3⟩ := q2
    exact ⟨rfl, xs, rfl, a, vs, q1, s.sub.seq z1, z2, z3⟩
  · rename_i xs e
    cases h
    obtain ⟨a, vs, q1, q2, _, _, q5, q6, _⟩ := s.ow i _ e
    exact ⟨rfl, xs, rfl, a, vs, q1, SqL.of q2, q5, q6⟩
  · cases h
end
end L2
namespace L2
open PySem PySem.Spec PyProof.Rows
open DS (D Sl Rho R M FS O Tg)
def FinM {α β : Type} (c : Db) (Ex : St → XK) (rep : Hp → α → β → Prop) (σ : St) (hs : List (Addr × List V)) (ts : List D) (us : List V) (ρ' : Rho) (r : R α) (Q : β → Hp → Prop) : Prop := match r with
  | .ok a => ∀ v H' G', SR c ρ' σ H' G' hs ts us → rep G' a v → Q v H'
  | .er n => ∀ H' G', SR c ρ' σ H' G' hs ts us → Ex σ (.ref (c.r.ad n)) none H'
def tM {α β : Type} (c : Db) (Ex : St → XK) (rep : Hp → α → β → Prop) (f : M α) (σ : St) (H : Hp) (Q : β → Hp → Prop) : Prop :=
  ∃ ρ G hs ts us ρ' r, SR c ρ σ H G hs ts us ∧ f ρ = some (ρ', r) ∧ FinM c Ex rep σ hs ts us ρ' r Q
abbrev tE (c : Db) (Ex : St → XK) (f : M D) : TE := tM c Ex (Rep c.r) f
abbrev tA (c : Db) (Ex : St → XK) (f : M (List D)) : TA := tM c Ex (Reps c.r) f
abbrev tT (c : Db) (Ex : St → XK) (f : M Bool) : TT := tM c Ex (fun _ a b => a = b) f
abbrev tP (c : Db) (Ex : St → XK) (f : M (Option Int)) : TO := tM c Ex (fun _ a b => a = b) f
section
variable {X : Cx} {e : Expr}
theorem PE.imp {t t' : TE} (h : PE X e t) (i : ∀ σ H Q, t' σ H Q → t σ H Q) : PE X e t' := fun pins s σ H Q I q => h pins s σ H Q I (i σ H Q q)
theorem PT.imp {t t' : TT} (h : PT X e t) (i : ∀ σ H Q, t' σ H Q → t σ H Q) : PT X e t' := fun pins s σ H Q I q => h pins s σ H Q I (i σ H Q q)
theorem PW.imp {t t' : TT} (h : PW X e t) (i : ∀ σ H Q, t' σ H Q → t σ H Q) : PW X e t' := fun wh pins s σ H Q I q => h wh pins s σ H Q I (i σ H Q q)
theorem PA.imp {es : List Expr} {t t' : TA} (h : PA X es t) (i : ∀ σ H Q, t' σ H Q → t σ H Q) : PA X es t' := fun pos pins s σ H Q I q => h pos pins s σ H Q I (i σ H Q q)
theorem PO.imp {o : Option Expr} {t t' : TO} (h : PO X o t) (i : ∀ σ H Q, t' σ H Q → t σ H Q) : PO X o t' := fun pins s σ H Q I q => h pins s σ H Q I (i σ H Q q)
theorem PS.imp {st : Stmt} {t t' : TS} (h : PS X st t) (i : ∀ D σ H, t' D σ H → t D σ H) : PS X st t' := fun pins s σ H D I q => h pins s σ H D I (i D σ H q)
theorem PSs.imp {st : List Stmt} {t t' : TS} (h : PSs X st t) (i : ∀ D σ H, t' D σ H → t D σ H) : PSs X st t' := fun pins s σ H D I q => h pins s σ H D I (i D σ H q)
theorem PI.imp {tg iter : Expr} {t t' : TI} (h : PI X tg iter t) (i : ∀ σ H Q, t' σ H Q → t σ H Q) : PI X tg iter t' := fun pins s σ H Q I q => h pins s σ H Q I (i σ H Q q)
theorem PTs.imp {ifs : List Expr} {t t' : TT} (h : PTs X ifs t) (i : ∀ σ H Q, t' σ H Q → t σ H Q) : PTs X ifs t' := fun pins s σ H Q I q => h pins s σ H Q I (i σ H Q q)
end
section
variable {c : Db} {Ex : St → XK} {ρ ρ' : Rho} {σ : St} {H G : Hp} {hs : List (Addr × List V)} {ts : List D} {us : List V}
theorem FinM.push {α β : Type} {rep : Hp → α → β → Prop} {r : R α} {Q : β → Hp → Prop} {d : D} {v : V} (h : FinM c Ex rep σ hs ts us ρ' r Q) : FinM c Ex rep σ hs (d :: ts) (v :: us) ρ' r Q := by
  cases r with
  | ok a => exact fun u H' G' s q => h u H' G' s.pop1.2 q
  | er n => exact fun H' G' s => h H' G' s.pop1.2
theorem tM_bnd {α β γ δ : Type} {rep : Hp → α → β → Prop} {rep' : Hp → γ → δ → Prop} {m : M α} {f : α → M γ} {r : R γ} {Q' : δ → Hp → Prop} {Q : β → Hp → Prop} (s : SR c ρ σ H G hs ts us) (h : DS.bnd m f ρ = some (ρ', r)) (hf : FinM c Ex rep' σ hs ts us ρ' r Q')
    (ok : ∀ ρ1 a v H1 G1, f a ρ1 = some (ρ', r) → SR c ρ1 σ H1 G1 hs ts us → rep G1 a v → Q v H1) : tM c Ex rep m σ H Q := by
  unfold DS.bnd at h
  cases q : m ρ with
  | none => rw [q] at h; cases h
  | some p =>
    obtain ⟨ρ1, x⟩ := p
    rw [q] at h
    cases x with
    | er n => cases h; exact ⟨ρ, G, hs, ts, us, _, .er n, s, q, hf⟩
    | ok a => exact ⟨ρ, G, hs, ts, us, ρ1, .ok a, s, q, fun v H1 G1 s1 r1 => ok ρ1 a v H1 G1 h s1 r1⟩
theorem lft_inv {α : Type} {o : Option α} {r : R α} (h : DS.lft o ρ = some (ρ', r)) : ∃ a, o = some a ∧ ρ' = ρ ∧ r = .ok a := by
  unfold DS.lft at h
  cases o with
  | none => cases h
  | some a => cases h; exact ⟨a, rfl, rfl, rfl⟩
theorem ret_inv {α : Type} {a : α} {r : R α} (h : DS.ret a ρ = some (ρ', r)) : ρ' = ρ ∧ r = .ok a := by
  unfold DS.ret at h; cases h; exact ⟨rfl, rfl⟩
end
def rD (r : Rc) (g : D → D → Option D) : R2 := fun x y H Q => ∃ G dx dy d, Same G H ∧ Rep r G dx x ∧ Rep r G dy y ∧ g dx dy = some d ∧ ∀ v H' G', Ext G H G' H' → Rep r G' d v → Q v H'
def rD1 (r : Rc) (g : D → Option D) : V → Hp → VK → Prop := fun x H Q => ∃ G dx d, Same G H ∧ Rep r G dx x ∧ g dx = some d ∧ ∀ v H' G', Ext G H G' H' → Rep r G' d v → Q v H'
def rDL (r : Rc) (g : List D → Option D) : List V → Hp → VK → Prop := fun xs H Q => ∃ G ds d, Same G H ∧ Reps r G ds xs ∧ g ds = some d ∧ ∀ v H' G', Ext G H G' H' → Rep r G' d v → Q v H'
section
variable {c : Db} {Ex : St → XK} {σ : St} {H : Hp} {Q : VK}
theorem imp_op2 {g : D → D → Option D} {fa fb : M D} (h : tE c Ex (DS.op2 g fa fb) σ H Q) : tOp (rD c.r g) (tE c Ex fa) (tE c Ex fb) σ H Q := by
  obtain ⟨ρ, G, hs, ts, us, ρ', r, s, e, hf⟩ := h
  refine tM_bnd s e hf fun ρ1 x v H1 G1 e1 s1 r1 => ?_
  refine tM_bnd (s1.push r1) e1 hf.push fun ρ2 y u H2 G2 e2 s2 r2 => ?_
  obtain ⟨d, e3, rfl, rfl⟩ := lft_inv e2
  obtain ⟨r1', s2'⟩ := s2.pop1
  exact ⟨G2, x, y, d, s2'.sub, r1', r2, e3, fun v' H' G' ex rp => hf v' H' G' (s2'.grow ex) rp⟩
theorem imp_op1 {g : D → Option D} {fa : M D} (h : tE c Ex (DS.op1 g fa) σ H Q) : tE c Ex fa σ H fun x H1 => rD1 c.r g x H1 Q := by
  obtain ⟨ρ, G, hs, ts, us, ρ', r, s, e, hf⟩ := h
  refine tM_bnd s e hf fun ρ1 x v H1 G1 e1 s1 r1 => ?_
  obtain ⟨d, e3, rfl, rfl⟩ := lft_inv e1
  exact ⟨G1, x, d, s1.sub, r1, e3, fun v' H' G' ex rp => hf v' H' G' (s1.grow ex) rp⟩
theorem imp_blt {g : List D → Option D} {fa : M (List D)} (h : tE c Ex (DS.blt g fa) σ H Q) : tA c Ex fa σ H fun x H1 => rDL c.r g x H1 Q := by
  obtain ⟨ρ, G, hs, ts, us, ρ', r, s, e, hf⟩ := h
  refine tM_bnd s e hf fun ρ1 x v H1 G1 e1 s1 r1 => ?_
  obtain ⟨d, e3, rfl, rfl⟩ := lft_inv e1
  exact ⟨G1, x, d, s1.sub, r1, e3, fun v' H' G' ex rp => hf v' H' G' (s1.grow ex) rp⟩
theorem imp_tsB {fa : M D} {Q : Bool → Hp → Prop} (h : tT c Ex (DS.tsB fa) σ H Q) : tE c Ex fa σ H fun x H1 => ∃ k, x = .bl k ∧ Q k H1 := by
  obtain ⟨ρ, G, hs, ts, us, ρ', r, s, e, hf⟩ := h
  refine tM_bnd s e hf fun ρ1 x v H1 G1 e1 s1 r1 => ?_
  obtain ⟨d, e3, rfl, rfl⟩ := lft_inv e1
  cases x with
  | bl b =>
    rw [DS.asB] at e3
    cases e3
    rw [Rep] at r1
    exact ⟨_, r1, hf _ H1 G1 s1 rfl⟩
  | _ => simp [DS.asB] at e3
theorem truV_of {r : Rc} {G : Hp} {d : D} {v : V} {b : Bool} (s : Same G H) (h : Rep r G d v) (e : DS.truth d = some b) : TruV r.K v H b := by
  cases d with
  | non => rw [Rep] at h; subst h; rw [DS.truth] at e; cases e; exact rfl
  | bl x => rw [Rep] at h; subst h; rw [DS.truth] at e; cases e; exact rfl
  | int x => rw [Rep] at h; subst h; rw [DS.truth] at e; cases e; exact rfl
  | str x =>
    rw [Rep] at h; subst h; rw [DS.truth] at e
    split at e
    · rename_i hz; cases e; exact ⟨hz, rfl⟩
    · cases e
  | lst xs =>
    rw [Rep] at h
    obtain ⟨a, vs, rfl, q, _, t⟩ := h
    rw [DS.truth] at e; cases e
    refine .inl ⟨vs, s.seq q, ?_⟩
    have := t.length
    cases xs <;> cases vs <;> first | rfl | simp at this
  | tup xs =>
    rw [Rep] at h
    obtain ⟨a, vs, rfl, q, _, t⟩ := h
    rw [DS.truth] at e; cases e
    refine .inr (.inl ⟨vs, s.seqT q, ?_⟩)
    have := t.length
    cases xs <;> cases vs <;> first | rfl | simp at this
  | set _ => simp [DS.truth] at e
  | exc _ => simp [DS.truth] at e
theorem imp_tst {fa : M D} {Q : Bool → Hp → Prop} (h : tT c Ex (DS.tst fa) σ H Q) : tE c Ex fa σ H fun x H1 => ∃ k, TruV c.r.K x H1 k ∧ Q k H1 := by
  obtain ⟨ρ, G, hs, ts, us, ρ', r, s, e, hf⟩ := h
  refine tM_bnd s e hf fun ρ1 x v H1 G1 e1 s1 r1 => ?_
  obtain ⟨b, e3, rfl, rfl⟩ := lft_inv e1
  exact ⟨b, truV_of s1.sub r1 e3, hf b H1 G1 s1 rfl⟩
end
section
variable {X : Cx} {c : Db} {Ex : St → XK} {a b e : Expr} {rest es : List Expr} {pos : Pos} {fa fb fc : M D} {fx fy : M Bool} {fs : M (List D)}
theorem d_var (i : Nat) {x : Str} (hN : X.N[i]? = some x := by rfl) (hv : Vis X.env.scope x := by first | exact Or.inl rfl | exact Or.inr (Or.inl rfl) | exact Or.inr (Or.inr rfl)) (hd : (x == ("__debug__" : Str)) = false := by decide)
    (hcd : (x == ("__classdict__" : Str)) = false := by decide) : PE X (.Name x pos) (tE c Ex (DS.vr i)) := (pe_var hN hv hd hcd).imp fun σ H Q h => by
  obtain ⟨ρ, G, hs, ts, us, ρ', r, s, e, hf⟩ := h
  unfold DS.vr at e
  split at e
  · rename_i d q
    cases e
    obtain ⟨v, h1, h2⟩ := s.sh i d q
    exact ⟨v, h1, hf v H G s h2⟩
  · rename_i xs q
    cases e
    obtain ⟨a, vs, h1, h2, h3, h4⟩ := s.share q
    exact ⟨.ref a, h1, hf _ H _ h3 h4⟩
  · cases e
theorem d_cst {v : V} {d : D} (h : PE X e (tC v)) (hv : ∀ G, Rep c.r G d v) : PE X e (tE c Ex (DS.cst d)) := h.imp fun σ H Q h => by
  obtain ⟨ρ, G, hs, ts, us, ρ', r, s, e, hf⟩ := h
  obtain ⟨rfl, rfl⟩ := ret_inv e
  exact hf v H G s (hv G)
theorem d_int {i : Int} {j} : PE X (.Constant (.int i) j pos) (tE c Ex (DS.cst (.int i))) := d_cst pe_int fun G => by rw [Rep]
theorem d_bl {i : Bool} {j} : PE X (.Constant (.bool i) j pos) (tE c Ex (DS.cst (.bl i))) := d_cst pe_bl fun G => by rw [Rep]
theorem d_non {j} : PE X (.Constant .none j pos) (tE c Ex (DS.cst .non)) := d_cst pe_non fun G => by rw [Rep]
theorem d_str {x : Str} {j} : PE X (.Constant (.str x) j pos) (tE c Ex (DS.cst (.str x))) := d_cst pe_str fun G => by rw [Rep]
theorem d_glob {x : Str} {i : Int} {t : Tok} (hm : X.mg x = some (.int i t)) (hg : Gl X x := by rfl) (hd : (x == ("__debug__" : Str)) = false := by decide) : PE X (.Name x pos) (tE c Ex (DS.cst (.int i))) := d_cst (v := .int i) (pe_glob hg hm ⟨t, rfl⟩ hd) fun G => by rw [Rep]
theorem d_op {op : Operator} {g : D → D → Option D} (ho : OpR X (binaryOp op) (rD c.r g)) (ha : PE X a (tE c Ex fa)) (hb : PE X b (tE c Ex fb)) : PE X (.BinOp a op b pos) (tE c Ex (DS.op2 g fa fb)) := (pe_op ho ha hb).imp fun _ _ _ h => imp_op2 h
theorem d_un {op : UnaryOp} {g : D → Option D} (ho : UnR X (unaryOp op) (rD1 c.r g)) (ha : PE X a (tE c Ex fa)) : PE X (.UnaryOp op a pos) (tE c Ex (DS.op1 g fa)) := (pe_un ho ha).imp fun _ _ _ h => imp_op1 h
theorem d_cmp {op : CmpOp} {g : D → D → Option D} (ho : OpR X (compareOp op) (rD c.r g)) (ha : PE X a (tE c Ex fa)) (hb : PE X b (tE c Ex fb)) (hm : behindInMarks op b = false) : PE X (.Compare a [op] [b] pos) (tE c Ex (DS.op2 g fa fb)) := (pe_cmpR ho ha hb hm).imp fun _ _ _ h => imp_op2 h
theorem d_tcmp {op : CmpOp} {g : D → D → Option D} (ho : OpR X (compareOp op) (rD c.r g)) (ha : PE X a (tE c Ex fa)) (hb : PE X b (tE c Ex fb)) (hm : behindInMarks op b = false) : PT X (.Compare a [op] [b] pos) (tT c Ex (DS.tsB (DS.op2 g fa fb))) := (pt_cmpR ho ha hb hm).imp fun _ _ _ h => imp_op2 (imp_tsB h)
theorem d_ix {g : D → D → Option D} (ho : IxR X (rD c.r g)) (ha : PE X a (tE c Ex fa)) (hb : PE X b (tE c Ex fb)) (hs : PlainIx b) : PE X (.Subscript a b pos) (tE c Ex (DS.op2 g fa fb)) := (pe_ix ho ha hb hs).imp fun _ _ _ h => imp_op2 h
theorem d_tst (ha : PE X a (tE c Ex fa)) (he : ∀ whole, isTrue a X.env whole = (do let v ← whole; standAt a.pos; holding [v] (truthy v))) (hK : X.K = c.r.K := by rfl) : PT X a (tT c Ex (DS.tst fa)) := (pt_truth ha he).imp fun _ _ _ h => by rw [hK]; exact imp_tst h
theorem d_chn {op op' : CmpOp} {g g' : D → D → Option D} (ho : OpR X (compareOp op) (rD c.r g)) (ho' : OpR X (compareOp op') (rD c.r g')) (ha : PE X a (tE c Ex fa)) (hb : PE X b (tE c Ex fb)) {d : Expr} (hc : PE X d (tE c Ex fc))
    (hm : lastMarks [op, op'] [b, d] = false := by with_unfolding_all rfl) : PE X (.Compare a [op, op'] [b, d] pos) (tE c Ex (DS.chn g g' fa fb fc)) := (pe_chain ho ho' ha hb hc hm).imp fun σ H Q h => by
  obtain ⟨ρ, G, hs, ts, us, ρ', r, s, e, hf⟩ := h
  refine tM_bnd s e hf fun ρ1 x v H1 G1 e1 s1 r1 => ?_
  refine tM_bnd (s1.push r1) e1 hf.push fun ρ2 y u H2 G2 e2 s2 r2 => ?_
  obtain ⟨r1', s2'⟩ := s2.pop1
  unfold DS.bnd at e2
  cases q : (g x y).bind DS.asB with
  | none => rw [q] at e2; cases e2
  | some k =>
    rw [q] at e2
    obtain ⟨z, z1, z2⟩ := Option.bind_eq_some_iff.mp q
    refine ⟨G2, x, y, z, s2'.sub, r1', r2, z1, fun w H3 G3 ex rw' => ?_⟩
    cases z with
    | bl k' =>
      rw [DS.asB] at z2
      cases z2
      rw [Rep] at rw'
      refine ⟨k, rw', ?_⟩
      have s3 := s2'.grow ex
      have ry := r2.mono ex.view
      cases k with
      | false =>
        rw [if_neg (by simp)]
        have e3 : DS.ret (D.bl false) ρ2 = some (ρ', r) := e2
        obtain ⟨rfl, rfl⟩ := ret_inv e3
        exact hf (.bl false) H3 G3 s3 (by rw [Rep])
      | true =>
        rw [if_pos rfl]
        have e3 : DS.bnd fc (fun z => DS.lft (g' y z)) ρ2 = some (ρ', r) := e2
        refine tM_bnd (s3.push ry) e3 hf.push fun ρ4 z u4 H4 G4 e4 s4 r4 => ?_
        obtain ⟨d, e5, rfl, rfl⟩ := lft_inv e4
        obtain ⟨ry', s4'⟩ := s4.pop1
        exact ⟨G4, y, z, d, s4'.sub, ry', r4, e5, fun v' H' G' ex rp => hf v' H' G' (s4'.grow ex) rp⟩
    | _ => simp [DS.asB] at z2
theorem d_tchn {op op' : CmpOp} {g g' : D → D → Option D} (ho : OpR X (compareOp op) (rD c.r g)) (ho' : OpR X (compareOp op') (rD c.r g')) (ha : PE X a (tE c Ex fa)) (hb : PE X b (tE c Ex fb)) {d : Expr} (hc : PE X d (tE c Ex fc))
    (hm : lastMarks [op, op'] [b, d] = false := by with_unfolding_all rfl) : PT X (.Compare a [op, op'] [b, d] pos) (tT c Ex (DS.tsB (DS.chn g g' fa fb fc))) := (pt_chain ho ho' ha hb hc hm).imp fun σ H Q h => by
  obtain ⟨ρ, G, hs, ts, us, ρ', r, s, e, hf⟩ := imp_tsB h
  refine tM_bnd s e hf fun ρ1 x v H1 G1 e1 s1 r1 => ?_
  refine tM_bnd (s1.push r1) e1 hf.push fun ρ2 y u H2 G2 e2 s2 r2 => ?_
  obtain ⟨r1', s2'⟩ := s2.pop1
  unfold DS.bnd at e2
  cases q : (g x y).bind DS.asB with
  | none => rw [q] at e2; cases e2
  | some k =>
    rw [q] at e2
    obtain ⟨z, z1, z2⟩ := Option.bind_eq_some_iff.mp q
    refine ⟨G2, x, y, z, s2'.sub, r1', r2, z1, fun w H3 G3 ex rw' => ?_⟩
    cases z with
    | bl k' =>
      rw [DS.asB] at z2
      cases z2
      rw [Rep] at rw'
      refine ⟨k, rw', ?_⟩
      have s3 := s2'.grow ex
      have ry := r2.mono ex.view
      cases k with
      | false =>
        rw [if_neg (by simp)]
        have e3 : DS.ret (D.bl false) ρ2 = some (ρ', r) := e2
        obtain ⟨rfl, rfl⟩ := ret_inv e3
        exact hf (.bl false) H3 G3 s3 (by rw [Rep])
      | true =>
        rw [if_pos rfl]
        have e3 : DS.bnd fc (fun z => DS.lft (g' y z)) ρ2 = some (ρ', r) := e2
        refine tM_bnd (s3.push ry) e3 hf.push fun ρ4 z u4 H4 G4 e4 s4 r4 => ?_
        obtain ⟨d, e5, rfl, rfl⟩ := lft_inv e4
        obtain ⟨ry', s4'⟩ := s4.pop1
        exact ⟨G4, y, z, d, s4'.sub, ry', r4, e5, fun v' H' G' ex rp => hf v' H' G' (s4'.grow ex) rp⟩
    | _ => simp [DS.asB] at z2
theorem rep_non {r : Rc} {G : Hp} {d : D} {v : V} (h : Rep r G d v) : (d = .non ∧ v = .non) ∨ (d ≠ .non ∧ v ≠ .non) := by
  cases d with
  | non => rw [Rep] at h; exact .inl ⟨rfl, h⟩
  | bl _ => rw [Rep] at h; subst h; exact .inr ⟨fun z => (by cases z), fun z => (by cases z)⟩
  | int _ => rw [Rep] at h; subst h; exact .inr ⟨fun z => (by cases z), fun z => (by cases z)⟩
  | str _ => rw [Rep] at h; subst h; exact .inr ⟨fun z => (by cases z), fun z => (by cases z)⟩
  | lst _ => rw [Rep] at h; obtain ⟨a, vs, rfl, _⟩ := h; exact .inr ⟨fun z => (by cases z), fun z => (by cases z)⟩
  | tup _ => rw [Rep] at h; obtain ⟨a, vs, rfl, _⟩ := h; exact .inr ⟨fun z => (by cases z), fun z => (by cases z)⟩
  | set _ => rw [Rep] at h; obtain ⟨a, vs, rfl, _⟩ := h; exact .inr ⟨fun z => (by cases z), fun z => (by cases z)⟩
  | exc _ => rw [Rep] at h; obtain ⟨a, rfl, _⟩ := h; exact .inr ⟨fun z => (by cases z), fun z => (by cases z)⟩
theorem imp_isN {σ : St} {H : Hp} {Q : VK} (h : tE c Ex (DS.op1 DS.isN fa) σ H Q) : tIsN (tE c Ex fa) σ H Q := by
  obtain ⟨ρ, G, hs, ts, us, ρ', r, s, e, hf⟩ := h
  refine tM_bnd s e hf fun ρ1 x v H1 G1 e1 s1 r1 => ?_
  obtain ⟨d, e3, rfl, rfl⟩ := lft_inv e1
  refine hf _ H1 G1 s1 ?_
  rcases rep_non r1 with ⟨rfl, rfl⟩ | ⟨n1, n2⟩
  · rw [DS.isN] at e3; cases e3; rw [Rep]; simp
  · have : d = .bl false := by cases x <;> simp [DS.isN] at e3 n1 ⊢ <;> exact e3.symm
    subst this
    rw [Rep]; simp [n2]
theorem d_tisN {j pos'} (ha : PE X a (tE c Ex fa)) : PT X (.Compare a [.Is] [.Constant .none j pos'] pos) (tT c Ex (DS.tsB (DS.op1 DS.isN fa))) := (pt_cmp (pc_isN ha)).imp fun _ _ _ h => imp_isN (imp_tsB h)
theorem d_and1 (ha : PT X a (tT c Ex fx)) : PW X (.BoolOp .And [a] pos) (tT c Ex fx) := pw_and1 ha
theorem d_or1 (ha : PT X a (tT c Ex fx)) : PW X (.BoolOp .Or [a] pos) (tT c Ex fx) := pw_or1 ha
theorem d_andT (ha : PT X a (tT c Ex fx)) (hb : PW X (.BoolOp .And (b :: rest) pos) (tT c Ex fy)) : PW X (.BoolOp .And (a :: b :: rest) pos) (tT c Ex (DS.andT fx fy)) := (pw_and ha hb).imp fun σ H Q h => by
  obtain ⟨ρ, G, hs, ts, us, ρ', r, s, e, hf⟩ := h
  refine tM_bnd s e hf fun ρ1 x v H1 G1 e1 s1 r1 => ?_
  subst r1
  cases x with
  | true => rw [if_pos rfl] at e1 ⊢; exact ⟨ρ1, G1, hs, ts, us, ρ', r, s1, e1, hf⟩
  | false => rw [if_neg (by simp)] at e1 ⊢; obtain ⟨rfl, rfl⟩ := ret_inv e1; exact hf false H1 G1 s1 rfl
theorem d_orT (ha : PT X a (tT c Ex fx)) (hb : PW X (.BoolOp .Or (b :: rest) pos) (tT c Ex fy)) : PW X (.BoolOp .Or (a :: b :: rest) pos) (tT c Ex (DS.orT fx fy)) := (pw_or ha hb).imp fun σ H Q h => by
  obtain ⟨ρ, G, hs, ts, us, ρ', r, s, e, hf⟩ := h
  refine tM_bnd s e hf fun ρ1 x v H1 G1 e1 s1 r1 => ?_
  subst r1
  cases x with
  | true => rw [if_pos rfl] at e1 ⊢; obtain ⟨rfl, rfl⟩ := ret_inv e1; exact hf true H1 G1 s1 rfl
  | false => rw [if_neg (by simp)] at e1 ⊢; exact ⟨ρ1, G1, hs, ts, us, ρ', r, s1, e1, hf⟩
theorem d_notT (ha : PT X a (tT c Ex fx)) : PT X (.UnaryOp .Not a pos) (tT c Ex (DS.notT fx)) := (pt_not ha).imp fun σ H Q h => by
  obtain ⟨ρ, G, hs, ts, us, ρ', r, s, e, hf⟩ := h
  refine tM_bnd s e hf fun ρ1 x v H1 G1 e1 s1 r1 => ?_
  subst r1
  obtain ⟨rfl, rfl⟩ := ret_inv e1
  exact hf _ H1 G1 s1 rfl
theorem d_one {op} (ha : PE X a (tE c Ex fa)) : PE X (.BoolOp op [a] pos) (tE c Ex fa) := pe_one ha
theorem tM_tsB {σ : St} {H : Hp} {γ δ : Type} {rep' : Hp → γ → δ → Prop} {f : Bool → M γ} {ρ ρ' : Rho} {G : Hp} {hs : List (Addr × List V)} {ts : List D} {us : List V} {r : R γ} {Q' : δ → Hp → Prop} {Q : Bool → Hp → Prop} (s : SR c ρ σ H G hs ts us) (h : DS.bnd (DS.tsB fa) f ρ = some (ρ', r)) (hf : FinM c Ex rep' σ hs ts us ρ' r Q')
    (ok : ∀ ρ1 k H1 G1, f k ρ1 = some (ρ', r) → SR c ρ1 σ H1 G1 hs ts us → Q k H1) : tE c Ex fa σ H fun x H1 => ∃ k, x = .bl k ∧ Q k H1 :=
  imp_tsB (tM_bnd s h hf fun ρ1 k v H1 G1 e1 s1 r1 => by subst r1; exact ok ρ1 k H1 G1 e1 s1)
theorem d_andV (ha : PE X a (tE c Ex fa)) (hb : PE X (.BoolOp .And (b :: rest) pos) (tE c Ex fb)) : PE X (.BoolOp .And (a :: b :: rest) pos) (tE c Ex (DS.andV fa fb)) := (pe_and ha hb).imp fun σ H Q h => by
  obtain ⟨ρ, G, hs, ts, us, ρ', r, s, e, hf⟩ := h
  refine tM_tsB (fa := fa) (Q := fun k H1 => if k = true then tE c Ex fb σ H1 Q else Q (.bl false) H1) s e hf fun ρ1 k H1 G1 e1 s1 => ?_
  cases k with
  | true => rw [if_pos rfl] at e1 ⊢; exact ⟨ρ1, G1, hs, ts, us, ρ', r, s1, e1, hf⟩
  | false => rw [if_neg (by simp)] at e1 ⊢; obtain ⟨rfl, rfl⟩ := ret_inv e1; exact hf _ H1 G1 s1 (by rw [Rep])
theorem d_orV (ha : PE X a (tE c Ex fa)) (hb : PE X (.BoolOp .Or (b :: rest) pos) (tE c Ex fb)) : PE X (.BoolOp .Or (a :: b :: rest) pos) (tE c Ex (DS.orV fa fb)) := (pe_or ha hb).imp fun σ H Q h => by
  obtain ⟨ρ, G, hs, ts, us, ρ', r, s, e, hf⟩ := h
  refine tM_tsB (fa := fa) (Q := fun k H1 => if k = true then Q (.bl true) H1 else tE c Ex fb σ H1 Q) s e hf fun ρ1 k H1 G1 e1 s1 => ?_
  cases k with
  | true => rw [if_pos rfl] at e1 ⊢; obtain ⟨rfl, rfl⟩ := ret_inv e1; exact hf _ H1 G1 s1 (by rw [Rep])
  | false => rw [if_neg (by simp)] at e1 ⊢; exact ⟨ρ1, G1, hs, ts, us, ρ', r, s1, e1, hf⟩
theorem d_ifE {t : Expr} (hc : PT X t (tT c Ex fx)) (ha : PE X a (tE c Ex fa)) (hb : PE X b (tE c Ex fb)) : PE X (.IfExp t a b pos) (tE c Ex (DS.ifE fx fa fb)) := (pe_ifExp hc ha hb).imp fun σ H Q h => by
  obtain ⟨ρ, G, hs, ts, us, ρ', r, s, e, hf⟩ := h
  refine tM_bnd s e hf fun ρ1 x v H1 G1 e1 s1 r1 => ?_
  subst r1
  cases x with
  | true => rw [if_pos rfl] at e1 ⊢; exact ⟨ρ1, G1, hs, ts, us, ρ', r, s1, e1, hf⟩
  | false => rw [if_neg (by simp)] at e1 ⊢; exact ⟨ρ1, G1, hs, ts, us, ρ', r, s1, e1, hf⟩
theorem d_nil : PA X [] (tA c Ex DS.nilA) := pa_nil.imp fun σ H Q h => by
  obtain ⟨ρ, G, hs, ts, us, ρ', r, s, e, hf⟩ := h
  obtain ⟨rfl, rfl⟩ := ret_inv e
  exact hf [] H G s .nil
theorem d_cons (ha : PE X e (tE c Ex fa)) (hr : PA X es (tA c Ex fs)) (hs : starEach (e :: es) X.env = (false, eval e X.env) :: starEach es X.env := by rfl) : PA X (e :: es) (tA c Ex (DS.consA fa fs)) := (pa_cons ha hr hs).imp fun σ H Q h => by
  obtain ⟨ρ, G, hs, ts, us, ρ', r, s, e, hf⟩ := h
  refine tM_bnd s e hf fun ρ1 x v H1 G1 e1 s1 r1 => ?_
  refine tM_bnd (s1.push r1) e1 hf.push fun ρ2 y u H2 G2 e2 s2 r2 => ?_
  obtain ⟨rfl, rfl⟩ := ret_inv e2
  obtain ⟨r1', s2'⟩ := s2.pop1
  exact hf (v :: u) H2 G2 s2' (.cons r1' r2)
theorem fits_inv {xs ys : List D} (h : DS.fits xs = some ys) : ys = xs ∧ xs.length ≤ sizeLine := by
  unfold DS.fits at h
  split at h
  · cases h; exact ⟨rfl, by assumption⟩
  · cases h
theorem d_tup {k} (h : PA X es (tA c Ex fs)) : PE X (.Tuple es k pos) (tE c Ex (DS.tupE fs)) := (pe_tup h).imp fun σ H Q h => by
  obtain ⟨ρ, G, hs, ts, us, ρ', r, s, e, hf⟩ := h
  refine tM_bnd s e hf fun ρ1 x v H1 G1 e1 s1 r1 => ?_
  obtain ⟨d, e3, rfl, rfl⟩ := lft_inv e1
  obtain ⟨ys, e4, rfl⟩ := Option.map_eq_some_iff.mp e3
  obtain ⟨rfl, hz⟩ := fits_inv e4
  have hl := r1.length
  refine ⟨by omega, fun p hp => ?_⟩
  have ex := Ext.lay (o := .tup v) s1.sub hp
  refine hf _ _ _ (s1.grow ex) ?_
  rw [Rep]
  exact ⟨p, v, rfl, SqT.of upd_same, by omega, r1.mono ex.view⟩
theorem d_lst (h : PA X es (tA c Ex fs)) : PE X (.List es pos) (tE c Ex (DS.lstE fs)) := (pe_lst h).imp fun σ H Q h => by
  obtain ⟨ρ, G, hs, ts, us, ρ', r, s, e, hf⟩ := h
  refine tM_bnd s e hf fun ρ1 x v H1 G1 e1 s1 r1 => ?_
  obtain ⟨d, e3, rfl, rfl⟩ := lft_inv e1
  obtain ⟨ys, e4, rfl⟩ := Option.map_eq_some_iff.mp e3
  obtain ⟨rfl, hz⟩ := fits_inv e4
  have hl := r1.length
  refine ⟨by omega, fun p hp => ?_⟩
  have ex := Ext.lay (o := .lst v) s1.sub hp
  refine hf _ _ _ (s1.grow ex) ?_
  rw [Rep]
  exact ⟨p, v, rfl, SqL.of upd_same, by omega, r1.mono ex.view⟩
def spD (r : Rc) (n : Nat) (F : List D → Option (R D)) : Sp := fun vs H Q E => vs.length = n ∧ ∃ G ds x, Same G H ∧ Reps r G ds vs ∧ F ds = some x ∧ match x with
  | .ok d => ∀ v H' G', Ext G H G' H' → Rep r G' d v → Q v H'
  | .er m => ∀ H' G', Ext G H G' H' → E (.ref (r.ad m)) none H'
structure CallOk (P : Program) (w : World) (K : PySem.W.Frag) (mg : Str → Option Value) (base : Heap) (r : Rc) (x : Str) (k n : Nat) (F : List D → Option (R D)) : Prop where
  ex : ∃ (f : Addr) (fd : FuncData) (ps : List Str), FnOk P w K mg base (CXm P w) k f fd ps (spD r n F) ∧ mg x = some (.ref f) ∧ PySem.W.keepIn K (.ref f) = true ∧ Binds K fd ps []
  len : ∀ ds y, F ds = some y → ds.length = n
theorem d_cal {k n : Nat} {x : Str} {p : Pos} {F : List D → Option (R D)} (hr : Room k X.A) (hx : PassesX (CXm X.prog X.w) X Ex) (C : CallOk X.prog X.w X.K X.mg X.base c.r x k n F) (ha : PA X (e :: es) (tA c Ex fs)) (hg : Gl X x := by rfl)
    (hdb : (x == ("__debug__" : Str)) = false := by decide) (he : starEach (e :: es) X.env = (false, eval e X.env) :: starEach es X.env := by rfl) (hpl : (backTo pos (starEach es X.env)).any (·.1) = false := by rfl) :
    PE X (.Call (.Name x p) (e :: es) [] pos) (tE c Ex (DS.cal F fs)) := by
  obtain ⟨f, fd, ps, G0, hm, hk, hb⟩ := C.ex
  refine (pe_callX G0 hr hg hm hk hb .nil hx ha hdb he hpl).imp fun σ H Q h => ?_
  obtain ⟨ρ, G, hs, ts, us, ρ', r, s, e, hf⟩ := h
  refine tM_bnd s e hf fun ρ1 ds vs H1 G1 e1 s1 r1 => ?_
  rw [List.append_nil]
  cases q : F ds with
  | none => rw [q] at e1; cases e1
  | some y =>
    rw [q] at e1
    cases e1
    refine ⟨by rw [← r1.length]; exact C.len ds r q, G1, ds, r, s1.sub, r1, q, ?_⟩
    cases r with
    | ok d => exact fun v H' G' ex rp => hf v H' G' (s1.grow ex) rp
    | er m => exact fun H' G' ex => hf H' G' (s1.grow ex)
theorem d_blt {x : Str} {p : Pos} {id : String} {g : List D → Option D} (hc : CallR X (.builtin id) (rDL c.r g)) (hm : X.mg x = none) (hv : bootBuiltins x = some (.builtin id)) (ha : PA X (e :: es) (tA c Ex fs)) (hg : Gl X x := by rfl) (hn : x ≠ "__name__" := by decide) (hdb : (x == ("__debug__" : Str)) = false := by decide)
    (he : starEach (e :: es) X.env = (false, eval e X.env) :: starEach es X.env := by rfl) (hpl : (backTo pos (starEach es X.env)).any (·.1) = false := by rfl) : PE X (.Call (.Name x p) (e :: es) [] pos) (tE c Ex (DS.blt g fs)) := (pe_callB hc hg hm hv ha hn hdb he hpl).imp fun _ _ _ h => imp_blt h
theorem d_ty {x : Str} {p : Pos} {T : String} {g : List D → Option D} (hc : CallR X (.type T) (rDL c.r g)) (hm : X.mg x = none) (hv : bootBuiltins x = some (.type T)) (ha : PA X (e :: es) (tA c Ex fs)) (hg : Gl X x := by rfl) (hn : x ≠ "__name__" := by decide) (hdb : (x == ("__debug__" : Str)) = false := by decide)
    (he : starEach (e :: es) X.env = (false, eval e X.env) :: starEach es X.env := by rfl) (hpl : (backTo pos (starEach es X.env)).any (·.1) = false := by rfl) : PE X (.Call (.Name x p) (e :: es) [] pos) (tE c Ex (DS.blt g fs)) := (pe_callTy hc hg hm hv ha hn hdb he hpl).imp fun _ _ _ h => imp_blt h
theorem tM_pk {σ : St} {H : Hp} {γ δ : Type} {rep' : Hp → γ → δ → Prop} {f : List D → M γ} {ρ ρ' : Rho} {G : Hp} {hs : List (Addr × List V)} {ts : List D} {us : List V} {r : R γ} {i : Nat} (s : SR c ρ σ H G hs ts us) (h : DS.bnd (DS.pk i) f ρ = some (ρ', r)) :
    ∃ xs a vs, σ[i]? = some (some (.ref a)) ∧ SqL c.r.K H a vs ∧ vs.length ≤ sizeLine ∧ Reps c.r G xs vs ∧ f xs ρ = some (ρ', r) := by
  unfold DS.bnd at h
  cases q : DS.pk i ρ with
  | none => rw [q] at h; cases h
  | some p =>
    obtain ⟨ρ1, x⟩ := p
    rw [q] at h
    obtain ⟨rfl, xs, rfl, a, vs, h1, h2, h3, h4⟩ := s.peek (xs := []) q
    exact ⟨xs, a, vs, h1, h2, h3, h4, h⟩
theorem d_ixV (i : Nat) {x : Str} {p : Pos} (hb : PE X b (tE c Ex fb)) (hs : PlainIx b) (hN : X.N[i]? = some x := by rfl) (hv : Vis X.env.scope x := by first | exact Or.inl rfl | exact Or.inr (Or.inl rfl) | exact Or.inr (Or.inr rfl)) (hd : (x == ("__debug__" : Str)) = false := by decide)
    (hcd : (x == ("__classdict__" : Str)) = false := by decide) (hK : X.K = c.r.K := by rfl) : PE X (.Subscript (.Name x p) b pos) (tE c Ex (DS.ixV i fb)) := (pe_ix ix_list (pe_var hN hv hd hcd) hb hs).imp fun σ H Q h => by
  obtain ⟨ρ, G, hs, ts, us, ρ', r, s, e, hf⟩ := h
  obtain ⟨xs, a, vs, h1, h2, h3, h4, e1⟩ := tM_pk (rep' := Rep c.r) s e
  refine ⟨.ref a, h1, tM_bnd s e1 hf fun ρ1 j v H1 G1 e2 s1 r1 => ?_⟩
  obtain ⟨ys, a', ws, q1, q2, q3, q4, e3⟩ := tM_pk (rep' := Rep c.r) s1 e2
  rw [h1] at q1
  cases q1
  obtain ⟨d, e4, rfl, rfl⟩ := lft_inv e3
  cases j with
  | int k =>
    rw [Rep] at r1
    have e5 : DS.atI ys k = some d := e4
    obtain ⟨u, z1, z2⟩ := q4.atI e5
    exact ⟨a, ws, k, u, rfl, r1, by rw [hK]; exact q2, z1, hf u H1 G1 s1 z2⟩
  | _ => simp [DS.ixD] at e4
theorem d_noPart : PO X none (tP c Ex (DS.part none)) := po_none.imp fun σ H Q h => by
  obtain ⟨ρ, G, hs, ts, us, ρ', r, s, e, hf⟩ := h
  obtain ⟨rfl, rfl⟩ := ret_inv e
  exact hf none H G s rfl
theorem d_part (ha : PE X a (tE c Ex fa)) : PO X (some a) (tP c Ex (DS.part (some fa))) := (po_some ha).imp fun σ H Q h => by
  obtain ⟨ρ, G, hs, ts, us, ρ', r, s, e, hf⟩ := h
  have e' : DS.bnd fa (fun x => DS.lft ((DS.asI x).map some)) ρ = some (ρ', r) := e
  refine tM_bnd s e' hf fun ρ1 x v H1 G1 e1 s1 r1 => ?_
  obtain ⟨d, e3, rfl, rfl⟩ := lft_inv e1
  cases x with
  | int k =>
    rw [Rep] at r1
    simp [DS.asI] at e3
    subst e3
    exact ⟨k, r1, hf _ H1 G1 s1 rfl⟩
  | _ => simp [DS.asI] at e3
def rDS (r : Rc) (g : D → Option Int → Option Int → Option D) : V → Option Int → Option Int → Hp → VK → Prop := fun x lo hi H Q => ∃ G dx d, Same G H ∧ Rep r G dx x ∧ g dx lo hi = some d ∧ ∀ v H' G', Ext G H G' H' → Rep r G' d v → Q v H'
theorem d_slE {lo hi : Option Expr} {p2 : Pos} {fl fh : Option (M D)} (hr : SlR X (rDS c.r DS.slD)) (he : PE X a (tE c Ex fa)) (hl : PO X lo (tP c Ex (DS.part fl))) (hu : PO X hi (tP c Ex (DS.part fh))) :
    PE X (.Subscript a (.Slice lo hi none p2) pos) (tE c Ex (DS.slE fa fl fh)) := (pe_slice hr he hl hu).imp fun σ H Q h => by
  obtain ⟨ρ, G, hs, ts, us, ρ', r, s, e, hf⟩ := h
  refine tM_bnd s e hf fun ρ1 x v H1 G1 e1 s1 r1 => ?_
  refine tM_bnd (s1.push r1) e1 hf.push fun ρ2 l l' H2 G2 e2 s2 r2 => ?_
  subst r2
  refine tM_bnd s2 e2 hf.push fun ρ3 h h' H3 G3 e3 s3 r3 => ?_
  subst r3
  obtain ⟨d, e4, rfl, rfl⟩ := lft_inv e3
  obtain ⟨r1', s3'⟩ := s3.pop1
  exact ⟨G3, x, d, s3'.sub, r1', e4, fun v' H' G' ex rp => hf v' H' G' (s3'.grow ex) rp⟩
end
end L2
namespace L2
open PySem PySem.Spec PyProof.Rows
open DS (D Sl Rho R M FS O Tg)
section
variable {X : Cx} {r : Rc}
def rCatS (K : PySem.W.Frag) : R2 := fun x y H Q => ∃ l b xs zs, x = .ref l ∧ y = .ref b ∧ SqL K H l xs ∧ SqL K H b zs ∧ xs.length + zs.length ≤ sizeLine ∧ ∀ p, H p = none → Q (.ref p) (upd H p (.lst (xs ++ zs)))
theorem op_catS : OpR X (binaryOp .Add) (rCatS X.K) := by
  intro pins s σ H x y v u Q I rx ry h
  obtain ⟨l, b, xs, zs, rfl, rfl, hH, hB, hz, q⟩ := h
  cases rx
  cases ry
  obtain ⟨its, r1, p1, _⟩ := I.list hH
  obtain ⟨its2, r2, p2, _⟩ := I.list hB
  obtain ⟨⟨cls, dd, data, sl⟩, ho, hc, n, hd⟩ := p1.isList
  obtain ⟨⟨cls2, dd2, data2, sl2⟩, ho2, hc2, n2, hd2⟩ := p2.isList
  simp only at hc hd hc2 hd2
  subst hc hd hc2 hd2
  have e : its.toArray ++ its2.toArray = (its ++ its2).toArray := by simp
  refine concat_meets ⟨_, ho, rfl⟩ ⟨_, ho2, rfl⟩ noFill_list_add seq_list_add PySem.F.slot_list_add PySem.F.entry_list_add (PySem.F.args_list_add_2 _ _)
    (list_addW l b its.toArray its2.toArray n n2 dd dd2 sl sl2 (by rw [List.size_toArray, List.size_toArray, ← r1.length, ← r2.length]; exact hz)) ⟨ho, ho2, ?_⟩
  rw [e]
  exact ⟨.ref _, _, I.lnew (t' := s.toks) (r1.append r2) (by rw [List.length_append]; exact hz), rfl, q _ I.fresh⟩
theorem op_cat0 : OpR X (binaryOp .Add) (fun x y H Q => ∃ a b ys, x = .ref a ∧ y = .ref b ∧ SqT X.K H a [] ∧ SqT X.K H b ys ∧ Q (.ref b) H) := by
  intro pins s σ H x y v u Q I rx ry h
  obtain ⟨a, b, ys, rfl, rfl, ha, hb, q⟩ := h
  cases rx
  cases ry
  obtain ⟨its, r1, p1, _⟩ := I.tuple ha
  obtain ⟨its2, r2, p2, _⟩ := I.tuple hb
  cases r1
  obtain ⟨⟨cls, dd, data, sl⟩, ho, hc, n, hd⟩ := id p1
  obtain ⟨⟨cls2, dd2, data2, sl2⟩, ho2, hc2, n2, hd2⟩ := id p2
  simp only at hc hd hc2 hd2
  subst hc hd hc2 hd2
  exact concat_meets ⟨_, ho, rfl⟩ ⟨_, ho2, rfl⟩ noFill_tuple_add seq_tuple_add PySem.F.slot_tuple_add PySem.F.entry_tuple_add (PySem.F.args_tuple_add_2 _ _)
    (tuple_addW0 a b _ _ n n2 dd dd2 sl sl2 rfl) ⟨ho, ho2, ⟨.ref b, H, I, rfl, q⟩⟩
theorem o_addD (hK : X.K = r.K := by rfl) : OpR X (binaryOp .Add) (rD r DS.addD) := by
  intro pins s σ H x y v u Q I rx ry ⟨G, dx, dy, d, sub, hx, hy, e, q⟩
  cases dx with
  | int i =>
    cases dy with
    | int j =>
      rw [Rep] at hx; rw [Rep] at hy
      rw [DS.addD] at e
      cases e
      exact op_add pins s σ H x y v u Q I rx ry ⟨i, j, hx, hy, q _ H G (Ext.refl sub) (by rw [Rep])⟩
    | _ => simp [DS.addD] at e
  | lst xs =>
    cases dy with
    | lst ys =>
      rw [Rep] at hx; rw [Rep] at hy
      obtain ⟨a, vs, ea, qa, la, ta⟩ := hx
      obtain ⟨b, ws, eb, qb, lb, tb⟩ := hy
      rw [DS.addD] at e
      split at e
      · rename_i hz
        cases e
        have l1 := ta.length
        have l2 := tb.length
        refine op_catS pins s σ H x y v u Q I rx ry ⟨a, b, vs, ws, ea, eb, by rw [hK]; exact sub.seq qa, by rw [hK]; exact sub.seq qb, by omega, fun p hp => ?_⟩
        have ex := Ext.lay (o := .lst (vs ++ ws)) sub hp
        refine q _ _ _ ex ?_
        rw [Rep]
        exact ⟨p, vs ++ ws, rfl, SqL.of upd_same, by rw [List.length_append]; omega, (ta.append tb).mono ex.view⟩
      · cases e
    | _ => simp [DS.addD] at e
  | tup xs =>
    cases dy with
    | tup ys =>
      have hy' := hy
      rw [Rep] at hx; rw [Rep] at hy
      obtain ⟨a, vs, ea, qa, la, ta⟩ := hx
      obtain ⟨b, ws, eb, qb, lb, tb⟩ := hy
      have l1 := ta.length
      have l2 := tb.length
      rw [DS.addD] at e
      split at e
      · rename_i hz
        cases e
        cases vs with
        | nil =>
          cases xs with
          | nil =>
            refine op_cat0 pins s σ H x y v u Q I rx ry ⟨a, b, ws, ea, eb, by rw [hK]; exact sub.seqT qa, by rw [hK]; exact sub.seqT qb, q _ H G (Ext.refl sub) ?_⟩
            rw [← eb]; exact hy'
          | cons _ _ => simp at l1
        | cons v0 vs =>
          refine op_catT pins s σ H x y v u Q I rx ry ⟨a, b, v0 :: vs, ws, ea, eb, by rw [hK]; exact sub.seqT qa, by rw [hK]; exact sub.seqT qb, by simp, by omega, fun z => ?_, fun _ p hp => ?_⟩
          · subst z
            have : ys = [] := by cases ys with | nil => rfl | cons _ _ => simp at l2
            subst this
            refine q _ H G (Ext.refl sub) ?_
            rw [Rep, List.append_nil]
            exact ⟨a, v0 :: vs, rfl, qa, la, ta⟩
          · have ex := Ext.lay (o := .tup (v0 :: vs ++ ws)) sub hp
            refine q _ _ _ ex ?_
            rw [Rep]
            exact ⟨p, v0 :: vs ++ ws, rfl, SqT.of upd_same, by rw [List.length_append]; omega, (ta.append tb).mono ex.view⟩
      · cases e
    | _ => simp [DS.addD] at e
  | str a =>
    cases dy with
    | str b =>
      rw [Rep] at hx; rw [Rep] at hy
      rw [DS.addD] at e
      split at e
      · rename_i hz
        cases e
        exact op_add_str pins s σ H x y v u Q I rx ry ⟨a, b, hx, hy, hz, q _ H G (Ext.refl sub) (by rw [Rep])⟩
      · cases e
    | _ => simp [DS.addD] at e
  | _ => simp [DS.addD] at e
theorem opI_D {f : Value → Value → Sem Value} {C : Int → Int → Prop} {g : Int → Int → V} {h : D → D → Option D} (ho : OpR X f (rI C g))
    (hh : ∀ dx dy d, h dx dy = some d → ∃ i j, dx = .int i ∧ dy = .int j ∧ C i j ∧ ∀ G, Rep r G d (g i j)) : OpR X f (rD r h) := by
  intro pins s σ H x y v u Q I rx ry ⟨G, dx, dy, d, sub, hx, hy, e, q⟩
  obtain ⟨i, j, rfl, rfl, hc, hr⟩ := hh dx dy d e
  rw [Rep] at hx; rw [Rep] at hy
  exact ho pins s σ H x y v u Q I rx ry ⟨i, j, hx, hy, hc, q _ H G (Ext.refl sub) (hr G)⟩
theorem opI0_D {f : Value → Value → Sem Value} {g : Int → Int → V} {h : D → D → Option D} (ho : OpR X f (rI0 g))
    (hh : ∀ dx dy d, h dx dy = some d → ∃ i j, dx = .int i ∧ dy = .int j ∧ ∀ G, Rep r G d (g i j)) : OpR X f (rD r h) := by
  intro pins s σ H x y v u Q I rx ry ⟨G, dx, dy, d, sub, hx, hy, e, q⟩
  obtain ⟨i, j, rfl, rfl, hr⟩ := hh dx dy d e
  rw [Rep] at hx; rw [Rep] at hy
  exact ho pins s σ H x y v u Q I rx ry ⟨i, j, hx, hy, q _ H G (Ext.refl sub) (hr G)⟩
theorem o_subD : OpR X (binaryOp .Sub) (rD r DS.subD) := opI0_D op_sub fun dx dy d e => by
  cases dx with
  | int i =>
    cases dy with
    | int j => rw [DS.subD] at e; cases e; exact ⟨i, j, rfl, rfl, fun G => by rw [Rep]⟩
    | _ => simp [DS.subD] at e
  | _ => simp [DS.subD] at e
theorem o_fdvD : OpR X (binaryOp .FloorDiv) (rD r DS.fdvD) := opI_D op_fdiv fun dx dy d e => by
  cases dx with
  | int i =>
    cases dy with
    | int j =>
      rw [DS.fdvD] at e
      split at e
      · rename_i hc; cases e; simp at hc; exact ⟨i, j, rfl, rfl, hc, fun G => by rw [Rep]⟩
      · cases e
    | _ => simp [DS.fdvD] at e
  | _ => simp [DS.fdvD] at e
theorem o_modD : OpR X (binaryOp .Mod) (rD r DS.modD) := opI_D op_mod fun dx dy d e => by
  cases dx with
  | int i =>
    cases dy with
    | int j =>
      rw [DS.modD] at e
      split at e
      · rename_i hc; cases e; exact ⟨i, j, rfl, rfl, hc, fun G => by rw [Rep]⟩
      · cases e
    | _ => simp [DS.modD] at e
  | _ => simp [DS.modD] at e
def rRepS (K : PySem.W.Frag) : R2 := fun x y H Q => ∃ l k xs, x = .ref l ∧ y = .int k ∧ SqL K H l xs ∧ -(2 ^ 63) ≤ k ∧ k < 2 ^ 63 ∧ xs.length * k.toNat ≤ sizeLine ∧
  ∀ p, H p = none → Q (.ref p) (upd H p (.lst (List.replicate k.toNat xs).flatten))
theorem op_repS : OpR X (binaryOp .Mult) (rRepS X.K) := by
  intro pins s σ H x y v u Q I rx ry h
  obtain ⟨l, k, xs, rfl, rfl, hH, h1, h2, hz, q⟩ := h
  cases rx
  obtain ⟨t, rfl⟩ := ry
  obtain ⟨its, r1, p1, _⟩ := I.list hH
  have hl := r1.length
  obtain ⟨⟨cls, d, data, sl⟩, ho, hcl, n, hd⟩ := p1.isList
  simp only at hcl hd
  subst hcl hd
  have hz' : its.toArray.size * k.toNat ≤ 2 ^ 24 := by rw [List.size_toArray, ← hl]; exact hz
  refine wpAny_binaryOp_repeat_ref (T := "list") (U := "int") (by decide) ⟨_, ho, rfl⟩ (fun s' => typeIs_int s' k t) noFill_list_mul F.fills_int_mul F.slot_int_rmul repeat_list F.slot_int_index.lookup
    (call_meets F.slot_int_rmul (typeIs_int s k t) F.entry_int_rmul (F.args_int_rmul_2 _ _) (lm_int_rmul_list_any k t l its.toArray n d sl)
      ⟨ho, rfl, ⟨_, ho, rfl⟩, call_meets F.slot_list_mul ⟨_, ho, rfl⟩ F.entry_list_mul (F.args_list_mul_2 _ _)
        (lm_list_mul_any l its.toArray n d sl k t (by simp [Builtin.List.listFitsIndex]; omega) (by omega) (by simp [Builtin.List.listTooLong, sizeLine] at hz' ⊢; omega))
        ⟨ho, ?_⟩⟩)
  rw [listMul_foldl_if]
  exact ⟨.ref _, _, I.lnew (t' := s.toks) (r1.rep k.toNat) (by rw [len_rep, Nat.mul_comm]; exact hz), rfl, q _ I.fresh⟩
theorem o_mulD (hK : X.K = r.K := by rfl) : OpR X (binaryOp .Mult) (rD r DS.mulD) := by
  intro pins s σ H x y v u Q I rx ry ⟨G, dx, dy, d, sub, hx, hy, e, q⟩
  cases dx with
  | int i =>
    cases dy with
    | int j =>
      rw [Rep] at hx; rw [Rep] at hy
      rw [DS.mulD] at e
      split at e
      · rename_i hc
        cases e
        refine op_mul pins s σ H x y v u Q I rx ry ⟨i, j, hx, hy, ?_, q _ H G (Ext.refl sub) (by rw [Rep])⟩
        unfold DS.mulOk at hc
        simp only [Bool.or_eq_true, Bool.and_eq_true, decide_eq_true_eq] at hc
        exact hc
      · cases e
    | _ => simp [DS.mulD] at e
  | lst xs =>
    cases dy with
    | int k =>
      rw [Rep] at hx; rw [Rep] at hy
      obtain ⟨a, vs, ea, qa, la, ta⟩ := hx
      have l1 := ta.length
      rw [DS.mulD] at e
      split at e
      · rename_i hc
        cases e
        simp only [Bool.and_eq_true, decide_eq_true_eq] at hc
        obtain ⟨⟨h1, h2⟩, h3⟩ := hc
        refine op_repS pins s σ H x y v u Q I rx ry ⟨a, k, vs, ea, hy, by rw [hK]; exact sub.seq qa, h1, h2, by rw [← l1]; exact h3, fun p hp => ?_⟩
        have ex := Ext.lay (o := .lst (List.replicate k.toNat vs).flatten) sub hp
        refine q _ _ _ ex ?_
        rw [Rep]
        exact ⟨p, _, rfl, SqL.of upd_same, by rw [len_rep, Nat.mul_comm, ← l1]; exact h3, (ta.flat _).mono ex.view⟩
      · cases e
    | _ => simp [DS.mulD] at e
  | _ => simp [DS.mulD] at e
theorem u_negD : UnR X (unaryOp .USub) (rD1 r DS.negD) := by
  intro pins s σ H x v Q I rx ⟨G, dx, d, sub, hx, e, q⟩
  cases dx with
  | int i =>
    rw [Rep] at hx
    rw [DS.negD] at e
    cases e
    exact un_neg pins s σ H x v Q I rx ⟨i, hx, q _ H G (Ext.refl sub) (by rw [Rep])⟩
  | _ => simp [DS.negD] at e
theorem d_neg {c : Db} {Ex : St → XK} {a : Expr} {fa : M D} {pos : Pos} (ha : PE X a (tE c Ex fa)) : PE X (.UnaryOp .USub a pos) (tE c Ex (DS.op1 DS.negD fa)) := d_un u_negD ha
theorem lexLt_eq : ∀ a b : List Int, DS.lexLt a b = HT.lexLt a b
  | [], [] => rfl
  | [], _ :: _ => rfl
  | _ :: _, [] => rfl
  | x :: xs, y :: ys => by rw [DS.lexLt, HT.lexLt_cons, lexLt_eq xs ys]
theorem o_ltF (hu : X.A.units < cLine) (hK : X.K = r.K := by rfl) : OpR X (compareOp .Lt) (rD r DS.ltF) := by
  intro pins s σ H x y v u Q I rx ry ⟨G, dx, dy, d, sub, hx, hy, e, q⟩
  cases dx with
  | int i =>
    cases dy with
    | int j =>
      rw [Rep] at hx; rw [Rep] at hy
      rw [DS.ltF] at e
      cases e
      exact op_lt pins s σ H x y v u Q I rx ry ⟨i, j, hx, hy, q _ H G (Ext.refl sub) (by rw [Rep])⟩
    | _ => simp [DS.ltF] at e
  | tup xs =>
    cases dy with
    | tup ys =>
      rw [Rep] at hx; rw [Rep] at hy
      obtain ⟨a, vs, ea, qa, la, ta⟩ := hx
      obtain ⟨b, ws, eb, qb, lb, tb⟩ := hy
      rw [DS.ltF] at e
      split at e
      · rename_i ns ms e1 e2
        cases e
        rw [ta.ints e1] at qa
        rw [tb.ints e2] at qb
        exact op_ltT hu pins s σ H x y v u Q I rx ry ⟨a, b, ns, ms, ea, eb, by rw [hK]; exact sub.seqT qa, by rw [hK]; exact sub.seqT qb, q _ H G (Ext.refl sub) (by rw [Rep, lexLt_eq])⟩
      · cases e
    | _ => simp [DS.ltF] at e
  | _ => simp [DS.ltF] at e
theorem o_leF (hu : X.A.units < cLine) : OpR X (compareOp .LtE) (rD r DS.leF) := opI0_D op_le fun dx dy d e => by
  cases dx with
  | int i =>
    cases dy with
    | int j => rw [DS.leF] at e; cases e; exact ⟨i, j, rfl, rfl, fun G => by rw [Rep]⟩
    | _ => simp [DS.leF] at e
  | _ => simp [DS.leF] at e
theorem o_gtF (hu : X.A.units < cLine) : OpR X (compareOp .Gt) (rD r DS.gtF) := opI0_D op_gt fun dx dy d e => by
  cases dx with
  | int i =>
    cases dy with
    | int j => rw [DS.gtF] at e; cases e; exact ⟨i, j, rfl, rfl, fun G => by rw [Rep]⟩
    | _ => simp [DS.gtF] at e
  | _ => simp [DS.gtF] at e
theorem i_ixD (hK : X.K = r.K := by rfl) : IxR X (rD r DS.ixD) := by
  intro value slice pins s σ H x y v u Q I rx ry ⟨G, dx, dy, d, sub, hx, hy, e, q⟩ hs
  cases dx with
  | lst xs =>
    cases dy with
    | int i =>
      rw [Rep] at hx; rw [Rep] at hy
      obtain ⟨a, vs, ea, qa, la, ta⟩ := hx
      have e' : DS.atI xs i = some d := e
      obtain ⟨z, z1, z2⟩ := ta.atI e'
      exact ix_list value slice pins s σ H x y v u Q I rx ry ⟨a, vs, i, z, ea, hy, by rw [hK]; exact sub.seq qa, z1, q _ H G (Ext.refl sub) z2⟩ hs
    | _ => simp [DS.ixD] at e
  | tup xs =>
    cases dy with
    | int i =>
      rw [Rep] at hx; rw [Rep] at hy
      obtain ⟨a, vs, ea, qa, la, ta⟩ := hx
      have e' : DS.atI xs i = some d := e
      obtain ⟨z, z1, z2⟩ := ta.atI e'
      exact ix_tup value slice pins s σ H x y v u Q I rx ry ⟨a, vs, i, z, ea, hy, by rw [hK]; exact sub.seqT qa, z1, q _ H G (Ext.refl sub) z2⟩ hs
    | _ => simp [DS.ixD] at e
  | _ => simp [DS.ixD] at e
theorem c_lenF (hK : X.K = r.K := by rfl) : CallR X (.builtin "len") (rDL r DS.lenF) := by
  intro pins s σ H xs us Q I rs ⟨G, ds, d, sub, hx, e, q⟩
  match ds, e with
  | [.lst ys], e =>
    obtain ⟨v, t, rfl, hv, ht⟩ := hx.cons_inv
    cases ht.nil_inv
    rw [Rep] at hv
    obtain ⟨a, vs, rfl, qa, la, ta⟩ := hv
    rw [DS.lenF] at e
    cases e
    exact call_len_seq pins s σ H _ us Q I rs ⟨a, vs, rfl, .inl (by rw [hK]; exact sub.seq qa), q _ H G (Ext.refl sub) (by rw [Rep, ta.length])⟩
  | [.tup ys], e =>
    obtain ⟨v, t, rfl, hv, ht⟩ := hx.cons_inv
    cases ht.nil_inv
    rw [Rep] at hv
    obtain ⟨a, vs, rfl, qa, la, ta⟩ := hv
    rw [DS.lenF] at e
    cases e
    exact call_len_seq pins s σ H _ us Q I rs ⟨a, vs, rfl, .inr (by rw [hK]; exact sub.seqT qa), q _ H G (Ext.refl sub) (by rw [Rep, ta.length])⟩
theorem c_lstF (hK : X.K = r.K := by rfl) : CallR X (.type "list") (rDL r DS.lstF) := by
  intro pins s σ H xs us Q I rs ⟨G, ds, d, sub, hx, e, q⟩
  match ds, e with
  | [.lst ys], e =>
    obtain ⟨v, t, rfl, hv, ht⟩ := hx.cons_inv
    cases ht.nil_inv
    rw [Rep] at hv
    obtain ⟨a, vs, rfl, qa, la, ta⟩ := hv
    rw [DS.lstF] at e
    cases e
    refine call_list_of pins s σ H _ us Q I rs ⟨a, vs, rfl, .inl (by rw [hK]; exact sub.seq qa), fun p hp => ?_⟩
    have ex := Ext.lay (o := .lst vs) sub hp
    refine q _ _ _ ex ?_
    rw [Rep]
    exact ⟨p, vs, rfl, SqL.of upd_same, la, ta.mono ex.view⟩
  | [.tup ys], e =>
    obtain ⟨v, t, rfl, hv, ht⟩ := hx.cons_inv
    cases ht.nil_inv
    rw [Rep] at hv
    obtain ⟨a, vs, rfl, qa, la, ta⟩ := hv
    rw [DS.lstF] at e
    cases e
    refine call_list_of pins s σ H _ us Q I rs ⟨a, vs, rfl, .inr (by rw [hK]; exact sub.seqT qa), fun p hp => ?_⟩
    have ex := Ext.lay (o := .lst vs) sub hp
    refine q _ _ _ ex ?_
    rw [Rep]
    exact ⟨p, vs, rfl, SqL.of upd_same, la, ta.mono ex.view⟩
theorem c_tupF (hK : X.K = r.K := by rfl) : CallR X (.type "tuple") (rDL r DS.tupF) := by
  intro pins s σ H xs us Q I rs ⟨G, ds, d, sub, hx, e, q⟩
  match ds, e with
  | [.lst ys], e =>
    obtain ⟨v, t, rfl, hv, ht⟩ := hx.cons_inv
    cases ht.nil_inv
    rw [Rep] at hv
    obtain ⟨a, vs, rfl, qa, la, ta⟩ := hv
    rw [DS.tupF] at e
    cases e
    refine call_tuple_of pins s σ H _ us Q I rs ⟨a, vs, rfl, .inl ⟨by rw [hK]; exact sub.seq qa, fun p hp => ?_⟩⟩
    have ex := Ext.lay (o := .tup vs) sub hp
    refine q _ _ _ ex ?_
    rw [Rep]
    exact ⟨p, vs, rfl, SqT.of upd_same, la, ta.mono ex.view⟩
  | [.tup ys], e =>
    obtain ⟨v, t, rfl, hv, ht⟩ := hx.cons_inv
    cases ht.nil_inv
    have hv' := hv
    rw [Rep] at hv
    obtain ⟨a, vs, rfl, qa, la, ta⟩ := hv
    rw [DS.tupF] at e
    cases e
    exact call_tuple_of pins s σ H _ us Q I rs ⟨a, vs, rfl, .inr ⟨by rw [hK]; exact sub.seqT qa, q _ H G (Ext.refl sub) hv'⟩⟩
theorem boolsAre_of : ∀ {bs : List Bool} {us : List Value}, Vals (bs.map V.bl) us → LSm.BoolsAre us bs
  | [], _, h => by cases h; exact .nil
  | b :: bs, _, h => by
    cases h with
    | cons r t => cases r; exact .cons _ (boolsAre_of t)
theorem c_allF (hc : X.calm = true) (hK : X.K = r.K := by rfl) : CallR X (.builtin "all") (rDL r DS.allF) := by
  intro pins s σ H xs us Q I rs ⟨G, ds, d, sub, hx, e, q⟩
  match ds, e with
  | [.lst ys], e =>
    obtain ⟨v, t, rfl, hv, ht⟩ := hx.cons_inv
    cases ht.nil_inv
    rw [Rep] at hv
    obtain ⟨a, vs, rfl, qa, la, ta⟩ := hv
    rw [DS.allF] at e
    obtain ⟨bs, e1, rfl⟩ := Option.map_eq_some_iff.mp e
    have ev := ta.bools e1
    obtain ⟨u, rfl, rx⟩ := vals1 rs
    cases rx
    obtain ⟨its, r1, p1, _⟩ := I.list (xs := vs) (by rw [hK]; exact sub.seq qa)
    have hb : LSm.BoolsAre its bs := boolsAre_of (by rw [← ev]; exact r1)
    have hl := p1.isList
    have hlt : a < s.heap.objs.size := by obtain ⟨_, e, _⟩ := hl; exact Heap.lt_size e
    refine call_all_walk (wpAny_pyIter_list hl ?_)
    refine ⟨s.heap.objs.size, [s.heap.objs.size, a], [s.heap.objs.size], its.toArray.size, _, _, fun i => (bs[i]?).getD true, rfl, Walks.list (A := X.A.in1) (I.ok.hd hc) _ a (Nat.ne_of_lt hlt) its.toArray,
      ⟨⟨_, Heap.get?_push_size _ rfl, rfl, rfl⟩, hl.push _⟩, fun i v s' Q' E' hP hQ => ?_, fun h' tk hk => ?_⟩
    · obtain ⟨b, e, rfl⟩ := hb.get i v (by simpa using hP)
      simp only [e, Option.getD_some] at hQ
      exact wpAny_truthy_bool hQ
    · have e : ((List.range its.toArray.size).all fun i => (bs[i]?).getD true) = bs.all id := by
        rw [List.size_toArray, hb.length]; exact LSm.range_all bs
      rw [e]
      exact ⟨.bl (bs.all id), H, I.kept (LSm.kept_iter hk), rfl, q _ H G (Ext.refl sub) (by rw [Rep])⟩
end
end L2
namespace L2
open PySem PySem.Spec PyProof.Rows
open DS (D Sl Rho R M FS O Tg)
def sc : D → Option V
  | .non => some .non
  | .bl b => some (.bl b)
  | .int i => some (.int i)
  | .str x => some (.str x)
  | _ => none
theorem sc_rep {r : Rc} {G : Hp} {d : D} {v w : V} (h : sc d = some w) (q : Rep r G d v) : v = w := by
  cases d <;> simp [sc] at h <;> rw [Rep] at q <;> rw [q, h]
theorem sc_inj {d e : D} {w : V} (h : sc d = some w) (h' : sc e = some w) : d = e := by
  cases d <;> simp [sc] at h <;> subst h <;> cases e <;> simp [sc] at h' <;> simp [h']
section
variable {X : Cx} {r : Rc} {pins : List (Addr × Obj)} {σ : St} {H G : Hp} {s : Shared}
theorem no_lt {a : Addr} {xs ys : List V} (I : Inv X pins σ H s) (h : SqL X.K H a xs) (h' : SqT X.K H a ys) : False := by
  obtain ⟨_, _, ⟨o, n, e, c, _⟩, _⟩ := I.list h
  obtain ⟨_, _, ⟨o', e', c', _⟩, _⟩ := I.tuple h'
  rw [e] at e'; cases e'
  rw [c] at c'
  injection c' with z
  exact absurd z (by decide)
mutual
theorem Rep.inj (I : Inv X pins σ H s) (hK : X.K = r.K) (sub : Same G H) : ∀ {d e : D} {v : V}, (DS.dep d).isSome = true → (DS.dep e).isSome = true → Rep r G d v → Rep r G e v → d = e
  | .non, e, v, _, he, hd, h => sc_fin I hK (d := .non) rfl he hd h
  | .bl b, e, v, _, he, hd, h => sc_fin I hK (d := .bl b) rfl he hd h
  | .int i, e, v, _, he, hd, h => sc_fin I hK (d := .int i) rfl he hd h
  | .str x, e, v, _, he, hd, h => sc_fin I hK (d := .str x) rfl he hd h
  | .lst xs, e, v, dd, he, hd, h => by
    rw [Rep] at hd
    obtain ⟨a, vs, rfl, qa, la, ta⟩ := hd
    cases e with
    | lst ys =>
      rw [Rep] at h
      obtain ⟨b, ws, eb, qb, lb, tb⟩ := h
      cases eb
      have := I.list_inj (by rw [hK]; exact sub.seq qa) (by rw [hK]; exact sub.seq qb)
      subst this
      rw [DS.dep] at dd he
      rw [Reps.inj I hK sub (by simpa using dd) (by simpa using he) ta tb]
    | tup ys =>
      rw [Rep] at h
      obtain ⟨b, ws, eb, qb, lb, tb⟩ := h
      cases eb
      exact (no_lt I (by rw [hK]; exact sub.seq qa) (by rw [hK]; exact sub.seqT qb)).elim
    | set _ => simp [DS.dep] at he
    | exc _ => simp [DS.dep] at he
    | _ => rw [Rep] at h; cases h
  | .tup xs, e, v, dd, he, hd, h => by
    rw [Rep] at hd
    obtain ⟨a, vs, rfl, qa, la, ta⟩ := hd
    cases e with
    | tup ys =>
      rw [Rep] at h
      obtain ⟨b, ws, eb, qb, lb, tb⟩ := h
      cases eb
      have := I.tuple_inj (by rw [hK]; exact sub.seqT qa) (by rw [hK]; exact sub.seqT qb)
      subst this
      rw [DS.dep] at dd he
      rw [Reps.inj I hK sub (by simpa using dd) (by simpa using he) ta tb]
    | lst ys =>
      rw [Rep] at h
      obtain ⟨b, ws, eb, qb, lb, tb⟩ := h
      cases eb
      exact (no_lt I (by rw [hK]; exact sub.seq qb) (by rw [hK]; exact sub.seqT qa)).elim
    | set _ => simp [DS.dep] at he
    | exc _ => simp [DS.dep] at he
    | _ => rw [Rep] at h; cases h
  | .set _, _, _, dd, _, _, _ => by simp [DS.dep] at dd
  | .exc _, _, _, dd, _, _, _ => by simp [DS.dep] at dd
theorem sc_fin (I : Inv X pins σ H s) (hK : X.K = r.K) {d e : D} {v w : V} (h : sc d = some w) (he : (DS.dep e).isSome = true) (hd : Rep r G d v) (h' : Rep r G e v) : d = e := by
  have := sc_rep h hd
  subst this
  cases q : sc e with
  | some w' => rw [sc_rep q h'] at h; exact sc_inj h q
  | none =>
    cases e with
    | lst ys => rw [Rep] at h'; obtain ⟨b, ws, rfl, _⟩ := h'; cases d <;> simp [sc] at h
    | tup ys => rw [Rep] at h'; obtain ⟨b, ws, rfl, _⟩ := h'; cases d <;> simp [sc] at h
    | set _ => simp [DS.dep] at he
    | exc _ => simp [DS.dep] at he
    | _ => simp [sc] at q
theorem Reps.inj (I : Inv X pins σ H s) (hK : X.K = r.K) (sub : Same G H) : ∀ {ds es : List D} {vs : List V}, (DS.deps ds).isSome = true → (DS.deps es).isSome = true → Reps r G ds vs → Reps r G es vs → ds = es
  | [], es, vs, _, _, h, h' => by
    rw [h.nil_inv] at h'
    cases es with
    | nil => rfl
    | cons _ _ => obtain ⟨_, _, e, _⟩ := h'.cons_inv; cases e
  | d :: ds, es, vs, dd, de, h, h' => by
    obtain ⟨v, t, rfl, q, z⟩ := h.cons_inv
    cases es with
    | nil => have := h'.nil_inv; cases this
    | cons e es =>
      obtain ⟨v', t', e', q', z'⟩ := h'.cons_inv
      cases e'
      rw [DS.deps] at dd de
      have d1 : (DS.dep d).isSome = true ∧ (DS.deps ds).isSome = true := by
        cases h1 : DS.dep d <;> cases h2 : DS.deps ds <;> simp [h1, h2] at dd ⊢
      have d2 : (DS.dep e).isSome = true ∧ (DS.deps es).isSome = true := by
        cases h1 : DS.dep e <;> cases h2 : DS.deps es <;> simp [h1, h2] at de ⊢
      rw [Rep.inj I hK sub d1.1 d2.1 q q', Reps.inj I hK sub d1.2 d2.2 z z']
end
theorem deps_get {ds : List D} {n : Nat} (h : DS.deps ds = some n) {i : Nat} {d : D} (e : ds[i]? = some d) : ∃ k, DS.dep d = some k ∧ k ≤ n := by
  induction ds generalizing n i with
  | nil => simp at e
  | cons x xs ih =>
    rw [DS.deps] at h
    cases h1 : DS.dep x with
    | none => simp [h1] at h
    | some a =>
      cases h2 : DS.deps xs with
      | none => simp [h1, h2] at h
      | some b =>
        simp [h1, h2] at h
        cases i with
        | zero => simp at e; subst e; exact ⟨a, h1, by omega⟩
        | succ i =>
          obtain ⟨k, q1, q2⟩ := ih h2 (i := i) (by simpa using e)
          exact ⟨k, q1, by omega⟩
theorem eqDs_range : ∀ (ds es : List D), DS.eqDs ds es = ((List.range (min ds.length es.length)).all (fun j => DS.eqD (ds.getD j .non) (es.getD j .non)) && (ds.length == es.length))
  | [], [] => by simp [DS.eqDs]
  | [], _ :: _ => by simp [DS.eqDs]
  | _ :: _, [] => by simp [DS.eqDs]
  | x :: xs, y :: ys => by
    have ih := eqDs_range xs ys
    rw [DS.eqDs, ih]
    simp only [List.length_cons]
    rw [show min (xs.length + 1) (ys.length + 1) = min xs.length ys.length + 1 by omega, List.range_succ_eq_map, List.all_cons, List.all_map]
    have e2 : (xs.length + 1 == ys.length + 1) = (xs.length == ys.length) := by
      by_cases h : xs.length = ys.length <;> simp [h]
    rw [e2, ← Bool.and_assoc]
    rfl
theorem eq_items {A : Around} {ds es : List D} {vs ws : List V} {its its2 : List Value} (td : Reps r G ds vs) (te : Reps r G es ws) (r1 : Vals vs its) (r2 : Vals ws its2)
    (ih : ∀ (i : Nat) d e x y u v, ds[i]? = some d → es[i]? = some e → Rep r G d x → Rep r G e y → RelV x u → RelV y v → SeqAt.EqAt A s u v (DS.eqD d e)) :
    ∀ j (h1 : j < its.toArray.size) (h2 : j < its2.toArray.size), SeqAt.EqAt A s its.toArray[j] its2.toArray[j] (DS.eqD (ds.getD j .non) (es.getD j .non)) := fun j h1 h2 => by
  have l1 := r1.length
  have l2 := r2.length
  simp only [List.size_toArray] at h1 h2
  have v1 : vs[j]? = some vs[j] := by simp [show j < vs.length by omega]
  have v2 : ws[j]? = some ws[j] := by simp [show j < ws.length by omega]
  obtain ⟨d, d1, d2⟩ := td.get_of v1
  obtain ⟨e, e1, e2⟩ := te.get_of v2
  obtain ⟨u, u1, u2⟩ := r1.get v1
  obtain ⟨w, w1, w2⟩ := r2.get v2
  have f1 : its.toArray[j] = u := by
    have := List.getElem?_eq_some_iff.mp u1
    obtain ⟨_, q⟩ := this
    simpa using q
  have f2 : its2.toArray[j] = w := by
    have := List.getElem?_eq_some_iff.mp w1
    obtain ⟨_, q⟩ := this
    simpa using q
  rw [f1, f2, List.getD_eq_getElem?_getD, List.getD_eq_getElem?_getD, d1, e1]
  exact ih j d e _ _ u w d1 e1 d2 e2 u2 w2
theorem seqs_eq {ds es : List D} {its its2 : List Value} (l1 : ds.length = its.length) (l2 : es.length = its2.length) : ((List.range (min its.toArray.size its2.toArray.size)).all (fun j => DS.eqD (ds.getD j .non) (es.getD j .non)) && its.toArray.size == its2.toArray.size) = DS.eqDs ds es := by
  rw [eqDs_range, List.size_toArray, List.size_toArray, l1, l2]
theorem lists_eq {ds es : List D} {its its2 : List Value} (l1 : ds.length = its.length) (l2 : es.length = its2.length) (hsz : its.toArray.size = its2.toArray.size) : (List.range its.toArray.size).all (fun j => DS.eqD (ds.getD j .non) (es.getD j .non)) = DS.eqDs ds es := by
  rw [List.size_toArray, List.size_toArray] at hsz
  rw [eqDs_range, List.size_toArray, l1, l2, hsz, Nat.min_self]
  simp
theorem lists_ne {ds es : List D} {its its2 : List Value} (l1 : ds.length = its.length) (l2 : es.length = its2.length) (hsz : ¬ its.toArray.size = its2.toArray.size) : DS.eqDs ds es = false := by
  rw [List.size_toArray, List.size_toArray] at hsz
  rw [eqDs_range, l1, l2]
  simp [hsz]
theorem eqAt_D (I : Inv X pins σ H s) (hK : X.K = r.K) (sub : Same G H) : ∀ (n : Nat) (d e : D) (k : Nat), DS.dep d = some k → k ≤ n → (DS.dep e).isSome = true → ∀ (A : Around) (x y : V) (u v : Value), A.units + n < cLine → Rep r G d x → Rep r G e y → RelV x u → RelV y v → SeqAt.EqAt A s u v (DS.eqD d e) := by
  intro n
  induction n with
  | zero =>
    intro d e k hd hk he A x y u v hu hx hy rx ry
    have hu0 : A.units < cLine := by omega
    have lst0 : ∀ {xs : List D} {y : V} {v : Value}, Rep r G (.lst xs) y → RelV y v → ∃ a items, v = .ref a ∧ s.heap.IsList a items := fun h q => by
      rw [Rep] at h
      obtain ⟨a, vs, rfl, qa, _⟩ := h
      cases q
      obtain ⟨its, _, p, _⟩ := I.list (by rw [hK]; exact sub.seq qa)
      exact ⟨a, _, rfl, p.isList⟩
    have tup0 : ∀ {xs : List D} {y : V} {v : Value}, Rep r G (.tup xs) y → RelV y v → ∃ a items, v = .ref a ∧ s.heap.IsTuple a items := fun h q => by
      rw [Rep] at h
      obtain ⟨a, vs, rfl, qa, _⟩ := h
      cases q
      obtain ⟨its, _, p, _⟩ := I.tuple (by rw [hK]; exact sub.seqT qa)
      exact ⟨a, _, rfl, p⟩
    cases d with
    | non =>
      rw [Rep] at hx; subst hx; cases rx
      cases e with
      | non => rw [Rep] at hy; subst hy; cases ry; rw [DS.eqD]; exact .same _
      | bl b => rw [Rep] at hy; subst hy; cases ry; exact .none_bool b
      | int i => rw [Rep] at hy; subst hy; obtain ⟨t, rfl⟩ := ry; exact .none_int i t
      | str i => rw [Rep] at hy; subst hy; obtain ⟨t, rfl⟩ := ry; exact .none_str i t
      | lst _ => obtain ⟨a, its, rfl, h⟩ := lst0 hy ry; exact .none_list h hu0
      | tup _ => obtain ⟨a, its, rfl, h⟩ := tup0 hy ry; exact .none_tuple h hu0
      | set _ => simp [DS.dep] at he
      | exc _ => simp [DS.dep] at he
    | bl b =>
      rw [Rep] at hx; subst hx; cases rx
      cases e with
      | non => rw [Rep] at hy; subst hy; cases ry; exact .bool_none b
      | bl b' => rw [Rep] at hy; subst hy; cases ry; rw [DS.eqD]; exact .bool_bool b b'
      | int i => rw [Rep] at hy; subst hy; obtain ⟨t, rfl⟩ := ry; rw [DS.eqD]; exact .bool_int b i t
      | str i => rw [Rep] at hy; subst hy; obtain ⟨t, rfl⟩ := ry; exact .bool_str b i t
      | lst _ => obtain ⟨a, its, rfl, h⟩ := lst0 hy ry; exact .bool_list b h hu0
      | tup _ => obtain ⟨a, its, rfl, h⟩ := tup0 hy ry; exact .bool_tuple b h hu0
      | set _ => simp [DS.dep] at he
      | exc _ => simp [DS.dep] at he
    | int i =>
      rw [Rep] at hx; subst hx; obtain ⟨t0, rfl⟩ := rx
      cases e with
      | non => rw [Rep] at hy; subst hy; cases ry; exact .int_none i t0
      | bl b' => rw [Rep] at hy; subst hy; cases ry; rw [DS.eqD]; exact .int_bool i t0 b'
      | int j => rw [Rep] at hy; subst hy; obtain ⟨t, rfl⟩ := ry; rw [DS.eqD]; exact .int_int i t0 j t
      | str j => rw [Rep] at hy; subst hy; obtain ⟨t, rfl⟩ := ry; exact .int_str i t0 j t
      | lst _ => obtain ⟨a, its, rfl, h⟩ := lst0 hy ry; exact .int_list i t0 h hu0
      | tup _ => obtain ⟨a, its, rfl, h⟩ := tup0 hy ry; exact .int_tuple i t0 h hu0
      | set _ => simp [DS.dep] at he
      | exc _ => simp [DS.dep] at he
    | str i =>
      rw [Rep] at hx; subst hx; obtain ⟨t0, rfl⟩ := rx
      cases e with
      | non => rw [Rep] at hy; subst hy; cases ry; exact .str_none i t0
      | bl b' => rw [Rep] at hy; subst hy; cases ry; exact .str_bool i t0 b'
      | int j => rw [Rep] at hy; subst hy; obtain ⟨t, rfl⟩ := ry; exact .str_int i t0 j t
      | str j => rw [Rep] at hy; subst hy; obtain ⟨t, rfl⟩ := ry; rw [DS.eqD]; exact .str_str i t0 j t
      | lst _ => obtain ⟨a, its, rfl, h⟩ := lst0 hy ry; exact .str_list i t0 h hu0
      | tup _ => obtain ⟨a, its, rfl, h⟩ := tup0 hy ry; exact .str_tuple i t0 h hu0
      | set _ => simp [DS.dep] at he
      | exc _ => simp [DS.dep] at he
    | lst xs => rw [DS.dep] at hd; obtain ⟨m, _, rfl⟩ := Option.map_eq_some_iff.mp hd; omega
    | tup xs => rw [DS.dep] at hd; obtain ⟨m, _, rfl⟩ := Option.map_eq_some_iff.mp hd; omega
    | set _ => simp [DS.dep] at hd
    | exc _ => simp [DS.dep] at hd
  | succ n ih =>
    intro d e k hd hk he A x y u v hu hx hy rx ry
    by_cases hk0 : k ≤ n
    · exact ih d e k hd hk0 he A x y u v (by omega) hx hy rx ry
    have hu0 : A.units < cLine := by omega
    have hu1 : A.in1.units + n < cLine := by show A.units + 1 + n < cLine; omega
    cases d with
    | lst xs =>
      rw [DS.dep] at hd
      obtain ⟨m, hm, rfl⟩ := Option.map_eq_some_iff.mp hd
      have hx' := hx
      rw [Rep] at hx
      obtain ⟨a, vs, rfl, qa, la, ta⟩ := hx
      cases rx
      obtain ⟨its, r1, p1, _⟩ := I.list (by rw [hK]; exact sub.seq qa)
      cases e with
      | non => rw [Rep] at hy; subst hy; cases ry; exact .list_none p1.isList hu0
      | bl b => rw [Rep] at hy; subst hy; cases ry; exact .list_bool b p1.isList hu0
      | int i => rw [Rep] at hy; subst hy; obtain ⟨t, rfl⟩ := ry; exact .list_int i t p1.isList hu0
      | str i => rw [Rep] at hy; subst hy; obtain ⟨t, rfl⟩ := ry; exact .list_str i t p1.isList hu0
      | tup ys =>
        rw [Rep] at hy
        obtain ⟨b, ws, rfl, qb, lb, tb⟩ := hy
        cases ry
        obtain ⟨its2, r2, p2, _⟩ := I.tuple (by rw [hK]; exact sub.seqT qb)
        exact .list_tuple p1.isList p2 hu0
      | lst ys =>
        have hy' := hy
        rw [Rep] at hy
        obtain ⟨b, ws, rfl, qb, lb, tb⟩ := hy
        cases ry
        obtain ⟨its2, r2, p2, _⟩ := I.list (by rw [hK]; exact sub.seq qb)
        have l1 := ta.length.trans r1.length
        have l2 := tb.length.trans r2.length
        by_cases hab : a = b
        · subst hab
          have hdd : (DS.dep (.lst xs)).isSome = true := by rw [DS.dep, hm]; rfl
          have hq := Rep.inj I hK sub hdd he hx' hy'
          rw [← hq, DS.eqD_refl _ hdd]
          exact .same _
        · rw [DS.eqD]
          rw [DS.dep] at he
          by_cases hsz : its.toArray.size = its2.toArray.size
          · rw [← lists_eq l1 l2 hsz]
            refine .of_refs hab (.lists p1.isList p2.isList hsz hu0 (eq_items ta tb r1 r2 fun i d e x y u v e1 e2 q1 q2 q3 q4 => ?_))
            obtain ⟨k', z1, z2⟩ := deps_get hm e1
            obtain ⟨m2, hm2⟩ := Option.isSome_iff_exists.mp (show (DS.deps ys).isSome = true by simpa using he)
            obtain ⟨k2, z3, _⟩ := deps_get hm2 e2
            exact ih d e k' z1 (by omega) (by rw [z3]; rfl) A.in1 x y u v hu1 q1 q2 q3 q4
          · rw [lists_ne l1 l2 hsz]
            exact .of_refs hab (.lists_lengths p1.isList p2.isList (by simpa using hsz) hu0)
      | set _ => simp [DS.dep] at he
      | exc _ => simp [DS.dep] at he
    | tup xs =>
      rw [DS.dep] at hd
      obtain ⟨m, hm, rfl⟩ := Option.map_eq_some_iff.mp hd
      have hx' := hx
      rw [Rep] at hx
      obtain ⟨a, vs, rfl, qa, la, ta⟩ := hx
      cases rx
      obtain ⟨its, r1, p1, _⟩ := I.tuple (by rw [hK]; exact sub.seqT qa)
      cases e with
      | non => rw [Rep] at hy; subst hy; cases ry; exact .tuple_none p1 hu0
      | bl b => rw [Rep] at hy; subst hy; cases ry; exact .tuple_bool b p1 hu0
      | int i => rw [Rep] at hy; subst hy; obtain ⟨t, rfl⟩ := ry; exact .tuple_int i t p1 hu0
      | str i => rw [Rep] at hy; subst hy; obtain ⟨t, rfl⟩ := ry; exact .tuple_str i t p1 hu0
      | lst ys =>
        rw [Rep] at hy
        obtain ⟨b, ws, rfl, qb, lb, tb⟩ := hy
        cases ry
        obtain ⟨its2, r2, p2, _⟩ := I.list (by rw [hK]; exact sub.seq qb)
        exact .tuple_list p1 p2.isList hu0
      | tup ys =>
        have hy' := hy
        rw [Rep] at hy
        obtain ⟨b, ws, rfl, qb, lb, tb⟩ := hy
        cases ry
        obtain ⟨its2, r2, p2, _⟩ := I.tuple (by rw [hK]; exact sub.seqT qb)
        have l1 := ta.length.trans r1.length
        have l2 := tb.length.trans r2.length
        by_cases hab : a = b
        · subst hab
          have hdd : (DS.dep (.tup xs)).isSome = true := by rw [DS.dep, hm]; rfl
          have hq := Rep.inj I hK sub hdd he hx' hy'
          rw [← hq, DS.eqD_refl _ hdd]
          exact .same _
        · rw [DS.eqD, ← seqs_eq l1 l2]
          rw [DS.dep] at he
          refine .of_refs hab (.tuples p1 p2 hu0 (eq_items ta tb r1 r2 fun i d e x y u v e1 e2 q1 q2 q3 q4 => ?_))
          obtain ⟨k', z1, z2⟩ := deps_get hm e1
          obtain ⟨m2, hm2⟩ := Option.isSome_iff_exists.mp (show (DS.deps ys).isSome = true by simpa using he)
          obtain ⟨k2, z3, _⟩ := deps_get hm2 e2
          exact ih d e k' z1 (by omega) (by rw [z3]; rfl) A.in1 x y u v hu1 q1 q2 q3 q4
      | set _ => simp [DS.dep] at he
      | exc _ => simp [DS.dep] at he
    | set _ => simp [DS.dep] at hd
    | exc _ => simp [DS.dep] at hd
    | _ => simp [DS.dep] at hd; omega
theorem eqOk_inv {d : D} (h : DS.eqOk d = true) : ∃ k, DS.dep d = some k ∧ k ≤ 20 := by
  unfold DS.eqOk at h
  split at h
  · rename_i n e; exact ⟨n, e, by simpa using h⟩
  · cases h
theorem rcAt_D (I : Inv X pins σ H s) (hK : X.K = r.K) (sub : Same G H) {d e : D} {k : Nat} (hd : DS.dep d = some k) (hk : k ≤ 20) (he : (DS.dep e).isSome = true) {A : Around} {x y : V} {u v : Value} (hu : A.units + 64 < cLine) (hx : Rep r G d x) (hy : Rep r G e y) (rx : RelV x u) (ry : RelV y v) : SeqAt.RcAt A s u v (DS.eqD d e) := by
  have hu0 : A.units < cLine := by omega
  have hu1 : A.in1.units + 20 < cLine := by show A.units + 1 + 20 < cLine; omega
  have lst0 : ∀ {xs : List D} {y : V} {v : Value}, Rep r G (.lst xs) y → RelV y v → ∃ a items, v = .ref a ∧ s.heap.IsList a items := fun h q => by
    rw [Rep] at h
    obtain ⟨a, vs, rfl, qa, _⟩ := h
    cases q
    obtain ⟨its, _, p, _⟩ := I.list (by rw [hK]; exact sub.seq qa)
    exact ⟨a, _, rfl, p.isList⟩
  have tup0 : ∀ {xs : List D} {y : V} {v : Value}, Rep r G (.tup xs) y → RelV y v → ∃ a items, v = .ref a ∧ s.heap.IsTuple a items := fun h q => by
    rw [Rep] at h
    obtain ⟨a, vs, rfl, qa, _⟩ := h
    cases q
    obtain ⟨its, _, p, _⟩ := I.tuple (by rw [hK]; exact sub.seqT qa)
    exact ⟨a, _, rfl, p⟩
  cases d with
  | non =>
    rw [Rep] at hx; subst hx; cases rx
    cases e with
    | non => rw [Rep] at hy; subst hy; cases ry; rw [DS.eqD]; exact .none_none  
    | bl b' => rw [Rep] at hy; subst hy; cases ry; exact .none_bool  b'
    | int j => rw [Rep] at hy; subst hy; obtain ⟨t, rfl⟩ := ry; exact .none_int  j t
    | str j => rw [Rep] at hy; subst hy; obtain ⟨t, rfl⟩ := ry; exact .none_str  j t
    | lst _ => obtain ⟨a, its, rfl, h⟩ := lst0 hy ry; exact .none_list  h hu0
    | tup _ => obtain ⟨a, its, rfl, h⟩ := tup0 hy ry; exact .none_tuple  h hu0
    | set _ => simp [DS.dep] at he
    | exc _ => simp [DS.dep] at he
  | bl b =>
    rw [Rep] at hx; subst hx; cases rx
    cases e with
    | non => rw [Rep] at hy; subst hy; cases ry; exact .bool_none b 
    | bl b' => rw [Rep] at hy; subst hy; cases ry; rw [DS.eqD]; exact .bool_bool b b'
    | int j => rw [Rep] at hy; subst hy; obtain ⟨t, rfl⟩ := ry; rw [DS.eqD]; exact .bool_int b j t
    | str j => rw [Rep] at hy; subst hy; obtain ⟨t, rfl⟩ := ry; exact .bool_str b j t
    | lst _ => obtain ⟨a, its, rfl, h⟩ := lst0 hy ry; exact .bool_list b h hu0
    | tup _ => obtain ⟨a, its, rfl, h⟩ := tup0 hy ry; exact .bool_tuple b h hu0
    | set _ => simp [DS.dep] at he
    | exc _ => simp [DS.dep] at he
  | int i =>
    rw [Rep] at hx; subst hx; obtain ⟨t0, rfl⟩ := rx
    cases e with
    | non => rw [Rep] at hy; subst hy; cases ry; exact .int_none i t0 
    | bl b' => rw [Rep] at hy; subst hy; cases ry; rw [DS.eqD]; exact .int_bool i t0 b'
    | int j => rw [Rep] at hy; subst hy; obtain ⟨t, rfl⟩ := ry; rw [DS.eqD]; exact .int_int i t0 j t
    | str j => rw [Rep] at hy; subst hy; obtain ⟨t, rfl⟩ := ry; exact .int_str i t0 j t
    | lst _ => obtain ⟨a, its, rfl, h⟩ := lst0 hy ry; exact .int_list i t0 h hu0
    | tup _ => obtain ⟨a, its, rfl, h⟩ := tup0 hy ry; exact .int_tuple i t0 h hu0
    | set _ => simp [DS.dep] at he
    | exc _ => simp [DS.dep] at he
  | str i =>
    rw [Rep] at hx; subst hx; obtain ⟨t0, rfl⟩ := rx
    cases e with
    | non => rw [Rep] at hy; subst hy; cases ry; exact .str_none i t0 
    | bl b' => rw [Rep] at hy; subst hy; cases ry; exact .str_bool i t0 b'
    | int j => rw [Rep] at hy; subst hy; obtain ⟨t, rfl⟩ := ry; exact .str_int i t0 j t
    | str j => rw [Rep] at hy; subst hy; obtain ⟨t, rfl⟩ := ry; rw [DS.eqD]; exact .str_str i t0 j t
    | lst _ => obtain ⟨a, its, rfl, h⟩ := lst0 hy ry; exact .str_list i t0 h hu0
    | tup _ => obtain ⟨a, its, rfl, h⟩ := tup0 hy ry; exact .str_tuple i t0 h hu0
    | set _ => simp [DS.dep] at he
    | exc _ => simp [DS.dep] at he
  | lst xs =>
    rw [DS.dep] at hd
    obtain ⟨m, hm, rfl⟩ := Option.map_eq_some_iff.mp hd
    rw [Rep] at hx
    obtain ⟨a, vs, rfl, qa, la, ta⟩ := hx
    cases rx
    obtain ⟨its, r1, p1, _⟩ := I.list (by rw [hK]; exact sub.seq qa)
    cases e with
    | non => rw [Rep] at hy; subst hy; cases ry; exact .list_none  p1.isList hu0
    | bl b' => rw [Rep] at hy; subst hy; cases ry; exact .list_bool b' p1.isList hu0
    | int j => rw [Rep] at hy; subst hy; obtain ⟨t, rfl⟩ := ry; exact .list_int j t p1.isList hu0
    | str j => rw [Rep] at hy; subst hy; obtain ⟨t, rfl⟩ := ry; exact .list_str j t p1.isList hu0
    | tup ys => obtain ⟨b, its2, rfl, h⟩ := tup0 hy ry; exact .list_tuple p1.isList h hu0
    | lst ys =>
      rw [Rep] at hy
      obtain ⟨b, ws, rfl, qb, lb, tb⟩ := hy
      cases ry
      obtain ⟨its2, r2, p2, _⟩ := I.list (by rw [hK]; exact sub.seq qb)
      have l1 := ta.length.trans r1.length
      have l2 := tb.length.trans r2.length
      rw [DS.dep] at he
      have items := eq_items (A := A.in1) ta tb r1 r2 fun i d e x y u v e1 e2 q1 q2 q3 q4 => by
        obtain ⟨k', z1, z2⟩ := deps_get hm e1
        obtain ⟨m2, hm2⟩ := Option.isSome_iff_exists.mp (show (DS.deps ys).isSome = true by simpa using he)
        obtain ⟨k2, z3, _⟩ := deps_get hm2 e2
        exact eqAt_D I hK sub 20 d e k' z1 (by omega) (by rw [z3]; rfl) A.in1 x y u v hu1 q1 q2 q3 q4
      rw [DS.eqD]
      by_cases hsz : its.toArray.size = its2.toArray.size
      · rw [← lists_eq l1 l2 hsz]
        exact .lists p1.isList p2.isList hsz hu0 items
      · rw [lists_ne l1 l2 hsz]
        exact .lists_lengths p1.isList p2.isList (by simpa using hsz) hu0
    | set _ => simp [DS.dep] at he
    | exc _ => simp [DS.dep] at he
  | tup xs =>
    rw [DS.dep] at hd
    obtain ⟨m, hm, rfl⟩ := Option.map_eq_some_iff.mp hd
    rw [Rep] at hx
    obtain ⟨a, vs, rfl, qa, la, ta⟩ := hx
    cases rx
    obtain ⟨its, r1, p1, _⟩ := I.tuple (by rw [hK]; exact sub.seqT qa)
    cases e with
    | non => rw [Rep] at hy; subst hy; cases ry; exact .tuple_none  p1 hu0
    | bl b' => rw [Rep] at hy; subst hy; cases ry; exact .tuple_bool b' p1 hu0
    | int j => rw [Rep] at hy; subst hy; obtain ⟨t, rfl⟩ := ry; exact .tuple_int j t p1 hu0
    | str j => rw [Rep] at hy; subst hy; obtain ⟨t, rfl⟩ := ry; exact .tuple_str j t p1 hu0
    | lst ys => obtain ⟨b, its2, rfl, h⟩ := lst0 hy ry; exact .tuple_list p1 h hu0
    | tup ys =>
      rw [Rep] at hy
      obtain ⟨b, ws, rfl, qb, lb, tb⟩ := hy
      cases ry
      obtain ⟨its2, r2, p2, _⟩ := I.tuple (by rw [hK]; exact sub.seqT qb)
      have l1 := ta.length.trans r1.length
      have l2 := tb.length.trans r2.length
      rw [DS.dep] at he
      have items := eq_items (A := A.in1) ta tb r1 r2 fun i d e x y u v e1 e2 q1 q2 q3 q4 => by
        obtain ⟨k', z1, z2⟩ := deps_get hm e1
        obtain ⟨m2, hm2⟩ := Option.isSome_iff_exists.mp (show (DS.deps ys).isSome = true by simpa using he)
        obtain ⟨k2, z3, _⟩ := deps_get hm2 e2
        exact eqAt_D I hK sub 20 d e k' z1 (by omega) (by rw [z3]; rfl) A.in1 x y u v hu1 q1 q2 q3 q4
      rw [DS.eqD]
      rw [← seqs_eq l1 l2]
      exact .tuples p1 p2 hu0 items
    | set _ => simp [DS.dep] at he
    | exc _ => simp [DS.dep] at he
  | set _ => simp [DS.dep] at hd
  | exc _ => simp [DS.dep] at hd
theorem rcNe_D (I : Inv X pins σ H s) (hK : X.K = r.K) (sub : Same G H) {d e : D} {k : Nat} (hd : DS.dep d = some k) (hk : k ≤ 20) (he : (DS.dep e).isSome = true) {A : Around} {x y : V} {u v : Value} (hu : A.units + 64 < cLine) (hx : Rep r G d x) (hy : Rep r G e y) (rx : RelV x u) (ry : RelV y v) : SeqAt.RcNeAt A s u v (!DS.eqD d e) := by
  have hu0 : A.units < cLine := by omega
  have hu1 : A.in1.units + 20 < cLine := by show A.units + 1 + 20 < cLine; omega
  have lst0 : ∀ {xs : List D} {y : V} {v : Value}, Rep r G (.lst xs) y → RelV y v → ∃ a items, v = .ref a ∧ s.heap.IsList a items := fun h q => by
    rw [Rep] at h
    obtain ⟨a, vs, rfl, qa, _⟩ := h
    cases q
    obtain ⟨its, _, p, _⟩ := I.list (by rw [hK]; exact sub.seq qa)
    exact ⟨a, _, rfl, p.isList⟩
  have tup0 : ∀ {xs : List D} {y : V} {v : Value}, Rep r G (.tup xs) y → RelV y v → ∃ a items, v = .ref a ∧ s.heap.IsTuple a items := fun h q => by
    rw [Rep] at h
    obtain ⟨a, vs, rfl, qa, _⟩ := h
    cases q
    obtain ⟨its, _, p, _⟩ := I.tuple (by rw [hK]; exact sub.seqT qa)
    exact ⟨a, _, rfl, p⟩
  cases d with
  | non =>
    rw [Rep] at hx; subst hx; cases rx
    cases e with
    | non => rw [Rep] at hy; subst hy; cases ry; rw [DS.eqD]; exact .none_none  
    | bl b' => rw [Rep] at hy; subst hy; cases ry; exact .none_bool  b'
    | int j => rw [Rep] at hy; subst hy; obtain ⟨t, rfl⟩ := ry; exact .none_int  j t
    | str j => rw [Rep] at hy; subst hy; obtain ⟨t, rfl⟩ := ry; exact .none_str  j t
    | lst _ => obtain ⟨a, its, rfl, h⟩ := lst0 hy ry; exact .none_list  h hu0
    | tup _ => obtain ⟨a, its, rfl, h⟩ := tup0 hy ry; exact .none_tuple  h hu0
    | set _ => simp [DS.dep] at he
    | exc _ => simp [DS.dep] at he
  | bl b =>
    rw [Rep] at hx; subst hx; cases rx
    cases e with
    | non => rw [Rep] at hy; subst hy; cases ry; exact .bool_none b 
    | bl b' => rw [Rep] at hy; subst hy; cases ry; rw [DS.eqD]; exact .bool_bool b b'
    | int j => rw [Rep] at hy; subst hy; obtain ⟨t, rfl⟩ := ry; rw [DS.eqD]; exact .bool_int b j t
    | str j => rw [Rep] at hy; subst hy; obtain ⟨t, rfl⟩ := ry; exact .bool_str b j t
    | lst _ => obtain ⟨a, its, rfl, h⟩ := lst0 hy ry; exact .bool_list b h hu0
    | tup _ => obtain ⟨a, its, rfl, h⟩ := tup0 hy ry; exact .bool_tuple b h hu0
    | set _ => simp [DS.dep] at he
    | exc _ => simp [DS.dep] at he
  | int i =>
    rw [Rep] at hx; subst hx; obtain ⟨t0, rfl⟩ := rx
    cases e with
    | non => rw [Rep] at hy; subst hy; cases ry; exact .int_none i t0 
    | bl b' => rw [Rep] at hy; subst hy; cases ry; rw [DS.eqD]; exact .int_bool i t0 b'
    | int j => rw [Rep] at hy; subst hy; obtain ⟨t, rfl⟩ := ry; rw [DS.eqD]; exact .int_int i t0 j t
    | str j => rw [Rep] at hy; subst hy; obtain ⟨t, rfl⟩ := ry; exact .int_str i t0 j t
    | lst _ => obtain ⟨a, its, rfl, h⟩ := lst0 hy ry; exact .int_list i t0 h hu0
    | tup _ => obtain ⟨a, its, rfl, h⟩ := tup0 hy ry; exact .int_tuple i t0 h hu0
    | set _ => simp [DS.dep] at he
    | exc _ => simp [DS.dep] at he
  | str i =>
    rw [Rep] at hx; subst hx; obtain ⟨t0, rfl⟩ := rx
    cases e with
    | non => rw [Rep] at hy; subst hy; cases ry; exact .str_none i t0 
    | bl b' => rw [Rep] at hy; subst hy; cases ry; exact .str_bool i t0 b'
    | int j => rw [Rep] at hy; subst hy; obtain ⟨t, rfl⟩ := ry; exact .str_int i t0 j t
    | str j => rw [Rep] at hy; subst hy; obtain ⟨t, rfl⟩ := ry; rw [DS.eqD]; exact .str_str i t0 j t
    | lst _ => obtain ⟨a, its, rfl, h⟩ := lst0 hy ry; exact .str_list i t0 h hu0
    | tup _ => obtain ⟨a, its, rfl, h⟩ := tup0 hy ry; exact .str_tuple i t0 h hu0
    | set _ => simp [DS.dep] at he
    | exc _ => simp [DS.dep] at he
  | lst xs =>
    rw [DS.dep] at hd
    obtain ⟨m, hm, rfl⟩ := Option.map_eq_some_iff.mp hd
    rw [Rep] at hx
    obtain ⟨a, vs, rfl, qa, la, ta⟩ := hx
    cases rx
    obtain ⟨its, r1, p1, _⟩ := I.list (by rw [hK]; exact sub.seq qa)
    cases e with
    | non => rw [Rep] at hy; subst hy; cases ry; exact .list_none  p1.isList hu0
    | bl b' => rw [Rep] at hy; subst hy; cases ry; exact .list_bool b' p1.isList hu0
    | int j => rw [Rep] at hy; subst hy; obtain ⟨t, rfl⟩ := ry; exact .list_int j t p1.isList hu0
    | str j => rw [Rep] at hy; subst hy; obtain ⟨t, rfl⟩ := ry; exact .list_str j t p1.isList hu0
    | tup ys => obtain ⟨b, its2, rfl, h⟩ := tup0 hy ry; exact .list_tuple p1.isList h hu0
    | lst ys =>
      rw [Rep] at hy
      obtain ⟨b, ws, rfl, qb, lb, tb⟩ := hy
      cases ry
      obtain ⟨its2, r2, p2, _⟩ := I.list (by rw [hK]; exact sub.seq qb)
      have l1 := ta.length.trans r1.length
      have l2 := tb.length.trans r2.length
      rw [DS.dep] at he
      have items := eq_items (A := A.in1) ta tb r1 r2 fun i d e x y u v e1 e2 q1 q2 q3 q4 => by
        obtain ⟨k', z1, z2⟩ := deps_get hm e1
        obtain ⟨m2, hm2⟩ := Option.isSome_iff_exists.mp (show (DS.deps ys).isSome = true by simpa using he)
        obtain ⟨k2, z3, _⟩ := deps_get hm2 e2
        exact eqAt_D I hK sub 20 d e k' z1 (by omega) (by rw [z3]; rfl) A.in1 x y u v hu1 q1 q2 q3 q4
      rw [DS.eqD]
      by_cases hsz : its.toArray.size = its2.toArray.size
      · rw [← lists_eq l1 l2 hsz]
        exact .lists p1.isList p2.isList hsz hu0 items
      · rw [lists_ne l1 l2 hsz]
        exact .lists_lengths p1.isList p2.isList (by simpa using hsz) hu0
    | set _ => simp [DS.dep] at he
    | exc _ => simp [DS.dep] at he
  | tup xs =>
    rw [DS.dep] at hd
    obtain ⟨m, hm, rfl⟩ := Option.map_eq_some_iff.mp hd
    rw [Rep] at hx
    obtain ⟨a, vs, rfl, qa, la, ta⟩ := hx
    cases rx
    obtain ⟨its, r1, p1, _⟩ := I.tuple (by rw [hK]; exact sub.seqT qa)
    cases e with
    | non => rw [Rep] at hy; subst hy; cases ry; exact .tuple_none  p1 hu0
    | bl b' => rw [Rep] at hy; subst hy; cases ry; exact .tuple_bool b' p1 hu0
    | int j => rw [Rep] at hy; subst hy; obtain ⟨t, rfl⟩ := ry; exact .tuple_int j t p1 hu0
    | str j => rw [Rep] at hy; subst hy; obtain ⟨t, rfl⟩ := ry; exact .tuple_str j t p1 hu0
    | lst ys => obtain ⟨b, its2, rfl, h⟩ := lst0 hy ry; exact .tuple_list p1 h hu0
    | tup ys =>
      rw [Rep] at hy
      obtain ⟨b, ws, rfl, qb, lb, tb⟩ := hy
      cases ry
      obtain ⟨its2, r2, p2, _⟩ := I.tuple (by rw [hK]; exact sub.seqT qb)
      have l1 := ta.length.trans r1.length
      have l2 := tb.length.trans r2.length
      rw [DS.dep] at he
      have items := eq_items (A := A.in1) ta tb r1 r2 fun i d e x y u v e1 e2 q1 q2 q3 q4 => by
        obtain ⟨k', z1, z2⟩ := deps_get hm e1
        obtain ⟨m2, hm2⟩ := Option.isSome_iff_exists.mp (show (DS.deps ys).isSome = true by simpa using he)
        obtain ⟨k2, z3, _⟩ := deps_get hm2 e2
        exact eqAt_D I hK sub 20 d e k' z1 (by omega) (by rw [z3]; rfl) A.in1 x y u v hu1 q1 q2 q3 q4
      rw [DS.eqD]
      rw [← seqs_eq l1 l2]
      exact .tuples p1 p2 hu0 items
    | set _ => simp [DS.dep] at he
    | exc _ => simp [DS.dep] at he
  | set _ => simp [DS.dep] at hd
  | exc _ => simp [DS.dep] at hd
theorem o_eqF (hu : X.A.units + 64 < cLine) (hK : X.K = r.K := by rfl) : OpR X (compareOp .Eq) (rD r DS.eqF) := by
  intro pins s σ H x y v u Q I rx ry ⟨G, dx, dy, d, sub, hx, hy, e, q⟩
  unfold DS.eqF at e
  split at e
  · rename_i hc
    cases e
    rw [Bool.and_eq_true] at hc
    obtain ⟨k, h1, h2⟩ := eqOk_inv hc.1
    obtain ⟨k', h3, _⟩ := eqOk_inv hc.2
    exact rcAt_D I hK sub h1 h2 (by rw [h3]; rfl) hu hx hy rx ry _ _ _ _ ⟨.bl _, H, I, rfl, q _ H G (Ext.refl sub) (by rw [Rep])⟩
  · cases e
theorem o_neF (hu : X.A.units + 64 < cLine) (hK : X.K = r.K := by rfl) : OpR X (compareOp .NotEq) (rD r DS.neF) := by
  intro pins s σ H x y v u Q I rx ry ⟨G, dx, dy, d, sub, hx, hy, e, q⟩
  unfold DS.neF at e
  split at e
  · rename_i hc
    cases e
    rw [Bool.and_eq_true] at hc
    obtain ⟨k, h1, h2⟩ := eqOk_inv hc.1
    obtain ⟨k', h3, _⟩ := eqOk_inv hc.2
    exact rcNe_D I hK sub h1 h2 (by rw [h3]; rfl) hu hx hy rx ry _ _ _ _ ⟨.bl _, H, I, rfl, q _ H G (Ext.refl sub) (by rw [Rep])⟩
  · cases e
theorem eq_fun (I : Inv X pins σ H s) (hK : X.K = r.K) (sub : Same G H) {dx : D} {x : V} {v : Value} (hx : Rep r G dx x) (rx : RelV x v) (hdx : DS.eqOk dx = true) {A : Around} (hu : A.units + 20 < cLine) :
    ∀ {ds : List D} {vs : List V} {its : List Value}, Reps r G ds vs → Vals vs its → ds.all DS.eqOk = true → ∃ e : Value → Bool, (∀ w ∈ its, SeqAt.EqAt A s w v (e w)) ∧ its.map e = ds.map fun y => DS.eqD y dx := by
  intro ds
  have key : ∀ (ds : List D) (vs : List V) (its : List Value), Reps r G ds vs → Vals vs its → ds.all DS.eqOk = true → ∀ w ∈ its, ∃ d ∈ ds, ∃ z, Rep r G d z ∧ RelV z w := by
    intro ds
    induction ds with
    | nil => intro vs its h q _ w hw; rw [h.nil_inv] at q; cases q; simp at hw
    | cons d ds ih =>
      intro vs its h q ha w hw
      obtain ⟨z, t, rfl, q1, q2⟩ := h.cons_inv
      cases q with
      | cons r1 r2 =>
        rcases List.mem_cons.mp hw with rfl | hw
        · exact ⟨d, by simp, z, q1, r1⟩
        · obtain ⟨d', h1, h2⟩ := ih t _ q2 r2 (by rw [List.all_cons, Bool.and_eq_true] at ha; exact ha.2) w hw
          exact ⟨d', by simp [h1], h2⟩
  intro vs its td r1 ha
  classical
  let e : Value → Bool := fun w => if h : ∃ d : D, DS.eqOk d = true ∧ ∃ z, Rep r G d z ∧ RelV z w then DS.eqD h.choose dx else false
  have val : ∀ w d z, DS.eqOk d = true → Rep r G d z → RelV z w → e w = DS.eqD d dx := fun w d z hd hz hw => by
    have hex : ∃ d : D, DS.eqOk d = true ∧ ∃ z, Rep r G d z ∧ RelV z w := ⟨d, hd, z, hz, hw⟩
    have : e w = DS.eqD hex.choose dx := dif_pos hex
    rw [this]
    obtain ⟨h1, z', h2, h3⟩ := hex.choose_spec
    have : z' = z := h3.inj hw
    subst this
    obtain ⟨k1, a1, _⟩ := eqOk_inv h1
    obtain ⟨k2, a2, _⟩ := eqOk_inv hd
    rw [Rep.inj I hK sub (by rw [a1]; rfl) (by rw [a2]; rfl) h2 hz]
  refine ⟨e, fun w hw => ?_, ?_⟩
  · obtain ⟨d, h1, z, h2, h3⟩ := key ds vs its td r1 ha w hw
    have hd := List.all_eq_true.mp ha d h1
    rw [val w d z hd h2 h3]
    obtain ⟨k, a1, a2⟩ := eqOk_inv hd
    obtain ⟨k', a3, _⟩ := eqOk_inv hdx
    exact eqAt_D I hK sub 20 d dx k a1 a2 (by rw [a3]; rfl) A z x w v (by omega) h2 hx h3 rx
  · clear key
    induction ds generalizing vs its with
    | nil => rw [td.nil_inv] at r1; cases r1; rfl
    | cons d ds ih =>
      obtain ⟨z, t, rfl, q1, q2⟩ := td.cons_inv
      cases r1 with
      | cons r1 r2 =>
        rw [List.all_cons, Bool.and_eq_true] at ha
        rw [List.map_cons, List.map_cons, val _ d z ha.1 q1 r1, ih q2 r2 ha.2]
theorem any_map' {α : Type} (e : α → Bool) (l : List α) {ds : List D} {f : D → Bool} (h : l.map e = ds.map f) : l.any e = ds.any f := by
  rw [show l.any e = (l.map e).any id by rw [List.any_map]; rfl, h, List.any_map]; rfl
theorem countP_map' {α : Type} (e : α → Bool) (l : List α) {ds : List D} {f : D → Bool} (h : l.map e = ds.map f) : l.countP e = ds.countP f := by
  rw [show l.countP e = (l.map e).countP id by rw [List.countP_map]; rfl, h, List.countP_map]; rfl
theorem o_inF (hu : X.A.units + 64 < cLine) (hK : X.K = r.K := by rfl) : OpR X (compareOp .In) (rD r DS.inF) := by
  intro pins s σ H x y v u Q I rx ry ⟨G, dx, dy, d, sub, hx, hy, e, q⟩
  unfold DS.inF at e
  cases dy with
  | lst ys =>
    rw [DS.items] at e
    dsimp only at e
    split at e
    · rename_i hc
      cases e
      rw [Bool.and_eq_true] at hc
      rw [Rep] at hy
      obtain ⟨b, ws, rfl, qb, lb, tb⟩ := hy
      cases ry
      obtain ⟨its, r1, p1, _⟩ := I.list (by rw [hK]; exact sub.seq qb)
      obtain ⟨f, h1, h2⟩ := eq_fun (A := X.A.in1) I hK sub hx rx hc.1 (by show X.A.units + 1 + 20 < cLine; omega) tb r1 hc.2
      refine SeqAt.in_listAt f p1.isList (fun w hw => ?_) ⟨.bl _, H, I, rfl, q _ H G (Ext.refl sub) ?_⟩
      · exact h1 w (by simpa using hw)
      · rw [Rep, show its.toArray.any f = its.any f by simp, any_map' f its h2]; rfl
    · cases e
  | tup ys =>
    rw [DS.items] at e
    dsimp only at e
    split at e
    · rename_i hc
      cases e
      rw [Bool.and_eq_true] at hc
      rw [Rep] at hy
      obtain ⟨b, ws, rfl, qb, lb, tb⟩ := hy
      cases ry
      obtain ⟨its, r1, p1, _⟩ := I.tuple (by rw [hK]; exact sub.seqT qb)
      obtain ⟨f, h1, h2⟩ := eq_fun (A := X.A.in1) I hK sub hx rx hc.1 (by show X.A.units + 1 + 20 < cLine; omega) tb r1 hc.2
      refine SeqAt.in_tupleAt f p1 (fun w hw => ?_) ⟨.bl _, H, I, rfl, q _ H G (Ext.refl sub) ?_⟩
      · exact h1 w (by simpa using hw)
      · rw [Rep, show its.toArray.any f = its.any f by simp, any_map' f its h2]; rfl
    · cases e
  | _ => simp [DS.items] at e
theorem o_niF (hu : X.A.units + 64 < cLine) (hK : X.K = r.K := by rfl) : OpR X (compareOp .NotIn) (rD r DS.niF) := by
  intro pins s σ H x y v u Q I rx ry ⟨G, dx, dy, d, sub, hx, hy, e, q⟩
  unfold DS.niF at e
  cases dy with
  | lst ys =>
    rw [DS.items] at e
    dsimp only at e
    split at e
    · rename_i hc
      cases e
      rw [Bool.and_eq_true] at hc
      rw [Rep] at hy
      obtain ⟨b, ws, rfl, qb, lb, tb⟩ := hy
      cases ry
      obtain ⟨its, r1, p1, _⟩ := I.list (by rw [hK]; exact sub.seq qb)
      obtain ⟨f, h1, h2⟩ := eq_fun (A := X.A.in1) I hK sub hx rx hc.1 (by show X.A.units + 1 + 20 < cLine; omega) tb r1 hc.2
      refine SeqAt.notIn_listAt f p1.isList (fun w hw => ?_) ⟨.bl _, H, I, rfl, q _ H G (Ext.refl sub) ?_⟩
      · exact h1 w (by simpa using hw)
      · rw [Rep, show its.toArray.any f = its.any f by simp, any_map' f its h2]; rfl
    · cases e
  | tup ys =>
    rw [DS.items] at e
    dsimp only at e
    split at e
    · rename_i hc
      cases e
      rw [Bool.and_eq_true] at hc
      rw [Rep] at hy
      obtain ⟨b, ws, rfl, qb, lb, tb⟩ := hy
      cases ry
      obtain ⟨its, r1, p1, _⟩ := I.tuple (by rw [hK]; exact sub.seqT qb)
      obtain ⟨f, h1, h2⟩ := eq_fun (A := X.A.in1) I hK sub hx rx hc.1 (by show X.A.units + 1 + 20 < cLine; omega) tb r1 hc.2
      refine SeqAt.notIn_tupleAt f p1 (fun w hw => ?_) ⟨.bl _, H, I, rfl, q _ H G (Ext.refl sub) ?_⟩
      · exact h1 w (by simpa using hw)
      · rw [Rep, show its.toArray.any f = its.any f by simp, any_map' f its h2]; rfl
    · cases e
  | _ => simp [DS.items] at e
end
end L2
namespace HT
open PySem PyProof.Rows
section
variable {prog : Program} {w : World} {A : Around} {E : Value → Shared → Prop} {s : Shared}
theorem getItem_tuple_whole {t sl : Addr} {items : Array Value} {vl vu : Value} {lo hi : Option Int} {Q : Value → Shared → Prop} (ht : IsTup s.heap t items) (hs : s.heap.IsSliceOf sl vl vu .none) (pl : IsPart vl lo) (pu : IsPart vu hi)
    (hw : sIx items.size 0 lo = 0 ∧ sIx items.size items.size hi = items.size) (h : Q (.ref t) s) : wpAny (model prog w) A (getItem (.ref t) (.ref sl)) Q E s := by
  obtain ⟨os, hos, hcs, hds⟩ := id hs
  have hTs : s.TypeIs (.ref sl) "slice" := ⟨os, hos, hcs⟩
  unfold getItem
  try with_reducible refine wpAny_holding ?_
  first | refine wpAny_bind (wpAny_pure ?_) | skip
  refine wpAny_bind (wpAny_sequenceKey ht.typeIs (by decide) ?_)
  refine wpAny_bind (wpAny_callSpecial?_slot (name := Str.ofString "__getitem__") ht.typeIs PyProof.Rows.slot_tuple_getitem
    (wpAny_call_entry PyProof.Rows.slot_tuple_getitem ht.typeIs entry_tuple_getitem ?_ (args_tuple_getitem _ _)))
  show wpAny _ _ (Builtin.Tuple.tupleItemsOf (.ref t) >>= _) _ _ s
  refine wpAny_bind (tupleItemsOf_ ht ?_)
  refine wpAny_bind (wpAny_typeOf hTs ?_)
  rw [if_pos (by decide)]
  refine wpAny_bind (sliceApplied_gen hs pl pu ?_)
  have hyes : (((sIx items.size 0 lo : Nat) : Int) == 0 && (1 : Int) == 1 && (sIx items.size items.size hi - sIx items.size 0 lo) == items.size) = true := by
    rw [hw.1, hw.2]
    simp
  show wpAny _ _ (if (((sIx items.size 0 lo : Nat) : Int) == 0 && (1 : Int) == 1 && (sIx items.size items.size hi - sIx items.size 0 lo) == items.size) = true then _ else _) _ _ s
  rw [if_pos hyes]
  refine wpAny_bind (m := Builtin.Tuple.tupleIsExact _) (wpAny_bind (wpAny_typeOf ht.typeIs (wpAny_pure ?_)))
  rw [if_pos (by decide)]
  first
    | exact wpAny_bind (wpAny_rule (wpAny_pure ⟨_, rfl, wpAny_pure h⟩))
    | exact wpAny_bind (wpAny_rule (wpAny_bind (wpAny_pure (wpAny_pure ⟨_, rfl, wpAny_pure h⟩))))
    | exact wpAny_bind (wpAny_rule (wpAny_bind (wpAny_pure (wpAny_pure ⟨_, rfl, h⟩))))
theorem adjust_rev (n : Nat) : Builtin.Slice.sliceAdjust none none (-1) (n : Int) = ((n : Int) - 1, -1) := by
  unfold Builtin.Slice.sliceAdjust
  simp
theorem places_rev (n : Nat) : Builtin.Slice.slicePlaces ((n : Int) - 1) (-1) (-1) = n := by
  unfold Builtin.Slice.slicePlaces
  simp
  try omega
theorem sliceApplied_rev {sl : Addr} {t : Tok} {n : Nat} {Q : Int × Int × Nat → Shared → Prop} (hs : s.heap.IsSliceOf sl .none .none (.int (-1) t)) (h : Q ((n : Int) - 1, -1, n) s) : wpAny (model prog w) A (Builtin.Slice.sliceApplied (.ref sl) (pure (n : Int))) Q E s := by
  obtain ⟨os, hos, hcs, hds⟩ := id hs
  unfold Builtin.Slice.sliceApplied Builtin.Slice.sliceFields
  refine wpAny_bind (wpAny_bind (wpAny_field hos hds (x := .none) rfl (wpAny_bind (wpAny_field hos hds (x := .none) rfl (wpAny_bind (wpAny_field hos hds (x := .int (-1) t) rfl (wpAny_pure ?_)))))))
  refine wpAny_bind (slicePart_int ?_)
  show wpAny _ _ (if ((-1 : Int) == 0) = true then _ else _) _ _ s
  rw [if_neg (by decide)]
  refine wpAny_bind (slicePart_none (wpAny_bind (slicePart_none (wpAny_bind (wpAny_pure ?_)))))
  show wpAny _ _ (match Builtin.Slice.sliceAdjust none none (-1) (n : Int) with | (lo, hi) => pure (lo, (-1 : Int), Builtin.Slice.slicePlaces lo hi (-1))) _ _ s
  rw [adjust_rev]
  show wpAny _ _ (pure ((n : Int) - 1, (-1 : Int), Builtin.Slice.slicePlaces ((n : Int) - 1) (-1) (-1))) _ _ s
  rw [places_rev]
  exact wpAny_pure h
theorem pick_rev (xs : Array Value) : ((List.range xs.size).filterMap fun (m : Nat) => xs[((xs.size : Int) - 1 + (m : Int) * -1).toNat]?).toArray = xs.toList.reverse.toArray := by
  congr 1
  have e : ∀ m ∈ List.range xs.size, xs[((xs.size : Int) - 1 + (m : Int) * -1).toNat]? = (xs.toList.reverse)[m]? := fun m hm => by
    rw [List.mem_range] at hm
    rw [List.getElem?_reverse (by simpa using hm)]
    have : ((xs.size : Int) - 1 + (m : Int) * -1).toNat = xs.size - 1 - m := by omega
    rw [this, Array.length_toList, Array.getElem?_toList]
  have fc : ∀ (l : List Nat) (f g : Nat → Option Value), (∀ m ∈ l, f m = g m) → l.filterMap f = l.filterMap g := by
    intro l f g h
    induction l with
    | nil => rfl
    | cons a l ih => rw [List.filterMap_cons, List.filterMap_cons, h a (by simp), ih fun m hm => h m (by simp [hm])]
  rw [fc _ _ _ e]
  have key : ∀ l : List Value, (List.range l.length).filterMap (fun m => l[m]?) = l := by
    intro l
    induction l with
    | nil => rfl
    | cons x l ih =>
      rw [List.length_cons, List.range_succ_eq_map, List.filterMap_cons]
      simp only [List.getElem?_cons_zero, List.filterMap_map]
      congr 1
  have := key xs.toList.reverse
  rw [List.length_reverse, Array.length_toList] at this
  exact this
theorem getItem_tuple_rev {t sl : Addr} {items : Array Value} {k : Tok} {Q : Value → Shared → Prop} (ht : IsTup s.heap t items) (hs : s.heap.IsSliceOf sl .none .none (.int (-1) k))
    (h : Q (.ref s.heap.objs.size) { s with heap := s.heap.push { cls := .type "tuple", data := .seq items.toList.reverse.toArray } }) (hsz : items.size ≤ sizeLine) : wpAny (model prog w) A (getItem (.ref t) (.ref sl)) Q E s := by
  have htake : sizeOk (.seq items.toList.reverse.toArray) := by
    show items.toList.reverse.toArray.size ≤ sizeLine
    rw [List.size_toArray, List.length_reverse, Array.length_toList]
    exact hsz
  obtain ⟨os, hos, hcs, hds⟩ := id hs
  have hTs : s.TypeIs (.ref sl) "slice" := ⟨os, hos, hcs⟩
  unfold getItem
  try with_reducible refine wpAny_holding ?_
  first | refine wpAny_bind (wpAny_pure ?_) | skip
  refine wpAny_bind (wpAny_sequenceKey ht.typeIs (by decide) ?_)
  refine wpAny_bind (wpAny_callSpecial?_slot (name := Str.ofString "__getitem__") ht.typeIs PyProof.Rows.slot_tuple_getitem
    (wpAny_call_entry PyProof.Rows.slot_tuple_getitem ht.typeIs entry_tuple_getitem ?_ (args_tuple_getitem _ _)))
  show wpAny _ _ (Builtin.Tuple.tupleItemsOf (.ref t) >>= _) _ _ s
  refine wpAny_bind (tupleItemsOf_ ht ?_)
  refine wpAny_bind (wpAny_typeOf hTs ?_)
  rw [if_pos (by decide)]
  refine wpAny_bind (sliceApplied_rev hs ?_)
  have hno : ¬ (((items.size : Int) - 1 == 0 && (-1 : Int) == 1 && items.size == items.size) = true) := by simp
  show wpAny _ _ (if ((items.size : Int) - 1 == 0 && (-1 : Int) == 1 && items.size == items.size) = true then _ else _) _ _ s
  rw [if_neg hno, pick_rev]
  first
    | exact wpAny_bind (m := Builtin.Tuple.tupleExact _) (wpAny_newObj_type (wpAny_pure ⟨_, rfl, wpAny_pure h⟩) htake)
    | exact wpAny_bind (m := Builtin.Tuple.tupleExact _) (wpAny_newObj_type (wpAny_bind (wpAny_pure (wpAny_pure ⟨_, rfl, wpAny_pure h⟩))) htake)
    | exact wpAny_bind (wpAny_bind (m := Builtin.Tuple.tupleExact _) (wpAny_newObj_type (wpAny_pure (wpAny_pure ⟨_, rfl, wpAny_pure h⟩)) htake))
    | exact wpAny_bind (wpAny_bind (m := Builtin.Tuple.tupleExact _) (wpAny_newObj_type (wpAny_pure ⟨_, rfl, wpAny_pure h⟩) htake))
end
end HT
namespace L2
open PySem PySem.Spec PyProof.Rows
open DS (D Sl Rho R M FS O Tg)
section
variable {X : Cx} {r : Rc}
theorem sl_tupW : SlR X (fun x lo hi H Q => ∃ a xs, x = .ref a ∧ SqT X.K H a xs ∧ (HT.sIx xs.length 0 lo = 0 ∧ HT.sIx xs.length xs.length hi = xs.length) ∧ Q (.ref a) H) := by
  intro pins s σ H x v vl vu lo hi sl Q I rx hs pl pu h
  obtain ⟨a, xs, rfl, hx, hw, q⟩ := h
  cases rx
  obtain ⟨its, r, ht, hz⟩ := I.tuple hx
  have hlen : its.toArray.size = xs.length := by rw [List.size_toArray]; exact r.length.symm
  exact ⟨"tuple", _, PyProof.Rows.slot_tuple_getitem.lookup, ht.typeIs, HT.getItem_tuple_whole ht hs pl pu (by rw [hlen]; exact hw) ⟨.ref a, H, I, rfl, q⟩⟩
theorem s_slD (hK : X.K = r.K := by rfl) : SlR X (rDS r DS.slD) := by
  intro pins s σ H x v vl vu lo hi sl Q I rx hs pl pu ⟨G, dx, d, sub, hx, e, q⟩
  unfold DS.slD at e
  cases dx with
  | lst xs =>
    cases e
    rw [Rep] at hx
    obtain ⟨a, vs, rfl, qa, la, ta⟩ := hx
    refine sl_list pins s σ H _ v vl vu lo hi sl Q I rx hs pl pu ⟨a, vs, rfl, by rw [hK]; exact sub.seq qa, fun p hp => ?_⟩
    have ex := Ext.lay (o := .lst (cutV vs lo hi)) sub hp
    refine q _ _ _ ex ?_
    rw [Rep]
    exact ⟨p, _, rfl, SqL.of upd_same, Nat.le_trans (cutV_length vs lo hi) la, (ta.cut lo hi).mono ex.view⟩
  | tup xs =>
    cases e
    have hx' := hx
    rw [Rep] at hx
    obtain ⟨a, vs, rfl, qa, la, ta⟩ := hx
    by_cases hw : HT.sIx vs.length 0 lo = 0 ∧ HT.sIx vs.length vs.length hi = vs.length
    · refine sl_tupW pins s σ H _ v vl vu lo hi sl Q I rx hs pl pu ⟨a, vs, rfl, by rw [hK]; exact sub.seqT qa, hw, q _ H G (Ext.refl sub) ?_⟩
      have ec : cutV vs lo hi = vs := by unfold cutV; rw [hw.1, hw.2]; simp
      have := ta.cut lo hi
      rw [ec] at this
      rw [Rep]
      exact ⟨a, vs, rfl, qa, la, this⟩
    · refine sl_tup pins s σ H _ v vl vu lo hi sl Q I rx hs pl pu ⟨a, vs, rfl, by rw [hK]; exact sub.seqT qa, hw, fun p hp => ?_⟩
      have ex := Ext.lay (o := .tup (cutV vs lo hi)) sub hp
      refine q _ _ _ ex ?_
      rw [Rep]
      exact ⟨p, _, rfl, SqT.of upd_same, Nat.le_trans (cutV_length vs lo hi) la, (ta.cut lo hi).mono ex.view⟩
  | _ => cases e
theorem d_rev {c : Db} {Ex : St → XK} {a : Expr} {fa : M D} {p2 p3 p4 pos : Pos} {j} (ha : PE X a (tE c Ex fa)) (hK : X.K = c.r.K := by rfl) :
    PE X (.Subscript a (.Slice none none (some (.UnaryOp .USub (.Constant (.int 1) j p3) p4)) p2) pos) (tE c Ex (DS.op1 DS.revD fa)) := by
  intro pins s σ H Q I h
  refine Subscript_ (thn (ha pins s σ H _ I (imp_op1 h)) fun v s1 ⟨x, H1, I1, r1, q1⟩ => ?_)
  obtain ⟨G, dx, d, sub, hx, e, q⟩ := q1
  refine wpAny_Slice ?_
  rw [evalPart_none]
  refine wpAny_pure (wpAny_pure ?_)
  show wpAny _ _ (eval (.UnaryOp .USub (.Constant (.int 1) j p3) p4) X.env) _ _ s1
  refine thn (pe_un (X := X) un_neg pe_int pins s1 σ H1 (fun z H2 => z = .int (-1) ∧ H2 = H1) I1 ⟨1, rfl, rfl, rfl⟩) fun vk s2 ⟨z, H2, I2, r2, e1, e2⟩ => ?_
  subst e1
  subst e2
  obtain ⟨t, rfl⟩ := r2
  cases dx with
  | lst xs =>
    rw [DS.revD] at e
    cases e
    rw [Rep] at hx
    obtain ⟨a', vs, rfl, qa, la, ta⟩ := hx
    cases r1
    have I4 : Inv X pins σ H2 { s2 with heap := s2.heap.push { cls := .type "slice", data := .fields #[.none, .none, .int (-1) t] } } := I2.kept (t' := s2.toks) fun b ob q => Heap.get?_push_of_some _ q
    obtain ⟨its, r3, p1, hz⟩ := I4.list (xs := vs) (by rw [hK]; exact sub.seq qa)
    have hlen := r3.length
    refine tail_any (ops := [.ref a', .ref s2.heap.objs.size]) p1.isList.typeIs slot_list_getitem.lookup ?_ (by with_unfolding_all rfl)
    refine wpAny_getItem_list_slice p1.isList (Heap.IsSliceOf.new ..) .none .none (.int _ _) (by simp) ?_ (by rw [List.size_toArray] <;> omega)
    rw [PySem.W.krv_pick]
    refine ⟨.ref _, _, I4.laid (t' := s2.toks) (o := .lst vs.reverse) (fun b ob q => Heap.get?_push_of_some _ q) (Nat.le_refl _) ⟨by rw [List.length_reverse]; exact la, its.reverse, 0, r3.reverse, ?_⟩, rfl, ?_⟩
    · have : its.toArray.toList.reverse = its.reverse := by simp
      rw [this]
      exact Heap.get?_push_size _ rfl
    · have hp := I4.hok.fresh (Nat.le_refl _)
      have ex := Ext.lay (o := .lst vs.reverse) sub hp
      refine q _ _ _ ex ?_
      rw [Rep]
      exact ⟨_, _, rfl, SqL.of upd_same, by rw [List.length_reverse]; exact la, ta.reverse.mono ex.view⟩
  | tup xs =>
    rw [DS.revD] at e
    cases e
    rw [Rep] at hx
    obtain ⟨a', vs, rfl, qa, la, ta⟩ := hx
    cases r1
    have I4 : Inv X pins σ H2 { s2 with heap := s2.heap.push { cls := .type "slice", data := .fields #[.none, .none, .int (-1) t] } } := I2.kept (t' := s2.toks) fun b ob q => Heap.get?_push_of_some _ q
    obtain ⟨its, r3, p1, hz⟩ := I4.tuple (xs := vs) (by rw [hK]; exact sub.seqT qa)
    have hlen := r3.length
    refine tail_any (ops := [.ref a', .ref s2.heap.objs.size]) p1.typeIs PyProof.Rows.slot_tuple_getitem.lookup ?_ (by with_unfolding_all rfl)
    refine HT.getItem_tuple_rev p1 (Heap.IsSliceOf.new ..) ?_ (by rw [List.size_toArray]; omega)
    refine ⟨.ref _, _, I4.laid (t' := s2.toks) (o := .tup vs.reverse) (fun b ob q => Heap.get?_push_of_some _ q) (Nat.le_refl _) ⟨by rw [List.length_reverse]; exact la, its.reverse, r3.reverse, ?_⟩, rfl, ?_⟩
    · have : its.toArray.toList.reverse = its.reverse := by simp
      rw [this]
      exact IsTup.new _ _
    · have hp := I4.hok.fresh (Nat.le_refl _)
      have ex := Ext.lay (o := .tup vs.reverse) sub hp
      refine q _ _ _ ex ?_
      rw [Rep]
      exact ⟨_, _, rfl, SqT.of upd_same, by rw [List.length_reverse]; exact la, ta.reverse.mono ex.view⟩
  | _ => simp [DS.revD] at e
end
end L2
namespace SetPure
open PySem PySem.Spec
section
variable {prog : Program} {w : World} {A : Around} {E : Value → Shared → Prop} {s : Shared}
theorem or_same {a : Addr} {p : Nat → Bool} {Q : Value → Shared → Prop} (hA : IsSmall w s.heap a p)
    (h : ∀ h', (∀ c o, s.heap.get? c = some o → h'.get? c = some o) → IsSmall w h' s.heap.objs.size p → Q (.ref s.heap.objs.size) { s with heap := h' }) : wpAny (model prog w) A (binaryOp .BitOr (.ref a) (.ref a)) Q E s := by
  refine wpAny_binaryOp_same hA.typeIs hA.typeIs PySem.F.fills_set_or PySem.F.slot_set_or ?_
  refine wpAny_call_entry PySem.F.slot_set_or hA.typeIs entry_set_or ?_ (args_set_or _ _)
  rw [or_eq]
  refine wpAny_bind (m := Builtin.Frozenset.slot1 "__or__" _) (wpAny_pure ?_)
  simp only [Bool.false_eq_true, ↓reduceIte]
  refine wpAny_bind ?_
  refine wpAny_bind (isAnySet_wp hA.typeIs ?_)
  show wpAny _ _ (Builtin.Frozenset.isAnySet (.ref a)) _ _ _
  refine isAnySet_wp hA.typeIs ?_
  simp only [Bool.not_true, Bool.false_eq_true, ↓reduceIte]
  refine wpAny_bind (m := Builtin.Frozenset.addrOf _) (wpAny_pure ?_)
  unfold unionOf
  refine wpAny_bind ?_
  obtain ⟨ea, epa, ma, fa, mva, hoa, Ela, hma, h4a⟩ := id hA
  have la : a < s.heap.objs.size := Heap.lt_size hoa
  unfold Builtin.Frozenset.copyOf Builtin.Frozenset.baseOf
  refine wpAny_bind (wpAny_bind (wpAny_bind (wpAny_isInstance hA.typeIs sub_set_self (wpAny_pure ?_))))
  simp only [↓reduceIte]
  refine wpAny_bind (newSet_wp ?_)
  refine wpAny_bind (m := Builtin.Frozenset.addrOf _) (wpAny_pure ?_)
  have hS0 := small_fresh w s.heap
  refine wpAny_bind (merge_small (s := { s with heap := s.heap.push { cls := .type "set", dict := none, data := .set #[] 0 (.fresh 0 0 (!bt w)) } }) (Nat.ne_of_gt la) (pure ()) hS0 (Heap.get?_push_of_some _ hoa) Ela hma h4a (fun s' Q' _ hq => wpAny_pure hq) fun h1 hs1 hS1 => ?_)
  refine wpAny_pure ?_
  have kept1 : ∀ c o, s.heap.get? c = some o → h1.get? c = some o := fun c o e => (hs1.2 c (Nat.ne_of_lt (Heap.lt_size e))).trans (Heap.get?_push_of_some _ e)
  have hne : (Value.ref a != Value.ref a) = false := by simp
  rw [hne]
  simp only [Bool.false_eq_true, ↓reduceIte]
  first
    | exact wpAny_pure ⟨_, rfl, (fun z => nomatch z), h h1 kept1 (hS1.congr (List.filter_congr fun i _ => by unfold orQ; simp))⟩
    | exact wpAny_pure (wpAny_pure ⟨_, rfl, (fun z => nomatch z), h h1 kept1 (hS1.congr (List.filter_congr fun i _ => by unfold orQ; simp))⟩)
    | exact wpAny_bind (wpAny_pure (wpAny_pure ⟨_, rfl, (fun z => nomatch z), h h1 kept1 (hS1.congr (List.filter_congr fun i _ => by unfold orQ; simp))⟩))
end
end SetPure
namespace L2
open PySem PySem.Spec PyProof.Rows
open DS (D Sl Rho R M FS O Tg)
theorem pl_rising (p : Nat → Bool) : FM.Rising ((SetPure.pl p).map Int.ofNat) := by
  unfold FM.Rising
  rw [List.pairwise_map]
  have h : (List.range 7).Pairwise (· < ·) := List.pairwise_lt_range
  exact (h.sublist List.filter_sublist).imp fun {a b} hab => by simpa using hab
theorem mem_plI {p : Nat → Bool} {x : Int} : x ∈ (SetPure.pl p).map Int.ofNat ↔ ∃ j : Nat, x = j ∧ j < 7 ∧ p j = true := by
  rw [List.mem_map]
  constructor
  · rintro ⟨j, hj, rfl⟩
    exact ⟨j, rfl, SetPure.mem_pl.mp hj⟩
  · rintro ⟨j, rfl, hj⟩
    exact ⟨j, SetPure.mem_pl.mpr hj, rfl⟩
theorem sortU_seen {ns : List Int} (hs : DS.small ns = true) : DS.sortU ns = (SetPure.pl (SetPure.seen (fun i => (ns.getD i 0).toNat) ns.length)).map Int.ofNat := by
  rw [DS.sortU_usort]
  refine FM.rising_ext (FM.rising_usort _) (pl_rising _) fun x => ?_
  have sm : ∀ x ∈ ns, 0 ≤ x ∧ x < 7 := fun x hx => by
    have := List.all_eq_true.mp hs x hx
    simpa using this
  rw [FM.mem_usort, mem_plI]
  constructor
  · intro hx
    obtain ⟨i, hi, e⟩ := List.getElem_of_mem hx
    obtain ⟨h1, h2⟩ := sm x hx
    refine ⟨x.toNat, by omega, by omega, ?_⟩
    unfold SetPure.seen
    rw [List.any_eq_true]
    refine ⟨i, List.mem_range.mpr hi, ?_⟩
    dsimp only
    rw [List.getD_eq_getElem?_getD, List.getElem?_eq_getElem hi, e]
    simp
  · rintro ⟨j, rfl, h7, hp⟩
    unfold SetPure.seen at hp
    rw [List.any_eq_true] at hp
    obtain ⟨i, hi, e⟩ := hp
    have hi := List.mem_range.mp hi
    dsimp only at e
    rw [List.getD_eq_getElem?_getD, List.getElem?_eq_getElem hi] at e
    have hm : ns[i] ∈ ns := List.getElem_mem hi
    obtain ⟨h1, h2⟩ := sm _ hm
    have : ns[i].toNat = j := by simpa using e
    have : ns[i] = (j : Int) := by omega
    rw [← this]
    exact hm
theorem sortU_or {p q : Nat → Bool} : DS.sortU ((SetPure.pl p).map Int.ofNat ++ (SetPure.pl q).map Int.ofNat) = (SetPure.pl (SetPure.orQ p q)).map Int.ofNat := by
  rw [DS.sortU_usort]
  refine FM.rising_ext (FM.rising_usort _) (pl_rising _) fun x => ?_
  rw [FM.mem_usort, List.mem_append, mem_plI, mem_plI, mem_plI]
  constructor
  · rintro (⟨j, e, h, hp⟩ | ⟨j, e, h, hp⟩)
    · exact ⟨j, e, h, by unfold SetPure.orQ; simp [hp]⟩
    · exact ⟨j, e, h, by unfold SetPure.orQ; simp [hp]⟩
  · rintro ⟨j, e, h, hp⟩
    unfold SetPure.orQ at hp
    rw [Bool.or_eq_true] at hp
    rcases hp with hp | hp
    · exact .inl ⟨j, e, h, hp⟩
    · exact .inr ⟨j, e, h, hp⟩
theorem sortU_self {p : Nat → Bool} : DS.sortU ((SetPure.pl p).map Int.ofNat ++ (SetPure.pl p).map Int.ofNat) = (SetPure.pl p).map Int.ofNat := by
  rw [sortU_or]
  congr 1
  exact List.filter_congr fun i _ => by unfold SetPure.orQ; simp
section
variable {X : Cx} {r : Rc}
theorem Inv.setO {pins : List (Addr × Obj)} {σ : St} {H : Hp} {s : Shared} {h' : Heap} {tk : Nat} {p : Nat → Bool} (I : Inv X pins σ H s) (k : ∀ b u, s.heap.get? b = some u → h'.get? b = some u) (hS : SetPure.IsSmall r.w h' s.heap.objs.size p) :
    Inv X pins σ (upd H s.heap.objs.size (SetO r.w s.heap.objs.size p)) { s with heap := h', toks := tk } := by
  refine I.laid k (Nat.le_refl _) ⟨hS, ?_, fun h1 h2 x q => x.at q⟩
  obtain ⟨_, _, _, _, _, e, _⟩ := hS
  exact ⟨_, e⟩
theorem c_setF (hc : X.calm = true) (hK : X.K = r.K := by rfl) (hw : X.w = r.w := by rfl) : CallR X (.type "set") (rDL r DS.setF) := by
  intro pins s σ H xs us Q I rs ⟨G, ds, d, sub, hx, e, q⟩
  have fin : ∀ (ns : List Int) (its : List Value), Vals (ns.map V.int) its → DS.small ns = true → ∀ i v, its.toArray[i]? = some v → (ns.getD i 0).toNat < 7 ∧ ∃ t, v = Value.int ((ns.getD i 0).toNat : Nat) t := by
    intro ns its rv hs i v hv
    have hv' : its[i]? = some v := by simpa using hv
    have hl := rv.length
    rw [List.length_map] at hl
    have hi : i < ns.length := by have := (List.getElem?_eq_some_iff.mp hv').1; omega
    obtain ⟨u, h1, h2⟩ := rv.get (i := i) (x := .int ns[i]) (by simp [hi])
    rw [hv'] at h1
    cases h1
    have sm := List.all_eq_true.mp hs ns[i] (List.getElem_mem hi)
    have sm' : 0 ≤ ns[i] ∧ ns[i] < 7 := by simpa using sm
    rw [List.getD_eq_getElem?_getD, List.getElem?_eq_getElem hi, Option.getD_some]
    obtain ⟨t, rfl⟩ := h2
    refine ⟨by omega, t, ?_⟩
    rw [show ((ns[i].toNat : Nat) : Int) = ns[i] by omega]
  match ds, e with
  | [d0], e =>
    obtain ⟨v, t, rfl, hv, ht⟩ := hx.cons_inv
    cases ht.nil_inv
    obtain ⟨u, rfl, rx⟩ := vals1 rs
    rw [DS.setF] at e
    cases d0 with
    | lst ys =>
      rw [DS.items] at e
      dsimp only at e
      split at e
      · rename_i ns e1
        split at e
        · rename_i hs
          cases e
          rw [Rep] at hv
          obtain ⟨a, vs, rfl, qa, la, ta⟩ := hv
          cases rx
          have ev := ta.ints e1
          obtain ⟨its, r1, p1, _⟩ := I.list (xs := vs) (by rw [hK]; exact sub.seq qa)
          rw [ev] at r1
          have hl := r1.length
          rw [List.length_map] at hl
          refine SetPure.call_set_list (val := fun i => (ns.getD i 0).toNat) (I.ok.hd hc) p1.isList (fin ns its r1 hs) fun h' tk hS k => ?_
          rw [hw] at hS
          have k' : ∀ b u, s.heap.get? b = some u → h'.get? b = some u := fun b u e => k b u (Heap.lt_size e) e
          refine ⟨.ref _, _, I.setO k' hS, rfl, ?_⟩
          have ex := Ext.lay (o := SetO r.w s.heap.objs.size (SetPure.seen (fun i => (ns.getD i 0).toNat) its.toArray.size)) sub I.fresh
          refine q _ _ _ ex ?_
          rw [Rep]
          exact ⟨_, _, rfl, upd_same, by rw [sortU_seen hs, List.size_toArray, hl]⟩
        · cases e
      · cases e
    | tup ys =>
      rw [DS.items] at e
      dsimp only at e
      split at e
      · rename_i ns e1
        split at e
        · rename_i hs
          cases e
          rw [Rep] at hv
          obtain ⟨a, vs, rfl, qa, la, ta⟩ := hv
          cases rx
          have ev := ta.ints e1
          obtain ⟨its, r1, p1, _⟩ := I.tuple (xs := vs) (by rw [hK]; exact sub.seqT qa)
          rw [ev] at r1
          have hl := r1.length
          rw [List.length_map] at hl
          refine SetPure.call_set_tuple (val := fun i => (ns.getD i 0).toNat) (I.ok.hd hc) p1 (fin ns its r1 hs) fun h' tk hS k => ?_
          rw [hw] at hS
          have k' : ∀ b u, s.heap.get? b = some u → h'.get? b = some u := fun b u e => k b u (Heap.lt_size e) e
          refine ⟨.ref _, _, I.setO k' hS, rfl, ?_⟩
          have ex := Ext.lay (o := SetO r.w s.heap.objs.size (SetPure.seen (fun i => (ns.getD i 0).toNat) its.toArray.size)) sub I.fresh
          refine q _ _ _ ex ?_
          rw [Rep]
          exact ⟨_, _, rfl, upd_same, by rw [sortU_seen hs, List.size_toArray, hl]⟩
        · cases e
      · cases e
    | _ => simp [DS.items] at e
theorem set_is {pins : List (Addr × Obj)} {σ : St} {H : Hp} {s : Shared} {a : Addr} {p : Nat → Bool} (I : Inv X pins σ H s) (h : H a = some (SetO r.w a p)) : SetPure.IsSmall r.w s.heap a p := (I.hok a _ h).1
theorem o_uniD (hw : X.w = r.w := by rfl) : OpR X (binaryOp .BitOr) (rD r DS.uniD) := by
  intro pins s σ H x y v u Q I rx ry ⟨G, dx, dy, d, sub, hx, hy, e, q⟩
  cases dx with
  | set xs =>
    cases dy with
    | set ys =>
      rw [DS.uniD] at e
      cases e
      rw [Rep] at hx; rw [Rep] at hy
      obtain ⟨a, p, rfl, qa, rfl⟩ := hx
      obtain ⟨b, p', rfl, qb, rfl⟩ := hy
      cases rx
      cases ry
      have sa := set_is I (sub _ _ qa)
      have sb := set_is I (sub _ _ qb)
      rw [← hw] at sa sb
      by_cases hab : a = b
      · subst hab
        rw [qa] at qb
        have ep : SetO r.w a p = SetO r.w a p' := Option.some.inj qb
        have epl : SetPure.pl p = SetPure.pl p' := by
          obtain ⟨es, ep1, mk, fi, mo, h1, h2, _⟩ := sa
          obtain ⟨es', ep1', mk', fi', mo', h1', h2', _⟩ := sb
          rw [h1] at h1'
          injection h1' with h1'
          unfold SetPure.smallObj at h1'
          injection h1' with _ _ hd _
          injection hd with he _ _
          subst he
          have e1 := h2.hashes
          have e2 := h2'.hashes
          rw [e1] at e2
          unfold SetPure.hs at e2
          have e3 : (SetPure.pl p).map Int.ofNat = (SetPure.pl p').map Int.ofNat := by simpa using congrArg Array.toList e2
          exact List.map_inj_right (fun a b h => Int.ofNat.inj h) |>.mp e3
        refine SetPure.or_same sa fun h' k hS => ?_
        rw [hw] at hS
        refine ⟨.ref _, _, I.setO (tk := s.toks) k hS, rfl, ?_⟩
        have ex := Ext.lay (o := SetO r.w s.heap.objs.size p) sub I.fresh
        refine q _ _ _ ex ?_
        rw [Rep]
        exact ⟨_, _, rfl, upd_same, by rw [← epl, sortU_self]⟩
      · refine SetPure.or_small hab sa sb fun h' k hS => ?_
        rw [hw] at hS
        refine ⟨.ref _, _, I.setO (tk := s.toks) k hS, rfl, ?_⟩
        have ex := Ext.lay (o := SetO r.w s.heap.objs.size (SetPure.orQ p p')) sub I.fresh
        refine q _ _ _ ex ?_
        rw [Rep]
        exact ⟨_, _, rfl, upd_same, sortU_or⟩
    | _ => simp [DS.uniD] at e
  | _ => simp [DS.uniD] at e
theorem sorted_ints_uniq {ns : List Int} : ∀ ns' : List Int, ns'.Perm ns → ns'.Pairwise (· ≤ ·) → ns' = DS.sortI ns := fun ns' h1 h2 => SetPure.sorted_uniq (h1.trans (DS.sortI_p ns).symm) h2 (DS.sortI_s ns)
theorem Inv.sortedL {pins : List (Addr × Obj)} {σ : St} {H : Hp} {s : Shared} {xs : List V} {out : List Value} {Q : VK} (I : Inv X pins σ H s) (rv : Vals xs out) (hz : xs.length ≤ sizeLine) (q : ∀ p, H p = none → Q (.ref p) (upd H p (.lst xs))) :
    SortPure.Sorted s out (EP X pins σ Q) := fun h' D n k hD e =>
  ⟨.ref D, _, I.laid (t' := s.toks) (o := .lst xs) k hD ⟨hz, out, n, rv, e⟩, rfl, q D (I.hok.fresh hD)⟩
theorem pairsOf {G H : Hp} {pins : List (Addr × Obj)} {σ : St} {s : Shared} (I : Inv X pins σ H s) (hK : X.K = r.K) (sub : Same G H) : ∀ {ds : List D} {vs : List V} {its : List Value} {ps : List (Int × Int)}, Reps r G ds vs → Vals vs its → DS.pairs ds = some ps → SortPure.Pairs s.heap its ps
  | [], _, _, _, h, rv, e => by rw [h.nil_inv] at rv; cases rv; rw [DS.pairs] at e; cases e; exact .nil
  | .tup [.int i, .int j] :: ds, _, _, ps, h, rv, e => by
    obtain ⟨v, t, rfl, q, z⟩ := h.cons_inv
    cases rv with
    | cons r1 r2 =>
      rw [DS.pairs] at e
      obtain ⟨qs, e1, rfl⟩ := Option.map_eq_some_iff.mp e
      refine .cons ?_ (pairsOf I hK sub z r2 e1)
      rw [Rep] at q
      obtain ⟨a, vs, rfl, qa, la, ta⟩ := q
      cases r1
      have ev := ta.ints (ns := [i, j]) rfl
      obtain ⟨its, r3, p1, _⟩ := I.tuple (xs := vs) (by rw [hK]; exact sub.seqT qa)
      rw [ev] at r3
      cases r3 with
      | cons ra rb =>
        cases rb with
        | cons rb rc =>
          cases rc
          obtain ⟨t1, rfl⟩ := ra
          obtain ⟨t2, rfl⟩ := rb
          obtain ⟨o, e1, e2, n, e3⟩ := p1
          exact ⟨a, o, t1, t2, n, rfl, e1, e2, e3⟩
  | .non :: _, _, _, _, _, _, e => by simp [DS.pairs] at e
  | .bl _ :: _, _, _, _, _, _, e => by simp [DS.pairs] at e
  | .int _ :: _, _, _, _, _, _, e => by simp [DS.pairs] at e
  | .str _ :: _, _, _, _, _, _, e => by simp [DS.pairs] at e
  | .lst _ :: _, _, _, _, _, _, e => by simp [DS.pairs] at e
  | .set _ :: _, _, _, _, _, _, e => by simp [DS.pairs] at e
  | .exc _ :: _, _, _, _, _, _, e => by simp [DS.pairs] at e
  | .tup [] :: _, _, _, _, _, _, e => by simp [DS.pairs] at e
  | .tup [_] :: _, _, _, _, _, _, e => by simp [DS.pairs] at e
  | .tup (_ :: _ :: _ :: _) :: _, _, _, _, _, _, e => by simp [DS.pairs] at e
  | .tup [.non, _] :: _, _, _, _, _, _, e => by simp [DS.pairs] at e
  | .tup [.bl _, _] :: _, _, _, _, _, _, e => by simp [DS.pairs] at e
  | .tup [.str _, _] :: _, _, _, _, _, _, e => by simp [DS.pairs] at e
  | .tup [.lst _, _] :: _, _, _, _, _, _, e => by simp [DS.pairs] at e
  | .tup [.tup _, _] :: _, _, _, _, _, _, e => by simp [DS.pairs] at e
  | .tup [.set _, _] :: _, _, _, _, _, _, e => by simp [DS.pairs] at e
  | .tup [.exc _, _] :: _, _, _, _, _, _, e => by simp [DS.pairs] at e
  | .tup [.int _, .non] :: _, _, _, _, _, _, e => by simp [DS.pairs] at e
  | .tup [.int _, .bl _] :: _, _, _, _, _, _, e => by simp [DS.pairs] at e
  | .tup [.int _, .str _] :: _, _, _, _, _, _, e => by simp [DS.pairs] at e
  | .tup [.int _, .lst _] :: _, _, _, _, _, _, e => by simp [DS.pairs] at e
  | .tup [.int _, .tup _] :: _, _, _, _, _, _, e => by simp [DS.pairs] at e
  | .tup [.int _, .set _] :: _, _, _, _, _, _, e => by simp [DS.pairs] at e
  | .tup [.int _, .exc _] :: _, _, _, _, _, _, e => by simp [DS.pairs] at e
theorem risesFst_pw : ∀ {ps : List (Int × Int)}, DS.risesFst ps = true → ps.Pairwise fun p q => p.1 < q.1
  | [], _ => .nil
  | [_], _ => by simp
  | p :: q :: t, h => by
    rw [DS.risesFst, Bool.and_eq_true] at h
    have ih := risesFst_pw h.2
    have h1 : p.1 < q.1 := by simpa using h.1
    refine List.pairwise_cons.mpr ⟨fun z hz => ?_, ih⟩
    rcases List.mem_cons.mp hz with rfl | hz
    · exact h1
    · have := (List.pairwise_cons.mp ih).1 z hz
      omega
theorem c_srtF (hc : X.calm = true) (hK : X.K = r.K := by rfl) (hw : X.w = r.w := by rfl) : CallR X (.builtin "sorted") (rDL r DS.srtF) := by
  intro pins s σ H xs us Q I rs ⟨G, ds, d, sub, hx, e, q⟩
  match ds, e with
  | [.set ys], e =>
    obtain ⟨v, t, rfl, hv, ht⟩ := hx.cons_inv
    cases ht.nil_inv
    obtain ⟨u, rfl, rx⟩ := vals1 rs
    rw [DS.srtF] at e
    cases e
    rw [Rep] at hv
    obtain ⟨a, p, rfl, qa, rfl⟩ := hv
    cases rx
    have sa := set_is I (sub _ _ qa)
    rw [← hw] at sa
    refine SetPure.sorted_set (I.ok.hd hc) sa fun h' tk l out n k hn hl hsz hi => ?_
    have rv := vals_ints hi
    have hlen : ((SetPure.pl p).map Int.ofNat).length ≤ sizeLine := by rw [List.length_map]; exact SetPure.small_le (SetPure.len_pl p)
    refine ⟨.ref l, _, I.laid (t' := tk) (o := .lst (((SetPure.pl p).map Int.ofNat).map V.int)) k hsz ⟨by rw [List.length_map]; exact hlen, out, n, rv, hl⟩, rfl, ?_⟩
    have ex := Ext.lay (o := .lst (((SetPure.pl p).map Int.ofNat).map V.int)) sub (I.hok.fresh hsz)
    refine q _ _ _ ex ?_
    rw [Rep]
    exact ⟨l, _, rfl, SqL.of upd_same, by rw [List.length_map]; exact hlen, Reps.ofInts _⟩
  | [.lst ys], e =>
    obtain ⟨v, t, rfl, hv, ht⟩ := hx.cons_inv
    cases ht.nil_inv
    obtain ⟨u, rfl, rx⟩ := vals1 rs
    rw [Rep] at hv
    obtain ⟨a, vs, rfl, qa, la, ta⟩ := hv
    cases rx
    obtain ⟨its, r1, p1, _⟩ := I.list (xs := vs) (by rw [hK]; exact sub.seq qa)
    have l1 := ta.length.trans r1.length
    rw [DS.srtF] at e
    split at e
    · rename_i h64
      split at e
      · rename_i ns e1
        cases e
        have ev := ta.ints e1
        have l2 : ns.length = vs.length := by rw [ev]; simp
        have l3 : (DS.sortI ns).length = ns.length := (DS.sortI_p ns).length_eq
        rw [ev] at r1
        refine SortPure.sorted_ints_by (intsAre_of r1) sorted_ints_uniq (by omega) (fun {Q'} q => collect_list p1.isList q (by rw [sizeLine_eq]; omega)) fun out hi => I.sortedL (vals_ints hi) (by rw [List.length_map]; omega) fun p hp => ?_
        have ex := Ext.lay (o := .lst ((DS.sortI ns).map V.int)) sub hp
        refine q _ _ _ ex ?_
        rw [Rep]
        exact ⟨p, _, rfl, SqL.of upd_same, by rw [List.length_map]; omega, Reps.ofInts _⟩
      · split at e
        · rename_i ps e1
          split at e
          · rename_i hr
            cases e
            refine SortPure.sorted_pairs p1.isList (pairsOf I hK sub ta r1 e1) (risesFst_pw hr) (by omega) (I.sortedL r1 la fun p hp => ?_)
            have ex := Ext.lay (o := .lst vs) sub hp
            refine q _ _ _ ex ?_
            rw [Rep]
            exact ⟨p, _, rfl, SqL.of upd_same, la, ta.mono ex.view⟩
          · cases e
        · cases e
    · cases e
  | [.tup ys], e =>
    obtain ⟨v, t, rfl, hv, ht⟩ := hx.cons_inv
    cases ht.nil_inv
    obtain ⟨u, rfl, rx⟩ := vals1 rs
    rw [Rep] at hv
    obtain ⟨a, vs, rfl, qa, la, ta⟩ := hv
    cases rx
    obtain ⟨its, r1, p1, _⟩ := I.tuple (xs := vs) (by rw [hK]; exact sub.seqT qa)
    have l1 := ta.length.trans r1.length
    rw [DS.srtF] at e
    split at e
    · rename_i h64
      split at e
      · rename_i ns e1
        cases e
        have ev := ta.ints e1
        have l2 : ns.length = vs.length := by rw [ev]; simp
        have l3 : (DS.sortI ns).length = ns.length := (DS.sortI_p ns).length_eq
        rw [ev] at r1
        refine SortPure.sorted_ints_by (intsAre_of r1) sorted_ints_uniq (by omega) (fun {Q'} q => SortPure.collect_tuple p1 q (by rw [sizeLine_eq]; omega)) fun out hi => I.sortedL (vals_ints hi) (by rw [List.length_map]; omega) fun p hp => ?_
        have ex := Ext.lay (o := .lst ((DS.sortI ns).map V.int)) sub hp
        refine q _ _ _ ex ?_
        rw [Rep]
        exact ⟨p, _, rfl, SqL.of upd_same, by rw [List.length_map]; omega, Reps.ofInts _⟩
      · cases e
    · cases e
end
end L2
namespace L2
open PySem PySem.Spec PyProof.Rows
open DS (D Sl Rho R M FS O Tg)
section
variable {X : Cx} {r : Rc} {c : Db} {Ex : St → XK} {a b : Expr} {pos apos : Pos} {fa fb : M D}
def rM (r : Rc) (g : D → D → Option D) : V → List V → Hp → VK → Prop := fun x xs H Q => ∃ y, xs = [y] ∧ rD r g x y H Q
theorem imp_opL {g : D → D → Option D} {σ : St} {H : Hp} {Q : VK} {K : PySem.W.Frag} (hK : K = c.r.K) (h : tE c Ex (DS.opL g fa fb) σ H Q) : tBM K "list" (rM c.r g) (tE c Ex fa) (tCons (tE c Ex fb) tNil) σ H Q := by
  obtain ⟨ρ, G, hs, ts, us, ρ', x, s, e, hf⟩ := h
  refine tM_bnd s e hf fun ρ1 dx v H1 G1 e1 s1 r1 => ?_
  unfold DS.bnd at e1
  cases dx with
  | lst xs =>
    have e2 : DS.bnd fb (fun y => DS.lft (g (.lst xs) y)) ρ1 = some (ρ', x) := e1
    have r1' := r1
    rw [Rep] at r1'
    obtain ⟨a, vs, rfl, qa, la, ta⟩ := r1'
    refine ⟨.inl ⟨rfl, vs, by rw [hK]; exact s1.sub.seq qa⟩, ?_⟩
    refine tM_bnd (s1.push r1) e2 hf.push fun ρ2 y u H2 G2 e2 s2 r2 => ?_
    obtain ⟨d, e3, rfl, rfl⟩ := lft_inv e2
    obtain ⟨r1', s2'⟩ := s2.pop1
    exact ⟨u, rfl, G2, _, y, d, s2'.sub, r1', r2, e3, fun v' H' G' ex rp => hf v' H' G' (s2'.grow ex) rp⟩
  | _ => cases e1
theorem m_cntD (hu : X.A.units + 64 < cLine) (hK : X.K = r.K := by rfl) : MtR X "list.count" (rM r DS.cntD) := by
  intro pins s σ H x xs v us Q I rx rs ⟨y, exs, G, dx, dy, d, sub, hx, hy, e, q⟩
  subst exs
  obtain ⟨u, rfl, ry⟩ := vals1 rs
  unfold DS.cntD at e
  cases dx with
  | lst ys =>
    dsimp only at e
    split at e
    · rename_i hc
      cases e
      rw [Bool.and_eq_true] at hc
      rw [Rep] at hx
      obtain ⟨a, vs, rfl, qa, la, ta⟩ := hx
      cases rx
      obtain ⟨its, r1, p1, _⟩ := I.list (xs := vs) (by rw [hK]; exact sub.seq qa)
      obtain ⟨f, h1, h2⟩ := eq_fun (A := X.A.in1) I hK sub hy ry hc.1 (by show X.A.units + 1 + 20 < cLine; omega) ta r1 hc.2
      obtain ⟨⟨cls, dd, data, sl⟩, ho, hcl, n, hd⟩ := p1.isList
      simp only at hcl hd
      subst hcl hd
      refine call_meets F.slot_list_count ⟨_, ho, rfl⟩ F.entry_list_count (F.args_list_count_2 _ _) (SeqAt.list_countAt a its.toArray n dd sl u f) ⟨ho, fun w hw => h1 w (by simpa using hw), ?_⟩
      refine ⟨.int _, H, I.tok _, ⟨_, rfl⟩, q _ H G (Ext.refl sub) ?_⟩
      rw [Rep, show its.toArray.toList.countP f = its.countP f by simp, countP_map' f its h2]
    · cases e
  | _ => cases e
theorem d_cntD (hu : X.A.units + 64 < cLine) (ha : PE X a (tE c Ex fa)) (hb : PE X b (tE c Ex fb)) (hK : X.K = c.r.K := by rfl)
    (hbase : attributeBase a "count" X.env (eval a X.env) = eval a X.env := by rfl)
    (hfew : ((backTo pos (starEach [b] X.env)).all (fun x => !x.1) && (backToKw pos (keywordEach [] X.env)).all (fun x => x.1.isSome)
      && decide ([b].length + ([] : List Keyword).length + (if ([] : List Keyword).isEmpty then 0 else 1) < 30)) = true := by rfl)
    (hline : (apos.endLine == pos.line) = true := by rfl) (hs : starEach [b] X.env = (false, eval b X.env) :: starEach [] X.env := by rfl) (hplain : (backTo pos (starEach [] X.env)).any (·.1) = false := by rfl) :
    PE X (.Call (.Attribute a "count" apos) [b] [] pos) (tE c Ex (DS.opL DS.cntD fa fb)) :=
  (pe_bm PySem.F.plainAttrs_list PySem.F.slot_list_count PySem.F.type_list_count (m_cntD hu hK) ha (pa_cons hb pa_nil hs) hbase hfew hline hs hplain).imp fun _ _ _ h => imp_opL hK h
theorem findIdx_map' {α : Type} (e : α → Bool) : ∀ (l : List α) {ds : List D} {f : D → Bool}, l.map e = ds.map f → l.findIdx e = ds.findIdx f
  | [], [], _, _ => rfl
  | [], _ :: _, _, h => by simp at h
  | _ :: _, [], _, h => by simp at h
  | x :: l, d :: ds, f, h => by
    simp only [List.map_cons, List.cons.injEq] at h
    rw [List.findIdx_cons, List.findIdx_cons, h.1, findIdx_map' e l h.2]
theorem m_idxD (hu : X.A.units + 64 < cLine) (hK : X.K = r.K := by rfl) : MtR X "list.index" (rM r DS.idxD) := by
  intro pins s σ H x xs v us Q I rx rs ⟨y, exs, G, dx, dy, d, sub, hx, hy, e, q⟩
  subst exs
  obtain ⟨u, rfl, ry⟩ := vals1 rs
  unfold DS.idxD at e
  cases dx with
  | lst ys =>
    dsimp only at e
    split at e
    · rename_i hc
      split at e
      · rename_i hlt
        cases e
        rw [Bool.and_eq_true] at hc
        rw [Rep] at hx
        obtain ⟨a, vs, rfl, qa, la, ta⟩ := hx
        cases rx
        obtain ⟨its, r1, p1, _⟩ := I.list (xs := vs) (by rw [hK]; exact sub.seq qa)
        obtain ⟨f, h1, h2⟩ := eq_fun (A := X.A.in1) I hK sub hy ry hc.1 (by show X.A.units + 1 + 20 < cLine; omega) ta r1 hc.2
        have l1 := ta.length.trans r1.length
        have ef := findIdx_map' f its h2
        have hlt' : its.findIdx f < its.length := by rw [ef]; omega
        obtain ⟨⟨cls, dd, data, sl⟩, ho, hcl, n, hd⟩ := p1.isList
        simp only at hcl hd
        subst hcl hd
        have hz : vs.length ≤ 16777216 := by rw [sizeLine_eq] at la; exact la
        have l2 := r1.length
        refine call_meets F.slot_list_index ⟨_, ho, rfl⟩ F.entry_list_index (F.args_list_index_2 _ _) (SeqAt.list_indexAt a its.toArray n dd sl u f (its.findIdx f) (by simpa using hlt') (by omega) ?_ ?_) ⟨ho, fun w hw => h1 w (by simpa using hw), ?_⟩
        · have := List.findIdx_getElem (w := hlt')
          simpa using this
        · intro m hm hlt2
          have := List.not_of_lt_findIdx hlt2
          simpa using this
        · refine ⟨.int _, H, I.tok _, ⟨_, rfl⟩, q _ H G (Ext.refl sub) ?_⟩
          rw [Rep, ef]
      · cases e
    · cases e
  | _ => cases e
theorem d_idxD (hu : X.A.units + 64 < cLine) (ha : PE X a (tE c Ex fa)) (hb : PE X b (tE c Ex fb)) (hK : X.K = c.r.K := by rfl)
    (hbase : attributeBase a "index" X.env (eval a X.env) = eval a X.env := by rfl)
    (hfew : ((backTo pos (starEach [b] X.env)).all (fun x => !x.1) && (backToKw pos (keywordEach [] X.env)).all (fun x => x.1.isSome)
      && decide ([b].length + ([] : List Keyword).length + (if ([] : List Keyword).isEmpty then 0 else 1) < 30)) = true := by rfl)
    (hline : (apos.endLine == pos.line) = true := by rfl) (hs : starEach [b] X.env = (false, eval b X.env) :: starEach [] X.env := by rfl) (hplain : (backTo pos (starEach [] X.env)).any (·.1) = false := by rfl) :
    PE X (.Call (.Attribute a "index" apos) [b] [] pos) (tE c Ex (DS.opL DS.idxD fa fb)) :=
  (pe_bm PySem.F.plainAttrs_list PySem.F.slot_list_index PySem.F.type_list_index (m_idxD hu hK) ha (pa_cons hb pa_nil hs) hbase hfew hline hs hplain).imp fun _ _ _ h => imp_opL hK h
structure ErrCls (K : PySem.W.Frag) (ad : String → Addr) (cls : List String) : Prop where
  isi : ∀ n, cls.contains n = true → PySem.W.ExcIsi K (ad n) ∧ (PySem.W.clsIn K (ad n)).isSome = true
theorem d_isi {p q : Pos} {y : Str} {cls : List String} {sup : String → String → Bool} {m : String} {vc : V} {cv : Value} (E : ErrCls X.K c.r.ad cls) (hk : ∀ n, cls.contains n = true → PySem.W.kitOne X.K (.ref (c.r.ad n)) cv = some (sup n m))
    (hm : X.mg "isinstance" = none) (hv : bootBuiltins "isinstance" = some (.builtin "isinstance")) (hcl : PE X (.Name y q) (tC vc)) (hvc : RelV vc cv) (hvv : ∀ u, RelV vc u → u = cv) (ha : PE X a (tE c Ex fa)) (hK : X.K = c.r.K := by rfl) (hg : Gl X "isinstance" := by rfl)
    (he : starEach [a, .Name y q] X.env = (false, eval a X.env) :: starEach [.Name y q] X.env := by rfl) (he2 : starEach [.Name y q] X.env = (false, eval (.Name y q) X.env) :: starEach [] X.env := by rfl) (hpl : (backTo pos (starEach [.Name y q] X.env)).any (·.1) = false := by rfl) :
    PE X (.Call (.Name "isinstance" p) [a, .Name y q] [] pos) (tE c Ex (DS.op1 (DS.isiE cls sup m) fa)) := by
  have hc : CallR X (.builtin "isinstance") (fun xs H Q => ∃ x, xs = [x, vc] ∧ rD1 c.r (DS.isiE cls sup m) x H Q) := by
    intro pins s σ H xs us Q I rs ⟨x, exs, G, dx, d, sub, hx, e, q⟩
    subst exs
    obtain ⟨u, v, rfl, rx, ry⟩ := vals2 rs
    have := hvv v ry
    subst this
    cases dx with
    | exc n =>
      rw [DS.isiE] at e
      split at e
      · rename_i hn
        cases e
        rw [Rep] at hx
        obtain ⟨a', rfl, qa⟩ := hx
        cases rx
        obtain ⟨h1, h2⟩ := E.isi n hn
        have ob : ∃ o vs, s.heap.get? a' = some o ∧ o.cls = .ref (c.r.ad n) ∧ o.data = .fields vs := (I.hok a' _ (sub _ _ qa)).1
        exact PySem.W.kia_one (PySem.W.kitx_exc h1 h2) I.kIn ob (hk n hn) (fun z => nomatch z) fun tk => ⟨.bl _, H, I.tok tk, rfl, q _ H G (Ext.refl sub) (by rw [Rep])⟩
      · cases e
    | _ => simp [DS.isiE] at e
  refine (pe_callB hc hg hm hv (pa_cons ha (pa_cons hcl pa_nil he2) he) (by decide) (by decide) he hpl).imp fun σ H Q h => ?_
  exact imp_args h
where
  imp_args {g : D → Option D} {σ : St} {H : Hp} {Q : VK} {vc : V} (h : tE c Ex (DS.op1 g fa) σ H Q) : tCB (fun xs H Q => ∃ x, xs = [x, vc] ∧ rD1 c.r g x H Q) (tCons (tE c Ex fa) (tCons (tC vc) tNil)) σ H Q := by
    obtain ⟨ρ, G, hs, ts, us, ρ', x, s, e, hf⟩ := h
    refine tM_bnd s e hf fun ρ1 dx v H1 G1 e1 s1 r1 => ?_
    obtain ⟨d, e3, rfl, rfl⟩ := lft_inv e1
    exact ⟨v, rfl, G1, dx, d, s1.sub, r1, e3, fun v' H' G' ex rp => hf v' H' G' (s1.grow ex) rp⟩
theorem d_isiO {p q : Pos} {y : Str} {C : Addr} {cls : List String} {sup : String → String → Bool} {m : String} (E : ErrCls X.K c.r.ad cls) (hk : ∀ n, cls.contains n = true → PySem.W.kitOne X.K (.ref (c.r.ad n)) (.ref C) = some (sup n m))
    (hm : X.mg "isinstance" = none) (hv : bootBuiltins "isinstance" = some (.builtin "isinstance")) (hy : X.mg y = some (.ref C)) (ha : PE X a (tE c Ex fa)) (hgy : Gl X y := by rfl) (hdb : (y == ("__debug__" : Str)) = false := by decide) (hK : X.K = c.r.K := by rfl) (hg : Gl X "isinstance" := by rfl)
    (he : starEach [a, .Name y q] X.env = (false, eval a X.env) :: starEach [.Name y q] X.env := by rfl) (he2 : starEach [.Name y q] X.env = (false, eval (.Name y q) X.env) :: starEach [] X.env := by rfl) (hpl : (backTo pos (starEach [.Name y q] X.env)).any (·.1) = false := by rfl) :
    PE X (.Call (.Name "isinstance" p) [a, .Name y q] [] pos) (tE c Ex (DS.op1 (DS.isiE cls sup m) fa)) := d_isi (vc := .ref C) (cv := .ref C) E hk hm hv (pe_glob hgy hy rfl hdb) rfl (fun _ h => h) ha hK hg he he2 hpl
theorem d_isiT {p q : Pos} {y : Str} {T : String} {cls : List String} {sup : String → String → Bool} {m : String} (E : ErrCls X.K c.r.ad cls) (hk : ∀ n, cls.contains n = true → PySem.W.kitOne X.K (.ref (c.r.ad n)) (.type T) = some (sup n m))
    (hm : X.mg "isinstance" = none) (hv : bootBuiltins "isinstance" = some (.builtin "isinstance")) (hy : X.mg y = none) (hb : bootBuiltins y = some (.type T)) (ha : PE X a (tE c Ex fa)) (hgy : Gl X y := by rfl) (hn : y ≠ "__name__" := by decide) (hdb : (y == ("__debug__" : Str)) = false := by decide) (hK : X.K = c.r.K := by rfl) (hg : Gl X "isinstance" := by rfl)
    (he : starEach [a, .Name y q] X.env = (false, eval a X.env) :: starEach [.Name y q] X.env := by rfl) (he2 : starEach [.Name y q] X.env = (false, eval (.Name y q) X.env) :: starEach [] X.env := by rfl) (hpl : (backTo pos (starEach [.Name y q] X.env)).any (·.1) = false := by rfl) :
    PE X (.Call (.Name "isinstance" p) [a, .Name y q] [] pos) (tE c Ex (DS.op1 (DS.isiE cls sup m) fa)) := d_isi (vc := .ty T) (cv := .type T) E hk hm hv (pe_bltn hgy hy hb rfl hn hdb) rfl (fun _ h => h) ha hK hg he he2 hpl
theorem d_isiB {p q : Pos} (hk : PySem.W.kitOne X.K (.type "bool") (.type "bool") = some true) (hm : X.mg "isinstance" = none) (hv : bootBuiltins "isinstance" = some (.builtin "isinstance")) (hy : X.mg "bool" = none) (hb : bootBuiltins "bool" = some (.type "bool")) (ha : PE X a (tE c Ex fa)) (hgy : Gl X "bool" := by rfl) (hg : Gl X "isinstance" := by rfl)
    (he : starEach [a, .Name "bool" q] X.env = (false, eval a X.env) :: starEach [.Name "bool" q] X.env := by rfl) (he2 : starEach [.Name "bool" q] X.env = (false, eval (.Name "bool" q) X.env) :: starEach [] X.env := by rfl) (hpl : (backTo pos (starEach [.Name "bool" q] X.env)).any (·.1) = false := by rfl) :
    PE X (.Call (.Name "isinstance" p) [a, .Name "bool" q] [] pos) (tE c Ex (DS.op1 DS.isiB fa)) := by
  have hc : CallR X (.builtin "isinstance") (fun xs H Q => ∃ x, xs = [x, .ty "bool"] ∧ rD1 c.r DS.isiB x H Q) := by
    intro pins s σ H xs us Q I rs ⟨x, exs, G, dx, d, sub, hx, e, q⟩
    subst exs
    obtain ⟨u, v, rfl, rx, ry⟩ := vals2 rs
    cases ry
    cases dx with
    | bl b =>
      rw [DS.isiB] at e
      cases e
      rw [Rep] at hx
      subst hx
      exact isinst_ok I rx (.bl b) hk fun tk => ⟨.bl _, H, I.tok tk, rfl, q _ H G (Ext.refl sub) (by rw [Rep])⟩
    | _ => simp [DS.isiB] at e
  exact (pe_callB hc hg hm hv (pa_cons ha (pa_cons (pe_bltn (v := .ty "bool") hgy hy hb rfl) pa_nil he2) he) (by decide) (by decide) he hpl).imp fun σ H Q h => d_isi.imp_args h
end
end L2
namespace L2
open PySem PySem.Spec PyProof.Rows
open DS (D Sl Rho R M FS O Tg)
def Yld (r : Rc) (J : It) (d : D) (v : V) (ds : List D) : Prop := ∀ H G, Same G H → Rep r G d v →
  (∀ i, i < ds.length → J.go i H) ∧ (∀ i, ds.length ≤ i → J.stop i H) ∧ ∀ i x H', i < ds.length → J.yld i H x H' → H' = H ∧ ∃ e, ds[i]? = some e ∧ Rep r G e x
def tI (c : Db) (Ex : St → XK) (f : M (List D)) : TI := fun σ H Q => ∃ ρ G hs ts us ρ' r, SR c ρ σ H G hs ts us ∧ f ρ = some (ρ', r) ∧ match r with
  | .ok ds => ∀ J H' G' d v, SR c ρ' σ H' G' hs (d :: ts) (v :: us) → Yld c.r J d v ds → Q J H'
  | .er n => ∀ H' G', SR c ρ' σ H' G' hs ts us → Ex σ (.ref (c.r.ad n)) none H'
section
variable {X : Cx} {c : Db} {Ex : St → XK} {tg a b e : Expr} {pos : Pos} {fa : M D} {fs : M (List D)}
theorem pi_seq {l : Expr} {tl : TE} (hl : PE X l tl) : PI X tg l (fun σ H Q => tl σ H fun x H1 => (∃ a, x = .ref a ∧ (∃ xs, SqL X.K H1 a xs) ∧ Q (Itl X.K a) H1) ∨ (∃ a, x = .ref a ∧ (∃ xs, SqT X.K H1 a xs) ∧ Q (Itt X.K a) H1)) := by
  intro pins s σ H Q I h
  refine thn (hl pins s σ H _ I h) fun v s1 ⟨x, H1, I1, r1, q1⟩ => ?_
  rcases q1 with ⟨a, e, ⟨xs, hq⟩, q⟩ | ⟨a, e, ⟨xs, hq⟩, q⟩
  · subst e
    cases r1
    obtain ⟨its, rv, p, hz⟩ := I1.list hq
    refine wpAny_pyIter_list p.isList ?_
    refine ⟨s1.heap.objs.size, [s1.heap.objs.size], _, _, H1, rfl, I1.kept (t' := s1.toks) fun b o e => Heap.get?_push_of_some _ e, turn_list a _, ⟨_, Heap.get?_push_size _ rfl, rfl, rfl⟩, fun b hb => ?_, q⟩
    have e : b = s1.heap.objs.size := by simpa using hb
    subst e
    exact I1.fpOk (Nat.le_refl _) (I1.hok.fresh (Nat.le_refl _))
  · subst e
    cases r1
    obtain ⟨its, rv, p, hz⟩ := I1.tuple hq
    refine wpAny_pyIter_tuple (show s1.heap.IsTuple a its.toArray from p) ?_
    refine ⟨s1.heap.objs.size, [s1.heap.objs.size], _, _, H1, rfl, I1.kept (t' := s1.toks) fun b o e => Heap.get?_push_of_some _ e, turn_tuple a _, ⟨_, Heap.get?_push_size _ rfl, rfl, rfl⟩, fun b hb => ?_, q⟩
    have e : b = s1.heap.objs.size := by simpa using hb
    subst e
    exact I1.fpOk (Nat.le_refl _) (I1.hok.fresh (Nat.le_refl _))
theorem yld_lst {r : Rc} {a : Addr} {ds : List D} : Yld r (Itl r.K a) (.lst ds) (.ref a) ds := by
  intro H G sub h
  rw [Rep] at h
  obtain ⟨a', vs, e, qa, la, ta⟩ := h
  cases e
  have hl := ta.length
  have hq := sub.seq qa
  refine ⟨fun i hi => ⟨vs, vs[i], hq, by simp [show i < vs.length by omega]⟩, fun i hi => ⟨vs, hq, by omega⟩, fun i x H' hi y => ?_⟩
  obtain ⟨e1, y⟩ := y
  obtain ⟨d, h1, h2⟩ := ta.get_of (y vs hq)
  exact ⟨e1, d, h1, h2⟩
theorem yld_tup {r : Rc} {a : Addr} {ds : List D} : Yld r (Itt r.K a) (.tup ds) (.ref a) ds := by
  intro H G sub h
  rw [Rep] at h
  obtain ⟨a', vs, e, qa, la, ta⟩ := h
  cases e
  have hl := ta.length
  have hq := sub.seqT qa
  refine ⟨fun i hi => ⟨vs, vs[i], hq, by simp [show i < vs.length by omega]⟩, fun i hi => ⟨vs, hq, by omega⟩, fun i x H' hi y => ?_⟩
  obtain ⟨e1, y⟩ := y
  obtain ⟨d, h1, h2⟩ := ta.get_of (y vs hq)
  exact ⟨e1, d, h1, h2⟩
theorem d_itE (ha : PE X a (tE c Ex fa)) (hK : X.K = c.r.K := by rfl) : PI X tg a (tI c Ex (DS.itE fa)) := (pi_seq ha).imp fun σ H Q h => by
  obtain ⟨ρ, G, hs, ts, us, ρ', r, s, e, hf⟩ := h
  unfold DS.itE DS.bnd at e
  cases q : fa ρ with
  | none => rw [q] at e; cases e
  | some p =>
    obtain ⟨ρ1, x⟩ := p
    rw [q] at e
    cases x with
    | er n => cases e; exact ⟨ρ, G, hs, ts, us, _, .er n, s, q, hf⟩
    | ok d =>
      refine ⟨ρ, G, hs, ts, us, ρ1, .ok d, s, q, fun v H1 G1 s1 r1 => ?_⟩
      obtain ⟨ds, e1, rfl, rfl⟩ := lft_inv e
      cases d with
      | lst xs =>
        rw [DS.items] at e1
        cases e1
        have r1' := r1
        rw [Rep] at r1'
        obtain ⟨a, vs, rfl, qa, la, ta⟩ := r1'
        refine .inl ⟨a, rfl, ⟨vs, by rw [hK]; exact s1.sub.seq qa⟩, ?_⟩
        rw [hK]
        exact hf _ H1 G1 _ _ (s1.push r1) yld_lst
      | tup xs =>
        rw [DS.items] at e1
        cases e1
        have r1' := r1
        rw [Rep] at r1'
        obtain ⟨a, vs, rfl, qa, la, ta⟩ := r1'
        refine .inr ⟨a, rfl, ⟨vs, by rw [hK]; exact s1.sub.seqT qa⟩, ?_⟩
        rw [hK]
        exact hf _ H1 G1 _ _ (s1.push r1) yld_tup
      | _ => simp [DS.items] at e1
theorem yld_rng {r : Rc} {lo hi : Int} : Yld r (Itr lo (hi - lo).toNat) .non .non (DS.rng lo hi) := by
  intro H G sub h
  have hl : (DS.rng lo hi).length = (hi - lo).toNat := by unfold DS.rng; simp
  refine ⟨fun i hi => by rw [hl] at hi; exact hi, fun i hi => by rw [hl] at hi; exact hi, fun i x H' hi' y => ?_⟩
  obtain ⟨e1, rfl⟩ := y
  rw [hl] at hi'
  refine ⟨e1, .int (lo + i), ?_, by rw [Rep]⟩
  unfold DS.rng
  simp [hi']
theorem Yld.z {r : Rc} {lo hi : Int} (h : lo = 0) : Yld r (Itr 0 hi.toNat) .non .non (DS.rng 0 hi) := by
  have := @yld_rng r 0 hi
  simpa using this
theorem d_itR1 {p : Pos} (hm : X.mg "range" = none) (ha : PA X [a] (tA c Ex fs)) (hg : Gl X "range" := by rfl) (hs : starEach [a] X.env = [(false, eval a X.env)] := by rfl) : PI X tg (.Call (.Name "range" p) [a] [] pos) (tI c Ex (DS.itR1 fs)) := (pi_range1 hg hm ha hs).imp fun σ H Q h => by
  obtain ⟨ρ, G, hs, ts, us, ρ', r, s, e, hf⟩ := h
  unfold DS.itR1 DS.bnd at e
  cases q : fs ρ with
  | none => rw [q] at e; cases e
  | some p =>
    obtain ⟨ρ1, x⟩ := p
    rw [q] at e
    cases x with
    | er n => cases e; exact ⟨ρ, G, hs, ts, us, _, .er n, s, q, hf⟩
    | ok d =>
      refine ⟨ρ, G, hs, ts, us, ρ1, .ok d, s, q, fun v H1 G1 s1 r1 => ?_⟩
      obtain ⟨ds, e1, rfl, rfl⟩ := lft_inv e
      match d, e1 with
      | [.int j], e1 =>
        rw [DS.rg1] at e1
        split at e1
        · rename_i hj
          cases e1
          obtain ⟨v0, t, rfl, hv, ht⟩ := r1.cons_inv
          cases ht.nil_inv
          rw [Rep] at hv
          subst hv
          replace hj := DS.inR_62 hj
          simp only [Bool.and_eq_true, decide_eq_true_eq] at hj
          exact ⟨j, rfl, hj.1, hj.2, hf _ H1 G1 .non .non (s1.push (by rw [Rep])) (Yld.z (lo := 0) rfl)⟩
        · cases e1
theorem d_itR2 {p : Pos} (hm : X.mg "range" = none) (ha : PA X [a, b] (tA c Ex fs)) (hg : Gl X "range" := by rfl) (hs : starEach [a, b] X.env = [(false, eval a X.env), (false, eval b X.env)] := by rfl) (hs2 : starEach [b] X.env = [(false, eval b X.env)] := by rfl) :
    PI X tg (.Call (.Name "range" p) [a, b] [] pos) (tI c Ex (DS.itR2 fs)) := (pi_range2 hg hm ha hs hs2).imp fun σ H Q h => by
  obtain ⟨ρ, G, hs, ts, us, ρ', r, s, e, hf⟩ := h
  unfold DS.itR2 DS.bnd at e
  cases q : fs ρ with
  | none => rw [q] at e; cases e
  | some p =>
    obtain ⟨ρ1, x⟩ := p
    rw [q] at e
    cases x with
    | er n => cases e; exact ⟨ρ, G, hs, ts, us, _, .er n, s, q, hf⟩
    | ok d =>
      refine ⟨ρ, G, hs, ts, us, ρ1, .ok d, s, q, fun v H1 G1 s1 r1 => ?_⟩
      obtain ⟨ds, e1, rfl, rfl⟩ := lft_inv e
      match d, e1 with
      | [.int i, .int j], e1 =>
        rw [DS.rg2] at e1
        split at e1
        · rename_i hj
          cases e1
          obtain ⟨v0, t, rfl, hv, ht⟩ := r1.cons_inv
          obtain ⟨v1, t, rfl, hv1, ht⟩ := ht.cons_inv
          cases ht.nil_inv
          rw [Rep] at hv; rw [Rep] at hv1
          subst hv
          subst hv1
          rw [Bool.and_eq_true] at hj
          replace hj := And.intro (DS.inR_62 hj.1) (DS.inR_62 hj.2)
          simp only [Bool.and_eq_true, decide_eq_true_eq] at hj
          exact ⟨i, j, rfl, ⟨hj.1.1, hj.1.2, hj.2.1, hj.2.2⟩, hf _ H1 G1 .non .non (s1.push (by rw [Rep])) yld_rng⟩
        · cases e1
end
def slotsOf : Tg → List Nat
  | .nm i => [i]
  | .tp is => is
def Upto (is : List Nat) (σ σ' : St) : Prop := σ'.length = σ.length ∧ ∀ j, j ∉ is → σ'[j]? = σ[j]?
def tG (c : Db) (tg : Tg) : TG := fun v σ H Q => ∃ ρ G hs ts us d ρ', SR c ρ σ H G hs ts us ∧ Rep c.r G d v ∧ DS.asg tg d ρ = some ρ' ∧ ∀ σ', SR c ρ' σ' H G hs ts us → Upto (slotsOf tg) σ σ' → Q σ' H
section
variable {X : Cx} {c : Db} {pos : Pos} {es : List Expr}
theorem d_nm (i : Nat) {x : Str} (hN : X.N.Nodup) (hi : X.N[i]? = some x := by rfl) (hx : Loc X.env.scope x := by first | exact Or.inl rfl | exact Or.inr rfl) (hf : X.fn x = true ∨ X.env.scope.names.lookup x = some .local := by first | exact .inl rfl | exact .inr rfl | assumption) : PG X (.Name x pos) (tG c (.nm i)) := by
  intro pins s σ H v u Q I r h
  refine pg_name hN hi hx hf pins s σ H v u Q I r ?_
  obtain ⟨ρ, G, hs, ts, us, d, ρ', sr, rp, e, k⟩ := h
  rw [DS.asg] at e
  cases e
  refine k _ (sr.bind rp i) ⟨by simp, fun j hj => ?_⟩
  simp [slotsOf] at hj
  rw [List.getElem?_set_ne (Ne.symm hj)]
def tGs (c : Db) (is : List Nat) : TGs := fun vs σ H Q => ∃ ρ G hs ts us ds, SR c ρ σ H G hs ts us ∧ Reps c.r G ds vs ∧ ds.length = is.length ∧ ∀ σ', SR c (DS.sets is ds ρ) σ' H G hs ts us → Upto is σ σ' → Q σ' H
theorem d_gn : PGs X [] (tGs c []) := by
  intro pins s σ H vs us Q I r h
  refine pgs_nil pins s σ H vs us Q I r ?_
  obtain ⟨ρ, G, hs, ts, us, ds, sr, rp, hl, k⟩ := h
  cases ds with
  | nil => exact ⟨rp.nil_inv, k σ sr ⟨rfl, fun _ _ => rfl⟩⟩
  | cons _ _ => simp at hl
theorem d_gc (i : Nat) {x : Str} {is : List Nat} {p : Pos} (hr : PGs X es (tGs c is)) (hN : X.N.Nodup) (hi : X.N[i]? = some x := by rfl) (hx : Loc X.env.scope x := by first | exact Or.inl rfl | exact Or.inr rfl) (hf : X.fn x = true ∨ X.env.scope.names.lookup x = some .local := by first | exact .inl rfl | exact .inr rfl | assumption)
    (hs : (assignEach (.Name x p :: es) X.env).map (·.2) = assign (.Name x p) X.env :: (assignEach es X.env).map (·.2) := by rfl) : PGs X (.Name x p :: es) (tGs c (i :: is)) := by
  intro pins s σ H vs us Q I r h
  refine pgs_cons (pg_name hN hi hx hf) hr hs pins s σ H vs us Q I r ?_
  obtain ⟨ρ, G, hs, ts, us, ds, sr, rp, hl, k⟩ := h
  cases ds with
  | nil => simp at hl
  | cons d ds =>
    obtain ⟨v, t, rfl, q, z⟩ := rp.cons_inv
    refine ⟨v, t, rfl, ρ.set i (.sh d), G, hs, ts, us, ds, sr.bind q i, z, by simpa using hl, fun σ' sr' up => k σ' sr' ⟨?_, fun j hj => ?_⟩⟩
    · rw [up.1]; simp
    · simp at hj
      rw [up.2 j hj.2, List.getElem?_set_ne (Ne.symm hj.1)]
theorem d_tp {is : List Nat} {k : Nat} (hc : X.calm = true) (h : PGs X es (tGs c is)) (hn : (assignEach es X.env).length = is.length := by rfl) (hst : (assignEach es X.env).findIdx? (·.1) = none := by rfl) (hK : X.K = c.r.K := by rfl) : PG X (.Tuple es k pos) (tG c (.tp is)) := by
  intro pins s σ H v u Q I r hw
  refine pg_tup hc h hn hst pins s σ H v u Q I r ?_
  obtain ⟨ρ, G, hs, ts, us, d, ρ', sr, rp, e, kk⟩ := hw
  cases d with
  | tup ds =>
    rw [DS.asg] at e
    split at e
    · rename_i hl
      cases e
      rw [Rep] at rp
      obtain ⟨a, vs, rfl, qa, la, ta⟩ := rp
      exact ⟨a, vs, rfl, by rw [hK]; exact sr.sub.seqT qa, by rw [← ta.length]; exact hl, ρ, G, hs, ts, us, ds, sr, ta, hl, kk⟩
    · cases e
  | _ => simp [DS.asg] at e
end
section
variable {c : Db} {ρ ρ' : Rho} {σ σ' : St} {H G : Hp} {hs : List (Addr × List V)} {ts : List D} {us : List V}
theorem SR.wide (s : SR c ρ σ H G hs ts us) (k : Nat) : SR c (ρ ++ List.replicate k .un) (σ ++ List.replicate k none) H G hs ts us := by
  have low : ∀ (i : Nat) (x : Sl), (ρ ++ List.replicate k Sl.un)[i]? = some x → x ≠ .un → ρ[i]? = some x ∧ i < σ.length := fun i x h hx => by
    by_cases hi : i < ρ.length
    · rw [List.getElem?_append_left hi] at h
      exact ⟨h, by rw [← s.ln]; exact hi⟩
    · rw [List.getElem?_append_right (by omega)] at h
      obtain ⟨_, z⟩ := List.getElem?_eq_some_iff.mp h
      simp at z
      exact absurd z.symm hx
  refine ⟨s.ext, by simp [s.ln], fun i d h => ?_, fun i ds h => ?_, fun i j ds es a h1 h2 h3 h4 => ?_, s.hd, s.nd, s.tu⟩
  · obtain ⟨h1, h2⟩ := low i _ h (by simp)
    obtain ⟨v, q1, q2⟩ := s.sh i d h1
    exact ⟨v, by rw [List.getElem?_append_left h2]; exact q1, q2⟩
  · obtain ⟨h1, h2⟩ := low i _ h (by simp)
    obtain ⟨a, vs, q1, q2⟩ := s.ow i ds h1
    exact ⟨a, vs, by rw [List.getElem?_append_left h2]; exact q1, q2⟩
  · obtain ⟨a1, a2⟩ := low i _ h1 (by simp)
    obtain ⟨b1, b2⟩ := low j _ h2 (by simp)
    rw [List.getElem?_append_left a2] at h3
    rw [List.getElem?_append_left b2] at h4
    exact s.inj i j ds es a a1 b1 h3 h4
theorem SR.narrow {n : Nat} (s : SR c ρ' σ' H G hs ts us) (hl : σ.length = n) (hle : n ≤ σ'.length) (h : ∀ j, j < n → σ'[j]? = σ[j]?) : SR c (ρ'.take n) σ H G hs ts us := by
  have low : ∀ (i : Nat) (x : Sl), (ρ'.take n)[i]? = some x → ρ'[i]? = some x ∧ i < n := fun i x q => by
    have hi : i < n := by have := (List.getElem?_eq_some_iff.mp q).1; simp at this; omega
    rw [List.getElem?_take_of_lt hi] at q
    exact ⟨q, hi⟩
  refine ⟨s.ext, by rw [List.length_take, s.ln]; omega, fun i d q => ?_, fun i ds q => ?_, fun i j ds es a h1 h2 h3 h4 => ?_, s.hd, s.nd, s.tu⟩
  · obtain ⟨h1, h2⟩ := low i _ q
    obtain ⟨v, q1, q2⟩ := s.sh i d h1
    exact ⟨v, by rw [← h i h2]; exact q1, q2⟩
  · obtain ⟨h1, h2⟩ := low i _ q
    obtain ⟨a, vs, q1, q2⟩ := s.ow i ds h1
    exact ⟨a, vs, by rw [← h i h2]; exact q1, q2⟩
  · obtain ⟨a1, a2⟩ := low i _ h1
    obtain ⟨b1, b2⟩ := low j _ h2
    exact s.inj i j ds es a a1 b1 (by rw [h i a2]; exact h3) (by rw [h j b2]; exact h4)
theorem SR.hold (s : SR c ρ σ H G hs ts us) {p : Addr} (hp : H p = none) : SR c ρ σ (upd H p (.lst [])) G ((p, []) :: hs) ts us := by
  have hg : G p = none := s.sub.free hp
  have mono : Same H (upd H p (.lst [])) := Same.upd hp
  refine ⟨⟨s.ext.same.trans mono, s.ext.view, s.ext.sub.trans mono, s.ext.new⟩, s.ln, s.sh, fun i ds h => ?_, s.inj, fun q hq => ?_, ?_, s.tu⟩
  · obtain ⟨a, vs, q1, q2, q3, q4, q5, q6, q7⟩ := s.ow i ds h
    refine ⟨a, vs, q1, mono _ _ q2, q3, q4, q5, q6, fun z hz => ?_⟩
    rcases List.mem_cons.mp hz with rfl | hz
    · exact fun e => by rw [show p = a from e] at hp; rw [hp] at q2; cases q2
    · exact q7 z hz
  · rcases List.mem_cons.mp hq with rfl | hq
    · exact ⟨upd_same, hg, s.ext.same.free hp⟩
    · obtain ⟨q1, q2, q3⟩ := s.hd q hq
      exact ⟨mono _ _ q1, q2, q3⟩
  · rw [List.map_cons, List.nodup_cons]
    refine ⟨fun hm => ?_, s.nd⟩
    obtain ⟨z, hz, e⟩ := List.mem_map.mp hm
    have := (s.hd z hz).1
    rw [show z.1 = p from e, hp] at this
    cases this
theorem SR.held {p : Addr} {vs : List V} (s : SR c ρ σ H G ((p, vs) :: hs) ts us) (v : V) : SR c ρ σ (upd H p (.lst (vs ++ [v]))) G ((p, vs ++ [v]) :: hs) ts us := by
  obtain ⟨h1, h2, h3⟩ := s.hd (p, vs) (by simp)
  have nd := s.nd
  rw [List.map_cons, List.nodup_cons] at nd
  have oth : ∀ b o, b ≠ p → H b = some o → upd H p (.lst (vs ++ [v])) b = some o := fun b o n e => by rw [upd_ne n]; exact e
  refine ⟨⟨fun b o e => oth b o (ne_of_none e h3) (s.ext.same b o e), s.ext.view, fun b o e => oth b o (ne_of_none e h2) (s.ext.sub b o e), s.ext.new⟩, s.ln, s.sh, fun i ds h => ?_, s.inj, fun q hq => ?_, by rw [List.map_cons, List.nodup_cons]; exact nd, s.tu⟩
  · obtain ⟨a, ws, q1, q2, q3, q4, q5, q6, q7⟩ := s.ow i ds h
    have hne : p ≠ a := q7 (p, vs) (by simp)
    refine ⟨a, ws, q1, oth a _ (Ne.symm hne) q2, q3, q4, q5, q6, fun z hz => ?_⟩
    rcases List.mem_cons.mp hz with rfl | hz
    · exact hne
    · exact q7 z (by simp [hz])
  · rcases List.mem_cons.mp hq with rfl | hq
    · exact ⟨upd_same, h2, h3⟩
    · obtain ⟨q1, q2, q3⟩ := s.hd q (by simp [hq])
      refine ⟨oth _ _ (fun e => nd.1 ?_) q1, q2, q3⟩
      exact e ▸ List.mem_map_of_mem (f := (·.1)) hq
theorem SR.given {p : Addr} {vs : List V} {ds : List D} (s : SR c ρ σ H G ((p, vs) :: hs) ts us) (h : Reps c.r G ds vs) (hz : vs.length ≤ sizeLine) : SR c ρ σ H (upd G p (.lst vs)) hs ts us ∧ Rep c.r (upd G p (.lst vs)) (.lst ds) (.ref p) := by
  obtain ⟨h1, h2, h3⟩ := s.hd (p, vs) (by simp)
  have nd := s.nd
  rw [List.map_cons, List.nodup_cons] at nd
  have mono : Same G (upd G p (.lst vs)) := Same.upd h2
  refine ⟨⟨⟨s.ext.same, s.ext.view.trans mono, fun b o e => ?_, fun b o e => ?_⟩, s.ln, fun i d e => ?_, fun i es e => ?_, s.inj, fun q hq => ?_, nd.2, s.tu.mono mono⟩, ?_⟩
  · by_cases hb : b = p
    · subst hb; rw [upd_same] at e; cases e; exact h1
    · rw [upd_ne hb] at e; exact s.ext.sub b o e
  · by_cases hb : b = p
    · subst hb; exact .inr h3
    · rw [upd_ne hb] at e; exact s.ext.new b o e
  · obtain ⟨v, q1, q2⟩ := s.sh i d e
    exact ⟨v, q1, q2.mono mono⟩
  · obtain ⟨a, ws, q1, q2, q3, q4, q5, q6, q7⟩ := s.ow i es e
    have hne : p ≠ a := q7 (p, vs) (by simp)
    exact ⟨a, ws, q1, q2, by rw [upd_ne (Ne.symm hne)]; exact q3, q4, q5, q6.mono mono, fun z hz => q7 z (by simp [hz])⟩
  · obtain ⟨q1, q2, q3⟩ := s.hd q (by simp [hq])
    have hne : q.1 ≠ p := fun e => nd.1 (e ▸ List.mem_map_of_mem (f := (·.1)) hq)
    exact ⟨q1, by rw [upd_ne hne]; exact q2, q3⟩
  · rw [Rep]
    exact ⟨p, vs, rfl, SqL.of upd_same, hz, h.mono mono⟩
theorem SR.pre {q : Addr × List V} (s : SR c ρ σ H G (q :: hs) ts us) : H q.1 = some (.lst q.2) := (s.hd q (by simp)).1
end
abbrev noX : St → XK := fun _ => E0
section
variable {c : Db} {tg : Tg} {fc : M Bool} {fe : M D}
theorem above_all {n : Nat} (h : DS.above n tg = true) : ∀ i ∈ slotsOf tg, n ≤ i := by
  intro i hi
  cases tg with
  | nm j => simp [slotsOf] at hi; subst hi; simpa [DS.above] using h
  | tp is => simp [slotsOf] at hi; simp [DS.above] at h; exact h i hi
theorem Reps.append_inv {r : Rc} {G : Hp} : ∀ {ds es : List D} {vs us : List V}, Reps r G (ds ++ es) (vs ++ us) → ds.length = vs.length → Reps r G ds vs ∧ Reps r G es us
  | [], _, [], _, h, _ => ⟨.nil, h⟩
  | [], _, _ :: _, _, _, e => by simp at e
  | _ :: _, _, [], _, _, e => by simp at e
  | d :: ds, es, v :: vs, us, h, e => by
    obtain ⟨v', t, e1, q, z⟩ := Reps.cons_inv (d := d) (ds := ds ++ es) h
    have e1' : v = v' ∧ vs ++ us = t := by simpa using e1
    obtain ⟨rfl, rfl⟩ := e1'
    obtain ⟨h1, h2⟩ := Reps.append_inv z (by simpa using e)
    exact ⟨.cons q h1, h2⟩
theorem SR.split {ρ : Rho} {σ : St} {H G : Hp} {hs : List (Addr × List V)} {ts : List D} {us : List V} {ds : List D} {vs : List V} (s : SR c ρ σ H G hs (ds ++ ts) (vs ++ us)) (h : ds.length = vs.length) : Reps c.r G ds vs ∧ SR c ρ σ H G hs ts us := by
  obtain ⟨h1, h2⟩ := s.tu.append_inv h
  exact ⟨h1, s.ext, s.ln, s.sh, s.ow, s.inj, s.hd, s.nd, h2⟩
theorem imp_comp {J : It} {D0 : Addr} {Q : VK} {σ0 : St} {H0 G0 : Hp} {ρ1 ρ2 : Rho} {k : Nat} {ds acc0 : List D} {d : D} {v : V} {hs : List (Addr × List V)} {ts : List D} {us : List V} (s0 : SR c ρ1 σ0 H0 G0 hs (d :: ts) (v :: us)) (hy : Yld c.r J d v ds) (hz : ds.length ≤ sizeLine) (ha : DS.above ρ1.length tg = true) (hD : H0 D0 = none)
    (e : DS.compL tg fc fe ds [] (ρ1 ++ List.replicate k .un) = some (ρ2, acc0)) (q : ∀ w H' G', SR c (ρ2.take ρ1.length) σ0 H' G' hs ts us → Rep c.r G' (.lst acc0) w → Q w H') :
    CompW J (tG c tg) (tT c noX fc) (tE c noX fe) D0 Q (σ0 ++ List.replicate k none) H0 := by
  have ab := above_all ha
  refine ⟨fun i m vals σ1 H => m = ds.length - i ∧ i ≤ ds.length ∧ vals.length ≤ i ∧ (∀ j, j < ρ1.length → σ1[j]? = σ0[j]?) ∧ ∃ ρ G acc, SR c ρ σ1 H G ((D0, vals) :: hs) (acc ++ d :: ts) (vals ++ v :: us) ∧ ρ1.length ≤ σ1.length ∧ acc.length = vals.length ∧ DS.compL tg fc fe (ds.drop i) acc ρ = some (ρ2, acc0), ⟨ds.length, by simp, Nat.zero_le _, Nat.le_refl _, fun j hj => ?_, _, G0, [], (s0.wide k).hold hD, ?_, rfl, by simpa using e⟩, ?_⟩
  · rw [List.getElem?_append_left (by rw [← s0.ln]; exact hj)]
  · simp [s0.ln]
  rintro i m vals σ1 H ⟨rfl, hi, hvi, hsame, ρ, G, acc, s, hlen, hal, e1⟩
  refine ⟨s.pre, ?_⟩
  obtain ⟨ta, sd⟩ := s.split hal
  obtain ⟨rd, _⟩ := sd.pop1
  obtain ⟨hgo, hstop, hyl⟩ := hy H G s.sub rd
  by_cases hlt : i < ds.length
  · refine .inr ⟨hgo i hlt, by omega, fun x H' y => ?_⟩
    obtain ⟨rfl, e0, e2, rx⟩ := hyl i x H' hlt y
    have hdrop : ds.drop i = e0 :: ds.drop (i + 1) := by
      have := List.getElem?_eq_some_iff.mp e2
      obtain ⟨h1, h2⟩ := this
      rw [← h2]; exact List.drop_eq_getElem_cons h1
    rw [hdrop] at e1
    unfold DS.compL at e1
    cases q1 : DS.asg tg e0 ρ with
    | none => rw [q1] at e1; cases e1
    | some ρa =>
      rw [q1] at e1
      refine ⟨ρ, G, _, _, _, e0, ρa, s, rx, q1, fun σ2 s2 up => ?_⟩
      have same2 : ∀ j, j < ρ1.length → σ2[j]? = σ0[j]? := fun j hj => by
        rw [up.2 j (fun hm => by have := ab j hm; omega)]; exact hsame j hj
      have len2 : ρ1.length ≤ σ2.length := by rw [up.1]; exact hlen
      dsimp only at e1
      cases q2 : fc ρa with
      | none => rw [q2] at e1; cases e1
      | some p2 =>
        obtain ⟨ρb, rb⟩ := p2
        rw [q2] at e1
        cases rb with
        | er n => cases e1
        | ok bb =>
          refine ⟨ρa, G, _, _, _, ρb, .ok bb, s2, q2, fun b' H3 G3 s3 r3 => ?_⟩
          subst r3
          cases bb with
          | false =>
            rw [if_neg (by simp)]
            exact ⟨ds.length - (i + 1), by omega, rfl, hlt, by omega, same2, ρb, G3, acc, s3, len2, hal, e1⟩
          | true =>
            rw [if_pos rfl]
            dsimp only at e1
            cases q3 : fe ρb with
            | none => rw [q3] at e1; cases e1
            | some p3 =>
              obtain ⟨ρd, rd'⟩ := p3
              rw [q3] at e1
              cases rd' with
              | er n => cases e1
              | ok ve =>
                refine ⟨ρb, G3, _, _, _, ρd, .ok ve, s3, q3, fun w H4 G4 s4 r4 => ?_⟩
                refine ⟨s4.pre, ds.length - (i + 1), by omega, rfl, hlt, by simp; omega, same2, ρd, G4, acc ++ [ve], ?_, len2, by simp [hal], e1⟩
                obtain ⟨ta4, sd4⟩ := s4.split hal
                have s5 := (sd4.pushs (ta4.snoc r4)).held w
                exact s5
  · have e3 : i = ds.length := by omega
    subst e3
    rw [List.drop_length] at e1
    unfold DS.compL at e1
    cases e1
    refine .inl ⟨hstop _ (Nat.le_refl _), ?_⟩
    obtain ⟨_, sd2⟩ := sd.pop1
    obtain ⟨s6, r6⟩ := sd2.given ta (by omega)
    exact q _ H _ (s6.narrow (by rw [s0.ln]) hlen hsame) r6
theorem imp_compE {Ex : St → XK} {fi : M (List D)} {k : Nat} {σ : St} {H : Hp} {Q : VK} (h : tE c Ex (DS.compE fi tg k fc fe) σ H Q) : tComp (tI c Ex fi) (tG c tg) (tT c noX fc) (tE c noX fe) k σ H Q := by
  obtain ⟨ρ, G, hs, ts, us, ρ', r, s, e, hf⟩ := h
  unfold DS.compE at e
  cases q : fi ρ with
  | none => rw [q] at e; cases e
  | some p =>
    obtain ⟨ρ1, x⟩ := p
    rw [q] at e
    cases x with
    | er n => cases e; exact ⟨ρ, G, hs, ts, us, _, .er n, s, q, hf⟩
    | ok ds =>
      refine ⟨ρ, G, hs, ts, us, ρ1, .ok ds, s, q, fun J H1 G1 d v s1 hy D0 hD => ?_⟩
      dsimp only at e
      split at e
      · rename_i hc
        rw [Bool.and_eq_true] at hc
        cases q2 : DS.compL tg fc fe ds [] (ρ1 ++ List.replicate k .un) with
        | none => rw [q2] at e; cases e
        | some p2 =>
          obtain ⟨ρ2, acc⟩ := p2
          rw [q2] at e
          cases e
          exact imp_comp s1 hy (by simpa using hc.1) hc.2 hD q2 fun w H' G' s' r' => hf w H' G' s' r'
      · cases e
end
section
variable {X : Cx} {c : Db} {Ex : St → XK} {scope : Scope} {ns : List Str} {tg iter elt : Expr} {ifs : List Expr} {pos : Pos} {fi : M (List D)} {g : Tg} {fc : M Bool} {fe : M D}
theorem d_if0 : PTs X [] (tT c noX DS.yes) := pts_nil.imp fun σ H Q h => by
  obtain ⟨ρ, G, hs, ts, us, ρ', r, s, e, hf⟩ := h
  obtain ⟨rfl, rfl⟩ := ret_inv e
  exact hf true H G s rfl
theorem d_if1 {t : Expr} (h : PT X t (tT c noX fc)) : PTs X [t] (tT c noX fc) := pts_one h
theorem d_comp (hi : PI X tg iter (tI c Ex fi)) (hg : ∀ C s H fp, PG (X.block scope ns C s H fp) tg (tG c g)) (ht : ∀ C s H fp, PTs (X.block scope ns C s H fp) ifs (tT c noX fc)) (he : ∀ C s H fp, PE (X.block scope ns C s H fp) elt (tE c noX fe))
    (hc : X.calm = true := by rfl) (chk : blockChk X.env.scope scope X.N = true := by rfl) (hs : ∀ x, foldedSetIterable iter X.env x = pure x := by intro _; rfl) : PE X (.ListComp elt [⟨tg, iter, ifs, 0⟩] scope pos) (tE c Ex (DS.compE fi g ns.length fc fe)) :=
  (pe_comp hc chk hi hg ht he hs).imp fun _ _ _ h => imp_compE h
end
end L2
namespace HT
open PySem PyProof.Rows
open AutoSeq1 (wpAny_loadPart')
section
variable {prog : Program} {w : World} {A : Around} {E : Value → Shared → Prop} {s : Shared}
end
end HT
namespace L2
open PySem PySem.Spec PyProof.Rows
open DS (D Sl Rho R M FS O Tg)
section
variable {X : Cx} {r : Rc}
end
section
variable {X : Cx} {c : Db} {Ex : St → XK} {tg a b e : Expr} {pos : Pos} {fa : M D} {fs : M (List D)}
end
end L2
namespace L2
open PySem PySem.Spec PyProof.Rows
open DS (D Sl Rho R M FS O Tg)
def FinS (c : Db) (Ex : St → XK) (hs : List (Addr × List V)) (ts : List D) (us : List V) (ρ' : Rho) (o : O) (E : Ends) : Prop := match o with
  | .nx => ∀ σ' H' G', SR c ρ' σ' H' G' hs ts us → E.nx σ' H'
  | .rt d => ∀ v σ' H' G', SR c ρ' σ' H' G' hs ts us → Rep c.r G' d v → E.rt v H'
  | .er n => ∀ σ' H' G', SR c ρ' σ' H' G' hs ts us → Ex σ' (.ref (c.r.ad n)) none H'
  | .bk => ∀ σ' H' G', SR c ρ' σ' H' G' hs ts us → E.bk σ' H'
  | .ct => ∀ σ' H' G', SR c ρ' σ' H' G' hs ts us → E.ct σ' H'
def tS (c : Db) (Ex : St → XK) (f : FS) : TS := fun E σ H => ∃ ρ G hs ts us ρ' o, SR c ρ σ H G hs ts us ∧ f ρ = some (ρ', o) ∧ FinS c Ex hs ts us ρ' o E
section
variable {X : Cx} {c : Db} {Ex : St → XK} {st : Stmt} {rest : List Stmt} {a e : Expr} {pos : Pos} {fa : M D} {fx : M Bool} {fs : M (List D)} {f g : FS}
theorem d_snil : PSs X [] (tS c Ex DS.sNx) := pss_nil.imp fun E σ H h => by
  obtain ⟨ρ, G, hs, ts, us, ρ', o, s, e, hf⟩ := h
  unfold DS.sNx at e
  cases e
  exact hf σ H G s
theorem d_sone (h : PS X st (tS c Ex f)) : PSs X [st] (tS c Ex f) := pss_one h
theorem d_scons (h : PS X st (tS c Ex f)) (h2 : PSs X rest (tS c Ex g)) : PSs X (st :: rest) (tS c Ex (DS.sq f g)) := (pss_cons h h2).imp fun E σ H h => by
  obtain ⟨ρ, G, hs, ts, us, ρ', o, s, e, hf⟩ := h
  unfold DS.sq at e
  cases q : f ρ with
  | none => rw [q] at e; cases e
  | some p =>
    obtain ⟨ρ1, o1⟩ := p
    rw [q] at e
    refine ⟨ρ, G, hs, ts, us, ρ1, o1, s, q, ?_⟩
    cases o1 with
    | nx => exact fun σ' H' G' s' => ⟨ρ1, G', hs, ts, us, ρ', o, s', e, hf⟩
    | rt d => cases e; exact hf
    | er n => cases e; exact hf
    | bk => cases e; exact hf
    | ct => cases e; exact hf
theorem sx_inv {k : D → FS} {ρ ρ' : Rho} {o : O} {σ : St} {H G : Hp} {hs : List (Addr × List V)} {ts : List D} {us : List V} {E : Ends} {Q : VK} (s : SR c ρ σ H G hs ts us) (h : DS.sx fa k ρ = some (ρ', o)) (hf : FinS c Ex hs ts us ρ' o E)
    (ok : ∀ ρ1 d v H1 G1, k d ρ1 = some (ρ', o) → SR c ρ1 σ H1 G1 hs ts us → Rep c.r G1 d v → Q v H1) : tE c Ex fa σ H Q := by
  unfold DS.sx at h
  cases q : fa ρ with
  | none => rw [q] at h; cases h
  | some p =>
    obtain ⟨ρ1, x⟩ := p
    rw [q] at h
    cases x with
    | er n => cases h; exact ⟨ρ, G, hs, ts, us, _, .er n, s, q, fun H' G' s' => hf σ H' G' s'⟩
    | ok d => exact ⟨ρ, G, hs, ts, us, ρ1, .ok d, s, q, fun v H1 G1 s1 r1 => ok ρ1 d v H1 G1 h s1 r1⟩
theorem d_sE (ha : PE X a (tE c Ex fa)) (hs : swapsWith a none pos.line X.env = pure false := by rfl) : PS X (.Expr a pos) (tS c Ex (DS.sE fa)) := (ps_expr ha hs).imp fun E σ H h => by
  obtain ⟨ρ, G, hs, ts, us, ρ', o, s, e, hf⟩ := h
  refine sx_inv s e hf fun ρ1 d v H1 G1 e1 s1 r1 => ?_
  cases e1
  exact hf σ H1 G1 s1
theorem d_sR (ha : PE X a (tE c Ex fa)) : PS X (.Return (some a) pos) (tS c Ex (DS.sR fa)) := (ps_ret ha).imp fun E σ H h => by
  obtain ⟨ρ, G, hs, ts, us, ρ', o, s, e, hf⟩ := h
  refine sx_inv s e hf fun ρ1 d v H1 G1 e1 s1 r1 => ?_
  cases e1
  exact hf v σ H1 G1 s1 r1
theorem imp_sA {i : Nat} {te : TE} {E : Ends} {σ : St} {H : Hp} (hi : ∀ σ H Q, tE c Ex fa σ H Q → te σ H Q) (h : tS c Ex (DS.sA (.nm i) fa) E σ H) : tAsg te (gName i) E σ H := by
  obtain ⟨ρ, G, hs, ts, us, ρ', o, s, e, hf⟩ := h
  refine hi _ _ _ (sx_inv s e hf fun ρ1 d v H1 G1 e1 s1 r1 => ?_)
  rw [DS.asg] at e1
  cases e1
  exact hf _ H1 G1 (s1.bind r1 i)
theorem d_sA (i : Nat) {x : Str} {pos' : Pos} (hN : X.N.Nodup) (ha : PE X a (tE c Ex fa)) (hi : X.N[i]? = some x := by rfl) (hx : Loc X.env.scope x := by first | exact Or.inl rfl | exact Or.inr rfl) (hs : swapsWith a (some (.Name x pos')) pos.line X.env = pure false := by rfl) (hf : X.fn x = true ∨ X.env.scope.names.lookup x = some .local := by first | exact .inl rfl | exact .inr rfl | assumption) :
    PS X (.Assign [.Name x pos'] a pos) (tS c Ex (DS.sA (.nm i) fa)) := (ps_set hN hi hx ha hs hf).imp fun _ _ _ h => imp_sA (fun _ _ _ z => z) h
theorem d_sComp (i : Nat) {x : Str} {pos' spos : Pos} {scope : Scope} {ns : List Str} {tg iter elt : Expr} {ifs : List Expr} {fi : M (List D)} {g : Tg} {fc : M Bool} {fe : M D} (hN : X.N.Nodup) (hi : PI X tg iter (tI c Ex fi)) (hg : ∀ C s H fp, PG (X.block scope ns C s H fp) tg (tG c g)) (ht : ∀ C s H fp, PTs (X.block scope ns C s H fp) ifs (tT c noX fc)) (he : ∀ C s H fp, PE (X.block scope ns C s H fp) elt (tE c noX fe))
    (hi' : X.N[i]? = some x := by rfl) (hx : Loc X.env.scope x := by first | exact Or.inl rfl | exact Or.inr rfl) (hc : X.calm = true := by rfl) (chk : blockChk X.env.scope scope X.N = true := by rfl)
    (hsw : swapsWith (.ListComp elt [⟨tg, iter, ifs, 0⟩] scope pos) (some (.Name x pos')) spos.line X.env = pure true := by rfl) (hs : ∀ x, foldedSetIterable iter X.env x = pure x := by intro _; rfl) (hf : X.fn x = true ∨ X.env.scope.names.lookup x = some .local := by first | exact .inl rfl | exact .inr rfl | assumption) :
    PS X (.Assign [.Name x pos'] (.ListComp elt [⟨tg, iter, ifs, 0⟩] scope pos) spos) (tS c Ex (DS.sA (.nm i) (DS.compE fi g ns.length fc fe))) := (ps_setComp hN hi' hx hc chk hi hg ht he hsw hs hf).imp fun _ _ _ h => imp_sA (fun _ _ _ z => imp_compE z) h
theorem d_sAt {tg : Expr} {t : Tg} (hg : PG X tg (tG c t)) (ha : PE X a (tE c Ex fa)) (hs : swapsWithSole [tg] a pos.line X.env = pure false := by rfl) (hw : swappedStores [tg] a X.env = pure none := by rfl)
    (h1 : (assignEach [tg] X.env).map (·.2) = [assign tg X.env] := by rfl) : PS X (.Assign [tg] a pos) (tS c Ex (DS.sA t fa)) := (ps_asg ha hg hs hw h1).imp fun E σ H h => by
  obtain ⟨ρ, G, hs, ts, us, ρ', o, s, e, hf⟩ := h
  refine sx_inv s e hf fun ρ1 d v H1 G1 e1 s1 r1 => ?_
  cases q : DS.asg t d ρ1 with
  | none => rw [q] at e1; cases e1
  | some ρ2 =>
    rw [q] at e1
    cases e1
    exact ⟨ρ1, G1, hs, ts, us, d, _, s1, r1, q, fun σ' s' _ => hf σ' H1 G1 s'⟩
theorem d_sO (i : Nat) {x : Str} {pos' lpos : Pos} {es : List Expr} (hN : X.N.Nodup) (ha : PA X es (tA c Ex fs)) (hi : X.N[i]? = some x := by rfl) (hx : Loc X.env.scope x := by first | exact Or.inl rfl | exact Or.inr rfl) (hs : swapsWith (.List es lpos) (some (.Name x pos')) pos.line X.env = pure false := by rfl) (hf : X.fn x = true ∨ X.env.scope.names.lookup x = some .local := by first | exact .inl rfl | exact .inr rfl | assumption) :
    PS X (.Assign [.Name x pos'] (.List es lpos) pos) (tS c Ex (DS.sO i fs)) := (ps_set hN hi hx (pe_lst ha) hs hf).imp fun E σ H h => by
  obtain ⟨ρ, G, hs, ts, us, ρ', o, s, e, hf⟩ := h
  unfold DS.sO at e
  cases q : fs ρ with
  | none => rw [q] at e; cases e
  | some p =>
    obtain ⟨ρ1, x⟩ := p
    rw [q] at e
    cases x with
    | er n => cases e; exact ⟨ρ, G, hs, ts, us, _, .er n, s, q, fun H' G' s' => hf σ H' G' s'⟩
    | ok ds =>
      refine ⟨ρ, G, hs, ts, us, ρ1, .ok ds, s, q, fun vs H1 G1 s1 r1 => ?_⟩
      dsimp only at e
      split at e
      · rename_i hz
        cases e
        have hl := r1.length
        exact ⟨by omega, fun p hp => hf _ _ _ (s1.own r1 hp (by omega) i)⟩
      · cases e
theorem d_sP (i : Nat) {x : Str} {p apos cpos : Pos} (ha : PE X a (tE c Ex fa)) (hN : X.N[i]? = some x := by rfl) (hv : Vis X.env.scope x := by first | exact Or.inl rfl | exact Or.inr (Or.inl rfl) | exact Or.inr (Or.inr rfl)) (hd : (x == ("__debug__" : Str)) = false := by decide) (hcd : (x == ("__classdict__" : Str)) = false := by decide)
    (hbase : attributeBase (.Name x p) "append" X.env (eval (.Name x p) X.env) = eval (.Name x p) X.env := by rfl)
    (hfew : ((backTo cpos (starEach [a] X.env)).all (fun x => !x.1) && (backToKw cpos (keywordEach [] X.env)).all (fun x => x.1.isSome)
      && decide ([a].length + ([] : List Keyword).length + (if ([] : List Keyword).isEmpty then 0 else 1) < 30)) = true := by rfl)
    (hline : (apos.endLine == cpos.line) = true := by rfl) (hs : starEach [a] X.env = (false, eval a X.env) :: starEach [] X.env := by rfl) (hplain : (backTo cpos (starEach [] X.env)).any (·.1) = false := by rfl)
    (hsw : swapsWith (.Call (.Attribute (.Name x p) "append" apos) [a] [] cpos) none pos.line X.env = pure false := by rfl) (hK : X.K = c.r.K := by rfl) :
    PS X (.Expr (.Call (.Attribute (.Name x p) "append" apos) [a] [] cpos) pos) (tS c Ex (DS.sP i fa)) :=
  (ps_expr (pe_bm PySem.F.plainAttrs_list PySem.F.slot_list_append PySem.F.type_list_append mt_append (pe_var hN hv hd hcd) (pa_cons ha pa_nil hs) hbase hfew hline hs hplain) hsw).imp fun E σ H h => by
  obtain ⟨ρ, G, hs, ts, us, ρ', o, s, e, hf⟩ := h
  unfold DS.sP at e
  cases q0 : ρ[i]? with
  | none => rw [q0] at e; cases e
  | some sl =>
    rw [q0] at e
    cases sl with
    | un => cases e
    | sh d => cases e
    | ow xs =>
      obtain ⟨a, vs, h1, h2, h3⟩ := s.ow i xs q0
      refine ⟨.ref a, h1, .inl ⟨rfl, vs, SqL.of h2⟩, ?_⟩
      dsimp only at e
      cases q : fa ρ with
      | none => rw [q] at e; cases e
      | some p =>
        obtain ⟨ρ1, x⟩ := p
        rw [q] at e
        cases x with
        | er n => cases e; exact ⟨ρ, G, hs, ts, us, _, .er n, s, q, fun H' G' s' => hf σ H' G' s'⟩
        | ok d =>
          refine ⟨ρ, G, hs, ts, us, ρ1, .ok d, s, q, fun v H1 G1 s1 r1 => ?_⟩
          dsimp only at e
          cases q1 : ρ1[i]? with
          | none => rw [q1] at e; cases e
          | some sl1 =>
            rw [q1] at e
            cases sl1 with
            | un => cases e
            | sh d => cases e
            | ow ys =>
              dsimp only at e
              split at e
              · rename_i hz
                cases e
                obtain ⟨a', ws, k1, k2, k3, k4⟩ := s1.more r1 q1 hz
                rw [h1] at k1
                cases k1
                exact ⟨a, ws, v, rfl, rfl, k2, k3, hf σ _ _ k4⟩
              · cases e
theorem d_sI {t : Expr} {A B : List Stmt} (hc : PT X t (tT c Ex fx)) (ha : PSs X A (tS c Ex f)) (hb : PSs X B (tS c Ex g)) : PS X (.If t A B pos) (tS c Ex (DS.sI fx f g)) := (ps_if hc ha hb).imp fun E σ H h => by
  obtain ⟨ρ, G, hs, ts, us, ρ', o, s, e, hf⟩ := h
  unfold DS.sI at e
  cases q : fx ρ with
  | none => rw [q] at e; cases e
  | some p =>
    obtain ⟨ρ1, x⟩ := p
    rw [q] at e
    cases x with
    | er n => cases e; exact ⟨ρ, G, hs, ts, us, _, .er n, s, q, fun H' G' s' => hf σ H' G' s'⟩
    | ok b =>
      refine ⟨ρ, G, hs, ts, us, ρ1, .ok b, s, q, fun b' H1 G1 s1 r1 => ?_⟩
      subst r1
      cases b with
      | true => rw [if_pos rfl]; exact ⟨ρ1, G1, hs, ts, us, ρ', o, s1, e, hf⟩
      | false => rw [if_neg (by simp)]; exact ⟨ρ1, G1, hs, ts, us, ρ', o, s1, e, hf⟩
theorem d_sW {t : Expr} {B : List Stmt} (hp : PassesOwn (model X.prog X.w) X.A X.env X.xe) (hc : PT X t (tT c Ex fx)) (hb : PSs X B (tS c Ex f)) : PS X (.While t B [] pos) (tS c Ex (DS.sW fx f)) := (ps_while hp hc hb).imp fun E σ H h => by
  obtain ⟨ρ, G, hs, ts, us, ρ', o, s, e, hf⟩ := h
  refine ⟨fun m σ1 H1 => ∃ ρ1 G1, SR c ρ1 σ1 H1 G1 hs ts us ∧ DS.whN fx f m ρ1 = some (ρ', o), ⟨DS.fuel, ρ, G, s, e⟩, ?_⟩
  rintro m σ1 H1 ⟨ρ1, G1, s1, e1⟩
  cases m with
  | zero => unfold DS.whN at e1; cases e1
  | succ m =>
    unfold DS.whN at e1
    cases q : fx ρ1 with
    | none => rw [q] at e1; cases e1
    | some p =>
      obtain ⟨ρ2, x⟩ := p
      rw [q] at e1
      cases x with
      | er n => cases e1; exact ⟨ρ1, G1, hs, ts, us, _, .er n, s1, q, fun H' G' s' => hf σ1 H' G' s'⟩
      | ok b =>
        refine ⟨ρ1, G1, hs, ts, us, ρ2, .ok b, s1, q, fun b' H2 G2 s2 r2 => ?_⟩
        subst r2
        cases b with
        | false => rw [if_neg (by simp)]; cases e1; exact hf σ1 H2 G2 s2
        | true =>
          rw [if_pos rfl]
          refine ⟨fun σ3 H3 => ∃ ρ3 G3, SR c ρ3 σ3 H3 G3 hs ts us ∧ DS.whN fx f m ρ3 = some (ρ', o), fun σ' H' h' => ⟨m, Nat.lt_succ_self m, h'⟩, ?_⟩
          dsimp only at e1
          cases q3 : f ρ2 with
          | none => rw [q3] at e1; cases e1
          | some p3 =>
            obtain ⟨ρ3, o3⟩ := p3
            rw [q3] at e1
            refine ⟨ρ2, G2, hs, ts, us, ρ3, o3, s2, q3, ?_⟩
            cases o3 with
            | nx => exact fun σ' H' G' s' => ⟨ρ3, G', s', e1⟩
            | ct => exact fun σ' H' G' s' => ⟨ρ3, G', s', e1⟩
            | bk => cases e1; exact fun σ' H' G' s' => hf σ' H' G' s'
            | rt d => cases e1; exact hf
            | er n => cases e1; exact hf
theorem d_sF {tg iter : Expr} {t : Tg} {B : List Stmt} {fi : M (List D)} (hp : PassesOwn (model X.prog X.w) X.A X.env X.xe) (hi : PI X tg iter (tI c Ex fi)) (hg : PG X tg (tG c t)) (hb : PSs X B (tS c Ex f)) (hc : X.calm = true := by rfl)
    (hs : ∀ x, foldedSetIterable iter X.env x = pure x := by intro _; rfl) : PS X (.For tg iter B [] pos) (tS c Ex (DS.sF fi t f)) := (ps_for hp hc hi hg hb hs).imp fun E σ H h => by
  obtain ⟨ρ, G, hs, ts, us, ρ', o, s, e, hf⟩ := h
  unfold DS.sF at e
  cases q : fi ρ with
  | none => rw [q] at e; cases e
  | some p =>
    obtain ⟨ρ1, x⟩ := p
    rw [q] at e
    cases x with
    | er n => cases e; exact ⟨ρ, G, hs, ts, us, _, .er n, s, q, fun H' G' s' => hf σ H' G' s'⟩
    | ok ds =>
      refine ⟨ρ, G, hs, ts, us, ρ1, .ok ds, s, q, fun J H1 G1 d v s1 hy => ?_⟩
      refine ⟨fun i m σ2 H2 => m = ds.length - i ∧ i ≤ ds.length ∧ ∃ ρ2 G2, SR c ρ2 σ2 H2 G2 hs (d :: ts) (v :: us) ∧ DS.forL t f (ds.drop i) ρ2 = some (ρ', o), ⟨ds.length, by simp, Nat.zero_le _, ρ1, G1, s1, by simpa using e⟩, ?_⟩
      rintro i m σ2 H2 ⟨rfl, hi', ρ2, G2, s2, e2⟩
      obtain ⟨rd, s2'⟩ := s2.pop1
      obtain ⟨hgo, hstop, hyl⟩ := hy H2 G2 s2.sub rd
      by_cases hlt : i < ds.length
      · refine .inr ⟨hgo i hlt, fun σ3 H3 => i + 1 ≤ ds.length ∧ ∃ ρ3 G3, SR c ρ3 σ3 H3 G3 hs (d :: ts) (v :: us) ∧ DS.forL t f (ds.drop (i + 1)) ρ3 = some (ρ', o), fun σ' H' h' => ⟨ds.length - (i + 1), by omega, rfl, h'.1, h'.2⟩, fun x H' y => ?_⟩
        obtain ⟨rfl, e0, e3, rx⟩ := hyl i x H' hlt y
        have hdrop : ds.drop i = e0 :: ds.drop (i + 1) := by
          obtain ⟨h1, h2⟩ := List.getElem?_eq_some_iff.mp e3
          rw [← h2]; exact List.drop_eq_getElem_cons h1
        rw [hdrop] at e2
        unfold DS.forL at e2
        cases q1 : DS.asg t e0 ρ2 with
        | none => rw [q1] at e2; cases e2
        | some ρa =>
          rw [q1] at e2
          refine ⟨ρ2, G2, hs, _, _, e0, ρa, s2, rx, q1, fun σ3 s3 _ => ?_⟩
          dsimp only at e2
          cases q3 : f ρa with
          | none => rw [q3] at e2; cases e2
          | some p3 =>
            obtain ⟨ρ3, o3⟩ := p3
            rw [q3] at e2
            refine ⟨ρa, G2, hs, _, _, ρ3, o3, s3, q3, ?_⟩
            cases o3 with
            | nx => exact fun σ' H' G' s' => ⟨hlt, ρ3, G', s', e2⟩
            | ct => exact fun σ' H' G' s' => ⟨hlt, ρ3, G', s', e2⟩
            | bk => cases e2; exact fun σ' H' G' s' => hf σ' H' G' s'.pop1.2
            | rt d => cases e2; exact fun v σ' H' G' s' => hf v σ' H' G' s'.pop1.2
            | er n => cases e2; exact fun σ' H' G' s' => hf σ' H' G' s'.pop1.2
      · have e3 : i = ds.length := by omega
        subst e3
        rw [List.drop_length] at e2
        unfold DS.forL at e2
        cases e2
        exact .inl ⟨hstop _ (Nat.le_refl _), hf σ2 H2 G2 s2'⟩
theorem d_sT {x : Str} {C : Addr} {n : String} {m : Str} {j} {np cpos spos pos : Pos} {E : XK} (hr : Raises X E) (hE : ∀ σ, Ex σ = E) (hC : ExcCls X.K X.mg x C) (hn : c.r.ad n = C) (hc : X.calm = true := by rfl) (hg : Gl X x := by rfl) (hd : (x == ("__debug__" : Str)) = false := by decide)
    (hst : starEach [.Constant (.str m) j spos] X.env = [(false, eval (.Constant (.str m) j spos) X.env)] := by rfl) : PS X (.Raise (some (.Call (.Name x np) [.Constant (.str m) j spos] [] cpos)) none pos) (tS c Ex (DS.sT n)) :=
  (ps_raise hc hr hC hg pe_str hd hst).imp fun D σ H h => by
  obtain ⟨ρ, G, hs, ts, us, ρ', o, s, e, hf⟩ := h
  unfold DS.sT at e
  cases e
  have := hf σ H G s
  rw [hE, hn] at this
  exact this
theorem SR.caught {ρ : Rho} {σ : St} {H G : Hp} {hs : List (Addr × List V)} {ts : List D} {us : List V} (s : SR c ρ σ H G hs ts us) {a : Addr} (ha : H a = none) (n : String) (i : Nat) :
    SR c (ρ.set i (.sh (.exc n))) (σ.set i (some (.ref a))) (upd H a (ExcO a (.ref (c.r.ad n)))) (upd G a (ExcO a (.ref (c.r.ad n)))) hs ts us := by
  have ex := Ext.lay (o := ExcO a (.ref (c.r.ad n))) s.sub ha
  exact (s.grow ex).bind (by rw [Rep]; exact ⟨a, rfl, upd_same⟩) i
theorem d_sTry {x n : Str} {CM : Addr} (i : Nat) {body : List Stmt} {b₀ : Stmt} {suite : List Stmt} {np hpos pos : Pos} {cls : List String} {sup : String → Bool} (hN : X.N.Nodup) (hM : X.mg x = some (.ref CM)) (hsup : ∀ m, (cls.contains m && sup m) = true → PySem.W.exmOne X.K (.ref (c.r.ad m)) (.ref CM) = some true)
    (hb : ∀ pins Ex', X.Ok → PSs (X.tryX pins Ex') body (tS c Ex' f)) (hs : ∀ a, PSs (X.inExc a) (b₀ :: suite) (tS c noX g))
    (hi : X.N[i]? = some n := by rfl) (hn : X.env.scope.names.lookup n = some .local := by rfl) (hg : Gl X x := by rfl) (hd : (x == ("__debug__" : Str)) = false := by decide) (hf : X.env.frame = some X.env.locals := by rfl) (hst : X.stack = X.env :: X.outer := by rfl) :
    PS X (.Try body [.ExceptHandler (some (.Name x np)) (some n) (b₀ :: suite) hpos] [] [] pos) (tS c Ex (DS.sTry cls sup i f g)) :=
  (ps_try (tb := fun Ex' => tS c Ex' f) (ts := tS c noX g) hN hi hn hg hM hb hs hd hf hst).imp fun E σ H h => by
  obtain ⟨ρ, G, hs, ts, us, ρ', o, s, e, hf⟩ := h
  show tS c (exOf X.K CM i (tS c noX g) E) f E σ H
  unfold DS.sTry at e
  cases q : f ρ with
  | none => rw [q] at e; cases e
  | some p =>
    obtain ⟨ρ1, o1⟩ := p
    rw [q] at e
    refine ⟨ρ, G, hs, ts, us, ρ1, o1, s, q, ?_⟩
    cases o1 with
    | nx => cases e; exact hf
    | rt d => cases e; exact hf
    | bk => cases e; exact hf
    | ct => cases e; exact hf
    | er m =>
      intro σ1 H1 G1 s1
      dsimp only at e
      split at e
      · rename_i hm
        refine ⟨hsup m hm, fun a ha => ?_⟩
        cases q2 : g (ρ1.set i (.sh (.exc m))) with
        | none => rw [q2] at e; cases e
        | some p2 =>
          obtain ⟨ρ2, o2⟩ := p2
          rw [q2] at e
          refine ⟨_, _, hs, ts, us, ρ2, o2, s1.caught ha m i, q2, ?_⟩
          cases o2 with
          | nx => cases e; exact fun σ' H' G' s' => hf _ H' G' (s'.unbind i)
          | rt d => cases e; exact fun v σ' H' G' s' r' => hf v _ H' G' (s'.unbind i) r'
          | bk => cases e; exact fun σ' H' G' s' => hf _ H' G' (s'.unbind i)
          | ct => cases e; exact fun σ' H' G' s' => hf _ H' G' (s'.unbind i)
          | er n => cases e
      · cases e
end
section
variable {P : Program} {w : World} {K : PySem.W.Frag} {mg : Str → Option Value} {base : Heap} {ad : String → Addr}
theorem start_get {N : List Str} {vs : List V} {i : Nat} {v : V} (h : vs[i]? = some v) : (start N vs)[i]? = some (some v) := by
  have hi := (List.getElem?_eq_some_iff.mp h).1
  unfold start
  rw [List.getElem?_append_left (by simpa using hi), List.getElem?_map, h]
  rfl
theorem SR.atStart {r : Rc} {H G : Hp} {N : List Str} {n : Nat} {ds : List D} {vs : List V} (sub : Same G H) (h : Reps r G ds vs) (hn : vs.length = n) (hN : n ≤ N.length) :
    SR ⟨r, H, G⟩ (ds.map .sh ++ List.replicate (N.length - n) .un) (start N vs) H G [] [] [] := by
  have hl := h.length
  refine ⟨Ext.refl sub, by unfold start; simp; omega, fun i d e => ?_, fun i es e => ?_, fun i j es fs a e1 _ _ _ => ?_, fun _ z => (by simp at z), by simp, .nil⟩
  · by_cases hi : i < ds.length
    · rw [List.getElem?_append_left (by simpa using hi), List.getElem?_map] at e
      cases q : ds[i]? with
      | none => rw [q] at e; cases e
      | some d' =>
        rw [q] at e
        cases e
        obtain ⟨v, q1, q2⟩ := h.get q
        exact ⟨v, start_get q1, q2⟩
    · rw [List.getElem?_append_right (by simp; omega)] at e
      obtain ⟨_, z⟩ := List.getElem?_eq_some_iff.mp e
      simp at z
  · by_cases hi : i < ds.length
    · rw [List.getElem?_append_left (by simpa using hi), List.getElem?_map] at e
      cases q : ds[i]? with
      | none => rw [q] at e; cases e
      | some d' => rw [q] at e; cases e
    · rw [List.getElem?_append_right (by simp; omega)] at e
      obtain ⟨_, z⟩ := List.getElem?_eq_some_iff.mp e
      simp at z
  · by_cases hi : i < ds.length
    · rw [List.getElem?_append_left (by simpa using hi), List.getElem?_map] at e1
      cases q : ds[i]? with
      | none => rw [q] at e1; cases e1
      | some d' => rw [q] at e1; cases e1
    · rw [List.getElem?_append_right (by simp; omega)] at e1
      obtain ⟨_, z⟩ := List.getElem?_eq_some_iff.mp e1
      simp at z
abbrev cxM (P : Program) (w : World) (K : PySem.W.Frag) (mg : Str → Option Value) (base : Heap) (N : List Str) (qual : Str) (scope : Scope) (f : Addr) (cd : Value) (A : Around) (outer : List Env) (s : Shared) (H : Hp) (E : XK) : Cx :=
  cxOf (CXm P w) P w K mg base N qual scope f cd A outer s H E
theorem own_def {N : List Str} {qual : Str} {scope : Scope} {f : Addr} {cd : Value} {A : Around} {outer : List Env} {s : Shared} {H : Hp} {E : XK} : PassesOwn (model (cxM P w K mg base N qual scope f cd A outer s H E).prog (cxM P w K mg base N qual scope f cd A outer s H E).w) (cxM P w K mg base N qual scope f cd A outer s H E).A (cxM P w K mg base N qual scope f cd A outer s H E).env (cxM P w K mg base N qual scope f cd A outer s H E).xe := PassesOwn.leaving
theorem pass_def {N : List Str} {qual : Str} {scope : Scope} {f : Addr} {cd : Value} {A : Around} {outer : List Env} {s : Shared} {H : Hp} {E : XK} : PassesX (CXm P w) (cxM P w K mg base N qual scope f cd A outer s H E) (fun _ => E) := passes_def
theorem pass_noX {X : Cx} : PassesX (CXm X.prog X.w) X noX := fun _ _ _ _ _ _ _ h => (CXm.E0 h).elim
theorem fn_D {x qual : Str} {st : Stmt} {f : Addr} {fd : FuncData} {N ps : List Str} {k : Nat} {b : FS} (F : Fun K x qual st f fd) (S : FnScope N ps (defScope st)) (hN : ps.length ≤ N.length)
    (hb : ∀ (c : Db) (cdv : Value) (A : Around) (outer : List Env) (s : Shared) (H : Hp) (E : XK), c.r = ⟨K, w, ad⟩ → Room k (A.deeper (envOfC qual (defScope st) s.heap.objs.size f cdv)) → PSs (cxM P w K mg base N qual (defScope st) f cdv A outer s H E) (defBody st) (tS c (fun _ => E) b)) :
    FnOk P w K mg base (CXm P w) (k + 1) f fd ps (spD ⟨K, w, ad⟩ ps.length (DS.run ps.length N.length b)) := by
  refine F.okM S (fun vs H Q E h => h.1) fun cdv A outer s H vs Q E hr h => ?_
  obtain ⟨hl, G, ds, x, sub, rs, e, fin⟩ := h
  refine ⟨tS ⟨⟨K, w, ad⟩, H, G⟩ (fun _ => E) b, hb _ cdv A outer s H E rfl hr, ?_⟩
  have hd := rs.length
  unfold DS.run at e
  rw [if_pos (by omega)] at e
  cases q : b (ds.map .sh ++ List.replicate (N.length - ps.length) .un) with
  | none => rw [q] at e; cases e
  | some p =>
    obtain ⟨ρ', o⟩ := p
    rw [q] at e
    refine ⟨_, G, [], [], [], ρ', o, SR.atStart sub rs hl hN, q, ?_⟩
    cases o with
    | nx => cases e; exact fun σ' H' G' s' => fin .non H' G' s'.ext (by rw [Rep])
    | rt d => cases e; exact fun v σ' H' G' s' r' => fin v H' G' s'.ext r'
    | er n => cases e; exact fun σ' H' G' s' => fin H' G' s'.ext
    | bk => cases e
    | ct => cases e
theorem run_len {ps N : Nat} {b : FS} {ds : List D} {y : R D} (h : DS.run ps N b ds = some y) : ds.length = ps := by
  unfold DS.run at h
  split at h
  · assumption
  · cases h
end
end L2
namespace L2
open PySem PySem.Spec PyProof.Rows
open DS (D Sl Rho R M FS O Tg)
section
variable {c : Db} {ρ : Rho} {σ : St} {H G : Hp} {hs hs' : List (Addr × List V)} {ts : List D} {us : List V}
theorem SR.perm (s : SR c ρ σ H G hs ts us) (h : hs.Perm hs') : SR c ρ σ H G hs' ts us :=
  ⟨s.ext, s.ln, s.sh, fun i ds e => by
    obtain ⟨a, vs, q1, q2, q3, q4, q5, q6, q7⟩ := s.ow i ds e
    exact ⟨a, vs, q1, q2, q3, q4, q5, q6, fun p hp => q7 p (h.mem_iff.mpr hp)⟩, s.inj, fun p hp => s.hd p (h.mem_iff.mpr hp), (h.map (·.1)).nodup_iff.mp s.nd, s.tu⟩
theorem SR.loose (s : SR c ρ σ H G hs ts us) {i : Nat} (h : ρ[i]? = some .un) (x : Option V) : SR c ρ (σ.set i x) H G hs ts us := by
  have ne : ∀ j sl, ρ[j]? = some sl → sl ≠ .un → i ≠ j := fun j sl e n z => by subst z; rw [h] at e; exact n (Option.some.inj e).symm
  refine ⟨s.ext, by rw [List.length_set]; exact s.ln, fun j d e => ?_, fun j ds e => ?_, fun j k ds es a e1 e2 f1 f2 => ?_, s.hd, s.nd, s.tu⟩
  · rw [List.getElem?_set_ne (ne j _ e (by simp))]; exact s.sh j d e
  · rw [List.getElem?_set_ne (ne j _ e (by simp))]; exact s.ow j ds e
  · rw [List.getElem?_set_ne (ne j _ e1 (by simp))] at f1
    rw [List.getElem?_set_ne (ne k _ e2 (by simp))] at f2
    exact s.inj j k ds es a e1 e2 f1 f2
theorem SR.forget (s : SR c ρ σ H G hs ts us) (i : Nat) : SR c (ρ.set i .un) σ H G hs ts us := by
  have of : ∀ (j : Nat) (sl : Sl), (ρ.set i Sl.un)[j]? = some sl → sl ≠ Sl.un → ρ[j]? = some sl := fun j sl e n => by
    by_cases hj : i = j
    · subst hj
      rw [List.getElem?_set_self' ] at e
      cases q : ρ[i]? with
      | none => rw [q] at e; cases e
      | some y => rw [q] at e; exact absurd (Option.some.inj e).symm n
    · rw [List.getElem?_set_ne hj] at e; exact e
  exact ⟨s.ext, by rw [List.length_set]; exact s.ln, fun j d e => s.sh j d (of j _ e (by simp)), fun j ds e => s.ow j ds (of j _ e (by simp)), fun j k ds es a e1 e2 => s.inj j k ds es a (of j _ e1 (by simp)) (of k _ e2 (by simp)), s.hd, s.nd, s.tu⟩
theorem SR.gives : ∀ {as : List Addr} {cs : List (List Int)} {G : Hp} {ts : List D} {us : List V}, SR c ρ σ H G (as.zip (cs.map fun l => l.map V.int) ++ hs) ts us → as.length = cs.length → (∀ l ∈ cs, l.length ≤ sizeLine) → ∃ G', SR c ρ σ H G' hs (cs.map (fun l => .lst (l.map .int)) ++ ts) (as.map .ref ++ us)
  | [], [], G, ts, us, s, _, _ => ⟨G, s⟩
  | [], _ :: _, _, _, _, _, h, _ => by simp at h
  | _ :: _, [], _, _, _, _, h, _ => by simp at h
  | a :: as, l :: cs, G, ts, us, s, h, hz => by
    have s0 : SR c ρ σ H G ((a, l.map V.int) :: (as.zip (cs.map fun l => l.map V.int) ++ hs)) ts us := s
    obtain ⟨s1, r1⟩ := s0.given (Reps.ofInts l) (by rw [List.length_map]; exact hz l (by simp))
    obtain ⟨G', s2⟩ := SR.gives (s1.push r1) (by simpa using h) fun x hx => hz x (by simp [hx])
    have hl : (cs.map (fun l => D.lst (l.map .int))).length = (as.map V.ref).length := by simp at h ⊢; omega
    obtain ⟨t1, s3⟩ := s2.split hl
    obtain ⟨r3, s4⟩ := s3.pop1
    exact ⟨G', s4.pushs (.cons r3 t1)⟩
end
end L2
namespace L2
open PySem PySem.Spec PyProof.Rows
open DS (D Sl Rho R M FS O Tg)
theorem b_len : bootBuiltins "len" = some (.builtin "len") := by decide +kernel
theorem b_all : bootBuiltins "all" = some (.builtin "all") := by decide +kernel
theorem b_sorted : bootBuiltins "sorted" = some (.builtin "sorted") := by decide +kernel
theorem b_isinstance : bootBuiltins "isinstance" = some (.builtin "isinstance") := by decide +kernel
theorem b_tuple : bootBuiltins "tuple" = some (.type "tuple") := by decide +kernel
theorem b_list : bootBuiltins "list" = some (.type "list") := by decide +kernel
theorem b_set : bootBuiltins "set" = some (.type "set") := by decide +kernel
theorem b_bool : bootBuiltins "bool" = some (.type "bool") := by decide +kernel
theorem b_ValueError : bootBuiltins "ValueError" = some (.type "ValueError") := by decide +kernel
section
variable {P : Program} {w : World} {K : PySem.W.Frag} {mg : Str → Option Value} {base : Heap} {ad : String → Addr}
structure DefOk (K : PySem.W.Frag) (mg : Str → Option Value) (x : Str) (st : Stmt) (ps : List Str) : Prop where
  ex : ∃ (f : Addr) (fd : FuncData), Fun K x x st f fd ∧ mg x = some (.ref f) ∧ Binds K fd ps []
theorem CallOk.of {r : Rc} {x : Str} {st : Stmt} {ps : List Str} {k n : Nat} {F : List D → Option (R D)} (d : DefOk K mg x st ps) (h : ∀ f fd, Fun K x x st f fd → FnOk P w K mg base (CXm P w) k f fd ps (spD r n F)) (hl : ∀ ds y, F ds = some y → ds.length = n) : CallOk P w K mg base r x k n F := by
  obtain ⟨f, fd, G, hm, hb⟩ := d.ex
  exact ⟨⟨f, fd, ps, h f fd G, hm, G.kp, hb⟩, hl⟩
theorem d_globE {X : Cx} {c : Db} {Ex : St → XK} {x : Str} {i : Int} {pos : Pos} (hm : ∃ t, X.mg x = some (.int i t)) (hg : Gl X x := by rfl) (hd : (x == ("__debug__" : Str)) = false := by decide) : PE X (.Name x pos) (tE c Ex (DS.cst (.int i))) := by
  obtain ⟨t, h⟩ := hm
  exact d_glob h hg hd
def spLaw (K : PySem.W.Frag) : Sp := fun vs H Q _ => ∃ (a : Addr) (ns : List Int), vs = [.ref a] ∧ SqL K H a (ns.map V.int) ∧ ns.length ≤ 63 ∧ ∀ H', Q (.bl true) H'
theorem law_of {k : Nat} {f : Addr} {fd : FuncData} {ps : List Str} {F : List D → Option (R D)} (h : FnOk P w K mg base (CXm P w) k f fd ps (spD ⟨K, w, ad⟩ 1 F)) (ht : ∀ ns : List Int, F [.lst (ns.map D.int)] = some (.ok (.bl true))) : FnOk P w K mg base (CXm P w) k f fd ps (spLaw K) :=
  h.imp fun vs H Q E ⟨a, ns, e, hS, hl, q⟩ => by
    subst e
    have hz : (ns.map V.int).length ≤ sizeLine := by rw [List.length_map, sizeLine_eq]; omega
    refine ⟨rfl, H, [.lst (ns.map D.int)], _, Same.refl H, .cons ?_ .nil, ht ns, fun v H' G' _ r' => ?_⟩
    · rw [Rep]
      exact ⟨a, _, rfl, hS, hz, Reps.ofInts ns⟩
    · rw [Rep] at r'
      subst r'
      exact q H'
theorem walk_law {l : PySem.W.OpenLaw} {k : Nat} {x : Str} {q : Program} {loose : List Str} {XP : (Str → Option Value) → Heap → Prop} {YP : World → Heap → Prop} {d : DefRec} {K : Params → PySem.W.Frag} (hn : l.most = some 63) (hdf : d.params.defaults = []) (hr : Room k callerA)
    (hY : ∀ (w : World) (h : Heap), YP w h → (K w.params).In h)
    (F : ∀ (w : World) (mg : Str → Option Value) (fa : Addr) (h : Heap), (K w.params).In h → h.Ns mainGlobals mg → mg d.name = some (.ref fa) →
      ∃ fd : FuncData, (∀ (s : Shared) (u : Value), BindsTo s fd ⟨[u], []⟩ [(x, u)]) ∧ ∀ base : Heap, (K w.params).In base → base.Ns mainGlobals mg → FnOk l.prog w (K w.params) mg base (CXm l.prog w) k fa fd [x] (spLaw (K w.params))) :
    PySem.W.WalkO q loose XP YP l.row.toRowW d [] (fun f vs => PySem.call f vs) :=
  L2.walk_of (n := 63) (k := k) (x := x) (CX := fun w => CXm l.prog w) (sp := fun w => spLaw (K w.params)) hn (by decide) hdf hr hY F (fun _ _ a ns hl _ hS => ⟨a, ns, rfl, hS, hl, fun _ => rfl⟩) fun _ _ _ _ _ z => CXm.E0 z
end
end L2
set_option maxHeartbeats 8000000
namespace FW.HC
open PySem PySem.Spec PyProof.Rows L2
open DS (D Sl Rho R M FS O Tg)
def lnD (p : Int × Int) : D := .tup [.int p.1, .int p.2]
theorem pairs_inv : ∀ {ms : List D} {ps : List (Int × Int)}, DS.pairs ms = some ps → ms = ps.map lnD
  | [], ps, h => by rw [DS.pairs] at h; cases h; rfl
  | .tup [.int i, .int j] :: ms, ps, h => by
    rw [DS.pairs] at h
    obtain ⟨js, e, rfl⟩ := Option.map_eq_some_iff.mp h
    rw [pairs_inv e]; rfl
def hld (fa : Addr) (as : List Addr) (cs : List (List Int)) : List (Addr × List V) := (fa, as.map .ref) :: as.zip (cs.map fun l => l.map V.int)
theorem take_snoc {α : Type} {l : List α} {i : Nat} {x : α} (h : l[i]? = some x) : l.take (i + 1) = l.take i ++ [x] := by
  rw [List.take_add_one, h]; rfl
theorem zip_put {α β : Type} : ∀ (as : List α) (cs : List β) (j : Nat) (a : α) (c x : β), as[j]? = some a → cs[j]? = some c → (as.zip cs).Perm ((a, c) :: (as.zip cs).eraseIdx j) ∧ (as.zip (cs.set j x)).Perm ((a, x) :: (as.zip cs).eraseIdx j)
  | [], _, _, _, _, _, h, _ => by simp at h
  | _ :: _, [], _, _, _, _, _, h => by simp at h
  | b :: as, y :: cs, 0, a, c, x, h1, h2 => by
    simp at h1 h2
    subst h1 h2
    exact ⟨.refl _, .refl _⟩
  | b :: as, y :: cs, j + 1, a, c, x, h1, h2 => by
    obtain ⟨p1, p2⟩ := zip_put as cs j a c x (by simpa using h1) (by simpa using h2)
    constructor
    · exact (p1.cons (b, y)).trans (.swap _ _ _)
    · exact (p2.cons (b, y)).trans (.swap _ _ _)
def n0 (n : Int) (ps : List (Int × Int)) : Rho := [.sh (.tup [.int n, .lst (ps.map lnD)]), .un, .un]
def n2 (n : Int) (ps : List (Int × Int)) (p : Int × Int) : Rho := [.sh (.tup [.int n, .lst (ps.map lnD)]), .un, .sh (lnD p)]
theorem it_n {n : Int} {ps : List (Int × Int)} (h0 : 0 ≤ n) (h1 : n ≤ 1000) : DS.itR1 (DS.consA (DS.op2 DS.ixD (DS.vr 0) (DS.cst (.int 0))) DS.nilA) (n0 n ps) = some (n0 n ps, .ok (DS.rng 0 n)) := by
  show DS.lft (DS.rg1 [.int n]) _ = _
  rw [DS.rg1_ok h0 (by omega)]; rfl
theorem ncomp_pre {c : Db} {Ex : L2.St → XK} {n : Int} {ps : List (Int × Int)} {σ : L2.St} {H G : Hp} (s0 : SR c (n0 n ps) σ H G [] [] []) (h0 : 0 ≤ n) (h1 : n ≤ 1000) {Q : VK}
    (hQ : ∀ fa as H' G', as.length = n.toNat → SR c (n0 n ps) σ H' G' (hld fa as (List.replicate n.toNat [])) [] [] → Q (.ref fa) H') : tComp (tI c Ex (DS.itR1 (DS.consA (DS.op2 DS.ixD (DS.vr 0) (DS.cst (.int 0))) DS.nilA))) (tG c (.nm 3)) tYes (tLst tNil) 1 σ H Q := by
  have hsl := sizeLine_eq
  have hrl : (DS.rng 0 n).length = n.toNat := by unfold DS.rng; simp
  have hl : σ.length = 3 := s0.ln.symm
  refine ⟨_, G, [], [], [], _, .ok (DS.rng 0 n), s0, it_n h0 h1, fun J H1 G1 d v s1 hy fa hfa => ?_⟩
  refine ⟨fun i m vals σ1 H2 => i ≤ n.toNat ∧ m = n.toNat - i ∧ (∀ j, j < 3 → σ1[j]? = σ[j]?) ∧ 3 ≤ σ1.length ∧ ∃ G2 as, vals = as.map V.ref ∧ as.length = i ∧ SR c (n0 n ps ++ [.un]) σ1 H2 G2 (hld fa as (List.replicate i [])) [d] [v], ⟨n.toNat, Nat.zero_le _, by simp, fun j hj => ?_, ?_, G1, [], rfl, rfl, ?_⟩, ?_⟩
  · rw [List.getElem?_append_left (by omega)]
  · simp; omega
  · exact (s1.wide 1).hold hfa
  rintro i m vals σ1 H2 ⟨hi, rfl, hsm, hl6, G2, as, rfl, has, s2⟩
  refine ⟨s2.pre, ?_⟩
  obtain ⟨rd, s2'⟩ := s2.pop1
  obtain ⟨hgo, hstop, hyl⟩ := hy H2 G2 s2.sub rd
  rw [hrl] at hgo hstop hyl
  by_cases hlt : i < n.toNat
  · refine .inr ⟨hgo i hlt, by simp; omega, fun x H' y => ?_⟩
    obtain ⟨rfl, e0, e2, rx⟩ := hyl i x H' hlt y
    refine ⟨_, G2, _, _, _, e0, _, s2, rx, rfl, fun σ2 s3 up => ?_⟩
    refine ⟨by simp, fun p hp => ?_⟩
    have s5 := s3.hold hp
    have s6 := s5.perm (List.Perm.swap _ _ _)
    refine ⟨s6.pre, n.toNat - (i + 1), by omega, by omega, rfl, fun j hj => ?_, by rw [up.1]; exact hl6, G2, as ++ [p], by simp, by simp [has], ?_⟩
    · rw [up.2 j (by simp [slotsOf]; omega)]; exact hsm j hj
    · have s7 := (s6.held (V.ref p)).forget 3
      have e1 : ((n0 n ps ++ [Sl.un]).set 3 (.sh e0)).set 3 .un = n0 n ps ++ [.un] := rfl
      rw [e1] at s7
      refine s7.perm ?_
      have ez : (as ++ [p]).zip ((List.replicate (i + 1) ([] : List Int)).map fun l => l.map V.int) = as.zip ((List.replicate i ([] : List Int)).map fun l => l.map V.int) ++ [(p, [])] := by
        rw [List.replicate_succ', List.map_append, List.zip_append (by simp; omega)]; rfl
      unfold hld
      rw [ez, List.map_append]
      exact (List.Perm.cons _ (List.perm_append_comm (l₁ := [(p, [])]))).trans (by exact List.Perm.refl _)
  · have ei : i = n.toNat := by omega
    subst ei
    refine .inl ⟨hstop _ (Nat.le_refl _), hQ fa as H2 G2 has ?_⟩
    exact s2'.narrow hl (by omega) hsm
theorem addN_set {u w : Int} {cs : List (List Int)} {l : List Int} (h : cs[u.toNat]? = some l) : DS.addN u w cs = cs.set u.toNat (l ++ [w]) := by
  unfold DS.addN
  apply List.ext_getElem?
  intro k
  rw [List.getElem?_modify, List.getElem?_set]
  by_cases e : u.toNat = k
  · subst e
    obtain ⟨hk, e⟩ := List.getElem?_eq_some_iff.mp h
    simp [hk, e]
  · simp [e]
theorem addN_len (u w : Int) (cs : List (List Int)) : (DS.addN u w cs).length = cs.length := by unfold DS.addN; simp
theorem addN_ok {u w : Int} {k : Nat} {cs : List (List Int)} (h : ∀ l ∈ cs, l.length ≤ k) : ∀ l ∈ DS.addN u w cs, l.length ≤ k + 1 := by
  intro l hl
  obtain ⟨i, hi⟩ := List.getElem?_of_mem hl
  unfold DS.addN at hi
  rw [List.getElem?_modify] at hi
  cases q : cs[i]? with
  | none => rw [q] at hi; simp at hi
  | some x =>
    have := h x (List.mem_of_getElem? q)
    rw [q] at hi
    simp at hi
    subst hi
    split <;> simp <;> omega
theorem app_pre {c : Db} {Ex : L2.St → XK} {K : PySem.W.Frag} {n : Int} {ps : List (Int × Int)} {p : Int × Int} {σ : L2.St} {H G : Hp} {fa : Addr} {as : List Addr} {cs : List (List Int)} {d : D} {v : V} {E : Ends} {i j u w : Int}
    (hi : DS.ixD (lnD p) (.int i) = some (.int u)) (hj : DS.ixD (lnD p) (.int j) = some (.int w)) (hσ : σ[1]? = some (some (.ref fa))) (has : as.length = cs.length) (u0 : 0 ≤ u) (u1 : u < cs.length) (hc : ∀ l ∈ cs, l.length ≤ 5000)
    (s : SR c (n2 n ps p) σ H G (hld fa as cs) [d] [v]) (hE : ∀ H' G', SR c (n2 n ps p) σ H' G' (hld fa as (DS.addN u w cs)) [d] [v] → E.nx σ H') :
    tDrop (tBM K "list" rAppend (tOp (rIxL K) (tVar 1) (tE c Ex (DS.op2 DS.ixD (DS.vr 2) (DS.cst (.int i))))) (tCons (tE c Ex (DS.op2 DS.ixD (DS.vr 2) (DS.cst (.int j)))) tNil)) E σ H := by
  have hsl := sizeLine_eq
  obtain ⟨k, rfl⟩ : ∃ k : Nat, u = k := ⟨u.toNat, by omega⟩
  have hk : k < cs.length := by omega
  obtain ⟨l, hl⟩ : ∃ l, cs[k]? = some l := ⟨_, List.getElem?_eq_getElem hk⟩
  obtain ⟨a, ha⟩ : ∃ a, as[k]? = some a := ⟨_, List.getElem?_eq_getElem (by omega)⟩
  have hll := hc l (List.mem_of_getElem? hl)
  have hmv : (cs.map fun l => l.map V.int)[k]? = some (l.map V.int) := by rw [List.getElem?_map, hl]; rfl
  have pm := fun x => zip_put as (cs.map fun l => l.map V.int) k a (l.map V.int) x ha hmv
  have hp : (hld fa as cs).Perm ((a, l.map V.int) :: (fa, as.map .ref) :: (as.zip (cs.map fun l => l.map V.int)).eraseIdx k) := ((pm []).1.cons _).trans (.swap _ _ _)
  have ev : ∀ (i x : Int), DS.ixD (lnD p) (.int i) = some (.int x) → DS.op2 DS.ixD (DS.vr 2) (DS.cst (.int i)) (n2 n ps p) = some (n2 n ps p, .ok (.int x)) := fun i x h => by
    show DS.lft (DS.ixD (lnD p) (.int i)) _ = _
    rw [h]; rfl
  refine ⟨.ref fa, hσ, _, G, _, _, _, _, .ok (.int (k : Int)), s, ev i _ hi, fun z H1 G1 s1 rz => ?_⟩
  rw [Rep] at rz
  subst rz
  have hat : DS.atI (as.map V.ref) (k : Int) = some (.ref a) := DS.atI_nat (by rw [List.getElem?_map, ha]; rfl)
  refine ⟨fa, as.map .ref, k, .ref a, rfl, rfl, SqL.of s1.pre, hat, .inl ⟨rfl, l.map V.int, SqL.of (s1.perm hp).pre⟩, ?_⟩
  refine ⟨_, G1, _, _, _, _, .ok (.int w), s1, ev j _ hj, fun z H2 G2 s2 rz => ?_⟩
  rw [Rep] at rz
  subst rz
  refine ⟨a, l.map V.int, .int w, rfl, rfl, (s2.perm hp).pre, by simp; omega, ?_⟩
  have s3 := (s2.perm hp).held (V.int w)
  refine hE _ G2 (SR.perm s3 ?_)
  rw [addN_set (l := l) (by simpa using hl)]
  unfold hld
  have em : (cs.set k (l ++ [w])).map (fun l => l.map V.int) = (cs.map fun l => l.map V.int).set k (l.map V.int ++ [V.int w]) := by rw [List.map_set]; simp
  rw [show (k : Int).toNat = k from rfl, em]
  exact (List.Perm.swap _ _ _).trans ((pm _).2.symm.cons _)
def ncut (n : Nat) (ps : List (Int × Int)) (k : Nat) : List (List Int) := (ps.take k).foldl (fun cs p => DS.addN p.2 p.1 (DS.addN p.1 p.2 cs)) (List.replicate n [])
theorem ncut_succ {n : Nat} {ps : List (Int × Int)} {k : Nat} {p : Int × Int} (h : ps[k]? = some p) : ncut n ps (k + 1) = DS.addN p.2 p.1 (DS.addN p.1 p.2 (ncut n ps k)) := by
  unfold ncut
  rw [take_snoc h, List.foldl_append]; rfl
theorem ncut_len (n : Nat) (ps : List (Int × Int)) (k : Nat) : (ncut n ps k).length = n := by
  unfold ncut
  have : ∀ (ps : List (Int × Int)) (cs : List (List Int)), (ps.foldl (fun cs p => DS.addN p.2 p.1 (DS.addN p.1 p.2 cs)) cs).length = cs.length := by
    intro ps
    induction ps with
    | nil => intro cs; rfl
    | cons p ps ih => intro cs; rw [List.foldl_cons, ih, addN_len, addN_len]
  rw [this, List.length_replicate]
theorem ncut_ok (n : Nat) (ps : List (Int × Int)) : ∀ k, ∀ l ∈ ncut n ps k, l.length ≤ 2 * k
  | 0, l, h => by
    unfold ncut at h
    simp at h
    simp [h]
  | k + 1, l, h => by
    cases e : ps[k]? with
    | none =>
      have hk : ps.length ≤ k := List.getElem?_eq_none_iff.mp e
      have : ncut n ps (k + 1) = ncut n ps k := by unfold ncut; rw [List.take_of_length_le hk, List.take_of_length_le (by omega)]
      rw [this] at h
      have := ncut_ok n ps k l h
      omega
    | some p =>
      rw [ncut_succ e] at h
      have := addN_ok (addN_ok (ncut_ok n ps k)) l h
      omega
end FW.HC
namespace FW
open DS
def clss : List String := ["MarkError", "BadWeb", "BadSet", "BadSteps", "BadTree", "BadText"]
def sup (n m : String) : Bool := match n with
  | "MarkError" => ["MarkError", "ValueError"].contains m
  | "BadWeb" => ["BadWeb", "MarkError", "ValueError"].contains m
  | "BadSet" => ["BadSet", "MarkError", "ValueError"].contains m
  | "BadSteps" => ["BadSteps", "MarkError", "ValueError"].contains m
  | "BadTree" => ["BadTree", "MarkError", "ValueError"].contains m
  | "BadText" => ["BadText", "MarkError", "ValueError"].contains m
  | _ => false
def F_rises : List D → Option (R D) := run 1 1 (sR (blt allF (consA (compE (itR1 (consA (op2 subD (blt lenF (consA (vr 0) (nilA))) (cst (.int 1))) (nilA))) (.nm 1) 1 (yes) (op2 ltF (op2 ixD (vr 0) (vr 1)) (op2 ixD (vr 0) (op2 addD (vr 1) (cst (.int 1)))))) (nilA))))
def F_is_set : List D → Option (R D) := run 2 2 (sR (andV (cal F_rises (consA (vr 1) (nilA))) (blt allF (consA (compE (itE (vr 1)) (.nm 2) 1 (yes) (chn leF ltF (cst (.int 0)) (vr 2) (vr 0))) (nilA)))))
def F_is_line : List D → Option (R D) := run 2 2 (sR (andV (op2 eqF (blt lenF (consA (vr 1) (nilA))) (cst (.int 2))) (cal F_is_set (consA (vr 0) (consA (vr 1) (nilA))))))
def F_look_web : List D → Option (R D) := run 1 3 (sq (sI (tsB (op2 neF (blt lenF (consA (vr 0) (nilA))) (cst (.int 2)))) (sT "BadWeb") (sNx)) (sq (sA (.nm 1) (op2 ixD (vr 0) (cst (.int 0)))) (sq (sA (.nm 2) (op2 ixD (vr 0) (cst (.int 1)))) (sq (sI (notT (tsB (chn leF leF (cst (.int 0)) (vr 1) (cst (.int 10))))) (sT "BadWeb") (sNx)) (sq (sI (notT (tst (blt allF (consA (compE (itE (vr 2)) (.nm 3) 1 (yes) (cal F_is_line (consA (vr 1) (consA (vr 3) (nilA))))) (nilA))))) (sT "BadWeb") (sNx)) (sI (notT (tst (cal F_rises (consA (vr 2) (nilA))))) (sT "BadWeb") (sNx)))))))
def F_look_set : List D → Option (R D) := run 2 2 (sq (sE (cal F_look_web (consA (vr 0) (nilA)))) (sI (notT (tst (cal F_is_set (consA (op2 ixD (vr 0) (cst (.int 0))) (consA (vr 1) (nilA)))))) (sT "BadSet") (sNx)))
def F_near_lists : List D → Option (R D)
  | [.tup [.int n, .lst sts]] => match pairs sts with
    | some ps => if (decide (0 ≤ n) && decide (n ≤ 1000) && decide (ps.length ≤ 1000) && ps.all (inN n)) = true then some (.ok (.lst ((nearF n.toNat ps).map fun c => .lst (c.map .int)))) else none
    | none => none
  | _ => none
def F_with_more : List D → Option (R D) := run 2 2 (sR (blt tupF (consA (blt srtF (consA (op2 uniD (blt setF (consA (vr 0) (nilA))) (blt setF (consA (vr 1) (nilA)))) (nilA))) (nilA))))
def F_steps_from : List D → Option (R D) := run 2 5 (sq (sO 2 (nilA)) (sq (sF (itE (vr 1)) (.nm 3) (sq (sA (.nm 4) (compE (itE (op2 ixD (vr 0) (vr 3))) (.nm 5) 1 (tsB (op2 niF (vr 5) (vr 1))) (vr 5))) (sI (tsB (op2 eqF (blt lenF (consA (vr 4) (nilA))) (cst (.int 1)))) (sP 2 (tupE (consA (vr 3) (consA (op2 ixD (vr 4) (cst (.int 0))) (nilA))))) (sNx)))) (sR (vr 2))))
def F_marked_behind : List D → Option (R D) := run 2 2 (sR (cal F_with_more (consA (vr 0) (consA (compE (itE (vr 1)) (.nm 2) 1 (yes) (op2 ixD (vr 2) (cst (.int 1)))) (nilA)))))
def F_rounds_from : List D → Option (R D) := run 2 4 (sq (sO 2 (consA (vr 1) (nilA))) (sq (sA (.nm 3) (cal F_steps_from (consA (vr 0) (consA (vr 1) (nilA))))) (sq (sW (tst (vr 3)) (sq (sP 2 (cal F_marked_behind (consA (ixV 2 (op1 negD (cst (.int 1)))) (consA (vr 3) (nilA))))) (sA (.nm 3) (cal F_steps_from (consA (vr 0) (consA (ixV 2 (op1 negD (cst (.int 1)))) (nilA))))))) (sR (vr 2)))))
def F_closure_from : List D → Option (R D) := run 2 2 (sR (op2 ixD (cal F_rounds_from (consA (vr 0) (consA (vr 1) (nilA)))) (op1 negD (cst (.int 1)))))
def F_marks_all_from : List D → Option (R D) := run 2 2 (sR (op2 eqF (blt lenF (consA (cal F_closure_from (consA (vr 0) (consA (vr 1) (nilA)))) (nilA))) (blt lenF (consA (vr 0) (nilA)))))
def F_steps_at : List D → Option (R D) := run 2 2 (sq (sE (cal F_look_set (consA (vr 0) (consA (vr 1) (nilA))))) (sR (cal F_steps_from (consA (cal F_near_lists (consA (vr 0) (nilA))) (consA (vr 1) (nilA))))))
def F_rounds : List D → Option (R D) := run 2 2 (sq (sE (cal F_look_set (consA (vr 0) (consA (vr 1) (nilA))))) (sR (cal F_rounds_from (consA (cal F_near_lists (consA (vr 0) (nilA))) (consA (vr 1) (nilA))))))
def F_closure : List D → Option (R D) := run 2 2 (sq (sE (cal F_look_set (consA (vr 0) (consA (vr 1) (nilA))))) (sR (cal F_closure_from (consA (cal F_near_lists (consA (vr 0) (nilA))) (consA (vr 1) (nilA))))))
def F_marks_all : List D → Option (R D) := run 2 2 (sq (sE (cal F_look_set (consA (vr 0) (consA (vr 1) (nilA))))) (sR (cal F_marks_all_from (consA (cal F_near_lists (consA (vr 0) (nilA))) (consA (vr 1) (nilA))))))
def F_law_cell : List D → Option (R D) := run 2 2 (sq (sI (tst (vr 0)) (sR (op2 ixD (vr 0) (op2 modD (vr 1) (blt lenF (consA (vr 0) (nilA)))))) (sNx)) (sR (cst (.int 0))))
def F_law_mix : List D → Option (R D) := run 2 3 (sq (sA (.nm 2) (op2 modD (op2 addD (cal F_law_cell (consA (vr 0) (consA (vr 1) (nilA)))) (op2 mulD (cst (.int 104729)) (op2 addD (vr 1) (cst (.int 1))))) (cst (.int 4294967291)))) (sq (sA (.nm 2) (op2 modD (op2 mulD (vr 2) (cst (.int 48271))) (cst (.int 4294967279)))) (sR (op2 modD (op2 addD (op2 mulD (op2 fdvD (vr 2) (cst (.int 64))) (cst (.int 69621))) (vr 2)) (cst (.int 4294967231))))))
def F_law_web : List D → Option (R D) := run 3 10 (sq (sA (.nm 3) (op2 modD (cal F_law_mix (consA (vr 0) (consA (vr 1) (nilA)))) (op2 addD (vr 2) (cst (.int 1))))) (sq (sA (.nm 4) (op2 modD (cal F_law_mix (consA (vr 0) (consA (op2 addD (vr 1) (cst (.int 1))) (nilA)))) (cst (.int 5)))) (sq (sO 5 (nilA)) (sq (sF (itR1 (consA (vr 3) (nilA))) (.nm 6) (sF (itR2 (consA (op2 addD (vr 6) (cst (.int 1))) (consA (vr 3) (nilA)))) (.nm 7) (sq (sA (.nm 8) (op2 fdvD (cal F_law_mix (consA (vr 0) (consA (op2 addD (op2 addD (op2 addD (vr 1) (cst (.int 2))) (op2 mulD (cst (.int 8)) (vr 6))) (vr 7)) (nilA)))) (cst (.int 8)))) (sq (sA (.nm 9) (orV (andV (op2 eqF (vr 4) (cst (.int 0))) (op2 eqF (vr 7) (op2 addD (vr 6) (cst (.int 1))))) (andV (op2 eqF (vr 4) (cst (.int 1))) (op2 eqF (vr 6) (op2 modD (vr 8) (vr 7)))))) (sI (orT (tst (vr 9)) (andT (tsB (op2 gtF (vr 4) (cst (.int 1)))) (tsB (op2 ltF (op2 modD (vr 8) (cst (.int 6))) (vr 4))))) (sP 5 (tupE (consA (vr 6) (consA (vr 7) (nilA))))) (sNx)))))) (sR (tupE (consA (vr 3) (consA (vr 5) (nilA)))))))))
def F_law_set : List D → Option (R D) := run 3 4 (sq (sA (.nm 3) (op2 fdvD (cal F_law_mix (consA (vr 0) (consA (vr 1) (nilA)))) (cst (.int 8)))) (sR (blt tupF (consA (compE (itR1 (consA (vr 2) (nilA))) (.nm 4) 1 (tsB (op2 eqF (op2 modD (op2 fdvD (vr 3) (op2 ixD (lstE (consA (cst (.int 1)) (consA (cst (.int 2)) (consA (cst (.int 4)) (consA (cst (.int 8)) (consA (cst (.int 16)) (consA (cst (.int 32)) (consA (cst (.int 64)) (consA (cst (.int 128)) (nilA)))))))))) (vr 4))) (cst (.int 2))) (cst (.int 1)))) (vr 4)) (nilA)))))
def F_law_near : List D → Option (R D) := run 2 2 (sR (compE (itE (op2 ixD (vr 0) (cst (.int 1)))) (.tp [2, 3]) 2 (tsB (op2 inF (vr 1) (tupE (consA (vr 2) (consA (vr 3) (nilA)))))) (op2 subD (op2 addD (vr 2) (vr 3)) (vr 1))))
def F_law_steps : List D → Option (R D) := run 2 5 (sq (sO 2 (nilA)) (sq (sF (itE (vr 1)) (.nm 3) (sq (sA (.nm 4) (compE (itE (cal F_law_near (consA (vr 0) (consA (vr 3) (nilA))))) (.nm 5) 1 (tsB (op2 niF (vr 5) (vr 1))) (vr 5))) (sI (tsB (op2 eqF (blt lenF (consA (vr 4) (nilA))) (cst (.int 1)))) (sP 2 (tupE (consA (vr 3) (consA (op2 ixD (vr 4) (cst (.int 0))) (nilA))))) (sNx)))) (sR (blt srtF (consA (vr 2) (nilA))))))
def F_law_closure : List D → Option (R D) := run 2 3 (sq (sA (.nm 2) (blt srtF (consA (vr 1) (nilA)))) (sq (sW (tsB (op2 neF (cal F_law_steps (consA (vr 0) (consA (vr 2) (nilA)))) (lstE (nilA)))) (sA (.nm 2) (blt srtF (consA (op2 addD (vr 2) (lstE (consA (op2 ixD (op2 ixD (cal F_law_steps (consA (vr 0) (consA (vr 2) (nilA)))) (op1 negD (cst (.int 1)))) (cst (.int 1))) (nilA)))) (nilA))))) (sR (blt tupF (consA (vr 2) (nilA))))))
def F_law_refusal : List D → Option (R D) := run 1 2 (sq (sI (tsB (op1 isN (vr 0))) (sR (cst (.str (PySem.Str.ofString "ok")))) (sNx)) (sq (sA (.nm 1) (lstE (consA (op1 (isiE clss sup "BadSet") (vr 0)) (consA (op1 (isiE clss sup "BadSteps") (vr 0)) (consA (op1 (isiE clss sup "BadText") (vr 0)) (nilA)))))) (sq (sA (.nm 1) (op2 addD (vr 1) (lstE (consA (op1 (isiE clss sup "BadTree") (vr 0)) (consA (op1 (isiE clss sup "BadWeb") (vr 0)) (nilA)))))) (sq (sI (orT (tsB (op2 neF (opL cntD (vr 1) (cst (.bl true))) (cst (.int 1)))) (notT (tst (op1 (isiE clss sup "ValueError") (vr 0))))) (sR (cst (.str (PySem.Str.ofString "wrong")))) (sNx)) (sR (op2 ixD (lstE (consA (cst (.str (PySem.Str.ofString "set"))) (consA (cst (.str (PySem.Str.ofString "steps"))) (consA (cst (.str (PySem.Str.ofString "text"))) (consA (cst (.str (PySem.Str.ofString "tree"))) (consA (cst (.str (PySem.Str.ofString "web"))) (nilA))))))) (opL idxD (vr 1) (cst (.bl true)))))))))
def F_law_told : List D → Option (R D) := run 3 6 (sq (sA (.nm 3) (cst .non)) (sq (sA (.nm 4) (cst .non)) (sq (sTry clss (fun n => sup n "MarkError") 5 (sI (tsB (op2 eqF (vr 0) (cst (.int 0)))) (sA (.nm 4) (cal F_look_web (consA (vr 1) (nilA)))) (sI (tsB (op2 eqF (vr 0) (cst (.int 1)))) (sA (.nm 4) (cal F_look_set (consA (vr 1) (consA (vr 2) (nilA))))) (sI (tsB (op2 eqF (vr 0) (cst (.int 2)))) (sA (.nm 4) (cal F_steps_at (consA (vr 1) (consA (vr 2) (nilA))))) (sI (tsB (op2 eqF (vr 0) (cst (.int 3)))) (sA (.nm 4) (cal F_closure (consA (vr 1) (consA (vr 2) (nilA))))) (sA (.nm 4) (ifE (tsB (op2 eqF (vr 0) (cst (.int 4)))) (cal F_marks_all (consA (vr 1) (consA (vr 2) (nilA)))) (cal F_rounds (consA (vr 1) (consA (vr 2) (nilA)))))))))) (sA (.nm 3) (vr 5))) (sR (ifE (tsB (op1 isN (vr 3))) (vr 4) (cal F_law_refusal (consA (vr 3) (nilA))))))))
def F_law_spoilt : List D → Option (R D) := run 2 9 (sq (sA (.tp [2, 3]) (vr 0)) (sq (sA (.nm 4) (op2 modD (vr 1) (cst (.int 5)))) (sq (sI (andT (tsB (op2 ltF (vr 4) (cst (.int 2)))) (tst (vr 3))) (sq (sA (.nm 5) (op2 modD (op2 fdvD (vr 1) (cst (.int 8))) (blt lenF (consA (vr 3) (nilA))))) (sq (sA (.tp [6, 7]) (op2 ixD (vr 3) (vr 5))) (sq (sA (.nm 8) (op2 ixD (lstE (consA (tupE (consA (vr 7) (consA (vr 6) (nilA)))) (consA (tupE (consA (vr 6) (consA (vr 2) (nilA)))) (consA (tupE (consA (op1 negD (cst (.int 1))) (consA (vr 7) (nilA)))) (consA (tupE (consA (vr 6) (nilA))) (consA (tupE (consA (vr 6) (consA (vr 6) (nilA)))) (nilA))))))) (op2 modD (op2 fdvD (vr 1) (cst (.int 64))) (cst (.int 5))))) (sR (tupE (consA (vr 2) (consA (op2 addD (op2 addD (slE (vr 3) none (some (vr 5))) (lstE (consA (vr 8) (nilA)))) (slE (vr 3) (some (op2 addD (vr 5) (cst (.int 1)))) none)) (nilA)))))))) (sNx)) (sq (sI (andT (tsB (op2 eqF (vr 4) (cst (.int 2)))) (tsB (op2 gtF (blt lenF (consA (vr 3) (nilA))) (cst (.int 1))))) (sR (tupE (consA (vr 2) (consA (op1 revD (vr 3)) (nilA))))) (sNx)) (sq (sI (andT (tsB (op2 eqF (vr 4) (cst (.int 3)))) (tst (vr 3))) (sR (tupE (consA (vr 2) (consA (op2 addD (vr 3) (slE (vr 3) (some (op1 negD (cst (.int 1)))) none)) (nilA))))) (sNx)) (sR (op2 ixD (lstE (consA (tupE (consA (op1 negD (cst (.int 1))) (consA (lstE (nilA)) (nilA)))) (consA (tupE (consA (cst (.int 11)) (consA (lstE (nilA)) (nilA)))) (consA (tupE (consA (vr 2) (consA (lstE (consA (tupE (consA (cst (.int 0)) (consA (vr 2) (nilA)))) (nilA))) (nilA)))) (nilA))))) (op2 modD (op2 fdvD (vr 1) (cst (.int 8))) (cst (.int 3))))))))))
def F_law_rounds : List D → Option (R D) := run 2 4 (sq (sO 2 (consA (vr 1) (nilA))) (sq (sW (tsB (op2 neF (cal F_law_steps (consA (vr 0) (consA (ixV 2 (op1 negD (cst (.int 1)))) (nilA)))) (lstE (nilA)))) (sq (sA (.nm 3) (op2 addD (blt lstF (consA (ixV 2 (op1 negD (cst (.int 1)))) (nilA))) (compE (itE (cal F_law_steps (consA (vr 0) (consA (ixV 2 (op1 negD (cst (.int 1)))) (nilA))))) (.nm 4) 1 (yes) (op2 ixD (vr 4) (cst (.int 1)))))) (sP 2 (blt tupF (consA (blt srtF (consA (blt setF (consA (vr 3) (nilA))) (nilA))) (nilA)))))) (sR (vr 2))))
def F_law : List D → Option (R D) := run 1 8 (sq (sA (.nm 1) (cal F_law_web (consA (vr 0) (consA (cst (.int 0)) (consA (cst (.int 7)) (nilA)))))) (sq (sA (.nm 2) (cal F_law_set (consA (vr 0) (consA (cst (.int 90)) (consA (op2 ixD (vr 1) (cst (.int 0))) (nilA)))))) (sq (sA (.nm 3) (tupE (consA (op2 ixD (vr 1) (cst (.int 0))) (consA (blt lstF (consA (op2 ixD (vr 1) (cst (.int 1))) (nilA))) (nilA))))) (sq (sA (.nm 4) (cal F_law_closure (consA (vr 1) (consA (vr 2) (nilA))))) (sq (sA (.nm 5) (lstE (consA (cst .non) (consA (cst .non) (consA (cal F_law_steps (consA (vr 1) (consA (vr 2) (nilA)))) (consA (vr 4) (consA (op2 eqF (blt lenF (consA (vr 4) (nilA))) (op2 ixD (vr 1) (cst (.int 0)))) (consA (cal F_law_rounds (consA (vr 1) (consA (vr 2) (nilA)))) (nilA))))))))) (sq (sI (orT (tsB (op2 neF (compE (itR1 (consA (cst (.int 6)) (nilA))) (.nm 8) 1 (yes) (cal F_law_told (consA (vr 8) (consA (vr 3) (consA (vr 2) (nilA)))))) (vr 5))) (tsB (op2 neF (vr 3) (vr 1)))) (sR (cst (.bl false))) (sNx)) (sq (sI (notT (tst (op1 isiB (cal F_marks_all (consA (vr 1) (consA (vr 2) (nilA))))))) (sR (cst (.bl false))) (sNx)) (sq (sA (.nm 6) (op2 ixD (lstE (consA (op2 addD (op2 addD (vr 2) (slE (vr 2) (some (op1 negD (cst (.int 1)))) none)) (tupE (consA (op2 ixD (vr 1) (cst (.int 0))) (nilA)))) (consA (tupE (consA (op2 ixD (vr 1) (cst (.int 0))) (nilA))) (consA (tupE (consA (op1 negD (cst (.int 1))) (nilA))) (consA (tupE (consA (cst (.int 1)) (consA (cst (.int 0)) (nilA)))) (nilA)))))) (op2 modD (cal F_law_mix (consA (vr 0) (consA (cst (.int 91)) (nilA)))) (cst (.int 4))))) (sq (sI (tsB (op2 neF (compE (itR2 (consA (cst (.int 1)) (consA (cst (.int 6)) (nilA)))) (.nm 8) 1 (yes) (cal F_law_told (consA (vr 8) (consA (vr 1) (consA (vr 6) (nilA)))))) (op2 mulD (lstE (consA (cst (.str (PySem.Str.ofString "set"))) (nilA))) (cst (.int 5))))) (sR (cst (.bl false))) (sNx)) (sq (sA (.nm 7) (cal F_law_spoilt (consA (vr 1) (consA (cal F_law_mix (consA (vr 0) (consA (cst (.int 92)) (nilA)))) (nilA))))) (sR (op2 eqF (compE (itR1 (consA (cst (.int 6)) (nilA))) (.nm 8) 1 (yes) (cal F_law_told (consA (vr 8) (consA (vr 7) (consA (vr 6) (nilA)))))) (op2 mulD (lstE (consA (cst (.str (PySem.Str.ofString "web"))) (nilA))) (cst (.int 6)))))))))))))))
end FW
set_option maxHeartbeats 8000000
namespace FW.HC
open PySem PySem.Spec PyProof.Rows L2
open DS (D Sl Rho R M FS O Tg)
abbrev s_near_lists : Stmt := PySem.Challenge.pw_forcemark_k01_whole_closure.main.body.getD 14 (.Pass ⟨0, 0, 0, 0⟩)
theorem sc_near_lists : FnScope ["web", "near", "line"] ["web"] (defScope s_near_lists) := ⟨rfl, rfl, rfl, by decide +kernel, rfl, by decide +kernel, by decide +kernel⟩
theorem nd_near : (["web", "near", "line", "spot"] : List Str).Nodup := by decide +kernel
section
variable {P : Program} {w : World} {K : PySem.W.Frag} {mg : Str → Option Value} {base : Heap} {ad : String → Addr}
theorem fn_near_lists {f : Addr} {fd : FuncData} (F : Fun K "near_lists" "near_lists" s_near_lists f fd) (hrange : mg "range" = none) : FnOk P w K mg base (CXm P w) 1 f fd ["web"] (spD ⟨K, w, ad⟩ 1 F_near_lists) := by
  refine F.okM sc_near_lists (fun vs H Q E h => h.1) fun cdv A outer s H vs Q E hr h => ?_
  obtain ⟨hl, G, ds, x, sub, rs, e, fin⟩ := h
  have nd := sc_near_lists.nd
  match ds, e with
  | [.tup [.int n, .lst sts]], e =>
  rw [F_near_lists] at e
  cases q2 : DS.pairs sts with
  | none => rw [q2] at e; cases e
  | some ps =>
  rw [q2] at e
  dsimp only at e
  split at e
  case isFalse => cases e
  rename_i hsz
  cases e
  cases pairs_inv q2
  refine ⟨_, pss_cons (ps_setComp (i := 1) (ns := ["spot"]) (wi := tI ⟨⟨K, w, ad⟩, H, G⟩ (fun _ => E) (DS.itR1 (DS.consA (DS.op2 DS.ixD (DS.vr 0) (DS.cst (.int 0))) DS.nilA))) nd rfl (Or.inl rfl) rfl rfl (d_itR1 hrange (d_cons (d_ix i_ixD (d_var 0) d_int (fun _ _ => rfl)) d_nil)) (fun _ _ _ _ => d_nm (c := ⟨⟨K, w, ad⟩, H, G⟩) 3 nd_near) (fun _ _ _ _ => pts_nil) (fun _ _ _ _ => pe_lst pa_nil))
    (pss_cons (ps_for own_def rfl (d_itE (c := ⟨⟨K, w, ad⟩, H, G⟩) (Ex := fun _ => E) (d_ix i_ixD (d_var 0) d_int (fun _ _ => rfl))) (d_nm (c := ⟨⟨K, w, ad⟩, H, G⟩) 2 nd)
      (pss_cons (ps_expr (pe_bm PySem.F.plainAttrs_list PySem.F.slot_list_append PySem.F.type_list_append mt_append (pe_ix ix_list (pe_var (i := 1) rfl (Or.inl rfl)) (d_ix (c := ⟨⟨K, w, ad⟩, H, G⟩) (Ex := fun _ => E) i_ixD (d_var 2) d_int (fun _ _ => rfl)) (fun _ _ => rfl)) (pa_cons (d_ix (c := ⟨⟨K, w, ad⟩, H, G⟩) (Ex := fun _ => E) i_ixD (d_var 2) d_int (fun _ _ => rfl)) pa_nil)))
      (pss_one (ps_expr (pe_bm PySem.F.plainAttrs_list PySem.F.slot_list_append PySem.F.type_list_append mt_append (pe_ix ix_list (pe_var (i := 1) rfl (Or.inl rfl)) (d_ix (c := ⟨⟨K, w, ad⟩, H, G⟩) (Ex := fun _ => E) i_ixD (d_var 2) d_int (fun _ _ => rfl)) (fun _ _ => rfl)) (pa_cons (d_ix (c := ⟨⟨K, w, ad⟩, H, G⟩) (Ex := fun _ => E) i_ixD (d_var 2) d_int (fun _ _ => rfl)) pa_nil))))))
      (pss_one (ps_ret (pe_var (i := 1) rfl (Or.inl rfl))))), ?_⟩
  have s0 : SR ⟨⟨K, w, ad⟩, H, G⟩ (n0 n ps) _ H G [] [] [] := SR.atStart (N := ["web", "near", "line"]) sub rs hl (by decide)
  simp only [Bool.and_eq_true, decide_eq_true_eq, List.all_eq_true] at hsz
  obtain ⟨⟨⟨h0, h1⟩, hz⟩, hin⟩ := hsz
  have len3 := s0.ln
  unfold tSeq tAsg
  refine ncomp_pre s0 h0 h1 fun fa as H1 G1 has s1 => ?_
  have hset : ∀ τ : L2.St, τ.length = 3 → (τ.set 1 (some (V.ref fa)))[1]? = some (some (.ref fa)) := fun τ h => by rw [List.getElem?_set_self (by omega)]
  have s2 := s1.loose (i := 1) rfl (some (V.ref fa))
  refine ⟨_, G1, _, [], [], _, .ok (ps.map lnD), s2, rfl, fun J H2 G2 d v s3 hy => ?_⟩
  refine ⟨fun k m σ1 H3 => k ≤ ps.length ∧ m = ps.length - k ∧ σ1[1]? = some (some (.ref fa)) ∧ ∃ G3, SR ⟨⟨K, w, ad⟩, H, G⟩ (n0 n ps) σ1 H3 G3 (hld fa as (ncut n.toNat ps k)) [d] [v], ⟨ps.length, Nat.zero_le _, by simp, hset _ len3.symm, G2, s3⟩, ?_⟩
  rintro k m σ1 H3 ⟨hk, rfl, h2, G3, s4⟩
  obtain ⟨rd, s4'⟩ := s4.pop1
  obtain ⟨hgo, hstop, hyl⟩ := hy H3 G3 s4.sub rd
  rw [List.length_map] at hgo hstop hyl
  by_cases hlt : k < ps.length
  · refine .inr ⟨hgo k hlt, fun σ' H' => k + 1 ≤ ps.length ∧ σ'[1]? = some (some (.ref fa)) ∧ ∃ G3, SR ⟨⟨K, w, ad⟩, H, G⟩ (n0 n ps) σ' H' G3 (hld fa as (ncut n.toNat ps (k + 1))) [d] [v], fun σ' H' h' => ⟨ps.length - (k + 1), by omega, h'.1, rfl, h'.2⟩, fun x H' y => ?_⟩
    obtain ⟨rfl, e0, e2, rx⟩ := hyl k x H' hlt y
    obtain ⟨p, hp, rfl⟩ : ∃ p, ps[k]? = some p ∧ lnD p = e0 := by
      rw [List.getElem?_map] at e2
      exact Option.map_eq_some_iff.mp e2
    have hb := hin p (List.mem_of_getElem? hp)
    unfold DS.inN at hb
    simp only [Bool.and_eq_true, decide_eq_true_eq] at hb
    refine ⟨_, G3, _, _, _, lnD p, n2 n ps p, s4, rx, rfl, fun σ2 s5 up => ?_⟩
    have h22 : σ2[1]? = some (some (.ref fa)) := by rw [up.2 1 (by simp [slotsOf])]; exact h2
    have cl := ncut_len n.toNat ps k
    have ck : ∀ l ∈ ncut n.toNat ps k, l.length ≤ 4000 := fun l hl => by have := ncut_ok n.toNat ps k l hl; omega
    refine app_pre (u := p.1) (w := p.2) rfl rfl h22 (by rw [has, cl]) hb.1.1.1 (by omega) (fun l hl => by have := ck l hl; omega) s5 fun H4 G4 s6 => ?_
    refine app_pre (u := p.2) (w := p.1) rfl rfl h22 (by rw [has, addN_len, cl]) hb.1.2 (by rw [addN_len]; omega) (fun l hl => by have := addN_ok ck l hl; omega) s6 fun H5 G5 s7 => ⟨hlt, h22, G5, ?_⟩
    rw [ncut_succ hp]
    exact s7.forget 2
  · have ek : k = ps.length := by omega
    subst ek
    refine .inl ⟨hstop _ (Nat.le_refl _), ?_⟩
    have ec : ncut n.toNat ps ps.length = DS.nearF n.toNat ps := by unfold ncut DS.nearF; rw [List.take_length]
    refine ⟨.ref fa, h2, ?_⟩
    have s5 := SR.perm s4' (List.perm_append_comm (l₁ := [(fa, as.map V.ref)]))
    obtain ⟨G4, s6⟩ := s5.gives (by rw [has, ncut_len]) (fun l hl => by have := ncut_ok n.toNat ps _ l hl; have := sizeLine_eq; omega)
    have hll : ((ncut n.toNat ps ps.length).map (fun l => D.lst (l.map .int))).length = (as.map V.ref).length := by rw [List.length_map, List.length_map, has, ncut_len]
    obtain ⟨t1, s7⟩ := s6.split hll
    obtain ⟨s8, r8⟩ := s7.given t1 (by rw [List.length_map, has]; have := sizeLine_eq; omega)
    refine fin _ _ _ s8.ext ?_
    rw [ec] at r8
    exact r8
theorem len_near_lists {ds : List D} {r : R D} (h : F_near_lists ds = some r) : ds.length = 1 := by
  match ds, h with
  | [.tup [.int _, .lst _]], _ => rfl
end
end FW.HC
namespace FM
def goes (ls : List Ln) : List Int → List Ln → Option (List Int)
  | m, [] => some m
  | m, p :: st => if p ∈ steps ls m then goes ls (behind m [p]) st else none
def firsts (ls : List Ln) : Nat → List Int → List Ln
  | 0, _ => []
  | k + 1, m => match steps ls m with
    | [] => []
    | p :: _ => p :: firsts ls k (behind m [p])
def en (x : Int) (st : List Ln) : Int := st.foldl (fun x p => if p.1 = x then p.2 else x) x
def cf (c : List Int) (st : List Ln) : List Int := st.foldl (fun c p => if c.getLast? = some p.1 then c ++ [p.2] else c) c
def putC (u v : Int) : List (List Int) → List (List Int)
  | [] => []
  | c :: r => if c.getLast? = some u then (c ++ [v]) :: r else c :: putC u v r
def srcs (st : List Ln) : List Int := st.map (·.1)
def swp (p : Ln) : Ln := (p.2, p.1)
def trn (st : List Ln) : List Ln := st.reverse.map swp
theorem goes_snoc (ls : List Ln) : ∀ (st : List Ln) (m : List Int) (p : Ln), goes ls m (st ++ [p]) = (goes ls m st).bind fun t => if p ∈ steps ls t then some (behind t [p]) else none
  | [], m, p => by simp [goes]
  | q :: st, m, p => by
    rw [List.cons_append, goes, goes]
    by_cases h : q ∈ steps ls m
    · rw [if_pos h, if_pos h, goes_snoc ls st]
    · rw [if_neg h, if_neg h]; rfl
inductive Run (ls : List Ln) (m : List Int) : List Ln → List Int → Prop
  | nil : Run ls m [] m
  | snoc {st t} (p : Ln) : Run ls m st t → p ∈ steps ls t → Run ls m (st ++ [p]) (behind t [p])
theorem Run.cons {ls : List Ln} {m : List Int} {p : Ln} {st : List Ln} {t : List Int} (h : p ∈ steps ls m) (r : Run ls (behind m [p]) st t) : Run ls m (p :: st) t := by
  induction r with
  | nil => exact Run.snoc (st := []) p .nil h
  | snoc q _ hq ih => exact Run.snoc q ih hq
theorem goes_run (ls : List Ln) : ∀ (st : List Ln) (m t : List Int), goes ls m st = some t → Run ls m st t
  | [], m, t, h => by cases h; exact .nil
  | p :: st, m, t, h => by
    rw [goes] at h
    by_cases hp : p ∈ steps ls m
    · rw [if_pos hp] at h; exact .cons hp (goes_run ls st _ t h)
    · rw [if_neg hp] at h; cases h
theorem Run.goes {ls : List Ln} {m : List Int} {st : List Ln} {t : List Int} (r : Run ls m st t) : goes ls m st = some t := by
  induction r with
  | nil => rfl
  | snoc p _ hp ih => rw [goes_snoc, ih]; simp [hp]
section
variable {ls : List Ln} {m t : List Int} {st : List Ln}
theorem Run.rising (r : Run ls m st t) (h : Rising m) : Rising t := by
  cases r with
  | nil => exact h
  | snoc p _ _ => exact behind_rising _ _
theorem Run.within {n : Int} (r : Run ls m st t) (g : Good n ls) (h : Within n m) : Within n t := by
  induction r with
  | nil => exact h
  | snoc p _ hp ih => exact behind_within g ih fun q hq => by rw [List.mem_singleton] at hq; subst hq; exact hp
theorem mem_behind1 {t : List Int} {p : Ln} {x : Int} : x ∈ behind t [p] ↔ x ∈ t ∨ x = p.2 := by
  rw [mem_behind]
  constructor
  · rintro (h | ⟨u, h⟩)
    · exact .inl h
    · rw [List.mem_singleton] at h; subst h; exact .inr rfl
  · rintro (h | rfl)
    · exact .inl h
    · exact .inr ⟨p.1, by simp⟩
theorem Run.up (r : Run ls m st t) : ∀ x ∈ m, x ∈ t := by
  induction r with
  | nil => exact fun _ h => h
  | snoc p _ _ ih => exact fun x h => mem_behind1.mpr (.inl (ih x h))
theorem mem_srcs_snoc {st : List Ln} {p : Ln} {x : Int} : x ∈ srcs (st ++ [p]) ↔ x ∈ srcs st ∨ x = p.1 := by
  simp [srcs]
theorem Run.src (r : Run ls m st t) : ∀ x ∈ srcs st, x ∈ t ∧ bare ls t x = [] := by
  induction r with
  | nil => intro x h; simp [srcs] at h
  | snoc p r hp ih =>
    rename_i st t
    intro x h
    obtain ⟨h1, h2⟩ := mem_steps.mp hp
    have mono : ∀ y ∈ t, y ∈ behind t [p] := fun y hy => mem_behind1.mpr (.inl hy)
    rcases mem_srcs_snoc.mp h with h | rfl
    · refine ⟨mono _ (ih x h).1, ?_⟩
      rw [bare_mono mono, (ih x h).2]; rfl
    · refine ⟨mono _ h1, ?_⟩
      rw [bare_mono mono, h2]
      simp [mem_behind1]
theorem step_src (r : Run ls m st t) {p : Ln} (hp : p ∈ steps ls t) : ¬ p.1 ∈ srcs st := fun h => by
  have := (r.src _ h).2
  rw [(mem_steps.mp hp).2] at this
  cases this
theorem step_tgt (r : Run ls m st t) {p : Ln} (hp : p ∈ steps ls t) : ¬ p.2 ∈ srcs st := fun h => (step_new hp).2 (r.src _ h).1
theorem step_ne {p : Ln} {t : List Int} (hp : p ∈ steps ls t) : p.2 ≠ p.1 := fun h => (step_new hp).2 (by rw [h]; exact (mem_steps.mp hp).1)
theorem Run.len (r : Run ls m st t) (h : Rising m) : t.length = m.length + st.length := by
  induction r with
  | nil => simp
  | snoc p r hp ih =>
    rename_i st t
    have e : (behind t [p]).length = t.length + 1 := by
      have a : Rising t := r.rising h
      have key : ∀ (l : List Int) (x : Int), ¬ x ∈ l → (ins x l).length = l.length + 1 := by
        intro l x
        induction l with
        | nil => intro _; rfl
        | cons y l ih =>
          intro hx
          rw [List.mem_cons, not_or] at hx
          unfold ins
          split
          · rfl
          · rw [if_neg hx.1, List.length_cons, ih hx.2, List.length_cons]
      have : behind t [p] = ins p.2 t := rising_ext (behind_rising _ _) (rising_ins a) fun x => by rw [mem_behind1, mem_ins, or_comm]
      rw [this, key _ _ (step_new hp).2]
    rw [e, ih, List.length_append]; simp; omega
theorem en_snoc (x : Int) (st : List Ln) (p : Ln) : en x (st ++ [p]) = if p.1 = en x st then p.2 else en x st := by
  unfold en; rw [List.foldl_append]; rfl
theorem cf_snoc (c : List Int) (st : List Ln) (p : Ln) : cf c (st ++ [p]) = if (cf c st).getLast? = some p.1 then cf c st ++ [p.2] else cf c st := by
  unfold cf; rw [List.foldl_append]; rfl
theorem cf_last : ∀ (st : List Ln) (c : List Int) (x : Int), c.getLast? = some x → (cf c st).getLast? = some (en x st)
  | [], c, x, h => h
  | p :: st, c, x, h => by
    show (cf (if c.getLast? = some p.1 then c ++ [p.2] else c) st).getLast? = some (en (if p.1 = x then p.2 else x) st)
    rw [h]
    by_cases e : p.1 = x
    · rw [if_pos (by rw [e]), if_pos e]; exact cf_last st _ _ (by simp)
    · rw [if_neg (fun z => e (Option.some.inj z).symm), if_neg e]; exact cf_last st _ _ h
def ends (m : List Int) (st : List Ln) : List Int := m.map (en · st)
theorem ends_snoc (m : List Int) (st : List Ln) (p : Ln) : ends m (st ++ [p]) = (ends m st).map fun x => if p.1 = x then p.2 else x := by
  unfold ends; rw [List.map_map]; exact List.map_congr_left fun x _ => en_snoc x st p
theorem nodup_put {u v : Int} : ∀ {l : List Int}, l.Nodup → ¬ v ∈ l → (l.map fun x => if u = x then v else x).Nodup
  | [], _, _ => List.nodup_nil
  | x :: l, h, hv => by
    rw [List.nodup_cons] at h
    rw [List.mem_cons, not_or] at hv
    rw [List.map_cons, List.nodup_cons]
    refine ⟨fun hm => ?_, nodup_put h.2 hv.2⟩
    obtain ⟨y, hy, e⟩ := List.mem_map.mp hm
    by_cases hx : u = x
    · rw [if_pos hx] at e
      by_cases hy2 : u = y
      · exact h.1 (hx ▸ hy2 ▸ hy)
      · rw [if_neg hy2] at e; exact hv.2 (e ▸ hy)
    · rw [if_neg hx] at e
      by_cases hy2 : u = y
      · rw [if_pos hy2] at e; exact hv.1 e
      · rw [if_neg hy2] at e; exact h.1 (e ▸ hy)
theorem Run.ends (r : Run ls m st t) (h : m.Nodup) : (ends m st).Nodup ∧ ∀ x, x ∈ ends m st ↔ x ∈ t ∧ ¬ x ∈ srcs st := by
  induction r with
  | nil =>
    have e : FM.ends m [] = m := by unfold FM.ends; exact (List.map_congr_left fun _ _ => rfl).trans (List.map_id m)
    rw [e]
    exact ⟨h, fun x => by simp [srcs]⟩
  | snoc p r hp ih =>
    rename_i st t
    obtain ⟨i1, i2⟩ := ih
    rw [ends_snoc]
    have hv : ¬ p.2 ∈ FM.ends m st := fun z => (step_new hp).2 ((i2 _).mp z).1
    have hu : p.1 ∈ FM.ends m st := (i2 _).mpr ⟨(mem_steps.mp hp).1, step_src r hp⟩
    refine ⟨nodup_put i1 hv, fun x => ?_⟩
    rw [List.mem_map, mem_behind1, mem_srcs_snoc]
    constructor
    · rintro ⟨y, hy, e⟩
      by_cases hy2 : p.1 = y
      · rw [if_pos hy2] at e
        subst e
        exact ⟨.inr rfl, fun z => z.elim (step_tgt r hp) (step_ne hp)⟩
      · rw [if_neg hy2] at e
        subst e
        exact ⟨.inl ((i2 _).mp hy).1, fun z => z.elim ((i2 _).mp hy).2 (fun z => hy2 z.symm)⟩
    · rintro ⟨h1 | rfl, h2⟩
      · refine ⟨x, (i2 x).mpr ⟨h1, fun z => h2 (.inl z)⟩, if_neg fun z => h2 (.inr z.symm)⟩
      · exact ⟨p.1, hu, if_pos rfl⟩
theorem putC_map {u v : Int} : ∀ {cs : List (List Int)}, (cs.map List.getLast?).Nodup → putC u v cs = cs.map fun c => if c.getLast? = some u then c ++ [v] else c
  | [], _ => rfl
  | c :: cs, h => by
    rw [List.map_cons, List.nodup_cons] at h
    rw [putC, List.map_cons]
    by_cases e : c.getLast? = some u
    · rw [if_pos e, if_pos e]
      congr 1
      refine ((List.map_congr_left fun d hd => if_neg fun z => h.1 ?_).trans (List.map_id cs)).symm
      rw [e, ← z]
      exact List.mem_map_of_mem hd
    · rw [if_neg e, if_neg e, putC_map h.2]
theorem Run.chains (r : Run ls m st t) (h : m.Nodup) : st.foldl (fun cs p => putC p.1 p.2 cs) (m.map ([·])) = m.map fun x => cf [x] st := by
  induction r with
  | nil => rfl
  | snoc p r hp ih =>
    rename_i st t
    rw [List.foldl_append, ih]
    show putC p.1 p.2 (m.map fun x => cf [x] st) = _
    have e : (m.map fun x => cf [x] st).map List.getLast? = (FM.ends m st).map some := by
      unfold FM.ends
      rw [List.map_map, List.map_map]
      exact List.map_congr_left fun x _ => cf_last st [x] x rfl
    rw [putC_map (by rw [e]; exact List.pairwise_map.mpr ((r.ends h).1.imp fun hxy z => hxy (Option.some.inj z))), List.map_map]
    exact List.map_congr_left fun x _ => (cf_snoc [x] st p).symm
theorem nodup_one {l : List Int} {u : Int} (h : l.Nodup) (m : ∀ x, x ∈ l ↔ x = u) : l = [u] := by
  cases l with
  | nil => exact absurd ((m u).mpr rfl) (by simp)
  | cons x l =>
    rw [List.nodup_cons] at h
    have e := (m x).mp (List.mem_cons_self ..)
    subst e
    cases l with
    | nil => rfl
    | cons y l =>
      have e := (m y).mp (by simp)
      subst e
      exact absurd (List.mem_cons_self ..) h.1
def without (V : List Int) (us : List Int) : List Int := V.filter fun x => !(decide (x ∈ us))
theorem mem_without {V us : List Int} {x : Int} : x ∈ without V us ↔ x ∈ V ∧ ¬ x ∈ us := by
  unfold without; rw [List.mem_filter]; simp
theorem without_rising {V us : List Int} (h : Rising V) : Rising (without V us) := List.Pairwise.filter _ h
theorem nb_sym {ls : List Ln} {s x : Int} (h : x ∈ nb ls s) : s ∈ nb ls x := mem_nb.mpr ((mem_nb.mp h).symm)
theorem trn_snoc (st : List Ln) (p : Ln) : trn (st ++ [p]) = swp p :: trn st := by simp [trn]
theorem Run.turned (r : Run ls m st t) {V : List Int} (hV : Rising V) (hnb : ∀ s x, x ∈ nb ls s → x ∈ V) (nd : ∀ s, (nb ls s).Nodup) (hm : ∀ x ∈ m, x ∈ V) : FM.goes ls (without V (srcs st)) (trn st) = some V := by
  induction r with
  | nil =>
    show some _ = _
    congr 1
    exact rising_ext (without_rising hV) hV fun x => by rw [mem_without]; simp [srcs]
  | snoc p r hp ih =>
    rename_i st t
    obtain ⟨u, v⟩ := p
    obtain ⟨h1, h2⟩ := mem_steps.mp hp
    obtain ⟨h3, h4⟩ := step_new hp
    have tV : ∀ x ∈ t, x ∈ V := by
      clear ih h1 h2 h3 h4 hp
      induction r with
      | nil => exact hm
      | snoc q _ hq ih => exact fun x hx => (mem_behind1.mp hx).elim (ih x) fun e => e ▸ hnb _ _ (step_new hq).1
    have hs : swp (u, v) ∈ steps ls (without V (srcs (st ++ [(u, v)]))) := by
      refine mem_steps.mpr ⟨mem_without.mpr ⟨hnb _ _ h3, fun z => (mem_srcs_snoc.mp z).elim (step_tgt r hp) (step_ne hp)⟩, ?_⟩
      refine nodup_one (List.Pairwise.filter _ (nd v)) fun x => ?_
      rw [mem_bare, mem_without]
      constructor
      · rintro ⟨a, b⟩
        have hx : x ∈ srcs (st ++ [(u, v)]) := Classical.byContradiction fun z => b ⟨hnb _ _ a, z⟩
        rcases mem_srcs_snoc.mp hx with hx | hx
        · have : v ∈ bare ls t x := mem_bare.mpr ⟨nb_sym a, h4⟩
          rw [(r.src x hx).2] at this
          cases this
        · exact hx
      · rintro rfl
        exact ⟨nb_sym h3, fun z => z.2 (mem_srcs_snoc.mpr (.inr rfl))⟩
    rw [trn_snoc, FM.goes, if_pos hs]
    have e : behind (without V (srcs (st ++ [(u, v)]))) [swp (u, v)] = without V (srcs st) := by
      refine rising_ext (behind_rising _ _) (without_rising hV) fun x => ?_
      rw [mem_behind1, mem_without, mem_without, mem_srcs_snoc]
      constructor
      · rintro (⟨a, b⟩ | rfl)
        · exact ⟨a, fun z => b (.inl z)⟩
        · exact ⟨tV _ h1, step_src r hp⟩
      · rintro ⟨a, b⟩
        by_cases hx : x = u
        · exact .inr hx
        · exact .inl ⟨a, fun z => z.elim b hx⟩
    rw [e]
    exact ih
theorem srcs_trn {st : List Ln} {x : Int} : x ∈ srcs (trn st) ↔ x ∈ st.map (·.2) := by
  unfold srcs trn
  rw [List.map_map, List.map_reverse, List.mem_reverse]
  exact Iff.of_eq (congrArg (x ∈ ·) (List.map_congr_left fun p _ => rfl))
theorem Run.tgts (r : Run ls m st t) : (∀ x, x ∈ t ↔ x ∈ m ∨ x ∈ st.map (·.2)) ∧ ∀ x ∈ m, ¬ x ∈ st.map (·.2) := by
  induction r with
  | nil => exact ⟨fun x => by simp, fun x _ => by simp⟩
  | snoc p r hp ih =>
    refine ⟨fun x => ?_, fun x hx => ?_⟩
    · rw [mem_behind1, ih.1]; simp [or_assoc]
    · rw [List.map_append, List.mem_append]
      rintro (z | z)
      · exact ih.2 x hx z
      · simp at z
        exact (step_new hp).2 (z ▸ r.up x hx)
theorem Run.back (r : Run ls m st t) (hm : Rising m) (nd : ∀ s, (nb ls s).Nodup) (ht : Rising t) (hnb : ∀ s x, x ∈ nb ls s → x ∈ t) :
    FM.goes ls (usort (FM.ends m st)) (trn st) = some t ∧ usort (FM.ends (usort (FM.ends m st)) (trn st)) = m := by
  have hn : m.Nodup := List.Pairwise.imp (fun h => by omega) hm
  obtain ⟨e1, e2⟩ := r.ends hn
  have eq : usort (FM.ends m st) = without t (srcs st) := rising_ext (rising_usort _) (without_rising ht) fun x => by rw [mem_usort, e2, mem_without]
  have go := r.turned ht hnb nd r.up
  rw [eq]
  refine ⟨go, ?_⟩
  have r2 := goes_run _ _ _ _ go
  have hn2 : (without t (srcs st)).Nodup := List.Pairwise.imp (fun h => by omega) (without_rising (us := srcs st) ht)
  obtain ⟨f1, f2⟩ := r2.ends hn2
  refine rising_ext (rising_usort _) hm fun x => ?_
  rw [mem_usort, f2, srcs_trn, r.tgts.1]
  constructor
  · rintro ⟨a | a, b⟩
    · exact a
    · exact absurd a b
  · exact fun a => ⟨.inl a, r.tgts.2 x a⟩
end
end FM
namespace FW
open DS FM
open PySem (Str sizeLine)
def lnD (p : Ln) : D := .tup [.int p.1, .int p.2]
abbrev L (ls : List Ln) : List D := ls.map lnD
abbrev TL (lls : List (List Int)) : List D := lls.map fun l => .tup (I l)
def wb (n : Int) (lls : List (List Int)) : D := .tup [.int n, .lst (TL lls)]
def web (n : Int) (ls : List Ln) : D := .tup [.int n, .lst (L ls)]
def stt (m : List Int) : D := .tup (I m)
def chainB {α : Type} (lt : α → α → Bool) : List α → Bool
  | x :: y :: r => lt x y && chainB lt (y :: r)
  | _ => true
theorem chainB_range {α : Type} (lt : α → α → Bool) (d : α) : ∀ xs : List α, ((List.range (xs.length - 1)).all fun k => lt (xs.getD k d) (xs.getD (k + 1) d)) = chainB lt xs
  | [] => rfl
  | [_] => rfl
  | x :: y :: r => by
    have ih := chainB_range lt d (y :: r)
    rw [chainB, ← ih]
    simp only [List.length_cons, Nat.add_sub_cancel]
    rw [List.range_succ_eq_map, List.all_cons, List.all_map]
    rfl
theorem F_rises_of {c : D} {xs : List D} (hc : c = .lst xs ∨ c = .tup xs) (lt : D → D → Bool) (h : ∀ x ∈ xs, ∀ y ∈ xs, ltF x y = some (.bl (lt x y))) (hl : xs.length ≤ sizeLine) : F_rises [c] = some (.ok (.bl (chainB lt xs))) := by
  have hlen : lenF [c] = some (.int xs.length) := by rcases hc with rfl | rfl <;> rfl
  have hix : ∀ i, ixD c (.int i) = atI xs i := by intro i; rcases hc with rfl | rfl <;> rfl
  have hz := line_eq
  unfold F_rises
  rw [ap_run1]
  simp! only []
  rw [compE_map (fun d => match d with | .int k => .bl (lt (xs.getD k.toNat .non) (xs.getD (k.toNat + 1) .non)) | _ => .non) (ds := rng 0 (xs.length - 1)) ?a ?b ?h ?c]
  case h => rfl
  case a =>
    have e : rg1 [.int ((xs.length : Int) - 1)] = some (rng 0 (xs.length - 1)) := by
      rw [rg1, if_pos (inR_iff.mpr (by omega))]
    simp! only [hlen, e]
  case b => unfold rng; simp; omega
  case c =>
    intro d hd
    unfold rng at hd
    obtain ⟨k, hk, rfl⟩ := List.mem_map.mp hd
    have hk' := List.mem_range.mp hk
    have h1 : k < xs.length := by omega
    have h2 : k + 1 < xs.length := by omega
    have a2 : atI xs ((k : Int) + 1) = some xs[k + 1] := atI_get h2
    simp! only [hix, Int.zero_add, atI_get h1, a2, h _ (List.getElem_mem h1) _ (List.getElem_mem h2)]
    simp [h1, h2]
  simp! only []
  have e : (rng 0 ((xs.length : Int) - 1)).map (fun d => match d with | .int k => D.bl (lt (xs.getD k.toNat .non) (xs.getD (k.toNat + 1) .non)) | _ => .non) = (List.range (xs.length - 1)).map fun k => .bl (lt (xs.getD k .non) (xs.getD (k + 1) .non)) := by
    unfold rng
    rw [List.map_map, show ((xs.length : Int) - 1 - 0).toNat = xs.length - 1 by omega]
    refine List.map_congr_left fun k _ => ?_
    simp
  rw [e, allF_map, chainB_range]
  rfl
theorem chainB_map {α β : Type} (lt : β → β → Bool) (f : α → β) : ∀ xs : List α, chainB lt (xs.map f) = chainB (fun a b => lt (f a) (f b)) xs
  | [] => rfl
  | [_] => rfl
  | x :: y :: r => by
    have ih := chainB_map lt f (y :: r)
    simp only [List.map_cons] at ih ⊢
    rw [chainB, chainB, ih]
def ltB : D → D → Bool
  | .int a, .int b => decide (a < b)
  | .tup a, .tup b => match intsD a, intsD b with
    | some x, some y => lexLt x y
    | _, _ => false
  | _, _ => false
def rise (m : List Int) : Bool := chainB (fun a b => decide (a < b)) m
theorem F_rises_I {m : List Int} (h : m.length ≤ sizeLine) : F_rises [.tup (I m)] = some (.ok (.bl (rise m))) := by
  rw [F_rises_of (.inr rfl) ltB (fun x hx y hy => ?_) (by simpa using h), chainB_map]
  · rfl
  · obtain ⟨a, _, rfl⟩ := List.mem_map.mp hx
    obtain ⟨b, _, rfl⟩ := List.mem_map.mp hy
    rfl
theorem F_rises_TL {lls : List (List Int)} (h : lls.length ≤ sizeLine) : F_rises [.lst (TL lls)] = some (.ok (.bl (chainB lexLt lls))) := by
  have e : ∀ a b : List Int, ltB (.tup (I a)) (.tup (I b)) = lexLt a b := fun a b => by simp only [ltB, ints_I]
  rw [F_rises_of (.inl rfl) ltB (fun x hx y hy => ?_) (by simpa using h), chainB_map]
  · simp only [e]
  · obtain ⟨a, _, rfl⟩ := List.mem_map.mp hx
    obtain ⟨b, _, rfl⟩ := List.mem_map.mp hy
    rw [e, ltT]
theorem rise_iff : ∀ m : List Int, rise m = true ↔ Rising m
  | [] => by simp [rise, chainB, Rising]
  | [_] => by simp [rise, chainB, Rising]
  | x :: y :: r => by
    have ih := rise_iff (y :: r)
    unfold rise at ih ⊢
    unfold Rising at ih ⊢
    rw [chainB, Bool.and_eq_true, ih]
    simp only [decide_eq_true_eq, List.pairwise_cons, List.mem_cons, forall_eq_or_imp]
    constructor
    · rintro ⟨h1, h2, h3⟩
      exact ⟨⟨h1, fun z hz => Int.lt_trans h1 (h2 z hz)⟩, h2, h3⟩
    · rintro ⟨⟨h1, _⟩, h2, h3⟩
      exact ⟨h1, h2, h3⟩
def inB (n x : Int) : Bool := decide (0 ≤ x) && decide (x < n)
def setOk (n : Int) (m : List Int) : Bool := rise m && m.all (inB n)
def lineOk (n : Int) (l : List Int) : Bool := decide (l.length = 2) && setOk n l
def webOk (n : Int) (lls : List (List Int)) : Bool := decide (0 ≤ n) && decide (n ≤ 10) && lls.all (lineOk n) && chainB lexLt lls
theorem F_is_set_eq {n : Int} {m : List Int} (h : m.length ≤ sizeLine) : F_is_set [.int n, .tup (I m)] = some (.ok (.bl (setOk n m))) := by
  unfold F_is_set
  rw [ap_run2]
  simp! only [F_rises_I h]
  cases q : rise m with
  | false => simp! only [setOk, q]; rfl
  | true =>
    simp! only [if_true]
    rw [compE_map (fun d => match d with | .int x => .bl (inB n x) | _ => .non) (ds := I m) ?a ?b ?h ?c]
    case h => rfl
    case a => simp! only []
    case b => simpa using h
    case c =>
      intro d hd
      obtain ⟨x, _, rfl⟩ := List.mem_map.mp hd
      by_cases h0 : 0 ≤ x
      · simp! only [h0, decide_true, if_true, inB, Bool.true_and]
      · simp! only [h0, decide_false, if_false, inB, Bool.false_and, Bool.false_eq_true]
    have e : (I m).map (fun d => match d with | .int x => D.bl (inB n x) | _ => .non) = m.map fun x => .bl (inB n x) := by
      rw [List.map_map]; rfl
    simp! only [e, allF_map, setOk, q, Bool.true_and]
theorem F_is_line_eq {n : Int} {l : List Int} (h : l.length ≤ sizeLine) : F_is_line [.int n, .tup (I l)] = some (.ok (.bl (lineOk n l))) := by
  unfold F_is_line
  rw [ap_run2]
  simp! only [List.length_map, F_is_set_eq h]
  by_cases q : l.length = 2
  · have q' : (l.length : Int) = 2 := by omega
    simp! only [q', decide_true, if_true, lineOk, q, Bool.true_and, Int.cast_ofNat_Int]
  · have q' : ¬ (l.length : Int) = 2 := by omega
    simp! only [q', decide_false, if_false, lineOk, q, Bool.false_and, Bool.false_eq_true]
theorem F_look_web_eq {n : Int} {lls : List (List Int)} (h : lls.length ≤ sizeLine) (hl : ∀ l ∈ lls, l.length ≤ sizeLine) :
    F_look_web [wb n lls] = some (if webOk n lls = true then .ok .non else .er "BadWeb") := by
  unfold F_look_web wb
  rw [ap_run1]
  have e : (TL lls).map (fun d => match d with | .tup l => D.bl (lineOk n ((intsD l).getD [])) | _ => .non) = lls.map fun l => .bl (lineOk n l) := by
    rw [List.map_map]
    refine List.map_congr_left fun l _ => ?_
    simp only [Function.comp, ints_I, Option.getD_some]
  have comp : ∀ ρ : Rho, ρ = [Sl.sh (D.tup [D.int n, D.lst (TL lls)]), Sl.sh (D.int n), Sl.sh (D.lst (TL lls))] →
      compE (itE (vr 2)) (Tg.nm 3) 1 yes (cal F_is_line (consA (vr 1) (consA (vr 3) nilA))) ρ = some (ρ, .ok (.lst (lls.map fun l => .bl (lineOk n l)))) := by
    rintro ρ rfl
    rw [compE_map (fun d => match d with | .tup l => .bl (lineOk n ((intsD l).getD [])) | _ => .non) (ds := TL lls) ?a ?b ?h ?c, e]
    case h => rfl
    case a => simp! only []
    case b => simpa using h
    case c =>
      intro d hd
      obtain ⟨l, hm, rfl⟩ := List.mem_map.mp hd
      simp! only [F_is_line_eq (hl l hm), ints_I, Option.getD_some]
  simp! only [List.length_cons, List.length_nil, Nat.reduceAdd, Int.cast_ofNat_Int, decide_true, Bool.not_true]
  by_cases h0 : 0 ≤ n
  · by_cases h1 : n ≤ 10
    · simp! only [h0, h1, decide_true, if_true, Bool.not_true, comp _ rfl, allF_map]
      cases q : lls.all (lineOk n) with
      | false => simp! only [Bool.not_false, webOk, q, Bool.and_false, Bool.false_and, Bool.false_eq_true, if_false]
      | true =>
        simp! only [Bool.not_true, F_rises_TL h]
        cases q2 : chainB lexLt lls with
        | false => simp! only [Bool.not_false, webOk, q, q2, Bool.and_false, Bool.false_and, Bool.false_eq_true, if_false]
        | true => simp! only [Bool.not_true, webOk, q, q2, h0, h1, decide_true, Bool.and_true, if_true]
    · simp! only [h0, h1, decide_true, decide_false, if_true, Bool.not_false, webOk, Bool.and_false, Bool.false_and, Bool.false_eq_true, if_false]
  · simp! only [h0, decide_false, if_false, Bool.not_false, webOk, Bool.and_false, Bool.false_and, Bool.false_eq_true]
theorem F_look_set_eq {n : Int} {lls : List (List Int)} {m : List Int} (h : lls.length ≤ sizeLine) (hl : ∀ l ∈ lls, l.length ≤ sizeLine) (hm : m.length ≤ sizeLine) :
    F_look_set [wb n lls, .tup (I m)] = some (if webOk n lls = true then (if setOk n m = true then .ok .non else .er "BadSet") else .er "BadWeb") := by
  unfold F_look_set
  rw [ap_run2]
  simp! only [F_look_web_eq h hl]
  cases q : webOk n lls with
  | false => simp! only [Bool.false_eq_true, if_false]
  | true =>
    simp! only [if_true, wb, F_is_set_eq hm]
    cases q2 : setOk n m with
    | false => simp! only [Bool.not_false, Bool.false_eq_true, if_false]
    | true => simp! only [Bool.not_true, if_true]
theorem nb_cons (p : Ln) (ls : List Ln) (s : Int) : nb (p :: ls) s = ((if p.1 = s then [p.2] else []) ++ (if p.2 = s then [p.1] else [])) ++ nb ls s := by
  unfold nb; rw [List.flatMap_cons]
theorem nb_len (s : Int) : ∀ ls : List Ln, (nb ls s).length ≤ 2 * ls.length
  | [] => by simp [nb]
  | p :: ls => by
    have := nb_len s ls
    rw [nb_cons, List.length_append, List.length_append, List.length_cons]
    have h1 : (if p.1 = s then [p.2] else []).length ≤ 1 := by split <;> simp
    have h2 : (if p.2 = s then [p.1] else []).length ≤ 1 := by split <;> simp
    omega
def nearD (n : Int) (ls : List Ln) : D := .lst ((List.range n.toNat).map fun (k : Nat) => D.lst (I (nb ls k)))
theorem addN_map {n : Nat} {u v : Int} (h : 0 ≤ u) (f : Nat → List Int) : addN u v ((List.range n).map f) = (List.range n).map fun (k : Nat) => f k ++ if u = (k : Int) then [v] else [] := by
  unfold addN
  apply List.ext_getElem?
  intro k
  rw [List.getElem?_modify, List.getElem?_map, List.getElem?_map]
  by_cases hk : k < n
  · rw [List.getElem?_range hk]
    by_cases e : u = (k : Int)
    · have : u.toNat = k := by omega
      simp [e]
    · have : ¬ u.toNat = k := by omega
      simp [e, this]
  · rw [List.getElem?_eq_none (by simp; omega)]; rfl
theorem nearF_go {n : Nat} : ∀ (ls : List Ln) (f : Nat → List Int), (∀ p ∈ ls, 0 ≤ p.1 ∧ 0 ≤ p.2) → ls.foldl (fun cs p => addN p.2 p.1 (addN p.1 p.2 cs)) ((List.range n).map f) = (List.range n).map fun (k : Nat) => f k ++ nb ls k
  | [], f, _ => by simp [nb]
  | p :: ls, f, h => by
    rw [List.foldl_cons, addN_map (h p (by simp)).1, addN_map (h p (by simp)).2, nearF_go ls _ fun q hq => h q (by simp [hq])]
    refine List.map_congr_left fun k _ => ?_
    rw [nb_cons]; simp
theorem pairs_L : ∀ ps : List Ln, pairs (L ps) = some ps
  | [] => rfl
  | p :: ps => by
    rw [show L (p :: ps) = lnD p :: L ps from rfl, lnD, pairs, pairs_L ps]; rfl
theorem F_near_lists_eq {n : Int} {ls : List Ln} (g : Good n ls) (h0 : 0 ≤ n) (hn : n ≤ 1000) (h : ls.length ≤ 1000) : F_near_lists [web n ls] = some (.ok (nearD n ls)) := by
  unfold F_near_lists web
  have ha : ls.all (inN n) = true := by
    rw [List.all_eq_true]
    intro p hp
    have := g p hp
    unfold inN
    simp; omega
  simp only [pairs_L]
  rw [if_pos (by rw [ha]; simp; omega)]
  have e : nearF n.toNat ls = (List.range n.toNat).map fun (k : Nat) => nb ls k := by
    unfold nearF
    rw [show List.replicate n.toNat ([] : List Int) = (List.range n.toNat).map fun _ => [] by rw [List.map_const', List.length_range]]
    rw [nearF_go ls _ fun p hp => by have := g p hp; omega]
    simp
  rw [e, List.map_map]
  rfl
theorem near_ix {n s : Int} {ls : List Ln} (h0 : 0 ≤ s) (h1 : s < n) : ixD (nearD n ls) (.int s) = some (.lst (I (nb ls s))) := by
  obtain ⟨k, rfl⟩ : ∃ k : Nat, s = k := ⟨s.toNat, by omega⟩
  exact atI_nat (by rw [List.getElem?_map, List.getElem?_range (by omega)]; rfl)
theorem near_len {n : Int} {ls : List Ln} (h0 : 0 ≤ n) : lenF [nearD n ls] = some (.int n) := by
  unfold nearD
  rw [lenL]; simp; omega
def bareB (ls : List Ln) (m : List Int) (s : Int) : List D := I (bare ls m s)
theorem filter_I (p : Int → Bool) (q : D → Bool) (h : ∀ i, q (.int i) = p i) : ∀ l : List Int, (I l).filter q = I (l.filter p)
  | [] => rfl
  | x :: l => by
    have ih := filter_I p q h l
    rw [show I (x :: l) = .int x :: I l from rfl, List.filter_cons, List.filter_cons, h, ih]
    split <;> rfl
theorem only_len {s : Int} {l : List Int} : (only s l = none ∧ ¬ l.length = 1) ∨ ∃ x, l = [x] ∧ only s l = some (s, x) := by
  match l with
  | [] => exact .inl ⟨rfl, by simp⟩
  | [x] => exact .inr ⟨x, rfl, rfl⟩
  | _ :: _ :: _ => exact .inl ⟨rfl, by simp⟩
theorem steps_go {it : FI} {w c : D} {ls : List Ln} {m : List Int} (hF : ∀ s ∈ m, ∀ acc t, it [.sh w, .sh c, .ow acc, .sh (.int s), t] = some ([.sh w, .sh c, .ow acc, .sh (.int s), t], .ok (I (nb ls s)))) (h : ls.length ≤ 1000) (hm : m.length ≤ 1000) (hc : ∀ x : Int, niF (.int x) c = some (.bl (!decide (x ∈ m))))
    (b : FS) (hb : b = (sq (sA (.nm 4) (compE it (.nm 5) 1 (tsB (op2 niF (vr 5) (vr 1))) (vr 5))) (sI (tsB (op2 eqF (blt lenF (consA (vr 4) (nilA))) (cst (.int 1)))) (sP 2 (tupE (consA (vr 3) (consA (op2 ixD (vr 4) (cst (.int 0))) (nilA))))) (sNx)))) :
    ∀ (k : List Int) (acc : List Ln) (t t' : Sl), (∀ x ∈ k, x ∈ m) → acc.length + k.length ≤ 1000 → ∃ s s', forL (.nm 3) b (I k) [.sh w, .sh c, .ow (L acc), t, t'] = some ([.sh w, .sh c, .ow (L (acc ++ k.filterMap (stepOf ls m))), s, s'], .nx) := by
  have hz := line_eq
  intro k
  induction k with
  | nil => intro acc t t' _ _; exact ⟨t, t', by simp [forL]⟩
  | cons s k ih =>
    intro acc t t' hk hl
    rw [List.length_cons] at hl
    rw [show I (s :: k) = .int s :: I k from rfl]
    have comp : ∀ ρ : Rho, ρ = [Sl.sh w, .sh c, .ow (L acc), .sh (.int s), t'] → compE it (.nm 5) 1 (tsB (op2 niF (vr 5) (vr 1))) (vr 5) ρ = some (ρ, .ok (.lst (bareB ls m s))) := by
      rintro ρ rfl
      rw [compE_one (fun d => match d with | .int x => !decide (x ∈ m) | _ => false) id (ds := I (nb ls s)) ?a ?b ?h ?c ?d]
      case h => rfl
      case a => exact hF s (hk s (by simp)) _ _
      case b => have := nb_len s ls; simp; omega
      case c =>
        intro d hd
        obtain ⟨x, _, rfl⟩ := List.mem_map.mp hd
        simp! only [hc]
      case d => intro d hd _; simp! only [id]
      rw [filter_I (fun x => !decide (x ∈ m)) _ (fun _ => rfl), List.map_id]
      rfl
    have l1 : acc.length < sizeLine := by omega
    rcases only_len (s := s) (l := bare ls m s) with ⟨h1, h2⟩ | ⟨x, h1, h2⟩
    · have h2' : ¬ ((bare ls m s).length : Int) = 1 := by omega
      have e : b ([Sl.sh w, .sh c, .ow (L acc), t, t'].set 3 (.sh (.int s))) = some ([Sl.sh w, .sh c, .ow (L acc), .sh (.int s), .sh (.lst (bareB ls m s))], .nx) := by
        rw [hb]
        simp! only [comp _ rfl, bareB, List.length_map, h2', decide_false]
      rw [forL_step e]
      obtain ⟨s1, s2, r⟩ := ih acc (.sh (.int s)) (.sh (.lst (bareB ls m s))) (fun x hx => hk x (by simp [hx])) (by omega)
      refine ⟨s1, s2, ?_⟩
      rw [r, List.filterMap_cons, show stepOf ls m s = none from h1]
    · have e : b ([Sl.sh w, .sh c, .ow (L acc), t, t'].set 3 (.sh (.int s))) = some ([Sl.sh w, .sh c, .ow (L (acc ++ [(s, x)])), .sh (.int s), .sh (.lst (bareB ls m s))], .nx) := by
        rw [hb]
        simp! only [comp _ rfl, bareB, h1, List.length_cons, List.length_nil, Nat.zero_add, Int.cast_ofNat_Int, decide_true, fitS, Nat.reduceAdd, Nat.reduceLeDiff, List.length_map, l1, if_true, List.map_append, lnD]
      rw [forL_step e]
      obtain ⟨s1, s2, r⟩ := ih (acc ++ [(s, x)]) (.sh (.int s)) (.sh (.lst (bareB ls m s))) (fun x hx => hk x (by simp [hx])) (by simp; omega)
      refine ⟨s1, s2, ?_⟩
      rw [r, List.filterMap_cons, show stepOf ls m s = some (s, x) from h2]
      simp
theorem F_steps_from_eq {n : Int} {ls : List Ln} {m : List Int} (h : ls.length ≤ 1000) (hm : m.length ≤ 1000) (w : Within n m) : F_steps_from [nearD n ls, .tup (I m)] = some (.ok (.lst (L (steps ls m)))) := by
  obtain ⟨s, s', r⟩ := steps_go (it := itE (op2 ixD (vr 0) (vr 3))) (w := nearD n ls) (c := .tup (I m)) (fun s hs _ _ => by simp! only [near_ix (w s hs).1 (w s hs).2]) h hm (fun x => niT x m) _ rfl m [] .un .un (fun _ z => z) (by simpa using hm)
  have hnil : ([] : List D).length ≤ sizeLine := by simp
  rw [show L [] = ([] : List D) from rfl] at r
  unfold F_steps_from
  rw [ap_run2]
  simp! only [hnil, if_true, r]
  rfl
end FW
namespace FW
open DS FM
open PySem (Str sizeLine)
theorem insU_eq (x : Int) : ∀ l : List Int, insU x l = ins x l
  | [] => rfl
  | y :: l => by rw [insU, ins, insU_eq x l]
theorem sortU_eq : ∀ l : List Int, sortU l = usort l
  | [] => rfl
  | x :: l => by
    have ih := sortU_eq l
    unfold sortU usort at ih ⊢
    rw [List.foldr_cons, List.foldr_cons, ih, insU_eq]
theorem small_of {l : List Int} (h : ∀ x ∈ l, 0 ≤ x ∧ x < 7) : small l = true := by
  unfold small
  rw [List.all_eq_true]
  intro x hx
  simp [h x hx]
theorem setF_lst {l : List Int} (h : ∀ x ∈ l, 0 ≤ x ∧ x < 7) : setF [.lst (I l)] = some (.set (usort l)) := by
  rw [setF]
  simp only [itmL, ints_I, small_of h, if_true, sortU_eq]
theorem setF_tup {l : List Int} (h : ∀ x ∈ l, 0 ≤ x ∧ x < 7) : setF [.tup (I l)] = some (.set (usort l)) := by
  rw [setF]
  simp only [itmT, ints_I, small_of h, if_true, sortU_eq]
theorem uni_eq (a b : List Int) : uniD (.set (usort a)) (.set (usort b)) = some (.set (usort (a ++ b))) := by
  rw [uniD, sortU_eq, usort_congr (a := usort a ++ usort b) (b := a ++ b) fun x => by simp [mem_usort]]
theorem srt_set (l : List Int) : srtF [.set l] = some (.lst (I l)) := rfl
theorem snd_map (st : List Ln) : (L st).map (fun d => match d with | .tup [_, y] => y | _ => .non) = I (st.map (·.2)) := by
  show _ = (st.map (·.2)).map D.int
  rw [List.map_map, List.map_map]; rfl
theorem comp_snd {it : FI} {ρ : Rho} {i : Nat} {st : List Ln} (hit : it ρ = some (ρ, .ok (L st))) (hl : st.length ≤ 1000) (hi : i = ρ.length) : compE it (.nm i) 1 yes (op2 ixD (vr i) (cst (.int 1))) ρ = some (ρ, .ok (.lst (I (st.map (·.2))))) := by
  have hz := line_eq
  rw [compE_map (fun d => match d with | .tup [_, y] => y | _ => .non) hit (by simp; omega) hi ?c, snd_map]
  intro d hd
  obtain ⟨p, _, rfl⟩ := List.mem_map.mp hd
  subst hi
  have g : (ρ ++ [Sl.sh (lnD p)])[ρ.length]? = some (.sh (lnD p)) := get_end
  rw [ap_op2, ap_bnd, ap_vr, g]
  simp! only [lnD]
theorem F_with_more_L {a b : List Int} (ha : ∀ x ∈ a, 0 ≤ x ∧ x < 7) (hb : ∀ x ∈ b, 0 ≤ x ∧ x < 7) : F_with_more [.tup (I a), .lst (I b)] = some (.ok (.tup (I (usort (a ++ b))))) := by
  unfold F_with_more
  rw [ap_run2]
  simp! only [setF_tup ha, setF_lst hb, uni_eq, srt_set]
theorem F_marked_behind_eq {m : List Int} {st : List Ln} (hm : ∀ x ∈ m, 0 ≤ x ∧ x < 7) (hs : ∀ p ∈ st, 0 ≤ p.2 ∧ p.2 < 7) (hl : st.length ≤ 1000) :
    F_marked_behind [.tup (I m), .lst (L st)] = some (.ok (.tup (I (behind m st)))) := by
  have hs' : ∀ x ∈ st.map (·.2), 0 ≤ x ∧ x < 7 := fun x hx => by
    obtain ⟨p, hp, rfl⟩ := List.mem_map.mp hx
    exact hs p hp
  unfold F_marked_behind
  rw [ap_run2]
  have c : ∀ ρ : Rho, ρ = [Sl.sh (.tup (I m)), .sh (.lst (L st))] → compE (itE (vr 1)) (.nm 2) 1 (yes) (op2 ixD (vr 2) (cst (.int 1))) ρ = some (ρ, .ok (.lst (I (st.map (·.2))))) := by
    rintro ρ rfl
    exact comp_snd (by simp! only []) hl rfl
  simp! only [c _ rfl, F_with_more_L hm hs']
  rfl
structure GW (n : Int) (ls : List Ln) : Prop where
  n0 : 0 ≤ n
  n7 : n ≤ 7
  good : Good n ls
  rise : ls.Pairwise lexLt2
  len : ls.length ≤ 100
def pr (p : Ln) : List Int := [p.1, p.2]
theorem TL_pr (ls : List Ln) : TL (ls.map pr) = L ls := by
  show (ls.map pr).map _ = _
  rw [List.map_map]; rfl
theorem web_wb (n : Int) (ls : List Ln) : web n ls = wb n (ls.map pr) := by unfold web wb; rw [TL_pr]
theorem lexLt_pr (p q : Ln) : lexLt (pr p) (pr q) = true ↔ lexLt2 p q := by
  unfold pr lexLt2
  simp only [lexLt]
  by_cases h1 : p.1 = q.1
  · by_cases h2 : p.2 = q.2 <;> simp [h1, h2]
  · simp [h1]
theorem chain_pr : ∀ {ls : List Ln}, ls.Pairwise lexLt2 → chainB lexLt (ls.map pr) = true
  | [], _ => rfl
  | [_], _ => rfl
  | p :: q :: r, h => by
    have ih := chain_pr (ls := q :: r) (List.pairwise_cons.mp h).2
    simp only [List.map_cons] at ih ⊢
    rw [chainB, Bool.and_eq_true]
    exact ⟨(lexLt_pr p q).mpr ((List.pairwise_cons.mp h).1 q (by simp)), ih⟩
theorem lineOk_pr {n : Int} {p : Ln} (h : 0 ≤ p.1 ∧ p.1 < p.2 ∧ p.2 < n) : lineOk n (pr p) = true := by
  obtain ⟨h1, h2, h3⟩ := h
  unfold lineOk setOk pr
  simp only [rise, chainB, inB, List.length_cons, List.length_nil, List.all_cons, List.all_nil, Bool.and_true, Bool.and_eq_true, decide_eq_true_eq]
  exact ⟨trivial, h2, ⟨h1, by omega⟩, by omega, h3⟩
theorem GW.ok {n : Int} {ls : List Ln} (g : GW n ls) : webOk n (ls.map pr) = true := by
  unfold webOk
  have h1 : (ls.map pr).all (lineOk n) = true := by
    rw [List.all_map, List.all_eq_true]
    exact fun p hp => lineOk_pr (g.good p hp)
  have := g.n0
  have := g.n7
  rw [h1, chain_pr g.rise]
  simp; omega
theorem setOk_of {n : Int} {m : List Int} (r : Rising m) (w : Within n m) : setOk n m = true := by
  unfold setOk
  rw [(rise_iff m).mpr r, Bool.true_and, List.all_eq_true]
  intro x hx
  obtain ⟨h1, h2⟩ := w x hx
  simp [inB, h1, h2]
theorem len7 {n : Int} {m : List Int} (h7 : n ≤ 7) (r : Rising m) (w : Within n m) : m.length ≤ 7 := by
  have := within_len (n := 7) r fun x hx => ⟨(w x hx).1, by have := (w x hx).2; omega⟩
  exact this
theorem pr_len {ls : List Ln} : ∀ l ∈ ls.map pr, l.length ≤ sizeLine := fun l hl => by
  obtain ⟨p, _, rfl⟩ := List.mem_map.mp hl
  have := line_eq
  simp [pr]; omega
theorem look_web_ok {n : Int} {ls : List Ln} (g : GW n ls) : F_look_web [web n ls] = some (.ok .non) := by
  have := line_eq
  have := g.len
  rw [web_wb, F_look_web_eq (by simp; omega) pr_len, if_pos g.ok]
theorem look_set_ok {n : Int} {ls : List Ln} {m : List Int} (g : GW n ls) (r : Rising m) (w : Within n m) : F_look_set [web n ls, .tup (I m)] = some (.ok .non) := by
  have := line_eq
  have := g.len
  have := len7 g.n7 r w
  rw [web_wb, F_look_set_eq (by simp; omega) pr_len (by omega), if_pos g.ok, if_pos (setOk_of r w)]
theorem steps_len (ls : List Ln) (m : List Int) : (steps ls m).length ≤ m.length := List.length_filterMap_le _ _
theorem step_small {n : Int} {ls : List Ln} {m : List Int} (g : GW n ls) : ∀ p ∈ steps ls m, 0 ≤ p.2 ∧ p.2 < n := fun p hp => nb_within g.good (step_new (u := p.1) (v := p.2) hp).1
theorem behind_ok {n : Int} {ls : List Ln} {m : List Int} (g : GW n ls) (r : Rising m) (w : Within n m) : F_marked_behind [.tup (I m), .lst (L (steps ls m))] = some (.ok (.tup (I (behind m (steps ls m))))) := by
  have h7 := g.n7
  have := steps_len ls m
  have := len7 g.n7 r w
  exact F_marked_behind_eq (fun x hx => ⟨(w x hx).1, by have := (w x hx).2; omega⟩) (fun p hp => ⟨(step_small g p hp).1, by have := (step_small g p hp).2; omega⟩) (by omega)
theorem isEmpty_L (st : List Ln) : (L st).isEmpty = st.isEmpty := by cases st <;> rfl
theorem getLast_snoc {α : Type} (xs : List α) (x : α) : (xs ++ [x]).getLast? = some x := by simp
theorem near_ok {n : Int} {ls : List Ln} (g : GW n ls) : F_near_lists [web n ls] = some (.ok (nearD n ls)) := F_near_lists_eq g.good g.n0 (by have := g.n7; omega) (by have := g.len; omega)
theorem F_rounds_from_ok {n : Int} {ls : List Ln} {m : List Int} (g : GW n ls) (r : Rising m) (w : Within n m) {k : Nat} (hk : n < k + m.length) (hk2 : k ≤ 1000) : F_rounds_from [nearD n ls, .tup (I m)] = some (.ok (.lst ((rnds ls k m).map stt))) := by
  have hz := line_eq
  have hlen := g.len
  have h0 := g.n0
  obtain ⟨N, rfl⟩ : ∃ N : Nat, n = N := ⟨n.toNat, by omega⟩
  have loop : ∀ (k : Nat) (m : List Int) (prev : List D) (f : Nat) (c : D) (cd : M Bool) (b : FS), cd = tst (vr 3) → b = (sq (sP 2 (cal F_marked_behind (consA (ixV 2 (op1 negD (cst (.int 1)))) (consA (vr 3) (nilA))))) (sA (.nm 3) (cal F_steps_from (consA (vr 0) (consA (ixV 2 (op1 negD (cst (.int 1)))) (nilA)))))) →
      Rising m → Within N m → N < k + m.length → k < f → prev.length + k ≤ 10000 → whN cd b f [.sh (nearD N ls), .sh c, .ow (prev ++ [stt m]), .sh (.lst (L (steps ls m)))] = some ([.sh (nearD N ls), .sh c, .ow (prev ++ (rnds ls k m).map stt), .sh (.lst [])], .nx) := by
    intro k
    induction k with
    | zero => intro m prev f c cd b _ _ r w h; exact absurd (within_len r w) (by omega)
    | succ k ih =>
      intro m prev f c cd b hc hb r w h hf hp
      obtain ⟨f, rfl⟩ : ∃ f', f = f' + 1 := ⟨f - 1, by omega⟩
      have hm := len7 g.n7 r w
      by_cases hs : steps ls m = []
      · rw [whN_stop (ρ' := [.sh (nearD N ls), .sh c, .ow (prev ++ [stt m]), .sh (.lst (L (steps ls m)))]) (by rw [hc]; simp! only [hs]; rfl)]
        rw [rnds, if_pos hs, hs]
        rfl
      · have ht : cd [.sh (nearD N ls), .sh c, .ow (prev ++ [stt m]), .sh (.lst (L (steps ls m)))] = some ([.sh (nearD N ls), .sh c, .ow (prev ++ [stt m]), .sh (.lst (L (steps ls m)))], .ok true) := by
          rw [hc]
          simp! only [isEmpty_L]
          cases q : steps ls m with
          | nil => exact absurd q hs
          | cons _ _ => rfl
        have l1 : atI (prev ++ [stt m]) (-1) = some (stt m) := atI_last (getLast_snoc _ _)
        have l2 : atI (prev ++ [stt m] ++ [stt (behind m (steps ls m))]) (-1) = some (stt (behind m (steps ls m))) := atI_last (getLast_snoc _ _)
        have hs' : ∀ p ∈ steps ls m, p ∈ steps ls m := fun _ z => z
        have r' := behind_rising m (steps ls m)
        have w' := behind_within g.good w hs'
        have hm' := len7 g.n7 r' w'
        have hlt : (prev ++ [stt m]).length < sizeLine := by simp; omega
        have hb' : b [.sh (nearD N ls), .sh c, .ow (prev ++ [stt m]), .sh (.lst (L (steps ls m)))] = some ([.sh (nearD N ls), .sh c, .ow (prev ++ [stt m] ++ [stt (behind m (steps ls m))]), .sh (.lst (L (steps ls (behind m (steps ls m)))))], .nx) := by
          rw [hb]
          have e1 : F_marked_behind [stt m, .lst (L (steps ls m))] = _ := behind_ok g r w
          have e2 : F_steps_from [nearD N ls, stt (behind m (steps ls m))] = _ := F_steps_from_eq (n := N) (ls := ls) (m := behind m (steps ls m)) (by omega) (by omega) w'
          rw [show D.tup (I (behind m (steps ls m))) = stt (behind m (steps ls m)) from rfl] at e1
          simp! only [l1, e1, hlt, if_true, l2, e2]
        rw [whN_step ht hb', ih _ (prev ++ [stt m]) f c cd b hc hb r' w' (by have := behind_longer r hs' hs; omega) (by omega) (by simp; omega)]
        rw [rnds, if_neg hs]
        simp
  have hm := len7 g.n7 r w
  have e2 := F_steps_from_eq (n := N) (ls := ls) (m := m) (by omega) (by omega) w
  have lp := loop k m [] 1000000 (.tup (I m)) _ _ rfl rfl r w (by omega) (by omega) (by simp; omega)
  have h1 : ([stt m]).length ≤ sizeLine := by simp; omega
  unfold F_rounds_from
  rw [ap_run2]
  rw [List.nil_append, List.nil_append] at lp
  unfold stt at lp h1
  simp! only [h1, if_true, e2]
  rw [show @sW = fun c b => whN c b 1000000 from rfl]
  dsimp only
  rw [lp]
  rfl
theorem rnds_stt {ls : List Ln} {k : Nat} {m : List Int} : ((rnds ls k m).map stt).getLast? = some (stt (FM.fin ls k m)) := by
  rw [List.getLast?_map, rnds_last]; rfl
theorem F_closure_from_ok {n : Int} {ls : List Ln} {m : List Int} (g : GW n ls) (r : Rising m) (w : Within n m) {k : Nat} (hk : n < k + m.length) (hk2 : k ≤ 1000) : F_closure_from [nearD n ls, .tup (I m)] = some (.ok (.tup (I (FM.fin ls k m)))) := by
  have l1 := atI_last (rnds_stt (ls := ls) (k := k) (m := m))
  unfold F_closure_from
  rw [ap_run2]
  simp! only [F_rounds_from_ok g r w hk hk2, l1]
  rfl
end FW
namespace FW
open DS FM
open PySem (Str sizeLine)
theorem F_law_cell_ok (s : List Int) (k : Int) : ∃ v, F_law_cell [.lst (I s), .int k] = some (.ok (.int v)) := by
  unfold F_law_cell
  rw [ap_run2]
  cases s with
  | nil => exact ⟨0, by simp! only [List.isEmpty_nil, Bool.not_true]⟩
  | cons x s =>
    have hp : (0 : Int) < ((I (x :: s)).length : Int) := by simp only [List.length_map, List.length_cons]; omega
    have h1 : 0 ≤ k % ((I (x :: s)).length : Int) := Int.emod_nonneg _ (by omega)
    have h2 : k % ((I (x :: s)).length : Int) < ((I (x :: s)).length : Int) := Int.emod_lt_of_pos _ hp
    obtain ⟨j, hj⟩ : ∃ j : Nat, k % ((I (x :: s)).length : Int) = j := ⟨(k % ((I (x :: s)).length : Int)).toNat, by omega⟩
    have hj2 : j < (I (x :: s)).length := by omega
    have e := atI_get hj2
    refine ⟨(x :: s)[j]'(by simpa using hj2), ?_⟩
    have e3 : modD (.int k) (.int ((I (x :: s)).length : Int)) = some (.int (j : Int)) := by rw [modI k hp, hj]
    have e4 : (!(I (x :: s)).isEmpty) = true := rfl
    simp only [ap_sq, ap_sI, ap_tst, ap_bnd, ap_vr, List.getElem?_cons_zero, List.getElem?_cons_succ, trL, e4, ap_lft, ap_sR, ap_sx, ap_op2, ap_blt, ap_consA, ap_nilA, ap_ret, lenL, e3, ixL, e, outc]
    rw [List.getElem_map]
theorem F_law_mix_ok (s : List Int) (k : Int) : ∃ v : Int, F_law_mix [.lst (I s), .int k] = some (.ok (.int v)) ∧ 0 ≤ v ∧ v < 4294967231 := by
  obtain ⟨c, hc⟩ := F_law_cell_ok s k
  refine ⟨(((c + 104729 * (k + 1)) % 4294967291 * 48271 % 4294967279) / 64 * 69621 + (c + 104729 * (k + 1)) % 4294967291 * 48271 % 4294967279) % 4294967231, ?_, Int.emod_nonneg _ (by omega), Int.emod_lt_of_pos _ (by omega)⟩
  unfold F_law_mix
  rw [ap_run2]
  simp! only [hc, mulK, mulK', fdvI, modI, Int.reduceLT, Int.reduceNeg, decide_true, Bool.and_true]
structure LW (n : Int) (one other : Int) (acc : List Ln) : Prop where
  good : Good n acc
  rise : acc.Pairwise lexLt2
  below : ∀ p ∈ acc, p.1 < one ∨ (p.1 = one ∧ p.2 < other)
theorem LW.next {n one other : Int} {acc : List Ln} (h : LW n one other acc) : LW n one (other + 1) acc := ⟨h.good, h.rise, fun p hp => by have := h.below p hp; omega⟩
theorem LW.add {n one other : Int} {acc : List Ln} (h : LW n one other acc) (h0 : 0 ≤ one) (h1 : one < other) (h2 : other < n) : LW n one (other + 1) (acc ++ [(one, other)]) := by
  refine ⟨fun p hp => ?_, ?_, fun p hp => ?_⟩
  · rcases List.mem_append.mp hp with q | q
    · exact h.good p q
    · rw [List.mem_singleton] at q; subst q; exact ⟨h0, h1, h2⟩
  · rw [List.pairwise_append]
    refine ⟨h.rise, by simp, fun p hp q hq => ?_⟩
    rw [List.mem_singleton] at hq; subst hq
    exact h.below p hp
  · rcases List.mem_append.mp hp with q | q
    · have := h.below p q; omega
    · rw [List.mem_singleton] at q; subst q; exact .inr ⟨rfl, by show other < other + 1; omega⟩
theorem LW.row {n one other : Int} {acc : List Ln} (h : LW n one other acc) : LW n (one + 1) 0 acc := ⟨h.good, h.rise, fun p hp => by rcases h.below p hp with q | ⟨q, q'⟩ <;> exact .inl (by omega)⟩
abbrev bWeb : FS := (sq (sA (.nm 8) (op2 fdvD (cal F_law_mix (consA (vr 0) (consA (op2 addD (op2 addD (op2 addD (vr 1) (cst (.int 2))) (op2 mulD (cst (.int 8)) (vr 6))) (vr 7)) (nilA)))) (cst (.int 8)))) (sq (sA (.nm 9) (orV (andV (op2 eqF (vr 4) (cst (.int 0))) (op2 eqF (vr 7) (op2 addD (vr 6) (cst (.int 1))))) (andV (op2 eqF (vr 4) (cst (.int 1))) (op2 eqF (vr 6) (op2 modD (vr 8) (vr 7)))))) (sI (orT (tst (vr 9)) (andT (tsB (op2 gtF (vr 4) (cst (.int 1)))) (tsB (op2 ltF (op2 modD (vr 8) (cst (.int 6))) (vr 4))))) (sP 5 (tupE (consA (vr 6) (consA (vr 7) (nilA))))) (sNx))))
theorem web_turn (s : List Int) (k most n way one other : Int) (acc : List Ln) (t8 t9 : Sl) (ho : 0 ≤ one) (h1 : one < other) (ha : acc.length < 1000) :
    ∃ (t8' t9' : Sl) (acc' : List Ln), (acc' = acc ∨ acc' = acc ++ [(one, other)]) ∧
      bWeb [.sh (.lst (I s)), .sh (.int k), .sh (.int most), .sh (.int n), .sh (.int way), .ow (L acc), .sh (.int one), .sh (.int other), t8, t9] =
        some ([.sh (.lst (I s)), .sh (.int k), .sh (.int most), .sh (.int n), .sh (.int way), .ow (L acc'), .sh (.int one), .sh (.int other), t8', t9'], .nx) := by
  have hz := line_eq
  have hlen : (L acc).length < sizeLine := by simp; omega
  obtain ⟨v, hv, v0, v1⟩ := F_law_mix_ok s (k + 2 + 8 * one + other)
  have hpos : 0 < other := by omega
  refine ⟨.sh (.int (v / 8)), ?_⟩
  have road : ∀ ρ : Rho, ρ = [.sh (.lst (I s)), .sh (.int k), .sh (.int most), .sh (.int n), .sh (.int way), .ow (L acc), .sh (.int one), .sh (.int other), .sh (.int (v / 8)), t9] → ∃ b, (orV (andV (op2 eqF (vr 4) (cst (.int 0))) (op2 eqF (vr 7) (op2 addD (vr 6) (cst (.int 1))))) (andV (op2 eqF (vr 4) (cst (.int 1))) (op2 eqF (vr 6) (op2 modD (vr 8) (vr 7))))) ρ = some (ρ, .ok (.bl b)) := by
    rintro ρ rfl
    refine ⟨(decide (way = 0) && decide (other = one + 1)) || (decide (way = 1) && decide (one = v / 8 % other)), ?_⟩
    by_cases q0 : way = 0
    · by_cases q1 : other = one + 1
      · simp! only [modI _ hpos, q0, q1, decide_true, if_true, Bool.and_true, Bool.true_or]
      · have q2 : ¬ (0 : Int) = 1 := by omega
        simp! only [modI _ hpos, q0, q1, q2, decide_true, decide_false, if_true, if_false, Bool.false_eq_true, Bool.and_false, Bool.false_or, Bool.false_and]
    · by_cases q1 : way = 1
      · simp! only [modI _ hpos, q0, q1, decide_true, decide_false, if_true, if_false, Bool.false_eq_true, Bool.and_false, Bool.false_or, Bool.false_and, Bool.true_and, Int.reduceEq]
      · simp! only [modI _ hpos, q0, q1, decide_true, decide_false, if_true, if_false, Bool.false_eq_true, Bool.and_false, Bool.false_or, Bool.false_and, Bool.true_and]
  obtain ⟨b, hb⟩ := road _ rfl
  refine ⟨.sh (.bl b), ?_⟩
  have test : ∀ ρ : Rho, ρ = [.sh (.lst (I s)), .sh (.int k), .sh (.int most), .sh (.int n), .sh (.int way), .ow (L acc), .sh (.int one), .sh (.int other), .sh (.int (v / 8)), .sh (.bl b)] → ∃ c, (orT (tst (vr 9)) (andT (tsB (op2 gtF (vr 4) (cst (.int 1)))) (tsB (op2 ltF (op2 modD (vr 8) (cst (.int 6))) (vr 4))))) ρ = some (ρ, .ok c) := by
    rintro ρ rfl
    cases b with
    | true => exact ⟨true, by simp! only [if_true]⟩
    | false =>
      by_cases q : 1 < way
      · exact ⟨decide (v / 8 % 6 < way), by simp! only [q, decide_true, if_true, Bool.false_eq_true, if_false, modI, Int.reduceLT]⟩
      · exact ⟨false, by simp! only [q, decide_false, Bool.false_eq_true, if_false]⟩
  obtain ⟨c, hc⟩ := test _ rfl
  have e1 : (sA (.nm 8) (op2 fdvD (cal F_law_mix (consA (vr 0) (consA (op2 addD (op2 addD (op2 addD (vr 1) (cst (.int 2))) (op2 mulD (cst (.int 8)) (vr 6))) (vr 7)) (nilA)))) (cst (.int 8)))) [.sh (.lst (I s)), .sh (.int k), .sh (.int most), .sh (.int n), .sh (.int way), .ow (L acc), .sh (.int one), .sh (.int other), t8, t9] = some ([.sh (.lst (I s)), .sh (.int k), .sh (.int most), .sh (.int n), .sh (.int way), .ow (L acc), .sh (.int one), .sh (.int other), .sh (.int (v / 8)), t9], .nx) := by
    simp! only [hv, mulK', fdvI, Int.reduceLT, Int.reduceNeg, decide_true, Bool.and_true]
  unfold bWeb
  rw [sq_nx e1, sq_nx (sA_nm hb)]
  simp only [List.set_cons_zero, List.set_cons_succ]
  cases c with
  | true =>
    refine ⟨acc ++ [(one, other)], .inr rfl, ?_⟩
    rw [sI_t hc]
    simp! only [hlen, if_true, fitS, List.length_cons, List.length_nil, Nat.zero_add, Nat.reduceAdd, Nat.reduceLeDiff, decide_true, List.map_append, lnD]
  | false =>
    refine ⟨acc, .inl rfl, ?_⟩
    rw [sI_f hc]
    rfl
theorem rng_cons {i j : Int} (h : i < j) : rng i j = .int i :: rng (i + 1) j := by
  unfold rng
  obtain ⟨m, hm⟩ : ∃ m : Nat, (j - i).toNat = m + 1 := ⟨(j - i).toNat - 1, by omega⟩
  rw [hm, show (j - (i + 1)).toNat = m by omega, List.range_succ_eq_map, List.map_cons, List.map_map]
  congr 1
  · simp
  · refine List.map_congr_left fun k _ => ?_
    simp only [Function.comp]
    congr 1
    omega
theorem rng_nil {i j : Int} (h : j ≤ i) : rng i j = [] := by
  unfold rng
  rw [show (j - i).toNat = 0 by omega]; rfl
theorem web_row (s : List Int) (k most n way one : Int) (ho : 0 ≤ one) : ∀ (m : Nat) (other : Int) (acc : List Ln) (t7 t8 t9 : Sl), n - other ≤ m → one < other → LW n one other acc → acc.length + m < 1000 →
    ∃ (t7' t8' t9' : Sl) (acc' : List Ln), LW n (one + 1) 0 acc' ∧ acc'.length ≤ acc.length + m ∧
      forL (.nm 7) bWeb (rng other n) [.sh (.lst (I s)), .sh (.int k), .sh (.int most), .sh (.int n), .sh (.int way), .ow (L acc), .sh (.int one), t7, t8, t9] =
        some ([.sh (.lst (I s)), .sh (.int k), .sh (.int most), .sh (.int n), .sh (.int way), .ow (L acc'), .sh (.int one), t7', t8', t9'], .nx) := by
  intro m
  induction m with
  | zero =>
    intro other acc t7 t8 t9 hm h1 hl ha
    rw [rng_nil (by omega), forL_nil]
    exact ⟨t7, t8, t9, acc, hl.row, by omega, rfl⟩
  | succ m ih =>
    intro other acc t7 t8 t9 hm h1 hl ha
    by_cases hlt : other < n
    · rw [rng_cons hlt]
      obtain ⟨u8, u9, acc1, hacc, e⟩ := web_turn s k most n way one other acc t8 t9 ho h1 (by omega)
      rw [forL_step e]
      have hl1 : LW n one (other + 1) acc1 := by
        rcases hacc with rfl | rfl
        · exact hl.next
        · exact hl.add ho h1 hlt
      have hlen : acc1.length ≤ acc.length + 1 := by rcases hacc with rfl | rfl <;> simp
      obtain ⟨t7', t8', t9', acc', r1, r2, r3⟩ := ih (other + 1) acc1 (.sh (.int other)) u8 u9 (by omega) (by omega) hl1 (by omega)
      exact ⟨t7', t8', t9', acc', r1, by omega, r3⟩
    · rw [rng_nil (by omega), forL_nil]
      exact ⟨t7, t8, t9, acc, hl.row, by omega, rfl⟩
theorem web_rows (s : List Int) (k most n way : Int) (hn : n ≤ 7) (b : FS) (hb : b = (sF (itR2 (consA (op2 addD (vr 6) (cst (.int 1))) (consA (vr 3) (nilA)))) (.nm 7) bWeb)) : ∀ (m : Nat) (one : Int) (acc : List Ln) (t6 t7 t8 t9 : Sl), n - one ≤ m → m ≤ 7 → 0 ≤ one → LW n one 0 acc → acc.length + 7 * m ≤ 49 →
    ∃ (t6' t7' t8' t9' : Sl) (acc' : List Ln), Good n acc' ∧ acc'.Pairwise lexLt2 ∧ acc'.length ≤ 49 ∧
      forL (.nm 6) b (rng one n) [.sh (.lst (I s)), .sh (.int k), .sh (.int most), .sh (.int n), .sh (.int way), .ow (L acc), t6, t7, t8, t9] =
        some ([.sh (.lst (I s)), .sh (.int k), .sh (.int most), .sh (.int n), .sh (.int way), .ow (L acc'), t6', t7', t8', t9'], .nx) := by
  intro m
  induction m with
  | zero =>
    intro one acc t6 t7 t8 t9 hm hm7 h1 hl ha
    rw [rng_nil (by omega), forL_nil]
    exact ⟨t6, t7, t8, t9, acc, hl.good, hl.rise, by omega, rfl⟩
  | succ m ih =>
    intro one acc t6 t7 t8 t9 hm hm7 h1 hl ha
    by_cases hlt : one < n
    · rw [rng_cons hlt]
      have hl0 : LW n one (one + 1) acc := ⟨hl.good, hl.rise, fun p hp => by have := hl.below p hp; omega⟩
      obtain ⟨u7, u8, u9, acc1, r1, r2, r3⟩ := web_row s k most n way one h1 7 (one + 1) acc t7 t8 t9 (by omega) (by omega) hl0 (by omega)
      have e : b ([Sl.sh (.lst (I s)), .sh (.int k), .sh (.int most), .sh (.int n), .sh (.int way), .ow (L acc), t6, t7, t8, t9].set 6 (.sh (.int one))) = some ([.sh (.lst (I s)), .sh (.int k), .sh (.int most), .sh (.int n), .sh (.int way), .ow (L acc1), .sh (.int one), u7, u8, u9], .nx) := by
        rw [hb]
        simp! only [rg2_ok (i := one + 1) (j := n) (by omega) (by omega) (by omega) (by omega), r3]
      rw [forL_step e]
      exact ih (one + 1) acc1 (.sh (.int one)) u7 u8 u9 (by omega) (by omega) (by omega) r1 (by omega)
    · rw [rng_nil (by omega), forL_nil]
      exact ⟨t6, t7, t8, t9, acc, hl.good, hl.rise, by omega, rfl⟩
theorem F_law_web_ok (s : List Int) (k most : Int) (h0 : 0 ≤ most) (h7 : most ≤ 7) : ∃ n ls, F_law_web [.lst (I s), .int k, .int most] = some (.ok (web n ls)) ∧ GW n ls ∧ n ≤ most := by
  obtain ⟨v, hv, v0, v1⟩ := F_law_mix_ok s k
  obtain ⟨u, hu, u0, u1⟩ := F_law_mix_ok s (k + 1)
  have hp : 0 < most + 1 := by omega
  have n0 : 0 ≤ v % (most + 1) := Int.emod_nonneg _ (by omega)
  have n1 : v % (most + 1) < most + 1 := Int.emod_lt_of_pos _ hp
  have lw0 : LW (v % (most + 1)) 0 0 [] := ⟨fun p hp => by simp at hp, by simp, fun p hp => by simp at hp⟩
  obtain ⟨t6, t7, t8, t9, acc, g, rs, len, r⟩ := web_rows s k most (v % (most + 1)) (u % 5) (by omega) _ rfl 7 0 [] .un .un .un .un (by omega) (by omega) (by omega) lw0 (by simp)
  refine ⟨v % (most + 1), acc, ?_, ⟨n0, by omega, g, rs, by omega⟩, by omega⟩
  have hnil : ([] : List D).length ≤ sizeLine := by simp
  rw [show L [] = ([] : List D) from rfl] at r
  have hr1 := rg1_ok (j := v % (most + 1)) n0 (by omega)
  unfold F_law_web
  rw [ap_run3]
  unfold bWeb at r
  simp! only [hv, hu, modI _ hp, modI, Int.reduceLT, hnil, if_true, hr1, r, fitS, List.length_cons, List.length_nil, Nat.zero_add, Nat.reduceAdd, Nat.reduceLeDiff, decide_true]
  rfl
theorem near_nb {n : Int} {ls : List Ln} (g : Good n ls) (s : Int) : ((ls.filter fun p => decide (s = p.1 ∨ s = p.2)).map fun p => p.1 + p.2 - s) = nb ls s := by
  induction ls with
  | nil => rfl
  | cons p ls ih =>
    have ih := ih fun q hq => g q (by simp [hq])
    obtain ⟨_, h2, _⟩ := g p (by simp)
    rw [nb_cons, List.filter_cons]
    by_cases h1 : p.1 = s
    · have h3 : ¬ p.2 = s := by omega
      rw [if_pos (by simp [h1]), List.map_cons, ih, if_pos h1, if_neg h3, show p.1 + p.2 - s = p.2 by omega]
      rfl
    · by_cases h3 : p.2 = s
      · rw [if_pos (by simp [h3]), List.map_cons, ih, if_neg h1, if_pos h3, show p.1 + p.2 - s = p.1 by omega]
        rfl
      · have a1 : ¬ s = p.1 := fun e => h1 e.symm
        have a2 : ¬ s = p.2 := fun e => h3 e.symm
        rw [if_neg (by simp [a1, a2]), ih, if_neg h1, if_neg h3]
        rfl
theorem F_law_near_ok {n s : Int} {ls : List Ln} (g : Good n ls) (h : ls.length ≤ 1000) : F_law_near [web n ls, .int s] = some (.ok (.lst (I (nb ls s)))) := by
  have hz := line_eq
  unfold F_law_near web
  rw [ap_run2]
  have hL : (ls.map fun p => (D.int p.1, D.int p.2)).map (fun d => D.tup [d.1, d.2]) = L ls := by rw [List.map_map]; rfl
  rw [sR_ok (compE_two (fun d => match d with | (.int a, .int b) => decide (s = a ∨ s = b) | _ => false) (fun d => match d with | (.int a, .int b) => .int (a + b - s) | _ => .non) (ds := ls.map fun p => (D.int p.1, D.int p.2)) ?a ?b ?h ?h2 ?c ?d)]
  case h => rfl
  case h2 => rfl
  case a => rw [hL]; simp! only []
  case b => simp; omega
  case c =>
    intro d hd
    obtain ⟨p, _, rfl⟩ := List.mem_map.mp hd
    have e := inT s [p.1, p.2]
    rw [show I [p.1, p.2] = [D.int p.1, .int p.2] from rfl] at e
    simp! only [fitS, List.length_cons, List.length_nil, Nat.zero_add, Nat.reduceAdd, Nat.reduceLeDiff, decide_true, e, List.mem_cons, List.not_mem_nil, or_false]
  case d =>
    intro d hd _
    obtain ⟨p, _, rfl⟩ := List.mem_map.mp hd
    simp! only []
  simp! only []
  congr 3
  rw [← near_nb g s]
  show _ = ((ls.filter _).map _).map D.int
  rw [List.filter_map, List.map_map, List.map_map]
  rfl
theorem risesFst_of : ∀ {ps : List Ln}, (ps.Pairwise fun p q => p.1 < q.1) → risesFst ps = true
  | [], _ => rfl
  | [_], _ => rfl
  | p :: q :: r, h => by
    rw [risesFst, Bool.and_eq_true]
    exact ⟨by simpa using (List.pairwise_cons.mp h).1 q (by simp), risesFst_of (List.pairwise_cons.mp h).2⟩
theorem srt_L {ps : List Ln} (hl : ps.length < 64) (h : ps.Pairwise fun p q => p.1 < q.1) : srtF [.lst (L ps)] = some (.lst (L ps)) := by
  rw [srtF, if_pos (by simpa using hl)]
  cases ps with
  | nil => rfl
  | cons p ps =>
    have e : intsD (L (p :: ps)) = none := rfl
    simp only [e, pairs_L, risesFst_of h, if_true]
theorem F_law_steps_ok {n : Int} {ls : List Ln} {m : List Int} {c : D} (g : GW n ls) (r : Rising m) (hm : m.length < 64) (hc : c = .tup (I m) ∨ c = .lst (I m)) : F_law_steps [web n ls, c] = some (.ok (.lst (L (steps ls m)))) := by
  have hlen := g.len
  have hni : ∀ x : Int, niF (.int x) c = some (.bl (!decide (x ∈ m))) := fun x => by
    rcases hc with rfl | rfl
    · exact niT x m
    · exact niL x m
  have hit : items c = some (I m) := by rcases hc with rfl | rfl <;> rfl
  obtain ⟨s, s', e⟩ := steps_go (it := itE (cal F_law_near (consA (vr 0) (consA (vr 3) nilA)))) (w := web n ls) (c := c) (m := m) (ls := ls) (fun s _ _ _ => by simp! only [F_law_near_ok g.good (show ls.length ≤ 1000 by omega)]) (by omega) (by omega) hni _ rfl m [] .un .un (fun _ z => z) (by simp; omega)
  have hnil : ([] : List D).length ≤ sizeLine := by simp
  rw [show L [] = ([] : List D) from rfl, List.nil_append] at e
  have hs := steps_len ls m
  have e2 := srt_L (ps := m.filterMap (stepOf ls m)) (by unfold steps at hs; omega) (steps_rise ls m r)
  unfold F_law_steps
  rw [ap_run2]
  simp! only [hnil, if_true, hit, e, e2]
  rfl
end FW
namespace FW
open DS FM
open PySem (Str sizeLine)
theorem F_law_set_ok (s : List Int) (k n : Int) (h0 : 0 ≤ n) (h7 : n ≤ 7) : ∃ m, F_law_set [.lst (I s), .int k, .int n] = some (.ok (.tup (I m))) ∧ Rising m ∧ Within n m := by
  have hz := line_eq
  obtain ⟨v, hv, v0, v1⟩ := F_law_mix_ok s k
  have tab : ∀ j : Nat, j < 8 → ∃ q : Int, atI [D.int 1, .int 2, .int 4, .int 8, .int 16, .int 32, .int 64, .int 128] (j : Int) = some (.int q) ∧ (decide (0 < q) && decide (q < 1073741824)) = true := by
    intro j hj
    match j, hj with
    | 0, _ => exact ⟨1, rfl, rfl⟩
    | 1, _ => exact ⟨2, rfl, rfl⟩
    | 2, _ => exact ⟨4, rfl, rfl⟩
    | 3, _ => exact ⟨8, rfl, rfl⟩
    | 4, _ => exact ⟨16, rfl, rfl⟩
    | 5, _ => exact ⟨32, rfl, rfl⟩
    | 6, _ => exact ⟨64, rfl, rfl⟩
    | 7, _ => exact ⟨128, rfl, rfl⟩
  let pw : Int → Int := fun i => match atI [D.int 1, .int 2, .int 4, .int 8, .int 16, .int 32, .int 64, .int 128] i with | some (.int q) => q | _ => 1
  let bit : Int → Bool := fun i => decide (v / 8 / pw i % 2 = 1)
  let nums : List Int := (List.range n.toNat).map fun (j : Nat) => (j : Int)
  have hrng : rng 0 n = I nums := by
    unfold rng
    show _ = ((List.range n.toNat).map fun (j : Nat) => (j : Int)).map D.int
    rw [List.map_map, show (n - 0).toNat = n.toNat by omega]
    refine List.map_congr_left fun j _ => ?_
    simp
  refine ⟨nums.filter bit, ?_, ?_, fun x hx => ?_⟩
  · unfold F_law_set
    rw [ap_run3]
    simp! only [hv, fdvI, Int.reduceLT, decide_true, Bool.and_true]
    rw [compE_one (fun d => match d with | .int x => bit x | _ => false) id (ds := I nums) ?a ?b ?h ?c ?d]
    case h => rfl
    case a => simp! only [rg1_ok (j := n) h0 (by omega), hrng]
    case b => simp [nums]; omega
    case c =>
      intro d hd
      obtain ⟨x, hx, rfl⟩ := List.mem_map.mp hd
      obtain ⟨j, hj, rfl⟩ := List.mem_map.mp hx
      have hj' := List.mem_range.mp hj
      obtain ⟨q, e1, e2⟩ := tab j (by omega)
      have e3 : pw (j : Int) = q := by simp only [pw, e1]
      simp! only [fitS, List.length_cons, List.length_nil, Nat.zero_add, Nat.reduceAdd, Nat.reduceLeDiff, decide_true, e1, fdvI _ e2, modI, Int.reduceLT, bit, e3]
    case d => intro d hd _; simp! only [id]
    rw [filter_I bit _ (fun _ => rfl), List.map_id]
    simp! only []
  · unfold Rising
    refine List.Pairwise.filter _ ?_
    rw [List.pairwise_map]
    exact List.pairwise_lt_range.imp fun h => by omega
  · obtain ⟨j, hj, rfl⟩ := List.mem_map.mp (List.mem_filter.mp hx).1
    have := List.mem_range.mp hj
    exact ⟨by omega, by omega⟩
end FW
namespace FW
open DS FM
open PySem (Str sizeLine)
theorem insI_perm (x : Int) : ∀ l : List Int, (insI x l).Perm (x :: l)
  | [] => .refl _
  | y :: l => by
    rw [insI]
    split
    · exact .refl _
    · exact ((insI_perm x l).cons y).trans (.swap x y l)
theorem sortI_perm : ∀ l : List Int, (sortI l).Perm l
  | [] => .refl _
  | x :: l => (insI_perm x (sortI l)).trans ((sortI_perm l).cons x)
theorem insI_sorted (x : Int) : ∀ l : List Int, l.Pairwise (· ≤ ·) → (insI x l).Pairwise (· ≤ ·)
  | [], _ => by simp [insI]
  | y :: l, h => by
    obtain ⟨h1, h2⟩ := List.pairwise_cons.mp h
    rw [insI]
    split
    · rename_i hle
      refine List.pairwise_cons.mpr ⟨fun z hz => ?_, h⟩
      rcases List.mem_cons.mp hz with rfl | hz
      · exact hle
      · exact Int.le_trans hle (h1 z hz)
    · rename_i hle
      refine List.pairwise_cons.mpr ⟨fun z hz => ?_, insI_sorted x l h2⟩
      rcases List.mem_cons.mp ((insI_perm x l).mem_iff.mp hz) with rfl | hz
      · omega
      · exact h1 z hz
theorem sortI_sorted : ∀ l : List Int, (sortI l).Pairwise (· ≤ ·)
  | [] => .nil
  | x :: l => insI_sorted x _ (sortI_sorted l)
theorem sortI_nodup {l : List Int} (h : l.Nodup) : sortI l = usort l := by
  refine rising_ext ?_ (rising_usort l) fun x => by rw [(sortI_perm l).mem_iff, mem_usort]
  have hn : (sortI l).Nodup := (sortI_perm l).nodup_iff.mpr h
  unfold Rising
  have := (sortI_sorted l).and hn
  exact this.imp fun {a b} hab => by have h1 := hab.1; have h2 := hab.2; omega
theorem rising_nodup {m : List Int} (r : Rising m) : m.Nodup := List.Pairwise.imp (fun h => by omega) r
theorem sortI_rising {m : List Int} (r : Rising m) : sortI m = m := by rw [sortI_nodup (rising_nodup r), usort_rising r]
theorem sortI_snoc {m : List Int} (r : Rising m) {x : Int} (h : ¬ x ∈ m) : sortI (m ++ [x]) = behind m [(0, x)] := by
  rw [sortI_nodup]
  · rfl
  · rw [List.nodup_append]
    refine ⟨rising_nodup r, by simp, fun a ha b hb => ?_⟩
    rw [List.mem_singleton] at hb
    subst hb
    rintro rfl
    exact h ha
theorem behind_one (m : List Int) (p : Ln) : behind m [(0, p.2)] = behind m [p] := rfl
theorem srt_I {l : List Int} (h : l.length < 64) : srtF [.lst (I l)] = some (.lst (I (sortI l))) := by
  rw [srtF, if_pos (by simpa using h), ints_I]
theorem srt_T {l : List Int} (h : l.length < 64) : srtF [.tup (I l)] = some (.lst (I (sortI l))) := by
  rw [srtF, if_pos (by simpa using h), ints_I]
theorem dep_lnD (p : Ln) : ∃ n, dep (lnD p) = some n ∧ n ≤ 1 := by
  unfold lnD
  refine dep_tup (k := 0) fun d hd => ?_
  simp at hd
  rcases hd with rfl | rfl <;> exact ⟨0, by simp [dep], by omega⟩
theorem dep_L (ls : List Ln) : ∃ n, dep (.lst (L ls)) = some n ∧ n ≤ 2 := dep_lst (k := 1) fun d hd => by
  obtain ⟨p, _, rfl⟩ := List.mem_map.mp hd
  exact dep_lnD p
theorem eqOk_L (ls : List Ln) : eqOk (.lst (L ls)) = true := eqOk_of (dep_L ls) (by omega)
theorem ne_nil (st : List Ln) : neF (.lst (L st)) (.lst []) = some (.bl (!st.isEmpty)) := by
  unfold neF
  have e2 : eqOk (.lst []) = true := by simp [eqOk, dep, deps]
  rw [if_pos (by rw [eqOk_L, e2]; rfl)]
  cases st with
  | nil => simp [eqD, eqDs]
  | cons p st => simp [eqD, eqDs]
theorem ref_web : F_law_refusal [.exc "BadWeb"] = some (.ok (.str (PySem.Str.ofString "web"))) := by rfl
theorem ref_set : F_law_refusal [.exc "BadSet"] = some (.ok (.str (PySem.Str.ofString "set"))) := by rfl
inductive Ans : R D → D → Prop
  | ok (d : D) : Ans (.ok d) d
  | web : Ans (.er "BadWeb") (.str (PySem.Str.ofString "web"))
  | set : Ans (.er "BadSet") (.str (PySem.Str.ofString "set"))
theorem sup_web : (clss.contains "BadWeb" && sup "BadWeb" "MarkError") = true := rfl
theorem sup_set : (clss.contains "BadSet" && sup "BadSet" "MarkError") = true := rfl
theorem isN_exc (n : String) : isN (.exc n) = some (.bl false) := rfl
theorem sIx_nat (n d k : Nat) : sIx n d (some (k : Int)) = min k n := by
  show (if (k : Int) < 0 then (max ((k : Int) + (n : Int)) 0).toNat else (min (k : Int) (n : Int)).toNat) = _
  rw [if_neg (by omega)]
  omega
theorem sIx_m1 (n d : Nat) : sIx n d (some (-1)) = n - 1 := by
  show (if (-1 : Int) < 0 then (max ((-1 : Int) + (n : Int)) 0).toNat else (min (-1 : Int) (n : Int)).toNat) = _
  rw [if_pos (by omega)]
  omega
theorem cut_take {α : Type} (xs : List α) (k : Nat) (h : k ≤ xs.length) : cut xs none (some (k : Int)) = xs.take k := by
  unfold cut
  rw [sIx_nat, show sIx xs.length 0 none = 0 from rfl, Nat.min_eq_left h]
  simp
theorem cut_drop {α : Type} (xs : List α) (k : Nat) (h : k ≤ xs.length) : cut xs (some (k : Int)) none = xs.drop k := by
  unfold cut
  rw [sIx_nat, show sIx xs.length xs.length none = xs.length from rfl, Nat.min_eq_left h]
  rw [List.take_of_length_le (by simp)]
theorem cut_last {α : Type} (xs : List α) (x : α) : cut (xs ++ [x]) (some (-1)) none = [x] := by
  unfold cut
  rw [sIx_m1, show ∀ n, sIx n n none = n from fun _ => rfl]
  simp
theorem cut_last0 {α : Type} : cut ([] : List α) (some (-1)) none = [] := by simp [cut]
theorem TL_append (a b : List (List Int)) : TL a ++ TL b = TL (a ++ b) := by simp
theorem asg_tp2 {i j : Nat} {a b : D} {ρ : Rho} : asg (.tp [i, j]) (.tup [a, b]) ρ = some ((ρ.set i (.sh a)).set j (.sh b)) := rfl
theorem atI5 {α : Type} {a b c d e : α} (P : α → Prop) (k : Int) (h0 : 0 ≤ k) (h5 : k < 5) (ha : P a) (hb : P b) (hc : P c) (hd : P d) (he : P e) : ∃ x, atI [a, b, c, d, e] k = some x ∧ P x := by
  rcases (by omega : k = 0 ∨ k = 1 ∨ k = 2 ∨ k = 3 ∨ k = 4) with rfl | rfl | rfl | rfl | rfl
  · exact ⟨a, rfl, ha⟩
  · exact ⟨b, rfl, hb⟩
  · exact ⟨c, rfl, hc⟩
  · exact ⟨d, rfl, hd⟩
  · exact ⟨e, rfl, he⟩
theorem atI3 {α : Type} {a b c : α} (P : α → Prop) (k : Int) (h0 : 0 ≤ k) (h5 : k < 3) (ha : P a) (hb : P b) (hc : P c) : ∃ x, atI [a, b, c] k = some x ∧ P x := by
  rcases (by omega : k = 0 ∨ k = 1 ∨ k = 2) with rfl | rfl | rfl
  · exact ⟨a, rfl, ha⟩
  · exact ⟨b, rfl, hb⟩
  · exact ⟨c, rfl, hc⟩
theorem atI4 {α : Type} {a b c d : α} (P : α → Prop) (k : Int) (h0 : 0 ≤ k) (h5 : k < 4) (ha : P a) (hb : P b) (hc : P c) (hd : P d) : ∃ x, atI [a, b, c, d] k = some x ∧ P x := by
  rcases (by omega : k = 0 ∨ k = 1 ∨ k = 2 ∨ k = 3) with rfl | rfl | rfl | rfl
  · exact ⟨a, rfl, ha⟩
  · exact ⟨b, rfl, hb⟩
  · exact ⟨c, rfl, hc⟩
  · exact ⟨d, rfl, hd⟩
theorem L_TL (ls : List Ln) : L ls = TL (ls.map pr) := (TL_pr ls).symm
theorem eqF_same {d : D} {k : Nat} (h : ∃ n, dep d = some n ∧ n ≤ k) (hk : k ≤ 20) : eqF d d = some (.bl true) := by
  unfold eqF
  rw [if_pos (by rw [eqOk_of h hk]; rfl)]
  obtain ⟨n, h1, _⟩ := h
  rw [eqD_refl d (by rw [h1]; rfl)]
theorem neF_same {d : D} {k : Nat} (h : ∃ n, dep d = some n ∧ n ≤ k) (hk : k ≤ 20) : neF d d = some (.bl false) := by
  unfold neF
  rw [if_pos (by rw [eqOk_of h hk]; rfl)]
  obtain ⟨n, h1, _⟩ := h
  rw [eqD_refl d (by rw [h1]; rfl)]
  rfl
theorem dep_mono {d : D} {j k : Nat} (h : ∃ n, dep d = some n ∧ n ≤ j) (hk : j ≤ k) : ∃ n, dep d = some n ∧ n ≤ k := by
  obtain ⟨n, h1, h2⟩ := h
  exact ⟨n, h1, by omega⟩
theorem dep_stt (m : List Int) : ∃ n, dep (stt m) = some n ∧ n ≤ 1 := dep_tup dep_I
theorem dep_stts (ms : List (List Int)) : ∃ n, dep (.lst (ms.map stt)) = some n ∧ n ≤ 2 := dep_lst fun d hd => by
  obtain ⟨m, _, rfl⟩ := List.mem_map.mp hd
  exact dep_stt m
theorem dep_web (n : Int) (ls : List Ln) : ∃ k, dep (web n ls) = some k ∧ k ≤ 3 := dep_tup fun d hd => by
  simp at hd
  rcases hd with rfl | rfl
  · exact ⟨0, by simp [dep], by omega⟩
  · exact dep_L ls
theorem dep_strs (x : Str) (n : Nat) : ∃ k, dep (.lst (List.replicate n (.str x))) = some k ∧ k ≤ 1 := dep_lst fun d hd => by
  obtain ⟨_, rfl⟩ := List.mem_replicate.mp hd
  exact ⟨0, by simp [dep], by omega⟩
end FW
namespace FW
open DS FM
open PySem (Str sizeLine)
theorem F_law_closure_ok {n : Int} {ls : List Ln} {m : List Int} (g : GW n ls) (r : Rising m) (w : Within n m) {k : Nat} (hk : n < k + m.length) (hk2 : k ≤ 1000) : F_law_closure [web n ls, .tup (I m)] = some (.ok (.tup (I (seqc ls k m)))) := by
  have h0 := g.n0
  have hz := line_eq
  obtain ⟨N, rfl⟩ : ∃ N : Nat, n = N := ⟨n.toNat, by omega⟩
  have loop : ∀ (k : Nat) (m : List Int) (f : Nat) (c : D) (cd : M Bool) (b : FS), cd = (tsB (op2 neF (cal F_law_steps (consA (vr 0) (consA (vr 2) (nilA)))) (lstE (nilA)))) → b = (sA (.nm 2) (blt srtF (consA (op2 addD (vr 2) (lstE (consA (op2 ixD (op2 ixD (cal F_law_steps (consA (vr 0) (consA (vr 2) (nilA)))) (op1 negD (cst (.int 1)))) (cst (.int 1))) (nilA)))) (nilA)))) →
      Rising m → Within N m → N < k + m.length → k < f → whN cd b f [.sh (web N ls), .sh c, .sh (.lst (I m))] = some ([.sh (web N ls), .sh c, .sh (.lst (I (seqc ls k m)))], .nx) := by
    intro k
    induction k with
    | zero => intro m f c cd b _ _ r w h; exact absurd (within_len r w) (by omega)
    | succ k ih =>
      intro m f c cd b hc hb r w h hf
      obtain ⟨f, rfl⟩ : ∃ f', f = f' + 1 := ⟨f - 1, by omega⟩
      have hm := len7 g.n7 r w
      have es := F_law_steps_ok (c := .lst (I m)) g r (by omega) (.inr rfl)
      have ht : cd [.sh (web N ls), .sh c, .sh (.lst (I m))] = some ([.sh (web N ls), .sh c, .sh (.lst (I m))], .ok (!(steps ls m).isEmpty)) := by
        rw [hc]
        simp! only [es, fitS, decide_true, ne_nil]
      cases q : (steps ls m).getLast? with
      | none =>
        have q' : steps ls m = [] := List.getLast?_eq_none_iff.mp q
        rw [whN_stop (by rw [ht, q']; rfl)]
        rw [seqc, q]
      | some p =>
        have hne : (steps ls m).isEmpty = false := by
          cases z : steps ls m with
          | nil => rw [z] at q; cases q
          | cons _ _ => rfl
        have hp : p ∈ steps ls m := last_mem q
        have hnew : ¬ p.2 ∈ m := (step_new (u := p.1) (v := p.2) hp).2
        have l1 : atI (L (steps ls m)) (-1) = some (lnD p) := atI_last (by rw [List.getLast?_map, q]; rfl)
        have hs : ∀ x ∈ [p], x ∈ steps ls m := fun x hx => by rw [List.mem_singleton] at hx; subst hx; exact hp
        have r' := behind_rising m [p]
        have w' := behind_within g.good w hs
        have ad : addD (.lst (I m)) (.lst [.int p.2]) = some (.lst (I (m ++ [p.2]))) := by
          rw [addD, if_pos (by simp; omega)]; simp
        have so : srtF [.lst (I (m ++ [p.2]))] = some (.lst (I (behind m [p]))) := by
          rw [srt_I (by simp; omega), sortI_snoc r hnew, behind_one]
        have hb' : b [.sh (web N ls), .sh c, .sh (.lst (I m))] = some ([.sh (web N ls), .sh c, .sh (.lst (I (behind m [p])))], .nx) := by
          rw [hb]
          simp! only [es, l1, lnD, fitS, List.length_cons, Nat.zero_add, Nat.reduceLeDiff, decide_true, ad, so]
        rw [whN_step (by rw [ht, hne]; rfl) hb', ih _ f c cd b hc hb r' w' (by have := behind_longer r hs (by simp); omega) (by omega), seqc, q]
  have hm := len7 g.n7 r w
  have lp := loop k m 1000000 (.tup (I m)) _ _ rfl rfl r w (by omega) (by omega)
  unfold F_law_closure
  rw [ap_run2]
  simp! only [srt_T (l := m) (by omega), sortI_rising r]
  rw [show @sW = fun c b => whN c b 1000000 from rfl]
  dsimp only
  rw [lp]
  simp! only []
end FW
namespace FW
open DS FM
open PySem (Str sizeLine)
theorem F_marks_all_from_ok {n : Int} {ls : List Ln} {m : List Int} (g : GW n ls) (r : Rising m) (w : Within n m) {k : Nat} (hk : n < k + m.length) (hk2 : k ≤ 1000) : F_marks_all_from [nearD n ls, .tup (I m)] = some (.ok (.bl (decide (((FM.fin ls k m).length : Int) = n)))) := by
  have e := F_closure_from_ok g r w hk hk2
  unfold F_marks_all_from
  rw [ap_run2]
  simp! only [e, List.length_map, near_len g.n0]
end FW
namespace FW
open DS FM
open PySem (Str sizeLine)
theorem F_steps_at_ok {n : Int} {ls : List Ln} {m : List Int} (g : GW n ls) (r : Rising m) (w : Within n m) : F_steps_at [web n ls, .tup (I m)] = some (.ok (.lst (L (steps ls m)))) := by
  have := g.len
  have := len7 g.n7 r w
  unfold F_steps_at
  rw [ap_run2]
  simp! only [look_set_ok g r w, near_ok g, F_steps_from_eq (n := n) (ls := ls) (m := m) (by omega) (by omega) w]
theorem F_marks_all_ok {n : Int} {ls : List Ln} {m : List Int} (g : GW n ls) (r : Rising m) (w : Within n m) {k : Nat} (hk : n < k + m.length) (hk2 : k ≤ 1000) : F_marks_all [web n ls, .tup (I m)] = some (.ok (.bl (decide (((FM.fin ls k m).length : Int) = n)))) := by
  unfold F_marks_all
  rw [ap_run2]
  simp! only [look_set_ok g r w, near_ok g, F_marks_all_from_ok g r w hk hk2]
theorem F_rounds_ok {n : Int} {ls : List Ln} {m : List Int} (g : GW n ls) (r : Rising m) (w : Within n m) {k : Nat} (hk : n < k + m.length) (hk2 : k ≤ 1000) : F_rounds [web n ls, .tup (I m)] = some (.ok (.lst ((rnds ls k m).map stt))) := by
  unfold F_rounds
  rw [ap_run2]
  simp! only [look_set_ok g r w, near_ok g, F_rounds_from_ok g r w hk hk2]
theorem F_closure_ok {n : Int} {ls : List Ln} {m : List Int} (g : GW n ls) (r : Rising m) (w : Within n m) {k : Nat} (hk : n < k + m.length) (hk2 : k ≤ 1000) : F_closure [web n ls, .tup (I m)] = some (.ok (.tup (I (FM.fin ls k m)))) := by
  unfold F_closure
  rw [ap_run2]
  simp! only [look_set_ok g r w, near_ok g, F_closure_from_ok g r w hk hk2]
theorem F_law_rounds_ok {n : Int} {ls : List Ln} {m : List Int} (g : GW n ls) (r : Rising m) (w : Within n m) {k : Nat} (hk : n < k + m.length) (hk2 : k ≤ 1000) : F_law_rounds [web n ls, .tup (I m)] = some (.ok (.lst ((rnds ls k m).map stt))) := by
  have h0 := g.n0
  have h7 := g.n7
  have hz := line_eq
  obtain ⟨N, rfl⟩ : ∃ N : Nat, n = N := ⟨n.toNat, by omega⟩
  have loop : ∀ (k : Nat) (m : List Int) (prev : List D) (f : Nat) (c : D) (t : Sl) (cd : M Bool) (b : FS), cd = (tsB (op2 neF (cal F_law_steps (consA (vr 0) (consA (ixV 2 (op1 negD (cst (.int 1)))) (nilA)))) (lstE (nilA)))) →
      b = (sq (sA (.nm 3) (op2 addD (blt lstF (consA (ixV 2 (op1 negD (cst (.int 1)))) (nilA))) (compE (itE (cal F_law_steps (consA (vr 0) (consA (ixV 2 (op1 negD (cst (.int 1)))) (nilA))))) (.nm 4) 1 (yes) (op2 ixD (vr 4) (cst (.int 1)))))) (sP 2 (blt tupF (consA (blt srtF (consA (blt setF (consA (vr 3) (nilA))) (nilA))) (nilA))))) →
      Rising m → Within N m → N < k + m.length → k < f → prev.length + k ≤ 10000 → ∃ t', whN cd b f [.sh (web N ls), .sh c, .ow (prev ++ [stt m]), t] = some ([.sh (web N ls), .sh c, .ow (prev ++ (rnds ls k m).map stt), t'], .nx) := by
    intro k
    induction k with
    | zero => intro m prev f c t cd b _ _ r w h; exact absurd (within_len r w) (by omega)
    | succ k ih =>
      intro m prev f c t cd b hc hb r w h hf hp
      obtain ⟨f, rfl⟩ : ∃ f', f = f' + 1 := ⟨f - 1, by omega⟩
      have hm := len7 g.n7 r w
      have hsl := steps_len ls m
      have l1 : atI (prev ++ [stt m]) (-1) = some (stt m) := atI_last (getLast_snoc _ _)
      have es : F_law_steps [web N ls, stt m] = _ := F_law_steps_ok (c := .tup (I m)) g r (by omega) (.inl rfl)
      have ht : cd [.sh (web N ls), .sh c, .ow (prev ++ [stt m]), t] = some ([.sh (web N ls), .sh c, .ow (prev ++ [stt m]), t], .ok (!(steps ls m).isEmpty)) := by
        rw [hc]
        simp! only [l1, es, fitS, decide_true, ne_nil]
      by_cases hs : steps ls m = []
      · refine ⟨t, ?_⟩
        rw [whN_stop (by rw [ht, hs]; rfl), rnds, if_pos hs]
        rfl
      · have hne : (steps ls m).isEmpty = false := by
          cases z : steps ls m with
          | nil => exact absurd z hs
          | cons _ _ => rfl
        have hs' : ∀ p ∈ steps ls m, p ∈ steps ls m := fun _ z => z
        have r' := behind_rising m (steps ls m)
        have w' := behind_within g.good w hs'
        have hlt : (prev ++ [stt m]).length < sizeLine := by simp; omega
        have cmp : ∀ ρ : Rho, ρ = [.sh (web N ls), .sh c, .ow (prev ++ [stt m]), t] → compE (itE (cal F_law_steps (consA (vr 0) (consA (ixV 2 (op1 negD (cst (.int 1)))) (nilA))))) (.nm 4) 1 (yes) (op2 ixD (vr 4) (cst (.int 1))) ρ = some (ρ, .ok (.lst (I ((steps ls m).map (·.2))))) := by
          rintro ρ rfl
          exact comp_snd (by simp! only [l1, es]) (by omega) rfl
        have ad : addD (.lst (I m)) (.lst (I ((steps ls m).map (·.2)))) = some (.lst (I (m ++ (steps ls m).map (·.2)))) := by
          rw [addD, if_pos (by simp; omega)]; simp
        have st : setF [.lst (I (m ++ (steps ls m).map (·.2)))] = some (.set (behind m (steps ls m))) := by
          rw [setF_lst]
          · rfl
          · intro x hx
            rcases List.mem_append.mp hx with q | q
            · have := w x q; omega
            · obtain ⟨p, hp, rfl⟩ := List.mem_map.mp q
              have := step_small g p hp
              omega
        have lt : lstF [stt m] = some (.lst (I m)) := rfl
        have hb' : b [.sh (web N ls), .sh c, .ow (prev ++ [stt m]), t] = some ([.sh (web N ls), .sh c, .ow (prev ++ [stt m] ++ [stt (behind m (steps ls m))]), .sh (.lst (I (m ++ (steps ls m).map (·.2))))], .nx) := by
          rw [hb]
          simp! only [l1, lt, cmp _ rfl, ad, st, srt_set, hlt]
          rfl
        obtain ⟨t', e⟩ := ih _ (prev ++ [stt m]) f c (.sh (.lst (I (m ++ (steps ls m).map (·.2))))) cd b hc hb r' w' (by have := behind_longer r hs' hs; omega) (by omega) (by simp; omega)
        refine ⟨t', ?_⟩
        rw [whN_step (by rw [ht, hne]; rfl) hb', e, rnds, if_neg hs]
        simp
  have hm := len7 g.n7 r w
  obtain ⟨t', lp⟩ := loop k m [] 1000000 (.tup (I m)) .un _ _ rfl rfl r w (by omega) (by omega) (by simp; omega)
  have h1 : ([stt m]).length ≤ sizeLine := by simp; omega
  rw [List.nil_append, List.nil_append] at lp
  unfold stt at lp h1
  unfold F_law_rounds
  rw [ap_run2]
  simp! only [h1]
  rw [show @sW = fun c b => whN c b 1000000 from rfl]
  dsimp only
  rw [lp]
  rfl
theorem told0 {W S a : D} {r : R D} (h : F_look_web [W] = some r) (hr : Ans r a) : F_law_told [.int 0, W, S] = some (.ok a) := by
  unfold F_law_told
  rw [ap_run3]
  cases hr <;> simp! only [h, Int.reduceEq, decide_true, decide_false, Bool.false_eq_true, if_false, sup_web, sup_set, isN_exc, ref_web, ref_set]
theorem told1 {W S a : D} {r : R D} (h : F_look_set [W, S] = some r) (hr : Ans r a) : F_law_told [.int 1, W, S] = some (.ok a) := by
  unfold F_law_told
  rw [ap_run3]
  cases hr <;> simp! only [h, Int.reduceEq, decide_true, decide_false, Bool.false_eq_true, if_false, sup_web, sup_set, isN_exc, ref_web, ref_set]
theorem told2 {W S a : D} {r : R D} (h : F_steps_at [W, S] = some r) (hr : Ans r a) : F_law_told [.int 2, W, S] = some (.ok a) := by
  unfold F_law_told
  rw [ap_run3]
  cases hr <;> simp! only [h, Int.reduceEq, decide_true, decide_false, Bool.false_eq_true, if_false, sup_web, sup_set, isN_exc, ref_web, ref_set]
theorem told3 {W S a : D} {r : R D} (h : F_closure [W, S] = some r) (hr : Ans r a) : F_law_told [.int 3, W, S] = some (.ok a) := by
  unfold F_law_told
  rw [ap_run3]
  cases hr <;> simp! only [h, Int.reduceEq, decide_true, decide_false, Bool.false_eq_true, if_false, sup_web, sup_set, isN_exc, ref_web, ref_set]
theorem told4 {W S a : D} {r : R D} (h : F_marks_all [W, S] = some r) (hr : Ans r a) : F_law_told [.int 4, W, S] = some (.ok a) := by
  unfold F_law_told
  rw [ap_run3]
  cases hr <;> simp! only [h, Int.reduceEq, decide_true, decide_false, Bool.false_eq_true, if_false, sup_web, sup_set, isN_exc, ref_web, ref_set]
theorem told5 {W S a : D} {r : R D} (h : F_rounds [W, S] = some r) (hr : Ans r a) : F_law_told [.int 5, W, S] = some (.ok a) := by
  unfold F_law_told
  rw [ap_run3]
  cases hr <;> simp! only [h, Int.reduceEq, decide_true, decide_false, Bool.false_eq_true, if_false, sup_web, sup_set, isN_exc, ref_web, ref_set]
section
variable {W S : D} {n : String} (h : F_look_set [W, S] = some (.er n))
include h
theorem steps_at_er : F_steps_at [W, S] = some (.er n) := by
  unfold F_steps_at
  rw [ap_run2]
  simp! only [h]
theorem rounds_er : F_rounds [W, S] = some (.er n) := by
  unfold F_rounds
  rw [ap_run2]
  simp! only [h]
theorem closure_er : F_closure [W, S] = some (.er n) := by
  unfold F_closure
  rw [ap_run2]
  simp! only [h]
theorem marks_all_er : F_marks_all [W, S] = some (.er n) := by
  unfold F_marks_all
  rw [ap_run2]
  simp! only [h]
end
theorem told_er {W S a : D} {n : String} (h : F_look_set [W, S] = some (.er n)) (hr : Ans (.er n) a) (j : Int) (h1 : 1 ≤ j) (h6 : j < 6) : F_law_told [.int j, W, S] = some (.ok a) := by
  rcases (by omega : j = 1 ∨ j = 2 ∨ j = 3 ∨ j = 4 ∨ j = 5) with rfl | rfl | rfl | rfl | rfl
  · exact told1 h hr
  · exact told2 (steps_at_er h) hr
  · exact told3 (closure_er h) hr
  · exact told4 (marks_all_er h) hr
  · exact told5 (rounds_er h) hr
structure Spoilt (W : D) : Prop where
  ex : ∃ n lls, W = wb n lls ∧ webOk n lls = false ∧ lls.length ≤ 1000 ∧ ∀ l ∈ lls, l.length ≤ 1000
theorem Spoilt.web {W : D} (h : Spoilt W) : F_look_web [W] = some (.er "BadWeb") := by
  obtain ⟨n, lls, rfl, hw, hl, hll⟩ := h
  have hz := line_eq
  rw [F_look_web_eq (by omega) (fun l hm => by have := hll l hm; omega), hw]
  rfl
theorem Spoilt.set {W : D} (h : Spoilt W) {m : List Int} (hm : m.length ≤ 1000) : F_look_set [W, .tup (I m)] = some (.er "BadWeb") := by
  obtain ⟨n, lls, rfl, hw, hl, hll⟩ := h
  have hz := line_eq
  rw [F_look_set_eq (by omega) (fun l hm => by have := hll l hm; omega) (by omega), hw]
  rfl
theorem bad_line {n : Int} {l : List Int} {a b : List (List Int)} (h : lineOk n l = false) : webOk n (a ++ [l] ++ b) = false := by
  unfold webOk
  have : (a ++ [l] ++ b).all (lineOk n) = false := by
    rw [List.all_append, List.all_append]
    simp [h]
  rw [this]
  simp
theorem chain_snoc_same (l : List Int) : ∀ xs : List (List Int), chainB lexLt (xs ++ [l] ++ [l]) = false
  | [] => by
    have : lexLt l l = false := by
      induction l with
      | nil => rfl
      | cons x l ih => simp [lexLt, ih]
    simp [chainB, this]
  | [x] => by
    have ih := chain_snoc_same l []
    simp only [List.nil_append, List.cons_append] at ih ⊢
    rw [chainB, ih, Bool.and_false]
  | x :: y :: r => by
    have ih := chain_snoc_same l (y :: r)
    simp only [List.cons_append] at ih ⊢
    rw [chainB, ih, Bool.and_false]
theorem lexLt_asymm {p q : Ln} (h : lexLt2 p q) : lexLt (pr q) (pr p) = false := by
  cases e : lexLt (pr q) (pr p) with
  | false => rfl
  | true =>
    have := (lexLt_pr q p).mp e
    unfold lexLt2 at h this
    omega
theorem chain_rev {p q : Ln} {r : List Ln} (h : (p :: q :: r).Pairwise lexLt2) : chainB lexLt (((p :: q :: r).reverse).map pr) = false := by
  have key : ∀ (xs : List (List Int)) (a b : List Int), lexLt a b = false → chainB lexLt (xs ++ [a, b]) = false := by
    intro xs
    induction xs with
    | nil => intro a b e; simp [chainB, e]
    | cons x xs ih =>
      intro a b e
      cases xs with
      | nil => simp [chainB, e]
      | cons y ys =>
        have := ih a b e
        simp only [List.cons_append] at this ⊢
        rw [chainB, this, Bool.and_false]
  have e := key (r.reverse.map pr) (pr q) (pr p) (lexLt_asymm ((List.pairwise_cons.mp h).1 q (by simp)))
  simpa using e
theorem chain_rev' {ls : List Ln} (h1 : 1 < ls.length) (h : ls.Pairwise lexLt2) : chainB lexLt (ls.reverse.map pr) = false := by
  match ls, h1, h with
  | p :: q :: r, _, h => exact chain_rev h
theorem webOk_chain {n : Int} {lls : List (List Int)} (h : chainB lexLt lls = false) : webOk n lls = false := by
  unfold webOk; rw [h, Bool.and_false]
theorem F_law_spoilt_ok {n : Int} {ls : List Ln} (g : GW n ls) (v : Int) (v0 : 0 ≤ v) : ∃ W, F_law_spoilt [web n ls, .int v] = some (.ok W) ∧ Spoilt W := by
  have hz := line_eq
  have hlen := g.len
  have w0 : 0 ≤ v % 5 := Int.emod_nonneg _ (by omega)
  have w1 : v % 5 < 5 := Int.emod_lt_of_pos _ (by omega)
  have k0 : 0 ≤ v / 8 % 3 := Int.emod_nonneg _ (by omega)
  have k1 : v / 8 % 3 < 3 := Int.emod_lt_of_pos _ (by omega)
  have j0 : 0 ≤ v / 64 % 5 := Int.emod_nonneg _ (by omega)
  have j1 : v / 64 % 5 < 5 := Int.emod_lt_of_pos _ (by omega)
  have eL : (L ls).isEmpty = ls.isEmpty := isEmpty_L ls
  have lL : (L ls).length = ls.length := by simp
  obtain ⟨W3, e3, s3⟩ := atI3 (a := D.tup [.int (-1), .lst []]) (b := D.tup [.int 11, .lst []]) (c := D.tup [.int n, .lst [.tup [.int 0, .int n]]]) Spoilt (v / 8 % 3) k0 k1
    ⟨-1, [], rfl, rfl, by simp, by simp⟩ ⟨11, [], rfl, rfl, by simp, by simp⟩ ⟨n, [[0, n]], rfl, by simp [webOk, lineOk, setOk, inB], by simp, by simp⟩
  unfold F_law_spoilt web
  rw [ap_run2]
  by_cases hA : v % 5 < 2 ∧ ls ≠ []
  · obtain ⟨hA1, hA2⟩ := hA
    have hE : ls.isEmpty = false := by cases ls with | nil => exact absurd rfl hA2 | cons _ _ => rfl
    have hp : 0 < (ls.length : Int) := by have := List.length_pos_iff.mpr hA2; omega
    have a0 : 0 ≤ v / 8 % (ls.length : Int) := Int.emod_nonneg _ (by omega)
    have a1 : v / 8 % (ls.length : Int) < (ls.length : Int) := Int.emod_lt_of_pos _ hp
    obtain ⟨j, hj⟩ : ∃ j : Nat, v / 8 % (ls.length : Int) = j := ⟨(v / 8 % (ls.length : Int)).toNat, by omega⟩
    have hj2 : j < ls.length := by omega
    have eat : atI (L ls) (j : Int) = some (lnD ls[j]) := by rw [atI_get (by simpa using hj2)]; simp
    obtain ⟨q0, q1, q2⟩ := g.good ls[j] (List.getElem_mem hj2)
    have c1 : cut (L ls) none (some (j : Int)) = TL ((ls.take j).map pr) := by
      rw [cut_take _ _ (by simp; omega), ← List.map_take]
      exact L_TL _
    have c2 : cut (L ls) (some ((j : Int) + 1)) none = TL ((ls.drop (j + 1)).map pr) := by
      rw [show (j : Int) + 1 = ((j + 1 : Nat) : Int) by omega, cut_drop _ _ (by simp; omega), ← List.map_drop]
      exact L_TL _
    let Bad : D → Prop := fun d => ∃ l : List Int, d = .tup (I l) ∧ lineOk n l = false ∧ l.length ≤ 2
    obtain ⟨bad, eb, l, rfl, lb, ll⟩ := atI5 (a := D.tup [.int ls[j].2, .int ls[j].1]) (b := D.tup [.int ls[j].1, .int n]) (c := D.tup [.int (-1), .int ls[j].2]) (d := D.tup [.int ls[j].1]) (e := D.tup [.int ls[j].1, .int ls[j].1]) Bad (v / 64 % 5) j0 j1
      ⟨[ls[j].2, ls[j].1], rfl, by simp [lineOk, setOk, rise, chainB]; omega, by simp⟩ ⟨[ls[j].1, n], rfl, by simp [lineOk, setOk, rise, chainB, inB], by simp⟩ ⟨[-1, ls[j].2], rfl, by simp [lineOk, setOk, rise, chainB, inB], by simp⟩ ⟨[ls[j].1], rfl, by simp [lineOk], by simp⟩ ⟨[ls[j].1, ls[j].1], rfl, by simp [lineOk, setOk, rise, chainB], by simp⟩
    have d1 : addD (.lst (TL ((ls.take j).map pr))) (.lst [.tup (I l)]) = some (.lst (TL ((ls.take j).map pr ++ [l]))) := by
      rw [addD, if_pos (by simp; omega)]; simp
    have d2 : addD (.lst (TL ((ls.take j).map pr ++ [l]))) (.lst (TL ((ls.drop (j + 1)).map pr))) = some (.lst (TL ((ls.take j).map pr ++ [l] ++ (ls.drop (j + 1)).map pr))) := by
      rw [addD, if_pos (by simp; omega), TL_append]
    refine ⟨wb n ((ls.take j).map pr ++ [l] ++ (ls.drop (j + 1)).map pr), ?_, ⟨n, _, rfl, bad_line lb, by simp; omega, fun x hx => ?_⟩⟩
    · simp! only [asg_tp2, modI, Int.reduceLT, hA1, decide_true, eL, hE, Bool.not_false, fdvI, Bool.and_true, lL, modI _ hp, hj, eat, lnD, fitS, List.length_cons, Nat.zero_add, Nat.reduceAdd, Nat.reduceLeDiff, eb, slD, asI, c1, c2, d1, d2]
      rfl
    · rcases List.mem_append.mp hx with hx | hx
      · rcases List.mem_append.mp hx with hx | hx
        · obtain ⟨p, _, rfl⟩ := List.mem_map.mp hx; simp [pr]
        · rw [List.mem_singleton] at hx; subst hx; omega
      · obtain ⟨p, _, rfl⟩ := List.mem_map.mp hx; simp [pr]
  · have hA' : (andT (tsB (op2 ltF (vr 4) (cst (.int 2)))) (tst (vr 3))) [Sl.sh (.tup [.int n, .lst (L ls)]), .sh (.int v), .sh (.int n), .sh (.lst (L ls)), .sh (.int (v % 5)), .un, .un, .un, .un] = some ([Sl.sh (.tup [.int n, .lst (L ls)]), .sh (.int v), .sh (.int n), .sh (.lst (L ls)), .sh (.int (v % 5)), .un, .un, .un, .un], .ok false) := by
      by_cases h : v % 5 < 2
      · have hE : ls = [] := Classical.byContradiction fun z => hA ⟨h, z⟩
        subst hE
        simp! only [h, decide_true, List.isEmpty_nil, Bool.not_true]
      · simp! only [h, decide_false, Bool.false_eq_true, if_false]
    have st1 : (sA (.tp [2, 3]) (vr 0)) [Sl.sh (.tup [.int n, .lst (L ls)]), .sh (.int v), .un, .un, .un, .un, .un, .un, .un] = some ([Sl.sh (.tup [.int n, .lst (L ls)]), .sh (.int v), .sh (.int n), .sh (.lst (L ls)), .un, .un, .un, .un, .un], .nx) := rfl
    have st2 : (sA (.nm 4) (op2 modD (vr 1) (cst (.int 5)))) [Sl.sh (.tup [.int n, .lst (L ls)]), .sh (.int v), .sh (.int n), .sh (.lst (L ls)), .un, .un, .un, .un, .un] = some ([Sl.sh (.tup [.int n, .lst (L ls)]), .sh (.int v), .sh (.int n), .sh (.lst (L ls)), .sh (.int (v % 5)), .un, .un, .un, .un], .nx) := by
      simp! only [modI, Int.reduceLT]
    simp only [List.replicate_zero, List.replicate_succ, Nat.reduceSub]
    rw [sq_nx st1, sq_nx st2, sq_nx (by rw [sI_f hA']; rfl)]
    by_cases hB : v % 5 = 2 ∧ 1 < ls.length
    · obtain ⟨hB1, hB2⟩ := hB
      have e1 : (1 : Int) < (ls.length : Int) := by omega
      have er : revD (.lst (L ls)) = some (.lst (TL (ls.reverse.map pr))) := by
        rw [revD, ← List.map_reverse]
        exact congrArg (fun z => some (D.lst z)) (L_TL _)
      refine ⟨wb n (ls.reverse.map pr), ?_, ⟨n, _, rfl, webOk_chain (chain_rev' hB2 g.rise), by rw [List.length_map, List.length_reverse]; omega, fun x hx => ?_⟩⟩
      · simp! only [hB1, decide_true, lL, e1, er, fitS, List.length_cons, Nat.zero_add, Nat.reduceAdd, Nat.reduceLeDiff]
        rfl
      · obtain ⟨p, _, rfl⟩ := List.mem_map.mp hx; simp [pr]
    · have hB' : (andT (tsB (op2 eqF (vr 4) (cst (.int 2)))) (tsB (op2 gtF (blt lenF (consA (vr 3) (nilA))) (cst (.int 1))))) [Sl.sh (.tup [.int n, .lst (L ls)]), .sh (.int v), .sh (.int n), .sh (.lst (L ls)), .sh (.int (v % 5)), .un, .un, .un, .un] = some ([Sl.sh (.tup [.int n, .lst (L ls)]), .sh (.int v), .sh (.int n), .sh (.lst (L ls)), .sh (.int (v % 5)), .un, .un, .un, .un], .ok false) := by
        by_cases h : v % 5 = 2
        · have hE : ¬ (1 : Int) < (ls.length : Int) := fun z => hB ⟨h, by omega⟩
          simp! only [h, decide_true, lL, hE, decide_false]
        · simp! only [h, decide_false, Bool.false_eq_true, if_false]
      rw [sq_nx (by rw [sI_f hB']; rfl)]
      by_cases hC : v % 5 = 3 ∧ ls ≠ []
      · obtain ⟨hC1, hC2⟩ := hC
        obtain ⟨a, p, rfl⟩ : ∃ a p, ls = a ++ [p] := ⟨ls.dropLast, ls.getLast hC2, (List.dropLast_concat_getLast hC2).symm⟩
        have hE : (L (a ++ [p])).isEmpty = false := by simp
        have ec : cut (L (a ++ [p])) (some (-1)) none = [lnD p] := by
          rw [show L (a ++ [p]) = L a ++ [lnD p] by simp, cut_last]
        have ad : addD (.lst (L (a ++ [p]))) (.lst [lnD p]) = some (.lst (TL (a.map pr ++ [pr p] ++ [pr p]))) := by
          rw [addD, if_pos (by simp at hlen ⊢; omega), L_TL, show [lnD p] = TL [pr p] from rfl, TL_append]; simp
        refine ⟨wb n (a.map pr ++ [pr p] ++ [pr p]), ?_, ⟨n, _, rfl, webOk_chain (chain_snoc_same _ _), by simp at hlen ⊢; omega, fun x hx => ?_⟩⟩
        · simp! only [hC1, decide_true, hE, Bool.not_false, slD, asI, ec, ad, fitS, List.length_cons, Nat.zero_add, Nat.reduceAdd, Nat.reduceLeDiff]
          rfl
        · simp only [List.mem_append, List.mem_singleton] at hx
          rcases hx with (hx | rfl) | rfl
          · obtain ⟨p, _, rfl⟩ := List.mem_map.mp hx; simp [pr]
          · simp [pr]
          · simp [pr]
      · have hC' : (andT (tsB (op2 eqF (vr 4) (cst (.int 3)))) (tst (vr 3))) [Sl.sh (.tup [.int n, .lst (L ls)]), .sh (.int v), .sh (.int n), .sh (.lst (L ls)), .sh (.int (v % 5)), .un, .un, .un, .un] = some ([Sl.sh (.tup [.int n, .lst (L ls)]), .sh (.int v), .sh (.int n), .sh (.lst (L ls)), .sh (.int (v % 5)), .un, .un, .un, .un], .ok false) := by
          by_cases h : v % 5 = 3
          · have hE : ls = [] := Classical.byContradiction fun z => hC ⟨h, z⟩
            subst hE
            simp! only [h, decide_true, List.isEmpty_nil, Bool.not_true]
          · simp! only [h, decide_false, Bool.false_eq_true, if_false]
        rw [sq_nx (by rw [sI_f hC']; rfl)]
        refine ⟨W3, ?_, s3⟩
        simp! only [fitS, List.length_cons, Nat.zero_add, Nat.reduceAdd, Nat.reduceLeDiff, decide_true, fdvI, modI, Int.reduceLT, Bool.and_true, e3]
end FW
namespace FW
open DS FM
open PySem (Str sizeLine)
theorem rng6 : rng 0 6 = [.int 0, .int 1, .int 2, .int 3, .int 4, .int 5] := rfl
theorem rng16 : rng 1 6 = [.int 1, .int 2, .int 3, .int 4, .int 5] := rfl
theorem rg6 : rg1 [.int 6] = some (rng 0 6) := rg1_ok (by omega) (by omega)
theorem rg16 : rg2 [.int 1, .int 6] = some (rng 1 6) := rg2_ok (by omega) (by omega) (by omega) (by omega)
def due (n : Int) (ls : List Ln) (m : List Int) : List D := [.non, .non, .lst (L (steps ls m)), .tup (I (FM.fin ls 8 m)), .bl (decide (((FM.fin ls 8 m).length : Int) = n)), .lst ((rnds ls 8 m).map stt)]
theorem dep_due (n : Int) (ls : List Ln) (m : List Int) : ∃ k, dep (.lst (due n ls m)) = some k ∧ k ≤ 3 := dep_lst fun d hd => by
  unfold due at hd
  simp only [List.mem_cons, List.not_mem_nil, or_false] at hd
  rcases hd with rfl | rfl | rfl | rfl | rfl | rfl
  · exact ⟨0, by simp [dep], by omega⟩
  · exact ⟨0, by simp [dep], by omega⟩
  · exact dep_L _
  · exact dep_mono (dep_stt _) (by omega)
  · exact ⟨0, by simp [dep], by omega⟩
  · exact dep_stts _
theorem told_due {n : Int} {ls : List Ln} {m : List Int} (g : GW n ls) (r : Rising m) (w : Within n m) : ∀ d ∈ rng 0 6, F_law_told [d, web n ls, .tup (I m)] = some (.ok (match d with | .int k => (due n ls m).getD k.toNat .non | _ => .non)) := by
  have hn := g.n7
  have hk : n < (8 : Nat) + m.length := by omega
  intro d hd
  rw [rng6] at hd
  simp only [List.mem_cons, List.not_mem_nil, or_false] at hd
  rcases hd with rfl | rfl | rfl | rfl | rfl | rfl
  · exact told0 (look_web_ok g) (.ok _)
  · exact told1 (look_set_ok g r w) (.ok _)
  · exact told2 (F_steps_at_ok g r w) (.ok _)
  · exact told3 (F_closure_ok g r w hk (by omega)) (.ok _)
  · exact told4 (F_marks_all_ok g r w hk (by omega)) (.ok _)
  · exact told5 (F_rounds_ok g r w hk (by omega)) (.ok _)
theorem due_map (n : Int) (ls : List Ln) (m : List Int) : (rng 0 6).map (fun d => match d with | .int k => (due n ls m).getD k.toNat .non | _ => .non) = due n ls m := rfl
theorem setOk_n {n : Int} {m : List Int} (h : n ∈ m) : setOk n m = false := by
  unfold setOk
  have : m.all (inB n) = false := by
    rw [List.all_eq_false]
    exact ⟨n, h, by simp [inB]⟩
  rw [this, Bool.and_false]
theorem bad_set {n : Int} {ls : List Ln} {m : List Int} (g : GW n ls) (hm : m.length ≤ 1000) (h : setOk n m = false) : F_look_set [web n ls, .tup (I m)] = some (.er "BadSet") := by
  have hz := line_eq
  have := g.len
  rw [web_wb, F_look_set_eq (by simp; omega) pr_len (by omega), if_pos g.ok, h]
  rfl
def five : List D := List.replicate 5 (.str (PySem.Str.ofString "set"))
def six : List D := List.replicate 6 (.str (PySem.Str.ofString "web"))
theorem law_true (s : List Int) : F_law [.lst (I s)] = some (.ok (.bl true)) := by
  have hz := line_eq
  obtain ⟨n, ls, hweb, g, _⟩ := F_law_web_ok s 0 7 (by omega) (by omega)
  have hn0 := g.n0
  have hn7 := g.n7
  have hlen := g.len
  obtain ⟨m, hset, r, w⟩ := F_law_set_ok s 90 n hn0 hn7
  have hm := len7 hn7 r w
  have hk : n < (8 : Nat) + m.length := by omega
  have hcl := F_law_closure_ok g r w hk (by omega)
  have hst := F_law_steps_ok (c := .tup (I m)) g r (by omega) (.inl rfl)
  have hrd := F_law_rounds_ok g r w hk (by omega)
  have hma := F_marks_all_ok g r w hk (by omega)
  obtain ⟨N, hN⟩ : ∃ N : Nat, n = N := ⟨n.toNat, by omega⟩
  have hfs : seqc ls 8 m = FM.fin ls 8 m := (fin_eq_seqc (n := N) (by rw [← hN]; exact g.good) r (by rw [← hN]; exact w) (by omega) (by omega)).symm
  rw [hfs] at hcl
  obtain ⟨v, hv, v0, v1⟩ := F_law_mix_ok s 91
  obtain ⟨u, hu, u0, u1⟩ := F_law_mix_ok s 92
  obtain ⟨W, hsp, sp⟩ := F_law_spoilt_ok g u u0
  let Bad : D → Prop := fun d => ∃ l : List Int, d = .tup (I l) ∧ setOk n l = false ∧ l.length ≤ 100
  have ec : ∃ c : List Int, cut (I m) (some (-1)) none = I c ∧ c.length ≤ 1 := by
    rcases List.eq_nil_or_concat m with rfl | ⟨a, x, rfl⟩
    · exact ⟨[], cut_last0, by simp⟩
    · exact ⟨[x], by rw [List.concat_eq_append, show I (a ++ [x]) = I a ++ [.int x] by simp, cut_last]; rfl, by simp⟩
  obtain ⟨c, ec, hcl1⟩ := ec
  have a1 : addD (.tup (I m)) (.tup (I c)) = some (.tup (I (m ++ c))) := by rw [addD, if_pos (by simp; omega)]; simp
  have a2 : addD (.tup (I (m ++ c))) (.tup [.int n]) = some (.tup (I (m ++ c ++ [n]))) := by rw [addD, if_pos (by simp; omega)]; simp
  obtain ⟨bad, eb, l, rfl, lb, ll⟩ := atI4 (a := D.tup (I (m ++ c ++ [n]))) (b := D.tup [.int n]) (c := D.tup [.int (-1)]) (d := D.tup [.int 1, .int 0]) Bad (v % 4) (Int.emod_nonneg _ (by omega)) (Int.emod_lt_of_pos _ (by omega))
    ⟨m ++ c ++ [n], rfl, setOk_n (by simp), by simp; omega⟩ ⟨[n], rfl, setOk_n (by simp), by simp⟩ ⟨[-1], rfl, by simp [setOk, inB], by simp⟩ ⟨[1, 0], rfl, by simp [setOk, rise, chainB], by simp⟩
  have c1 : ∀ (t6 t7 : Sl) (ρ : Rho), ρ = [.sh (.lst (I s)), .sh (web n ls), .sh (.tup (I m)), .sh (web n ls), .sh (.tup (I (FM.fin ls 8 m))), .sh (.lst (due n ls m)), t6, t7] → compE (itR1 (consA (cst (.int 6)) (nilA))) (.nm 8) 1 (yes) (cal F_law_told (consA (vr 8) (consA (vr 3) (consA (vr 2) (nilA))))) ρ = some (ρ, .ok (.lst (due n ls m))) := by
    rintro t6 t7 ρ rfl
    rw [compE_map (fun d => match d with | .int k => (due n ls m).getD k.toNat .non | _ => .non) (ds := rng 0 6) ?xx1 ?xx2 ?xx3 ?xx4, due_map]
    case xx3 => rfl
    case xx1 => simp! only [rg6]
    case xx2 => rw [rng6]; simp; omega
    case xx4 =>
      intro d hd
      have := told_due g r w d hd
      simp! only [this]
  have c2 : ∀ (t7 : Sl) (ρ : Rho), ρ = [.sh (.lst (I s)), .sh (web n ls), .sh (.tup (I m)), .sh (web n ls), .sh (.tup (I (FM.fin ls 8 m))), .sh (.lst (due n ls m)), .sh (.tup (I l)), t7] → compE (itR2 (consA (cst (.int 1)) (consA (cst (.int 6)) (nilA)))) (.nm 8) 1 (yes) (cal F_law_told (consA (vr 8) (consA (vr 1) (consA (vr 6) (nilA))))) ρ = some (ρ, .ok (.lst five)) := by
    rintro t7 ρ rfl
    rw [compE_map (fun _ => .str (PySem.Str.ofString "set")) (ds := rng 1 6) ?yy1 ?yy2 ?yy3 ?yy4]
    case yy3 => rfl
    case yy1 => simp! only [rg16]
    case yy2 => rw [rng16]; simp; omega
    case yy4 =>
      intro d hd
      rw [rng16] at hd
      have hj : ∃ j : Int, d = .int j ∧ 1 ≤ j ∧ j < 6 := by
        simp only [List.mem_cons, List.not_mem_nil, or_false] at hd
        rcases hd with rfl | rfl | rfl | rfl | rfl <;> exact ⟨_, rfl, by omega, by omega⟩
      obtain ⟨j, rfl, j1, j6⟩ := hj
      have := told_er (bad_set g (by omega) lb) .set j j1 j6
      simp! only [this]
    rfl
  have c3 : ∀ ρ : Rho, ρ = [.sh (.lst (I s)), .sh (web n ls), .sh (.tup (I m)), .sh (web n ls), .sh (.tup (I (FM.fin ls 8 m))), .sh (.lst (due n ls m)), .sh (.tup (I l)), .sh W] → compE (itR1 (consA (cst (.int 6)) (nilA))) (.nm 8) 1 (yes) (cal F_law_told (consA (vr 8) (consA (vr 7) (consA (vr 6) (nilA))))) ρ = some (ρ, .ok (.lst six)) := by
    rintro ρ rfl
    rw [compE_map (fun _ => .str (PySem.Str.ofString "web")) (ds := rng 0 6) ?zz1 ?zz2 ?zz3 ?zz4]
    case zz3 => rfl
    case zz1 => simp! only [rg6]
    case zz2 => rw [rng6]; simp; omega
    case zz4 =>
      intro d hd
      rw [rng6] at hd
      have hj : d = .int 0 ∨ ∃ j : Int, d = .int j ∧ 1 ≤ j ∧ j < 6 := by
        simp only [List.mem_cons, List.not_mem_nil, or_false] at hd
        rcases hd with rfl | rfl | rfl | rfl | rfl | rfl
        · exact .inl rfl
        all_goals exact .inr ⟨_, rfl, by omega, by omega⟩
      have : F_law_told [d, W, .tup (I l)] = some (.ok (.str (PySem.Str.ofString "web"))) := by
        rcases hj with rfl | ⟨j, rfl, j1, j6⟩
        · exact told0 sp.web .web
        · exact told_er (sp.set (by omega)) .web j j1 j6
      simp! only [this]
    rfl
  have m5 : mulD (.lst [.str (PySem.Str.ofString "set")]) (.int 5) = some (.lst five) := by
    rw [mulD, if_pos (by rw [hz]; rfl)]; rfl
  have m6 : mulD (.lst [.str (PySem.Str.ofString "web")]) (.int 6) = some (.lst six) := by
    rw [mulD, if_pos (by rw [hz]; rfl)]; rfl
  have n1 := neF_same (dep_due n ls m) (by omega)
  have n2 := neF_same (dep_web n ls) (by omega)
  have n3 : neF (.lst five) (.lst five) = _ := neF_same (dep_strs (PySem.Str.ofString "set") 5) (by omega)
  have n4 : eqF (.lst six) (.lst six) = _ := eqF_same (dep_strs (PySem.Str.ofString "web") 6) (by omega)
  have i1 : isiB (.bl (decide (((FM.fin ls 8 m).length : Int) = n))) = some (.bl true) := rfl
  have w1 : ixD (web n ls) (.int 0) = some (.int n) := rfl
  have w2 : ixD (web n ls) (.int 1) = some (.lst (L ls)) := rfl
  have w3 : D.tup [.int n, .lst (L ls)] = web n ls := rfl
  have d1 : D.lst [.non, .non, .lst (L (steps ls m)), .tup (I (FM.fin ls 8 m)), .bl (decide (((FM.fin ls 8 m).length : Int) = n)), .lst ((rnds ls 8 m).map stt)] = .lst (due n ls m) := rfl
  unfold F_law
  rw [ap_run1]
  simp! only [hweb, w1, w2, hset, fitS, List.length_cons, Nat.zero_add, Nat.reduceAdd, Nat.reduceLeDiff, decide_true, w3, hcl, hst, List.length_map, hrd, d1]
  simp! only [c1 .un .un _ rfl, n1, n2, Bool.false_eq_true, if_false, hma, i1, Bool.not_true]
  simp! only [slD, asI, ec, a1, w1, fitS, List.length_cons, Nat.zero_add, Nat.reduceAdd, Nat.reduceLeDiff, decide_true, a2, hv, modI, Int.reduceLT, eb]
  simp! only [c2 .un _ rfl, fitS, List.length_cons, Nat.zero_add, Nat.reduceLeDiff, decide_true, m5, n3, hu, hsp]
  simp! only [c3 _ rfl, fitS, List.length_cons, Nat.zero_add, Nat.reduceLeDiff, decide_true, m6, n4]
end FW
set_option maxHeartbeats 8000000
namespace FW
open PySem PySem.Spec PyProof.Rows L2
def top (i : Nat) : Stmt := PySem.Challenge.pw_forcemark_k01_whole_closure.main.body.getD i (.Pass ⟨0, 0, 0, 0⟩)
abbrev s_rises : Stmt := top 9
abbrev s_is_set : Stmt := top 10
abbrev s_is_line : Stmt := top 11
abbrev s_look_web : Stmt := top 12
abbrev s_look_set : Stmt := top 13
abbrev s_near_lists : Stmt := top 14
abbrev s_with_more : Stmt := top 15
abbrev s_steps_from : Stmt := top 17
abbrev s_marked_behind : Stmt := top 18
abbrev s_rounds_from : Stmt := top 19
abbrev s_closure_from : Stmt := top 20
abbrev s_marks_all_from : Stmt := top 21
abbrev s_steps_at : Stmt := top 22
abbrev s_rounds : Stmt := top 23
abbrev s_closure : Stmt := top 24
abbrev s_marks_all : Stmt := top 25
abbrev s_law_cell : Stmt := top 27
abbrev s_law_mix : Stmt := top 28
abbrev s_law_web : Stmt := top 29
abbrev s_law_set : Stmt := top 30
abbrev s_law_near : Stmt := top 31
abbrev s_law_steps : Stmt := top 32
abbrev s_law_closure : Stmt := top 33
abbrev s_law_refusal : Stmt := top 34
abbrev s_law_told : Stmt := top 35
abbrev s_law_spoilt : Stmt := top 36
abbrev s_law_rounds : Stmt := top 37
abbrev s_law : Stmt := top 38
structure Txt (K : PySem.W.Frag) (mg : Str → Option Value) (ad : String → Addr) : Prop where
  n_ValueError : mg "ValueError" = none
  n_all : mg "all" = none
  n_bool : mg "bool" = none
  n_isinstance : mg "isinstance" = none
  n_len : mg "len" = none
  n_list : mg "list" = none
  n_range : mg "range" = none
  n_set : mg "set" = none
  n_sorted : mg "sorted" = none
  n_tuple : mg "tuple" = none
  g_MOST_SPOTS : ∃ t, mg "MOST_SPOTS" = some (.int 10 t)
  c_MarkError : ExcCls K mg "MarkError" (ad "MarkError")
  c_BadWeb : ExcCls K mg "BadWeb" (ad "BadWeb")
  c_BadSet : ExcCls K mg "BadSet" (ad "BadSet")
  c_BadSteps : ExcCls K mg "BadSteps" (ad "BadSteps")
  c_BadTree : ExcCls K mg "BadTree" (ad "BadTree")
  c_BadText : ExcCls K mg "BadText" (ad "BadText")
  isi : ErrCls K ad clss
  k_BadSet : ∀ n, clss.contains n = true → PySem.W.kitOne K (.ref (ad n)) (.ref (ad "BadSet")) = some (sup n "BadSet")
  k_BadSteps : ∀ n, clss.contains n = true → PySem.W.kitOne K (.ref (ad n)) (.ref (ad "BadSteps")) = some (sup n "BadSteps")
  k_BadText : ∀ n, clss.contains n = true → PySem.W.kitOne K (.ref (ad n)) (.ref (ad "BadText")) = some (sup n "BadText")
  k_BadTree : ∀ n, clss.contains n = true → PySem.W.kitOne K (.ref (ad n)) (.ref (ad "BadTree")) = some (sup n "BadTree")
  k_BadWeb : ∀ n, clss.contains n = true → PySem.W.kitOne K (.ref (ad n)) (.ref (ad "BadWeb")) = some (sup n "BadWeb")
  k_ValueError : ∀ n, clss.contains n = true → PySem.W.kitOne K (.ref (ad n)) (.type "ValueError") = some (sup n "ValueError")
  k_bool : PySem.W.kitOne K (.type "bool") (.type "bool") = some true
  x_MarkError : ∀ n, (clss.contains n && sup n "MarkError") = true → PySem.W.exmOne K (.ref (ad n)) (.ref (ad "MarkError")) = some true
  d_rises : DefOk K mg "rises" s_rises ["things"]
  d_is_set : DefOk K mg "is_set" s_is_set ["count", "some"]
  d_is_line : DefOk K mg "is_line" s_is_line ["count", "line"]
  d_look_web : DefOk K mg "look_web" s_look_web ["web"]
  d_look_set : DefOk K mg "look_set" s_look_set ["web", "some"]
  d_near_lists : DefOk K mg "near_lists" s_near_lists ["web"]
  d_with_more : DefOk K mg "with_more" s_with_more ["some", "more"]
  d_steps_from : DefOk K mg "steps_from" s_steps_from ["near", "marked"]
  d_marked_behind : DefOk K mg "marked_behind" s_marked_behind ["marked", "steps"]
  d_rounds_from : DefOk K mg "rounds_from" s_rounds_from ["near", "some"]
  d_closure_from : DefOk K mg "closure_from" s_closure_from ["near", "some"]
  d_marks_all_from : DefOk K mg "marks_all_from" s_marks_all_from ["near", "some"]
  d_steps_at : DefOk K mg "steps_at" s_steps_at ["web", "some"]
  d_rounds : DefOk K mg "rounds" s_rounds ["web", "some"]
  d_closure : DefOk K mg "closure" s_closure ["web", "some"]
  d_marks_all : DefOk K mg "marks_all" s_marks_all ["web", "some"]
  d_law_cell : DefOk K mg "_law_cell" s_law_cell ["_law_script", "_law_k"]
  d_law_mix : DefOk K mg "_law_mix" s_law_mix ["_law_script", "_law_k"]
  d_law_web : DefOk K mg "_law_web" s_law_web ["_law_script", "_law_k", "_law_most"]
  d_law_set : DefOk K mg "_law_set" s_law_set ["_law_script", "_law_k", "_law_many"]
  d_law_near : DefOk K mg "_law_near" s_law_near ["_law_web_here", "_law_spot"]
  d_law_steps : DefOk K mg "_law_steps" s_law_steps ["_law_web_here", "_law_some"]
  d_law_closure : DefOk K mg "_law_closure" s_law_closure ["_law_web_here", "_law_some"]
  d_law_refusal : DefOk K mg "_law_refusal" s_law_refusal ["_law_kept"]
  d_law_told : DefOk K mg "_law_told" s_law_told ["_law_way", "_law_web_here", "_law_some"]
  d_law_spoilt : DefOk K mg "_law_spoilt" s_law_spoilt ["_law_web_here", "_law_number"]
  d_law_rounds : DefOk K mg "_law_rounds" s_law_rounds ["_law_web_here", "_law_some"]
  d_law : DefOk K mg "law" s_law ["_law_script"]
section
variable {P : Program} {w : World} {K : PySem.W.Frag} {mg : Str → Option Value} {base : Heap} {ad : String → Addr}
theorem sc_rises : FnScope ["things"] ["things"] (defScope s_rises) := ⟨rfl, rfl, rfl, by decide +kernel, rfl, by decide +kernel, by decide +kernel⟩
theorem nd_rises_0 : (["things", "k"] : List Str).Nodup := by decide +kernel
theorem fn_rises {f : Addr} {fd : FuncData} (F : Fun K "rises" "rises" s_rises f fd) (T : Txt K mg ad) : FnOk P w K mg base (CXm P w) 1 f fd ["things"] (spD ⟨K, w, ad⟩ 1 F_rises) := fn_D (k := 0) F sc_rises (by decide) (by
  rintro ⟨_, H0, G0⟩ cdv A outer s H E rfl hr
  have hu := hr.units
  have hu0 := hr.units0
  have nd := sc_rises.nd
  exact d_sone (d_sR (d_blt (c_allF rfl) T.n_all b_all (d_cons (d_comp (ns := ["k"]) (d_itR1 T.n_range (d_cons (d_op o_subD (d_blt c_lenF T.n_len b_len (d_cons (d_var 0) (d_nil))) (d_int)) (d_nil))) (fun _ _ _ _ => (d_nm 1 nd_rises_0)) (fun _ _ _ _ => d_if0) (fun _ _ _ _ => d_cmp (o_ltF hu0) (d_ix i_ixD (d_var 0) (d_var 1) (fun _ _ => rfl)) (d_ix i_ixD (d_var 0) (d_op o_addD (d_var 1) (d_int)) (fun _ _ => rfl)) (nomark _))) (d_nil)))))
theorem C_rises (T : Txt K mg ad) : CallOk P w K mg base ⟨K, w, ad⟩ "rises" 1 1 F_rises := .of T.d_rises (fun f fd F => fn_rises F T) fun _ _ h => run_len h
theorem sc_is_set : FnScope ["count", "some"] ["count", "some"] (defScope s_is_set) := ⟨rfl, rfl, rfl, by decide +kernel, rfl, by decide +kernel, by decide +kernel⟩
theorem nd_is_set_0 : (["count", "some", "spot"] : List Str).Nodup := by decide +kernel
theorem fn_is_set {f : Addr} {fd : FuncData} (F : Fun K "is_set" "is_set" s_is_set f fd) (T : Txt K mg ad) : FnOk P w K mg base (CXm P w) 2 f fd ["count", "some"] (spD ⟨K, w, ad⟩ 2 F_is_set) := fn_D (k := 1) F sc_is_set (by decide) (by
  rintro ⟨_, H0, G0⟩ cdv A outer s H E rfl hr
  have hu := hr.units
  have hu0 := hr.units0
  have nd := sc_is_set.nd
  exact d_sone (d_sR (d_andV (d_cal (hr.mono (by decide)) pass_def (C_rises T) (d_cons (d_var 1) (d_nil))) (d_one (d_blt (c_allF rfl) T.n_all b_all (d_cons (d_comp (ns := ["spot"]) (d_itE (d_var 1)) (fun _ _ _ _ => (d_nm 2 nd_is_set_0)) (fun _ _ _ _ => d_if0) (fun _ _ _ _ => d_chn (o_leF hu0) (o_ltF hu0) (d_int) (d_var 2) (d_var 0))) (d_nil)))))))
theorem C_is_set (T : Txt K mg ad) : CallOk P w K mg base ⟨K, w, ad⟩ "is_set" 2 2 F_is_set := .of T.d_is_set (fun f fd F => fn_is_set F T) fun _ _ h => run_len h
theorem sc_is_line : FnScope ["count", "line"] ["count", "line"] (defScope s_is_line) := ⟨rfl, rfl, rfl, by decide +kernel, rfl, by decide +kernel, by decide +kernel⟩
theorem fn_is_line {f : Addr} {fd : FuncData} (F : Fun K "is_line" "is_line" s_is_line f fd) (T : Txt K mg ad) : FnOk P w K mg base (CXm P w) 3 f fd ["count", "line"] (spD ⟨K, w, ad⟩ 2 F_is_line) := fn_D (k := 2) F sc_is_line (by decide) (by
  rintro ⟨_, H0, G0⟩ cdv A outer s H E rfl hr
  have hu := hr.units
  have hu0 := hr.units0
  have nd := sc_is_line.nd
  exact d_sone (d_sR (d_andV (d_cmp (o_eqF hu) (d_blt c_lenF T.n_len b_len (d_cons (d_var 1) (d_nil))) (d_int) (nomark _)) (d_one (d_cal (hr.mono (by decide)) pass_def (C_is_set T) (d_cons (d_var 0) (d_cons (d_var 1) (d_nil))))))))
theorem C_is_line (T : Txt K mg ad) : CallOk P w K mg base ⟨K, w, ad⟩ "is_line" 3 2 F_is_line := .of T.d_is_line (fun f fd F => fn_is_line F T) fun _ _ h => run_len h
theorem sc_look_web : FnScope ["web", "count", "lines"] ["web"] (defScope s_look_web) := ⟨rfl, rfl, rfl, by decide +kernel, rfl, by decide +kernel, by decide +kernel⟩
theorem nd_look_web_0 : (["web", "count", "lines", "line"] : List Str).Nodup := by decide +kernel
theorem fn_look_web {f : Addr} {fd : FuncData} (F : Fun K "look_web" "look_web" s_look_web f fd) (T : Txt K mg ad) : FnOk P w K mg base (CXm P w) 4 f fd ["web"] (spD ⟨K, w, ad⟩ 1 F_look_web) := fn_D (k := 3) F sc_look_web (by decide) (by
  rintro ⟨_, H0, G0⟩ cdv A outer s H E rfl hr
  have hu := hr.units
  have hu0 := hr.units0
  have nd := sc_look_web.nd
  exact d_scons (d_sI (d_tcmp (o_neF hu) (d_blt c_lenF T.n_len b_len (d_cons (d_var 0) (d_nil))) (d_int) (nomark _)) (d_sone (d_sT raises_def (fun _ => rfl) T.c_BadWeb rfl)) (d_snil)) (d_scons (d_sA 1 nd (d_ix i_ixD (d_var 0) (d_int) (fun _ _ => rfl))) (d_scons (d_sA 2 nd (d_ix i_ixD (d_var 0) (d_int) (fun _ _ => rfl))) (d_scons (d_sI (d_notT (d_tchn (o_leF hu0) (o_leF hu0) (d_int) (d_var 1) (d_globE T.g_MOST_SPOTS))) (d_sone (d_sT raises_def (fun _ => rfl) T.c_BadWeb rfl)) (d_snil)) (d_scons (d_sI (d_notT (d_tst (d_blt (c_allF rfl) T.n_all b_all (d_cons (d_comp (ns := ["line"]) (d_itE (d_var 2)) (fun _ _ _ _ => (d_nm 3 nd_look_web_0)) (fun _ _ _ _ => d_if0) (fun _ _ _ _ => d_cal (hr.mono (by decide)) pass_noX (C_is_line T) (d_cons (d_var 1) (d_cons (d_var 3) (d_nil))))) (d_nil))) (fun _ => rfl))) (d_sone (d_sT raises_def (fun _ => rfl) T.c_BadWeb rfl)) (d_snil)) (d_sone (d_sI (d_notT (d_tst (d_cal (hr.mono (by decide)) pass_def (C_rises T) (d_cons (d_var 2) (d_nil))) (fun _ => rfl))) (d_sone (d_sT raises_def (fun _ => rfl) T.c_BadWeb rfl)) (d_snil))))))))
theorem C_look_web (T : Txt K mg ad) : CallOk P w K mg base ⟨K, w, ad⟩ "look_web" 4 1 F_look_web := .of T.d_look_web (fun f fd F => fn_look_web F T) fun _ _ h => run_len h
theorem sc_look_set : FnScope ["web", "some"] ["web", "some"] (defScope s_look_set) := ⟨rfl, rfl, rfl, by decide +kernel, rfl, by decide +kernel, by decide +kernel⟩
theorem fn_look_set {f : Addr} {fd : FuncData} (F : Fun K "look_set" "look_set" s_look_set f fd) (T : Txt K mg ad) : FnOk P w K mg base (CXm P w) 5 f fd ["web", "some"] (spD ⟨K, w, ad⟩ 2 F_look_set) := fn_D (k := 4) F sc_look_set (by decide) (by
  rintro ⟨_, H0, G0⟩ cdv A outer s H E rfl hr
  have hu := hr.units
  have hu0 := hr.units0
  have nd := sc_look_set.nd
  exact d_scons (d_sE (d_cal (hr.mono (by decide)) pass_def (C_look_web T) (d_cons (d_var 0) (d_nil)))) (d_sone (d_sI (d_notT (d_tst (d_cal (hr.mono (by decide)) pass_def (C_is_set T) (d_cons (d_ix i_ixD (d_var 0) (d_int) (fun _ _ => rfl)) (d_cons (d_var 1) (d_nil)))) (fun _ => rfl))) (d_sone (d_sT raises_def (fun _ => rfl) T.c_BadSet rfl)) (d_snil))))
theorem C_look_set (T : Txt K mg ad) : CallOk P w K mg base ⟨K, w, ad⟩ "look_set" 5 2 F_look_set := .of T.d_look_set (fun f fd F => fn_look_set F T) fun _ _ h => run_len h
theorem fn_near_lists {f : Addr} {fd : FuncData} (F : Fun K "near_lists" "near_lists" s_near_lists f fd) (T : Txt K mg ad) : FnOk P w K mg base (CXm P w) 1 f fd ["web"] (spD ⟨K, w, ad⟩ 1 F_near_lists) := HC.fn_near_lists F T.n_range
theorem C_near_lists (T : Txt K mg ad) : CallOk P w K mg base ⟨K, w, ad⟩ "near_lists" 1 1 F_near_lists := .of T.d_near_lists (fun f fd F => fn_near_lists F T) fun _ _ h => HC.len_near_lists h
theorem sc_with_more : FnScope ["some", "more"] ["some", "more"] (defScope s_with_more) := ⟨rfl, rfl, rfl, by decide +kernel, rfl, by decide +kernel, by decide +kernel⟩
theorem fn_with_more {f : Addr} {fd : FuncData} (F : Fun K "with_more" "with_more" s_with_more f fd) (T : Txt K mg ad) : FnOk P w K mg base (CXm P w) 1 f fd ["some", "more"] (spD ⟨K, w, ad⟩ 2 F_with_more) := fn_D (k := 0) F sc_with_more (by decide) (by
  rintro ⟨_, H0, G0⟩ cdv A outer s H E rfl hr
  have hu := hr.units
  have hu0 := hr.units0
  have nd := sc_with_more.nd
  exact d_sone (d_sR (d_ty c_tupF T.n_tuple b_tuple (d_cons (d_blt (c_srtF rfl) T.n_sorted b_sorted (d_cons (d_op o_uniD (d_ty (c_setF rfl) T.n_set b_set (d_cons (d_var 0) (d_nil))) (d_ty (c_setF rfl) T.n_set b_set (d_cons (d_var 1) (d_nil)))) (d_nil))) (d_nil)))))
theorem C_with_more (T : Txt K mg ad) : CallOk P w K mg base ⟨K, w, ad⟩ "with_more" 1 2 F_with_more := .of T.d_with_more (fun f fd F => fn_with_more F T) fun _ _ h => run_len h
theorem sc_steps_from : FnScope ["near", "marked", "steps", "spot", "bare"] ["near", "marked"] (defScope s_steps_from) := ⟨rfl, rfl, rfl, by decide +kernel, rfl, by decide +kernel, by decide +kernel⟩
theorem nd_steps_from_0 : (["near", "marked", "steps", "spot", "bare", "other"] : List Str).Nodup := by decide +kernel
theorem fn_steps_from {f : Addr} {fd : FuncData} (F : Fun K "steps_from" "steps_from" s_steps_from f fd) (T : Txt K mg ad) : FnOk P w K mg base (CXm P w) 1 f fd ["near", "marked"] (spD ⟨K, w, ad⟩ 2 F_steps_from) := fn_D (k := 0) F sc_steps_from (by decide) (by
  rintro ⟨_, H0, G0⟩ cdv A outer s H E rfl hr
  have hu := hr.units
  have hu0 := hr.units0
  have nd := sc_steps_from.nd
  exact d_scons (d_sO 2 nd (d_nil)) (d_scons (d_sF own_def (d_itE (d_var 1)) (d_nm 3 nd) (d_scons (d_sComp 4 nd (ns := ["other"]) (d_itE (d_ix i_ixD (d_var 0) (d_var 3) (fun _ _ => rfl))) (fun _ _ _ _ => (d_nm 5 nd_steps_from_0)) (fun _ _ _ _ => d_if1 (d_tcmp (o_niF hu) (d_var 5) (d_var 1) rfl)) (fun _ _ _ _ => d_var 5)) (d_sone (d_sI (d_tcmp (o_eqF hu) (d_blt c_lenF T.n_len b_len (d_cons (d_var 4) (d_nil))) (d_int) (nomark _)) (d_sone (d_sP 2 (d_tup (d_cons (d_var 3) (d_cons (d_ix i_ixD (d_var 4) (d_int) (fun _ _ => rfl)) (d_nil)))))) (d_snil))))) (d_sone (d_sR (d_var 2)))))
theorem C_steps_from (T : Txt K mg ad) : CallOk P w K mg base ⟨K, w, ad⟩ "steps_from" 1 2 F_steps_from := .of T.d_steps_from (fun f fd F => fn_steps_from F T) fun _ _ h => run_len h
theorem sc_marked_behind : FnScope ["marked", "steps"] ["marked", "steps"] (defScope s_marked_behind) := ⟨rfl, rfl, rfl, by decide +kernel, rfl, by decide +kernel, by decide +kernel⟩
theorem nd_marked_behind_0 : (["marked", "steps", "step"] : List Str).Nodup := by decide +kernel
theorem fn_marked_behind {f : Addr} {fd : FuncData} (F : Fun K "marked_behind" "marked_behind" s_marked_behind f fd) (T : Txt K mg ad) : FnOk P w K mg base (CXm P w) 2 f fd ["marked", "steps"] (spD ⟨K, w, ad⟩ 2 F_marked_behind) := fn_D (k := 1) F sc_marked_behind (by decide) (by
  rintro ⟨_, H0, G0⟩ cdv A outer s H E rfl hr
  have hu := hr.units
  have hu0 := hr.units0
  have nd := sc_marked_behind.nd
  exact d_sone (d_sR (d_cal (hr.mono (by decide)) pass_def (C_with_more T) (d_cons (d_var 0) (d_cons (d_comp (ns := ["step"]) (d_itE (d_var 1)) (fun _ _ _ _ => (d_nm 2 nd_marked_behind_0)) (fun _ _ _ _ => d_if0) (fun _ _ _ _ => d_ix i_ixD (d_var 2) (d_int) (fun _ _ => rfl))) (d_nil))))))
theorem C_marked_behind (T : Txt K mg ad) : CallOk P w K mg base ⟨K, w, ad⟩ "marked_behind" 2 2 F_marked_behind := .of T.d_marked_behind (fun f fd F => fn_marked_behind F T) fun _ _ h => run_len h
theorem sc_rounds_from : FnScope ["near", "some", "found", "steps"] ["near", "some"] (defScope s_rounds_from) := ⟨rfl, rfl, rfl, by decide +kernel, rfl, by decide +kernel, by decide +kernel⟩
theorem fn_rounds_from {f : Addr} {fd : FuncData} (F : Fun K "rounds_from" "rounds_from" s_rounds_from f fd) (T : Txt K mg ad) : FnOk P w K mg base (CXm P w) 3 f fd ["near", "some"] (spD ⟨K, w, ad⟩ 2 F_rounds_from) := fn_D (k := 2) F sc_rounds_from (by decide) (by
  rintro ⟨_, H0, G0⟩ cdv A outer s H E rfl hr
  have hu := hr.units
  have hu0 := hr.units0
  have nd := sc_rounds_from.nd
  exact d_scons (d_sO 2 nd (d_cons (d_var 1) (d_nil))) (d_scons (d_sA 3 nd (d_cal (hr.mono (by decide)) pass_def (C_steps_from T) (d_cons (d_var 0) (d_cons (d_var 1) (d_nil))))) (d_scons (d_sW own_def (d_tst (d_var 3) (fun _ => rfl)) (d_scons (d_sP 2 (d_cal (hr.mono (by decide)) pass_def (C_marked_behind T) (d_cons (d_ixV 2 (d_neg (d_int)) (fun _ _ => rfl)) (d_cons (d_var 3) (d_nil))))) (d_sone (d_sA 3 nd (d_cal (hr.mono (by decide)) pass_def (C_steps_from T) (d_cons (d_var 0) (d_cons (d_ixV 2 (d_neg (d_int)) (fun _ _ => rfl)) (d_nil)))))))) (d_sone (d_sR (d_var 2))))))
theorem C_rounds_from (T : Txt K mg ad) : CallOk P w K mg base ⟨K, w, ad⟩ "rounds_from" 3 2 F_rounds_from := .of T.d_rounds_from (fun f fd F => fn_rounds_from F T) fun _ _ h => run_len h
theorem sc_closure_from : FnScope ["near", "some"] ["near", "some"] (defScope s_closure_from) := ⟨rfl, rfl, rfl, by decide +kernel, rfl, by decide +kernel, by decide +kernel⟩
theorem fn_closure_from {f : Addr} {fd : FuncData} (F : Fun K "closure_from" "closure_from" s_closure_from f fd) (T : Txt K mg ad) : FnOk P w K mg base (CXm P w) 4 f fd ["near", "some"] (spD ⟨K, w, ad⟩ 2 F_closure_from) := fn_D (k := 3) F sc_closure_from (by decide) (by
  rintro ⟨_, H0, G0⟩ cdv A outer s H E rfl hr
  have hu := hr.units
  have hu0 := hr.units0
  have nd := sc_closure_from.nd
  exact d_sone (d_sR (d_ix i_ixD (d_cal (hr.mono (by decide)) pass_def (C_rounds_from T) (d_cons (d_var 0) (d_cons (d_var 1) (d_nil)))) (d_neg (d_int)) (fun _ _ => rfl))))
theorem C_closure_from (T : Txt K mg ad) : CallOk P w K mg base ⟨K, w, ad⟩ "closure_from" 4 2 F_closure_from := .of T.d_closure_from (fun f fd F => fn_closure_from F T) fun _ _ h => run_len h
theorem sc_marks_all_from : FnScope ["near", "some"] ["near", "some"] (defScope s_marks_all_from) := ⟨rfl, rfl, rfl, by decide +kernel, rfl, by decide +kernel, by decide +kernel⟩
theorem fn_marks_all_from {f : Addr} {fd : FuncData} (F : Fun K "marks_all_from" "marks_all_from" s_marks_all_from f fd) (T : Txt K mg ad) : FnOk P w K mg base (CXm P w) 5 f fd ["near", "some"] (spD ⟨K, w, ad⟩ 2 F_marks_all_from) := fn_D (k := 4) F sc_marks_all_from (by decide) (by
  rintro ⟨_, H0, G0⟩ cdv A outer s H E rfl hr
  have hu := hr.units
  have hu0 := hr.units0
  have nd := sc_marks_all_from.nd
  exact d_sone (d_sR (d_cmp (o_eqF hu) (d_blt c_lenF T.n_len b_len (d_cons (d_cal (hr.mono (by decide)) pass_def (C_closure_from T) (d_cons (d_var 0) (d_cons (d_var 1) (d_nil)))) (d_nil))) (d_blt c_lenF T.n_len b_len (d_cons (d_var 0) (d_nil))) (nomark _))))
theorem C_marks_all_from (T : Txt K mg ad) : CallOk P w K mg base ⟨K, w, ad⟩ "marks_all_from" 5 2 F_marks_all_from := .of T.d_marks_all_from (fun f fd F => fn_marks_all_from F T) fun _ _ h => run_len h
theorem sc_steps_at : FnScope ["web", "some"] ["web", "some"] (defScope s_steps_at) := ⟨rfl, rfl, rfl, by decide +kernel, rfl, by decide +kernel, by decide +kernel⟩
theorem fn_steps_at {f : Addr} {fd : FuncData} (F : Fun K "steps_at" "steps_at" s_steps_at f fd) (T : Txt K mg ad) : FnOk P w K mg base (CXm P w) 6 f fd ["web", "some"] (spD ⟨K, w, ad⟩ 2 F_steps_at) := fn_D (k := 5) F sc_steps_at (by decide) (by
  rintro ⟨_, H0, G0⟩ cdv A outer s H E rfl hr
  have hu := hr.units
  have hu0 := hr.units0
  have nd := sc_steps_at.nd
  exact d_scons (d_sE (d_cal (hr.mono (by decide)) pass_def (C_look_set T) (d_cons (d_var 0) (d_cons (d_var 1) (d_nil))))) (d_sone (d_sR (d_cal (hr.mono (by decide)) pass_def (C_steps_from T) (d_cons (d_cal (hr.mono (by decide)) pass_def (C_near_lists T) (d_cons (d_var 0) (d_nil))) (d_cons (d_var 1) (d_nil)))))))
theorem C_steps_at (T : Txt K mg ad) : CallOk P w K mg base ⟨K, w, ad⟩ "steps_at" 6 2 F_steps_at := .of T.d_steps_at (fun f fd F => fn_steps_at F T) fun _ _ h => run_len h
theorem sc_rounds : FnScope ["web", "some"] ["web", "some"] (defScope s_rounds) := ⟨rfl, rfl, rfl, by decide +kernel, rfl, by decide +kernel, by decide +kernel⟩
theorem fn_rounds {f : Addr} {fd : FuncData} (F : Fun K "rounds" "rounds" s_rounds f fd) (T : Txt K mg ad) : FnOk P w K mg base (CXm P w) 6 f fd ["web", "some"] (spD ⟨K, w, ad⟩ 2 F_rounds) := fn_D (k := 5) F sc_rounds (by decide) (by
  rintro ⟨_, H0, G0⟩ cdv A outer s H E rfl hr
  have hu := hr.units
  have hu0 := hr.units0
  have nd := sc_rounds.nd
  exact d_scons (d_sE (d_cal (hr.mono (by decide)) pass_def (C_look_set T) (d_cons (d_var 0) (d_cons (d_var 1) (d_nil))))) (d_sone (d_sR (d_cal (hr.mono (by decide)) pass_def (C_rounds_from T) (d_cons (d_cal (hr.mono (by decide)) pass_def (C_near_lists T) (d_cons (d_var 0) (d_nil))) (d_cons (d_var 1) (d_nil)))))))
theorem C_rounds (T : Txt K mg ad) : CallOk P w K mg base ⟨K, w, ad⟩ "rounds" 6 2 F_rounds := .of T.d_rounds (fun f fd F => fn_rounds F T) fun _ _ h => run_len h
theorem sc_closure : FnScope ["web", "some"] ["web", "some"] (defScope s_closure) := ⟨rfl, rfl, rfl, by decide +kernel, rfl, by decide +kernel, by decide +kernel⟩
theorem fn_closure {f : Addr} {fd : FuncData} (F : Fun K "closure" "closure" s_closure f fd) (T : Txt K mg ad) : FnOk P w K mg base (CXm P w) 6 f fd ["web", "some"] (spD ⟨K, w, ad⟩ 2 F_closure) := fn_D (k := 5) F sc_closure (by decide) (by
  rintro ⟨_, H0, G0⟩ cdv A outer s H E rfl hr
  have hu := hr.units
  have hu0 := hr.units0
  have nd := sc_closure.nd
  exact d_scons (d_sE (d_cal (hr.mono (by decide)) pass_def (C_look_set T) (d_cons (d_var 0) (d_cons (d_var 1) (d_nil))))) (d_sone (d_sR (d_cal (hr.mono (by decide)) pass_def (C_closure_from T) (d_cons (d_cal (hr.mono (by decide)) pass_def (C_near_lists T) (d_cons (d_var 0) (d_nil))) (d_cons (d_var 1) (d_nil)))))))
theorem C_closure (T : Txt K mg ad) : CallOk P w K mg base ⟨K, w, ad⟩ "closure" 6 2 F_closure := .of T.d_closure (fun f fd F => fn_closure F T) fun _ _ h => run_len h
theorem sc_marks_all : FnScope ["web", "some"] ["web", "some"] (defScope s_marks_all) := ⟨rfl, rfl, rfl, by decide +kernel, rfl, by decide +kernel, by decide +kernel⟩
theorem fn_marks_all {f : Addr} {fd : FuncData} (F : Fun K "marks_all" "marks_all" s_marks_all f fd) (T : Txt K mg ad) : FnOk P w K mg base (CXm P w) 6 f fd ["web", "some"] (spD ⟨K, w, ad⟩ 2 F_marks_all) := fn_D (k := 5) F sc_marks_all (by decide) (by
  rintro ⟨_, H0, G0⟩ cdv A outer s H E rfl hr
  have hu := hr.units
  have hu0 := hr.units0
  have nd := sc_marks_all.nd
  exact d_scons (d_sE (d_cal (hr.mono (by decide)) pass_def (C_look_set T) (d_cons (d_var 0) (d_cons (d_var 1) (d_nil))))) (d_sone (d_sR (d_cal (hr.mono (by decide)) pass_def (C_marks_all_from T) (d_cons (d_cal (hr.mono (by decide)) pass_def (C_near_lists T) (d_cons (d_var 0) (d_nil))) (d_cons (d_var 1) (d_nil)))))))
theorem C_marks_all (T : Txt K mg ad) : CallOk P w K mg base ⟨K, w, ad⟩ "marks_all" 6 2 F_marks_all := .of T.d_marks_all (fun f fd F => fn_marks_all F T) fun _ _ h => run_len h
theorem sc_law_cell : FnScope ["_law_script", "_law_k"] ["_law_script", "_law_k"] (defScope s_law_cell) := ⟨rfl, rfl, rfl, by decide +kernel, rfl, by decide +kernel, by decide +kernel⟩
theorem fn_law_cell {f : Addr} {fd : FuncData} (F : Fun K "_law_cell" "_law_cell" s_law_cell f fd) (T : Txt K mg ad) : FnOk P w K mg base (CXm P w) 1 f fd ["_law_script", "_law_k"] (spD ⟨K, w, ad⟩ 2 F_law_cell) := fn_D (k := 0) F sc_law_cell (by decide) (by
  rintro ⟨_, H0, G0⟩ cdv A outer s H E rfl hr
  have hu := hr.units
  have hu0 := hr.units0
  have nd := sc_law_cell.nd
  exact d_scons (d_sI (d_tst (d_var 0) (fun _ => rfl)) (d_sone (d_sR (d_ix i_ixD (d_var 0) (d_op o_modD (d_var 1) (d_blt c_lenF T.n_len b_len (d_cons (d_var 0) (d_nil)))) (fun _ _ => rfl)))) (d_snil)) (d_sone (d_sR (d_int))))
theorem C_law_cell (T : Txt K mg ad) : CallOk P w K mg base ⟨K, w, ad⟩ "_law_cell" 1 2 F_law_cell := .of T.d_law_cell (fun f fd F => fn_law_cell F T) fun _ _ h => run_len h
theorem sc_law_mix : FnScope ["_law_script", "_law_k", "_law_number"] ["_law_script", "_law_k"] (defScope s_law_mix) := ⟨rfl, rfl, rfl, by decide +kernel, rfl, by decide +kernel, by decide +kernel⟩
theorem fn_law_mix {f : Addr} {fd : FuncData} (F : Fun K "_law_mix" "_law_mix" s_law_mix f fd) (T : Txt K mg ad) : FnOk P w K mg base (CXm P w) 2 f fd ["_law_script", "_law_k"] (spD ⟨K, w, ad⟩ 2 F_law_mix) := fn_D (k := 1) F sc_law_mix (by decide) (by
  rintro ⟨_, H0, G0⟩ cdv A outer s H E rfl hr
  have hu := hr.units
  have hu0 := hr.units0
  have nd := sc_law_mix.nd
  exact d_scons (d_sA 2 nd (d_op o_modD (d_op o_addD (d_cal (hr.mono (by decide)) pass_def (C_law_cell T) (d_cons (d_var 0) (d_cons (d_var 1) (d_nil)))) (d_op o_mulD (d_int) (d_op o_addD (d_var 1) (d_int)))) (d_int))) (d_scons (d_sA 2 nd (d_op o_modD (d_op o_mulD (d_var 2) (d_int)) (d_int))) (d_sone (d_sR (d_op o_modD (d_op o_addD (d_op o_mulD (d_op o_fdvD (d_var 2) (d_int)) (d_int)) (d_var 2)) (d_int))))))
theorem C_law_mix (T : Txt K mg ad) : CallOk P w K mg base ⟨K, w, ad⟩ "_law_mix" 2 2 F_law_mix := .of T.d_law_mix (fun f fd F => fn_law_mix F T) fun _ _ h => run_len h
theorem sc_law_web : FnScope ["_law_script", "_law_k", "_law_most", "_law_many", "_law_way", "_law_lines", "_law_one", "_law_other", "_law_number", "_law_road"] ["_law_script", "_law_k", "_law_most"] (defScope s_law_web) := ⟨rfl, rfl, rfl, by decide +kernel, rfl, by decide +kernel, by decide +kernel⟩
theorem fn_law_web {f : Addr} {fd : FuncData} (F : Fun K "_law_web" "_law_web" s_law_web f fd) (T : Txt K mg ad) : FnOk P w K mg base (CXm P w) 3 f fd ["_law_script", "_law_k", "_law_most"] (spD ⟨K, w, ad⟩ 3 F_law_web) := fn_D (k := 2) F sc_law_web (by decide) (by
  rintro ⟨_, H0, G0⟩ cdv A outer s H E rfl hr
  have hu := hr.units
  have hu0 := hr.units0
  have nd := sc_law_web.nd
  exact d_scons (d_sA 3 nd (d_op o_modD (d_cal (hr.mono (by decide)) pass_def (C_law_mix T) (d_cons (d_var 0) (d_cons (d_var 1) (d_nil)))) (d_op o_addD (d_var 2) (d_int)))) (d_scons (d_sA 4 nd (d_op o_modD (d_cal (hr.mono (by decide)) pass_def (C_law_mix T) (d_cons (d_var 0) (d_cons (d_op o_addD (d_var 1) (d_int)) (d_nil)))) (d_int))) (d_scons (d_sO 5 nd (d_nil)) (d_scons (d_sF own_def (d_itR1 T.n_range (d_cons (d_var 3) (d_nil))) (d_nm 6 nd) (d_sone (d_sF own_def (d_itR2 T.n_range (d_cons (d_op o_addD (d_var 6) (d_int)) (d_cons (d_var 3) (d_nil)))) (d_nm 7 nd) (d_scons (d_sA 8 nd (d_op o_fdvD (d_cal (hr.mono (by decide)) pass_def (C_law_mix T) (d_cons (d_var 0) (d_cons (d_op o_addD (d_op o_addD (d_op o_addD (d_var 1) (d_int)) (d_op o_mulD (d_int) (d_var 6))) (d_var 7)) (d_nil)))) (d_int))) (d_scons (d_sA 9 nd (d_orV (d_andV (d_cmp (o_eqF hu) (d_var 4) (d_int) (nomark _)) (d_one (d_cmp (o_eqF hu) (d_var 7) (d_op o_addD (d_var 6) (d_int)) (nomark _)))) (d_one (d_andV (d_cmp (o_eqF hu) (d_var 4) (d_int) (nomark _)) (d_one (d_cmp (o_eqF hu) (d_var 6) (d_op o_modD (d_var 8) (d_var 7)) (nomark _))))))) (d_sone (d_sI ((PW.pt (d_orT (d_tst (d_var 9) (fun _ => rfl)) (d_or1 ((PW.pt (d_andT (d_tcmp (o_gtF hu0) (d_var 4) (d_int) (nomark _)) (d_and1 (d_tcmp (o_ltF hu0) (d_op o_modD (d_var 8) (d_int)) (d_var 4) (nomark _)))))))))) (d_sone (d_sP 5 (d_tup (d_cons (d_var 6) (d_cons (d_var 7) (d_nil)))))) (d_snil)))))))) (d_sone (d_sR (d_tup (d_cons (d_var 3) (d_cons (d_var 5) (d_nil))))))))))
theorem C_law_web (T : Txt K mg ad) : CallOk P w K mg base ⟨K, w, ad⟩ "_law_web" 3 3 F_law_web := .of T.d_law_web (fun f fd F => fn_law_web F T) fun _ _ h => run_len h
theorem sc_law_set : FnScope ["_law_script", "_law_k", "_law_many", "_law_number"] ["_law_script", "_law_k", "_law_many"] (defScope s_law_set) := ⟨rfl, rfl, rfl, by decide +kernel, rfl, by decide +kernel, by decide +kernel⟩
theorem nd_law_set_0 : (["_law_script", "_law_k", "_law_many", "_law_number", "_law_spot"] : List Str).Nodup := by decide +kernel
theorem fn_law_set {f : Addr} {fd : FuncData} (F : Fun K "_law_set" "_law_set" s_law_set f fd) (T : Txt K mg ad) : FnOk P w K mg base (CXm P w) 3 f fd ["_law_script", "_law_k", "_law_many"] (spD ⟨K, w, ad⟩ 3 F_law_set) := fn_D (k := 2) F sc_law_set (by decide) (by
  rintro ⟨_, H0, G0⟩ cdv A outer s H E rfl hr
  have hu := hr.units
  have hu0 := hr.units0
  have nd := sc_law_set.nd
  exact d_scons (d_sA 3 nd (d_op o_fdvD (d_cal (hr.mono (by decide)) pass_def (C_law_mix T) (d_cons (d_var 0) (d_cons (d_var 1) (d_nil)))) (d_int))) (d_sone (d_sR (d_ty c_tupF T.n_tuple b_tuple (d_cons (d_comp (ns := ["_law_spot"]) (d_itR1 T.n_range (d_cons (d_var 2) (d_nil))) (fun _ _ _ _ => (d_nm 4 nd_law_set_0)) (fun _ _ _ _ => d_if1 (d_tcmp (o_eqF hu) (d_op o_modD (d_op o_fdvD (d_var 3) (d_ix i_ixD (d_lst (d_cons (d_int) (d_cons (d_int) (d_cons (d_int) (d_cons (d_int) (d_cons (d_int) (d_cons (d_int) (d_cons (d_int) (d_cons (d_int) (d_nil)))))))))) (d_var 4) (fun _ _ => rfl))) (d_int)) (d_int) (nomark _))) (fun _ _ _ _ => d_var 4)) (d_nil))))))
theorem C_law_set (T : Txt K mg ad) : CallOk P w K mg base ⟨K, w, ad⟩ "_law_set" 3 3 F_law_set := .of T.d_law_set (fun f fd F => fn_law_set F T) fun _ _ h => run_len h
theorem sc_law_near : FnScope ["_law_web_here", "_law_spot"] ["_law_web_here", "_law_spot"] (defScope s_law_near) := ⟨rfl, rfl, rfl, by decide +kernel, rfl, by decide +kernel, by decide +kernel⟩
theorem nd_law_near_0 : (["_law_web_here", "_law_spot", "_law_one", "_law_other"] : List Str).Nodup := by decide +kernel
theorem fn_law_near {f : Addr} {fd : FuncData} (F : Fun K "_law_near" "_law_near" s_law_near f fd) (T : Txt K mg ad) : FnOk P w K mg base (CXm P w) 1 f fd ["_law_web_here", "_law_spot"] (spD ⟨K, w, ad⟩ 2 F_law_near) := fn_D (k := 0) F sc_law_near (by decide) (by
  rintro ⟨_, H0, G0⟩ cdv A outer s H E rfl hr
  have hu := hr.units
  have hu0 := hr.units0
  have nd := sc_law_near.nd
  exact d_sone (d_sR (d_comp (ns := ["_law_one", "_law_other"]) (d_itE (d_ix i_ixD (d_var 0) (d_int) (fun _ _ => rfl))) (fun _ _ _ _ => (d_tp rfl (d_gc 2 (d_gc 3 d_gn nd_law_near_0) nd_law_near_0))) (fun _ _ _ _ => d_if1 (d_tcmp (o_inF hu) (d_var 1) (d_tup (d_cons (d_var 2) (d_cons (d_var 3) (d_nil)))) rfl)) (fun _ _ _ _ => d_op o_subD (d_op o_addD (d_var 2) (d_var 3)) (d_var 1)))))
theorem C_law_near (T : Txt K mg ad) : CallOk P w K mg base ⟨K, w, ad⟩ "_law_near" 1 2 F_law_near := .of T.d_law_near (fun f fd F => fn_law_near F T) fun _ _ h => run_len h
theorem sc_law_steps : FnScope ["_law_web_here", "_law_some", "_law_found", "_law_spot", "_law_left"] ["_law_web_here", "_law_some"] (defScope s_law_steps) := ⟨rfl, rfl, rfl, by decide +kernel, rfl, by decide +kernel, by decide +kernel⟩
theorem nd_law_steps_0 : (["_law_web_here", "_law_some", "_law_found", "_law_spot", "_law_left", "_law_other"] : List Str).Nodup := by decide +kernel
theorem fn_law_steps {f : Addr} {fd : FuncData} (F : Fun K "_law_steps" "_law_steps" s_law_steps f fd) (T : Txt K mg ad) : FnOk P w K mg base (CXm P w) 2 f fd ["_law_web_here", "_law_some"] (spD ⟨K, w, ad⟩ 2 F_law_steps) := fn_D (k := 1) F sc_law_steps (by decide) (by
  rintro ⟨_, H0, G0⟩ cdv A outer s H E rfl hr
  have hu := hr.units
  have hu0 := hr.units0
  have nd := sc_law_steps.nd
  exact d_scons (d_sO 2 nd (d_nil)) (d_scons (d_sF own_def (d_itE (d_var 1)) (d_nm 3 nd) (d_scons (d_sComp 4 nd (ns := ["_law_other"]) (d_itE (d_cal (hr.mono (by decide)) pass_def (C_law_near T) (d_cons (d_var 0) (d_cons (d_var 3) (d_nil))))) (fun _ _ _ _ => (d_nm 5 nd_law_steps_0)) (fun _ _ _ _ => d_if1 (d_tcmp (o_niF hu) (d_var 5) (d_var 1) rfl)) (fun _ _ _ _ => d_var 5)) (d_sone (d_sI (d_tcmp (o_eqF hu) (d_blt c_lenF T.n_len b_len (d_cons (d_var 4) (d_nil))) (d_int) (nomark _)) (d_sone (d_sP 2 (d_tup (d_cons (d_var 3) (d_cons (d_ix i_ixD (d_var 4) (d_int) (fun _ _ => rfl)) (d_nil)))))) (d_snil))))) (d_sone (d_sR (d_blt (c_srtF rfl) T.n_sorted b_sorted (d_cons (d_var 2) (d_nil)))))))
theorem C_law_steps (T : Txt K mg ad) : CallOk P w K mg base ⟨K, w, ad⟩ "_law_steps" 2 2 F_law_steps := .of T.d_law_steps (fun f fd F => fn_law_steps F T) fun _ _ h => run_len h
theorem sc_law_closure : FnScope ["_law_web_here", "_law_some", "_law_found"] ["_law_web_here", "_law_some"] (defScope s_law_closure) := ⟨rfl, rfl, rfl, by decide +kernel, rfl, by decide +kernel, by decide +kernel⟩
theorem fn_law_closure {f : Addr} {fd : FuncData} (F : Fun K "_law_closure" "_law_closure" s_law_closure f fd) (T : Txt K mg ad) : FnOk P w K mg base (CXm P w) 3 f fd ["_law_web_here", "_law_some"] (spD ⟨K, w, ad⟩ 2 F_law_closure) := fn_D (k := 2) F sc_law_closure (by decide) (by
  rintro ⟨_, H0, G0⟩ cdv A outer s H E rfl hr
  have hu := hr.units
  have hu0 := hr.units0
  have nd := sc_law_closure.nd
  exact d_scons (d_sA 2 nd (d_blt (c_srtF rfl) T.n_sorted b_sorted (d_cons (d_var 1) (d_nil)))) (d_scons (d_sW own_def (d_tcmp (o_neF hu) (d_cal (hr.mono (by decide)) pass_def (C_law_steps T) (d_cons (d_var 0) (d_cons (d_var 2) (d_nil)))) (d_lst (d_nil)) (nomark _)) (d_sone (d_sA 2 nd (d_blt (c_srtF rfl) T.n_sorted b_sorted (d_cons (d_op o_addD (d_var 2) (d_lst (d_cons (d_ix i_ixD (d_ix i_ixD (d_cal (hr.mono (by decide)) pass_def (C_law_steps T) (d_cons (d_var 0) (d_cons (d_var 2) (d_nil)))) (d_neg (d_int)) (fun _ _ => rfl)) (d_int) (fun _ _ => rfl)) (d_nil)))) (d_nil)))))) (d_sone (d_sR (d_ty c_tupF T.n_tuple b_tuple (d_cons (d_var 2) (d_nil)))))))
theorem C_law_closure (T : Txt K mg ad) : CallOk P w K mg base ⟨K, w, ad⟩ "_law_closure" 3 2 F_law_closure := .of T.d_law_closure (fun f fd F => fn_law_closure F T) fun _ _ h => run_len h
theorem sc_law_refusal : FnScope ["_law_kept", "_law_kinds"] ["_law_kept"] (defScope s_law_refusal) := ⟨rfl, rfl, rfl, by decide +kernel, rfl, by decide +kernel, by decide +kernel⟩
theorem fn_law_refusal {f : Addr} {fd : FuncData} (F : Fun K "_law_refusal" "_law_refusal" s_law_refusal f fd) (T : Txt K mg ad) : FnOk P w K mg base (CXm P w) 1 f fd ["_law_kept"] (spD ⟨K, w, ad⟩ 1 F_law_refusal) := fn_D (k := 0) F sc_law_refusal (by decide) (by
  rintro ⟨_, H0, G0⟩ cdv A outer s H E rfl hr
  have hu := hr.units
  have hu0 := hr.units0
  have nd := sc_law_refusal.nd
  exact d_scons (d_sI (d_tisN (d_var 0)) (d_sone (d_sR (d_str))) (d_snil)) (d_scons (d_sA 1 nd (d_lst (d_cons (d_isiO T.isi T.k_BadSet T.n_isinstance b_isinstance T.c_BadSet.bound (d_var 0)) (d_cons (d_isiO T.isi T.k_BadSteps T.n_isinstance b_isinstance T.c_BadSteps.bound (d_var 0)) (d_cons (d_isiO T.isi T.k_BadText T.n_isinstance b_isinstance T.c_BadText.bound (d_var 0)) (d_nil)))))) (d_scons (d_sA 1 nd (d_op o_addD (d_var 1) (d_lst (d_cons (d_isiO T.isi T.k_BadTree T.n_isinstance b_isinstance T.c_BadTree.bound (d_var 0)) (d_cons (d_isiO T.isi T.k_BadWeb T.n_isinstance b_isinstance T.c_BadWeb.bound (d_var 0)) (d_nil)))))) (d_scons (d_sI ((PW.pt (d_orT (d_tcmp (o_neF hu) (d_cntD hu (d_var 1) (d_bl)) (d_int) (nomark _)) (d_or1 (d_notT (d_tst (d_isiT T.isi T.k_ValueError T.n_isinstance b_isinstance T.n_ValueError b_ValueError (d_var 0)) (fun _ => rfl))))))) (d_sone (d_sR (d_str))) (d_snil)) (d_sone (d_sR (d_ix i_ixD (d_lst (d_cons (d_str) (d_cons (d_str) (d_cons (d_str) (d_cons (d_str) (d_cons (d_str) (d_nil))))))) (d_idxD hu (d_var 1) (d_bl)) (fun _ _ => rfl))))))))
theorem C_law_refusal (T : Txt K mg ad) : CallOk P w K mg base ⟨K, w, ad⟩ "_law_refusal" 1 1 F_law_refusal := .of T.d_law_refusal (fun f fd F => fn_law_refusal F T) fun _ _ h => run_len h
theorem sc_law_told : FnScope ["_law_way", "_law_web_here", "_law_some", "_law_kept", "_law_found", "e"] ["_law_way", "_law_web_here", "_law_some"] (defScope s_law_told) := ⟨rfl, rfl, rfl, by decide +kernel, rfl, by decide +kernel, by decide +kernel⟩
theorem fn_law_told {f : Addr} {fd : FuncData} (F : Fun K "_law_told" "_law_told" s_law_told f fd) (T : Txt K mg ad) : FnOk P w K mg base (CXm P w) 7 f fd ["_law_way", "_law_web_here", "_law_some"] (spD ⟨K, w, ad⟩ 3 F_law_told) := fn_D (k := 6) F sc_law_told (by decide) (by
  rintro ⟨_, H0, G0⟩ cdv A outer s H E rfl hr
  have hu := hr.units
  have hu0 := hr.units0
  have nd := sc_law_told.nd
  exact d_scons (d_sA 3 nd (d_non)) (d_scons (d_sA 4 nd (d_non)) (d_scons (d_sTry 5 nd T.c_MarkError.bound T.x_MarkError (fun _ _ ok => d_sone (d_sI (d_tcmp (o_eqF hu) (d_var 0) (d_int) (nomark _)) (d_sone (d_sA 4 nd (d_cal (hr.mono (by decide)) (passes_try ok) (C_look_web T) (d_cons (d_var 1) (d_nil))))) (d_sone (d_sI (d_tcmp (o_eqF hu) (d_var 0) (d_int) (nomark _)) (d_sone (d_sA 4 nd (d_cal (hr.mono (by decide)) (passes_try ok) (C_look_set T) (d_cons (d_var 1) (d_cons (d_var 2) (d_nil)))))) (d_sone (d_sI (d_tcmp (o_eqF hu) (d_var 0) (d_int) (nomark _)) (d_sone (d_sA 4 nd (d_cal (hr.mono (by decide)) (passes_try ok) (C_steps_at T) (d_cons (d_var 1) (d_cons (d_var 2) (d_nil)))))) (d_sone (d_sI (d_tcmp (o_eqF hu) (d_var 0) (d_int) (nomark _)) (d_sone (d_sA 4 nd (d_cal (hr.mono (by decide)) (passes_try ok) (C_closure T) (d_cons (d_var 1) (d_cons (d_var 2) (d_nil)))))) (d_sone (d_sA 4 nd (d_ifE (d_tcmp (o_eqF hu) (d_var 0) (d_int) (nomark _)) (d_cal (hr.mono (by decide)) (passes_try ok) (C_marks_all T) (d_cons (d_var 1) (d_cons (d_var 2) (d_nil)))) (d_cal (hr.mono (by decide)) (passes_try ok) (C_rounds T) (d_cons (d_var 1) (d_cons (d_var 2) (d_nil))))))))))))))) (fun _ => d_sone (d_sA 3 nd (d_var 5)))) (d_sone (d_sR (d_ifE (d_tisN (d_var 3)) (d_var 4) (d_cal (hr.mono (by decide)) pass_def (C_law_refusal T) (d_cons (d_var 3) (d_nil)))))))))
theorem C_law_told (T : Txt K mg ad) : CallOk P w K mg base ⟨K, w, ad⟩ "_law_told" 7 3 F_law_told := .of T.d_law_told (fun f fd F => fn_law_told F T) fun _ _ h => run_len h
theorem sc_law_spoilt : FnScope ["_law_web_here", "_law_number", "_law_many", "_law_lines", "_law_way", "_law_at", "_law_one", "_law_other", "_law_bad"] ["_law_web_here", "_law_number"] (defScope s_law_spoilt) := ⟨rfl, rfl, rfl, by decide +kernel, rfl, by decide +kernel, by decide +kernel⟩
theorem fn_law_spoilt {f : Addr} {fd : FuncData} (F : Fun K "_law_spoilt" "_law_spoilt" s_law_spoilt f fd) (T : Txt K mg ad) : FnOk P w K mg base (CXm P w) 1 f fd ["_law_web_here", "_law_number"] (spD ⟨K, w, ad⟩ 2 F_law_spoilt) := fn_D (k := 0) F sc_law_spoilt (by decide) (by
  rintro ⟨_, H0, G0⟩ cdv A outer s H E rfl hr
  have hu := hr.units
  have hu0 := hr.units0
  have nd := sc_law_spoilt.nd
  exact d_scons (d_sAt (d_tp rfl (d_gc 2 (d_gc 3 d_gn nd) nd)) (d_var 0)) (d_scons (d_sA 4 nd (d_op o_modD (d_var 1) (d_int))) (d_scons (d_sI ((PW.pt (d_andT (d_tcmp (o_ltF hu0) (d_var 4) (d_int) (nomark _)) (d_and1 (d_tst (d_var 3) (fun _ => rfl)))))) (d_scons (d_sA 5 nd (d_op o_modD (d_op o_fdvD (d_var 1) (d_int)) (d_blt c_lenF T.n_len b_len (d_cons (d_var 3) (d_nil))))) (d_scons (d_sAt (d_tp rfl (d_gc 6 (d_gc 7 d_gn nd) nd)) (d_ix i_ixD (d_var 3) (d_var 5) (fun _ _ => rfl))) (d_scons (d_sA 8 nd (d_ix i_ixD (d_lst (d_cons (d_tup (d_cons (d_var 7) (d_cons (d_var 6) (d_nil)))) (d_cons (d_tup (d_cons (d_var 6) (d_cons (d_var 2) (d_nil)))) (d_cons (d_tup (d_cons (d_neg (d_int)) (d_cons (d_var 7) (d_nil)))) (d_cons (d_tup (d_cons (d_var 6) (d_nil))) (d_cons (d_tup (d_cons (d_var 6) (d_cons (d_var 6) (d_nil)))) (d_nil))))))) (d_op o_modD (d_op o_fdvD (d_var 1) (d_int)) (d_int)) (fun _ _ => rfl))) (d_sone (d_sR (d_tup (d_cons (d_var 2) (d_cons (d_op o_addD (d_op o_addD (d_slE s_slD (d_var 3) d_noPart (d_part (d_var 5))) (d_lst (d_cons (d_var 8) (d_nil)))) (d_slE s_slD (d_var 3) (d_part (d_op o_addD (d_var 5) (d_int))) d_noPart)) (d_nil))))))))) (d_snil)) (d_scons (d_sI ((PW.pt (d_andT (d_tcmp (o_eqF hu) (d_var 4) (d_int) (nomark _)) (d_and1 (d_tcmp (o_gtF hu0) (d_blt c_lenF T.n_len b_len (d_cons (d_var 3) (d_nil))) (d_int) (nomark _)))))) (d_sone (d_sR (d_tup (d_cons (d_var 2) (d_cons (d_rev (d_var 3)) (d_nil)))))) (d_snil)) (d_scons (d_sI ((PW.pt (d_andT (d_tcmp (o_eqF hu) (d_var 4) (d_int) (nomark _)) (d_and1 (d_tst (d_var 3) (fun _ => rfl)))))) (d_sone (d_sR (d_tup (d_cons (d_var 2) (d_cons (d_op o_addD (d_var 3) (d_slE s_slD (d_var 3) (d_part (d_neg (d_int))) d_noPart)) (d_nil)))))) (d_snil)) (d_sone (d_sR (d_ix i_ixD (d_lst (d_cons (d_tup (d_cons (d_neg (d_int)) (d_cons (d_lst (d_nil)) (d_nil)))) (d_cons (d_tup (d_cons (d_int) (d_cons (d_lst (d_nil)) (d_nil)))) (d_cons (d_tup (d_cons (d_var 2) (d_cons (d_lst (d_cons (d_tup (d_cons (d_int) (d_cons (d_var 2) (d_nil)))) (d_nil))) (d_nil)))) (d_nil))))) (d_op o_modD (d_op o_fdvD (d_var 1) (d_int)) (d_int)) (fun _ _ => rfl)))))))))
theorem C_law_spoilt (T : Txt K mg ad) : CallOk P w K mg base ⟨K, w, ad⟩ "_law_spoilt" 1 2 F_law_spoilt := .of T.d_law_spoilt (fun f fd F => fn_law_spoilt F T) fun _ _ h => run_len h
theorem sc_law_rounds : FnScope ["_law_web_here", "_law_some", "_law_found", "_law_later"] ["_law_web_here", "_law_some"] (defScope s_law_rounds) := ⟨rfl, rfl, rfl, by decide +kernel, rfl, by decide +kernel, by decide +kernel⟩
theorem nd_law_rounds_0 : (["_law_web_here", "_law_some", "_law_found", "_law_later", "_law_step"] : List Str).Nodup := by decide +kernel
theorem fn_law_rounds {f : Addr} {fd : FuncData} (F : Fun K "_law_rounds" "_law_rounds" s_law_rounds f fd) (T : Txt K mg ad) : FnOk P w K mg base (CXm P w) 3 f fd ["_law_web_here", "_law_some"] (spD ⟨K, w, ad⟩ 2 F_law_rounds) := fn_D (k := 2) F sc_law_rounds (by decide) (by
  rintro ⟨_, H0, G0⟩ cdv A outer s H E rfl hr
  have hu := hr.units
  have hu0 := hr.units0
  have nd := sc_law_rounds.nd
  exact d_scons (d_sO 2 nd (d_cons (d_var 1) (d_nil))) (d_scons (d_sW own_def (d_tcmp (o_neF hu) (d_cal (hr.mono (by decide)) pass_def (C_law_steps T) (d_cons (d_var 0) (d_cons (d_ixV 2 (d_neg (d_int)) (fun _ _ => rfl)) (d_nil)))) (d_lst (d_nil)) (nomark _)) (d_scons (d_sA 3 nd (d_op o_addD (d_ty c_lstF T.n_list b_list (d_cons (d_ixV 2 (d_neg (d_int)) (fun _ _ => rfl)) (d_nil))) (d_comp (ns := ["_law_step"]) (d_itE (d_cal (hr.mono (by decide)) pass_def (C_law_steps T) (d_cons (d_var 0) (d_cons (d_ixV 2 (d_neg (d_int)) (fun _ _ => rfl)) (d_nil))))) (fun _ _ _ _ => (d_nm 4 nd_law_rounds_0)) (fun _ _ _ _ => d_if0) (fun _ _ _ _ => d_ix i_ixD (d_var 4) (d_int) (fun _ _ => rfl))))) (d_sone (d_sP 2 (d_ty c_tupF T.n_tuple b_tuple (d_cons (d_blt (c_srtF rfl) T.n_sorted b_sorted (d_cons (d_ty (c_setF rfl) T.n_set b_set (d_cons (d_var 3) (d_nil))) (d_nil))) (d_nil))))))) (d_sone (d_sR (d_var 2)))))
theorem C_law_rounds (T : Txt K mg ad) : CallOk P w K mg base ⟨K, w, ad⟩ "_law_rounds" 3 2 F_law_rounds := .of T.d_law_rounds (fun f fd F => fn_law_rounds F T) fun _ _ h => run_len h
theorem sc_law : FnScope ["_law_script", "_law_web_here", "_law_some", "_law_handed", "_law_marked", "_law_due", "_law_bad", "_law_wrong"] ["_law_script"] (defScope s_law) := ⟨rfl, rfl, rfl, by decide +kernel, rfl, by decide +kernel, by decide +kernel⟩
theorem nd_law_0 : (["_law_script", "_law_web_here", "_law_some", "_law_handed", "_law_marked", "_law_due", "_law_bad", "_law_wrong", "_law_way"] : List Str).Nodup := by decide +kernel
theorem fn_law {f : Addr} {fd : FuncData} (F : Fun K "law" "law" s_law f fd) (T : Txt K mg ad) : FnOk P w K mg base (CXm P w) 8 f fd ["_law_script"] (spD ⟨K, w, ad⟩ 1 F_law) := fn_D (k := 7) F sc_law (by decide) (by
  rintro ⟨_, H0, G0⟩ cdv A outer s H E rfl hr
  have hu := hr.units
  have hu0 := hr.units0
  have nd := sc_law.nd
  exact d_scons (d_sA 1 nd (d_cal (hr.mono (by decide)) pass_def (C_law_web T) (d_cons (d_var 0) (d_cons (d_int) (d_cons (d_int) (d_nil)))))) (d_scons (d_sA 2 nd (d_cal (hr.mono (by decide)) pass_def (C_law_set T) (d_cons (d_var 0) (d_cons (d_int) (d_cons (d_ix i_ixD (d_var 1) (d_int) (fun _ _ => rfl)) (d_nil)))))) (d_scons (d_sA 3 nd (d_tup (d_cons (d_ix i_ixD (d_var 1) (d_int) (fun _ _ => rfl)) (d_cons (d_ty c_lstF T.n_list b_list (d_cons (d_ix i_ixD (d_var 1) (d_int) (fun _ _ => rfl)) (d_nil))) (d_nil))))) (d_scons (d_sA 4 nd (d_cal (hr.mono (by decide)) pass_def (C_law_closure T) (d_cons (d_var 1) (d_cons (d_var 2) (d_nil))))) (d_scons (d_sA 5 nd (d_lst (d_cons (d_non) (d_cons (d_non) (d_cons (d_cal (hr.mono (by decide)) pass_def (C_law_steps T) (d_cons (d_var 1) (d_cons (d_var 2) (d_nil)))) (d_cons (d_var 4) (d_cons (d_cmp (o_eqF hu) (d_blt c_lenF T.n_len b_len (d_cons (d_var 4) (d_nil))) (d_ix i_ixD (d_var 1) (d_int) (fun _ _ => rfl)) (nomark _)) (d_cons (d_cal (hr.mono (by decide)) pass_def (C_law_rounds T) (d_cons (d_var 1) (d_cons (d_var 2) (d_nil)))) (d_nil))))))))) (d_scons (d_sI ((PW.pt (d_orT (d_tcmp (o_neF hu) (d_comp (ns := ["_law_way"]) (d_itR1 T.n_range (d_cons (d_int) (d_nil))) (fun _ _ _ _ => (d_nm 8 nd_law_0)) (fun _ _ _ _ => d_if0) (fun _ _ _ _ => d_cal (hr.mono (by decide)) pass_noX (C_law_told T) (d_cons (d_var 8) (d_cons (d_var 3) (d_cons (d_var 2) (d_nil)))))) (d_var 5) (nomark _)) (d_or1 (d_tcmp (o_neF hu) (d_var 3) (d_var 1) (nomark _)))))) (d_sone (d_sR (d_bl))) (d_snil)) (d_scons (d_sI (d_notT (d_tst (d_isiB T.k_bool T.n_isinstance b_isinstance T.n_bool b_bool (d_cal (hr.mono (by decide)) pass_def (C_marks_all T) (d_cons (d_var 1) (d_cons (d_var 2) (d_nil))))) (fun _ => rfl))) (d_sone (d_sR (d_bl))) (d_snil)) (d_scons (d_sA 6 nd (d_ix i_ixD (d_lst (d_cons (d_op o_addD (d_op o_addD (d_var 2) (d_slE s_slD (d_var 2) (d_part (d_neg (d_int))) d_noPart)) (d_tup (d_cons (d_ix i_ixD (d_var 1) (d_int) (fun _ _ => rfl)) (d_nil)))) (d_cons (d_tup (d_cons (d_ix i_ixD (d_var 1) (d_int) (fun _ _ => rfl)) (d_nil))) (d_cons (d_tup (d_cons (d_neg (d_int)) (d_nil))) (d_cons (d_tup (d_cons (d_int) (d_cons (d_int) (d_nil)))) (d_nil)))))) (d_op o_modD (d_cal (hr.mono (by decide)) pass_def (C_law_mix T) (d_cons (d_var 0) (d_cons (d_int) (d_nil)))) (d_int)) (fun _ _ => rfl))) (d_scons (d_sI (d_tcmp (o_neF hu) (d_comp (ns := ["_law_way"]) (d_itR2 T.n_range (d_cons (d_int) (d_cons (d_int) (d_nil)))) (fun _ _ _ _ => (d_nm 8 nd_law_0)) (fun _ _ _ _ => d_if0) (fun _ _ _ _ => d_cal (hr.mono (by decide)) pass_noX (C_law_told T) (d_cons (d_var 8) (d_cons (d_var 1) (d_cons (d_var 6) (d_nil)))))) (d_op o_mulD (d_lst (d_cons (d_str) (d_nil))) (d_int)) (nomark _)) (d_sone (d_sR (d_bl))) (d_snil)) (d_scons (d_sA 7 nd (d_cal (hr.mono (by decide)) pass_def (C_law_spoilt T) (d_cons (d_var 1) (d_cons (d_cal (hr.mono (by decide)) pass_def (C_law_mix T) (d_cons (d_var 0) (d_cons (d_int) (d_nil)))) (d_nil))))) (d_sone (d_sR (d_cmp (o_eqF hu) (d_comp (ns := ["_law_way"]) (d_itR1 T.n_range (d_cons (d_int) (d_nil))) (fun _ _ _ _ => (d_nm 8 nd_law_0)) (fun _ _ _ _ => d_if0) (fun _ _ _ _ => d_cal (hr.mono (by decide)) pass_noX (C_law_told T) (d_cons (d_var 8) (d_cons (d_var 7) (d_cons (d_var 6) (d_nil)))))) (d_op o_mulD (d_lst (d_cons (d_str) (d_nil))) (d_int)) (nomark _))))))))))))))
end
end FW
set_option maxHeartbeats 8000000
namespace FW
open PySem PySem.Spec PyProof.Rows L2
theorem cls_some {K : PySem.W.Frag} {C : Addr} {co : Value} {cp : Option Addr} {cq : ClassData} {cr : Array (Option Value)} (h : K.lookup C = some ⟨co, cp, .cls cq, cr⟩) : (PySem.W.clsIn K C).isSome = true := by
  unfold PySem.W.clsIn; rw [h]; rfl
def adOf (C0 C1 C2 C3 C4 C5 : Addr) (n : String) : Addr := match n with
  | "MarkError" => C0
  | "BadWeb" => C1
  | "BadSet" => C2
  | "BadSteps" => C3
  | "BadTree" => C4
  | "BadText" => C5
  | _ => 0
theorem clss_all {Q : String → Prop} (h : Q "MarkError" ∧ Q "BadWeb" ∧ Q "BadSet" ∧ Q "BadSteps" ∧ Q "BadTree" ∧ Q "BadText") : ∀ n, clss.contains n = true → Q n := by
  intro n hn
  have hm : n ∈ clss := by simpa using hn
  unfold clss at hm
  simp only [List.mem_cons, List.not_mem_nil, or_false] at hm
  obtain ⟨h0, h1, h2, h3, h4, h5⟩ := h
  rcases hm with rfl | rfl | rfl | rfl | rfl | rfl
  · exact h0
  · exact h1
  · exact h2
  · exact h3
  · exact h4
  · exact h5
theorem all_mk {l : PySem.W.OpenLaw} {w : World} {K : PySem.W.Frag} {h : Heap} {mg : Str → Option Value} {fa : Addr} {C0 C1 C2 C3 C4 C5 : Addr} {f_rises f_is_set f_is_line f_look_web f_look_set f_near_lists f_with_more f_steps_from f_marked_behind f_rounds_from f_closure_from f_marks_all_from f_steps_at f_rounds f_closure f_marks_all f_law_cell f_law_mix f_law_web f_law_set f_law_near f_law_steps f_law_closure f_law_refusal f_law_told f_law_spoilt f_law_rounds f_law : Addr}
    {co_0 co_1 co_2 co_3 co_4 co_5 : Value} {cp_0 cp_1 cp_2 cp_3 cp_4 cp_5 : Option Addr} {cq_0 cq_1 cq_2 cq_3 cq_4 cq_5 : ClassData} {cr_0 cr_1 cr_2 cr_3 cr_4 cr_5 : Array (Option Value)}
    {tg_MOST_SPOTS : Tok}
    {od_rises an_rises od_is_set an_is_set od_is_line an_is_line od_look_web an_look_web od_look_set an_look_set od_near_lists an_near_lists od_with_more an_with_more od_steps_from an_steps_from od_marked_behind an_marked_behind od_rounds_from an_rounds_from od_closure_from an_closure_from od_marks_all_from an_marks_all_from od_steps_at an_steps_at od_rounds an_rounds od_closure an_closure od_marks_all an_marks_all od_law_cell an_law_cell od_law_mix an_law_mix od_law_web an_law_web od_law_set an_law_set od_law_near an_law_near od_law_steps an_law_steps od_law_closure an_law_closure od_law_refusal an_law_refusal od_law_told an_law_told od_law_spoilt an_law_spoilt od_law_rounds an_law_rounds od_law an_law : Option Addr} {sl_rises sl_is_set sl_is_line sl_look_web sl_look_set sl_near_lists sl_with_more sl_steps_from sl_marked_behind sl_rounds_from sl_closure_from sl_marks_all_from sl_steps_at sl_rounds sl_closure sl_marks_all sl_law_cell sl_law_mix sl_law_web sl_law_set sl_law_near sl_law_steps sl_law_closure sl_law_refusal sl_law_told sl_law_spoilt sl_law_rounds sl_law : Array (Option Value)} {oc_rises kV_rises dc_rises pm_rises cd_rises ct_rises oc_is_set kV_is_set dc_is_set pm_is_set cd_is_set ct_is_set oc_is_line kV_is_line dc_is_line pm_is_line cd_is_line ct_is_line oc_look_web kV_look_web dc_look_web pm_look_web cd_look_web ct_look_web oc_look_set kV_look_set dc_look_set pm_look_set cd_look_set ct_look_set oc_near_lists kV_near_lists dc_near_lists pm_near_lists cd_near_lists ct_near_lists oc_with_more kV_with_more dc_with_more pm_with_more cd_with_more ct_with_more oc_steps_from kV_steps_from dc_steps_from pm_steps_from cd_steps_from ct_steps_from oc_marked_behind kV_marked_behind dc_marked_behind pm_marked_behind cd_marked_behind ct_marked_behind oc_rounds_from kV_rounds_from dc_rounds_from pm_rounds_from cd_rounds_from ct_rounds_from oc_closure_from kV_closure_from dc_closure_from pm_closure_from cd_closure_from ct_closure_from oc_marks_all_from kV_marks_all_from dc_marks_all_from pm_marks_all_from cd_marks_all_from ct_marks_all_from oc_steps_at kV_steps_at dc_steps_at pm_steps_at cd_steps_at ct_steps_at oc_rounds kV_rounds dc_rounds pm_rounds cd_rounds ct_rounds oc_closure kV_closure dc_closure pm_closure cd_closure ct_closure oc_marks_all kV_marks_all dc_marks_all pm_marks_all cd_marks_all ct_marks_all oc_law_cell kV_law_cell dc_law_cell pm_law_cell cd_law_cell ct_law_cell oc_law_mix kV_law_mix dc_law_mix pm_law_mix cd_law_mix ct_law_mix oc_law_web kV_law_web dc_law_web pm_law_web cd_law_web ct_law_web oc_law_set kV_law_set dc_law_set pm_law_set cd_law_set ct_law_set oc_law_near kV_law_near dc_law_near pm_law_near cd_law_near ct_law_near oc_law_steps kV_law_steps dc_law_steps pm_law_steps cd_law_steps ct_law_steps oc_law_closure kV_law_closure dc_law_closure pm_law_closure cd_law_closure ct_law_closure oc_law_refusal kV_law_refusal dc_law_refusal pm_law_refusal cd_law_refusal ct_law_refusal oc_law_told kV_law_told dc_law_told pm_law_told cd_law_told ct_law_told oc_law_spoilt kV_law_spoilt dc_law_spoilt pm_law_spoilt cd_law_spoilt ct_law_spoilt oc_law_rounds kV_law_rounds dc_law_rounds pm_law_rounds cd_law_rounds ct_law_rounds oc_law kV_law dc_law pm_law cd_law ct_law : Value}
    (X : K.In h) (G : h.Ns mainGlobals mg) (hfa : mg "law" = some (.ref fa))
    (z_ValueError : PySem.W.nsIn K mainGlobals "ValueError" = some none)
    (z_all : PySem.W.nsIn K mainGlobals "all" = some none)
    (z_bool : PySem.W.nsIn K mainGlobals "bool" = some none)
    (z_isinstance : PySem.W.nsIn K mainGlobals "isinstance" = some none)
    (z_len : PySem.W.nsIn K mainGlobals "len" = some none)
    (z_list : PySem.W.nsIn K mainGlobals "list" = some none)
    (z_range : PySem.W.nsIn K mainGlobals "range" = some none)
    (z_set : PySem.W.nsIn K mainGlobals "set" = some none)
    (z_sorted : PySem.W.nsIn K mainGlobals "sorted" = some none)
    (z_tuple : PySem.W.nsIn K mainGlobals "tuple" = some none)
    (g_MOST_SPOTS : PySem.W.nsIn K mainGlobals "MOST_SPOTS" = some (some (.int 10 tg_MOST_SPOTS)))
    (ca_0 : PySem.W.nsIn K mainGlobals "MarkError" = some (some (.ref C0)))
    (cx_0 : PySem.W.excIn K C0 [.type "ValueError", .type "Exception", .type "BaseException", .type "object"] "ValueError.__new__" = true)
    (ci_0 : PySem.W.findIn K (.ref C0) "__getattribute__" = some (some (.builtin "BaseException.__getattribute__")))
    (cj_0 : PySem.W.findIn K (.ref C0) "__getattr__" = some none)
    (ck_0 : PySem.W.findIn K (.ref C0) "__class__" = some (some (.builtin "object.__class__")))
    (cl_0 : PySem.W.mroIn K C0 (.type "object") = some true)
    (cm_0 : PySem.W.mroIn K C0 (.type "BaseException") = some true)
    (cn_0 : K.lookup C0 = some ⟨co_0, cp_0, .cls cq_0, cr_0⟩)
    (ca_1 : PySem.W.nsIn K mainGlobals "BadWeb" = some (some (.ref C1)))
    (cx_1 : PySem.W.excIn K C1 [.type "ValueError", .type "Exception", .type "BaseException", .type "object"] "ValueError.__new__" = true)
    (ci_1 : PySem.W.findIn K (.ref C1) "__getattribute__" = some (some (.builtin "BaseException.__getattribute__")))
    (cj_1 : PySem.W.findIn K (.ref C1) "__getattr__" = some none)
    (ck_1 : PySem.W.findIn K (.ref C1) "__class__" = some (some (.builtin "object.__class__")))
    (cl_1 : PySem.W.mroIn K C1 (.type "object") = some true)
    (cm_1 : PySem.W.mroIn K C1 (.type "BaseException") = some true)
    (cn_1 : K.lookup C1 = some ⟨co_1, cp_1, .cls cq_1, cr_1⟩)
    (ca_2 : PySem.W.nsIn K mainGlobals "BadSet" = some (some (.ref C2)))
    (cx_2 : PySem.W.excIn K C2 [.type "ValueError", .type "Exception", .type "BaseException", .type "object"] "ValueError.__new__" = true)
    (ci_2 : PySem.W.findIn K (.ref C2) "__getattribute__" = some (some (.builtin "BaseException.__getattribute__")))
    (cj_2 : PySem.W.findIn K (.ref C2) "__getattr__" = some none)
    (ck_2 : PySem.W.findIn K (.ref C2) "__class__" = some (some (.builtin "object.__class__")))
    (cl_2 : PySem.W.mroIn K C2 (.type "object") = some true)
    (cm_2 : PySem.W.mroIn K C2 (.type "BaseException") = some true)
    (cn_2 : K.lookup C2 = some ⟨co_2, cp_2, .cls cq_2, cr_2⟩)
    (ca_3 : PySem.W.nsIn K mainGlobals "BadSteps" = some (some (.ref C3)))
    (cx_3 : PySem.W.excIn K C3 [.type "ValueError", .type "Exception", .type "BaseException", .type "object"] "ValueError.__new__" = true)
    (ci_3 : PySem.W.findIn K (.ref C3) "__getattribute__" = some (some (.builtin "BaseException.__getattribute__")))
    (cj_3 : PySem.W.findIn K (.ref C3) "__getattr__" = some none)
    (ck_3 : PySem.W.findIn K (.ref C3) "__class__" = some (some (.builtin "object.__class__")))
    (cl_3 : PySem.W.mroIn K C3 (.type "object") = some true)
    (cm_3 : PySem.W.mroIn K C3 (.type "BaseException") = some true)
    (cn_3 : K.lookup C3 = some ⟨co_3, cp_3, .cls cq_3, cr_3⟩)
    (ca_4 : PySem.W.nsIn K mainGlobals "BadTree" = some (some (.ref C4)))
    (cx_4 : PySem.W.excIn K C4 [.type "ValueError", .type "Exception", .type "BaseException", .type "object"] "ValueError.__new__" = true)
    (ci_4 : PySem.W.findIn K (.ref C4) "__getattribute__" = some (some (.builtin "BaseException.__getattribute__")))
    (cj_4 : PySem.W.findIn K (.ref C4) "__getattr__" = some none)
    (ck_4 : PySem.W.findIn K (.ref C4) "__class__" = some (some (.builtin "object.__class__")))
    (cl_4 : PySem.W.mroIn K C4 (.type "object") = some true)
    (cm_4 : PySem.W.mroIn K C4 (.type "BaseException") = some true)
    (cn_4 : K.lookup C4 = some ⟨co_4, cp_4, .cls cq_4, cr_4⟩)
    (ca_5 : PySem.W.nsIn K mainGlobals "BadText" = some (some (.ref C5)))
    (cx_5 : PySem.W.excIn K C5 [.type "ValueError", .type "Exception", .type "BaseException", .type "object"] "ValueError.__new__" = true)
    (ci_5 : PySem.W.findIn K (.ref C5) "__getattribute__" = some (some (.builtin "BaseException.__getattribute__")))
    (cj_5 : PySem.W.findIn K (.ref C5) "__getattr__" = some none)
    (ck_5 : PySem.W.findIn K (.ref C5) "__class__" = some (some (.builtin "object.__class__")))
    (cl_5 : PySem.W.mroIn K C5 (.type "object") = some true)
    (cm_5 : PySem.W.mroIn K C5 (.type "BaseException") = some true)
    (cn_5 : K.lookup C5 = some ⟨co_5, cp_5, .cls cq_5, cr_5⟩)
    (cg : PySem.W.specialIn K (.builtin "object.__class__") "__get__" = some (some (.builtin "getset_descriptor.__get__")))
    (ct : PySem.W.takesIn K (.builtin "object.__class__") = some true)
    (k_BadSet_0 : PySem.W.kitOne K (.ref C0) (.ref C2) = some false)
    (k_BadSet_1 : PySem.W.kitOne K (.ref C1) (.ref C2) = some false)
    (k_BadSet_2 : PySem.W.kitOne K (.ref C2) (.ref C2) = some true)
    (k_BadSet_3 : PySem.W.kitOne K (.ref C3) (.ref C2) = some false)
    (k_BadSet_4 : PySem.W.kitOne K (.ref C4) (.ref C2) = some false)
    (k_BadSet_5 : PySem.W.kitOne K (.ref C5) (.ref C2) = some false)
    (k_BadSteps_0 : PySem.W.kitOne K (.ref C0) (.ref C3) = some false)
    (k_BadSteps_1 : PySem.W.kitOne K (.ref C1) (.ref C3) = some false)
    (k_BadSteps_2 : PySem.W.kitOne K (.ref C2) (.ref C3) = some false)
    (k_BadSteps_3 : PySem.W.kitOne K (.ref C3) (.ref C3) = some true)
    (k_BadSteps_4 : PySem.W.kitOne K (.ref C4) (.ref C3) = some false)
    (k_BadSteps_5 : PySem.W.kitOne K (.ref C5) (.ref C3) = some false)
    (k_BadText_0 : PySem.W.kitOne K (.ref C0) (.ref C5) = some false)
    (k_BadText_1 : PySem.W.kitOne K (.ref C1) (.ref C5) = some false)
    (k_BadText_2 : PySem.W.kitOne K (.ref C2) (.ref C5) = some false)
    (k_BadText_3 : PySem.W.kitOne K (.ref C3) (.ref C5) = some false)
    (k_BadText_4 : PySem.W.kitOne K (.ref C4) (.ref C5) = some false)
    (k_BadText_5 : PySem.W.kitOne K (.ref C5) (.ref C5) = some true)
    (k_BadTree_0 : PySem.W.kitOne K (.ref C0) (.ref C4) = some false)
    (k_BadTree_1 : PySem.W.kitOne K (.ref C1) (.ref C4) = some false)
    (k_BadTree_2 : PySem.W.kitOne K (.ref C2) (.ref C4) = some false)
    (k_BadTree_3 : PySem.W.kitOne K (.ref C3) (.ref C4) = some false)
    (k_BadTree_4 : PySem.W.kitOne K (.ref C4) (.ref C4) = some true)
    (k_BadTree_5 : PySem.W.kitOne K (.ref C5) (.ref C4) = some false)
    (k_BadWeb_0 : PySem.W.kitOne K (.ref C0) (.ref C1) = some false)
    (k_BadWeb_1 : PySem.W.kitOne K (.ref C1) (.ref C1) = some true)
    (k_BadWeb_2 : PySem.W.kitOne K (.ref C2) (.ref C1) = some false)
    (k_BadWeb_3 : PySem.W.kitOne K (.ref C3) (.ref C1) = some false)
    (k_BadWeb_4 : PySem.W.kitOne K (.ref C4) (.ref C1) = some false)
    (k_BadWeb_5 : PySem.W.kitOne K (.ref C5) (.ref C1) = some false)
    (k_ValueError_0 : PySem.W.kitOne K (.ref C0) (.type "ValueError") = some true)
    (k_ValueError_1 : PySem.W.kitOne K (.ref C1) (.type "ValueError") = some true)
    (k_ValueError_2 : PySem.W.kitOne K (.ref C2) (.type "ValueError") = some true)
    (k_ValueError_3 : PySem.W.kitOne K (.ref C3) (.type "ValueError") = some true)
    (k_ValueError_4 : PySem.W.kitOne K (.ref C4) (.type "ValueError") = some true)
    (k_ValueError_5 : PySem.W.kitOne K (.ref C5) (.type "ValueError") = some true)
    (kb : PySem.W.kitOne K (.type "bool") (.type "bool") = some true)
    (x_MarkError_0 : PySem.W.exmOne K (.ref C0) (.ref C0) = some true)
    (x_MarkError_1 : PySem.W.exmOne K (.ref C1) (.ref C0) = some true)
    (x_MarkError_2 : PySem.W.exmOne K (.ref C2) (.ref C0) = some true)
    (x_MarkError_3 : PySem.W.exmOne K (.ref C3) (.ref C0) = some true)
    (x_MarkError_4 : PySem.W.exmOne K (.ref C4) (.ref C0) = some true)
    (x_MarkError_5 : PySem.W.exmOne K (.ref C5) (.ref C0) = some true)
    (a_rises : PySem.W.nsIn K mainGlobals "rises" = some (some (.ref f_rises)))
    (l_rises : K.lookup f_rises = some ⟨oc_rises, od_rises, .func (PySem.W.fnOf "rises" "rises" (defArgs s_rises) (defBody s_rises) (defScope s_rises) .none kV_rises dc_rises pm_rises an_rises cd_rises ct_rises), sl_rises⟩)
    (c_rises : PySem.W.codeIn K cd_rises "rises" = true)
    (e_rises : PySem.W.keepIn K (.ref f_rises) = true)
    (a_is_set : PySem.W.nsIn K mainGlobals "is_set" = some (some (.ref f_is_set)))
    (l_is_set : K.lookup f_is_set = some ⟨oc_is_set, od_is_set, .func (PySem.W.fnOf "is_set" "is_set" (defArgs s_is_set) (defBody s_is_set) (defScope s_is_set) .none kV_is_set dc_is_set pm_is_set an_is_set cd_is_set ct_is_set), sl_is_set⟩)
    (c_is_set : PySem.W.codeIn K cd_is_set "is_set" = true)
    (e_is_set : PySem.W.keepIn K (.ref f_is_set) = true)
    (a_is_line : PySem.W.nsIn K mainGlobals "is_line" = some (some (.ref f_is_line)))
    (l_is_line : K.lookup f_is_line = some ⟨oc_is_line, od_is_line, .func (PySem.W.fnOf "is_line" "is_line" (defArgs s_is_line) (defBody s_is_line) (defScope s_is_line) .none kV_is_line dc_is_line pm_is_line an_is_line cd_is_line ct_is_line), sl_is_line⟩)
    (c_is_line : PySem.W.codeIn K cd_is_line "is_line" = true)
    (e_is_line : PySem.W.keepIn K (.ref f_is_line) = true)
    (a_look_web : PySem.W.nsIn K mainGlobals "look_web" = some (some (.ref f_look_web)))
    (l_look_web : K.lookup f_look_web = some ⟨oc_look_web, od_look_web, .func (PySem.W.fnOf "look_web" "look_web" (defArgs s_look_web) (defBody s_look_web) (defScope s_look_web) .none kV_look_web dc_look_web pm_look_web an_look_web cd_look_web ct_look_web), sl_look_web⟩)
    (c_look_web : PySem.W.codeIn K cd_look_web "look_web" = true)
    (e_look_web : PySem.W.keepIn K (.ref f_look_web) = true)
    (a_look_set : PySem.W.nsIn K mainGlobals "look_set" = some (some (.ref f_look_set)))
    (l_look_set : K.lookup f_look_set = some ⟨oc_look_set, od_look_set, .func (PySem.W.fnOf "look_set" "look_set" (defArgs s_look_set) (defBody s_look_set) (defScope s_look_set) .none kV_look_set dc_look_set pm_look_set an_look_set cd_look_set ct_look_set), sl_look_set⟩)
    (c_look_set : PySem.W.codeIn K cd_look_set "look_set" = true)
    (e_look_set : PySem.W.keepIn K (.ref f_look_set) = true)
    (a_near_lists : PySem.W.nsIn K mainGlobals "near_lists" = some (some (.ref f_near_lists)))
    (l_near_lists : K.lookup f_near_lists = some ⟨oc_near_lists, od_near_lists, .func (PySem.W.fnOf "near_lists" "near_lists" (defArgs s_near_lists) (defBody s_near_lists) (defScope s_near_lists) .none kV_near_lists dc_near_lists pm_near_lists an_near_lists cd_near_lists ct_near_lists), sl_near_lists⟩)
    (c_near_lists : PySem.W.codeIn K cd_near_lists "near_lists" = true)
    (e_near_lists : PySem.W.keepIn K (.ref f_near_lists) = true)
    (a_with_more : PySem.W.nsIn K mainGlobals "with_more" = some (some (.ref f_with_more)))
    (l_with_more : K.lookup f_with_more = some ⟨oc_with_more, od_with_more, .func (PySem.W.fnOf "with_more" "with_more" (defArgs s_with_more) (defBody s_with_more) (defScope s_with_more) .none kV_with_more dc_with_more pm_with_more an_with_more cd_with_more ct_with_more), sl_with_more⟩)
    (c_with_more : PySem.W.codeIn K cd_with_more "with_more" = true)
    (e_with_more : PySem.W.keepIn K (.ref f_with_more) = true)
    (a_steps_from : PySem.W.nsIn K mainGlobals "steps_from" = some (some (.ref f_steps_from)))
    (l_steps_from : K.lookup f_steps_from = some ⟨oc_steps_from, od_steps_from, .func (PySem.W.fnOf "steps_from" "steps_from" (defArgs s_steps_from) (defBody s_steps_from) (defScope s_steps_from) .none kV_steps_from dc_steps_from pm_steps_from an_steps_from cd_steps_from ct_steps_from), sl_steps_from⟩)
    (c_steps_from : PySem.W.codeIn K cd_steps_from "steps_from" = true)
    (e_steps_from : PySem.W.keepIn K (.ref f_steps_from) = true)
    (a_marked_behind : PySem.W.nsIn K mainGlobals "marked_behind" = some (some (.ref f_marked_behind)))
    (l_marked_behind : K.lookup f_marked_behind = some ⟨oc_marked_behind, od_marked_behind, .func (PySem.W.fnOf "marked_behind" "marked_behind" (defArgs s_marked_behind) (defBody s_marked_behind) (defScope s_marked_behind) .none kV_marked_behind dc_marked_behind pm_marked_behind an_marked_behind cd_marked_behind ct_marked_behind), sl_marked_behind⟩)
    (c_marked_behind : PySem.W.codeIn K cd_marked_behind "marked_behind" = true)
    (e_marked_behind : PySem.W.keepIn K (.ref f_marked_behind) = true)
    (a_rounds_from : PySem.W.nsIn K mainGlobals "rounds_from" = some (some (.ref f_rounds_from)))
    (l_rounds_from : K.lookup f_rounds_from = some ⟨oc_rounds_from, od_rounds_from, .func (PySem.W.fnOf "rounds_from" "rounds_from" (defArgs s_rounds_from) (defBody s_rounds_from) (defScope s_rounds_from) .none kV_rounds_from dc_rounds_from pm_rounds_from an_rounds_from cd_rounds_from ct_rounds_from), sl_rounds_from⟩)
    (c_rounds_from : PySem.W.codeIn K cd_rounds_from "rounds_from" = true)
    (e_rounds_from : PySem.W.keepIn K (.ref f_rounds_from) = true)
    (a_closure_from : PySem.W.nsIn K mainGlobals "closure_from" = some (some (.ref f_closure_from)))
    (l_closure_from : K.lookup f_closure_from = some ⟨oc_closure_from, od_closure_from, .func (PySem.W.fnOf "closure_from" "closure_from" (defArgs s_closure_from) (defBody s_closure_from) (defScope s_closure_from) .none kV_closure_from dc_closure_from pm_closure_from an_closure_from cd_closure_from ct_closure_from), sl_closure_from⟩)
    (c_closure_from : PySem.W.codeIn K cd_closure_from "closure_from" = true)
    (e_closure_from : PySem.W.keepIn K (.ref f_closure_from) = true)
    (a_marks_all_from : PySem.W.nsIn K mainGlobals "marks_all_from" = some (some (.ref f_marks_all_from)))
    (l_marks_all_from : K.lookup f_marks_all_from = some ⟨oc_marks_all_from, od_marks_all_from, .func (PySem.W.fnOf "marks_all_from" "marks_all_from" (defArgs s_marks_all_from) (defBody s_marks_all_from) (defScope s_marks_all_from) .none kV_marks_all_from dc_marks_all_from pm_marks_all_from an_marks_all_from cd_marks_all_from ct_marks_all_from), sl_marks_all_from⟩)
    (c_marks_all_from : PySem.W.codeIn K cd_marks_all_from "marks_all_from" = true)
    (e_marks_all_from : PySem.W.keepIn K (.ref f_marks_all_from) = true)
    (a_steps_at : PySem.W.nsIn K mainGlobals "steps_at" = some (some (.ref f_steps_at)))
    (l_steps_at : K.lookup f_steps_at = some ⟨oc_steps_at, od_steps_at, .func (PySem.W.fnOf "steps_at" "steps_at" (defArgs s_steps_at) (defBody s_steps_at) (defScope s_steps_at) .none kV_steps_at dc_steps_at pm_steps_at an_steps_at cd_steps_at ct_steps_at), sl_steps_at⟩)
    (c_steps_at : PySem.W.codeIn K cd_steps_at "steps_at" = true)
    (e_steps_at : PySem.W.keepIn K (.ref f_steps_at) = true)
    (a_rounds : PySem.W.nsIn K mainGlobals "rounds" = some (some (.ref f_rounds)))
    (l_rounds : K.lookup f_rounds = some ⟨oc_rounds, od_rounds, .func (PySem.W.fnOf "rounds" "rounds" (defArgs s_rounds) (defBody s_rounds) (defScope s_rounds) .none kV_rounds dc_rounds pm_rounds an_rounds cd_rounds ct_rounds), sl_rounds⟩)
    (c_rounds : PySem.W.codeIn K cd_rounds "rounds" = true)
    (e_rounds : PySem.W.keepIn K (.ref f_rounds) = true)
    (a_closure : PySem.W.nsIn K mainGlobals "closure" = some (some (.ref f_closure)))
    (l_closure : K.lookup f_closure = some ⟨oc_closure, od_closure, .func (PySem.W.fnOf "closure" "closure" (defArgs s_closure) (defBody s_closure) (defScope s_closure) .none kV_closure dc_closure pm_closure an_closure cd_closure ct_closure), sl_closure⟩)
    (c_closure : PySem.W.codeIn K cd_closure "closure" = true)
    (e_closure : PySem.W.keepIn K (.ref f_closure) = true)
    (a_marks_all : PySem.W.nsIn K mainGlobals "marks_all" = some (some (.ref f_marks_all)))
    (l_marks_all : K.lookup f_marks_all = some ⟨oc_marks_all, od_marks_all, .func (PySem.W.fnOf "marks_all" "marks_all" (defArgs s_marks_all) (defBody s_marks_all) (defScope s_marks_all) .none kV_marks_all dc_marks_all pm_marks_all an_marks_all cd_marks_all ct_marks_all), sl_marks_all⟩)
    (c_marks_all : PySem.W.codeIn K cd_marks_all "marks_all" = true)
    (e_marks_all : PySem.W.keepIn K (.ref f_marks_all) = true)
    (a_law_cell : PySem.W.nsIn K mainGlobals "_law_cell" = some (some (.ref f_law_cell)))
    (l_law_cell : K.lookup f_law_cell = some ⟨oc_law_cell, od_law_cell, .func (PySem.W.fnOf "_law_cell" "_law_cell" (defArgs s_law_cell) (defBody s_law_cell) (defScope s_law_cell) .none kV_law_cell dc_law_cell pm_law_cell an_law_cell cd_law_cell ct_law_cell), sl_law_cell⟩)
    (c_law_cell : PySem.W.codeIn K cd_law_cell "_law_cell" = true)
    (e_law_cell : PySem.W.keepIn K (.ref f_law_cell) = true)
    (a_law_mix : PySem.W.nsIn K mainGlobals "_law_mix" = some (some (.ref f_law_mix)))
    (l_law_mix : K.lookup f_law_mix = some ⟨oc_law_mix, od_law_mix, .func (PySem.W.fnOf "_law_mix" "_law_mix" (defArgs s_law_mix) (defBody s_law_mix) (defScope s_law_mix) .none kV_law_mix dc_law_mix pm_law_mix an_law_mix cd_law_mix ct_law_mix), sl_law_mix⟩)
    (c_law_mix : PySem.W.codeIn K cd_law_mix "_law_mix" = true)
    (e_law_mix : PySem.W.keepIn K (.ref f_law_mix) = true)
    (a_law_web : PySem.W.nsIn K mainGlobals "_law_web" = some (some (.ref f_law_web)))
    (l_law_web : K.lookup f_law_web = some ⟨oc_law_web, od_law_web, .func (PySem.W.fnOf "_law_web" "_law_web" (defArgs s_law_web) (defBody s_law_web) (defScope s_law_web) .none kV_law_web dc_law_web pm_law_web an_law_web cd_law_web ct_law_web), sl_law_web⟩)
    (c_law_web : PySem.W.codeIn K cd_law_web "_law_web" = true)
    (e_law_web : PySem.W.keepIn K (.ref f_law_web) = true)
    (a_law_set : PySem.W.nsIn K mainGlobals "_law_set" = some (some (.ref f_law_set)))
    (l_law_set : K.lookup f_law_set = some ⟨oc_law_set, od_law_set, .func (PySem.W.fnOf "_law_set" "_law_set" (defArgs s_law_set) (defBody s_law_set) (defScope s_law_set) .none kV_law_set dc_law_set pm_law_set an_law_set cd_law_set ct_law_set), sl_law_set⟩)
    (c_law_set : PySem.W.codeIn K cd_law_set "_law_set" = true)
    (e_law_set : PySem.W.keepIn K (.ref f_law_set) = true)
    (a_law_near : PySem.W.nsIn K mainGlobals "_law_near" = some (some (.ref f_law_near)))
    (l_law_near : K.lookup f_law_near = some ⟨oc_law_near, od_law_near, .func (PySem.W.fnOf "_law_near" "_law_near" (defArgs s_law_near) (defBody s_law_near) (defScope s_law_near) .none kV_law_near dc_law_near pm_law_near an_law_near cd_law_near ct_law_near), sl_law_near⟩)
    (c_law_near : PySem.W.codeIn K cd_law_near "_law_near" = true)
    (e_law_near : PySem.W.keepIn K (.ref f_law_near) = true)
    (a_law_steps : PySem.W.nsIn K mainGlobals "_law_steps" = some (some (.ref f_law_steps)))
    (l_law_steps : K.lookup f_law_steps = some ⟨oc_law_steps, od_law_steps, .func (PySem.W.fnOf "_law_steps" "_law_steps" (defArgs s_law_steps) (defBody s_law_steps) (defScope s_law_steps) .none kV_law_steps dc_law_steps pm_law_steps an_law_steps cd_law_steps ct_law_steps), sl_law_steps⟩)
    (c_law_steps : PySem.W.codeIn K cd_law_steps "_law_steps" = true)
    (e_law_steps : PySem.W.keepIn K (.ref f_law_steps) = true)
    (a_law_closure : PySem.W.nsIn K mainGlobals "_law_closure" = some (some (.ref f_law_closure)))
    (l_law_closure : K.lookup f_law_closure = some ⟨oc_law_closure, od_law_closure, .func (PySem.W.fnOf "_law_closure" "_law_closure" (defArgs s_law_closure) (defBody s_law_closure) (defScope s_law_closure) .none kV_law_closure dc_law_closure pm_law_closure an_law_closure cd_law_closure ct_law_closure), sl_law_closure⟩)
    (c_law_closure : PySem.W.codeIn K cd_law_closure "_law_closure" = true)
    (e_law_closure : PySem.W.keepIn K (.ref f_law_closure) = true)
    (a_law_refusal : PySem.W.nsIn K mainGlobals "_law_refusal" = some (some (.ref f_law_refusal)))
    (l_law_refusal : K.lookup f_law_refusal = some ⟨oc_law_refusal, od_law_refusal, .func (PySem.W.fnOf "_law_refusal" "_law_refusal" (defArgs s_law_refusal) (defBody s_law_refusal) (defScope s_law_refusal) .none kV_law_refusal dc_law_refusal pm_law_refusal an_law_refusal cd_law_refusal ct_law_refusal), sl_law_refusal⟩)
    (c_law_refusal : PySem.W.codeIn K cd_law_refusal "_law_refusal" = true)
    (e_law_refusal : PySem.W.keepIn K (.ref f_law_refusal) = true)
    (a_law_told : PySem.W.nsIn K mainGlobals "_law_told" = some (some (.ref f_law_told)))
    (l_law_told : K.lookup f_law_told = some ⟨oc_law_told, od_law_told, .func (PySem.W.fnOf "_law_told" "_law_told" (defArgs s_law_told) (defBody s_law_told) (defScope s_law_told) .none kV_law_told dc_law_told pm_law_told an_law_told cd_law_told ct_law_told), sl_law_told⟩)
    (c_law_told : PySem.W.codeIn K cd_law_told "_law_told" = true)
    (e_law_told : PySem.W.keepIn K (.ref f_law_told) = true)
    (a_law_spoilt : PySem.W.nsIn K mainGlobals "_law_spoilt" = some (some (.ref f_law_spoilt)))
    (l_law_spoilt : K.lookup f_law_spoilt = some ⟨oc_law_spoilt, od_law_spoilt, .func (PySem.W.fnOf "_law_spoilt" "_law_spoilt" (defArgs s_law_spoilt) (defBody s_law_spoilt) (defScope s_law_spoilt) .none kV_law_spoilt dc_law_spoilt pm_law_spoilt an_law_spoilt cd_law_spoilt ct_law_spoilt), sl_law_spoilt⟩)
    (c_law_spoilt : PySem.W.codeIn K cd_law_spoilt "_law_spoilt" = true)
    (e_law_spoilt : PySem.W.keepIn K (.ref f_law_spoilt) = true)
    (a_law_rounds : PySem.W.nsIn K mainGlobals "_law_rounds" = some (some (.ref f_law_rounds)))
    (l_law_rounds : K.lookup f_law_rounds = some ⟨oc_law_rounds, od_law_rounds, .func (PySem.W.fnOf "_law_rounds" "_law_rounds" (defArgs s_law_rounds) (defBody s_law_rounds) (defScope s_law_rounds) .none kV_law_rounds dc_law_rounds pm_law_rounds an_law_rounds cd_law_rounds ct_law_rounds), sl_law_rounds⟩)
    (c_law_rounds : PySem.W.codeIn K cd_law_rounds "_law_rounds" = true)
    (e_law_rounds : PySem.W.keepIn K (.ref f_law_rounds) = true)
    (a_law : PySem.W.nsIn K mainGlobals "law" = some (some (.ref f_law)))
    (l_law : K.lookup f_law = some ⟨oc_law, od_law, .func (PySem.W.fnOf "law" "law" (defArgs s_law) (defBody s_law) (defScope s_law) .none kV_law dc_law pm_law an_law cd_law ct_law), sl_law⟩)
    (c_law : PySem.W.codeIn K cd_law "law" = true)
    (e_law : PySem.W.keepIn K (.ref f_law) = true)
    : ∃ fd : FuncData, (∀ (s : Shared) (v : Value), BindsTo s fd ⟨[v], []⟩ [("_law_script", v)]) ∧ ∀ base : Heap, K.In base → base.Ns mainGlobals mg → FnOk l.prog w K mg base (CXm l.prog w) 8 fa fd ["_law_script"] (spLaw K) := by
  have e := hfa.symm.trans (PySem.W.mg_of X G a_law)
  cases e
  have F_rises := fun_mk (st := s_rises) l_rises c_rises e_rises
  have D_rises : DefOk K mg "rises" s_rises ["things"] := ⟨_, _, F_rises, PySem.W.mg_of X G a_rises, F_rises.binds (ps := ["things"]) fun _ _ _ _ _ _ us hl => match us, hl with | [_], _ => rfl⟩
  have F_is_set := fun_mk (st := s_is_set) l_is_set c_is_set e_is_set
  have D_is_set : DefOk K mg "is_set" s_is_set ["count", "some"] := ⟨_, _, F_is_set, PySem.W.mg_of X G a_is_set, F_is_set.binds (ps := ["count", "some"]) fun _ _ _ _ _ _ us hl => match us, hl with | [_, _], _ => rfl⟩
  have F_is_line := fun_mk (st := s_is_line) l_is_line c_is_line e_is_line
  have D_is_line : DefOk K mg "is_line" s_is_line ["count", "line"] := ⟨_, _, F_is_line, PySem.W.mg_of X G a_is_line, F_is_line.binds (ps := ["count", "line"]) fun _ _ _ _ _ _ us hl => match us, hl with | [_, _], _ => rfl⟩
  have F_look_web := fun_mk (st := s_look_web) l_look_web c_look_web e_look_web
  have D_look_web : DefOk K mg "look_web" s_look_web ["web"] := ⟨_, _, F_look_web, PySem.W.mg_of X G a_look_web, F_look_web.binds (ps := ["web"]) fun _ _ _ _ _ _ us hl => match us, hl with | [_], _ => rfl⟩
  have F_look_set := fun_mk (st := s_look_set) l_look_set c_look_set e_look_set
  have D_look_set : DefOk K mg "look_set" s_look_set ["web", "some"] := ⟨_, _, F_look_set, PySem.W.mg_of X G a_look_set, F_look_set.binds (ps := ["web", "some"]) fun _ _ _ _ _ _ us hl => match us, hl with | [_, _], _ => rfl⟩
  have F_near_lists := fun_mk (st := s_near_lists) l_near_lists c_near_lists e_near_lists
  have D_near_lists : DefOk K mg "near_lists" s_near_lists ["web"] := ⟨_, _, F_near_lists, PySem.W.mg_of X G a_near_lists, F_near_lists.binds (ps := ["web"]) fun _ _ _ _ _ _ us hl => match us, hl with | [_], _ => rfl⟩
  have F_with_more := fun_mk (st := s_with_more) l_with_more c_with_more e_with_more
  have D_with_more : DefOk K mg "with_more" s_with_more ["some", "more"] := ⟨_, _, F_with_more, PySem.W.mg_of X G a_with_more, F_with_more.binds (ps := ["some", "more"]) fun _ _ _ _ _ _ us hl => match us, hl with | [_, _], _ => rfl⟩
  have F_steps_from := fun_mk (st := s_steps_from) l_steps_from c_steps_from e_steps_from
  have D_steps_from : DefOk K mg "steps_from" s_steps_from ["near", "marked"] := ⟨_, _, F_steps_from, PySem.W.mg_of X G a_steps_from, F_steps_from.binds (ps := ["near", "marked"]) fun _ _ _ _ _ _ us hl => match us, hl with | [_, _], _ => rfl⟩
  have F_marked_behind := fun_mk (st := s_marked_behind) l_marked_behind c_marked_behind e_marked_behind
  have D_marked_behind : DefOk K mg "marked_behind" s_marked_behind ["marked", "steps"] := ⟨_, _, F_marked_behind, PySem.W.mg_of X G a_marked_behind, F_marked_behind.binds (ps := ["marked", "steps"]) fun _ _ _ _ _ _ us hl => match us, hl with | [_, _], _ => rfl⟩
  have F_rounds_from := fun_mk (st := s_rounds_from) l_rounds_from c_rounds_from e_rounds_from
  have D_rounds_from : DefOk K mg "rounds_from" s_rounds_from ["near", "some"] := ⟨_, _, F_rounds_from, PySem.W.mg_of X G a_rounds_from, F_rounds_from.binds (ps := ["near", "some"]) fun _ _ _ _ _ _ us hl => match us, hl with | [_, _], _ => rfl⟩
  have F_closure_from := fun_mk (st := s_closure_from) l_closure_from c_closure_from e_closure_from
  have D_closure_from : DefOk K mg "closure_from" s_closure_from ["near", "some"] := ⟨_, _, F_closure_from, PySem.W.mg_of X G a_closure_from, F_closure_from.binds (ps := ["near", "some"]) fun _ _ _ _ _ _ us hl => match us, hl with | [_, _], _ => rfl⟩
  have F_marks_all_from := fun_mk (st := s_marks_all_from) l_marks_all_from c_marks_all_from e_marks_all_from
  have D_marks_all_from : DefOk K mg "marks_all_from" s_marks_all_from ["near", "some"] := ⟨_, _, F_marks_all_from, PySem.W.mg_of X G a_marks_all_from, F_marks_all_from.binds (ps := ["near", "some"]) fun _ _ _ _ _ _ us hl => match us, hl with | [_, _], _ => rfl⟩
  have F_steps_at := fun_mk (st := s_steps_at) l_steps_at c_steps_at e_steps_at
  have D_steps_at : DefOk K mg "steps_at" s_steps_at ["web", "some"] := ⟨_, _, F_steps_at, PySem.W.mg_of X G a_steps_at, F_steps_at.binds (ps := ["web", "some"]) fun _ _ _ _ _ _ us hl => match us, hl with | [_, _], _ => rfl⟩
  have F_rounds := fun_mk (st := s_rounds) l_rounds c_rounds e_rounds
  have D_rounds : DefOk K mg "rounds" s_rounds ["web", "some"] := ⟨_, _, F_rounds, PySem.W.mg_of X G a_rounds, F_rounds.binds (ps := ["web", "some"]) fun _ _ _ _ _ _ us hl => match us, hl with | [_, _], _ => rfl⟩
  have F_closure := fun_mk (st := s_closure) l_closure c_closure e_closure
  have D_closure : DefOk K mg "closure" s_closure ["web", "some"] := ⟨_, _, F_closure, PySem.W.mg_of X G a_closure, F_closure.binds (ps := ["web", "some"]) fun _ _ _ _ _ _ us hl => match us, hl with | [_, _], _ => rfl⟩
  have F_marks_all := fun_mk (st := s_marks_all) l_marks_all c_marks_all e_marks_all
  have D_marks_all : DefOk K mg "marks_all" s_marks_all ["web", "some"] := ⟨_, _, F_marks_all, PySem.W.mg_of X G a_marks_all, F_marks_all.binds (ps := ["web", "some"]) fun _ _ _ _ _ _ us hl => match us, hl with | [_, _], _ => rfl⟩
  have F_law_cell := fun_mk (st := s_law_cell) l_law_cell c_law_cell e_law_cell
  have D_law_cell : DefOk K mg "_law_cell" s_law_cell ["_law_script", "_law_k"] := ⟨_, _, F_law_cell, PySem.W.mg_of X G a_law_cell, F_law_cell.binds (ps := ["_law_script", "_law_k"]) fun _ _ _ _ _ _ us hl => match us, hl with | [_, _], _ => rfl⟩
  have F_law_mix := fun_mk (st := s_law_mix) l_law_mix c_law_mix e_law_mix
  have D_law_mix : DefOk K mg "_law_mix" s_law_mix ["_law_script", "_law_k"] := ⟨_, _, F_law_mix, PySem.W.mg_of X G a_law_mix, F_law_mix.binds (ps := ["_law_script", "_law_k"]) fun _ _ _ _ _ _ us hl => match us, hl with | [_, _], _ => rfl⟩
  have F_law_web := fun_mk (st := s_law_web) l_law_web c_law_web e_law_web
  have D_law_web : DefOk K mg "_law_web" s_law_web ["_law_script", "_law_k", "_law_most"] := ⟨_, _, F_law_web, PySem.W.mg_of X G a_law_web, F_law_web.binds (ps := ["_law_script", "_law_k", "_law_most"]) fun _ _ _ _ _ _ us hl => match us, hl with | [_, _, _], _ => rfl⟩
  have F_law_set := fun_mk (st := s_law_set) l_law_set c_law_set e_law_set
  have D_law_set : DefOk K mg "_law_set" s_law_set ["_law_script", "_law_k", "_law_many"] := ⟨_, _, F_law_set, PySem.W.mg_of X G a_law_set, F_law_set.binds (ps := ["_law_script", "_law_k", "_law_many"]) fun _ _ _ _ _ _ us hl => match us, hl with | [_, _, _], _ => rfl⟩
  have F_law_near := fun_mk (st := s_law_near) l_law_near c_law_near e_law_near
  have D_law_near : DefOk K mg "_law_near" s_law_near ["_law_web_here", "_law_spot"] := ⟨_, _, F_law_near, PySem.W.mg_of X G a_law_near, F_law_near.binds (ps := ["_law_web_here", "_law_spot"]) fun _ _ _ _ _ _ us hl => match us, hl with | [_, _], _ => rfl⟩
  have F_law_steps := fun_mk (st := s_law_steps) l_law_steps c_law_steps e_law_steps
  have D_law_steps : DefOk K mg "_law_steps" s_law_steps ["_law_web_here", "_law_some"] := ⟨_, _, F_law_steps, PySem.W.mg_of X G a_law_steps, F_law_steps.binds (ps := ["_law_web_here", "_law_some"]) fun _ _ _ _ _ _ us hl => match us, hl with | [_, _], _ => rfl⟩
  have F_law_closure := fun_mk (st := s_law_closure) l_law_closure c_law_closure e_law_closure
  have D_law_closure : DefOk K mg "_law_closure" s_law_closure ["_law_web_here", "_law_some"] := ⟨_, _, F_law_closure, PySem.W.mg_of X G a_law_closure, F_law_closure.binds (ps := ["_law_web_here", "_law_some"]) fun _ _ _ _ _ _ us hl => match us, hl with | [_, _], _ => rfl⟩
  have F_law_refusal := fun_mk (st := s_law_refusal) l_law_refusal c_law_refusal e_law_refusal
  have D_law_refusal : DefOk K mg "_law_refusal" s_law_refusal ["_law_kept"] := ⟨_, _, F_law_refusal, PySem.W.mg_of X G a_law_refusal, F_law_refusal.binds (ps := ["_law_kept"]) fun _ _ _ _ _ _ us hl => match us, hl with | [_], _ => rfl⟩
  have F_law_told := fun_mk (st := s_law_told) l_law_told c_law_told e_law_told
  have D_law_told : DefOk K mg "_law_told" s_law_told ["_law_way", "_law_web_here", "_law_some"] := ⟨_, _, F_law_told, PySem.W.mg_of X G a_law_told, F_law_told.binds (ps := ["_law_way", "_law_web_here", "_law_some"]) fun _ _ _ _ _ _ us hl => match us, hl with | [_, _, _], _ => rfl⟩
  have F_law_spoilt := fun_mk (st := s_law_spoilt) l_law_spoilt c_law_spoilt e_law_spoilt
  have D_law_spoilt : DefOk K mg "_law_spoilt" s_law_spoilt ["_law_web_here", "_law_number"] := ⟨_, _, F_law_spoilt, PySem.W.mg_of X G a_law_spoilt, F_law_spoilt.binds (ps := ["_law_web_here", "_law_number"]) fun _ _ _ _ _ _ us hl => match us, hl with | [_, _], _ => rfl⟩
  have F_law_rounds := fun_mk (st := s_law_rounds) l_law_rounds c_law_rounds e_law_rounds
  have D_law_rounds : DefOk K mg "_law_rounds" s_law_rounds ["_law_web_here", "_law_some"] := ⟨_, _, F_law_rounds, PySem.W.mg_of X G a_law_rounds, F_law_rounds.binds (ps := ["_law_web_here", "_law_some"]) fun _ _ _ _ _ _ us hl => match us, hl with | [_, _], _ => rfl⟩
  have F_law := fun_mk (st := s_law) l_law c_law e_law
  have D_law : DefOk K mg "law" s_law ["_law_script"] := ⟨_, _, F_law, PySem.W.mg_of X G a_law, F_law.binds (ps := ["_law_script"]) fun _ _ _ _ _ _ us hl => match us, hl with | [_], _ => rfl⟩
  have T : Txt K mg (adOf C0 C1 C2 C3 C4 C5) := {
    n_ValueError := PySem.W.mg_none_of X G z_ValueError
    n_all := PySem.W.mg_none_of X G z_all
    n_bool := PySem.W.mg_none_of X G z_bool
    n_isinstance := PySem.W.mg_none_of X G z_isinstance
    n_len := PySem.W.mg_none_of X G z_len
    n_list := PySem.W.mg_none_of X G z_list
    n_range := PySem.W.mg_none_of X G z_range
    n_set := PySem.W.mg_none_of X G z_set
    n_sorted := PySem.W.mg_none_of X G z_sorted
    n_tuple := PySem.W.mg_none_of X G z_tuple
    g_MOST_SPOTS := ⟨_, PySem.W.mg_of X G g_MOST_SPOTS⟩
    c_MarkError := ⟨PySem.W.mg_of X G ca_0, cx_0⟩
    c_BadWeb := ⟨PySem.W.mg_of X G ca_1, cx_1⟩
    c_BadSet := ⟨PySem.W.mg_of X G ca_2, cx_2⟩
    c_BadSteps := ⟨PySem.W.mg_of X G ca_3, cx_3⟩
    c_BadTree := ⟨PySem.W.mg_of X G ca_4, cx_4⟩
    c_BadText := ⟨PySem.W.mg_of X G ca_5, cx_5⟩
    isi := ⟨clss_all ⟨⟨⟨ci_0, cj_0, ck_0, cg, ct, cl_0, cm_0⟩, cls_some cn_0⟩, ⟨⟨ci_1, cj_1, ck_1, cg, ct, cl_1, cm_1⟩, cls_some cn_1⟩, ⟨⟨ci_2, cj_2, ck_2, cg, ct, cl_2, cm_2⟩, cls_some cn_2⟩, ⟨⟨ci_3, cj_3, ck_3, cg, ct, cl_3, cm_3⟩, cls_some cn_3⟩, ⟨⟨ci_4, cj_4, ck_4, cg, ct, cl_4, cm_4⟩, cls_some cn_4⟩, ⟨⟨ci_5, cj_5, ck_5, cg, ct, cl_5, cm_5⟩, cls_some cn_5⟩⟩⟩
    k_BadSet := clss_all ⟨k_BadSet_0, k_BadSet_1, k_BadSet_2, k_BadSet_3, k_BadSet_4, k_BadSet_5⟩
    k_BadSteps := clss_all ⟨k_BadSteps_0, k_BadSteps_1, k_BadSteps_2, k_BadSteps_3, k_BadSteps_4, k_BadSteps_5⟩
    k_BadText := clss_all ⟨k_BadText_0, k_BadText_1, k_BadText_2, k_BadText_3, k_BadText_4, k_BadText_5⟩
    k_BadTree := clss_all ⟨k_BadTree_0, k_BadTree_1, k_BadTree_2, k_BadTree_3, k_BadTree_4, k_BadTree_5⟩
    k_BadWeb := clss_all ⟨k_BadWeb_0, k_BadWeb_1, k_BadWeb_2, k_BadWeb_3, k_BadWeb_4, k_BadWeb_5⟩
    k_ValueError := clss_all ⟨k_ValueError_0, k_ValueError_1, k_ValueError_2, k_ValueError_3, k_ValueError_4, k_ValueError_5⟩
    k_bool := kb
    x_MarkError := fun n hn => by rw [Bool.and_eq_true] at hn; revert hn; rintro ⟨h1, h2⟩; revert h2; revert h1; revert n; exact clss_all ⟨fun _ => x_MarkError_0, fun _ => x_MarkError_1, fun _ => x_MarkError_2, fun _ => x_MarkError_3, fun _ => x_MarkError_4, fun _ => x_MarkError_5⟩
    d_rises := D_rises
    d_is_set := D_is_set
    d_is_line := D_is_line
    d_look_web := D_look_web
    d_look_set := D_look_set
    d_near_lists := D_near_lists
    d_with_more := D_with_more
    d_steps_from := D_steps_from
    d_marked_behind := D_marked_behind
    d_rounds_from := D_rounds_from
    d_closure_from := D_closure_from
    d_marks_all_from := D_marks_all_from
    d_steps_at := D_steps_at
    d_rounds := D_rounds
    d_closure := D_closure
    d_marks_all := D_marks_all
    d_law_cell := D_law_cell
    d_law_mix := D_law_mix
    d_law_web := D_law_web
    d_law_set := D_law_set
    d_law_near := D_law_near
    d_law_steps := D_law_steps
    d_law_closure := D_law_closure
    d_law_refusal := D_law_refusal
    d_law_told := D_law_told
    d_law_spoilt := D_law_spoilt
    d_law_rounds := D_law_rounds
    d_law := D_law
  }
  exact ⟨PySem.W.fnOf "law" "law" (defArgs s_law) (defBody s_law) (defScope s_law) .none kV_law dc_law pm_law an_law cd_law ct_law, fun s v => .of_eq rfl, fun base _ _ => law_of (fn_law F_law T) law_true⟩
end FW
open PySem PySem.W PyProof.Rows
set_option maxRecDepth 100000 in
set_option maxHeartbeats 0 in
theorem PySem.Challenge.cw_forcemark_k01_whole_closure_holds : PySem.Challenge.rw_forcemark_k01_whole_closure.Holds := by
  w_on; o_law; k_head; (case hw => w_witness2)
  k_fill
  refine L2.walk_law (l := PySem.Challenge.rw_forcemark_k01_whole_closure) (k := 8) (x := "_law_script") rfl rfl ⟨rfl, by decide, by decide⟩ (fun w h Y => PySem.W.kIn_of Y) ?F
  case F =>
    intro w mg fa h KX G hmg
    refine' FW.all_mk KX G hmg ?z_ValueError ?z_all ?z_bool ?z_isinstance ?z_len ?z_list ?z_range ?z_set ?z_sorted ?z_tuple ?g_MOST_SPOTS ?ca_0 ?cx_0 ?ci_0 ?cj_0 ?ck_0 ?cl_0 ?cm_0 ?cn_0 ?ca_1 ?cx_1 ?ci_1 ?cj_1 ?ck_1 ?cl_1 ?cm_1 ?cn_1 ?ca_2 ?cx_2 ?ci_2 ?cj_2 ?ck_2 ?cl_2 ?cm_2 ?cn_2 ?ca_3 ?cx_3 ?ci_3 ?cj_3 ?ck_3 ?cl_3 ?cm_3 ?cn_3 ?ca_4 ?cx_4 ?ci_4 ?cj_4 ?ck_4 ?cl_4 ?cm_4 ?cn_4 ?ca_5 ?cx_5 ?ci_5 ?cj_5 ?ck_5 ?cl_5 ?cm_5 ?cn_5 ?cg ?ct ?k_BadSet_0 ?k_BadSet_1 ?k_BadSet_2 ?k_BadSet_3 ?k_BadSet_4 ?k_BadSet_5 ?k_BadSteps_0 ?k_BadSteps_1 ?k_BadSteps_2 ?k_BadSteps_3 ?k_BadSteps_4 ?k_BadSteps_5 ?k_BadText_0 ?k_BadText_1 ?k_BadText_2 ?k_BadText_3 ?k_BadText_4 ?k_BadText_5 ?k_BadTree_0 ?k_BadTree_1 ?k_BadTree_2 ?k_BadTree_3 ?k_BadTree_4 ?k_BadTree_5 ?k_BadWeb_0 ?k_BadWeb_1 ?k_BadWeb_2 ?k_BadWeb_3 ?k_BadWeb_4 ?k_BadWeb_5 ?k_ValueError_0 ?k_ValueError_1 ?k_ValueError_2 ?k_ValueError_3 ?k_ValueError_4 ?k_ValueError_5 ?kb ?x_MarkError_0 ?x_MarkError_1 ?x_MarkError_2 ?x_MarkError_3 ?x_MarkError_4 ?x_MarkError_5 ?a_rises ?l_rises ?c_rises ?e_rises ?a_is_set ?l_is_set ?c_is_set ?e_is_set ?a_is_line ?l_is_line ?c_is_line ?e_is_line ?a_look_web ?l_look_web ?c_look_web ?e_look_web ?a_look_set ?l_look_set ?c_look_set ?e_look_set ?a_near_lists ?l_near_lists ?c_near_lists ?e_near_lists ?a_with_more ?l_with_more ?c_with_more ?e_with_more ?a_steps_from ?l_steps_from ?c_steps_from ?e_steps_from ?a_marked_behind ?l_marked_behind ?c_marked_behind ?e_marked_behind ?a_rounds_from ?l_rounds_from ?c_rounds_from ?e_rounds_from ?a_closure_from ?l_closure_from ?c_closure_from ?e_closure_from ?a_marks_all_from ?l_marks_all_from ?c_marks_all_from ?e_marks_all_from ?a_steps_at ?l_steps_at ?c_steps_at ?e_steps_at ?a_rounds ?l_rounds ?c_rounds ?e_rounds ?a_closure ?l_closure ?c_closure ?e_closure ?a_marks_all ?l_marks_all ?c_marks_all ?e_marks_all ?a_law_cell ?l_law_cell ?c_law_cell ?e_law_cell ?a_law_mix ?l_law_mix ?c_law_mix ?e_law_mix ?a_law_web ?l_law_web ?c_law_web ?e_law_web ?a_law_set ?l_law_set ?c_law_set ?e_law_set ?a_law_near ?l_law_near ?c_law_near ?e_law_near ?a_law_steps ?l_law_steps ?c_law_steps ?e_law_steps ?a_law_closure ?l_law_closure ?c_law_closure ?e_law_closure ?a_law_refusal ?l_law_refusal ?c_law_refusal ?e_law_refusal ?a_law_told ?l_law_told ?c_law_told ?e_law_told ?a_law_spoilt ?l_law_spoilt ?c_law_spoilt ?e_law_spoilt ?a_law_rounds ?l_law_rounds ?c_law_rounds ?e_law_rounds ?a_law ?l_law ?c_law ?e_law
    (case z_ValueError => k_is); (case z_all => k_is); (case z_bool => k_is); (case z_isinstance => k_is); (case z_len => k_is); (case z_list => k_is)
    (case z_range => k_is); (case z_set => k_is); (case z_sorted => k_is); (case z_tuple => k_is); (case g_MOST_SPOTS => k_is); (case ca_0 => k_is)
    (case cx_0 => k_exc); (case ci_0 => k_is); (case cj_0 => k_is); (case ck_0 => k_is); (case cl_0 => k_is); (case cm_0 => k_is)
    (case cn_0 => k_is); (case ca_1 => k_is); (case cx_1 => k_exc); (case ci_1 => k_is); (case cj_1 => k_is); (case ck_1 => k_is)
    (case cl_1 => k_is); (case cm_1 => k_is); (case cn_1 => k_is); (case ca_2 => k_is); (case cx_2 => k_exc); (case ci_2 => k_is)
    (case cj_2 => k_is); (case ck_2 => k_is); (case cl_2 => k_is); (case cm_2 => k_is); (case cn_2 => k_is); (case ca_3 => k_is)
    (case cx_3 => k_exc); (case ci_3 => k_is); (case cj_3 => k_is); (case ck_3 => k_is); (case cl_3 => k_is); (case cm_3 => k_is)
    (case cn_3 => k_is); (case ca_4 => k_is); (case cx_4 => k_exc); (case ci_4 => k_is); (case cj_4 => k_is); (case ck_4 => k_is)
    (case cl_4 => k_is); (case cm_4 => k_is); (case cn_4 => k_is); (case ca_5 => k_is); (case cx_5 => k_exc); (case ci_5 => k_is)
    (case cj_5 => k_is); (case ck_5 => k_is); (case cl_5 => k_is); (case cm_5 => k_is); (case cn_5 => k_is); (case cg => k_is)
    (case ct => k_is); (case k_BadSet_0 => kit_is); (case k_BadSet_1 => kit_is); (case k_BadSet_2 => kit_is); (case k_BadSet_3 => kit_is); (case k_BadSet_4 => kit_is)
    (case k_BadSet_5 => kit_is); (case k_BadSteps_0 => kit_is); (case k_BadSteps_1 => kit_is); (case k_BadSteps_2 => kit_is); (case k_BadSteps_3 => kit_is); (case k_BadSteps_4 => kit_is)
    (case k_BadSteps_5 => kit_is); (case k_BadText_0 => kit_is); (case k_BadText_1 => kit_is); (case k_BadText_2 => kit_is); (case k_BadText_3 => kit_is); (case k_BadText_4 => kit_is)
    (case k_BadText_5 => kit_is); (case k_BadTree_0 => kit_is); (case k_BadTree_1 => kit_is); (case k_BadTree_2 => kit_is); (case k_BadTree_3 => kit_is); (case k_BadTree_4 => kit_is)
    (case k_BadTree_5 => kit_is); (case k_BadWeb_0 => kit_is); (case k_BadWeb_1 => kit_is); (case k_BadWeb_2 => kit_is); (case k_BadWeb_3 => kit_is); (case k_BadWeb_4 => kit_is)
    (case k_BadWeb_5 => kit_is); (case k_ValueError_0 => kit_is); (case k_ValueError_1 => kit_is); (case k_ValueError_2 => kit_is); (case k_ValueError_3 => kit_is); (case k_ValueError_4 => kit_is)
    (case k_ValueError_5 => kit_is); (case kb => kit_is); (case x_MarkError_0 => kts_exm); (case x_MarkError_1 => kts_exm); (case x_MarkError_2 => kts_exm); (case x_MarkError_3 => kts_exm)
    (case x_MarkError_4 => kts_exm); (case x_MarkError_5 => kts_exm); (case a_rises => k_is); (case l_rises => k_is); (case c_rises => k_is); (case e_rises => k_is)
    (case a_is_set => k_is); (case l_is_set => k_is); (case c_is_set => k_is); (case e_is_set => k_is); (case a_is_line => k_is); (case l_is_line => k_is)
    (case c_is_line => k_is); (case e_is_line => k_is); (case a_look_web => k_is); (case l_look_web => k_is); (case c_look_web => k_is); (case e_look_web => k_is)
    (case a_look_set => k_is); (case l_look_set => k_is); (case c_look_set => k_is); (case e_look_set => k_is); (case a_near_lists => k_is); (case l_near_lists => k_is)
    (case c_near_lists => k_is); (case e_near_lists => k_is); (case a_with_more => k_is); (case l_with_more => k_is); (case c_with_more => k_is); (case e_with_more => k_is)
    (case a_steps_from => k_is); (case l_steps_from => k_is); (case c_steps_from => k_is); (case e_steps_from => k_is); (case a_marked_behind => k_is); (case l_marked_behind => k_is)
    (case c_marked_behind => k_is); (case e_marked_behind => k_is); (case a_rounds_from => k_is); (case l_rounds_from => k_is); (case c_rounds_from => k_is); (case e_rounds_from => k_is)
    (case a_closure_from => k_is); (case l_closure_from => k_is); (case c_closure_from => k_is); (case e_closure_from => k_is); (case a_marks_all_from => k_is); (case l_marks_all_from => k_is)
    (case c_marks_all_from => k_is); (case e_marks_all_from => k_is); (case a_steps_at => k_is); (case l_steps_at => k_is); (case c_steps_at => k_is); (case e_steps_at => k_is)
    (case a_rounds => k_is); (case l_rounds => k_is); (case c_rounds => k_is); (case e_rounds => k_is); (case a_closure => k_is); (case l_closure => k_is)
    (case c_closure => k_is); (case e_closure => k_is); (case a_marks_all => k_is); (case l_marks_all => k_is); (case c_marks_all => k_is); (case e_marks_all => k_is)
    (case a_law_cell => k_is); (case l_law_cell => k_is); (case c_law_cell => k_is); (case e_law_cell => k_is); (case a_law_mix => k_is); (case l_law_mix => k_is)
    (case c_law_mix => k_is); (case e_law_mix => k_is); (case a_law_web => k_is); (case l_law_web => k_is); (case c_law_web => k_is); (case e_law_web => k_is)
    (case a_law_set => k_is); (case l_law_set => k_is); (case c_law_set => k_is); (case e_law_set => k_is); (case a_law_near => k_is); (case l_law_near => k_is)
    (case c_law_near => k_is); (case e_law_near => k_is); (case a_law_steps => k_is); (case l_law_steps => k_is); (case c_law_steps => k_is); (case e_law_steps => k_is)
    (case a_law_closure => k_is); (case l_law_closure => k_is); (case c_law_closure => k_is); (case e_law_closure => k_is); (case a_law_refusal => k_is); (case l_law_refusal => k_is)
    (case c_law_refusal => k_is); (case e_law_refusal => k_is); (case a_law_told => k_is); (case l_law_told => k_is); (case c_law_told => k_is); (case e_law_told => k_is)
    (case a_law_spoilt => k_is); (case l_law_spoilt => k_is); (case c_law_spoilt => k_is); (case e_law_spoilt => k_is); (case a_law_rounds => k_is); (case l_law_rounds => k_is)
    (case c_law_rounds => k_is); (case e_law_rounds => k_is); (case a_law => k_is); (case l_law => k_is); (case c_law => k_is); (case e_law => k_is)
