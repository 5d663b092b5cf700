import PyProof.Rows.All
import Wide.All
import OpenK.AllK
import Wide.FinOn
import PyProof.EqAt
import PyProof.EqKinds
import PyProof.TupleCall
import KE.BitLaws
import KE.KLam
import KE.KNestM
import PySem.Challenge.RW_heapwright_k22_credits_told
set_option Elab.async false
set_option linter.all false
set_option maxRecDepth 100000
namespace L2
open PySem PySem.Spec PyProof.Rows
abbrev Key := Sum Int Str
def keyIs : Key → Value → Bool
  | .inl k, v => Value.isInt k v
  | .inr x, v => Value.isStrOf x v
def keyH (w : World) : Key → Int
  | .inl k => hashInt k
  | .inr x => hashStr w x
theorem keyIs_shape : ∀ {k : Key} {v : Value}, keyIs k v = true → (∃ i t, k = Sum.inl i ∧ v = Value.int i t) ∨ (∃ x t, k = Sum.inr x ∧ v = Value.str x t)
  | .inl i, v, h => by
    obtain ⟨t, e⟩ := Value.isInt_shape (k := i) (v := v) h
    exact .inl ⟨i, t, rfl, e⟩
  | .inr x, v, h => by
    obtain ⟨t, e⟩ := Value.isStrOf_shape (x := x) (v := v) h
    exact .inr ⟨x, t, rfl, e⟩
theorem keyIs_int (i : Int) (t : Tok) : keyIs (.inl i) (.int i t) = true := by simp [keyIs, Value.isInt]
theorem keyIs_str (x : Str) (t : Tok) : keyIs (.inr x) (.str x t) = true := by simp [keyIs, Value.isStrOf]
theorem key_ll (a b : Int) : decide ((Sum.inl a : Key) = Sum.inl b) = (a == b) := by
  by_cases e : a = b
  · subst e; simp
  · have h : ¬ (Sum.inl a : Key) = Sum.inl b := fun q => e (Sum.inl.inj q)
    rw [decide_eq_false h]
    exact (beq_eq_false_iff_ne.mpr e).symm
theorem key_rr (a b : Str) : decide ((Sum.inr a : Key) = Sum.inr b) = decide (a = b) := by
  by_cases e : a = b
  · subst e; simp
  · have h : ¬ (Sum.inr a : Key) = Sum.inr b := fun q => e (Sum.inr.inj q)
    rw [decide_eq_false h, decide_eq_false e]
theorem key_lr (a : Int) (b : Str) : decide ((Sum.inl a : Key) = Sum.inr b) = false := decide_eq_false (fun q => nomatch q)
theorem key_rl (a : Str) (b : Int) : decide ((Sum.inr a : Key) = Sum.inl b) = false := decide_eq_false (fun q => nomatch q)
def mixKind (prog : Program) (w : World) : PySem.KeyKind prog w Key where
  is := keyIs
  hash := keyH w
  inj := fun v a b ha hb => by
    rcases keyIs_shape ha with ⟨i, t, rfl, rfl⟩ | ⟨x, t, rfl, rfl⟩
    · rcases keyIs_shape hb with ⟨j, u, rfl, e⟩ | ⟨y, u, rfl, e⟩
      · injection e with e1 _; rw [e1]
      · exact nomatch e
    · rcases keyIs_shape hb with ⟨j, u, rfl, e⟩ | ⟨y, u, rfl, e⟩
      · exact nomatch e
      · injection e with e1 _; rw [e1]
  byValue := fun k v h => by
    rcases keyIs_shape h with ⟨i, t, rfl, rfl⟩ | ⟨x, t, rfl, rfl⟩ <;> rfl
  pyHash := fun hv h => by
    rcases keyIs_shape hv with ⟨i, t, rfl, rfl⟩ | ⟨x, t, rfl, rfl⟩
    · exact wpAny_pyHash_int h
    · exact wpAny_pyHash_str h
  eqBool := fun hu hv h => by
    rcases keyIs_shape hu with ⟨i, t, rfl, rfl⟩ | ⟨x, t, rfl, rfl⟩
    · rcases keyIs_shape hv with ⟨j, u, rfl, rfl⟩ | ⟨y, u, rfl, rfl⟩
      · rw [key_ll] at h; exact wpAny_eqBool_int h
      · rw [key_lr] at h; exact SeqAt.EqAt.int_str i t y u _ _ _ _ h
    · rcases keyIs_shape hv with ⟨j, u, rfl, rfl⟩ | ⟨y, u, rfl, rfl⟩
      · rw [key_rl] at h; exact SeqAt.EqAt.str_int x t j u _ _ _ _ h
      · rw [key_rr] at h; exact wpAny_eqBool_str h
  «strs» := fun k x t v h => by
    rcases keyIs_shape h with ⟨i, u, rfl, e⟩ | ⟨y, u, rfl, e⟩
    · exact nomatch e
    · injection e with e1 _
      subst e1
      cases v <;> rfl
theorem mixKind_int (prog : Program) (w : World) (i : Int) (t : Tok) : (mixKind prog w).is (.inl i) (.int i t) = true := keyIs_int i t
theorem mixKind_str (prog : Program) (w : World) (x : Str) (t : Tok) : (mixKind prog w).is (.inr x) (.str x t) = true := keyIs_str x t
end L2
namespace L2
open PySem PySem.Spec PyProof.Rows
inductive V where
  | non | bl (b : Bool) | int (i : Int) | str (x : Str) | byt (b : Array UInt8) | flt (b : UInt64) | ref (a : Addr) | ty (n : String)
  deriving DecidableEq
def RelV : V → Value → Prop
  | .non, u => u = Value.none
  | .bl b, u => u = Value.bool b
  | .int i, u => ∃ t, u = Value.int i t
  | .str x, u => ∃ t, u = Value.str x t
  | .byt b, u => ∃ t, u = Value.bytes b t
  | .flt b, u => ∃ t, u = Value.float b t
  | .ref a, u => u = Value.ref a
  | .ty n, u => u = Value.type n
abbrev Vals : List V → List Value → Prop := Paired RelV
theorem Vals.length {xs : List V} {us : List Value} (r : Vals xs us) : xs.length = us.length := Paired.length r
theorem Vals.get : ∀ {xs : List V} {us : List Value} {i : Nat} {x : V}, Vals xs us → xs[i]? = some x → ∃ u, us[i]? = some u ∧ RelV x u
  | _, _, _, _, .nil, e => by simp at e
  | _, _, 0, _, .cons r _, e => by simp at e; subst e; exact ⟨_, rfl, r⟩
  | _, _, i + 1, x, .cons _ t, e => by
    obtain ⟨u, h1, h2⟩ := Vals.get (i := i) (x := x) t (by simpa using e)
    exact ⟨u, by simpa using h1, h2⟩
theorem Vals.set {x : V} {u : Value} (r : RelV x u) : ∀ {xs : List V} {us : List Value} (i : Nat), Vals xs us → Vals (xs.set i x) (us.set i u)
  | _, _, _, .nil => .nil
  | _, _, 0, .cons _ t => .cons r t
  | _, _, i + 1, .cons q t => .cons q (Vals.set r i t)
theorem Vals.append : ∀ {xs ys : List V} {us ws : List Value}, Vals xs us → Vals ys ws → Vals (xs ++ ys) (us ++ ws)
  | _, _, _, _, .nil, s => s
  | _, _, _, _, .cons r t, s => .cons r (Vals.append t s)
theorem Vals.take : ∀ {xs : List V} {us : List Value} (n : Nat), Vals xs us → Vals (xs.take n) (us.take n)
  | _, _, 0, _ => .nil
  | _, _, _ + 1, .nil => .nil
  | _, _, n + 1, .cons r t => .cons r (Vals.take n t)
theorem Vals.drop : ∀ {xs : List V} {us : List Value} (n : Nat), Vals xs us → Vals (xs.drop n) (us.drop n)
  | _, _, 0, r => r
  | _, _, _ + 1, .nil => .nil
  | _, _, n + 1, .cons _ t => Vals.drop n t
def RelO : Option V → Option Value → Prop
  | some v, some u => RelV v u
  | none, none => True
  | _, _ => False
def KV {κ : Type} : List (κ × V) → List (κ × Value) → Prop := Paired fun (p : κ × V) (q : κ × Value) => p.1 = q.1 ∧ RelV p.2 q.2
def kV : Key → V
  | .inl i => .int i
  | .inr x => .str x
def lamNames : List Str := ["count_joined", "_law_clear", "_law_any_tree", "law", "_law_try", "_law_ticket_right", "soft_met", "_law_yard_told", "_law_looks_right"]
def lamQ (n : Str) : Str := (n ++ ".<locals>.") ++ "<lambda>"
def tabOf (p : Addr × Obj) : Option (Addr × Str) := match p.2.data with
  | .fields vs => (match vs.toList with
    | _ :: .str n _ :: _ => if lamNames.contains n = true then (match (vs[11]? : Option Value) with
      | some (.ref P) => some (P, lamQ n)
      | _ => none) else none
    | _ => none)
  | _ => none
def tabT (K : PySem.W.Frag) : List (Addr × Str) := K.filterMap tabOf
theorem mem_lk {b : Addr} {q : Str} : ∀ {l : List (Addr × Str)}, l.lookup b = some q → (b, q) ∈ l
  | [], e => by cases e
  | (c, r) :: l, e => by
    rw [List.lookup_cons] at e
    by_cases h : b = c
    · subst h
      simp at e
      subst e
      exact .head _
    · have h' : (b == c) = false := by simpa using h
      rw [h'] at e
      exact .tail _ (mem_lk e)
inductive HO where
  | lst (xs : List V)
  | tup (xs : List V)
  | dK (kvs : List (Key × V)) | dT (kvs : List (List Key × V))
  | set (S : Int → Bool) (n : Nat)
  | ins (C dx : Addr) (fs : List (Str × V))
  | own (x : Addr)
  | xd (fs : List (Str × V))
  | met (f x : Addr)
  | rng (lo hi : Int)
  | frz (o : Obj) (u : HO)
  | tbl (q : Str)
  | cod (q : Str)
  | lam (q : Str) (o : Obj)
  | ext (φ : Heap → Prop)
abbrev Hp := Addr → Option HO
def upd (H : Hp) (a : Addr) (o : HO) : Hp := fun b => if b = a then some o else H b
theorem upd_same {H : Hp} {a : Addr} {o : HO} : upd H a o a = some o := by unfold upd; rw [if_pos rfl]
theorem upd_ne {H : Hp} {a b : Addr} {o : HO} (h : b ≠ a) : upd H a o b = H b := by unfold upd; rw [if_neg h]
theorem ne_of_none {H : Hp} {a b : Addr} {o : HO} (h : H a = some o) (h' : H b = none) : a ≠ b := by
  intro e; subst e; rw [h] at h'; cases h'
def TabL (H : Hp) (q : Str) : List Value → Prop
  | [] => True
  | .int _ _ :: .int _ _ :: .ref c :: r => H c = some (.cod q) ∧ TabL H q r
  | _ => False
theorem TabL.triples {H : Hp} {q : Str} : ∀ {l : List Value}, TabL H q l → TriplesOk l
  | [], _ => trivial
  | .int _ _ :: .int _ _ :: .ref c :: r, h => TabL.triples (l := r) h.2
theorem TabL.mono {H H' : Hp} {q : Str} (k : ∀ c, H c = some (.cod q) → H' c = some (.cod q)) : ∀ {l : List Value}, TabL H q l → TabL H' q l
  | [], _ => trivial
  | .int _ _ :: .int _ _ :: .ref c :: r, h => ⟨k c h.1, TabL.mono k (l := r) h.2⟩
theorem TabL.snoc {H : Hp} {q : Str} {i j : Int} {t u : Tok} {c : Addr} (hc : H c = some (.cod q)) : ∀ {l : List Value}, TabL H q l → TabL H q (l ++ [.int i t, .int j u, .ref c])
  | [], _ => ⟨hc, trivial⟩
  | .int _ _ :: .int _ _ :: .ref c' :: r, h => ⟨h.1, TabL.snoc hc (l := r) h.2⟩
theorem TabL.hit {H : Hp} {q : Str} {pos : Pos} {v : Value} : ∀ {l : List Value}, TabL H q l → codeAmong pos l = some v → ∃ c, v = .ref c ∧ H c = some (.cod q)
  | [], _, e => by cases e
  | .int i _ :: .int j _ :: .ref c :: r, h, e => by
    unfold codeAmong at e
    split at e
    · cases e
      exact ⟨c, rfl, h.1⟩
    · exact TabL.hit (l := r) h.2 e
section
variable (P : Program) (w : World)
def ObjOk (H : Hp) (h : Heap) (a : Addr) : HO → Prop
  | .lst xs => xs.length ≤ sizeLine ∧ ∃ (its : List Value) (n : Nat), Vals xs its ∧ h.get? a = some { cls := .type "list", data := .seq its.toArray n }
  | .tup xs => xs.length ≤ sizeLine ∧ ∃ its : List Value, Vals xs its ∧ IsTup h a its.toArray
  | .dK kvs => kvs.length ≤ sizeLine ∧ (a == sysModules) = false ∧ ∃ vs, KV kvs vs ∧ h.DictOf (mixKind P w) a vs
  | .dT kvs => kvs.length ≤ sizeLine ∧ (a == sysModules) = false ∧ ∃ xs : List (List Key × Addr × Value),
      Paired (fun (p : List Key × V) (q : List Key × Addr × Value) => p.1 = q.1 ∧ H q.2.1 = some (.tup (p.1.map kV)) ∧ RelV p.2 q.2.2) kvs xs ∧
      ∃ o es ep, h.get? a = some o ∧ o.ExactDict ∧ o.data = .dict es ep ∧ es.toList = xs.map (entryOfKey (tupleKind (mixKind P w))) ∧ (xs.map (·.1)).Nodup
  | .set S n => h.SetOf (intKind P w) a S n
  | .ins C dx fs => H dx = some (.own a) ∧ fs.length ≤ 1000 ∧ dx ≠ a ∧ h.get? a = some (PySem.W.instObj C dx) ∧
      ∃ mA, h.Ns1 dx mA ∧ (∀ f, RelO (fs.lookup f) (mA f)) ∧ PySem.Within mA (fs.map (·.1))
  | .own _ => ∃ o, h.get? a = some o
  | .xd fs => ∃ mA, h.Ns1 a mA ∧ ∀ f, RelO (fs.lookup f) (mA f)
  | .rng lo hi => ∃ t u v, h.get? a = some { cls := .type "range", data := .fields #[.int lo t, .int hi u, .int 1 v] }
  | .frz o u => h.get? a = some o ∧ ObjOk H h a u
  | .tbl q => ∃ ps : Array Value, h.get? a = some { cls := .none, data := .fields ps } ∧ TabL H q ps.toList
  | .cod q => h.CodeRec (.ref a) q
  | .lam q o => h.get? a = some o ∧ ∃ c fd, o.data = .func fd ∧ fd.code = .ref c ∧ H c = some (.cod q)
  | .met f x => h.get? a = some (PySem.W.methodObj (.ref f) (.ref x))
  | .ext φ => φ h ∧ (∃ o, h.get? a = some o) ∧ ∀ h1 h2 : Heap, φ h1 → (∀ o, h1.get? a = some o → h2.get? a = some o) → φ h2
def HOk (H : Hp) (h : Heap) : Prop := ∀ a o, H a = some o → ObjOk P w H h a o
end
section
variable {P : Program} {w : World} {H H' : Hp} {h h' : Heap} {a : Addr} {o : HO}
theorem ObjOk.lt (x : ObjOk P w H h a o) : a < h.objs.size := by
  cases o with
  | lst xs => obtain ⟨_, _, _, _, e⟩ := x; exact Heap.lt_size e
  | tup xs => obtain ⟨_, _, _, p⟩ := x; exact p.lt
  | dK kvs => obtain ⟨_, _, _, _, o, _, _, e, _⟩ := x; exact Heap.lt_size e
  | dT kvs => obtain ⟨_, _, _, _, o, _, _, e, _⟩ := x; exact Heap.lt_size e
  | set S n => obtain ⟨o, _, _, _, e, _⟩ := x; exact Heap.lt_size e
  | ins C dx fs => obtain ⟨_, _, _, e, _⟩ := x; exact Heap.lt_size e
  | own y => obtain ⟨_, e⟩ := x; exact Heap.lt_size e
  | xd fs => obtain ⟨_, ⟨_, _, _, e, _⟩, _⟩ := x; exact Heap.lt_size e
  | rng lo hi => obtain ⟨_, _, _, e⟩ := x; exact Heap.lt_size e
  | frz ob u => obtain ⟨e, _⟩ := x; exact Heap.lt_size e
  | tbl q => obtain ⟨_, e, _⟩ := x; exact Heap.lt_size e
  | cod q => obtain ⟨_, _, _, _, e0, e, _⟩ := x; cases e0; exact Heap.lt_size e
  | lam q o => exact Heap.lt_size x.1
  | met f y => exact Heap.lt_size (show h.get? a = some _ from x)
  | ext φ => obtain ⟨_, ⟨_, e⟩, _⟩ := x; exact Heap.lt_size e
theorem Paired.mapP {α β : Type} {F G : α → β → Prop} : ∀ {l₁ : List α} {l₂ : List β}, Paired F l₁ l₂ → (∀ a b, F a b → G a b) → Paired G l₁ l₂
  | _, _, .nil, _ => .nil
  | _, _, .cons r t, f => .cons (f _ _ r) (Paired.mapP t f)
def Fx : HO → Prop
  | .tup _ => True
  | .cod _ => True
  | _ => False
theorem ObjOk.stay (x : ObjOk P w H h a o) (k : ∀ b u, (b = a ∨ H b = some (.own a)) → h.get? b = some u → h'.get? b = some u)
    (ho : ∀ b, H b = some (.own a) → H' b = some (.own a)) (ht : ∀ b u, Fx u → H b = some u → H' b = some u) : ObjOk P w H' h' a o := by
  induction o with
  | lst xs => obtain ⟨z, its, n, r, e⟩ := x; exact ⟨z, its, n, r, k _ _ (.inl rfl) e⟩
  | tup xs => obtain ⟨z, its, r, ob, e, c⟩ := x; exact ⟨z, its, r, ob, k _ _ (.inl rfl) e, c⟩
  | dK kvs => obtain ⟨z, y, vs, r, ob, es, ep, e, c⟩ := x; exact ⟨z, y, vs, r, ob, es, ep, k _ _ (.inl rfl) e, c⟩
  | dT kvs =>
    obtain ⟨z, y, xs, r, ob, es, ep, e, c⟩ := x
    exact ⟨z, y, xs, Paired.mapP r fun p q z => ⟨z.1, ht _ _ trivial z.2.1, z.2.2⟩, ob, es, ep, k _ _ (.inl rfl) e, c⟩
  | set S n => obtain ⟨ob, es, ep, t, e, c⟩ := x; exact ⟨ob, es, ep, t, k _ _ (.inl rfl) e, c⟩
  | ins C dx fs =>
    obtain ⟨d, z, ne, e, mA, ⟨od, es, ep, e2, c⟩, r⟩ := x
    exact ⟨ho _ d, z, ne, k _ _ (.inl rfl) e, mA, ⟨od, es, ep, k _ _ (.inr d) e2, c⟩, r⟩
  | own y => obtain ⟨ob, e⟩ := x; exact ⟨ob, k _ _ (.inl rfl) e⟩
  | xd fs => obtain ⟨mA, ⟨od, es, ep, e, c⟩, r⟩ := x; exact ⟨mA, ⟨od, es, ep, k _ _ (.inl rfl) e, c⟩, r⟩
  | rng lo hi => obtain ⟨t, u, v, e⟩ := x; exact ⟨t, u, v, k _ _ (.inl rfl) e⟩
  | frz ob u ih => obtain ⟨e, q⟩ := x; exact ⟨k _ _ (.inl rfl) e, ih q⟩
  | tbl q => obtain ⟨ps, e, tl⟩ := x; exact ⟨ps, k a _ (.inl rfl) e, tl.mono fun c hc => ht _ _ trivial hc⟩
  | cod q => obtain ⟨c, oc, vs, tq, e0, e, r⟩ := x; cases e0; exact ⟨_, oc, vs, tq, rfl, k a _ (.inl rfl) e, r⟩
  | lam q ob => obtain ⟨e, c, fd, e1, e2, e3⟩ := x; exact ⟨k a _ (.inl rfl) e, c, fd, e1, e2, ht _ _ trivial e3⟩
  | met f y =>
    have e : h.get? a = some (PySem.W.methodObj (.ref f) (.ref y)) := x
    show h'.get? a = some (PySem.W.methodObj (.ref f) (.ref y))
    exact k a _ (.inl rfl) e
  | ext φ => obtain ⟨p, ⟨o, e⟩, st⟩ := x; exact ⟨st _ _ p fun o q => k _ _ (.inl rfl) q, ⟨o, k _ _ (.inl rfl) e⟩, st⟩
theorem HOk.lt (x : HOk P w H h) (e : H a = some o) : a < h.objs.size := (x a o e).lt
theorem HOk.fresh (x : HOk P w H h) (e : h.objs.size ≤ a) : H a = none := by
  cases q : H a with
  | none => rfl
  | some u => exact absurd (Nat.lt_of_lt_of_le (x.lt q) e) (Nat.lt_irrefl _)
theorem HOk.kept (x : HOk P w H h) (k : ∀ b u, h.get? b = some u → h'.get? b = some u) : HOk P w H h' := fun a o e =>
  (x a o e).stay (fun b u _ q => k b u q) (fun _ q => q) fun _ _ _ q => q
theorem HOk.laid (x : HOk P w H h) (k : ∀ b u, h.get? b = some u → h'.get? b = some u) (hp : h.objs.size ≤ a) (new : ObjOk P w (upd H a o) h' a o) : HOk P w (upd H a o) h' := fun b u e => by
  have hn := x.fresh hp
  by_cases hb : b = a
  · subst hb; rw [upd_same] at e; cases e; exact new
  · rw [upd_ne hb] at e
    exact (x b u e).stay (fun c v _ q => k c v q) (fun c q => by rw [upd_ne (ne_of_none q hn)]; exact q) fun c xs _ q => by rw [upd_ne (ne_of_none q hn)]; exact q
end
def Rd (H : Hp) (a : Addr) (u : HO) : Prop := H a = some u ∨ ∃ o, H a = some (.frz o u)
theorem Rd.of {H : Hp} {a : Addr} {u : HO} (h : H a = some u) : Rd H a u := .inl h
theorem Rd.ok {P : Program} {w : World} {H : Hp} {h : Heap} {a : Addr} {u : HO} (r : Rd H a u) (x : HOk P w H h) : ObjOk P w H h a u := by
  rcases r with r | ⟨o, r⟩
  · exact x a u r
  · obtain ⟨_, q⟩ := x a _ r
    exact q
def Mut : Option HO → Prop
  | some (.lst _) => True
  | some (.dK _) => True
  | some (.dT _) => True
  | some (.set _ _) => True
  | some (.ins _ _ _) => True
  | some (.ext _) => True
  | _ => False
section
variable {P : Program} {w : World} {H : Hp} {h h' : Heap} {x e : Addr} {o' : HO}
theorem HOk.write (ok : HOk P w H h) (mu : Mut (H x)) (he : e = x ∨ H e = some (.own x)) (k : ∀ b u, b ≠ e → h.get? b = some u → h'.get? b = some u) (heo : ∃ u, h'.get? e = some u)
    (new : ObjOk P w (upd H x o') h' x o') : HOk P w (upd H x o') h' := fun b u q => by
  have nown : ∀ c y, H c = some (.own y) → c ≠ x := fun c y r z => by subst z; rw [r] at mu; exact mu
  have nfx : ∀ c u, Fx u → H c = some u → c ≠ x := fun c u f r z => by subst z; rw [r] at mu; cases u <;> first | exact f | exact mu
  by_cases hb : b = x
  · subst hb; rw [upd_same] at q; cases q; exact new
  · rw [upd_ne hb] at q
    by_cases hbe : b = e
    · have q' : H b = some (.own x) := by
        rcases he with z | z
        · exact absurd (hbe.trans z) hb
        · rw [hbe]; exact z
      rw [q] at q'; cases q'
      obtain ⟨v, hv⟩ := heo
      exact ⟨v, by rw [hbe]; exact hv⟩
    · refine (ok b u q).stay (fun c v hc r => k c v ?_ r) (fun c r => by rw [upd_ne (nown c b r)]; exact r) fun c xs f r => by rw [upd_ne (nfx c xs f r)]; exact r
      rcases hc with rfl | hc
      · exact hbe
      · rintro rfl
        rcases he with z | z
        · exact nown c b hc z
        · rw [hc] at z; cases z; exact hb rfl
end
structure Un (fs ex : List Addr) (H H' : Hp) (h h' : Heap) : Prop where
  keep : ∀ b o, h.get? b = some o → H b = none → b ∉ fs → b ∉ ex → h'.get? b = some o
  slot : ∀ b o, h.get? b = some o → H b = none → b ∈ fs → b ∉ ex → ∃ sl, h'.get? b = some { o with slots := sl }
  free : ∀ b o, h.get? b = some o → H b = none → b ∉ ex → H' b = none
  there : ∀ b o, h.get? b = some o → b ∉ ex → ∃ o', h'.get? b = some o'
  tups : ∀ b xs, H b = some (.tup xs) → H' b = some (.tup xs)
  frzs : ∀ b o u, H b = some (.frz o u) → H' b = some (.frz o u)
  tbls : ∀ b q, H b = some (.tbl q) → H' b = some (.tbl q) ∧ ∀ ps, h.get? b = some { cls := .none, data := .fields ps } → ∃ more, h'.get? b = some { cls := .none, data := .fields (ps ++ more) }
section
variable {fs fs' ex ex' : List Addr} {H H1 H2 : Hp} {h h1 h2 h' : Heap} {a x e : Addr} {o : HO}
theorem Un.any (u : Un fs ex H H1 h h1) {b : Addr} {ob : Obj} (q : h.get? b = some ob) (n : H b = none) (hx : b ∉ ex) : ∃ sl, h1.get? b = some { ob with slots := sl } := by
  by_cases hb : b ∈ fs
  · exact u.slot b ob q n hb hx
  · exact ⟨ob.slots, u.keep b ob q n hb hx⟩
theorem Un.trans (a : Un fs ex H H1 h h1) (b : Un fs ex H1 H2 h1 h2) : Un fs ex H H2 h h2 where
  keep := fun c ob q n hc hx => b.keep c ob (a.keep c ob q n hc hx) (a.free c ob q n hx) hc hx
  slot := fun c ob q n hc hx => by
    obtain ⟨sl, e1⟩ := a.slot c ob q n hc hx
    obtain ⟨sl', e2⟩ := b.slot c _ e1 (a.free c ob q n hx) hc hx
    exact ⟨sl', e2⟩
  free := fun c ob q n hx => by
    obtain ⟨o', e1⟩ := a.there c ob q hx
    exact b.free c o' e1 (a.free c ob q n hx) hx
  there := fun c ob q hx => by
    obtain ⟨o', e1⟩ := a.there c ob q hx
    exact b.there c o' e1 hx
  tups := fun c xs q => b.tups c xs (a.tups c xs q)
  frzs := fun c ob xs q => b.frzs c ob xs (a.frzs c ob xs q)
  tbls := fun c q e => by
    obtain ⟨e1, g1⟩ := a.tbls c q e
    obtain ⟨e2, g2⟩ := b.tbls c q e1
    refine ⟨e2, fun ps z => ?_⟩
    obtain ⟨m1, z1⟩ := g1 ps z
    obtain ⟨m2, z2⟩ := g2 _ z1
    exact ⟨m1 ++ m2, by rw [z2, Array.append_assoc]⟩
theorem Un.kept (k : ∀ b u, h.get? b = some u → h'.get? b = some u) : Un fs ex H H h h' :=
  ⟨fun b ob q _ _ _ => k b ob q, fun b ob q _ _ _ => ⟨ob.slots, k b ob q⟩, fun _ _ _ n _ => n, fun b ob q _ => ⟨ob, k b ob q⟩, fun _ _ q => q, fun _ _ _ q => q, fun b _ q => ⟨q, fun ps z => ⟨#[], by rw [k b _ z]; simp⟩⟩⟩
theorem Un.refl : Un fs ex H H h h := Un.kept fun _ _ q => q
theorem Un.laid (k : ∀ b u, h.get? b = some u → h'.get? b = some u) (hp : h.objs.size ≤ a) (hn : H a = none) : Un fs ex H (upd H a o) h h' where
  keep := fun b u q _ _ _ => k b u q
  slot := fun b u q _ _ _ => ⟨u.slots, k b u q⟩
  free := fun b u q n _ => by rw [upd_ne (Nat.ne_of_lt (Nat.lt_of_lt_of_le (Heap.lt_size q) hp))]; exact n
  there := fun b u q _ => ⟨u, k b u q⟩
  tups := fun b xs q => by rw [upd_ne (ne_of_none q hn)]; exact q
  frzs := fun b u xs q => by rw [upd_ne (ne_of_none q hn)]; exact q
  tbls := fun b _ q => ⟨by rw [upd_ne (ne_of_none q hn)]; exact q, fun ps z => ⟨#[], by rw [k b _ z]; simp⟩⟩
theorem Un.write (mu : Mut (H x)) (he : e = x ∨ H e = some (.own x)) (k : ∀ b u, b ≠ e → h.get? b = some u → h'.get? b = some u) (heo : ∃ u, h'.get? e = some u) : Un fs ex H (upd H x o) h h' := by
  have hx : ∀ b, H b = none → b ≠ x := fun b n z => by subst z; rw [n] at mu; exact mu
  have hb : ∀ b, H b = none → b ≠ e := fun b n z => by
    subst z
    rcases he with r | r
    · exact hx b n r
    · rw [n] at r; cases r
  have hm : ∀ b u, H b = some u → ¬ Mut (some u) → b ≠ x := fun b u q nm z => by subst z; rw [q] at mu; exact nm mu
  refine ⟨fun b u q n _ _ => k b u (hb b n) q, fun b u q n _ _ => ⟨u.slots, k b u (hb b n) q⟩, fun b u q n _ => by rw [upd_ne (hx b n)]; exact n, fun b u q _ => ?_,
    fun b xs q => by rw [upd_ne (hm b _ q fun z => z)]; exact q, fun b u xs q => by rw [upd_ne (hm b _ q fun z => z)]; exact q, fun b _ q => ⟨by rw [upd_ne (hm b _ q fun z => z)]; exact q, fun ps z => ⟨#[], by
      rw [k b _ (fun y => by
        subst y
        rcases he with r | r
        · exact hm b _ q (fun z => z) r
        · rw [q] at r; cases r) z]; simp⟩⟩⟩
  by_cases hbe : b = e
  · subst hbe; exact heo
  · exact ⟨u, k b u hbe q⟩
theorem Un.mono (u : Un fs ex H H1 h h1) (hs : ∀ b ∈ fs, b ∈ fs') (hx : ∀ b ∈ ex, b ∈ ex') : Un fs' ex' H H1 h h1 :=
  ⟨fun b ob q n hb he => u.keep b ob q n (fun z => hb (hs b z)) fun z => he (hx b z), fun _ _ q n _ he => u.any q n fun z => he (hx _ z), fun b ob q n he => u.free b ob q n fun z => he (hx b z), fun b ob q he => u.there b ob q fun z => he (hx b z), u.tups, u.frzs, u.tbls⟩
end
def trk (h : Heap) (H : Hp) : List Addr := (List.range h.objs.size).filter fun a => (H a).isSome
def hidT (h : Heap) (H : Hp) : Heap := PySem.W.hideAll h (trk h H)
theorem hidT_size (h : Heap) (H : Hp) : (hidT h H).objs.size = h.objs.size := PySem.W.hideAll_size _ _
theorem hidT_get {h : Heap} {H : Hp} {b : Addr} {o : Obj} (e : h.get? b = some o) (n : H b = none) : (hidT h H).get? b = some o :=
  PySem.W.hideAll_get _ e fun hm => by
    have q : (H b).isSome = true := (List.mem_filter.mp hm).2
    rw [n] at q; simp at q
theorem of_hidT {h : Heap} {H : Hp} {b : Addr} {o : Obj} (e : (hidT h H).get? b = some o) : h.get? b = some o ∧ H b = none := by
  have e' : h.get? b = some o := PySem.W.of_hideAll (trk h H) e
  refine ⟨e', ?_⟩
  cases q : H b with
  | none => rfl
  | some x =>
    have hm : b ∈ trk h H := List.mem_filter.mpr ⟨List.mem_range.mpr (Heap.lt_size e'), by simp [q]⟩
    have z : (hidT h H).get? b = none := PySem.W.hideAll_none (trk h H) hm
    rw [z] at e; cases e
def allNews (g h : Heap) (L : Addr) : List (Addr × Obj) := (List.range h.objs.size).filterMap fun a => if a = L ∨ (g.get? a).isSome = true then none else (h.get? a).map fun o => (a, o)
def rest (g h : Heap) (L d : Addr) : List (Addr × Obj) := (allNews g h L).filter fun p => decide (p.1 ≠ d)
end L2
namespace L2
open PySem PySem.Spec PyProof.Rows
structure Mod (K : PySem.W.Frag) (mg : Str → Option Value) (base : Heap) : Prop where
  kin : K.In base
  glob : base.Ns mainGlobals mg
  blt : ∃ mb, base.Ns builtinsNs mb ∧ ∀ x : Str, x ≠ "__name__" → mb x = bootBuiltins x
  nolimit : base.NoLimit
  bm : ∃ bm ob, mg "__builtins__" = some (.ref bm) ∧ bm ≠ builtinsNs ∧ base.get? bm = some ob ∧ ob.cls = .type "module" ∧ ob.dict = some builtinsNs ∧ ob.data = .plain
def GExt (a b : Array GenState) : Prop := ∀ (k : Nat) (st : GenState), a[k]? = some st → b[k]? = some st
theorem GExt.refl (a : Array GenState) : GExt a a := fun _ _ e => e
theorem GExt.trans {a b c : Array GenState} (x : GExt a b) (y : GExt b c) : GExt a c := fun k st e => y k st (x k st e)
def GStep (a b : Array GenState) : Prop := AllBare b ∧ GExt a b
structure Cx where
  prog : Program
  w : World
  K : PySem.W.Frag
  mg : Str → Option Value
  base : Heap
  A : Around
  N : List Str
  s_0 : Shared
  H_0 : Hp
  env : Env
  outer : List Env
  stack : List Env
  ex : List Addr
  fn : Str → Bool
  calm : Bool
  pn : List (Addr × Obj)
  xe : Value → Shared → Prop
  gp : List (Nat × GenState)
  gx : List Nat
def GInv (X : Cx) (g : Array GenState) : Prop := AllBare g ∧ (∀ (k : Nat) (st : GenState), k ∉ X.gx → X.s_0.gens[k]? = some st → g[k]? = some st) ∧ ∀ p ∈ X.gp, g[p.1]? = some p.2
theorem GInv.step {X : Cx} {g g' : Array GenState} (x : GInv X g) (y : GStep g g') : GInv X g' := ⟨y.1, fun k st n e => y.2 k st (x.2.1 k st n e), fun p hp => y.2 _ _ (x.2.2 p hp)⟩
def frs (l : List Env) : List Addr := l.filterMap (·.frame)
abbrev Cx.fs (X : Cx) : List Addr := frs X.outer
def Vis (sc : Scope) (x : Str) : Prop := sc.names.lookup x = some .local ∨ sc.names.lookup x = some .cell ∨ sc.names.lookup x = some .free
def Loc (sc : Scope) (x : Str) : Prop := sc.names.lookup x = some .local ∨ sc.names.lookup x = some .cell
def Look (env : Env) (h : Heap) (m : Str → Option Value) (x : Str) (u : Value) : Prop :=
  (env.kindOf x = some .local ∧ m x = some u) ∨ ((env.kindOf x = some .cell ∨ env.kindOf x = some .free) ∧ ∃ c, env.cells.lookup x = some c ∧ h.IsCell c (some u))
structure Cx.Ok (X : Cx) : Prop where
  mod : Mod X.K X.mg X.base
  kind : X.env.scope.kind = .function
  glob : X.env.globals = mainGlobals
  blt : X.env.builtins = builtinsNs
  above : X.s_0.heap.get? X.env.locals = none
  inj : ∀ x y c, X.env.cells.lookup x = some c → X.env.cells.lookup y = some c → x = y
  has : ∀ x, (X.env.kindOf x = some .cell ∨ X.env.kindOf x = some .free) → ∃ c, X.env.cells.lookup x = some c
  cab : ∀ x c, X.fn x = true → X.env.cells.lookup x = some c → X.s_0.heap.objs.size ≤ c
  hd : X.calm = true → X.A.handled = none
  frames : X.A.frames = some X.stack
  stk : X.stack = X.outer ∨ (X.stack = X.env :: X.outer ∧ X.env.frame = some X.env.locals)
  exf : ∀ b ∈ X.ex, b ≠ X.env.locals ∧ ∀ x c, X.env.cells.lookup x = some c → c ≠ b
  bs : ∀ b o, X.base.get? b = some o → X.s_0.heap.get? b = some o ∧ X.H_0 b = none
  bsz : X.base.objs.size ≤ X.env.locals
  noex : ∀ b o, X.base.get? b = some o → b ∉ X.ex
  exfs : ∀ b ∈ X.ex, b ∉ X.fs
  funs : X.s_0.heap.FunFrames X.base X.outer
  frf : ∀ b ∈ X.fs, X.H_0 b = none
  tab : ∀ p ∈ tabT X.K, X.H_0 p.1 = some (.tbl p.2)
structure Inv (X : Cx) (pins : List (Addr × Obj)) (σ : List (Option V)) (H : Hp) (s : Shared) : Prop where
  ok : X.Ok
  os : s.os = X.s_0.os
  bare : GInv X s.gens
  base : Un X.fs X.ex X.H_0 H X.s_0.heap s.heap
  loc : ∃ m, s.heap.Ns X.env.locals m ∧ ∀ (i : Nat) (x : Str) (v : V), X.N[i]? = some x → σ[i]? = some (some v) → Vis X.env.scope x → ∃ u, RelV v u ∧ Look X.env s.heap m x u
  cell : ∀ x c, X.env.cells.lookup x = some c → ∃ v, s.heap.IsCell c v
  free : H X.env.locals = none
  freeC : ∀ x c, X.env.cells.lookup x = some c → H c = none
  pin : ∀ p ∈ X.pn ++ pins, s.heap.get? p.1 = some p.2 ∧ H p.1 = none ∧ p.1 ≠ X.env.locals ∧ p.1 ∉ X.fs ∧ ∀ v, p.2.data ≠ .cell v
  hok : HOk X.prog X.w H s.heap
  len : σ.length = X.N.length
section
variable {X : Cx} {pins : List (Addr × Obj)} {σ : List (Option V)} {H H' : Hp} {s : Shared} {h' : Heap}
theorem Cx.Ok.nofr (ok : X.Ok) {b : Addr} {o : Obj} (e : X.base.get? b = some o) : b ∉ X.fs := fun hb => by
  have := (ok.funs.mem hb).1
  rw [e] at this; cases this
theorem Inv.bs (I : Inv X pins σ H s) : ∀ b o, X.base.get? b = some o → s.heap.get? b = some o ∧ H b = none := fun b o e =>
  ⟨I.base.keep b o (I.ok.bs b o e).1 (I.ok.bs b o e).2 (I.ok.nofr e) (I.ok.noex b o e), I.base.free b o (I.ok.bs b o e).1 (I.ok.bs b o e).2 (I.ok.noex b o e)⟩
theorem Inv.bk (I : Inv X pins σ H s) : ∀ b o, X.base.get? b = some o → s.heap.get? b = some o := fun b o e => (I.bs b o e).1
theorem Inv.mod (I : Inv X pins σ H s) : Mod X.K X.mg X.base := I.ok.mod
theorem Inv.kIn (I : Inv X pins σ H s) : X.K.In s.heap := I.ok.mod.kin.keeps I.bk
theorem Inv.nolimit (I : Inv X pins σ H s) : s.heap.NoLimit := I.ok.mod.nolimit.keeps I.bk
theorem Inv.fr (I : Inv X pins σ H s) : ∃ m, Fr X.base X.env.locals s.heap m :=
  let ⟨m, hn, _⟩ := I.loc
  ⟨m, hn, I.bk, I.ok.bsz⟩
theorem Inv.lt (I : Inv X pins σ H s) : X.env.locals < s.heap.objs.size := let ⟨_, hn, _⟩ := I.loc; hn.lt
theorem Inv.fresh0 (I : Inv X pins σ H s) {b : Addr} (h : s.heap.objs.size ≤ b) : b ∈ X.ex ∨ X.s_0.heap.get? b = none := by
  by_cases z : b ∈ X.ex
  · exact .inl z
  · cases e : X.s_0.heap.get? b with
    | none => exact .inr rfl
    | some o =>
      obtain ⟨o', q⟩ := I.base.there b o e z
      exact absurd (Nat.lt_of_lt_of_le (Heap.lt_size q) h) (Nat.lt_irrefl _)
theorem Inv.nofs (I : Inv X pins σ H s) {a : Addr} (h : s.heap.objs.size ≤ a) : a ∉ X.fs := fun hb => by
  obtain ⟨_, o, ho, _⟩ := I.ok.funs.mem hb
  obtain ⟨sl, e⟩ := I.base.slot a o ho (I.ok.frf a hb) hb fun z => I.ok.exfs a z hb
  exact absurd (Nat.lt_of_lt_of_le (Heap.lt_size e) h) (Nat.lt_irrefl _)
theorem Inv.cne (I : Inv X pins σ H s) : ∀ x c, X.env.cells.lookup x = some c → c ≠ X.env.locals := fun x c e z => by
  obtain ⟨v, o, ho, hd⟩ := I.cell x c e
  obtain ⟨m, ⟨o', es, ep, ho', hd', _⟩, _⟩ := I.loc
  rw [z, ho'] at ho; cases ho; rw [hd'] at hd; cases hd
theorem Inv.funs (I : Inv X pins σ H s) : s.heap.FunFrames X.base X.outer := by
  have all : ∀ (l : List Env), (∀ b ∈ frs l, b ∈ X.fs) → X.s_0.heap.FunFrames X.base l → s.heap.FunFrames X.base l := by
    intro l
    induction l with
    | nil => intro _ _; trivial
    | cons env r ih =>
      intro hs hl
      obtain ⟨hk, ⟨L, o, hf, hn, ho, hd⟩, hr⟩ := hl
      have hL : L ∈ X.fs := hs L (by unfold frs; rw [List.filterMap_cons, hf]; exact List.mem_cons_self)
      obtain ⟨sl, e⟩ := I.base.slot L o ho (I.ok.frf L hL) hL fun z => I.ok.exfs L z hL
      exact ⟨hk, ⟨L, _, hf, hn, e, hd⟩, ih (fun b hb => hs b (by unfold frs; rw [List.filterMap_cons, hf]; exact List.mem_cons_of_mem _ hb)) hr⟩
  exact all X.outer (fun _ hb => hb) I.ok.funs
theorem Inv.stack (I : Inv X pins σ H s) : s.heap.FunFrames X.base X.stack := by
  rcases I.ok.stk with e | ⟨e, hf⟩
  · rw [e]; exact I.funs
  · rw [e]
    obtain ⟨m, hn, _⟩ := I.loc
    refine .cons (by rw [I.ok.kind]; decide) hf hn ?_ I.funs
    exact Heap.get?_none_of_le I.ok.bsz
theorem Inv.stkSub (I : Inv X pins σ H s) : ∀ b ∈ frs X.stack, b ∈ X.env.locals :: X.fs := fun b hb => by
  rcases I.ok.stk with e | ⟨e, hf⟩
  · rw [e] at hb; exact List.mem_cons_of_mem _ hb
  · rw [e] at hb
    unfold frs at hb
    rw [List.filterMap_cons, hf] at hb
    exact hb
theorem Inv.stkFree (I : Inv X pins σ H s) : ∀ b ∈ frs X.stack, H b = none := fun b hb => by
  rcases List.mem_cons.mp (I.stkSub b hb) with e | hb
  · rw [e]; exact I.free
  · obtain ⟨_, o, ho, _⟩ := I.ok.funs.mem hb
    exact I.base.free b o ho (I.ok.frf b hb) fun z => I.ok.exfs b z hb
theorem Inv.step {g' : Array GenState} {t' : Nat} {d' : Drawn} {ch : List Addr} (I : Inv X pins σ H s)
    (hch : ∀ b ∈ ch, (b ∈ X.ex ∨ X.s_0.heap.get? b = none) ∧ b ≠ X.env.locals ∧ (∀ x c, X.env.cells.lookup x = some c → c ≠ b) ∧ ∀ p ∈ X.pn ++ pins, p.1 ≠ b)
    (keep : ∀ b o, b ≠ X.env.locals → b ∉ X.fs → b ∉ ch → s.heap.get? b = some o → H b = none → h'.get? b = some o)
    (slot : ∀ b o, b ≠ X.env.locals → b ∈ X.fs → b ∉ ch → s.heap.get? b = some o → H b = none → ∃ sl, h'.get? b = some { o with slots := sl }) (free : ∀ b o, b ∉ ch → s.heap.get? b = some o → H b = none → H' b = none)
    (there : ∀ b o, b ∉ ch → s.heap.get? b = some o → ∃ o', h'.get? b = some o')
    (tups : ∀ b xs, H b = some (.tup xs) → H' b = some (.tup xs)) (frzs : ∀ b o u, H b = some (.frz o u) → H' b = some (.frz o u)) (tbls : ∀ b q, H b = some (.tbl q) → H' b = some (.tbl q) ∧ ∀ ps, s.heap.get? b = some { cls := .none, data := .fields ps } → ∃ more, h'.get? b = some { cls := .none, data := .fields (ps ++ more) })
    (ns : ∀ m, s.heap.Ns X.env.locals m → h'.Ns X.env.locals m) (hok : HOk X.prog X.w H' h') (hg : GInv X g') :
    Inv X pins σ H' { s with heap := h', gens := g', drawn := d', toks := t' } := by
  have neL : ∀ b o, X.s_0.heap.get? b = some o → b ≠ X.env.locals := fun b o e z => by rw [z, I.ok.above] at e; cases e
  have neC : ∀ b o, X.s_0.heap.get? b = some o → b ∉ X.ex → b ∉ ch := fun b o e hx hb => by
    rcases (hch b hb).1 with z | z
    · exact hx z
    · rw [e] at z; cases z
  have cellK : ∀ x c, X.env.cells.lookup x = some c → ∀ v, s.heap.IsCell c v → h'.IsCell c v := fun x c e v ⟨o, ho, hd⟩ => by
    have nch : c ∉ ch := fun z => (hch c z).2.2.1 x c e rfl
    by_cases hc : c ∈ X.fs
    · obtain ⟨sl, q⟩ := slot c o (I.cne x c e) hc nch ho (I.freeC x c e)
      exact ⟨_, q, hd⟩
    · exact ⟨o, keep c o (I.cne x c e) hc nch ho (I.freeC x c e), hd⟩
  refine ⟨I.ok, I.os, hg, ⟨fun b o e n hb hx => ?_, fun b o e n hb hx => ?_, fun b o e n hx => ?_, fun b o e hx => ?_, fun b xs e => tups b xs (I.base.tups b xs e), fun b o xs e => frzs b o xs (I.base.frzs b o xs e), fun b ps e => ?_⟩, ?_, fun x c e => ?_, ?_, fun x c e => ?_, fun p hp => ?_, hok, I.len⟩
  · exact keep b o (neL b o e) hb (neC b o e hx) (I.base.keep b o e n hb hx) (I.base.free b o e n hx)
  · obtain ⟨sl, e1⟩ := I.base.slot b o e n hb hx
    obtain ⟨sl', e2⟩ := slot b _ (neL b o e) hb (neC b o e hx) e1 (I.base.free b o e n hx)
    exact ⟨sl', e2⟩
  · obtain ⟨o', e1⟩ := I.base.there b o e hx
    exact free b o' (neC b o e hx) e1 (I.base.free b o e n hx)
  · obtain ⟨o', e1⟩ := I.base.there b o e hx
    exact there b o' (neC b o e hx) e1
  · obtain ⟨e1, g1⟩ := I.base.tbls b ps e
    obtain ⟨e2, g2⟩ := tbls b _ e1
    refine ⟨e2, fun ps z => ?_⟩
    obtain ⟨m1, z1⟩ := g1 ps z
    obtain ⟨m2, z2⟩ := g2 _ z1
    exact ⟨m1 ++ m2, by rw [z2, Array.append_assoc]⟩
  · obtain ⟨m, hn, hl⟩ := I.loc
    refine ⟨m, ns m hn, fun i x v e1 e2 e3 => ?_⟩
    obtain ⟨u, r, l⟩ := hl i x v e1 e2 e3
    refine ⟨u, r, ?_⟩
    rcases l with l | ⟨k, c, e, z⟩
    · exact .inl l
    · exact .inr ⟨k, c, e, cellK x c e _ z⟩
  · obtain ⟨v, z⟩ := I.cell x c e
    exact ⟨v, cellK x c e v z⟩
  · obtain ⟨m, ⟨o, _, _, ho, _⟩, _⟩ := I.loc
    exact free _ o (fun z => (hch _ z).2.1 rfl) ho I.free
  · obtain ⟨v, o, ho, hd⟩ := I.cell x c e
    exact free c o (fun z => (hch c z).2.2.1 x c e rfl) ho (I.freeC x c e)
  · obtain ⟨e, n, ne, nf, d⟩ := I.pin p hp
    have nch : p.1 ∉ ch := fun z => (hch p.1 z).2.2.2 p hp rfl
    exact ⟨keep p.1 p.2 ne nf nch e n, free p.1 p.2 nch e n, ne, nf, d⟩
theorem Inv.un {t' : Nat} (I : Inv X pins σ H s) (u : Un X.fs [] H H' s.heap h') (hok : HOk X.prog X.w H' h') : Inv X pins σ H' { s with heap := h', toks := t' } := by
  obtain ⟨m, ⟨o, es, ep, ho, r⟩, _⟩ := id I.loc
  obtain ⟨sl, hL⟩ := u.any ho I.free (by simp)
  exact I.step (g' := s.gens) (d' := s.drawn) (ch := []) (fun _ z => nomatch z) (fun b o _ hb _ e n => u.keep b o e n hb (by simp)) (fun b o _ hb _ e n => u.slot b o e n hb (by simp)) (fun b o _ e n => u.free b o e n (by simp)) (fun b o _ e => u.there b o e (by simp)) u.tups u.frzs u.tbls (fun m' hm => by
    obtain ⟨o', es', ep', ho', r'⟩ := hm
    rw [ho] at ho'; cases ho'
    exact ⟨_, es', ep', hL, r'⟩) hok I.bare
theorem Inv.call {g' : Array GenState} {t' : Nat} {d' : Drawn} {ch : List Addr} (I : Inv X pins σ H s) (u : Un (frs X.stack) ch H H' s.heap h') (hok : HOk X.prog X.w H' h') (hg : GStep s.gens g')
    (hch : ∀ b ∈ ch, (b ∈ X.ex ∨ X.s_0.heap.get? b = none) ∧ b ≠ X.env.locals ∧ (∀ x c, X.env.cells.lookup x = some c → c ≠ b) ∧ ∀ p ∈ X.pn ++ pins, p.1 ≠ b) :
    Inv X pins σ H' { s with heap := h', gens := g', drawn := d', toks := t' } := by
  obtain ⟨m, ⟨o, es, ep, ho, r⟩, _⟩ := id I.loc
  obtain ⟨sl, hL⟩ := u.any ho I.free fun z => (hch _ z).2.1 rfl
  exact I.step (ch := ch) hch (fun b o hL hb hc e n => u.keep b o e n (fun z => (List.mem_cons.mp (I.stkSub b z)).elim hL hb) hc) (fun b o _ _ hc e n => u.any e n hc) (fun b o hc e n => u.free b o e n hc) (fun b o hc e => u.there b o e hc) u.tups u.frzs u.tbls (fun m' hm => by
    obtain ⟨o', es', ep', ho', r'⟩ := hm
    rw [ho] at ho'; cases ho'
    exact ⟨_, es', ep', hL, r'⟩) hok (I.bare.step hg)
theorem Inv.turned {t' : Nat} {it : Addr} (I : Inv X pins σ H s) (k : ∀ b o, b ≠ it → s.heap.get? b = some o → h'.get? b = some o) (hn : H it = none) (hL : it ≠ X.env.locals)
    (h1 : it ∈ X.ex ∨ X.s_0.heap.get? it = none) (h2 : ∀ x c, X.env.cells.lookup x = some c → c ≠ it) (h3 : ∀ p ∈ X.pn ++ pins, p.1 ≠ it) : Inv X pins σ H { s with heap := h', toks := t' } := by
  have nit : ∀ b u, H b = some u → b ≠ it := fun b u e z => by rw [z, hn] at e; cases e
  refine I.step (g' := s.gens) (d' := s.drawn) (ch := [it]) (fun b hb => ?_) (fun b o _ _ hc e _ => k b o (fun z => hc (by simp [z])) e) (fun b o _ _ hc e _ => ⟨o.slots, k b o (fun z => hc (by simp [z])) e⟩) (fun _ _ _ _ n => n)
    (fun b o hc e => ⟨o, k b o (fun z => hc (by simp [z])) e⟩) (fun _ _ e => e) (fun _ _ _ e => e) (fun b _ e => ⟨e, fun ps z => ⟨#[], by rw [k b _ (nit b _ e) z]; simp⟩⟩) (fun m hm => ?_) (fun b u e => ?_) I.bare
  · have e : b = it := by simpa using hb
    subst e
    exact ⟨h1, hL, h2, h3⟩
  · obtain ⟨o, es, ep, ho, r⟩ := hm
    exact ⟨o, es, ep, k _ o (Ne.symm hL) ho, r⟩
  · refine (I.hok b u e).stay (fun c v hc q => k c v ?_ q) (fun _ q => q) fun _ _ _ q => q
    rcases hc with z | z
    · rw [z]; exact nit b u e
    · exact nit c _ z
theorem Inv.tok (I : Inv X pins σ H s) (t : Nat) : Inv X pins σ H { s with toks := t } := I.un (h' := s.heap) (t' := t) Un.refl I.hok
theorem Inv.kept {t' : Nat} (I : Inv X pins σ H s) (k : ∀ b u, s.heap.get? b = some u → h'.get? b = some u) : Inv X pins σ H { s with heap := h', toks := t' } := I.un (Un.kept k) (I.hok.kept k)
theorem Inv.laid {a : Addr} {o : HO} {t' : Nat} (I : Inv X pins σ H s) (k : ∀ b u, s.heap.get? b = some u → h'.get? b = some u) (hp : s.heap.objs.size ≤ a) (new : ObjOk X.prog X.w (upd H a o) h' a o) :
    Inv X pins σ (upd H a o) { s with heap := h', toks := t' } := I.un (Un.laid k hp (I.hok.fresh hp)) (I.hok.laid k hp new)
theorem Inv.write {x e : Addr} {o : HO} {t' : Nat} (I : Inv X pins σ H s) (mu : Mut (H x)) (he : e = x ∨ H e = some (.own x)) (k : ∀ b u, b ≠ e → s.heap.get? b = some u → h'.get? b = some u) (heo : ∃ u, h'.get? e = some u)
    (new : ObjOk X.prog X.w (upd H x o) h' x o) : Inv X pins σ (upd H x o) { s with heap := h', toks := t' } := I.un (Un.write mu he k heo) (I.hok.write mu he k heo new)
theorem Inv.weak {σ' : List (Option V)} (I : Inv X pins σ H s) (hl : σ'.length = σ.length) (w : ∀ (i : Nat) v, σ'[i]? = some (some v) → σ[i]? = some (some v)) : Inv X pins σ' H s :=
  ⟨I.ok, I.os, I.bare, I.base, let ⟨m, hn, hl'⟩ := I.loc; ⟨m, hn, fun i x v e1 e2 e3 => hl' i x v e1 (w i v e2) e3⟩, I.cell, I.free, I.freeC, I.pin, I.hok, hl.trans I.len⟩
theorem Inv.pins_of {pins' : List (Addr × Obj)} (I : Inv X pins σ H s) (h : ∀ p ∈ pins', s.heap.get? p.1 = some p.2 ∧ H p.1 = none ∧ p.1 ≠ X.env.locals ∧ p.1 ∉ X.fs ∧ ∀ v, p.2.data ≠ .cell v) : Inv X pins' σ H s :=
  ⟨I.ok, I.os, I.bare, I.base, I.loc, I.cell, I.free, I.freeC, fun p hp => (List.mem_append.mp hp).elim (fun z => I.pin p (List.mem_append_left _ z)) (h p), I.hok, I.len⟩
theorem nodup_ix {N : List Str} (hN : N.Nodup) {i j : Nat} {x : Str} (a : N[i]? = some x) (b : N[j]? = some x) : i = j := by
  obtain ⟨h1, e1⟩ := List.getElem?_eq_some_iff.mp a
  obtain ⟨h2, e2⟩ := List.getElem?_eq_some_iff.mp b
  exact (List.getElem_inj hN).mp (e1.trans e2.symm)
theorem store_ok2 {M : Model} {A : Around} {E : Value → Shared → Prop} {i : Nat} {x : Str} {v : V} {u : Value} {Q : Unit → Shared → Prop} (I : Inv X pins σ H s) (hN : X.N.Nodup) (hi : X.N[i]? = some x) (hx : Loc X.env.scope x) (r : RelV v u)
    (h : ∀ s', Inv X pins (σ.set i (some v)) H s' → (∃ a, Heap.SameBut a s.heap s'.heap ∧ (a = X.env.locals ∨ X.env.cells.lookup x = some a)) → Q () s') (hf : X.fn x = true ∨ X.env.scope.names.lookup x = some .local := by first | exact .inl rfl | exact .inr rfl | assumption) : wpAny M A (storeName X.env x u) Q E s := by
  obtain ⟨m, hn, hl⟩ := id I.loc
  have hcls : (X.env.scope.kind == .class || (X.env.scope.kind == .module && X.env.locals != X.env.globals)) = false := by rw [I.ok.kind]; rfl
  have hiσ : i < σ.length := by rw [I.len]; exact (List.getElem?_eq_some_iff.mp hi).1
  have cne := I.cne
  have tracked : ∀ {a : Addr} {h' : Heap}, (∃ o, s.heap.get? a = some o ∧ H a = none) → Heap.SameBut a s.heap h' → HOk X.prog X.w H h' := fun {a h'} ha hs b ob e => by
    obtain ⟨_, _, hfree⟩ := ha
    refine (I.hok b ob e).stay (fun c w' hc q => (hs.2 c ?_).trans q) (fun _ q => q) fun _ _ _ q => q
    rintro rfl
    rcases hc with rfl | hc
    · rw [hfree] at e; cases e
    · rw [hfree] at hc; cases hc
  rcases hx with hk | hk
  · refine wpAny_storeName_local hk hn (fun h' hn' hs => ?_) hcls
    obtain ⟨oL, _, _, hoL, _⟩ := id hn
    refine h _ ⟨I.ok, I.os, I.bare, ⟨fun b o e n hb hx => ?_, fun b o e n hb hx => ?_, I.base.free, fun b o e hx => ?_, I.base.tups, I.base.frzs, fun b q e => ⟨(I.base.tbls b q e).1, fun ps z => by
      obtain ⟨m, z1⟩ := (I.base.tbls b q e).2 ps z
      exact ⟨m, (hs.2 b (fun y => by have := (I.base.tbls b q e).1; rw [y, I.free] at this; cases this)).trans z1⟩⟩⟩, ⟨_, hn', fun j y v' e1 e2 e3 => ?_⟩, fun y c e => ?_, I.free, I.freeC, fun p hp => ?_, tracked ⟨oL, hoL, I.free⟩ hs, by simpa using I.len⟩ ⟨_, hs, .inl rfl⟩
    · exact (hs.2 b (fun z => by rw [z, I.ok.above] at e; cases e)).trans (I.base.keep b o e n hb hx)
    · obtain ⟨sl, e1⟩ := I.base.slot b o e n hb hx
      exact ⟨sl, (hs.2 b (fun z => by rw [z, I.ok.above] at e; cases e)).trans e1⟩
    · obtain ⟨o', e1⟩ := I.base.there b o e hx
      exact ⟨o', (hs.2 b (fun z => by rw [z, I.ok.above] at e; cases e)).trans e1⟩
    · by_cases hj : j = i
      · subst hj
        rw [hi] at e1; cases e1
        rw [List.getElem?_set_self hiσ] at e2
        cases e2
        exact ⟨u, r, .inl ⟨hk, by simp⟩⟩
      · rw [List.getElem?_set_ne (Ne.symm hj)] at e2
        obtain ⟨u', r', q⟩ := hl j y v' e1 e2 e3
        refine ⟨u', r', ?_⟩
        rcases q with ⟨k, e⟩ | ⟨k, c, e, z⟩
        · refine .inl ⟨k, ?_⟩
          have : y ≠ x := fun e => hj (nodup_ix hN e1 (e ▸ hi))
          simp [this, e]
        · exact .inr ⟨k, c, e, z.sameBut hs (cne y c e)⟩
    · obtain ⟨w', z⟩ := I.cell y c e
      exact ⟨w', z.sameBut hs (cne y c e)⟩
    · obtain ⟨e, n, ne, nf, d⟩ := I.pin p hp
      exact ⟨(hs.2 p.1 ne).trans e, n, ne, nf, d⟩
  · have hfn : X.fn x = true := by
      rcases hf with z | z
      · exact z
      · rw [z] at hk; cases hk
    obtain ⟨c, hc⟩ := I.ok.has x (.inl hk)
    obtain ⟨w', z⟩ := I.cell x c hc
    refine wpAny_storeName_cell I.ok.kind hk hc z (fun h' hc' hs => ?_)
    obtain ⟨oc, hoc, hocd⟩ := id z
    refine h { s with heap := h' } ⟨I.ok, I.os, I.bare, ⟨fun b o e n hb hx => ?_, fun b o e n hb hx => ?_, I.base.free, fun b o e hx => ?_, I.base.tups, I.base.frzs, fun b q e => ⟨(I.base.tbls b q e).1, fun ps z => by
      obtain ⟨m, z1⟩ := (I.base.tbls b q e).2 ps z
      exact ⟨m, (hs.2 b (fun y => by have := (I.base.tbls b q e).1; rw [y, I.freeC x c hc] at this; cases this)).trans z1⟩⟩⟩, ⟨m, hn.sameBut hs (Ne.symm (cne x c hc)), fun j y v' e1 e2 e3 => ?_⟩, fun y c' e => ?_, I.free, I.freeC, fun p hp => ?_, tracked ⟨oc, hoc, I.freeC x c hc⟩ hs, by simpa using I.len⟩ ⟨c, hs, .inr hc⟩
    · exact (hs.2 b (Nat.ne_of_lt (Nat.lt_of_lt_of_le (Heap.lt_size e) (I.ok.cab x c hfn hc)))).trans (I.base.keep b o e n hb hx)
    · obtain ⟨sl, e1⟩ := I.base.slot b o e n hb hx
      exact ⟨sl, (hs.2 b (Nat.ne_of_lt (Nat.lt_of_lt_of_le (Heap.lt_size e) (I.ok.cab x c hfn hc)))).trans e1⟩
    · obtain ⟨o', e1⟩ := I.base.there b o e hx
      exact ⟨o', (hs.2 b (Nat.ne_of_lt (Nat.lt_of_lt_of_le (Heap.lt_size e) (I.ok.cab x c hfn hc)))).trans e1⟩
    · by_cases hj : j = i
      · subst hj
        rw [hi] at e1; cases e1
        rw [List.getElem?_set_self hiσ] at e2
        cases e2
        exact ⟨u, r, .inr ⟨.inl hk, c, hc, hc'⟩⟩
      · rw [List.getElem?_set_ne (Ne.symm hj)] at e2
        obtain ⟨u', r', q⟩ := hl j y v' e1 e2 e3
        refine ⟨u', r', ?_⟩
        rcases q with q | ⟨k, c', e, z'⟩
        · exact .inl q
        · refine .inr ⟨k, c', e, z'.sameBut hs ?_⟩
          rintro rfl
          exact hj (nodup_ix hN e1 (I.ok.inj _ _ _ e hc ▸ hi))
    · by_cases hcc : c' = c
      · subst hcc; exact ⟨_, hc'⟩
      · obtain ⟨w2, z2⟩ := I.cell y c' e
        exact ⟨w2, z2.sameBut hs hcc⟩
    · obtain ⟨e, n, ne, nf, d⟩ := I.pin p hp
      refine ⟨(hs.2 p.1 ?_).trans e, n, ne, nf, d⟩
      intro q
      rw [q, hoc] at e
      have q' : oc = p.2 := Option.some.inj e
      exact d w' (by rw [← q']; exact hocd)
theorem store_ok {M : Model} {A : Around} {E : Value → Shared → Prop} {i : Nat} {x : Str} {v : V} {u : Value} {Q : Unit → Shared → Prop} (I : Inv X pins σ H s) (hN : X.N.Nodup) (hi : X.N[i]? = some x) (hx : Loc X.env.scope x) (r : RelV v u)
    (h : ∀ s', Inv X pins (σ.set i (some v)) H s' → Q () s') (hf : X.fn x = true ∨ X.env.scope.names.lookup x = some .local := by first | exact .inl rfl | exact .inr rfl | assumption) : wpAny M A (storeName X.env x u) Q E s :=
  store_ok2 I hN hi hx r (fun s' I' _ => h s' I') hf
theorem Inv.call' {s' : Shared} {ch : List Addr} (I : Inv X pins σ H s) (ho : s'.os = s.os) (u : Un (frs X.stack) ch H H' s.heap s'.heap) (hok : HOk X.prog X.w H' s'.heap) (hg : GStep s.gens s'.gens)
    (hch : ∀ b ∈ ch, (b ∈ X.ex ∨ X.s_0.heap.get? b = none) ∧ b ≠ X.env.locals ∧ (∀ x c, X.env.cells.lookup x = some c → c ≠ b) ∧ ∀ p ∈ X.pn ++ pins, p.1 ≠ b) : Inv X pins σ H' s' := by
  obtain ⟨h', g', d', t', o'⟩ := s'
  have e : o' = s.os := ho
  subst e
  exact I.call (g' := g') (t' := t') (d' := d') u hok hg hch
end
abbrev XK := Value → Option Addr → Hp → Prop
abbrev St := List (Option V)
abbrev VK := V → Hp → Prop
abbrev TE := St → Hp → VK → Prop
abbrev TT := St → Hp → (Bool → Hp → Prop) → Prop
abbrev TA := St → Hp → (List V → Hp → Prop) → Prop
structure Ends where
  nx : St → Hp → Prop
  rt : VK
  bk : St → Hp → Prop := fun _ _ => False
  ct : St → Hp → Prop := fun _ _ => False
abbrev TS := Ends → St → Hp → Prop
def EP (X : Cx) (pins : List (Addr × Obj)) (σ : St) (Q : VK) (u : Value) (s' : Shared) : Prop := ∃ v H', Inv X pins σ H' s' ∧ RelV v u ∧ Q v H'
def TP (X : Cx) (pins : List (Addr × Obj)) (σ : St) (Q : Bool → Hp → Prop) (b : Bool) (s' : Shared) : Prop := ∃ H', Inv X pins σ H' s' ∧ Q b H'
def AP (X : Cx) (pins : List (Addr × Obj)) (σ : St) (Q : List V → Hp → Prop) (us : List Value) (s' : Shared) : Prop := ∃ vs H', Inv X pins σ H' s' ∧ Vals vs us ∧ Q vs H'
def SP (X : Cx) (pins : List (Addr × Obj)) (D : Ends) (f : Flow) (s' : Shared) : Prop :=
  match f with
  | .next => ∃ σ' H', Inv X pins σ' H' s' ∧ D.nx σ' H'
  | .brk => ∃ σ' H', Inv X pins σ' H' s' ∧ D.bk σ' H'
  | .cont => ∃ σ' H', Inv X pins σ' H' s' ∧ D.ct σ' H'
  | .ret u => ∃ v σ' H', Inv X pins σ' H' s' ∧ RelV v u ∧ D.rt v H'
def PE (X : Cx) (e : Expr) (t : TE) : Prop :=
  ∀ (pins : List (Addr × Obj)) (s : Shared) (σ : St) (H : Hp) (Q : VK), Inv X pins σ H s → t σ H Q → wpAny (model X.prog X.w) X.A (eval e X.env) (EP X pins σ Q) X.xe s
def PT (X : Cx) (e : Expr) (t : TT) : Prop :=
  ∀ (pins : List (Addr × Obj)) (s : Shared) (σ : St) (H : Hp) (Q : Bool → Hp → Prop), Inv X pins σ H s → t σ H Q → wpAny (model X.prog X.w) X.A (isTrue e X.env (eval e X.env)) (TP X pins σ Q) X.xe s
def PW (X : Cx) (e : Expr) (t : TT) : Prop :=
  ∀ (whole : Sem Value) (pins : List (Addr × Obj)) (s : Shared) (σ : St) (H : Hp) (Q : Bool → Hp → Prop), Inv X pins σ H s → t σ H Q → wpAny (model X.prog X.w) X.A (isTrue e X.env whole) (TP X pins σ Q) X.xe s
theorem PW.pt {X : Cx} {e : Expr} {t : TT} (h : PW X e t) : PT X e t := h _
def PA (X : Cx) (es : List Expr) (t : TA) : Prop :=
  ∀ (pos : Pos) (pins : List (Addr × Obj)) (s : Shared) (σ : St) (H : Hp) (Q : List V → Hp → Prop), Inv X pins σ H s → t σ H Q → wpAny (model X.prog X.w) X.A (spliced (backTo pos (starEach es X.env))) (AP X pins σ Q) X.xe s
def PS (X : Cx) (st : Stmt) (t : TS) : Prop :=
  ∀ (pins : List (Addr × Obj)) (s : Shared) (σ : St) (H : Hp) (D : Ends), Inv X pins σ H s → t D σ H → wpAny (model X.prog X.w) X.A (exec st X.env) (SP X pins D) X.xe s
def PSs (X : Cx) (st : List Stmt) (t : TS) : Prop :=
  ∀ (pins : List (Addr × Obj)) (s : Shared) (σ : St) (H : Hp) (D : Ends), Inv X pins σ H s → t D σ H → wpAny (model X.prog X.w) X.A (execs st X.env) (SP X pins D) X.xe s
theorem thn {α : Type} {t : Sem α} {Q Q' : α → Shared → Prop} {M : Model} {A : Around} {E : Value → Shared → Prop} {s : Shared} (h : wpAny M A t Q E s) (hQ : ∀ a s, Q a s → Q' a s) : wpAny M A t Q' E s := wpAny_mono h hQ fun _ _ x => x
end L2
namespace L2
open PySem PySem.Spec PyProof.Rows
section
variable {X : Cx}
def tVar (i : Nat) : TE := fun σ H Q => ∃ v, σ[i]? = some (some v) ∧ Q v H
def tC (v : V) : TE := fun _ H Q => Q v H
theorem pe_var {i : Nat} {x : Str} {pos : Pos} (hN : X.N[i]? = some x) (hv : Vis X.env.scope x) (hd : (x == ("__debug__" : Str)) = false := by decide) (hcd : (x == ("__classdict__" : Str)) = false := by decide) : PE X (.Name x pos) (tVar i) := by
  intro pins s σ H Q I h
  obtain ⟨v, e, h⟩ := h
  obtain ⟨m, hn, hl⟩ := I.loc
  obtain ⟨u, r, l⟩ := hl i x v hN e hv
  have fin : EP X pins σ Q u s := ⟨v, H, I, r, h⟩
  rcases l with ⟨hk, hm⟩ | ⟨hk, c, hc, hcell⟩
  · exact wpAny_Name (wpAny_loadName_local I.ok.kind hk hn hm fin) hd
  · rcases hk with hk | hk
    · exact wpAny_Name (wpAny_loadName_cell I.ok.kind hk hc hcell fin) hd
    · exact wpAny_Name (wpAny_loadName_free I.ok.kind hk hc hcell fin hcd) hd
theorem pe_int {i j pos} : PE X (.Constant (.int i) j pos) (tC (.int i)) := fun _ _ _ H _ I h => wpAny_Constant_int ⟨.int i, H, I.tok _, ⟨_, rfl⟩, h⟩
theorem pe_bl {b j pos} : PE X (.Constant (.bool b) j pos) (tC (.bl b)) := fun _ _ _ H _ I h => Constant_bool ⟨.bl b, H, I, rfl, h⟩
theorem pe_non {j pos} : PE X (.Constant .none j pos) (tC .non) := fun _ _ _ H _ I h => Constant_none ⟨.non, H, I, rfl, h⟩
theorem pe_str {x j pos} : PE X (.Constant (.str x) j pos) (tC (.str x)) := fun _ _ _ H _ I h => Calls.Constant_str ⟨.str x, H, I.tok _, ⟨_, rfl⟩, h⟩
def Gl (X : Cx) (x : Str) : Prop := X.env.kindOf x = some .globalImplicit
theorem ld_glob {E : Value → Shared → Prop} {pins : List (Addr × Obj)} {s : Shared} {σ : St} {H : Hp} {x : Str} {u : Value} {pos : Pos} {Q : Value → Shared → Prop} (I : Inv X pins σ H s) (hg : Gl X x) (hm : X.mg x = some u) (h : Q u s)
    (hd : (x == ("__debug__" : Str)) = false := by decide) : wpAny (model X.prog X.w) X.A (eval (.Name x pos) X.env) Q E s :=
  Calls.Name_function_global I.ok.kind hg (Calls.loadGlobal_global (by rw [I.ok.glob]; exact I.mod.glob.keeps I.bk) hm h) hd
theorem ld_blt {E : Value → Shared → Prop} {pins : List (Addr × Obj)} {s : Shared} {σ : St} {H : Hp} {x : Str} {u : Value} {pos : Pos} {Q : Value → Shared → Prop} (I : Inv X pins σ H s) (hg : Gl X x) (hm : X.mg x = none) (hv : bootBuiltins x = some u) (h : Q u s)
    (hn : x ≠ "__name__" := by decide) (hd : (x == ("__debug__" : Str)) = false := by decide) : wpAny (model X.prog X.w) X.A (eval (.Name x pos) X.env) Q E s := by
  obtain ⟨mb, h1, h2⟩ := I.mod.blt
  exact Calls.Name_function_global I.ok.kind hg (Calls.loadGlobal_builtin (by rw [I.ok.glob]; exact I.mod.glob.keeps I.bk) hm (by rw [I.ok.blt]; exact h1.keeps I.bk) ((h2 x hn).trans hv) h) hd
theorem pe_glob {x : Str} {v : V} {u : Value} {pos : Pos} (hg : Gl X x) (hm : X.mg x = some u) (r : RelV v u) (hd : (x == ("__debug__" : Str)) = false := by decide) : PE X (.Name x pos) (tC v) :=
  fun _ _ _ H _ I h => ld_glob I hg hm ⟨v, H, I, r, h⟩ hd
theorem pe_bltn {x : Str} {v : V} {u : Value} {pos : Pos} (hg : Gl X x) (hm : X.mg x = none) (hv : bootBuiltins x = some u) (r : RelV v u) (hn : x ≠ "__name__" := by decide) (hd : (x == ("__debug__" : Str)) = false := by decide) : PE X (.Name x pos) (tC v) :=
  fun _ _ _ H _ I h => ld_blt I hg hm hv ⟨v, H, I, r, h⟩ hn hd
variable {a b : Expr} {ta tb : TE} {pos : Pos}
def tB (t : TE) : TT := fun σ H Q => t σ H fun x H1 => ∃ c, x = .bl c ∧ Q c H1
theorem pt_val {e : Expr} {t : TE} (h : PE X e t) (he : ∀ whole, isTrue e X.env whole = (do let v ← whole; standAt e.pos; holding [v] (truthy v)) := by intro _; rfl) : PT X e (tB t) := by
  intro pins s σ H Q I hw
  refine isTrue_plain (thn (h pins s σ H _ I hw) fun v s1 ⟨x, H1, I1, r1, q1⟩ => ?_) (he _)
  obtain ⟨d, rfl, q⟩ := q1
  cases r1
  exact wpAny_truthy_bool ⟨H1, I1, q⟩
variable {tA tB' : TT} {rest : List Expr}
def tAnd (t u : TT) : TT := fun σ H Q => t σ H fun c H1 => if c = true then u σ H1 Q else Q false H1
def tOr (t u : TT) : TT := fun σ H Q => t σ H fun c H1 => if c = true then Q true H1 else u σ H1 Q
def tNot (t : TT) : TT := fun σ H Q => t σ H fun c H1 => Q (!c) H1
theorem pw_and1 (ha : PT X a tA) : PW X (.BoolOp .And [a] pos) tA := by
  intro wh pins s σ H Q I h
  refine isTrue_and (thn (ha pins s σ H Q I h) fun c s1 e => ?_)
  cases c with
  | true => exact isTrue_and_nil e
  | false => exact e
theorem pw_or1 (ha : PT X a tA) : PW X (.BoolOp .Or [a] pos) tA := by
  intro wh pins s σ H Q I h
  refine isTrue_or (thn (ha pins s σ H Q I h) fun c s1 e => ?_)
  cases c with
  | false => exact isTrue_or_nil e
  | true => exact e
theorem pw_and (ha : PT X a tA) (hb : PW X (.BoolOp .And (b :: rest) pos) tB') : PW X (.BoolOp .And (a :: b :: rest) pos) (tAnd tA tB') := by
  intro wh pins s σ H Q I h
  refine isTrue_and (thn (ha pins s σ H _ I h) fun c s1 ⟨H1, I1, q1⟩ => ?_)
  cases c with
  | true => exact hb wh pins s1 σ H1 Q I1 q1
  | false => exact ⟨H1, I1, q1⟩
theorem pw_or (ha : PT X a tA) (hb : PW X (.BoolOp .Or (b :: rest) pos) tB') : PW X (.BoolOp .Or (a :: b :: rest) pos) (tOr tA tB') := by
  intro wh pins s σ H Q I h
  refine isTrue_or (thn (ha pins s σ H _ I h) fun c s1 ⟨H1, I1, q1⟩ => ?_)
  cases c with
  | true => exact ⟨H1, I1, q1⟩
  | false => exact hb wh pins s1 σ H1 Q I1 q1
theorem pt_not (ha : PT X a tA) : PT X (.UnaryOp .Not a pos) (tNot tA) := by
  intro pins s σ H Q I h
  exact isTrue_not (ha pins s σ H (fun c H1 => Q (!c) H1) I h)
def tIf (t : TT) (ta tb : TE) : TE := fun σ H Q => t σ H fun c H1 => if c = true then ta σ H1 Q else tb σ H1 Q
theorem pe_ifExp {c : Expr} (hc : PT X c tA) (ha : PE X a ta) (hb : PE X b tb) : PE X (.IfExp c a b pos) (tIf tA ta tb) := by
  intro pins s σ H Q I h
  refine wpAny_IfExp (thn (hc pins s σ H _ I h) fun d s1 ⟨H1, I1, q1⟩ => ?_)
  cases d with
  | true => exact ha pins s1 σ H1 Q I1 q1
  | false => exact hb pins s1 σ H1 Q I1 q1
end
end L2
namespace L2
open PySem PySem.Spec PyProof.Rows
def SqL (K : PySem.W.Frag) (H : Hp) (a : Addr) (xs : List V) : Prop :=
  Rd H a (.lst xs) ∨
    ∃ (o : Obj) (its : Array Value) (n : Nat), K.lookup a = some o ∧ o.cls = .type "list" ∧ o.dict = none ∧ o.data = .seq its n ∧ its.size ≤ sizeLine ∧ Vals xs its.toList
def SqT (K : PySem.W.Frag) (H : Hp) (a : Addr) (xs : List V) : Prop :=
  Rd H a (.tup xs) ∨
    ∃ (o : Obj) (its : Array Value) (n : Nat), K.lookup a = some o ∧ o.cls = .type "tuple" ∧ o.data = .seq its n ∧ its.size ≤ sizeLine ∧ Vals xs its.toList
def absV : Value → Option V
  | .none => some .non
  | .bool b => some (.bl b)
  | .int i _ => some (.int i)
  | .str x _ => some (.str x)
  | .bytes b _ => some (.byt b)
  | .float b _ => some (.flt b)
  | .ref a => some (.ref a)
  | .type n => some (.ty n)
  | _ => none
theorem RelV.abs {x : V} {u : Value} (r : RelV x u) : absV u = some x := by
  cases x with
  | non => cases r; rfl
  | bl _ => cases r; rfl
  | int _ => obtain ⟨t, rfl⟩ := r; rfl
  | str _ => obtain ⟨t, rfl⟩ := r; rfl
  | byt _ => obtain ⟨t, rfl⟩ := r; rfl
  | flt _ => obtain ⟨t, rfl⟩ := r; rfl
  | ref _ => cases r; rfl
  | ty _ => cases r; rfl
theorem RelV.inj {x y : V} {u : Value} (r : RelV x u) (q : RelV y u) : x = y := Option.some.inj (r.abs.symm.trans q.abs)
theorem Vals.inj : ∀ {xs ys : List V} {us : List Value}, Vals xs us → Vals ys us → xs = ys
  | _, _, _, .nil, .nil => rfl
  | _, _, _, .cons r t, .cons r' t' => by rw [r.inj r', Vals.inj t t']
section
variable {X : Cx} {pins : List (Addr × Obj)} {σ : St} {H : Hp} {s : Shared} {a : Addr} {xs ys : List V}
theorem SqL.of {K : PySem.W.Frag} (h : H a = some (.lst xs)) : SqL K H a xs := .inl (.inl h)
theorem SqT.of {K : PySem.W.Frag} (h : H a = some (.tup xs)) : SqT K H a xs := .inl (.inl h)
theorem Inv.list (I : Inv X pins σ H s) (h : SqL X.K H a xs) : ∃ its : List Value, Vals xs its ∧ PlainL s.heap a its.toArray ∧ xs.length ≤ sizeLine := by
  rcases h with h | ⟨o, its, n, hk, hc, hd, hs, hz, r⟩
  · obtain ⟨z, its, n, r, e⟩ := h.ok I.hok
    exact ⟨its, r, ⟨_, n, e, rfl, rfl, rfl⟩, z⟩
  · refine ⟨its.toList, r, ⟨o, n, I.kIn a o hk, hc, hd, by simpa using hs⟩, ?_⟩
    have e := r.length
    simp only [Array.length_toList] at e
    omega
theorem Inv.tuple (I : Inv X pins σ H s) (h : SqT X.K H a xs) : ∃ its : List Value, Vals xs its ∧ IsTup s.heap a its.toArray ∧ xs.length ≤ sizeLine := by
  rcases h with h | ⟨o, its, n, hk, hc, hs, hz, r⟩
  · obtain ⟨z, its, r, p⟩ := h.ok I.hok
    exact ⟨its, r, p, z⟩
  · refine ⟨its.toList, r, ⟨o, I.kIn a o hk, hc, n, by simpa using hs⟩, ?_⟩
    have e := r.length
    simp only [Array.length_toList] at e
    omega
theorem Inv.list_inj (I : Inv X pins σ H s) (h : SqL X.K H a xs) (h' : SqL X.K H a ys) : xs = ys := by
  obtain ⟨its, r, ⟨o, n, e, _, _, d⟩, _⟩ := I.list h
  obtain ⟨its', r', ⟨o', n', e', _, _, d'⟩, _⟩ := I.list h'
  rw [e] at e'; cases e'
  rw [d] at d'
  injection d' with d1 _
  have : its = its' := by simpa using congrArg Array.toList d1
  subst this
  exact r.inj r'
theorem Inv.tuple_inj (I : Inv X pins σ H s) (h : SqT X.K H a xs) (h' : SqT X.K H a ys) : xs = ys := by
  obtain ⟨its, r, ⟨o, e, _, n, d⟩, _⟩ := I.tuple h
  obtain ⟨its', r', ⟨o', e', _, n', d'⟩, _⟩ := I.tuple h'
  rw [e] at e'; cases e'
  rw [d] at d'
  injection d' with d1 _
  have : its = its' := by simpa using congrArg Array.toList d1
  subst this
  exact r.inj r'
end
abbrev Cx.wish (X : Cx) (E : Value → Shared → Prop) : Cx := { X with xe := E }
abbrev Cx.nox (X : Cx) : Cx := X.wish fun _ _ => False
theorem Cx.Ok.wish {X : Cx} (ok : X.Ok) (E : Value → Shared → Prop) : (X.wish E).Ok :=
  ⟨ok.mod, ok.kind, ok.glob, ok.blt, ok.above, ok.inj, ok.has, ok.cab, ok.hd, ok.frames, ok.stk, ok.exf, ok.bs, ok.bsz, ok.noex, ok.exfs, ok.funs, ok.frf, ok.tab⟩
theorem Cx.Ok.unwish {X : Cx} {E : Value → Shared → Prop} (ok : (X.wish E).Ok) : X.Ok :=
  ⟨ok.mod, ok.kind, ok.glob, ok.blt, ok.above, ok.inj, ok.has, ok.cab, ok.hd, ok.frames, ok.stk, ok.exf, ok.bs, ok.bsz, ok.noex, ok.exfs, ok.funs, ok.frf, ok.tab⟩
section
variable {X : Cx} {pins : List (Addr × Obj)} {σ : St} {H : Hp} {s : Shared} {E : Value → Shared → Prop}
theorem Inv.wish (I : Inv X pins σ H s) (E : Value → Shared → Prop) : Inv (X.wish E) pins σ H s := ⟨I.ok.wish E, I.os, I.bare, I.base, I.loc, I.cell, I.free, I.freeC, I.pin, I.hok, I.len⟩
theorem Inv.unwish (I : Inv (X.wish E) pins σ H s) : Inv X pins σ H s := ⟨I.ok.unwish, I.os, I.bare, I.base, I.loc, I.cell, I.free, I.freeC, I.pin, I.hok, I.len⟩
theorem SP.unwish {D : Ends} {f : Flow} {s' : Shared} (h : SP (X.wish E) pins D f s') : SP X pins D f s' := by
  cases f with
  | next => obtain ⟨σ', H', I, q⟩ := h; exact ⟨σ', H', I.unwish, q⟩
  | brk => obtain ⟨σ', H', I, q⟩ := h; exact ⟨σ', H', I.unwish, q⟩
  | cont => obtain ⟨σ', H', I, q⟩ := h; exact ⟨σ', H', I.unwish, q⟩
  | ret u => obtain ⟨v, σ', H', I, r, q⟩ := h; exact ⟨v, σ', H', I.unwish, r, q⟩
theorem PE.nox {e : Expr} {t : TE} (h : PE X.nox e t) : PE X e t := fun pins s σ H Q I hw =>
  wpAny_mono (h pins s σ H Q (I.wish _) hw) (fun _ _ ⟨v, H', I', r, q⟩ => ⟨v, H', I'.unwish, r, q⟩) fun _ _ z => False.elim z
theorem PT.nox {e : Expr} {t : TT} (h : PT X.nox e t) : PT X e t := fun pins s σ H Q I hw =>
  wpAny_mono (h pins s σ H Q (I.wish _) hw) (fun _ _ ⟨H', I', q⟩ => ⟨H', I'.unwish, q⟩) fun _ _ z => False.elim z
theorem PSs.nox {st : List Stmt} {t : TS} (h : PSs X.nox st t) : PSs X st t := fun pins s σ H D I hw =>
  wpAny_mono (h pins s σ H D (I.wish _) hw) (fun _ _ q => q.unwish) fun _ _ z => False.elim z
end
section
variable {X : Cx} {st : Stmt} {rest : List Stmt} {t u : TS} {e : Expr} {te : TE} {pos : Pos}
def tNext : TS := fun D σ H => D.nx σ H
def tSeq (t u : TS) : TS := fun D σ H => t { D with nx := u D } σ H
theorem pss_nil : PSs X [] tNext := fun _ _ σ H _ I h => wpAny_execs_nil ⟨σ, H, I, h⟩
theorem pss_cons (h1 : PS X st t) (h2 : PSs X rest u) : PSs X (st :: rest) (tSeq t u) := by
  intro pins s σ H D I h
  refine wpAny_execs_cons (thn (h1 pins s σ H { D with nx := u D } I h) fun f s1 q => ?_)
  cases f with
  | next =>
    obtain ⟨σ', H', I', q⟩ := q
    exact h2 pins s1 σ' H' D I' q
  | ret v => exact q
  | brk => exact q
  | cont => exact q
theorem pss_one (h1 : PS X st t) : PSs X [st] t := by
  intro pins s σ H D I h
  refine wpAny_execs_cons (thn (h1 pins s σ H D I h) fun f s1 q => ?_)
  cases f with
  | next => exact wpAny_execs_nil q
  | ret v => exact q
  | brk => exact q
  | cont => exact q
theorem Inv.quiet {pins : List (Addr × Obj)} {σ : St} {H : Hp} {s : Shared} (I : Inv X pins σ H s) : interactive X.env = false := by simp [interactive, I.ok.kind]
def tDrop (te : TE) : TS := fun D σ H => te σ H fun _ H1 => D.nx σ H1
theorem ps_expr (he : PE X e te) (hs : swapsWith e none pos.line X.env = pure false := by rfl) : PS X (.Expr e pos) (tDrop te) := by
  intro pins s σ H D I h
  exact wpAny_Expr_any (thn (he pins s σ H _ I h) fun v s1 ⟨x, H1, I1, r1, q1⟩ => ⟨σ, H1, I1, q1⟩) I.quiet hs
def tRet (te : TE) : TS := fun D σ H => te σ H D.rt
theorem ps_ret (he : PE X e te) : PS X (.Return (some e) pos) (tRet te) := by
  intro pins s σ H D I h
  exact wpAny_Return_some (thn (he pins s σ H _ I h) fun v s1 ⟨x, H1, I1, r1, q1⟩ => ⟨x, σ, H1, I1, r1, q1⟩)
def tIfS (c : TT) (t u : TS) : TS := fun D σ H => c σ H fun b H1 => if b = true then t D σ H1 else u D σ H1
theorem ps_if {c : Expr} {a b : List Stmt} {tc : TT} (hc : PT X c tc) (ha : PSs X a t) (hb : PSs X b u) : PS X (.If c a b pos) (tIfS tc t u) := by
  intro pins s σ H D I h
  refine wpAny_If (thn (hc pins s σ H _ I h) fun d s1 ⟨H1, I1, q1⟩ => ?_)
  cases d with
  | true => exact ha pins s1 σ H1 D I1 q1
  | false => exact hb pins s1 σ H1 D I1 q1
def tNever : TS := fun _ _ _ => False
theorem ps_never : PS X st tNever := fun _ _ _ _ _ _ h => h.elim
end
abbrev TG := V → St → Hp → (St → Hp → Prop) → Prop
abbrev TGs := List V → St → Hp → (St → Hp → Prop) → Prop
def PG (X : Cx) (target : Expr) (t : TG) : Prop :=
  ∀ (pins : List (Addr × Obj)) (s : Shared) (σ : St) (H : Hp) (v : V) (u : Value) (Q : St → Hp → Prop), Inv X pins σ H s → RelV v u → t v σ H Q →
    wpAny (model X.prog X.w) X.A (assign target X.env u) (fun _ s' => ∃ σ' H', Inv X pins σ' H' s' ∧ Q σ' H') X.xe s
def PGs (X : Cx) (ts : List Expr) (t : TGs) : Prop :=
  ∀ (pins : List (Addr × Obj)) (s : Shared) (σ : St) (H : Hp) (vs : List V) (us : List Value) (Q : St → Hp → Prop), Inv X pins σ H s → Vals vs us → t vs σ H Q →
    wpAny (model X.prog X.w) X.A (assignInOrder ((assignEach ts X.env).map (·.2)) us) (fun _ s' => ∃ σ' H', Inv X pins σ' H' s' ∧ Q σ' H') X.xe s
abbrev TSet := V → V → V → Hp → (Hp → Prop) → Prop
def PSet (X : Cx) (t : TSet) : Prop :=
  ∀ (pins : List (Addr × Obj)) (s : Shared) (σ : St) (H : Hp) (o i v : V) (ov iv u : Value) (Q : Hp → Prop), Inv X pins σ H s → RelV o ov → RelV i iv → RelV v u → t o i v H Q →
    wpAny (model X.prog X.w) X.A (setItem ov iv u) (fun _ s' => ∃ H', Inv X pins σ H' s' ∧ Q H') X.xe s
abbrev TIp := V → V → Hp → VK → Prop
def PIp (X : Cx) (op : Operator) (t : TIp) : Prop :=
  ∀ (pins : List (Addr × Obj)) (s : Shared) (σ : St) (H : Hp) (x y : V) (v u : Value) (Q : VK), Inv X pins σ H s → RelV x v → RelV y u → t x y H Q →
    wpAny (model X.prog X.w) X.A (inplaceOp op v u) (EP X pins σ Q) X.xe s
section
variable {X : Cx} {pos : Pos}
def gName (i : Nat) : TG := fun v σ H Q => Q (σ.set i (some v)) H
theorem pg_name {i : Nat} {x : Str} (hN : X.N.Nodup) (hi : X.N[i]? = some x) (hx : Loc X.env.scope x) (hf : X.fn x = true ∨ X.env.scope.names.lookup x = some .local := by first | exact .inl rfl | exact .inr rfl | assumption) : PG X (.Name x pos) (gName i) := by
  intro pins s σ H v u Q I r h
  exact wpAny_assign_Name (store_ok I hN hi hx r (fun s' I' => ⟨_, H, I', h⟩) hf)
def gNil : TGs := fun vs σ H Q => vs = [] ∧ Q σ H
def gCons (t : TG) (u : TGs) : TGs := fun vs σ H Q => ∃ v r, vs = v :: r ∧ t v σ H fun σ' H' => u r σ' H' Q
theorem pgs_nil : PGs X [] gNil := by
  intro pins s σ H vs us Q I r h
  obtain ⟨e, h⟩ := h
  subst e
  cases r
  exact assignInOrder_nil ⟨σ, H, I, h⟩
theorem pgs_cons {e : Expr} {es : List Expr} {t : TG} {u : TGs} (h1 : PG X e t) (h2 : PGs X es u)
    (hs : (assignEach (e :: es) X.env).map (·.2) = assign e X.env :: (assignEach es X.env).map (·.2) := by rfl) : PGs X (e :: es) (gCons t u) := by
  intro pins s σ H vs us Q I r h
  obtain ⟨v, vr, e1, h⟩ := h
  subst e1
  cases r with
  | cons r rr =>
    rw [hs]
    refine assignInOrder_cons (thn (h1 pins s σ H _ _ _ I r h) fun _ s1 ⟨σ1, H1, I1, q1⟩ => ?_)
    exact h2 pins s1 σ1 H1 _ _ Q I1 rr q1
def gTup (K : PySem.W.Frag) (n : Nat) (t : TGs) : TG := fun v σ H Q => ∃ a xs, v = .ref a ∧ SqT K H a xs ∧ xs.length = n ∧ t xs σ H Q
theorem pg_tup {es : List Expr} {k : Nat} {t : TGs} {n : Nat} (hc : X.calm = true) (h : PGs X es t)
    (hn : (assignEach es X.env).length = n := by rfl) (hst : (assignEach es X.env).findIdx? (·.1) = none := by rfl) : PG X (.Tuple es k pos) (gTup X.K n t) := by
  intro pins s σ H v u Q I r hw
  obtain ⟨a, xs, e1, hq, hl, hw⟩ := hw
  subst e1
  cases r
  obtain ⟨its, rv, ht, hz⟩ := I.tuple hq
  refine assign_Tuple_tuple (I.ok.hd hc) ht (by simp [hn, ← hl, rv.length]) hst fun h' hx => ?_
  have I1 : Inv X pins σ H { s with heap := h' } := I.kept (t' := s.toks) fun b o e => hx b o (Nat.ne_of_lt (Heap.lt_size e)) e
  exact h pins _ σ H xs _ Q I1 (by simpa using rv) hw
def gSub (to ti : TE) (t : TSet) : TG := fun v σ H Q => to σ H fun o H1 => ti σ H1 fun i H2 => t o i v H2 fun H3 => Q σ H3
theorem pg_sub {o i : Expr} {to ti : TE} {t : TSet} (ho : PE X o to) (hi : PE X i ti) (hs : PSet X t)
    (ha : ∀ v, assign (.Subscript o i pos) X.env v = (do
      let ov ← holding [v] (eval o X.env)
      let iv ← holding [v, ov] (eval i X.env)
      standAt pos
      holding [v, ov, iv] (setItem ov iv v)
      release [v, ov, iv] []) := by intro _; rfl) : PG X (.Subscript o i pos) (gSub to ti t) := by
  intro pins s σ H v u Q I r h
  rw [ha]
  refine wpAny_bind (wpAny_holding (thn (ho pins s σ H _ I h) fun ov s1 ⟨x, H1, I1, r1, q1⟩ => ?_))
  refine wpAny_bind (wpAny_holding (thn (hi pins s1 σ H1 _ I1 q1) fun iv s2 ⟨y, H2, I2, r2, q2⟩ => ?_))
  refine wpAny_bind (wpAny_standAt (wpAny_bind (wpAny_holding (thn (hs pins s2 σ H2 x y v ov iv u _ I2 r1 r2 r q2) fun _ s3 ⟨H3, I3, q3⟩ => ?_))))
  exact wpAny_release ⟨σ, H3, I3, q3⟩
def tAsg (te : TE) (g : TG) : TS := fun D σ H => te σ H fun x H1 => g x σ H1 D.nx
theorem ps_asg {tg e : Expr} {te : TE} {g : TG} (he : PE X e te) (hg : PG X tg g) (hs : swapsWithSole [tg] e pos.line X.env = pure false := by rfl) (hw : swappedStores [tg] e X.env = pure none := by rfl)
    (h1 : (assignEach [tg] X.env).map (·.2) = [assign tg X.env] := by rfl) : PS X (.Assign [tg] e pos) (tAsg te g) := by
  intro pins s σ H D I h
  refine wpAny_Assign_stores (thn (he pins s σ H _ I h) fun v s1 ⟨x, H1, I1, r1, q1⟩ => ?_) hs hw
  rw [h1]
  exact thn (hg pins s1 σ H1 x v _ I1 r1 q1) fun _ s2 q => q
theorem ps_set {i : Nat} {x : Str} {e : Expr} {te : TE} {pos' : Pos} (hN : X.N.Nodup) (hi : X.N[i]? = some x) (hx : Loc X.env.scope x) (he : PE X e te) (hs : swapsWith e (some (.Name x pos')) pos.line X.env = pure false := by rfl) (hf : X.fn x = true ∨ X.env.scope.names.lookup x = some .local := by first | exact .inl rfl | exact .inr rfl | assumption) :
    PS X (.Assign [.Name x pos'] e pos) (tAsg te (gName i)) := by
  intro pins s σ H D I h
  refine wpAny_Assign_Name (thn (he pins s σ H _ I h) fun v s1 ⟨y, H1, I1, r1, q1⟩ => ?_) hs
  exact store_ok I1 hN hi hx r1 (fun s2 I2 => ⟨_, H1, I2, q1⟩) hf
def tPar (i j : Nat) (ta : TA) : TS := fun D σ H => ta σ H fun vs H1 => ∃ v w, vs = [v, w] ∧ D.nx ((σ.set i (some v)).set j (some w)) H1
theorem ps_par {i j : Nat} {x y : Str} {a b : Expr} {ta : TA} {px py pt : Pos} {kt k2 pt2} (hc : X.calm = true) (hN : X.N.Nodup) (hi : X.N[i]? = some x) (hj : X.N[j]? = some y) (hij : i ≠ j)
    (hx : X.env.scope.names.lookup x = some .local) (hy : X.env.scope.names.lookup y = some .local) (ha : PA X [a, b] ta)
    (hw : swappedStores [.Tuple [.Name x px, .Name y py] kt pt] (.Tuple [a, b] k2 pt2) X.env = pure (some [x, y]))
    (hs : swapsWithSole [.Tuple [.Name x px, .Name y py] kt pt] (.Tuple [a, b] k2 pt2) pos.line X.env = pure false := by rfl) :
    PS X (.Assign [.Tuple [.Name x px, .Name y py] kt pt] (.Tuple [a, b] k2 pt2) pos) (tPar i j ta) := by
  intro pins s σ H D I h
  rw [exec_Assign_arm]
  refine wpAny_bind (wpAny_standAt ?_)
  rw [hs]
  refine wpAny_bind (wpAny_pure ?_)
  rw [if_neg (by decide)]
  refine wpAny_bind (Tuple_ (thn (ha _ pins s σ H _ I h) fun us s1 ⟨vs, H1, I1, r1, q1⟩ => ?_))
  obtain ⟨v, w, e1, q1⟩ := q1
  subst e1
  obtain ⟨u1, u2, rfl, rv, rw'⟩ : ∃ u1 u2, us = [u1, u2] ∧ RelV v u1 ∧ RelV w u2 := by
    cases r1 with
    | cons p q =>
      cases q with
      | cons p' q' =>
        cases q'
        exact ⟨_, _, rfl, p, p'⟩
  refine wpAny_newObj_type ?_ (by show 2 ≤ sizeLine; decide)
  have I2 : Inv X pins σ H1 { s1 with heap := s1.heap.push { cls := .type "tuple", data := .seq [u1, u2].toArray } } := I1.kept (t' := s1.toks) fun b o e => Heap.get?_push_of_some _ e
  rw [hw]
  refine wpAny_bind (wpAny_pure ?_)
  show wpAny (model X.prog X.w) X.A (do rule "assign.swapped-stores"; let items ← unpackItems (.ref s1.heap.objs.size) 2 none; assignInOrder [fun v => bindName X.env y v, fun v => bindName X.env x v] items.reverse; pure Flow.next) _ _ _
  refine wpAny_bind (wpAny_rule (wpAny_bind (unpackItems_tuple (items := #[u1, u2]) (I.ok.hd hc) (IsTup.new s1.heap _) fun h' hx' => ?_)))
  have I3 := I2.kept (h' := h') (t' := s1.toks) fun b o e => hx' b o (Nat.ne_of_lt (Heap.lt_size e)) e
  show wpAny _ _ (assignInOrder [fun v => bindName X.env y v, fun v => bindName X.env x v] [u2, u1] >>= fun _ => pure Flow.next) _ _ _
  refine wpAny_bind (assignInOrder_cons (wpAny_bindName (store_ok I3 hN hj (.inl hy) rw' (fun s2 I4 => ?_) (.inr hy))))
  refine assignInOrder_cons (wpAny_bindName (store_ok I4 hN hi (.inl hx) rv (fun s3 I5 => assignInOrder_nil (wpAny_pure ?_)) (.inr hx)))
  rw [List.set_comm _ _ (Ne.symm hij)] at I5
  exact ⟨_, H1, I5, q1⟩
def tAug (i : Nat) (te : TE) (ti : TIp) : TS := fun D σ H => ∃ x, σ[i]? = some (some x) ∧ te σ H fun y H1 => ti x y H1 fun z H2 => D.nx (σ.set i (some z)) H2
theorem ps_aug {i : Nat} {x : Str} {e : Expr} {te : TE} {op : Operator} {ti : TIp} {pos' : Pos} (hN : X.N.Nodup) (hi : X.N[i]? = some x) (hx : Loc X.env.scope x) (he : PE X e te) (ho : PIp X op ti) (hf : X.fn x = true ∨ X.env.scope.names.lookup x = some .local := by first | exact .inl rfl | exact .inr rfl | assumption) :
    PS X (.AugAssign (.Name x pos') op e pos) (tAug i te ti) := by
  intro pins s σ H D I h
  obtain ⟨v, e1, h⟩ := h
  obtain ⟨m, hn, hl⟩ := I.loc
  have vis : Vis X.env.scope x := by rcases hx with k | k; exact .inl k; exact .inr (.inl k)
  obtain ⟨u, r, l⟩ := hl i x v hi e1 vis
  refine wpAny_AugAssign_Name ?_
  have go : wpAny (model X.prog X.w) X.A (eval e X.env) (fun w s₂ => wpAny (model X.prog X.w) X.A (inplaceOp op u w) (fun r s₃ => wpAny (model X.prog X.w) X.A (storeName X.env x r) (fun _ => SP X pins D .next) X.xe s₃) X.xe s₂) X.xe s := by
    refine thn (he pins s σ H _ I h) fun w s1 ⟨y, H1, I1, r1, q1⟩ => ?_
    refine thn (ho pins s1 σ H1 v y u w _ I1 r r1 q1) fun z s2 ⟨zv, H2, I2, r2, q2⟩ => ?_
    exact store_ok I2 hN hi hx r2 (fun s3 I3 => ⟨_, H2, I3, q2⟩) hf
  rcases l with ⟨hk, hm⟩ | ⟨hk, c, hc, hcell⟩
  · exact wpAny_loadName_local I.ok.kind hk hn hm go
  · rcases hk with hk | hk
    · exact wpAny_loadName_cell I.ok.kind hk hc hcell go
    · rcases hx with k | k
      · have : X.env.scope.names.lookup x = some .free := hk
        rw [k] at this; cases this
      · have : X.env.scope.names.lookup x = some .free := hk
        rw [k] at this; cases this
def ipI (f : Int → Int → Int) : TIp := fun x y H Q => ∃ i j, x = .int i ∧ y = .int j ∧ Q (.int (f i j)) H
theorem ip_add : PIp X .Add (ipI fun i j => i + j) := by
  intro pins s σ H x y v u Q I r1 r2 h
  obtain ⟨i, j, e1, e2, q⟩ := h
  subst e1; subst e2
  obtain ⟨t, rfl⟩ := r1
  obtain ⟨t', rfl⟩ := r2
  exact iadd_int ⟨.int _, H, I.tok _, ⟨_, rfl⟩, q⟩
end
section
variable {X : Cx} {pos : Pos}
def tWhile (c : TT) (tb : TS) : TS := fun D σ H => ∃ W : Nat → St → Hp → Prop, (∃ m, W m σ H) ∧ ∀ m σ H, W m σ H →
  c σ H fun b H1 => if b = true then ∃ N : St → Hp → Prop, (∀ σ' H', N σ' H' → ∃ m', m' < m ∧ W m' σ' H') ∧ tb { D with nx := N, ct := N, bk := D.nx } σ H1 else D.nx σ H1
theorem ps_while {c : Expr} {body : List Stmt} {tc : TT} {tb : TS} (hp : PassesOwn (model X.prog X.w) X.A X.env X.xe) (hc : PT X c tc) (hb : PSs X body tb) : PS X (.While c body [] pos) (tWhile tc tb) := by
  intro pins s σ H D I h
  obtain ⟨W, ⟨m0, w0⟩, turn⟩ := h
  refine wpAny_While (codeAny_whileLoop (fun n s' => ∃ σ' H', Inv X pins σ' H' s' ∧ W n σ' H') ?_ m0 ⟨σ, H, I, w0⟩)
  rintro n s1 ⟨σ1, H1, I1, w1⟩
  refine wpAny_passesOwn hp (thn (hc pins s1 σ1 H1 _ I1 (turn n σ1 H1 w1)) fun b s2 ⟨H2, I2, q2⟩ => ?_)
  cases b with
  | true =>
    obtain ⟨N, hN, q2⟩ := q2
    rw [if_pos rfl]
    refine wpAny_passesOwn hp (thn (hb pins s2 σ1 H2 _ I2 q2) fun f s3 q3 => ?_)
    cases f with
    | next =>
      obtain ⟨σ3, H3, I3, n3⟩ := q3
      obtain ⟨m', hm, w3⟩ := hN σ3 H3 n3
      exact ⟨m', hm, σ3, H3, I3, w3⟩
    | cont =>
      obtain ⟨σ3, H3, I3, n3⟩ := q3
      obtain ⟨m', hm, w3⟩ := hN σ3 H3 n3
      exact ⟨m', hm, σ3, H3, I3, w3⟩
    | brk => exact q3
    | ret v => exact q3
  | false =>
    rw [if_neg Bool.false_ne_true]
    exact wpAny_execs_nil ⟨σ1, H2, I2, q2⟩
end
structure It where
  go : Nat → Hp → Prop
  yld : Nat → Hp → V → Hp → Prop
  stop : Nat → Hp → Prop
def FpOk (X : Cx) (pins : List (Addr × Obj)) (H : Hp) (b : Addr) : Prop :=
  H b = none ∧ b ≠ X.env.locals ∧ b ∉ X.fs ∧ (b ∈ X.ex ∨ X.s_0.heap.get? b = none) ∧ (∀ x c, X.env.cells.lookup x = some c → c ≠ b) ∧ ∀ p ∈ X.pn ++ pins, p.1 ≠ b
theorem Inv.fpOk {X : Cx} {pins : List (Addr × Obj)} {σ : St} {H H' : Hp} {s : Shared} {b : Addr} (I : Inv X pins σ H s) (hb : s.heap.objs.size ≤ b) (hn : H' b = none) : FpOk X pins H' b := by
  refine ⟨hn, Nat.ne_of_gt (Nat.lt_of_lt_of_le I.lt hb), I.nofs hb, I.fresh0 hb, fun x c e z => ?_, fun p hp z => ?_⟩
  · obtain ⟨v, q⟩ := I.cell x c e
    exact absurd (Nat.lt_of_lt_of_le q.lt (by rw [z]; exact hb)) (Nat.lt_irrefl _)
  · exact absurd (Nat.lt_of_lt_of_le (Heap.lt_size (I.pin p hp).1) (by rw [z]; exact hb)) (Nat.lt_irrefl _)
structure Turn (P : Program) (w : World) (K : PySem.W.Frag) (tg : Expr) (J : It) (fp : List Addr) (it : Addr) (tn : Nat → Heap → Prop) : Prop where
  mem : it ∈ fp
  obj : ∀ i h, tn i h → ∀ b ∈ fp, ∃ o, h.get? b = some o ∧ ∀ v, o.data ≠ .cell v
  keep : ∀ i h h', tn i h → (∀ b ∈ fp, ∀ o, h.get? b = some o → h'.get? b = some o) → tn i h'
  item : ∀ (X : Cx), X.prog = P → X.w = w → X.K = K → X.calm = true → ∀ (i : Nat) (pins : List (Addr × Obj)) (s : Shared) (σ : St) (H : Hp) (E : Value → Shared → Prop), Inv X pins σ H s → (∀ b ∈ fp, FpOk X pins H b) → tn i s.heap → J.go i H →
    wpAny (model P w) X.A (pyNext (.ref it)) (fun r s1 => ∃ u, r = some u ∧
      wpAny (model P w) X.A (letOwnedTupleGo tg (.ref it) u) (fun _ s2 => ∃ x H', Inv X pins σ H' s2 ∧ RelV x u ∧ J.yld i H x H' ∧ tn (i + 1) s2.heap ∧ ∀ b ∈ fp, H' b = none) E s1) E s
  done : ∀ (X : Cx), X.prog = P → X.w = w → X.K = K → X.calm = true → ∀ (i : Nat) (pins : List (Addr × Obj)) (s : Shared) (σ : St) (H : Hp) (E : Value → Shared → Prop), Inv X pins σ H s → (∀ b ∈ fp, FpOk X pins H b) → tn i s.heap → J.stop i H →
    wpAny (model P w) X.A (pyNext (.ref it)) (fun r s1 => r = none ∧ Inv X pins σ H s1) E s
  self : ∀ (A : Around) (i : Nat) (s : Shared) (Q : Value → Shared → Prop) (E : Value → Shared → Prop), tn i s.heap → Q (.ref it) s → wpAny (model P w) A (pyIter (.ref it)) Q E s
abbrev TI := St → Hp → (It → Hp → Prop) → Prop
def PIE (X : Cx) (pins : List (Addr × Obj)) (σ : St) (tg : Expr) (R : It → Hp → Prop) (itv : Value) (s2 : Shared) : Prop :=
  ∃ (it : Addr) (fp : List Addr) (tn : Nat → Heap → Prop) (J : It) (H' : Hp), itv = .ref it ∧ Inv X pins σ H' s2 ∧ Turn X.prog X.w X.K tg J fp it tn ∧ tn 0 s2.heap ∧ (∀ b ∈ fp, FpOk X pins H' b) ∧ R J H'
def PI (X : Cx) (tg iter : Expr) (wi : TI) : Prop :=
  ∀ (pins : List (Addr × Obj)) (s : Shared) (σ : St) (H : Hp) (R : It → Hp → Prop), Inv X pins σ H s → wi σ H R →
    wpAny (model X.prog X.w) X.A (eval iter X.env) (fun v s1 => wpAny (model X.prog X.w) X.A (pyIter v) (PIE X pins σ tg R) X.xe s1) X.xe s
theorem go_of {M : Model} {A : Around} {E : Value → Shared → Prop} {s : Shared} {tg : Expr} {it : Addr} {u : Value} {o : Obj} {n : String} {vs : Array Value} {Q : Unit → Shared → Prop} (ho : s.heap.get? it = some o) (hc : o.cls = .type n) (hd : o.data = .fields vs)
    (hn : ["enumerate", "zip", "dict_itemiterator", "dict_reverseitemiterator", "odict_iterator", "itertools.zip_longest", "itertools.pairwise"].contains n = false) (hQ : Q () s) : wpAny M A (letOwnedTupleGo tg (.ref it) u) Q E s := by
  unfold letOwnedTupleGo
  cases tg <;> first
    | exact wpAny_pure hQ
    | (cases u <;> first
        | exact wpAny_pure hQ
        | (refine wpAny_bind (wpAny_load ho ?_)
           rw [hc, hd]
           show wpAny M A (if (["enumerate", "zip", "dict_itemiterator", "dict_reverseitemiterator", "odict_iterator", "itertools.zip_longest", "itertools.pairwise"].contains n && vs[0]? == some (rawInt _)) = true then _ else _) Q E s
           rw [if_neg (by intro h; rw [hn, Bool.false_and] at h; cases h)]
           exact wpAny_pure hQ))
def Itl (K : PySem.W.Frag) (a : Addr) : It :=
  ⟨fun i H => ∃ xs x, SqL K H a xs ∧ xs[i]? = some x, fun i H x H' => H' = H ∧ ∀ xs, SqL K H a xs → xs[i]? = some x, fun i H => ∃ xs, SqL K H a xs ∧ xs.length ≤ i⟩
def Itt (K : PySem.W.Frag) (a : Addr) : It :=
  ⟨fun i H => ∃ xs x, SqT K H a xs ∧ xs[i]? = some x, fun i H x H' => H' = H ∧ ∀ xs, SqT K H a xs → xs[i]? = some x, fun i H => ∃ xs, SqT K H a xs ∧ xs.length ≤ i⟩
def Itr (lo : Int) (n : Nat) : It := ⟨fun i _ => i < n, fun i H x H' => H' = H ∧ x = .int (lo + i), fun i _ => n ≤ i⟩
theorem turn_list {P : Program} {w : World} {K : PySem.W.Frag} {tg : Expr} (a it : Addr) : Turn P w K tg (Itl K a) [it] it (fun i h => h.IsListIter it a i) where
  mem := by simp
  obj := fun i h st b hb => by
    have e : b = it := by simpa using hb
    subst e
    obtain ⟨o, e, c, d⟩ := st
    exact ⟨o, e, fun v z => by rw [d] at z; cases z⟩
  keep := fun i h h' st k => st.at fun o e => k it (by simp) o e
  item := by
    intro X hP hw hK hc i pins s σ H E I hf st hg
    subst hP hw hK
    obtain ⟨xs, x, hq, hx⟩ := hg
    obtain ⟨its, rv, p, hz⟩ := I.list hq
    obtain ⟨u, hu, ru⟩ := rv.get hx
    obtain ⟨f0, f1, f2, f3, f4, f5⟩ := hf it (by simp)
    refine wpAny_pyNext_list_item st p.isList (x := u) (by simpa using hu) fun h' st' sb => ?_
    have I1 : Inv X pins σ H { s with heap := h' } := I.turned (t' := s.toks) (fun b o hb e => (sb.2 b hb).trans e) f0 f1 f3 f4 f5
    obtain ⟨o, e, c, d⟩ := id st'
    exact ⟨u, rfl, go_of (s := { s with heap := h' }) e c d (by decide) ⟨x, H, I1, ru, ⟨rfl, fun ys hy => by rw [I.list_inj hy hq]; exact hx⟩, st', fun b hb => (hf b hb).1⟩⟩
  done := by
    intro X hP hw hK hc i pins s σ H E I hf st hg
    subst hP hw hK
    obtain ⟨xs, hq, hx⟩ := hg
    obtain ⟨its, rv, p, hz⟩ := I.list hq
    obtain ⟨f0, f1, f2, f3, f4, f5⟩ := hf it (by simp)
    have hl := rv.length
    exact wpAny_pyNext_list_end (I.ok.hd hc) st p.isList (by simp; omega) fun h' eb => ⟨rfl, I.turned (t' := s.toks) (fun b o hb e => eb b o hb e) f0 f1 f3 f4 f5⟩
  self := fun _ _ _ _ _ st h => wpAny_pyIter_listiter st h
theorem turn_tuple {P : Program} {w : World} {K : PySem.W.Frag} {tg : Expr} (a it : Addr) : Turn P w K tg (Itt K a) [it] it (fun i h => h.IsTupleIter it a i) where
  mem := by simp
  obj := fun i h st b hb => by
    have e : b = it := by simpa using hb
    subst e
    obtain ⟨o, e, c, d⟩ := st
    exact ⟨o, e, fun v z => by rw [d] at z; cases z⟩
  keep := fun i h h' st k => st.at fun o e => k it (by simp) o e
  item := by
    intro X hP hw hK hc i pins s σ H E I hf st hg
    subst hP hw hK
    obtain ⟨xs, x, hq, hx⟩ := hg
    obtain ⟨its, rv, p, hz⟩ := I.tuple hq
    obtain ⟨u, hu, ru⟩ := rv.get hx
    obtain ⟨f0, f1, f2, f3, f4, f5⟩ := hf it (by simp)
    refine wpAny_pyNext_tuple_item st (show s.heap.IsTuple a its.toArray from p) (x := u) (by simpa using hu) fun h' st' sb => ?_
    have I1 : Inv X pins σ H { s with heap := h' } := I.turned (t' := s.toks) (fun b o hb e => (sb.2 b hb).trans e) f0 f1 f3 f4 f5
    obtain ⟨o, e, c, d⟩ := id st'
    exact ⟨u, rfl, go_of (s := { s with heap := h' }) e c d (by decide) ⟨x, H, I1, ru, ⟨rfl, fun ys hy => by rw [I.tuple_inj hy hq]; exact hx⟩, st', fun b hb => (hf b hb).1⟩⟩
  done := by
    intro X hP hw hK hc i pins s σ H E I hf st hg
    subst hP hw hK
    obtain ⟨xs, hq, hx⟩ := hg
    obtain ⟨its, rv, p, hz⟩ := I.tuple hq
    obtain ⟨f0, f1, f2, f3, f4, f5⟩ := hf it (by simp)
    have hl := rv.length
    exact wpAny_pyNext_tuple_end (I.ok.hd hc) st (show s.heap.IsTuple a its.toArray from p) (by simp; omega) fun h' eb => ⟨rfl, I.turned (t' := s.toks) (fun b o hb e => eb b o hb e) f0 f1 f3 f4 f5⟩
  self := fun _ _ _ _ _ st h => wpAny_pyIter_tupleiter st h
theorem turn_range {P : Program} {w : World} {K : PySem.W.Frag} {tg : Expr} (it : Addr) (lo : Int) (n : Nat) : Turn P w K tg (Itr lo n) [it] it (fun i h => IsRangeIter h it (lo + (i : Nat) * 1) ((n : Int) - (i : Nat)) 1) where
  mem := by simp
  obj := fun i h st b hb => by
    have e : b = it := by simpa using hb
    subst e
    exact ⟨_, st, fun v z => by
      have z' : Data.fields _ = Data.cell v := z
      cases z'⟩
  keep := fun i h h' st k => k it (by simp) _ st
  item := by
    intro X hP hw hK hc i pins s σ H E I hf st hg
    subst hP hw hK
    obtain ⟨f0, f1, f2, f3, f4, f5⟩ := hf it (by simp)
    have W := Walks.range (prog := X.prog) (w := X.w) (I.ok.hd hc) it lo 1 n
    refine W.item i s _ _ hg st fun v h' tk hv st' kk => ?_
    obtain ⟨t, rfl⟩ := hv
    have I1 : Inv X pins σ H { s with heap := h', toks := tk } := I.turned (fun b o hb e => kk b o (by simpa using hb) e) f0 f1 f3 f4 f5
    refine ⟨_, rfl, go_of (s := { s with heap := h', toks := tk }) (n := "range_iterator") st' rfl rfl (by decide) ⟨.int (lo + i), H, I1, ⟨t, ?_⟩, ⟨rfl, rfl⟩, st', fun b hb => (hf b hb).1⟩⟩
    rw [Int.mul_one]
  done := by
    intro X hP hw hK hc i pins s σ H E I hf st hg
    subst hP hw hK
    obtain ⟨f0, f1, f2, f3, f4, f5⟩ := hf it (by simp)
    exact wpAny_pyNext_range_end (I.ok.hd hc) st (by have : n ≤ i := hg; omega) fun h' eb => ⟨rfl, I.turned (t' := s.toks) (fun b o hb e => eb b o hb e) f0 f1 f3 f4 f5⟩
  self := fun _ _ _ _ _ st h => wpAny_pyIter_rangeiter st h
end L2
namespace L2
open PySem PySem.Spec PyProof.Rows
section
variable {X : Cx} {tg : Expr}
def iList (K : PySem.W.Frag) (tl : TE) : TI := fun σ H R => tl σ H fun x H1 => ∃ a, x = .ref a ∧ (∃ xs, SqL K H1 a xs) ∧ R (Itl K a) H1
def iTup (K : PySem.W.Frag) (tl : TE) : TI := fun σ H R => tl σ H fun x H1 => ∃ a, x = .ref a ∧ (∃ xs, SqT K H1 a xs) ∧ R (Itt K a) H1
theorem pi_list {l : Expr} {tl : TE} (hl : PE X l tl) : PI X tg l (iList X.K tl) := by
  intro pins s σ H R I h
  refine thn (hl pins s σ H _ I h) fun v s1 ⟨x, H1, I1, r1, q1⟩ => ?_
  obtain ⟨a, e, ⟨xs, hq⟩, q⟩ := q1
  subst e
  cases r1
  obtain ⟨its, rv, p, hz⟩ := I1.list hq
  refine wpAny_pyIter_list p.isList ?_
  refine ⟨s1.heap.objs.size, [s1.heap.objs.size], _, _, H1, rfl, I1.kept (t' := s1.toks) fun b o e => Heap.get?_push_of_some _ e, turn_list a _, ⟨_, Heap.get?_push_size _ rfl, rfl, rfl⟩, fun b hb => ?_, q⟩
  have e : b = s1.heap.objs.size := by simpa using hb
  subst e
  exact I1.fpOk (Nat.le_refl _) (I1.hok.fresh (Nat.le_refl _))
theorem pi_tup {l : Expr} {tl : TE} (hl : PE X l tl) : PI X tg l (iTup X.K tl) := by
  intro pins s σ H R I h
  refine thn (hl pins s σ H _ I h) fun v s1 ⟨x, H1, I1, r1, q1⟩ => ?_
  obtain ⟨a, e, ⟨xs, hq⟩, q⟩ := q1
  subst e
  cases r1
  obtain ⟨its, rv, p, hz⟩ := I1.tuple hq
  refine wpAny_pyIter_tuple (show s1.heap.IsTuple a its.toArray from p) ?_
  refine ⟨s1.heap.objs.size, [s1.heap.objs.size], _, _, H1, rfl, I1.kept (t' := s1.toks) fun b o e => Heap.get?_push_of_some _ e, turn_tuple a _, ⟨_, Heap.get?_push_size _ rfl, rfl, rfl⟩, fun b hb => ?_, q⟩
  have e : b = s1.heap.objs.size := by simpa using hb
  subst e
  exact I1.fpOk (Nat.le_refl _) (I1.hok.fresh (Nat.le_refl _))
theorem range_it {pins : List (Addr × Obj)} {σ : St} {H : Hp} {s : Shared} {R : It → Hp → Prop} {E : Value → Shared → Prop} {lo hi : Int} {t u v : Tok} {tk : Nat} (I : Inv X pins σ H s) (h1 : -(2 ^ 62) ≤ lo) (h2 : lo < 2 ^ 62) (h3 : -(2 ^ 62) ≤ hi) (h4 : hi < 2 ^ 62)
    (q : R (Itr lo (hi - lo).toNat) H) : wpAny (model X.prog X.w) X.A (pyIter (.ref s.heap.objs.size)) (PIE X pins σ tg R) E { s with heap := s.heap.push { cls := .type "range", data := .fields #[.int lo t, .int hi u, .int 1 v] }, toks := tk } := by
  refine wpAny_pyIter_range (IsRange.new ..) (small_one h1 h2 h3 h4) ?_
  have I1 : Inv X pins σ H { s with heap := s.heap.push { cls := .type "range", data := .fields #[.int lo t, .int hi u, .int 1 v] }, toks := tk } := I.kept fun b o e => Heap.get?_push_of_some _ e
  refine ⟨(s.heap.push { cls := .type "range", data := .fields #[.int lo t, .int hi u, .int 1 v] }).objs.size, [(s.heap.push { cls := .type "range", data := .fields #[.int lo t, .int hi u, .int 1 v] }).objs.size], _, _, H, rfl,
    I1.kept (t' := tk) fun b o e => Heap.get?_push_of_some _ e, turn_range _ lo (hi - lo).toNat, ?_, fun b hb => ?_, q⟩
  · have e1 : lo + ((0 : Nat) : Int) * 1 = lo := by simp
    have e2 : (((hi - lo).toNat : Nat) : Int) - ((0 : Nat) : Int) = Builtin.Range.rangeSize lo hi 1 := by rw [rangeSize_one]; split <;> omega
    show IsRangeIter _ _ (lo + ((0 : Nat) : Int) * 1) ((((hi - lo).toNat : Nat) : Int) - ((0 : Nat) : Int)) 1
    rw [e1, e2]
    exact Heap.get?_push_size _ rfl
  · have e : b = (s.heap.push { cls := .type "range", data := .fields #[.int lo t, .int hi u, .int 1 v] }).objs.size := by simpa using hb
    subst e
    exact I1.fpOk (Nat.le_refl _) (I1.hok.fresh (Nat.le_refl _))
def iRng1 (ta : TA) : TI := fun σ H R => ta σ H fun vs H1 => ∃ j : Int, vs = [.int j] ∧ -(2 ^ 62) ≤ j ∧ j < 2 ^ 62 ∧ R (Itr 0 j.toNat) H1
theorem pi_range1 {a : Expr} {ta : TA} {p pos : Pos} (hg : Gl X "range") (hm : X.mg "range" = none) (ha : PA X [a] ta) (hs : starEach [a] X.env = [(false, eval a X.env)] := by rfl) : PI X tg (.Call (.Name "range" p) [a] [] pos) (iRng1 ta) := by
  intro pins s σ H R I h
  refine Call_ (ld_blt I hg hm boot_range (PyProof.Rows.callWith_type1 (thn (ha pos pins s σ H _ I h) fun us s1 ⟨vs, H1, I1, r1, q1⟩ => ?_) hs rfl))
  obtain ⟨j, e, q1, q2, q⟩ := q1
  subst e
  cases r1 with
  | cons r rr =>
    cases rr
    obtain ⟨t, rfl⟩ := r
    exact call_range_1 (range_it I1 (by omega) (by omega) q1 q2 (by simpa using q))
def tFor (wi : TI) (g : TG) (tb : TS) : TS := fun D σ H => wi σ H fun J H1 => ∃ W : Nat → Nat → St → Hp → Prop, (∃ m, W 0 m σ H1) ∧ ∀ i m σ H, W i m σ H →
  (J.stop i H ∧ D.nx σ H) ∨ (J.go i H ∧ ∃ N : St → Hp → Prop, (∀ σ' H', N σ' H' → ∃ m', m' < m ∧ W (i + 1) m' σ' H') ∧ ∀ x H', J.yld i H x H' → g x σ H' fun σ2 H2 => tb { D with nx := N, ct := N, bk := D.nx } σ2 H2)
def pinsAt (fp : List Addr) (h : Heap) : List (Addr × Obj) := fp.filterMap fun b => (h.get? b).map fun o => (b, o)
theorem mem_pinsAt {fp : List Addr} {h : Heap} {b : Addr} {o : Obj} (hb : b ∈ fp) (e : h.get? b = some o) : (b, o) ∈ pinsAt fp h := List.mem_filterMap.mpr ⟨b, hb, by rw [e]; rfl⟩
theorem of_pinsAt {fp : List Addr} {h : Heap} {p : Addr × Obj} (hp : p ∈ pinsAt fp h) : p.1 ∈ fp ∧ h.get? p.1 = some p.2 := by
  obtain ⟨b, hb, e⟩ := List.mem_filterMap.mp hp
  cases q : h.get? b with
  | none => rw [q] at e; cases e
  | some o =>
    rw [q] at e
    have e' : (b, o) = p := Option.some.inj e
    subst e'
    exact ⟨hb, q⟩
theorem Inv.pinned {pins : List (Addr × Obj)} {σ : St} {H : Hp} {s : Shared} {fp : List Addr} (I : Inv X pins σ H s) (hf : ∀ b ∈ fp, FpOk X pins H b) (ho : ∀ b ∈ fp, ∃ o, s.heap.get? b = some o ∧ ∀ v, o.data ≠ .cell v) : Inv X (pins ++ pinsAt fp s.heap) σ H s :=
  I.pins_of fun p hp => (List.mem_append.mp hp).elim (fun z => I.pin p (List.mem_append_right _ z)) fun z => by
    obtain ⟨hb, e⟩ := of_pinsAt z
    obtain ⟨f0, f1, f2, _⟩ := hf p.1 hb
    obtain ⟨o, e', d⟩ := ho p.1 hb
    rw [e] at e'; cases e'
    exact ⟨e, f0, f1, f2, d⟩
theorem Inv.unpinned {pins pl : List (Addr × Obj)} {σ : St} {H : Hp} {s : Shared} (I : Inv X (pins ++ pl) σ H s) : Inv X pins σ H s := I.pins_of fun p hp => I.pin p (List.mem_append_right _ (List.mem_append_left _ hp))
theorem ps_for {iter : Expr} {body : List Stmt} {wi : TI} {g : TG} {tb : TS} {pos : Pos} (hp : PassesOwn (model X.prog X.w) X.A X.env X.xe) (hc : X.calm = true) (hi : PI X tg iter wi) (hg : PG X tg g) (hb : PSs X body tb)
    (hs : ∀ x, foldedSetIterable iter X.env x = pure x := by intro _; rfl) : PS X (.For tg iter body [] pos) (tFor wi g tb) := by
  intro pins s σ H D I h
  refine wpAny_For (thn (hi pins s σ H _ I h) fun v s1 h1 => thn h1 fun itv s2 h2 => ?_) hs
  obtain ⟨it, fp, tn, J, H2, e, I2, T, st2, f2, W, ⟨m0, w0⟩, turn⟩ := h2
  subst e
  have stat : ∀ {H' : Hp}, (∀ b ∈ fp, H' b = none) → ∀ b ∈ fp, FpOk X pins H' b := fun hn b hb => ⟨hn b hb, (f2 b hb).2⟩
  refine codeAny_forLoop_any (fun n s' => ∃ i σ' H', Inv X pins σ' H' s' ∧ tn i s'.heap ∧ (∀ b ∈ fp, H' b = none) ∧ W i n σ' H') ?_ m0 ⟨0, σ, H2, I2, st2, fun b hb => (f2 b hb).1, w0⟩
  rintro n s3 ⟨i, σ3, H3, I3, st3, fr3, w3⟩
  rcases turn i n σ3 H3 w3 with ⟨stop, qn⟩ | ⟨go, N, hN, step⟩
  · refine wpAny_passesOwn hp (thn (T.done X rfl rfl rfl hc i pins s3 σ3 H3 X.xe I3 (stat fr3) st3 stop) fun r s4 ⟨hr, I4⟩ => ?_)
    subst hr
    exact wpAny_execs_nil ⟨σ3, H3, I4, qn⟩
  · refine wpAny_passesOwn hp (thn (T.item X rfl rfl rfl hc i pins s3 σ3 H3 X.xe I3 (stat fr3) st3 go) fun r s4 ⟨u, hr, h4⟩ => ?_)
    subst hr
    refine wpAny_passesOwn hp (thn h4 fun _ s5 ⟨x, H5, I5, r5, y5, st5, fr5⟩ => ?_)
    have I5' := I5.pinned (stat fr5) (T.obj _ _ st5)
    refine wpAny_passesOwn hp (thn (hg _ s5 σ3 H5 x u _ I5' r5 (step x H5 y5)) fun _ s6 ⟨σ6, H6, I6, q6⟩ => ?_)
    refine wpAny_passesOwn hp (thn (hb _ s6 σ6 H6 _ I6 q6) fun f s7 q7 => ?_)
    have again : ∀ {σ7 : St} {H7 : Hp}, Inv X (pins ++ pinsAt fp s5.heap) σ7 H7 s7 → N σ7 H7 → ∃ m, m < n ∧ ∃ i σ' H', Inv X pins σ' H' s7 ∧ tn i s7.heap ∧ (∀ b ∈ fp, H' b = none) ∧ W i m σ' H' := fun {σ7 H7} I7 n7 => by
      obtain ⟨m', hm, w7⟩ := hN σ7 H7 n7
      refine ⟨m', hm, i + 1, σ7, H7, I7.unpinned, T.keep _ _ _ st5 fun b hb o e => (I7.pin (b, o) (List.mem_append_right _ (List.mem_append_right _ (mem_pinsAt hb e)))).1, fun b hb => ?_, w7⟩
      obtain ⟨o, e, d⟩ := T.obj _ _ st5 b hb
      exact (I7.pin (b, o) (List.mem_append_right _ (List.mem_append_right _ (mem_pinsAt hb e)))).2.1
    cases f with
    | next => obtain ⟨σ7, H7, I7, n7⟩ := q7; exact again I7 n7
    | cont => obtain ⟨σ7, H7, I7, n7⟩ := q7; exact again I7 n7
    | brk => obtain ⟨σ7, H7, I7, q7⟩ := q7; exact ⟨σ7, H7, I7.unpinned, q7⟩
    | ret v => obtain ⟨x7, σ7, H7, I7, r7, q7⟩ := q7; exact ⟨x7, σ7, H7, I7.unpinned, r7, q7⟩
end
theorem for_list {K : PySem.W.Frag} {a : Addr} {xs : List V} {g : TG} {tb : TS} {D : Ends} {σ : St} {H : Hp} (Pv : Nat → St → Hp → Prop) (h0 : Pv 0 σ H) (hl : ∀ i σ H, i ≤ xs.length → Pv i σ H → SqL K H a xs)
    (hs : ∀ i x σ H, xs[i]? = some x → Pv i σ H → g x σ H fun σ2 H2 => tb { D with nx := Pv (i + 1), ct := Pv (i + 1), bk := D.nx } σ2 H2) (hd : ∀ σ H, Pv xs.length σ H → D.nx σ H) :
    ∃ W : Nat → Nat → St → Hp → Prop, (∃ m, W 0 m σ H) ∧ ∀ i m σ H, W i m σ H →
      ((Itl K a).stop i H ∧ D.nx σ H) ∨ ((Itl K a).go i H ∧ ∃ N : St → Hp → Prop, (∀ σ' H', N σ' H' → ∃ m', m' < m ∧ W (i + 1) m' σ' H') ∧ ∀ x H', (Itl K a).yld i H x H' → g x σ H' fun σ2 H2 => tb { D with nx := N, ct := N, bk := D.nx } σ2 H2) := by
  refine ⟨fun i m σ H => m = xs.length - i ∧ i ≤ xs.length ∧ Pv i σ H, ⟨xs.length, by simp, Nat.zero_le _, h0⟩, ?_⟩
  rintro i m σ H ⟨rfl, hi, p⟩
  have q := hl i σ H hi p
  by_cases hlt : i < xs.length
  · refine .inr ⟨⟨xs, xs[i], q, by simp [hlt]⟩, Pv (i + 1), fun σ' H' p' => ⟨xs.length - (i + 1), by omega, rfl, hlt, p'⟩, fun x H' y => ?_⟩
    obtain ⟨e, y⟩ := y
    subst e
    exact hs i x σ _ (y xs q) p
  · have e : i = xs.length := by omega
    subst e
    exact .inl ⟨⟨xs, q, Nat.le_refl _⟩, hd σ H p⟩
theorem for_tup {K : PySem.W.Frag} {a : Addr} {xs : List V} {g : TG} {tb : TS} {D : Ends} {σ : St} {H : Hp} (Pv : Nat → St → Hp → Prop) (h0 : Pv 0 σ H) (hl : ∀ i σ H, i ≤ xs.length → Pv i σ H → SqT K H a xs)
    (hs : ∀ i x σ H, xs[i]? = some x → Pv i σ H → g x σ H fun σ2 H2 => tb { D with nx := Pv (i + 1), ct := Pv (i + 1), bk := D.nx } σ2 H2) (hd : ∀ σ H, Pv xs.length σ H → D.nx σ H) :
    ∃ W : Nat → Nat → St → Hp → Prop, (∃ m, W 0 m σ H) ∧ ∀ i m σ H, W i m σ H →
      ((Itt K a).stop i H ∧ D.nx σ H) ∨ ((Itt K a).go i H ∧ ∃ N : St → Hp → Prop, (∀ σ' H', N σ' H' → ∃ m', m' < m ∧ W (i + 1) m' σ' H') ∧ ∀ x H', (Itt K a).yld i H x H' → g x σ H' fun σ2 H2 => tb { D with nx := N, ct := N, bk := D.nx } σ2 H2) := by
  refine ⟨fun i m σ H => m = xs.length - i ∧ i ≤ xs.length ∧ Pv i σ H, ⟨xs.length, by simp, Nat.zero_le _, h0⟩, ?_⟩
  rintro i m σ H ⟨rfl, hi, p⟩
  have q := hl i σ H hi p
  by_cases hlt : i < xs.length
  · refine .inr ⟨⟨xs, xs[i], q, by simp [hlt]⟩, Pv (i + 1), fun σ' H' p' => ⟨xs.length - (i + 1), by omega, rfl, hlt, p'⟩, fun x H' y => ?_⟩
    obtain ⟨e, y⟩ := y
    subst e
    exact hs i x σ _ (y xs q) p
  · have e : i = xs.length := by omega
    subst e
    exact .inl ⟨⟨xs, q, Nat.le_refl _⟩, hd σ H p⟩
end L2
namespace L2
open PySem PySem.Spec PyProof.Rows
abbrev R2 := V → V → Hp → VK → Prop
def OpR (X : Cx) (f : Value → Value → Sem Value) (r : R2) : Prop :=
  ∀ (pins : List (Addr × Obj)) (s : Shared) (σ : St) (H : Hp) (x y : V) (v u : Value) (Q : VK), Inv X pins σ H s → RelV x v → RelV y u → r x y H Q →
    wpAny (model X.prog X.w) X.A (f v u) (EP X pins σ Q) X.xe s
def UnR (X : Cx) (f : Value → Sem Value) (r : V → Hp → VK → Prop) : Prop :=
  ∀ (pins : List (Addr × Obj)) (s : Shared) (σ : St) (H : Hp) (x : V) (v : Value) (Q : VK), Inv X pins σ H s → RelV x v → r x H Q →
    wpAny (model X.prog X.w) X.A (f v) (EP X pins σ Q) X.xe s
def CallR (X : Cx) (f : Value) (r : List V → Hp → VK → Prop) : Prop :=
  ∀ (pins : List (Addr × Obj)) (s : Shared) (σ : St) (H : Hp) (xs : List V) (us : List Value) (Q : VK), Inv X pins σ H s → Vals xs us → r xs H Q →
    wpAny (model X.prog X.w) X.A (call f us) (EP X pins σ Q) X.xe s
def TruR (X : Cx) (r : V → Hp → (Bool → Hp → Prop) → Prop) : Prop :=
  ∀ (pins : List (Addr × Obj)) (s : Shared) (σ : St) (H : Hp) (x : V) (v : Value) (Q : Bool → Hp → Prop), Inv X pins σ H s → RelV x v → r x H Q →
    wpAny (model X.prog X.w) X.A (truthy v) (TP X pins σ Q) X.xe s
def tOp (r : R2) (ta tb : TE) : TE := fun σ H Q => ta σ H fun x H1 => tb σ H1 fun y H2 => r x y H2 Q
def tUn (r : V → Hp → VK → Prop) (ta : TE) : TE := fun σ H Q => ta σ H fun x H1 => r x H1 Q
def rI (C : Int → Int → Prop) (g : Int → Int → V) : R2 := fun x y H Q => ∃ i j, x = .int i ∧ y = .int j ∧ C i j ∧ Q (g i j) H
def rI0 (g : Int → Int → V) : R2 := fun x y H Q => ∃ i j, x = .int i ∧ y = .int j ∧ Q (g i j) H
def rU (g : Int → V) : V → Hp → VK → Prop := fun x H Q => ∃ i, x = .int i ∧ Q (g i) H
section
variable {X : Cx} {a b c : Expr} {ta tb tc : TE} {pos : Pos}
theorem binT (ha : PE X a ta) (hb : PE X b tb) {pins : List (Addr × Obj)} {s : Shared} {σ : St} {H : Hp} {R : V → V → Hp → Prop} (I : Inv X pins σ H s)
    (h : ta σ H fun x H1 => tb σ H1 fun y H2 => R x y H2) {Q : Value → Shared → Prop} {f : Value → Value → Sem Value}
    (hf : ∀ v u s2 x y H2, Inv X pins σ H2 s2 → RelV x v → RelV y u → R x y H2 → wpAny (model X.prog X.w) X.A (f v u) Q X.xe s2) :
    wpAny (model X.prog X.w) X.A (eval a X.env) (fun v s₁ => wpAny (model X.prog X.w) X.A (eval b X.env) (fun u s₂ => wpAny (model X.prog X.w) X.A (f v u) Q X.xe s₂) X.xe s₁) X.xe s := by
  refine thn (ha pins s σ H _ I h) fun v s1 ⟨x, H1, I1, r1, q1⟩ => ?_
  refine thn (hb pins s1 σ H1 _ I1 q1) fun u s2 ⟨y, H2, I2, r2, q2⟩ => ?_
  exact hf v u s2 x y H2 I2 r1 r2 q2
theorem pe_op {op : Operator} {r : R2} (ho : OpR X (binaryOp op) r) (ha : PE X a ta) (hb : PE X b tb) : PE X (.BinOp a op b pos) (tOp r ta tb) := by
  intro pins s σ H Q I h
  exact wpAny_BinOp (binT ha hb I h fun v u s2 x y H2 I2 rx ry q => ho pins s2 σ H2 x y v u Q I2 rx ry q)
theorem pe_un {op : UnaryOp} {r : V → Hp → VK → Prop} (ho : UnR X (unaryOp op) r) (ha : PE X a ta) : PE X (.UnaryOp op a pos) (tUn r ta) := by
  intro pins s σ H Q I h
  exact UnaryOp_ (thn (ha pins s σ H _ I h) fun v s1 ⟨x, H1, I1, r1, q1⟩ => ho pins s1 σ H1 x v Q I1 r1 q1)
theorem opI {f : Value → Value → Sem Value} {C : Int → Int → Prop} {g : Int → Int → Int}
    (rule : ∀ (i j : Int) (t u : Tok) (s : Shared) (Q : Value → Shared → Prop) (E : Value → Shared → Prop), C i j → Q (.int (g i j) s.toks) { s with toks := s.toks + 1 } → wpAny (model X.prog X.w) X.A (f (.int i t) (.int j u)) Q E s) :
    OpR X f (rI C fun i j => .int (g i j)) := by
  intro pins s σ H x y v u Q I rx ry h
  obtain ⟨i, j, rfl, rfl, hc, q⟩ := h
  obtain ⟨t, rfl⟩ := rx
  obtain ⟨t', rfl⟩ := ry
  exact rule i j t t' s _ _ hc ⟨.int (g i j), H, I.tok _, ⟨_, rfl⟩, q⟩
theorem opI0 {f : Value → Value → Sem Value} {g : Int → Int → Int}
    (rule : ∀ (i j : Int) (t u : Tok) (s : Shared) (Q : Value → Shared → Prop) (E : Value → Shared → Prop), Q (.int (g i j) s.toks) { s with toks := s.toks + 1 } → wpAny (model X.prog X.w) X.A (f (.int i t) (.int j u)) Q E s) :
    OpR X f (rI0 fun i j => .int (g i j)) := by
  intro pins s σ H x y v u Q I rx ry h
  obtain ⟨i, j, rfl, rfl, q⟩ := h
  obtain ⟨t, rfl⟩ := rx
  obtain ⟨t', rfl⟩ := ry
  exact rule i j t t' s _ _ ⟨.int (g i j), H, I.tok _, ⟨_, rfl⟩, q⟩
theorem opB0 {f : Value → Value → Sem Value} {g : Int → Int → Bool}
    (rule : ∀ (i j : Int) (t u : Tok) (s : Shared) (Q : Value → Shared → Prop) (E : Value → Shared → Prop), Q (.bool (g i j)) s → wpAny (model X.prog X.w) X.A (f (.int i t) (.int j u)) Q E s) :
    OpR X f (rI0 fun i j => .bl (g i j)) := by
  intro pins s σ H x y v u Q I rx ry h
  obtain ⟨i, j, rfl, rfl, q⟩ := h
  obtain ⟨t, rfl⟩ := rx
  obtain ⟨t', rfl⟩ := ry
  exact rule i j t t' s _ _ ⟨.bl (g i j), H, I, rfl, q⟩
def CDiv (i j : Int) : Prop := 0 < j ∧ j < 1073741824
def CMul (i j : Int) : Prop := (-(2 ^ 64) < i ∧ i < 2 ^ 64) ∨ (-(2 ^ 64) < j ∧ j < 2 ^ 64)
theorem CMul.ok {i j : Int} (h : CMul i j) : IntMulOk i j := by
  rcases h with ⟨h1, h2⟩ | ⟨h1, h2⟩
  · exact .of_left (intBits_le_64 h1 h2)
  · exact .of_right (intBits_le_64 h1 h2)
theorem op_add : OpR X (binaryOp .Add) (rI0 fun i j => .int (i + j)) := opI0 fun _ _ _ _ _ _ _ q => add_int q
theorem op_sub : OpR X (binaryOp .Sub) (rI0 fun i j => .int (i - j)) := opI0 fun _ _ _ _ _ _ _ q => sub_int q
theorem op_fdiv : OpR X (binaryOp .FloorDiv) (rI CDiv fun i j => .int (i / j)) := opI fun i j _ _ _ _ _ hc q => by
  have h1 : (0 : Int) < j := hc.1
  have h2 : j < 1073741824 := hc.2
  exact floordiv_int (by omega) (by rw [Int.fdiv_eq_ediv_of_nonneg i (by omega)]; exact q) (.inl (PyProof.noPylong_small (by omega)))
theorem op_mod : OpR X (binaryOp .Mod) (rI (fun _ j => 0 < j) fun i j => .int (i % j)) := opI fun i j _ _ _ _ _ hc q => by
  have h1 : (0 : Int) < j := hc
  exact mod_int' (by omega) (by rw [Int.fmod_eq_emod_of_nonneg i (by omega)]; exact q)
theorem unI {f : Value → Sem Value} {g : Int → Int}
    (rule : ∀ (i : Int) (t : Tok) (s : Shared) (Q : Value → Shared → Prop) (E : Value → Shared → Prop), Q (.int (g i) s.toks) { s with toks := s.toks + 1 } → wpAny (model X.prog X.w) X.A (f (.int i t)) Q E s) :
    UnR X f (rU fun i => .int (g i)) := by
  intro pins s σ H x v Q I rx h
  obtain ⟨i, rfl, q⟩ := h
  obtain ⟨t, rfl⟩ := rx
  exact rule i t s _ _ ⟨.int (g i), H, I.tok _, ⟨_, rfl⟩, q⟩
theorem un_neg : UnR X (unaryOp .USub) (rU fun i => .int (-i)) := unI fun _ _ _ _ _ q => neg_int q
end
def scal : V → V → Bool
  | .non, .non => true | .non, .int _ => true | .int _, .non => true | .non, .bl _ => true | .bl _, .non => true | .non, .str _ => true | .str _, .non => true
  | .int _, .int _ => true | .bl _, .bl _ => true | .str _, .str _ => true | .byt _, .byt _ => true
  | .int _, .str _ => true | .str _, .int _ => true | .bl _, .str _ => true | .str _, .bl _ => true
  | _, _ => false
def rNe : R2 := fun x y H Q => scal x y = true ∧ Q (.bl (!decide (x = y))) H
theorem dec_int {i j : Int} : decide (V.int i = V.int j) = (i == j) := by
  rw [Bool.eq_iff_iff]
  simp
theorem dec_bl {i j : Bool} : decide (V.bl i = V.bl j) = (i == j) := by
  rw [Bool.eq_iff_iff]
  simp
theorem dec_str {i j : Str} : decide (V.str i = V.str j) = (i == j) := by
  rw [Bool.eq_iff_iff]
  simp
theorem dec_byt {i j : Array UInt8} : decide (V.byt i = V.byt j) = (i.toList == j.toList) := by
  rw [Bool.eq_iff_iff]
  cases i
  cases j
  simp
section
variable {X : Cx} {a b c : Expr} {ta tb tc : TE} {pos : Pos}
theorem fin_bl {pins : List (Addr × Obj)} {σ : St} {H : Hp} {s : Shared} {Q : VK} {k k' : Bool} (I : Inv X pins σ H s) (q : Q (.bl k) H) (e : k = k') : EP X pins σ Q (.bool k') s := by
  subst e
  exact ⟨.bl k, H, I, rfl, q⟩
theorem op_ne : OpR X (compareOp .NotEq) rNe := by
  intro pins s σ H x y v u Q I rx ry h
  obtain ⟨hs, q⟩ := h
  cases x with
  | non =>
    cases rx
    cases y with
    | non => cases ry; exact PySem.EqNone.ne_none_none (fin_bl I q (by simp))
    | bl j => cases ry; exact PySem.EqNone.ne_none_bool (fin_bl I q (by simp))
    | int j => obtain ⟨t', rfl⟩ := ry; exact PySem.EqNone.ne_none_int (fin_bl I q (by simp))
    | str j => obtain ⟨t', rfl⟩ := ry; exact PySem.EqNone.ne_none_str (fin_bl I q (by simp))
    | _ => exact absurd (show false = true from hs) Bool.false_ne_true
  | bl i =>
    cases rx
    cases y with
    | non => cases ry; exact PySem.EqNone.ne_bool_none (fin_bl I q (by simp))
    | bl j => cases ry; exact ne_bool (fin_bl I q (congrArg not dec_bl))
    | str j => obtain ⟨t', rfl⟩ := ry; exact PySem.EqMixed.ne_bool_str (fin_bl I q (by simp))
    | _ => exact absurd (show false = true from hs) Bool.false_ne_true
  | int i =>
    obtain ⟨t, rfl⟩ := rx
    cases y with
    | non => cases ry; exact PySem.EqNone.ne_int_none (fin_bl I q (by simp))
    | int j => obtain ⟨t', rfl⟩ := ry; exact ne_int (fin_bl I q (congrArg not dec_int))
    | str j => obtain ⟨t', rfl⟩ := ry; exact PySem.EqMixed.ne_int_str (fin_bl I q (by simp))
    | _ => exact absurd (show false = true from hs) Bool.false_ne_true
  | str i =>
    obtain ⟨t, rfl⟩ := rx
    cases y with
    | non => cases ry; exact PySem.EqNone.ne_str_none (fin_bl I q (by simp))
    | bl j => cases ry; exact PySem.EqMixed.ne_str_bool (fin_bl I q (by simp))
    | int j => obtain ⟨t', rfl⟩ := ry; exact PySem.EqMixed.ne_str_int (fin_bl I q (by simp))
    | str j => obtain ⟨t', rfl⟩ := ry; exact ne_str (fin_bl I q (congrArg not dec_str))
    | _ => exact absurd (show false = true from hs) Bool.false_ne_true
  | byt i =>
    obtain ⟨t, rfl⟩ := rx
    cases y with
    | byt j => obtain ⟨t', rfl⟩ := ry; exact PySem.W.ne_bytes (fin_bl I q (congrArg not dec_byt))
    | _ => exact absurd (show false = true from hs) Bool.false_ne_true
  | _ => cases y <;> exact absurd (show false = true from hs) Bool.false_ne_true
theorem op_lt : OpR X (compareOp .Lt) (rI0 fun i j => .bl (decide (i < j))) := opB0 fun _ _ _ _ _ _ _ q => lt_int q
theorem op_le : OpR X (compareOp .LtE) (rI0 fun i j => .bl (decide (i ≤ j))) := opB0 fun _ _ _ _ _ _ _ q => le_int q
theorem op_gt : OpR X (compareOp .Gt) (rI0 fun i j => .bl (decide (j < i))) := opB0 fun _ _ _ _ _ _ _ q => gt_int q
theorem op_ge : OpR X (compareOp .GtE) (rI0 fun i j => .bl (decide (j ≤ i))) := opB0 fun _ _ _ _ _ _ _ q => ge_int q
theorem OpR.or {f : Value → Value → Sem Value} {r r' : R2} (h : OpR X f r) (h' : OpR X f r') : OpR X f (fun x y H Q => r x y H Q ∨ r' x y H Q) := by
  intro pins s σ H x y v u Q I rx ry q
  rcases q with q | q
  · exact h pins s σ H x y v u Q I rx ry q
  · exact h' pins s σ H x y v u Q I rx ry q
theorem nomark (b : Expr) {op : CmpOp} (h : op ≠ .In := by decide) (h2 : op ≠ .NotIn := by decide) : behindInMarks op b = false := by
  have e1 : (op == CmpOp.In) = false := by cases op <;> first | rfl | exact absurd rfl h
  have e2 : (op == CmpOp.NotIn) = false := by cases op <;> first | rfl | exact absurd rfl h2
  cases b <;> simp [behindInMarks, e1, e2]
theorem pe_cmpR {op : CmpOp} {r : R2} (ho : OpR X (compareOp op) r) (ha : PE X a ta) (hb : PE X b tb) (hm : behindInMarks op b = false) : PE X (.Compare a [op] [b] pos) (tOp r ta tb) := by
  intro pins s σ H Q I h
  exact wpAny_Compare1 (binT ha hb I h fun v u s2 x y H2 I2 rx ry q => ho pins s2 σ H2 x y v u Q I2 rx ry q) hm
def tTest (t : TE) : TT := fun σ H Q => t σ H fun x H' => ∃ k, x = .bl k ∧ Q k H'
theorem pt_cmpR {op : CmpOp} {r : R2} (ho : OpR X (compareOp op) r) (ha : PE X a ta) (hb : PE X b tb) (hm : behindInMarks op b = false) : PT X (.Compare a [op] [b] pos) (tTest (tOp r ta tb)) := by
  intro pins s σ H Q I h
  refine wpAny_isTrue_Compare1 (thn (ha pins s σ H _ I h) fun v s1 ⟨x, H1, I1, r1, q1⟩ => thn (hb pins s1 σ H1 _ I1 q1) fun u s2 ⟨y, H2, I2, r2, q2⟩ =>
    thn (ho pins s2 σ H2 x y v u _ I2 r1 r2 q2) fun c s3 ⟨z, H3, I3, r3, k, e, q3⟩ => ?_) hm
  subst e
  cases r3
  exact wpAny_truthy_bool ⟨H3, I3, q3⟩
def TruV (K : PySem.W.Frag) (x : V) (H : Hp) (k : Bool) : Prop :=
  match x with
  | .non => k = false
  | .bl b => k = b
  | .int i => k = (i != 0)
  | .str y => y.length ≤ sizeLine ∧ k = ((y.length : Int) != 0)
  | .byt y => y.size ≤ sizeLine ∧ k = ((y.size : Int) != 0)
  | .ref p => (∃ xs, SqL K H p xs ∧ k = !xs.isEmpty) ∨ (∃ xs, SqT K H p xs ∧ k = !xs.isEmpty) ∨ ∃ kvs, H p = some (.dK kvs) ∧ k = !kvs.isEmpty
  | _ => False
theorem isEmpty_kv {κ : Type} {kvs : List (κ × V)} {vs : List (κ × Value)} (r : KV kvs vs) : (!vs.isEmpty) = !kvs.isEmpty := by
  cases r <;> rfl
theorem isEmpty_of {xs : List V} {its : List Value} (r : Vals xs its) : (!its.toArray.isEmpty) = !xs.isEmpty := by
  cases r <;> simp
theorem line63 : (sizeLine : Nat) < 2 ^ 63 := by rw [sizeLine_eq]; decide
theorem tru_ok : TruR X (fun x H Q => ∃ k, TruV X.K x H k ∧ Q k H) := by
  intro pins s σ H x v Q I rx h
  obtain ⟨k, e, q⟩ := h
  have hl := line63
  have hs : sizeLine = 16777216 := sizeLine_eq
  cases x with
  | non =>
    cases rx
    have e' : k = false := e
    subst e'
    exact truthy_none ⟨H, I, q⟩
  | bl b =>
    cases rx
    have e' : k = b := e
    subst e'
    exact wpAny_truthy_bool ⟨H, I, q⟩
  | int i =>
    obtain ⟨t, rfl⟩ := rx
    have e' : k = (i != 0) := e
    subst e'
    exact PySem.P.truthy_int ⟨H, I, q⟩
  | str y =>
    obtain ⟨t, rfl⟩ := rx
    obtain ⟨hy, e'⟩ : y.length ≤ sizeLine ∧ k = ((y.length : Int) != 0) := e
    subst e'
    exact PySem.P.truthy_str (by omega) ⟨H, I.tok _, q⟩
  | byt y =>
    obtain ⟨t, rfl⟩ := rx
    obtain ⟨hy, e'⟩ : y.size ≤ sizeLine ∧ k = ((y.size : Int) != 0) := e
    subst e'
    exact PySem.W.truthy_bytes (by omega) ⟨H, I.tok _, q⟩
  | ref p =>
    cases rx
    have e' : (∃ xs, SqL X.K H p xs ∧ k = !xs.isEmpty) ∨ (∃ xs, SqT X.K H p xs ∧ k = !xs.isEmpty) ∨ ∃ kvs, H p = some (.dK kvs) ∧ k = !kvs.isEmpty := e
    rcases e' with ⟨xs, hx, e'⟩ | ⟨xs, hx, e'⟩ | ⟨kvs, hx, e'⟩
    · subst e'
      obtain ⟨its, r, pl, hz⟩ := I.list hx
      have hlen := r.length
      exact wpAny_truthy_list pl.isList (by simp only [List.size_toArray]; omega) ⟨H, I.tok _, by rw [isEmpty_of r]; exact q⟩
    · subst e'
      obtain ⟨its, r, pl, hz⟩ := I.tuple hx
      have hlen := r.length
      exact truthy_tuple pl (by simp only [List.size_toArray]; omega) ⟨H, I.tok _, by rw [isEmpty_of r]; exact q⟩
    · subst e'
      obtain ⟨hz, hS, vs, r, m⟩ : kvs.length ≤ sizeLine ∧ (p == sysModules) = false ∧ ∃ vs, KV kvs vs ∧ s.heap.DictOf (mixKind X.prog X.w) p vs := I.hok p _ hx
      have hlen : kvs.length = vs.length := Paired.length r
      exact wpAny_truthy_dict hS m (by omega) ⟨H, I.tok _, by rw [isEmpty_kv r]; exact q⟩
  | _ => exact (show False from e).elim
theorem pt_truth (ha : PE X a ta) (he : ∀ whole, isTrue a X.env whole = (do let v ← whole; standAt a.pos; holding [v] (truthy v))) :
    PT X a (fun σ H Q => ta σ H fun x H' => ∃ k, TruV X.K x H' k ∧ Q k H') := by
  intro pins s σ H Q I h
  exact isTrue_plain (thn (ha pins s σ H _ I h) fun v s1 ⟨x, H1, I1, r1, q1⟩ => tru_ok pins s1 σ H1 x v Q I1 r1 q1) (he _)
theorem vals1 {x : V} {us : List Value} (r : Vals [x] us) : ∃ u, us = [u] ∧ RelV x u := by
  cases r with
  | cons r1 r2 => cases r2; exact ⟨_, rfl, r1⟩
theorem vals2 {x y : V} {us : List Value} (r : Vals [x, y] us) : ∃ u w', us = [u, w'] ∧ RelV x u ∧ RelV y w' := by
  cases r with
  | cons r1 r2 =>
    cases r2 with
    | cons r3 r4 => cases r4; exact ⟨_, _, rfl, r1, r3⟩
theorem call_max2 (hc : X.calm = true) : CallR X (.builtin "max") (fun xs H Q => ∃ i j, xs = [.int i, .int j] ∧ Q (.int (if j > i then j else i)) H) := by
  intro pins s σ H xs us Q I r h
  obtain ⟨i, j, rfl, q⟩ := h
  obtain ⟨u, w', rfl, ⟨t, rfl⟩, ⟨t', rfl⟩⟩ := vals2 r
  refine max_two_ints (I.ok.hd hc) fun h' tk k => ⟨_, H, I.kept k, ?_, q⟩
  by_cases hj : j > i
  · rw [if_pos hj, if_pos hj]; exact ⟨_, rfl⟩
  · rw [if_neg hj, if_neg hj]; exact ⟨_, rfl⟩
theorem call_int1 : CallR X (.type "int") (fun xs H Q => (∃ i, xs = [.int i] ∧ Q (.int i) H) ∨ ∃ k, xs = [.bl k] ∧ Q (.int (if k then 1 else 0)) H) := by
  intro pins s σ H xs us Q I r h
  rcases h with ⟨i, rfl, q⟩ | ⟨k, rfl, q⟩
  · obtain ⟨u, rfl, t, rfl⟩ := vals1 r
    exact call_int_int ⟨.int i, H, I, ⟨_, rfl⟩, q⟩
  · obtain ⟨u, rfl, r1⟩ := vals1 r
    cases r1
    exact call_int_bool ⟨.int (if k then 1 else 0), H, I.tok _, ⟨_, rfl⟩, q⟩
end
end L2
namespace L2
open PySem PySem.Spec PyProof.Rows
structure ObjM (h : Heap) (x dx C : Addr) (mA : Str → Option Value) : Prop where
  obj : h.get? x = some (PySem.W.instObj C dx)
  ns : h.Ns1 dx mA
  ne : dx ≠ x
theorem lookIn_ns {h : Heap} {dx : Addr} {mA : Str → Option Value} (n : h.Ns1 dx mA) : ∃ od, h.get? dx = some od ∧ ∀ name, PySem.W.lookIn name od = some (mA name) := by
  obtain ⟨o, es, ep, ho, hd, hk, _, hm⟩ := n
  refine ⟨o, ho, fun name => ?_⟩
  have e := hm name
  unfold nsFind findBy at e
  rw [← Array.find?_toList] at e
  unfold PySem.W.lookIn
  rw [hd]
  dsimp only
  split
  · rename_i y q
    rw [q] at e
    exact congrArg some e
  · rename_i q
    rw [q] at e
    have a : es.toList.any (·.refKey) = false := by
      rw [List.any_eq_false]
      intro y hy
      obtain ⟨z, t, hkey⟩ := hk y (Array.mem_toList_iff.mp hy)
      simp [DictEntry.refKey, hkey]
    have a' : ¬ es.toList.any (·.refKey) = true := by rw [a]; exact Bool.false_ne_true
    rw [if_neg a']
    exact congrArg some e
theorem ObjM.look {h : Heap} {x dx C : Addr} {mA : Str → Option Value} (I : ObjM h x dx C mA) : ∃ od, PySem.W.InstAt h x (PySem.W.instObj C dx) C (some od) ∧ ∀ name, PySem.W.lookIn name od = some (mA name) :=
  let ⟨od, ho, hl⟩ := lookIn_ns I.ns
  ⟨od, ⟨I.obj, rfl, rfl, ho⟩, hl⟩
section
variable {prog : Program} {w : World} {A : Around} {E : Value → Shared → Prop} {s : Shared} {K : PySem.W.Frag} {x dx C f : Addr} {mA : Str → Option Value} {name : Str} {v : Value}
end
section
variable {P : Program} {w : World} {H H' : Hp} {h h' : Heap} {a C dx : Addr} {fs fs' : List (Str × V)}
end
structure Cls (K : PySem.W.Frag) (C : Addr) : Prop where
  pg : PySem.W.plainGet K C Str.empty = true
  hd : PySem.W.hasDictIn K C = true
  po : PySem.W.plainOver K C = true
  sa : PySem.W.findIn K (.ref C) "__setattr__" = some (some (.builtin "object.__setattr__"))
theorem Cls.get {K : PySem.W.Frag} {C : Addr} (c : Cls K C) (f : Str) : PySem.W.plainGet K C f = true := c.pg
structure Con (K : PySem.W.Frag) (C : Addr) (f : Str) (v : V) (u : Value) : Prop where
  at_ : PySem.W.findIn K (.ref C) f = some (some u)
  rel : RelV v u
  get : PySem.W.specialIn K u "__get__" = some none
  cp : PySem.W.copiedNames.contains f = false
structure Meth (K : PySem.W.Frag) (C : Addr) (m : Str) (f : Addr) : Prop where
  at_ : PySem.W.findIn K (.ref C) m = some (some (.ref f))
  fn : PySem.W.isFn K (.ref f) = true
  kp : PySem.W.keepIn K (.ref f) = true
section
variable {X : Cx} {pins : List (Addr × Obj)} {σ : St} {H : Hp} {s : Shared} {a C dx : Addr} {fs : List (Str × V)} {f : Str} {v : V} {A : Around} {E : Value → Shared → Prop}
end
section
variable {X : Cx} {o e value : Expr} {f : Str} {pos pos' tpos : Pos} {ta tv : TE}
end
section
variable {X : Cx} {pins : List (Addr × Obj)} {σ : St} {H : Hp} {s : Shared} {A : Around} {E : Value → Shared → Prop} {Q : Value → Shared → Prop} {c : Value} {b : Bool}
inductive TyOf (K : PySem.W.Frag) (H : Hp) : V → Value → Prop where
  | non : TyOf K H .non (.type "NoneType")
  | bl (x : Bool) : TyOf K H (.bl x) (.type "bool")
  | int (i : Int) : TyOf K H (.int i) (.type "int")
  | str (x : Str) : TyOf K H (.str x) (.type "str")
  | flt (x : UInt64) : TyOf K H (.flt x) (.type "float")
  | lst {a : Addr} {xs : List V} (e : H a = some (.lst xs)) : TyOf K H (.ref a) (.type "list")
  | frz {a : Addr} {o : Obj} {xs : List V} (e : H a = some (.frz o (.lst xs))) : TyOf K H (.ref a) (.type "list")
  | tup {a : Addr} {xs : List V} (e : H a = some (.tup xs)) : TyOf K H (.ref a) (.type "tuple")
  | dK {a : Addr} {kvs : List (Key × V)} (e : H a = some (.dK kvs)) : TyOf K H (.ref a) (.type "dict")
  | dT {a : Addr} {kvs : List (List Key × V)} (e : H a = some (.dT kvs)) : TyOf K H (.ref a) (.type "dict")
  | ins {a C dx : Addr} {fs : List (Str × V)} (e : H a = some (.ins C dx fs)) (cl : Cls K C) (ha : PySem.W.findIn K (.ref C) "__class__" = some (some (.builtin "object.__class__")))
      (hn : PySem.W.specialIn K (.builtin "object.__class__") "__get__" = some (some (.builtin "getset_descriptor.__get__"))) (htk : PySem.W.takesIn K (.builtin "object.__class__") = some true)
      (hm : PySem.W.mroIn K C (.type "object") = some true) : TyOf K H (.ref a) (.ref C)
end
end L2
namespace L2
open PySem PySem.Spec PyProof.Rows
structure Room (k : Nat) (A : Around) : Prop where
  hd : A.handled = none
  dp : A.depth + 3 * k + 5 < recursionLimit
  un : A.units + 16 * k + 200 < cLine
theorem Room.mono {j k : Nat} {A : Around} (r : Room k A) (h : j ≤ k) : Room j A := ⟨r.hd, by have := r.dp; omega, by have := r.un; omega⟩
theorem Room.deeper {k : Nat} {A : Around} (r : Room (k + 1) A) (env : Env) : Room k (A.deeper env) :=
  ⟨r.hd, by have := r.dp; show A.depth + 1 + 3 * k + 5 < _; omega, by have := r.un; show A.units + 3 + 16 * k + 200 < _; omega⟩
theorem Room.in1 {k : Nat} {A : Around} (r : Room (k + 1) A) : Room k A.in1 :=
  ⟨r.hd, by have := r.dp; show A.depth + 3 * k + 5 < _; omega, by have := r.un; show A.units + 1 + 16 * k + 200 < _; omega⟩
theorem Room.depth {k : Nat} {A : Around} (r : Room k A) : A.depth < recursionLimit := by have := r.dp; omega
theorem Room.units {k : Nat} {A : Around} (r : Room k A) : A.units + 64 < cLine := by have := r.un; omega
theorem Room.units0 {k : Nat} {A : Around} (r : Room k A) : A.units < cLine := by have := r.un; omega
def tNil : TA := fun _ H Q => Q [] H
def tCons (ta : TE) (tr : TA) : TA := fun σ H Q => ta σ H fun x H1 => tr σ H1 fun xs H2 => Q (x :: xs) H2
section
variable {X : Cx} {e : Expr} {es : List Expr} {te : TE} {t : TA} {pos : Pos}
theorem pa_nil : PA X [] tNil := fun _ _ _ _ H Q I h => Calls.spliced_nil ⟨[], H, I, .nil, h⟩
theorem pa_cons (ha : PE X e te) (hr : PA X es t) (hs : starEach (e :: es) X.env = (false, eval e X.env) :: starEach es X.env := by rfl) : PA X (e :: es) (tCons te t) := by
  intro pos pins s σ H Q I h
  rw [hs]
  show wpAny _ _ (spliced ((false, eval e X.env) :: backTo pos (starEach es X.env))) _ _ s
  refine Calls.spliced_cons (thn (ha pins s σ H _ I h) fun u s1 ⟨x, H1, I1, r1, q1⟩ => ?_)
  exact thn (hr pos pins s1 σ H1 _ I1 q1) fun us s2 ⟨xs, H2, I2, r2, q2⟩ => ⟨x :: xs, H2, I2, .cons r1 r2, q2⟩
def tTup (t : TA) : TE := fun σ H Q => t σ H fun xs H1 => xs.length ≤ sizeLine ∧ ∀ p, H1 p = none → Q (.ref p) (upd H1 p (.tup xs))
def tLst (t : TA) : TE := fun σ H Q => t σ H fun xs H1 => xs.length ≤ sizeLine ∧ ∀ p, H1 p = none → Q (.ref p) (upd H1 p (.lst xs))
theorem pe_tup {x1} (h : PA X es t) : PE X (.Tuple es x1 pos) (tTup t) := by
  intro pins s σ H Q I hq
  refine wpAny_Tuple_spliced (thn (h pos pins s σ H _ I hq) fun us s1 ⟨xs, H1, I1, r, z, q⟩ => ⟨by rw [← r.length]; exact z, ?_⟩)
  have hf : H1 s1.heap.objs.size = none := I1.hok.fresh (Nat.le_refl _)
  refine ⟨.ref s1.heap.objs.size, upd H1 s1.heap.objs.size (.tup xs), I1.laid (t' := s1.toks) (fun b u e => Heap.get?_push_of_some _ e) (Nat.le_refl _) ?_, rfl, q _ hf⟩
  exact ⟨z, us, r, ⟨_, Heap.get?_push_size _ rfl, rfl, _, rfl⟩⟩
theorem pe_lst (h : PA X es t) : PE X (.List es pos) (tLst t) := by
  intro pins s σ H Q I hq
  refine wpAny_List_spliced (thn (h pos pins s σ H _ I hq) fun us s1 ⟨xs, H1, I1, r, z, q⟩ => ⟨by rw [← r.length]; exact z, ?_⟩)
  have hf : H1 s1.heap.objs.size = none := I1.hok.fresh (Nat.le_refl _)
  refine ⟨.ref s1.heap.objs.size, upd H1 s1.heap.objs.size (.lst xs), I1.laid (t' := s1.toks) (fun b u e => Heap.get?_push_of_some _ e) (Nat.le_refl _) ?_, rfl, q _ hf⟩
  exact ⟨z, us, 0, r, Heap.get?_push_size _ rfl⟩
end
abbrev Sp := List V → Hp → VK → XK → Prop
abbrev CXT := List Env → Hp → Shared → XK → Value → Shared → Prop
structure Env0 (P : Program) (w : World) (K : PySem.W.Frag) (mg : Str → Option Value) (base : Heap) (A : Around) (outer : List Env) (s : Shared) (H : Hp) : Prop where
  frames : A.frames = some outer
  mod : Mod K mg base
  bs : ∀ b o, base.get? b = some o → s.heap.get? b = some o ∧ H b = none
  bsz : base.objs.size ≤ s.heap.objs.size
  funs : s.heap.FunFrames base outer
  frf : ∀ b ∈ frs outer, H b = none
  hok : HOk P w H s.heap
  bare : AllBare s.gens
  tab : ∀ p ∈ tabT K, H p.1 = some (.tbl p.2)
def CE (outer : List Env) (P : Program) (w : World) (H : Hp) (s : Shared) (Q : VK) (u : Value) (s' : Shared) : Prop :=
  ∃ v H', s'.os = s.os ∧ GStep s.gens s'.gens ∧ Un (frs outer) [] H H' s.heap s'.heap ∧ HOk P w H' s'.heap ∧ RelV v u ∧ Q v H'
def CR (CX : CXT) (outer : List Env) (P : Program) (w : World) (H : Hp) (s : Shared) (Q : VK) (E : XK) (r : Result) (s' : Shared) : Prop :=
  match r with
  | .ok (.ret u) => CE outer P w H s Q u s'
  | .ok _ => False
  | .error e => CX outer H s E e s'
structure FnOk (P : Program) (w : World) (K : PySem.W.Frag) (mg : Str → Option Value) (base : Heap) (CX : CXT) (k : Nat) (f : Addr) (fd : FuncData) (ps : List Str) (sp : Sp) : Prop where
  len : ∀ vs H Q E, sp vs H Q E → vs.length = ps.length
  run : ∀ (A : Around) (outer : List Env) (s : Shared) (H : Hp) (args : Args) (us : List Value) (vs : List V) (Q : VK) (E : XK), Room k A → Env0 P w K mg base A outer s H → BindsTo s fd args (ps.zip us) → Vals vs us → sp vs H Q E →
    codeAny (model P w) A (.call (.ref f) args) (CR CX outer P w H s Q E) s
theorem FnOk.mono {P : Program} {w : World} {K : PySem.W.Frag} {mg : Str → Option Value} {base : Heap} {CX : CXT} {j k : Nat} {f : Addr} {fd : FuncData} {ps : List Str} {sp : Sp} (F : FnOk P w K mg base CX j f fd ps sp) (h : j ≤ k) :
    FnOk P w K mg base CX k f fd ps sp := ⟨F.len, fun A outer s H args us vs Q E hr => F.run A outer s H args us vs Q E (hr.mono h)⟩
theorem FnOk.imp {P : Program} {w : World} {K : PySem.W.Frag} {mg : Str → Option Value} {base : Heap} {CX : CXT} {k : Nat} {f : Addr} {fd : FuncData} {ps : List Str} {sp sp' : Sp} (F : FnOk P w K mg base CX k f fd ps sp)
    (h : ∀ vs H Q E, sp' vs H Q E → sp vs H Q E) : FnOk P w K mg base CX k f fd ps sp' :=
  ⟨fun vs H Q E q => F.len vs H Q E (h _ _ _ _ q), fun A outer s H args us vs Q E hr he hb hv hs => F.run A outer s H args us vs Q E hr he hb hv (h _ _ _ _ hs)⟩
theorem Env0.in1 {P : Program} {w : World} {K : PySem.W.Frag} {mg : Str → Option Value} {base : Heap} {A : Around} {outer : List Env} {s : Shared} {H : Hp} (e : Env0 P w K mg base A outer s H) :
    Env0 P w K mg base A.in1 outer s H := ⟨e.frames, e.mod, e.bs, e.bsz, e.funs, e.frf, e.hok, e.bare, e.tab⟩
section
variable {X : Cx} {pins : List (Addr × Obj)} {σ : St} {H : Hp} {s s' : Shared}
theorem Inv.env0 (I : Inv X pins σ H s) : Env0 X.prog X.w X.K X.mg X.base X.A X.stack s H :=
  ⟨I.ok.frames, I.ok.mod, I.bs, Nat.le_trans I.ok.bsz (Nat.le_of_lt I.lt), I.stack, I.stkFree, I.hok, I.bare.1, fun p hp => (I.base.tbls p.1 p.2 (I.ok.tab p hp)).1⟩
theorem Inv.after {Q : VK} {u : Value} (I : Inv X pins σ H s) (h : CE X.stack X.prog X.w H s Q u s') : EP X pins σ Q u s' := by
  obtain ⟨v, H', os, bare, un, hok, r, q⟩ := h
  obtain ⟨hh, g, d, t, os'⟩ := s'
  obtain rfl : os' = s.os := os
  exact ⟨v, H', I.call (h' := hh) (g' := g) (d' := d) (t' := t) (ch := []) un hok bare (fun b z => absurd z (by simp)), r, q⟩
end
def tCall (sp : Sp) (dvs : List V) (E : XK) (t : TA) : TE := fun σ H Q => t σ H fun vs H1 => sp (vs ++ dvs) H1 Q E
def Binds (K : PySem.W.Frag) (fd : FuncData) (ps : List Str) (ds : List Value) : Prop :=
  ∀ (s : Shared) (us : List Value), K.In s.heap → (us ++ ds).length = ps.length → BindsTo s fd ⟨us, []⟩ (ps.zip (us ++ ds))
theorem Binds.all {K : PySem.W.Frag} {fd : FuncData} {ps : List Str} (h : ∀ us : List Value, us.length = ps.length → bindArgs fd ⟨us, []⟩ = pure (ps.zip us)) : Binds K fd ps [] := fun s us _ hl => by
  rw [List.append_nil] at hl ⊢
  exact .of_eq (h us hl)
def Passes (CX : CXT) (X : Cx) (E : XK) : Prop := ∀ (pins : List (Addr × Obj)) (σ : St) (H : Hp) (s : Shared) (e : Value) (s' : Shared), Inv X pins σ H s → CX X.stack H s E e s' → X.xe e s'
section
variable {X : Cx} {CX : CXT} {k : Nat} {f C : Addr} {fd : FuncData} {ps : List Str} {sp : Sp} {dvs : List V} {ds : List Value} {E : XK} {x m : Str} {p pos apos : Pos} {e o : Expr} {es : List Expr} {ta : TE} {t : TA}
theorem run_fn {pins : List (Addr × Obj)} {σ : St} {H : Hp} {s : Shared} {Q : VK} {us : List Value} {vs : List V} (F : FnOk X.prog X.w X.K X.mg X.base CX k f fd ps sp) (hr : Room k X.A) (hb : Binds X.K fd ps ds) (hd : Vals dvs ds) (hx : Passes CX X E)
    (I : Inv X pins σ H s) (r : Vals vs us) (h : sp (vs ++ dvs) H Q E) : wpAny (model X.prog X.w) X.A (call (.ref f) us) (EP X pins σ Q) X.xe s := by
  have r2 : Vals (vs ++ dvs) (us ++ ds) := r.append hd
  have hl : (us ++ ds).length = ps.length := by rw [← r2.length]; exact F.len _ _ _ _ h
  refine wpAny_call (codeAny_mono (F.run X.A X.stack s H ⟨us, []⟩ (us ++ ds) (vs ++ dvs) Q E hr I.env0 (hb s us I.kIn hl) r2 h) fun r s' hq => ?_)
  cases r with
  | error e => exact hx pins σ H s e s' I hq
  | ok fl =>
    cases fl with
    | ret u => exact I.after hq
    | next => exact False.elim hq
    | brk => exact False.elim hq
    | cont => exact False.elim hq
theorem pe_call (F : FnOk X.prog X.w X.K X.mg X.base CX k f fd ps sp) (hr : Room k X.A) (hg : Gl X x) (hm : X.mg x = some (.ref f)) (hk : PySem.W.keepIn X.K (.ref f) = true) (hb : Binds X.K fd ps ds) (hd : Vals dvs ds) (hx : Passes CX X E)
    (ha : PA X (e :: es) t) (hdb : (x == ("__debug__" : Str)) = false := by decide) (he : starEach (e :: es) X.env = (false, eval e X.env) :: starEach es X.env := by rfl) (hpl : (backTo pos (starEach es X.env)).any (·.1) = false := by rfl) :
    PE X (.Call (.Name x p) (e :: es) [] pos) (tCall sp dvs E t) := by
  intro pins s σ H Q I h
  refine wpAny_Call_Name_kw (ld_glob I hg hm ?_ hdb)
  refine PySem.W.callWith_K (h₀ := X.base) I.ok.mod.kin hk (thn (ha pos pins s σ H _ I h) fun us s1 ⟨vs, H1, I1, r, q⟩ => ⟨I1.kIn, ?_⟩) he hpl
  exact run_fn F hr hb hd hx I1 r q
structure Mk (K : PySem.W.Frag) (C f : Addr) : Prop where
  makes : PySem.W.makesIn K C = true
  init : PySem.W.findIn K (.ref C) "__init__" = some (some (.ref f))
  fn : PySem.W.isFn K (.ref f) = true
  kp : PySem.W.keepIn K (.ref C) = true
end
def PK (X : Cx) (kws : List Keyword) (t : TA) : Prop :=
  ∀ (pos : Pos) (pins : List (Addr × Obj)) (s : Shared) (σ : St) (H : Hp) (Q : List V → Hp → Prop), Inv X pins σ H s → t σ H Q → wpAny (model X.prog X.w) X.A (evalAll ((backToKw pos (keywordEach kws X.env)).map (·.2))) (AP X pins σ Q) X.xe s
section
variable {X : Cx} {CX : CXT} {k : Nat} {f C : Addr} {fd : FuncData} {ps ks : List Str} {sp : Sp} {E : XK} {x m : Str} {p pos apos kpos : Pos} {e o : Expr} {es : List Expr} {kws : List Keyword} {te ta : TE} {t tk : TA} {nm : Option Str}
theorem pk_nil : PK X [] tNil := fun _ _ _ _ H Q I h => wpAny_evalAll_nil ⟨[], H, I, .nil, h⟩
theorem pk_cons (ha : PE X e te) (hr : PK X kws t) : PK X (⟨nm, e, kpos⟩ :: kws) (tCons te t) := by
  intro pos pins s σ H Q I h
  show wpAny _ _ (evalAll ((do let v ← eval e X.env; standAt pos; pure v) :: (backToKw pos (keywordEach kws X.env)).map (·.2))) _ _ s
  refine wpAny_evalAll_cons (wpAny_bind (thn (ha pins s σ H _ I h) fun u s1 ⟨x, H1, I1, r1, q1⟩ => wpAny_bind (wpAny_standAt (wpAny_pure ?_))))
  exact thn (hr pos pins s1 σ H1 _ I1 q1) fun us s2 ⟨xs, H2, I2, r2, q2⟩ => ⟨x :: xs, H2, I2, .cons r1 r2, q2⟩
structure KBinds (K : PySem.W.Frag) (fd : FuncData) (ps ks : List Str) (g : List Value → List Value → List Value) (gV : List V → List V → List V) : Prop where
  to : ∀ (s : Shared) (us ws : List Value), K.In s.heap → (g us ws).length = ps.length → BindsTo s fd ⟨us, ks.zip ws⟩ (ps.zip (g us ws))
  rel : ∀ {vs : List V} {us : List Value} {zs : List V} {ws : List Value}, Vals vs us → Vals zs ws → Vals (gV vs zs) (g us ws)
def tCallK (sp : Sp) (gV : List V → List V → List V) (E : XK) (t tk : TA) : TE := fun σ H Q => t σ H fun vs H1 => tk σ H1 fun zs H2 => sp (gV vs zs) H2 Q E
variable {g : List Value → List Value → List Value} {gV : List V → List V → List V}
theorem run_fnk {pins : List (Addr × Obj)} {σ : St} {H : Hp} {s : Shared} {Q : VK} {us ws : List Value} {vs zs : List V} (F : FnOk X.prog X.w X.K X.mg X.base CX k f fd ps sp) (hr : Room k X.A) (hb : KBinds X.K fd ps ks g gV) (hx : Passes CX X E)
    (I : Inv X pins σ H s) (r : Vals vs us) (rz : Vals zs ws) (h : sp (gV vs zs) H Q E) : wpAny (model X.prog X.w) X.A (call (.ref f) us (ks.zip ws)) (EP X pins σ Q) X.xe s := by
  have r2 := hb.rel r rz
  have hl : (g us ws).length = ps.length := by rw [← r2.length]; exact F.len _ _ _ _ h
  refine wpAny_call (codeAny_mono (F.run X.A X.stack s H ⟨us, ks.zip ws⟩ (g us ws) (gV vs zs) Q E hr I.env0 (hb.to s us ws I.kIn hl) r2 h) fun r s' hq => ?_)
  cases r with
  | error e => exact hx pins σ H s e s' I hq
  | ok fl =>
    cases fl with
    | ret u => exact I.after hq
    | next => exact False.elim hq
    | brk => exact False.elim hq
    | cont => exact False.elim hq
theorem pe_callK (F : FnOk X.prog X.w X.K X.mg X.base CX k f fd ps sp) (hr : Room k X.A) (hg : Gl X x) (hm : X.mg x = some (.ref f)) (hk : PySem.W.keepIn X.K (.ref f) = true) (hb : KBinds X.K fd ps ks g gV) (hx : Passes CX X E)
    (ha : PA X (e :: es) t) (hkw : PK X kws tk) (hall : (backToKw pos (keywordEach kws X.env)).all (·.1.isSome) = true := by rfl) (hks : (backToKw pos (keywordEach kws X.env)).filterMap (·.1) = ks := by rfl)
    (hdb : (x == ("__debug__" : Str)) = false := by decide) (he : starEach (e :: es) X.env = (false, eval e X.env) :: starEach es X.env := by rfl)
    (hpl : ((backTo pos (starEach (e :: es) X.env)).any (·.1) || (backToKw pos (keywordEach kws X.env)).any (·.1.isNone)) = false := by rfl) :
    PE X (.Call (.Name x p) (e :: es) kws pos) (tCallK sp gV E t tk) := by
  intro pins s σ H Q I h
  refine wpAny_Call_Name_kw (ld_glob I hg hm ?_ hdb)
  refine PySem.W.callWith_KW (h₀ := X.base) I.ok.mod.kin hk hall (thn (ha pos pins s σ H _ I h) fun us s1 ⟨vs, H1, I1, r, q⟩ => ?_) hpl he
  refine thn (hkw pos pins s1 σ H1 _ I1 q) fun ws s2 ⟨zs, H2, I2, rz, q2⟩ => ⟨I2.kIn, ?_⟩
  rw [hks]
  exact run_fnk F hr hb hx I2 r rz q2
end
structure FnScope (N P : List Str) (sc : Scope) : Prop where
  kind : sc.kind = .function
  co : sc.isCoroutine = false
  gen : sc.isGenerator = false
  nd : N.Nodup
  pre : N.take P.length = P
  par : ∀ x ∈ P, sc.names.lookup x = some .local ∨ sc.names.lookup x = some .cell
  nofree : ∀ y ∈ sc.names, y.2 ≠ .free
theorem bindL_out {kindOf : Str → Option NameKind} {x : Str} : ∀ {binds : List (Str × Value)} {m : Str → Option Value}, (∀ v, (x, v) ∉ binds) → bindL kindOf binds m x = m x
  | [], _, _ => rfl
  | (n, v) :: r, m, h => by
    unfold bindL
    rw [bindL_out fun w hw => h w (List.mem_cons_of_mem _ hw)]
    split
    · have : x ≠ n := by rintro rfl; exact h v List.mem_cons_self
      simp [this]
    · rfl
theorem bindC_out {kindOf : Str → Option NameKind} {x : Str} : ∀ {binds : List (Str × Value)} {m : Str → Option Value}, (∀ v, (x, v) ∉ binds) → bindC kindOf binds m x = m x
  | [], _, _ => rfl
  | (n, v) :: r, m, h => by
    unfold bindC
    rw [bindC_out fun w hw => h w (List.mem_cons_of_mem _ hw)]
    split
    · rfl
    · have : x ≠ n := by rintro rfl; exact h v List.mem_cons_self
      simp [this]
theorem bindL_get {kindOf : Str → Option NameKind} {x : Str} {v : Value} : ∀ {P : List Str} {vs : List Value} {i : Nat} {m : Str → Option Value}, P.Nodup → P[i]? = some x → vs[i]? = some v → kindOf x = some .local →
    bindL kindOf (P.zip vs) m x = some v
  | [], _, _, _, _, h, _, _ => by simp at h
  | _ :: _, [], _, _, _, _, h, _ => by simp at h
  | p :: P, w :: vs, 0, m, nd, h1, h2, hk => by
    simp at h1 h2; subst h1; subst h2
    show bindL kindOf ((p, w) :: P.zip vs) m p = _
    unfold bindL
    rw [bindL_out fun v hv => (List.nodup_cons.mp nd).1 (List.of_mem_zip hv).1, if_pos hk]
    simp
  | p :: P, w :: vs, i + 1, m, nd, h1, h2, hk => by
    show bindL kindOf ((p, w) :: P.zip vs) m x = _
    unfold bindL
    exact bindL_get (i := i) (List.nodup_cons.mp nd).2 (by simpa using h1) (by simpa using h2) hk
theorem bindC_get {kindOf : Str → Option NameKind} {x : Str} {v : Value} : ∀ {P : List Str} {vs : List Value} {i : Nat} {m : Str → Option Value}, P.Nodup → P[i]? = some x → vs[i]? = some v → kindOf x ≠ some .local →
    bindC kindOf (P.zip vs) m x = some v
  | [], _, _, _, _, h, _, _ => by simp at h
  | _ :: _, [], _, _, _, _, h, _ => by simp at h
  | p :: P, w :: vs, 0, m, nd, h1, h2, hk => by
    simp at h1 h2; subst h1; subst h2
    show bindC kindOf ((p, w) :: P.zip vs) m p = _
    unfold bindC
    rw [bindC_out fun v hv => (List.nodup_cons.mp nd).1 (List.of_mem_zip hv).1, if_neg hk]
    simp
  | p :: P, w :: vs, i + 1, m, nd, h1, h2, hk => by
    show bindC kindOf ((p, w) :: P.zip vs) m x = _
    unfold bindC
    exact bindC_get (i := i) (List.nodup_cons.mp nd).2 (by simpa using h1) (by simpa using h2) hk
def start (N : List Str) (vs : List V) : St := vs.map some ++ List.replicate (N.length - vs.length) none
def cxOf (CX : CXT) (P : Program) (w : World) (K : PySem.W.Frag) (mg : Str → Option Value) (base : Heap) (N : List Str) (qual : Str) (scope : Scope) (f : Addr) (cd : Value) (A : Around) (outer : List Env) (s : Shared) (H : Hp) (E : XK) : Cx where
  prog := P
  w := w
  K := K
  mg := mg
  base := base
  A := A.deeper (envOfC qual scope s.heap.objs.size f cd)
  N := N
  s_0 := s
  H_0 := H
  env := envOfC qual scope s.heap.objs.size f cd
  outer := outer
  stack := envOfC qual scope s.heap.objs.size f cd :: outer
  ex := []
  calm := true
  fn := fun _ => true
  pn := []
  gp := []
  gx := []
  xe := fun e s' => wpAny (model P w) (A.deeper (envOfC qual scope s.heap.objs.size f cd)) (leaving (envOfC qual scope s.heap.objs.size f cd) e) (fun _ s'' => CX outer H s E e s'') (fun e' s'' => CX outer H s E e' s'') s'
theorem cell_has {sc : Scope} {n : Nat} {x : Str} (h : sc.names.lookup x = some .cell) : ∃ c, (cellsFrom n sc.names []).lookup x = some c := by
  have q := PySem.W.cellsFrom_some sc.names n [] (.inl h)
  exact Option.isSome_iff_exists.mp q
theorem inv_start {CX : CXT} {P : Program} {w : World} {K : PySem.W.Frag} {mg : Str → Option Value} {base : Heap} {N ps : List Str} {qual : Str} {scope : Scope} {f : Addr} {cd : Value} {A : Around} {outer : List Env} {s s1 : Shared} {H : Hp} {E : XK} {us : List Value} {vs : List V}
    (S : FnScope N ps scope) (hd : A.handled = none) (e0 : Env0 P w K mg base A outer s H) (hl : vs.length = ps.length) (r : Vals vs us)
    (x : InCallC s s.heap.objs.size (bindL (envOfC qual scope s.heap.objs.size f cd).kindOf (ps.zip us) fun _ => none) (cellsFrom (s.heap.objs.size + 1) scope.names []) (bindC (envOfC qual scope s.heap.objs.size f cd).kindOf (ps.zip us) fun _ => none) s1) :
    Inv (cxOf CX P w K mg base N qual scope f cd A outer s H E) [] (start N vs) H s1 := by
  have hpl : ps.length ≤ N.length := by have := congrArg List.length S.pre; rw [List.length_take] at this; omega
  obtain ⟨h1, tk, rfl, hk⟩ := x.done
  have noA : ∀ b : Addr, b ∉ (cxOf CX P w K mg base N qual scope f cd A outer s H E).ex := fun b z => absurd (show b ∈ ([] : List Addr) from z) (by simp)
  refine ⟨⟨e0.mod, S.kind, rfl, rfl, Heap.get?_none_of_le (Nat.le_refl _), fun y z c h1 h2 => ?_, fun y hy => ?_, fun y c _ h => ?_, fun _ => hd, Around.frames_deeper e0.frames, .inr ⟨rfl, rfl⟩, fun b z => absurd z (noA b), e0.bs, e0.bsz, fun b _ _ => noA b, fun b z => absurd z (noA b), e0.funs, e0.frf, e0.tab⟩,
    rfl, (by obtain ⟨_, _, q, _⟩ := id x.done; exact ⟨e0.bare, fun _ _ _ e => e, fun p hp => absurd (show p ∈ ([] : List (Nat × GenState)) from hp) (by simp)⟩), Un.kept hk, ⟨_, x.toInCall.ns, fun i y v h1 h2 h3 => ?_⟩, fun y c h => ⟨_, x.cell y c h⟩, e0.hok.fresh (Nat.le_refl _), fun y c h => ?_, fun p hp => absurd (show p ∈ ([] : List (Addr × Obj)) from hp) (by simp), e0.hok.kept hk, ?_⟩
  · exact name_of_addr x.apart (PySem.mem_of_lookup h1) (PySem.mem_of_lookup h2)
  · have hy : scope.names.lookup y = some .cell ∨ scope.names.lookup y = some .free := hy
    rcases hy with hy | hy
    · exact cell_has hy
    · exact absurd rfl (S.nofree _ (PySem.mem_of_lookup hy))
  · exact Nat.le_of_lt (x.above y c (PySem.mem_of_lookup h))
  · have hi : i < vs.length := by
      unfold start at h2
      by_cases hi : i < vs.length
      · exact hi
      · rw [List.getElem?_append_right (by simpa using hi)] at h2
        rw [List.getElem?_replicate] at h2
        split at h2 <;> cases h2
    have ha : vs[i]? = some v := by
      unfold start at h2
      rw [List.getElem?_append_left (by simpa using hi), List.getElem?_map] at h2
      cases e : vs[i]? with
      | none => rw [e] at h2; cases h2
      | some a => rw [e] at h2; cases h2; rfl
    obtain ⟨u, hu, rv⟩ := r.get ha
    have hp : ps[i]? = some y := by
      rw [← S.pre, List.getElem?_take_of_lt (by omega)]; exact h1
    have ndP : ps.Nodup := by rw [← S.pre]; exact S.nd.sublist (List.take_sublist _ _)
    refine ⟨u, rv, ?_⟩
    rcases S.par y (List.mem_of_getElem? hp) with k | k
    · exact .inl ⟨k, bindL_get ndP hp hu k⟩
    · obtain ⟨c, e⟩ := cell_has (n := s.heap.objs.size + 1) k
      refine .inr ⟨.inl k, c, e, ?_⟩
      have q := x.cell y c e
      rw [bindC_get ndP hp hu (by show scope.names.lookup y ≠ _; rw [k]; decide)] at q
      exact q
  · exact e0.hok.fresh (Nat.le_of_lt (x.above y c (PySem.mem_of_lookup h)))
  · unfold start
    show _ = N.length
    rw [List.length_append, List.length_map, List.length_replicate]
    omega
theorem fn_of {CX : CXT} {P : Program} {w : World} {K : PySem.W.Frag} {mg : Str → Option Value} {base : Heap} {k : Nat} {f : Addr} {name qual : Str} {params : Arguments} {body : List Stmt} {scope : Scope} {dV kV doc pm cdv ct oc : Value} {an od : Option Addr}
    {osl : Array (Option Value)} {N ps : List Str} {sp : Sp} (lk : K.lookup f = some ⟨oc, od, .func (PySem.W.fnOf name qual params body scope dV kV doc pm an cdv ct), osl⟩) (hcd : PySem.W.codeIn K cdv qual = true) (S : FnScope N ps scope)
    (len : ∀ vs H Q E, sp vs H Q E → vs.length = ps.length)
    (hbody : ∀ (A : Around) (outer : List Env) (s : Shared) (H : Hp) (vs : List V) (Q : VK) (E : XK), Room k (A.deeper (envOfC qual scope s.heap.objs.size f cdv)) → sp vs H Q E →
      ∃ t, PSs (cxOf CX P w K mg base N qual scope f cdv A outer s H E) body t ∧ t { nx := fun _ H' => Q .non H', rt := Q } (start N vs) H) :
    FnOk P w K mg base CX (k + 1) f (PySem.W.fnOf name qual params body scope dV kV doc pm an cdv ct) ps sp := by
  refine ⟨len, fun A outer s H args us vs Q E hr e0 hb r hsp => ?_⟩
  have hl := len _ _ _ _ hsp
  have KX : K.In s.heap := e0.mod.kin.keeps fun b o e => (e0.bs b o e).1
  have lim : s.heap.NoLimit := e0.mod.nolimit.keeps fun b o e => (e0.bs b o e).1
  have hkind : ∀ y ∈ ps.zip us, scope.names.lookup y.1 = some .local ∨ (scope.names.lookup y.1 = some .cell ∧ ((cellsFrom (s.heap.objs.size + 1) scope.names []).lookup y.1).isSome = true) := fun ⟨n, v⟩ hy => by
    rcases S.par n (List.of_mem_zip hy).1 with q | q
    · exact .inl q
    · exact .inr ⟨q, PySem.W.cellsFrom_some _ _ _ (.inl q)⟩
  refine codeAny_call_function hr.depth (KX _ _ lk) rfl S.co S.gen rfl (PySem.W.codeRec_of KX hcd) (hb _ _ _ _ ?_)
  refine wpAny_newFunctionEnv_cells S.kind hkind fun env he s1 x => ?_
  subst he
  refine ⟨lim.keeps x.toInCall.keep, codeAny_func ?_⟩
  obtain ⟨t, ht, hq⟩ := hbody A outer s H vs Q E (hr.deeper _) hsp
  have I : Inv (cxOf CX P w K mg base N qual scope f cdv A outer s H E) [] (start N vs) H s1 := inv_start S hr.hd e0 hl r x
  refine wpAny_mono (ht [] s1 (start N vs) H _ I hq) (fun fl s' hs => ?_) fun e s' hs => hs
  have fin : ∀ {σ' : St} {H' : Hp} {v : V} {u : Value}, Inv (cxOf CX P w K mg base N qual scope f cdv A outer s H E) [] σ' H' s' → RelV v u → Q v H' → CE outer P w H s Q u s' :=
    fun {σ' H' v u} J rv q => ⟨v, H', J.os, ⟨J.bare.1, fun k st e => J.bare.2.1 k st (show k ∉ ([] : List Nat) by simp) e⟩, J.base, J.hok, rv, q⟩
  cases fl with
  | ret u =>
    obtain ⟨v, σ', H', J, rv, q⟩ := hs
    exact fin J rv q
  | next =>
    obtain ⟨σ', H', J, q⟩ := hs
    exact fin (v := V.non) (u := Value.none) J rfl q
  | brk =>
    obtain ⟨_, _, _, q⟩ := hs
    exact False.elim q
  | cont =>
    obtain ⟨_, _, _, q⟩ := hs
    exact False.elim q
end L2
namespace L2
open PySem PySem.Spec PyProof.Rows
section
variable {X : Cx} {x : Str} {p pos : Pos} {e : Expr} {es : List Expr} {t : TA} {id T : String} {r : List V → Hp → VK → Prop}
def tCB (r : List V → Hp → VK → Prop) (t : TA) : TE := fun σ H Q => t σ H fun vs H1 => r vs H1 Q
theorem pe_callB (hc : CallR X (.builtin id) r) (hg : Gl X x) (hm : X.mg x = none) (hv : bootBuiltins x = some (.builtin id)) (ha : PA X (e :: es) t) (hn : x ≠ "__name__" := by decide) (hdb : (x == ("__debug__" : Str)) = false := by decide)
    (he : starEach (e :: es) X.env = (false, eval e X.env) :: starEach es X.env := by rfl) (hpl : (backTo pos (starEach es X.env)).any (·.1) = false := by rfl) : PE X (.Call (.Name x p) (e :: es) [] pos) (tCB r t) := by
  intro pins s σ H Q I h
  refine wpAny_Call_Name_kw (ld_blt I hg hm hv ?_ hn hdb)
  exact PyProof.Rows.callWith_builtin1 (thn (ha pos pins s σ H _ I h) fun us s1 ⟨vs, H1, I1, r1, q1⟩ => hc pins s1 σ H1 vs us Q I1 r1 q1) he hpl
theorem pe_callTy (hc : CallR X (.type T) r) (hg : Gl X x) (hm : X.mg x = none) (hv : bootBuiltins x = some (.type T)) (ha : PA X (e :: es) t) (hn : x ≠ "__name__" := by decide) (hdb : (x == ("__debug__" : Str)) = false := by decide)
    (he : starEach (e :: es) X.env = (false, eval e X.env) :: starEach es X.env := by rfl) (hpl : (backTo pos (starEach es X.env)).any (·.1) = false := by rfl) : PE X (.Call (.Name x p) (e :: es) [] pos) (tCB r t) := by
  intro pins s σ H Q I h
  refine wpAny_Call_Name_kw (ld_blt I hg hm hv ?_ hn hdb)
  exact PyProof.Rows.callWith_type1 (thn (ha pos pins s σ H _ I h) fun us s1 ⟨vs, H1, I1, r1, q1⟩ => hc pins s1 σ H1 vs us Q I1 r1 q1) he hpl
end
end L2
namespace HT
open PySem PyProof.Rows
def lexLt : List Int → List Int → Bool
  | [], [] => false
  | [], _ :: _ => true
  | _ :: _, [] => false
  | x :: xs, y :: ys => if x = y then lexLt xs ys else decide (x < y)
theorem lexLt_cons (x y : Int) (xs ys : List Int) : lexLt (x :: xs) (y :: ys) = if x = y then lexLt xs ys else decide (x < y) := rfl
theorem lexLt_nil_nil : lexLt [] [] = false := rfl
theorem lexLt_nil_cons (y : Int) (ys : List Int) : lexLt [] (y :: ys) = true := rfl
theorem lexLt_cons_nil (x : Int) (xs : List Int) : lexLt (x :: xs) [] = false := rfl
theorem eqAt_int (A : Around) (s : Shared) (a : Int) (t : Tok) (c : Int) (u : Tok) : ∃ e, SeqAt.EqAt A s (.int a t) (.int c u) e ∧ (e = true ↔ a = c) :=
  ⟨(a == c), SeqAt.EqAt.int_int a t c u, by simp⟩
theorem rcLt_int (A : Around) (s : Shared) (a : Int) (t : Tok) (c : Int) (u : Tok) (prog : Program) (w : World) (E : Value → Shared → Prop) (Q : Value → Shared → Prop) (h : Q (.bool (decide (a < c))) s) :
    wpAny (model prog w) A (richCompare .Lt (.int a t) (.int c u)) Q E s :=
  (PyProof.Rows.lt_int h : wpAny (model prog w) A (compareOp .Lt (.int a t) (.int c u)) Q E s)
section
open PySem.SeqAt
open PySem.AutoSeq1 (wpAny_loadPart')
open PySem.MeetsSeq PySem.MeetsSeq2 PySem.MeetsSeq3
theorem tuple_lt_ints (l b : Addr) (items items2 : Array Value) (n n2 : Nat) (dd dd2 : Option Addr) (sl sl2 : Array (Option Value)) (ns ms : List Int) (hi : IntsAre items.toList ns) (hj : IntsAre items2.toList ms) :
    Meets (Builtin.«tuple.__lt__» ⟨[.ref l, .ref b], []⟩)
      (fun _ R s => s.heap.get? l = some { cls := .type "tuple", dict := dd, data := .seq items n, slots := sl } ∧ s.heap.get? b = some { cls := .type "tuple", dict := dd2, data := .seq items2 n2, slots := sl2 } ∧
        R (.ok (.ret (.bool (lexLt ns ms)))) s) :=
  .of_wp fun prog w A R s h => by
    obtain ⟨hp, g, d, tk, os⟩ := s; obtain ⟨hl, hb, h⟩ := h
    have f2 := AutoSeq1.sub_tuple_tuple
    have z1 : items.size = ns.length := by rw [← hi.length]; simp
    have z2 : items2.size = ms.length := by rw [← hj.length]; simp
    wp_walk using wpAny_loadPart' hl, wpAny_loadPart' hb, wpAny_forIn_list _ (fun rest b s' => b.1 = none ∧ s' = ⟨hp, g, d, tk, os⟩ ∧ ∃ (vs ws : List Value) (ns' ms' : List Int), rest = vs.zip ws ∧
      IntsAre vs ns' ∧ IntsAre ws ms' ∧ ns'.length + items2.size = ms'.length + items.size ∧ R (.ok (.ret (.bool (lexLt ns' ms')))) ⟨hp, g, d, tk, os⟩) _
    case turn =>
      rintro ⟨y, x⟩ rest b s' ⟨hb', rfl, vs, ws, ns', ms', hz, hvi, hwi, hlen, hR⟩
      cases hvi with
      | nil => rw [List.zip_nil_left] at hz; cases hz
      | cons a t hvi' =>
        cases hwi with
        | nil => rw [List.zip_nil_right] at hz; cases hz
        | cons c u hwi' =>
          rw [List.zip_cons_cons] at hz
          injection hz with hyx hrest
          injection hyx with hy hx
          subst hy hx
          rw [lexLt_cons] at hR
          simp only [List.length_cons] at hlen
          obtain ⟨e, he, hiff⟩ := eqAt_int A.in1 ⟨hp, g, d, tk, os⟩ a t c u
          refine wpAny_bind (he prog w _ _ ?_)
          cases e with
          | true =>
            rw [if_pos (hiff.mp rfl)] at hR
            wp_walk
            exact ⟨rfl, rfl, _, _, _, _, hrest, hvi', hwi', by omega, hR⟩
          | false =>
            rw [if_neg (fun q => absurd (hiff.mpr q) Bool.false_ne_true)] at hR
            have hri := rcLt_int A.in1 ⟨hp, g, d, tk, os⟩ a t c u prog w
            wp_walk using hri
            exact ⟨_, rfl, by simpa using hR⟩
    case fin =>
      rintro ⟨b1, b2⟩ s' ⟨hb', rfl, vs, ws, ns', ms', hz, hvi, hwi, hlen, hR⟩
      simp only at hb'
      subst hb'
      have hv : lexLt ns' ms' = decide (items.size < items2.size) := by
        cases hvi with
        | nil =>
          cases hwi with
          | nil =>
            simp only [List.length_nil] at hlen
            rw [lexLt_nil_nil]
            exact (decide_eq_false (by omega)).symm
          | cons c u hw =>
            simp only [List.length_nil, List.length_cons] at hlen
            rw [lexLt_nil_cons]
            exact (decide_eq_true (by omega)).symm
        | cons a t hv =>
          cases hwi with
          | nil =>
            simp only [List.length_nil, List.length_cons] at hlen
            rw [lexLt_cons_nil]
            exact (decide_eq_false (by omega)).symm
          | cons c u hw =>
            rw [List.zip_cons_cons] at hz
            cases hz
      rw [hv] at hR
      wp_walk
      exact ⟨_, rfl, by simpa [Builtin.Tuple.tupleCompareSizes] using hR⟩
    case h =>
      exact ⟨rfl, rfl, items.toList, items2.toList, ns, ms, rfl, hi, hj, by omega, h⟩
end
section
variable {prog : Program} {w : World} {A : Around} {E : Value → Shared → Prop} {s : Shared}
theorem lt_tupInts {l b : Addr} {items items2 : Array Value} {ns ms : List Int} {Q : Value → Shared → Prop} (hl : IsTup s.heap l items) (hb : IsTup s.heap b items2) (hi : IntsAre items.toList ns) (hj : IntsAre items2.toList ms)
    (hu : A.units < cLine) (h : Q (.bool (lexLt ns ms)) s) : wpAny (model prog w) A (compareOp .Lt (.ref l) (.ref b)) Q E s := by
  obtain ⟨⟨cls, dd, data, sl⟩, ho, hc, n, hd⟩ := id hl
  obtain ⟨⟨cls2, dd2, data2, sl2⟩, ho2, hc2, n2, hd2⟩ := id hb
  simp only at hc hd hc2 hd2
  subst hc hd hc2 hd2
  exact richCompare_meets_room (op := .Lt) ⟨_, ho, rfl⟩ ⟨_, ho2, rfl⟩ PySem.F.slot_tuple_lt PySem.F.entry_tuple_lt (PySem.F.args_tuple_lt_2 _ _) (tuple_lt_ints l b items items2 n n2 dd dd2 sl sl2 ns ms hi hj)
    ⟨ho, ho2, show Value.bool (lexLt ns ms) ≠ Value.notImplemented ∧ Q (.bool (lexLt ns ms)) s from ⟨(fun x => nomatch x), h⟩⟩ hu
theorem cat_tup {t b : Addr} {vs ws : List Value} {Q : Value → Shared → Prop} (ht : IsTup s.heap t vs.toArray) (hb : IsTup s.heap b ws.toArray) (hv : vs ≠ [])
    (h1 : ws = [] → Q (.ref t) s) (h2 : ws ≠ [] → Q (.ref s.heap.objs.size) { s with heap := s.heap.push { cls := .type "tuple", data := .seq (vs ++ ws).toArray } })
    (hsz : vs.length + ws.length ≤ sizeLine) : wpAny (model prog w) A (binaryOp .Add (.ref t) (.ref b)) Q E s := by
  obtain ⟨⟨cls, dd, data, sl⟩, ho, hc, n, hd⟩ := id ht
  obtain ⟨⟨cls2, dd2, data2, sl2⟩, ho2, hc2, n2, hd2⟩ := id hb
  simp only at hc hd hc2 hd2
  subst hc hd hc2 hd2
  have e : vs.toArray ++ ws.toArray = (vs ++ ws).toArray := by simp
  by_cases hw : ws = []
  · exact concat_meets ⟨_, ho, rfl⟩ ⟨_, ho2, rfl⟩ noFill_tuple_add seq_tuple_add PySem.F.slot_tuple_add PySem.F.entry_tuple_add (PySem.F.args_tuple_add_2 _ _)
      (tuple_addW1 t b vs.toArray ws.toArray n n2 dd dd2 sl sl2 (by simpa using hv) (by simp [hw])) ⟨ho, ho2, h1 hw⟩
  · refine concat_meets ⟨_, ho, rfl⟩ ⟨_, ho2, rfl⟩ noFill_tuple_add seq_tuple_add PySem.F.slot_tuple_add PySem.F.entry_tuple_add (PySem.F.args_tuple_add_2 _ _)
      (tuple_addW2 t b vs.toArray ws.toArray n n2 dd dd2 sl sl2 (by simpa using hv) (by simpa using hw) (by rw [List.size_toArray, List.size_toArray]; exact hsz)) ⟨ho, ho2, ?_⟩
    rw [e]
    exact h2 hw
def sIx (n d : Nat) : Option Int → Nat
  | none => d
  | some v => if v < 0 then (v + (n : Int)).toNat else min v.toNat n
theorem sIx_le (n d : Nat) (hd : d ≤ n) (o : Option Int) : sIx n d o ≤ n := by
  cases o with
  | none => exact hd
  | some v =>
    show (if v < 0 then (v + (n : Int)).toNat else min v.toNat n) ≤ n
    by_cases hv : v < 0
    · rw [if_pos hv]; omega
    · rw [if_neg hv]; exact Nat.min_le_right _ _
theorem clip_eq (v : Int) (n d : Nat) : (if v < 0 then max (v + (n : Int)) 0 else min v (n : Int)) = ((sIx n d (some v) : Nat) : Int) := by
  show (if v < 0 then max (v + (n : Int)) 0 else min v (n : Int)) = (((if v < 0 then (v + (n : Int)).toNat else min v.toNat n) : Nat) : Int)
  by_cases hv : v < 0
  · simp only [if_pos hv]; omega
  · simp only [if_neg hv]; omega
theorem adjust_gen (lo hi : Option Int) (n : Nat) : Builtin.Slice.sliceAdjust lo hi 1 (n : Int) = (((sIx n 0 lo : Nat) : Int), ((sIx n n hi : Nat) : Int)) := by
  have h1 : ¬ ((1 : Int) < 0) := by omega
  unfold Builtin.Slice.sliceAdjust
  simp only [h1, if_false]
  refine Prod.ext ?_ ?_
  · cases lo with
    | none => rfl
    | some v => exact clip_eq v n 0
  · cases hi with
    | none => rfl
    | some v => exact clip_eq v n n
theorem places_gen (i j : Nat) : Builtin.Slice.slicePlaces (i : Int) (j : Int) 1 = j - i := by
  unfold Builtin.Slice.slicePlaces
  have h1 : (1 : Int) > 0 := by omega
  simp only [h1, if_true, Int.ediv_one]
  split <;> omega
theorem slicePart_ {v : Value} {o : Option Int} {Q : Option Int → Shared → Prop} (p : IsPart v o) (h : Q o s) : wpAny (model prog w) A (Builtin.Slice.slicePartIndex v) Q E s := by
  cases p with
  | none => exact slicePart_none h
  | int i t => exact slicePart_int h
theorem sliceApplied_gen {sl : Addr} {vl vu : Value} {lo hi : Option Int} {n : Nat} {Q : Int × Int × Nat → Shared → Prop} (hs : s.heap.IsSliceOf sl vl vu .none) (pl : IsPart vl lo) (pu : IsPart vu hi)
    (h : Q (((sIx n 0 lo : Nat) : Int), 1, sIx n n hi - sIx n 0 lo) s) : wpAny (model prog w) A (Builtin.Slice.sliceApplied (.ref sl) (pure (n : Int))) Q E s := by
  obtain ⟨os, hos, hcs, hds⟩ := id hs
  unfold Builtin.Slice.sliceApplied Builtin.Slice.sliceFields
  refine wpAny_bind (wpAny_bind (wpAny_field hos hds (x := vl) rfl (wpAny_bind (wpAny_field hos hds (x := vu) rfl (wpAny_bind (wpAny_field hos hds (x := .none) rfl (wpAny_pure ?_)))))))
  refine wpAny_bind (slicePart_none ?_)
  show wpAny _ _ (if ((1 : Int) == 0) = true then _ else _) _ _ s
  rw [if_neg (by decide)]
  refine wpAny_bind (slicePart_ pl (wpAny_bind (slicePart_ pu (wpAny_bind (wpAny_pure ?_)))))
  show wpAny _ _ (match Builtin.Slice.sliceAdjust lo hi 1 (n : Int) with | (lo, hi) => pure (lo, (1 : Int), Builtin.Slice.slicePlaces lo hi 1)) _ _ s
  rw [adjust_gen lo hi n]
  show wpAny _ _ (pure (((sIx n 0 lo : Nat) : Int), (1 : Int), Builtin.Slice.slicePlaces ((sIx n 0 lo : Nat) : Int) ((sIx n n hi : Nat) : Int) 1)) _ _ s
  rw [places_gen]
  exact wpAny_pure h
theorem pick_gen (xs : Array Value) (i k : Nat) : ((List.range k).filterMap fun (m : Nat) => xs[((i : Int) + (m : Int) * 1).toNat]?).toArray = ((xs.toList.drop i).take k).toArray := by
  have e : (fun (m : Nat) => xs[((i : Int) + (m : Int) * 1).toNat]?) = fun m => xs[i + m]? := by
    funext m
    have : ((i : Int) + (m : Int) * 1).toNat = i + m := by omega
    rw [this]
  rw [e]
  have := pick_run xs i k
  rw [List.filterMap_map] at this
  have e2 : ((fun x => xs[x]?) ∘ fun x => i + x) = fun m => xs[i + m]? := rfl
  rw [e2] at this
  rw [this]
theorem getItem_tuple_cut {t sl : Addr} {items : Array Value} {vl vu : Value} {lo hi : Option Int} {Q : Value → Shared → Prop} (ht : IsTup s.heap t items) (hs : s.heap.IsSliceOf sl vl vu .none) (pl : IsPart vl lo) (pu : IsPart vu hi)
    (hw : ¬ (sIx items.size 0 lo = 0 ∧ sIx items.size items.size hi = items.size))
    (h : Q (.ref s.heap.objs.size) { s with heap := s.heap.push { cls := .type "tuple", data := .seq ((items.toList.drop (sIx items.size 0 lo)).take (sIx items.size items.size hi - sIx items.size 0 lo)).toArray } })
    (hsz : items.size ≤ sizeLine) : wpAny (model prog w) A (getItem (.ref t) (.ref sl)) Q E s := by
  have htake : sizeOk (.seq ((items.toList.drop (sIx items.size 0 lo)).take (sIx items.size items.size hi - sIx items.size 0 lo)).toArray) := by
    show ((items.toList.drop (sIx items.size 0 lo)).take (sIx items.size items.size hi - sIx items.size 0 lo)).toArray.size ≤ sizeLine
    rw [List.size_toArray, List.length_take, List.length_drop, Array.length_toList]
    omega
  have hj : sIx items.size items.size hi ≤ items.size := sIx_le _ _ (Nat.le_refl _) hi
  obtain ⟨os, hos, hcs, hds⟩ := id hs
  have hTs : s.TypeIs (.ref sl) "slice" := ⟨os, hos, hcs⟩
  unfold getItem
  try with_reducible refine wpAny_holding ?_
  first | refine wpAny_bind (wpAny_pure ?_) | skip
  refine wpAny_bind (wpAny_sequenceKey ht.typeIs (by decide) ?_)
  refine wpAny_bind (wpAny_callSpecial?_slot (name := Str.ofString "__getitem__") ht.typeIs PyProof.Rows.slot_tuple_getitem
    (wpAny_call_entry PyProof.Rows.slot_tuple_getitem ht.typeIs entry_tuple_getitem ?_ (args_tuple_getitem _ _)))
  show wpAny _ _ (Builtin.Tuple.tupleItemsOf (.ref t) >>= _) _ _ s
  refine wpAny_bind (tupleItemsOf_ ht ?_)
  refine wpAny_bind (wpAny_typeOf hTs ?_)
  rw [if_pos (by decide)]
  refine wpAny_bind (sliceApplied_gen hs pl pu ?_)
  have hno : ¬ ((((sIx items.size 0 lo : Nat) : Int) == 0 && (1 : Int) == 1 && (sIx items.size items.size hi - sIx items.size 0 lo) == items.size) = true) := by
    intro q
    rw [Bool.and_eq_true, Bool.and_eq_true] at q
    have q1 : ((sIx items.size 0 lo : Nat) : Int) = 0 := eq_of_beq q.1.1
    have q2 : sIx items.size items.size hi - sIx items.size 0 lo = items.size := eq_of_beq q.2
    exact hw ⟨by omega, by omega⟩
  show wpAny _ _ (if (((sIx items.size 0 lo : Nat) : Int) == 0 && (1 : Int) == 1 && (sIx items.size items.size hi - sIx items.size 0 lo) == items.size) = true then _ else _) _ _ s
  rw [if_neg hno, pick_gen]
  first
    | exact wpAny_bind (m := Builtin.Tuple.tupleExact _) (wpAny_newObj_type (wpAny_pure ⟨_, rfl, wpAny_pure h⟩) htake)
    | exact wpAny_bind (m := Builtin.Tuple.tupleExact _) (wpAny_newObj_type (wpAny_bind (wpAny_pure (wpAny_pure ⟨_, rfl, wpAny_pure h⟩))) htake)
    | exact wpAny_bind (wpAny_bind (m := Builtin.Tuple.tupleExact _) (wpAny_newObj_type (wpAny_pure (wpAny_pure ⟨_, rfl, wpAny_pure h⟩)) htake))
    | exact wpAny_bind (wpAny_bind (m := Builtin.Tuple.tupleExact _) (wpAny_newObj_type (wpAny_pure ⟨_, rfl, wpAny_pure h⟩) htake))
end
end HT
namespace L2
open PySem PySem.Spec PyProof.Rows
abbrev TO := St → Hp → (Option Int → Hp → Prop) → Prop
def PO (X : Cx) (e : Option Expr) (t : TO) : Prop :=
  ∀ (pins : List (Addr × Obj)) (s : Shared) (σ : St) (H : Hp) (Q : Option Int → Hp → Prop), Inv X pins σ H s → t σ H Q →
    wpAny (model X.prog X.w) X.A (evalPart e X.env) (fun u s' => ∃ o H', Inv X pins σ H' s' ∧ IsPart u o ∧ Q o H') X.xe s
def tNoPart : TO := fun _ H Q => Q none H
def tPart (t : TE) : TO := fun σ H Q => t σ H fun x H1 => ∃ i, x = .int i ∧ Q (some i) H1
theorem intsAre_of {ns : List Int} : ∀ {us : List Value}, Vals (ns.map V.int) us → IntsAre us ns := by
  induction ns with
  | nil => intro us r; rw [List.map_nil] at r; cases r; exact .nil
  | cons n ns ih =>
    intro us r
    rw [List.map_cons] at r
    cases r with
    | cons r1 r2 =>
      obtain ⟨t, e⟩ := r1
      subst e
      exact .cons n t (ih r2)
section
variable {X : Cx} {e : Expr} {te : TE} {lo hi : Option Expr} {tl th : TO} {pos p2 : Pos}
theorem po_none : PO X none tNoPart := by
  intro pins s σ H Q I h
  rw [evalPart_none]
  exact wpAny_pure ⟨none, H, I, .none, h⟩
theorem po_some (h : PE X e te) : PO X (some e) (tPart te) := by
  intro pins s σ H Q I hw
  rw [evalPart_some]
  refine thn (h pins s σ H _ I hw) fun u s1 ⟨x, H1, I1, r1, q1⟩ => ?_
  obtain ⟨i, rfl, q⟩ := q1
  obtain ⟨t, rfl⟩ := r1
  exact ⟨some i, H1, I1, .int i t, q⟩
def SlR (X : Cx) (r : V → Option Int → Option Int → Hp → VK → Prop) : Prop :=
  ∀ (pins : List (Addr × Obj)) (s : Shared) (σ : St) (H : Hp) (x : V) (v vl vu : Value) (lo hi : Option Int) (sl : Addr) (Q : VK), Inv X pins σ H s → RelV x v → s.heap.IsSliceOf sl vl vu .none → IsPart vl lo → IsPart vu hi → r x lo hi H Q →
    ∃ T id, typeLookup (.type T) "__getitem__" = pure (some (.builtin id)) ∧ s.TypeIs v T ∧ wpAny (model X.prog X.w) X.A (getItem v (.ref sl)) (EP X pins σ Q) X.xe s
theorem SlR.or {r r' : V → Option Int → Option Int → Hp → VK → Prop} (h : SlR X r) (h' : SlR X r') : SlR X (fun x lo hi H Q => r x lo hi H Q ∨ r' x lo hi H Q) := by
  intro pins s σ H x v vl vu lo hi sl Q I rx hs pl pu q
  rcases q with q | q
  · exact h pins s σ H x v vl vu lo hi sl Q I rx hs pl pu q
  · exact h' pins s σ H x v vl vu lo hi sl Q I rx hs pl pu q
def tSl (r : V → Option Int → Option Int → Hp → VK → Prop) (te : TE) (tl th : TO) : TE := fun σ H Q => te σ H fun x H1 => tl σ H1 fun l H2 => th σ H2 fun u H3 => r x l u H3 Q
theorem pe_slice {r : V → Option Int → Option Int → Hp → VK → Prop} (hr : SlR X r) (he : PE X e te) (hl : PO X lo tl) (hu : PO X hi th) : PE X (.Subscript e (.Slice lo hi none p2) pos) (tSl r te tl th) := by
  intro pins s σ H Q I h
  refine Subscript_ (thn (he pins s σ H _ I h) fun v s1 ⟨x, H1, I1, r1, q1⟩ => ?_)
  refine wpAny_Slice (thn (hl pins s1 σ H1 _ I1 q1) fun vl s2 ⟨l, H2, I2, pl, q2⟩ => thn (hu pins s2 σ H2 _ I2 q2) fun vu s3 ⟨u, H3, I3, pu, q3⟩ => ?_)
  rw [evalPart_none]
  refine wpAny_pure ?_
  have I4 : Inv X pins σ H3 { s3 with heap := s3.heap.push { cls := .type "slice", data := .fields #[vl, vu, .none] } } := I3.kept (t' := s3.toks) fun b ob q => Heap.get?_push_of_some _ q
  obtain ⟨T, id, hT, ht, hg⟩ := hr pins { s3 with heap := s3.heap.push { cls := .type "slice", data := .fields #[vl, vu, .none] } } σ H3 x v vl vu l u s3.heap.objs.size Q I4 r1 (Heap.IsSliceOf.new ..) pl pu q3
  show wpAny (model X.prog X.w) X.A (subscriptTail e (.Slice lo hi none p2) v (.ref s3.heap.objs.size)) (EP X pins σ Q) X.xe { s3 with heap := s3.heap.push { cls := .type "slice", data := .fields #[vl, vu, .none] } }
  exact tail_any (ops := [.ref s3.heap.objs.size, v]) ht hT hg (by with_unfolding_all rfl)
def cutV (xs : List V) (lo hi : Option Int) : List V := (xs.drop (HT.sIx xs.length 0 lo)).take (HT.sIx xs.length xs.length hi - HT.sIx xs.length 0 lo)
theorem cutV_length (xs : List V) (lo hi : Option Int) : (cutV xs lo hi).length ≤ xs.length := by
  unfold cutV
  rw [List.length_take, List.length_drop]
  omega
def rSlT (K : PySem.W.Frag) : V → Option Int → Option Int → Hp → VK → Prop := fun x lo hi H Q => ∃ a xs, x = .ref a ∧ SqT K H a xs ∧
  ¬ (HT.sIx xs.length 0 lo = 0 ∧ HT.sIx xs.length xs.length hi = xs.length) ∧ ∀ p, H p = none → Q (.ref p) (upd H p (.tup (cutV xs lo hi)))
theorem sl_tup : SlR X (rSlT X.K) := by
  intro pins s σ H x v vl vu lo hi sl Q I rx hs pl pu h
  obtain ⟨a, xs, rfl, hx, hw, q⟩ := h
  cases rx
  obtain ⟨its, r, ht, hz⟩ := I.tuple hx
  have hlen : its.toArray.size = xs.length := by rw [List.size_toArray]; exact r.length.symm
  refine ⟨"tuple", _, PyProof.Rows.slot_tuple_getitem.lookup, ht.typeIs, ?_⟩
  refine HT.getItem_tuple_cut ht hs pl pu (by rw [hlen]; exact hw) ?_ (by rw [hlen]; exact hz)
  rw [hlen]
  refine ⟨.ref s.heap.objs.size, _, I.laid (t' := s.toks) (o := .tup (cutV xs lo hi)) (fun b ob q => Heap.get?_push_of_some _ q) (Nat.le_refl _) ?_, rfl, q _ (I.hok.fresh (Nat.le_refl _))⟩
  exact ⟨Nat.le_trans (cutV_length xs lo hi) hz, _, (r.drop (HT.sIx xs.length 0 lo)).take (HT.sIx xs.length xs.length hi - HT.sIx xs.length 0 lo), IsTup.new _ _⟩
def rLtT (K : PySem.W.Frag) : R2 := fun x y H Q => ∃ a b ns ms, x = .ref a ∧ y = .ref b ∧ SqT K H a (ns.map V.int) ∧ SqT K H b (ms.map V.int) ∧ Q (.bl (HT.lexLt ns ms)) H
theorem op_ltT (hu : X.A.units < cLine) : OpR X (compareOp .Lt) (rLtT X.K) := by
  intro pins s σ H x y v u Q I rx ry h
  obtain ⟨a, b, ns, ms, rfl, rfl, ha, hb, q⟩ := h
  cases rx
  cases ry
  obtain ⟨its, r1, p1, _⟩ := I.tuple ha
  obtain ⟨its2, r2, p2, _⟩ := I.tuple hb
  have i1 : IntsAre its.toArray.toList ns := intsAre_of r1
  have i2 : IntsAre its2.toArray.toList ms := intsAre_of r2
  exact HT.lt_tupInts p1 p2 i1 i2 hu ⟨.bl (HT.lexLt ns ms), H, I, rfl, q⟩
def rCatT (K : PySem.W.Frag) : R2 := fun x y H Q => ∃ a b xs ys, x = .ref a ∧ y = .ref b ∧ SqT K H a xs ∧ SqT K H b ys ∧ xs ≠ [] ∧ xs.length + ys.length ≤ sizeLine ∧
  (ys = [] → Q (.ref a) H) ∧ (ys ≠ [] → ∀ p, H p = none → Q (.ref p) (upd H p (.tup (xs ++ ys))))
theorem Vals.nil_iff {xs : List V} {us : List Value} (r : Vals xs us) : us = [] ↔ xs = [] := by
  cases r with
  | nil => simp
  | cons _ _ => simp
theorem op_catT : OpR X (binaryOp .Add) (rCatT X.K) := by
  intro pins s σ H x y v u Q I rx ry h
  obtain ⟨a, b, xs, ys, rfl, rfl, ha, hb, hx, hz, q1, q2⟩ := h
  cases rx
  cases ry
  obtain ⟨its, r1, p1, _⟩ := I.tuple ha
  obtain ⟨its2, r2, p2, _⟩ := I.tuple hb
  refine HT.cat_tup p1 p2 (fun z => hx (r1.nil_iff.mp z)) (fun z => ⟨.ref a, H, I, rfl, q1 (r2.nil_iff.mp z)⟩) (fun z => ?_) (by rw [← r1.length, ← r2.length]; exact hz)
  refine ⟨.ref s.heap.objs.size, _, I.laid (t' := s.toks) (o := .tup (xs ++ ys)) (fun b ob q => Heap.get?_push_of_some _ q) (Nat.le_refl _) ?_, rfl, q2 (fun w => z (r2.nil_iff.mpr w)) _ (I.hok.fresh (Nat.le_refl _))⟩
  exact ⟨by rw [List.length_append]; exact hz, _, r1.append r2, IsTup.new _ _⟩
end
end L2
namespace L2
open PySem PySem.Spec PyProof.Rows
def ixN (n : Nat) (i : Int) : Option Nat := if 0 ≤ i then (if i < n then some i.toNat else none) else if -(n : Int) ≤ i then some (i + n).toNat else none
def atI {α : Type} (xs : List α) (i : Int) : Option α := (ixN xs.length i).bind fun j => xs[j]?
theorem ixN_seq {n : Nat} {i : Int} {j : Nat} (h : ixN n i = some j) : seqIndex? i n = some j ∧ j < n ∧ -(n : Int) ≤ i ∧ i < n := by
  unfold ixN at h
  by_cases h0 : 0 ≤ i
  · rw [if_pos h0] at h
    by_cases h1 : i < n
    · rw [if_pos h1] at h
      have e : i.toNat = j := Option.some.inj h
      exact ⟨by rw [seqIndex_of h0 h1, e], by omega, by omega, h1⟩
    · rw [if_neg h1] at h; cases h
  · rw [if_neg h0] at h
    by_cases h1 : -(n : Int) ≤ i
    · rw [if_pos h1] at h
      have e : (i + n).toNat = j := Option.some.inj h
      exact ⟨by rw [seqIndex_neg (by omega) h1, e], by omega, h1, by omega⟩
    · rw [if_neg h1] at h; cases h
theorem atI_get {α : Type} {xs : List α} {i : Int} {v : α} (h : atI xs i = some v) : ∃ j, seqIndex? i xs.length = some j ∧ xs[j]? = some v ∧ j < xs.length ∧ -(xs.length : Int) ≤ i ∧ i < xs.length := by
  unfold atI at h
  cases e : ixN xs.length i with
  | none => rw [e] at h; cases h
  | some j =>
    rw [e] at h
    obtain ⟨h1, h2, h3, h4⟩ := ixN_seq e
    exact ⟨j, h1, h, h2, h3, h4⟩
def PlainIx (b : Expr) : Prop := ∀ o i, subscripted b false o i = operate [o, i] (getItem o i)
def IxR (X : Cx) (r : R2) : Prop :=
  ∀ (value slice : Expr) (pins : List (Addr × Obj)) (s : Shared) (σ : St) (H : Hp) (x y : V) (v u : Value) (Q : VK), Inv X pins σ H s → RelV x v → RelV y u → r x y H Q →
    subscripted slice false v u = operate [v, u] (getItem v u) → wpAny (model X.prog X.w) X.A (subscriptTail value slice v u) (EP X pins σ Q) X.xe s
def MtR (X : Cx) (id : String) (r : V → List V → Hp → VK → Prop) : Prop :=
  ∀ (pins : List (Addr × Obj)) (s : Shared) (σ : St) (H : Hp) (x : V) (xs : List V) (v : Value) (us : List Value) (Q : VK), Inv X pins σ H s → RelV x v → Vals xs us → r x xs H Q →
    wpAny (model X.prog X.w) X.A (call (.builtin id) (v :: us)) (EP X pins σ Q) X.xe s
section
variable {X : Cx} {a b : Expr} {ta tb : TE} {pos : Pos}
theorem IxR.or {r r' : R2} (h : IxR X r) (h' : IxR X r') : IxR X (fun x y H Q => r x y H Q ∨ r' x y H Q) := by
  intro value slice pins s σ H x y v u Q I rx ry q hs
  rcases q with q | q
  · exact h value slice pins s σ H x y v u Q I rx ry q hs
  · exact h' value slice pins s σ H x y v u Q I rx ry q hs
theorem MtR.or {id : String} {r r' : V → List V → Hp → VK → Prop} (h : MtR X id r) (h' : MtR X id r') : MtR X id (fun x xs H Q => r x xs H Q ∨ r' x xs H Q) := by
  intro pins s σ H x xs v us Q I rx rs q
  rcases q with q | q
  · exact h pins s σ H x xs v us Q I rx rs q
  · exact h' pins s σ H x xs v us Q I rx rs q
theorem pe_ix {r : R2} (hr : IxR X r) (ha : PE X a ta) (hb : PE X b tb) (hs : PlainIx b) : PE X (.Subscript a b pos) (tOp r ta tb) := by
  intro pins s σ H Q I h
  exact Subscript_ (binT ha hb I h fun v u s2 x y H2 I2 rx ry q => hr a b pins s2 σ H2 x y v u Q I2 rx ry q (hs _ _))
def rIxL (K : PySem.W.Frag) : R2 := fun x y H Q => ∃ p xs i v, x = .ref p ∧ y = .int i ∧ SqL K H p xs ∧ atI xs i = some v ∧ Q v H
def rIxT (K : PySem.W.Frag) : R2 := fun x y H Q => ∃ p xs i v, x = .ref p ∧ y = .int i ∧ SqT K H p xs ∧ atI xs i = some v ∧ Q v H
def rIxS : R2 := fun x y H Q => ∃ z i c, x = .str z ∧ y = .int i ∧ z.length ≤ sizeLine ∧ atI z.cps.toList i = some c ∧ Q (.str ⟨#[c]⟩) H
theorem ix_list : IxR X (rIxL X.K) := by
  intro value slice pins s σ H x y v u Q I rx ry h hs
  obtain ⟨p, xs, i, z, rfl, rfl, hq, he, q⟩ := h
  cases rx
  obtain ⟨t, rfl⟩ := ry
  obtain ⟨its, r, pl, hz⟩ := I.list hq
  obtain ⟨j, h1, h2, h3, h4, h5⟩ := atI_get he
  obtain ⟨w, ew, rw'⟩ := r.get h2
  have hl := r.length
  have hn := line63
  have fin : EP X pins σ Q w s := ⟨z, H, I, rw', q⟩
  by_cases h0 : 0 ≤ i
  · have hj : i.toNat = j := by
      rw [seqIndex_of h0 h5] at h1
      exact Option.some.inj h1
    exact item_listR pl.isList h0 (by omega) (by rw [hj]; simpa using ew) fin hs
  · have hj : (i + (its.toArray.size : Int)).toNat = j := by
      rw [seqIndex_neg (by omega) h4] at h1
      rw [List.size_toArray, ← hl]
      exact Option.some.inj h1
    exact subscriptTail_builtinR (x := w) pl.isList.typeIs slot_list_getitem.lookup
      (wpAny_getItem_list_neg (Q := fun r s' => r = w ∧ EP X pins σ Q r s') pl.isList (by omega) (by rw [List.size_toArray] <;> omega) (by omega) (by rw [hj]; simpa using ew) ⟨rfl, fin⟩) hs
theorem ix_tup : IxR X (rIxT X.K) := by
  intro value slice pins s σ H x y v u Q I rx ry h hs
  obtain ⟨p, xs, i, z, rfl, rfl, hq, he, q⟩ := h
  cases rx
  obtain ⟨t, rfl⟩ := ry
  obtain ⟨its, r, pl, hz⟩ := I.tuple hq
  obtain ⟨j, h1, h2, h3, h4, h5⟩ := atI_get he
  obtain ⟨w, ew, rw'⟩ := r.get h2
  have hl := r.length
  have hn := line63
  have fin : EP X pins σ Q w s := ⟨z, H, I, rw', q⟩
  exact subscriptTail_builtinR (x := w) pl.typeIs slot_tuple_getitem.lookup
    (getItem_tuple (j := j) (Q := fun r s' => r = w ∧ EP X pins σ Q r s') pl (by omega) (by omega) (by rw [List.size_toArray, ← hl]; exact h1) (by simpa using ew) ⟨rfl, fin⟩) hs
theorem ix_str : IxR X rIxS := by
  intro value slice pins s σ H x y v u Q I rx ry h hs
  obtain ⟨z, i, c, rfl, rfl, hz, he, q⟩ := h
  obtain ⟨t, rfl⟩ := rx
  obtain ⟨t', rfl⟩ := ry
  obtain ⟨j, h1, h2, h3, h4, h5⟩ := atI_get he
  have hl : z.cps.toList.length = z.length := by simp [Str.length]
  rw [hl] at h1 h4 h5
  have hn := line63
  exact tail_any (typeIs_str s z t) slot_str_getitem.lookup (getItem_str (c := c) (by
    have e1 : decide (i < -(2 ^ 63 : Int)) = false := decide_eq_false (by omega)
    have e2 : decide (i ≥ 2 ^ 63) = false := decide_eq_false (by omega)
    rw [e1, e2, Bool.or_false]) (by rw [h1]; simpa using h2) ⟨.str ⟨#[c]⟩, H, I.tok _, ⟨_, rfl⟩, q⟩) hs
def rIx (K : PySem.W.Frag) : R2 := fun x y H Q => rIxL K x y H Q ∨ rIxT K x y H Q ∨ rIxS x y H Q
theorem ix_seq : IxR X (rIx X.K) := ix_list.or (ix_tup.or ix_str)
theorem mapSeq_set (its : List Value) (n j : Nat) (u : Value) : Obj.mapSeq (·.setIfInBounds j u) { cls := .type "list", data := .seq its.toArray n } = { cls := .type "list", data := .seq (its.set j u).toArray n } := by
  simp [Obj.mapSeq]
theorem Inv.lst {pins : List (Addr × Obj)} {σ : St} {H : Hp} {s : Shared} {p : Addr} {xs : List V} (I : Inv X pins σ H s) (h : H p = some (.lst xs)) :
    ∃ (its : List Value) (n : Nat), Vals xs its ∧ s.heap.get? p = some { cls := .type "list", data := .seq its.toArray n } ∧ xs.length ≤ sizeLine := by
  obtain ⟨z, its, n, r, e⟩ := I.hok p _ h
  exact ⟨its, n, r, e, z⟩
theorem Inv.lstUpd {pins : List (Addr × Obj)} {σ : St} {H : Hp} {s : Shared} {p : Addr} {xs ys : List V} {its its' : List Value} {n n' : Nat} {f : Obj → Obj} (I : Inv X pins σ H s) (h : H p = some (.lst xs))
    (ho : s.heap.get? p = some { cls := .type "list", data := .seq its.toArray n }) (hf : f { cls := .type "list", data := .seq its.toArray n } = { cls := .type "list", data := .seq its'.toArray n' }) (r : Vals ys its') (hz : ys.length ≤ sizeLine) (t : Nat) :
    Inv X pins σ (upd H p (.lst ys)) { s with heap := s.heap.update p f, toks := t } := by
  have e : (s.heap.update p f).get? p = some { cls := .type "list", data := .seq its'.toArray n' } := by
    rw [Heap.get?_update_self f ho (by rw [hf] <;> rfl), hf]
  refine I.write (x := p) (e := p) (by rw [h]; trivial) (.inl rfl) (fun b u hb q => (Heap.get?_update_other _ _ (Ne.symm hb)).trans q) ⟨_, e⟩ ?_
  exact ⟨hz, its', n', r, e⟩
def rSetL : V → V → V → Hp → (Hp → Prop) → Prop := fun o i v H Q => ∃ p xs k j, o = .ref p ∧ i = .int k ∧ H p = some (.lst xs) ∧ ixN xs.length k = some j ∧ Q (upd H p (.lst (xs.set j v)))
theorem set_list : PSet X rSetL := by
  intro pins s σ H o i v ov iv u Q I ro ri rv h
  obtain ⟨p, xs, k, j, rfl, rfl, hp, hj, q⟩ := h
  cases ro
  obtain ⟨t, rfl⟩ := ri
  obtain ⟨its, n, r, ho, hz⟩ := I.lst hp
  obtain ⟨h1, h2, h3, h4⟩ := ixN_seq hj
  have hl := r.length
  have hn := line63
  have I' : Inv X pins σ (upd H p (.lst (xs.set j v))) { s with heap := s.heap.update p (Obj.mapSeq (·.setIfInBounds j u)) } :=
    I.lstUpd hp ho (mapSeq_set its n j u) (r.set rv j) (by rw [List.length_set]; exact hz) s.toks
  by_cases h0 : 0 ≤ k
  · have hk : k.toNat = j := by
      rw [seqIndex_of h0 h4] at h1
      exact Option.some.inj h1
    exact PySem.W.ki_setAt ho h0 (by omega) (by rw [List.size_toArray, ← hl]; exact h4) (by rw [hk]; exact ⟨_, I', q⟩)
  · have hk : (k + (its.toArray.size : Int)).toNat = j := by
      rw [seqIndex_neg (by omega) h3] at h1
      rw [List.size_toArray, ← hl]
      exact Option.some.inj h1
    exact PySem.W.ki_setBack ho (by omega) (by rw [List.size_toArray, ← hl]; exact h3) (by omega) (by rw [hk]; exact ⟨_, I', q⟩)
theorem slice_bounds (lo hi : Option Int) (n : Nat) : (sliceBounds lo hi none n).1 = ((HT.sIx n 0 lo : Nat) : Int) ∧ (sliceBounds lo hi none n).2.1 = ((HT.sIx n n hi : Nat) : Int) ∧ (sliceBounds lo hi none n).2.2 = 1 := by
  refine ⟨?_, ?_, rfl⟩
  · cases lo with
    | none => simp [sliceBounds, HT.sIx]
    | some i =>
      simp only [sliceBounds, HT.sIx, Option.getD_none, show (1 : Int) > 0 by decide, if_true]
      by_cases h : i < 0
      · simp only [h, if_true] <;> omega
      · simp only [h, if_false] <;> omega
  · cases hi with
    | none => simp [sliceBounds, HT.sIx]
    | some i =>
      simp only [sliceBounds, HT.sIx, Option.getD_none, show (1 : Int) > 0 by decide, if_true]
      by_cases h : i < 0
      · simp only [h, if_true] <;> omega
      · simp only [h, if_false] <;> omega
theorem slicePick_cut (its : List Value) (lo hi : Option Int) : slicePick its.toArray lo hi none = ((its.drop (HT.sIx its.length 0 lo)).take (HT.sIx its.length its.length hi - HT.sIx its.length 0 lo)).toArray := by
  obtain ⟨h1, h2, h3⟩ := slice_bounds lo hi its.toArray.size
  unfold slicePick
  rw [h1, h2, h3]
  simp only [sliceRange_one, pick_run, List.size_toArray] <;> rfl
def rSlL (K : PySem.W.Frag) : V → Option Int → Option Int → Hp → VK → Prop := fun x lo hi H Q => ∃ a xs, x = .ref a ∧ SqL K H a xs ∧ ∀ p, H p = none → Q (.ref p) (upd H p (.lst (cutV xs lo hi)))
theorem sl_list : SlR X (rSlL X.K) := by
  intro pins s σ H x v vl vu lo hi sl Q I rx hs pl pu h
  obtain ⟨a, xs, rfl, hx, q⟩ := h
  cases rx
  obtain ⟨its, r, ht, hz⟩ := I.list hx
  have hlen := r.length
  refine ⟨"list", _, slot_list_getitem.lookup, ht.isList.typeIs, ?_⟩
  refine wpAny_getItem_list_slice ht.isList hs pl pu .none (by simp) ?_ (by rw [List.size_toArray] <;> omega)
  rw [slicePick_cut, ← hlen]
  refine ⟨.ref s.heap.objs.size, _, I.laid (t' := s.toks) (o := .lst (cutV xs lo hi)) (fun b ob q => Heap.get?_push_of_some _ q) (Nat.le_refl _) ?_, rfl, q _ (I.hok.fresh (Nat.le_refl _))⟩
  exact ⟨Nat.le_trans (cutV_length xs lo hi) hz, _, 0, (r.drop (HT.sIx xs.length 0 lo)).take (HT.sIx xs.length xs.length hi - HT.sIx xs.length 0 lo), Heap.get?_push_size _ rfl⟩
def flatV : V → Bool
  | .non => true
  | .bl _ => true
  | .int _ => true
  | .str _ => true
  | _ => false
def eqV : V → V → Bool
  | .non, .non => true
  | .bl a, .bl b => a == b
  | .bl a, .int b => (if a then 1 else 0) == b
  | .int a, .bl b => a == (if b then 1 else 0)
  | .int a, .int b => a == b
  | .str a, .str b => a == b
  | _, _ => false
theorem eqAt_V {A : Around} {s : Shared} {y x : V} {u v : Value} (ry : RelV y u) (rx : RelV x v) (fy : flatV y = true) (fx : flatV x = true) : SeqAt.EqAt A s u v (eqV y x) := by
  cases y with
  | non =>
    cases ry
    cases x with
    | non => cases rx; exact SeqAt.EqAt.same _
    | bl b => cases rx; exact SeqAt.EqAt.none_bool b
    | int b => obtain ⟨t, rfl⟩ := rx; exact SeqAt.EqAt.none_int b t
    | str b => obtain ⟨t, rfl⟩ := rx; exact SeqAt.EqAt.none_str b t
    | _ => exact absurd (show false = true from fx) Bool.false_ne_true
  | bl a =>
    cases ry
    cases x with
    | non => cases rx; exact SeqAt.EqAt.bool_none a
    | bl b => cases rx; exact SeqAt.EqAt.bool_bool a b
    | int b => obtain ⟨t, rfl⟩ := rx; exact SeqAt.EqAt.bool_int a b t
    | str b => obtain ⟨t, rfl⟩ := rx; exact SeqAt.EqAt.bool_str a b t
    | _ => exact absurd (show false = true from fx) Bool.false_ne_true
  | int a =>
    obtain ⟨t', rfl⟩ := ry
    cases x with
    | non => cases rx; exact SeqAt.EqAt.int_none a t'
    | bl b => cases rx; exact SeqAt.EqAt.int_bool a t' b
    | int b => obtain ⟨t, rfl⟩ := rx; exact SeqAt.EqAt.int_int a t' b t
    | str b => obtain ⟨t, rfl⟩ := rx; exact SeqAt.EqAt.int_str a t' b t
    | _ => exact absurd (show false = true from fx) Bool.false_ne_true
  | str a =>
    obtain ⟨t', rfl⟩ := ry
    cases x with
    | non => cases rx; exact SeqAt.EqAt.str_none a t'
    | bl b => cases rx; exact SeqAt.EqAt.str_bool a t' b
    | int b => obtain ⟨t, rfl⟩ := rx; exact SeqAt.EqAt.str_int a t' b t
    | str b => obtain ⟨t, rfl⟩ := rx; exact SeqAt.EqAt.str_str a t' b t
    | _ => exact absurd (show false = true from fx) Bool.false_ne_true
  | _ => exact absurd (show false = true from fy) Bool.false_ne_true
def eqU (x : V) (u : Value) : Bool := match u with
  | .none => eqV .non x
  | .bool b => eqV (.bl b) x
  | .int i _ => eqV (.int i) x
  | .str z _ => eqV (.str z) x
  | _ => false
theorem eqU_of {x y : V} {u : Value} (r : RelV y u) (f : flatV y = true) : eqU x u = eqV y x := by
  cases y with
  | non => cases r; rfl
  | bl b => cases r; rfl
  | int i => obtain ⟨t, rfl⟩ := r; rfl
  | str z => obtain ⟨t, rfl⟩ := r; rfl
  | _ => exact absurd (show false = true from f) Bool.false_ne_true
theorem any_eqU {x : V} : ∀ {xs : List V} {us : List Value}, Vals xs us → xs.all flatV = true → us.any (eqU x) = xs.any fun y => eqV y x
  | _, _, .nil, _ => rfl
  | y :: xs, u :: us, .cons r t, f => by
    rw [List.all_cons, Bool.and_eq_true] at f
    rw [List.any_cons, List.any_cons, eqU_of r f.1, any_eqU t f.2]
theorem mem_eqAt {A : Around} {s : Shared} {x : V} {v : Value} (rx : RelV x v) (fx : flatV x = true) : ∀ {xs : List V} {us : List Value}, Vals xs us → xs.all flatV = true → ∀ u ∈ us, SeqAt.EqAt A s u v (eqU x u)
  | _, _, .nil, _ => fun u hu => by cases hu
  | y :: xs, u :: us, .cons r t, f => fun u' hu => by
    rw [List.all_cons, Bool.and_eq_true] at f
    rcases List.mem_cons.mp hu with rfl | hu
    · rw [eqU_of r f.1]; exact eqAt_V r rx f.1 fx
    · exact mem_eqAt rx fx t f.2 u' hu
def inV (x : V) (xs : List V) : Bool := xs.any fun y => eqV y x
def rIn (K : PySem.W.Frag) (neg : Bool) : R2 := fun x y H Q => ∃ p xs, y = .ref p ∧ (SqL K H p xs ∨ SqT K H p xs) ∧ flatV x = true ∧ xs.all flatV = true ∧ Q (.bl (if neg then !inV x xs else inV x xs)) H
theorem op_in_seq : OpR X (compareOp .In) (rIn X.K false) := by
  intro pins s σ H x y v u Q I rx ry h
  obtain ⟨p, xs, rfl, hq, fx, fs, q⟩ := h
  cases ry
  rcases hq with hq | hq
  · obtain ⟨its, r, pl, hz⟩ := I.list hq
    refine SeqAt.in_listAt (eqU x) pl.isList (fun w hw => mem_eqAt rx fx r fs w (by simpa using hw)) ⟨.bl _, H, I, rfl, ?_⟩
    rw [show its.toArray.any (eqU x) = its.any (eqU x) by simp, any_eqU r fs]
    exact q
  · obtain ⟨its, r, pl, hz⟩ := I.tuple hq
    refine SeqAt.in_tupleAt (eqU x) pl (fun w hw => mem_eqAt rx fx r fs w (by simpa using hw)) ⟨.bl _, H, I, rfl, ?_⟩
    rw [show its.toArray.any (eqU x) = its.any (eqU x) by simp, any_eqU r fs]
    exact q
theorem call_len_seq : CallR X (.builtin "len") (fun xs H Q => ∃ p ys, xs = [.ref p] ∧ (SqL X.K H p ys ∨ SqT X.K H p ys) ∧ Q (.int ys.length) H) := by
  intro pins s σ H xs us Q I r h
  obtain ⟨p, ys, rfl, hq, q⟩ := h
  obtain ⟨u, rfl, rx⟩ := vals1 r
  cases rx
  have hn := line63
  rcases hq with hq | hq
  · obtain ⟨its, r', pl, hz⟩ := I.list hq
    have hlen := r'.length
    exact Calls.call_len_list pl.isList (by simp only [List.size_toArray] <;> omega) ⟨.int ys.length, H, I.tok _, ⟨s.toks + 1, by rw [List.size_toArray, hlen]⟩, q⟩
  · obtain ⟨its, r', pl, hz⟩ := I.tuple hq
    have hlen := r'.length
    exact len_tuple pl (by simp only [List.size_toArray] <;> omega) ⟨.int ys.length, H, I.tok _, ⟨s.toks + 1, by rw [List.size_toArray, hlen]⟩, q⟩
theorem CallR.or {f : Value} {r r' : List V → Hp → VK → Prop} (h : CallR X f r) (h' : CallR X f r') : CallR X f (fun xs H Q => r xs H Q ∨ r' xs H Q) := by
  intro pins s σ H xs us Q I rs q
  rcases q with q | q
  · exact h pins s σ H xs us Q I rs q
  · exact h' pins s σ H xs us Q I rs q
def tyV (K : PySem.W.Frag) (T : String) (x : V) (H : Hp) : Prop := match x with
  | .str _ => T = "str"
  | .int _ => T = "int"
  | .ref p => (T = "list" ∧ ∃ xs, SqL K H p xs) ∨ (T = "tuple" ∧ ∃ o, K.lookup p = some o ∧ o.cls = .type "tuple" ∧ o.dict = none) ∨
      (T = "dict" ∧ ((∃ kvs, H p = some (.dK kvs)) ∨ ∃ kvs, H p = some (.dT kvs))) ∨ (T = "set" ∧ ∃ S n, H p = some (.set S n))
  | _ => False
theorem tyV_is {pins : List (Addr × Obj)} {σ : St} {H : Hp} {s : Shared} {T : String} {x : V} {v : Value} (I : Inv X pins σ H s) (r : RelV x v) (ty : tyV X.K T x H) :
    s.TypeIs v T ∧ ∀ a, v = .ref a → ∃ ob, s.heap.get? a = some ob ∧ ob.dict = none := by
  cases x with
  | str z =>
    obtain ⟨t, rfl⟩ := r
    cases (show T = "str" from ty)
    exact ⟨typeIs_str s z t, fun _ e => nomatch e⟩
  | int i =>
    obtain ⟨t, rfl⟩ := r
    cases (show T = "int" from ty)
    exact ⟨typeIs_int s i t, fun _ e => nomatch e⟩
  | ref p =>
    cases r
    rcases ty with ⟨rfl, xs, hq⟩ | ⟨rfl, o, hk, hc, hd⟩ | ⟨rfl, hk⟩ | ⟨rfl, S, n, hk⟩
    · obtain ⟨its, _, pl, _⟩ := I.list hq
      refine ⟨pl.isList.typeIs, fun a e => ?_⟩
      cases e
      obtain ⟨o, n, e, c, hd, _⟩ := pl
      exact ⟨o, e, hd⟩
    · refine ⟨⟨o, I.kIn p o hk, hc⟩, fun a e => ?_⟩
      cases e
      exact ⟨o, I.kIn _ o hk, hd⟩
    · have z : ∃ o, s.heap.get? p = some o ∧ o.ExactDict := by
        rcases hk with ⟨kvs, hk⟩ | ⟨kvs, hk⟩
        · obtain ⟨_, _, _, _, o, _, _, e, ex, _⟩ := I.hok p _ hk
          exact ⟨o, e, ex⟩
        · obtain ⟨_, _, _, _, o, _, _, e, ex, _⟩ := I.hok p _ hk
          exact ⟨o, e, ex⟩
      obtain ⟨o, e, ex⟩ := z
      refine ⟨⟨o, e, ex.1⟩, fun a e2 => ?_⟩
      cases e2
      exact ⟨o, e, ex.2.1⟩
    · obtain ⟨o, _, _, _, e, ex, _⟩ := I.hok p _ hk
      refine ⟨⟨o, e, ex.1⟩, fun a e2 => ?_⟩
      cases e2
      exact ⟨o, e, ex.2.1⟩
  | _ => exact False.elim ty
def tBM0 (K : PySem.W.Frag) (T : String) (r : V → List V → Hp → VK → Prop) (to : TE) : TE := fun σ H Q => to σ H fun x H1 => tyV K T x H1 ∧ r x [] H1 Q
def tBM (K : PySem.W.Frag) (T : String) (r : V → List V → Hp → VK → Prop) (to : TE) (t : TA) : TE := fun σ H Q => to σ H fun x H1 => tyV K T x H1 ∧ t σ H1 fun xs H2 => r x xs H2 Q
variable {o e : Expr} {es : List Expr} {to : TE} {t : TA} {name : Str} {apos cpos : Pos} {T id : String} {r : V → List V → Hp → VK → Prop}
theorem pe_bm0 (pa : PlainAttrs T) (slot : Slot T name id) (hty : typeOf (.builtin id) = pure (.type "method_descriptor")) (hm : MtR X id r) (ho : PE X o to)
    (hbase : attributeBase o name X.env (eval o X.env) = eval o X.env := by rfl) (hline : (apos.endLine == cpos.line) = true := by rfl) : PE X (.Call (.Attribute o name apos) [] [] cpos) (tBM0 X.K T r to) := by
  intro pins s σ H Q I h
  refine wpAny_Call_method0_late hbase hline (thn (ho pins s σ H _ I h) fun v s1 ⟨x, H1, I1, r1, ty, q1⟩ => ?_)
  obtain ⟨h1, h2⟩ := tyV_is I1 r1 ty
  exact ⟨T, id, pa, slot, hty, h1, h2, Calls.callWith_builtin rfl (PySem.evalArgs_none (hm pins s1 σ H1 x [] v [] Q I1 r1 .nil q1))⟩
theorem pe_bm (pa : PlainAttrs T) (slot : Slot T name id) (hty : typeOf (.builtin id) = pure (.type "method_descriptor")) (hm : MtR X id r) (ho : PE X o to) (ha : PA X (e :: es) t)
    (hbase : attributeBase o name X.env (eval o X.env) = eval o X.env := by rfl)
    (hfew : ((backTo cpos (starEach (e :: es) X.env)).all (fun x => !x.1) && (backToKw cpos (keywordEach [] X.env)).all (fun x => x.1.isSome)
      && decide ((e :: es).length + ([] : List Keyword).length + (if ([] : List Keyword).isEmpty then 0 else 1) < 30)) = true := by rfl)
    (hline : (apos.endLine == cpos.line) = true := by rfl) (hs : starEach (e :: es) X.env = (false, eval e X.env) :: starEach es X.env := by rfl) (hplain : (backTo cpos (starEach es X.env)).any (·.1) = false := by rfl) :
    PE X (.Call (.Attribute o name apos) (e :: es) [] cpos) (tBM X.K T r to t) := by
  intro pins s σ H Q I h
  refine wpAny_Call_method_late hbase hfew hline rfl (thn (ho pins s σ H _ I h) fun v s1 ⟨x, H1, I1, r1, ty, q1⟩ => ?_)
  obtain ⟨h1, h2⟩ := tyV_is I1 r1 ty
  refine ⟨T, id, pa, slot, hty, h1, h2, ?_⟩
  have hA := ha cpos pins s1 σ H1 _ I1 q1
  rw [hs] at hA ⊢
  refine Calls.callWith_builtin (by show (false || (backTo cpos (starEach es X.env)).any (·.1)) = false; rw [hplain] <;> rfl) (Calls.evalArgs_plain ?_)
  exact thn hA fun us s2 ⟨vs, H2, I2, r2, q2⟩ => hm pins s2 σ H2 x vs v us Q I2 r1 r2 q2
end
end L2
namespace L2
open PySem PySem.Spec PyProof.Rows
def MtM (X : Cx) (id : String) (r : V → List V → Hp → VK → Prop) : Prop :=
  ∀ (pins : List (Addr × Obj)) (s : Shared) (σ : St) (H : Hp) (x : V) (xs : List V) (v : Value) (us : List Value) (Q : VK), Inv X pins σ H s → RelV x v → Vals xs us → r x xs H Q →
    wpAny (model X.prog X.w) X.A (call (.builtin id) (v :: us)) (EP X pins σ Q) X.xe s
theorem Vals.one : ∀ {x : V} {us : List Value}, Vals [x] us → ∃ u, us = [u] ∧ RelV x u
  | _, _, .cons r .nil => ⟨_, rfl, r⟩
theorem Vals.two : ∀ {x y : V} {us : List Value}, Vals [x, y] us → ∃ u v, us = [u, v] ∧ RelV x u ∧ RelV y v
  | _, _, _, .cons r (.cons q .nil) => ⟨_, _, rfl, r, q⟩
theorem Vals.zero : ∀ {us : List Value}, Vals [] us → us = []
  | _, .nil => rfl
theorem Vals.dropLast {xs : List V} {us : List Value} (h : Vals xs us) : Vals xs.dropLast us.dropLast := by
  induction h with
  | nil => exact .nil
  | cons r t ih =>
    cases t with
    | nil => exact .nil
    | cons q t' => exact .cons r ih
theorem Vals.reverse {xs : List V} {us : List Value} (h : Vals xs us) : Vals xs.reverse us.reverse := by
  induction h with
  | nil => exact .nil
  | cons r t ih => rw [List.reverse_cons, List.reverse_cons]; exact Vals.append ih (.cons r .nil)
theorem Vals.rep {xs : List V} {us : List Value} (h : Vals xs us) : ∀ k : Nat, Vals (List.replicate k xs).flatten (List.replicate k us).flatten
  | 0 => .nil
  | k + 1 => by
    rw [List.replicate_succ, List.replicate_succ, List.flatten_cons, List.flatten_cons]
    exact Vals.append h (Vals.rep h k)
section
variable {X : Cx} {pins : List (Addr × Obj)} {σ : St} {H : Hp} {s : Shared} {l b : Addr} {xs ys zs : List V}
theorem Inv.lset {its its' : List Value} {n : Nat} {f : Array Value → Array Value} {t' : Nat} (I : Inv X pins σ H s) (hH : H l = some (.lst xs))
    (e : s.heap.get? l = some { cls := .type "list", data := .seq its.toArray n }) (hf : f its.toArray = its'.toArray) (hv : Vals ys its') (hz : ys.length ≤ sizeLine) :
    Inv X pins σ (upd H l (.lst ys)) { s with heap := s.heap.update l (Obj.mapSeq f), toks := t' } := by
  have q := PySem.IsL.update e f
  rw [hf] at q
  refine I.write (x := l) (e := l) (by rw [hH]; exact trivial) (.inl rfl) (fun b' u hb hu => (Heap.get?_update_other s.heap (Obj.mapSeq f) (Ne.symm hb)).trans hu) ⟨_, q⟩ ?_
  exact ⟨hz, its', _, hv, q⟩
theorem Inv.lnew {its : List Value} {t' : Nat} (I : Inv X pins σ H s) (hv : Vals ys its) (hz : ys.length ≤ sizeLine) :
    Inv X pins σ (upd H s.heap.objs.size (.lst ys)) { s with heap := s.heap.push { cls := .type "list", data := .seq its.toArray }, toks := t' } :=
  I.laid (fun _ _ q => Heap.get?_push_of_some _ q) (Nat.le_refl _) ⟨hz, its, 0, hv, Heap.get?_push_size _ rfl⟩
theorem Inv.fresh (I : Inv X pins σ H s) : H s.heap.objs.size = none := I.hok.fresh (Nat.le_refl _)
theorem Inv.lstM (I : Inv X pins σ H s) (hH : H l = some (.lst xs)) : xs.length ≤ sizeLine ∧ ∃ (its : List Value) (n : Nat), Vals xs its ∧ xs.length = its.length ∧ s.heap.get? l = some { cls := .type "list", data := .seq its.toArray n } := by
  obtain ⟨z, its, n, r, e⟩ := I.hok l _ hH
  exact ⟨z, its, n, r, r.length, e⟩
end
section
variable {X : Cx}
def rAppend : V → List V → Hp → VK → Prop := fun x vs H Q => ∃ l xs y, x = .ref l ∧ vs = [y] ∧ H l = some (.lst xs) ∧ xs.length < sizeLine ∧ Q .non (upd H l (.lst (xs ++ [y])))
theorem mt_append : MtM X "list.append" rAppend := by
  intro pins s σ H x vs v us Q I rx rv h
  obtain ⟨l, xs, y, rfl, rfl, hH, hz, q⟩ := h
  cases rx
  obtain ⟨u, rfl, ru⟩ := rv.one
  obtain ⟨z, its, n, r, hl, e⟩ := I.lstM hH
  refine call_meets F.slot_list_append ⟨_, e, rfl⟩ F.entry_list_append (F.args_list_append_2 _ _) (PySem.list_append l its.toArray n u (by rw [List.size_toArray]; omega)) ⟨e, ?_⟩
  refine ⟨.non, _, I.lset (its' := its ++ [u]) hH e (by simp) (r.append (.cons ru .nil)) ?_, rfl, q⟩
  rw [List.length_append, List.length_singleton]
  omega
end
section
variable {prog : Program} {w : World} {A : Around} {E : Value → Shared → Prop} {s : Shared}
end
section
variable {X : Cx}
end
end L2
namespace L2
open PySem PySem.Spec PyProof.Rows
theorem Vals.strs : ∀ {xs : List Str} {us : List Value}, Vals (xs.map V.str) us → StrsAre us xs
  | [], us, h => by
    rw [List.map_nil] at h
    cases h
    exact StrsAre.nil
  | x :: xs, us, h => by
    rw [List.map_cons] at h
    cases h with
    | cons r t =>
      obtain ⟨k, rfl⟩ := r
      exact StrsAre.cons x k (Vals.strs t)
theorem Vals.ref1 {a : Addr} {us : List Value} (r : Vals [V.ref a] us) : us = [Value.ref a] := by
  cases r with
  | cons r t =>
    cases t
    cases r
    rfl
section
variable {prog : Program} {w : World} {A : Around} {E : Value → Shared → Prop} {s : Shared} {l : Addr} {its : List Value} {ns : List Int} {Q : Value → Shared → Prop}
end
section
variable {X : Cx}
end
section
variable {X : Cx}
def rIndex (K : PySem.W.Frag) : V → List V → Hp → VK → Prop := fun x xs H Q => ∃ (a : Addr) (ys : List V) (y : V) (j : Nat) (z : V), x = V.ref a ∧ xs = [y] ∧ SqL K H a ys ∧ flatV y = true ∧ ys.all flatV = true ∧ ys[j]? = some z ∧ eqV z y = true ∧
  (∀ (m : Nat) (z' : V), m < j → ys[m]? = some z' → eqV z' y = false) ∧ Q (.int (j : Nat)) H
theorem flat_at {ys : List V} (f : ys.all flatV = true) {j : Nat} {z : V} (h : ys[j]? = some z) : flatV z = true := List.all_eq_true.mp f z (List.mem_of_getElem? h)
theorem mt_index : MtR X "list.index" (rIndex X.K) := by
  intro pins s σ H x xs v us Q I rx rxs h
  obtain ⟨a, ys, y, j, z, rfl, rfl, hs, fy, fys, hz, hzj, hno, q⟩ := h
  cases rx
  cases rxs with
  | cons ry rt =>
    rename_i uy ut
    cases rt
    obtain ⟨its, rv, ⟨⟨cls, dd, data, sl⟩, n, ho, hc, hdn, hd⟩, hlen⟩ := I.list hs
    simp only at hc hd
    subst hc hd
    obtain ⟨u, hu, ru⟩ := rv.get hz
    obtain ⟨hjl, hje⟩ := List.getElem?_eq_some_iff.mp hu
    have hvl := rv.length
    have hj : j < its.toArray.size := by simpa using hjl
    have hsl := sizeLine_eq
    refine call_meets PySem.F.slot_list_index ⟨_, ho, rfl⟩ PySem.F.entry_list_index (PySem.F.args_list_index_2 _ _)
      (SeqAt.list_indexAt a its.toArray n dd sl uy (eqU y) j hj (by omega) ?_ ?_) ⟨ho, fun u' hu' => mem_eqAt ry fy rv fys u' (by simpa using hu'), ?_⟩
    · have e1 : its.toArray[j] = u := by simpa using hje
      rw [e1, eqU_of ru (flat_at fys hz)]
      exact hzj
    · intro m hm hmj
      have hml : m < its.length := by simpa using hm
      have hmy : m < ys.length := by omega
      have hy' : ys[m]? = some ys[m] := List.getElem?_eq_getElem hmy
      obtain ⟨u2, hu2, ru2⟩ := rv.get hy'
      obtain ⟨_, hme⟩ := List.getElem?_eq_some_iff.mp hu2
      have e1 : its.toArray[m] = u2 := by simpa using hme
      rw [e1, eqU_of ru2 (flat_at fys hy')]
      exact hno m _ hmj hy'
    · exact ⟨.int (j : Nat), H, I.tok _, ⟨_, rfl⟩, q⟩
end
section
variable {X : Cx}
end
section
variable {X : Cx}
end
mutual
inductive Dp (K : PySem.W.Frag) (H : Hp) : V → PyData → Prop
  | non : Dp K H .non .none
  | bl (b : Bool) : Dp K H (.bl b) (.bool b)
  | int (i : Int) : Dp K H (.int i) (.int i)
  | str (x : Str) : Dp K H (.str x) (.str x)
  | lst {a : Addr} {xs : List V} {ds : List PyData} : SqL K H a xs → DpAll K H xs ds → Dp K H (.ref a) (.list ds)
  | tup {a : Addr} {xs : List V} {ds : List PyData} : SqT K H a xs → DpAll K H xs ds → Dp K H (.ref a) (.tuple ds)
inductive DpAll (K : PySem.W.Frag) (H : Hp) : List V → List PyData → Prop
  | nil : DpAll K H [] []
  | cons {v : V} {vs : List V} {d : PyData} {ds : List PyData} : Dp K H v d → DpAll K H vs ds → DpAll K H (v :: vs) (d :: ds)
end
section
variable {X : Cx} {pins : List (Addr × Obj)} {σ : St} {H : Hp} {s : Shared}
mutual
theorem Dp.reads (I : Inv X pins σ H s) : ∀ (d : PyData) (v : V) (u : Value), Dp X.K H v d → RelV v u → ∃ as, Reads s.heap u d as
  | .none, _, _, h, r => by
    cases h
    cases r
    exact ⟨_, Reads.none⟩
  | .bool b, _, _, h, r => by
    cases h
    cases r
    exact ⟨_, Reads.bool b⟩
  | .int i, _, _, h, r => by
    cases h
    obtain ⟨t, rfl⟩ := r
    exact ⟨_, Reads.int i t⟩
  | .str x, _, _, h, r => by
    cases h
    obtain ⟨t, rfl⟩ := r
    exact ⟨_, Reads.str x t⟩
  | .list ds, _, _, h, r => by
    cases h with
    | lst hs ha =>
      cases r
      obtain ⟨its, rv, ⟨o, n, ho, hc, _, hd⟩, _⟩ := I.list hs
      obtain ⟨as, hr⟩ := Dp.readsAll I ds _ its ha rv
      exact ⟨_, Reads.list ho hc hd hr⟩
  | .tuple ds, _, _, h, r => by
    cases h with
    | tup hs ha =>
      cases r
      obtain ⟨its, rv, ⟨o, ho, hc, n, hd⟩, _⟩ := I.tuple hs
      obtain ⟨as, hr⟩ := Dp.readsAll I ds _ its ha rv
      exact ⟨_, Reads.tuple ho hc hd hr⟩
  | .dict _, _, _, h, _ => by cases h
theorem Dp.readsAll (I : Inv X pins σ H s) : ∀ (ds : List PyData) (vs : List V) (us : List Value), DpAll X.K H vs ds → Vals vs us → ∃ as, ReadsAll s.heap us ds as
  | [], _, _, h, r => by
    cases h
    cases r
    exact ⟨_, ReadsAll.nil⟩
  | d :: ds, _, _, h, r => by
    cases h with
    | cons h1 h2 =>
      cases r with
      | cons r1 r2 =>
        obtain ⟨as, q1⟩ := Dp.reads I d _ _ h1 r1
        obtain ⟨bs, q2⟩ := Dp.readsAll I ds _ _ h2 r2
        exact ⟨_, ReadsAll.cons q1 q2⟩
end
end
section
variable {X : Cx}
end
end L2
namespace L2
open PySem PySem.Spec PyProof.Rows
abbrev CellAt (h : Heap) (c : Addr) (v : Option Value) : Prop := h.IsCell c v
def relS (scope sc : Scope) : Scope :=
  { scope with names := scope.names.map fun (n, k) => if (k == .free && sc.kind == .function && sc.names.lookup n == some .cell) then (n, .cell) else (n, k) }
def cloFrom (cells : List (Str × Addr)) : List (Str × NameKind) → List (Str × Addr) → List (Str × Addr)
  | [], acc => acc
  | (n, k) :: r, acc => if k == .free then cloFrom cells r ((n, (cells.lookup n).getD 0) :: acc) else cloFrom cells r acc
theorem closure_loop (env : Env) (f : Str × NameKind → List (Str × Addr) → Sem (ForInStep (List (Str × Addr))))
    (hf : ∀ n k c, f (n, k) c = if k == .free then (do let a ← cellOf env n; pure (.yield ((n, a) :: c))) else pure (.yield c)) :
    ∀ (names : List (Str × NameKind)) (acc : List (Str × Addr)), (∀ y ∈ names, y.2 = .free → ∃ c, env.cells.lookup y.1 = some c) → forIn names acc f = pure (cloFrom env.cells names acc)
  | [], acc, _ => by rw [List.forIn_nil]; rfl
  | (n, k) :: r, acc, h => by
    rw [List.forIn_cons, hf]
    have ih := fun acc => closure_loop env f hf r acc fun y hy => h y (List.mem_cons_of_mem _ hy)
    unfold cloFrom
    by_cases hk : (k == NameKind.free) = true
    · rw [if_pos hk, if_pos hk]
      obtain ⟨c, hc⟩ := h (n, k) List.mem_cons_self (by simpa using hk)
      have e : cellOf env n = pure c := by unfold cellOf; rw [hc]
      rw [e]
      have e2 : (env.cells.lookup n).getD 0 = c := by rw [hc]; rfl
      rw [e2]
      exact ih _
    · rw [if_neg hk, if_neg hk]
      exact ih _
theorem closure_ok {scope : Scope} {env : Env} (h : ∀ y ∈ scope.names, y.2 = .free → ∃ c, env.cells.lookup y.1 = some c) : closureFor scope env = pure (cloFrom env.cells scope.names []) := by
  simp only [closureFor]
  rw [closure_loop env _ (fun n k c => rfl) scope.names [] h]
  rfl
theorem mem_lookup {α : Type} : ∀ {l : List (Str × α)} {n : Str} {c : α}, (n, c) ∈ l → ∃ c', l.lookup n = some c'
  | (k, v) :: r, n, c, h => by
    rw [List.lookup_cons]
    cases hb : n == k with
    | true => exact ⟨_, rfl⟩
    | false =>
      rcases List.mem_cons.mp h with e | h
      · cases e; simp at hb
      · exact mem_lookup h
theorem cloFrom_mem {cells : List (Str × Addr)} : ∀ {names : List (Str × NameKind)} {acc : List (Str × Addr)} {n : Str} {c : Addr}, (n, c) ∈ cloFrom cells names acc → (n, c) ∈ acc ∨ ((n, .free) ∈ names ∧ c = (cells.lookup n).getD 0)
  | [], _, _, _, h => .inl h
  | (m, k) :: r, acc, n, c, h => by
    unfold cloFrom at h
    split at h
    · rename_i hk
      have hk : k = .free := by simpa using hk
      rcases cloFrom_mem h with h | ⟨h1, h2⟩
      · rcases List.mem_cons.mp h with e | h
        · cases e; exact .inr ⟨hk ▸ List.mem_cons_self, rfl⟩
        · exact .inl h
      · exact .inr ⟨List.mem_cons_of_mem _ h1, h2⟩
    · rcases cloFrom_mem h with h | ⟨h1, h2⟩
      · exact .inl h
      · exact .inr ⟨List.mem_cons_of_mem _ h1, h2⟩
theorem cloFrom_acc {cells : List (Str × Addr)} : ∀ {names : List (Str × NameKind)} {acc : List (Str × Addr)} {p : Str × Addr}, p ∈ acc → p ∈ cloFrom cells names acc
  | [], _, _, h => h
  | (m, k) :: r, acc, p, h => by
    unfold cloFrom
    split
    · exact cloFrom_acc (List.mem_cons_of_mem _ h)
    · exact cloFrom_acc h
theorem cloFrom_has {cells : List (Str × Addr)} : ∀ {names : List (Str × NameKind)} {acc : List (Str × Addr)} {n : Str}, (n, .free) ∈ names → (n, (cells.lookup n).getD 0) ∈ cloFrom cells names acc
  | (m, k) :: r, acc, n, h => by
    unfold cloFrom
    rcases List.mem_cons.mp h with e | h
    · cases e
      exact cloFrom_acc List.mem_cons_self
    · split
      · exact cloFrom_has h
      · exact cloFrom_has h
theorem cells_mem : ∀ {names : List (Str × NameKind)} {h : Heap} {acc : List (Str × Addr)} {x : Str} {c : Addr}, (x, c) ∈ cellsFrom h.objs.size names acc →
    (x, c) ∈ acc ∨ ((x, .cell) ∈ names ∧ h.objs.size ≤ c ∧ CellAt (pushCells h names) c none)
  | [], _, _, _, _, h => .inl h
  | (n, k) :: r, h, acc, x, c, hm => by
    unfold cellsFrom at hm
    unfold pushCells
    split at hm
    · rename_i hk
      rw [if_pos hk]
      have hk : k = .cell := by simpa using hk
      rw [← Heap.size_push h { cls := .type "cell", data := .cell none }] at hm
      rcases cells_mem hm with hm | ⟨h1, h2, h3⟩
      · rcases List.mem_cons.mp hm with e | hm
        · cases e
          exact .inr ⟨hk ▸ List.mem_cons_self, Nat.le_refl _, _, pushCells_keeps r _ _ _ (Heap.get?_push_size _ rfl), rfl⟩
        · exact .inl hm
      · rw [Heap.size_push] at h2
        exact .inr ⟨List.mem_cons_of_mem _ h1, Nat.le_of_succ_le h2, h3⟩
    · rename_i hk
      rw [if_neg hk]
      rcases cells_mem hm with hm | ⟨h1, h2, h3⟩
      · exact .inl hm
      · exact .inr ⟨List.mem_cons_of_mem _ h1, h2, h3⟩
theorem cells_acc : ∀ {names : List (Str × NameKind)} {n : Nat} {acc : List (Str × Addr)} {p : Str × Addr}, p ∈ acc → p ∈ cellsFrom n names acc
  | [], _, _, _, h => h
  | (m, k) :: r, n, acc, p, h => by
    unfold cellsFrom
    split
    · exact cells_acc (List.mem_cons_of_mem _ h)
    · exact cells_acc h
theorem cells_has : ∀ {names : List (Str × NameKind)} {n : Nat} {acc : List (Str × Addr)} {x : Str}, (x, .cell) ∈ names → ∃ c, (x, c) ∈ cellsFrom n names acc
  | (m, k) :: r, n, acc, x, h => by
    unfold cellsFrom
    rcases List.mem_cons.mp h with e | h
    · cases e
      exact ⟨n, cells_acc List.mem_cons_self⟩
    · split
      · exact cells_has h
      · exact cells_has h
theorem cells_inj : ∀ {names : List (Str × NameKind)} {h : Heap} {acc : List (Str × Addr)} {x y : Str} {c : Addr}, (∀ p ∈ acc, p.2 < h.objs.size) → (∀ x y c, (x, c) ∈ acc → (y, c) ∈ acc → x = y) →
    (x, c) ∈ cellsFrom h.objs.size names acc → (y, c) ∈ cellsFrom h.objs.size names acc → x = y
  | [], _, _, _, _, _, _, hi, h1, h2 => hi _ _ _ h1 h2
  | (n, k) :: r, h, acc, x, y, c, hl, hi, h1, h2 => by
    unfold cellsFrom at h1 h2
    split at h1
    · rename_i hk
      rw [if_pos hk] at h2
      rw [← Heap.size_push h { cls := .type "cell", data := .cell none }] at h1 h2
      refine cells_inj (h := h.push _) (fun p hp => ?_) (fun x y c a b => ?_) h1 h2
      · rw [Heap.size_push]
        rcases List.mem_cons.mp hp with rfl | hp
        · exact Nat.lt_succ_self _
        · exact Nat.lt_succ_of_lt (hl p hp)
      · rcases List.mem_cons.mp a with e | a <;> rcases List.mem_cons.mp b with e' | b
        · cases e; cases e'; rfl
        · cases e; exact absurd (hl _ b) (Nat.lt_irrefl _)
        · cases e'; exact absurd (hl _ a) (Nat.lt_irrefl _)
        · exact hi _ _ _ a b
    · rename_i hk
      rw [if_neg hk] at h2
      exact cells_inj hl hi h1 h2
theorem newEnv_comp {M : Model} {A : Around} {E : Value → Shared → Prop} {s : Shared} {scope : Scope} {globals : Addr} {closure : List (Str × Addr)} {qual : Str} {func : Option Addr} {code : Value} {around : Env} {builtins : Addr} {Q : Env → Shared → Prop}
    (h : Q (newEnv scope s.heap.objs.size globals (cellsFrom (s.heap.objs.size + 1) scope.names closure) qual func code (some around) builtins)
      { s with heap := pushCells (s.heap.push { cls := .type "dict", data := .dict #[] }) scope.names }) :
    wpAny M A (newFunctionEnv scope globals closure [] qual func code (some around) builtins) Q E s := by
  simp only [newFunctionEnv, Option.isSome_some, if_true]
  refine wpAny_bind (wpAny_alloc ?_)
  refine wpAny_bind (wpAny_layCells _ (fun n k c => rfl) scope.names closure _ _ ?_)
  rw [show ({ s with heap := s.heap.push { cls := .type "dict", data := .dict #[] } } : Shared).heap.objs.size = s.heap.objs.size + 1 from Heap.size_push ..]
  rw [List.forIn_nil]
  exact wpAny_bind (wpAny_pure (wpAny_pure h))
theorem lookup_relS {sc : Scope} : ∀ {names : List (Str × NameKind)} {x : Str} {k : NameKind},
    (names.map fun (n, k) => if (k == NameKind.free && sc.kind == .function && sc.names.lookup n == some .cell) then (n, NameKind.cell) else (n, k)).lookup x = some k →
    ∃ k', names.lookup x = some k' ∧ (k = k' ∨ (k' = .free ∧ k = .cell))
  | [], _, _, h => by simp at h
  | (n, k₀) :: r, x, k, h => by
    have ih := @lookup_relS sc r x k
    have h' : List.lookup x ((if (k₀ == NameKind.free && sc.kind == .function && sc.names.lookup n == some .cell) = true then (n, NameKind.cell) else (n, k₀)) :: (r.map _)) = some k := h
    cases hx : x == n with
    | true =>
      simp only [List.lookup_cons, hx]
      by_cases hc : (k₀ == NameKind.free && sc.kind == .function && sc.names.lookup n == some .cell) = true
      · rw [if_pos hc] at h'
        simp only [List.lookup_cons, hx] at h'
        cases h'
        simp only [Bool.and_eq_true, beq_iff_eq] at hc
        exact ⟨k₀, rfl, .inr ⟨hc.1.1, rfl⟩⟩
      · rw [if_neg hc] at h'
        simp only [List.lookup_cons, hx] at h'
        cases h'
        exact ⟨_, rfl, .inl rfl⟩
    | false =>
      simp only [List.lookup_cons, hx]
      by_cases hc : (k₀ == NameKind.free && sc.kind == .function && sc.names.lookup n == some .cell) = true
      · rw [if_pos hc] at h'
        simp only [List.lookup_cons, hx] at h'
        exact ih h'
      · rw [if_neg hc] at h'
        simp only [List.lookup_cons, hx] at h'
        exact ih h'
structure BlkOk (N : List Str) (sc scope : Scope) (own : List (Str × Nat)) : Prop where
  kind : scope.kind = .function
  uniq : ∀ y ∈ scope.names, scope.names.lookup y.1 = some y.2
  ix : ∀ p ∈ own, N[p.2]? = some p.1
  free : ∀ y ∈ scope.names, y.2 = .free → sc.names.lookup y.1 = some .cell ∨ sc.names.lookup y.1 = some .free
  own : ∀ y ∈ scope.names, y.2 = .local ∨ y.2 = .cell → y.1 ∈ own.map (·.1) ∨ y.1 ∉ N
def wipe (σ : St) : List Nat → St
  | [] => σ
  | v :: vs => (wipe σ vs).set v none
theorem wipe_length (σ : St) : ∀ vs : List Nat, (wipe σ vs).length = σ.length
  | [] => rfl
  | v :: vs => by unfold wipe; rw [List.length_set, wipe_length σ vs]
theorem wipe_some {σ : St} {i : Nat} {x : V} : ∀ {vs : List Nat}, (wipe σ vs)[i]? = some (some x) → σ[i]? = some (some x) ∧ i ∉ vs
  | [], h => ⟨h, by simp⟩
  | v :: vs, h => by
    unfold wipe at h
    by_cases hi : v = i
    · subst hi
      by_cases hv : v < (wipe σ vs).length
      · rw [List.getElem?_set_self hv] at h; cases h
      · rw [List.getElem?_eq_none (by simpa using hv)] at h; cases h
    · rw [List.getElem?_set_ne hi] at h
      obtain ⟨h1, h2⟩ := wipe_some h
      exact ⟨h1, by simp only [List.mem_cons, not_or]; exact ⟨fun e => hi e.symm, h2⟩⟩
abbrev Cx.blk (X : Cx) (s : Shared) (H : Hp) (scope : Scope) (cenv : Env) (fp : List Addr) : Cx := { X with s_0 := s, H_0 := H, env := cenv, outer := X.stack, ex := fp, fn := fun x => scope.names.lookup x == some .cell, pn := [], xe := fun _ _ => False, gx := [] }
section
variable {X : Cx} {pins : List (Addr × Obj)} {σ : St} {H : Hp} {s : Shared}
theorem block_start {scope : Scope} {own : List (Str × Nat)} {fp : List Addr} (I : Inv X pins σ H s) (ok : BlkOk X.N X.env.scope scope own) (hN : X.N.Nodup) (hfp : ∀ b ∈ fp, FpOk X pins H b ∧ b < s.heap.objs.size) :
    Inv (X.blk s H scope (compEnvC scope (cellsFrom (s.heap.objs.size + 1) scope.names (cloFrom X.env.cells scope.names [])) s.heap.objs.size X.env) fp) [] (wipe σ (own.map (·.2))) H { s with heap := pushCells (s.heap.push { cls := .type "dict", data := .dict #[] }) scope.names } := by
  have hfree : ∀ y ∈ scope.names, y.2 = .free → ∃ c, X.env.cells.lookup y.1 = some c := fun y hy e => by
    rcases ok.free y hy e with k | k
    · exact I.ok.has _ (.inl k)
    · exact I.ok.has _ (.inr k)
  generalize hcenv : compEnvC scope (cellsFrom (s.heap.objs.size + 1) scope.names (cloFrom X.env.cells scope.names [])) s.heap.objs.size X.env = cenv
  have kp : ∀ b o, s.heap.get? b = some o → (pushCells (s.heap.push { cls := .type "dict", data := .dict #[] }) scope.names).get? b = some o := fun b o e => pushCells_keeps _ _ _ _ (Heap.get?_push_of_some _ e)
  have hL : cenv.locals = s.heap.objs.size := by rw [← hcenv]; rfl
  have hcl : cenv.cells = cellsFrom (s.heap.objs.size + 1) scope.names (cloFrom X.env.cells scope.names []) := by rw [← hcenv]; rfl
  have hsc : cenv.scope = relS scope X.env.scope := by rw [← hcenv]; rfl
  rw [← Heap.size_push s.heap { cls := .type "dict", data := .dict #[] }] at hcl
  have cm : ∀ {y c}, (y, c) ∈ cloFrom X.env.cells scope.names [] → X.env.cells.lookup y = some c ∧ c < s.heap.objs.size := fun {y c} hm => by
    rcases cloFrom_mem hm with hm | ⟨h1, rfl⟩
    · cases hm
    · obtain ⟨c, hc⟩ := hfree _ h1 rfl
      rw [hc]
      obtain ⟨w, z⟩ := I.cell _ _ hc
      exact ⟨rfl, z.lt⟩
  have mem : ∀ {y c}, cenv.cells.lookup y = some c → (X.env.cells.lookup y = some c ∧ c < s.heap.objs.size) ∨ (s.heap.objs.size + 1 ≤ c ∧ CellAt (pushCells (s.heap.push { cls := .type "dict", data := .dict #[] }) scope.names) c none) := fun {y c} e => by
    rw [hcl] at e
    rcases cells_mem (PySem.mem_of_lookup e) with hm | ⟨_, h2, h3⟩
    · exact .inl (cm hm)
    · rw [Heap.size_push] at h2; exact .inr ⟨h2, h3⟩
  have look : ∀ {y}, scope.names.lookup y = some .free → ∃ c, cenv.cells.lookup y = some c ∧ X.env.cells.lookup y = some c := fun {y} hl => by
    have hy : (y, NameKind.free) ∈ scope.names := PySem.mem_of_lookup hl
    obtain ⟨c', e'⟩ := mem_lookup (cells_acc (names := scope.names) (n := (s.heap.push { cls := .type "dict", data := .dict #[] }).objs.size) (cloFrom_has (cells := X.env.cells) (acc := []) hy))
    rw [← hcl] at e'
    refine ⟨c', e', ?_⟩
    rw [hcl] at e'
    rcases cells_mem (PySem.mem_of_lookup e') with hm | ⟨h1, _, _⟩
    · exact (cm hm).1
    · have := ok.uniq _ h1
      rw [hl] at this; cases this
  have okB : (X.blk s H scope cenv fp).Ok := by
    refine ⟨I.ok.mod, by show cenv.scope.kind = _; rw [hsc]; exact ok.kind, by show cenv.globals = _; rw [← hcenv]; exact I.ok.glob, by show cenv.builtins = _; rw [← hcenv]; exact I.ok.blt, by show s.heap.get? cenv.locals = none; rw [hL]; exact Heap.get?_none_of_le (Nat.le_refl _),
      fun y z c e1 e2 => ?_, fun y hy => ?_, fun y c z e => ?_, I.ok.hd, I.ok.frames, .inl rfl, fun b hb => ⟨?_, fun y c e z => ?_⟩, I.bs, (by show X.base.objs.size ≤ cenv.locals; rw [hL]; exact Nat.le_trans I.ok.bsz (Nat.le_of_lt I.lt)), fun b o e hb => ?_, fun b hb z => ?_, I.stack, I.stkFree, fun p hp => (I.base.tbls p.1 p.2 (I.ok.tab p hp)).1⟩
    · have e1 : cenv.cells.lookup y = some c := e1
      have e2 : cenv.cells.lookup z = some c := e2
      rw [hcl] at e1 e2
      refine cells_inj (fun p hp => ?_) (fun y z c a b => I.ok.inj y z c (cm a).1 (cm b).1) (PySem.mem_of_lookup e1) (PySem.mem_of_lookup e2)
      rw [Heap.size_push]
      exact Nat.lt_succ_of_lt (cm (y := p.1) (c := p.2) hp).2
    · show ∃ c, cenv.cells.lookup y = some c
      have key : ∀ k, cenv.kindOf y = some k → (k = .cell ∨ k = .free) → ∃ c, cenv.cells.lookup y = some c := fun k hk hk' => by
        unfold Env.kindOf at hk
        rw [hsc] at hk
        obtain ⟨k', e, r⟩ := lookup_relS hk
        have : k' = .cell ∨ k' = .free := by
          rcases r with rfl | ⟨rfl, _⟩
          · exact hk'
          · exact .inr rfl
        rcases this with rfl | rfl
        · obtain ⟨c, hm⟩ := cells_has (n := (s.heap.push { cls := .type "dict", data := .dict #[] }).objs.size) (acc := cloFrom X.env.cells scope.names []) (PySem.mem_of_lookup e)
          obtain ⟨c', e'⟩ := mem_lookup hm
          exact ⟨c', by rw [hcl]; exact e'⟩
        · obtain ⟨c, h1, _⟩ := look e
          exact ⟨c, h1⟩
      rcases hy with hy | hy
      · exact key _ hy (.inl rfl)
      · exact key _ hy (.inr rfl)
    · have z : (scope.names.lookup y == some NameKind.cell) = true := z
      have z : scope.names.lookup y = some .cell := by simpa using z
      have e : cenv.cells.lookup y = some c := e
      rw [hcl] at e
      rcases cells_mem (PySem.mem_of_lookup e) with hm | ⟨_, h2, _⟩
      · rcases cloFrom_mem hm with hm | ⟨h1, _⟩
        · cases hm
        · have q := ok.uniq _ h1
          rw [z] at q; cases q
      · rw [Heap.size_push] at h2
        exact Nat.le_of_succ_le h2
    · show b ≠ cenv.locals
      rw [hL]; exact Nat.ne_of_lt (hfp b hb).2
    · have e : cenv.cells.lookup y = some c := e
      rcases mem e with ⟨h1, _⟩ | ⟨h1, _⟩
      · exact (hfp b hb).1.2.2.2.2.1 y c h1 z
      · have h2 : s.heap.objs.size + 1 ≤ b := by rw [← z]; exact h1
        exact absurd (Nat.lt_of_lt_of_le (hfp b hb).2 (Nat.le_of_succ_le h2)) (Nat.lt_irrefl _)
    · rcases (hfp b hb).1.2.2.2.1 with z | z
      · exact I.ok.noex b o e z
      · rw [(I.ok.bs b o e).1] at z; cases z
    · rcases List.mem_cons.mp (I.stkSub b z) with z | z
      · exact (hfp b hb).1.2.1 z
      · exact (hfp b hb).1.2.2.1 z
  refine ⟨okB, rfl, ⟨I.bare.1, fun _ _ _ e => e, I.bare.2.2⟩, Un.kept kp, ⟨fun _ => none, ?_, fun i y av e1 e2 e3 => ?_⟩, fun y c e => ?_, ?_, fun y c e => ?_, fun p hp => ?_, I.hok.kept kp, by rw [wipe_length]; exact I.len⟩
  · show Heap.Ns _ cenv.locals _
    rw [hL]
    exact Heap.Ns.keeps (Heap.Ns.new ..) fun b o e => pushCells_keeps _ _ _ _ e
  · obtain ⟨e2, hne⟩ := wipe_some e2
    have hfr : scope.names.lookup y = some .free ∧ (cenv.kindOf y = some .cell ∨ cenv.kindOf y = some .free) := by
      have key : ∀ k, cenv.scope.names.lookup y = some k → k = .local ∨ k = .cell ∨ k = .free → scope.names.lookup y = some .free ∧ (cenv.kindOf y = some .cell ∨ cenv.kindOf y = some .free) := fun k hk hk' => by
        have hk0 := hk
        rw [hsc] at hk
        obtain ⟨k', e, r⟩ := lookup_relS hk
        have no : ¬ (k' = .local ∨ k' = .cell) := fun hh => by
          rcases ok.own _ (PySem.mem_of_lookup e) hh with e' | e'
          · obtain ⟨p, hp, hpy⟩ := List.mem_map.mp e'
            have e3 := ok.ix p hp
            have : p.1 = y := hpy
            rw [this] at e3
            exact hne (List.mem_map.mpr ⟨p, hp, nodup_ix hN e3 e1⟩)
          · exact e' (List.mem_of_getElem? e1)
        rcases r with rfl | ⟨rfl, rfl⟩
        · rcases hk' with rfl | rfl | rfl
          · exact absurd (.inl rfl) no
          · exact absurd (.inr rfl) no
          · exact ⟨e, .inr hk0⟩
        · exact ⟨e, .inl hk0⟩
      have e3 : Vis cenv.scope y := e3
      rcases e3 with e3 | e3 | e3
      · exact key _ e3 (.inl rfl)
      · exact key _ e3 (.inr (.inl rfl))
      · exact key _ e3 (.inr (.inr rfl))
    obtain ⟨m, hn, hl⟩ := I.loc
    have hvis : Vis X.env.scope y := (ok.free _ (PySem.mem_of_lookup hfr.1) rfl).elim (fun k => .inr (.inl k)) (fun k => .inr (.inr k))
    obtain ⟨w, r, q⟩ := hl i y av e1 e2 hvis
    refine ⟨w, r, .inr ⟨hfr.2, ?_⟩⟩
    obtain ⟨c, h1, h2⟩ := look hfr.1
    rcases q with ⟨k, _⟩ | ⟨_, c', e', z⟩
    · have k : X.env.scope.names.lookup y = some .local := k
      rcases ok.free _ (PySem.mem_of_lookup hfr.1) rfl with k' | k' <;> rw [show X.env.scope.names.lookup y = _ from k'] at k <;> cases k
    · rw [h2] at e'; cases e'
      exact ⟨c, h1, z.keeps kp⟩
  · have e : cenv.cells.lookup y = some c := e
    rcases mem e with ⟨h1, _⟩ | ⟨_, z⟩
    · obtain ⟨w, z⟩ := I.cell y c h1
      exact ⟨w, z.keeps kp⟩
    · exact ⟨_, z⟩
  · show H cenv.locals = none
    rw [hL]; exact I.hok.fresh (Nat.le_refl _)
  · have e : cenv.cells.lookup y = some c := e
    rcases mem e with ⟨h1, _⟩ | ⟨h1, _⟩
    · exact I.freeC y c h1
    · exact I.hok.fresh (Nat.le_of_succ_le h1)
  · exact absurd (show p ∈ ([] : List (Addr × Obj)) ++ [] from hp) (by simp)
theorem app_ok {E : Value → Shared → Prop} {D : Addr} {xs : List V} {y : V} {v : Value} {Q : Value → Shared → Prop} (I : Inv X pins σ H s) (hD : H D = some (.lst xs)) (hz : xs.length < sizeLine) (r : RelV y v)
    (h : ∀ s', Inv X pins σ (upd H D (.lst (xs ++ [y]))) s' → Q .none s') : wpAny (model X.prog X.w) X.A (call (.builtin "list.append") [.ref D, v]) Q E s := by
  obtain ⟨hz', its, n, ri, e⟩ := I.hok D _ hD
  have hl := ri.length
  refine append_at (hsz := by rw [List.size_toArray]; omega) e fun h' sb ho' => ?_
  refine h { s with heap := h' } (I.write (t' := s.toks) (by rw [hD]; trivial) (.inl rfl) (fun b u hb q => (sb.2 b hb).trans q) ⟨_, ho'⟩ ⟨by rw [List.length_append]; exact hz, its ++ [v], n + 1, ri.append (.cons r .nil), ?_⟩)
  rw [ho']
  simp
def PTs (X : Cx) (ifs : List Expr) (t : TT) : Prop :=
  ∀ (pins : List (Addr × Obj)) (s : Shared) (σ : St) (H : Hp) (Q : Bool → Hp → Prop), Inv X pins σ H s → t σ H Q →
    wpAny (model X.prog X.w) X.A (forIn ifs true fun c r => if r = true then do let ok ← isTrue c X.env (eval c X.env); pure (ForInStep.yield ok) else pure (ForInStep.yield r)) (TP X pins σ Q) X.xe s
def tYes : TT := fun _ H Q => Q true H
theorem pts_nil : PTs X [] tYes := fun _ _ _ H _ I h => wpAny_tests_nil ⟨H, I, h⟩
theorem pts_one {c : Expr} {t : TT} (h : PT X c t) : PTs X [c] t := fun pins s σ H Q I hw => wpAny_tests_one (h pins s σ H Q I hw)
end
theorem thnF {α : Type} {t : Sem α} {Q Q' : α → Shared → Prop} {M : Model} {A : Around} {E : Value → Shared → Prop} {s : Shared} (h : wpAny M A t Q (fun _ _ => False) s) (hQ : ∀ a s, Q a s → Q' a s) : wpAny M A t Q' E s := wpAny_mono h hQ fun _ _ z => False.elim z
theorem compLoop_any {prog : Program} {w : World} {A : Around} {R : Result → Shared → Prop} {s : Shared} {elt target iter : Expr} {ifs : List Expr} {scope : Scope} {pos : Pos} {it acc : Value} {env : Env} (I : Nat → Shared → Prop)
    (turn : ∀ n s, I n s → wpAny (model prog w) A (pyNext it) (fun r s₁ => match r with
      | none => R (.ok .next) s₁
      | some v => wpAny (model prog w) A (letOwnedTupleGo target it v) (fun _ s₁' => wpAny (model prog w) A (assign target env v) (fun _ s₂ =>
          wpAny (model prog w) A (forIn ifs true fun c r => if r = true then do let ok ← isTrue c env (eval c env); pure (ForInStep.yield ok) else pure (ForInStep.yield r)) (fun ok s₃ =>
            if ok = true then wpAny (model prog w) A (eval elt env) (fun x s₄ =>
              wpAny (model prog w) A (call (.builtin "list.append") [acc, x]) (fun _ s₅ => ∃ m, m < n ∧ I m s₅) (notedBy (model prog w) A env fun e s' => R (.error e) s') s₄) (notedBy (model prog w) A env fun e s' => R (.error e) s') s₃
            else ∃ m, m < n ∧ I m s₃) (notedBy (model prog w) A env fun e s' => R (.error e) s') s₂) (notedBy (model prog w) A env fun e s' => R (.error e) s') s₁') (notedBy (model prog w) A env fun e s' => R (.error e) s') s₁) (notedBy (model prog w) A env fun e s' => R (.error e) s') s)
    (n : Nat) (h : I n s) :
    codeAny (model prog w) A (.compLoop (.ListComp elt [⟨target, iter, ifs, 0⟩] scope pos) 0 it acc env) R s := by
  refine codeAny_loop rfl I (fun n s hI => ?_) n h
  show wpAny _ A ((compTurn (.ListComp elt [⟨target, iter, ifs, 0⟩] scope pos) 0 it acc env).onRaise (fun x => do noteFrame x env; theTreesLotGoes x)) _ _ s
  refine wpAny_noted ?_
  rw [compTurn_list]
  refine wpAny_bind (wpAny_standAt (wpAny_bind (wpAny_mono (turn n s hI) (fun r s₁ h₁ => ?_) fun _ _ h' => h')))
  cases r with
  | none => exact wpAny_pure h₁
  | some v =>
    refine wpAny_bind (wpAny_mono h₁ (fun _ s₁' h₁' => ?_) fun _ _ h' => h')
    refine wpAny_bind (wpAny_mono h₁' (fun _ s₂ h₂ => wpAny_bind (wpAny_mono h₂ (fun ok s₃ h₃ => ?_) fun _ _ h' => h')) fun _ _ h' => h')
    cases ok with
    | false => exact wpAny_pure ⟨rfl, h₃⟩
    | true =>
      exact wpAny_bind (wpAny_bind (wpAny_mono h₃ (fun x s₄ h₄ => wpAny_bind (wpAny_mono h₄ (fun _ s₅ h₅ => wpAny_pure (wpAny_pure ⟨rfl, h₅⟩)) fun _ _ h' => h')) fun _ _ h' => h'))
section
variable {X : Cx}
def tLc (wi : TI) (g : TG) (tt : TT) (te : TE) (vs : List Nat) : TE := fun σ H Q => wi σ H fun J H1 => ∀ D, H1 D = none → ∃ W : Nat → Nat → Hp → Prop, (∃ m, W 0 m (upd H1 D (.lst []))) ∧ ∀ i m H, W i m H →
  (J.stop i H ∧ Q (.ref D) H) ∨ (J.go i H ∧ ∃ Nx : Hp → Prop, (∀ H', Nx H' → ∃ m', m' < m ∧ W (i + 1) m' H') ∧ ∀ x H', J.yld i H x H' → g x (wipe σ vs) H' fun σ2 H2 => wipe σ2 vs = wipe σ vs ∧ tt σ2 H2 fun b H3 =>
    if b = true then te σ2 H3 fun y H4 => ∃ acc, H4 D = some (.lst acc) ∧ acc.length < sizeLine ∧ Nx (upd H4 D (.lst (acc ++ [y]))) else Nx H3)
theorem lc_core {pins : List (Addr × Obj)} {s : Shared} {σ : St} {H : Hp} {Q : VK} {elt tg iter : Expr} {ifs : List Expr} {scope : Scope} {own : List (Str × Nat)} {pos pos' : Pos} {wi : TI} {g : TG} {tt : TT} {te : TE} {use : Option (Value → Sem Unit)} {Qf : Value → Shared → Prop}
    (hc : X.calm = true) (hN : X.N.Nodup) (I : Inv X pins σ H s) (hi : PI X tg iter wi) (ok : BlkOk X.N X.env.scope scope own)
    (hg : ∀ (s : Shared) (H : Hp) (C : Addr) (cl : List (Str × Addr)) (fp : List Addr), PG (X.blk s H scope (compEnvC scope cl C X.env) fp) tg g) (ht : ∀ (s : Shared) (H : Hp) (C : Addr) (cl : List (Str × Addr)) (fp : List Addr), PTs (X.blk s H scope (compEnvC scope cl C X.env) fp) ifs tt)
    (he : ∀ (s : Shared) (H : Hp) (C : Addr) (cl : List (Str × Addr)) (fp : List Addr), PE (X.blk s H scope (compEnvC scope cl C X.env) fp) elt te) (hs : ∀ x, foldedSetIterable iter X.env x = pure x)
    (h : tLc wi g tt te (own.map (·.2)) σ H Q)
    (hRR : ∀ D C s' m H', Inv X pins σ H' s' → Q (.ref D) H' → s'.heap.Ns C m → FpOk X pins H' C → compPost (model X.prog X.w) X.A X.xe use Qf (.ref D) C (.ok .next) s') :
    wpAny (model X.prog X.w) X.A (comprehension (.ListComp elt [⟨tg, iter, ifs, 0⟩] scope pos) scope X.env pos' (newList []) false (eval iter X.env) use) Qf X.xe s := by
  have hfree : ∀ y ∈ scope.names, y.2 = .free → ∃ c, X.env.cells.lookup y.1 = some c := fun y hy e => by
    rcases ok.free y hy e with k | k
    · exact I.ok.has _ (.inl k)
    · exact I.ok.has _ (.inr k)
  refine wpAny_comprehension_free (use := use) rfl hs (closure_ok hfree) ok.kind (fun y hy e => by rw [ok.uniq y hy, e])
    (thn (hi pins s σ H _ I h) fun xv s1 hx => thn hx fun itv s2 h2 => ?_)
  obtain ⟨it, fp, tn, J, H2, e, I2, T, st2, f2, q⟩ := h2
  subst e
  refine wpAny_newObj_type (newEnv_comp ?_) (by show 0 ≤ sizeLine; decide)
  generalize hD : s2.heap.objs.size = D
  have hDn : H2 D = none := I2.hok.fresh (Nat.le_of_eq hD)
  obtain ⟨W, ⟨m0, w0⟩, turn⟩ := q D hDn
  generalize hs3 : ({ s2 with heap := s2.heap.push { cls := .type "list", data := .seq ([] : List Value).toArray } } : Shared) = s3
  have I3 : Inv X pins σ (upd H2 D (.lst [])) s3 := by
    rw [← hs3]
    refine I2.laid (t' := s2.toks) (fun b o e => Heap.get?_push_of_some _ e) (Nat.le_of_eq hD) ⟨Nat.zero_le _, [], 0, .nil, ?_⟩
    rw [← hD]
    exact Heap.get?_push_size _ rfl
  have h3 : s3.heap = s2.heap.push { cls := .type "list", data := .seq ([] : List Value).toArray } := by rw [← hs3]
  have sz : ∀ b ∈ fp, b < s2.heap.objs.size := fun b hb => by
    obtain ⟨o, e, _⟩ := T.obj _ _ st2 b hb
    exact Heap.lt_size e
  have f3 : ∀ b ∈ fp, FpOk X pins (upd H2 D (.lst [])) b ∧ b < s3.heap.objs.size := fun b hb => by
    have hlt := sz b hb
    refine ⟨⟨?_, (f2 b hb).2⟩, by rw [h3, Heap.size_push]; exact Nat.lt_succ_of_lt hlt⟩
    rw [upd_ne (by rw [← hD]; exact Nat.ne_of_lt hlt)]
    exact (f2 b hb).1
  have st3 : tn 0 s3.heap := T.keep _ _ _ st2 fun b _ o e => by rw [h3]; exact Heap.get?_push_of_some _ e
  have I4 := block_start I3 ok hN f3
  have pg := hg s3 (upd H2 D (.lst [])) s3.heap.objs.size (cellsFrom (s3.heap.objs.size + 1) scope.names (cloFrom X.env.cells scope.names [])) fp
  have pt := ht s3 (upd H2 D (.lst [])) s3.heap.objs.size (cellsFrom (s3.heap.objs.size + 1) scope.names (cloFrom X.env.cells scope.names [])) fp
  have pe := he s3 (upd H2 D (.lst [])) s3.heap.objs.size (cellsFrom (s3.heap.objs.size + 1) scope.names (cloFrom X.env.cells scope.names [])) fp
  show codeAny _ _ (.compStart (.ListComp elt [⟨tg, iter, ifs, 0⟩] scope pos) 0 (.ref it) (.ref D) (compEnvC scope (cellsFrom (s3.heap.objs.size + 1) scope.names (cloFrom X.env.cells scope.names [])) s3.heap.objs.size X.env)) (compPost (model X.prog X.w) X.A X.xe use Qf (.ref D) s3.heap.objs.size) { s3 with heap := pushCells (s3.heap.push { cls := .type "dict", data := .dict #[] }) scope.names }
  have nfp : ∀ b ∈ fp, (upd H2 D (.lst [])) b = none := fun b hb => (f3 b hb).1.1
  generalize hce : compEnvC scope (cellsFrom (s3.heap.objs.size + 1) scope.names (cloFrom X.env.cells scope.names [])) s3.heap.objs.size X.env = ce at I4 pg pt pe ⊢
  have cL : ce.locals = s3.heap.objs.size := by subst hce; rfl
  generalize hH3 : upd H2 D (.lst []) = H3 at I3 I4 pg pt pe w0 nfp f3
  generalize hs4 : ({ s3 with heap := pushCells (s3.heap.push { cls := .type "dict", data := .dict #[] }) scope.names } : Shared) = s4 at I4 ⊢
  have st4 : tn 0 s4.heap := T.keep _ _ _ st3 fun b _ o e => by rw [← hs4]; exact pushCells_keeps _ _ _ _ (Heap.get?_push_of_some _ e)
  have stat : ∀ {σ' : St} {H' : Hp} {s' : Shared}, Inv (X.blk s3 H3 scope ce fp) [] σ' H' s' → (∀ b ∈ fp, H' b = none) → ∀ b ∈ fp, FpOk (X.blk s3 H3 scope ce fp) [] H' b := fun {σ' H' s'} I' hn b hb =>
    ⟨hn b hb, (I'.ok.exf b hb).1, I'.ok.exfs b hb, .inl hb, fun x c e => (I'.ok.exf b hb).2 x c e, fun p hp => absurd (show p ∈ ([] : List (Addr × Obj)) ++ [] from hp) (by simp)⟩
  have loop : codeAny (model X.prog X.w) X.A (.compLoop (.ListComp elt [⟨tg, iter, ifs, 0⟩] scope pos) 0 (.ref it) (.ref D) ce) (compPost (model X.prog X.w) X.A X.xe use Qf (.ref D) s3.heap.objs.size) s4 := by
    refine compLoop_any (fun n s' => ∃ i H', Inv (X.blk s3 H3 scope ce fp) [] (wipe σ (own.map (·.2))) H' s' ∧ tn i s'.heap ∧ (∀ b ∈ fp, H' b = none) ∧ W i n H') ?_ m0 ⟨0, H3, I4, st4, nfp, w0⟩
    rintro n s5 ⟨i, H5, I5, st5, n5, w5⟩
    rcases turn i n H5 w5 with ⟨stop, qq⟩ | ⟨go, Nx, hNx, step⟩
    · have td := T.done (X.blk s3 H3 scope ce fp) rfl rfl rfl hc i [] s5 _ H5 (fun _ _ => False) I5 (stat I5 n5) st5 stop
      refine thnF td fun r s6 ⟨hr, I6⟩ => ?_
      subst hr
      have I7 : Inv X pins σ H5 s6 := I3.call' (ch := fp) I6.os I6.base I6.hok ⟨I6.bare.1, fun k st e => I6.bare.2.1 k st (show k ∉ ([] : List Nat) by simp) e⟩ fun b hb => ⟨(f3 b hb).1.2.2.2.1, (f3 b hb).1.2.1, (f3 b hb).1.2.2.2.2.1, (f3 b hb).1.2.2.2.2.2⟩
      have nC : H5 s3.heap.objs.size = none := by
        have z : H5 ce.locals = none := I6.free
        rw [cL] at z
        exact z
      obtain ⟨m, hn, _⟩ := I6.loc
      have hn : s6.heap.Ns ce.locals m := hn
      rw [cL] at hn
      exact hRR D s3.heap.objs.size s6 m H5 I7 qq hn (I3.fpOk (Nat.le_refl _) nC)
    · have ti := T.item (X.blk s3 H3 scope ce fp) rfl rfl rfl hc i [] s5 _ H5 (fun _ _ => False) I5 (stat I5 n5) st5 go
      refine thnF ti fun r s6 ⟨u, hr, h6⟩ => ?_
      subst hr
      refine thnF h6 fun _ s7 ⟨x, H7, I7, r7, y7, st7, n7⟩ => ?_
      have I7' := I7.pinned (stat I7 n7) (T.obj _ _ st7)
      refine thnF (pg _ s7 _ H7 x u _ I7' r7 (step x H7 y7)) fun _ s8 ⟨σ8, H8, I8, hw8, q8⟩ => ?_
      refine thnF (pt _ s8 σ8 H8 _ I8 q8) fun b s9 ⟨H9, I9, q9⟩ => ?_
      have fin : ∀ {s' : Shared} {H' : Hp}, Inv (X.blk s3 H3 scope ce fp) ([] ++ pinsAt fp s7.heap) σ8 H' s' → Nx H' → ∃ m, m < n ∧ ∃ i H', Inv (X.blk s3 H3 scope ce fp) [] (wipe σ (own.map (·.2))) H' s' ∧ tn i s'.heap ∧ (∀ b ∈ fp, H' b = none) ∧ W i m H' := fun {s' H'} I' nx => by
        obtain ⟨m', hm, w'⟩ := hNx H' nx
        have pin' : ∀ b ∈ fp, ∀ o, s7.heap.get? b = some o → s'.heap.get? b = some o ∧ H' b = none := fun b hb o e =>
          let z := I'.pin (b, o) (List.mem_append_right _ (List.mem_append_right _ (mem_pinsAt hb e)))
          ⟨z.1, z.2.1⟩
        have hl : (wipe σ (own.map (·.2))).length = σ8.length := by rw [← hw8, wipe_length]
        refine ⟨m', hm, i + 1, H', (I'.unpinned (pins := [])).weak hl (fun j v e => ?_), T.keep _ _ _ st7 fun b hb o e => (pin' b hb o e).1, fun b hb => ?_, w'⟩
        · rw [← hw8] at e
          exact (wipe_some e).1
        · obtain ⟨o, e, _⟩ := T.obj _ _ st7 b hb
          exact (pin' b hb o e).2
      cases b with
      | false =>
        simp only [Bool.false_eq_true, if_false] at q9 ⊢
        exact fin I9 q9
      | true =>
        simp only [if_true] at q9 ⊢
        refine thnF (pe _ s9 σ8 H9 _ I9 q9) fun z s10 ⟨yv, H10, I10, r10, acc, hD10, hz10, nx⟩ => ?_
        exact app_ok (X := X.blk s3 H3 scope ce fp) I10 hD10 hz10 r10 fun s11 I11 => fin I11 nx
  exact codeAny_compStart_list loop (T.self X.A 0 _ _ _ st4 loop)
theorem pe_lc {elt tg iter : Expr} {ifs : List Expr} {scope : Scope} {own : List (Str × Nat)} {pos : Pos} {wi : TI} {g : TG} {tt : TT} {te : TE} (hc : X.calm = true) (hN : X.N.Nodup) (hi : PI X tg iter wi) (ok : BlkOk X.N X.env.scope scope own)
    (hg : ∀ (s : Shared) (H : Hp) (C : Addr) (cl : List (Str × Addr)) (fp : List Addr), PG (X.blk s H scope (compEnvC scope cl C X.env) fp) tg g) (ht : ∀ (s : Shared) (H : Hp) (C : Addr) (cl : List (Str × Addr)) (fp : List Addr), PTs (X.blk s H scope (compEnvC scope cl C X.env) fp) ifs tt)
    (he : ∀ (s : Shared) (H : Hp) (C : Addr) (cl : List (Str × Addr)) (fp : List Addr), PE (X.blk s H scope (compEnvC scope cl C X.env) fp) elt te) (hs : ∀ x, foldedSetIterable iter X.env x = pure x := by intro _; rfl) :
    PE X (.ListComp elt [⟨tg, iter, ifs, 0⟩] scope pos) (tLc wi g tt te (own.map (·.2))) := by
  intro pins s σ H Q I h
  rw [eval_ListComp]
  refine lc_core hc hN I hi ok hg ht he hs h fun D C s' m H' I' q hn f => ⟨m, hn, fun h'' sb => ?_⟩
  obtain ⟨f0, f1, f2, f3, f4, f5⟩ := f
  exact ⟨.ref D, H', I'.turned (t' := s'.toks) (fun b o hb e => (sb.2 b hb).trans e) f0 f1 f3 f4 f5, rfl, q⟩
theorem ps_setLc {i : Nat} {y : Str} {py : Pos} {elt tg iter : Expr} {ifs : List Expr} {scope : Scope} {own : List (Str × Nat)} {pos spos : Pos} {wi : TI} {g : TG} {tt : TT} {te : TE} (hc : X.calm = true) (hN : X.N.Nodup) (hy : X.N[i]? = some y) (hyl : X.env.scope.names.lookup y = some .local)
    (hsw : swapsWith (.ListComp elt [⟨tg, iter, ifs, 0⟩] scope pos) (some (.Name y py)) spos.line X.env = pure true) (hi : PI X tg iter wi) (ok : BlkOk X.N X.env.scope scope own)
    (hg : ∀ (s : Shared) (H : Hp) (C : Addr) (cl : List (Str × Addr)) (fp : List Addr), PG (X.blk s H scope (compEnvC scope cl C X.env) fp) tg g) (ht : ∀ (s : Shared) (H : Hp) (C : Addr) (cl : List (Str × Addr)) (fp : List Addr), PTs (X.blk s H scope (compEnvC scope cl C X.env) fp) ifs tt)
    (he : ∀ (s : Shared) (H : Hp) (C : Addr) (cl : List (Str × Addr)) (fp : List Addr), PE (X.blk s H scope (compEnvC scope cl C X.env) fp) elt te) (hs : ∀ x, foldedSetIterable iter X.env x = pure x := by intro _; rfl) :
    PS X (.Assign [.Name y py] (.ListComp elt [⟨tg, iter, ifs, 0⟩] scope pos) spos) (tAsg (tLc wi g tt te (own.map (·.2))) (gName i)) := by
  intro pins s σ H D I h
  rw [exec_Assign_Name_used _ _ _ _ hsw]
  refine wpAny_bind (wpAny_standAt (wpAny_bind ?_))
  show wpAny _ X.A (do let _ ← comprehension (.ListComp elt [⟨tg, iter, ifs, 0⟩] scope pos) scope X.env (firstIterPos [⟨tg, iter, ifs, 0⟩] pos) (newList []) false (eval iter X.env) (some (assign (.Name y py) X.env))) _ _ s
  have h : tLc wi g tt te (own.map (·.2)) σ H (fun x H1 => gName i x σ H1 D.nx) := h
  refine wpAny_bind (thn (lc_core (Qf := fun _ s' => SP X pins D .next s') hc hN I hi ok hg ht he hs h fun L C s' m H' I' q hn f => ?_) fun _ s' hq => wpAny_pure (wpAny_pure hq))
  show wpAny _ _ (assign (.Name y py) X.env (.ref L)) _ _ _
  refine wpAny_assign_Name (store_ok2 (v := V.ref L) I' hN hy (.inl hyl) rfl (fun s2 I2 ⟨a, sb, ha⟩ => ?_) (.inr hyl))
  obtain ⟨f0, f1, f2, f3, f4, f5⟩ := f
  have haC : C ≠ a := by
    rcases ha with z | z
    · rw [z]; exact f1
    · exact fun e => f4 y a z e.symm
  refine ⟨m, hn.sameBut sb haC, fun h3 sb3 => ?_⟩
  exact ⟨_, H', I2.turned (t' := s2.toks) (fun b o hb e => (sb3.2 b hb).trans e) f0 f1 f3 f4 f5, q⟩
end
theorem lc_list {K : PySem.W.Frag} {a : Addr} {xs : List V} {g : TG} {tt : TT} {te : TE} {vs : List Nat} {σ : St} {H1 : Hp} {D : Addr} {Qd : Hp → Prop} (Pv : Nat → Hp → Prop) (h0 : Pv 0 (upd H1 D (.lst []))) (hl : ∀ i H, i ≤ xs.length → Pv i H → SqL K H a xs)
    (hs : ∀ i x H, xs[i]? = some x → Pv i H → g x (wipe σ vs) H fun σ2 H2 => wipe σ2 vs = wipe σ vs ∧ tt σ2 H2 fun b H3 =>
      if b = true then te σ2 H3 fun y H4 => ∃ acc, H4 D = some (.lst acc) ∧ acc.length < sizeLine ∧ Pv (i + 1) (upd H4 D (.lst (acc ++ [y]))) else Pv (i + 1) H3) (hd : ∀ H, Pv xs.length H → Qd H) :
    ∃ W : Nat → Nat → Hp → Prop, (∃ m, W 0 m (upd H1 D (.lst []))) ∧ ∀ i m H, W i m H →
      ((Itl K a).stop i H ∧ Qd H) ∨ ((Itl K a).go i H ∧ ∃ Nx : Hp → Prop, (∀ H', Nx H' → ∃ m', m' < m ∧ W (i + 1) m' H') ∧ ∀ x H', (Itl K a).yld i H x H' → g x (wipe σ vs) H' fun σ2 H2 => wipe σ2 vs = wipe σ vs ∧ tt σ2 H2 fun b H3 =>
        if b = true then te σ2 H3 fun y H4 => ∃ acc, H4 D = some (.lst acc) ∧ acc.length < sizeLine ∧ Nx (upd H4 D (.lst (acc ++ [y]))) else Nx H3) := by
  refine ⟨fun i m H => m = xs.length - i ∧ i ≤ xs.length ∧ Pv i H, ⟨xs.length, by simp, Nat.zero_le _, h0⟩, ?_⟩
  rintro i m H ⟨rfl, hi, p⟩
  have q := hl i H hi p
  by_cases hlt : i < xs.length
  · refine .inr ⟨⟨xs, xs[i], q, by simp [hlt]⟩, Pv (i + 1), fun H' p' => ⟨xs.length - (i + 1), by omega, rfl, hlt, p'⟩, fun x H' y => ?_⟩
    obtain ⟨e, y⟩ := y
    subst e
    exact hs i x _ (y xs q) p
  · have e : i = xs.length := by omega
    subst e
    exact .inl ⟨⟨xs, q, Nat.le_refl _⟩, hd H p⟩
theorem lc_tup {K : PySem.W.Frag} {a : Addr} {xs : List V} {g : TG} {tt : TT} {te : TE} {vs : List Nat} {σ : St} {H1 : Hp} {D : Addr} {Qd : Hp → Prop} (Pv : Nat → Hp → Prop) (h0 : Pv 0 (upd H1 D (.lst []))) (hl : ∀ i H, i ≤ xs.length → Pv i H → SqT K H a xs)
    (hs : ∀ i x H, xs[i]? = some x → Pv i H → g x (wipe σ vs) H fun σ2 H2 => wipe σ2 vs = wipe σ vs ∧ tt σ2 H2 fun b H3 =>
      if b = true then te σ2 H3 fun y H4 => ∃ acc, H4 D = some (.lst acc) ∧ acc.length < sizeLine ∧ Pv (i + 1) (upd H4 D (.lst (acc ++ [y]))) else Pv (i + 1) H3) (hd : ∀ H, Pv xs.length H → Qd H) :
    ∃ W : Nat → Nat → Hp → Prop, (∃ m, W 0 m (upd H1 D (.lst []))) ∧ ∀ i m H, W i m H →
      ((Itt K a).stop i H ∧ Qd H) ∨ ((Itt K a).go i H ∧ ∃ Nx : Hp → Prop, (∀ H', Nx H' → ∃ m', m' < m ∧ W (i + 1) m' H') ∧ ∀ x H', (Itt K a).yld i H x H' → g x (wipe σ vs) H' fun σ2 H2 => wipe σ2 vs = wipe σ vs ∧ tt σ2 H2 fun b H3 =>
        if b = true then te σ2 H3 fun y H4 => ∃ acc, H4 D = some (.lst acc) ∧ acc.length < sizeLine ∧ Nx (upd H4 D (.lst (acc ++ [y]))) else Nx H3) := by
  refine ⟨fun i m H => m = xs.length - i ∧ i ≤ xs.length ∧ Pv i H, ⟨xs.length, by simp, Nat.zero_le _, h0⟩, ?_⟩
  rintro i m H ⟨rfl, hi, p⟩
  have q := hl i H hi p
  by_cases hlt : i < xs.length
  · refine .inr ⟨⟨xs, xs[i], q, by simp [hlt]⟩, Pv (i + 1), fun H' p' => ⟨xs.length - (i + 1), by omega, rfl, hlt, p'⟩, fun x H' y => ?_⟩
    obtain ⟨e, y⟩ := y
    subst e
    exact hs i x _ (y xs q) p
  · have e : i = xs.length := by omega
    subst e
    exact .inl ⟨⟨xs, q, Nat.le_refl _⟩, hd H p⟩
def blkC (N : List Str) (sc scope : Scope) (own : List (Str × Nat)) : Bool :=
  (match scope.kind with | .function => true | _ => false) && (scope.names.all fun y => decide (scope.names.lookup y.1 = some y.2)) && (own.all fun p => decide (N[p.2]? = some p.1)) &&
    (scope.names.all fun y => match y.2 with
      | .free => (match sc.names.lookup y.1 with | some .cell => true | some .free => true | _ => false)
      | .local => decide (y.1 ∈ own.map (·.1)) || decide (y.1 ∉ N)
      | .cell => decide (y.1 ∈ own.map (·.1)) || decide (y.1 ∉ N)
      | _ => true)
theorem blkOk_by {N : List Str} {sc scope : Scope} {own : List (Str × Nat)} (h : blkC N sc scope own = true) : BlkOk N sc scope own := by
  unfold blkC at h
  simp only [Bool.and_eq_true, List.all_eq_true, decide_eq_true_eq] at h
  obtain ⟨⟨⟨h1, h2⟩, h3⟩, h4⟩ := h
  refine ⟨?_, h2, h3, fun y hy e => ?_, fun y hy e => ?_⟩
  · split at h1
    · assumption
    · cases h1
  · have q := h4 y hy
    simp only [e] at q
    split at q <;> first | exact .inl (by assumption) | exact .inr (by assumption) | cases q
  · have q := h4 y hy
    rcases e with e | e <;> (simp only [e, Bool.or_eq_true, decide_eq_true_eq] at q; exact q)
end L2
namespace L2
open PySem PySem.Spec PyProof.Rows
section
variable {prog : Program} {w : World} {A : Around} {R : Result → Shared → Prop} {s : Shared} {elt t0 i0 t1 i1 : Expr} {ifs0 ifs1 : List Expr} {scope : Scope} {pos : Pos} {it acc : Value} {env : Env}
end
section
variable {X : Cx}
end
end L2
namespace L2
open PySem PySem.Spec PyProof.Rows
section
variable {κ : Type} [DecidableEq κ]
def valV (kvs : List (κ × V)) (k : κ) : Option V := (kvs.find? fun kv => decide (kv.1 = k)).map (·.2)
def putK (kvs : List (κ × V)) (k : κ) (v : V) : List (κ × V) :=
  if (kvs.any fun kv => decide (kv.1 = k)) = true then kvs.map (fun kv => if kv.1 = k then (kv.1, v) else kv) else kvs ++ [(k, v)]
def dropK (kvs : List (κ × V)) (k : κ) : List (κ × V) := kvs.filter fun kv => decide (kv.1 ≠ k)
theorem valV_pos {p : κ × V} {r : List (κ × V)} {k : κ} (e : p.1 = k) : valV (p :: r) k = some p.2 := by simp [valV, List.find?_cons, e]
theorem valV_neg {p : κ × V} {r : List (κ × V)} {k : κ} (e : ¬ p.1 = k) : valV (p :: r) k = valV r k := by simp [valV, List.find?_cons, e]
theorem valV_any (k : κ) : ∀ kvs : List (κ × V), (kvs.any fun kv => decide (kv.1 = k)) = (valV kvs k).isSome
  | [] => rfl
  | p :: r => by
    rw [List.any_cons]
    by_cases e : p.1 = k
    · simp only [valV_pos e, decide_eq_true e, Bool.true_or, Option.isSome_some]
    · rw [valV_neg e, decide_eq_false e, Bool.false_or]; exact valV_any k r
theorem length_putK (kvs : List (κ × V)) (k : κ) (v : V) : (putK kvs k v).length ≤ kvs.length + 1 := by
  unfold putK
  split
  · rw [List.length_map]; omega
  · rw [List.length_append, List.length_cons, List.length_nil]; omega
theorem RelO.isSome_eq {o : Option V} {u : Option Value} (r : RelO o u) : o.isSome = u.isSome := by
  cases o with
  | none => cases u with
    | none => rfl
    | some _ => exact (show False from r).elim
  | some _ => cases u with
    | none => exact (show False from r).elim
    | some _ => rfl
theorem RelO.getD {o : Option V} {u : Option Value} {d : V} {d' : Value} (r : RelO o u) (rd : RelV d d') : RelV (o.getD d) (u.getD d') := by
  cases o with
  | none => cases u with
    | none => exact rd
    | some _ => exact (show False from r).elim
  | some _ => cases u with
    | none => exact (show False from r).elim
    | some _ => exact r
theorem KV.val {kvs : List (κ × V)} {vs : List (κ × Value)} (r : KV kvs vs) (k : κ) : RelO (valV kvs k) (valueAt vs k) := by
  unfold KV at r
  induction r with
  | nil => exact True.intro
  | @cons p q ps qs h t ih =>
    obtain ⟨h1, h2⟩ := h
    by_cases e : p.1 = k
    · have e' : q.1 = k := h1.symm.trans e
      have b : valueAt (q :: qs) k = some q.2 := by simp [valueAt, List.find?_cons, e']
      rw [valV_pos e, b]; exact h2
    · have e' : ¬ q.1 = k := fun z => e (h1.trans z)
      have b : valueAt (q :: qs) k = valueAt qs k := by simp [valueAt, List.find?_cons, e']
      rw [valV_neg e, b]; exact ih
theorem KV.any {kvs : List (κ × V)} {vs : List (κ × Value)} (r : KV kvs vs) (k : κ) : (kvs.any fun kv => decide (kv.1 = k)) = vs.any fun kv => decide (kv.1 = k) := by
  unfold KV at r
  induction r with
  | nil => rfl
  | cons h t ih => rw [List.any_cons, List.any_cons, ih, h.1]
theorem KV.repl {kvs : List (κ × V)} {vs : List (κ × Value)} (r : KV kvs vs) (k : κ) {y : V} {u : Value} (ry : RelV y u) :
    KV (kvs.map fun kv => if kv.1 = k then (kv.1, y) else kv) (vs.map fun kv => if kv.1 = k then (kv.1, u) else kv) := by
  unfold KV at r ⊢
  induction r with
  | nil => exact .nil
  | @cons p q ps qs h t ih =>
    rw [List.map_cons, List.map_cons]
    refine .cons ?_ ih
    obtain ⟨h1, h2⟩ := h
    by_cases e : p.1 = k
    · rw [if_pos e, if_pos (h1.symm.trans e)]; exact ⟨h1, ry⟩
    · rw [if_neg e, if_neg (fun z => e (h1.trans z))]; exact ⟨h1, h2⟩
theorem KV.put {kvs : List (κ × V)} {vs : List (κ × Value)} (r : KV kvs vs) (k : κ) {y : V} {u : Value} (ry : RelV y u) : KV (putK kvs k y) (stored vs k u) := by
  unfold putK stored
  rw [r.any k]
  by_cases e : (vs.any fun kv => decide (kv.1 = k)) = true
  · rw [if_pos e, if_pos e]; exact r.repl k ry
  · rw [if_neg e, if_neg e]; exact Paired.snoc r ⟨rfl, ry⟩
theorem KV.drop {kvs : List (κ × V)} {vs : List (κ × Value)} (r : KV kvs vs) (k : κ) : KV (dropK kvs k) (without vs k) := by
  unfold KV at r ⊢
  unfold dropK without
  induction r with
  | nil => exact .nil
  | @cons p q ps qs h t ih =>
    obtain ⟨h1, h2⟩ := h
    rw [List.filter_cons, List.filter_cons]
    by_cases e : p.1 = k
    · have a : ¬ decide (p.1 ≠ k) = true := by simp [e]
      have b : ¬ decide (q.1 ≠ k) = true := by simp [h1.symm.trans e]
      rw [if_neg a, if_neg b]; exact ih
    · have e' : ¬ q.1 = k := fun z => e (h1.trans z)
      have a : decide (p.1 ≠ k) = true := by simp [e]
      have b : decide (q.1 ≠ k) = true := by simp [e']
      rw [if_pos a, if_pos b]; exact .cons ⟨h1, h2⟩ ih
theorem KV.keys {kvs : List (κ × V)} {vs : List (κ × Value)} (r : KV kvs vs) : kvs.map (·.1) = vs.map (·.1) := by
  unfold KV at r
  induction r with
  | nil => rfl
  | cons h t ih => rw [List.map_cons, List.map_cons, ih, h.1]
theorem KV.length {kvs : List (κ × V)} {vs : List (κ × Value)} (r : KV kvs vs) : kvs.length = vs.length := Paired.length r
end
theorem kV_is {P : Program} {w : World} {k : Key} {u : Value} (r : RelV (kV k) u) : (mixKind P w).is k u = true := by
  cases k with
  | inl i => obtain ⟨t, e⟩ := (show ∃ t, u = Value.int i t from r); subst e; exact mixKind_int P w i t
  | inr x => obtain ⟨t, e⟩ := (show ∃ t, u = Value.str x t from r); subst e; exact mixKind_str P w x t
theorem items_are {P : Program} {w : World} : ∀ {ks : List Key} {us : List Value}, Vals (ks.map kV) us → ItemsAre (mixKind P w) ks us
  | [], _, r => by rw [List.map_nil] at r; cases r; exact .nil
  | k :: ks, _, r => by
    rw [List.map_cons] at r
    cases r with
    | cons h t => exact .cons (kV_is h) (items_are t)
abbrev KT (H : Hp) : List (List Key × V) → List (List Key × Addr × Value) → Prop := Paired fun p q => p.1 = q.1 ∧ H q.2.1 = some (.tup (p.1.map kV)) ∧ RelV p.2 q.2.2
theorem KT.val {H : Hp} {kvs : List (List Key × V)} {xs : List (List Key × Addr × Value)} (r : KT H kvs xs) (k : List Key) : RelO (valV kvs k) ((atKey xs k).map (·.2)) := by
  induction r with
  | nil => exact True.intro
  | @cons p q ps qs h t ih =>
    obtain ⟨h1, _, h2⟩ := h
    by_cases e : p.1 = k
    · have e' : q.1 = k := h1.symm.trans e
      have b : atKey (q :: qs) k = some q.2 := by simp [atKey, List.find?_cons, e']
      rw [valV_pos e, b]; exact h2
    · have e' : ¬ q.1 = k := fun z => e (h1.trans z)
      have b : atKey (q :: qs) k = atKey qs k := by simp [atKey, List.find?_cons, e']
      rw [valV_neg e, b]; exact ih
theorem KT.repl {H : Hp} {kvs : List (List Key × V)} {xs : List (List Key × Addr × Value)} (r : KT H kvs xs) (k : List Key) {y : V} {u : Value} (ry : RelV y u) :
    KT H (kvs.map fun kv => if kv.1 = k then (kv.1, y) else kv) (xs.map (putAt k u)) := by
  induction r with
  | nil => exact .nil
  | @cons p q ps qs h t ih =>
    rw [List.map_cons, List.map_cons]
    refine .cons ?_ ih
    obtain ⟨h1, h2, h3⟩ := h
    unfold putAt
    by_cases e : p.1 = k
    · rw [if_pos e, if_pos (h1.symm.trans e)]; exact ⟨h1, h2, ry⟩
    · rw [if_neg e, if_neg (fun z => e (h1.trans z))]; exact ⟨h1, h2, h3⟩
theorem KT.put {H : Hp} {kvs : List (List Key × V)} {xs : List (List Key × Addr × Value)} (r : KT H kvs xs) (k : List Key) {b : Addr} {y : V} {u : Value} (hb : H b = some (.tup (k.map kV))) (ry : RelV y u) :
    KT H (putK kvs k y) (storedH xs k b u) := by
  have e : (kvs.any fun kv => decide (kv.1 = k)) = (atKey xs k).isSome := by
    rw [valV_any, (r.val k).isSome_eq, Option.isSome_map]
  unfold putK storedH
  rw [e]
  by_cases q : (atKey xs k).isSome = true
  · rw [if_pos q, if_pos q]; exact r.repl k ry
  · rw [if_neg q, if_neg q]; exact Paired.snoc r ⟨rfl, hb, ry⟩
theorem KT.keeps {H H' : Hp} {kvs : List (List Key × V)} {xs : List (List Key × Addr × Value)} (r : KT H kvs xs) (ht : ∀ b ys, H b = some (.tup ys) → H' b = some (.tup ys)) : KT H' kvs xs :=
  Paired.mapP r fun _ _ z => ⟨z.1, ht _ _ z.2.1, z.2.2⟩
section
variable {P : Program} {w : World} {H : Hp} {h : Heap} {a : Addr}
theorem rd_of {u : HO} (ok : HOk P w H h) (e : Rd H a u) : ObjOk P w H h a u := e.ok ok
theorem dk_rd {kvs : List (Key × V)} (ok : HOk P w H h) (e : Rd H a (.dK kvs)) : kvs.length ≤ sizeLine ∧ (a == sysModules) = false ∧ ∃ vs, KV kvs vs ∧ h.DictOf (mixKind P w) a vs :=
  show ObjOk P w H h a (.dK kvs) from rd_of ok e
theorem dk_of {kvs : List (Key × V)} (ok : HOk P w H h) (e : H a = some (.dK kvs)) : kvs.length ≤ sizeLine ∧ (a == sysModules) = false ∧ ∃ vs, KV kvs vs ∧ h.DictOf (mixKind P w) a vs := dk_rd ok (.inl e)
theorem key_of {ks : List Key} (ok : HOk P w H h) (e : H a = some (.tup (ks.map kV))) : (tupleKind (mixKind P w)).is h ks a := by
  obtain ⟨_, its, r, o, h1, h2, n, h3⟩ := (show ObjOk P w H h a (.tup (ks.map kV)) from ok a _ e)
  exact ⟨o, its.toArray, n, h1, h2, h3, by simpa using items_are r⟩
theorem dt_rd {kvs : List (List Key × V)} (ok : HOk P w H h) (e : Rd H a (.dT kvs)) : kvs.length ≤ sizeLine ∧ (a == sysModules) = false ∧
    ∃ xs, KT H kvs xs ∧ h.DictOfH (tupleKind (mixKind P w)) a xs := by
  obtain ⟨z, y, xs, r, o, es, ep, h1, h2, h3, h4, h5⟩ := (show ObjOk P w H h a (.dT kvs) from rd_of ok e)
  refine ⟨z, y, xs, r, o, es, ep, h1, h2, h3, h4, fun x hx => ?_, h5⟩
  have all : ∀ {l : List (List Key × V)} {m : List (List Key × Addr × Value)}, KT H l m → ∀ x ∈ m, (tupleKind (mixKind P w)).is h x.1 x.2.1 := by
    intro l m q
    induction q with
    | nil => intro x hx; exact nomatch hx
    | @cons p q ps qs hq t ih =>
      intro x hx
      rcases List.mem_cons.mp hx with e | hx
      · subst e
        exact key_of ok (by rw [← hq.1]; exact hq.2.1)
      · exact ih x hx
  exact all r x hx
end
def DGet (H : Hp) (a : Addr) (y : V) (r : Option V) : Prop :=
  (∃ kvs k, Rd H a (.dK kvs) ∧ y = kV k ∧ r = valV kvs k) ∨ ∃ kvs k b, Rd H a (.dT kvs) ∧ y = .ref b ∧ H b = some (.tup (k.map kV)) ∧ r = valV kvs k
def DPut (H : Hp) (a : Addr) (y v : V) (H' : Hp) : Prop :=
  (∃ kvs k, H a = some (.dK kvs) ∧ y = kV k ∧ kvs.length < sizeLine ∧ H' = upd H a (.dK (putK kvs k v))) ∨
  ∃ kvs k b, H a = some (.dT kvs) ∧ y = .ref b ∧ H b = some (.tup (k.map kV)) ∧ kvs.length < sizeLine ∧ H' = upd H a (.dT (putK kvs k v))
theorem DGet.k {H : Hp} {a : Addr} {kvs : List (Key × V)} {k : Key} (e : H a = some (.dK kvs)) : DGet H a (kV k) (valV kvs k) := .inl ⟨kvs, k, .inl e, rfl, rfl⟩
theorem DGet.t {H : Hp} {a b : Addr} {kvs : List (List Key × V)} {k : List Key} (e : H a = some (.dT kvs)) (eb : H b = some (.tup (k.map kV))) : DGet H a (.ref b) (valV kvs k) := .inr ⟨kvs, k, b, .inl e, rfl, eb, rfl⟩
theorem DPut.k {H : Hp} {a : Addr} {kvs : List (Key × V)} {k : Key} {v : V} (e : H a = some (.dK kvs)) (hl : kvs.length < sizeLine) : DPut H a (kV k) v (upd H a (.dK (putK kvs k v))) := .inl ⟨kvs, k, e, rfl, hl, rfl⟩
theorem DPut.t {H : Hp} {a b : Addr} {kvs : List (List Key × V)} {k : List Key} {v : V} (e : H a = some (.dT kvs)) (eb : H b = some (.tup (k.map kV))) (hl : kvs.length < sizeLine) :
    DPut H a (.ref b) v (upd H a (.dT (putK kvs k v))) := .inr ⟨kvs, k, b, e, rfl, eb, hl, rfl⟩
section
variable {X : Cx} {pins : List (Addr × Obj)} {σ : St} {H : Hp} {s : Shared} {a : Addr} {y v : V} {u r : Value} {o : Option V} {A : Around} {E : Value → Shared → Prop}
theorem Inv.big (I : Inv X pins σ H s) : sysModules < s.heap.objs.size := by
  have h : mainGlobals < s.heap.objs.size := (I.mod.glob.keeps I.bk).lt
  exact Nat.lt_trans (by decide) h
theorem d_write {h' : Heap} {t' : Nat} {ob : HO} (I : Inv X pins σ H s) (mu : Mut (H a)) (hs : Heap.SameBut a s.heap h') (he : ∃ q, h'.get? a = some q) (new : ObjOk X.prog X.w (upd H a ob) h' a ob) :
    Inv X pins σ (upd H a ob) { s with heap := h', toks := t' } :=
  I.write (x := a) (e := a) mu (.inl rfl) (fun b q hb z => (hs.2 b hb).trans z) he new
theorem dk_new {P : Program} {w : World} {H' : Hp} {h' : Heap} {kvs : List (Key × V)} {vs : List (Key × Value)} (z : kvs.length ≤ sizeLine) (hd : (a == sysModules) = false) (rel : KV kvs vs) (dd : h'.DictOf (mixKind P w) a vs) :
    ObjOk P w H' h' a (.dK kvs) := ⟨z, hd, vs, rel, dd⟩
end
section
variable {X : Cx} {pins : List (Addr × Obj)} {σ : St} {H : Hp} {s : Shared} {a : Addr} {kvs : List (Key × V)} {k : Key} {u : Value} {A : Around} {E : Value → Shared → Prop}
end
section
variable {X : Cx} {o i e value : Expr} {pos pos' tpos : Pos} {td ty tv : TE}
end
theorem dk_empty {P : Program} {w : World} {H : Hp} (h : Heap) (hb : sysModules < h.objs.size) : ObjOk P w H (h.push { cls := .type "dict", data := .dict #[] }) h.objs.size (.dK []) :=
  ⟨Nat.zero_le _, beq_eq_false_iff_ne.mpr (Ne.symm (Nat.ne_of_lt hb)), [], .nil, Heap.DictOf.new h⟩
section
variable {X : Cx} {pos : Pos}
end
def tPairs : List (TE × TE) → St → Hp → (List (V × V) → Hp → Prop) → Prop
  | [], _, H, Q => Q [] H
  | (tk, tv) :: r, σ, H, Q => tk σ H fun x H1 => tv σ H1 fun y H2 => tPairs r σ H2 fun ps H3 => Q ((x, y) :: ps) H3
abbrev VV : List (V × V) → List (Value × Value) → Prop := Paired fun p q => RelV p.1 q.1 ∧ RelV p.2 q.2
def PPs (X : Cx) (pos : Pos) (keys : List (Option Expr)) (values : List Expr) (trs : List (TE × TE)) : Prop :=
  ∀ (pins : List (Addr × Obj)) (s : Shared) (σ : St) (H : Hp) (Q : List (V × V) → Hp → Prop), Inv X pins σ H s → tPairs trs σ H Q →
    wpAny (model X.prog X.w) X.A (evalPairs (pairTrees keys values X.env pos)) (fun vs s' => ∃ ps H', Inv X pins σ H' s' ∧ VV ps vs ∧ Q ps H') X.xe s
theorem pps_nil {X : Cx} {pos : Pos} : PPs X pos [] [] [] := fun pins s σ H Q I h => pairTrees_nil_walk ⟨[], H, I, .nil, h⟩
theorem pps_cons {X : Cx} {pos : Pos} {k v : Expr} {ks : List (Option Expr)} {vs : List Expr} {tk tv : TE} {trs : List (TE × TE)} (hk : PE X k tk) (hv : PE X v tv) (hr : PPs X pos ks vs trs) :
    PPs X pos (some k :: ks) (v :: vs) ((tk, tv) :: trs) := fun pins s σ H Q I h =>
  pairTrees_cons_walk (thn (hk pins s σ H _ I h) fun u s1 ⟨x, H1, I1, rx, q1⟩ => thn (hv pins s1 σ H1 _ I1 q1) fun w2 s2 ⟨y, H2, I2, ry, q2⟩ =>
    thn (hr pins s2 σ H2 _ I2 q2) fun ws s3 ⟨ps, H3, I3, rel, q3⟩ => ⟨(x, y) :: ps, H3, I3, .cons ⟨rx, ry⟩ rel, q3⟩)
def mergeK (kvs more : List (Key × V)) : List (Key × V) := more.foldl (fun acc kv => putK acc kv.1 kv.2) kvs
theorem KV.merge : ∀ {more : List (Key × V)} {rs : List (Key × Value)} {kvs : List (Key × V)} {vs : List (Key × Value)}, KV more rs → KV kvs vs → KV (mergeK kvs more) (merged vs rs) := by
  intro more rs kvs vs r
  unfold KV at r
  induction r generalizing kvs vs with
  | nil => intro q; exact q
  | @cons p q ps qs h t ih =>
    intro r0
    have e : KV (putK kvs p.1 p.2) (stored vs q.1 q.2) := by
      have := r0.put p.1 h.2
      rw [← h.1]; exact this
    exact ih e
theorem length_mergeK : ∀ (more kvs : List (Key × V)), (mergeK kvs more).length ≤ kvs.length + more.length
  | [], kvs => by show kvs.length ≤ kvs.length + 0; omega
  | p :: r, kvs => by
    have h1 := length_mergeK r (putK kvs p.1 p.2)
    have h2 := length_putK kvs p.1 p.2
    show (mergeK (putK kvs p.1 p.2) r).length ≤ _
    rw [List.length_cons]; omega
theorem carries_of {P : Program} {w : World} : ∀ {kvs : List (Key × V)} {ws : List (Value × Value)}, VV (kvs.map fun kv => (kV kv.1, kv.2)) ws → ∃ rs, Carries (mixKind P w) ws rs ∧ KV kvs rs
  | [], _, r => by rw [List.map_nil] at r; cases r; exact ⟨[], True.intro, .nil⟩
  | p :: kvs, _, r => by
    rw [List.map_cons] at r
    cases r with
    | @cons a b as bs h t =>
      obtain ⟨rs, c, q⟩ := carries_of (P := P) (w := w) t
      obtain ⟨b1, b2⟩ := b
      exact ⟨(p.1, b2) :: rs, ⟨kV_is h.1, rfl, c⟩, .cons ⟨rfl, h.2⟩ q⟩
def tDisp (trs : List (TE × TE)) : TE := fun σ H Q => ∀ p, H p = none → tPairs trs σ (upd H p (.dK [])) fun ps H2 => H2 p = some (.dK []) ∧ ∃ kvs : List (Key × V), ps = kvs.map (fun kv => (kV kv.1, kv.2)) ∧ kvs.length ≤ 15 ∧ Q (.ref p) (upd H2 p (.dK (mergeK [] kvs)))
theorem pe_disp {X : Cx} {pos : Pos} {keys : List (Option Expr)} {values : List Expr} {trs : List (TE × TE)} (h : PPs X pos keys values trs) (hall : keys.all (·.isSome) = true) (hl : keys.length = values.length) (h0 : keys ≠ [])
    (h15 : keys.length ≤ 15) : PE X (.Dict keys values pos) (tDisp trs) := by
  intro pins s σ H Q I q
  have hn := I.hok.fresh (Nat.le_refl s.heap.objs.size)
  have I1 := I.laid (a := s.heap.objs.size) (o := .dK []) (h' := s.heap.push { cls := .type "dict", data := .dict #[] }) (t' := s.toks) (fun _ _ q => Heap.get?_push_of_some _ q) (Nat.le_refl _) (dk_empty s.heap I.big)
  refine wpAny_Dict_walk (knd := mixKind X.prog X.w) hall hl h0 h15 (thn (h pins _ σ _ _ I1 (q _ hn)) fun ws s2 ⟨ps, H2, I2, rel, e, kvs, ep, lk, q2⟩ => ?_)
  subst ep
  obtain ⟨rs, c, rk⟩ := carries_of (P := X.prog) (w := X.w) rel
  obtain ⟨z, hd, vs0, r0, dd⟩ := dk_of I2.hok e
  cases r0
  refine ⟨rs, c, dd, fun h' dd' hs => ⟨.ref s.heap.objs.size, _, ?_, rfl, q2⟩⟩
  have hz : (mergeK [] kvs).length ≤ sizeLine := by
    have h1 := length_mergeK kvs []
    rw [List.length_nil] at h1
    rw [sizeLine_eq]; omega
  have he : ∃ q, h'.get? s.heap.objs.size = some q := let ⟨q, _, _, hq, _⟩ := dd'; ⟨q, hq⟩
  exact d_write I2 (by rw [e]; exact True.intro) hs he (dk_new hz hd (rk.merge .nil) dd')
structure M1 (X : Cx) (o : Expr) (m : Str) (apos : Pos) (e : Expr) (cpos : Pos) : Prop where
  base : attributeBase o m X.env (eval o X.env) = eval o X.env
  few : ((backTo cpos (starEach [e] X.env)).all (fun x => !x.1) && (backToKw cpos (keywordEach [] X.env)).all (fun x => x.1.isSome)
    && decide (([e] : List Expr).length + ([] : List Keyword).length + (if ([] : List Keyword).isEmpty then 0 else 1) < 30)) = true
  line : (apos.endLine == cpos.line) = true
  trees : backTo cpos (starEach [e] X.env) = [(false, eval e X.env)]
structure M2 (X : Cx) (o : Expr) (m : Str) (apos : Pos) (e f : Expr) (cpos : Pos) : Prop where
  base : attributeBase o m X.env (eval o X.env) = eval o X.env
  few : ((backTo cpos (starEach [e, f] X.env)).all (fun x => !x.1) && (backToKw cpos (keywordEach [] X.env)).all (fun x => x.1.isSome)
    && decide (([e, f] : List Expr).length + ([] : List Keyword).length + (if ([] : List Keyword).isEmpty then 0 else 1) < 30)) = true
  line : (apos.endLine == cpos.line) = true
  trees : backTo cpos (starEach [e, f] X.env) = [(false, eval e X.env), (false, eval f X.env)]
def IsD (H : Hp) (a : Addr) : Prop := (∃ kvs, Rd H a (.dK kvs)) ∨ ∃ kvs, Rd H a (.dT kvs)
theorem isD_at {X : Cx} {pins : List (Addr × Obj)} {σ : St} {H : Hp} {s : Shared} {a : Addr} (I : Inv X pins σ H s) (d : IsD H a) :
    s.TypeIs (.ref a) "dict" ∧ (∀ b, Value.ref a = .ref b → ∃ ob, s.heap.get? b = some ob ∧ ob.dict = none) ∧ (a == sysModules) = false := by
  rcases d with ⟨kvs, e⟩ | ⟨kvs, e⟩
  · obtain ⟨_, hd, vs, _, dd⟩ := dk_rd I.hok e
    refine ⟨dd.typeIs, fun b q => ?_, hd⟩
    cases q
    obtain ⟨ob, _, _, h1, h2, _⟩ := dd
    exact ⟨ob, h1, h2.2.1⟩
  · obtain ⟨_, hd, xs, _, dd⟩ := dt_rd I.hok e
    refine ⟨dd.typeIs, fun b q => ?_, hd⟩
    cases q
    obtain ⟨ob, _, _, h1, h2, _⟩ := dd
    exact ⟨ob, h1, h2.2.1⟩
section
variable {X : Cx} {pins : List (Addr × Obj)} {σ : St} {H : Hp} {s : Shared} {a : Addr} {y d : V} {u r : Value} {o : Option V} {A : Around} {E : Value → Shared → Prop}
theorem d_get2 {Q : Value → Shared → Prop} (hu : A.units + 1 < cLine) (I : Inv X pins σ H s) (g : DGet H a y o) (ry : RelV y u) (rd : RelV d r) (h : ∀ w' s', Inv X pins σ H s' → RelV (o.getD d) w' → Q w' s') :
    wpAny (model X.prog X.w) A (call (.builtin "dict.get") [.ref a, u, r]) Q E s := by
  rcases g with ⟨kvs, k, e, ey, l⟩ | ⟨kvs, k, b, e, ey, eb, l⟩
  · subst ey
    obtain ⟨z, hd, vs, rel, dd⟩ := dk_rd I.hok e
    refine call_meetsIn PySem.F.slot_dict_get dd.typeIs PySem.F.entry_dict_get (PySem.F.args_dict_get_3 _ _ _) (meets_dict_get_default (mixKind X.prog X.w) a (kV_is ry) hd r) ⟨_, dd.mapOf, h _ _ (I.tok _) ?_⟩
    rw [l]
    exact (rel.val k).getD rd
  · subst ey
    cases (show u = Value.ref b from ry)
    obtain ⟨z, hd, xs, rel, dd⟩ := dt_rd I.hok e
    refine call_meetsIn PySem.F.slot_dict_get dd.typeIs PySem.F.entry_dict_get (PySem.F.args_dict_get_3 _ _ _) (meetsH_dict_get_default (tupleKind (mixKind X.prog X.w)) a b hd r) ⟨tupleKind_room_in1 hu, k, xs, key_of I.hok eb, dd, h _ _ (I.tok _) ?_⟩
    rw [l]
    exact (rel.val k).getD rd
end
def tDGet2 (td ty tx : TE) : TE := fun σ H Q => td σ H fun x H1 => ∃ a, x = .ref a ∧ IsD H1 a ∧ ty σ H1 fun y H2 => tx σ H2 fun z H3 => ∃ o, DGet H3 a y o ∧ Q (o.getD z) H3
section
variable {X : Cx} {o e f : Expr} {apos cpos : Pos} {td ty tx : TE}
theorem pe_dget2 (hu : X.A.units + 1 < cLine) (ho : PE X o td) (he : PE X e ty) (hf : PE X f tx) (m : M2 X o "get" apos e f cpos) : PE X (.Call (.Attribute o "get" apos) [e, f] [] cpos) (tDGet2 td ty tx) := by
  intro pins s σ H Q I h
  refine wpAny_Call_method m.base m.few m.line PySem.F.plainAttrs_dict PySem.F.slot_dict_get PySem.F.type_dict_get (thn (ho pins s σ H _ I h) fun u s1 ⟨x, H1, I1, rx, a, ex, d, q1⟩ => ?_)
  subst ex
  obtain rfl : u = Value.ref a := rx
  obtain ⟨t1, t2, _⟩ := isD_at I1 d
  refine ⟨t1, t2, ?_⟩
  rw [m.trees]
  refine Calls.callWith_builtin rfl (Calls.evalArgs_plain (Calls.spliced_cons (thn (he pins s1 σ H1 _ I1 q1) fun iv s2 ⟨y, H2, I2, ry, q2⟩ =>
    Calls.spliced_cons (thn (hf pins s2 σ H2 _ I2 q2) fun fv s3 ⟨z, H3, I3, rz, ov, g, q3⟩ => Calls.spliced_nil ?_))))
  exact d_get2 hu I3 g ry rz fun w' s4 I4 rw' => ⟨_, H3, I4, rw', q3⟩
end
section
variable {X : Cx} {pins : List (Addr × Obj)} {σ : St} {H : Hp} {s : Shared} {a : Addr} {kvs : List (Key × V)} {A : Around} {E : Value → Shared → Prop}
end
section
variable {X : Cx} {pins : List (Addr × Obj)} {σ : St} {H : Hp} {s : Shared} {a : Addr} {y : V} {u : Value} {A : Around} {E : Value → Shared → Prop}
end
end L2
namespace L2
open PySem PySem.Spec PyProof.Rows
section
variable {prog : Program} {w : World} {A : Around} {E : Value → Shared → Prop}
end
section
variable {X : Cx}
end
end L2
namespace L2
open PySem PySem.Spec PyProof.Rows
section
variable {X : Cx} {pins : List (Addr × Obj)} {σ : St} {H : Hp} {s : Shared} {h' : Heap}
theorem Inv.turnedNew {t' : Nat} {ch : List Addr} {T : Addr} {ob : HO} (I : Inv X pins σ H s) (k : ∀ b o, b ∉ ch → s.heap.get? b = some o → h'.get? b = some o) (hf : ∀ b ∈ ch, FpOk X pins H b) (hT : s.heap.objs.size ≤ T)
    (new : ObjOk X.prog X.w (upd H T ob) h' T ob) : Inv X pins σ (upd H T ob) { s with heap := h', toks := t' } := by
  have hn : H T = none := I.hok.fresh hT
  have nit : ∀ b u, H b = some u → b ∉ ch := fun b u e z => by
    have q := (hf b z).1
    rw [q] at e; cases e
  refine I.step (g' := s.gens) (d' := s.drawn) (ch := ch) (fun b hb => ⟨(hf b hb).2.2.2.1, (hf b hb).2.1, (hf b hb).2.2.2.2.1, (hf b hb).2.2.2.2.2⟩) (fun b o _ _ hc e _ => k b o hc e) (fun b o _ _ hc e _ => ⟨o.slots, k b o hc e⟩)
    (fun b o _ e n => ?_) (fun b o hc e => ⟨o, k b o hc e⟩) (fun b xs e => ?_) (fun b o u e => ?_) (fun b q e => ⟨?_, fun ps z => ⟨#[], by rw [k b _ (nit b _ e) z]; simp⟩⟩) (fun m hm => ?_) (fun b u e => ?_) I.bare
  · rw [upd_ne (Nat.ne_of_lt (Nat.lt_of_lt_of_le (Heap.lt_size e) hT))]; exact n
  · rw [upd_ne (ne_of_none e hn)]; exact e
  · rw [upd_ne (ne_of_none e hn)]; exact e
  · rw [upd_ne (ne_of_none e hn)]; exact e
  · obtain ⟨o, es, ep, ho, r⟩ := hm
    exact ⟨o, es, ep, k _ o (fun z => (hf _ z).2.1 rfl) ho, r⟩
  · by_cases hb : b = T
    · subst hb
      rw [upd_same] at e
      cases e
      exact new
    · rw [upd_ne hb] at e
      refine (I.hok b u e).stay (fun c v hc q => k c v ?_ q) (fun c q => by rw [upd_ne (ne_of_none q hn)]; exact q) fun c xs _ q => by rw [upd_ne (ne_of_none q hn)]; exact q
      rcases hc with z | z
      · rw [z]; exact nit b u e
      · exact nit c _ z
end
section
variable {X : Cx}
end
def RgC (i j c : Int) (n : Nat) : Prop := c ≠ 0 ∧ c.natAbs < 1073741824 ∧ Builtin.Range.small i j c = true ∧ Builtin.Range.rangeSize i j c = n
theorem RgC.neg {i j : Int} (ha : -(2 ^ 62) ≤ i) (ha' : i < 2 ^ 62) (hb : -(2 ^ 62) ≤ j) (hb' : j < 2 ^ 62) : RgC i j (-1) (i - j).toNat :=
  ⟨by decide, by decide, PySem.W.small_down ha ha' hb hb', PySem.W.rangeSize_downNat i j⟩
section
variable {X : Cx} {tg : Expr}
end
section
variable {X : Cx} {tg : Expr}
end
section
variable {prog : Program} {w : World} {A : Around} {E : Value → Shared → Prop} {s : Shared}
end
section
variable {X : Cx} {pins : List (Addr × Obj)} {σ : St} {H : Hp} {s : Shared} {d : Addr} {o : Obj}
end
section
variable {P : Program} {w : World} {K : PySem.W.Frag} {tg : Expr} {d : Addr} {o : Obj} {es : Array DictEntry} {ep : Nat}
end
section
variable {X : Cx} {tg e : Expr} {td : TE} {apos cpos : Pos}
end
def Ite (K : PySem.W.Frag) (a : Addr) : It :=
  ⟨fun i H => ∃ (xs : List V) (x : V), SqL K H a xs ∧ xs[i]? = some x, fun i H v H' => ∃ T x, v = .ref T ∧ H T = none ∧ H' = upd H T (.tup [.int (i : Nat), x]) ∧ ∀ xs, SqL K H a xs → xs[i]? = some x, fun i H => ∃ xs : List V, SqL K H a xs ∧ xs.length ≤ i⟩
theorem turn_enum {P : Program} {w : World} {K : PySem.W.Frag} {elts : List Expr} {kk : Nat} {tpos : Pos} (a e it : Addr) :
    Turn P w K (.Tuple elts kk tpos) (Ite K a) [e, it] e (fun i h => (∃ old, IsEnum h e it ((i : Nat) : Int) old) ∧ h.IsListIter it a i ∧ e ≠ it) where
  mem := by simp
  obj := fun i h st b hb => by
    obtain ⟨⟨old, he⟩, ⟨o, ho, hc, hd⟩, _⟩ := st
    have e' : b = e ∨ b = it := by simpa using hb
    rcases e' with z | z
    · rw [z]; exact ⟨_, he, fun v q => nomatch q⟩
    · rw [z]; exact ⟨o, ho, fun v q => by rw [hd] at q; cases q⟩
  keep := fun i h h' st k => let ⟨⟨old, he⟩, hi, hne⟩ := st; ⟨⟨old, k e (by simp) _ he⟩, hi.at fun o q => k it (by simp) o q, hne⟩
  item := by
    intro X hP hw hK hc i pins s σ H E I hf st hg
    subst hP hw hK
    obtain ⟨⟨old, he⟩, hit, hne⟩ := st
    obtain ⟨xs, x, hq, hx⟩ := hg
    obtain ⟨its, rv, p, hz⟩ := I.list hq
    obtain ⟨u, hu, ru⟩ := rv.get hx
    have hel : e < s.heap.objs.size := Heap.lt_size he
    have hil : it < s.heap.objs.size := by obtain ⟨_, q, _⟩ := hit; exact Heap.lt_size q
    refine wpAny_pyNext_enum_item he hit p.isList (x := u) (by simpa using hu) hne fun h' ho hit' hT hsz hk => ?_
    refine ⟨_, rfl, wpAny_letOwnedTupleGo_enum (s := { s with heap := h', toks := s.toks + 1 }) ho fun h'' he' sb => ?_⟩
    have hT2 : h''.get? s.heap.objs.size = some { cls := .type "tuple", data := .seq #[.int i s.toks, u] } := (sb.2 _ (Nat.ne_of_gt hel)).trans hT
    have new : ObjOk X.prog X.w (upd H s.heap.objs.size (.tup [.int (i : Nat), x])) h'' s.heap.objs.size (.tup [.int (i : Nat), x]) :=
      ⟨by show 2 ≤ sizeLine; decide, [.int i s.toks, u], .cons ⟨_, rfl⟩ (.cons ru .nil), ⟨_, hT2, rfl, _, rfl⟩⟩
    have I1 : Inv X pins σ (upd H s.heap.objs.size (.tup [.int (i : Nat), x])) { s with heap := h'', toks := s.toks + 1 } :=
      I.turnedNew (ch := [e, it]) (fun b ob hb q => (sb.2 b (fun z => hb (by simp [z]))).trans (hk b ob (fun z => hb (by simp [z])) (fun z => hb (by simp [z])) q)) hf (Nat.le_refl _) new
    refine ⟨.ref s.heap.objs.size, _, I1, rfl, ⟨_, x, rfl, I.hok.fresh (Nat.le_refl _), rfl, fun ys hy => by rw [I.list_inj hy hq]; exact hx⟩, ⟨⟨u, ?_⟩, hit'.at fun o q => (sb.2 it (Ne.symm hne)).trans q, hne⟩, fun b hb => ?_⟩
    · have e1 : ((i + 1 : Nat) : Int) = (i : Int) + 1 := by omega
      rw [e1]; exact he'
    · have hb' : b < s.heap.objs.size := by
        have e' : b = e ∨ b = it := by simpa using hb
        rcases e' with z | z
        · rw [z]; exact hel
        · rw [z]; exact hil
      rw [upd_ne (Nat.ne_of_lt hb')]
      exact (hf b hb).1
  done := by
    intro X hP hw hK hc i pins s σ H E I hf st hg
    subst hP hw hK
    obtain ⟨⟨old, he⟩, hit, hne⟩ := st
    obtain ⟨xs, hq, hx⟩ := hg
    obtain ⟨its, rv, p, hz⟩ := I.list hq
    obtain ⟨f0, f1, f2, f3, f4, f5⟩ := hf it (by simp)
    have hl := rv.length
    exact wpAny_pyNext_enum_end (I.ok.hd hc) he hit p.isList (by simp; omega) fun h' eb => ⟨rfl, I.turned (t' := s.toks) (fun b o hb q => eb b o hb q) f0 f1 f3 f4 f5⟩
  self := fun A i s Q E st h => let ⟨⟨_, he⟩, _⟩ := st; wpAny_pyIter_enum he h
def iEnum (K : PySem.W.Frag) (ta : TA) : TI := fun σ H R => ta σ H fun vs H1 => ∃ a xs, vs = [.ref a] ∧ SqL K H1 a xs ∧ R (Ite K a) H1
theorem pi_enum {X : Cx} {e : Expr} {ta : TA} {p pos tpos : Pos} {elts : List Expr} {kk : Nat} (hg : Gl X "enumerate") (hm : X.mg "enumerate" = none) (ha : PA X [e] ta) (hs : starEach [e] X.env = [(false, eval e X.env)] := by rfl) :
    PI X (.Tuple elts kk tpos) (.Call (.Name "enumerate" p) [e] [] pos) (iEnum X.K ta) := by
  intro pins s σ H R I h
  refine Call_ (ld_blt I hg hm boot_enumerate (PyProof.Rows.callWith_type1 (thn (ha pos pins s σ H _ I h) fun us s1 ⟨vs, H1, I1, r1, q1⟩ => ?_) hs rfl))
  obtain ⟨a, xs, ex, hq, q⟩ := q1
  subst ex
  cases r1 with
  | cons r rr =>
    cases rr
    cases r
    obtain ⟨its, rv, p', hz⟩ := I1.list hq
    refine call_enumerate_list p'.isList fun h' he hit hsz hk => wpAny_pyIter_enum he ?_
    have I2 : Inv X pins σ H1 { s1 with heap := h' } := I1.kept (t' := s1.toks) hk
    refine ⟨s1.heap.objs.size + 1, [s1.heap.objs.size + 1, s1.heap.objs.size], _, _, H1, rfl, I2, turn_enum a (s1.heap.objs.size + 1) s1.heap.objs.size, ⟨⟨.none, he⟩, hit, Nat.succ_ne_self _⟩, fun b hb => ?_, q⟩
    have e' : b = s1.heap.objs.size + 1 ∨ b = s1.heap.objs.size := by simpa using hb
    have hle : s1.heap.objs.size ≤ b := by
      rcases e' with z | z
      · rw [z]; exact Nat.le_add_right _ _
      · rw [z]; exact Nat.le_refl _
    exact I1.fpOk hle (I1.hok.fresh hle)
end L2
section
namespace Bits
open PySem PyProof.Rows
end Bits
end
section
namespace TL
open PySem PySem.Builtin PySem.Builtin.Str PySem.StrLaws
abbrev tl (x : Str) : List Nat := x.cps.toList
def pre (S l : List Nat) : Bool := l.take S.length == S
def par (S : List Nat) : List Nat → List Nat → Option (List Nat × List Nat)
  | _, [] => none
  | acc, c :: r => if pre S (c :: r) = true then some (acc, (c :: r).drop S.length) else par S (acc ++ [c]) r
end TL
end
namespace L2
open PySem PySem.Spec PyProof.Rows
section
variable {X : Cx} {pins : List (Addr × Obj)} {σ : St} {H : Hp} {s : Shared} {Q : VK}
end
section
variable {X : Cx}
theorem mt1 {id : String} {g : Str → Str → V} (rule : ∀ (a b : Str) (t u : Tok) (s : Shared) (Q : Value → Shared → Prop), (∀ (v : Value) (k : Nat), RelV (g a b) v → Q v { s with toks := k }) →
    wpAny (model X.prog X.w) X.A (call (.builtin id) [.str a t, .str b u]) Q X.xe s) : MtR X id (fun x xs H Q => ∃ a b, x = .str a ∧ xs = [.str b] ∧ Q (g a b) H) := by
  intro pins s σ H x xs v us Q I rx rs h
  obtain ⟨a, b, rfl, rfl, h⟩ := h
  obtain ⟨t, rfl⟩ := rx
  cases rs with
  | cons r1 rs =>
    cases rs
    obtain ⟨u, rfl⟩ := r1
    exact rule a b t u s _ fun v k r => ⟨g a b, H, I.tok k, r, h⟩
theorem mt_count : MtR X "str.count" (fun x xs H Q => ∃ a b, x = .str a ∧ xs = [.str b] ∧ Q (.int (Txt.count a b)) H) :=
  mt1 (g := fun a b => .int (Txt.count a b)) fun _ _ _ _ s _ h => PySem.SC.count (h _ (s.toks + 1) ⟨_, rfl⟩)
end
section
variable {X : Cx} {o e : Expr} {to te : TE}
end
end L2
namespace L2
open PySem PySem.Spec PyProof.Rows
section
variable {X : Cx}
end
end L2
namespace Att
open PySem PySem.W PySem.Calls PyProof.Rows
theorem ints_of_wellAll {P : Params} {h : Heap} : ∀ (ns : List Int) (vs : List Value), WellAll P h vs (ns.map WData.int) → IntsAre vs ns := by
  intro ns
  induction ns with
  | nil =>
    intro vs w
    rw [List.map_nil] at w
    cases w
    exact .nil
  | cons n ns ih =>
    intro vs w
    rw [List.map_cons] at w
    cases w with
    | cons a b =>
      cases a
      exact .cons _ _ (ih _ b)
theorem script_of {l : OpenLaw} {n : Nat} (hn : l.most = some n) {P : Params} {h : Heap} {args : List WData} {vals : List Value}
    (hpre : l.row.toRowW.claim.pre args = true) (hwl : WellAll P h vals args) :
    ∃ a vs ns, vals = [Value.ref a] ∧ args = [WData.list (ns.map WData.int)] ∧ h.get? a = some { cls := .type "list", data := .seq vs.toArray } ∧ IntsAre vs ns ∧ ns.length ≤ n := by
  have hsh : WShape.hasAll [] args [.list .int] = true := (pre_splitW hpre).1
  have hc : l.pre.holds [] { args := args } = true := (pre_splitW hpre).2
  obtain ⟨d, r, rfl, h1, h2⟩ := hasAllW_cons hsh
  obtain rfl := hasAllW_nil h2
  obtain ⟨xs, rfl, h3⟩ := hasW_list h1
  obtain ⟨ns, rfl⟩ := items_int h3
  have hlen : ns.length ≤ n := by
    unfold OpenLaw.pre at hc
    have h4 : (WTm.not (.lt (.lit (.int (n : Int))) (.len (.arg 0)))).holds [] { args := [.list (ns.map .int)] } = true := by
      have h4 := (holds_andW hc).1
      rw [hn] at h4
      exact h4
    have h5 := condW_of h4 (w_not (w_lt w_lit (w_len_list (w_arg rfl))))
    rw [List.length_map] at h5
    refine Nat.le_of_not_lt fun q => ?_
    have q' : (n : Int) < ((ns.length : Nat) : Int) := by omega
    first
      | (rw [decide_eq_true q'] at h5; exact absurd h5 (by decide))
      | (simp at h5; omega)
  cases hwl with
  | cons w1 w2 =>
    cases w2
    cases w1 with
    | list ho hall => exact ⟨_, _, ns, rfl, rfl, ho, ints_of_wellAll ns _ hall, hlen⟩
theorem post_true (l : OpenLaw) (args : List WData) : l.row.toRowW.claim.post args (.bool true) args = true :=
  postW_of (r := l.row.toRowW) (X := (true == true))
    (show WShape.has [] (.bool true) .bool = true by first | rfl | decide | simp [WShape.has, WShape.arms, WShape.armsAll])
    (show (WTm.eq .res (.lit (.bool true))).value [] { args := args, res := some (.bool true), after := args } = some (.bool (true == true)) from w_eq_bool (w_res rfl) w_lit) rfl
theorem attach_call {l : OpenLaw} {n : Nat} {q : Program} {loose : List Str} {XP : (Str → Option Value) → Heap → Prop} {YP : World → Heap → Prop} {d : DefRec}
    (hn : l.most = some n) (hdf : d.params.defaults = [])
    (call : ∀ (w : World) (s₀ s₁ : Shared) (mg mb : Str → Option Value) (fa : Addr) (o : Obj) (pm cd doc : Value) (a : Addr) (vs : List Value) (ns : List Int),
      Ground q loose [] XP w s₀ mg mb s₁.heap → YP w s₁.heap →
      s₁.heap.get? fa = some o → o.data = .func (docDef d.name d.params d.body d.scope pm cd doc) → s₁.heap.CodeRec cd d.name → mg d.name = some (.ref fa) →
      s₁.heap.get? a = some { cls := .type "list", data := .seq vs.toArray } → IntsAre vs ns → ns.length ≤ n → s₁.gens = #[] →
      codeAny (model l.prog w) callerA (.call (.ref fa) ⟨[.ref a], []⟩) (fun r s' => r = .ok (.ret (.bool true)) ∧ OldK s₁.heap s'.heap ∧ s'.os = s₁.os ∧ AllBare s'.gens) s₁) :
    WalkO q loose XP YP l.row.toRowW d [] (fun f vs => PySem.call f vs) := by
  intro w s₀ s₁ mg mb G Y fa o pm cd doc dV kV ho hd hcd hD hmg hg args vals as hpre hlay hrd hwl hlo
  obtain rfl : dV = .none := Dflts.none hD hdf
  obtain rfl : kV = .none := Dflts.noKw hD
  obtain ⟨a, vs, ns, rfl, rfl, hobj, hints, hlen⟩ := script_of hn hpre hwl
  refine enter_call (codeAny_mono (call w s₀ s₁ mg mb fa o pm cd doc a vs ns G Y ho (fd_plain hd) hcd hmg hobj hints hlen hg) fun r s' hq => ?_)
  obtain ⟨rfl, h2, h3, h4⟩ := hq
  exact ⟨.inl ⟨.bool true, .bool true, [], rfl, fun _ => rfl, .bool true, post_true l _, fun _ => ⟨List.Pairwise.nil, fun _ hm => (nomatch hm)⟩⟩, h2, h3, h4⟩
section
variable {prog : Program} {w : World} {A : Around} {E : Value → Shared → Prop} {s : Shared} {K : Frag}
end
end Att
namespace L2
open PySem PySem.Spec PyProof.Rows
theorem vals_ints : ∀ {vs : List Value} {ns : List Int}, IntsAre vs ns → Vals (ns.map V.int) vs
  | _, _, .nil => .nil
  | _, _, .cons n t h => .cons ⟨t, rfl⟩ (vals_ints h)
def Only (H : Hp) : Prop := ∀ b, H b = none ∨ (∃ o xs, H b = some (.frz o (.lst xs))) ∨ ∃ q, H b = some (.tbl q)
structure TabsIn (K : PySem.W.Frag) (h : Heap) : Prop where
  at' : ∀ p ∈ tabT K, h.get? p.1 = some { cls := .none, data := .fields #[] }
  no : ∀ p ∈ tabT K, K.lookup p.1 = none
  one : ∀ p ∈ tabT K, (tabT K).lookup p.1 = some p.2
  cd : ∀ p ∈ tabT K, ∃ c, PySem.W.codeHdIn K c p.1 = true
theorem law_call {P : Program} {w : World} {K : PySem.W.Frag} {mg mb : Str → Option Value} {CX : CXT} {k : Nat} {fa a : Addr} {fd : FuncData} {x : Str} {sp : Sp} {s₁ : Shared} {vs : List Value} {ns : List Int}
    (KX : K.In s₁.heap) (hns : s₁.heap.Ns mainGlobals mg) (hb : s₁.heap.Ns builtinsNs mb) (hbb : ∀ x : Str, x ≠ "__name__" → mb x = bootBuiltins x) (hlim : s₁.heap.NoLimit) (hg : s₁.gens = #[])
    (ha : s₁.heap.get? a = some { cls := .type "list", data := .seq vs.toArray }) (hi : IntsAre vs ns) (hl : ns.length ≤ sizeLine) (hr : Room k callerA)
    (F : ∀ base : Heap, K.In base → base.Ns mainGlobals mg → FnOk P w K mg base CX k fa fd [x] sp) (hbind : ∀ (s : Shared) (u : Value), BindsTo s fd ⟨[u], []⟩ [(x, u)])
    (hT : TabsIn K s₁.heap) (hbm : ∃ bm ob, mg "__builtins__" = some (.ref bm) ∧ bm ≠ builtinsNs ∧ s₁.heap.get? bm = some ob ∧ ob.cls = .type "module" ∧ ob.dict = some builtinsNs ∧ ob.data = .plain) (hsp : ∀ H : Hp, Only H → SqL K H a (ns.map V.int) → sp [.ref a] H (fun v _ => v = .bl true) fun _ _ _ => False)
    (hCX : ∀ H e s', CX [] H s₁ (fun _ _ _ => False) e s' → False) :
    codeAny (model P w) callerA (.call (.ref fa) ⟨[.ref a], []⟩) (fun r s' => r = .ok (.ret (.bool true)) ∧ OldK s₁.heap s'.heap ∧ s'.os = s₁.os ∧ AllBare s'.gens) s₁ := by
  have rv := vals_ints hi
  have lenV := hi.length
  have core : ∀ H : Hp, Only H → SqL K H a (ns.map V.int) → HOk P w H s₁.heap → (∀ b, H b ≠ none → b = a ∨ s₁.heap.get? b = some { cls := .none, data := .fields #[] }) → (∀ b, H b ≠ none → K.lookup b = none) → (∀ p ∈ tabT K, H p.1 = some (.tbl p.2)) → (∀ b q, H b = some (.tbl q) → s₁.heap.get? b = some { cls := .none, data := .fields #[] } ∧ ∃ c, PySem.W.codeHdIn K c b = true) →
      codeAny (model P w) callerA (.call (.ref fa) ⟨[.ref a], []⟩) (fun r s' => r = .ok (.ret (.bool true)) ∧ OldK s₁.heap s'.heap ∧ s'.os = s₁.os ∧ AllBare s'.gens) s₁ := by
    intro H hO hS hok hA hK hTb hTc
    have base_of : ∀ {b : Addr} {o : Obj}, s₁.heap.get? b = some o → H b = none → (hidT s₁.heap H).get? b = some o := fun e n => hidT_get e n
    have noA : ∀ {b : Addr} {o : Obj} {es : Array DictEntry} {ep : Nat}, s₁.heap.get? b = some o → o.data = .dict es ep → H b = none := fun {b o es ep} e d => by
      cases q : H b with
      | none => rfl
      | some u =>
        rcases hA b (by rw [q]; simp) with e' | e'
        · subst e'
          rw [ha] at e; cases e
          have d' : Data.seq vs.toArray _ = Data.dict es ep := d
          cases d'
        · rw [e'] at e; cases e
          have d' : Data.fields #[] = Data.dict es ep := d
          cases d'
    have nsK : ∀ {b : Addr} {m : Str → Option Value}, s₁.heap.Ns b m → (hidT s₁.heap H).Ns b m := fun {b m} ⟨o, es, ep, e, d, r⟩ => ⟨o, es, ep, base_of e (noA e d), d, r⟩
    have hKb : K.In (hidT s₁.heap H) := fun b o e => base_of (KX b o e) (by
      cases q : H b with
      | none => rfl
      | some u =>
        rw [hK b (by rw [q]; simp)] at e; cases e)
    have hM : Mod K mg (hidT s₁.heap H) := ⟨hKb, nsK hns, ⟨mb, nsK hb, hbb⟩, let ⟨mc, h1, h2⟩ := hlim; ⟨mc, nsK h1, h2⟩, by
      obtain ⟨bm, ob, b1, b2, b3, b4, b5, b6⟩ := hbm
      refine ⟨bm, ob, b1, b2, base_of b3 ?_, b4, b5, b6⟩
      cases q : H bm with
      | none => rfl
      | some u =>
        rcases hA bm (by rw [q]; simp) with e' | e'
        · subst e'
          rw [ha] at b3; cases b3
          have d' : Data.seq vs.toArray _ = Data.plain := b6
          cases d'
        · rw [e'] at b3; cases b3
          have d' : Data.fields #[] = Data.plain := b6
          cases d'⟩
    have e0 : Env0 P w K mg (hidT s₁.heap H) callerA [] s₁ H := ⟨rfl, hM, fun b o e => of_hidT e, Nat.le_of_eq (hidT_size _ _), trivial, fun b hb => absurd (show b ∈ ([] : List Addr) from hb) (by simp), hok, .of_eq hg, hTb⟩
    refine codeAny_mono ((F _ hKb (nsK hns)).run callerA [] s₁ H ⟨[.ref a], []⟩ [.ref a] [.ref a] _ _ hr e0 (hbind s₁ (.ref a)) (.cons rfl .nil) (hsp H hO hS)) fun r s' h => ?_
    cases r with
    | error e => exact (hCX H e s' h).elim
    | ok fl =>
      cases fl with
      | next => exact False.elim h
      | brk => exact False.elim h
      | cont => exact False.elim h
      | ret u =>
        obtain ⟨v, H', os, bare, un, hok', r', q⟩ := h
        have q' : v = .bl true := q
        subst q'
        obtain rfl : u = Value.bool true := r'
        refine ⟨rfl, ⟨fun b o e => ?_, fun b o e => un.there b o e (by simp)⟩, os, bare.1⟩
        cases q : H b with
        | none => exact .inl (un.keep b o e q (by intro z; exact absurd (show b ∈ ([] : List Addr) from z) (by simp)) (by simp))
        | some u =>
          rcases hO b with z | ⟨ob, xs, z⟩ | ⟨qn, z⟩
          · rw [q] at z; cases z
          · have z2 := un.frzs b ob _ z
            obtain ⟨e1, _⟩ := hok b _ z
            obtain ⟨e2, _⟩ := hok' b _ z2
            rw [e] at e1; cases e1
            exact .inl e2
          · obtain ⟨e1, c, hc⟩ := hTc b qn z
            rw [e] at e1; cases e1
            obtain ⟨m, e2⟩ := (un.tbls b qn z).2 #[] e
            obtain ⟨oc, vsc, _, _, _, _, _, _, _, x1, x2, x3, x4, _⟩ := PySem.W.codeHd_of_K KX hc
            exact .inr (.inl ⟨⟨c, oc, vsc, x1, x2, x3, x4⟩, rfl, #[], m, rfl, e2⟩)
  have tl : ∀ b q, (tabT K).lookup b = some q → (b, q) ∈ tabT K := fun b q e => mem_lk e
  have nt : ∀ b, (tabT K).lookup b ≠ none → b ≠ a := fun b e z => by
    cases h : (tabT K).lookup b with
    | none => exact e h
    | some q =>
      have y := hT.at' _ (tl b q h)
      rw [show (b, q).1 = a from z, ha] at y
      cases y
  cases hk : K.lookup a with
  | some o =>
    have e := KX a o hk
    rw [ha] at e
    cases e
    refine core (fun b => ((tabT K).lookup b).map HO.tbl) (fun b => ?_) (.inr ⟨_, vs.toArray, _, hk, rfl, rfl, rfl, by rw [List.size_toArray, lenV]; exact hl, by simpa using rv⟩) (fun b u z => ?_) (fun b z => ?_) (fun b z => ?_) (fun p hp => ?_) fun b q z => ?_
    · cases h : (tabT K).lookup b with
      | none => exact .inl (by simp [h])
      | some q => exact .inr (.inr ⟨q, by simp [h]⟩)
    · cases h : (tabT K).lookup b with
      | none => simp [h] at z
      | some q =>
        simp only [h, Option.map_some, Option.some.injEq] at z
        subst z
        exact ⟨#[], hT.at' _ (tl b q h), trivial⟩
    · cases h : (tabT K).lookup b with
      | none => exact absurd (by simp [h]) z
      | some q => exact .inr (hT.at' _ (tl b q h))
    · cases h : (tabT K).lookup b with
      | none => exact absurd (by simp [h]) z
      | some q => exact hT.no _ (tl b q h)
    · show ((tabT K).lookup p.1).map HO.tbl = _
      rw [hT.one p hp]
      rfl
    · cases h : (tabT K).lookup b with
      | none => simp [h] at z
      | some q => exact ⟨hT.at' _ (tl b q h), hT.cd _ (tl b q h)⟩
  | none =>
    refine core (fun b => if b = a then some (.frz { cls := .type "list", data := .seq vs.toArray } (.lst (ns.map V.int))) else ((tabT K).lookup b).map HO.tbl) (fun b => ?_) (.inl (.inr ⟨{ cls := .type "list", data := .seq vs.toArray }, if_pos rfl⟩)) (fun b u z => ?_) (fun b z => ?_) (fun b z => ?_) (fun p hp => ?_) fun b q z => ?_
    · by_cases hb : b = a
      · exact .inr (.inl ⟨_, _, if_pos hb⟩)
      · dsimp only
        rw [if_neg hb]
        cases h : (tabT K).lookup b with
        | none => exact .inl rfl
        | some q => exact .inr (.inr ⟨q, rfl⟩)
    · by_cases hb : b = a
      · have z' := (if_pos hb).symm.trans z
        cases z'
        subst hb
        exact ⟨ha, by rw [List.length_map]; exact hl, vs, _, rv, ha⟩
      · have z' := (if_neg hb).symm.trans z
        cases h : (tabT K).lookup b with
        | none => rw [h] at z'; cases z'
        | some q =>
          rw [h] at z'
          cases z'
          exact ⟨#[], hT.at' _ (tl b q h), trivial⟩
    · by_cases hb : b = a
      · exact .inl hb
      · try dsimp only at z
        rw [if_neg hb] at z
        cases h : (tabT K).lookup b with
        | none => rw [h] at z; exact absurd rfl z
        | some q => exact .inr (hT.at' _ (tl b q h))
    · by_cases hb : b = a
      · rw [hb]; exact hk
      · try dsimp only at z
        rw [if_neg hb] at z
        cases h : (tabT K).lookup b with
        | none => rw [h] at z; exact absurd rfl z
        | some q => exact hT.no _ (tl b q h)
    · have h1 := hT.one p hp
      have : p.1 ≠ a := nt p.1 (by rw [h1]; simp)
      show (if p.1 = a then _ else ((tabT K).lookup p.1).map HO.tbl) = _
      rw [if_neg this, h1]
      rfl
    · by_cases hb : b = a
      · have z' := (if_pos hb).symm.trans z
        cases z'
      · try dsimp only at z
        rw [if_neg hb] at z
        cases h : (tabT K).lookup b with
        | none => rw [h] at z; cases z
        | some q => exact ⟨hT.at' _ (tl b q h), hT.cd _ (tl b q h)⟩
end L2
namespace L2
open PySem PySem.Spec PyProof.Rows
theorem walk_of {l : PySem.W.OpenLaw} {n k : Nat} {q : Program} {loose : List Str} {XP : (Str → Option Value) → Heap → Prop} {YP : World → Heap → Prop} {d : DefRec} {K : Params → PySem.W.Frag} {CX : World → CXT} {sp : World → Sp} {x : Str}
    (hn : l.most = some n) (hn2 : n ≤ sizeLine) (hdf : d.params.defaults = []) (hr : Room k callerA)
    (hY : ∀ (w : World) (h : Heap), YP w h → (K w.params).In h ∧ TabsIn (K w.params) h)
    (F : ∀ (w : World) (mg : Str → Option Value) (fa : Addr) (h : Heap), (K w.params).In h → h.Ns mainGlobals mg → mg d.name = some (.ref fa) →
      ∃ fd : FuncData, (∀ (s : Shared) (u : Value), BindsTo s fd ⟨[u], []⟩ [(x, u)]) ∧
        ∀ base : Heap, (K w.params).In base → base.Ns mainGlobals mg → FnOk l.prog w (K w.params) mg base (CX w) k fa fd [x] (sp w))
    (hsp : ∀ (w : World) (H : Hp) (a : Addr) (ns : List Int), ns.length ≤ n → Only H → SqL (K w.params) H a (ns.map V.int) → sp w [.ref a] H (fun v _ => v = .bl true) fun _ _ _ => False)
    (hCX : ∀ (w : World) (H : Hp) (s : Shared) (e : Value) (s' : Shared), CX w [] H s (fun _ _ _ => False) e s' → False) :
    PySem.W.WalkO q loose XP YP l.row.toRowW d [] (fun f vs => PySem.call f vs) := by
  refine Att.attach_call hn hdf fun w s₀ s₁ mg mb fa o pm cd doc a vs ns G Y ho hd hcd hmg hobj hints hlen hg => ?_
  obtain ⟨KX, hTI⟩ := hY w _ Y
  obtain ⟨fd, hb, hF⟩ := F w mg fa _ KX G.T.g hmg
  exact law_call KX G.T.g G.T.b G.T.builtins G.T.nolimit hg hobj hints (Nat.le_trans hlen hn2) hr hF hb hTI G.T.bmain (fun H hO hS => hsp w H a ns hlen hO hS) fun H e s' => hCX w H s₁ e s'
end L2
namespace L2
open PySem PySem.Spec PyProof.Rows
def defArgs (s : Stmt) : Arguments := match s with
  | .FunctionDef _ a _ _ _ _ _ _ _ _ => a
  | _ => { posonlyargs := [], args := [], vararg := none, kwonlyargs := [], kw_defaults := [], kwarg := none, defaults := [] }
def defBody (s : Stmt) : List Stmt := match s with
  | .FunctionDef _ _ b _ _ _ _ _ _ _ => b
  | _ => []
def defScope (s : Stmt) : Scope := match s with
  | .FunctionDef _ _ _ _ _ _ sc _ _ _ => sc
  | _ => { kind := .function, names := [], isGenerator := false, isCoroutine := false }
abbrev CX0 : CXT := fun _ _ _ _ _ _ => False
abbrev E0 : XK := fun _ _ _ => False
theorem pass0 {X : Cx} : Passes CX0 X E0 := fun _ _ _ _ _ _ _ h => h.elim
structure Fun (K : PySem.W.Frag) (x qual : Str) (st : Stmt) (f : Addr) (fd : FuncData) : Prop where
  ex : ∃ (oc : Value) (od : Option Addr) (kV doc pm : Value) (an : Option Addr) (cdv ct : Value) (osl : Array (Option Value)),
    fd = PySem.W.fnOf x qual (defArgs st) (defBody st) (defScope st) .none kV doc pm an cdv ct ∧ K.lookup f = some ⟨oc, od, .func fd, osl⟩ ∧ PySem.W.codeIn K cdv qual = true
  kp : PySem.W.keepIn K (.ref f) = true
section
variable {P : Program} {w : World} {K : PySem.W.Frag} {mg : Str → Option Value} {base : Heap}
theorem Fun.ok {x qual : Str} {st : Stmt} {f : Addr} {fd : FuncData} {N ps : List Str} {k : Nat} {sp : Sp} (F : Fun K x qual st f fd) (S : FnScope N ps (defScope st)) (len : ∀ vs H Q E, sp vs H Q E → vs.length = ps.length)
    (hbody : ∀ (cdv : Value) (A : Around) (outer : List Env) (s : Shared) (H : Hp) (vs : List V) (Q : VK) (E : XK), Room k (A.deeper (envOfC qual (defScope st) s.heap.objs.size f cdv)) → sp vs H Q E →
      ∃ t, PSs (cxOf CX0 P w K mg base N qual (defScope st) f cdv A outer s H E).nox (defBody st) t ∧ t { nx := fun _ H' => Q .non H', rt := Q } (start N vs) H) : FnOk P w K mg base CX0 (k + 1) f fd ps sp := by
  obtain ⟨oc, od, kV, doc, pm, an, cdv, ct, osl, rfl, lk, hcd⟩ := F.ex
  refine fn_of lk hcd S len fun A outer s H vs Q E hr hsp => ?_
  obtain ⟨t, h, q⟩ := hbody cdv A outer s H vs Q E hr hsp
  exact ⟨t, h.nox, q⟩
theorem Fun.binds {x qual : Str} {st : Stmt} {f : Addr} {fd : FuncData} {ps : List Str} (F : Fun K x qual st f fd)
    (h : ∀ (kV doc pm : Value) (an : Option Addr) (cdv ct : Value) (us : List Value), us.length = ps.length → bindArgs (PySem.W.fnOf x qual (defArgs st) (defBody st) (defScope st) .none kV doc pm an cdv ct) ⟨us, []⟩ = pure (ps.zip us)) : Binds K fd ps [] := by
  obtain ⟨oc, od, kV, doc, pm, an, cdv, ct, osl, rfl, lk, hcd⟩ := F.ex
  exact .all (h kV doc pm an cdv ct)
theorem fun_mk {x qual : Str} {st : Stmt} {f : Addr} {oc : Value} {od an : Option Addr} {osl : Array (Option Value)} {kV doc pm cdv ct : Value} (l : K.lookup f = some ⟨oc, od, .func (PySem.W.fnOf x qual (defArgs st) (defBody st) (defScope st) .none kV doc pm an cdv ct), osl⟩)
    (c : PySem.W.codeIn K cdv qual = true) (k : PySem.W.keepIn K (.ref f) = true) : Fun K x qual st f (PySem.W.fnOf x qual (defArgs st) (defBody st) (defScope st) .none kV doc pm an cdv ct) := ⟨⟨oc, od, kV, doc, pm, an, cdv, ct, osl, rfl, l, c⟩, k⟩
end
theorem small1000 {n : Nat} (h : n ≤ 1000) : n < sizeLine := Nat.lt_of_le_of_lt h (by decide)
section
variable {X : Cx}
end
theorem iteF {A B : Prop} (h : B) : if false = true then A else B := by
  rw [if_neg Bool.false_ne_true]
  exact h
theorem iteT {A B : Prop} (h : A) : if true = true then A else B := by
  rw [if_pos rfl]
  exact h
def Same (H H' : Hp) : Prop := ∀ b o, H b = some o → H' b = some o
theorem Same.refl (H : Hp) : Same H H := fun _ _ h => h
theorem Same.trans {H H1 H2 : Hp} (a : Same H H1) (b : Same H1 H2) : Same H H2 := fun c o h => b c o (a c o h)
theorem Same.free {H H' : Hp} (e : Same H H') {l : Addr} (h : H' l = Option.none) : H l = Option.none := by
  cases q : H l with
  | none => rfl
  | some o =>
    rw [e l o q] at h
    cases h
theorem Same.seq {K : PySem.W.Frag} {H H' : Hp} {a : Addr} {xs : List V} (e : Same H H') (h : SqL K H a xs) : SqL K H' a xs := by
  rcases h with (h | ⟨o, h⟩) | h
  · exact .inl (.inl (e _ _ h))
  · exact .inl (.inr ⟨o, e _ _ h⟩)
  · exact .inr h
section
variable {κ : Type} [DecidableEq κ]
end
end L2
set_option Elab.async false
set_option linter.all false
set_option maxRecDepth 100000
namespace My
open PySem PySem.Spec PyProof.Rows L2
inductive Th (H : Hp) : V → Prop where
  | non : Th H .non
  | bl (b : Bool) : Th H (.bl b)
  | int (i : Int) : Th H (.int i)
  | str (x : Str) : Th H (.str x)
  | lst {a : Addr} {xs : List V} (e : H a = some (.lst xs)) : Th H (.ref a)
  | tup {a : Addr} {xs : List V} (e : H a = some (.tup xs)) : Th H (.ref a)
inductive Word5 : String → Prop where
  | int : Word5 "int"
  | bool : Word5 "bool"
  | str : Word5 "str"
  | list : Word5 "list"
  | tuple : Word5 "tuple"
section
variable {X : Cx}
theorem pty (n : String) {x : Str} {pos : Pos} (hg : Gl X x) (hm : X.mg x = none) (hv : bootBuiltins x = some (.type n) := by decide +kernel) (hn : x ≠ "__name__" := by decide) (hd : (x == ("__debug__" : Str)) = false := by decide) : PE X (.Name x pos) (tC (.ty n)) :=
  pe_bltn (v := .ty n) hg hm hv rfl hn hd
def CPowB (i j : Int) : Prop := 0 ≤ j ∧ (Builtin.Int.intBits i : Int) * j ≤ 2 ^ 27
theorem op_powB : OpR X (binaryOp .Pow) (rI CPowB fun i j => .int (i ^ j.toNat)) := opI fun _ _ _ _ _ _ _ hc q => pow_int hc.1 hc.2 q
theorem op_mulB : OpR X (binaryOp .Mult) (rI IntMulOk fun i j => .int (i * j)) := opI fun _ _ _ _ _ _ _ hc q => mul_int q hc
def rCatL (K : PySem.W.Frag) : R2 := fun x y H Q => ∃ l b xs zs, x = .ref l ∧ y = .ref b ∧ SqL K H l xs ∧ SqL K H b zs ∧ xs.length + zs.length ≤ sizeLine ∧ ∀ p, H p = none → Q (.ref p) (upd H p (.lst (xs ++ zs)))
theorem op_catL : OpR X (binaryOp .Add) (rCatL X.K) := by
  intro pins s σ H x y v u Q I rx ry h
  obtain ⟨l, b, xs, zs, rfl, rfl, hH, hB, hz, q⟩ := h
  cases rx
  cases ry
  obtain ⟨its, r, ⟨⟨c1, d1, o1, s1⟩, n1, g1, e1, f1, k1⟩, _⟩ := I.list hH
  obtain ⟨its2, r2, ⟨⟨c2, d2, o2, s2⟩, n2, g2, e2, f2, k2⟩, _⟩ := I.list hB
  cases e1
  cases f1
  cases k1
  cases e2
  cases f2
  cases k2
  have w1 := r.length
  have w2 := r2.length
  refine concat_meets ⟨_, g1, rfl⟩ ⟨_, g2, rfl⟩ noFill_list_add seq_list_add PySem.F.slot_list_add PySem.F.entry_list_add (PySem.F.args_list_add_2 _ _)
    (list_addW l b its.toArray its2.toArray n1 n2 none none s1 s2 (by rw [List.size_toArray, List.size_toArray]; omega)) ⟨g1, g2, ?_⟩
  have ea : its.toArray ++ its2.toArray = (its ++ its2).toArray := by simp
  rw [ea]
  exact ⟨.ref _, _, I.lnew (t' := s.toks) (r.append r2) (by rw [List.length_append]; omega), rfl, q _ I.fresh⟩
end
def plainE : Expr → Bool
  | .Starred _ _ => false
  | _ => true
theorem star_plain {e : Expr} {es : List Expr} {env : Env} (h : plainE e = true) : starEach (e :: es) env = (false, eval e env) :: starEach es env := by
  cases e <;> first | rfl | cases h
theorem star_none {env : Env} {pos : Pos} : ∀ {es : List Expr}, es.all plainE = true → (backTo pos (starEach es env)).any (·.1) = false
  | [], _ => rfl
  | e :: es, h => by
    rw [List.all_cons, Bool.and_eq_true] at h
    rw [star_plain h.1]
    have ih := star_none (env := env) (pos := pos) h.2
    unfold backTo at ih ⊢
    simpa using ih
section
variable {X : Cx} {e : Expr} {es : List Expr} {te : TE} {t : TA} {x : Str} {p pos : Pos} {id T : String} {r : List V → Hp → VK → Prop}
theorem pa_c (ha : PE X e te) (hr : PA X es t) (hs : plainE e = true) : PA X (e :: es) (tCons te t) := pa_cons ha hr (star_plain hs)
theorem pcb (hc : CallR X (.builtin id) r) (hg : Gl X x) (hm : X.mg x = none) (hv : bootBuiltins x = some (.builtin id)) (ha : PA X (e :: es) t) (hn : x ≠ "__name__") (hdb : (x == ("__debug__" : Str)) = false) (hp : plainE e = true) (hps : es.all plainE = true) :
    PE X (.Call (.Name x p) (e :: es) [] pos) (tCB r t) := pe_callB hc hg hm hv ha hn hdb (star_plain hp) (star_none hps)
end
section
variable {P : Program} {w : World} {K : PySem.W.Frag} {mg : Str → Option Value} {base : Heap}
structure Df (K : PySem.W.Frag) (mg : Str → Option Value) (x : Str) (st : Stmt) (ps : List Str) : Prop where
  ex : ∃ (f : Addr) (fd : FuncData), Fun K x x st f fd ∧ mg x = some (.ref f) ∧ Binds K fd ps []
structure Ok (P : Program) (w : World) (K : PySem.W.Frag) (mg : Str → Option Value) (base : Heap) (k : Nat) (x : Str) (ps : List Str) (sp : Sp) : Prop where
  ex : ∃ (f : Addr) (fd : FuncData), FnOk P w K mg base CX0 k f fd ps sp ∧ mg x = some (.ref f) ∧ PySem.W.keepIn K (.ref f) = true ∧ Binds K fd ps [] ∧ ∃ o, K.lookup f = some o ∧ o.data = .func fd
theorem Df.ok {x : Str} {st : Stmt} {N ps : List Str} {k : Nat} {sp : Sp} (D : Df K mg x st ps) (S : FnScope N ps (defScope st)) (len : ∀ vs H Q E, sp vs H Q E → vs.length = ps.length)
    (hbody : ∀ (f : Addr) (cdv : Value) (A : Around) (outer : List Env) (s : Shared) (H : Hp) (vs : List V) (Q : VK) (E : XK), Room k (A.deeper (envOfC x (defScope st) s.heap.objs.size f cdv)) → sp vs H Q E →
      ∃ t, PSs (cxOf CX0 P w K mg base N x (defScope st) f cdv A outer s H E).nox (defBody st) t ∧ t { nx := fun _ H' => Q .non H', rt := Q } (start N vs) H) : Ok P w K mg base (k + 1) x ps sp := by
  obtain ⟨f, fd, F, m, b⟩ := D.ex
  refine ⟨f, fd, F.ok S len fun cdv A outer s H vs Q E hr h => hbody f cdv A outer s H vs Q E hr h, m, F.kp, b, ?_⟩
  obtain ⟨oc, od, kV, doc, pm, an, cdv, ct, osl, _, lk, _⟩ := F.ex
  exact ⟨_, lk, rfl⟩
theorem pc {X : Cx} {k j : Nat} {x : Str} {ps : List Str} {sp : Sp} {e : Expr} {es : List Expr} {t : TA} {p pos : Pos} (G : Ok X.prog X.w X.K X.mg X.base k x ps sp) (hr : Room j X.A) (hg : Gl X x) (ha : PA X (e :: es) t) (hp : plainE e = true) (hps : es.all plainE = true) (hj : k ≤ j := by decide)
    (hdb : (x == ("__debug__" : Str)) = false := by decide) : PE X (.Call (.Name x p) (e :: es) [] pos) (tCall sp [] E0 t) := by
  obtain ⟨f, fd, F, m, kp, b, _⟩ := G.ex
  exact pe_call F (hr.mono hj) hg m kp b .nil pass0 ha hdb (star_plain hp) (star_none hps)
theorem df_mk {x : Str} {st : Stmt} {f : Addr} {oc : Value} {od an : Option Addr} {osl : Array (Option Value)} {kV doc pm cdv ct : Value} {h : Heap} {ps : List Str} (X : K.In h) (G : h.Ns mainGlobals mg)
    (a : PySem.W.nsIn K mainGlobals x = some (some (.ref f))) (l : K.lookup f = some ⟨oc, od, .func (PySem.W.fnOf x x (defArgs st) (defBody st) (defScope st) .none kV doc pm an cdv ct), osl⟩)
    (c : PySem.W.codeIn K cdv x = true) (k : PySem.W.keepIn K (.ref f) = true)
    (hb : ∀ (kV doc pm : Value) (an : Option Addr) (cdv ct : Value) (us : List Value), us.length = ps.length → bindArgs (PySem.W.fnOf x x (defArgs st) (defBody st) (defScope st) .none kV doc pm an cdv ct) ⟨us, []⟩ = pure (ps.zip us)) : Df K mg x st ps := by
  have F := fun_mk (st := st) l c k
  exact ⟨_, _, F, PySem.W.mg_of X G a, F.binds hb⟩
end
def Kp (p : Addr) (H H' : Hp) : Prop := ∀ b o, H b = some o → b ≠ p → H' b = some o
theorem Kp.refl (p : Addr) (H : Hp) : Kp p H H := fun _ _ e _ => e
theorem Kp.trans {p : Addr} {H H1 H2 : Hp} (a : Kp p H H1) (b : Kp p H1 H2) : Kp p H H2 := fun c o e n => b c o (a c o e n) n
theorem Kp.of {p : Addr} {H H' : Hp} (s : Same H H') : Kp p H H' := fun b o e _ => s b o e
theorem Kp.put {p : Addr} {H : Hp} {o : HO} : Kp p H (upd H p o) := fun b u e n => by rw [upd_ne n]; exact e
theorem same_new {H : Hp} {p : Addr} (h : H p = none) (o : HO) : Same H (upd H p o) := fun b u q => by rw [upd_ne (ne_of_none q h)]; exact q
theorem Same.th {H H' : Hp} {v : V} (s : Same H H') (h : Th H v) : Th H' v := by
  cases h with
  | non => exact .non
  | bl b => exact .bl b
  | int i => exact .int i
  | str x => exact .str x
  | lst e => exact .lst (s _ _ e)
  | tup e => exact .tup (s _ _ e)
theorem Kp.th {p : Addr} {H H' : Hp} {v : V} {xs : List V} (s : Kp p H H') (hp : H' p = some (.lst xs)) (h : Th H v) : Th H' v := by
  cases h with
  | non => exact .non
  | bl b => exact .bl b
  | int i => exact .int i
  | str x => exact .str x
  | @lst a ys e =>
    by_cases z : a = p
    · subst z
      exact .lst hp
    · exact .lst (s _ _ e z)
  | @tup a ys e =>
    by_cases z : a = p
    · subst z
      exact .lst hp
    · exact .tup (s _ _ e z)
theorem few {n : Nat} (h : n ≤ 1000) : n ≤ sizeLine := Nat.le_of_lt (small1000 h)
end My
namespace My
open PySem PySem.Spec PyProof.Rows L2
structure RE (X : Cx) (e : Expr) (t : TE) : Prop where
  h : PE X e t
structure RT (X : Cx) (e : Expr) (t : TT) : Prop where
  h : PT X e t
structure RW (X : Cx) (e : Expr) (t : TT) : Prop where
  h : PW X e t
structure RA (X : Cx) (es : List Expr) (t : TA) : Prop where
  h : PA X es t
structure RS (X : Cx) (st : Stmt) (t : TS) : Prop where
  h : PS X st t
structure RSs (X : Cx) (st : List Stmt) (t : TS) : Prop where
  h : PSs X st t
structure RG (X : Cx) (e : Expr) (t : TG) : Prop where
  h : PG X e t
structure RGs (X : Cx) (es : List Expr) (t : TGs) : Prop where
  h : PGs X es t
structure RI (X : Cx) (tg e : Expr) (t : TI) : Prop where
  h : PI X tg e t
structure RO (X : Cx) (e : Option Expr) (t : TO) : Prop where
  h : PO X e t
section
variable {X : Cx} {a b c e l o tg : Expr} {es rest : List Expr} {ta tb tc te tl : TE} {tA tB' : TT} {t : TA} {x : Str} {p p2 pos pos' : Pos} {st : Stmt} {sts : List Stmt} {ts us : TS}
end
end My
namespace My
open PySem L2
abbrev D := PyData
theorem sqT_same {K : PySem.W.Frag} {H H' : Hp} {a : Addr} {xs : List V} (e : Same H H') (h : SqT K H a xs) : SqT K H' a xs := by
  rcases h with (h | ⟨o, h⟩) | h
  · exact .inl (.inl (e _ _ h))
  · exact .inl (.inr ⟨o, e _ _ h⟩)
  · exact .inr h
mutual
theorem dp_same {K : PySem.W.Frag} {H H' : Hp} (s : Same H H') : ∀ (d : D) (v : V), Dp K H v d → Dp K H' v d
  | .none, _, h => by cases h; exact .non
  | .bool b, _, h => by cases h; exact .bl b
  | .int i, _, h => by cases h; exact .int i
  | .str x, _, h => by cases h; exact .str x
  | .list ds, _, h => by
    cases h with
    | lst hs ha => exact .lst (s.seq hs) (dpAll_same s ds _ ha)
  | .tuple ds, _, h => by
    cases h with
    | tup hs ha => exact .tup (sqT_same s hs) (dpAll_same s ds _ ha)
  | .dict _, _, h => by cases h
theorem dpAll_same {K : PySem.W.Frag} {H H' : Hp} (s : Same H H') : ∀ (ds : List D) (vs : List V), DpAll K H vs ds → DpAll K H' vs ds
  | [], _, h => by cases h; exact .nil
  | d :: ds, _, h => by
    cases h with
    | cons h1 h2 => exact .cons (dp_same s d _ h1) (dpAll_same s ds _ h2)
end
theorem dpAll_len {K : PySem.W.Frag} {H : Hp} : ∀ {ds : List D} {vs : List V}, DpAll K H vs ds → vs.length = ds.length
  | [], _, h => by cases h; rfl
  | _ :: ds, _, h => by
    cases h with
    | cons _ h2 => rw [List.length_cons, List.length_cons, dpAll_len h2]
theorem dpAll_get {K : PySem.W.Frag} {H : Hp} : ∀ {ds : List D} {vs : List V} {i : Nat} {d : D}, DpAll K H vs ds → ds[i]? = some d → ∃ v, vs[i]? = some v ∧ Dp K H v d
  | [], _, _, _, _, e => by simp at e
  | _ :: _, _, 0, d, h, e => by
    cases h with
    | cons h1 _ => exact ⟨_, rfl, by simp at e; subst e; exact h1⟩
  | _ :: ds, _, i + 1, d, h, e => by
    cases h with
    | cons _ h2 =>
      obtain ⟨v, e1, e2⟩ := dpAll_get (i := i) h2 (by simpa using e)
      exact ⟨v, by simpa using e1, e2⟩
theorem dpAll_get' {K : PySem.W.Frag} {H : Hp} : ∀ {ds : List D} {vs : List V} {i : Nat} {v : V}, DpAll K H vs ds → vs[i]? = some v → ∃ d, ds[i]? = some d ∧ Dp K H v d
  | [], _, _, _, h, e => by cases h; simp at e
  | _ :: _, _, 0, d, h, e => by
    cases h with
    | cons h1 _ => exact ⟨_, rfl, by simp at e; subst e; exact h1⟩
  | _ :: ds, _, i + 1, d, h, e => by
    cases h with
    | cons _ h2 =>
      obtain ⟨v, e1, e2⟩ := dpAll_get' (i := i) h2 (by simpa using e)
      exact ⟨v, by simpa using e1, e2⟩
theorem dpAll_app {K : PySem.W.Frag} {H : Hp} : ∀ {ds es : List D} {vs ws : List V}, DpAll K H vs ds → DpAll K H ws es → DpAll K H (vs ++ ws) (ds ++ es)
  | [], _, _, _, h, h' => by cases h; exact h'
  | _ :: _, _, _, _, h, h' => by
    cases h with
    | cons h1 h2 => exact .cons h1 (dpAll_app h2 h')
theorem dpAll_take {K : PySem.W.Frag} {H : Hp} : ∀ {ds : List D} {vs : List V} (n : Nat), DpAll K H vs ds → DpAll K H (vs.take n) (ds.take n)
  | _, _, 0, _ => by simp; exact .nil
  | [], _, n + 1, h => by cases h; simp; exact .nil
  | _ :: _, _, n + 1, h => by
    cases h with
    | cons h1 h2 => exact .cons h1 (dpAll_take n h2)
theorem dpAll_drop {K : PySem.W.Frag} {H : Hp} : ∀ {ds : List D} {vs : List V} (n : Nat), DpAll K H vs ds → DpAll K H (vs.drop n) (ds.drop n)
  | _, _, 0, h => h
  | [], _, n + 1, h => by cases h; exact .nil
  | _ :: _, _, n + 1, h => by
    cases h with
    | cons h1 h2 => exact dpAll_drop n h2
theorem dpAll_set {K : PySem.W.Frag} {H : Hp} {v : V} {d : D} (hd : Dp K H v d) : ∀ {ds : List D} {vs : List V} (n : Nat), DpAll K H vs ds → DpAll K H (vs.set n v) (ds.set n d)
  | [], _, n, h => by cases h; exact .nil
  | _ :: _, _, 0, h => by
    cases h with
    | cons h1 h2 => exact .cons hd h2
  | _ :: _, _, n + 1, h => by
    cases h with
    | cons h1 h2 => exact .cons h1 (dpAll_set hd n h2)
theorem dpAll_map {K : PySem.W.Frag} {H : Hp} (ns : List Int) : DpAll K H (ns.map V.int) (ns.map PyData.int) := by
  induction ns with
  | nil => exact .nil
  | cons n r ih => exact .cons (.int n) ih
structure Lm where
  q : Str
  params : Arguments
  body : Expr
  scope : Scope
def LamAt (H : Hp) (f : Addr) (L : Lm) : Prop := ∃ (pm : Value) (c : Addr) (ctv : Value), H f = some (.lam L.q (PySem.W.kla_obj "<lambda>" L.q L.params L.body L.scope [] pm c ctv))
theorem LamAt.same {H H' : Hp} {f : Addr} {L : Lm} (s : Same H H') (h : LamAt H f L) : LamAt H' f L := let ⟨pm, c, ctv, a⟩ := h; ⟨pm, c, ctv, s _ _ a⟩
inductive Sl where
  | im (d : D)
  | own (g : Option Nat) (ds : List D)
  | fn (L : Lm)
abbrev Ro := List (Option Sl)
structure Bs where
  G0 : Hp
  H0 : Hp
  π : Nat → Option Addr
structure Rep (K : PySem.W.Frag) (b : Bs) (G H : Hp) (σ : L2.St) (ρ : Ro) : Prop where
  sub : Same G H
  len : σ.length = ρ.length
  im : ∀ (i : Nat) (d : D), ρ[i]? = some (some (.im d)) → ∃ v, σ[i]? = some (some v) ∧ Dp K G v d
  own : ∀ (i : Nat) (g : Option Nat) (ds : List D), ρ[i]? = some (some (.own g ds)) → ∃ p vs, σ[i]? = some (some (.ref p)) ∧ H p = some (.lst vs) ∧ G p = none ∧ DpAll K G vs ds ∧ (∀ n, g = some n → b.π n = some p ∧ b.H0 p ≠ none) ∧ (g = none → b.H0 p = none)
  sep : ∀ (i j : Nat) (g : Option Nat) (ds : List D) (k : Option Nat) (es : List D) (p : Addr), ρ[i]? = some (some (.own g ds)) → ρ[j]? = some (some (.own k es)) → σ[i]? = some (some (.ref p)) → σ[j]? = some (some (.ref p)) → i = j
  fr : ∀ q o, b.H0 q = some o → (∀ n, b.π n ≠ some q) → H q = some o
  nw : ∀ q, b.H0 q ≠ none → b.G0 q = none → G q = none
  dom : ∀ q, b.H0 q ≠ none → H q ≠ none
  bas : Same b.G0 G
  fnn : ∀ (i : Nat) (L : Lm), ρ[i]? = some (some (.fn L)) → ∃ f, σ[i]? = some (some (.ref f)) ∧ LamAt G f L
section
variable {K : PySem.W.Frag} {b : Bs} {G H G' H' : Hp} {σ : L2.St} {ρ : Ro}
theorem Rep.grow (R : Rep K b G H σ ρ) (s1 : Same H H') (s2 : Same G G') (s3 : Same G' H') (nw : ∀ p, G p = none → H p ≠ none → G' p = none) : Rep K b G' H' σ ρ where
  sub := s3
  len := R.len
  im := fun i d e => let ⟨v, e1, e2⟩ := R.im i d e; ⟨v, e1, dp_same s2 _ _ e2⟩
  own := fun i g ds e => by
    obtain ⟨p, vs, e1, e2, e3, e4, e5, e6⟩ := R.own i g ds e
    exact ⟨p, vs, e1, s1 _ _ e2, nw p e3 (by rw [e2]; exact fun z => nomatch z), dpAll_same s2 _ _ e4, e5, e6⟩
  sep := R.sep
  fr := fun q o e n => s1 _ _ (R.fr q o e n)
  nw := fun q e n => nw q (R.nw q e n) (R.dom q e)
  dom := fun q e z => R.dom q e (s1.free z)
  bas := R.bas.trans s2
  fnn := fun i L e => let ⟨f, e1, e2⟩ := R.fnn i L e; ⟨f, e1, e2.same s2⟩
theorem Rep.alloc (R : Rep K b G H σ ρ) {p : Addr} (n : H p = none) (o : HO) : Rep K b (upd G p o) (upd H p o) σ ρ := by
  have n' : G p = none := R.sub.free n
  refine R.grow (same_new n o) (same_new n' o) (fun b u e => ?_) (fun q e1 e2 => ?_)
  · by_cases z : b = p
    · subst z
      rw [upd_same] at e ⊢
      exact e
    · rw [upd_ne z] at e ⊢
      exact R.sub b u e
  · have z : q ≠ p := fun z => e2 (by rw [z]; exact n)
    rw [upd_ne z]
    exact e1
theorem Rep.allocO (R : Rep K b G H σ ρ) {p : Addr} (n : H p = none) (o : HO) : Rep K b G (upd H p o) σ ρ :=
  R.grow (same_new n o) (Same.refl G) (R.sub.trans (same_new n o)) (fun _ e _ => e)
theorem Rep.free0 (R : Rep K b G H σ ρ) {p : Addr} (n : H p = none) : b.H0 p = none := by
  cases e : b.H0 p with
  | none => rfl
  | some o => exact absurd n (R.dom p (by rw [e]; exact fun z => nomatch z))
theorem get_set {α : Type} {l : List α} {i j : Nat} {x y : α} (h : (l.set i x)[j]? = some y) : (i = j ∧ y = x) ∨ (i ≠ j ∧ l[j]? = some y) := by
  rw [List.getElem?_set] at h
  by_cases e : i = j
  · rw [if_pos e] at h
    by_cases e2 : i < l.length
    · rw [if_pos e2] at h
      exact .inl ⟨e, (Option.some.inj h).symm⟩
    · rw [if_neg e2] at h
      cases h
  · rw [if_neg e] at h
    exact .inr ⟨e, h⟩
theorem set_get {α : Type} {l : List α} {i : Nat} {x : α} (h : i < l.length) : (l.set i x)[i]? = some x := by
  rw [List.getElem?_set, if_pos rfl, if_pos h]
theorem set_other {α : Type} {l : List α} {i j : Nat} {x : α} (h : i ≠ j) : (l.set i x)[j]? = l[j]? := by
  rw [List.getElem?_set, if_neg h]
theorem in_of_some {α : Type} {l : List α} {i : Nat} {x : α} (h : l[i]? = some x) : i < l.length := (List.getElem?_eq_some_iff.mp h).1
theorem Rep.setIm (R : Rep K b G H σ ρ) {v : V} {d : D} (i : Nat) (h : Dp K G v d) : Rep K b G H (σ.set i (some v)) (ρ.set i (some (.im d))) where
  sub := R.sub
  len := by rw [List.length_set, List.length_set, R.len]
  im := fun j e hj => by
    rcases get_set hj with ⟨z, e1⟩ | ⟨z, e1⟩
    · subst z
      cases e1
      have hl := in_of_some hj
      rw [List.length_set] at hl
      exact ⟨v, set_get (by rw [R.len]; exact hl), h⟩
    · rw [set_other z]
      exact R.im j e e1
  own := fun j g ds hj => by
    rcases get_set hj with ⟨z, e1⟩ | ⟨z, e1⟩
    · cases e1
    · rw [set_other z]
      exact R.own j g ds e1
  sep := fun j k g ds g' es p hj hk a b => by
    rcases get_set hj with ⟨_, e1⟩ | ⟨z1, e1⟩
    · cases e1
    · rcases get_set hk with ⟨_, e2⟩ | ⟨z2, e2⟩
      · cases e2
      · rw [set_other z1] at a
        rw [set_other z2] at b
        exact R.sep j k g ds g' es p e1 e2 a b
  fr := R.fr
  nw := R.nw
  dom := R.dom
  bas := R.bas
  fnn := fun j L hj => by
    rcases get_set hj with ⟨z, e1⟩ | ⟨z, e1⟩
    · cases e1
    · rw [set_other z]
      exact R.fnn j L e1
theorem Rep.setOwn (R : Rep K b G H σ ρ) {p : Addr} {vs : List V} {ds : List D} (i : Nat) (hp : H p = some (.lst vs)) (hn : G p = none) (hd : DpAll K G vs ds)
    (h0 : b.H0 p = none) (fr : ∀ (j : Nat) (g : Option Nat) (es : List D), ρ[j]? = some (some (.own g es)) → σ[j]? ≠ some (some (.ref p))) : Rep K b G H (σ.set i (some (.ref p))) (ρ.set i (some (.own none ds))) where
  sub := R.sub
  len := by rw [List.length_set, List.length_set, R.len]
  im := fun j e hj => by
    rcases get_set hj with ⟨z, e1⟩ | ⟨z, e1⟩
    · cases e1
    · rw [set_other z]
      exact R.im j e e1
  own := fun j g es hj => by
    rcases get_set hj with ⟨z, e1⟩ | ⟨z, e1⟩
    · subst z
      cases e1
      have hl := in_of_some hj
      rw [List.length_set] at hl
      exact ⟨p, vs, set_get (by rw [R.len]; exact hl), hp, hn, hd, (fun n e => nomatch e), fun _ => h0⟩
    · rw [set_other z]
      exact R.own j g es e1
  sep := fun j k g es g' es' q hj hk a b => by
    rcases get_set hj with ⟨z1, e1⟩ | ⟨z1, e1⟩
    · rcases get_set hk with ⟨z2, e2⟩ | ⟨z2, e2⟩
      · exact z1.symm.trans z2
      · subst z1
        have hl := in_of_some hj
        rw [List.length_set] at hl
        rw [set_get (by rw [R.len]; exact hl)] at a
        cases a
        rw [set_other z2] at b
        exact absurd b (fr k g' es' e2)
    · rcases get_set hk with ⟨z2, e2⟩ | ⟨z2, e2⟩
      · subst z2
        have hl := in_of_some hk
        rw [List.length_set] at hl
        rw [set_get (by rw [R.len]; exact hl)] at b
        cases b
        rw [set_other z1] at a
        exact absurd a (fr j g es e1)
      · rw [set_other z1] at a
        rw [set_other z2] at b
        exact R.sep j k g es g' es' q e1 e2 a b
  fr := R.fr
  nw := R.nw
  dom := R.dom
  bas := R.bas
  fnn := fun j L hj => by
    rcases get_set hj with ⟨z, e1⟩ | ⟨z, e1⟩
    · cases e1
    · rw [set_other z]
      exact R.fnn j L e1
theorem Rep.put (R : Rep K b G H σ ρ) {i : Nat} {g : Option Nat} {ds es : List D} {p : Addr} {ws : List V} (hi : ρ[i]? = some (some (.own g ds))) (hs : σ[i]? = some (some (.ref p))) (hd : DpAll K G ws es) :
    Rep K b G (upd H p (.lst ws)) σ (ρ.set i (some (.own g es))) := by
  obtain ⟨p', vs, f1, f2, f3, f4, f5, f6⟩ := R.own i g ds hi
  rw [hs] at f1
  cases f1
  have hl := in_of_some hi
  refine ⟨fun b u e => ?_, by rw [List.length_set]; exact R.len, fun j d hj => ?_, fun j g' es' hj => ?_, fun j k g1 d1 g2 d2 q hj hk a b => ?_, fun q o e n => ?_, R.nw, fun q e => ?_, R.bas, fun j L hj => ?_⟩
  · have z : b ≠ p := ne_of_none e f3
    rw [upd_ne z]
    exact R.sub b u e
  · rcases get_set hj with ⟨_, e1⟩ | ⟨_, e1⟩
    · cases e1
    · exact R.im j d e1
  · rcases get_set hj with ⟨z, e1⟩ | ⟨z, e1⟩
    · subst z
      cases e1
      exact ⟨p, ws, hs, upd_same, f3, hd, f5, f6⟩
    · obtain ⟨q, us, h1, h2, h3, h4, h5, h6⟩ := R.own j g' es' e1
      have ne : q ≠ p := fun y => by
        subst y
        exact z (R.sep i j g ds g' es' q hi e1 hs h1)
      exact ⟨q, us, h1, by rw [upd_ne ne]; exact h2, h3, h4, h5, h6⟩
  · have hj' : ∃ g0 d0, ρ[j]? = some (some (.own g0 d0)) := by
      rcases get_set hj with ⟨z, _⟩ | ⟨_, e1⟩
      · exact ⟨_, _, by rw [← z]; exact hi⟩
      · exact ⟨_, _, e1⟩
    have hk' : ∃ g0 d0, ρ[k]? = some (some (.own g0 d0)) := by
      rcases get_set hk with ⟨z, _⟩ | ⟨_, e1⟩
      · exact ⟨_, _, by rw [← z]; exact hi⟩
      · exact ⟨_, _, e1⟩
    obtain ⟨_, _, c1⟩ := hj'
    obtain ⟨_, _, c2⟩ := hk'
    exact R.sep j k _ _ _ _ q c1 c2 a b
  · have z : q ≠ p := fun z => by
      subst z
      cases g with
      | none => rw [f6 rfl] at e; cases e
      | some m => exact n m (f5 m rfl).1
    rw [upd_ne z]
    exact R.fr q o e n
  · by_cases z : q = p
    · subst z
      rw [upd_same]
      exact fun y => nomatch y
    · rw [upd_ne z]
      exact R.dom q e
  · rcases get_set hj with ⟨_, e1⟩ | ⟨_, e1⟩
    · cases e1
    · exact R.fnn j L e1
end
end My
namespace My
open PySem L2
abbrev TDE := Ro → Option (D × Ro)
abbrev TDA := Ro → Option (List D × Ro)
abbrev TDT := Ro → Option (Bool × Ro)
structure Grow (G H G' H' : Hp) : Prop where
  s1 : Same H H'
  s2 : Same G G'
  s3 : Same G' H'
  nw : ∀ p, G p = none → H p ≠ none → G' p = none
theorem Grow.refl {G H : Hp} (s : Same G H) : Grow G H G H := ⟨Same.refl _, Same.refl _, s, fun _ e _ => e⟩
theorem Grow.alloc {G H : Hp} (s : Same G H) {p : Addr} (n : H p = none) (o : HO) : Grow G H (upd G p o) (upd H p o) := by
  have n' : G p = none := s.free n
  refine ⟨same_new n o, same_new n' o, fun b u e => ?_, fun q e1 e2 => ?_⟩
  · by_cases z : b = p
    · subst z
      rw [upd_same] at e ⊢
      exact e
    · rw [upd_ne z] at e ⊢
      exact s b u e
  · have z : q ≠ p := fun z => e2 (by rw [z]; exact n)
    rw [upd_ne z]
    exact e1
theorem Rep.grown {K : PySem.W.Frag} {b : Bs} {G H G' H' : Hp} {σ : L2.St} {ρ : Ro} (R : Rep K b G H σ ρ) (g : Grow G H G' H') : Rep K b G' H' σ ρ := R.grow g.s1 g.s2 g.s3 g.nw
def GoE (X : Cx) (t : TE) (T : TDE) : Prop := ∀ (b : Bs) (σ : L2.St) (G H : Hp) (Q : VK) (ρ : Ro) (d : D) (ρ' : Ro), Rep X.K b G H σ ρ → T ρ = some (d, ρ') → (∀ v G' H', Rep X.K b G' H' σ ρ' → Same G G' → Dp X.K G' v d → Q v H') → t σ H Q
def GoA (X : Cx) (t : TA) (T : TDA) : Prop := ∀ (b : Bs) (σ : L2.St) (G H : Hp) (Q : List V → Hp → Prop) (ρ : Ro) (ds : List D) (ρ' : Ro), Rep X.K b G H σ ρ → T ρ = some (ds, ρ') → (∀ vs G' H', Rep X.K b G' H' σ ρ' → Same G G' → DpAll X.K G' vs ds → Q vs H') → t σ H Q
def GoT (X : Cx) (t : TT) (T : TDT) : Prop := ∀ (b : Bs) (σ : L2.St) (G H : Hp) (Q : Bool → Hp → Prop) (ρ : Ro) (c : Bool) (ρ' : Ro), Rep X.K b G H σ ρ → T ρ = some (c, ρ') → (∀ G' H', Rep X.K b G' H' σ ρ' → Same G G' → Q c H') → t σ H Q
structure QE (X : Cx) (e : Expr) (T : TDE) : Prop where
  ex : ∃ t, PE X e t ∧ GoE X t T
structure QA (X : Cx) (es : List Expr) (T : TDA) : Prop where
  ex : ∃ t, PA X es t ∧ GoA X t T
structure QT (X : Cx) (e : Expr) (T : TDT) : Prop where
  ex : ∃ t, PT X e t ∧ GoT X t T
structure QW (X : Cx) (e : Expr) (T : TDT) : Prop where
  ex : ∃ t, PW X e t ∧ GoT X t T
def dVar (i : Nat) : TDE := fun ρ => match ρ[i]? with
  | some (some (.im d)) => some (d, ρ)
  | _ => none
def dC (d : D) : TDE := fun ρ => some (d, ρ)
def dBin (f : D → D → Option D) (A B : TDE) : TDE := fun ρ => match A ρ with
  | some (a, ρ1) => match B ρ1 with
    | some (c, ρ2) => match f a c with
      | some d => some (d, ρ2)
      | none => none
    | none => none
  | none => none
def dUn (f : D → Option D) (A : TDE) : TDE := fun ρ => match A ρ with
  | some (a, ρ1) => match f a with
    | some d => some (d, ρ1)
    | none => none
  | none => none
def dNil : TDA := fun ρ => some ([], ρ)
def dCons (A : TDE) (B : TDA) : TDA := fun ρ => match A ρ with
  | some (a, ρ1) => match B ρ1 with
    | some (as, ρ2) => some (a :: as, ρ2)
    | none => none
  | none => none
def dTup (A : TDA) : TDE := fun ρ => match A ρ with
  | some (ds, ρ1) => if ds.length ≤ 16777216 then some (.tuple ds, ρ1) else none
  | none => none
def dLst (A : TDA) : TDE := fun ρ => match A ρ with
  | some (ds, ρ1) => if ds.length ≤ 16777216 then some (.list ds, ρ1) else none
  | none => none
def dAnd (A B : TDE) : TDE := fun ρ => match A ρ with
  | some (.bool true, ρ1) => B ρ1
  | some (.bool false, ρ1) => some (.bool false, ρ1)
  | _ => none
def dOr (A B : TDE) : TDE := fun ρ => match A ρ with
  | some (.bool true, ρ1) => some (.bool true, ρ1)
  | some (.bool false, ρ1) => B ρ1
  | _ => none
def dIfE (T : TDT) (A B : TDE) : TDE := fun ρ => match T ρ with
  | some (true, ρ1) => A ρ1
  | some (false, ρ1) => B ρ1
  | none => none
def dChain (f g : D → D → Option D) (A B C : TDE) : TDE := fun ρ => match A ρ with
  | some (a, ρ1) => match B ρ1 with
    | some (c, ρ2) => match f a c with
      | some (.bool true) => match C ρ2 with
        | some (e, ρ3) => match g c e with
          | some d => some (d, ρ3)
          | none => none
        | none => none
      | some (.bool false) => some (.bool false, ρ2)
      | _ => none
    | none => none
  | none => none
def notD : D → Option D
  | .bool b => some (.bool (!b))
  | _ => none
def negD : D → Option D
  | .int i => some (.int (-i))
  | _ => none
def tB1 (A : TDE) : TDT := fun ρ => match A ρ with
  | some (.bool b, ρ1) => some (b, ρ1)
  | _ => none
def tAnd2 (A B : TDT) : TDT := fun ρ => match A ρ with
  | some (true, ρ1) => B ρ1
  | some (false, ρ1) => some (false, ρ1)
  | none => none
def tOr2 (A B : TDT) : TDT := fun ρ => match A ρ with
  | some (true, ρ1) => some (true, ρ1)
  | some (false, ρ1) => B ρ1
  | none => none
def tNot1 (A : TDT) : TDT := fun ρ => match A ρ with
  | some (c, ρ1) => some (!c, ρ1)
  | none => none
section
variable {X : Cx} {a b' c e : Expr} {es rest : List Expr} {A B C : TDE} {As : TDA} {T U : TDT} {x : Str} {p pos : Pos}
theorem qe_var (i : Nat) (hN : X.N[i]? = some x := by rfl) (hv : Vis X.env.scope x := by first | exact Or.inl rfl | exact Or.inr (Or.inl rfl) | exact Or.inr (Or.inr rfl)) (hd : (x == ("__debug__" : Str)) = false := by decide)
    (hcd : (x == ("__classdict__" : Str)) = false := by decide) : QE X (.Name x pos) (dVar i) := by
  refine ⟨_, pe_var hN hv hd hcd, fun b σ G H Q ρ d ρ' R h q => ?_⟩
  unfold dVar at h
  split at h
  · next e1 =>
    cases h
    obtain ⟨v, e2, dp⟩ := R.im _ _ e1
    exact ⟨v, e2, q v G H R (Same.refl _) dp⟩
  · cases h
theorem qe_int {i : Int} {j} : QE X (.Constant (.int i) j pos) (dC (.int i)) := ⟨_, pe_int, fun b σ G H Q ρ d ρ' R h q => by cases h; exact q _ G H R (Same.refl _) (.int i)⟩
theorem qe_bl {k : Bool} {j} : QE X (.Constant (.bool k) j pos) (dC (.bool k)) := ⟨_, pe_bl, fun b σ G H Q ρ d ρ' R h q => by cases h; exact q _ G H R (Same.refl _) (.bl k)⟩
theorem qe_str {y : Str} {j} : QE X (.Constant (.str y) j pos) (dC (.str y)) := ⟨_, pe_str, fun b σ G H Q ρ d ρ' R h q => by cases h; exact q _ G H R (Same.refl _) (.str y)⟩
structure OpD (X : Cx) (fop : Value → Value → Sem Value) (f : D → D → Option D) : Prop where
  ex : ∃ r, OpR X fop r ∧ ∀ (x y : V) (G H : Hp) (a c d : D) (Q : VK), Same G H → Dp X.K G x a → Dp X.K G y c → f a c = some d → (∀ v G' H', Grow G H G' H' → Dp X.K G' v d → Q v H') → r x y H Q
theorem bin_some {f : D → D → Option D} {ρ ρ' : Ro} {d : D} (h : dBin f A B ρ = some (d, ρ')) : ∃ a ρ1 c, A ρ = some (a, ρ1) ∧ B ρ1 = some (c, ρ') ∧ f a c = some d := by
  unfold dBin at h
  split at h
  · next a ρ1 e1 =>
    split at h
    · next c ρ2 e2 =>
      split at h
      · next d' e3 =>
        cases h
        exact ⟨a, ρ1, c, e1, e2, e3⟩
      · cases h
    · cases h
  · cases h
theorem qe_op {op : Operator} {f : D → D → Option D} (ho : OpD X (binaryOp op) f) (ha : QE X a A) (hb : QE X b' B) : QE X (.BinOp a op b' pos) (dBin f A B) := by
  obtain ⟨r, h1, h2⟩ := ho.ex
  obtain ⟨ta, pa, ga⟩ := ha.ex
  obtain ⟨tb, pb, gb⟩ := hb.ex
  refine ⟨_, pe_op h1 pa pb, fun b σ G H Q ρ d ρ' R h q => ?_⟩
  obtain ⟨da, ρ1, dc, e1, e2, e3⟩ := bin_some h
  refine ga b σ G H _ ρ da ρ1 R e1 fun v G1 H1 R1 s1 d1 => gb b σ G1 H1 _ ρ1 dc ρ' R1 e2 fun u G2 H2 R2 s2 d2 => ?_
  exact h2 v u G2 H2 da dc d Q R2.sub (dp_same s2 _ _ d1) d2 e3 fun y G' H' g dp => q y G' H' (R2.grown g) (s1.trans (s2.trans g.s2)) dp
theorem qe_cmp {op : CmpOp} {f : D → D → Option D} (ho : OpD X (compareOp op) f) (ha : QE X a A) (hb : QE X b' B) (hm : behindInMarks op b' = false) : QE X (.Compare a [op] [b'] pos) (dBin f A B) := by
  obtain ⟨r, h1, h2⟩ := ho.ex
  obtain ⟨ta, pa, ga⟩ := ha.ex
  obtain ⟨tb, pb, gb⟩ := hb.ex
  refine ⟨_, pe_cmpR h1 pa pb hm, fun b σ G H Q ρ d ρ' R h q => ?_⟩
  obtain ⟨da, ρ1, dc, e1, e2, e3⟩ := bin_some h
  refine ga b σ G H _ ρ da ρ1 R e1 fun v G1 H1 R1 s1 d1 => gb b σ G1 H1 _ ρ1 dc ρ' R1 e2 fun u G2 H2 R2 s2 d2 => ?_
  exact h2 v u G2 H2 da dc d Q R2.sub (dp_same s2 _ _ d1) d2 e3 fun y G' H' g dp => q y G' H' (R2.grown g) (s1.trans (s2.trans g.s2)) dp
theorem qt_cmp {op : CmpOp} {f : D → D → Option D} (ho : OpD X (compareOp op) f) (ha : QE X a A) (hb : QE X b' B) (hm : behindInMarks op b' = false) : QT X (.Compare a [op] [b'] pos) (tB1 (dBin f A B)) := by
  obtain ⟨r, h1, h2⟩ := ho.ex
  obtain ⟨ta, pa, ga⟩ := ha.ex
  obtain ⟨tb, pb, gb⟩ := hb.ex
  refine ⟨_, pt_cmpR h1 pa pb hm, fun b σ G H Q ρ k ρ' R h q => ?_⟩
  unfold tB1 at h
  split at h
  · next k' ρ1 e0 =>
    cases h
    obtain ⟨da, ρ1, dc, e1, e2, e3⟩ := bin_some e0
    refine ga b σ G H _ ρ da ρ1 R e1 fun v G1 H1 R1 s1 d1 => gb b σ G1 H1 _ ρ1 dc ρ' R1 e2 fun u G2 H2 R2 s2 d2 => ?_
    refine h2 v u G2 H2 da dc _ _ R2.sub (dp_same s2 _ _ d1) d2 e3 fun y G' H' g dp => ?_
    cases dp
    exact ⟨_, rfl, q G' H' (R2.grown g) (s1.trans (s2.trans g.s2))⟩
  · cases h
theorem qe_neg (ha : QE X a A) : QE X (.UnaryOp .USub a pos) (dUn negD A) := by
  obtain ⟨ta, pa, ga⟩ := ha.ex
  refine ⟨_, pe_un un_neg pa, fun b σ G H Q ρ d ρ' R h q => ?_⟩
  unfold dUn at h
  split at h
  · next da ρ1 e1 =>
    refine ga b σ G H _ ρ da ρ1 R e1 fun v G1 H1 R1 s1 d1 => ?_
    cases da <;> first | (cases h; cases d1; exact ⟨_, rfl, q _ G1 H1 R1 s1 (.int _)⟩) | (cases h)
  · cases h
theorem qa_nil : QA X [] dNil := ⟨_, pa_nil, fun b σ G H Q ρ ds ρ' R h q => by cases h; exact q [] G H R (Same.refl _) .nil⟩
theorem qa_c (ha : QE X e A) (hr : QA X es As) (hs : plainE e = true) : QA X (e :: es) (dCons A As) := by
  obtain ⟨ta, pa, ga⟩ := ha.ex
  obtain ⟨tb, pb, gb⟩ := hr.ex
  refine ⟨_, pa_c pa pb hs, fun b σ G H Q ρ ds ρ' R h q => ?_⟩
  unfold dCons at h
  split at h
  · next da ρ1 e1 =>
    split at h
    · next ds' ρ2 e2 =>
      cases h
      exact ga b σ G H _ ρ da ρ1 R e1 fun v G1 H1 R1 s1 d1 => gb b σ G1 H1 _ ρ1 ds' ρ' R1 e2 fun us G2 H2 R2 s2 d2 => q (v :: us) G2 H2 R2 (s1.trans s2) (.cons (dp_same s2 _ _ d1) d2)
    · cases h
  · cases h
theorem line_le {n : Nat} (h : n ≤ 16777216) : n ≤ sizeLine := Nat.le_trans h (by decide)
theorem qe_tup {k} (ha : QA X es As) : QE X (.Tuple es k pos) (dTup As) := by
  obtain ⟨ta, pa, ga⟩ := ha.ex
  refine ⟨_, pe_tup pa, fun b σ G H Q ρ d ρ' R h q => ?_⟩
  unfold dTup at h
  split at h
  · next ds ρ1 e1 =>
    split at h
    · next hl =>
      cases h
      refine ga b σ G H _ ρ ds ρ' R e1 fun vs G1 H1 R1 s1 d1 => ⟨by rw [dpAll_len d1]; exact line_le hl, fun p n => ?_⟩
      exact q _ _ _ (R1.alloc n (.tup vs)) (s1.trans (same_new (R1.sub.free n) _)) (.tup (SqT.of upd_same) (dpAll_same (same_new (R1.sub.free n) _) _ _ d1))
    · cases h
  · cases h
theorem qe_lst (ha : QA X es As) : QE X (.List es pos) (dLst As) := by
  obtain ⟨ta, pa, ga⟩ := ha.ex
  refine ⟨_, pe_lst pa, fun b σ G H Q ρ d ρ' R h q => ?_⟩
  unfold dLst at h
  split at h
  · next ds ρ1 e1 =>
    split at h
    · next hl =>
      cases h
      refine ga b σ G H _ ρ ds ρ' R e1 fun vs G1 H1 R1 s1 d1 => ⟨by rw [dpAll_len d1]; exact line_le hl, fun p n => ?_⟩
      exact q _ _ _ (R1.alloc n (.lst vs)) (s1.trans (same_new (R1.sub.free n) _)) (.lst (SqL.of upd_same) (dpAll_same (same_new (R1.sub.free n) _) _ _ d1))
    · cases h
  · cases h
theorem qt_not (h : QT X a T) : QT X (.UnaryOp .Not a pos) (tNot1 T) := by
  obtain ⟨ta, pa, ga⟩ := h.ex
  refine ⟨_, pt_not pa, fun b σ G H Q ρ k ρ' R h q => ?_⟩
  unfold tNot1 at h
  split at h
  · next k' ρ1 e1 =>
    cases h
    exact ga b σ G H _ ρ k' ρ' R e1 fun G1 H1 R1 s1 => q G1 H1 R1 s1
  · cases h
theorem qt_w (h : QW X e T) : QT X e T := by
  obtain ⟨ta, pa, ga⟩ := h.ex
  exact ⟨_, PW.pt pa, ga⟩
theorem qw_and1 (h : QT X a T) : QW X (.BoolOp .And [a] pos) T := by
  obtain ⟨ta, pa, ga⟩ := h.ex
  exact ⟨_, pw_and1 pa, ga⟩
theorem qw_or1 (h : QT X a T) : QW X (.BoolOp .Or [a] pos) T := by
  obtain ⟨ta, pa, ga⟩ := h.ex
  exact ⟨_, pw_or1 pa, ga⟩
theorem qw_and (ha : QT X a T) (hb : QW X (.BoolOp .And (b' :: rest) pos) U) : QW X (.BoolOp .And (a :: b' :: rest) pos) (tAnd2 T U) := by
  obtain ⟨ta, pa, ga⟩ := ha.ex
  obtain ⟨tb, pb, gb⟩ := hb.ex
  refine ⟨_, pw_and pa pb, fun b σ G H Q ρ k ρ' R h q => ?_⟩
  unfold tAnd2 at h
  split at h
  · next ρ1 e1 => exact ga b σ G H _ ρ _ ρ1 R e1 fun G1 H1 R1 s1 => iteT (gb b σ G1 H1 Q ρ1 k ρ' R1 h fun G2 H2 R2 s2 => q G2 H2 R2 (s1.trans s2))
  · next ρ1 e1 =>
    cases h
    exact ga b σ G H _ ρ _ ρ' R e1 fun G1 H1 R1 s1 => iteF (q G1 H1 R1 s1)
  · cases h
theorem qw_or (ha : QT X a T) (hb : QW X (.BoolOp .Or (b' :: rest) pos) U) : QW X (.BoolOp .Or (a :: b' :: rest) pos) (tOr2 T U) := by
  obtain ⟨ta, pa, ga⟩ := ha.ex
  obtain ⟨tb, pb, gb⟩ := hb.ex
  refine ⟨_, pw_or pa pb, fun b σ G H Q ρ k ρ' R h q => ?_⟩
  unfold tOr2 at h
  split at h
  · next ρ1 e1 =>
    cases h
    exact ga b σ G H _ ρ _ ρ' R e1 fun G1 H1 R1 s1 => iteT (q G1 H1 R1 s1)
  · next ρ1 e1 => exact ga b σ G H _ ρ _ ρ1 R e1 fun G1 H1 R1 s1 => iteF (gb b σ G1 H1 Q ρ1 k ρ' R1 h fun G2 H2 R2 s2 => q G2 H2 R2 (s1.trans s2))
  · cases h
theorem qe_ifExp (hc : QT X c T) (ha : QE X a A) (hb : QE X b' B) : QE X (.IfExp c a b' pos) (dIfE T A B) := by
  obtain ⟨tc, pc', gc⟩ := hc.ex
  obtain ⟨ta, pa, ga⟩ := ha.ex
  obtain ⟨tb, pb, gb⟩ := hb.ex
  refine ⟨_, pe_ifExp pc' pa pb, fun b σ G H Q ρ d ρ' R h q => ?_⟩
  unfold dIfE at h
  split at h
  · next ρ1 e1 => exact gc b σ G H _ ρ _ ρ1 R e1 fun G1 H1 R1 s1 => iteT (ga b σ G1 H1 Q ρ1 d ρ' R1 h fun v G2 H2 R2 s2 d2 => q v G2 H2 R2 (s1.trans s2) d2)
  · next ρ1 e1 => exact gc b σ G H _ ρ _ ρ1 R e1 fun G1 H1 R1 s1 => iteF (gb b σ G1 H1 Q ρ1 d ρ' R1 h fun v G2 H2 R2 s2 d2 => q v G2 H2 R2 (s1.trans s2) d2)
  · cases h
end
end My
namespace My
open PySem L2
def addD : D → D → Option D
  | .int i, .int j => some (.int (i + j))
  | .list xs, .list ys => if xs.length + ys.length ≤ 16777216 then some (.list (xs ++ ys)) else none
  | .tuple (x :: xs), .tuple ys => if (x :: xs).length + ys.length ≤ 16777216 then some (.tuple (x :: xs ++ ys)) else none
  | _, _ => none
def subD : D → D → Option D
  | .int i, .int j => some (.int (i - j))
  | _, _ => none
def mulD : D → D → Option D
  | .int i, .int j => if i.natAbs < 2 ^ 2000 ∧ j.natAbs < 2 ^ 2000 then some (.int (i * j)) else none
  | _, _ => none
def modD : D → D → Option D
  | .int i, .int j => if 0 < j then some (.int (i % j)) else none
  | _, _ => none
def fdivD : D → D → Option D
  | .int i, .int j => if 0 < j ∧ j < 1073741824 then some (.int (i / j)) else none
  | _, _ => none
def powD : D → D → Option D
  | .int i, .int j => if 0 ≤ j ∧ j ≤ 1000 ∧ i.natAbs < 2 ^ 2000 then some (.int (i ^ j.toNat)) else none
  | _, _ => none
def ltD : D → D → Option D
  | .int i, .int j => some (.bool (decide (i < j)))
  | .tuple [.int a, .int b], .tuple [.int c, .int d] => some (.bool (HT.lexLt [a, b] [c, d]))
  | _, _ => none
def leD : D → D → Option D
  | .int i, .int j => some (.bool (decide (i ≤ j)))
  | _, _ => none
def gtD : D → D → Option D
  | .int i, .int j => some (.bool (decide (j < i)))
  | _, _ => none
def geD : D → D → Option D
  | .int i, .int j => some (.bool (decide (j ≤ i)))
  | _, _ => none
def neD (x y : D) : Option D := if SeqAt.shaped x = true ∧ SeqAt.shaped y = true then some (.bool (!PyData.eqv x y)) else none
section
variable {X : Cx}
theorem dp_int {K : PySem.W.Frag} {G : Hp} {v : V} {i : Int} (h : Dp K G v (.int i)) : v = .int i := by cases h; rfl
theorem od_int {fop : Value → Value → Sem Value} {C : Int → Int → Prop} {g : Int → Int → V} {gd : Int → Int → D} {f : D → D → Option D} (ho : OpR X fop (rI C g)) (hg : ∀ i j G, Dp X.K G (g i j) (gd i j))
    (hf : ∀ a c d, f a c = some d → ∃ i j, a = .int i ∧ c = .int j ∧ C i j ∧ d = gd i j) : OpD X fop f := by
  refine ⟨_, ho, fun x y G H a c d Q s hx hy e q => ?_⟩
  obtain ⟨i, j, rfl, rfl, hc, rfl⟩ := hf a c d e
  exact ⟨i, j, dp_int hx, dp_int hy, hc, q _ G H (Grow.refl s) (hg i j G)⟩
theorem od_int0 {fop : Value → Value → Sem Value} {g : Int → Int → V} {gd : Int → Int → D} {f : D → D → Option D} (ho : OpR X fop (rI0 g)) (hg : ∀ i j G, Dp X.K G (g i j) (gd i j))
    (hf : ∀ a c d, f a c = some d → ∃ i j, a = .int i ∧ c = .int j ∧ d = gd i j) : OpD X fop f := by
  refine ⟨_, ho, fun x y G H a c d Q s hx hy e q => ?_⟩
  obtain ⟨i, j, rfl, rfl, rfl⟩ := hf a c d e
  exact ⟨i, j, dp_int hx, dp_int hy, q _ G H (Grow.refl s) (hg i j G)⟩
theorem od_sub : OpD X (binaryOp .Sub) subD := od_int0 op_sub (fun i j G => .int _) fun a c d e => by
  unfold subD at e
  split at e <;> first | (cases e; exact ⟨_, _, rfl, rfl, rfl⟩) | cases e
theorem od_le : OpD X (compareOp .LtE) leD := od_int0 op_le (fun i j G => .bl _) fun a c d e => by
  unfold leD at e
  split at e <;> first | (cases e; exact ⟨_, _, rfl, rfl, rfl⟩) | cases e
theorem od_gt : OpD X (compareOp .Gt) gtD := od_int0 op_gt (fun i j G => .bl _) fun a c d e => by
  unfold gtD at e
  split at e <;> first | (cases e; exact ⟨_, _, rfl, rfl, rfl⟩) | cases e
theorem od_ge : OpD X (compareOp .GtE) geD := od_int0 op_ge (fun i j G => .bl _) fun a c d e => by
  unfold geD at e
  split at e <;> first | (cases e; exact ⟨_, _, rfl, rfl, rfl⟩) | cases e
theorem od_mul : OpD X (binaryOp .Mult) mulD := od_int op_mulB (fun i j G => .int _) fun a c d e => by
  unfold mulD at e
  split at e
  · split at e
    · next h =>
      cases e
      exact ⟨_, _, rfl, rfl, IntMulOk.of_le (PyProof.Rows.intBits_le h.1) (PyProof.Rows.intBits_le h.2) (by decide), rfl⟩
    · cases e
  · cases e
theorem od_mod : OpD X (binaryOp .Mod) modD := od_int op_mod (fun i j G => .int _) fun a c d e => by
  unfold modD at e
  split at e
  · split at e
    · next h =>
      cases e
      exact ⟨_, _, rfl, rfl, h, rfl⟩
    · cases e
  · cases e
theorem od_fdiv : OpD X (binaryOp .FloorDiv) fdivD := od_int op_fdiv (fun i j G => .int _) fun a c d e => by
  unfold fdivD at e
  split at e
  · split at e
    · next h =>
      cases e
      exact ⟨_, _, rfl, rfl, h, rfl⟩
    · cases e
  · cases e
theorem od_pow : OpD X (binaryOp .Pow) powD := od_int op_powB (fun i j G => .int _) fun a c d e => by
  unfold powD at e
  split at e
  · next i j =>
    split at e
    · next h =>
      cases e
      have k := PyProof.Rows.intBits_le h.2.2
      have k' : (Builtin.Int.intBits i : Int) * j ≤ 2000 * 1000 := Int.mul_le_mul (by omega) h.2.1 h.1 (by decide)
      exact ⟨_, _, rfl, rfl, ⟨h.1, Int.le_trans k' (by decide)⟩, rfl⟩
    · cases e
  · cases e
theorem dp_tuple {K : PySem.W.Frag} {G : Hp} {v : V} {ds : List D} (h : Dp K G v (.tuple ds)) : ∃ a xs, v = .ref a ∧ SqT K G a xs ∧ DpAll K G xs ds := by
  cases h with
  | tup hs ha => exact ⟨_, _, rfl, hs, ha⟩
theorem dp_list {K : PySem.W.Frag} {G : Hp} {v : V} {ds : List D} (h : Dp K G v (.list ds)) : ∃ a xs, v = .ref a ∧ SqL K G a xs ∧ DpAll K G xs ds := by
  cases h with
  | lst hs ha => exact ⟨_, _, rfl, hs, ha⟩
theorem pair_ints {K : PySem.W.Frag} {G : Hp} {xs : List V} {a b : Int} (h : DpAll K G xs [.int a, .int b]) : xs = [a, b].map V.int := by
  cases h with
  | cons h1 h2 =>
    cases h2 with
    | cons h3 h4 =>
      cases h4
      rw [dp_int h1, dp_int h3]
      rfl
theorem od_lt (hu : X.A.units < cLine) : OpD X (compareOp .Lt) ltD := by
  refine ⟨_, OpR.or op_lt (op_ltT hu), fun x y G H a c d Q s hx hy e q => ?_⟩
  unfold ltD at e
  split at e
  · cases e
    exact .inl ⟨_, _, dp_int hx, dp_int hy, q _ G H (Grow.refl s) (.bl _)⟩
  · cases e
    obtain ⟨p, xs, rfl, h1, h2⟩ := dp_tuple hx
    obtain ⟨r, ys, rfl, h3, h4⟩ := dp_tuple hy
    rw [pair_ints h2] at h1
    rw [pair_ints h4] at h3
    exact .inr ⟨p, r, _, _, rfl, rfl, sqT_same s h1, sqT_same s h3, q _ G H (Grow.refl s) (.bl _)⟩
  · cases e
theorem od_add : OpD X (binaryOp .Add) addD := by
  refine ⟨_, OpR.or op_add (OpR.or op_catL op_catT), fun x y G H a c d Q s hx hy e q => ?_⟩
  unfold addD at e
  split at e
  · cases e
    exact .inl ⟨_, _, dp_int hx, dp_int hy, q _ G H (Grow.refl s) (.int _)⟩
  · split at e
    · next hl =>
      cases e
      obtain ⟨p, xs, rfl, h1, h2⟩ := dp_list hx
      obtain ⟨r, ys, rfl, h3, h4⟩ := dp_list hy
      refine .inr (.inl ⟨p, r, xs, ys, rfl, rfl, s.seq h1, s.seq h3, by rw [dpAll_len h2, dpAll_len h4]; exact line_le hl, fun t n => ?_⟩)
      have n' := s.free n
      exact q _ _ _ (Grow.alloc s n _) (.lst (SqL.of upd_same) (dpAll_same (same_new n' _) _ _ (dpAll_app h2 h4)))
    · cases e
  · split at e
    · next hl =>
      cases e
      obtain ⟨p, xs, rfl, h1, h2⟩ := dp_tuple hx
      obtain ⟨r, ys, rfl, h3, h4⟩ := dp_tuple hy
      have lx := dpAll_len h2
      have ly := dpAll_len h4
      refine .inr (.inr ⟨p, r, xs, ys, rfl, rfl, sqT_same s h1, sqT_same s h3, fun z => ?_, by rw [lx, ly]; exact line_le hl, fun z => ?_, fun z t n => ?_⟩)
      · rw [z] at lx
        cases lx
      · subst z
        cases h4
        rw [List.append_nil] at q
        exact q _ G H (Grow.refl s) (.tup h1 h2)
      · have n' := s.free n
        exact q _ _ _ (Grow.alloc s n _) (.tup (SqT.of upd_same) (dpAll_same (same_new n' _) _ _ (dpAll_app h2 h4)))
    · cases e
  · cases e
def ixD : D → D → Option D
  | .list xs, .int i => atI xs i
  | .tuple xs, .int i => atI xs i
  | _, _ => none
variable {a b' e : Expr} {A B : TDE} {x : Str} {p pos : Pos}
theorem at_dp {K : PySem.W.Frag} {G : Hp} {xs : List V} {ds : List D} {i : Int} {d : D} (h : DpAll K G xs ds) (e : atI ds i = some d) : ∃ v, atI xs i = some v ∧ Dp K G v d := by
  unfold atI at e ⊢
  rw [dpAll_len h]
  cases z : ixN ds.length i with
  | none => rw [z] at e; cases e
  | some j =>
    rw [z] at e
    exact dpAll_get h e
theorem qe_ix (ha : QE X a A) (hb : QE X b' B) (hs : PlainIx b') : QE X (.Subscript a b' pos) (dBin ixD A B) := by
  obtain ⟨ta, pa, ga⟩ := ha.ex
  obtain ⟨tb, pb, gb⟩ := hb.ex
  refine ⟨_, pe_ix (ix_list.or ix_tup) pa pb hs, fun b σ G H Q ρ d ρ' R h q => ?_⟩
  obtain ⟨da, ρ1, dc, e1, e2, e3⟩ := bin_some h
  refine ga b σ G H _ ρ da ρ1 R e1 fun v G1 H1 R1 s1 d1 => gb b σ G1 H1 _ ρ1 dc ρ' R1 e2 fun u G2 H2 R2 s2 d2 => ?_
  have d1' := dp_same s2 _ _ d1
  unfold ixD at e3
  split at e3
  · obtain ⟨r, xs, rfl, h1, h2⟩ := dp_list d1'
    obtain ⟨y, h3, h4⟩ := at_dp h2 e3
    exact .inl ⟨r, xs, _, y, rfl, dp_int d2, R2.sub.seq h1, h3, q y G2 H2 R2 (s1.trans s2) h4⟩
  · obtain ⟨r, xs, rfl, h1, h2⟩ := dp_tuple d1'
    obtain ⟨y, h3, h4⟩ := at_dp h2 e3
    exact .inr ⟨r, xs, _, y, rfl, dp_int d2, sqT_same R2.sub h1, h3, q y G2 H2 R2 (s1.trans s2) h4⟩
  · cases e3
def lenD : List D → Option D
  | [.list xs] => some (.int xs.length)
  | [.tuple xs] => some (.int xs.length)
  | _ => none
structure BiD (X : Cx) (fv : Value) (f : List D → Option D) : Prop where
  ex : ∃ r, CallR X fv r ∧ ∀ (xs : List V) (G H : Hp) (as : List D) (d : D) (Q : VK), Same G H → DpAll X.K G xs as → f as = some d → (∀ v G' H', Grow G H G' H' → Dp X.K G' v d → Q v H') → r xs H Q
def dBi (f : List D → Option D) (A : TDA) : TDE := fun ρ => match A ρ with
  | some (as, ρ1) => match f as with
    | some d => some (d, ρ1)
    | none => none
  | none => none
theorem qe_bi {id : String} {f : List D → Option D} {es : List Expr} {As : TDA} (hc : BiD X (.builtin id) f) (hg : Gl X x) (hm : X.mg x = none) (hv : bootBuiltins x = some (.builtin id)) (ha : QA X (e :: es) As) (hp : plainE e = true) (hps : es.all plainE = true) (hn : x ≠ "__name__" := by decide) (hdb : (x == ("__debug__" : Str)) = false := by decide) :
    QE X (.Call (.Name x p) (e :: es) [] pos) (dBi f As) := by
  obtain ⟨r, h1, h2⟩ := hc.ex
  obtain ⟨ta, pa, ga⟩ := ha.ex
  refine ⟨_, pcb h1 hg hm hv pa hn hdb hp hps, fun b σ G H Q ρ d ρ' R h q => ?_⟩
  unfold dBi at h
  split at h
  · next as ρ1 e1 =>
    split at h
    · next d' e2 =>
      cases h
      refine ga b σ G H _ ρ as ρ' R e1 fun vs G1 H1 R1 s1 d1 => ?_
      exact h2 vs G1 H1 as _ Q R1.sub d1 e2 fun v G' H' g dp => q v G' H' (R1.grown g) (s1.trans g.s2) dp
    · cases h
  · cases h
theorem bi_len : BiD X (.builtin "len") lenD := by
  refine ⟨_, call_len_seq, fun xs G H as d Q s hx e q => ?_⟩
  unfold lenD at e
  split at e
  · cases e
    cases hx with
    | cons h1 h2 =>
      cases h2
      obtain ⟨r, ys, rfl, h3, h4⟩ := dp_list h1
      refine ⟨r, ys, rfl, .inl (s.seq h3), ?_⟩
      rw [dpAll_len h4]
      exact q _ G H (Grow.refl s) (.int _)
  · cases e
    cases hx with
    | cons h1 h2 =>
      cases h2
      obtain ⟨r, ys, rfl, h3, h4⟩ := dp_tuple h1
      refine ⟨r, ys, rfl, .inr (sqT_same s h3), ?_⟩
      rw [dpAll_len h4]
      exact q _ G H (Grow.refl s) (.int _)
  · cases e
end
end My
namespace My
open PySem PySem.Spec L2
inductive Out where
  | nx (ρ : Ro)
  | bk (ρ : Ro)
  | ct (ρ : Ro)
  | rt (d : D) (ρ : Ro)
  | rl (ds : List D) (ρ : Ro)
abbrev TDS := Ro → Option Out
def Fin (K : PySem.W.Frag) (b : Bs) (G : Hp) (E : Ends) : Out → Prop
  | .nx ρ' => ∀ σ' G' H', Rep K b G' H' σ' ρ' → Same G G' → E.nx σ' H'
  | .bk ρ' => ∀ σ' G' H', Rep K b G' H' σ' ρ' → Same G G' → E.bk σ' H'
  | .ct ρ' => ∀ σ' G' H', Rep K b G' H' σ' ρ' → Same G G' → E.ct σ' H'
  | .rt d ρ' => ∀ v σ' G' H', Rep K b G' H' σ' ρ' → Same G G' → Dp K G' v d → E.rt v H'
  | .rl ds ρ' => ∀ p vs σ' G' H', Rep K b G' H' σ' ρ' → Same G G' → H' p = some (.lst vs) → G' p = none → b.H0 p = none → DpAll K G' vs ds → E.rt (.ref p) H'
theorem Fin.up {K : PySem.W.Frag} {b : Bs} {G G' : Hp} {E : Ends} {o : Out} (h : Fin K b G E o) (s : Same G G') : Fin K b G' E o := by
  cases o with
  | nx ρ => exact fun σ' G2 H' R s2 => h σ' G2 H' R (s.trans s2)
  | bk ρ => exact fun σ' G2 H' R s2 => h σ' G2 H' R (s.trans s2)
  | ct ρ => exact fun σ' G2 H' R s2 => h σ' G2 H' R (s.trans s2)
  | rt d ρ => exact fun v σ' G2 H' R s2 dp => h v σ' G2 H' R (s.trans s2) dp
  | rl ds ρ => exact fun p vs σ' G2 H' R s2 a1 a2 a3 a4 => h p vs σ' G2 H' R (s.trans s2) a1 a2 a3 a4
def GoS (X : Cx) (t : TS) (T : TDS) : Prop := ∀ (b : Bs) (σ : L2.St) (G H : Hp) (E : Ends) (ρ : Ro) (o : Out), Rep X.K b G H σ ρ → T ρ = some o → Fin X.K b G E o → t E σ H
structure QS (X : Cx) (st : Stmt) (T : TDS) : Prop where
  ex : ∃ t, PS X st t ∧ GoS X t T
structure QB (X : Cx) (sts : List Stmt) (T : TDS) : Prop where
  ex : ∃ t, PSs X sts t ∧ GoS X t T
abbrev TDG := D → Ro → Option Ro
def GoG (X : Cx) (g : TG) (T : TDG) : Prop := ∀ (b : Bs) (σ : L2.St) (G H : Hp) (Q : L2.St → Hp → Prop) (v : V) (d : D) (ρ ρ' : Ro), Rep X.K b G H σ ρ → Dp X.K G v d → T d ρ = some ρ' → (∀ σ' G' H', Rep X.K b G' H' σ' ρ' → Same G G' → Q σ' H') → g v σ H Q
structure QG (X : Cx) (e : Expr) (T : TDG) : Prop where
  ex : ∃ g, PG X e g ∧ GoG X g T
def GoGs (X : Cx) (g : TGs) (T : List D → Ro → Option Ro) : Prop := ∀ (b : Bs) (σ : L2.St) (G H : Hp) (Q : L2.St → Hp → Prop) (vs : List V) (ds : List D) (ρ ρ' : Ro), Rep X.K b G H σ ρ → DpAll X.K G vs ds → T ds ρ = some ρ' → (∀ σ' G' H', Rep X.K b G' H' σ' ρ' → Same G G' → Q σ' H') → g vs σ H Q
structure QGs (X : Cx) (es : List Expr) (T : List D → Ro → Option Ro) : Prop where
  ex : ∃ g, PGs X es g ∧ GoGs X g T
def dRet (A : TDE) : TDS := fun ρ => match A ρ with
  | some (d, ρ1) => some (.rt d ρ1)
  | none => none
def dSet (i : Nat) (A : TDE) : TDS := fun ρ => match A ρ with
  | some (d, ρ1) => some (.nx (ρ1.set i (some (.im d))))
  | none => none
def dAsg (A : TDE) (g : TDG) : TDS := fun ρ => match A ρ with
  | some (d, ρ1) => match g d ρ1 with
    | some ρ2 => some (.nx ρ2)
    | none => none
  | none => none
def dExpr (A : TDE) : TDS := fun ρ => match A ρ with
  | some (_, ρ1) => some (.nx ρ1)
  | none => none
def dIf (T : TDT) (S U : TDS) : TDS := fun ρ => match T ρ with
  | some (true, ρ1) => S ρ1
  | some (false, ρ1) => U ρ1
  | none => none
def dSkip : TDS := fun ρ => some (.nx ρ)
def dSeq (S U : TDS) : TDS := fun ρ => match S ρ with
  | some (.nx ρ1) => U ρ1
  | o => o
def gNameD (i : Nat) : TDG := fun d ρ => some (ρ.set i (some (.im d)))
def gNilD : List D → Ro → Option Ro := fun ds ρ => match ds with
  | [] => some ρ
  | _ => none
def gConsD (g : TDG) (gs : List D → Ro → Option Ro) : List D → Ro → Option Ro := fun ds ρ => match ds with
  | d :: r => match g d ρ with
    | some ρ1 => gs r ρ1
    | none => none
  | [] => none
def gTupD (n : Nat) (gs : List D → Ro → Option Ro) : TDG := fun d ρ => match d with
  | .tuple ds => if ds.length = n then gs ds ρ else none
  | _ => none
def forD (g : TDG) (S : TDS) : List D → Ro → Option Out
  | [], ρ => some (.nx ρ)
  | d :: ds, ρ => match g d ρ with
    | some ρ1 => match S ρ1 with
      | some (.nx ρ2) => forD g S ds ρ2
      | some (.ct ρ2) => forD g S ds ρ2
      | some (.bk ρ2) => some (.nx ρ2)
      | some (.rt e ρ2) => some (.rt e ρ2)
      | some (.rl es ρ2) => some (.rl es ρ2)
      | none => none
    | none => none
def whileD (T : TDT) (S : TDS) : Nat → TDS
  | 0, _ => none
  | n + 1, ρ => match T ρ with
    | some (true, ρ1) => match S ρ1 with
      | some (.nx ρ2) => whileD T S n ρ2
      | some (.ct ρ2) => whileD T S n ρ2
      | some (.bk ρ2) => some (.nx ρ2)
      | some (.rt e ρ2) => some (.rt e ρ2)
      | some (.rl es ρ2) => some (.rl es ρ2)
      | none => none
    | some (false, ρ1) => some (.nx ρ1)
    | none => none
section
variable {X : Cx} {a b' c e tg it : Expr} {es rest : List Expr} {A B C : TDE} {T U : TDT} {S S' : TDS} {x : Str} {p pos pos' : Pos} {st : Stmt} {sts sa sb : List Stmt} {g : TDG} {gs : List D → Ro → Option Ro}
theorem qs_ret (h : QE X e A) : QS X (.Return (some e) pos) (dRet A) := by
  obtain ⟨ta, pa, ga⟩ := h.ex
  refine ⟨_, ps_ret pa, fun b σ G H E ρ o R h f => ?_⟩
  unfold dRet at h
  split at h
  · next d ρ1 e1 =>
    cases h
    exact ga b σ G H _ ρ d ρ1 R e1 fun v G1 H1 R1 s1 d1 => f v σ G1 H1 R1 s1 d1
  · cases h
theorem qs_expr (h : QE X e A) (hs : swapsWith e none pos.line X.env = pure false := by rfl) : QS X (.Expr e pos) (dExpr A) := by
  obtain ⟨ta, pa, ga⟩ := h.ex
  refine ⟨_, ps_expr pa hs, fun b σ G H E ρ o R h f => ?_⟩
  unfold dExpr at h
  split at h
  · next d ρ1 e1 =>
    cases h
    exact ga b σ G H _ ρ d ρ1 R e1 fun v G1 H1 R1 s1 d1 => f σ G1 H1 R1 s1
  · cases h
theorem qs_set {i : Nat} (hN : X.N.Nodup) (hi : X.N[i]? = some x) (hx : Loc X.env.scope x) (h : QE X e A) (hs : swapsWith e (some (.Name x pos')) pos.line X.env = pure false := by rfl) (hf : X.fn x = true ∨ X.env.scope.names.lookup x = some .local := by first | exact .inl rfl | exact .inr rfl | assumption) :
    QS X (.Assign [.Name x pos'] e pos) (dSet i A) := by
  obtain ⟨ta, pa, ga⟩ := h.ex
  refine ⟨_, ps_set hN hi hx pa hs hf, fun b σ G H E ρ o R h f => ?_⟩
  unfold dSet at h
  split at h
  · next d ρ1 e1 =>
    cases h
    exact ga b σ G H _ ρ d ρ1 R e1 fun v G1 H1 R1 s1 d1 => f _ G1 H1 (R1.setIm i d1) s1
  · cases h
theorem qs_asg (h : QE X e A) (hg : QG X tg g) (hs : swapsWithSole [tg] e pos.line X.env = pure false := by rfl) (hw : swappedStores [tg] e X.env = pure none := by rfl)
    (h1 : (assignEach [tg] X.env).map (·.2) = [assign tg X.env] := by rfl) : QS X (.Assign [tg] e pos) (dAsg A g) := by
  obtain ⟨ta, pa, ga⟩ := h.ex
  obtain ⟨tt, pg, gg⟩ := hg.ex
  refine ⟨_, ps_asg pa pg hs hw h1, fun b σ G H E ρ o R h f => ?_⟩
  unfold dAsg at h
  split at h
  · next d ρ1 e1 =>
    split at h
    · next ρ2 e2 =>
      cases h
      exact ga b σ G H _ ρ d ρ1 R e1 fun v G1 H1 R1 s1 d1 => gg b σ G1 H1 _ v d ρ1 ρ2 R1 d1 e2 fun σ' G2 H2 R2 s2 => f σ' G2 H2 R2 (s1.trans s2)
    · cases h
  · cases h
theorem qg_name {i : Nat} (hN : X.N.Nodup) (hi : X.N[i]? = some x) (hx : Loc X.env.scope x) (hf : X.fn x = true ∨ X.env.scope.names.lookup x = some .local := by first | exact .inl rfl | exact .inr rfl | assumption) : QG X (.Name x pos) (gNameD i) := by
  refine ⟨_, pg_name hN hi hx hf, fun b σ G H Q v d ρ ρ' R dp h q => ?_⟩
  cases h
  exact q _ G H (R.setIm i dp) (Same.refl _)
theorem qgs_nil : QGs X [] gNilD := by
  refine ⟨_, pgs_nil, fun b σ G H Q vs ds ρ ρ' R dp h q => ?_⟩
  unfold gNilD at h
  split at h
  · cases h
    cases dp
    exact ⟨rfl, q _ G H R (Same.refl _)⟩
  · cases h
theorem qgs_cons (h1 : QG X e g) (h2 : QGs X es gs) (hs : (assignEach (e :: es) X.env).map (·.2) = assign e X.env :: (assignEach es X.env).map (·.2) := by rfl) : QGs X (e :: es) (gConsD g gs) := by
  obtain ⟨t1, p1, k1⟩ := h1.ex
  obtain ⟨t2, p2, k2⟩ := h2.ex
  refine ⟨_, pgs_cons p1 p2 hs, fun b σ G H Q vs ds ρ ρ' R dp h q => ?_⟩
  unfold gConsD at h
  split at h
  · next d r =>
    split at h
    · next ρ1 e1 =>
      cases dp with
      | cons q1 q2 =>
        exact ⟨_, _, rfl, k1 b σ G H _ _ d ρ ρ1 R q1 e1 fun σ1 G1 H1 R1 s1 => k2 b σ1 G1 H1 _ _ r ρ1 ρ' R1 (dpAll_same s1 _ _ q2) h fun σ2 G2 H2 R2 s2 => q σ2 G2 H2 R2 (s1.trans s2)⟩
    · cases h
  · cases h
theorem qg_tup {k n : Nat} (hc : X.calm = true) (h : QGs X es gs) (hn : (assignEach es X.env).length = n := by rfl) (hst : (assignEach es X.env).findIdx? (·.1) = none := by rfl) : QG X (.Tuple es k pos) (gTupD n gs) := by
  obtain ⟨t1, p1, k1⟩ := h.ex
  refine ⟨_, pg_tup hc p1 hn hst, fun b σ G H Q v d ρ ρ' R dp h q => ?_⟩
  unfold gTupD at h
  split at h
  · next ds =>
    split at h
    · next hl =>
      obtain ⟨r, xs, rfl, h1, h2⟩ := dp_tuple dp
      exact ⟨r, xs, rfl, sqT_same R.sub h1, by rw [dpAll_len h2]; exact hl, k1 b σ G H Q xs ds ρ ρ' R h2 h q⟩
    · cases h
  · cases h
theorem qs_if (hc : QT X c T) (ha : QB X sa S) (hb : QB X sb S') : QS X (.If c sa sb pos) (dIf T S S') := by
  obtain ⟨tc, pc', gc⟩ := hc.ex
  obtain ⟨ta, pa, ga⟩ := ha.ex
  obtain ⟨tb, pb, gb⟩ := hb.ex
  refine ⟨_, ps_if pc' pa pb, fun b σ G H E ρ o R h f => ?_⟩
  unfold dIf at h
  split at h
  · next ρ1 e1 => exact gc b σ G H _ ρ _ ρ1 R e1 fun G1 H1 R1 s1 => iteT (ga b σ G1 H1 E ρ1 o R1 h (f.up s1))
  · next ρ1 e1 => exact gc b σ G H _ ρ _ ρ1 R e1 fun G1 H1 R1 s1 => iteF (gb b σ G1 H1 E ρ1 o R1 h (f.up s1))
  · cases h
theorem qb_nil : QB X [] dSkip := ⟨_, pss_nil, fun b σ G H E ρ o R h f => by cases h; exact f σ G H R (Same.refl _)⟩
theorem qb_one (h : QS X st S) : QB X [st] S := by
  obtain ⟨ta, pa, ga⟩ := h.ex
  exact ⟨_, pss_one pa, ga⟩
theorem qb_cons (h1 : QS X st S) (h2 : QB X sts S') : QB X (st :: sts) (dSeq S S') := by
  obtain ⟨ta, pa, ga⟩ := h1.ex
  obtain ⟨tb, pb, gb⟩ := h2.ex
  refine ⟨_, pss_cons pa pb, fun b σ G H E ρ o R h f => ?_⟩
  show ta { E with nx := tb E } σ H
  unfold dSeq at h
  split at h
  · next ρ1 e1 =>
    exact ga b σ G H _ ρ _ R e1 fun σ' G' H' R' s' => gb b σ' G' H' E ρ1 o R' h (f.up s')
  · next o' hne =>
    refine ga b σ G H _ ρ o R h ?_
    cases o with
    | nx ρ1 => exact absurd h (hne ρ1)
    | bk ρ1 => exact f
    | ct ρ1 => exact f
    | rt d ρ1 => exact f
    | rl ds ρ1 => exact f
theorem for_turn {K : PySem.W.Frag} {t : TG} {tb : TS} {b : Bs} {G1 H : Hp} {σ : L2.St} {E : Ends} {o : Out} {ds : List D} {i : Nat} {v : V} {d : D} {Pv : Nat → L2.St → Hp → Prop} (hX : X.K = K) (gg : GoG X t g) (gb : GoS X tb S)
    (hP : ∀ j σ H, Pv j σ H ↔ ∃ G' ρ', Rep K b G' H σ ρ' ∧ Same G1 G' ∧ forD g S (ds.drop j) ρ' = some o) (f : Fin K b G1 E o) (hd : ds[i]? = some d) (hv : Dp K G1 v d) (h : Pv i σ H) :
    t v σ H fun σ2 H2 => tb { E with nx := Pv (i + 1), ct := Pv (i + 1), bk := E.nx } σ2 H2 := by
  subst hX
  obtain ⟨G', ρ', R, s, e⟩ := (hP i σ H).mp h
  have hi := in_of_some hd
  rw [List.drop_eq_getElem_cons hi, (List.getElem?_eq_some_iff.mp hd).2] at e
  unfold forD at e
  split at e
  · next ρ1 e1 =>
    refine gg b σ G' H _ v d ρ' ρ1 R (dp_same s _ _ hv) e1 fun σ2 G2 H2 R2 s2 => ?_
    split at e
    · next ρ2 e2 => exact gb b σ2 G2 H2 _ ρ1 _ R2 e2 fun σ3 G3 H3 R3 s3 => (hP (i + 1) σ3 H3).mpr ⟨G3, ρ2, R3, s.trans (s2.trans s3), e⟩
    · next ρ2 e2 => exact gb b σ2 G2 H2 _ ρ1 _ R2 e2 fun σ3 G3 H3 R3 s3 => (hP (i + 1) σ3 H3).mpr ⟨G3, ρ2, R3, s.trans (s2.trans s3), e⟩
    · next ρ2 e2 =>
      cases e
      exact gb b σ2 G2 H2 _ ρ1 _ R2 e2 fun σ3 G3 H3 R3 s3 => f σ3 G3 H3 R3 (s.trans (s2.trans s3))
    · next d2 ρ2 e2 =>
      cases e
      exact gb b σ2 G2 H2 _ ρ1 _ R2 e2 fun v3 σ3 G3 H3 R3 s3 d3 => f v3 σ3 G3 H3 R3 (s.trans (s2.trans s3)) d3
    · next es2 ρ2 e2 =>
      cases e
      exact gb b σ2 G2 H2 _ ρ1 _ R2 e2 fun p3 v3 σ3 G3 H3 R3 s3 a1 a2 a3 a4 => f p3 v3 σ3 G3 H3 R3 (s.trans (s2.trans s3)) a1 a2 a3 a4
    · cases e
  · cases e
theorem qs_while (n : Nat) (hc : QT X c T) (hb : QB X sts S) (hp : PassesOwn (model X.prog X.w) X.A X.env X.xe) : QS X (.While c sts [] pos) (whileD T S n) := by
  obtain ⟨tc, pc', gc⟩ := hc.ex
  obtain ⟨tb, pb, gb⟩ := hb.ex
  refine ⟨_, ps_while hp pc' pb, fun b σ G H E ρ o R h f => ?_⟩
  refine ⟨fun m σ H => ∃ G' ρ', Rep X.K b G' H σ ρ' ∧ Same G G' ∧ whileD T S m ρ' = some o, ⟨n, G, ρ, R, Same.refl _, h⟩, ?_⟩
  rintro m σ H ⟨G', ρ', R', s', e⟩
  cases m with
  | zero => cases e
  | succ m =>
    unfold whileD at e
    split at e
    · next ρ1 e1 =>
      refine gc b σ G' H _ ρ' _ ρ1 R' e1 fun G1 H1 R1 s1 => iteT ⟨fun σ H => ∃ G' ρ', Rep X.K b G' H σ ρ' ∧ Same G G' ∧ whileD T S m ρ' = some o, fun σ' H' hP => ⟨m, Nat.lt_succ_self _, hP⟩, ?_⟩
      split at e
      · next ρ2 e2 => exact gb b σ G1 H1 _ ρ1 _ R1 e2 fun σ3 G3 H3 R3 s3 => ⟨G3, ρ2, R3, s'.trans (s1.trans s3), e⟩
      · next ρ2 e2 => exact gb b σ G1 H1 _ ρ1 _ R1 e2 fun σ3 G3 H3 R3 s3 => ⟨G3, ρ2, R3, s'.trans (s1.trans s3), e⟩
      · next ρ2 e2 =>
        cases e
        exact gb b σ G1 H1 _ ρ1 _ R1 e2 fun σ3 G3 H3 R3 s3 => f σ3 G3 H3 R3 (s'.trans (s1.trans s3))
      · next d2 ρ2 e2 =>
        cases e
        exact gb b σ G1 H1 _ ρ1 _ R1 e2 fun v3 σ3 G3 H3 R3 s3 d3 => f v3 σ3 G3 H3 R3 (s'.trans (s1.trans s3)) d3
      · next es2 ρ2 e2 =>
        cases e
        exact gb b σ G1 H1 _ ρ1 _ R1 e2 fun p3 v3 σ3 G3 H3 R3 s3 a1 a2 a3 a4 => f p3 v3 σ3 G3 H3 R3 (s'.trans (s1.trans s3)) a1 a2 a3 a4
      · cases e
    · next ρ1 e1 =>
      cases e
      exact gc b σ G' H _ ρ' _ ρ1 R' e1 fun G1 H1 R1 s1 => iteF (f σ G1 H1 R1 (s'.trans s1))
    · cases e
end
end My
namespace My
open PySem PySem.Spec L2
abbrev FD := List Sl → Option (D × List Sl)
def spD (K : PySem.W.Frag) (F : FD) : Sp := fun vs H Q _ => ∃ (G : Hp) (π : Nat → Option Addr) (ps : List Sl) (d : D) (ps' : List Sl), Rep K ⟨G, H, π⟩ G H (vs.map some) (ps.map some) ∧ F ps = some (d, ps') ∧
  ∀ v G' H', Rep K ⟨G, H, π⟩ G' H' (vs.map some) (ps'.map some) → Dp K G' v d → Q v H'
def outP : List Sl → Ro → Option (List Sl)
  | [], _ => some []
  | .im d :: ps, _ :: ρ => match outP ps ρ with
    | some r => some (.im d :: r)
    | none => none
  | .fn L :: ps, _ :: ρ => match outP ps ρ with
    | some r => some (.fn L :: r)
    | none => none
  | .own (some n) _ :: ps, some (.own (some m) es) :: ρ => if n = m then (match outP ps ρ with
    | some r => some (.own (some n) es :: r)
    | none => none) else none
  | _, _ => none
def fnD (np m : Nat) (T : TDS) : FD := fun ps => if ps.length = np then (match T (ps.map some ++ List.replicate m none) with
  | some (.rt d ρ) => (match outP ps ρ with
    | some r => some (d, r)
    | none => none)
  | some (.rl ds ρ) => (match outP ps ρ with
    | some r => some (.list ds, r)
    | none => none)
  | some (.nx ρ) => (match outP ps ρ with
    | some r => some (.none, r)
    | none => none)
  | _ => none) else none
abbrev FL := List Sl → Option (List D × List Sl)
def spL (K : PySem.W.Frag) (F : FL) : Sp := fun vs H Q _ => ∃ (G : Hp) (π : Nat → Option Addr) (ps : List Sl) (ds : List D) (ps' : List Sl), Rep K ⟨G, H, π⟩ G H (vs.map some) (ps.map some) ∧ F ps = some (ds, ps') ∧
  ∀ p us G' H', Rep K ⟨G, H, π⟩ G' H' (vs.map some) (ps'.map some) → H' p = some (.lst us) → G' p = none → H p = none → DpAll K G' us ds → Q (.ref p) H'
def fnL (np m : Nat) (T : TDS) : FL := fun ps => if ps.length = np then (match T (ps.map some ++ List.replicate m none) with
  | some (.rl ds ρ) => (match outP ps ρ with
    | some r => some (ds, r)
    | none => none)
  | _ => none) else none
theorem outP_at : ∀ {ps ps' : List Sl} {ρ : Ro}, outP ps ρ = some ps' → ps'.length = ps.length ∧ ∀ (i : Nat) (s : Sl), ps'[i]? = some s → (∃ d, s = .im d ∧ ps[i]? = some (.im d)) ∨ (∃ n ds es, s = .own (some n) es ∧ ps[i]? = some (.own (some n) ds) ∧ ρ[i]? = some (some (.own (some n) es))) ∨ ∃ L, s = .fn L ∧ ps[i]? = some (.fn L)
  | [], ps', ρ, h => by
    unfold outP at h
    cases h
    exact ⟨rfl, fun i s e => by simp at e⟩
  | .im d :: ps, ps', [], h => by
    unfold outP at h
    cases h
  | .im d :: ps, ps', y :: ρ, h => by
    unfold outP at h
    split at h
    · next r e =>
      cases h
      obtain ⟨l, k⟩ := outP_at e
      refine ⟨by rw [List.length_cons, List.length_cons, l], fun i s q => ?_⟩
      cases i with
      | zero =>
        simp at q
        exact .inl ⟨d, q.symm, rfl⟩
      | succ i =>
        simp at q
        rcases k i s q with ⟨d', a, b⟩ | ⟨n, ds, es, a, b, c⟩ | ⟨L, a, b⟩
        · exact .inl ⟨d', a, by simpa using b⟩
        · exact .inr (.inl ⟨n, ds, es, a, by simpa using b, by simpa using c⟩)
        · exact .inr (.inr ⟨L, a, by simpa using b⟩)
    · cases h
  | .fn L0 :: ps, ps', [], h => by
    unfold outP at h
    cases h
  | .fn L0 :: ps, ps', y :: ρ, h => by
    unfold outP at h
    split at h
    · next r e =>
      cases h
      obtain ⟨l, k⟩ := outP_at e
      refine ⟨by rw [List.length_cons, List.length_cons, l], fun i s q => ?_⟩
      cases i with
      | zero =>
        simp at q
        exact .inr (.inr ⟨L0, q.symm, rfl⟩)
      | succ i =>
        simp at q
        rcases k i s q with ⟨d', a, b⟩ | ⟨n, ds, es, a, b, c⟩ | ⟨L, a, b⟩
        · exact .inl ⟨d', a, by simpa using b⟩
        · exact .inr (.inl ⟨n, ds, es, a, by simpa using b, by simpa using c⟩)
        · exact .inr (.inr ⟨L, a, by simpa using b⟩)
    · cases h
  | .own g ds :: ps, ps', ρ, h => by
    unfold outP at h
    split at h
    · next hh => cases hh
    · next hh => cases hh
    · next hh => cases hh
    · next n ds' ps1 m es ρ1 hh =>
      cases hh
      split at h
      · next hm =>
        subst hm
        split at h
        · next r e =>
          cases h
          obtain ⟨l, k⟩ := outP_at e
          refine ⟨by rw [List.length_cons, List.length_cons, l], fun i s q => ?_⟩
          cases i with
          | zero =>
            simp at q
            exact .inr (.inl ⟨n, ds, es, q.symm, rfl, rfl⟩)
          | succ i =>
            simp at q
            rcases k i s q with ⟨d', a, b⟩ | ⟨n', ds1, es1, a, b, c⟩ | ⟨L, a, b⟩
            · exact .inl ⟨d', a, by simpa using b⟩
            · exact .inr (.inl ⟨n', ds1, es1, a, by simpa using b, by simpa using c⟩)
            · exact .inr (.inr ⟨L, a, by simpa using b⟩)
        · cases h
      · cases h
    · cases h
theorem map_some_get {α : Type} {l : List α} {i : Nat} {x : Option α} (h : (l.map some)[i]? = some x) : ∃ y, x = some y ∧ l[i]? = some y := by
  rw [List.getElem?_map] at h
  cases e : l[i]? with
  | none => rw [e] at h; cases h
  | some y =>
    rw [e] at h
    exact ⟨y, (Option.some.inj h).symm, rfl⟩
theorem map_some_of {α : Type} {l : List α} {i : Nat} {y : α} (h : l[i]? = some y) : (l.map some)[i]? = some (some y) := by
  rw [List.getElem?_map, h]
  rfl
theorem map_some_in {α : Type} {l : List α} {i : Nat} {y : α} (h : (l.map some)[i]? = some (some y)) : l[i]? = some y := by
  obtain ⟨z, e1, e2⟩ := map_some_get h
  cases e1
  exact e2
theorem pad_in {α : Type} {l : List (Option α)} {m i : Nat} {y : α} (h : (l ++ List.replicate m none)[i]? = some (some y)) : l[i]? = some (some y) := by
  by_cases hi : i < l.length
  · rw [List.getElem?_append_left hi] at h
    exact h
  · rw [List.getElem?_append_right (by omega), List.getElem?_replicate] at h
    split at h <;> cases h
theorem pad_of {α : Type} {l r : List (Option α)} {i : Nat} {y : Option α} (h : l[i]? = some y) : (l ++ r)[i]? = some y := by
  rw [List.getElem?_append_left (in_of_some h)]
  exact h
section
variable {K : PySem.W.Frag} {b : Bs} {G H G' H' : Hp} {σ : L2.St} {ρ : Ro}
theorem Rep.pad (R : Rep K b G H σ ρ) (m : Nat) : Rep K b G H (σ ++ List.replicate m none) (ρ ++ List.replicate m none) where
  sub := R.sub
  len := by rw [List.length_append, List.length_append, R.len, List.length_replicate, List.length_replicate]
  im := fun i d e => let ⟨v, e1, e2⟩ := R.im i d (pad_in e); ⟨v, pad_of e1, e2⟩
  own := fun i g ds e => let ⟨p, vs, e1, e2⟩ := R.own i g ds (pad_in e); ⟨p, vs, pad_of e1, e2⟩
  sep := fun i j g ds k es p h1 h2 h3 h4 => R.sep i j g ds k es p (pad_in h1) (pad_in h2) (pad_in h3) (pad_in h4)
  fr := R.fr
  nw := R.nw
  dom := R.dom
  bas := R.bas
  fnn := fun i L e => let ⟨f, e1, e2⟩ := R.fnn i L (pad_in e); ⟨f, pad_of e1, e2⟩
theorem Rep.leave {vs : List V} {ps ps' : List Sl} {π : Nat → Option Addr} (R : Rep K ⟨G, H, π⟩ G H (vs.map some) (ps.map some)) (R' : Rep K ⟨G, H, π⟩ G' H' σ ρ) (h : outP ps ρ = some ps') : Rep K ⟨G, H, π⟩ G' H' (vs.map some) (ps'.map some) := by
  obtain ⟨hl, k⟩ := outP_at h
  have hlen := R.len
  rw [List.length_map, List.length_map] at hlen
  have ow : ∀ (i : Nat) (g : Option Nat) (es : List D), (ps'.map some)[i]? = some (some (.own g es)) → ∃ n ds, g = some n ∧ (ps.map some)[i]? = some (some (.own (some n) ds)) ∧ ρ[i]? = some (some (.own (some n) es)) := fun i g es e => by
    rcases k i _ (map_some_in e) with ⟨d, a, _⟩ | ⟨n, ds, es', a, c, d⟩ | ⟨L, a, _⟩
    · cases a
    · cases a
      exact ⟨n, ds, rfl, map_some_of c, d⟩
    · cases a
  refine ⟨R'.sub, by rw [List.length_map, List.length_map, hl, hlen], fun i d e => ?_, fun i g es e => ?_, fun i j g ds g' es p h1 h2 h3 h4 => ?_, R'.fr, R'.nw, R'.dom, R'.bas, fun i L e => ?_⟩
  · rcases k i _ (map_some_in e) with ⟨d', a, c⟩ | ⟨n, ds, es, a, _, _⟩ | ⟨L, a, _⟩
    · cases a
      obtain ⟨v, e1, e2⟩ := R.im i d (map_some_of c)
      exact ⟨v, e1, dp_same R'.bas _ _ e2⟩
    · cases a
    · cases a
  · obtain ⟨n, ds, rfl, c, d⟩ := ow i g es e
    obtain ⟨p, us, f1, f2, f3, f4, f5, f6⟩ := R.own i _ _ c
    obtain ⟨p', us', g1, g2, g3, g4, g5, g6⟩ := R'.own i _ _ d
    have z := (f5 n rfl).1.symm.trans (g5 n rfl).1
    cases z
    exact ⟨p, us', f1, g2, g3, g4, g5, fun y => nomatch y⟩
  · obtain ⟨n, ds1, _, c1, _⟩ := ow i g ds h1
    obtain ⟨m, ds2, _, c2, _⟩ := ow j g' es h2
    exact R.sep i j _ _ _ _ p c1 c2 h3 h4
  · rcases k i _ (map_some_in e) with ⟨d', a, c⟩ | ⟨n, ds, es, a, _, _⟩ | ⟨L', a, c⟩
    · cases a
    · cases a
    · cases a
      obtain ⟨f, e1, e2⟩ := R.fnn i L (map_some_of c)
      exact ⟨f, e1, e2.same R'.bas⟩
theorem Rep.frz {p : Addr} {us : List V} (R : Rep K b G H σ ρ) (h1 : H p = some (.lst us)) (h2 : G p = none) (h3 : b.H0 p = none) (h4 : ∀ (j : Nat) (g : Option Nat) (es : List D), ρ[j]? = some (some (.own g es)) → σ[j]? ≠ some (some (.ref p))) : Rep K b (upd G p (.lst us)) H σ ρ where
  sub := fun c o e => by
    by_cases z : c = p
    · subst z
      rw [upd_same] at e
      cases e
      exact h1
    · rw [upd_ne z] at e
      exact R.sub c o e
  len := R.len
  im := fun i d e => let ⟨v, e1, e2⟩ := R.im i d e; ⟨v, e1, dp_same (same_new h2 _) _ _ e2⟩
  own := fun i g ds e => by
    obtain ⟨q, vs, e1, e2, e3, e4, e5⟩ := R.own i g ds e
    have z : q ≠ p := fun z => by
      subst z
      exact h4 i g ds e e1
    exact ⟨q, vs, e1, e2, by rw [upd_ne z]; exact e3, dpAll_same (same_new h2 _) _ _ e4, e5⟩
  sep := R.sep
  fr := R.fr
  nw := fun q e n => by
    have z : q ≠ p := fun z => by
      subst z
      exact e h3
    rw [upd_ne z]
    exact R.nw q e n
  dom := R.dom
  bas := R.bas.trans (same_new h2 _)
  fnn := fun i L e => let ⟨f, e1, e2⟩ := R.fnn i L e; ⟨f, e1, e2.same (same_new h2 _)⟩
theorem Rep.args {vs : List V} {ds : List D} (s : Same G H) (h : DpAll K G vs ds) : Rep K ⟨G, H, fun _ => none⟩ G H (vs.map some) ((ds.map Sl.im).map some) where
  sub := s
  len := by rw [List.length_map, List.length_map, List.length_map, dpAll_len h]
  im := fun i d e => by
    have e1 := map_some_in e
    rw [List.getElem?_map] at e1
    cases e2 : ds[i]? with
    | none => rw [e2] at e1; cases e1
    | some d' =>
      rw [e2] at e1
      cases e1
      obtain ⟨v, e3, e4⟩ := dpAll_get h e2
      exact ⟨v, map_some_of e3, e4⟩
  own := fun i g es e => by
    have e1 := map_some_in e
    rw [List.getElem?_map] at e1
    cases e2 : ds[i]? with
    | none => rw [e2] at e1; cases e1
    | some d' => rw [e2] at e1; cases e1
  sep := fun i j g es g' es' p e _ _ _ => by
    have e1 := map_some_in e
    rw [List.getElem?_map] at e1
    cases e2 : ds[i]? with
    | none => rw [e2] at e1; cases e1
    | some d' => rw [e2] at e1; cases e1
  fr := fun q o e _ => e
  nw := fun q _ e => e
  dom := fun q e => e
  bas := Same.refl _
  fnn := fun i L e => by
    have e1 := map_some_in e
    rw [List.getElem?_map] at e1
    cases e2 : ds[i]? with
    | none => rw [e2] at e1; cases e1
    | some d' => rw [e2] at e1; cases e1
end
section
variable {P : Program} {w : World} {K : PySem.W.Frag} {mg : Str → Option Value} {base : Heap}
theorem ok_fn {x : Str} {st : Stmt} {N ps : List Str} {k : Nat} {T : TDS} (Df0 : Df K mg x st ps) (S : FnScope N ps (defScope st))
    (hb : ∀ (f : Addr) (cdv : Value) (A : Around) (outer : List PySem.Env) (s : Shared) (H : Hp) (E : XK), Room k (A.deeper (PyProof.Rows.envOfC x (defScope st) s.heap.objs.size f cdv)) → QB (cxOf CX0 P w K mg base N x (defScope st) f cdv A outer s H E).nox (defBody st) T) :
    Ok P w K mg base (k + 1) x ps (spD K (fnD ps.length (N.length - ps.length) T)) := by
  refine Df0.ok S (fun vs H Q E h => ?_) (fun f cdv A outer s H vs Q E hr h => ?_)
  · obtain ⟨G, π, qs, d, qs', R, e, _⟩ := h
    have l := R.len
    rw [List.length_map, List.length_map] at l
    unfold fnD at e
    split at e
    · next hl => rw [l, hl]
    · cases e
  · obtain ⟨G, π, qs, d, qs', R, e, q⟩ := h
    obtain ⟨t, pt, gt⟩ := (hb f cdv A outer s H E hr).ex
    have l := R.len
    rw [List.length_map, List.length_map] at l
    refine ⟨t, pt, ?_⟩
    unfold fnD at e
    split at e
    · next hl =>
      have es : L2.start N vs = vs.map some ++ List.replicate (N.length - ps.length) none := by
        unfold L2.start
        rw [l, hl]
      rw [es]
      have R0 := R.pad (N.length - ps.length)
      split at e
      · next d' ρ e1 =>
        split at e
        · next r e2 =>
          cases e
          exact gt _ _ G H _ _ _ R0 e1 fun v σ' G' H' R' s' dp => q v G' H' (R.leave R' e2) dp
        · cases e
      · next ds ρ e1 =>
        split at e
        · next r e2 =>
          cases e
          exact gt _ _ G H _ _ _ R0 e1 fun p us σ' G' H' R' s' a1 a2 a3 a4 => q _ _ H' ((R.leave R' e2).frz a1 a2 a3 fun j g es hj z => by
            obtain ⟨q1, _, b1, _, _, _, b5, b6⟩ := (R.leave R' e2).own j g es hj
            rw [z] at b1
            cases b1
            rcases outP_at e2 with ⟨_, kk⟩
            rcases kk j _ (map_some_in hj) with ⟨_, y, _⟩ | ⟨n, _, _, y, _, _⟩ | ⟨_, y, _⟩
            · cases y
            · cases y
              exact (b5 n rfl).2 a3
            · cases y) (.lst (SqL.of upd_same) (dpAll_same (same_new a2 _) _ _ a4))
        · cases e
      · next ρ e1 =>
        split at e
        · next r e2 =>
          cases e
          exact gt _ _ G H _ _ _ R0 e1 fun σ' G' H' R' s' => q .non G' H' (R.leave R' e2) .non
        · cases e
      · cases e
    · cases e
theorem ok_fnL {x : Str} {st : Stmt} {N ps : List Str} {k : Nat} {T : TDS} (Df0 : Df K mg x st ps) (S : FnScope N ps (defScope st))
    (hb : ∀ (f : Addr) (cdv : Value) (A : Around) (outer : List PySem.Env) (s : Shared) (H : Hp) (E : XK), Room k (A.deeper (PyProof.Rows.envOfC x (defScope st) s.heap.objs.size f cdv)) → QB (cxOf CX0 P w K mg base N x (defScope st) f cdv A outer s H E).nox (defBody st) T) :
    Ok P w K mg base (k + 1) x ps (spL K (fnL ps.length (N.length - ps.length) T)) := by
  refine Df0.ok S (fun vs H Q E h => ?_) (fun f cdv A outer s H vs Q E hr h => ?_)
  · obtain ⟨G, π, qs, d, qs', R, e, _⟩ := h
    have l := R.len
    rw [List.length_map, List.length_map] at l
    unfold fnL at e
    split at e
    · next hl => rw [l, hl]
    · cases e
  · obtain ⟨G, π, qs, d, qs', R, e, q⟩ := h
    obtain ⟨t, pt, gt⟩ := (hb f cdv A outer s H E hr).ex
    have l := R.len
    rw [List.length_map, List.length_map] at l
    refine ⟨t, pt, ?_⟩
    unfold fnL at e
    split at e
    · next hl =>
      have es : L2.start N vs = vs.map some ++ List.replicate (N.length - ps.length) none := by
        unfold L2.start
        rw [l, hl]
      rw [es]
      have R0 := R.pad (N.length - ps.length)
      split at e
      · next ds ρ e1 =>
        split at e
        · next r e2 =>
          cases e
          exact gt _ _ G H _ _ _ R0 e1 fun p us σ' G' H' R' s' a1 a2 a3 a4 => q p us G' H' (R.leave R' e2) a1 a2 a3 a4
        · cases e
      · cases e
    · cases e
theorem ok_none {x : Str} {st : Stmt} {ps : List Str} {k : Nat} (Df0 : Df K mg x st ps) : Ok P w K mg base k x ps (spD K fun _ => none) := by
  obtain ⟨f, fd, F, m, bd⟩ := Df0.ex
  refine ⟨f, fd, ⟨fun vs H Q E h => ?_, fun A outer s H args us vs Q E _ _ _ _ h => ?_⟩, m, F.kp, bd, ?_⟩
  · obtain ⟨_, _, _, _, _, _, e, _⟩ := h
    cases e
  · obtain ⟨_, _, _, _, _, _, e, _⟩ := h
    cases e
  · obtain ⟨oc, od, kV, doc, pm, an, cdv, ct, osl, _, lk, _⟩ := F.ex
    exact ⟨_, lk, rfl⟩
end
def dCall (F : FD) (A : TDA) : TDE := fun ρ => match A ρ with
  | some (ds, ρ1) => match F (ds.map Sl.im) with
    | some (d, _) => some (d, ρ1)
    | none => none
  | none => none
def dCallS (F : FD) (i : Nat) (A : TDA) : TDE := fun ρ => match ρ[i]? with
  | some (some (.own _ _)) => (match A ρ with
    | some (ds, ρ1) => (match ρ1[i]? with
      | some (some (.own g xs)) => (match F (.own (some 0) xs :: ds.map Sl.im) with
        | some (d, .own (some 0) ys :: _) => some (d, ρ1.set i (some (.own g ys)))
        | _ => none)
      | _ => none)
    | none => none)
  | _ => none
theorem get_cons_map {ds : List D} {s : Sl} {i : Nat} {z : Sl} (h : ((s :: ds.map Sl.im).map some)[i]? = some (some z)) : (i = 0 ∧ z = s) ∨ ∃ d, z = .im d ∧ ∃ m, i = m + 1 ∧ ds[m]? = some d := by
  cases i with
  | zero =>
    simp at h
    exact .inl ⟨rfl, h.symm⟩
  | succ m =>
    have h2 : ((ds.map Sl.im).map some)[m]? = some (some z) := by simpa using h
    have h3 := map_some_in h2
    rw [List.getElem?_map] at h3
    cases e : ds[m]? with
    | none => rw [e] at h3; cases h3
    | some d =>
      rw [e] at h3
      exact .inr ⟨d, (Option.some.inj h3).symm, m, rfl, e⟩
theorem Rep.argsS {K : PySem.W.Frag} {G H : Hp} {p : Addr} {us vs : List V} {xs ds : List D} (s : Same G H) (h : DpAll K G vs ds) (hp : H p = some (.lst us)) (hn : G p = none) (hd : DpAll K G us xs) :
    Rep K ⟨G, H, fun n => if n = 0 then some p else none⟩ G H ((V.ref p :: vs).map some) ((Sl.own (some 0) xs :: ds.map Sl.im).map some) where
  sub := s
  len := by simp [dpAll_len h]
  im := fun i d e => by
    rcases get_cons_map e with ⟨_, z⟩ | ⟨d', z, m, rfl, e2⟩
    · cases z
    · cases z
      obtain ⟨v, e3, e4⟩ := dpAll_get h e2
      exact ⟨v, by simpa using e3, e4⟩
  own := fun i g es e => by
    rcases get_cons_map e with ⟨rfl, z⟩ | ⟨d', z, _⟩
    · cases z
      exact ⟨p, us, rfl, hp, hn, hd, fun n e => by cases e; exact ⟨rfl, by show H p ≠ none; rw [hp]; exact fun z => (nomatch z)⟩, fun e => by cases e⟩
    · cases z
  sep := fun i j g es g' es' q e e' _ _ => by
    rcases get_cons_map e with ⟨rfl, z⟩ | ⟨d', z, _⟩
    · rcases get_cons_map e' with ⟨rfl, z'⟩ | ⟨d', z', _⟩
      · rfl
      · cases z'
    · cases z
  fr := fun q o e _ => e
  nw := fun q _ e => e
  dom := fun q e => e
  bas := Same.refl _
  fnn := fun i L e => by
    rcases get_cons_map e with ⟨rfl, z⟩ | ⟨d', z, _⟩
    · cases z
    · cases z
theorem Rep.backS {K : PySem.W.Frag} {b : Bs} {G H G' H' : Hp} {σ : L2.St} {ρ : Ro} {p : Addr} {vs : List V} {i : Nat} {g : Option Nat} {xs ys : List D} {r : List Sl} (R : Rep K b G H σ ρ) (hi : ρ[i]? = some (some (.own g xs))) (hs : σ[i]? = some (some (.ref p)))
    (R' : Rep K ⟨G, H, fun n => if n = 0 then some p else none⟩ G' H' ((V.ref p :: vs).map some) ((Sl.own (some 0) ys :: r).map some)) : Rep K b G' H' σ (ρ.set i (some (.own g ys))) := by
  obtain ⟨p0, us0, a1, a2, a3, a4, a5, a6⟩ := R.own i g xs hi
  rw [hs] at a1
  cases a1
  obtain ⟨p1, us1, c1, c2, c3, c4, c5, c6⟩ := R'.own 0 (some 0) ys rfl
  have z : p1 = p := by
    have z1 := (c5 0 rfl).1
    have z2 : some p = some p1 := z1
    exact (Option.some.inj z2).symm
  subst z
  have keep : ∀ q o, H q = some o → q ≠ p1 → H' q = some o := fun q o e n => R'.fr q o e fun m z => by
    have z : (if m = 0 then some p1 else none) = some q := z
    split at z
    · cases z
      exact n rfl
    · cases z
  have hl := in_of_some hi
  refine ⟨R'.sub, by rw [List.length_set]; exact R.len, fun j d hj => ?_, fun j g' es' hj => ?_, fun j k g1 d1 g2 d2 q hj hk e1 e2 => ?_, fun q o e n => ?_, fun q e n => ?_, fun q e => ?_, R.bas.trans R'.bas, fun j L hj => ?_⟩
  · rcases get_set hj with ⟨_, e1⟩ | ⟨_, e1⟩
    · cases e1
    · obtain ⟨v, e2, e3⟩ := R.im j d e1
      exact ⟨v, e2, dp_same R'.bas _ _ e3⟩
  · rcases get_set hj with ⟨z, e1⟩ | ⟨z, e1⟩
    · subst z
      cases e1
      exact ⟨p1, us1, hs, c2, c3, c4, a5, a6⟩
    · obtain ⟨q, us, h1, h2, h3, h4, h5, h6⟩ := R.own j g' es' e1
      have ne : q ≠ p1 := fun y => by
        subst y
        exact z (R.sep i j g xs g' es' q hi e1 hs h1)
      exact ⟨q, us, h1, keep q _ h2 ne, R'.nw q (by show H q ≠ none; rw [h2]; exact fun z => (nomatch z)) h3, dpAll_same R'.bas _ _ h4, h5, h6⟩
  · have hj' : ∃ g0 d0, ρ[j]? = some (some (.own g0 d0)) := by
      rcases get_set hj with ⟨z, _⟩ | ⟨_, e1⟩
      · exact ⟨_, _, by rw [← z]; exact hi⟩
      · exact ⟨_, _, e1⟩
    have hk' : ∃ g0 d0, ρ[k]? = some (some (.own g0 d0)) := by
      rcases get_set hk with ⟨z, _⟩ | ⟨_, e1⟩
      · exact ⟨_, _, by rw [← z]; exact hi⟩
      · exact ⟨_, _, e1⟩
    obtain ⟨_, _, f1⟩ := hj'
    obtain ⟨_, _, f2⟩ := hk'
    exact R.sep j k _ _ _ _ q f1 f2 e1 e2
  · have z : q ≠ p1 := fun z => by
      subst z
      cases g with
      | none => rw [a6 rfl] at e; cases e
      | some m => exact n m (a5 m rfl).1
    exact keep q o (R.fr q o e n) z
  · exact R'.nw q (R.dom q e) (R.nw q e n)
  · exact R'.dom q (R.dom q e)
  · rcases get_set hj with ⟨_, e1⟩ | ⟨_, e1⟩
    · cases e1
    · obtain ⟨f, e2, e3⟩ := R.fnn j L e1
      exact ⟨f, e2, e3.same R'.bas⟩
section
variable {X : Cx} {e : Expr} {es : List Expr} {As : TDA} {x y : Str} {p p2 pos : Pos} {k j : Nat} {ps : List Str} {F : FD}
theorem qe_call (G0 : Ok X.prog X.w X.K X.mg X.base k x ps (spD X.K F)) (hr : Room j X.A) (hg : Gl X x) (ha : QA X (e :: es) As) (hp : plainE e = true) (hps : es.all plainE = true) (hj : k ≤ j := by decide)
    (hdb : (x == ("__debug__" : Str)) = false := by decide) : QE X (.Call (.Name x p) (e :: es) [] pos) (dCall F As) := by
  obtain ⟨ta, pa, ga⟩ := ha.ex
  refine ⟨_, pc G0 hr hg pa hp hps hj hdb, fun b σ G H Q ρ d ρ' R h q => ?_⟩
  unfold dCall at h
  split at h
  · next ds ρ1 e1 =>
    split at h
    · next d' r e2 =>
      cases h
      refine ga b σ G H _ ρ ds ρ' R e1 fun vs G1 H1 R1 s1 d1 => ?_
      show spD X.K F (vs ++ []) H1 Q E0
      rw [List.append_nil]
      refine ⟨G1, fun _ => none, _, d, r, Rep.args R1.sub d1, e2, fun v G' H' R' dp => ?_⟩
      have g : Grow G1 H1 G' H' := ⟨fun b o e => R'.fr b o e (fun n => fun z => (nomatch z)), R'.bas, R'.sub, fun p e1 e2 => R'.nw p e2 e1⟩
      exact q v G' H' (R1.grown g) (s1.trans g.s2) dp
    · cases h
  · cases h
theorem qe_callS (i : Nat) (G0 : Ok X.prog X.w X.K X.mg X.base k x ps (spD X.K F)) (hr : Room j X.A) (hg : Gl X x) (ha : QA X es As) (hps : es.all plainE = true) (hj : k ≤ j := by decide) (hdb : (x == ("__debug__" : Str)) = false := by decide)
    (hN : X.N[i]? = some y := by rfl) (hv : Vis X.env.scope y := by first | exact Or.inl rfl | exact Or.inr (Or.inl rfl) | exact Or.inr (Or.inr rfl)) (hd : (y == ("__debug__" : Str)) = false := by decide)
    (hcd : (y == ("__classdict__" : Str)) = false := by decide) : QE X (.Call (.Name x p) (.Name y p2 :: es) [] pos) (dCallS F i As) := by
  obtain ⟨ta, pa, ga⟩ := ha.ex
  refine ⟨_, pc G0 hr hg (pa_c (pe_var hN hv hd hcd) pa rfl) rfl hps hj hdb, fun b σ G H Q ρ d ρ' R h q => ?_⟩
  unfold dCallS at h
  split at h
  · next g0 xs0 e0 =>
    obtain ⟨q0, us0, f1, _⟩ := R.own _ _ _ e0
    split at h
    · next ds ρ1 e1 =>
      split at h
      · next g xs e2 =>
        split at h
        · next d' ys r e3 =>
          cases h
          refine ⟨_, f1, ga b σ G H _ ρ ds ρ1 R e1 fun vs G1 H1 R1 s1 d1 => ?_⟩
          obtain ⟨p1, us, g1, g2, g3, g4, g5, g6⟩ := R1.own _ _ _ e2
          rw [f1] at g1
          cases g1
          show spD X.K F (V.ref q0 :: vs ++ []) H1 Q E0
          rw [List.append_nil]
          refine ⟨G1, _, _, d, _, Rep.argsS R1.sub d1 g2 g3 g4, e3, fun v G' H' R' dp => ?_⟩
          exact q v G' H' (R1.backS e2 f1 R') (s1.trans R'.bas) dp
        · cases h
      · cases h
    · cases h
  · cases h
end
end My
namespace My
open PySem PySem.Spec L2
def kindD : D → String → Bool
  | .bool _, c => c == "int" || c == "bool"
  | .int _, c => c == "int"
  | .str _, c => c == "str"
  | .list _, c => c == "list"
  | .tuple _, c => c == "tuple"
  | _, _ => false
def rInstD (K : PySem.W.Frag) : List V → Hp → VK → Prop := fun xs H Q => ∃ x c d, xs = [x, .ty c] ∧ Dp K H x d ∧ Word5 c ∧ Q (.bl (kindD d c)) H
def rInstD2 (K : PySem.W.Frag) : List V → Hp → VK → Prop := fun xs H Q => ∃ x p c c' d, xs = [x, .ref p] ∧ H p = some (.tup [.ty c, .ty c']) ∧ Dp K H x d ∧ Word5 c ∧ Word5 c' ∧ Q (.bl (kindD d c || kindD d c')) H
section
variable {X : Cx}
theorem kit_word {K : PySem.W.Frag} {c : String} (w : Word5 c) (t : String) (ht : t = "NoneType" ∨ Word5 t) : PySem.W.kitOne K (.type t) (.type c) = some (c == t || (t == "bool" && c == "int")) := by
  rcases ht with rfl | ht
  · cases w <;> with_unfolding_all rfl
  · cases ht <;> cases w <;> with_unfolding_all rfl
theorem any_two {K : PySem.W.Frag} {t c c' : Value} {k k' : Bool} (h : PySem.W.kitOne K t c = some k) (h' : PySem.W.kitOne K t c' = some k') : PySem.W.kitAny K t [c, c'] = some (k || k') := by
  unfold PySem.W.kitAny
  rw [h]
  cases k with
  | true => rfl
  | false =>
    show PySem.W.kitAny K t [c'] = some k'
    unfold PySem.W.kitAny
    rw [h']
    cases k' with
    | true => rfl
    | false => rfl
theorem kit_of {pins : List (Addr × Obj)} {σ : L2.St} {H : Hp} {s : Shared} {x : V} {u : Value} {d : D} (I : Inv X pins σ H s) (rx : RelV x u) (h : Dp X.K H x d) :
    ∃ (t : String) (Hq : Heap → Prop), PySem.W.KitX X.K u (.type t) Hq ∧ Hq s.heap ∧ u ≠ .builtin "__main__.__loader__#opaque" ∧ (t = "NoneType" ∨ Word5 t) ∧ ∀ c, Word5 c → (c == t || (t == "bool" && c == "int")) = kindD d c := by
  cases h with
  | non =>
    cases (show u = Value.none from rx)
    exact ⟨_, _, PySem.W.kitx_none, True.intro, (fun z => nomatch z), .inl rfl, fun c w => by cases w <;> rfl⟩
  | bl b =>
    cases (show u = Value.bool b from rx)
    exact ⟨_, _, PySem.W.kitx_bool, True.intro, (fun z => nomatch z), .inr .bool, fun c w => by cases w <;> rfl⟩
  | int i =>
    obtain ⟨t, q⟩ := (show ∃ t, u = Value.int i t from rx)
    cases q
    exact ⟨_, _, PySem.W.kitx_int, True.intro, (fun z => nomatch z), .inr .int, fun c w => by cases w <;> rfl⟩
  | str y =>
    obtain ⟨t, q⟩ := (show ∃ t, u = Value.str y t from rx)
    cases q
    exact ⟨_, _, PySem.W.kitx_str, True.intro, (fun z => nomatch z), .inr .str, fun c w => by cases w <;> rfl⟩
  | @lst a xs ds hs ha =>
    cases (show u = Value.ref a from rx)
    obtain ⟨its, _, ⟨o, n, h1, h2, _, _⟩, _⟩ := I.list hs
    exact ⟨_, _, PySem.W.kitx_list, ⟨o, h1, h2⟩, (fun z => nomatch z), .inr .list, fun c w => by cases w <;> rfl⟩
  | @tup a xs ds hs ha =>
    cases (show u = Value.ref a from rx)
    obtain ⟨its, _, ⟨o, h1, h2, _⟩, _⟩ := I.tuple hs
    exact ⟨_, _, PySem.W.kitx_tuple, ⟨o, h1, h2⟩, (fun z => nomatch z), .inr .tuple, fun c w => by cases w <;> rfl⟩
theorem call_instD : CallR X (.builtin "isinstance") (rInstD X.K) := by
  intro pins s σ H xs us Q I r h
  obtain ⟨x, c, d, rfl, hx, hc, q⟩ := h
  obtain ⟨u, y, rfl, ru, ry⟩ := vals2 r
  cases (show y = Value.type c from ry)
  obtain ⟨t, Hq, Z, hq, hn, ht, hk⟩ := kit_of I ru hx
  have e := kit_word (K := X.K) hc t ht
  rw [hk c hc] at e
  exact PySem.W.kia_one Z I.kIn hq e hn fun tk => ⟨.bl _, H, I.tok tk, rfl, q⟩
theorem call_instD2 : CallR X (.builtin "isinstance") (rInstD2 X.K) := by
  intro pins s σ H xs us Q I r h
  obtain ⟨x, p, c, c', d, rfl, hp, hx, hc, hc', q⟩ := h
  obtain ⟨u, y, rfl, ru, ry⟩ := vals2 r
  cases (show y = Value.ref p from ry)
  obtain ⟨t, Hq, Z, hq, hn, ht, hk⟩ := kit_of I ru hx
  have e := kit_word (K := X.K) hc t ht
  have e' := kit_word (K := X.K) hc' t ht
  rw [hk c hc] at e
  rw [hk c' hc'] at e'
  obtain ⟨_, its, rv, o, h1, h2, n, h3⟩ := (show ObjOk X.prog X.w H s.heap p (.tup [.ty c, .ty c']) from I.hok p _ hp)
  obtain ⟨v1, v2, rfl, r1, r2⟩ := vals2 rv
  cases (show v1 = Value.type c from r1)
  cases (show v2 = Value.type c' from r2)
  obtain ⟨oc, od, oda, osl⟩ := o
  cases h2
  cases h3
  exact PySem.W.kia_tup Z I.kIn hq h1 (any_two e e') hn fun tk => ⟨.bl _, H, I.tok tk, rfl, q⟩
variable {a b' e it : Expr} {es : List Expr} {A B : TDE} {As : TDA} {x x1 x2 : Str} {p p1 p2 p3 pos : Pos}
theorem qe_inst (c : String) (hw : Word5 c) (h : QE X a A) (hg : Gl X "isinstance") (hm : X.mg "isinstance" = none) (hg1 : Gl X x1) (hm1 : X.mg x1 = none) (hv1 : bootBuiltins x1 = some (.type c)) (hpl : plainE a = true) (hn : x1 ≠ "__name__" := by decide) (hd : (x1 == ("__debug__" : Str)) = false := by decide) :
    QE X (.Call (.Name "isinstance" p) [a, .Name x1 p1] [] pos) (dUn (fun d => some (.bool (kindD d c))) A) := by
  obtain ⟨ta, pa, ga⟩ := h.ex
  refine ⟨_, pcb call_instD hg hm (by decide +kernel) (pa_c pa (pa_c (pty c hg1 hm1 hv1 hn hd) pa_nil rfl) hpl) (by decide) (by decide) hpl rfl, fun b σ G H Q ρ d ρ' R h q => ?_⟩
  unfold dUn at h
  split at h
  · next d0 ρ1 e1 =>
    cases h
    refine ga b σ G H _ ρ d0 ρ' R e1 fun v G1 H1 R1 s1 d1 => ?_
    exact ⟨v, c, d0, rfl, dp_same R1.sub _ _ d1, hw, q _ G1 H1 R1 s1 (.bl _)⟩
  · cases h
theorem qe_inst2 {k} (c c' : String) (hw : Word5 c) (hw' : Word5 c') (h : QE X a A) (hg : Gl X "isinstance") (hm : X.mg "isinstance" = none) (hg1 : Gl X x1) (hm1 : X.mg x1 = none) (hv1 : bootBuiltins x1 = some (.type c)) (hg2 : Gl X x2) (hm2 : X.mg x2 = none) (hv2 : bootBuiltins x2 = some (.type c')) (hpl : plainE a = true)
    (hn : x1 ≠ "__name__" := by decide) (hd : (x1 == ("__debug__" : Str)) = false := by decide) (hn2 : x2 ≠ "__name__" := by decide) (hd2 : (x2 == ("__debug__" : Str)) = false := by decide) :
    QE X (.Call (.Name "isinstance" p) [a, .Tuple [.Name x1 p1, .Name x2 p2] k p3] [] pos) (dUn (fun d => some (.bool (kindD d c || kindD d c'))) A) := by
  obtain ⟨ta, pa, ga⟩ := h.ex
  refine ⟨_, pcb call_instD2 hg hm (by decide +kernel) (pa_c pa (pa_c (pe_tup (pa_c (pty c hg1 hm1 hv1 hn hd) (pa_c (pty c' hg2 hm2 hv2 hn2 hd2) pa_nil rfl) rfl)) pa_nil rfl) hpl) (by decide) (by decide) hpl rfl, fun b σ G H Q ρ d ρ' R h q => ?_⟩
  unfold dUn at h
  split at h
  · next d0 ρ1 e1 =>
    cases h
    refine ga b σ G H _ ρ d0 ρ' R e1 fun v G1 H1 R1 s1 d1 => ⟨(by show 2 ≤ sizeLine; decide), fun t n => ?_⟩
    have sm := same_new n (.tup [.ty c, .ty c'])
    exact ⟨v, t, c, c', d0, rfl, upd_same, dp_same (R1.sub.trans sm) _ _ d1, hw, hw', q _ G1 _ (R1.allocO n _) s1 (.bl _)⟩
  · cases h
structure Nm (X : Cx) (x : Str) (i : Nat) : Prop where
  hN : X.N[i]? = some x
  hv : Vis X.env.scope x
  hd : (x == ("__debug__" : Str)) = false
  hcd : (x == ("__classdict__" : Str)) = false
theorem Nm.pe {i : Nat} (n : Nm X x i) : PE X (.Name x pos) (tVar i) := pe_var n.hN n.hv n.hd n.hcd
def isOwn (ρ : Ro) (i : Nat) : Bool := match ρ[i]? with
  | some (some (.own _ _)) => true
  | _ => false
theorem isOwn_at {ρ : Ro} {i : Nat} (h : isOwn ρ i = true) : ∃ g ds, ρ[i]? = some (some (.own g ds)) := by
  unfold isOwn at h
  split at h
  · next g ds e => exact ⟨g, ds, e⟩
  · cases h
def dApp (i : Nat) (A : TDE) : TDE := fun ρ => if isOwn ρ i = true then (match A ρ with
  | some (d, ρ1) => (match ρ1[i]? with
    | some (some (.own g ds)) => if ds.length < 16777216 then some (.none, ρ1.set i (some (.own g (ds ++ [d])))) else none
    | _ => none)
  | none => none) else none
theorem line_lt {n : Nat} (h : n < 16777216) : n < sizeLine := Nat.lt_of_lt_of_le h (by decide)
theorem few1 {cpos : Pos} {env : PySem.Env} (h : plainE e = true) : ((backTo cpos (starEach [e] env)).all (fun x => !x.1) && (backToKw cpos (keywordEach [] env)).all (fun x => x.1.isSome) && decide ([e].length + ([] : List Keyword).length + (if ([] : List Keyword).isEmpty then 0 else 1) < 30)) = true := by
  rw [star_plain h]
  rfl
theorem qe_append {i : Nat} {apos : Pos} (nm : Nm X x i) (h : QE X e A) (hpl : plainE e = true) (hline : (apos.endLine == pos.line) = true) : QE X (.Call (.Attribute (.Name x p) "append" apos) [e] [] pos) (dApp i A) := by
  obtain ⟨ta, pa, ga⟩ := h.ex
  refine ⟨_, pe_bm PySem.F.plainAttrs_list PySem.F.slot_list_append PySem.F.type_list_append mt_append nm.pe (pa_c pa pa_nil hpl) rfl (few1 hpl) hline (star_plain hpl) rfl, fun b σ G H Q ρ d ρ' R h q => ?_⟩
  unfold dApp at h
  split at h
  · next ho =>
    obtain ⟨g0, ds0, e0⟩ := isOwn_at ho
    obtain ⟨r, us, f1, f2, _⟩ := R.own _ _ _ e0
    split at h
    · next d0 ρ1 e1 =>
      split at h
      · next g ds e2 =>
        split at h
        · next hl =>
          cases h
          refine ⟨_, f1, .inl ⟨rfl, _, SqL.of f2⟩, ga b σ G H _ ρ d0 ρ1 R e1 fun v G1 H1 R1 s1 d1 => ?_⟩
          obtain ⟨r', us', g1, g2, g3, g4, g5, g6⟩ := R1.own _ _ _ e2
          rw [f1] at g1
          cases g1
          exact ⟨r, us', v, rfl, rfl, g2, by rw [dpAll_len g4]; exact line_lt hl, q _ G1 _ (R1.put e2 f1 (dpAll_app g4 (.cons d1 .nil))) s1 .non⟩
        · cases h
      · cases h
    · cases h
  · cases h
def dPop (i : Nat) : TDE := fun ρ => match ρ[i]? with
  | some (some (.own g ds)) => (match ds[ds.length - 1]? with
    | some d => some (d, ρ.set i (some (.own g ds.dropLast)))
    | none => none)
  | _ => none
def dBinO (f : D → D → Option D) (i : Nat) (B : TDE) : TDE := fun ρ => if isOwn ρ i = true then (match B ρ with
  | some (c, ρ1) => (match ρ1[i]? with
    | some (some (.own _ ds)) => (match f (.list ds) c with
      | some (.bool k) => some (.bool k, ρ1)
      | _ => none)
    | _ => none)
  | none => none) else none
def dStore (i : Nat) (A B : TDE) : TDS := fun ρ => match A ρ with
  | some (d, ρ1) => if isOwn ρ1 i = true then (match B ρ1 with
    | some (.int k, ρ2) => (match ρ2[i]? with
      | some (some (.own g ds)) => (match ixN ds.length k with
        | some j => some (.nx (ρ2.set i (some (.own g (ds.set j d)))))
        | none => none)
      | _ => none)
    | _ => none) else none
  | none => none
theorem qs_store {i : Nat} (nm : Nm X x i) (h : QE X e A) (hk : QE X b' B)
    (ha : ∀ v, assign (.Subscript (.Name x p) b' p2) X.env v = (do
      let ov ← holding [v] (eval (.Name x p) X.env)
      let iv ← holding [v, ov] (eval b' X.env)
      standAt p2
      holding [v, ov, iv] (setItem ov iv v)
      release [v, ov, iv] []) := by intro _; rfl)
    (hs : swapsWithSole [.Subscript (.Name x p) b' p2] e pos.line X.env = pure false := by rfl) (hw : swappedStores [.Subscript (.Name x p) b' p2] e X.env = pure none := by rfl)
    (h1 : (assignEach [.Subscript (.Name x p) b' p2] X.env).map (·.2) = [assign (.Subscript (.Name x p) b' p2) X.env] := by rfl) : QS X (.Assign [.Subscript (.Name x p) b' p2] e pos) (dStore i A B) := by
  obtain ⟨ta, pa, ga⟩ := h.ex
  obtain ⟨tb, pb, gb⟩ := hk.ex
  refine ⟨_, ps_asg pa (pg_sub nm.pe pb set_list ha) hs hw h1, fun b σ G H E ρ o R h f => ?_⟩
  unfold dStore at h
  split at h
  · next d ρ1 e1 =>
    split at h
    · next hown =>
      split at h
      · next k ρ2 e2 =>
        split at h
        · next g ds e3 =>
          split at h
          · next j e4 =>
            cases h
            refine ga b σ G H _ ρ d ρ1 R e1 fun v G1 H1 R1 s1 d1 => ?_
            obtain ⟨g0, ds0, e0⟩ := isOwn_at hown
            obtain ⟨r, us, f1, f2, _⟩ := R1.own _ _ _ e0
            refine ⟨_, f1, gb b σ G1 H1 _ ρ1 _ ρ2 R1 e2 fun u G2 H2 R2 s2 d2 => ?_⟩
            obtain ⟨r', us', g1, g2, g3, g4, g5⟩ := R2.own _ _ _ e3
            rw [f1] at g1
            cases g1
            exact ⟨r, us', k, j, rfl, dp_int d2, g2, by rw [dpAll_len g4]; exact e4, f σ G2 _ (R2.put e3 f1 (dpAll_set (dp_same s2 _ _ d1) j g4)) (s1.trans s2)⟩
          · cases h
        · cases h
      · cases h
    · cases h
  · cases h
end
end My
namespace My
open PySem PySem.Spec L2
def GoL (X : Cx) (t : TE) (T : TDA) : Prop := ∀ (b : Bs) (σ : L2.St) (G H : Hp) (Q : VK) (ρ : Ro) (ds : List D) (ρ' : Ro), Rep X.K b G H σ ρ → T ρ = some (ds, ρ') →
  (∀ p vs G' H', Rep X.K b G' H' σ ρ' → Same G G' → H' p = some (.lst vs) → G' p = none → b.H0 p = none → (∀ (j : Nat) (g : Option Nat) (es : List D), ρ'[j]? = some (some (.own g es)) → σ[j]? ≠ some (some (.ref p))) → DpAll X.K G' vs ds → Q (.ref p) H') → t σ H Q
structure QL (X : Cx) (e : Expr) (T : TDA) : Prop where
  ex : ∃ t, PE X e t ∧ GoL X t T
theorem Rep.other {K : PySem.W.Frag} {b : Bs} {G H : Hp} {σ : L2.St} {ρ : Ro} (R : Rep K b G H σ ρ) {p : Addr} (n : H p = none) : ∀ (j : Nat) (g : Option Nat) (es : List D), ρ[j]? = some (some (.own g es)) → σ[j]? ≠ some (some (.ref p)) := fun j g es e z => by
  obtain ⟨q, vs, e1, e2, _⟩ := R.own j g es e
  rw [z] at e1
  cases e1
  rw [n] at e2
  cases e2
def dGuard (A : TDA) : TDA := fun ρ => match A ρ with
  | some (ds, ρ1) => if ds.length ≤ 16777216 then some (ds, ρ1) else none
  | none => none
def dOfL (A : TDA) : TDE := fun ρ => match A ρ with
  | some (ds, ρ1) => some (.list ds, ρ1)
  | none => none
def dSetL (i : Nat) (A : TDA) : TDS := fun ρ => match A ρ with
  | some (ds, ρ1) => some (.nx (ρ1.set i (some (.own none ds))))
  | none => none
def dRetL (A : TDA) : TDS := fun ρ => match A ρ with
  | some (ds, ρ1) => some (.rl ds ρ1)
  | none => none
def dFrz (i : Nat) : TDE := fun ρ => match ρ[i]? with
  | some (some (.own none ds)) => some (.list ds, ρ.set i (some (.im (.list ds))))
  | _ => none
def dRetO (i : Nat) : TDS := fun ρ => match ρ[i]? with
  | some (some (.own none ds)) => some (.rl ds ρ)
  | _ => none
section
variable {X : Cx} {a b' c e it : Expr} {es : List Expr} {A B C : TDE} {As : TDA} {T : TDT} {x y : Str} {p p1 p2 p3 pos pos' : Pos}
theorem ql_lst (ha : QA X es As) : QL X (.List es pos) (dGuard As) := by
  obtain ⟨ta, pa, ga⟩ := ha.ex
  refine ⟨_, pe_lst pa, fun b σ G H Q ρ ds ρ' R h q => ?_⟩
  unfold dGuard at h
  split at h
  · next ds' ρ1 e1 =>
    split at h
    · next hl =>
      cases h
      refine ga b σ G H _ ρ _ ρ' R e1 fun vs G1 H1 R1 s1 d1 => ⟨by rw [dpAll_len d1]; exact line_le hl, fun p n => ?_⟩
      exact q p vs G1 _ (R1.allocO n _) s1 upd_same (R1.sub.free n) (R1.free0 n) (R1.other n) d1
    · cases h
  · cases h
theorem qe_ofL (h : QL X e As) : QE X e (dOfL As) := by
  obtain ⟨ta, pa, ga⟩ := h.ex
  refine ⟨_, pa, fun b σ G H Q ρ d ρ' R h q => ?_⟩
  unfold dOfL at h
  split at h
  · next ds ρ1 e1 =>
    cases h
    exact ga b σ G H _ ρ ds ρ' R e1 fun p vs G1 H1 R1 s1 a1 a2 a3 a4 a5 => q _ _ H1 (R1.frz a1 a2 a3 a4) (s1.trans (same_new a2 _)) (.lst (SqL.of upd_same) (dpAll_same (same_new a2 _) _ _ a5))
  · cases h
theorem qs_setL {i : Nat} (hN : X.N.Nodup) (hi : X.N[i]? = some x) (hx : Loc X.env.scope x) (h : QL X e As) (hs : swapsWith e (some (.Name x pos')) pos.line X.env = pure false := by rfl) (hf : X.fn x = true ∨ X.env.scope.names.lookup x = some .local := by first | exact .inl rfl | exact .inr rfl | assumption) :
    QS X (.Assign [.Name x pos'] e pos) (dSetL i As) := by
  obtain ⟨ta, pa, ga⟩ := h.ex
  refine ⟨_, ps_set hN hi hx pa hs hf, fun b σ G H E ρ o R h f => ?_⟩
  unfold dSetL at h
  split at h
  · next ds ρ1 e1 =>
    cases h
    exact ga b σ G H _ ρ ds ρ1 R e1 fun p vs G1 H1 R1 s1 a1 a2 a3 a4 a5 => f _ G1 H1 (R1.setOwn i a1 a2 a5 a3 a4) s1
  · cases h
theorem qs_retL (h : QL X e As) : QS X (.Return (some e) pos) (dRetL As) := by
  obtain ⟨ta, pa, ga⟩ := h.ex
  refine ⟨_, ps_ret pa, fun b σ G H E ρ o R h f => ?_⟩
  unfold dRetL at h
  split at h
  · next ds ρ1 e1 =>
    cases h
    exact ga b σ G H _ ρ ds ρ1 R e1 fun p vs G1 H1 R1 s1 a1 a2 a3 a4 a5 => f p vs σ G1 H1 R1 s1 a1 a2 a3 a5
  · cases h
theorem qe_frz {i : Nat} (nm : Nm X x i) : QE X (.Name x p) (dFrz i) := by
  refine ⟨_, nm.pe, fun b σ G H Q ρ d ρ' R h q => ?_⟩
  unfold dFrz at h
  split at h
  · next ds e1 =>
    cases h
    obtain ⟨r, vs, f1, f2, f3, f4, f5, f6⟩ := R.own _ _ _ e1
    refine ⟨_, f1, q _ (upd G r (.lst vs)) H ?_ (same_new f3 _) (.lst (SqL.of upd_same) (dpAll_same (same_new f3 _) _ _ f4))⟩
    have hl := in_of_some e1
    refine ⟨fun c o e => ?_, by rw [List.length_set]; exact R.len, fun j d hj => ?_, fun j g es hj => ?_, fun j k g d1 g' d2 q' hj hk u1 u2 => ?_, R.fr, fun q' e n => ?_, R.dom, R.bas.trans (same_new f3 _), fun j L hj => ?_⟩
    · by_cases z : c = r
      · subst z
        rw [upd_same] at e
        cases e
        exact f2
      · rw [upd_ne z] at e
        exact R.sub c o e
    · rcases get_set hj with ⟨z, e2⟩ | ⟨z, e2⟩
      · subst z
        cases e2
        exact ⟨_, f1, .lst (SqL.of upd_same) (dpAll_same (same_new f3 _) _ _ f4)⟩
      · obtain ⟨v, e3, e4⟩ := R.im j d e2
        exact ⟨v, e3, dp_same (same_new f3 _) _ _ e4⟩
    · rcases get_set hj with ⟨z, e2⟩ | ⟨z, e2⟩
      · cases e2
      · obtain ⟨r', us, h1, h2, h3, h4, h5⟩ := R.own j g es e2
        have ne : r' ≠ r := fun w => by
          subst w
          exact z (R.sep _ j _ _ _ _ r' e1 e2 f1 h1)
        exact ⟨r', us, h1, h2, by rw [upd_ne ne]; exact h3, dpAll_same (same_new f3 _) _ _ h4, h5⟩
    · rcases get_set hj with ⟨_, e2⟩ | ⟨_, e2⟩
      · cases e2
      · rcases get_set hk with ⟨_, e3⟩ | ⟨_, e3⟩
        · cases e3
        · exact R.sep j k _ _ _ _ q' e2 e3 u1 u2
    · have z : q' ≠ r := fun z => by
        subst z
        exact e (f6 rfl)
      rw [upd_ne z]
      exact R.nw q' e n
    · rcases get_set hj with ⟨_, e2⟩ | ⟨_, e2⟩
      · cases e2
      · obtain ⟨f, e3, e4⟩ := R.fnn j L e2
        exact ⟨f, e3, e4.same (same_new f3 _)⟩
  · cases h
def dIxW (i : Nat) (B : TDE) : TDE := fun ρ => if isOwn ρ i = true then (match B ρ with
  | some (.int k, ρ1) => (match ρ1[i]? with
    | some (some (.own _ ds)) => (match atI ds k with
      | some d => some (d, ρ1)
      | none => none)
    | _ => none)
  | _ => none) else none
theorem qe_ixW {i : Nat} (nm : Nm X x i) (hb : QE X b' B) (hs : PlainIx b') : QE X (.Subscript (.Name x p) b' pos) (dIxW i B) := by
  obtain ⟨tb, pb, gb⟩ := hb.ex
  refine ⟨_, pe_ix ix_list nm.pe pb hs, fun b σ G H Q ρ d ρ' R h q => ?_⟩
  unfold dIxW at h
  split at h
  · next hown =>
    obtain ⟨g0, ds0, e0⟩ := isOwn_at hown
    obtain ⟨r, us, f1, _⟩ := R.own _ _ _ e0
    split at h
    · next k ρ1 e1 =>
      split at h
      · next g ds e2 =>
        split at h
        · next d' e3 =>
          cases h
          refine ⟨_, f1, gb b σ G H _ ρ _ _ R e1 fun u G2 H2 R2 s2 d2 => ?_⟩
          obtain ⟨r', vs', f1', f2', f3', f4', _⟩ := R2.own _ _ _ e2
          rw [f1] at f1'
          cases f1'
          obtain ⟨y, h3, h4⟩ := at_dp f4' e3
          exact ⟨r, vs', k, y, rfl, dp_int d2, SqL.of f2', h3, q y G2 H2 R2 s2 h4⟩
        · cases h
      · cases h
    · cases h
  · cases h
theorem pcty {T : String} {r : List V → Hp → VK → Prop} {t : TA} (hc : CallR X (.type T) r) (hg : Gl X x) (hm : X.mg x = none) (hv : bootBuiltins x = some (.type T)) (ha : PA X (e :: es) t) (hn : x ≠ "__name__") (hdb : (x == ("__debug__" : Str)) = false) (hp : plainE e = true) (hps : es.all plainE = true) :
    PE X (.Call (.Name x p) (e :: es) [] pos) (tCB r t) := pe_callTy hc hg hm hv ha hn hdb (star_plain hp) (star_none hps)
def seqD : D → Option (List D)
  | .list xs => some xs
  | .tuple xs => some xs
  | _ => none
theorem seq_dp {K : PySem.W.Frag} {G : Hp} {v : V} {d : D} {ds : List D} (h : Dp K G v d) (e : seqD d = some ds) : ∃ q xs, v = .ref q ∧ (SqL K G q xs ∨ SqT K G q xs) ∧ DpAll K G xs ds := by
  unfold seqD at e
  split at e
  · cases e
    obtain ⟨q, xs, rfl, h1, h2⟩ := dp_list h
    exact ⟨q, xs, rfl, .inl h1, h2⟩
  · cases e
    obtain ⟨q, xs, rfl, h1, h2⟩ := dp_tuple h
    exact ⟨q, xs, rfl, .inr h1, h2⟩
  · cases e
def maxD : List D → Option D
  | [.int i, .int j] => some (.int (if j > i then j else i))
  | _ => none
theorem two_ints {K : PySem.W.Frag} {G : Hp} {xs : List V} {i j : Int} (h : DpAll K G xs [.int i, .int j]) : xs = [.int i, .int j] := pair_ints h
theorem bi_max (hc : X.calm = true) : BiD X (.builtin "max") maxD := by
  refine ⟨_, call_max2 hc, fun xs G H as d Q s hx e q => ?_⟩
  unfold maxD at e
  split at e
  · cases e
    rw [two_ints hx]
    exact ⟨_, _, rfl, q _ G H (Grow.refl s) (.int _)⟩
  · cases e
abbrev TDO := Ro → Option (Option Int × Ro)
def GoO (X : Cx) (t : TO) (T : TDO) : Prop := ∀ (b : Bs) (σ : L2.St) (G H : Hp) (Q : Option Int → Hp → Prop) (ρ : Ro) (k : Option Int) (ρ' : Ro), Rep X.K b G H σ ρ → T ρ = some (k, ρ') → (∀ G' H', Rep X.K b G' H' σ ρ' → Same G G' → Q k H') → t σ H Q
structure QO (X : Cx) (e : Option Expr) (T : TDO) : Prop where
  ex : ∃ t, PO X e t ∧ GoO X t T
def oNone : TDO := fun ρ => some (none, ρ)
def oSome (A : TDE) : TDO := fun ρ => match A ρ with
  | some (.int i, ρ1) => some (some i, ρ1)
  | _ => none
theorem qo_none : QO X none oNone := ⟨_, po_none, fun b σ G H Q ρ k ρ' R h q => by cases h; exact q G H R (Same.refl _)⟩
theorem qo_some (h : QE X e A) : QO X (some e) (oSome A) := by
  obtain ⟨ta, pa, ga⟩ := h.ex
  refine ⟨_, po_some pa, fun b σ G H Q ρ k ρ' R h q => ?_⟩
  unfold oSome at h
  split at h
  · next i ρ1 e1 =>
    cases h
    refine ga b σ G H _ ρ _ ρ' R e1 fun v G1 H1 R1 s1 d1 => ?_
    cases d1
    exact ⟨_, rfl, q G1 H1 R1 s1⟩
  · cases h
def cutD (ds : List D) (lo hi : Option Int) : List D := (ds.drop (HT.sIx ds.length 0 lo)).take (HT.sIx ds.length ds.length hi - HT.sIx ds.length 0 lo)
theorem cut_dp {K : PySem.W.Frag} {G : Hp} {xs : List V} {ds : List D} (h : DpAll K G xs ds) (lo hi : Option Int) : DpAll K G (cutV xs lo hi) (cutD ds lo hi) := by
  unfold cutV cutD
  rw [dpAll_len h]
  exact dpAll_take _ (dpAll_drop _ h)
variable {tg : Expr} {sts : List Stmt} {S : TDS} {g : TDG}
end
end My
namespace My
open PySem PySem.Spec L2
def vOf : D → V
  | .none => .non
  | .bool b => .bl b
  | .int i => .int i
  | .str x => .str x
  | _ => .non
def flatD : D → Bool
  | .none => true
  | .bool _ => true
  | .int _ => true
  | .str _ => true
  | _ => false
theorem flat_dp {K : PySem.W.Frag} {G : Hp} {v : V} {d : D} (h : Dp K G v d) (f : flatD d = true) : v = vOf d ∧ flatV v = true := by
  cases h with
  | non => exact ⟨rfl, rfl⟩
  | bl b => exact ⟨rfl, rfl⟩
  | int i => exact ⟨rfl, rfl⟩
  | str x => exact ⟨rfl, rfl⟩
  | lst _ _ => cases f
  | tup _ _ => cases f
theorem flat_all {K : PySem.W.Frag} {G : Hp} : ∀ {ds : List D} {xs : List V}, DpAll K G xs ds → ds.all flatD = true → xs = ds.map vOf ∧ xs.all flatV = true
  | [], _, h, _ => by cases h; exact ⟨rfl, rfl⟩
  | d :: ds, _, h, f => by
    cases h with
    | cons h1 h2 =>
      rw [List.all_cons, Bool.and_eq_true] at f
      obtain ⟨e1, e2⟩ := flat_dp h1 f.1
      obtain ⟨e3, e4⟩ := flat_all h2 f.2
      exact ⟨by rw [e1, e3]; rfl, by rw [List.all_cons, e2, e4]; rfl⟩
def inD (neg : Bool) (x y : D) : Option D := match seqD y with
  | some ds => if flatD x = true ∧ ds.all flatD = true then some (.bool (if neg then !inV (vOf x) (ds.map vOf) else inV (vOf x) (ds.map vOf))) else none
  | none => none
section
variable {X : Cx}
theorem in_dp {neg : Bool} {x y : V} {G H : Hp} {a c d : D} {Q : VK} (s : Same G H) (hx : Dp X.K G x a) (hy : Dp X.K G y c) (e : inD neg a c = some d) (q : ∀ v G' H', Grow G H G' H' → Dp X.K G' v d → Q v H') : rIn X.K neg x y H Q := by
  unfold inD at e
  split at e
  · next ds e1 =>
    split at e
    · next hf =>
      cases e
      obtain ⟨r, xs, rfl, h1, h2⟩ := seq_dp hy e1
      obtain ⟨e2, e3⟩ := flat_dp hx hf.1
      obtain ⟨e4, e5⟩ := flat_all h2 hf.2
      refine ⟨r, xs, rfl, ?_, e3, e5, ?_⟩
      · rcases h1 with h1 | h1
        · exact .inl (s.seq h1)
        · exact .inr (sqT_same s h1)
      · rw [e4, e2]
        exact q _ G H (Grow.refl s) (.bl _)
    · cases e
  · cases e
theorem od_in : OpD X (compareOp .In) (inD false) := ⟨_, op_in_seq, fun x y G H a c d Q s hx hy e q => in_dp s hx hy e q⟩
def dPar (i j : Nat) (As : TDA) : TDS := fun ρ => match As ρ with
  | some ([d, e], ρ1) => some (.nx ((ρ1.set i (some (.im d))).set j (some (.im e))))
  | _ => none
variable {a b' : Expr} {As : TDA} {x y : Str} {pos px py pt pt2 : Pos} {kt k2 : Nat}
theorem qs_par {i j : Nat} (hc : X.calm = true) (hN : X.N.Nodup) (hi : X.N[i]? = some x) (hj : X.N[j]? = some y) (hij : i ≠ j)
    (hx : X.env.scope.names.lookup x = some .local) (hy : X.env.scope.names.lookup y = some .local) (ha : QA X [a, b'] As)
    (hw : swappedStores [.Tuple [.Name x px, .Name y py] kt pt] (.Tuple [a, b'] k2 pt2) X.env = pure (some [x, y]))
    (hs : swapsWithSole [.Tuple [.Name x px, .Name y py] kt pt] (.Tuple [a, b'] k2 pt2) pos.line X.env = pure false := by rfl) :
    QS X (.Assign [.Tuple [.Name x px, .Name y py] kt pt] (.Tuple [a, b'] k2 pt2) pos) (dPar i j As) := by
  obtain ⟨ta, pa, ga⟩ := ha.ex
  refine ⟨_, ps_par hc hN hi hj hij hx hy pa hw hs, fun b σ G H E ρ o R h f => ?_⟩
  unfold dPar at h
  split at h
  · next d e ρ1 e1 =>
    cases h
    refine ga b σ G H _ ρ _ ρ1 R e1 fun vs G1 H1 R1 s1 d1 => ?_
    cases d1 with
    | cons h1 h2 =>
      cases h2 with
      | cons h3 h4 =>
        cases h4
        exact ⟨_, _, rfl, f _ G1 H1 ((R1.setIm i h1).setIm j h3) s1⟩
  · cases h
variable {A B : TDE} {Bs' : TDA} {T : TDT} {c : Expr} {es : List Expr} {e : Expr} {p : Pos} {k j : Nat} {ps : List Str}
def dCatL (A B : TDE) : TDA := fun ρ => match A ρ with
  | some (.list xs, ρ1) => (match B ρ1 with
    | some (.list ys, ρ2) => if xs.length + ys.length ≤ 16777216 then some (xs ++ ys, ρ2) else none
    | _ => none)
  | _ => none
def dIfL (T : TDT) (A B : TDA) : TDA := fun ρ => match T ρ with
  | some (true, ρ1) => A ρ1
  | some (false, ρ1) => B ρ1
  | none => none
def dCallL (F : FL) (A : TDA) : TDA := fun ρ => match A ρ with
  | some (ds, ρ1) => match F (ds.map Sl.im) with
    | some (d, _) => some (d, ρ1)
    | none => none
  | none => none
theorem ql_call {F : FL} (G0 : Ok X.prog X.w X.K X.mg X.base k x ps (spL X.K F)) (hr : Room j X.A) (hg : Gl X x) (ha : QA X (e :: es) As) (hp : plainE e = true) (hps : es.all plainE = true) (hj : k ≤ j)
    (hdb : (x == ("__debug__" : Str)) = false := by decide) : QL X (.Call (.Name x p) (e :: es) [] pos) (dCallL F As) := by
  obtain ⟨ta, pa, ga⟩ := ha.ex
  refine ⟨_, pc G0 hr hg pa hp hps hj hdb, fun b σ G H Q ρ d ρ' R h q => ?_⟩
  unfold dCallL at h
  split at h
  · next ds ρ1 e1 =>
    split at h
    · next d' r e2 =>
      cases h
      refine ga b σ G H _ ρ ds ρ' R e1 fun vs G1 H1 R1 s1 d1 => ?_
      show spL X.K F (vs ++ []) H1 Q E0
      rw [List.append_nil]
      refine ⟨G1, fun _ => none, _, d, r, Rep.args R1.sub d1, e2, fun t us G' H' R' a1 a2 a3 a4 => ?_⟩
      have g : Grow G1 H1 G' H' := ⟨fun b o e => R'.fr b o e (fun n => fun z => (nomatch z)), R'.bas, R'.sub, fun p e1 e2 => R'.nw p e2 e1⟩
      exact q t us G' H' (R1.grown g) (s1.trans g.s2) a1 a2 (R1.free0 a3) (R1.other a3) a4
    · cases h
  · cases h
end
end My
namespace My
open PySem PySem.Spec L2
structure QC (X : Cx) (e : Expr) (T : TDA) : Prop where
  ex : ∃ t, PE X e t ∧ (∀ (i : Nat) (y : Str) (py sp : Pos), X.N[i]? = some y → X.env.scope.names.lookup y = some .local → swapsWith e (some (.Name y py)) sp.line X.env = pure true → PS X (.Assign [.Name y py] e sp) (tAsg t (gName i))) ∧ GoL X t T
theorem QC.l {X : Cx} {e : Expr} {T : TDA} (h : QC X e T) : QL X e T := by
  obtain ⟨t, h1, _, h3⟩ := h.ex
  exact ⟨t, h1, h3⟩
def retag1 (j : Nat) : Option Sl → Option Sl
  | some (.own _ ds) => some (.own (some j) ds)
  | s => s
def retag (ρ : Ro) : Ro := ρ.mapIdx retag1
def untag1 (j : Nat) : Option Sl → Option Sl → Option Sl
  | some (.own g _), some (.own (some k) ds) => if k = j then some (.own g ds) else none
  | some (.own _ _), _ => none
  | _, some (.im d) => some (.im d)
  | _, some (.fn L) => some (.fn L)
  | _, _ => none
def untag (ρ ρ' : Ro) : Ro := (ρ.zip ρ').mapIdx fun j s => untag1 j s.1 s.2
def adr (σ : L2.St) (ρ : Ro) (n : Nat) : Option Addr := match ρ[n]? with
  | some (some (.own _ _)) => (match σ[n]? with
    | some (some (.ref p)) => some p
    | _ => none)
  | _ => none
theorem retag_len (ρ : Ro) : (retag ρ).length = ρ.length := by unfold retag; rw [List.length_mapIdx]
theorem retag_im {ρ : Ro} {i : Nat} {d : D} (h : (retag ρ)[i]? = some (some (.im d))) : ρ[i]? = some (some (.im d)) := by
  unfold retag at h
  rw [List.getElem?_mapIdx] at h
  cases e : ρ[i]? with
  | none => rw [e] at h; cases h
  | some s =>
    rw [e] at h
    have h : retag1 i s = some (.im d) := Option.some.inj h
    cases s with
    | none => cases h
    | some s =>
      cases s with
      | im d' => cases h; rfl
      | own g ds => cases h
      | fn L => cases h
theorem retag_fn {ρ : Ro} {i : Nat} {L : Lm} (h : (retag ρ)[i]? = some (some (.fn L))) : ρ[i]? = some (some (.fn L)) := by
  unfold retag at h
  rw [List.getElem?_mapIdx] at h
  cases e : ρ[i]? with
  | none => rw [e] at h; cases h
  | some s =>
    rw [e] at h
    have h : retag1 i s = some (.fn L) := Option.some.inj h
    cases s with
    | none => cases h
    | some s =>
      cases s with
      | im d' => cases h
      | own g ds => cases h
      | fn L' => cases h; rfl
theorem retag_own {ρ : Ro} {i : Nat} {g : Option Nat} {ds : List D} (h : (retag ρ)[i]? = some (some (.own g ds))) : g = some i ∧ ∃ g', ρ[i]? = some (some (.own g' ds)) := by
  unfold retag at h
  rw [List.getElem?_mapIdx] at h
  cases e : ρ[i]? with
  | none => rw [e] at h; cases h
  | some s =>
    rw [e] at h
    have h : retag1 i s = some (.own g ds) := Option.some.inj h
    cases s with
    | none => cases h
    | some s =>
      cases s with
      | im d' => cases h
      | own g' ds' => cases h; exact ⟨rfl, g', rfl⟩
      | fn L => cases h
theorem untag_at {ρ ρ' : Ro} {i : Nat} {s : Option Sl} (h : (untag ρ ρ')[i]? = some s) : ∃ a b, ρ[i]? = some a ∧ ρ'[i]? = some b ∧ s = untag1 i a b := by
  unfold untag at h
  rw [List.getElem?_mapIdx] at h
  cases e : (ρ.zip ρ')[i]? with
  | none => rw [e] at h; cases h
  | some c =>
    rw [e] at h
    obtain ⟨x, y⟩ := c
    obtain ⟨h1, h2⟩ := List.getElem?_zip_eq_some.mp e
    exact ⟨x, y, h1, h2, (Option.some.inj h).symm⟩
theorem untag_im {ρ ρ' : Ro} {i : Nat} {d : D} (h : (untag ρ ρ')[i]? = some (some (.im d))) : ρ'[i]? = some (some (.im d)) := by
  obtain ⟨a, b, h1, h2, h3⟩ := untag_at h
  unfold untag1 at h3
  split at h3
  · split at h3 <;> cases h3
  · cases h3
  · cases h3
    exact h2
  · cases h3
  · cases h3
theorem untag_fn {ρ ρ' : Ro} {i : Nat} {L : Lm} (h : (untag ρ ρ')[i]? = some (some (.fn L))) : ρ'[i]? = some (some (.fn L)) := by
  obtain ⟨a, b, h1, h2, h3⟩ := untag_at h
  unfold untag1 at h3
  split at h3
  · split at h3 <;> cases h3
  · cases h3
  · cases h3
  · cases h3
    exact h2
  · cases h3
theorem untag_own {ρ ρ' : Ro} {i : Nat} {g : Option Nat} {ds : List D} (h : (untag ρ ρ')[i]? = some (some (.own g ds))) : (∃ es, ρ[i]? = some (some (.own g es))) ∧ ρ'[i]? = some (some (.own (some i) ds)) := by
  obtain ⟨a, b, h1, h2, h3⟩ := untag_at h
  unfold untag1 at h3
  split at h3
  · split at h3
    · next hk =>
      cases h3
      subst hk
      exact ⟨⟨_, h1⟩, h2⟩
    · cases h3
  · cases h3
  · cases h3
  · cases h3
  · cases h3
theorem untag_len {ρ ρ' : Ro} (h : ρ.length = ρ'.length) : (untag ρ ρ').length = ρ.length := by
  unfold untag
  rw [List.length_mapIdx, List.length_zip, ← h, Nat.min_self]
section
variable {K : PySem.W.Frag} {b : Bs} {G H G' H' : Hp} {σ : L2.St} {ρ ρ' : Ro}
theorem Rep.rebase (R : Rep K b G H σ ρ) : Rep K ⟨G, H, adr σ ρ⟩ G H σ (retag ρ) where
  sub := R.sub
  len := by rw [retag_len]; exact R.len
  im := fun i d e => R.im i d (retag_im e)
  own := fun i g ds e => by
    obtain ⟨rfl, g', e1⟩ := retag_own e
    obtain ⟨p, vs, f1, f2, f3, f4, _⟩ := R.own i g' ds e1
    refine ⟨p, vs, f1, f2, f3, f4, fun n e2 => ?_, fun e2 => nomatch e2⟩
    cases e2
    refine ⟨?_, by show H p ≠ none; rw [f2]; exact fun z => (nomatch z)⟩
    show adr σ ρ i = some p
    unfold adr
    rw [e1]
    dsimp only
    rw [f1]
  sep := fun i j g ds k es p h1 h2 h3 h4 => by
    obtain ⟨_, g1, e1⟩ := retag_own h1
    obtain ⟨_, g2, e2⟩ := retag_own h2
    exact R.sep i j _ _ _ _ p e1 e2 h3 h4
  fr := fun q o e _ => e
  nw := fun q _ e => e
  dom := fun q e => e
  bas := Same.refl _
  fnn := fun i L e => R.fnn i L (retag_fn e)
theorem adr_at {n : Nat} {q : Addr} (h : adr σ ρ n = some q) : (∃ g ds, ρ[n]? = some (some (.own g ds))) ∧ σ[n]? = some (some (.ref q)) := by
  unfold adr at h
  split at h
  · next g ds e =>
    split at h
    · next p e2 =>
      cases h
      exact ⟨⟨g, ds, e⟩, e2⟩
    · cases h
  · cases h
theorem Rep.unbase (R : Rep K b G H σ ρ) (R' : Rep K ⟨G, H, adr σ ρ⟩ G' H' σ ρ') : Rep K b G' H' σ (untag ρ ρ') where
  sub := R'.sub
  len := by rw [untag_len (R.len.symm.trans R'.len)]; exact R.len
  im := fun i d e => R'.im i d (untag_im e)
  own := fun i g ds e => by
    obtain ⟨⟨es, e1⟩, e2⟩ := untag_own e
    obtain ⟨p, vs, f1, f2, f3, f4, f5, f6⟩ := R.own i g es e1
    obtain ⟨p', vs', g1, g2, g3, g4, _⟩ := R'.own i _ ds e2
    rw [f1] at g1
    cases g1
    exact ⟨p, vs', f1, g2, g3, g4, f5, f6⟩
  sep := fun i j g ds k es p h1 h2 h3 h4 => by
    obtain ⟨⟨_, e1⟩, _⟩ := untag_own h1
    obtain ⟨⟨_, e2⟩, _⟩ := untag_own h2
    exact R.sep i j _ _ _ _ p e1 e2 h3 h4
  fr := fun q o e n => by
    refine R'.fr q o (R.fr q o e n) fun m z => ?_
    obtain ⟨⟨g, ds, e1⟩, e2⟩ := adr_at z
    obtain ⟨p, vs, f1, f2, f3, f4, f5, f6⟩ := R.own m g ds e1
    rw [e2] at f1
    cases f1
    cases g with
    | none => rw [f6 rfl] at e; cases e
    | some k => exact n k (f5 k rfl).1
  nw := fun q e n => R'.nw q (R.dom q e) (R.nw q e n)
  dom := fun q e => R'.dom q (R.dom q e)
  bas := R.bas.trans R'.bas
  fnn := fun i L e => R'.fnn i L (untag_fn e)
theorem Rep.left (R' : Rep K ⟨G, H, adr σ ρ⟩ G' H' σ ρ') {q : Addr} {o : HO} (e : H q = some o) (n : ∀ (j : Nat) (g : Option Nat) (es : List D), ρ[j]? = some (some (.own g es)) → σ[j]? ≠ some (some (.ref q))) : H' q = some o :=
  R'.fr q o e fun m z => by
    obtain ⟨⟨g, ds, e1⟩, e2⟩ := adr_at z
    exact n m g ds e1 e2
end
def frT (T : TDT) : TDT := fun ρ => match T (retag ρ) with
  | some (c, ρ') => some (c, untag ρ ρ')
  | none => none
def frE (E : TDE) : TDE := fun ρ => match E (retag ρ) with
  | some (d, ρ') => some (d, untag ρ ρ')
  | none => none
def compD (i : Nat) (T : TDT) (E : TDE) : List D → Ro → Option (List D × Ro)
  | [], ρ => some ([], ρ)
  | d :: ds, ρ => match frT T (ρ.set i (some (.im d))) with
    | some (true, ρ1) => (match frE E ρ1 with
      | some (y, ρ2) => (match compD i T E ds (ρ2.set i none) with
        | some (ys, ρ3) => some (y :: ys, ρ3)
        | none => none)
      | none => none)
    | some (false, ρ1) => compD i T E ds (ρ1.set i none)
    | none => none
def tTrue : TDT := fun ρ => some (true, ρ)
theorem Rep.setNone {K : PySem.W.Frag} {b : Bs} {G H : Hp} {σ : L2.St} {ρ : Ro} (R : Rep K b G H σ ρ) (i : Nat) : Rep K b G H (σ.set i none) (ρ.set i none) where
  sub := R.sub
  len := by rw [List.length_set, List.length_set, R.len]
  im := fun j e hj => by
    rcases get_set hj with ⟨z, e1⟩ | ⟨z, e1⟩
    · cases e1
    · rw [set_other z]
      exact R.im j e e1
  own := fun j g ds hj => by
    rcases get_set hj with ⟨z, e1⟩ | ⟨z, e1⟩
    · cases e1
    · rw [set_other z]
      exact R.own j g ds e1
  sep := fun j k g ds g' es p hj hk a b => by
    rcases get_set hj with ⟨_, e1⟩ | ⟨z1, e1⟩
    · cases e1
    · rcases get_set hk with ⟨_, e2⟩ | ⟨z2, e2⟩
      · cases e2
      · rw [set_other z1] at a
        rw [set_other z2] at b
        exact R.sep j k g ds g' es p e1 e2 a b
  fr := R.fr
  nw := R.nw
  dom := R.dom
  bas := R.bas
  fnn := fun j L hj => by
    rcases get_set hj with ⟨z, e1⟩ | ⟨z, e1⟩
    · cases e1
    · rw [set_other z]
      exact R.fnn j L e1
theorem Rep.any {K : PySem.W.Frag} {b : Bs} {G H : Hp} {σ : L2.St} {ρ : Ro} {i : Nat} (R : Rep K b G H (σ.set i none) (ρ.set i none)) : Rep K b G H σ (ρ.set i none) where
  sub := R.sub
  len := by have := R.len; rw [List.length_set, List.length_set] at this; rw [List.length_set]; exact this
  im := fun j e hj => by
    rcases get_set hj with ⟨z, e1⟩ | ⟨z, e1⟩
    · cases e1
    · have := R.im j e hj
      rw [set_other z] at this
      exact this
  own := fun j g ds hj => by
    rcases get_set hj with ⟨z, e1⟩ | ⟨z, e1⟩
    · cases e1
    · have := R.own j g ds hj
      rw [set_other z] at this
      exact this
  sep := fun j k g ds g' es p hj hk a b => by
    rcases get_set hj with ⟨_, e1⟩ | ⟨z1, e1⟩
    · cases e1
    · rcases get_set hk with ⟨_, e2⟩ | ⟨z2, e2⟩
      · cases e2
      · exact R.sep j k g ds g' es p hj hk (by rw [set_other z1]; exact a) (by rw [set_other z2]; exact b)
  fr := R.fr
  nw := R.nw
  dom := R.dom
  bas := R.bas
  fnn := fun j L hj => by
    rcases get_set hj with ⟨z, e1⟩ | ⟨z, e1⟩
    · cases e1
    · have := R.fnn j L hj
      rw [set_other z] at this
      exact this
structure CompSt (K : PySem.W.Frag) (b : Bs) (σ : L2.St) (i : Nat) (G1 : Hp) (Dd : Addr) (T : TDT) (E : TDE) (ds ys : List D) (ρe : Ro) (j : Nat) (H : Hp) : Prop where
  h0 : b.H0 Dd = none
  ex : ∃ (Gj : Hp) (ρj : Ro) (acc : List V) (out rest : List D), Rep K b Gj H (σ.set i none) (ρj.set i none) ∧ Same G1 Gj ∧ H Dd = some (.lst acc) ∧ Gj Dd = none ∧ DpAll K Gj acc out ∧ compD i T E (ds.drop j) (ρj.set i none) = some (rest, ρe) ∧ out ++ rest = ys ∧
    ∀ (k : Nat) (g : Option Nat) (es : List D), (ρj.set i none)[k]? = some (some (.own g es)) → (σ.set i none)[k]? ≠ some (some (.ref Dd))
theorem set_set {α : Type} (l : List α) (i : Nat) (x y : α) : (l.set i x).set i y = l.set i y := by simp
theorem comp_turn {X X' : Cx} {K : PySem.W.Frag} {b : Bs} {σ : L2.St} {i : Nat} {G1 : Hp} {Dd : Addr} {T : TDT} {E : TDE} {ds ys : List D} {ρe : Ro} {j : Nat} {H : Hp} {tt : TT} {te : TE} {v : V} {d : D} (hK : X'.K = K) (gt : GoT X' tt T) (ge : GoE X' te E) (hy : ys.length ≤ 16777216)
    (hd : ds[j]? = some d) (hv : Dp K G1 v d) (C : CompSt K b σ i G1 Dd T E ds ys ρe j H) :
    gName i v (σ.set i none) H fun σ2 H2 => wipe σ2 [i] = wipe σ [i] ∧ tt σ2 H2 fun c H3 => if c = true then te σ2 H3 fun y H4 => ∃ acc, H4 Dd = some (.lst acc) ∧ acc.length < sizeLine ∧ CompSt K b σ i G1 Dd T E ds ys ρe (j + 1) (upd H4 Dd (.lst (acc ++ [y]))) else CompSt K b σ i G1 Dd T E ds ys ρe (j + 1) H3 := by
  subst hK
  obtain ⟨Gj, ρj, acc, out, rest, R, s, e1, e2, e3, e4, e5, no⟩ := C.ex
  have hi := in_of_some hd
  rw [List.drop_eq_getElem_cons hi, (List.getElem?_eq_some_iff.mp hd).2] at e4
  unfold compD at e4
  have R1 : Rep X'.K b Gj H ((σ.set i none).set i (some v)) ((ρj.set i none).set i (some (.im d))) := R.setIm i (dp_same s _ _ hv)
  have no1 : ∀ (k : Nat) (g : Option Nat) (es : List D), ((ρj.set i none).set i (some (.im d)))[k]? = some (some (.own g es)) → ((σ.set i none).set i (some v))[k]? ≠ some (some (.ref Dd)) := fun k g es hk => by
    rcases get_set hk with ⟨_, z⟩ | ⟨z, z2⟩
    · cases z
    · rw [set_other z]
      exact no k g es z2
  have back : ∀ (σ2 : L2.St), σ2 = (σ.set i none).set i (some v) → σ2.set i none = σ.set i none := fun σ2 z => by rw [z, set_set, set_set]
  refine ⟨back _ rfl, ?_⟩
  generalize hσ : (σ.set i none).set i (some v) = σ2 at R1 no1
  have hb := back σ2 hσ.symm
  generalize hρ : (ρj.set i none).set i (some (.im d)) = ρ2 at R1 no1 e4
  split at e4
  · next ρ3 e6 =>
    unfold frT at e6
    split at e6
    · next c ρ3' e7 =>
      cases e6
      refine gt _ σ2 Gj H _ _ _ ρ3' R1.rebase e7 fun G3 H3 R3 s3 => iteT ?_
      have R3' := R1.unbase R3
      have hD3 := R3.left e1 no1
      have nD3 := R3.nw Dd (by show H Dd ≠ none; rw [e1]; exact fun z => (nomatch z)) e2
      have no3 : ∀ (k : Nat) (g : Option Nat) (es : List D), (untag ρ2 ρ3')[k]? = some (some (.own g es)) → σ2[k]? ≠ some (some (.ref Dd)) := fun k g es hk => by
        obtain ⟨⟨es', z⟩, _⟩ := untag_own hk
        exact no1 k g es' z
      split at e4
      · next y ρ4 e8 =>
        unfold frE at e8
        split at e8
        · next y' ρ4' e9 =>
          cases e8
          split at e4
          · next rest' ρ5 e10 =>
            cases e4
            refine ge _ σ2 G3 H3 _ _ _ ρ4' R3'.rebase e9 fun u G4 H4 R4 s4 d4 => ?_
            have R4' := R3'.unbase R4
            have hD4 := R4.left hD3 no3
            have nD4 := R4.nw Dd (by show H3 Dd ≠ none; rw [hD3]; exact fun z => (nomatch z)) nD3
            have no4 : ∀ (k : Nat) (g : Option Nat) (es : List D), (untag (untag ρ2 ρ3') ρ4')[k]? = some (some (.own g es)) → σ2[k]? ≠ some (some (.ref Dd)) := fun k g es hk => by
              obtain ⟨⟨es', z⟩, _⟩ := untag_own hk
              exact no3 k g es' z
            have lo : acc.length < 16777216 := by
              rw [dpAll_len e3]
              have := congrArg List.length e5
              rw [List.length_append, List.length_cons] at this
              omega
            refine ⟨acc, hD4, line_lt lo, ?_⟩
            have R5 := R4'.setNone i
            rw [hb] at R5
            have neO : ∀ (k : Nat) (g : Option Nat) (es : List D), ((untag (untag ρ2 ρ3') ρ4').set i none)[k]? = some (some (.own g es)) → (σ.set i none)[k]? ≠ some (some (.ref Dd)) := fun k g es hk => by
              rcases get_set hk with ⟨_, z⟩ | ⟨z, z2⟩
              · cases z
              · rw [← hb, set_other z]
                exact no4 k g es z2
            refine ⟨C.h0, G4, _, acc ++ [u], out ++ [y], rest', ?_, s.trans (s3.trans s4), upd_same, nD4, dpAll_app (dpAll_same (s3.trans s4) _ _ e3) (.cons d4 .nil), e10, by rw [List.append_assoc]; exact e5, neO⟩
            refine ⟨fun c o e => ?_, R5.len, R5.im, fun k g es hk => ?_, R5.sep, fun q o e n => ?_, R5.nw, fun q e => ?_, R5.bas, R5.fnn⟩
            · have z : c ≠ Dd := ne_of_none e nD4
              rw [upd_ne z]
              exact R5.sub c o e
            · obtain ⟨p, vs, f1, f2, f3⟩ := R5.own k g es hk
              have z : p ≠ Dd := fun z => by
                subst z
                exact neO k g es hk f1
              exact ⟨p, vs, f1, by rw [upd_ne z]; exact f2, f3⟩
            · have z : q ≠ Dd := fun z => by
                subst z
                rw [C.h0] at e
                cases e
              rw [upd_ne z]
              exact R5.fr q o e n
            · by_cases z : q = Dd
              · subst z
                rw [upd_same]
                exact fun y => nomatch y
              · rw [upd_ne z]
                exact R5.dom q e
          · cases e4
        · cases e8
      · cases e4
    · cases e6
  · next ρ3 e6 =>
    unfold frT at e6
    split at e6
    · next c ρ3' e7 =>
      cases e6
      refine gt _ σ2 Gj H _ _ _ ρ3' R1.rebase e7 fun G3 H3 R3 s3 => iteF ?_
      have R3' := (R1.unbase R3).setNone i
      rw [hb] at R3'
      have hD3 := R3.left e1 no1
      have nD3 := R3.nw Dd (by show H Dd ≠ none; rw [e1]; exact fun z => (nomatch z)) e2
      refine ⟨C.h0, G3, _, acc, out, rest, R3', s.trans s3, hD3, nD3, dpAll_same s3 _ _ e3, e4, e5, fun k g es hk => ?_⟩
      rcases get_set hk with ⟨_, z⟩ | ⟨z, z2⟩
      · cases z
      · obtain ⟨⟨es', z3⟩, _⟩ := untag_own z2
        rw [← hb, set_other z]
        exact no1 k g es' z3
    · cases e6
  · cases e4
section
variable {X : Cx} {elt it : Expr} {ifs : List Expr} {scope : Scope} {x : Str} {i : Nat} {pos p1 p2 tpos : Pos} {A E : TDE} {T : TDT}
structure QTs (X : Cx) (ifs : List Expr) (T : TDT) : Prop where
  ex : ∃ t, PTs X ifs t ∧ GoT X t T
theorem qts_nil : QTs X [] tTrue := ⟨_, pts_nil, fun b σ G H Q ρ c ρ' R h q => by cases h; exact q G H R (Same.refl _)⟩
theorem qts_one {c : Expr} (h : QT X c T) : QTs X [c] T := by
  obtain ⟨t, p, g⟩ := h.ex
  exact ⟨_, pts_one p, g⟩
def tOfE (K : PySem.W.Frag) (E : TDE) : TE := fun σ H Q => ∃ b G ρ d ρ', Rep K b G H σ ρ ∧ E ρ = some (d, ρ') ∧ ∀ v G' H', Rep K b G' H' σ ρ' → Same G G' → Dp K G' v d → Q v H'
def tOfT (K : PySem.W.Frag) (T : TDT) : TT := fun σ H Q => ∃ b G ρ c ρ', Rep K b G H σ ρ ∧ T ρ = some (c, ρ') ∧ ∀ G' H', Rep K b G' H' σ ρ' → Same G G' → Q c H'
theorem QE.can {e : Expr} (h : QE X e E) : PE X e (tOfE X.K E) := by
  obtain ⟨t, p, g⟩ := h.ex
  intro pins s σ H Q I hq
  obtain ⟨b, G, ρ, d, ρ', R, e1, q⟩ := hq
  exact p pins s σ H Q I (g b σ G H Q ρ d ρ' R e1 q)
theorem QTs.can {es : List Expr} (h : QTs X es T) : PTs X es (tOfT X.K T) := by
  obtain ⟨t, p, g⟩ := h.ex
  intro pins s σ H Q I hq
  obtain ⟨b, G, ρ, d, ρ', R, e1, q⟩ := hq
  exact p pins s σ H Q I (g b σ G H Q ρ d ρ' R e1 q)
theorem go_canE : GoE X (tOfE X.K E) E := fun b σ G H Q ρ d ρ' R h q => ⟨b, G, ρ, d, ρ', R, h, q⟩
theorem go_canT : GoT X (tOfT X.K T) T := fun b σ G H Q ρ c ρ' R h q => ⟨b, G, ρ, c, ρ', R, h, q⟩
theorem comp_start {b : Bs} {σ : L2.St} {G1 H1 : Hp} {Dd : Addr} {ds ys : List D} {ρ1 ρe : Ro} (R1 : Rep X.K b G1 H1 σ ρ1) (n : H1 Dd = none) (h : compD i T E ds (ρ1.set i none) = some (ys, ρe)) : CompSt X.K b σ i G1 Dd T E ds ys ρe 0 (upd H1 Dd (.lst [])) := by
  refine ⟨R1.free0 n, G1, ρ1, [], [], ys, (R1.setNone i).allocO n _, Same.refl _, upd_same, R1.sub.free n, .nil, h, rfl, fun k g es hk => ?_⟩
  exact (R1.setNone i).other n k g es hk
theorem comp_end {b : Bs} {σ : L2.St} {G1 H : Hp} {Dd : Addr} {ds ys : List D} {ρe : Ro} {Q : VK} (C : CompSt X.K b σ i G1 Dd T E ds ys ρe ds.length H)
    (q : ∀ p vs G' H', Rep X.K b G' H' σ (ρe.set i none) → Same G1 G' → H' p = some (.lst vs) → G' p = none → b.H0 p = none → (∀ (j : Nat) (g : Option Nat) (es : List D), (ρe.set i none)[j]? = some (some (.own g es)) → σ[j]? ≠ some (some (.ref p))) → DpAll X.K G' vs ys → Q (.ref p) H') : Q (.ref Dd) H := by
  obtain ⟨Gj, ρj, acc, out, rest, R, s, e1, e2, e3, e4, e5, no⟩ := C.ex
  rw [List.drop_length] at e4
  cases e4
  rw [List.append_nil] at e5
  subst e5
  have z : (ρj.set i none).set i none = ρj.set i none := set_set _ _ _ _
  rw [z] at q
  refine q Dd acc Gj H R.any s e1 e2 C.h0 (fun j g es hj => ?_) e3
  rcases get_set hj with ⟨_, y⟩ | ⟨y, _⟩
  · cases y
  · have := no j g es hj
    rw [set_other y] at this
    exact this
variable (hc : X.calm = true) (hN : X.N.Nodup) (ok : BlkOk X.N X.env.scope scope [(x, i)])
  (hg : ∀ (s : Shared) (H : Hp) (C : Addr) (cl : List (Str × Addr)) (fp : List Addr), PG (X.blk s H scope (compEnvC scope cl C X.env) fp) (.Name x tpos) (gName i))
  (ht : ∀ (s : Shared) (H : Hp) (C : Addr) (cl : List (Str × Addr)) (fp : List Addr), QTs (X.blk s H scope (compEnvC scope cl C X.env) fp) ifs T)
  (he : ∀ (s : Shared) (H : Hp) (C : Addr) (cl : List (Str × Addr)) (fp : List Addr), QE (X.blk s H scope (compEnvC scope cl C X.env) fp) elt E)
include hc hN ok hg ht he
end
end My
namespace My
open PySem PySem.Spec L2
section
variable {prog : Program} {w : World} {A : Around} {E : Value → Shared → Prop} {s : Shared}
theorem next_tup {it t : Addr} {i : Nat} {its : Array Value} {x : Value} {Q : Value → Shared → Prop} (hi : s.heap.IsTupleIter it t i) (ht : s.heap.IsTuple t its) (hx : its[i]? = some x)
    (k : ∀ h', h'.IsTupleIter it t (i + 1) → Heap.SameBut it s.heap h' → Q x { s with heap := h' }) : wpAny (model prog w) A (Builtin.SmallTypes.nextOf (.ref it)) Q E s := by
  obtain ⟨o, ho, hc, hd⟩ := id hi
  obtain ⟨ot, hot, _, nt, hdt⟩ := ht
  unfold Builtin.SmallTypes.nextOf
  refine wpAny_bind (wpAny_callSpecial?_slot (name := Str.ofString "__next__") hi.typeIs F.slot_tuple_iterator_next (wpAny_call_entry F.slot_tuple_iterator_next hi.typeIs F.entry_tuple_iterator_next ?_ (F.args_tuple_iterator_next_1 _)))
  (show wpAny _ _ (field (.ref it) 0 >>= _) _ _ s); refine wpAny_bind (wpAny_field ho hd (x := .ref t) rfl ?_); show wpAny _ _ (if (Value.ref t == Value.none) = true then _ else _) _ _ s
  rw [if_neg (show ¬ ((Value.ref t == .none) = true) from Bool.false_ne_true)]; (show wpAny _ _ (field (.ref it) 1 >>= _) _ _ s); refine wpAny_bind (wpAny_field ho hd (x := .int i 0) rfl ?_); (show wpAny _ _ (seqItems? (.ref t) >>= _) _ _ s); refine wpAny_bind (wpAny_seqItems hot hdt ?_)
  simp only [Int.toNat_natCast, hx]; refine wpAny_bind (wpAny_setField ho hd (by simp) (wpAny_pure ⟨x, rfl, wpAny_pure (k _ ⟨_, Heap.get?_update_self _ ho (Obj.isFreed_of_fields (Obj.data_mapFields hd _)), (Obj.cls_mapFields ..).trans hc, ?_⟩ (Heap.SameBut.update ..))⟩))
  rw [Obj.data_mapFields hd]; simp [rawInt]
theorem next_tup_end {it t : Addr} {i : Nat} {its : Array Value} {Q : Value → Shared → Prop} (hh : A.handled = none) (hi : s.heap.IsTupleIter it t i) (ht : s.heap.IsTuple t its) (hx : its[i]? = none)
    (k : ∀ h' e, Heap.ExtBut it s.heap h' → (∃ o, h'.get? e = some o ∧ o.cls = .type "StopIteration") → E (.ref e) { s with heap := h' }) : wpAny (model prog w) A (Builtin.SmallTypes.nextOf (.ref it)) Q E s := by
  obtain ⟨o, ho, hc, hd⟩ := id hi
  obtain ⟨ot, hot, _, nt, hdt⟩ := ht
  unfold Builtin.SmallTypes.nextOf
  refine wpAny_bind (wpAny_callSpecial?_slot (name := Str.ofString "__next__") hi.typeIs F.slot_tuple_iterator_next (wpAny_call_entry F.slot_tuple_iterator_next hi.typeIs F.entry_tuple_iterator_next ?_ (F.args_tuple_iterator_next_1 _)))
  (show wpAny _ _ (field (.ref it) 0 >>= _) _ _ s); refine wpAny_bind (wpAny_field ho hd (x := .ref t) rfl ?_); show wpAny _ _ (if (Value.ref t == Value.none) = true then _ else _) _ _ s
  rw [if_neg (show ¬ ((Value.ref t == .none) = true) from Bool.false_ne_true)]; (show wpAny _ _ (field (.ref it) 1 >>= _) _ _ s); refine wpAny_bind (wpAny_field ho hd (x := .int i 0) rfl ?_); (show wpAny _ _ (seqItems? (.ref t) >>= _) _ _ s); refine wpAny_bind (wpAny_seqItems hot hdt ?_)
  simp only [Int.toNat_natCast, hx]; refine wpAny_bind (wpAny_rule (wpAny_bind (wpAny_setField ho hd (by simp) ?_))); show wpAny _ _ (newExc (.type "StopIteration") [] >>= _) _ _ _
  refine wpAny_bind ?_; simp only [newExc, newTuple]
  refine wpAny_bind (wpAny_newObj_type ?_ (by size_fits)); refine wpAny_bind (m := firstArgMember _ _) (wpAny_of_eq (a := Value.none) (by first | rfl | (simp only [firstArgMember]; rfl)) (wpAny_newObj_type ?_ (by size_fits)))
  simp only [raiseNew]; refine wpAny_bind (wpAny_handled ?_); (first | rw [show A.in1.handled = none from hh] | rw [hh])
  exact wpAny_bind (wpAny_pure (wpAny_throw (k _ _ (((Heap.SameBut.update ..).extBut.push _).push _) ⟨_, Heap.get?_push_size _ rfl, rfl⟩)))
theorem draws_tup {it t : Addr} {its : Array Value} (hh : A.handled = none) (hne : t ≠ it) : Draws prog w A it [it, t] its.size (fun i x => its[i]? = some x) (fun i h => h.IsTupleIter it t i ∧ h.IsTuple t its) where
  live := fun i h st => by
    obtain ⟨⟨o, ho, _⟩, _⟩ := st
    exact ⟨o, ho⟩
  frame := fun i h h' st k => by
    obtain ⟨⟨o, ho, hr⟩, ⟨o', ho', hr'⟩⟩ := st
    exact ⟨⟨o, k it (by simp) o ho, hr⟩, ⟨o', k t (by simp) o' ho', hr'⟩⟩
  item := fun i s Q E hi st k => by
    have hx : its[i]? = some its[i] := Array.getElem?_eq_getElem hi
    refine next_tup st.1 st.2 hx fun h' a b => ?_
    exact k _ h' s.toks hx ⟨a, st.2.extBut b.extBut hne⟩ b
  done := fun s Q E st k => next_tup_end hh st.1 st.2 (Array.getElem?_eq_none (Nat.le_refl _)) k
theorem new_enum (l : Addr) (its : Array Value) (n : Nat) (dct : Option Addr) (sl : Array (Option Value)) :
    Meets (Builtin.«enumerate.__new__» ⟨[.type "enumerate", .ref l], []⟩) (fun _ R s => s.heap.get? l = some { cls := .type "tuple", dict := dct, data := .seq its n, slots := sl } ∧
      R (.ok (.ret (.ref (s.heap.push { cls := .type "tuple_iterator", data := .fields #[.ref l, .int 0 0] }).objs.size)))
        { s with heap := (s.heap.push { cls := .type "tuple_iterator", data := .fields #[.ref l, .int 0 0] }).push { cls := .type "enumerate", data := .fields #[.none, .bool false, .ref s.heap.objs.size, rawInt 0, .none, .none] } }) :=
  .of_wp fun prog w A R s h => by
    obtain ⟨hp, g, d, tk, os⟩ := s; obtain ⟨hl, h⟩ := h; have hsub := sub_enumerate
    have hT : Heap.IsTuple (Shared.heap ⟨hp, g, d, tk, os⟩) l its := ⟨_, hl, rfl, n, rfl⟩
    wp_walk using AutoSeq1.wpAny_loadPart' hl
    refine wpAny_stack_any fun st => wpAny_pure ?_; split
    · rename_i c _ _ _ _ _
      cases (c == Value.type "enumerate") <;> (wp_walk using AutoSeq1.wpAny_loadPart' hl, wpAny_pyIter_tuple hT; exact ⟨_, rfl, h⟩)
    · wp_walk using AutoSeq1.wpAny_loadPart' hl, wpAny_pyIter_tuple hT; exact ⟨_, rfl, h⟩
theorem call_enum {l : Addr} {its : Array Value} {Q : Value → Shared → Prop} (hT : s.heap.IsTuple l its)
    (k : ∀ h', IsEnum h' (s.heap.objs.size + 1) s.heap.objs.size 0 .none → h'.IsTupleIter s.heap.objs.size l 0 → h'.objs.size = s.heap.objs.size + 2 → (∀ b o, s.heap.get? b = some o → h'.get? b = some o) → Q (.ref (s.heap.objs.size + 1)) { s with heap := h' }) :
    wpAny (model prog w) A (call (.type "enumerate") [.ref l]) Q E s := by
  obtain ⟨⟨c, dct, dt, sl⟩, hl, hc, n, hd⟩ := hT
  cases (show c = .type "tuple" from hc)
  cases (show dt = .seq its n from hd)
  refine callType_new F.called_enumerate (by decide) (F.typeCall_enumerate_1 _) (F.newCall_enumerate_1 _) (fun obj => F.args_object_init_2 obj _) F.entry_enumerate_new (new_enum l its n dct sl) ⟨hl, ?_⟩
  have hz : (s.heap.push { cls := .type "tuple_iterator", data := .fields #[.ref l, .int 0 0] }).objs.size = s.heap.objs.size + 1 := Heap.size_push ..
  show _ ∧ _
  rw [hz]
  have he := Heap.get?_push_size (s.heap.push { cls := .type "tuple_iterator", data := .fields #[.ref l, .int 0 0] }) (o := { cls := .type "enumerate", data := .fields #[.none, .bool false, .ref s.heap.objs.size, rawInt 0, .none, .none] }) rfl
  rw [hz] at he
  exact ⟨⟨_, he, rfl⟩, k _ he ⟨_, Heap.get?_push_of_some _ (Heap.get?_push_size _ rfl), rfl, rfl⟩ (by rw [Heap.size_push, hz]) fun b o y => Heap.get?_push_of_some _ (Heap.get?_push_of_some _ y)⟩
end
end My
namespace My
open PySem PySem.Spec L2
def IteT (K : PySem.W.Frag) (a : Addr) : It :=
  ⟨fun i H => ∃ (xs : List V) (x : V), SqT K H a xs ∧ xs[i]? = some x, fun i H v H' => ∃ T x, v = .ref T ∧ H T = none ∧ H' = upd H T (.tup [.int (i : Nat), x]) ∧ ∀ xs, SqT K H a xs → xs[i]? = some x, fun i H => ∃ xs : List V, SqT K H a xs ∧ xs.length ≤ i⟩
theorem turn_enumT {P : Program} {w : World} {K : PySem.W.Frag} {elts : List Expr} {kk : Nat} {tpos : Pos} (a e it : Addr) (hna : a ≠ it) (hea : e ≠ a) :
    Turn P w K (.Tuple elts kk tpos) (IteT K a) [e, it] e (fun i h => (∃ old, IsEnum h e it ((i : Nat) : Int) old) ∧ h.IsTupleIter it a i ∧ e ≠ it) where
  mem := by simp
  obj := fun i h st b hb => by
    obtain ⟨⟨old, he⟩, ⟨o, ho, hc, hd⟩, _⟩ := st
    have e' : b = e ∨ b = it := by simpa using hb
    rcases e' with z | z
    · rw [z]; exact ⟨_, he, fun v q => nomatch q⟩
    · rw [z]; exact ⟨o, ho, fun v q => by rw [hd] at q; cases q⟩
  keep := fun i h h' st k => let ⟨⟨old, he⟩, ⟨o, ho, hr⟩, hne⟩ := st; ⟨⟨old, k e (by simp) _ he⟩, ⟨o, k it (by simp) o ho, hr⟩, hne⟩
  item := by
    intro X hP hw hK hc i pins s σ H E I hf st hg
    subst hP hw hK
    obtain ⟨⟨old, he⟩, hit, hne⟩ := st
    obtain ⟨xs, x, hq, hx⟩ := hg
    obtain ⟨its, rv, p, hz⟩ := I.tuple hq
    obtain ⟨u, hu, ru⟩ := rv.get hx
    have hel : e < s.heap.objs.size := Heap.lt_size he
    have hil : it < s.heap.objs.size := by obtain ⟨_, q, _⟩ := hit; exact Heap.lt_size q
    have hT : s.heap.IsTuple a its.toArray := p
    have hlt : i < its.toArray.size := by simpa using in_of_some hu
    refine wpAny_pyNext_enum_itemD (draws_tup (t := a) (its := its.toArray) (A := X.A.in1) (I.ok.hd hc) hna) he ⟨hit, hT⟩ hlt hne (by simp [hne, hea]) fun y h' tk hy ho hst hT' hsz hk => ?_
    have hyu : y = u := by
      have z : its.toArray[i]? = some u := by simpa using hu
      rw [z] at hy
      exact (Option.some.inj hy).symm
    subst hyu
    refine ⟨_, rfl, wpAny_letOwnedTupleGo_enum (s := { s with heap := h', toks := tk + 1 }) ho fun h'' he' sb => ?_⟩
    have hT2 : h''.get? s.heap.objs.size = some { cls := .type "tuple", data := .seq #[.int i tk, y] } := (sb.2 _ (Nat.ne_of_gt hel)).trans hT'
    have new : ObjOk X.prog X.w (upd H s.heap.objs.size (.tup [.int (i : Nat), x])) h'' s.heap.objs.size (.tup [.int (i : Nat), x]) :=
      ⟨by show 2 ≤ sizeLine; decide, [.int i tk, y], .cons ⟨_, rfl⟩ (.cons ru .nil), ⟨_, hT2, rfl, _, rfl⟩⟩
    have I1 : Inv X pins σ (upd H s.heap.objs.size (.tup [.int (i : Nat), x])) { s with heap := h'', toks := tk + 1 } :=
      I.turnedNew (ch := [e, it]) (fun b ob hb q => (sb.2 b (fun z => hb (by simp [z]))).trans (hk b ob (fun z => hb (by simp [z])) (fun z => hb (by simp [z])) q)) hf (Nat.le_refl _) new
    refine ⟨.ref s.heap.objs.size, _, I1, rfl, ⟨_, x, rfl, I.hok.fresh (Nat.le_refl _), rfl, fun ys hy => by rw [I.tuple_inj hy hq]; exact hx⟩, ⟨⟨y, ?_⟩, ?_, hne⟩, fun b hb => ?_⟩
    · have e1 : ((i + 1 : Nat) : Int) = (i : Int) + 1 := by omega
      rw [e1]; exact he'
    · obtain ⟨o, ho1, hr⟩ := hst.1
      exact ⟨o, (sb.2 it (Ne.symm hne)).trans ho1, hr⟩
    · have hb' : b < s.heap.objs.size := by
        have e' : b = e ∨ b = it := by simpa using hb
        rcases e' with z | z
        · rw [z]; exact hel
        · rw [z]; exact hil
      rw [upd_ne (Nat.ne_of_lt hb')]
      exact (hf b hb).1
  done := by
    intro X hP hw hK hc i pins s σ H E I hf st hg
    subst hP hw hK
    obtain ⟨⟨old, he⟩, hit, hne⟩ := st
    obtain ⟨xs, hq, hx⟩ := hg
    obtain ⟨its, rv, p, hz⟩ := I.tuple hq
    obtain ⟨f0, f1, f2, f3, f4, f5⟩ := hf it (by simp)
    have hl := rv.length
    have hT : s.heap.IsTuple a its.toArray := p
    have hd : Heap.SameBut it s.heap s.heap := Heap.SameBut.refl ..
    unfold pyNext
    refine wpAny_bind (wpAny_attempt (wpAny_callSpecial?_slot (name := Str.ofString "__next__") (show s.TypeIs (.ref e) "enumerate" from ⟨_, he, rfl⟩) F.slot_enumerate_next (wpAny_call_entry F.slot_enumerate_next (show s.TypeIs (.ref e) "enumerate" from ⟨_, he, rfl⟩) F.entry_enumerate_next ?_ (F.args_enumerate_next_1 _))))
    (show wpAny _ _ (field (.ref e) 2 >>= _) _ _ _); refine wpAny_bind (wpAny_field he rfl (x := .ref it) rfl (wpAny_bind (next_tup_end (show X.A.in1.handled = none from I.ok.hd hc) hit hT (Array.getElem?_eq_none (by simp; omega)) fun h' x he' hx' => ?_)))
    obtain ⟨o, ho, hc'⟩ := hx'
    exact wpAny_bind (wpAny_isInstance (T := "StopIteration") (b := true) ⟨o, ho, hc'⟩ isSubtype_stop (wpAny_pure ⟨rfl, I.turned (t' := s.toks) (fun b o hb q => he' b o hb q) f0 f1 f3 f4 f5⟩))
  self := fun A i s Q E st h => let ⟨⟨_, he⟩, _⟩ := st; wpAny_pyIter_enum he h
def iEnumT (K : PySem.W.Frag) (ta : TA) : TI := fun σ H R => ta σ H fun vs H1 => ∃ a xs, vs = [.ref a] ∧ SqT K H1 a xs ∧ R (IteT K a) H1
theorem pi_enumT {X : Cx} {e : Expr} {ta : TA} {p pos tpos : Pos} {elts : List Expr} {kk : Nat} (hg : Gl X "enumerate") (hm : X.mg "enumerate" = none) (ha : PA X [e] ta) (hs : starEach [e] X.env = [(false, eval e X.env)] := by rfl) :
    PI X (.Tuple elts kk tpos) (.Call (.Name "enumerate" p) [e] [] pos) (iEnumT X.K ta) := by
  intro pins s σ H R I h
  refine PyProof.Rows.Call_ (ld_blt I hg hm (show bootBuiltins "enumerate" = some (.type "enumerate") by decide +kernel) (PyProof.Rows.callWith_type1 (thn (ha pos pins s σ H _ I h) fun us s1 ⟨vs, H1, I1, r1, q1⟩ => ?_) hs rfl))
  obtain ⟨a, xs, ex, hq, q⟩ := q1
  subst ex
  cases r1 with
  | cons r rr =>
    cases rr
    cases r
    obtain ⟨its, rv, p', hz⟩ := I1.tuple hq
    have hal : a < s1.heap.objs.size := by obtain ⟨o, ho, _⟩ := p'; exact Heap.lt_size ho
    refine call_enum (show s1.heap.IsTuple a its.toArray from p') fun h' he hit hsz hk => wpAny_pyIter_enum he ?_
    have I2 : Inv X pins σ H1 { s1 with heap := h' } := I1.kept (t' := s1.toks) hk
    refine ⟨s1.heap.objs.size + 1, [s1.heap.objs.size + 1, s1.heap.objs.size], _, _, H1, rfl, I2, turn_enumT a (s1.heap.objs.size + 1) s1.heap.objs.size (Nat.ne_of_lt hal) (Nat.ne_of_gt (Nat.lt_succ_of_lt hal)), ⟨⟨.none, he⟩, hit, Nat.succ_ne_self _⟩, fun b hb => ?_, q⟩
    have e' : b = s1.heap.objs.size + 1 ∨ b = s1.heap.objs.size := by simpa using hb
    have hle : s1.heap.objs.size ≤ b := by
      rcases e' with z | z
      · rw [z]; exact Nat.le_add_right _ _
      · rw [z]; exact Nat.le_refl _
    exact I1.fpOk hle (I1.hok.fresh hle)
def enumD (ds : List D) : List D := ds.mapIdx fun j d => .tuple [.int (j : Int), d]
theorem enumD_len (ds : List D) : (enumD ds).length = ds.length := by unfold enumD; rw [List.length_mapIdx]
theorem enumD_at {ds : List D} {j : Nat} {d : D} (h : ds[j]? = some d) : (enumD ds)[j]? = some (.tuple [.int (j : Int), d]) := by
  unfold enumD
  rw [List.getElem?_mapIdx, h]
  rfl
section
variable {X : Cx} {e : Expr} {A : TDE} {S : TDS} {g : TDG} {sts : List Stmt} {elts : List Expr} {kk : Nat} {p pos pos' tpos : Pos}
end
end My
namespace My
open PySem PySem.Spec L2
abbrev w2 {α : Type} (l : List (Option α)) (i j : Nat) : List (Option α) := (l.set j none).set i none
def comp2D (i j : Nat) (T : TDT) (E : TDE) : List D → Ro → Option (List D × Ro)
  | [], ρ => some ([], ρ)
  | .tuple [d, d'] :: ds, ρ => (match frT T ((ρ.set i (some (.im d))).set j (some (.im d'))) with
    | some (true, ρ1) => (match frE E ρ1 with
      | some (y, ρ2) => (match comp2D i j T E ds (w2 ρ2 i j) with
        | some (ys, ρ3) => some (y :: ys, ρ3)
        | none => none)
      | none => none)
    | some (false, ρ1) => comp2D i j T E ds (w2 ρ1 i j)
    | none => none)
  | _, _ => none
structure Comp2St (K : PySem.W.Frag) (b : Bs) (σ : L2.St) (i j : Nat) (G1 : Hp) (Dd : Addr) (T : TDT) (E : TDE) (ds ys : List D) (ρe : Ro) (n : Nat) (H : Hp) : Prop where
  h0 : b.H0 Dd = none
  ex : ∃ (Gj : Hp) (ρj : Ro) (acc : List V) (out rest : List D), Rep K b Gj H (w2 σ i j) (w2 ρj i j) ∧ Same G1 Gj ∧ H Dd = some (.lst acc) ∧ Gj Dd = none ∧ DpAll K Gj acc out ∧ comp2D i j T E (ds.drop n) (w2 ρj i j) = some (rest, ρe) ∧ out ++ rest = ys ∧
    ∀ (k : Nat) (g : Option Nat) (es : List D), (w2 ρj i j)[k]? = some (some (.own g es)) → (w2 σ i j)[k]? ≠ some (some (.ref Dd))
theorem w2_back {α : Type} (l : List (Option α)) (i j : Nat) (x y : Option α) : w2 (((w2 l i j).set i x).set j y) i j = w2 l i j := by
  unfold w2
  apply List.ext_getElem?
  intro k
  simp only [List.getElem?_set, List.length_set]
  by_cases h1 : i = k <;> by_cases h2 : j = k <;> simp [h1, h2]
theorem w2_own {ρ : Ro} {i j k : Nat} {s : Sl} (h : (w2 ρ i j)[k]? = some (some s)) : i ≠ k ∧ j ≠ k ∧ ρ[k]? = some (some s) := by
  rcases get_set h with ⟨_, z⟩ | ⟨z1, z2⟩
  · cases z
  · rcases get_set z2 with ⟨_, z⟩ | ⟨z3, z4⟩
    · cases z
    · exact ⟨z1, z3, z4⟩
theorem w2_st {α : Type} {l : List (Option α)} {i j k : Nat} (h1 : i ≠ k) (h2 : j ≠ k) : (w2 l i j)[k]? = l[k]? := by
  unfold w2
  rw [set_other h1, set_other h2]
theorem Rep.beside {K : PySem.W.Frag} {b : Bs} {G H : Hp} {σ : L2.St} {ρ : Ro} {Dd : Addr} {acc ws : List V} (R : Rep K b G H σ ρ) (h : H Dd = some (.lst acc)) (hn : G Dd = none) (h0 : b.H0 Dd = none)
    (no : ∀ (k : Nat) (g : Option Nat) (es : List D), ρ[k]? = some (some (.own g es)) → σ[k]? ≠ some (some (.ref Dd))) : Rep K b G (upd H Dd (.lst ws)) σ ρ := by
  refine ⟨fun c o e => ?_, R.len, R.im, fun k g es hk => ?_, R.sep, fun q o e n => ?_, R.nw, fun q e => ?_, R.bas, R.fnn⟩
  · have z : c ≠ Dd := ne_of_none e hn
    rw [upd_ne z]
    exact R.sub c o e
  · obtain ⟨p, vs, f1, f2, f3⟩ := R.own k g es hk
    have z : p ≠ Dd := fun z => by
      subst z
      exact no k g es hk f1
    exact ⟨p, vs, f1, by rw [upd_ne z]; exact f2, f3⟩
  · have z : q ≠ Dd := fun z => by
      subst z
      rw [h0] at e
      cases e
    rw [upd_ne z]
    exact R.fr q o e n
  · by_cases z : q = Dd
    · subst z
      rw [upd_same]
      exact fun y => nomatch y
    · rw [upd_ne z]
      exact R.dom q e
theorem comp2_turn {X : Cx} {b : Bs} {σ : L2.St} {i j : Nat} {G1 H H0 : Hp} {Dd : Addr} {T : TDT} {E : TDE} {ds ys : List D} {ρe : Ro} {n : Nat} {tt : TT} {te : TE} {Tp : Addr} {v v' : V} {d d' : D} (gt : GoT X tt T) (ge : GoE X te E) (hij : i ≠ j) (hy : ys.length ≤ 16777216)
    (hd : ds[n]? = some (.tuple [d, d'])) (C : Comp2St X.K b σ i j G1 Dd T E ds ys ρe n H0) (hT : SqT X.K H Tp [v, v'])
    (grow : ∀ G ρ, Rep X.K b G H0 (w2 σ i j) ρ → G Dd = none → ∃ G', Rep X.K b G' H (w2 σ i j) ρ ∧ Same G G' ∧ G' Dd = none ∧ (Same G1 G → Dp X.K G' v d ∧ Dp X.K G' v' d')) (hD : ∀ acc, H0 Dd = some (.lst acc) → H Dd = some (.lst acc)) :
    gTup X.K 2 (gCons (gName i) (gCons (gName j) gNil)) (.ref Tp) (w2 σ i j) H fun σ2 H2 => wipe σ2 [i, j] = wipe σ [i, j] ∧ tt σ2 H2 fun c H3 => if c = true then te σ2 H3 fun y H4 => ∃ acc, H4 Dd = some (.lst acc) ∧ acc.length < sizeLine ∧ Comp2St X.K b σ i j G1 Dd T E ds ys ρe (n + 1) (upd H4 Dd (.lst (acc ++ [y]))) else Comp2St X.K b σ i j G1 Dd T E ds ys ρe (n + 1) H3 := by
  obtain ⟨Gj, ρj, acc, out, rest, R, s, e1, e2, e3, e4, e5, no⟩ := C.ex
  obtain ⟨Gk, Rk, sk, nk, dk⟩ := grow Gj _ R e2
  obtain ⟨dv, dv'⟩ := dk s
  have hi := in_of_some hd
  rw [List.drop_eq_getElem_cons hi, (List.getElem?_eq_some_iff.mp hd).2] at e4
  unfold comp2D at e4
  refine ⟨Tp, [v, v'], rfl, hT, rfl, v, [v'], rfl, v', [], rfl, rfl, ?_⟩
  have R1 : Rep X.K b Gk H (((w2 σ i j).set i (some v)).set j (some v')) (((w2 ρj i j).set i (some (.im d))).set j (some (.im d'))) := (Rk.setIm i dv).setIm j dv'
  have hb : w2 (((w2 σ i j).set i (some v)).set j (some v')) i j = w2 σ i j := w2_back _ _ _ _ _
  have no1 : ∀ (k : Nat) (g : Option Nat) (es : List D), (((w2 ρj i j).set i (some (.im d))).set j (some (.im d')))[k]? = some (some (.own g es)) → (((w2 σ i j).set i (some v)).set j (some v'))[k]? ≠ some (some (.ref Dd)) := fun k g es hk => by
    rcases get_set hk with ⟨_, z⟩ | ⟨z, z2⟩
    · cases z
    · rcases get_set z2 with ⟨_, z3⟩ | ⟨z3, z4⟩
      · cases z3
      · rw [set_other z, set_other z3]
        exact no k g es z4
  refine ⟨hb, ?_⟩
  have e1' := hD acc e1
  have e3' := dpAll_same sk _ _ e3
  generalize hσ : ((w2 σ i j).set i (some v)).set j (some v') = σ2 at R1 no1 hb
  generalize hρ : ((w2 ρj i j).set i (some (.im d))).set j (some (.im d')) = ρ2 at R1 no1 e4
  have noW : ∀ (ρ3 : Ro), (∀ (k : Nat) (g : Option Nat) (es : List D), ρ3[k]? = some (some (.own g es)) → σ2[k]? ≠ some (some (.ref Dd))) → ∀ (k : Nat) (g : Option Nat) (es : List D), (w2 ρ3 i j)[k]? = some (some (.own g es)) → (w2 σ i j)[k]? ≠ some (some (.ref Dd)) := fun ρ3 h3 k g es hk => by
    obtain ⟨z1, z2, z3⟩ := w2_own hk
    rw [← hb, w2_st z1 z2]
    exact h3 k g es z3
  split at e4
  · next ρ3 e6 =>
    unfold frT at e6
    split at e6
    · next c ρ3' e7 =>
      cases e6
      refine gt _ σ2 Gk H _ _ _ ρ3' R1.rebase e7 fun G3 H3 R3 s3 => iteT ?_
      have R3' := R1.unbase R3
      have hD3 := R3.left e1' no1
      have nD3 := R3.nw Dd (by show H Dd ≠ none; rw [e1']; exact fun z => (nomatch z)) nk
      have no3 : ∀ (k : Nat) (g : Option Nat) (es : List D), (untag ρ2 ρ3')[k]? = some (some (.own g es)) → σ2[k]? ≠ some (some (.ref Dd)) := fun k g es hk => by
        obtain ⟨⟨es', z⟩, _⟩ := untag_own hk
        exact no1 k g es' z
      split at e4
      · next y ρ4 e8 =>
        unfold frE at e8
        split at e8
        · next y' ρ4' e9 =>
          cases e8
          split at e4
          · next rest' ρ5 e10 =>
            cases e4
            refine ge _ σ2 G3 H3 _ _ _ ρ4' R3'.rebase e9 fun u G4 H4 R4 s4 d4 => ?_
            have R4' := R3'.unbase R4
            have hD4 := R4.left hD3 no3
            have nD4 := R4.nw Dd (by show H3 Dd ≠ none; rw [hD3]; exact fun z => (nomatch z)) nD3
            have no4 : ∀ (k : Nat) (g : Option Nat) (es : List D), (untag (untag ρ2 ρ3') ρ4')[k]? = some (some (.own g es)) → σ2[k]? ≠ some (some (.ref Dd)) := fun k g es hk => by
              obtain ⟨⟨es', z⟩, _⟩ := untag_own hk
              exact no3 k g es' z
            have lo : acc.length < 16777216 := by
              rw [dpAll_len e3]
              have := congrArg List.length e5
              rw [List.length_append, List.length_cons] at this
              omega
            refine ⟨acc, hD4, line_lt lo, ?_⟩
            have R5 := (R4'.setNone j).setNone i
            have hb' : (σ2.set j none).set i none = w2 σ i j := hb
            rw [hb'] at R5
            have nw := noW _ no4
            exact ⟨C.h0, G4, _, acc ++ [u], out ++ [y], rest', R5.beside hD4 nD4 C.h0 nw, s.trans (sk.trans (s3.trans s4)), upd_same, nD4, dpAll_app (dpAll_same (s3.trans s4) _ _ e3') (.cons d4 .nil), e10, by rw [List.append_assoc]; exact e5, nw⟩
          · cases e4
        · cases e8
      · cases e4
    · cases e6
  · next ρ3 e6 =>
    unfold frT at e6
    split at e6
    · next c ρ3' e7 =>
      cases e6
      refine gt _ σ2 Gk H _ _ _ ρ3' R1.rebase e7 fun G3 H3 R3 s3 => iteF ?_
      have R3' := ((R1.unbase R3).setNone j).setNone i
      have hb' : (σ2.set j none).set i none = w2 σ i j := hb
      rw [hb'] at R3'
      have hD3 := R3.left e1' no1
      have nD3 := R3.nw Dd (by show H Dd ≠ none; rw [e1']; exact fun z => (nomatch z)) nk
      have no3 : ∀ (k : Nat) (g : Option Nat) (es : List D), (untag ρ2 ρ3')[k]? = some (some (.own g es)) → σ2[k]? ≠ some (some (.ref Dd)) := fun k g es hk => by
        obtain ⟨⟨es', z⟩, _⟩ := untag_own hk
        exact no1 k g es' z
      exact ⟨C.h0, G3, _, acc, out, rest, R3', s.trans (sk.trans s3), hD3, nD3, dpAll_same s3 _ _ e3', e4, e5, noW _ no3⟩
    · cases e6
  · cases e4
def dComp2 (i j : Nat) (src : D → Option (List D)) (A : TDE) (T : TDT) (E : TDE) : TDA := fun ρ => match A ρ with
  | some (d, ρ1) => (match src d with
    | some ds => (match comp2D i j T E ds (w2 ρ1 i j) with
      | some (ys, ρ2) => if ys.length ≤ 16777216 then some (ys, w2 ρ2 i j) else none
      | none => none)
    | none => none)
  | none => none
theorem comp2_some {i j : Nat} {src : D → Option (List D)} {A E : TDE} {T : TDT} {ρ ρ' : Ro} {ys : List D} (h : dComp2 i j src A T E ρ = some (ys, ρ')) : ∃ d ρ1 ds ρ2, A ρ = some (d, ρ1) ∧ src d = some ds ∧ comp2D i j T E ds (w2 ρ1 i j) = some (ys, ρ2) ∧ ys.length ≤ 16777216 ∧ ρ' = w2 ρ2 i j := by
  unfold dComp2 at h
  split at h
  · next d ρ1 e1 =>
    split at h
    · next ds e2 =>
      split at h
      · next ys' ρ2 e3 =>
        split at h
        · next hl =>
          cases h
          exact ⟨d, ρ1, ds, ρ2, e1, e2, e3, hl, rfl⟩
        · cases h
      · cases h
    · cases h
  · cases h
section
variable {X : Cx} {elt it : Expr} {ifs : List Expr} {scope : Scope} {x y : Str} {i j kk : Nat} {pos p1 p2 tpos q1 q2 : Pos} {A E : TDE} {T : TDT}
theorem comp2_start {b : Bs} {σ : L2.St} {G1 H1 : Hp} {Dd : Addr} {ds ys : List D} {ρ1 ρe : Ro} (R1 : Rep X.K b G1 H1 σ ρ1) (n : H1 Dd = none) (h : comp2D i j T E ds (w2 ρ1 i j) = some (ys, ρe)) : Comp2St X.K b σ i j G1 Dd T E ds ys ρe 0 (upd H1 Dd (.lst [])) := by
  have R2 := (R1.setNone j).setNone i
  exact ⟨R1.free0 n, G1, ρ1, [], [], ys, R2.allocO n _, Same.refl _, upd_same, R1.sub.free n, .nil, h, rfl, R2.other n⟩
theorem comp2_end {b : Bs} {σ : L2.St} {G1 H : Hp} {Dd : Addr} {ds ys : List D} {ρe : Ro} {Q : VK} (C : Comp2St X.K b σ i j G1 Dd T E ds ys ρe ds.length H)
    (q : ∀ p vs G' H', Rep X.K b G' H' σ (w2 ρe i j) → Same G1 G' → H' p = some (.lst vs) → G' p = none → b.H0 p = none → (∀ (k : Nat) (g : Option Nat) (es : List D), (w2 ρe i j)[k]? = some (some (.own g es)) → σ[k]? ≠ some (some (.ref p))) → DpAll X.K G' vs ys → Q (.ref p) H') : Q (.ref Dd) H := by
  obtain ⟨Gj, ρj, acc, out, rest, R, s, e1, e2, e3, e4, e5, no⟩ := C.ex
  rw [List.drop_length] at e4
  unfold comp2D at e4
  cases e4
  rw [List.append_nil] at e5
  subst e5
  have z : w2 (w2 ρj i j) i j = w2 ρj i j := by
    have := w2_back ρj i j none none
    unfold w2 at this ⊢
    apply List.ext_getElem?
    intro k
    simp only [List.getElem?_set, List.length_set]
    by_cases h1 : i = k <;> by_cases h2 : j = k <;> simp [h1, h2]
  rw [z] at q
  have R' : Rep X.K b Gj H σ (w2 ρj i j) := by
    refine ⟨R.sub, ?_, fun k d e => ?_, fun k g ds e => ?_, fun k l g ds g' es p h1 h2 h3 h4 => ?_, R.fr, R.nw, R.dom, R.bas, fun k L e => ?_⟩
    · have := R.len
      unfold w2 at this ⊢
      simp only [List.length_set] at this ⊢
      exact this
    · obtain ⟨a1, a2, _⟩ := w2_own e
      have := R.im k d e
      rw [w2_st a1 a2] at this
      exact this
    · obtain ⟨a1, a2, _⟩ := w2_own e
      have := R.own k g ds e
      rw [w2_st a1 a2] at this
      exact this
    · obtain ⟨a1, a2, _⟩ := w2_own h1
      obtain ⟨b1, b2, _⟩ := w2_own h2
      exact R.sep k l g ds g' es p h1 h2 (by rw [w2_st a1 a2]; exact h3) (by rw [w2_st b1 b2]; exact h4)
    · obtain ⟨a1, a2, _⟩ := w2_own e
      have := R.fnn k L e
      rw [w2_st a1 a2] at this
      exact this
  refine q Dd acc Gj H R' s e1 e2 C.h0 (fun k g es hk => ?_) e3
  obtain ⟨a1, a2, _⟩ := w2_own hk
  have := no k g es hk
  rw [w2_st a1 a2] at this
  exact this
variable (hc : X.calm = true) (hN : X.N.Nodup) (hij : i ≠ j) (ok : BlkOk X.N X.env.scope scope [(x, i), (y, j)])
  (hg : ∀ (s : Shared) (H : Hp) (C : Addr) (cl : List (Str × Addr)) (fp : List Addr), PG (X.blk s H scope (compEnvC scope cl C X.env) fp) (.Tuple [.Name x q1, .Name y q2] kk tpos) (gTup X.K 2 (gCons (gName i) (gCons (gName j) gNil))))
  (ht : ∀ (s : Shared) (H : Hp) (C : Addr) (cl : List (Str × Addr)) (fp : List Addr), QTs (X.blk s H scope (compEnvC scope cl C X.env) fp) ifs T)
  (he : ∀ (s : Shared) (H : Hp) (C : Addr) (cl : List (Str × Addr)) (fp : List Addr), QE (X.blk s H scope (compEnvC scope cl C X.env) fp) elt E)
include hc hN hij ok hg ht he
end
end My
namespace My
open PySem PySem.Spec L2
theorem pi_or {X : Cx} {tg e : Expr} {w1 w2 : TI} (h1 : PI X tg e w1) (h2 : PI X tg e w2) : PI X tg e (fun σ H R => w1 σ H R ∨ w2 σ H R) := fun pins s σ H R I h => by
  rcases h with h | h
  · exact h1 pins s σ H R I h
  · exact h2 pins s σ H R I h
def dForS (A : TDE) (g : TDG) (S : TDS) : TDS := fun ρ => match A ρ with
  | some (d, ρ1) => (match seqD d with
    | some ds => forD g S ds ρ1
    | none => none)
  | none => none
section
variable {X : Cx} {it tg elt : Expr} {A E : TDE} {T : TDT} {S : TDS} {g : TDG} {sts : List Stmt} {elts ifs : List Expr} {kk : Nat} {p p1 p2 pos pos' tpos q1 q2 : Pos} {scope : Scope} {x y : Str} {i j : Nat}
theorem qs_forS (hi : QE X it A) (hg : QG X tg g) (hb : QB X sts S) (hp : PassesOwn (model X.prog X.w) X.A X.env X.xe) (hc : X.calm = true) (hs : ∀ x, foldedSetIterable it X.env x = pure x := by intro _; rfl) :
    QS X (.For tg it sts [] pos) (dForS A g S) := by
  obtain ⟨ta, pa, ga⟩ := hi.ex
  obtain ⟨tt, pg, gg⟩ := hg.ex
  obtain ⟨tb, pb, gb⟩ := hb.ex
  refine ⟨_, ps_for hp hc (pi_or (pi_list pa) (pi_tup pa)) pg pb hs, fun b σ G H E ρ o R h f => ?_⟩
  unfold dForS at h
  split at h
  · next d ρ1 e1 =>
    split at h
    · next ds e2 =>
      unfold seqD at e2
      split at e2
      · cases e2
        refine .inl (ga b σ G H _ ρ _ ρ1 R e1 fun v G1 H1 R1 s1 d1 => ?_)
        obtain ⟨q, xs, rfl, h1, h2⟩ := dp_list d1
        refine ⟨q, rfl, ⟨xs, R1.sub.seq h1⟩, for_list (K := X.K) (a := q) (xs := xs) (fun j σ H => ∃ G' ρ', Rep X.K b G' H σ ρ' ∧ Same G1 G' ∧ forD g S (ds.drop j) ρ' = some o) ⟨G1, ρ1, R1, Same.refl _, h⟩
          (fun j σ H _ ⟨G', ρ', R', s', _⟩ => R'.sub.seq (s'.seq h1)) (fun j y σ H hy hP => ?_) (fun σ H hP => ?_)⟩
        · obtain ⟨d, e2, e3⟩ := dpAll_get' h2 hy
          exact for_turn rfl gg gb (fun _ _ _ => Iff.rfl) (f.up s1) e2 e3 hP
        · obtain ⟨G', ρ', R', s', e⟩ := hP
          rw [dpAll_len h2, List.drop_length] at e
          cases e
          exact f σ G' H R' (s1.trans s')
      · cases e2
        refine .inr (ga b σ G H _ ρ _ ρ1 R e1 fun v G1 H1 R1 s1 d1 => ?_)
        obtain ⟨q, xs, rfl, h1, h2⟩ := dp_tuple d1
        refine ⟨q, rfl, ⟨xs, sqT_same R1.sub h1⟩, for_tup (K := X.K) (a := q) (xs := xs) (fun j σ H => ∃ G' ρ', Rep X.K b G' H σ ρ' ∧ Same G1 G' ∧ forD g S (ds.drop j) ρ' = some o) ⟨G1, ρ1, R1, Same.refl _, h⟩
          (fun j σ H _ ⟨G', ρ', R', s', _⟩ => sqT_same R'.sub (sqT_same s' h1)) (fun j y σ H hy hP => ?_) (fun σ H hP => ?_)⟩
        · obtain ⟨d, e2, e3⟩ := dpAll_get' h2 hy
          exact for_turn rfl gg gb (fun _ _ _ => Iff.rfl) (f.up s1) e2 e3 hP
        · obtain ⟨G', ρ', R', s', e⟩ := hP
          rw [dpAll_len h2, List.drop_length] at e
          cases e
          exact f σ G' H R' (s1.trans s')
      · cases e2
    · cases h
  · cases h
def dCompS (i : Nat) (A : TDE) (T : TDT) (E : TDE) : TDA := fun ρ => match A ρ with
  | some (d, ρ1) => (match seqD d with
    | some ds => (match compD i T E ds (ρ1.set i none) with
      | some (ys, ρ2) => if ys.length ≤ 16777216 then some (ys, ρ2.set i none) else none
      | none => none)
    | none => none)
  | none => none
def srcES (d : D) : Option (List D) := match seqD d with
  | some ds => some (enumD ds)
  | none => none
section
variable (hc : X.calm = true) (hN : X.N.Nodup) (ok : BlkOk X.N X.env.scope scope [(x, i)])
  (hg : ∀ (s : Shared) (H : Hp) (C : Addr) (cl : List (Str × Addr)) (fp : List Addr), PG (X.blk s H scope (compEnvC scope cl C X.env) fp) (.Name x tpos) (gName i))
  (ht : ∀ (s : Shared) (H : Hp) (C : Addr) (cl : List (Str × Addr)) (fp : List Addr), QTs (X.blk s H scope (compEnvC scope cl C X.env) fp) ifs T)
  (he : ∀ (s : Shared) (H : Hp) (C : Addr) (cl : List (Str × Addr)) (fp : List Addr), QE (X.blk s H scope (compEnvC scope cl C X.env) fp) elt E)
include hc hN ok hg ht he
theorem qc_compS (hi : QE X it A) (hs : ∀ x, foldedSetIterable it X.env x = pure x := by intro _; rfl) : QC X (.ListComp elt [⟨.Name x tpos, it, ifs, 0⟩] scope pos) (dCompS i A T E) := by
  obtain ⟨ta, pa, ga⟩ := hi.ex
  refine ⟨_, pe_lc (own := [(x, i)]) (g := gName i) (tt := tOfT X.K T) (te := tOfE X.K E) hc hN (pi_or (pi_list pa) (pi_tup pa)) ok hg (fun s H C cl fp => (ht s H C cl fp).can) (fun s H C cl fp => (he s H C cl fp).can) hs, fun _ _ _ _ a1 a2 a3 => ps_setLc (own := [(x, i)]) (g := gName i) (tt := tOfT X.K T) (te := tOfE X.K E) hc hN a1 a2 a3 (pi_or (pi_list pa) (pi_tup pa)) ok hg (fun s H C cl fp => (ht s H C cl fp).can) (fun s H C cl fp => (he s H C cl fp).can) hs, fun b σ G H Q ρ ys ρ' R h q => ?_⟩
  unfold dCompS at h
  split at h
  · next d ρ1 e1 =>
    split at h
    · next ds e0 =>
      split at h
      · next ys' ρ2 e2 =>
        split at h
        · next hl =>
          cases h
          unfold seqD at e0
          split at e0
          · cases e0
            refine .inl (ga b σ G H _ ρ _ ρ1 R e1 fun v G1 H1 R1 s1 d1 => ?_)
            obtain ⟨r, xs, rfl, h1, h2⟩ := dp_list d1
            refine ⟨r, rfl, ⟨xs, R1.sub.seq h1⟩, fun Dd n => lc_list (K := X.K) (a := r) (xs := xs) (fun j H => CompSt X.K b σ i G1 Dd T E ds ys ρ2 j H) (comp_start R1 n e2) (fun j H _ C => ?_) (fun j y H hy C => ?_) (fun H C => ?_)⟩
            · obtain ⟨Gj, _, _, _, _, Rj, sj, _⟩ := C.ex
              exact Rj.sub.seq (sj.seq h1)
            · obtain ⟨d, e3, e4⟩ := dpAll_get' h2 hy
              exact comp_turn (X := X) (X' := X) rfl go_canT go_canE hl e3 e4 C
            · rw [dpAll_len h2] at C
              exact comp_end C fun p vs G' H' R' s' a1 a2 a3 a4 a5 => q p vs G' H' R' (s1.trans s') a1 a2 a3 a4 a5
          · cases e0
            refine .inr (ga b σ G H _ ρ _ ρ1 R e1 fun v G1 H1 R1 s1 d1 => ?_)
            obtain ⟨r, xs, rfl, h1, h2⟩ := dp_tuple d1
            refine ⟨r, rfl, ⟨xs, sqT_same R1.sub h1⟩, fun Dd n => lc_tup (K := X.K) (a := r) (xs := xs) (fun j H => CompSt X.K b σ i G1 Dd T E ds ys ρ2 j H) (comp_start R1 n e2) (fun j H _ C => ?_) (fun j y H hy C => ?_) (fun H C => ?_)⟩
            · obtain ⟨Gj, _, _, _, _, Rj, sj, _⟩ := C.ex
              exact sqT_same Rj.sub (sqT_same sj h1)
            · obtain ⟨d, e3, e4⟩ := dpAll_get' h2 hy
              exact comp_turn (X := X) (X' := X) rfl go_canT go_canE hl e3 e4 C
            · rw [dpAll_len h2] at C
              exact comp_end C fun p vs G' H' R' s' a1 a2 a3 a4 a5 => q p vs G' H' R' (s1.trans s') a1 a2 a3 a4 a5
          · cases e0
        · cases h
      · cases h
    · cases h
  · cases h
end
theorem lc_enum {b : Bs} {σ : L2.St} {G1 H1 : Hp} {ρ1 ρ2 : Ro} {xs : List V} {ds ys : List D} {J : It} {Dd : Addr} {Q : VK} (Sq : Hp → Prop) (hij : i ≠ j) (hl : ys.length ≤ 16777216) (R1 : Rep X.K b G1 H1 σ ρ1) (nn : H1 Dd = none) (h2 : DpAll X.K G1 xs ds) (e3 : comp2D i j T E (enumD ds) (w2 ρ1 i j) = some (ys, ρ2))
    (q : ∀ p vs G' H', Rep X.K b G' H' σ (w2 ρ2 i j) → Same G1 G' → H' p = some (.lst vs) → G' p = none → b.H0 p = none → (∀ (k : Nat) (g : Option Nat) (es : List D), (w2 ρ2 i j)[k]? = some (some (.own g es)) → σ[k]? ≠ some (some (.ref p))) → DpAll X.K G' vs ys → Q (.ref p) H')
    (hS : ∀ G' H', Same G1 G' → Same G' H' → Sq H') (go : ∀ n H, Sq H → n < xs.length → J.go n H) (st : ∀ n H, Sq H → xs.length ≤ n → J.stop n H) (yl : ∀ n H v H', Sq H → J.yld n H v H' → ∃ Tp u, v = .ref Tp ∧ H Tp = none ∧ H' = upd H Tp (.tup [.int (n : Nat), u]) ∧ xs[n]? = some u) :
    ∃ W : Nat → Nat → Hp → Prop, (∃ m, W 0 m (upd H1 Dd (.lst []))) ∧ ∀ n m H, W n m H → (J.stop n H ∧ Q (.ref Dd) H) ∨ (J.go n H ∧ ∃ Nx : Hp → Prop, (∀ H', Nx H' → ∃ m', m' < m ∧ W (n + 1) m' H') ∧ ∀ x H', J.yld n H x H' → gTup X.K 2 (gCons (gName i) (gCons (gName j) gNil)) x (wipe σ [i, j]) H' fun σ2 H2 => wipe σ2 [i, j] = wipe σ [i, j] ∧ tOfT X.K T σ2 H2 fun b H3 =>
      if b = true then tOfE X.K E σ2 H3 fun y H4 => ∃ acc, H4 Dd = some (.lst acc) ∧ acc.length < sizeLine ∧ Nx (upd H4 Dd (.lst (acc ++ [y]))) else Nx H3) := by
  refine ⟨fun n m H => m = ds.length - n ∧ n ≤ ds.length ∧ Comp2St X.K b σ i j G1 Dd T E (enumD ds) ys ρ2 n H, ⟨ds.length, by simp, Nat.zero_le _, comp2_start R1 nn e3⟩, ?_⟩
  rintro n m H' ⟨rfl, hn, C⟩
  obtain ⟨Gj, ρj, acc, _, _, Rj, sj, hDj, nDj, _⟩ := C.ex
  have sq := hS Gj H' sj Rj.sub
  by_cases hlt : n < ds.length
  · have hx : n < xs.length := by rw [dpAll_len h2]; exact hlt
    refine .inr ⟨go n H' sq hx, fun H => Comp2St X.K b σ i j G1 Dd T E (enumD ds) ys ρ2 (n + 1) H, fun H3 C3 => ⟨ds.length - (n + 1), by omega, rfl, hlt, C3⟩, fun v H2 hy => ?_⟩
    obtain ⟨Tp, u, rfl, nT, rfl, hu⟩ := yl n H' v H2 sq hy
    obtain ⟨d', e4, e5⟩ := dpAll_get' h2 hu
    have neD : Dd ≠ Tp := ne_of_none hDj nT
    refine comp2_turn (X := X) (v := .int (n : Nat)) (v' := u) (d := .int (n : Int)) (d' := d') go_canT go_canE hij hl (enumD_at e4) C (SqT.of upd_same) (fun G ρ RG nG => ?_) (fun acc' ha => by rw [upd_ne neD]; exact ha)
    exact ⟨_, RG.alloc nT _, same_new (RG.sub.free nT) _, by rw [upd_ne neD]; exact nG, fun sG => ⟨.int _, dp_same (sG.trans (same_new (RG.sub.free nT) _)) _ _ e5⟩⟩
  · have hz : n = ds.length := by omega
    subst hz
    refine .inl ⟨st _ H' sq (by rw [dpAll_len h2]; exact Nat.le_refl _), ?_⟩
    rw [← enumD_len] at C
    exact comp2_end C q
section
variable (hc : X.calm = true) (hN : X.N.Nodup) (hij : i ≠ j) (ok : BlkOk X.N X.env.scope scope [(x, i), (y, j)])
  (hg : ∀ (s : Shared) (H : Hp) (C : Addr) (cl : List (Str × Addr)) (fp : List Addr), PG (X.blk s H scope (compEnvC scope cl C X.env) fp) (.Tuple [.Name x q1, .Name y q2] kk tpos) (gTup X.K 2 (gCons (gName i) (gCons (gName j) gNil))))
  (ht : ∀ (s : Shared) (H : Hp) (C : Addr) (cl : List (Str × Addr)) (fp : List Addr), QTs (X.blk s H scope (compEnvC scope cl C X.env) fp) ifs T)
  (he : ∀ (s : Shared) (H : Hp) (C : Addr) (cl : List (Str × Addr)) (fp : List Addr), QE (X.blk s H scope (compEnvC scope cl C X.env) fp) elt E)
include hc hN hij ok hg ht he
theorem qc_comp2ES (hi : QE X it A) (hgl : Gl X "enumerate") (hm : X.mg "enumerate" = none) (hpl : plainE it = true) (hs : ∀ x, foldedSetIterable (.Call (.Name "enumerate" p1) [it] [] p2) X.env x = pure x := by intro _; rfl) :
    QC X (.ListComp elt [⟨.Tuple [.Name x q1, .Name y q2] kk tpos, .Call (.Name "enumerate" p1) [it] [] p2, ifs, 0⟩] scope pos) (dComp2 i j srcES A T E) := by
  obtain ⟨ta, pa, ga⟩ := hi.ex
  have pl : starEach [it] X.env = [(false, eval it X.env)] := by rw [star_plain hpl]; rfl
  refine ⟨_, pe_lc (own := [(x, i), (y, j)]) (tt := tOfT X.K T) (te := tOfE X.K E) hc hN (pi_or (pi_enum hgl hm (pa_c pa pa_nil hpl) pl) (pi_enumT hgl hm (pa_c pa pa_nil hpl) pl)) ok hg (fun s H C cl fp => (ht s H C cl fp).can) (fun s H C cl fp => (he s H C cl fp).can) hs, fun _ _ _ _ a1 a2 a3 => ps_setLc (own := [(x, i), (y, j)]) (tt := tOfT X.K T) (te := tOfE X.K E) hc hN a1 a2 a3 (pi_or (pi_enum hgl hm (pa_c pa pa_nil hpl) pl) (pi_enumT hgl hm (pa_c pa pa_nil hpl) pl)) ok hg (fun s H C cl fp => (ht s H C cl fp).can) (fun s H C cl fp => (he s H C cl fp).can) hs, fun b σ G H Q ρ ys ρ' R h q => ?_⟩
  obtain ⟨d, ρ1, ds', ρ2, e1, e2, e3, hl, rfl⟩ := comp2_some h
  unfold srcES at e2
  split at e2
  · next ds e0 =>
    cases e2
    unfold seqD at e0
    split at e0
    · cases e0
      refine .inl (ga b σ G H _ ρ _ ρ1 R e1 fun v G1 H1 R1 s1 d1 => ?_)
      obtain ⟨r, xs, rfl, h1, h2⟩ := dp_list d1
      refine ⟨r, xs, rfl, R1.sub.seq h1, fun Dd nn => lc_enum (fun H => SqL X.K H r xs) hij hl R1 nn h2 e3 (fun p vs G' H' R' s' a1 a2 a3 a4 a5 => q p vs G' H' R' (s1.trans s') a1 a2 a3 a4 a5) (fun G' H' a1 a2 => a2.seq (a1.seq h1)) (fun n H q hn => ⟨xs, _, q, List.getElem?_eq_getElem hn⟩) (fun n H q hn => ⟨xs, q, hn⟩) fun n H v H' q hy => ?_⟩
      obtain ⟨Tp, u, z1, z2, z3, z4⟩ := hy
      exact ⟨Tp, u, z1, z2, z3, z4 xs q⟩
    · cases e0
      refine .inr (ga b σ G H _ ρ _ ρ1 R e1 fun v G1 H1 R1 s1 d1 => ?_)
      obtain ⟨r, xs, rfl, h1, h2⟩ := dp_tuple d1
      refine ⟨r, xs, rfl, sqT_same R1.sub h1, fun Dd nn => lc_enum (fun H => SqT X.K H r xs) hij hl R1 nn h2 e3 (fun p vs G' H' R' s' a1 a2 a3 a4 a5 => q p vs G' H' R' (s1.trans s') a1 a2 a3 a4 a5) (fun G' H' a1 a2 => sqT_same a2 (sqT_same a1 h1)) (fun n H q hn => ⟨xs, _, q, List.getElem?_eq_getElem hn⟩) (fun n H q hn => ⟨xs, q, hn⟩) fun n H v H' q hy => ?_⟩
      obtain ⟨Tp, u, z1, z2, z3, z4⟩ := hy
      exact ⟨Tp, u, z1, z2, z3, z4 xs q⟩
    · cases e0
  · cases e2
end
def intD : D → Option D
  | .int i => some (.int i)
  | .bool k => some (.int (if k then 1 else 0))
  | _ => none
theorem qe_toInt {a : Expr} (h : QE X a A) (hgl : Gl X "int") (hm : X.mg "int" = none) (hp : plainE a = true) : QE X (.Call (.Name "int" p) [a] [] pos) (dUn intD A) := by
  obtain ⟨ta, pa, ga⟩ := h.ex
  refine ⟨_, pcty call_int1 hgl hm (by decide +kernel) (pa_c pa pa_nil hp) (by decide) (by decide) hp rfl, fun b σ G H Q ρ d ρ' R h q => ?_⟩
  unfold dUn at h
  split at h
  · next d0 ρ1 e1 =>
    refine ga b σ G H _ ρ d0 ρ1 R e1 fun v G1 H1 R1 s1 d1 => ?_
    unfold intD at h
    split at h
    · next d' e2 =>
      cases h
      split at e2
      · cases e2
        cases d1
        exact .inl ⟨_, rfl, q _ G1 H1 R1 s1 (.int _)⟩
      · cases e2
        cases d1
        exact .inr ⟨_, rfl, q _ G1 H1 R1 s1 (.int _)⟩
      · cases e2
    · cases h
  · cases h
end
end My
namespace My
open PySem PySem.Spec PySem.W PyProof.Rows
section
variable {prog : Program} {w : World} {A : Around} {E : Value → Shared → Prop} {s : Shared}
end
end My
namespace My
open PySem PySem.Spec PySem.W PyProof.Rows
section
variable {n : Nat} {lt : Nat → Nat → Bool} {α β : Type}
structure Ord (lt : Nat → Nat → Bool) : Prop where
  asym : ∀ i j, lt i j = true → lt j i = false
  tr : ∀ i j k, lt j i = false → lt k j = false → lt k i = false
variable (O : Ord lt)
include O
end
end My
namespace My
open PySem PySem.Spec PySem.W PyProof.Rows L2
inductive SK where
  | num | pair | soft
def SK.key : SK → D → Option (List Int)
  | .num, .int i => some [i]
  | .pair, .tuple [.int a, .int b] => some [a, b]
  | .soft, .tuple [.tuple [.int a, .int b], .int c] => some [a, b, c]
  | _, _ => none
def SK.un : SK → List Int → D
  | .num, [i] => .int i
  | .pair, [a, b] => .tuple [.int a, .int b]
  | .soft, [a, b, c] => .tuple [.tuple [.int a, .int b], .int c]
  | _, _ => .none
def SK.κ : SK → SortKind
  | .num => oneType'
  | .pair => tuples' true
  | .soft => tuples' false
def TupAt (h : Heap) (b : Addr) (vs : List Value) : Prop := ∃ o n, h.get? b = some o ∧ o.cls = .type "tuple" ∧ o.data = .seq vs.toArray n
def SK.at : SK → Heap → Value → List Int → Prop
  | .num, _, v, ns => ∃ i t, v = .int i t ∧ ns = [i]
  | .pair, h, v, ns => ∃ b x y t u, v = .ref b ∧ TupAt h b [.int x t, .int y u] ∧ ns = [x, y]
  | .soft, h, v, ns => ∃ b c x y z t u r, v = .ref b ∧ TupAt h b [.ref c, .int z r] ∧ TupAt h c [.int x t, .int y u] ∧ ns = [x, y, z]
theorem TupAt.keeps {h h' : Heap} {b : Addr} {vs : List Value} (t : TupAt h b vs) (k : ∀ b o, h.get? b = some o → h'.get? b = some o) : TupAt h' b vs := by
  obtain ⟨o, n, h1, h2, h3⟩ := t
  exact ⟨o, n, k _ _ h1, h2, h3⟩
theorem SK.at_keeps {k : SK} {h h' : Heap} {v : Value} {ns : List Int} (a : k.at h v ns) (z : ∀ b o, h.get? b = some o → h'.get? b = some o) : k.at h' v ns := by
  cases k with
  | num => exact a
  | pair =>
    obtain ⟨b, x, y, t, u, rfl, h1, rfl⟩ := a
    exact ⟨b, x, y, t, u, rfl, h1.keeps z, rfl⟩
  | soft =>
    obtain ⟨b, c, x, y, w, t, u, r, rfl, h1, h2, rfl⟩ := a
    exact ⟨b, c, x, y, w, t, u, r, rfl, h1.keeps z, h2.keeps z, rfl⟩
section
variable {prog : Program} {w : World} {A : Around} {E : Value → Shared → Prop} {s : Shared}
def AllAt (k : SK) (h : Heap) : List Value → List (List Int) → Prop
  | [], [] => True
  | v :: vs, ns :: r => k.at h v ns ∧ AllAt k h vs r
  | _, _ => False
theorem AllAt.len {k : SK} {h : Heap} : ∀ {vs : List Value} {r : List (List Int)}, AllAt k h vs r → vs.length = r.length
  | [], [], _ => rfl
  | _ :: _, _ :: _, a => by rw [List.length_cons, List.length_cons, AllAt.len a.2]
  | [], _ :: _, a => a.elim
  | _ :: _, [], a => a.elim
theorem AllAt.get {k : SK} {h : Heap} : ∀ {vs : List Value} {r : List (List Int)} (i : Nat), AllAt k h vs r → i < vs.length → k.at h (vs.getD i .none) (r.getD i [])
  | [], [], i, _, z => by simp at z
  | _ :: _, _ :: _, 0, a, _ => a.1
  | _ :: vs, _ :: r, i + 1, a, z => by
    have := AllAt.get (vs := vs) (r := r) i a.2 (by simpa using z)
    simpa using this
  | [], _ :: _, _, a, _ => a.elim
  | _ :: _, [], _, a, _ => a.elim
theorem AllAt.keeps {k : SK} {h h' : Heap} (z : ∀ b o, h.get? b = some o → h'.get? b = some o) : ∀ {vs : List Value} {r : List (List Int)}, AllAt k h vs r → AllAt k h' vs r
  | [], [], _ => trivial
  | _ :: _, _ :: _, a => ⟨SK.at_keeps a.1 z, AllAt.keeps z a.2⟩
  | [], _ :: _, a => a.elim
  | _ :: _, [], a => a.elim
theorem AllAt.tups {T : Value} {k : SK} {h : Heap} (hf : ∀ v ns, k.at h v ns → ∃ b x y, v = .ref b ∧ TupAt h b [x, y] ∧ Looks (model prog w) h (typeOf x) T) : ∀ {vs : List Value} {r : List (List Int)}, AllAt k h vs r → ∃ fs, KatTups h vs fs ∧ fs.length = vs.length ∧ ∀ v ∈ fs, Looks (model prog w) h (typeOf v) T
  | [], [], _ => ⟨[], .nil, rfl, fun v hv => nomatch hv⟩
  | v :: vs, ns :: r, a => by
    obtain ⟨fs, h1, h2, h3⟩ := AllAt.tups hf a.2
    obtain ⟨b, x, y, rfl, ⟨o, n, e1, e2, e3⟩, hl⟩ := hf v ns a.1
    exact ⟨x :: fs, .cons e1 e2 e3 rfl h1, by rw [List.length_cons, List.length_cons, h2], fun v hv => by
      rcases List.mem_cons.mp hv with rfl | hv
      · exact hl
      · exact h3 v hv⟩
  | [], _ :: _, a => a.elim
  | _ :: _, [], a => a.elim
theorem looks_int {h : Heap} {i : Int} {t : Tok} : Looks (model prog w) h (typeOf (.int i t)) (.type "int") := Looks.of_pure rfl
theorem SK.kind {k : SK} {vs : List Value} {r : List (List Int)} {Q : SortKind → Shared → Prop} (a : AllAt k s.heap vs r) (h2 : 2 ≤ vs.length) (q : Q k.κ s) : wpAny (model prog w) A (keyKind' vs.toArray) Q E s := by
  cases k with
  | num =>
    refine kas_kind (T := .type "int") h2 (fun v hv => ?_) (by decide) (by decide) q
    obtain ⟨i, hi, e⟩ := List.getElem_of_mem hv
    have z := AllAt.get i a hi
    rw [show vs.getD i .none = v by simp [hi, e]] at z
    obtain ⟨i, t, rfl, _⟩ := z
    exact looks_int
  | pair =>
    obtain ⟨fs, h1, h3, h4⟩ := AllAt.tups (prog := prog) (w := w) (T := .type "int") (fun v ns z => by
      obtain ⟨b, x, y, t, u, rfl, e, rfl⟩ := z
      exact ⟨b, _, _, rfl, e, looks_int⟩) a
    exact kat_kind h1 (by omega) h4 (by decide) q
  | soft =>
    obtain ⟨fs, h1, h3, h4⟩ := AllAt.tups (prog := prog) (w := w) (T := .type "tuple") (fun v ns z => by
      obtain ⟨b, c, x, y, z, t, u, r, rfl, e1, ⟨o, n, f1, f2, f3⟩, rfl⟩ := z
      exact ⟨b, _, _, rfl, e1, by rw [← f2]; exact (Looks.ld f1).andThen .now⟩) a
    exact kat_kind h1 (by omega) h4 (by decide) q
end
end My
namespace My
open PySem PySem.Spec PySem.W PyProof.Rows L2
section
variable {X : Cx} {pins : List (Addr × Obj)} {σ : L2.St} {H : Hp} {s : Shared}
variable {a : Expr} {A : TDE} {p pos : Pos}
end
end My
namespace HT
open PySem PySem.Spec PyProof.Rows PySem.MeetsSeq PySem.SeqAt
section
variable {prog : Program} {w : World} {A : Around} {E : Value → Shared → Prop} {s : Shared}
theorem cat_tup0 {t b : Addr} {ws : List Value} {Q : Value → Shared → Prop} (ht : IsTup s.heap t #[]) (hb : IsTup s.heap b ws.toArray) (h1 : Q (.ref b) s) : wpAny (model prog w) A (binaryOp .Add (.ref t) (.ref b)) Q E s := by
  obtain ⟨⟨cls, dd, data, sl⟩, ho, hc, n, hd⟩ := id ht
  obtain ⟨⟨cls2, dd2, data2, sl2⟩, ho2, hc2, n2, hd2⟩ := id hb
  simp only at hc hd hc2 hd2; subst hc hd hc2 hd2
  exact concat_meets ⟨_, ho, rfl⟩ ⟨_, ho2, rfl⟩ noFill_tuple_add seq_tuple_add PySem.F.slot_tuple_add PySem.F.entry_tuple_add (PySem.F.args_tuple_add_2 _ _) (tuple_addW0 t b #[] ws.toArray n n2 dd dd2 sl sl2 rfl) ⟨ho, ho2, h1⟩
theorem tup_by_slice {t sl : Addr} {items : Array Value} {Q : Value → Shared → Prop} {r : Int × Int × Nat} (ht : IsTup s.heap t items) (hs : ∃ os, s.heap.get? sl = some os ∧ os.cls = .type "slice")
    (happ : ∀ {A : Around} {E : Value → Shared → Prop} {Q' : Int × Int × Nat → Shared → Prop}, Q' r s → wpAny (model prog w) A (Builtin.Slice.sliceApplied (.ref sl) (pure (items.size : Int))) Q' E s)
    (h : (r.1 == 0 && r.2.1 == 1 && r.2.2 == items.size) = true ∧ Q (.ref t) s ∨ (r.1 == 0 && r.2.1 == 1 && r.2.2 == items.size) = false ∧ ((List.range r.2.2).filterMap fun (k : Nat) => items[(r.1 + (k : Int) * r.2.1).toNat]?).length ≤ sizeLine ∧
      Q (.ref s.heap.objs.size) { s with heap := s.heap.push { cls := .type "tuple", data := .seq ((List.range r.2.2).filterMap fun (k : Nat) => items[(r.1 + (k : Int) * r.2.1).toNat]?).toArray } }) : wpAny (model prog w) A (getItem (.ref t) (.ref sl)) Q E s := by
  obtain ⟨os, hos, hcs⟩ := hs
  have hTs : s.TypeIs (.ref sl) "slice" := ⟨os, hos, hcs⟩
  unfold getItem
  try with_reducible refine wpAny_holding ?_
  first | refine wpAny_bind (wpAny_pure ?_) | skip
  refine wpAny_bind (wpAny_sequenceKey ht.typeIs (by decide) (wpAny_bind (wpAny_callSpecial?_slot (name := Str.ofString "__getitem__") ht.typeIs PyProof.Rows.slot_tuple_getitem (wpAny_call_entry PyProof.Rows.slot_tuple_getitem ht.typeIs entry_tuple_getitem ?_ (args_tuple_getitem _ _)))))
  show wpAny _ _ (Builtin.Tuple.tupleItemsOf (.ref t) >>= _) _ _ s
  refine wpAny_bind (tupleItemsOf_ ht (wpAny_bind (wpAny_typeOf hTs ?_))); rw [if_pos (by decide)]
  obtain ⟨r1, r2, r3⟩ := r
  refine wpAny_bind (happ ?_)
  show wpAny _ _ (if (r1 == 0 && r2 == 1 && r3 == items.size) = true then _ else _) _ _ s
  rcases h with ⟨h1, h2⟩ | ⟨h1, h3, h2⟩
  · rw [if_pos h1]
    refine wpAny_bind (m := Builtin.Tuple.tupleIsExact _) (wpAny_bind (wpAny_typeOf ht.typeIs (wpAny_pure ?_)))
    rw [if_pos (by decide)]
    exact wpAny_bind (wpAny_rule (wpAny_pure ⟨_, rfl, wpAny_pure h2⟩))
  · have h1' : ¬ ((r1 == 0 && r2 == 1 && r3 == items.size) = true) := fun z => by rw [h1] at z; cases z
    rw [if_neg h1']
    have htake : sizeOk (.seq ((List.range r3).filterMap fun (k : Nat) => items[(r1 + (k : Int) * r2).toNat]?).toArray) := by show Array.size _ ≤ sizeLine; rw [List.size_toArray]; exact h3
    first
      | exact wpAny_bind (m := Builtin.Tuple.tupleExact _) (wpAny_newObj_type (wpAny_pure ⟨_, rfl, wpAny_pure h2⟩) htake)
      | exact wpAny_bind (wpAny_bind (m := Builtin.Tuple.tupleExact _) (wpAny_newObj_type (wpAny_pure ⟨_, rfl, wpAny_pure h2⟩) htake))
      | exact wpAny_bind (m := Builtin.Tuple.tupleExact _) (wpAny_newObj_type (wpAny_bind (wpAny_pure (wpAny_pure ⟨_, rfl, wpAny_pure h2⟩))) htake)
      | exact wpAny_bind (wpAny_bind (m := Builtin.Tuple.tupleExact _) (wpAny_newObj_type (wpAny_pure (wpAny_pure ⟨_, rfl, wpAny_pure h2⟩)) htake))
end
end HT
namespace My
open PySem PySem.Spec PySem.W PyProof.Rows L2
section
variable {X : Cx}
theorem op_catT0 : OpR X (binaryOp .Add) (fun x y H Q => ∃ a b ys, x = .ref a ∧ y = .ref b ∧ SqT X.K H a [] ∧ SqT X.K H b ys ∧ Q (.ref b) H) := by
  intro pins s σ H x y v u Q I rx ry h
  obtain ⟨a, b, ys, rfl, rfl, ha, hb, q⟩ := h
  cases rx
  cases ry
  obtain ⟨its, r1, p1, _⟩ := I.tuple ha
  obtain ⟨its2, r2, p2, _⟩ := I.tuple hb
  cases r1
  exact HT.cat_tup0 p1 p2 ⟨.ref b, H, I, rfl, q⟩
def addE : D → D → Option D
  | .tuple [], .tuple ys => some (.tuple ys)
  | a, c => addD a c
theorem od_addE : OpD X (binaryOp .Add) addE := by
  obtain ⟨r, h1, h2⟩ := (od_add (X := X)).ex
  refine ⟨_, OpR.or op_catT0 h1, fun x y G H a c d Q s hx hy e q => ?_⟩
  unfold addE at e
  split at e
  · cases e
    obtain ⟨p, xs, rfl, h3, h4⟩ := dp_tuple hx
    obtain ⟨t, ys, rfl, h5, h6⟩ := dp_tuple hy
    cases h4
    exact .inl ⟨p, t, ys, rfl, rfl, sqT_same s h3, sqT_same s h5, q _ G H (Grow.refl s) (.tup h5 h6)⟩
  · exact .inr (h2 x y G H a c d Q s hx hy e q)
theorem sl_tupW : SlR X (fun x lo hi H Q => ∃ a xs, x = .ref a ∧ SqT X.K H a xs ∧ HT.sIx xs.length 0 lo = 0 ∧ HT.sIx xs.length xs.length hi = xs.length ∧ Q (.ref a) H) := by
  intro pins s σ H x v vl vu lo hi sl Q I rx hs pl pu h
  obtain ⟨a, xs, rfl, hx, w1, w2, q⟩ := h
  cases rx
  obtain ⟨its, r, ht, hz⟩ := I.tuple hx
  have hlen : its.toArray.size = xs.length := by rw [List.size_toArray]; exact r.length.symm
  obtain ⟨os, hos, hcs, _⟩ := id hs
  refine ⟨"tuple", _, slot_tuple_getitem.lookup, ht.typeIs, HT.tup_by_slice ht ⟨os, hos, hcs⟩ (fun q' => HT.sliceApplied_gen hs pl pu q') (.inl ⟨?_, ⟨.ref a, H, I, rfl, q⟩⟩)⟩
  rw [hlen, w1, w2]
  simp
variable {a : Expr} {A : TDE} {p p2 pos : Pos}
def dSlE (A : TDE) (L U : TDO) : TDE := fun ρ => match A ρ with
  | some (d, ρ1) => (match L ρ1 with
    | some (lo, ρ2) => (match U ρ2 with
      | some (hi, ρ3) => (match d with
        | .list xs => some (.list (cutD xs lo hi), ρ3)
        | .tuple xs => some (.tuple (cutD xs lo hi), ρ3)
        | _ => none)
      | none => none)
    | none => none)
  | none => none
theorem cut_whole {ds : List D} {lo hi : Option Int} (h1 : HT.sIx ds.length 0 lo = 0) (h2 : HT.sIx ds.length ds.length hi = ds.length) : cutD ds lo hi = ds := by
  unfold cutD
  rw [h1, h2]
  simp
theorem qe_sliceE {lo hi : Option Expr} {L U : TDO} (ha : QE X a A) (hl : QO X lo L) (hu : QO X hi U) : QE X (.Subscript a (.Slice lo hi none p2) pos) (dSlE A L U) := by
  obtain ⟨ta, pa, ga⟩ := ha.ex
  obtain ⟨tl, pl, gl⟩ := hl.ex
  obtain ⟨tu, pu, gu⟩ := hu.ex
  refine ⟨_, pe_slice (SlR.or sl_list (SlR.or sl_tup sl_tupW)) pa pl pu, fun b σ G H Q ρ d ρ' R h q => ?_⟩
  unfold dSlE at h
  split at h
  · next d0 ρ1 e1 =>
    split at h
    · next lo' ρ2 e2 =>
      split at h
      · next hi' ρ3 e3 =>
        refine ga b σ G H _ ρ d0 ρ1 R e1 fun v G1 H1 R1 s1 d1 => gl b σ G1 H1 _ ρ1 lo' ρ2 R1 e2 fun G2 H2 R2 s2 => gu b σ G2 H2 _ ρ2 hi' ρ3 R2 e3 fun G3 H3 R3 s3 => ?_
        have d3 := dp_same (s2.trans s3) _ _ d1
        split at h
        · cases h
          obtain ⟨r, xs, rfl, h1, h2⟩ := dp_list d3
          refine .inl ⟨r, xs, rfl, R3.sub.seq h1, fun t n => ?_⟩
          have n' := R3.sub.free n
          exact q _ _ _ (R3.alloc n _) (s1.trans (s2.trans (s3.trans (same_new n' _)))) (.lst (SqL.of upd_same) (dpAll_same (same_new n' _) _ _ (cut_dp h2 _ _)))
        · next xs' =>
          cases h
          obtain ⟨r, xs, rfl, h1, h2⟩ := dp_tuple d3
          by_cases hw : HT.sIx xs.length 0 lo' = 0 ∧ HT.sIx xs.length xs.length hi' = xs.length
          · refine .inr (.inr ⟨r, xs, rfl, sqT_same R3.sub h1, hw.1, hw.2, ?_⟩)
            rw [dpAll_len h2] at hw
            rw [cut_whole hw.1 hw.2] at q
            exact q _ _ _ R3 (s1.trans (s2.trans s3)) d3
          · refine .inr (.inl ⟨r, xs, rfl, sqT_same R3.sub h1, hw, fun t n => ?_⟩)
            have n' := R3.sub.free n
            exact q _ _ _ (R3.alloc n _) (s1.trans (s2.trans (s3.trans (same_new n' _)))) (.tup (SqT.of upd_same) (dpAll_same (same_new n' _) _ _ (cut_dp h2 _ _)))
        · cases h
      · cases h
    · cases h
  · cases h
end
end My
namespace My
open PySem PySem.Spec PySem.W PyProof.Rows L2
section
variable {K : PySem.W.Frag} {b : Bs} {G H : Hp} {σ : L2.St} {ρ : Ro}
theorem Rep.asideO (R : Rep K b G H σ ρ) {p : Addr} (n : G p = none) (n0 : b.H0 p = none) (nl : ∀ vs, H p ≠ some (.lst vs)) (o : HO) : Rep K b G (upd H p o) σ ρ where
  sub := fun q u e => by
    have z : q ≠ p := fun z => by subst z; rw [n] at e; cases e
    rw [upd_ne z]
    exact R.sub q u e
  len := R.len
  im := R.im
  own := fun i g ds e => by
    obtain ⟨q, vs, e1, e2, e3⟩ := R.own i g ds e
    have z : q ≠ p := fun z => by subst z; exact nl vs e2
    exact ⟨q, vs, e1, by rw [upd_ne z]; exact e2, e3⟩
  sep := R.sep
  fr := fun q u e k => by
    have z : q ≠ p := fun z => by subst z; rw [n0] at e; cases e
    rw [upd_ne z]
    exact R.fr q u e k
  nw := R.nw
  dom := fun q e => by
    have z : q ≠ p := fun z => by subst z; exact e n0
    rw [upd_ne z]
    exact R.dom q e
  bas := R.bas
  fnn := R.fnn
theorem adr_ne {p : Addr} (R : Rep K b G H σ ρ) (nl : ∀ vs, H p ≠ some (.lst vs)) (n : Nat) : adr σ ρ n ≠ some p := fun z => by
  obtain ⟨⟨g, ds, e1⟩, e2⟩ := adr_at z
  obtain ⟨q, vs, f1, f2, _⟩ := R.own n g ds e1
  rw [e2] at f1
  cases f1
  exact nl vs f2
end
structure QPs (X : Cx) (pos : Pos) (keys : List (Option Expr)) (values : List Expr) (ks : List Str) (T : TDA) : Prop where
  ex : ∃ trs, PPs X pos keys values trs ∧ ∀ (b : Bs) (σ : L2.St) (G H : Hp) (Q : List (V × V) → Hp → Prop) (ρ : Ro) (ds : List D) (ρ' : Ro), Rep X.K b G H σ ρ → T ρ = some (ds, ρ') → (∀ vs G' H', Rep X.K b G' H' σ ρ' → Same G G' → DpAll X.K G' vs ds → vs.length = ks.length → Q ((ks.zip vs).map fun kv => (V.str kv.1, kv.2)) H') → tPairs trs σ H Q
section
variable {X : Cx} {pos p : Pos} {keys : List (Option Expr)} {values : List Expr} {ks : List Str} {As : TDA} {A E F : TDE} {v e f : Expr} {k : Str}
theorem qps_nil : QPs X pos [] [] [] dNil := ⟨[], pps_nil, fun b σ G H Q ρ ds ρ' R h q => by cases h; exact q [] G H R (Same.refl _) .nil rfl⟩
theorem qps_cons {j} (hv : QE X v A) (hr : QPs X pos keys values ks As) : QPs X pos (some (.Constant (.str k) j p) :: keys) (v :: values) (k :: ks) (dCons A As) := by
  obtain ⟨ta, pa, ga⟩ := hv.ex
  obtain ⟨tr, pr, gr⟩ := hr.ex
  refine ⟨_, pps_cons pe_str pa pr, fun b σ G H Q ρ ds ρ' R h q => ?_⟩
  unfold dCons at h
  split at h
  · next da ρ1 e1 =>
    split at h
    · next ds' ρ2 e2 =>
      cases h
      exact ga b σ G H _ ρ da ρ1 R e1 fun v G1 H1 R1 s1 d1 => gr b σ G1 H1 _ ρ1 ds' ρ' R1 e2 fun us G2 H2 R2 s2 d2 l2 => q (v :: us) G2 H2 R2 (s1.trans s2) (.cons (dp_same s2 _ _ d1) d2) (by rw [List.length_cons, List.length_cons, l2])
    · cases h
  · cases h
def tabD (ks : List Str) (ds : List D) (k : Str) (d : D) : D := match ks, ds with
  | x :: ks, y :: ds => if x = k then y else tabD ks ds k d
  | _, _ => d
def dTab (ks : List Str) (T : TDA) (E F : TDE) : TDE := fun ρ => match T (retag ρ) with
  | some (ds, ρ1) => (match E (retag (untag ρ ρ1)) with
    | some (.str k, ρ2) => (match F ρ2 with
      | some (d, ρ3) => if ds.length = ks.length then some (tabD ks ds k d, untag (untag ρ ρ1) ρ3) else none
      | none => none)
    | _ => none)
  | none => none
theorem merge_app : ∀ (more acc : List (Key × V)), (acc.map (·.1) ++ more.map (·.1)).Nodup → mergeK acc more = acc ++ more
  | [], acc, _ => by simp [mergeK]
  | kv :: more, acc, h => by
    have h1 : ¬ (acc.any fun x => decide (x.1 = kv.1)) = true := by
      intro z
      obtain ⟨x, hx, e⟩ := List.any_eq_true.mp z
      have e' : x.1 = kv.1 := by simpa using e
      rw [List.map_cons, List.nodup_append] at h
      exact h.2.2 x.1 (List.mem_map_of_mem hx) kv.1 (.head _) e'
    have e : mergeK acc (kv :: more) = mergeK (acc ++ [kv]) more := by
      show more.foldl _ (putK acc kv.1 kv.2) = more.foldl _ (acc ++ [kv])
      unfold putK
      rw [if_neg h1]
    rw [e, merge_app more _ (by simpa using h)]
    simp
theorem val_tab {K : PySem.W.Frag} {G : Hp} {k : Str} {z : V} {d : D} (hz : Dp K G z d) : ∀ {ks : List Str} {vs : List V} {ds : List D}, DpAll K G vs ds → vs.length = ks.length → Dp K G ((valV ((ks.zip vs).map fun kv => ((Sum.inr kv.1 : Key), kv.2)) (.inr k)).getD z) (tabD ks ds k d)
  | [], [], _, h, _ => by cases h; exact hz
  | x :: ks, v :: vs, _, h, l => by
    cases h with
    | cons h1 h2 =>
      unfold tabD
      by_cases e : x = k
      · rw [if_pos e, List.zip_cons_cons, List.map_cons, valV_pos (by simp [e])]
        exact h1
      · rw [if_neg e, List.zip_cons_cons, List.map_cons, valV_neg (by simpa using e)]
        exact val_tab hz h2 (by simpa using l)
  | [], _ :: _, _, _, l => by cases l
  | _ :: _, [], _, _, l => by cases l
theorem qe_tab {apos cpos dpos : Pos} (hu : X.A.units + 64 < cLine) (hn : ks.Nodup) (h15 : keys.length ≤ 15) (h0 : keys ≠ []) (hall : keys.all (·.isSome) = true) (hlk : keys.length = values.length) (hks : ks.length ≤ 15)
    (hp : QPs X dpos keys values ks As) (he : QE X e E) (hf : QE X f F) (m : M2 X (.Dict keys values dpos) "get" apos e f cpos) : QE X (.Call (.Attribute (.Dict keys values dpos) "get" apos) [e, f] [] cpos) (dTab ks As E F) := by
  obtain ⟨trs, pp, gp⟩ := hp.ex
  obtain ⟨te, pe, ge⟩ := he.ex
  obtain ⟨tf, pf, gf⟩ := hf.ex
  refine ⟨_, pe_dget2 (by omega) (pe_disp pp hall hlk h0 h15) pe pf m, fun b σ G H Q ρ d ρ' R h q => ?_⟩
  unfold dTab at h
  split at h
  · next ds ρ1 e1 =>
    split at h
    · next k ρ2 e2 =>
      split at h
      · next d0 ρ3 e3 =>
        split at h
        · next hl =>
          cases h
          intro p np
          have R0 := R.allocO np (.dK [])
          have nl0 : ∀ vs, (upd H p (.dK [])) p ≠ some (.lst vs) := fun vs z => by rw [upd_same] at z; cases z
          refine gp _ σ G _ _ (retag ρ) ds ρ1 R0.rebase e1 fun vs G1 H1 R1 s1 d1 l1 => ?_
          have hp1 : H1 p = some (.dK []) := R1.fr p _ upd_same (adr_ne R0 nl0)
          have n1 : G1 p = none := R1.nw p (by show upd H p _ p ≠ none; rw [upd_same]; exact fun z => nomatch z) (R.sub.free np)
          have n0 : b.H0 p = none := R.free0 np
          refine ⟨hp1, (ks.zip vs).map (fun kv => (Sum.inr kv.1, kv.2)), by rw [List.map_map]; rfl, by rw [List.length_map, List.length_zip]; omega, p, rfl, .inl ⟨_, .inl upd_same⟩, ?_⟩
          have R2 := (R0.unbase R1).asideO n1 n0 (fun vs z => by rw [hp1] at z; cases z) (.dK (mergeK [] ((ks.zip vs).map fun kv => ((Sum.inr kv.1 : Key), kv.2))))
          have nl2 : ∀ us, (upd H1 p (.dK (mergeK [] ((ks.zip vs).map fun kv => ((Sum.inr kv.1 : Key), kv.2))))) p ≠ some (.lst us) := fun us z => by rw [upd_same] at z; cases z
          refine ge _ σ G1 _ _ _ _ ρ2 R2.rebase e2 fun y G2 H2 R3 s2 d2 => gf _ σ G2 H2 _ ρ2 d0 ρ3 R3 e3 fun z G3 H3 R4 s3 d3 => ?_
          have hp3 : H3 p = some (.dK (mergeK [] ((ks.zip vs).map fun kv => ((Sum.inr kv.1 : Key), kv.2)))) := R4.fr p _ upd_same (adr_ne R2 nl2)
          have em : mergeK [] ((ks.zip vs).map fun kv => ((Sum.inr kv.1 : Key), kv.2)) = (ks.zip vs).map fun kv => ((Sum.inr kv.1 : Key), kv.2) := by
            rw [merge_app _ _ ?_, List.nil_append]
            rw [List.map_nil, List.nil_append, List.map_map]
            have : (((fun x => x.1) ∘ fun kv => ((Sum.inr kv.1 : Key), kv.2)) : Str × V → Key) = Sum.inr ∘ Prod.fst := rfl
            rw [this, ← List.map_map, List.map_fst_zip (by omega)]
            exact List.Pairwise.map _ (fun a c hac z => hac (Sum.inr.inj z)) hn
          rw [em] at hp3
          cases d2
          refine ⟨_, DGet.k (k := .inr k) hp3, q _ G3 H3 (R2.unbase R4) (s1.trans (s2.trans s3)) ?_⟩
          exact val_tab d3 (dpAll_same (s2.trans s3) _ _ d1) l1
        · cases h
      · cases h
    · cases h
  · cases h
end
end My
namespace My
open PySem PySem.Spec PySem.W PyProof.Rows L2
def rangeL (lo c : Int) (n : Nat) : List D := (List.range n).map fun (k : Nat) => PyData.int (lo + (k : Int) * c)
theorem rangeL_len (lo c : Int) (n : Nat) : (rangeL lo c n).length = n := by unfold rangeL; rw [List.length_map, List.length_range]
theorem rangeL_at {lo c : Int} {n j : Nat} (h : j < n) : (rangeL lo c n)[j]? = some (.int (lo + (j : Nat) * c)) := by
  unfold rangeL
  rw [List.getElem?_map, List.getElem?_range h]
  rfl
def rngD : List D → Option (List D)
  | [.int j] => if -(2 ^ 62) ≤ j ∧ j < 2 ^ 62 then some (rangeL 0 1 j.toNat) else none
  | [.int i, .int j] => if -(2 ^ 62) ≤ i ∧ i < 2 ^ 62 ∧ -(2 ^ 62) ≤ j ∧ j < 2 ^ 62 then some (rangeL i 1 (j - i).toNat) else none
  | [.int i, .int j, .int c] => if c ≠ 0 ∧ c.natAbs < 1073741824 ∧ Builtin.Range.small i j c = true ∧ Builtin.Range.rangeSize i j c = ((Builtin.Range.rangeSize i j c).toNat : Nat) then some (rangeL i c (Builtin.Range.rangeSize i j c).toNat) else none
  | _ => none
def rg1 (As : TDA) : TDA := fun ρ => match As ρ with
  | some ([d], ρ1) => some ([d], ρ1)
  | _ => none
structure ItD (K : PySem.W.Frag) (J : It) (ds : List D) : Prop where
  go : ∀ n H, n < ds.length → J.go n H
  st : ∀ n H, ds.length ≤ n → J.stop n H
  yl : ∀ n H v H', J.yld n H v H' → H' = H ∧ ∀ d, ds[n]? = some d → ∀ G, Dp K G v d
theorem itd_r {K : PySem.W.Frag} (lo : Int) (n : Nat) : ItD K (Itr lo n) (rangeL lo 1 n) where
  go := fun k H h => by rw [rangeL_len] at h; exact h
  st := fun k H h => by rw [rangeL_len] at h; exact h
  yl := fun k H v H' h => by
    obtain ⟨h1, rfl⟩ := h
    refine ⟨h1, fun d e G => ?_⟩
    have hk : k < n := by have := in_of_some e; rw [rangeL_len] at this; exact this
    rw [rangeL_at hk] at e
    cases e
    rw [Int.mul_one]
    exact .int _
structure QR (X : Cx) (e : Expr) (A : TDA) : Prop where
  ex : ∀ tg, ∃ w, PI X tg e w ∧ ∀ (b : Bs) (σ : L2.St) (G H : Hp) (R : It → Hp → Prop) (ρ : Ro) (as ds : List D) (ρ' : Ro), Rep X.K b G H σ ρ → A ρ = some (as, ρ') → rngD as = some ds → (∀ J G' H', Rep X.K b G' H' σ ρ' → Same G G' → ItD X.K J ds → R J H') → w σ H R
section
variable {X : Cx} {a b' c tg elt : Expr} {es : List Expr} {A B C E : TDE} {As : TDA} {T : TDT} {S : TDS} {g : TDG} {sts : List Stmt} {ifs : List Expr} {p p1 p2 pos tpos : Pos} {scope : Scope} {x : Str} {i : Nat}
theorem dp1 {K : PySem.W.Frag} {G : Hp} {xs : List V} {j : Int} (h : DpAll K G xs [.int j]) : xs = [.int j] := by
  cases h with
  | cons h1 h2 => cases h2; rw [dp_int h1]
theorem qr1 (ha : QA X [a] As) (hg : Gl X "range") (hm : X.mg "range" = none) (hp : plainE a = true) : QR X (.Call (.Name "range" p) [a] [] pos) (rg1 As) := by
  obtain ⟨ta, pa, ga⟩ := ha.ex
  refine ⟨fun tg => ⟨_, pi_range1 hg hm pa (by rw [star_plain hp]; rfl), fun b σ G H R ρ as ds ρ' Rp h e q => ?_⟩⟩
  unfold rg1 at h
  split at h
  · next d ρ1 e1 =>
    cases h
    refine ga b σ G H _ ρ _ ρ' Rp e1 fun vs G1 H1 R1 s1 d1 => ?_
    unfold rngD at e
    split at e
    · next j hj =>
      cases hj
      split at e
      · next hb =>
        cases e
        exact ⟨j, dp1 d1, hb.1, hb.2, q _ G1 H1 R1 s1 (itd_r 0 _)⟩
      · cases e
    · next hj => cases hj
    · next hj => cases hj
    · cases e
  · cases h
def dCompG (i : Nat) (A : TDA) (T : TDT) (E : TDE) : TDA := fun ρ => match A ρ with
  | some (as, ρ1) => (match rngD as with
    | some ds => (match compD i T E ds (ρ1.set i none) with
      | some (ys, ρ2) => if ys.length ≤ 16777216 then some (ys, ρ2.set i none) else none
      | none => none)
    | none => none)
  | none => none
section
variable {it : Expr} (hc : X.calm = true) (hN : X.N.Nodup) (ok : BlkOk X.N X.env.scope scope [(x, i)])
  (hg : ∀ (s : Shared) (H : Hp) (C : Addr) (cl : List (Str × Addr)) (fp : List Addr), PG (X.blk s H scope (compEnvC scope cl C X.env) fp) (.Name x tpos) (gName i))
  (ht : ∀ (s : Shared) (H : Hp) (C : Addr) (cl : List (Str × Addr)) (fp : List Addr), QTs (X.blk s H scope (compEnvC scope cl C X.env) fp) ifs T)
  (he : ∀ (s : Shared) (H : Hp) (C : Addr) (cl : List (Str × Addr)) (fp : List Addr), QE (X.blk s H scope (compEnvC scope cl C X.env) fp) elt E)
include hc hN ok hg ht he
theorem qc_compG (hr : QR X it As) (hs : ∀ x, foldedSetIterable it X.env x = pure x := by intro _; rfl) : QC X (.ListComp elt [⟨.Name x tpos, it, ifs, 0⟩] scope pos) (dCompG i As T E) := by
  obtain ⟨w, pi, gi⟩ := hr.ex (.Name x tpos)
  refine ⟨_, pe_lc (own := [(x, i)]) (g := gName i) (tt := tOfT X.K T) (te := tOfE X.K E) hc hN pi ok hg (fun s H C cl fp => (ht s H C cl fp).can) (fun s H C cl fp => (he s H C cl fp).can) hs, fun _ _ _ _ a1 a2 a3 => ps_setLc (own := [(x, i)]) (g := gName i) (tt := tOfT X.K T) (te := tOfE X.K E) hc hN a1 a2 a3 pi ok hg (fun s H C cl fp => (ht s H C cl fp).can) (fun s H C cl fp => (he s H C cl fp).can) hs, fun b σ G H Q ρ ys ρ' R h q => ?_⟩
  unfold dCompG at h
  split at h
  · next as ρ1 e1 =>
    split at h
    · next ds e2 =>
      split at h
      · next ys' ρ2 e3 =>
        split at h
        · next hl =>
          cases h
          refine gi b σ G H _ ρ as ds ρ1 R e1 e2 fun J G1 H1 R1 s1 j1 => fun Dd nn => ?_
          refine ⟨fun n m H => m = ds.length - n ∧ n ≤ ds.length ∧ CompSt X.K b σ i G1 Dd T E ds ys ρ2 n H, ⟨ds.length, by simp, Nat.zero_le _, comp_start R1 nn e3⟩, ?_⟩
          rintro n m H' ⟨rfl, hn, C⟩
          by_cases hlt : n < ds.length
          · refine .inr ⟨j1.go n H' hlt, fun H => CompSt X.K b σ i G1 Dd T E ds ys ρ2 (n + 1) H, fun H3 C3 => ⟨ds.length - (n + 1), by omega, rfl, hlt, C3⟩, fun v H2 hy => ?_⟩
            obtain ⟨rfl, hd⟩ := j1.yl n H' v H2 hy
            have e4 : ds[n]? = some ds[n] := List.getElem?_eq_getElem hlt
            exact comp_turn (X := X) (X' := X) rfl go_canT go_canE hl e4 (hd _ e4 _) C
          · have hz : n = ds.length := by omega
            subst hz
            exact .inl ⟨j1.st _ H' (Nat.le_refl _), comp_end C fun p vs G' H' R' s' a1 a2 a3 a4 a5 => q p vs G' H' R' (s1.trans s') a1 a2 a3 a4 a5⟩
        · cases h
      · cases h
    · cases h
  · cases h
end
end
end My
namespace My
open PySem PySem.Spec PySem.W PyProof.Rows L2
section
variable {X : Cx} {a b' c e : Expr} {es : List Expr} {A B C E : TDE} {As : TDA} {p p1 p2 pos : Pos} {x : Str}
theorem call_rangeV : CallR X (.type "range") (fun xs H Q => (∃ j, xs = [V.int j] ∧ ∀ q, H q = none → Q (.ref q) (upd H q (.rng 0 j))) ∨ ∃ i j, xs = [V.int i, V.int j] ∧ ∀ q, H q = none → Q (.ref q) (upd H q (.rng i j))) := by
  intro pins s σ H xs us Q I r h
  rcases h with ⟨j, rfl, q⟩ | ⟨i, j, rfl, q⟩
  · obtain ⟨u, rfl, ⟨t, rfl⟩⟩ := Vals.one r
    exact call_range_1 ⟨.ref _, _, I.laid (a := s.heap.objs.size) (o := .rng 0 j) (fun _ _ e => Heap.get?_push_of_some _ e) (Nat.le_refl _) ⟨_, _, _, Heap.get?_push_size _ rfl⟩, rfl, q _ (I.hok.fresh (Nat.le_refl _))⟩
  · obtain ⟨u, v, rfl, ⟨t, rfl⟩, ⟨t', rfl⟩⟩ := Vals.two r
    exact call_range_2 ⟨.ref _, _, I.laid (a := s.heap.objs.size) (o := .rng i j) (fun _ _ e => Heap.get?_push_of_some _ e) (Nat.le_refl _) ⟨_, _, _, Heap.get?_push_size _ rfl⟩, rfl, q _ (I.hok.fresh (Nat.le_refl _))⟩
theorem vals_items {lo : Int} : ∀ {n : Nat} {us : List Value}, us.length = n → (∀ j v, us[j]? = some v → ∃ t, v = Value.int (lo + (j : Nat) * 1) t) → Vals ((List.range n).map fun k => V.int (lo + (k : Nat) * 1)) us := by
  intro n us hl hv
  have go : ∀ (m : Nat) (us : List Value), (∀ j v, us[j]? = some v → ∃ t, v = Value.int (lo + ((m + j : Nat) : Int) * 1) t) → Vals ((List.range' m us.length).map fun k => V.int (lo + (k : Nat) * 1)) us := by
    intro m us
    induction us generalizing m with
    | nil => intro _; exact Paired.nil
    | cons u us ih =>
      intro h
      rw [List.length_cons, List.range'_succ, List.map_cons]
      obtain ⟨t, rfl⟩ := h 0 u rfl
      exact Paired.cons ⟨t, rfl⟩ (ih (m + 1) fun j v e => by
        obtain ⟨t, rfl⟩ := h (j + 1) v (by simpa using e)
        exact ⟨t, by rw [show m + (j + 1) = m + 1 + j by omega]⟩)
  have := go 0 us fun j v e => by rw [Nat.zero_add]; exact hv j v e
  rw [hl] at this
  rw [List.range_eq_range']
  exact this
theorem call_list_rng (hc : X.calm = true) : CallR X (.type "list") (fun xs H Q => ∃ q lo hi, xs = [V.ref q] ∧ H q = some (.rng lo hi) ∧ -(2 ^ 62) ≤ lo ∧ lo < 2 ^ 62 ∧ -(2 ^ 62) ≤ hi ∧ hi < 2 ^ 62 ∧ (hi - lo).toNat ≤ 16777216 ∧
    ∀ l, H l = none → Q (.ref l) (upd H l (.lst ((List.range (hi - lo).toNat).map fun k => V.int (lo + (k : Nat) * 1))))) := by
  intro pins s σ H xs us Q I r h
  obtain ⟨q, lo, hi, rfl, hq, h1, h2, h3, h4, h5, k⟩ := h
  rw [Vals.ref1 r]
  obtain ⟨t, u, v, ho⟩ := I.hok q _ hq
  refine call_list_range (I.ok.hd hc) ho (small_one h1 h2 h3 h4) (n := (hi - lo).toNat) (by rw [rangeSize_one]; split <;> omega) h5 fun h' tk acc c' hk hS ha => ?_
  refine ⟨.ref _, _, I.laid (a := s.heap.objs.size) (o := .lst ((List.range (hi - lo).toNat).map fun k => V.int (lo + (k : Nat) * 1))) hk (Nat.le_refl _) ⟨?_, acc.toList, c', ?_, hS⟩, rfl, k _ (I.hok.fresh (Nat.le_refl _))⟩
  · rw [List.length_map, List.length_range]
    exact line_le h5
  · exact vals_items (by rw [Array.length_toList]; exact ha.1) fun j v e => ha.2 j v (by simpa using e)
theorem dpAll_rangeL {K : PySem.W.Frag} {G : Hp} (lo : Int) (n : Nat) : DpAll K G ((List.range n).map fun k => V.int (lo + (k : Nat) * 1)) (rangeL lo 1 n) := by
  unfold rangeL
  generalize List.range n = l
  induction l with
  | nil => exact .nil
  | cons k l ih => exact .cons (.int _) ih
def dListG (As : TDA) : TDA := fun ρ => match As ρ with
  | some (as, ρ1) => if as.length ≤ 2 then (match rngD as with
    | some ds => if ds.length ≤ 16777216 then some (ds, ρ1) else none
    | none => none) else none
  | none => none
theorem ql_listG (ha : QA X (a :: es) As) (hgr : Gl X "range") (hmr : X.mg "range" = none) (hg : Gl X "list") (hm : X.mg "list" = none) (hc : X.calm = true) (hp : plainE a = true) (hps : es.all plainE = true) : QL X (.Call (.Name "list" p) [.Call (.Name "range" p1) (a :: es) [] p2] [] pos) (dListG As) := by
  obtain ⟨ta, pa, ga⟩ := ha.ex
  refine ⟨_, pcty (call_list_rng hc) hg hm (by decide +kernel) (pa_c (pcty call_rangeV hgr hmr (by decide +kernel) pa (by decide) (by decide) hp hps) pa_nil rfl) (by decide) (by decide) rfl rfl, fun b σ G H Q ρ ds ρ' R h q => ?_⟩
  unfold dListG at h
  split at h
  · next as ρ1 e1 =>
    split at h
    · next hl2 =>
      split at h
      · next ds' e2 =>
        split at h
        · next hl =>
          cases h
          refine ga b σ G H _ ρ as ρ' R e1 fun vs G1 H1 R1 s1 d1 => ?_
          have fin : ∀ (lo hi : Int), ds = rangeL lo 1 (hi - lo).toNat → -(2 ^ 62) ≤ lo ∧ lo < 2 ^ 62 ∧ -(2 ^ 62) ≤ hi ∧ hi < 2 ^ 62 → ∀ t, H1 t = none → (∃ q lo hi, [V.ref t] = [V.ref q] ∧ upd H1 t (.rng lo hi) q = some (.rng lo hi) ∧ -(2 ^ 62) ≤ lo ∧ lo < 2 ^ 62 ∧ -(2 ^ 62) ≤ hi ∧ hi < 2 ^ 62 ∧ (hi - lo).toNat ≤ 16777216 ∧
              ∀ l, upd H1 t (.rng lo hi) l = none → Q (.ref l) (upd (upd H1 t (.rng lo hi)) l (.lst ((List.range (hi - lo).toNat).map fun k => V.int (lo + (k : Nat) * 1))))) := fun lo hi ed hb t n => by
            subst ed
            rw [rangeL_len] at hl
            refine ⟨t, lo, hi, rfl, upd_same, hb.1, hb.2.1, hb.2.2.1, hb.2.2.2, hl, fun l nl => ?_⟩
            have R2 := R1.allocO n (.rng lo hi)
            exact q l _ G1 _ (R2.allocO nl _) s1 upd_same (R2.sub.free nl) (R2.free0 nl) (R2.other nl) (dpAll_rangeL lo _)
          unfold rngD at e2
          split at e2
          · next j =>
            split at e2
            · next hb =>
              cases e2
              refine .inl ⟨j, dp1 d1, fun t n => ?_⟩
              have R2 := R1.allocO n (.rng 0 j)
              rw [rangeL_len] at hl
              refine ⟨t, 0, j, rfl, upd_same, by decide, by decide, hb.1, hb.2, by simpa using hl, fun l nl => ?_⟩
              have z := q l ((List.range j.toNat).map fun k => V.int (0 + (k : Nat) * 1)) G1 _ (R2.allocO nl _) s1 upd_same (R2.sub.free nl) (R2.free0 nl) (R2.other nl) (dpAll_rangeL 0 _)
              rw [show (j - 0).toNat = j.toNat by omega]
              exact z
            · cases e2
          · next i j =>
            split at e2
            · next hb =>
              cases e2
              refine .inr ⟨i, j, pair_ints d1, fun t n => ?_⟩
              have R2 := R1.allocO n (.rng i j)
              rw [rangeL_len] at hl
              refine ⟨t, i, j, rfl, upd_same, hb.1, hb.2.1, hb.2.2.1, hb.2.2.2, hl, fun l nl => ?_⟩
              exact q l _ G1 _ (R2.allocO nl _) s1 upd_same (R2.sub.free nl) (R2.free0 nl) (R2.other nl) (dpAll_rangeL i _)
            · cases e2
          · simp at hl2
          · cases e2
        · cases h
      · cases h
    · cases h
  · cases h
end
end My
namespace My
open PySem PySem.Spec PySem.W PyProof.Rows L2
def canEq (x y : D) : Bool := PyData.canLay0 x && PyData.canLay0 y && decide (min x.depth y.depth ≤ 64)
def eqX (x y : D) : Option D := if canEq x y = true then some (.bool (PyData.eqv x y)) else none
def neX (x y : D) : Option D := if canEq x y = true then some (.bool (!PyData.eqv x y)) else none
section
variable {X : Cx}
theorem op_eqX (hu : X.A.units + 64 < cLine) : OpR X (compareOp .Eq) (fun x y H Q => ∃ d e, Dp X.K H x d ∧ Dp X.K H y e ∧ canEq d e = true ∧ Q (.bl (PyData.eqv d e)) H) := by
  intro pins s σ H x y v u Q I rx ry h
  obtain ⟨d, e, hd, he, sd, q⟩ := h
  unfold canEq at sd
  simp only [Bool.and_eq_true, decide_eq_true_eq] at sd
  obtain ⟨as, r1⟩ := Dp.reads I d x v hd rx
  obtain ⟨bs, r2⟩ := Dp.reads I e y u he ry
  exact SeqAt.compareEq_reads r1 r2 sd.1.1 sd.1.2 (by omega) ⟨.bl _, H, I, rfl, q⟩
theorem op_neX (hu : X.A.units + 64 < cLine) : OpR X (compareOp .NotEq) (fun x y H Q => ∃ d e, Dp X.K H x d ∧ Dp X.K H y e ∧ canEq d e = true ∧ Q (.bl (!PyData.eqv d e)) H) := by
  intro pins s σ H x y v u Q I rx ry h
  obtain ⟨d, e, hd, he, sd, q⟩ := h
  unfold canEq at sd
  simp only [Bool.and_eq_true, decide_eq_true_eq] at sd
  obtain ⟨as, r1⟩ := Dp.reads I d x v hd rx
  obtain ⟨bs, r2⟩ := Dp.reads I e y u he ry
  exact SeqAt.compareNe_reads r1 r2 sd.1.1 sd.1.2 (by omega) ⟨.bl _, H, I, rfl, q⟩
theorem od_eqX (hu : X.A.units + 64 < cLine) : OpD X (compareOp .Eq) eqX := by
  refine ⟨_, op_eqX hu, fun x y G H a c d Q s hx hy e q => ?_⟩
  unfold eqX at e
  split at e
  · next h =>
    cases e
    exact ⟨a, c, dp_same s _ _ hx, dp_same s _ _ hy, h, q _ G H (Grow.refl s) (.bl _)⟩
  · cases e
theorem od_neX (hu : X.A.units + 64 < cLine) : OpD X (compareOp .NotEq) neX := by
  refine ⟨_, op_neX hu, fun x y G H a c d Q s hx hy e q => ?_⟩
  unfold neX at e
  split at e
  · next h =>
    cases e
    exact ⟨a, c, dp_same s _ _ hx, dp_same s _ _ hy, h, q _ G H (Grow.refl s) (.bl _)⟩
  · cases e
end
end My
namespace My
open PySem PySem.Spec L2
section
variable {M : Model} {A : Around} {Φ : End → Shared → Prop} {c : Code} {fs : List Frame} {s : Shared}
variable {env : PySem.Env} {K : Flow → Sem PySem.Fin} {J : Value → Sem PySem.Fin} {gd : Bool → Bool} {lv : List Value → List Value}
end
section
variable {prog : Program} {w : World} {A : Around} {Φ : End → Shared → Prop} {c : Code} {fs : List Frame} {s : Shared} {env : PySem.Env}
def kFn : Flow → Sem PySem.Fin := fun f => .pure (.done (.ret (match f with | .ret v => v | _ => .none)))
def jFn (env : PySem.Env) : Value → Sem PySem.Fin := fun e => (leaving env e).wrap (fun _ => .raise e) .raise id id
def wlC (test : Expr) (body : List Stmt) (env : PySem.Env) : Code := .whileLoop test body [] env
def kWl (test : Expr) (body : List Stmt) (env : PySem.Env) : Flow → Sem PySem.Fin := fun f => match f with
  | .next => .pure (.again (wlC test body env))
  | .cont => .pure (.again (wlC test body env))
  | .brk => .pure (.done .next)
  | .ret v => .pure (.done (.ret v))
def jWl (env : PySem.Env) : Value → Sem PySem.Fin := fun e => (do noteFrame e env; theTreesLotGoes e : Sem Unit).wrap (fun _ => .raise e) .raise id id
variable {K : Flow → Sem PySem.Fin} {J : Value → Sem PySem.Fin}
def rWl (env : PySem.Env) (K : Flow → Sem PySem.Fin) (J : Value → Sem PySem.Fin) : Result → Sem PySem.Fin := fun r => ((match r with | .ok f => (.pure f : Sem Flow) | .error e => .raise e).onRaise fun (x : Value) => do
        if (← field x 1) == Value.none then unsupported "frame.own-activation:exception-without-traceback"
        setFlight x env.frame).wrap K J id id
def frWl (env : PySem.Env) (K : Flow → Sem PySem.Fin) (J : Value → Sem PySem.Fin) (c : Code) (p : Pos) : Frame := .ret (rWl env K J) none false [] c p []
end
end My
namespace My
open PySem PySem.Spec L2
section
variable {M : Model} {A : Around} {Φ : End → Shared → Prop} {s : Shared}
end
section
variable {prog : Program} {w : World} {A : Around} {E : Value → Shared → Prop} {s : Shared} {Φ : End → Shared → Prop}
end
end My
namespace My
open PySem PySem.Spec L2
def holed (h : Heap) (L : Addr) : Heap := h.update L fun o => { o with data := .freed }
structure GnScope (N P : List Str) (sc : Scope) : Prop where
  kind : sc.kind = .function
  co : sc.isCoroutine = false
  gen : sc.isGenerator = true
  nd : N.Nodup
  pre : N.take P.length = P
  par : ∀ x ∈ P, sc.names.lookup x = some .local
  noc : ∀ y ∈ sc.names, y.2 ≠ .free ∧ y.2 ≠ .cell
theorem no_cells : ∀ (l : List (Str × NameKind)) (n : Nat) (acc : List (Str × Addr)), (∀ y ∈ l, y.2 ≠ .cell) → cellsFrom n l acc = acc
  | [], _, _, _ => rfl
  | (x, k) :: r, n, acc, h => by
    unfold cellsFrom
    have hk : (k == NameKind.cell) = false := by
      have := h (x, k) (by simp)
      revert this
      cases k <;> simp <;> decide
    rw [hk]
    exact no_cells r n acc fun y hy => h y (List.mem_cons_of_mem _ hy)
abbrev gEnv (x : Str) (sc : Scope) (L f : Addr) (cd : Value) : PySem.Env := PyProof.Rows.envOfC x sc L f cd
def cxG (P : Program) (w : World) (K : PySem.W.Frag) (mg : Str → Option Value) (base : Heap) (N : List Str) (x : Str) (sc : Scope) (f : Addr) (cd : Value) (A : Around) (outer : List PySem.Env) (L : Addr) (s : Shared) (H : Hp) : Cx where
  prog := P
  w := w
  K := K
  mg := mg
  base := base
  A := A.deeper (gEnv x sc L f cd)
  N := N
  s_0 := { s with heap := holed s.heap L }
  H_0 := H
  env := gEnv x sc L f cd
  outer := outer
  stack := gEnv x sc L f cd :: outer
  ex := []
  calm := true
  fn := fun _ => true
  pn := []
  gp := []
  gx := []
  xe := fun _ _ => False
def LocG (N : List Str) (env : PySem.Env) (h : Heap) (σ : L2.St) : Prop := ∃ m, h.Ns env.locals m ∧ ∀ (i : Nat) (y : Str) (v : V), N[i]? = some y → σ[i]? = some (some v) → Vis env.scope y → ∃ u, RelV v u ∧ Look env h m y u
section
variable {P : Program} {w : World} {K : PySem.W.Frag} {mg : Str → Option Value} {base : Heap} {N ps : List Str} {x : Str} {sc : Scope} {f L : Addr} {cd : Value} {A : Around} {outer : List PySem.Env} {s : Shared} {H : Hp} {σ : L2.St}
theorem g_nocell (S : GnScope N ps sc) {y : Str} {c : Addr} (e : (gEnv x sc L f cd).cells.lookup y = some c) : False := by
  have : (gEnv x sc L f cd).cells = [] := no_cells _ _ _ fun y hy => (S.noc y hy).2
  rw [this] at e
  cases e
theorem LocG.keep (S : GnScope N ps sc) {h h' : Heap} (l : LocG N (gEnv x sc L f cd) h σ) (e : ∀ o, h.get? L = some o → h'.get? L = some o) : LocG N (gEnv x sc L f cd) h' σ := by
  obtain ⟨m, ⟨o, es, ep, ho, r⟩, hl⟩ := l
  refine ⟨m, ⟨o, es, ep, e o ho, r⟩, fun i y v e1 e2 e3 => ?_⟩
  obtain ⟨u, r1, q⟩ := hl i y v e1 e2 e3
  refine ⟨u, r1, ?_⟩
  rcases q with q | ⟨_, c, z, _⟩
  · exact .inl q
  · exact (g_nocell S z).elim
end
end My
namespace My
open PySem PySem.Spec L2
def soleOwn (iw : Nat) (ρ : Ro) : Bool := (match ρ[iw]? with
  | some (some (.own none _)) => true
  | _ => false) && (ρ.set iw none).all fun z => match z with
    | some (.own _ _) => false
    | some (.fn _) => false
    | _ => true
def gHead (iw : Nat) (Tt : TDT) (Ta : TDS) (Te : TDE) : Ro → Option (Option (D × Ro)) := fun ρ => match Tt ρ with
  | some (false, _) => some none
  | some (true, ρ1) => (match Ta ρ1 with
    | some (.nx ρ2) => (match Te ρ2 with
      | some (d, ρ3) => if soleOwn iw ρ3 = true then some (some (d, ρ3)) else none
      | none => none)
    | _ => none)
  | none => none
def gNext (iw : Nat) (Tt : TDT) (Ta : TDS) (Te : TDE) (Tb : TDS) : Ro → Option (Option (D × Ro)) := fun ρ => match Tb ρ with
  | some (.nx ρ1) => gHead iw Tt Ta Te ρ1
  | _ => none
def gFirst (np m iw : Nat) (Ti : TDS) (Tt : TDT) (Ta : TDS) (Te : TDE) : List D → Option (Option (D × Ro)) := fun ds => if ds.length = np then (match Ti ((ds.map Sl.im).map some ++ List.replicate m none) with
  | some (.nx ρ) => gHead iw Tt Ta Te ρ
  | _ => none) else none
abbrev wBody (sA : Stmt) (e : Expr) (yp ep : Pos) (sB : Stmt) : List Stmt := [sA, .Expr (.Yield (some e) yp) ep, sB]
def k0 (env : PySem.Env) : Flow → Sem PySem.Fin := fun f => match f with
  | .next => (execs [] env).wrap kFn (jFn env) id id
  | f => kFn f
def frG (env : PySem.Env) (body : List Stmt) (p : Pos) : Frame := frWl env (k0 env) (jFn env) (.func body env) p
def tAft (env : PySem.Env) (test : Expr) (wb : List Stmt) (sB : Stmt) : Sem PySem.Fin := (execs [sB] env).wrap (kWl test wb env) (jWl env) id id
section
variable {X : Cx} {A : Around} {Φ : End → Shared → Prop} {s : Shared} {test e : Expr} {sA sB : Stmt} {yp ep fp : Pos} {body : List Stmt} {Tt : TDT} {Ta Tb : TDS} {Te : TDE} {iw : Nat} {b : Bs} {G H : Hp} {σ : L2.St} {ρ : Ro}
def PieceEnd (X : Cx) (Φ : End → Shared → Prop) (c : Code) (ta : Sem PySem.Fin) (fr : Frame) (b : Bs) (G : Hp) : Option (D × Ro) → Prop
  | none => ∀ s' σ' G' H' ρ', Inv X [] σ' H' s' → Rep X.K b G' H' σ' ρ' → Same G G' → Φ (.ret (.ok (.ret .none))) s'
  | some (d, γ) => ∀ s' v u σ' G' H' k l p, Inv X [] σ' H' s' → Rep X.K b G' H' σ' γ → Same G G' → RelV v u → Dp X.K G' v d → k (.send .none) = ta → Φ (.susp u false l k c p [fr]) s'
theorem PieceEnd.up {c : Code} {ta : Sem PySem.Fin} {fr : Frame} {G' : Hp} (sm : Same G G') : ∀ {r : Option (D × Ro)}, PieceEnd X Φ c ta fr b G r → PieceEnd X Φ c ta fr b G' r
  | none, h => fun s' σ' G2 H' ρ' I R z => h s' σ' G2 H' ρ' I R (sm.trans z)
  | some (_, _), h => fun s' v u σ' G2 H' k l p I R z => h s' v u σ' G2 H' k l p I R (sm.trans z)
end
end My
namespace My
open PySem PySem.Spec PyProof.Rows L2
section
variable {X : Cx} {pins : List (Addr × Obj)} {σ : L2.St} {H H' : Hp} {s : Shared} {h' : Heap}
variable {P : Program} {w : World} {K : PySem.W.Frag} {mg : Str → Option Value} {base : Heap} {N : List Str} {x : Str} {sc : Scope} {f L : Addr} {cd : Value} {g : Nat} {Hg Hg' : Hp} {σ' : L2.St} {s' : Shared} {p p' : Option Addr} {it : Addr}
def fpG (it L : Addr) (p : Option Addr) : List Addr := it :: L :: p.toList
end
end My
namespace My
open PySem PySem.Spec PyProof.Rows L2
structure GP where
  x : Str
  sc : Scope
  N : List Str
  ps : List Str
  f : Addr
  cd : Value
  s0 : Stmt
  test : Expr
  sA : Stmt
  e : Expr
  yp : Pos
  ep : Pos
  sB : Stmt
  wp : Pos
  iw : Nat
  Ti : TDS
  Tt : TDT
  Ta : TDS
  Te : TDE
  Tb : TDS
namespace GP
abbrev wb (g : GP) : List Stmt := wBody g.sA g.e g.yp g.ep g.sB
abbrev body (g : GP) : List Stmt := [g.s0, .While g.test g.wb [] g.wp]
abbrev env (g : GP) (L : Addr) : PySem.Env := gEnv g.x g.sc L g.f g.cd
def first (g : GP) : List D → Option (Option (D × Ro)) := gFirst g.ps.length (g.N.length - g.ps.length) g.iw g.Ti g.Tt g.Ta g.Te
def next (g : GP) : Ro → Option (Option (D × Ro)) := gNext g.iw g.Tt g.Ta g.Te g.Tb
structure Ok (g : GP) (P : Program) (w : World) (K : PySem.W.Frag) (mg : Str → Option Value) (base : Heap) (k : Nat) : Prop where
  S : GnScope g.N g.ps g.sc
  q : ∀ (A : Around) (outer : List PySem.Env) (L : Addr) (s : Shared) (H : Hp), Room k (A.deeper (g.env L)) →
    QS (cxG P w K mg base g.N g.x g.sc g.f g.cd A outer L s H) g.s0 g.Ti ∧ QT (cxG P w K mg base g.N g.x g.sc g.f g.cd A outer L s H) g.test g.Tt ∧ QS (cxG P w K mg base g.N g.x g.sc g.f g.cd A outer L s H) g.sA g.Ta ∧
      QE (cxG P w K mg base g.N g.x g.sc g.f g.cd A outer L s H) g.e g.Te ∧ QS (cxG P w K mg base g.N g.x g.sc g.f g.cd A outer L s H) g.sB g.Tb
end GP
inductive Pd where
  | start (ds : List D)
  | susp (γ : Ro)
def GP.step (g : GP) : Pd → Option (Option (D × Ro))
  | .start ds => g.first ds
  | .susp γ => g.next γ
structure Slp (g : GP) (K : PySem.W.Frag) (L : Addr) (γ : Ro) (Gg : Hp) (q : Addr) (h : Heap) : Prop where
  ex : ∃ (σ : L2.St) (vs : List V) (its : List Value) (n : Nat) (ws : List D), σ.length = g.N.length ∧ γ.length = σ.length ∧ LocG g.N (g.env L) h σ ∧ (∀ (i : Nat) (d : D), γ[i]? = some (some (.im d)) → ∃ v, σ[i]? = some (some v) ∧ Dp K Gg v d) ∧
    γ[g.iw]? = some (some (.own none ws)) ∧ σ[g.iw]? = some (some (.ref q)) ∧ vs.length ≤ sizeLine ∧ Vals vs its ∧ h.get? q = some { cls := .type "list", data := .seq its.toArray n } ∧ DpAll K Gg vs ws ∧ Gg q = none
def GAt (g : GP) (K : PySem.W.Frag) (it : Addr) (gi : Nat) (L : Addr) (pd : Pd) (Gg : Hp) (p : Option Addr) (s : Shared) : Prop :=
  s.heap.IsGen it gi ∧ it ≠ L ∧ p ≠ some it ∧ p ≠ some L ∧ match pd with
  | .start ds => p = none ∧ s.gens[gi]? = some (.fresh (.func g.body (g.env L))) ∧ ∃ vs, DpAll K Gg vs ds ∧ vs.length ≤ g.N.length ∧ LocG g.N (g.env L) s.heap (L2.start g.N vs)
  | .susp γ => soleOwn g.iw γ = true ∧ (∃ k l ps fr, s.gens[gi]? = some (.suspended k l (wlC g.test g.wb (g.env L)) ps [frG (g.env L) g.body fr] false) ∧ k (.send .none) = tAft (g.env L) g.test g.wb g.sB) ∧ ∃ q, p = some q ∧ Slp g K L γ Gg q s.heap
theorem isGen_obj {h : Heap} {it : Addr} {gi : Nat} (x : h.IsGen it gi) : ∃ o, h.get? it = some o ∧ ∀ v, o.data ≠ .cell v := by
  obtain ⟨o, nm, qn, ho, _, hd, _⟩ := x
  exact ⟨o, ho, fun v z => by rw [hd] at z; cases z⟩
theorem locG_obj {N : List Str} {env : PySem.Env} {h : Heap} {σ : L2.St} (l : LocG N env h σ) : ∃ o, h.get? env.locals = some o ∧ ∀ v, o.data ≠ .cell v := by
  obtain ⟨m, ⟨o, es, ep, ho, hd, _⟩, _⟩ := l
  exact ⟨o, ho, fun v z => by rw [hd] at z; cases z⟩
section
variable {g : GP} {K : PySem.W.Frag} {it : Addr} {gi : Nat} {L : Addr} {pd : Pd} {Gg : Hp} {p : Option Addr} {s s' : Shared}
theorem GAt.obj (a : GAt g K it gi L pd Gg p s) : ∀ b ∈ fpG it L p, ∃ o, s.heap.get? b = some o ∧ ∀ v, o.data ≠ .cell v := by
  intro b hb
  obtain ⟨a1, _, _, _, a2⟩ := a
  unfold fpG at hb
  rcases List.mem_cons.mp hb with z | hb
  · subst z
    exact isGen_obj a1
  · cases pd with
    | start ds =>
      obtain ⟨rfl, _, vs, _, _, l⟩ := a2
      rcases List.mem_cons.mp hb with z | hb
      · subst z
        exact locG_obj l
      · exact absurd hb (by simp)
    | susp γ =>
      obtain ⟨_, _, q, rfl, ⟨σ, vs, its, n, ws, _, _, l, _, _, _, _, _, ho, _⟩⟩ := a2
      rcases List.mem_cons.mp hb with z | hb
      · subst z
        exact locG_obj l
      · have z : b = q := by simpa using hb
        subst z
        exact ⟨_, ho, fun v z => by cases z⟩
theorem GAt.keep (S : GnScope g.N g.ps g.sc) (a : GAt g K it gi L pd Gg p s) (hk : ∀ b ∈ fpG it L p, ∀ o, s.heap.get? b = some o → s'.heap.get? b = some o) (hg : ∀ st, s.gens[gi]? = some st → s'.gens[gi]? = some st) : GAt g K it gi L pd Gg p s' := by
  obtain ⟨a1, n1, n2, n3, a2⟩ := a
  have kI := hk it (by unfold fpG; simp)
  have kL := hk L (by unfold fpG; simp)
  refine ⟨let ⟨o, nm, qn, ho, r⟩ := a1; ⟨o, nm, qn, kI o ho, r⟩, n1, n2, n3, ?_⟩
  cases pd with
  | start ds =>
    obtain ⟨e, h1, vs, h2, h3, l⟩ := a2
    exact ⟨e, hg _ h1, vs, h2, h3, l.keep S kL⟩
  | susp γ =>
    obtain ⟨h0, ⟨k, lv, ps, fr, h1, h2⟩, q, e, ⟨σ, vs, its, n, ws, c1, c2, l, c3, c4, c5, c6, c7, ho, c8⟩⟩ := a2
    exact ⟨h0, ⟨k, lv, ps, fr, hg _ h1, h2⟩, q, e, ⟨σ, vs, its, n, ws, c1, c2, l.keep S kL, c3, c4, c5, c6, c7, hk q (by unfold fpG; rw [e]; simp) _ ho, c8⟩⟩
end
end My
namespace My
open PySem PySem.Spec PyProof.Rows L2
section
variable {g : GP} {X : Cx} {k : Nat} {pins : List (Addr × Obj)} {σ : L2.St} {H : Hp} {s : Shared} {it : Addr} {gi : Nat} {L : Addr} {pd : Pd} {Gg : Hp} {p : Option Addr} {E : Value → Shared → Prop} {r : Option (D × Ro)}
end
end My
namespace My
open PySem PySem.Spec PyProof.Rows L2
structure GnDf (g : GP) (K : PySem.W.Frag) (mg : Str → Option Value) : Prop where
  mg : mg g.x = some (.ref g.f)
  kp : PySem.W.keepIn K (.ref g.f) = true
  cdi : PySem.W.codeIn K g.cd g.x = true
  ex : ∃ (oc : Value) (od : Option Addr) (ar : Arguments) (kV doc pm : Value) (an : Option Addr) (ct : Value) (osl : Array (Option Value)), K.lookup g.f = some ⟨oc, od, .func (PySem.W.fnOf g.x g.x ar g.body g.sc .none kV doc pm an g.cd ct), osl⟩ ∧ Binds K (PySem.W.fnOf g.x g.x ar g.body g.sc .none kV doc pm an g.cd ct) g.ps []
section
variable {g : GP} {X : Cx} {k : Nat} {pins : List (Addr × Obj)} {σ : L2.St} {H : Hp} {s : Shared} {e : Expr} {es : List Expr} {t : TA} {p pos : Pos} {x : Str}
end
end My
namespace My
open PySem PySem.Spec PyProof.Rows L2
section
variable {X : Cx} {pins : List (Addr × Obj)} {σ : L2.St} {H : Hp} {s : Shared}
def uni (G N : Hp) : Hp := fun q => match G q with
  | some o => some o
  | none => N q
theorem uni_l {G N : Hp} : Same G (uni G N) := fun q o e => by unfold uni; rw [e]
theorem uni_sub {G N H : Hp} (h1 : Same G H) (h2 : Same N H) : Same (uni G N) H := fun q o e => by
  unfold uni at e
  cases z : G q with
  | none => rw [z] at e; exact h2 q o e
  | some o' => rw [z] at e; cases e; exact h1 q o z
theorem uni_none {G N : Hp} {q : Addr} (h1 : G q = none) (h2 : N q = none) : uni G N q = none := by unfold uni; rw [h1]; exact h2
theorem Rep.told {K : PySem.W.Frag} {b : Bs} {G H' Gg Gg' : Hp} {ρ : Ro} (R : Rep K b G H σ ρ) (hg : Same Gg G) (h1 : Same H H') (h2 : Same Gg' H') (nw : ∀ q, Gg q = none → H q ≠ none → Gg' q = none) : Rep K b (uni G Gg') H' σ ρ :=
  R.grow h1 uni_l (uni_sub (R.sub.trans h1) h2) fun q e1 e2 => uni_none e1 (nw q (hg.free e1) e2)
variable {g : GP} {k : Nat} {e : Expr} {es : List Expr} {As : TDA} {p pos pos' : Pos} {x : Str} {tg : Expr} {sts : List Stmt} {S : TDS} {gt : TDG}
end
end My
namespace My
open PySem PySem.Spec PyProof.Rows L2
section
variable {K : PySem.W.Frag} {b : Bs} {G H G' H' : Hp} {σ σ' : L2.St} {ρ ρ' : Ro}
end
def Tgv (vs : List Nat) (t : TG) : Prop := ∀ (v : V) (σ : L2.St) (H : Hp) (Q : L2.St → Hp → Prop), t v σ H Q → t v σ H fun σ' H' => Q σ' H' ∧ σ'.length = σ.length ∧ ∀ j, j ∉ vs → σ'[j]? = σ[j]?
structure QGv (X : Cx) (e : Expr) (T : TDG) (vs : List Nat) : Prop where
  ex : ∃ g, PG X e g ∧ GoG X g T ∧ Tgv vs g
section
variable {X : Cx} {x y : Str} {pos p1 p2 : Pos} {i j k : Nat}
end
end My
namespace My
open PySem PySem.Spec PyProof.Rows L2
section
variable {X : Cx} {pins : List (Addr × Obj)} {σ : L2.St} {H : Hp} {s : Shared}
variable {g : GP} {k : Nat} {e elt : Expr} {es : List Expr} {As : TDA} {p pos pos' : Pos} {x : Str} {tg : Expr} {ifs : List Expr} {gt : TDG} {T : TDT} {E : TDE} {scope : Scope} {own : List (Str × Nat)} {vs : List Nat}
end
end My
namespace My
open PySem PySem.Spec PyProof.Rows L2
section
variable {X : Cx}
end
section
variable {P : Program} {w : World} {K : PySem.W.Frag} {mg : Str → Option Value} {base : Heap}
end
end My
namespace My
open PySem PySem.Spec PyProof.Rows L2
section
variable {prog : Program} {w : World} {A : Around} {R : Result → Shared → Prop} {I : Addr} {fp wr : List Addr} {n : Nat} {P : Nat → Value → Prop} {St : Nat → Heap → Prop} {Φ : Heap → Prop}
end
section
variable {X : Cx}
end
end My
namespace My
open PySem PySem.Spec PyProof.Rows L2
def dNever : TDS := fun _ => none
theorem qs_never {X : Cx} {st : Stmt} : QS X st dNever := ⟨_, ps_never, fun b σ G H E ρ o R h f => nomatch h⟩
section
variable {X : Cx} {a e it tg : Expr} {es : List Expr} {A : TDE} {T : TDT} {x : Str} {p p2 pos pos' : Pos} {sts : List Stmt} {S : TDS} {g : TDG} {i : Nat}
def dAug (i : Nat) (f : Int → Int → Int) (A : TDE) : TDS := fun ρ => match ρ[i]? with
  | some (some (.im (.int m))) => (match A ρ with
    | some (.int n, ρ1) => some (.nx (ρ1.set i (some (.im (.int (f m n))))))
    | _ => none)
  | _ => none
theorem aug_go {te : TE} {f : Int → Int → Int} (ga : GoE X te A) : GoS X (tAug i te (ipI f)) (dAug i f A) := by
  intro b σ G H E ρ o R h fin
  unfold dAug at h
  split at h
  · next m e0 =>
    split at h
    · next n ρ1 e1 =>
      cases h
      obtain ⟨v, g1, d1⟩ := R.im i _ e0
      cases d1
      refine ⟨_, g1, ga b σ G H _ ρ _ ρ1 R e1 fun w G1 H1 R1 s1 d2 => ?_⟩
      cases d2
      exact ⟨m, n, rfl, rfl, fin _ G1 H1 (R1.setIm i (.int _)) s1⟩
    · cases h
  · cases h
theorem qs_augA (hN : X.N.Nodup) (hi : X.N[i]? = some x) (hx : Loc X.env.scope x) (h : QE X e A) (hf : X.fn x = true ∨ X.env.scope.names.lookup x = some .local := by first | exact .inl rfl | exact .inr rfl | assumption) : QS X (.AugAssign (.Name x pos') .Add e pos) (dAug i (fun m n => m + n) A) := by
  obtain ⟨te, pe, ge⟩ := h.ex
  exact ⟨_, ps_aug hN hi hx pe ip_add hf, aug_go ge⟩
def dForRev (A : TDE) (g : TDG) (S : TDS) : TDS := fun ρ => match A ρ with
  | some (.list ds, ρ1) => forD g S ds.reverse ρ1
  | _ => none
def truD : D → Option Bool
  | .none => some false
  | .bool c => some c
  | .int n => some (n != 0)
  | .list ds => some (!ds.isEmpty)
  | .tuple ds => some (!ds.isEmpty)
  | _ => none
def tTru (A : TDE) : TDT := fun ρ => match A ρ with
  | some (d, ρ1) => (match truD d with
    | some c => some (c, ρ1)
    | none => none)
  | none => none
theorem dpAll_empty {K : PySem.W.Frag} {G : Hp} {ds : List D} {vs : List V} (h : DpAll K G vs ds) : vs.isEmpty = ds.isEmpty := by cases h <;> rfl
theorem qt_tru (h : QE X a A) (he : ∀ whole, isTrue a X.env whole = (do let v ← whole; standAt a.pos; holding [v] (truthy v)) := by intro _; rfl) : QT X a (tTru A) := by
  obtain ⟨ta, pa, ga⟩ := h.ex
  refine ⟨_, pt_truth pa he, fun b σ G H Q ρ c ρ' R h q => ?_⟩
  unfold tTru at h
  split at h
  · next d ρ1 e1 =>
    split at h
    · next c' e2 =>
      cases h
      refine ga b σ G H _ ρ d ρ' R e1 fun v G1 H1 R1 s1 d1 => ⟨c, ?_, q G1 H1 R1 s1⟩
      unfold truD at e2
      split at e2
      · cases e2; cases d1; rfl
      · cases e2; cases d1; rfl
      · cases e2; cases d1; rfl
      · cases e2
        obtain ⟨r, xs, rfl, h1, h2⟩ := dp_list d1
        exact .inl ⟨xs, R1.sub.seq h1, by rw [dpAll_empty h2]⟩
      · cases e2
        obtain ⟨r, xs, rfl, h1, h2⟩ := dp_tuple d1
        exact .inr (.inl ⟨xs, sqT_same R1.sub h1, by rw [dpAll_empty h2]⟩)
      · cases e2
    · cases h
  · cases h
def dSeeL (i : Nat) : Ro → Option (List D) := fun ρ => match ρ[i]? with
  | some (some (.own _ ds)) => some ds
  | some (some (.im (.list ds))) => some ds
  | _ => none
def tTruO (i : Nat) : TDT := fun ρ => match dSeeL i ρ with
  | some ds => some (!ds.isEmpty, ρ)
  | none => none
def dLenW (i : Nat) : TDE := fun ρ => match dSeeL i ρ with
  | some ds => some (.int ds.length, ρ)
  | none => none
def dFrzW (i : Nat) : TDE := fun ρ => match ρ[i]? with
  | some (some (.im d)) => some (d, ρ)
  | _ => dFrz i ρ
theorem qe_frzW (nm : Nm X x i) : QE X (.Name x p) (dFrzW i) := by
  obtain ⟨t, pt, gt⟩ := (qe_frz (p := p) nm).ex
  refine ⟨fun σ H Q => tVar i σ H Q ∨ t σ H Q, fun pins s σ H Q I h => h.elim (fun z => nm.pe pins s σ H Q I z) (fun z => pt pins s σ H Q I z), fun b σ G H Q ρ d ρ' R h q => ?_⟩
  unfold dFrzW at h
  split at h
  · next d' e1 =>
    cases h
    obtain ⟨v, f1, f2⟩ := R.im _ _ e1
    exact .inl ⟨v, f1, q v G H R (Same.refl _) f2⟩
  · exact .inr (gt b σ G H Q ρ d ρ' R h q)
end
section
variable {P : Program} {w : World} {K : PySem.W.Frag} {mg : Str → Option Value} {base : Heap}
structure DfA (K : PySem.W.Frag) (mg : Str → Option Value) (y x : Str) (st : Stmt) (ps : List Str) : Prop where
  ex : ∃ (f : Addr) (fd : FuncData), Fun K x x st f fd ∧ mg y = some (.ref f) ∧ Binds K fd ps []
theorem DfA.ok {y x : Str} {st : Stmt} {N ps : List Str} {k : Nat} {sp : Sp} (D : DfA K mg y x st ps) (S : FnScope N ps (defScope st)) (len : ∀ vs H Q E, sp vs H Q E → vs.length = ps.length)
    (hbody : ∀ (f : Addr) (cdv : Value) (A : Around) (outer : List PySem.Env) (s : Shared) (H : Hp) (vs : List V) (Q : VK) (E : XK), Room k (A.deeper (envOfC x (defScope st) s.heap.objs.size f cdv)) → sp vs H Q E →
      ∃ t, PSs (cxOf CX0 P w K mg base N x (defScope st) f cdv A outer s H E).nox (defBody st) t ∧ t { nx := fun _ H' => Q .non H', rt := Q } (L2.start N vs) H) : Ok P w K mg base (k + 1) y ps sp := by
  obtain ⟨f, fd, F, m, b⟩ := D.ex
  refine ⟨f, fd, F.ok S len fun cdv A outer s H vs Q E hr h => hbody f cdv A outer s H vs Q E hr h, m, F.kp, b, ?_⟩
  obtain ⟨oc, od, kV, doc, pm, an, cdv, ct, osl, _, lk, _⟩ := F.ex
  exact ⟨_, lk, rfl⟩
end
end My
namespace My
open PySem PySem.Spec L2
section
variable {prog : Program} {w : World} {A : Around} {E : Value → Shared → Prop} {s : Shared}
end
end My
namespace My
open PySem PySem.Spec L2
section
variable {prog : Program} {w : World} {A : Around} {E : Value → Shared → Prop} {s : Shared}
end
inductive EnG : List V → Nat → Hp → List V → Hp → Prop
  | nil {i : Nat} {H : Hp} : EnG [] i H [] H
  | cons {x : V} {xs : List V} {i : Nat} {H H' : Hp} {vs : List V} {T : Addr} (n : H T = none) (r : EnG xs (i + 1) (upd H T (.tup [.int (i : Nat), x])) vs H') : EnG (x :: xs) i H (.ref T :: vs) H'
end My
namespace My
open PySem PySem.Spec L2
section
variable {X : Cx} {pins : List (Addr × Obj)} {σ : L2.St} {A : Around}
end
end My
namespace My
open PySem PySem.Spec L2
end My
namespace My
open PySem PySem.Spec PySem.W PyProof.Rows L2
section
variable {X : Cx} {a : Expr} {A : TDE} {p2 pos : Pos}
end
end My
namespace My
open PySem L2
inductive Streams (nx : Ro → Option (Option (D × Ro))) : Option (Option (D × Ro)) → List D → Prop
  | done : Streams nx (some none) []
  | more {d : D} {γ : Ro} {ds : List D} (h : Streams nx (nx γ) ds) : Streams nx (some (some (d, γ))) (d :: ds)
def plain (z : Option Sl) : Bool := match z with
  | some (.own _ _) => false
  | some (.fn _) => false
  | _ => true
end My
namespace My
open PySem L2
theorem addE_i (i j : Int) : addE (.int i) (.int j) = some (.int (i + j)) := rfl
theorem subD_i (i j : Int) : subD (.int i) (.int j) = some (.int (i - j)) := rfl
theorem mulD_i {i j : Int} (h : i.natAbs < 2 ^ 2000) (h' : j.natAbs < 2 ^ 2000) : mulD (.int i) (.int j) = some (.int (i * j)) := if_pos ⟨h, h'⟩
theorem modD_i {i j : Int} (h : 0 < j) : modD (.int i) (.int j) = some (.int (i % j)) := if_pos h
theorem fdivD_i {i j : Int} (h : 0 < j) (h' : j < 1073741824) : fdivD (.int i) (.int j) = some (.int (i / j)) := if_pos ⟨h, h'⟩
theorem powD_i {i j : Int} (h : 0 ≤ j) (h' : j ≤ 1000) (h'' : i.natAbs < 2 ^ 2000) : powD (.int i) (.int j) = some (.int (i ^ j.toNat)) := if_pos ⟨h, h', h''⟩
theorem ltD_i (i j : Int) : ltD (.int i) (.int j) = some (.bool (decide (i < j))) := rfl
theorem leD_i (i j : Int) : leD (.int i) (.int j) = some (.bool (decide (i ≤ j))) := rfl
theorem gtD_i (i j : Int) : gtD (.int i) (.int j) = some (.bool (decide (j < i))) := rfl
theorem geD_i (i j : Int) : geD (.int i) (.int j) = some (.bool (decide (j ≤ i))) := rfl
theorem negD_i (i : Int) : negD (.int i) = some (.int (-i)) := rfl
theorem notD_b (b : Bool) : notD (.bool b) = some (.bool (!b)) := rfl
theorem ipow_le {a b : Int} (h : 0 ≤ a) (h' : a ≤ b) : ∀ n : Nat, a ^ n ≤ b ^ n
  | 0 => by rw [Int.pow_zero, Int.pow_zero]; exact Int.le_refl _
  | n + 1 => by
    rw [Int.pow_succ, Int.pow_succ]
    exact Int.mul_le_mul (ipow_le h h' n) h' h (Int.pow_nonneg (Int.le_trans h h'))
section
variable {ρ ρ1 ρ2 : Ro} {A B C : TDE} {T U : TDT} {S S' : TDS} {a c d : D} {f g : D → D → Option D} {As : TDA} {i : Nat}
theorem e_seq (h1 : S ρ = some (.nx ρ1)) : dSeq S S' ρ = S' ρ1 := by simp only [dSeq, h1]
theorem e_set (h1 : A ρ = some (a, ρ1)) : dSet i A ρ = some (.nx (ρ1.set i (some (.im a)))) := by simp only [dSet, h1]
theorem e_ifT (h : T ρ = some (true, ρ1)) : dIf T S S' ρ = S ρ1 := by simp only [dIf, h]
theorem e_ifF (h : T ρ = some (false, ρ1)) : dIf T S S' ρ = S' ρ1 := by simp only [dIf, h]
theorem e_or {b : Bool} (h : T ρ = some (b, ρ1)) : tOr2 T U ρ = if b = true then some (true, ρ1) else U ρ1 := by
  simp only [tOr2, h]
  cases b <;> rfl
theorem e_call {F : FD} {ds : List D} {r : List Sl} (h : As ρ = some (ds, ρ1)) (hF : F (ds.map Sl.im) = some (d, r)) : dCall F As ρ = some (d, ρ1) := by simp only [dCall, h, hF]
end
end My
namespace My
open PySem L2
abbrev It2 := Int × Int
def itD (i : It2) : D := .tuple [.int i.1, .int i.2]
def itLt (a b : It2) : Bool := HT.lexLt [a.1, a.2] [b.1, b.2]
inductive BT where
  | nil
  | node (i : It2) (l r : BT)
namespace BT
def d : BT → D
  | nil => .tuple []
  | node i l r => .tuple [itD i, l.d, r.d]
def size : BT → Nat
  | nil => 0
  | node _ l r => l.size + r.size + 1
def rank : BT → Nat
  | nil => 0
  | node _ _ r => r.rank + 1
def items : BT → List It2
  | nil => []
  | node i l r => i :: (l.items ++ r.items)
theorem items_len : ∀ t : BT, t.items.length = t.size
  | nil => rfl
  | node _ l r => by
    show (_ :: (l.items ++ r.items)).length = l.size + r.size + 1
    rw [List.length_cons, List.length_append, items_len l, items_len r]
def sided (L : Bool) (i : It2) (l r : BT) : BT := if L = true ∧ l.rank < r.rank then node i r l else node i l r
def top (L : Bool) (i : It2) (l x : BT) : BT := if L = true then sided true i l x else node i x l
end BT
end My
namespace My
open PySem PySem.Spec PySem.W PyProof.Rows L2
end My
namespace PySem.AutoSeq1
end PySem.AutoSeq1
namespace My
open PySem PySem.Spec PySem.W PyProof.Rows L2
end My
namespace My
open PySem L2
end My
namespace My
open PySem L2
def IsItem (i : It2) : Prop := (-1000000000000 ≤ i.1 ∧ i.1 ≤ 1000000000000) ∧ 0 ≤ i.2 ∧ i.2 ≤ 1000000
namespace BT
def tickets (t : BT) : List Int := t.items.map (·.2)
def Heap : BT → Prop
  | nil => True
  | node i l r => (∀ x, x ∈ l.items ++ r.items → itLt x i = false) ∧ Heap l ∧ Heap r
def Lft : BT → Prop
  | nil => True
  | node _ l r => r.rank ≤ l.rank ∧ Lft l ∧ Lft r
structure Good (L : Bool) (t : BT) : Prop where
  heap : Heap t
  nd : t.tickets.Nodup
  its : ∀ i, i ∈ t.items → IsItem i
  lft : L = true → Lft t
end BT
end My
namespace My
open PySem L2
namespace BT
def part (L : Bool) (i : It2) : BT → Option (BT × BT)
  | nil => none
  | node j l r => if j = i then some (nil, node j l r) else (match part L i l with
    | some (x, f) => some (sided L j x r, f)
    | none => (match part L i r with
      | some (x, f) => some (sided L j l x, f)
      | none => none))
def repl (i j : It2) : BT → BT
  | nil => nil
  | node x l r => node (if x = i then j else x) (repl i j l) (repl i j r)
end BT
end My
namespace My
open PySem L2
inductive Kd where
  | pair
  | count
  | cut
def Kd.d : Kd → D
  | .pair => .str "pair"
  | .count => .str "count"
  | .cut => .str "cut"
inductive RF where
  | nil
  | cons (i : It2) (m : Bool) (ks r : RF)
abbrev Tr := It2 × Bool × RF
namespace RF
def toL : RF → List Tr
  | nil => []
  | cons i m ks r => (i, m, ks) :: toL r
def ofL : List Tr → RF
  | [] => nil
  | t :: l => cons t.1 t.2.1 t.2.2 (ofL l)
def size : RF → Nat
  | nil => 0
  | cons _ _ ks r => ks.size + r.size + 1
def items : RF → List It2
  | nil => []
  | cons i _ ks r => i :: (ks.items ++ r.items)
theorem items_len : ∀ f : RF, f.items.length = f.size
  | nil => rfl
  | cons _ _ ks r => by
    show (_ :: (ks.items ++ r.items)).length = ks.size + r.size + 1
    rw [List.length_cons, List.length_append, items_len ks, items_len r]
def tickets (f : RF) : List Int := f.items.map (·.2)
end RF
namespace Tr
def items (t : Tr) : List It2 := t.1 :: t.2.2.items
def size (t : Tr) : Nat := t.2.2.size + 1
theorem items_len (t : Tr) : (items t).length = size t := by
  unfold items size
  rw [List.length_cons, RF.items_len]
end Tr
def treeD (K : Kd) (i : It2) (m : Bool) (ks : List D) : D := match K with
  | .cut => .tuple [itD i, .bool m, .tuple ks]
  | _ => .tuple [itD i, .tuple ks]
def RF.dl (K : Kd) : RF → List D
  | .nil => []
  | .cons i m ks r => treeD K i m (RF.dl K ks) :: RF.dl K r
def Tr.d (K : Kd) (t : Tr) : D := treeD K t.1 t.2.1 (t.2.2.dl K)
theorem RF.depth (K : Kd) : ∀ f : RF, PyData.depthAll (f.dl K) ≤ 2 * f.size + 2
  | .nil => by simp [RF.dl, PyData.depthAll]
  | .cons i m ks r => by
    have h1 := RF.depth K ks
    have h2 := RF.depth K r
    have e : PyData.depthAll (RF.dl K (.cons i m ks r)) = max (treeD K i m (ks.dl K)).depth (PyData.depthAll (r.dl K)) := rfl
    rw [e]
    have h3 : (treeD K i m (ks.dl K)).depth ≤ 2 * ks.size + 4 := by
      cases K <;> simp only [treeD, PyData.depth, PyData.depthAll, itD] <;> omega
    simp only [RF.size]
    omega
end My
namespace My
open PySem L2
end My
namespace My
open PySem PySem.Spec PySem.W PyProof.Rows L2
section
variable {prog : Program} {w : World} {κ : Type} [DecidableEq κ] {knd : KeyKind prog w κ} {A : Around} {E : Value → Shared → Prop} {s : Shared}
end
section
variable {X : Cx}
end
end My
namespace My
open PySem PySem.Spec PySem.W PyProof.Rows L2
section
variable {prog : Program} {w : World} {A : Around} {E : Value → Shared → Prop} {s : Shared}
def TrAt (h : Heap) (v : Value) (ns : List Int) : Prop := ∃ b c d m x y t u, v = .ref b ∧ TupAt h b [.ref c, .bool m, .ref d] ∧ TupAt h c [.int x t, .int y u] ∧ ns = [x, y]
theorem TrAt.keeps {h h' : Heap} {v : Value} {ns : List Int} (a : TrAt h v ns) (z : ∀ b o, h.get? b = some o → h'.get? b = some o) : TrAt h' v ns := by
  obtain ⟨b, c, d, m, x, y, t, u, rfl, h1, h2, rfl⟩ := a
  exact ⟨b, c, d, m, x, y, t, u, rfl, h1.keeps z, h2.keeps z, rfl⟩
def AllTr (h : Heap) : List Value → List (List Int) → Prop
  | [], [] => True
  | v :: vs, ns :: r => TrAt h v ns ∧ AllTr h vs r
  | _, _ => False
theorem AllTr.get {h : Heap} : ∀ {vs : List Value} {r : List (List Int)} (i : Nat), AllTr h vs r → i < vs.length → TrAt h (vs.getD i .none) (r.getD i [])
  | [], [], i, _, z => by simp at z
  | _ :: _, _ :: _, 0, a, _ => a.1
  | _ :: vs, _ :: r, i + 1, a, z => by
    have := AllTr.get (vs := vs) (r := r) i a.2 (by simpa using z)
    simpa using this
  | [], _ :: _, _, a, _ => a.elim
  | _ :: _, [], _, a, _ => a.elim
theorem AllTr.keeps {h h' : Heap} (z : ∀ b o, h.get? b = some o → h'.get? b = some o) : ∀ {vs : List Value} {r : List (List Int)}, AllTr h vs r → AllTr h' vs r
  | [], [], _ => trivial
  | _ :: _, _ :: _, a => ⟨a.1.keeps z, AllTr.keeps z a.2⟩
  | [], _ :: _, a => a.elim
  | _ :: _, [], a => a.elim
theorem AllTr.tups {h : Heap} : ∀ {vs : List Value} {r : List (List Int)}, AllTr h vs r → ∃ fs, KatTups h vs fs ∧ fs.length = vs.length ∧ ∀ v ∈ fs, Looks (model prog w) h (typeOf v) (.type "tuple")
  | [], [], _ => ⟨[], .nil, rfl, fun v hv => nomatch hv⟩
  | v :: vs, ns :: r, a => by
    obtain ⟨fs, h1, h2, h3⟩ := AllTr.tups a.2
    obtain ⟨b, c, d, m, x, y, t, u, rfl, ⟨o, n, e1, e2, e3⟩, ⟨o', n', f1, f2, f3⟩, rfl⟩ := a.1
    exact ⟨.ref c :: fs, .cons e1 e2 e3 rfl h1, by rw [List.length_cons, List.length_cons, h2], fun v hv => by
      rcases List.mem_cons.mp hv with rfl | hv
      · rw [← f2]; exact (Looks.ld f1).andThen .now
      · exact h3 v hv⟩
  | [], _ :: _, a => a.elim
  | _ :: _, [], a => a.elim
end
section
variable {X : Cx} {pins : List (Addr × Obj)} {σ : L2.St} {H : Hp} {s : Shared}
variable {a : Expr} {A : TDE} {p pos : Pos}
theorem SqT.same {K : PySem.W.Frag} {H H' : Hp} {a : Addr} {xs : List V} (e : Same H H') (h : SqT K H a xs) : SqT K H' a xs := by
  rcases h with h | h
  · left
    unfold Rd at h ⊢
    rcases h with h | ⟨o, h⟩
    · exact .inl (e _ _ h)
    · exact .inr ⟨o, e _ _ h⟩
  · exact .inr h
end
end My
namespace My
open PySem PySem.Spec L2
def valI (ks : List (Int × D)) (k : Int) : Option D := match ks with
  | [] => none
  | (j, d) :: r => if j = k then some d else valI r k
def dropI (ks : List (Int × D)) (k : Int) : List (Int × D) := ks.filter fun kv => decide (kv.1 ≠ k)
def KD (K : PySem.W.Frag) (G : Hp) (kvs : List (Key × V)) (ks : List (Int × D)) : Prop := Paired (fun (a : Key × V) (b : Int × D) => a.1 = Sum.inl b.1 ∧ Dp K G a.2 b.2) kvs ks
section
variable {K : PySem.W.Frag} {G G' H H' : Hp} {kvs : List (Key × V)} {ks : List (Int × D)}
theorem KD.len (h : KD K G kvs ks) : kvs.length = ks.length := Paired.length h
theorem KD.same (s : Same G G') (h : KD K G kvs ks) : KD K G' kvs ks := Paired.mapP h fun a b q => ⟨q.1, dp_same s _ _ q.2⟩
theorem KD.keys (h : KD K G kvs ks) : kvs.map (·.1) = (ks.map (·.1)).map Sum.inl := by
  unfold KD at h
  induction h with
  | nil => rfl
  | cons h t ih => rw [List.map_cons, List.map_cons, List.map_cons, ih, h.1]
theorem KD.hit (h : KD K G kvs ks) {k : Int} {d : D} (e : valI ks k = some d) : ∃ v, valV kvs (Sum.inl k) = some v ∧ Dp K G v d := by
  unfold KD at h
  induction h with
  | nil => cases e
  | @cons a b as bs h t ih =>
    unfold valI at e
    split at e
    · next z =>
      cases e
      exact ⟨a.2, valV_pos (by rw [h.1, z]), h.2⟩
    · next z =>
      obtain ⟨v, e1, e2⟩ := ih e
      exact ⟨v, by rw [valV_neg (by rw [h.1]; exact fun y => z (Sum.inl.inj y))]; exact e1, e2⟩
theorem KD.miss (h : KD K G kvs ks) {k : Int} (e : valI ks k = none) : valV kvs (Sum.inl k) = none := by
  unfold KD at h
  induction h with
  | nil => rfl
  | @cons a b as bs h t ih =>
    unfold valI at e
    split at e
    · cases e
    · next z =>
      rw [valV_neg (by rw [h.1]; exact fun y => z (Sum.inl.inj y))]
      exact ih e
theorem KD.drop (h : KD K G kvs ks) (k : Int) : KD K G (dropK kvs (Sum.inl k)) (dropI ks k) := by
  unfold KD at h ⊢
  unfold dropK dropI
  induction h with
  | nil => exact .nil
  | @cons p q ps qs h t ih =>
    rw [List.filter_cons, List.filter_cons]
    by_cases e : q.1 = k
    · have a : ¬ decide (p.1 ≠ Sum.inl k) = true := by simp [h.1, e]
      have b : ¬ decide (q.1 ≠ k) = true := by simp [e]
      rw [if_neg a, if_neg b]; exact ih
    · have e' : ¬ p.1 = Sum.inl k := fun z => e (Sum.inl.inj (h.1.symm.trans z))
      have a : decide (p.1 ≠ Sum.inl k) = true := by simp [e']
      have b : decide (q.1 ≠ k) = true := by simp [e]
      rw [if_pos a, if_pos b]; exact .cons h ih
theorem KD.put (h : KD K G kvs ks) {k : Int} {v : V} {d : D} (e : valI ks k = none) (hd : Dp K G v d) : KD K G (putK kvs (Sum.inl k) v) (ks ++ [(k, d)]) := by
  have e1 := h.miss e
  have e2 : ¬ (kvs.any fun kv => decide (kv.1 = Sum.inl k)) = true := by rw [valV_any, e1]; simp
  unfold putK
  rw [if_neg e2]
  exact Paired.snoc h ⟨rfl, hd⟩
end
def NoOwn (ρ : Ro) : Prop := ∀ (i : Nat) (g : Option Nat) (ds : List D), ρ[i]? ≠ some (some (.own g ds))
abbrev bOf (G H : Hp) : Bs := ⟨G, H, fun _ => none⟩
section
variable {K : PySem.W.Frag} {b : Bs} {G G' H H' : Hp} {σ σ' : L2.St} {ρ ρ' : Ro} {p : Addr} {kvs kvs' : List (Key × V)} {ks ks' : List (Int × D)}
theorem Rep.re (R : Rep K b G H σ ρ) (no : NoOwn ρ) : Rep K (bOf G H) G H σ ρ where
  sub := R.sub
  len := R.len
  im := R.im
  own := fun i g ds e => absurd e (no i g ds)
  sep := fun i j g ds k es p e => absurd e (no i g ds)
  fr := fun q o e _ => e
  nw := fun q _ e => e
  dom := fun q e => e
  bas := Same.refl _
  fnn := R.fnn
theorem Rep.ba (R : Rep K b G H σ ρ) (R' : Rep K (bOf G H) G' H' σ' ρ') (no : NoOwn ρ') : Rep K b G' H' σ' ρ' where
  sub := R'.sub
  len := R'.len
  im := R'.im
  own := fun i g ds e => absurd e (no i g ds)
  sep := fun i j g ds k es p e => absurd e (no i g ds)
  fr := fun q o e n => R'.fr q o (R.fr q o e n) fun m z => by cases z
  nw := fun q e n => R'.nw q (R.dom q e) (R.nw q e n)
  dom := fun q e => R'.dom q (R.dom q e)
  bas := R.bas.trans R'.bas
  fnn := R'.fnn
theorem Rep.at (R : Rep K b G H σ ρ) (no : NoOwn ρ) (hg : G p = none) (h0 : b.H0 p = none) (o : HO) : Rep K b G (upd H p o) σ ρ where
  sub := fun q u e => by rw [upd_ne (ne_of_none e hg)]; exact R.sub q u e
  len := R.len
  im := R.im
  own := fun i g ds e => absurd e (no i g ds)
  sep := fun i j g ds k es p e => absurd e (no i g ds)
  fr := fun q o' e n => by rw [upd_ne (ne_of_none e h0)]; exact R.fr q o' e n
  nw := R.nw
  dom := fun q e => by
    have : q ≠ p := fun z => e (by rw [z]; exact h0)
    rw [upd_ne this]
    exact R.dom q e
  bas := R.bas
  fnn := R.fnn
structure RD (K : PySem.W.Frag) (b : Bs) (G H : Hp) (σ : L2.St) (ρ : Ro) (p : Addr) (kvs : List (Key × V)) (ks : List (Int × D)) : Prop where
  rep : Rep K b G H σ ρ
  no : NoOwn ρ
  at' : H p = some (.dK kvs)
  gp : G p = none
  h0 : b.H0 p = none
  kd : KD K G kvs ks
theorem RD.go (R : RD K b G H σ ρ p kvs ks) (R' : Rep K (bOf G H) G' H' σ' ρ') (no : NoOwn ρ') : RD K b G' H' σ' ρ' p kvs ks :=
  ⟨R.rep.ba R' no, no, R'.fr p _ R.at' (fun m z => by cases z), R'.nw p (by show H p ≠ none; rw [R.at']; exact fun z => nomatch z) R.gp, R.h0, R.kd.same R'.bas⟩
theorem RD.up (R : RD K b G H σ ρ p kvs ks) (kd : KD K G kvs' ks') : RD K b G (upd H p (.dK kvs')) σ ρ p kvs' ks' :=
  ⟨R.rep.at R.no R.gp R.h0 _, R.no, upd_same, R.gp, R.h0, kd⟩
theorem NoOwn.set (no : NoOwn ρ) (i : Nat) (d : D) : NoOwn (ρ.set i (some (.im d))) := fun j g ds e => by
  rcases get_set e with ⟨_, y⟩ | ⟨_, y⟩
  · cases y
  · exact no j g ds y
theorem RD.setIm (R : RD K b G H σ ρ p kvs ks) {v : V} {d : D} (i : Nat) (h : Dp K G v d) : RD K b G H (σ.set i (some v)) (ρ.set i (some (.im d))) p kvs ks :=
  ⟨R.rep.setIm i h, R.no.set i d, R.at', R.gp, R.h0, R.kd⟩
end
def kOf (t : D) : Option Int := match ixD t (.int 2) with
  | some x => (match lenD [x] with
    | some (.int n) => some n
    | _ => none)
  | none => none
abbrev TL : TDE := dBi lenD (dCons (dBin ixD (dVar 3) (dC (.int 2))) dNil)
theorem tl_some {ρ : Ro} {t : D} {k : Int} (h3 : ρ[3]? = some (some (.im t))) (e : kOf t = some k) : TL ρ = some (.int k, ρ) := by
  unfold kOf at e
  split at e
  · next x e1 =>
    split at e
    · next n e2 =>
      cases e
      simp [TL, dBi, dCons, dBin, dVar, dC, dNil, h3, e1, e2]
    · cases e
  · cases e
section
variable {K : PySem.W.Frag} {b : Bs} {G G' H H' : Hp} {σ σ' : L2.St} {ρ ρ' : Ro} {p : Addr} {kvs kvs' : List (Key × V)} {ks ks' : List (Int × D)}
theorem RD.one {d : D} {v : V} (R : Rep K b G H [some v] [some (.im d)]) (s : Same G G') (R' : Rep K b G' H' σ ρ) : Rep K b G' H' [some v] [some (.im d)] where
  sub := R'.sub
  len := rfl
  im := fun i d' e => by
    match i, e with
    | 0, e =>
      cases e
      obtain ⟨v', e1, e2⟩ := R.im 0 d rfl
      exact ⟨v', e1, dp_same s _ _ e2⟩
    | _ + 1, e => simp at e
  own := fun i g ds e => by
    match i, e with
    | 0, e => cases e
    | _ + 1, e => simp at e
  sep := fun i j g ds k es p e => by
    match i, e with
    | 0, e => cases e
    | _ + 1, e => simp at e
  fr := R'.fr
  nw := R'.nw
  dom := R'.dom
  bas := R'.bas
  fnn := fun i L e => by
    match i, e with
    | 0, e => cases e
    | _ + 1, e => simp at e
theorem RD.len (R : RD K b G H σ ρ p kvs ks) {t : D} {k : Int} {Q : VK} (h3 : ρ[3]? = some (some (.im t))) (e : kOf t = some k) (q : ∀ G' H', RD K b G' H' σ ρ p kvs ks → Same G G' → Q (.int k) H') : tOfE K TL σ H Q :=
  ⟨bOf G H, G, ρ, .int k, ρ, R.rep.re R.no, tl_some h3 e, fun v G' H' R' s' dv => by
    cases dv
    exact q G' H' (R.go R' R.no) s'⟩
theorem RD.call (R : RD K b G H σ ρ p kvs ks) {F : FD} {vs : List V} {ds : List D} {d : D} {r : List Sl} {Q : VK} {E : XK} (hd : DpAll K G vs ds) (e : F (ds.map Sl.im) = some (d, r)) (q : ∀ v G' H', RD K b G' H' σ ρ p kvs ks → Same G G' → Dp K G' v d → Q v H') : spD K F (vs ++ []) H Q E := by
  rw [List.append_nil]
  refine ⟨G, fun _ => none, _, d, r, Rep.args R.rep.sub hd, e, fun v G' H' R' dp => ?_⟩
  have g : Grow G H G' H' := ⟨fun b o e => R'.fr b o e (fun n => fun z => (nomatch z)), R'.bas, R'.sub, fun p e1 e2 => R'.nw p e2 e1⟩
  exact q v G' H' (R.go ((R.rep.re R.no).grown g) R.no) R'.bas dp
end
end My
namespace My
open PySem L2
def rk (t : Tr) : Nat := t.2.2.toL.length
def addK (t x : Tr) : Tr := (t.1, t.2.1, RF.ofL (t.2.2.toL ++ [x]))
def tieC (a b : Tr) : Tr := if itLt b.1 a.1 = true then addK b a else addK a b
section
variable {F : FD} {M : Nat} (hF : ∀ a b : Tr, (Tr.items a).length + (Tr.items b).length < M → ∃ q, F [.im (.str "cut"), .im (Tr.d .cut a), .im (Tr.d .cut b)] = some (Tr.d .cut (tieC a b), q)) (hM : M ≤ 16777216)
include hF hM
end
end My
namespace My
open PySem L2
def GdF : RF → Prop
  | .nil => True
  | .cons i m ks r => (ks.size + 1 = 2 ^ ks.toL.length) ∧ (∀ c, c ∈ ks.toL → itLt c.1 i = false) ∧ GdF ks ∧ GdF r
def GdT (t : Tr) : Prop := t.2.2.size + 1 = 2 ^ rk t ∧ (∀ c, c ∈ t.2.2.toL → itLt c.1 t.1 = false) ∧ GdF t.2.2
theorem GdT.size {t : Tr} (h : GdT t) : (Tr.items t).length = 2 ^ rk t := by rw [Tr.items_len]; exact h.1
def at' (L : List Tr) (r : Nat) : List Tr := L.filter fun t => decide (rk t = r)
end My
namespace My
open PySem L2
end My
namespace My
open PySem PySem.Spec PySem.W PyProof.Rows L2
section
variable {X : Cx}
end
structure LamOk (P : Program) (w : World) (K : PySem.W.Frag) (mg : Str → Option Value) (base : Heap) (k : Nat) (L : Lm) (np : Nat) (F : FD) : Prop where
  len : ∀ vs H Q E, spD K F vs H Q E → vs.length = np
  run : ∀ (A : Around) (outer : List Env) (s : Shared) (H : Hp) (f : Addr) (us : List Value) (vs : List V) (Q : VK) (E : XK), Room k A → Env0 P w K mg base A outer s H → LamAt H f L → Vals vs us → spD K F vs H Q E →
    codeAny (model P w) A (.call (.ref f) ⟨us, []⟩) (CR CX0 outer P w H s Q E) s
section
variable {P : Program} {w : World} {K : PySem.W.Frag} {mg : Str → Option Value} {base : Heap}
end
section
variable {X : Cx} {e : Expr} {es : List Expr} {t : TA} {x : Str} {i k j : Nat} {p pos : Pos} {L : Lm} {np : Nat} {F : FD}
end
end My
namespace My
open PySem PySem.Spec PySem.W PyProof.Rows L2
section
variable {X : Cx} {e a b' e1 e2 : Expr} {es : List Expr} {As : TDA} {A B : TDE} {x : Str} {i k j : Nat} {p pos : Pos} {L L1 L2 : Lm} {np : Nat} {F : FD} {ps : List Str}
end
theorem tab_mem {K : PySem.W.Frag} {c P : Addr} {n : Str} (h1 : codeIn K (.ref c) n = true) (h2 : codeHdIn K c P = true) (hn : lamNames.contains n = true) : (P, lamQ n) ∈ tabT K := by
  unfold codeHdIn at h2
  split at h2
  · next vs _ hk =>
    unfold codeIn at h1
    simp only [hk] at h1
    have hm : ∀ {l : PySem.W.Frag} {o : Obj}, l.lookup c = some o → (c, o) ∈ l := fun {l o} e => by
      induction l with
      | nil => cases e
      | cons y r ih =>
        obtain ⟨b, z⟩ := y
        rw [List.lookup_cons] at e
        by_cases q : c = b
        · subst q
          simp at e
          subst e
          exact .head _
        · have q' : (c == b) = false := by simpa using q
          rw [q'] at e
          exact .tail _ (ih e)
    refine List.mem_filterMap.mpr ⟨_, hm hk, ?_⟩
    unfold tabOf
    simp only
    split at h1
    · next a0 n0 t0 r0 hvs =>
      have hnn : n0 = n := beq_iff_eq.mp h1
      subst hnn
      simp only [Bool.and_eq_true] at h2
      obtain ⟨⟨⟨⟨⟨e1, _⟩, _⟩, _⟩, _⟩, _⟩ := h2
      split at e1
      · next P' h11 =>
        have hP : P' = P := beq_iff_eq.mp e1
        subst hP
        simp only [hvs, hn, if_true, h11]
      · cases e1
    · cases h1
  · cases h2
structure DfC (K : PySem.W.Frag) (mg : Str → Option Value) (x : Str) (st : Stmt) (ps : List Str) : Prop where
  ex : ∃ (f : Addr) (kV doc pm : Value) (an : Option Addr) (c P : Addr) (ct oc : Value) (od : Option Addr) (osl : Array (Option Value)), K.lookup f = some ⟨oc, od, .func (fnOf x x (defArgs st) (defBody st) (defScope st) .none kV doc pm an (.ref c) ct), osl⟩ ∧ codeIn K (.ref c) x = true ∧ codeHdIn K c P = true ∧ keepIn K (.ref f) = true ∧ mg x = some (.ref f) ∧
    Binds K (fnOf x x (defArgs st) (defBody st) (defScope st) .none kV doc pm an (.ref c) ct) ps []
section
variable {P : Program} {w : World} {K : PySem.W.Frag} {mg : Str → Option Value} {base : Heap}
theorem ok_fnC {x : Str} {st : Stmt} {N ps : List Str} {k : Nat} {T : TDS} (D : DfC K mg x st ps) (S : FnScope N ps (defScope st)) (hn : lamNames.contains x = true)
    (hb : ∀ (f c Pt : Addr) (A : Around) (outer : List PySem.Env) (s : Shared) (H : Hp) (E : XK), codeHdIn K c Pt = true → (Pt, lamQ x) ∈ tabT K → Room k (A.deeper (PyProof.Rows.envOfC x (defScope st) s.heap.objs.size f (.ref c))) → QB (cxOf CX0 P w K mg base N x (defScope st) f (.ref c) A outer s H E).nox (defBody st) T) :
    Ok P w K mg base (k + 1) x ps (spD K (fnD ps.length (N.length - ps.length) T)) := by
  obtain ⟨f, kV, doc, pm, an, c, Pt, ct, oc, od, osl, lk, hc, hd, kp, m, bd⟩ := D.ex
  refine ⟨f, _, fn_of lk hc S (fun vs H Q E h => ?_) (fun A outer s H vs Q E hr h => ?_), m, kp, bd, _, lk, rfl⟩
  · obtain ⟨G, π, qs, d, qs', R, e, _⟩ := h
    have l := R.len
    rw [List.length_map, List.length_map] at l
    unfold fnD at e
    split at e
    · next hl => rw [l, hl]
    · cases e
  · obtain ⟨G, π, qs, d, qs', R, e, q⟩ := h
    obtain ⟨t, pt, gt⟩ := (hb f c Pt A outer s H E hd (tab_mem hc hd hn) hr).ex
    have l := R.len
    rw [List.length_map, List.length_map] at l
    refine ⟨t, pt.nox, ?_⟩
    unfold fnD at e
    split at e
    · next hl =>
      have es : L2.start N vs = vs.map some ++ List.replicate (N.length - ps.length) none := by
        unfold L2.start
        rw [l, hl]
      rw [es]
      have R0 := R.pad (N.length - ps.length)
      split at e
      · next d' ρ e1 =>
        split at e
        · next r e2 =>
          cases e
          exact gt _ _ G H _ _ _ R0 e1 fun v σ' G' H' R' s' dp => q v G' H' (R.leave R' e2) dp
        · cases e
      · next ds ρ e1 =>
        split at e
        · next r e2 =>
          cases e
          exact gt _ _ G H _ _ _ R0 e1 fun p us σ' G' H' R' s' a1 a2 a3 a4 => q _ _ H' ((R.leave R' e2).frz a1 a2 a3 fun j g es hj z => by
            obtain ⟨q1, _, b1, _, _, _, b5, b6⟩ := (R.leave R' e2).own j g es hj
            rw [z] at b1
            cases b1
            rcases outP_at e2 with ⟨_, kk⟩
            rcases kk j _ (map_some_in hj) with ⟨_, y, _⟩ | ⟨n, _, _, y, _, _⟩ | ⟨_, y, _⟩
            · cases y
            · cases y
              exact (b5 n rfl).2 a3
            · cases y) (.lst (SqL.of upd_same) (dpAll_same (same_new a2 _) _ _ a4))
        · cases e
      · next ρ e1 =>
        split at e
        · next r e2 =>
          cases e
          exact gt _ _ G H _ _ _ R0 e1 fun σ' G' H' R' s' => q .non G' H' (R.leave R' e2) .non
        · cases e
      · cases e
    · cases e
end
end My
namespace My
open PySem PySem.Spec PySem.W PyProof.Rows L2
def gK {α : Type} (n : Nat) (us ws : List α) : List α := if us.length = n ∧ ws.length = 1 then us ++ ws else []
theorem gK_rel {n : Nat} {vs zs : List V} {us ws : List Value} (r1 : Vals vs us) (r2 : Vals zs ws) : Vals (gK n vs zs) (gK n us ws) := by
  unfold gK
  rw [r1.length, r2.length]
  split
  · exact r1.append r2
  · exact .nil
structure DfK (K : PySem.W.Frag) (mg : Str → Option Value) (x : Str) (st : Stmt) (ps : List Str) (kw : Str) (d : V) (u : Value) : Prop where
  rel : RelV d u
  ex : ∃ (f : Addr) (fd : FuncData), Fun K x x st f fd ∧ mg x = some (.ref f) ∧ Binds K fd ps [u] ∧ KBinds K fd ps [kw] (gK (ps.length - 1)) (gK (ps.length - 1))
structure OkK (P : Program) (w : World) (K : PySem.W.Frag) (mg : Str → Option Value) (base : Heap) (k : Nat) (x : Str) (ps : List Str) (kw : Str) (d : V) (u : Value) (sp : Sp) : Prop where
  rel : RelV d u
  ex : ∃ (f : Addr) (fd : FuncData), FnOk P w K mg base CX0 k f fd ps sp ∧ mg x = some (.ref f) ∧ keepIn K (.ref f) = true ∧ Binds K fd ps [u] ∧ KBinds K fd ps [kw] (gK (ps.length - 1)) (gK (ps.length - 1))
def dCallD (F : FD) (A : TDA) (d0 : D) : TDE := fun ρ => match A ρ with
  | some (ds, ρ1) => (match F ((ds ++ [d0]).map Sl.im) with
    | some (d, _) => some (d, ρ1)
    | none => none)
  | none => none
def dCallK (n : Nat) (F : FD) (A : TDA) (B : TDE) : TDE := fun ρ => match A ρ with
  | some (ds, ρ1) => if ds.length = n then (match B ρ1 with
    | some (d0, ρ2) => (match F ((ds ++ [d0]).map Sl.im) with
      | some (d, _) => some (d, ρ2)
      | none => none)
    | none => none) else none
  | none => none
section
variable {X : Cx} {e v : Expr} {es : List Expr} {As : TDA} {B : TDE} {x kw : Str} {p pos : Pos} {k j : Nat} {ps : List Str} {F : FD} {d0 : V} {u0 : Value} {dd : D}
theorem qe_callD (G0 : OkK X.prog X.w X.K X.mg X.base k x ps kw d0 u0 (spD X.K F)) (hdd : ∀ G, Dp X.K G d0 dd) (hr : Room j X.A) (hg : Gl X x) (ha : QA X (e :: es) As) (hp : plainE e = true) (hps : es.all plainE = true) (hj : k ≤ j := by decide)
    (hdb : (x == ("__debug__" : Str)) = false := by decide) : QE X (.Call (.Name x p) (e :: es) [] pos) (dCallD F As dd) := by
  obtain ⟨ta, pa, ga⟩ := ha.ex
  obtain ⟨f, fd, FO, m, kp, bd, _⟩ := G0.ex
  refine ⟨_, pe_call FO (hr.mono hj) hg m kp bd (.cons G0.rel .nil) pass0 pa hdb (star_plain hp) (star_none hps), fun b σ G H Q ρ d ρ' R h q => ?_⟩
  unfold dCallD at h
  split at h
  · next ds ρ1 e1 =>
    split at h
    · next d' r e2 =>
      cases h
      refine ga b σ G H _ ρ ds ρ' R e1 fun vs G1 H1 R1 s1 d1 => ?_
      show spD X.K F (vs ++ [d0]) H1 Q E0
      refine ⟨G1, fun _ => none, _, d, r, Rep.args R1.sub (dpAll_app d1 (.cons (hdd G1) .nil)), e2, fun v G' H' R' dp => ?_⟩
      have g : Grow G1 H1 G' H' := ⟨fun b o e => R'.fr b o e (fun n => fun z => (nomatch z)), R'.bas, R'.sub, fun p e1 e2 => R'.nw p e2 e1⟩
      exact q v G' H' (R1.grown g) (s1.trans g.s2) dp
    · cases h
  · cases h
theorem qe_callKw {kpos : Pos} {n : Nat} (G0 : OkK X.prog X.w X.K X.mg X.base k x ps kw d0 u0 (spD X.K F)) (hr : Room j X.A) (hg : Gl X x) (ha : QA X (e :: es) As) (hb : QE X v B) (hp : plainE e = true) (hj : k ≤ j := by decide)
    (hdb : (x == ("__debug__" : Str)) = false := by decide) (hall : (backToKw pos (keywordEach [⟨some kw, v, kpos⟩] X.env)).all (·.1.isSome) = true := by rfl) (hks : (backToKw pos (keywordEach [⟨some kw, v, kpos⟩] X.env)).filterMap (·.1) = [kw] := by rfl)
    (hpl : ((backTo pos (starEach (e :: es) X.env)).any (·.1) || (backToKw pos (keywordEach [⟨some kw, v, kpos⟩] X.env)).any (·.1.isNone)) = false := by rfl) (hn : ps.length - 1 = n := by rfl) :
    QE X (.Call (.Name x p) (e :: es) [⟨some kw, v, kpos⟩] pos) (dCallK n F As B) := by
  subst hn
  obtain ⟨ta, pa, ga⟩ := ha.ex
  obtain ⟨tb, pb, gb⟩ := hb.ex
  obtain ⟨f, fd, FO, m, kp, _, kb⟩ := G0.ex
  refine ⟨_, pe_callK FO (hr.mono hj) hg m kp kb pass0 pa (pk_cons pb pk_nil) hall hks hdb (star_plain hp) hpl, fun b σ G H Q ρ d ρ' R h q => ?_⟩
  unfold dCallK at h
  split at h
  · next ds ρ1 e1 =>
    split at h
    · next hdn =>
     split at h
     · next dk ρ2 e3 =>
      split at h
      · next d' r e2 =>
        cases h
        refine ga b σ G H _ ρ ds ρ1 R e1 fun vs G1 H1 R1 s1 d1 => gb b σ G1 H1 _ ρ1 dk ρ' R1 e3 fun z G2 H2 R2 s2 d2 => ?_
        show spD X.K F (gK (ps.length - 1) vs [z]) H2 Q E0
        have hg0 : gK (ps.length - 1) vs [z] = vs ++ [z] := if_pos ⟨by rw [dpAll_len d1]; exact hdn, rfl⟩
        rw [hg0]
        refine ⟨G2, fun _ => none, _, d, r, Rep.args R2.sub (dpAll_app (dpAll_same s2 _ _ d1) (.cons d2 .nil)), e2, fun v G' H' R' dp => ?_⟩
        have g : Grow G2 H2 G' H' := ⟨fun b o e => R'.fr b o e (fun n => fun z => (nomatch z)), R'.bas, R'.sub, fun p e1 e2 => R'.nw p e2 e1⟩
        exact q v G' H' (R2.grown g) (s1.trans (s2.trans g.s2)) dp
      · cases h
     · cases h
    · cases h
  · cases h
end
section
variable {P : Program} {w : World} {K : PySem.W.Frag} {mg : Str → Option Value} {base : Heap}
theorem ok_fnK {x : Str} {st : Stmt} {N ps : List Str} {k : Nat} {T : TDS} {kw : Str} {d0 : V} {u0 : Value} (D : DfK K mg x st ps kw d0 u0) (S : FnScope N ps (defScope st))
    (hb : ∀ (f : Addr) (cdv : Value) (A : Around) (outer : List PySem.Env) (s : Shared) (H : Hp) (E : XK), Room k (A.deeper (PyProof.Rows.envOfC x (defScope st) s.heap.objs.size f cdv)) → QB (cxOf CX0 P w K mg base N x (defScope st) f cdv A outer s H E).nox (defBody st) T) :
    OkK P w K mg base (k + 1) x ps kw d0 u0 (spD K (fnD ps.length (N.length - ps.length) T)) := by
  obtain ⟨f, fd, Fd, m, bd, kb⟩ := D.ex
  refine ⟨D.rel, f, fd, Fd.ok S (fun vs H Q E h => ?_) (fun cdv A outer s H vs Q E hr h => ?_), m, Fd.kp, bd, kb⟩
  · obtain ⟨G, π, qs, d, qs', R, e, _⟩ := h
    have l := R.len
    rw [List.length_map, List.length_map] at l
    unfold fnD at e
    split at e
    · next hl => rw [l, hl]
    · cases e
  · obtain ⟨G, π, qs, d, qs', R, e, q⟩ := h
    obtain ⟨t, pt, gt⟩ := (hb f cdv A outer s H E hr).ex
    have l := R.len
    rw [List.length_map, List.length_map] at l
    refine ⟨t, pt, ?_⟩
    unfold fnD at e
    split at e
    · next hl =>
      have es : L2.start N vs = vs.map some ++ List.replicate (N.length - ps.length) none := by
        unfold L2.start
        rw [l, hl]
      rw [es]
      have R0 := R.pad (N.length - ps.length)
      split at e
      · next d' ρ e1 =>
        split at e
        · next r e2 =>
          cases e
          exact gt _ _ G H _ _ _ R0 e1 fun v σ' G' H' R' s' dp => q v G' H' (R.leave R' e2) dp
        · cases e
      · next ds ρ e1 =>
        split at e
        · next r e2 =>
          cases e
          exact gt _ _ G H _ _ _ R0 e1 fun p us σ' G' H' R' s' a1 a2 a3 a4 => q _ _ H' ((R.leave R' e2).frz a1 a2 a3 fun j g es hj z => by
            obtain ⟨q1, _, b1, _, _, _, b5, b6⟩ := (R.leave R' e2).own j g es hj
            rw [z] at b1
            cases b1
            rcases outP_at e2 with ⟨_, kk⟩
            rcases kk j _ (map_some_in hj) with ⟨_, y, _⟩ | ⟨n, _, _, y, _, _⟩ | ⟨_, y, _⟩
            · cases y
            · cases y
              exact (b5 n rfl).2 a3
            · cases y) (.lst (SqL.of upd_same) (dpAll_same (same_new a2 _) _ _ a4))
        · cases e
      · next ρ e1 =>
        split at e
        · next r e2 =>
          cases e
          exact gt _ _ G H _ _ _ R0 e1 fun σ' G' H' R' s' => q .non G' H' (R.leave R' e2) .non
        · cases e
      · cases e
    · cases e
theorem LamOk.mono {j k : Nat} {L : Lm} {np : Nat} {F : FD} (o : LamOk P w K mg base j L np F) (h : j ≤ k) : LamOk P w K mg base k L np F := ⟨o.len, fun A outer s H f us vs Q E hr => o.run A outer s H f us vs Q E (hr.mono h)⟩
theorem OkK.mono {j k : Nat} {x : Str} {ps : List Str} {kw : Str} {d0 : V} {u0 : Value} {sp : Sp} (o : OkK P w K mg base j x ps kw d0 u0 sp) (h : j ≤ k) : OkK P w K mg base k x ps kw d0 u0 sp := by
  obtain ⟨f, fd, F, r⟩ := o.ex
  exact ⟨o.rel, f, fd, F.mono h, r⟩
end
def codeRest (vs : Array Value) (c P : Addr) : Bool := (match vs.getD 18 .none with | .str _ _ => true | _ => false) && (match vs.getD 7 .none with | .int _ _ => true | _ => false) && (match vs.getD 9 .none with | .bool _ => true | _ => false) && (match vs.getD 10 .none with | .int _ _ => true | _ => false) && c != P
theorem codeHd_by {K : PySem.W.Frag} {c P : Addr} {q : Option Addr} {vs : Array Value} {sl : Array (Option Value)} (h : K.lookup c = some ⟨.type "code", q, .fields vs, sl⟩) (h1 : (vs[11]? : Option Value) = some (.ref P)) (h2 : codeRest vs c P = true) : codeHdIn K c P = true := by
  unfold codeHdIn
  simp only [h, h1, beq_self_eq_true, Bool.true_and]
  exact h2
def tabsGood (K : PySem.W.Frag) (ts : List Addr) : Bool := (tabT K).all fun p => ts.contains p.1 && (K.lookup p.1).isNone && decide ((tabT K).lookup p.1 = some p.2) && K.any fun x => codeHdIn K x.1 p.1
theorem tabs_in {K : PySem.W.Frag} {ts : List Addr} {h : Heap} (g : tabsGood K ts = true) (t : ∀ P ∈ ts, h.get? P = some (tabObj #[])) : TabsIn K h := by
  have g' : ∀ p ∈ tabT K, ts.contains p.1 = true ∧ K.lookup p.1 = none ∧ (tabT K).lookup p.1 = some p.2 ∧ ∃ x, codeHdIn K x p.1 = true := fun p hp => by
    have := List.all_eq_true.mp g p hp
    simp only [Bool.and_eq_true] at this
    obtain ⟨⟨⟨a, b⟩, c⟩, d⟩ := this
    obtain ⟨x, _, e⟩ := List.any_eq_true.mp d
    exact ⟨a, Option.isNone_iff_eq_none.mp b, of_decide_eq_true c, x.1, e⟩
  exact ⟨fun p hp => t _ (by have := (g' p hp).1; simpa using this), fun p hp => (g' p hp).2.1, fun p hp => (g' p hp).2.2.1, fun p hp => (g' p hp).2.2.2⟩
def lmOf (n : Str) : Expr → Lm
  | .Lambda p b s _ => ⟨lamQ n, p, b, s⟩
  | _ => ⟨lamQ n, { posonlyargs := [], args := [], vararg := none, kwonlyargs := [], kw_defaults := [], kwarg := none, defaults := [] }, .Constant .none 0 ⟨0, 0, 0, 0⟩, { kind := .function, names := [], isGenerator := false, isCoroutine := false }⟩
def stOf (l : List Stmt) (i : Nat) : Stmt := l.getD i (.Pass ⟨0, 0, 0, 0⟩)
end My
namespace My
open PySem PySem.Spec PySem.W PyProof.Rows L2 PySem.SeqAt PySem.MeetsSeq
section
variable {X : Cx}
variable {e : Expr} {A : TDE} {x : Str} {p pos : Pos}
end
end My
namespace My
open PySem PySem.Spec PySem.W PyProof.Rows L2
section
variable {X : Cx} {pins : List (Addr × Obj)} {σ : L2.St} {H : Hp} {s : Shared} {h' : Heap}
variable {k : Nat} {L : Lm} {F : FD}
end
end My
namespace My
open PySem PySem.Spec PySem.W PyProof.Rows L2
section
variable {X : Cx} {pins : List (Addr × Obj)} {σ : L2.St} {H : Hp} {s : Shared} {k : Nat} {L : Lm} {F : FD}
variable {a lam : Expr} {A : TDE} {p pos kpos : Pos}
end
end My
namespace My
open PySem PySem.Spec L2
section
variable {X : Cx} {elt : Expr} {x y : Str} {tpos pos yp : Pos} {ifs : List Expr} {scope : Scope} {i k : Nat} {T : TDT} {E : TDE}
variable (hc : X.calm = true) (hN : X.N.Nodup) (ok : BlkOk X.N X.env.scope scope [(x, i)])
  (hg : ∀ (s : Shared) (H : Hp) (C : Addr) (cl : List (Str × Addr)) (fp : List Addr), PG (X.blk s H scope (compEnvC scope cl C X.env) fp) (.Name x tpos) (gName i))
  (ht : ∀ (s : Shared) (H : Hp) (C : Addr) (cl : List (Str × Addr)) (fp : List Addr), QTs (X.blk s H scope (compEnvC scope cl C X.env) fp) ifs T)
  (he : ∀ (s : Shared) (H : Hp) (C : Addr) (cl : List (Str × Addr)) (fp : List Addr), QE (X.blk s H scope (compEnvC scope cl C X.env) fp) elt E)
include hc hN ok hg ht he
end
end My
namespace My
open PySem PySem.Spec PySem.W PyProof.Rows L2
theorem objOk_there {P : Program} {w : World} {H : Hp} {h : Heap} {a : Addr} {o : HO} (x : ObjOk P w H h a o) : ∃ ob, h.get? a = some ob := by
  cases o with
  | lst xs => obtain ⟨_, _, _, _, e⟩ := x; exact ⟨_, e⟩
  | tup xs => obtain ⟨_, _, _, ob, e, _⟩ := x; exact ⟨_, e⟩
  | dK kvs => obtain ⟨_, _, _, _, o, _, _, e, _⟩ := x; exact ⟨_, e⟩
  | dT kvs => obtain ⟨_, _, _, _, o, _, _, e, _⟩ := x; exact ⟨_, e⟩
  | set S n => obtain ⟨o, _, _, _, e, _⟩ := x; exact ⟨_, e⟩
  | ins C dx fs => obtain ⟨_, _, _, e, _⟩ := x; exact ⟨_, e⟩
  | own y => exact x
  | xd fs => obtain ⟨_, ⟨_, _, _, e, _⟩, _⟩ := x; exact ⟨_, e⟩
  | rng lo hi => obtain ⟨_, _, _, e⟩ := x; exact ⟨_, e⟩
  | frz ob u => exact ⟨_, x.1⟩
  | tbl q => obtain ⟨_, e, _⟩ := x; exact ⟨_, e⟩
  | cod q => obtain ⟨_, _, _, _, e0, e, _⟩ := x; cases e0; exact ⟨_, e⟩
  | lam q o => exact ⟨_, x.1⟩
  | met f y => exact ⟨_, (show h.get? a = some _ from x)⟩
  | ext φ => obtain ⟨_, e, _⟩ := x; exact e
theorem fly_un {fs : List Addr} {H H' : Hp} {h h1 h2 B : Heap} (u : Un fs [] H H' h h1) (hfr : ∀ b ∈ fs, ∃ o, h1.get? b = some o ∧ ∀ vs, o.data ≠ .fields vs) (frf : ∀ b ∈ fs, H' b = none)
    (cov : ∀ b, b ∉ fs → ((H' b).isSome = true ∨ (h.get? b).isSome = true) → (B.get? b).isSome = true) (k1 : B.StaysIn h1) (k2 : B.StaysIn h2) (k3 : h1.UpToSlots h2) : Un fs [] H H' h h2 := by
  have cv : ∀ b o, b ∉ fs → ((H' b).isSome = true ∨ (h.get? b).isSome = true) → h1.get? b = some o → h2.get? b = some o := fun b o hb hc e => by
    obtain ⟨ob, q⟩ := Option.isSome_iff_exists.mp (cov b hb hc)
    have := k1 b ob q
    rw [e] at this
    cases this
    exact k2 b _ q
  refine ⟨fun b o e n hb hx => cv b o hb (.inr (by rw [e]; rfl)) (u.keep b o e n hb hx), fun b o e n hb hx => ?_, u.free, fun b o e hx => ?_, u.tups, u.frzs, fun b q e => ⟨(u.tbls b q e).1, fun ps z => ?_⟩⟩
  · obtain ⟨sl, e1⟩ := u.slot b o e n hb hx
    obtain ⟨o', e2, nf⟩ := hfr b hb
    obtain ⟨sl', e3⟩ := k3 b o' e2 nf
    rw [e1] at e2
    cases e2
    exact ⟨sl', e3⟩
  · by_cases hb : b ∈ fs
    · obtain ⟨o', e2, nf⟩ := hfr b hb
      obtain ⟨sl', e3⟩ := k3 b o' e2 nf
      exact ⟨_, e3⟩
    · obtain ⟨o', e1⟩ := u.there b o e hx
      exact ⟨o', cv b o' hb (.inr (by rw [e]; rfl)) e1⟩
  · obtain ⟨m, e1⟩ := (u.tbls b q e).2 ps z
    have t := (u.tbls b q e).1
    refine ⟨m, cv b _ (fun hb => ?_) (.inl (by rw [t]; rfl)) e1⟩
    rw [frf b hb] at t
    cases t
theorem fly_hok {P : Program} {w : World} {fs : List Addr} {H' : Hp} {h1 h2 B : Heap} (hok : HOk P w H' h1) (frf : ∀ b ∈ fs, H' b = none) (cov : ∀ b, b ∉ fs → (H' b).isSome = true → (B.get? b).isSome = true) (k1 : B.StaysIn h1) (k2 : B.StaysIn h2) : HOk P w H' h2 := fun b u e => by
  refine (hok b u e).stay (fun c v hc q => ?_) (fun _ q => q) fun _ _ _ q => q
  have hs : (H' c).isSome = true := by
    rcases hc with z | z
    · rw [z, e]; rfl
    · rw [z]; rfl
  have hf : c ∉ fs := fun z => by rw [frf c z] at hs; cases hs
  obtain ⟨ob, q2⟩ := Option.isSome_iff_exists.mp (cov c hf hs)
  have := k1 c ob q2
  rw [q] at this
  cases this
  exact k2 c _ q2
structure Fly (P : Program) (w : World) (outer : List Env) (H : Hp) (s : Shared) (H' : Hp) (a C t : Addr) (B : Heap) (s' : Shared) : Prop where
  os : s'.os = s.os
  gens : GStep s.gens s'.gens
  un : Un (frs outer) [] H H' s.heap s'.heap
  hok : HOk P w H' s'.heap
  fl : Heap.FlyingW B outer a (.ref C) (.ref t) s'.heap
  cov : ∀ b, b ∉ frs outer → ((H' b).isSome = true ∨ (s.heap.get? b).isSome = true) → (B.get? b).isSome = true
  frf : ∀ b ∈ frs outer, H' b = none
  new : s.heap.get? a = none
def CX1 (P : Program) (w : World) : CXT := fun outer H s E e s' => ∃ (a C t : Addr) (H' : Hp) (B : Heap), e = .ref a ∧ Fly P w outer H s H' a C t B s' ∧ E (.ref C) none H'
section
variable {P : Program} {w : World} {K : PySem.W.Frag} {mg : Str → Option Value} {base : Heap} {N : List Str} {qual : Str} {scope : Scope} {f : Addr} {cd : Value} {A : Around} {outer : List Env} {s0 : Shared} {H0 : Hp} {E : XK}
def ExcK (K : PySem.W.Frag) (mg : Str → Option Value) (x : Str) (C : Addr) : Prop := mg x = some (.ref C) ∧ excIn K C [.type "ValueError", .type "Exception", .type "BaseException", .type "object"] "ValueError.__new__" = true
theorem ps_raise1 {x : Str} {C : Addr} {txt : Str} {j : Nat} {np cpos p1 pos : Pos} (O : ExcK K mg x C) (hx : Gl (cxOf (CX1 P w) P w K mg base N qual scope f cd A outer s0 H0 E) x) (hd : (x == ("__debug__" : Str)) = false := by decide) :
    PS (cxOf (CX1 P w) P w K mg base N qual scope f cd A outer s0 H0 E) (.Raise (some (.Call (.Name x np) [.Constant (.str txt) j p1] [] cpos)) none pos) (fun _ _ H => E (.ref C) none H) := by
  intro pins s σ H D I hE
  obtain ⟨m, F⟩ := I.fr
  obtain ⟨ob, exi⟩ := O
  have O2 : OwnCls x C [.type "ValueError", .type "Exception", .type "BaseException", .type "object"] "ValueError.__new__" mg base := by
    refine ⟨ob, ?_⟩
    unfold excIn at exi
    split at exi
    · rename_i dd cd sl ho
      split at exi
      · rename_i C' bm k0 k1 k2 k3 n k5 hm hs
        simp only [Bool.and_eq_true, beq_iff_eq, Bool.not_eq_true'] at exi
        obtain ⟨⟨⟨⟨⟨rfl, rfl⟩, hdel⟩, ht⟩, hok⟩, hni⟩ := exi
        obtain ⟨nm, bs, mro, ns, qn, hd, sn, sub, ab, col, del⟩ := cd
        dsimp only at hm hdel hok hni
        subst hm hdel
        have hsl : sl = #[k0, k1, k2, k3, some (.builtin "ValueError.__new__"), k5] := by
          obtain ⟨l⟩ := sl
          simp only at hs
          rw [hs]
        subst hsl
        have X := I.ok.mod.kin
        exact ⟨bm, ns, nm, qn, bs, hd, sn, sub, ab, col, dd, k0, k1, k2, k3, k5, _, X _ _ ho, .of_isNs (isNs_of_in X hok), nsMap_none_of_in X hok hni, tail_of_in X ht⟩
      · cases exi
    · cases exi
  obtain ⟨tl, N', nm, q, bs, hdct, sn, sub, ab, col, dd, k0, k1, k2, k3, k5, mN, hC, hN, hni, T⟩ := O2.obj
  refine wpAny_Raise_call_subT (C := C) (nm := nm) (q := q) (N := N') (bs := bs) (bm := tl) (hdct := hdct) (sn := sn) (sub := sub) (ab := ab) (col := col) (dd := dd) (k0 := k0) (k1 := k1) (k2 := k2) (k3 := k3) (k5 := k5)
    PySem.F.excBase_ValueError (mN := mN) (T.hasType PySem.F.excBase_ValueError.hasBase) (I.ok.hd rfl) rfl hni (ld_glob I hx ob ⟨rfl, ?_⟩ hd)
  refine Calls.evalArgs_plain (spliced_more (Calls.Constant_str (spliced_none ?_)) rfl)
  refine ⟨rfl, by show 1 ≤ sizeLine; decide, F.keep _ _ hC, hN.keeps F.keep, T.keeps F.keep, fun h' e hm => ?_⟩
  have J := I.tok (s.toks + 1)
  have stays : (hideAll s.heap (frs (cxOf (CX1 P w) P w K mg base N qual scope f cd A outer s0 H0 E).stack)).StaysIn s.heap := fun b o q => of_hideAll _ q
  have hin : ∀ env ∈ (cxOf (CX1 P w) P w K mg base N qual scope f cd A outer s0 H0 E).stack, ∀ a, env.frame = some a → a ∈ frs (cxOf (CX1 P w) P w K mg base N qual scope f cd A outer s0 H0 E).stack := fun env he a ha => List.mem_filterMap.mpr ⟨env, he, ha⟩
  refine wpAny_leaves_madeW (h := s.heap) I.ok.frames rfl stays (funFrames_hide I.stack hin) hm fun h'' t fl' tup tn k2 => ?_
  have u1 : s.heap.UpToSlots h'' := fun b o e nf => k2 b o (hm.keeps b o e) nf
  have frf : ∀ b ∈ frs outer, H b = none := fun b hb => I.stkFree b (by
    rcases List.mem_filterMap.mp hb with ⟨en, hen, hf⟩
    exact List.mem_filterMap.mpr ⟨en, List.mem_cons_of_mem _ hen, hf⟩)
  have hfr : ∀ b ∈ frs outer, ∃ o, s.heap.get? b = some o ∧ ∀ vs, o.data ≠ .fields vs := fun b hb => (I.stack.2.2.mem hb).2
  have sub : ∀ b, b ∉ frs outer → ((H b).isSome = true ∨ (s0.heap.get? b).isSome = true) → ((hideAll s.heap (frs (cxOf (CX1 P w) P w K mg base N qual scope f cd A outer s0 H0 E).stack)).get? b).isSome = true := fun b hb hc => by
    have hs : ∃ o, s.heap.get? b = some o := by
      rcases hc with z | z
      · obtain ⟨u, q⟩ := Option.isSome_iff_exists.mp z
        exact objOk_there (I.hok b u q)
      · obtain ⟨o, q⟩ := Option.isSome_iff_exists.mp z
        exact I.base.there b o q (show b ∉ ([] : List Addr) by simp)
    obtain ⟨o, q⟩ := hs
    rw [hideAll_get _ q (fun hmm => ?_)]
    · rfl
    · rcases List.mem_filterMap.mp hmm with ⟨en, hen, hf⟩
      rcases List.mem_cons.mp hen with rfl | hen
      · have eL : (envOfC qual scope s0.heap.objs.size f cd).locals = b := Option.some.inj hf
        rcases hc with z | z
        · rw [← eL, show H (envOfC qual scope s0.heap.objs.size f cd).locals = none from I.free] at z
          cases z
        · rw [← eL, show s0.heap.get? (envOfC qual scope s0.heap.objs.size f cd).locals = none from I.ok.above] at z
          cases z
      · exact hb (List.mem_filterMap.mpr ⟨en, hen, hf⟩)
  refine ⟨e, C, t, H, _, rfl, ⟨I.os, ⟨I.bare.1, fun k st e => I.bare.2.1 k st (show k ∉ ([] : List Nat) by simp) e⟩, fly_un I.base hfr frf sub stays fl'.1 u1, fly_hok I.hok frf (fun b hb hc => sub b hb (.inl hc)) stays fl'.1, fl', sub, frf, ?_⟩, hE⟩
  cases e1 : s0.heap.get? e with
  | none => rfl
  | some o =>
    obtain ⟨o', q'⟩ := I.base.there e o e1 (show e ∉ ([] : List Addr) by simp)
    rw [hm.new] at q'
    cases q'
end
end My
namespace My
open PySem PySem.Spec PySem.W PyProof.Rows L2
abbrev TDX := Ro → Option Str
def Kx (X : Cx) (b : Bs) (G : Hp) (E : XK) (nm : Str) : Prop := ∀ (C : Addr) (σ' : L2.St) (ρ' : Ro) (G' H' : Hp), X.mg nm = some (.ref C) → Rep X.K b G' H' σ' ρ' → Same G G' → E (.ref C) none H'
theorem Kx.up {X : Cx} {b : Bs} {G G1 : Hp} {E : XK} {nm : Str} (k : Kx X b G E nm) (s : Same G G1) : Kx X b G1 E nm := fun C σ' ρ' G' H' m R s' => k C σ' ρ' G' H' m R (s.trans s')
structure QXE (X : Cx) (E : XK) (e : Expr) (T : TDX) : Prop where
  ex : ∃ t, PE X e t ∧ ∀ (b : Bs) (σ : L2.St) (G H : Hp) (Q : VK) (ρ : Ro) (nm : Str), Rep X.K b G H σ ρ → T ρ = some nm → Kx X b G E nm → t σ H Q
structure QXS (X : Cx) (E : XK) (st : Stmt) (T : TDX) : Prop where
  ex : ∃ t, PS X st t ∧ ∀ (b : Bs) (σ : L2.St) (G H : Hp) (D : Ends) (ρ : Ro) (nm : Str), Rep X.K b G H σ ρ → T ρ = some nm → Kx X b G E nm → t D σ H
structure QXB (X : Cx) (E : XK) (sts : List Stmt) (T : TDX) : Prop where
  ex : ∃ t, PSs X sts t ∧ ∀ (b : Bs) (σ : L2.St) (G H : Hp) (D : Ends) (ρ : Ro) (nm : Str), Rep X.K b G H σ ρ → T ρ = some nm → Kx X b G E nm → t D σ H
abbrev FR := List Sl → Option Str
def spR (K : PySem.W.Frag) (mg : Str → Option Value) (F : FR) : Sp := fun vs H _ E => ∃ (G : Hp) (π : Nat → Option Addr) (ps : List Sl) (nm : Str), Rep K ⟨G, H, π⟩ G H (vs.map some) (ps.map some) ∧ F ps = some nm ∧
  ∀ (C : Addr) (σ' : L2.St) (ρ' : Ro) (G' H' : Hp), mg nm = some (.ref C) → Rep K ⟨G, H, π⟩ G' H' σ' ρ' → Same G G' → E (.ref C) none H'
def fnR (np m : Nat) (T : TDX) : FR := fun ps => if ps.length = np then T (ps.map some ++ List.replicate m none) else none
structure OkR (P : Program) (w : World) (K : PySem.W.Frag) (mg : Str → Option Value) (base : Heap) (k : Nat) (x : Str) (ps : List Str) (F : FR) : Prop where
  ex : ∃ (f : Addr) (fd : FuncData), FnOk P w K mg base (CX1 P w) k f fd ps (spR K mg F) ∧ mg x = some (.ref f) ∧ PySem.W.keepIn K (.ref f) = true ∧ Binds K fd ps []
theorem OkR.mono {P : Program} {w : World} {K : PySem.W.Frag} {mg : Str → Option Value} {base : Heap} {j k : Nat} {x : Str} {ps : List Str} {F : FR} (o : OkR P w K mg base j x ps F) (h : j ≤ k) : OkR P w K mg base k x ps F := by
  obtain ⟨f, fd, F, r⟩ := o.ex
  exact ⟨f, fd, F.mono h, r⟩
def xNo : TDX := fun _ => none
def xIf (C : TDT) (S U : TDX) : TDX := fun ρ => match C ρ with
  | some (true, ρ1) => S ρ1
  | some (false, ρ1) => U ρ1
  | none => none
section
variable {X : Cx} {E : XK} {e c tg : Expr} {es : List Expr} {st : Stmt} {sts sa sb : List Stmt} {S : TDS} {T U : TDX} {C : TDT} {As : TDA} {A : TDE} {pos p pos' : Pos} {x : Str}
theorem qt_nox (h : QT X.nox c C) : QT X c C := by
  obtain ⟨t, p, g⟩ := h.ex
  exact ⟨t, p.nox, g⟩
theorem xb_no : QXB X E sts xNo := ⟨fun _ _ _ => False, fun _ _ _ _ _ _ h => h.elim, fun _ _ _ _ _ _ _ _ h => nomatch h⟩
theorem xb_here (h : QXS X E st T) : QXB X E (st :: sts) T := by
  obtain ⟨t, p, g⟩ := h.ex
  refine ⟨tSeq t (fun _ _ _ => False), pss_cons p fun _ _ _ _ _ _ h => h.elim, fun b σ G H D ρ nm R h k => g b σ G H _ ρ nm R h k⟩
theorem xs_if (hc : QT X.nox c C) (ha : QXB X E sa T) (hb : QXB X E sb U) : QXS X E (.If c sa sb pos) (xIf C T U) := by
  obtain ⟨tc, pc', gc⟩ := (qt_nox hc).ex
  obtain ⟨ta, pa, ga⟩ := ha.ex
  obtain ⟨tb, pb, gb⟩ := hb.ex
  refine ⟨_, ps_if pc' pa pb, fun b σ G H D ρ nm R h k => ?_⟩
  unfold xIf at h
  split at h
  · next ρ1 e1 => exact gc b σ G H _ ρ _ ρ1 R e1 fun G1 H1 R1 s1 => iteT (ga b σ G1 H1 D ρ1 nm R1 h (k.up s1))
  · next ρ1 e1 => exact gc b σ G H _ ρ _ ρ1 R e1 fun G1 H1 R1 s1 => iteF (gb b σ G1 H1 D ρ1 nm R1 h (k.up s1))
  · cases h
variable {k j : Nat} {ps : List Str} {F : FR}
end
section
variable {P : Program} {w : World} {K : PySem.W.Frag} {mg : Str → Option Value} {base : Heap}
theorem xs_raise {N : List Str} {qual : Str} {scope : Scope} {f : Addr} {cd : Value} {A : Around} {outer : List Env} {s0 : Shared} {H0 : Hp} {E : XK} {x : Str} {C : Addr} {txt : Str} {j : Nat} {np cpos p1 pos : Pos} (O : ExcK K mg x C) (hx : Gl (cxOf (CX1 P w) P w K mg base N qual scope f cd A outer s0 H0 E) x) (hd : (x == ("__debug__" : Str)) = false := by decide) :
    QXS (cxOf (CX1 P w) P w K mg base N qual scope f cd A outer s0 H0 E) E (.Raise (some (.Call (.Name x np) [.Constant (.str txt) j p1] [] cpos)) none pos) (fun _ => some x) :=
  ⟨_, ps_raise1 O hx hd, fun b σ G H D ρ nm R h k => by
    cases h
    exact k C σ ρ G H O.1 R (Same.refl G)⟩
end
end My
namespace My
open PySem PySem.Spec PySem.W PyProof.Rows L2
theorem pass1g {X : Cx} {E : XK} (h1 : X.stack = X.env :: X.outer) (h2 : X.env.frame = some X.env.locals) (h3 : X.ex = []) (h4 : X.gx = [])
    (h5 : ∀ e s', wpAny (model X.prog X.w) X.A (leaving X.env e) (fun _ s'' => CX1 X.prog X.w X.outer X.H_0 X.s_0 E e s'') (fun e' s'' => CX1 X.prog X.w X.outer X.H_0 X.s_0 E e' s'') s' → X.xe e s') : Passes (CX1 X.prog X.w) X E := by
  intro pins σ H s e s' I ⟨a, C, t, H', B, he, F, hE⟩
  subst he
  have J := I.call' F.os F.un F.hok F.gens (fun b z => absurd z (by simp))
  have nx : ∀ b : Addr, b ∉ X.ex := fun b z => by rw [h3] at z; cases z
  have ng : ∀ b : Nat, b ∉ X.gx := fun b z => by rw [h4] at z; cases z
  have sub : ∀ b, b ∉ frs X.outer → ((H' b).isSome = true ∨ (X.s_0.heap.get? b).isSome = true) → (B.get? b).isSome = true := fun b hb hc => by
    refine F.cov b (fun hm => ?_) ?_
    · rcases List.mem_filterMap.mp hm with ⟨en, hen, hf⟩
      rw [h1] at hen
      rcases List.mem_cons.mp hen with rfl | hen
      · rw [h2] at hf
        have eL : X.env.locals = b := Option.some.inj hf
        subst eL
        rcases hc with z | z
        · rw [J.free] at z; cases z
        · rw [I.ok.above] at z; cases z
      · exact hb (List.mem_filterMap.mpr ⟨en, hen, hf⟩)
    · rcases hc with z | z
      · exact .inl z
      · obtain ⟨o, q⟩ := Option.isSome_iff_exists.mp z
        obtain ⟨o', q'⟩ := I.base.there b o q (nx b)
        exact .inr (by rw [q']; rfl)
  have frf : ∀ b ∈ frs X.outer, H' b = none := fun b hb => J.stkFree b (by
    rcases List.mem_filterMap.mp hb with ⟨en, hen, hf⟩
    exact List.mem_filterMap.mpr ⟨en, (by rw [h1]; exact List.mem_cons_of_mem _ hen), hf⟩)
  have fl0 := F.fl
  rw [h1] at fl0
  have hA := I.ok.frames
  rw [h1] at hA
  have hb := J.base
  rw [h3] at hb
  refine h5 _ _ (wpAny_leaves_onW hA h2 fl0 fun h' fl' k2 => ?_)
  have hfr : ∀ b ∈ frs X.outer, ∃ o, s'.heap.get? b = some o ∧ ∀ vs, o.data ≠ .fields vs := fun b hb => ((fl0.2.2.1).2.2.mem hb).2
  refine ⟨a, C, t, H', B, rfl, ⟨J.os, ⟨J.bare.1, fun k st e => J.bare.2.1 k st (ng k) e⟩, fly_un hb hfr frf sub F.fl.1 fl'.1 k2, fly_hok F.hok frf (fun b hb hc => sub b hb (.inl hc)) F.fl.1 fl'.1, fl', sub, frf, ?_⟩, hE⟩
  cases e : X.s_0.heap.get? a with
  | none => rfl
  | some o =>
    obtain ⟨o', q'⟩ := I.base.there a o e (nx a)
    rw [F.new] at q'
    cases q'
def envT (name : Str) (scope : Scope) (cs : List (Str × Addr)) (L a : Addr) (cd : Value) : Env :=
  { scope := scope, locals := L, globals := mainGlobals, cells := cs, qual := name ++ ".<locals>.", func := some a, code := cd, frame := some L, builtins := builtinsNs }
def cxT (P : Program) (w : World) (K : PySem.W.Frag) (mg : Str → Option Value) (base : Heap) (N : List Str) (qual : Str) (scope : Scope) (cs : List (Str × Addr)) (f : Addr) (cd : Value) (A : Around) (outer : List Env) (s : Shared) (H : Hp) (E : XK) : Cx where
  prog := P
  w := w
  K := K
  mg := mg
  base := base
  A := A.deeper (envT qual scope cs s.heap.objs.size f cd)
  N := N
  s_0 := s
  H_0 := H
  env := envT qual scope cs s.heap.objs.size f cd
  outer := outer
  stack := envT qual scope cs s.heap.objs.size f cd :: outer
  ex := []
  calm := true
  fn := fun _ => false
  pn := []
  gp := []
  gx := []
  xe := fun e s' => wpAny (model P w) (A.deeper (envT qual scope cs s.heap.objs.size f cd)) (leaving (envT qual scope cs s.heap.objs.size f cd) e) (fun _ s'' => CX1 P w outer H s E e s'') (fun e' s'' => CX1 P w outer H s E e' s'') s'
theorem passT {P : Program} {w : World} {K : PySem.W.Frag} {mg : Str → Option Value} {base : Heap} {N : List Str} {qual : Str} {scope : Scope} {cs : List (Str × Addr)} {f : Addr} {cd : Value} {A : Around} {outer : List Env} {s : Shared} {H : Hp} {E : XK} :
    Passes (CX1 P w) (cxT P w K mg base N qual scope cs f cd A outer s H E) E := pass1g (X := cxT P w K mg base N qual scope cs f cd A outer s H E) rfl rfl rfl rfl fun _ _ z => z
def ThkAt (H : Hp) (f : Addr) (L : Lm) (cs : List (Str × Addr)) : Prop := ∃ (pm : Value) (c : Addr) (ctv : Value), H f = some (.lam L.q (PySem.W.kla_obj "<lambda>" L.q L.params L.body L.scope cs pm c ctv))
theorem ThkAt.same {H H' : Hp} {f : Addr} {L : Lm} {cs : List (Str × Addr)} (s : Same H H') (h : ThkAt H f L cs) : ThkAt H' f L cs := let ⟨pm, c, ctv, a⟩ := h; ⟨pm, c, ctv, s _ _ a⟩
structure TkScope (fv : List Str) (sc : Scope) : Prop where
  kind : sc.kind = .function
  co : sc.isCoroutine = false
  gen : sc.isGenerator = false
  nocell : ∀ x ∈ sc.names, x.2 ≠ .cell
  only : ∀ x, sc.names.lookup x = some .free → x ∈ fv
  free : ∀ x ∈ fv, sc.names.lookup x = some .free
structure Cells (fv : List Str) (cs : List (Str × Addr)) (H : Hp) (s : Shared) (us : List Value) : Prop where
  len : us.length = fv.length
  at_ : ∀ (i : Nat) (x : Str) (u : Value), fv[i]? = some x → us[i]? = some u → ∃ c, cs.lookup x = some c ∧ s.heap.IsCell c (some u) ∧ H c = none
  inj : ∀ x y c, cs.lookup x = some c → cs.lookup y = some c → x = y
  only : ∀ x c, cs.lookup x = some c → x ∈ fv
section
variable {P : Program} {w : World} {K : PySem.W.Frag} {mg : Str → Option Value} {base : Heap}
theorem inv_thk {fv : List Str} {cs : List (Str × Addr)} {qual : Str} {scope : Scope} {f : Addr} {cd : Value} {A : Around} {outer : List Env} {s : Shared} {H : Hp} {E : XK} {us : List Value} {vs : List V} {h' : Heap} {tk : Nat}
    (S : TkScope fv scope) (hd : A.handled = none) (e0 : Env0 P w K mg base A outer s H) (C : Cells fv cs H s us) (r : Vals vs us) (hn : h'.Ns s.heap.objs.size (fun x => ([] : List (Str × Value)).reverse.lookup x)) (hk : ∀ b o, s.heap.get? b = some o → h'.get? b = some o) :
    Inv (cxT P w K mg base fv qual scope cs f cd A outer s H E) [] (vs.map some) H { s with heap := h', toks := tk } := by
  have noA : ∀ b : Addr, b ∉ (cxT P w K mg base fv qual scope cs f cd A outer s H E).ex := fun b z => absurd (show b ∈ ([] : List Addr) from z) (by simp)
  have cl : ∀ x c, cs.lookup x = some c → ∃ u, s.heap.IsCell c (some u) ∧ H c = none := fun x c e => by
    obtain ⟨i, hi, e1⟩ := List.mem_iff_getElem.mp (C.only x c e)
    have hi' : fv[i]? = some x := by rw [List.getElem?_eq_getElem hi, e1]
    have hu : i < us.length := by rw [C.len]; exact hi
    obtain ⟨c', a1, a2, a3⟩ := C.at_ i x us[i] hi' (List.getElem?_eq_getElem hu)
    rw [e] at a1
    cases a1
    exact ⟨_, a2, a3⟩
  refine ⟨⟨e0.mod, S.kind, rfl, rfl, Heap.get?_none_of_le (Nat.le_refl _), C.inj, fun y hy => ?_, fun y c z => (nomatch z), fun _ => hd, Around.frames_deeper e0.frames, .inr ⟨rfl, rfl⟩, fun b z => absurd z (noA b), e0.bs, e0.bsz, fun b _ _ => noA b, fun b z => absurd z (noA b), e0.funs, e0.frf, e0.tab⟩,
    rfl, ⟨e0.bare, fun _ _ _ e => e, fun p hp => absurd (show p ∈ ([] : List (Nat × GenState)) from hp) (by simp)⟩, Un.kept hk, ⟨_, hn, fun i y v h1 h2 h3 => ?_⟩, fun y c h => ?_, e0.hok.fresh (Nat.le_refl _), fun y c h => ?_, fun p hp => absurd (show p ∈ ([] : List (Addr × Obj)) from hp) (by simp), e0.hok.kept hk, ?_⟩
  · have hy : scope.names.lookup y = some .cell ∨ scope.names.lookup y = some .free := hy
    rcases hy with hy | hy
    · exact absurd rfl (S.nocell _ (PySem.mem_of_lookup hy))
    · obtain ⟨i, hi, e1⟩ := List.mem_iff_getElem.mp (S.only y hy)
      have hu : i < us.length := by rw [C.len]; exact hi
      obtain ⟨c, a1, _⟩ := C.at_ i y us[i] (by rw [List.getElem?_eq_getElem hi, e1]) (List.getElem?_eq_getElem hu)
      exact ⟨c, a1⟩
  · have h2' : vs[i]? = some v := map_some_in h2
    obtain ⟨u, hu, rv⟩ := r.get h2'
    obtain ⟨c, a1, a2, _⟩ := C.at_ i y u h1 hu
    exact ⟨u, rv, .inr ⟨.inr (S.free y (List.mem_of_getElem? h1)), c, a1, a2.keeps hk⟩⟩
  · obtain ⟨u, a, _⟩ := cl y c h
    exact ⟨_, a.keeps hk⟩
  · obtain ⟨u, _, a⟩ := cl y c h
    exact a
  · show (vs.map some).length = fv.length
    rw [List.length_map, r.length, C.len]
def spT (K : PySem.W.Frag) (mg : Str → Option Value) (T : TDE) (U : TDX) (vs : List V) (H : Hp) (Q : VK) (E : XK) : Prop := ∃ (G : Hp) (ds : List D), Same G H ∧ DpAll K G vs ds ∧
  ((∃ d ρ', T ((ds.map Sl.im).map some) = some (d, ρ') ∧ ∀ v G' H', Grow G H G' H' → Dp K G' v d → Q v H') ∨
   (∃ nm, U ((ds.map Sl.im).map some) = some nm ∧ ∀ C G' H', mg nm = some (.ref C) → Grow G H G' H' → E (.ref C) none H'))
structure ThkOk (P : Program) (w : World) (K : PySem.W.Frag) (mg : Str → Option Value) (base : Heap) (k : Nat) (L : Lm) (fv : List Str) (T : TDE) (U : TDX) : Prop where
  run : ∀ (A : Around) (outer : List Env) (s : Shared) (H : Hp) (f : Addr) (cs : List (Str × Addr)) (us : List Value) (vs : List V) (Q : VK) (E : XK), Room k A → Env0 P w K mg base A outer s H → ThkAt H f L cs → Cells fv cs H s us → Vals vs us → spT K mg T U vs H Q E →
    codeAny (model P w) A (.call (.ref f) ⟨[], []⟩) (CR (CX1 P w) outer P w H s Q E) s
theorem ThkOk.mono {j k : Nat} {L : Lm} {fv : List Str} {T : TDE} {U : TDX} (o : ThkOk P w K mg base j L fv T U) (h : j ≤ k) : ThkOk P w K mg base k L fv T U :=
  ⟨fun A outer s H f cs us vs Q E hr => o.run A outer s H f cs us vs Q E (hr.mono h)⟩
theorem thk_ok {L : Lm} {fv : List Str} {k : Nat} {T : TDE} {U : TDX} (S : TkScope fv L.scope)
    (hbind : ∀ (cs : List (Str × Addr)) (pm cdv ct : Value), bindArgs (kla_fn "<lambda>" L.q L.params L.body L.scope cs pm cdv ct) ⟨[], []⟩ = pure [])
    (hT : ∀ (f c : Addr) (cs : List (Str × Addr)) (A : Around) (outer : List Env) (s : Shared) (H : Hp) (E : XK), Room k (A.deeper (envT L.q L.scope cs s.heap.objs.size f (.ref c))) → QE (cxT P w K mg base fv L.q L.scope cs f (.ref c) A outer s H E).nox L.body T)
    (hU : ∀ (f c : Addr) (cs : List (Str × Addr)) (A : Around) (outer : List Env) (s : Shared) (H : Hp) (E : XK), Room k (A.deeper (envT L.q L.scope cs s.heap.objs.size f (.ref c))) → QXE (cxT P w K mg base fv L.q L.scope cs f (.ref c) A outer s H E) E L.body U) :
    ThkOk P w K mg base (k + 1) L fv T U := by
  refine ⟨fun A outer s H f cs us vs Q E hr e0 ⟨pm, c, ctv, hF⟩ C r hsp => ?_⟩
  obtain ⟨hf, c0, fd0, x1, x2, hC⟩ := e0.hok f _ hF
  cases x1
  cases x2
  have hcr : s.heap.CodeRec (.ref c) L.q := e0.hok c _ hC
  have lim : s.heap.NoLimit := e0.mod.nolimit.keeps fun b o e => (e0.bs b o e).1
  refine kla_callFunE hr.depth hf rfl S.co S.gen rfl hcr ?_
  rw [hbind]
  refine wpAny_pure (wpAny_newFunctionEnv (fun x hx => S.nocell x hx) (fun x hx => absurd hx (by simp)) (fun h' hn hs => ?_) S.kind)
  have hk : ∀ b o, s.heap.get? b = some o → h'.get? b = some o := fun b o e => (hs.2 b (Nat.ne_of_lt (Heap.lt_size e))).trans (Heap.get?_push_of_some _ e)
  refine ⟨lim.keeps hk, kla_codeExpr ?_⟩
  have I : Inv (cxT P w K mg base fv L.q L.scope cs f (.ref c) A outer s H E) [] (vs.map some) H { s with heap := h', toks := s.toks + ([] : List (Str × Value)).length } := inv_thk S hr.hd e0 C r hn hk
  obtain ⟨G, ds, sg, dp, h⟩ := hsp
  have R0 : Rep K ⟨G, H, fun _ => none⟩ G H (vs.map some) ((ds.map Sl.im).map some) := Rep.args sg dp
  have gr : ∀ {G' H' : Hp} {σ' : L2.St} {ρ' : Ro}, Rep K ⟨G, H, fun _ => none⟩ G' H' σ' ρ' → Grow G H G' H' := fun R' => ⟨fun b o e => R'.fr b o e (fun n => fun z => (nomatch z)), R'.bas, R'.sub, fun p e1 e2 => R'.nw p e2 e1⟩
  rcases h with ⟨d, ρ', e, q⟩ | ⟨nm, e, q⟩
  · obtain ⟨t, ht, gt⟩ := (hT f c cs A outer s H E (hr.deeper _)).ex
    refine wpAny_mono (ht [] _ (vs.map some) H (fun v H' => Q v H') (I.wish _) (gt _ _ G H _ _ _ _ R0 e fun v G' H' R' s' dv => q v G' H' (gr R') dv)) (fun u s' ⟨v, H', J, rv, qv⟩ => ?_) fun _ _ z => z.elim
    have J' := J.unwish
    exact ⟨v, H', J'.os, ⟨J'.bare.1, fun k st e => J'.bare.2.1 k st (show k ∉ ([] : List Nat) by simp) e⟩, J'.base, J'.hok, rv, qv⟩
  · obtain ⟨t, ht, gt⟩ := (hU f c cs A outer s H E (hr.deeper _)).ex
    refine wpAny_mono (ht [] _ (vs.map some) H (fun _ _ => False) I (gt _ _ G H _ _ _ R0 e fun C σ' ρ' G' H' m R' s' => q C G' H' m (gr R'))) (fun u s' ⟨v, H', J, rv, qv⟩ => qv.elim) fun e s' z => z
end
end My
namespace My
open PySem PySem.Spec PySem.W PyProof.Rows L2
section
variable {X : Cx}
def tLamC (L : Lm) (cs : List (Str × Addr)) : TE := fun _ H Q => ∀ f H', Same H H' → H f = none → ThkAt H' f L cs → Q (.ref f) H'
theorem pe_lamC {L : Lm} {cs : List (Str × Addr)} {c P : Addr} {nm : Str} {pos : Pos} (hcode : X.env.code = .ref c) (hc : codeHdIn X.K c P = true) (hT : (P, lamQ nm) ∈ tabT X.K) (hq : X.env.qual ++ "<lambda>" = lamQ nm) (hL : L.q = lamQ nm) (hdef : defaultsOf L.params X.env = ([], [])) (hcl : closureFor L.scope X.env = pure cs) :
    PE X (.Lambda L.params L.body L.scope pos) (tLamC L cs) := by
  intro pins s σ H Q I h
  have hP : H P = some (.tbl (lamQ nm)) := (I.base.tbls P _ (I.ok.tab _ hT)).1
  obtain ⟨ps, eP, tl⟩ := I.hok P _ hP
  refine kla_eval hdef ?_
  rw [hq]
  have hg : s.heap.Ns mainGlobals X.mg := I.mod.glob.keeps I.bk
  have C : CodeHd s.heap c P := codeHd_of_K I.kIn hc
  have hgP : mainGlobals ≠ P := fun q => by
    obtain ⟨o, es, ep, e, hd, _⟩ := hg
    rw [q, eP] at e; cases e; cases hd
  have hb : s.heap.BuiltinsAt X.mg P := by
    obtain ⟨bm, ob, b1, b2, b3, b4, b5, b6⟩ := I.mod.bm
    have e3 := I.bk _ _ b3
    refine ⟨bm, ob, b1, b2, fun q => ?_, fun q => ?_, e3, b4, b5, b6⟩
    · obtain ⟨o, es, ep, e, hd, _⟩ := hg
      rw [q, e] at e3; cases e3; rw [hd] at b6; cases b6
    · rw [q, eP] at e3; cases e3; cases b6
  have nP : ∀ b u, H b = some u → u ≠ .tbl (lamQ nm) → b ≠ P := fun b u e ne z => by
    rw [z, hP] at e
    exact ne (Option.some.inj e).symm
  have nN : ∀ b, H b = none → b ≠ P := fun b e z => by rw [z, hP] at e; cases e
  cases hcm : codeAmong pos ps.toList with
  | none =>
    refine kla_makeFunction hcl I.ok.glob hg hcode C eP tl.triples hcm hgP hb fun c' ctv h' tk hx hge hlt hrec htab => ?_
    have hcn : H c' = none := I.hok.fresh hge
    have hszle : s.heap.objs.size ≤ h'.objs.size := Nat.le_trans hge (Nat.le_of_lt hlt)
    have hfn : H h'.objs.size = none := I.hok.fresh hszle
    have ncf : c' ≠ h'.objs.size := Nat.ne_of_lt hlt
    have sm : Same H (upd (upd H c' (.cod (lamQ nm))) h'.objs.size (.lam (lamQ nm) (kla_obj "<lambda>" (lamQ nm) L.params L.body L.scope cs ((X.mg "__name__").getD .none) c' ctv))) := fun b u e => by
      rw [upd_ne (ne_of_none e hfn), upd_ne (ne_of_none e hcn)]
      exact e
    have sm' := sm
    generalize hH' : upd (upd H c' (.cod (lamQ nm))) h'.objs.size (.lam (lamQ nm) (kla_obj "<lambda>" (lamQ nm) L.params L.body L.scope cs ((X.mg "__name__").getD .none) c' ctv)) = H' at sm sm'
    have eC : H' c' = some (.cod (lamQ nm)) := by rw [← hH', upd_ne ncf, upd_same]
    have eF : H' h'.objs.size = some (.lam (lamQ nm) (kla_obj "<lambda>" (lamQ nm) L.params L.body L.scope cs ((X.mg "__name__").getD .none) c' ctv)) := by rw [← hH', upd_same]
    have oth : ∀ b, b ≠ c' → b ≠ h'.objs.size → H' b = H b := fun b n1 n2 => by rw [← hH', upd_ne n2, upd_ne n1]
    have keep : ∀ b o, b ≠ P → s.heap.get? b = some o → (h'.push (kla_obj "<lambda>" (lamQ nm) L.params L.body L.scope cs ((X.mg "__name__").getD .none) c' ctv)).get? b = some o := fun b o hb e => Heap.get?_push_of_some _ (hx b o hb e)
    have fr1 : ∀ b o, s.heap.get? b = some o → b ≠ c' ∧ b ≠ h'.objs.size := fun b o e => ⟨Nat.ne_of_lt (Nat.lt_of_lt_of_le (Heap.lt_size e) hge), Nat.ne_of_lt (Nat.lt_of_lt_of_le (Heap.lt_size e) hszle)⟩
    have eP' := Heap.get?_push_of_some (kla_obj "<lambda>" (lamQ nm) L.params L.body L.scope cs ((X.mg "__name__").getD .none) c' ctv) htab
    have u : Un X.fs [] H H' s.heap (h'.push (kla_obj "<lambda>" (lamQ nm) L.params L.body L.scope cs ((X.mg "__name__").getD .none) c' ctv)) := by
      refine ⟨fun b o e n _ _ => keep b o (nN b n) e, fun b o e n _ _ => ⟨o.slots, keep b o (nN b n) e⟩, fun b o e n _ => ?_, fun b o e _ => ?_, fun b xs e => sm b _ e, fun b o u e => sm b _ e, fun b q e => ⟨sm b _ e, fun ps' z => ?_⟩⟩
      · rw [oth b (fr1 b o e).1 (fr1 b o e).2]
        exact n
      · by_cases hb : b = P
        · rw [hb]
          exact ⟨_, eP'⟩
        · exact ⟨o, keep b o hb e⟩
      · by_cases hb : b = P
        · subst hb
          rw [eP] at z
          cases z
          exact ⟨_, eP'⟩
        · exact ⟨#[], by rw [keep b _ hb z]; simp⟩
    have hok : HOk X.prog X.w H' (h'.push (kla_obj "<lambda>" (lamQ nm) L.params L.body L.scope cs ((X.mg "__name__").getD .none) c' ctv)) := fun b v e => by
      by_cases b1 : b = h'.objs.size
      · rw [b1, eF] at e
        cases e
        rw [b1]
        exact ⟨Heap.get?_push_size _ rfl, c', _, rfl, rfl, eC⟩
      · by_cases b2 : b = c'
        · rw [b2, eC] at e
          cases e
          rw [b2]
          exact hrec.push _
        · rw [oth b b2 b1] at e
          by_cases hb : b = P
          · rw [hb, hP] at e
            cases e
            rw [hb]
            refine ⟨_, eP', ?_⟩
            rw [Array.toList_append]
            exact TabL.snoc eC (tl.mono fun c hc => sm c _ hc)
          · refine (I.hok b v e).stay (fun c w' hcc q => keep c w' ?_ q) (fun c q => sm c _ q) fun c w' _ q => sm c _ q
            rcases hcc with rfl | hcc
            · exact hb
            · exact nP c _ hcc (fun z => nomatch z)
    refine ⟨.ref h'.objs.size, H', I.un (t' := tk) u hok, rfl, h h'.objs.size H' sm hfn ?_⟩
    rw [← hL] at eF
    exact ⟨_, c', ctv, eF⟩
  | some cv =>
    obtain ⟨c', rfl, hcc⟩ := tl.hit hcm
    refine kla_makeFunctionHit hcl I.ok.glob hg hcode C eP tl.triples hcm hb fun ctv h' tk hk hsz => ?_
    have hfn : H h'.objs.size = none := I.hok.fresh hsz
    refine ⟨.ref h'.objs.size, upd H h'.objs.size (.lam (lamQ nm) (kla_obj "<lambda>" (lamQ nm) L.params L.body L.scope cs ((X.mg "__name__").getD .none) c' ctv)), I.laid (t' := tk) (fun b u e => Heap.get?_push_of_some _ (hk b u e)) hsz ⟨Heap.get?_push_size _ rfl, c', _, rfl, rfl, same_new hfn _ _ _ hcc⟩, rfl, h h'.objs.size _ (same_new hfn _) hfn ?_⟩
    rw [← hL]
    exact ⟨_, c', ctv, upd_same⟩
theorem Inv.cells {fv : List Str} {cs : List (Str × Addr)} {is : List Nat} {pins : List (Addr × Obj)} {σ : L2.St} {H : Hp} {s : Shared} {vs : List V} (I : Inv X pins σ H s)
    (hi : is.map (fun i => X.N[i]?) = fv.map some) (hc : ∀ x ∈ fv, X.env.scope.names.lookup x = some .cell) (hs : ∀ x c, cs.lookup x = some c → X.env.cells.lookup x = some c) (ho : ∀ x c, cs.lookup x = some c → x ∈ fv) (hh : ∀ x ∈ fv, (cs.lookup x).isSome = true)
    (hv : is.map (fun i => σ[i]?) = vs.map fun v => some (some v)) : ∃ us, Vals vs us ∧ Cells fv cs H s us := by
  obtain ⟨m, hn, hl⟩ := I.loc
  have key : ∀ (fv : List Str) (is : List Nat) (vs : List V), is.map (fun i => X.N[i]?) = fv.map some → (∀ x ∈ fv, X.env.scope.names.lookup x = some .cell) → (∀ x ∈ fv, (cs.lookup x).isSome = true) → is.map (fun i => σ[i]?) = (vs.map fun v => some (some v)) →
      ∃ us, Vals vs us ∧ us.length = fv.length ∧ ∀ (i : Nat) (x : Str) (u : Value), fv[i]? = some x → us[i]? = some u → ∃ c, cs.lookup x = some c ∧ s.heap.IsCell c (some u) ∧ H c = none := by
    intro fv
    induction fv with
    | nil =>
      intro is vs h1 _ _ h4
      have : is = [] := by simpa using h1
      subst this
      have : vs = [] := by simpa using h4.symm
      subst this
      exact ⟨[], .nil, rfl, fun i x u e => by simp at e⟩
    | cons x fv ih =>
      intro is vs h1 h2 h3 h4
      cases is with
      | nil => simp at h1
      | cons i is =>
        cases vs with
        | nil => simp at h4
        | cons v vs =>
          rw [List.map_cons, List.map_cons] at h1 h4
          obtain ⟨a1, a2⟩ := List.cons.inj h1
          obtain ⟨b1, b2⟩ := List.cons.inj h4
          obtain ⟨us, r, l, k⟩ := ih is vs a2 (fun y hy => h2 y (List.mem_cons_of_mem _ hy)) (fun y hy => h3 y (List.mem_cons_of_mem _ hy)) b2
          have hx := h2 x (.head _)
          obtain ⟨u, rv, lk⟩ := hl i x v a1 b1 (.inr (.inl hx))
          obtain ⟨c, hcs⟩ := Option.isSome_iff_exists.mp (h3 x (.head _))
          have hce := hs x c hcs
          have hcell : s.heap.IsCell c (some u) := by
            rcases lk with ⟨k1, _⟩ | ⟨_, c', e1, e2⟩
            · rw [show X.env.kindOf x = X.env.scope.names.lookup x from rfl, hx] at k1
              cases k1
            · rw [hce] at e1
              cases e1
              exact e2
          refine ⟨u :: us, .cons rv r, by simp [l], fun j y u' e1 e2 => ?_⟩
          cases j with
          | zero =>
            cases e1
            cases e2
            exact ⟨c, hcs, hcell, I.freeC x c hce⟩
          | succ j => exact k j y u' (by simpa using e1) (by simpa using e2)
  obtain ⟨us, r, l, k⟩ := key fv is vs hi hc hh hv
  exact ⟨us, r, l, k, fun x y c e1 e2 => I.ok.inj x y c (hs x c e1) (hs y c e2), ho⟩
end
end My
namespace My
open PySem PySem.Spec PySem.W PySem.Calls PyProof.Rows L2
open PySem.Builtin PySem.Builtin.ObjectAttr PySem.Builtin.Getset_descriptor
structure ExCls (K : PySem.W.Frag) (C : Addr) : Prop where
  cls : (clsIn K C).isSome = true
  ga : findIn K (.ref C) "__getattribute__" = some (some (.builtin "BaseException.__getattribute__"))
  hk : findIn K (.ref C) "__getattr__" = some none
  cl : findIn K (.ref C) "__class__" = some (some (.builtin "object.__class__"))
  ob : mroIn K C (.type "object") = some true
  be : mroIn K C (.type "BaseException") = some true
def ExAt (a C : Addr) (h : Heap) : Prop := ∃ o, h.get? a = some o ∧ o.cls = .ref C
theorem ExAt.type {a C : Addr} {h : Heap} {M : Model} (I : ExAt a C h) : Looks M h (typeOf (.ref a)) (.ref C) := by
  obtain ⟨o, h1, h2⟩ := I
  exact h2 ▸ (Looks.ld h1).andThen .now
section
variable {prog : Program} {w : World} {A : Around} {E : Value → Shared → Prop} {h : Heap} {g : Array GenState} {d : Drawn} {t : Nat} {os : OsState} {a C : Addr} {o : Obj} {K : PySem.W.Frag}
theorem class_get_exc {tp : Value} {R : Result → Shared → Prop} (X : K.In h) (I : ExAt a C h) (hm : mroIn K C (.type "object") = some true)
    (hq : R (.ok (.ret (.ref C))) ⟨h, g, d, t, os⟩) : codeAny (model prog w) A (.call (.builtin "getset_descriptor.__get__") ⟨[.builtin "object.__class__", .ref a, tp], []⟩) R ⟨h, g, d, t, os⟩ := by
  have L0 := I.type (M := model prog w)
  have L1 := looks_mroIn (M := model prog w) X hm
  refine codeAny_call_builtin KF.slot_gs.plain KF.entry_gs (KF.slot_gs.check _ _ _ _ _ _ _ _ KF.type_class (KF.args_gs _ _ _) ?_)
  unfold Builtin.«getset_descriptor.__get__» descrGet
  rw [dga_obj]
  refine wpAny_bind (wpAny_pure ?_)
  unfold descrGetter descrCheckInstance descrNameAndClass isInstance
  simp only [KF.owner_class]
  repeat lk
  refine ⟨Code.quiet_builtin _ (by decide +kernel), codeAny_builtin KF.entry_class ?_⟩
  unfold Builtin.«object.__class__» shownTypeOf
  repeat lk
  exact hq
theorem class_entry_exc {tk : Tok} {Q : PySem.Fin → Shared → Prop} (X : K.In h) (Z : ExCls K C) (I : ExAt a C h) (hq : Q (.done (.ret (.ref C))) ⟨h, g, d, t, os⟩) :
    wpAny (model prog w) A (Builtin.«object.__getattribute__» ⟨[.ref a, .str "__class__" tk], []⟩) Q E ⟨h, g, d, t, os⟩ := by
  have L0 := I.type (M := model prog w)
  have L1 := looks_findIn (M := model prog w) X Z.cl
  have f5 := F.typeOf_object_class
  have f6 := F.slot_gs_get.lookup
  have f7 := F.slot_gs_set.lookup
  have hT5 : (⟨h, g, d, t, os⟩ : Shared).TypeIs (.builtin "object.__class__") "getset_descriptor" := F.typeOf_object_class
  repeat (any_goals (first | assumption | with_reducible refine L0.at ?_ | with_reducible refine L1.at ?_ | wp_step))
  refine class_get_exc X I Z.ob ?_
  repeat (any_goals (first | assumption | wp_step))
theorem check_ga_exc {M : Model} {nameV : Value} {Q : Unit → Shared → Prop} (X : K.In h) (Z : ExCls K C) (I : ExAt a C h) (hq : Q () ⟨h, g, d, t, os⟩) : wpAny M A (checkBuiltinCall "BaseException.__getattribute__" ⟨[.ref a, nameV], []⟩) Q E ⟨h, g, d, t, os⟩ := by
  have hk : builtinKind "BaseException.__getattribute__" = some .slot := by decide +kernel
  have hsplit : splitId "BaseException.__getattribute__" = some ("BaseException", "__getattribute__") := by decide +kernel
  have ha := F.args_bexc_ga (.ref a) nameV
  have L0 := I.type (M := M)
  have L1 := looks_mroIn (M := M) X Z.be
  simp only [checkBuiltinCall, hk, hsplit]
  refine wpAny_bind ?_
  unfold isInstance
  repeat (first | with_reducible refine L0.at ?_ | with_reducible refine L1.at ?_ | wp_step)
  exact hq
theorem class_call_exc {tk : Tok} {R : Result → Shared → Prop} (X : K.In h) (Z : ExCls K C) (I : ExAt a C h) (hq : R (.ok (.ret (.ref C))) ⟨h, g, d, t, os⟩) :
    codeAny (model prog w) A (.call (.builtin "BaseException.__getattribute__") ⟨[.ref a, .str "__class__" tk], []⟩) R ⟨h, g, d, t, os⟩ :=
  codeAny_call_builtin (by first | exact PySem.F.attr_ValueError.ga.plain | exact PySem.F.attrOwn_ValueError.ga.plain) F.entry_bexc_ga (check_ga_exc X Z I (class_entry_exc X Z I hq))
theorem class_by_exc {tk : Tok} {Q : Value → Shared → Prop} (X : K.In h) (Z : ExCls K C) (I : ExAt a C h) (hq : Q (.ref C) ⟨h, g, d, t, os⟩) : wpAny (model prog w) A (getAttrBy (.ref a) (.str "__class__" tk) false) Q E ⟨h, g, d, t, os⟩ := by
  have L0 := I.type (M := model prog w)
  have L1 := looks_findIn (M := model prog w) X Z.ga
  have L2 := looks_findIn (M := model prog w) X Z.hk
  have f3 := PySem.F.attr_ValueError.ga.bind (.ref a)
  have hx0 : (false && onTheHeap (Value.builtin "BaseException.__getattribute__")) = false := rfl
  have hx2 : (Value.builtin "BaseException.__getattribute__" == Value.builtin "object.__getattribute__") = false := by decide +kernel
  have hx1 : (onTheHeap (Value.ref C) && Value.builtin "BaseException.__getattribute__" == Value.builtin "object.__getattribute__") = false := by rw [hx2]; rfl
  repeat (any_goals (first | assumption | with_reducible refine L0.at ?_ | with_reducible refine L1.at ?_ | with_reducible refine L2.at ?_ | wp_step))
  refine class_call_exc X Z I ?_
  repeat (any_goals (first | assumption | wp_step))
theorem class_attr_exc {Q : Option Value → Shared → Prop} (X : K.In h) (Z : ExCls K C) (I : ExAt a C h) (hq : Q (some (.ref C)) ⟨h, g, d, t + 1, os⟩) : wpAny (model prog w) A (getAttr? (.ref a) "__class__") Q E ⟨h, g, d, t, os⟩ := by
  unfold getAttr? getAttrBy?
  repeat (any_goals (first | assumption | with_reducible apply class_by_exc X Z I | wp_step))
end
theorem kitx_exc {K : PySem.W.Frag} {a C : Addr} (Z : ExCls K C) : KitX K (.ref a) (.ref C) (ExAt a C) where
  ty := fun _ _ _ I => I.type
  it := fun _ _ X _ => by
    have hc := Z.cls
    unfold clsIn at hc
    split at hc
    · rename_i c' d' cd' sl' ho
      intro A' Q' E' s' k q
      unfold isType loadHead
      exact wpAny_bind (wpAny_loadPart (k _ _ (X _ _ ho)) (wpAny_pure q))
    · cases hc
  ne := fun h tp dd its n sl X htp => by
    have hc := Z.cls
    refine Bool.eq_false_iff.mpr fun q => ?_
    have e : C = tp := Value.ref.inj (beq_iff_eq.mp q)
    subst e
    unfold clsIn at hc
    split at hc
    · rename_i c' d' cd' sl' ho
      have z := (X _ _ ho).symm.trans htp
      cases z
    · cases hc
  ca := fun {_ _ _ _ _ s} X I k => by
    obtain ⟨h, g, d, t, os⟩ := s
    exact class_attr_exc X Z I k
end My
namespace My
open PySem PySem.Spec PySem.W PyProof.Rows L2
section
variable {X : Cx}
def rCount (K : PySem.W.Frag) : V → List V → Hp → VK → Prop := fun x xs H Q => ∃ (a : Addr) (ys : List V) (y : V), x = V.ref a ∧ xs = [y] ∧ SqL K H a ys ∧ flatV y = true ∧ ys.all flatV = true ∧ Q (.int ((ys.countP fun z => eqV z y : Nat) : Int)) H
theorem count_rel {y : V} {uy : Value} : ∀ {ys : List V} {us : List Value}, Vals ys us → ys.all flatV = true → us.countP (eqU y) = ys.countP fun z => eqV z y
  | _, _, .nil, _ => rfl
  | z :: ys, u :: us, .cons r t, f => by
    rw [List.all_cons, Bool.and_eq_true] at f
    rw [List.countP_cons, List.countP_cons, count_rel (uy := uy) t f.2, eqU_of r f.1]
theorem mt_count : MtR X "list.count" (rCount X.K) := by
  intro pins s σ H x xs v us Q I rx rxs h
  obtain ⟨a, ys, y, rfl, rfl, hs, fy, fys, q⟩ := h
  cases rx
  cases rxs with
  | cons ry rt =>
    rename_i uy ut
    cases rt
    obtain ⟨its, rv, ⟨⟨cls, dd, data, sl⟩, n, ho, hc, hdn, hd⟩, hlen⟩ := I.list hs
    simp only at hc hd
    subst hc hd
    refine call_meets PySem.F.slot_list_count ⟨_, ho, rfl⟩ PySem.F.entry_list_count (PySem.F.args_list_count_2 _ _)
      (SeqAt.list_countAt a its.toArray n dd sl uy (eqU y)) ⟨ho, fun u' hu' => mem_eqAt ry fy rv fys u' (by simpa using hu'), ?_⟩
    rw [List.toList_toArray, count_rel (uy := uy) rv fys]
    exact ⟨.int _, H, I.tok _, ⟨_, rfl⟩, q⟩
end
def exO (a C : Addr) : HO := .ext (ExAt a C)
def clsV : V → Option Value
  | .ref D => some (.ref D)
  | .ty T => some (.type T)
  | _ => none
def rInstE (K : PySem.W.Frag) : List V → Hp → VK → Prop := fun xs H Q => ∃ (a C : Addr) (c : V) (u : Value) (b : Bool), xs = [.ref a, c] ∧ clsV c = some u ∧ H a = some (exO a C) ∧ ExCls K C ∧ kitOne K (.ref C) u = some b ∧ Q (.bl b) H
section
variable {X : Cx}
theorem call_instE : CallR X (.builtin "isinstance") (rInstE X.K) := by
  intro pins s σ H xs us Q I r h
  obtain ⟨a, C, c, u0, b, rfl, hc, hH, Z, e, q⟩ := h
  obtain ⟨u, y, rfl, ru, ry⟩ := vals2 r
  cases (show u = Value.ref a from ru)
  have hy : y = u0 := by
    cases c <;> first | (cases hc; exact ry) | cases hc
  subst hy
  obtain ⟨p, _⟩ := (show ObjOk X.prog X.w H s.heap a (.ext (ExAt a C)) from I.hok a _ hH)
  exact PySem.W.kia_one (kitx_exc Z) I.kIn p e (fun z => nomatch z) fun tk => ⟨.bl _, H, I.tok tk, rfl, q⟩
end
structure RoomW (k : Nat) (A : Around) : Prop where
  dp : A.depth + 3 * k + 5 < recursionLimit
  un : A.units + 16 * k + 200 < cLine
def cxW (P : Program) (w : World) (K : PySem.W.Frag) (mg : Str → Option Value) (base : Heap) (N : List Str) (qual : Str) (scope : Scope) (f : Addr) (cd : Value) (A : Around) (outer : List Env) (s : Shared) (H : Hp) (E : XK) : Cx :=
  { cxOf CX0 P w K mg base N qual scope f cd A outer s H E with calm := false }
theorem inv_startW {P : Program} {w : World} {K : PySem.W.Frag} {mg : Str → Option Value} {base : Heap} {N ps : List Str} {qual : Str} {scope : Scope} {f : Addr} {cd : Value} {A : Around} {outer : List Env} {s s1 : Shared} {H : Hp} {E : XK} {us : List Value} {vs : List V}
    (S : FnScope N ps scope) (e0 : Env0 P w K mg base A outer s H) (hl : vs.length = ps.length) (r : Vals vs us)
    (x : InCallC s s.heap.objs.size (bindL (envOfC qual scope s.heap.objs.size f cd).kindOf (ps.zip us) fun _ => none) (cellsFrom (s.heap.objs.size + 1) scope.names []) (bindC (envOfC qual scope s.heap.objs.size f cd).kindOf (ps.zip us) fun _ => none) s1) :
    Inv (cxW P w K mg base N qual scope f cd A outer s H E) [] (start N vs) H s1 := by
  have I := inv_start (CX := CX0) (A := { A with handled := none }) (E := E) (f := f) (cd := cd) (qual := qual) S rfl ⟨e0.frames, e0.mod, e0.bs, e0.bsz, e0.funs, e0.frf, e0.hok, e0.bare, e0.tab⟩ hl r x
  have k := I.ok
  exact ⟨⟨k.mod, k.kind, k.glob, k.blt, k.above, k.inj, k.has, k.cab, (fun z => nomatch z), Around.frames_deeper e0.frames, k.stk, k.exf, k.bs, k.bsz, k.noex, k.exfs, k.funs, k.frf, k.tab⟩, I.os, I.bare, I.base, I.loc, I.cell, I.free, I.freeC, I.pin, I.hok, I.len⟩
structure FnW (P : Program) (w : World) (K : PySem.W.Frag) (mg : Str → Option Value) (base : Heap) (k : Nat) (f : Addr) (fd : FuncData) (ps : List Str) (sp : Sp) : Prop where
  len : ∀ vs H Q E, sp vs H Q E → vs.length = ps.length
  run : ∀ (A : Around) (outer : List Env) (s : Shared) (H : Hp) (args : Args) (us : List Value) (vs : List V) (Q : VK) (E : XK), RoomW k A → Env0 P w K mg base A outer s H → BindsTo s fd args (ps.zip us) → Vals vs us → sp vs H Q E →
    codeAny (model P w) A (.call (.ref f) args) (CR CX0 outer P w H s Q E) s
theorem fn_ofW {P : Program} {w : World} {K : PySem.W.Frag} {mg : Str → Option Value} {base : Heap} {k : Nat} {f : Addr} {name qual : Str} {params : Arguments} {body : List Stmt} {scope : Scope} {dV kV doc pm cdv ct oc : Value} {an od : Option Addr}
    {osl : Array (Option Value)} {N ps : List Str} {sp : Sp} (lk : K.lookup f = some ⟨oc, od, .func (PySem.W.fnOf name qual params body scope dV kV doc pm an cdv ct), osl⟩) (hcd : PySem.W.codeIn K cdv qual = true) (S : FnScope N ps scope)
    (len : ∀ vs H Q E, sp vs H Q E → vs.length = ps.length)
    (hbody : ∀ (A : Around) (outer : List Env) (s : Shared) (H : Hp) (vs : List V) (Q : VK) (E : XK), RoomW k (A.deeper (envOfC qual scope s.heap.objs.size f cdv)) → sp vs H Q E →
      ∃ t, PSs (cxW P w K mg base N qual scope f cdv A outer s H E).nox body t ∧ t { nx := fun _ H' => Q .non H', rt := Q } (start N vs) H) :
    FnW P w K mg base (k + 1) f (PySem.W.fnOf name qual params body scope dV kV doc pm an cdv ct) ps sp := by
  refine ⟨len, fun A outer s H args us vs Q E hr e0 hb r hsp => ?_⟩
  have hl := len _ _ _ _ hsp
  have KX : K.In s.heap := e0.mod.kin.keeps fun b o e => (e0.bs b o e).1
  have lim : s.heap.NoLimit := e0.mod.nolimit.keeps fun b o e => (e0.bs b o e).1
  have hkind : ∀ y ∈ ps.zip us, scope.names.lookup y.1 = some .local ∨ (scope.names.lookup y.1 = some .cell ∧ ((cellsFrom (s.heap.objs.size + 1) scope.names []).lookup y.1).isSome = true) := fun ⟨n, v⟩ hy => by
    rcases S.par n (List.of_mem_zip hy).1 with q | q
    · exact .inl q
    · exact .inr ⟨q, PySem.W.cellsFrom_some _ _ _ (.inl q)⟩
  refine codeAny_call_function (by have := hr.dp; omega) (KX _ _ lk) rfl S.co S.gen rfl (PySem.W.codeRec_of KX hcd) (hb _ _ _ _ ?_)
  refine wpAny_newFunctionEnv_cells S.kind hkind fun env he s1 x => ?_
  subst he
  refine ⟨lim.keeps x.toInCall.keep, codeAny_func ?_⟩
  obtain ⟨t, ht, hq⟩ := hbody A outer s H vs Q E ⟨(by have := hr.dp; show A.depth + 1 + 3 * k + 5 < _; omega), (by have := hr.un; show A.units + 3 + 16 * k + 200 < _; omega)⟩ hsp
  have I : Inv (cxW P w K mg base N qual scope f cdv A outer s H E) [] (start N vs) H s1 := inv_startW S e0 hl r x
  refine wpAny_mono (ht [] s1 (start N vs) H _ (I.wish _) hq) (fun fl s' hs => ?_) fun e s' hs => hs.elim
  have fin : ∀ {σ' : L2.St} {H' : Hp} {v : V} {u : Value}, Inv (cxW P w K mg base N qual scope f cdv A outer s H E) [] σ' H' s' → RelV v u → Q v H' → CE outer P w H s Q u s' :=
    fun {σ' H' v u} J rv q => ⟨v, H', J.os, ⟨J.bare.1, fun k st e => J.bare.2.1 k st (show k ∉ ([] : List Nat) by simp) e⟩, J.base, J.hok, rv, q⟩
  have hs := SP.unwish (X := cxW P w K mg base N qual scope f cdv A outer s H E) hs
  cases fl with
  | ret u =>
    obtain ⟨v, σ', H', J, rv, q⟩ := hs
    exact fin J rv q
  | next =>
    obtain ⟨σ', H', J, q⟩ := hs
    exact fin (v := V.non) (u := Value.none) J rfl q
  | brk =>
    obtain ⟨_, _, _, q⟩ := hs
    exact False.elim q
  | cont =>
    obtain ⟨_, _, _, q⟩ := hs
    exact False.elim q
end My
namespace My
open PySem PySem.Spec PySem.W PyProof.Rows L2
def tInst (K : PySem.W.Frag) (c : V) : TE := tCB (rInstE K) (tCons (tVar 0) (tCons (tC c) tNil))
def tInsts (K : PySem.W.Frag) : List V → TA
  | [] => tNil
  | c :: cs => tCons (tInst K c) (tInsts K cs)
def tStrs : List Str → TA
  | [] => tNil
  | c :: cs => tCons (tC (.str c)) (tStrs cs)
def words1 : List Str := ["Empty", "Twice", "NoTicket", "Higher", "NoCredit", "NoPlace", "NoKind", "NoName", "Taken", "TooMany"]
def words2 : List Str := ["NoHeap", "NoKey", "Itself", "Unlike"]
def words : List Str := words1 ++ words2
def tWord (K : PySem.W.Frag) (c1 c2 c3 c4 : List V) : TS :=
  tSeq (tAsg (tLst (tInsts K c1)) (gName 1))
  (tSeq (tAsg (tOp (rCatL K) (tVar 1) (tLst (tInsts K c2))) (gName 1))
  (tSeq (tAsg (tOp (rCatL K) (tVar 1) (tLst (tInsts K c3))) (gName 1))
  (tSeq (tAsg (tOp (rCatL K) (tVar 1) (tLst (tInsts K c4))) (gName 1))
  (tSeq (tIfS (tOr (tTest (tOp rNe (tBM K "list" (rCount K) (tVar 1) (tCons (tC (.bl true)) tNil)) (tC (.int 1)))) (tNot (tB (tInst K (.ty "ValueError"))))) (tRet (tC (.str "other"))) tNext)
  (tSeq (tAsg (tLst (tStrs words1)) (gName 2))
  (tSeq (tAsg (tOp (rCatL K) (tVar 2) (tLst (tStrs words2))) (gName 2))
  (tRet (tOp (rIx K) (tVar 2) (tBM K "list" (rIndex K) (tVar 1) (tCons (tC (.bl true)) tNil))))))))))
section
variable {K : PySem.W.Frag} {C a : Addr}
theorem tInsts_of {σ : L2.St} {H : Hp} {Q : List V → Hp → Prop} (Z : ExCls K C) (h0 : σ[0]? = some (some (.ref a))) (hH : H a = some (exO a C)) : ∀ (cs : List V) (bs : List Bool), cs.length = bs.length → (∀ (i : Nat) (c : V) (b : Bool), cs[i]? = some c → bs[i]? = some b → ∃ u, clsV c = some u ∧ kitOne K (.ref C) u = some b) →
    Q (bs.map V.bl) H → tInsts K cs σ H Q := by
  intro cs
  induction cs generalizing Q with
  | nil =>
    intro bs hl _ q
    have : bs = [] := by simpa using hl.symm
    subst this
    exact q
  | cons c cs ih =>
    intro bs hl hk q
    cases bs with
    | nil => simp at hl
    | cons b bs =>
      obtain ⟨u, e1, e2⟩ := hk 0 c b rfl rfl
      refine ⟨_, h0, a, C, c, u, b, rfl, e1, hH, Z, e2, ?_⟩
      exact ih bs (by simpa using hl) (fun i c b h1 h2 => hk (i + 1) c b (by simpa using h1) (by simpa using h2)) q
theorem tStrs_of {σ : L2.St} {H : Hp} {Q : List V → Hp → Prop} : ∀ ws : List Str, Q (ws.map V.str) H → tStrs ws σ H Q := by
  intro ws
  induction ws generalizing Q with
  | nil => exact fun q => q
  | cons x ws ih => exact fun q => ih q
theorem tWord_of {c1 c2 c3 c4 : List V} {H : Hp} {D : Ends} {j : Nat} {nm : Str} (Z : ExCls K C) (hH : H a = some (exO a C)) (l1 : c1.length = 4) (l2 : c2.length = 4) (l3 : c3.length = 4) (l4 : c4.length = 2)
    (hk : ∀ (i : Nat) (c : V), (c1 ++ c2 ++ c3 ++ c4)[i]? = some c → ∃ u, clsV c = some u ∧ kitOne K (.ref C) u = some (i == j)) (hv : kitOne K (.ref C) (.type "ValueError") = some true) (hj : words[j]? = some nm)
    (q : ∀ H', Same H H' → D.rt (.str nm) H') : tWord K c1 c2 c3 c4 D [some (.ref a), none, none] H := by
  have hj14 : j < 14 := (List.getElem?_eq_some_iff.mp hj).1
  have bs : ∀ (n m : Nat) (cs : List V), cs.length = m → (∀ (i : Nat) (c : V), cs[i]? = some c → ∃ u, clsV c = some u ∧ kitOne K (.ref C) u = some (n + i == j)) →
      ∀ (i : Nat) (c : V) (b : Bool), cs[i]? = some c → ((List.range m).map fun i => n + i == j)[i]? = some b → ∃ u, clsV c = some u ∧ kitOne K (.ref C) u = some b := by
    intro n m cs hl h i c b h1 h2
    obtain ⟨u, e1, e2⟩ := h i c h1
    have hi : i < m := by rw [← hl]; exact (List.getElem?_eq_some_iff.mp h1).1
    rw [List.getElem?_map, List.getElem?_range hi] at h2
    cases h2
    exact ⟨u, e1, e2⟩
  have k1 := bs 0 4 c1 l1 (fun i c e => by
    have := hk i c (by rw [List.append_assoc, List.append_assoc, List.getElem?_append_left (List.getElem?_eq_some_iff.mp e).1]; exact e)
    simpa using this)
  have k2 := bs 4 4 c2 l2 (fun i c e => by
    have hi : i < c2.length := (List.getElem?_eq_some_iff.mp e).1
    refine hk (4 + i) c ?_
    rw [List.getElem?_append_left (by simp [l1, l2, l3]; omega), List.getElem?_append_left (by simp [l1, l2]; omega), List.getElem?_append_right (by omega), l1, Nat.add_sub_cancel_left]
    exact e)
  have k3 := bs 8 4 c3 l3 (fun i c e => by
    have hi : i < c3.length := (List.getElem?_eq_some_iff.mp e).1
    refine hk (8 + i) c ?_
    rw [List.getElem?_append_left (by simp [l1, l2, l3]; omega), List.getElem?_append_right (by simp [l1, l2]), List.length_append, l1, l2, show 8 + i - (4 + 4) = i by omega]
    exact e)
  have k4 := bs 12 2 c4 l4 (fun i c e => by
    have hi : i < c4.length := (List.getElem?_eq_some_iff.mp e).1
    refine hk (12 + i) c ?_
    rw [List.getElem?_append_right (by simp [l1, l2, l3]), List.length_append, List.length_append, l1, l2, l3, show 12 + i - (4 + 4 + 4) = i by omega]
    exact e)
  unfold tWord
  refine tInsts_of Z rfl hH c1 _ (by simpa using l1) k1 ⟨(by simp only [List.length_append, List.length_map, List.length_range]; decide), fun p1 n1 => ?_⟩
  generalize hG1 : upd _ p1 _ = G1
  obtain ⟨s1, e1⟩ : Same H G1 ∧ G1 p1 = some (.lst (((List.range 4).map fun i => 0 + i == j).map V.bl)) := by subst hG1; exact ⟨same_new n1 _, upd_same⟩
  clear hG1
  refine ⟨_, rfl, tInsts_of Z rfl (s1 _ _ hH) c2 _ (by simpa using l2) k2 ⟨(by simp only [List.length_append, List.length_map, List.length_range]; decide), fun p2 n2 => ?_⟩⟩
  generalize hG2 : upd _ p2 _ = G2
  obtain ⟨s2, e2⟩ : Same G1 G2 ∧ G2 p2 = some (.lst (((List.range 4).map fun i => 4 + i == j).map V.bl)) := by subst hG2; exact ⟨same_new n2 _, upd_same⟩
  clear hG2
  refine ⟨p1, p2, _, _, rfl, rfl, SqL.of (s2 _ _ e1), SqL.of e2, (by simp only [List.length_append, List.length_map, List.length_range]; decide), fun p3 n3 => ?_⟩
  generalize hG3 : upd _ p3 _ = G3
  obtain ⟨s3, e3⟩ : Same G2 G3 ∧ G3 p3 = some (.lst (((List.range 4).map fun i => 0 + i == j).map V.bl ++ ((List.range 4).map fun i => 4 + i == j).map V.bl)) := by subst hG3; exact ⟨same_new n3 _, upd_same⟩
  clear hG3
  have h3 := s3 _ _ (s2 _ _ (s1 _ _ hH))
  refine ⟨_, rfl, tInsts_of Z rfl h3 c3 _ (by simpa using l3) k3 ⟨(by simp only [List.length_append, List.length_map, List.length_range]; decide), fun p4 n4 => ?_⟩⟩
  generalize hG4 : upd _ p4 _ = G4
  obtain ⟨s4, e4⟩ : Same G3 G4 ∧ G4 p4 = some (.lst (((List.range 4).map fun i => 8 + i == j).map V.bl)) := by subst hG4; exact ⟨same_new n4 _, upd_same⟩
  clear hG4
  refine ⟨p3, p4, _, _, rfl, rfl, SqL.of (s4 _ _ e3), SqL.of e4, (by simp only [List.length_append, List.length_map, List.length_range]; decide), fun p5 n5 => ?_⟩
  generalize hG5 : upd _ p5 _ = G5
  obtain ⟨s5, e5⟩ := (by subst hG5; exact ⟨same_new n5 _, upd_same⟩ : Same G4 G5 ∧ G5 p5 = some (.lst ((((List.range 4).map fun i => 0 + i == j).map V.bl ++ ((List.range 4).map fun i => 4 + i == j).map V.bl) ++ ((List.range 4).map fun i => 8 + i == j).map V.bl)))
  clear hG5
  have h5 := s5 _ _ (s4 _ _ h3)
  refine ⟨_, rfl, tInsts_of Z rfl h5 c4 _ (by simpa using l4) k4 ⟨(by simp only [List.length_append, List.length_map, List.length_range]; decide), fun p6 n6 => ?_⟩⟩
  generalize hG6 : upd _ p6 _ = G6
  obtain ⟨s6, e6⟩ : Same G5 G6 ∧ G6 p6 = some (.lst (((List.range 2).map fun i => 12 + i == j).map V.bl)) := by subst hG6; exact ⟨same_new n6 _, upd_same⟩
  clear hG6
  refine ⟨p5, p6, _, _, rfl, rfl, SqL.of (s6 _ _ e5), SqL.of e6, (by simp only [List.length_append, List.length_map, List.length_range]; decide), fun p7 n7 => ?_⟩
  generalize hL : (((((List.range 4).map fun i => 0 + i == j).map V.bl ++ ((List.range 4).map fun i => 4 + i == j).map V.bl) ++ ((List.range 4).map fun i => 8 + i == j).map V.bl) ++ ((List.range 2).map fun i => 12 + i == j).map V.bl) = L
  have hL' : L = ((List.range 14).map fun i => i == j).map V.bl := by
    subst hL
    simp only [List.range_succ, List.range_zero, List.nil_append, List.cons_append, List.map_cons, List.map_nil, Nat.zero_add]
  clear hL
  generalize hG7 : upd _ p7 _ = G7
  obtain ⟨s7, e7⟩ : Same G6 G7 ∧ G7 p7 = some (.lst L) := by subst hG7; exact ⟨same_new n7 _, upd_same⟩
  clear hG7
  have h7 := s7 _ _ (s6 _ _ h5)
  have flat : L.all flatV = true := by rw [hL']; simp [List.all_map, flatV, List.all_eq_true]
  have cnt : L.countP (fun z => eqV z (.bl true)) = 1 := by
    rw [hL']
    have : ∀ j < 14, (((List.range 14).map fun i => i == j).map V.bl).countP (fun z => eqV z (.bl true)) = 1 := by decide +kernel
    exact this j hj14
  have lj : L[j]? = some (.bl true) := by
    rw [hL', List.getElem?_map, List.getElem?_map, List.getElem?_range hj14]
    simp
  have lno : ∀ (m : Nat) (z' : V), m < j → L[m]? = some z' → eqV z' (.bl true) = false := by
    intro m z' hm e
    rw [hL', List.getElem?_map, List.getElem?_map, List.getElem?_range (by omega)] at e
    simp only [Option.map_some, Option.some.injEq] at e
    subst e
    have : (m == j) = false := by simp; omega
    rw [this]
    rfl
  refine ⟨_, rfl, .inl ⟨rfl, _, SqL.of e7⟩, p7, L, .bl true, rfl, rfl, SqL.of e7, rfl, flat, ?_⟩
  refine ⟨rfl, false, by rw [cnt]; rfl, ?_⟩
  refine ⟨_, rfl, a, C, .ty "ValueError", _, true, rfl, rfl, h7, Z, hv, true, rfl, ?_⟩
  refine (if_neg (by decide)).mpr ?_
  unfold tNext tSeq tAsg tLst
  dsimp only
  refine tStrs_of words1 ⟨by decide, fun p8 n8 => ?_⟩
  generalize hG8 : upd _ p8 _ = G8
  obtain ⟨s8, e8⟩ : Same G7 G8 ∧ G8 p8 = some (.lst (words1.map V.str)) := by subst hG8; exact ⟨same_new n8 _, upd_same⟩
  clear hG8
  refine ⟨_, rfl, tStrs_of words2 ⟨by decide, fun p9 n9 => ?_⟩⟩
  generalize hG9 : upd _ p9 _ = G9
  obtain ⟨s9, e9⟩ : Same G8 G9 ∧ G9 p9 = some (.lst (words2.map V.str)) := by subst hG9; exact ⟨same_new n9 _, upd_same⟩
  clear hG9
  refine ⟨p8, p9, _, _, rfl, rfl, SqL.of (s9 _ _ e8), SqL.of e9, by decide, fun p10 n10 => ?_⟩
  generalize hG10 : upd _ p10 _ = G10
  obtain ⟨s10, e10⟩ : Same G9 G10 ∧ G10 p10 = some (.lst (words1.map V.str ++ words2.map V.str)) := by subst hG10; exact ⟨same_new n10 _, upd_same⟩
  clear hG10
  have e7' := s10 _ _ (s9 _ _ (s8 _ _ e7))
  refine ⟨_, rfl, _, rfl, .inl ⟨rfl, _, SqL.of e7'⟩, p7, L, .bl true, j, .bl true, rfl, rfl, SqL.of e7', rfl, flat, lj, rfl, lno, ?_⟩
  refine .inl ⟨p10, _, _, .str nm, rfl, rfl, SqL.of e10, ?_, q _ (s1.trans (s2.trans (s3.trans (s4.trans (s5.trans (s6.trans (s7.trans (s8.trans (s9.trans s10)))))))))⟩
  have hw : ∀ m : Nat, m < 14 → atI (words1.map V.str ++ words2.map V.str) (m : Int) = (words[m]?).map V.str := by
    intro m hm
    match m, hm with
    | 0, _ => rfl | 1, _ => rfl | 2, _ => rfl | 3, _ => rfl | 4, _ => rfl | 5, _ => rfl | 6, _ => rfl
    | 7, _ => rfl | 8, _ => rfl | 9, _ => rfl | 10, _ => rfl | 11, _ => rfl | 12, _ => rfl | 13, _ => rfl
  rw [hw j hj14, hj]
  rfl
end
end My
namespace My
open PySem PySem.Spec PySem.W PyProof.Rows L2
section
variable {X : Cx} {pins : List (Addr × Obj)} {σ : L2.St} {H : Hp} {s : Shared}
theorem inv_nopins (I : Inv X pins σ H s) : Inv X [] σ H s := ⟨I.ok, I.os, I.bare, I.base, I.loc, I.cell, I.free, I.freeC, fun p hp => I.pin p (List.mem_append_left _ (by simpa using hp)), I.hok, I.len⟩
theorem unstore_ok {M : Model} {A : Around} {E : Value → Shared → Prop} {i : Nat} {x : Str} {pos : Pos} {Q : Unit → Shared → Prop} (I : Inv X pins σ H s) (hN : X.N.Nodup) (hi : X.N[i]? = some x) (hk : X.env.kindOf x = some .local)
    (h : ∀ s', Inv X pins (σ.set i none) H s' → Q () s') : wpAny M A (do bindName X.env x .none; unbindBehindTheSuite X.env x pos) Q E s := by
  obtain ⟨m, hn, hl⟩ := id I.loc
  have hcls : (X.env.scope.kind == .class || (X.env.scope.kind == .module && X.env.locals != X.env.globals)) = false := by rw [I.ok.kind]; rfl
  have hiσ : i < σ.length := by rw [I.len]; exact (List.getElem?_eq_some_iff.mp hi).1
  have cne := I.cne
  refine wpAny_nameGoes_keeps hk hn hcls fun h' v hn' hs => ?_
  obtain ⟨oL, _, _, hoL, _⟩ := id hn
  have hokk : HOk X.prog X.w H h' := fun b ob e => by
    refine (I.hok b ob e).stay (fun c w' hc q => (hs.2 c ?_).trans q) (fun _ q => q) fun _ _ _ q => q
    rintro rfl
    rcases hc with rfl | hc
    · rw [I.free] at e; cases e
    · rw [I.free] at hc; cases hc
  refine h _ ⟨I.ok, I.os, I.bare, ⟨fun b o e n hb hx => ?_, fun b o e n hb hx => ?_, I.base.free, fun b o e hx => ?_, I.base.tups, I.base.frzs, fun b q e => ⟨(I.base.tbls b q e).1, fun ps z => by
      obtain ⟨m, z1⟩ := (I.base.tbls b q e).2 ps z
      exact ⟨m, (hs.2 b (fun y => by have := (I.base.tbls b q e).1; rw [y, I.free] at this; cases this)).trans z1⟩⟩⟩, ⟨_, hn', fun j y v' e1 e2 e3 => ?_⟩, fun y c e => ?_, I.free, I.freeC, fun p hp => ?_, hokk, by simpa using I.len⟩
  · exact (hs.2 b (fun z => by rw [z, I.ok.above] at e; cases e)).trans (I.base.keep b o e n hb hx)
  · obtain ⟨sl, e1⟩ := I.base.slot b o e n hb hx
    exact ⟨sl, (hs.2 b (fun z => by rw [z, I.ok.above] at e; cases e)).trans e1⟩
  · obtain ⟨o', e1⟩ := I.base.there b o e hx
    exact ⟨o', (hs.2 b (fun z => by rw [z, I.ok.above] at e; cases e)).trans e1⟩
  · by_cases hj : j = i
    · subst hj
      rw [List.getElem?_set_self hiσ] at e2
      cases e2
    · rw [List.getElem?_set_ne (Ne.symm hj)] at e2
      obtain ⟨u', r', q⟩ := hl j y v' e1 e2 e3
      refine ⟨u', r', ?_⟩
      rcases q with ⟨k, e⟩ | ⟨k, c, e, z⟩
      · refine .inl ⟨k, ?_⟩
        have : y ≠ x := fun e => hj (nodup_ix hN e1 (e ▸ hi))
        simp [this, e]
      · exact .inr ⟨k, c, e, z.sameBut hs (cne y c e)⟩
  · obtain ⟨w', z⟩ := I.cell y c e
    exact ⟨w', z.sameBut hs (cne y c e)⟩
  · obtain ⟨e, n, ne, nf, d⟩ := I.pin p hp
    exact ⟨(hs.2 p.1 ne).trans e, n, ne, nf, d⟩
theorem inv_noted {a C : Addr} (I : Inv X [] σ H s) (hpn : X.pn = []) (hH : H a = none) (h0 : X.s_0.heap.get? a = none) (hL : a ≠ X.env.locals) (hc : ∀ x c, X.env.cells.lookup x = some c → c ≠ a) (hx : ∀ b, b ∉ X.ex) (ex : ExAt a C s.heap) :
    Inv X [] σ (upd H a (exO a C)) s := by
  have ne : ∀ b u, H b = some u → b ≠ a := fun b u e z => by rw [z, hH] at e; cases e
  refine ⟨I.ok, I.os, I.bare, ⟨I.base.keep, I.base.slot, fun b o e n hb => ?_, I.base.there, fun b xs e => ?_, fun b o u e => ?_, fun b q e => ?_⟩, I.loc, I.cell, ?_, fun x c e => ?_, fun p hp => ?_, fun b u e => ?_, I.len⟩
  · rw [upd_ne (fun z => by rw [z, h0] at e; cases e)]
    exact I.base.free b o e n hb
  · have := I.base.tups b xs e
    rw [upd_ne (ne _ _ this)]
    exact this
  · have := I.base.frzs b o u e
    rw [upd_ne (ne _ _ this)]
    exact this
  · obtain ⟨e1, e2⟩ := I.base.tbls b q e
    exact ⟨by rw [upd_ne (ne _ _ e1)]; exact e1, e2⟩
  · rw [upd_ne (Ne.symm hL)]
    exact I.free
  · rw [upd_ne (hc x c e)]
    exact I.freeC x c e
  · rw [hpn] at hp
    simp at hp
  · by_cases hb : b = a
    · subst hb
      rw [upd_same] at e
      cases e
      exact ⟨ex, (let ⟨o, e1, _⟩ := ex; ⟨o, e1⟩), fun h1 h2 ⟨o, e1, e2⟩ k => ⟨o, k o e1, e2⟩⟩
    · rw [upd_ne hb] at e
      exact (I.hok b u e).stay (fun _ _ _ q => q) (fun c q => by rw [upd_ne (ne _ _ q)]; exact q) fun c u _ q => by rw [upd_ne (ne _ _ q)]; exact q
def inside (X : Cx) (e : Value) : Cx := { X with A := X.A.mark (some e), calm := false, xe := fun _ _ => False }
theorem inv_inside {e : Value} (I : Inv X pins σ H s) : Inv (inside X e) pins σ H s :=
  ⟨⟨I.ok.mod, I.ok.kind, I.ok.glob, I.ok.blt, I.ok.above, I.ok.inj, I.ok.has, I.ok.cab, (fun z => nomatch z), I.ok.frames, I.ok.stk, I.ok.exf, I.ok.bs, I.ok.bsz, I.ok.noex, I.ok.exfs, I.ok.funs, I.ok.frf, I.ok.tab⟩, I.os, I.bare, I.base, I.loc, I.cell, I.free, I.freeC, I.pin, I.hok, I.len⟩
theorem inv_outside {e : Value} (k : X.Ok) (I : Inv (inside X e) pins σ H s) : Inv X pins σ H s := ⟨k, I.os, I.bare, I.base, I.loc, I.cell, I.free, I.freeC, I.pin, I.hok, I.len⟩
theorem pe_callW {k : Nat} {f : Addr} {fd : FuncData} {ps : List Str} {sp : Sp} {x : Str} {p pos : Pos} {e : Expr} {es : List Expr} {t : TA} (F : FnW X.prog X.w X.K X.mg X.base k f fd ps sp) (hr : RoomW k X.A) (hg : Gl X x) (hm : X.mg x = some (.ref f)) (hk : PySem.W.keepIn X.K (.ref f) = true) (hb : Binds X.K fd ps [])
    (ha : PA X (e :: es) t) (hp : plainE e = true) (hps : es.all plainE = true) (hdb : (x == ("__debug__" : Str)) = false := by decide) : PE X (.Call (.Name x p) (e :: es) [] pos) (tCall sp [] E0 t) := by
  intro pins s σ H Q I h
  refine wpAny_Call_Name_kw (ld_glob I hg hm ?_ hdb)
  refine PySem.W.callWith_K (h₀ := X.base) I.ok.mod.kin hk (thn (ha pos pins s σ H _ I h) fun us s1 ⟨vs, H1, I1, r, q⟩ => ⟨I1.kIn, ?_⟩) (star_plain hp) (star_none hps)
  have hl : (us ++ []).length = ps.length := by rw [List.append_nil, ← r.length, ← List.append_nil vs]; exact F.len _ _ _ _ q
  have hb' := hb s1 us I1.kIn hl
  rw [List.append_nil] at hb'
  have q : sp (vs ++ []) H1 Q E0 := q
  rw [List.append_nil] at q
  refine wpAny_call (codeAny_mono (F.run X.A X.stack s1 H1 ⟨us, []⟩ us vs Q E0 hr I1.env0 hb' r q) fun r s' hq => ?_)
  cases r with
  | error e => exact hq.elim
  | ok fl =>
    cases fl with
    | ret u => exact I1.after hq
    | next => exact False.elim hq
    | brk => exact False.elim hq
    | cont => exact False.elim hq
structure ExBase (K : PySem.W.Frag) (B : Addr) : Prop where
  cls : (clsIn K B).isSome = true
  ty : typeIn K (.ref B) = some (.type "type")
  be : mroIn K B (.type "BaseException") = some true
theorem exc_matches {M : Model} {A : Around} {E : Value → Shared → Prop} {K : PySem.W.Frag} {h : Heap} {g : Array GenState} {d : Drawn} {t : Nat} {os : OsState} {a C B : Addr} {Q : Bool → Shared → Prop} (kin : K.In h) (I : ExAt a C h) (Z : ExBase K B) (hm : mroIn K C (.ref B) = some true)
    (hq : Q true ⟨h, g, d, t, os⟩) : wpAny M A (excMatches (.ref a) (.ref B)) Q E ⟨h, g, d, t, os⟩ := by
  have f := tc_notTuple
  have L0 := I.type (M := M)
  have L1 := looks_typeIn (M := M) kin Z.ty
  have L2 := looks_mroIn (M := M) kin Z.be
  have L3 := looks_mroIn (M := M) kin hm
  have hc := Z.cls
  unfold clsIn at hc
  split at hc
  case h_2 => cases hc
  rename_i c' d' cd' sl' ho
  have hB := kin _ _ ho
  unfold excMatches
  repeat (first | (with_reducible refine wpAny_loadPart_at hB ?_) | with_reducible refine L0.at ?_ | with_reducible refine L1.at ?_ | with_reducible refine L2.at ?_ | with_reducible refine L3.at ?_ | wp_step)
  exact hq
end
end My
namespace My
open PySem PySem.Spec PySem.W PyProof.Rows L2
structure WordCls (K : PySem.W.Frag) (cs : List Addr) (C : Addr) (nm : Str) : Prop where
  cls : ExCls K C
  at_ : ∃ j, words[j]? = some nm ∧ ∀ (i : Nat) (c : Addr), cs[i]? = some c → kitOne K (.ref C) (.ref c) = some (i == j)
  val : kitOne K (.ref C) (.type "ValueError") = some true
def spWord (K : PySem.W.Frag) (cs : List Addr) : Sp := fun vs H Q _ => ∃ a C nm, vs = [.ref a] ∧ H a = some (exO a C) ∧ WordCls K cs C nm ∧ ∀ H', Same H H' → Q (.str nm) H'
structure WordFn (P : Program) (w : World) (K : PySem.W.Frag) (mg : Str → Option Value) (base : Heap) (cs : List Addr) (k : Nat) : Prop where
  ex : ∃ (f : Addr) (fd : FuncData), FnW P w K mg base k f fd ["e"] (spWord K cs) ∧ mg "_law_word" = some (.ref f) ∧ PySem.W.keepIn K (.ref f) = true ∧ Binds K fd ["e"] []
theorem cells_keep {fv : List Str} {cs : List (Str × Addr)} {H H' : Hp} {s s' : Shared} {us : List Value} {fs : List Addr} (u : Un fs [] H H' s.heap s'.heap) (C : Cells fv cs H s us) : Cells fv cs H' s' us := by
  refine ⟨C.len, fun i x v h1 h2 => ?_, C.inj, C.only⟩
  obtain ⟨c, a1, ⟨o, a2, a3⟩, a4⟩ := C.at_ i x v h1 h2
  obtain ⟨sl, e⟩ := u.any a2 a4 (by simp)
  exact ⟨c, a1, ⟨_, e, a3⟩, u.free c o a2 a4 (by simp)⟩
section
variable {X : Cx}
theorem pe_thk {k j i : Nat} {L : Lm} {fv : List Str} {T : TDE} {U : TDX} {cs : List (Str × Addr)} {us : List Value} {vs : List V} {E : XK} {x : Str} {p pos : Pos} (O : ThkOk X.prog X.w X.K X.mg X.base k L fv T U) (hr : Room j X.A) (hj : k ≤ j) (hp : Passes (CX1 X.prog X.w) X E)
    (hN : X.N[i]? = some x) (hv : Vis X.env.scope x) (C : Cells fv cs X.H_0 X.s_0 us) (r : Vals vs us) (hex : X.ex = []) (hd : (x == ("__debug__" : Str)) = false := by decide) (hcd : (x == ("__classdict__" : Str)) = false := by decide) :
    PE X (.Call (.Name x p) [] [] pos) (fun σ H Q => ∃ f, σ[i]? = some (some (.ref f)) ∧ ThkAt H f L cs ∧ spT X.K X.mg T U vs H Q E) := by
  intro pins s σ H Q I h
  obtain ⟨f, hf, hT, hsp⟩ := h
  refine wpAny_Call_Name_kw (thn (pe_var hN hv hd hcd pins s σ H (fun v H' => v = .ref f ∧ H' = H) I ⟨_, hf, rfl, rfl⟩) fun u s0 ⟨v, H0, I0, rv, ev, eH⟩ => ?_)
  subst ev eH
  cases rv
  obtain ⟨pm, c, ctv, hF⟩ := id hT
  obtain ⟨hfo, _⟩ := I0.hok f _ hF
  refine callWith_of (P := fun hh => ∃ oc od fd sl, hh.get? f = some ⟨oc, od, .func fd, sl⟩) rfl (fun hh ⟨oc, od, fd, sl, e1⟩ => ⟨.frame, .inl rfl, (Looks.ld (part := none) e1).andThen .now⟩) (evalArgs_nil3 ⟨⟨_, _, _, _, hfo⟩, ?_⟩)
  have C' : Cells fv cs H0 s0 us := cells_keep (by have := I0.base; rw [hex] at this; exact this) C
  refine wpAny_call (codeAny_mono (O.run X.A X.stack s0 H0 f cs us vs Q E (hr.mono hj) I0.env0 hT C' r hsp) fun r' s' hq => ?_)
  cases r' with
  | error e => exact hp pins σ H0 s0 e s' I0 hq
  | ok fl =>
    cases fl with
    | ret u => exact I0.after hq
    | next => exact False.elim hq
    | brk => exact False.elim hq
    | cont => exact False.elim hq
def eTold (mg : Str → Option Value) (D : Ends) : XK := fun Cv _ H1 => ∃ (C : Addr) (nm : Str), Cv = .ref C ∧ nm ∈ words ∧ mg nm = some (.ref C) ∧ ∀ H2, Same H1 H2 → ∀ σ' : L2.St, σ'[1]? = some (some (.str nm)) → D.nx σ' H2
def tTold (K : PySem.W.Frag) (mg : Str → Option Value) (L : Lm) (cs : List (Str × Addr)) (T : TDE) (U : TDX) (vs : List V) : TS := fun D σ H => ∃ fl, σ[0]? = some (some (.ref fl)) ∧ ThkAt H fl L cs ∧
  spT K mg T U vs H (fun v H1 => ∀ p, H1 p = none → ∀ σ' : L2.St, σ'[1]? = some (some (.ref p)) → D.nx σ' (upd H1 p (.tup [.str "told", v]))) (eTold mg D)
set_option maxHeartbeats 1000000 in
theorem try_told {k j kw : Nat} {L : Lm} {fv : List Str} {T : TDE} {U : TDX} {cs : List (Str × Addr)} {us : List Value} {vs : List V} {B : Addr} {c14 : List Addr} {p1 p2 p3 p4 p5 p6 p7 p8 p9 p10 p11 p12 p13 p14 : Pos} {jc kc : Nat}
    (hpn : X.pn = []) (hex : X.ex = []) (hst : X.stack = X.env :: X.outer) (hfr : X.env.frame = some X.env.locals) (hce : ∀ x, X.env.cells.lookup x = none) (hN : X.N = ([("door" : Str), "found", "e"] : List Str))
    (k0 : X.env.scope.names.lookup ("door" : Str) = some .local) (k1 : X.env.scope.names.lookup ("found" : Str) = some .local) (k2 : X.env.scope.names.lookup ("e" : Str) = some .local) (g1 : Gl X "HeapError") (g2 : Gl X "_law_word")
    (O : ThkOk X.prog X.w X.K X.mg X.base k L fv T U) (hr : Room j X.A) (hj : k ≤ j) (hkw : kw ≤ j) (C : Cells fv cs X.H_0 X.s_0 us) (r : Vals vs us) (mB : X.mg "HeapError" = some (.ref B)) (ZB : ExBase X.K B)
    (W : WordFn X.prog X.w X.K X.mg X.base c14 kw) (hall : ∀ nm C, nm ∈ words → X.mg nm = some (.ref C) → WordCls X.K c14 C nm ∧ mroIn X.K C (.ref B) = some true)
    {s : Shared} {σ : L2.St} {H : Hp} {D : Ends} (I : Inv X [] σ H s) (ht : tTold X.K X.mg L cs T U vs D σ H) :
    wpAny (model X.prog X.w) X.A (exec (.Try [.Assign [.Name "found" p1] (.Tuple [.Constant (.str "told") jc p2, .Call (.Name "door" p3) [] [] p4] kc p5) p6] [.ExceptHandler (some (.Name "HeapError" p7)) (some "e") [.Assign [.Name "found" p8] (.Call (.Name "_law_word" p9) [.Name "e" p10] [] p11) p12] p13] [] [] p14) X.env) (SP X [] D) X.xe s := by
  suffices h : wpAny (model X.prog X.w) X.A (exec (.Try [.Assign [.Name "found" p1] (.Tuple [.Constant (.str "told") jc p2, .Call (.Name "door" p3) [] [] p4] kc p5) p6] [.ExceptHandler (some (.Name "HeapError" p7)) (some "e") [.Assign [.Name "found" p8] (.Call (.Name "_law_word" p9) [.Name "e" p10] [] p11) p12] p13] [] [] p14) X.env) (SP X [] D) (fun _ _ => False) s from wpAny_mono h (fun _ _ z => z) fun _ _ z => z.elim
  obtain ⟨fl, hfl, hT, hsp⟩ := ht
  have nd : X.N.Nodup := by rw [hN]; decide
  have i0 : X.N[0]? = some ("door" : Str) := by rw [hN]; rfl
  have i1 : X.N[1]? = some ("found" : Str) := by rw [hN]; rfl
  have i2 : X.N[2]? = some ("e" : Str) := by rw [hN]; rfl
  refine wpAny_Try_except ?_
  have hb : PSs (X.wish fun e s' => ∃ σ1 H1 s1, Inv X [] σ1 H1 s1 ∧ CX1 X.prog X.w X.stack H1 s1 (eTold X.mg D) e s') [.Assign [.Name "found" p1] (.Tuple [.Constant (.str "told") jc p2, .Call (.Name "door" p3) [] [] p4] kc p5) p6]
      (tAsg (tTup (tCons (tC (.str "told")) (tCons (fun σ H Q => ∃ f, σ[0]? = some (some (.ref f)) ∧ ThkAt H f L cs ∧ spT X.K X.mg T U vs H Q (eTold X.mg D)) tNil))) (gName 1)) :=
    pss_one (ps_set nd i1 (.inl k1) (pe_tup (pa_c pe_str (pa_c (pe_thk (i := 0) O hr hj (fun pins σ1 H1 s1 e s' J z => ⟨σ1, H1, s1, inv_nopins J.unwish, z⟩) i0 (.inl k0) C r hex) pa_nil rfl) rfl)) (by rfl) (.inr k1))
  refine wpAny_mono (hb [] s σ H ⟨D.nx, fun _ _ => False, fun _ _ => False, fun _ _ => False⟩ (I.wish _) ?_) (fun f s1 q => ?_) (fun e s1 q => ?_)
  · refine ⟨fl, hfl, hT, ?_⟩
    obtain ⟨G, ds, sg, dp, h⟩ := hsp
    refine ⟨G, ds, sg, dp, ?_⟩
    rcases h with ⟨d, ρ', e, q⟩ | ⟨nm, e, q⟩
    · refine .inl ⟨d, ρ', e, fun v G' H' g dv => ⟨(by show 2 ≤ sizeLine; decide), fun p n => ?_⟩⟩
      have hl : 1 < σ.length := by rw [I.len, hN]; decide
      exact q v G' H' g dv p n _ (by rw [List.getElem?_set_self hl])
    · exact .inr ⟨nm, e, q⟩
  · cases f with
    | next =>
      obtain ⟨σ', H', J, q⟩ := q
      exact wpAny_execs_nil ⟨σ', H', J.unwish, q⟩
    | ret u => obtain ⟨_, _, _, _, _, z⟩ := q; exact z.elim
    | brk => obtain ⟨_, _, _, z⟩ := q; exact z.elim
    | cont => obtain ⟨_, _, _, z⟩ := q; exact z.elim
  · obtain ⟨σ1, H1, s0, I1, a, C0, t, H', Bh, rfl, F, C', nm, hC, hw, hm, q⟩ := q
    cases hC
    obtain ⟨WC, hmro⟩ := hall nm C0 hw hm
    have hA : X.A.frames = some (X.env :: X.outer) := by rw [← hst]; exact I.ok.frames
    have fl0 : Heap.FlyingW Bh (X.env :: X.outer) a (.ref C0) (.ref t) s1.heap := by rw [← hst]; exact F.fl
    have frm : ∀ b ∈ frs X.stack, ∃ o, s1.heap.get? b = some o ∧ ∀ vs, o.data ≠ .fields vs := fun b hb => ((F.fl.2.2.1).mem hb).2
    have build : ∀ h6, Bh.StaysIn h6 → s1.heap.UpToSlots h6 → Inv X [] σ1 H' { s1 with heap := h6 } := fun h6 k2 k3 =>
      I1.call' (s' := { s1 with heap := h6 }) F.os (fly_un F.un frm F.frf F.cov F.fl.1 k2 k3) (fly_hok F.hok F.frf (fun b hb hc => F.cov b hb (.inl hc)) F.fl.1 k2) F.gens (fun b z => absurd z (by simp))
    have a0 : X.s_0.heap.get? a = none := by
      cases e : X.s_0.heap.get? a with
      | none => rfl
      | some o =>
        obtain ⟨o', q'⟩ := I1.base.there a o e (by rw [hex]; simp)
        rw [F.new] at q'
        cases q'
    have aL : a ≠ X.env.locals := fun z => by
      obtain ⟨m, ⟨o, es, ep, ho, _⟩, _⟩ := I1.loc
      have q' := F.new
      rw [z, ho] at q'
      cases q'
    have aH : H' a = none := by
      by_cases hb : a ∈ frs X.stack
      · exact F.frf a hb
      · cases e : H' a with
        | none => rfl
        | some o =>
          have := F.cov a hb (.inl (by rw [e]; rfl))
          rw [F.fl.2.1] at this
          cases this
    refine wpAny_looks_onW hA hfr fl0 fun h4 held4 sm4 => ?_
    refine wpAny_landsW held4 fun h5 fl5 sm5 => ?_
    have J5 := build h5 fl5.1 (sm4.trans sm5)
    obtain ⟨ob, hob, hobc⟩ := fl5.there
    refine wpAny_handleBy_cons (codeAny_handlers_test (ld_glob (X := inside X (.ref a)) (inv_inside J5) g1 mB ?_)) (by intro q; cases q)
    refine exc_matches J5.kIn ⟨ob, hob, hobc⟩ ZB hmro ?_
    refine codeAny_handlers_suite_as ?_
    refine lands_againW fl5 fun h6 fl6 sm6 => ?_
    have J6 := build h6 fl6.1 ((sm4.trans sm5).trans sm6)
    obtain ⟨ob6, hob6, hobc6⟩ := fl6.there
    refine store_ok2 (v := .ref a) J6 nd i2 (.inl k2) rfl (fun s7 J7 ⟨b7, hs7, hb7⟩ => ?_) (.inr k2)
    have b7L : b7 = X.env.locals := by
      rcases hb7 with z | z
      · exact z
      · rw [hce] at z
        cases z
    have ex7 : ExAt a C0 s7.heap := ⟨ob6, (hs7.2 a (by rw [b7L]; exact aL)).trans hob6, hobc6⟩
    have J8 := inv_noted J7 hpn aH a0 aL (fun x c e => by rw [hce] at e; cases e) (fun b => by rw [hex]; simp) ex7
    obtain ⟨fw, fdw, Fw, mw, kpw, bw⟩ := W.ex
    have rw0 : RoomW kw (inside X (.ref a)).A := ⟨by have := (hr.mono hkw).dp; exact this, by have := (hr.mono hkw).un; exact this⟩
    have ps : PSs (inside X (.ref a)) [.Assign [.Name "found" p8] (.Call (.Name "_law_word" p9) [.Name "e" p10] [] p11) p12] (tAsg (tCall (spWord X.K c14) [] E0 (tCons (tVar 2) tNil)) (gName 1)) :=
      pss_one (ps_set nd i1 (.inl k1) (pe_callW (X := inside X (.ref a)) Fw rw0 g2 mw kpw bw (pa_c (pe_var i2 (.inl k2)) pa_nil rfl) rfl rfl) (by rfl) (.inr k1))
    have hl2 : 2 < σ1.length := by rw [I1.len, hN]; decide
    refine wpAny_mono (ps [] s7 _ _ ⟨fun σ' H9 => ∀ σ'' : L2.St, σ''[1]? = σ'[1]? → D.nx σ'' H9, fun _ _ => False, fun _ _ => False, fun _ _ => False⟩ (inv_inside J8) ?_) (fun f s9 q9 => ?_) (fun _ _ z => z.elim)
    · refine ⟨.ref a, by rw [List.getElem?_set_self hl2], a, C0, nm, rfl, upd_same, WC, fun H9 s9 σ'' e9 => ?_⟩
      refine q H9 ((same_new aH _).trans s9) σ'' ?_
      rw [e9, List.getElem?_set_self (by rw [List.length_set]; omega)]
    · cases f with
      | next =>
        obtain ⟨σ9, H9, J9, q9⟩ := q9
        refine unstore_ok (inv_outside J8.ok J9) nd i2 k2 fun s10 J10 => ⟨_, _, J10, q9 _ ?_⟩
        rw [List.getElem?_set_ne (by decide)]
      | ret u => obtain ⟨_, _, _, _, _, z⟩ := q9; exact z.elim
      | brk => obtain ⟨_, _, _, z⟩ := q9; exact z.elim
      | cont => obtain ⟨_, _, _, z⟩ := q9; exact z.elim
end
end My
namespace My
open PySem PySem.Spec PySem.W PyProof.Rows L2
def spTold (K : PySem.W.Frag) (T : TDE) (U : TDX) (vs : List V) (H : Hp) (Q : VK) : Prop := ∃ (G : Hp) (ds : List D), Same G H ∧ DpAll K G vs ds ∧
  ((∃ d ρ', T ((ds.map Sl.im).map some) = some (d, ρ') ∧ ∀ v G' H', Grow G H G' H' → Dp K G' v (.tuple [.str "told", d]) → Q v H') ∨
   (∃ nm, U ((ds.map Sl.im).map some) = some nm ∧ nm ∈ words ∧ ∀ v G' H', Grow G H G' H' → Dp K G' v (.str nm) → Q v H'))
structure ToldFn (P : Program) (w : World) (K : PySem.W.Frag) (mg : Str → Option Value) (base : Heap) (kw : Nat) : Prop where
  ex : ∃ (f : Addr) (fd : FuncData), mg "_law_told" = some (.ref f) ∧ PySem.W.keepIn K (.ref f) = true ∧ Binds K fd ["door"] [] ∧
    ∀ (k j : Nat) (L : Lm) (fv : List Str) (T : TDE) (U : TDX) (cs : List (Str × Addr)) (us : List Value) (vs : List V) (A : Around) (outer : List Env) (s : Shared) (H : Hp) (args : Args) (g : Addr) (Q : VK), ThkOk P w K mg base j L fv T U → j ≤ k → kw ≤ k →
      Room (k + 1) A → Env0 P w K mg base A outer s H → BindsTo s fd args ((["door"] : List Str).zip [Value.ref g]) → ThkAt H g L cs → Cells fv cs H s us → Vals vs us → spTold K T U vs H Q → codeAny (model P w) A (.call (.ref f) args) (CR CX0 outer P w H s Q E0) s
theorem env_cells {scope : Scope} (h : ∀ y ∈ scope.names, y.2 ≠ .cell) (n : Nat) : ∀ x, (cellsFrom n scope.names []).lookup x = none := by
  have key : ∀ (names : List (Str × NameKind)), (∀ y ∈ names, y.2 ≠ .cell) → ∀ n, cellsFrom n names [] = [] := by
    intro names
    induction names with
    | nil => intro _ n; rfl
    | cons y r ih =>
      intro h n
      obtain ⟨a, b⟩ := y
      unfold cellsFrom
      rw [if_neg (by have := h (a, b) (.head _); simpa using this)]
      exact ih (fun z hz => h z (List.mem_cons_of_mem _ hz)) n
  intro x
  rw [key _ h]
  rfl
section
variable {P : Program} {w : World} {K : PySem.W.Frag} {mg : Str → Option Value} {base : Heap}
set_option maxHeartbeats 1000000 in
theorem told_ok {st : Stmt} {kw : Nat} {B : Addr} {c14 : List Addr} {q1 q2 q3 q4 q5 p1 p2 p3 p4 p5 p6 p7 p8 p9 p10 p11 p12 p13 p14 : Pos} {jn jc kc : Nat} (D0 : Df K mg "_law_told" st ["door"]) (S : FnScope ["door", "found", "e"] ["door"] (defScope st))
    (hb : defBody st = [.Assign [.Name "found" q1] (.Constant .none jn q2) q3, .Try [.Assign [.Name "found" p1] (.Tuple [.Constant (.str "told") jc p2, .Call (.Name "door" p3) [] [] p4] kc p5) p6] [.ExceptHandler (some (.Name "HeapError" p7)) (some "e") [.Assign [.Name "found" p8] (.Call (.Name "_law_word" p9) [.Name "e" p10] [] p11) p12] p13] [] [] p14, .Return (some (.Name "found" q4)) q5])
    (k0 : (defScope st).names.lookup ("door" : Str) = some .local) (k1 : (defScope st).names.lookup ("found" : Str) = some .local) (k2 : (defScope st).names.lookup ("e" : Str) = some .local) (g1 : (defScope st).names.lookup ("HeapError" : Str) = some .globalImplicit) (g2 : (defScope st).names.lookup ("_law_word" : Str) = some .globalImplicit)
    (hnc : ∀ y ∈ (defScope st).names, y.2 ≠ .cell)
    (mB : mg "HeapError" = some (.ref B)) (ZB : ExBase K B) (W : WordFn P w K mg base c14 kw) (hall : ∀ nm C, nm ∈ words → mg nm = some (.ref C) → WordCls K c14 C nm ∧ mroIn K C (.ref B) = some true) : ToldFn P w K mg base kw := by
  obtain ⟨f, fd, F, m, bb⟩ := D0.ex
  have kp := F.kp
  refine ⟨f, fd, m, kp, bb, fun k j L fv T U cs us vs A outer s H args g Q O hj hkw hr e0 hbd hT C r hsp => ?_⟩
  obtain ⟨oc, od, kV, doc, pm, an, cdv, ct, osl, rfl, lk, hcd⟩ := F.ex
  have FN : FnOk P w K mg base CX0 (k + 1) f (PySem.W.fnOf "_law_told" "_law_told" (defArgs st) (defBody st) (defScope st) .none kV doc pm an cdv ct) ["door"] (fun vs' H' Q' E' => False) := fn_of lk hcd S (fun _ _ _ _ h => h.elim) fun _ _ _ _ _ _ _ _ h => h.elim
  have KX : K.In s.heap := e0.mod.kin.keeps fun b o e => (e0.bs b o e).1
  have lim : s.heap.NoLimit := e0.mod.nolimit.keeps fun b o e => (e0.bs b o e).1
  have hkind : ∀ y ∈ (["door"] : List Str).zip [Value.ref g], (defScope st).names.lookup y.1 = some .local ∨ ((defScope st).names.lookup y.1 = some .cell ∧ ((cellsFrom (s.heap.objs.size + 1) (defScope st).names []).lookup y.1).isSome = true) := fun ⟨n, v⟩ hy => by
    rcases S.par n (List.of_mem_zip hy).1 with q | q
    · exact .inl q
    · exact .inr ⟨q, PySem.W.cellsFrom_some _ _ _ (.inl q)⟩
  refine codeAny_call_function hr.depth (KX _ _ lk) rfl S.co S.gen rfl (PySem.W.codeRec_of KX hcd) (hbd _ _ _ _ ?_)
  refine wpAny_newFunctionEnv_cells S.kind hkind fun env he s1 x => ?_
  subst he
  refine ⟨lim.keeps x.toInCall.keep, codeAny_func ?_⟩
  have hr' := hr.deeper (envOfC "_law_told" (defScope st) s.heap.objs.size f cdv)
  have I : Inv (cxOf CX0 P w K mg base ["door", "found", "e"] "_law_told" (defScope st) f cdv A outer s H E0) [] (start ["door", "found", "e"] [V.ref g]) H s1 := inv_start (us := [.ref g]) S hr.hd e0 rfl (.cons rfl .nil) x
  have fin : ∀ {s' : Shared} {σ' : L2.St} {H' : Hp} {v : V} {u : Value}, Inv (cxOf CX0 P w K mg base ["door", "found", "e"] "_law_told" (defScope st) f cdv A outer s H E0) [] σ' H' s' → RelV v u → Q v H' → CE outer P w H s Q u s' :=
    fun {s' σ' H' v u} J rv q => ⟨v, H', J.os, ⟨J.bare.1, fun k st e => J.bare.2.1 k st (show k ∉ ([] : List Nat) by simp) e⟩, J.base, J.hok, rv, q⟩
  generalize hX : cxOf CX0 P w K mg base ["door", "found", "e"] "_law_told" (defScope st) f cdv A outer s H E0 = X at I fin
  have ps1 : PS X (.Assign [.Name "found" q1] (.Constant .none jn q2) q3) (tAsg (tC .non) (gName 1)) := by subst hX; exact ps_set S.nd rfl (.inl k1) pe_non (by rfl) (.inl rfl)
  have ps3 : PSs X [.Return (some (.Name "found" q4)) q5] (tRet (tVar 1)) := by subst hX; exact pss_one (ps_ret (pe_var rfl (.inl k1)))
  have main : wpAny (model X.prog X.w) X.A (execs (defBody st) X.env) (SP X [] { nx := fun _ _ => False, rt := Q }) X.xe s1 := by
    rw [hb]
    refine wpAny_execs_cons (thn (ps1 [] s1 _ H { nx := fun σ' H' => σ' = (start ["door", "found", "e"] [V.ref g]).set 1 (some .non) ∧ H' = H, rt := fun _ _ => False } I ⟨rfl, rfl⟩) fun fl s2 q => ?_)
    cases fl with
    | ret u => obtain ⟨_, _, _, _, _, z⟩ := q; exact z.elim
    | brk => obtain ⟨_, _, _, z⟩ := q; exact z.elim
    | cont => obtain ⟨_, _, _, z⟩ := q; exact z.elim
    | next =>
      obtain ⟨σ2, H2, I2, rfl, rfl⟩ := q
      refine wpAny_execs_cons (thn (try_told (X := X) (D := { nx := fun σ' H' => ∃ v, σ'[1]? = some (some v) ∧ Q v H', rt := fun _ _ => False }) (kw := kw) (k := j) (j := k) (fv := fv) (cs := cs) (us := us) (vs := vs) (L := L) (T := T) (U := U) (B := B) (c14 := c14) ?_ ?_ ?_ ?_ ?_ ?_ ?_ ?_ ?_ ?_ ?_ ?_ ?_ hj hkw ?_ r ?_ ?_ ?_ ?_ I2 ?_) fun fl s3 q => ?_)
      all_goals try (subst hX; first | rfl | exact k0 | exact k1 | exact k2 | exact g1 | exact g2 | exact O | exact hr' | exact C | exact mB | exact ZB | exact W | exact hall | exact env_cells hnc _)
      · subst hX
        obtain ⟨G, ds, sg, dp, h⟩ := hsp
        refine ⟨g, rfl, hT, G, ds, sg, dp, ?_⟩
        rcases h with ⟨d, ρ', e, q⟩ | ⟨nm, e, hw, q⟩
        · refine .inl ⟨d, ρ', e, fun v G' H' gr dv p n σ' e1 => ⟨_, e1, ?_⟩⟩
          have n' : G' p = none := gr.s3.free n
          have ga := Grow.alloc gr.s3 n (.tup [.str "told", v])
          refine q _ (upd G' p (.tup [.str "told", v])) _ ⟨gr.s1.trans ga.s1, gr.s2.trans ga.s2, ga.s3, fun p' e1 e2 => ?_⟩ (.tup (SqT.of upd_same) (.cons (.str _) (.cons (dp_same ga.s2 _ _ dv) .nil)))
          exact ga.nw p' (gr.nw p' e1 e2) (fun z => e2 (gr.s1.free z))
        · refine .inr ⟨nm, e, fun C' G' H' mc gr => ⟨C', nm, rfl, hw, mc, fun H2 s2 σ' e1 => ⟨_, e1, ?_⟩⟩⟩
          exact q _ G' _ ⟨gr.s1.trans s2, gr.s2, gr.s3.trans s2, gr.nw⟩ (.str _)
      · cases fl with
        | ret u => obtain ⟨_, _, _, _, _, z⟩ := q; exact z.elim
        | brk => obtain ⟨_, _, _, z⟩ := q; exact z.elim
        | cont => obtain ⟨_, _, _, z⟩ := q; exact z.elim
        | next =>
          obtain ⟨σ3, H3, I3, v, e3, q⟩ := q
          exact ps3 [] s3 σ3 H3 _ I3 ⟨v, e3, q⟩
  have main' := wpAny_mono main (fun fl s' hs => hs) fun _ _ z => z
  subst hX
  refine wpAny_mono main' (fun fl s' hs => ?_) fun e s' hs => hs
  cases fl with
  | ret u =>
    obtain ⟨v, σ', H', J, rv, q⟩ := hs
    exact fin J rv q
  | next =>
    obtain ⟨σ', H', J, q⟩ := hs
    exact q.elim
  | brk =>
    obtain ⟨_, _, _, q⟩ := hs
    exact False.elim q
  | cont =>
    obtain ⟨_, _, _, q⟩ := hs
    exact False.elim q
end
end My
namespace My
open PySem PySem.Spec PySem.W PyProof.Rows L2
def imAll : List Nat → Ro → Option (List D)
  | [], _ => some []
  | i :: is, ρ => match ρ[i]? with
    | some (some (.im d)) => (match imAll is ρ with
      | some ds => some (d :: ds)
      | none => none)
    | _ => none
theorem imAll_rep {K : PySem.W.Frag} {b : Bs} {G H : Hp} {σ : L2.St} {ρ : Ro} (R : Rep K b G H σ ρ) : ∀ (is : List Nat) (ds : List D), imAll is ρ = some ds → ∃ vs : List V, is.map (fun i => σ[i]?) = vs.map (fun v => some (some v)) ∧ DpAll K G vs ds
  | [], ds, e => by cases e; exact ⟨[], rfl, .nil⟩
  | i :: is, ds, e => by
    unfold imAll at e
    split at e
    · next d e1 =>
      split at e
      · next ds' e2 =>
        cases e
        obtain ⟨v, a1, a2⟩ := R.im i d e1
        obtain ⟨vs, b1, b2⟩ := imAll_rep R is ds' e2
        exact ⟨v :: vs, by rw [List.map_cons, List.map_cons, a1, b1], .cons a2 b2⟩
      · cases e
    · cases e
def dTold (is : List Nat) (T : TDE) (U : TDX) : TDE := fun ρ => match imAll is ρ with
  | some ds => (match T ((ds.map Sl.im).map some) with
    | some (d, _) => some (.tuple [.str "told", d], ρ)
    | none => (match U ((ds.map Sl.im).map some) with
      | some nm => if nm ∈ words then some (.str nm, ρ) else none
      | none => none))
  | none => none
section
variable {X : Cx}
theorem pe_told {fv : List Str} {is : List Nat} {L : Lm} {T : TDE} {U : TDX} {k j kw : Nat} {c Pt : Addr} {nm : Str} {p pos lp : Pos} (TF : ToldFn X.prog X.w X.K X.mg X.base kw) (O : ThkOk X.prog X.w X.K X.mg X.base k L fv T U) (hr : Room j X.A) (hj : k + 1 ≤ j) (hjw : kw + 1 ≤ j) (hg : Gl X "_law_told")
    (hcode : X.env.code = .ref c) (hc : codeHdIn X.K c Pt = true) (hT : (Pt, lamQ nm) ∈ tabT X.K) (hq : X.env.qual ++ "<lambda>" = lamQ nm) (hL : L.q = lamQ nm) (hdef : defaultsOf L.params X.env = ([], []))
    (hi : is.map (fun i => X.N[i]?) = fv.map some) (hcv : ∀ x ∈ fv, X.env.scope.names.lookup x = some .cell) (hfr : ∀ y ∈ L.scope.names, y.2 = .free → y.1 ∈ fv) (hfm : ∀ x ∈ fv, (x, NameKind.free) ∈ L.scope.names) :
    PE X (.Call (.Name "_law_told" p) [.Lambda L.params L.body L.scope lp] [] pos) (fun σ H Q => ∃ vs : List V, is.map (fun i => σ[i]?) = vs.map (fun v => some (some v)) ∧ ∀ H1, Same H H1 → spTold X.K T U vs H1 Q) := by
  intro pins s σ H Q I h
  obtain ⟨vs, hv, hsp⟩ := h
  obtain ⟨f, fd, m, kp, bb, run⟩ := TF.ex
  have has : ∀ x ∈ fv, ∃ c, X.env.cells.lookup x = some c := fun x hx => I.ok.has x (.inl (hcv x hx))
  have hcl : closureFor L.scope X.env = pure (cloFrom X.env.cells L.scope.names []) := closure_ok fun y hy e => has _ (hfr y hy e)
  have memc : ∀ x c, (cloFrom X.env.cells L.scope.names []).lookup x = some c → x ∈ fv ∧ X.env.cells.lookup x = some c := fun x c e => by
    have hm := PySem.mem_of_lookup e
    rcases cloFrom_mem hm with z | ⟨z1, z2⟩
    · cases z
    · have hx := hfr _ z1 rfl
      obtain ⟨c', e'⟩ := has x hx
      refine ⟨hx, ?_⟩
      rw [z2, e']
      rfl
  refine wpAny_Call_Name_kw (ld_glob I hg m ?_)
  have pa : PA X [.Lambda L.params L.body L.scope lp] (tCons (tLamC L (cloFrom X.env.cells L.scope.names [])) tNil) := pa_c (pe_lamC hcode hc hT hq hL hdef hcl) pa_nil rfl
  refine PySem.W.callWith_K (h₀ := X.base) I.ok.mod.kin kp (thn (pa pos pins s σ H (fun vs' H1 => ∃ g, vs' = [V.ref g] ∧ Same H H1 ∧ ThkAt H1 g L (cloFrom X.env.cells L.scope.names [])) I (fun g H1 sm n hT' => ⟨g, rfl, sm, hT'⟩)) fun us s1 ⟨vs', H1, I1, r, g, e, sm, hT'⟩ => ⟨I1.kIn, ?_⟩) (star_plain rfl) (star_none rfl)
  subst e
  cases r with
  | cons r1 r2 =>
    cases r2
    cases r1
    obtain ⟨us', rv, C⟩ := My.Inv.cells (fv := fv) (cs := cloFrom X.env.cells L.scope.names []) (is := is) I1 hi hcv (fun x c e => (memc x c e).2) (fun x c e => (memc x c e).1) (fun x hx => by
      obtain ⟨c', e'⟩ := mem_lookup (cloFrom_has (cells := X.env.cells) (acc := []) (hfm x hx))
      rw [e']
      rfl) hv
    have hj1 : max k kw + 1 ≤ j := by omega
    refine wpAny_call (codeAny_mono (run (max k kw) k L fv T U _ us' vs X.A X.stack s1 H1 ⟨[.ref g], []⟩ g Q O (by omega) (by omega) (hr.mono hj1) I1.env0 (by have := bb s1 [.ref g] I1.kIn rfl; exact this) hT' C rv (hsp H1 sm)) fun r' s' hq => ?_)
    cases r' with
    | error e => exact hq.elim
    | ok fl =>
      cases fl with
      | ret u => exact I1.after hq
      | next => exact False.elim hq
      | brk => exact False.elim hq
      | cont => exact False.elim hq
theorem qe_told {fv : List Str} {is : List Nat} {L : Lm} {T : TDE} {U : TDX} {k j kw : Nat} {c Pt : Addr} {nm : Str} {p pos lp : Pos} (TF : ToldFn X.prog X.w X.K X.mg X.base kw) (O : ThkOk X.prog X.w X.K X.mg X.base k L fv T U) (hr : Room j X.A) (hg : Gl X "_law_told")
    (hcode : X.env.code = .ref c) (hc : codeHdIn X.K c Pt = true) (hT : (Pt, lamQ nm) ∈ tabT X.K) (hq : X.env.qual ++ "<lambda>" = lamQ nm) (hL : L.q = lamQ nm) (hdef : defaultsOf L.params X.env = ([], []))
    (hi : is.map (fun i => X.N[i]?) = fv.map some) (hcv : ∀ x ∈ fv, X.env.scope.names.lookup x = some .cell) (hfr : ∀ y ∈ L.scope.names, y.2 = .free → y.1 ∈ fv) (hfm : ∀ x ∈ fv, (x, NameKind.free) ∈ L.scope.names) (hj : k + 1 ≤ j := by omega) (hjw : kw + 1 ≤ j := by omega) :
    QE X (.Call (.Name "_law_told" p) [.Lambda L.params L.body L.scope lp] [] pos) (dTold is T U) := by
  refine ⟨_, pe_told TF O hr hj hjw hg hcode hc hT hq hL hdef hi hcv hfr hfm, fun b σ G H Q ρ d ρ' R h q => ?_⟩
  unfold dTold at h
  split at h
  · next ds e1 =>
    obtain ⟨vs, a1, a2⟩ := imAll_rep R is ds e1
    refine ⟨vs, a1, fun H1 sm => ?_⟩
    have R1 : Rep X.K b G H1 σ ρ := R.grow sm (Same.refl G) (R.sub.trans sm) fun _ e _ => e
    split at h
    · next d0 ρ0 e2 =>
      cases h
      exact ⟨G, ds, R1.sub, a2, .inl ⟨d0, ρ0, e2, fun v G' H' g dv => q v G' H' (R1.grown g) g.s2 dv⟩⟩
    · split at h
      · next nm' e3 =>
        split at h
        · next hw =>
          cases h
          exact ⟨G, ds, R1.sub, a2, .inr ⟨nm', e3, hw, fun v G' H' g dv => q v G' H' (R1.grown g) g.s2 dv⟩⟩
        · cases h
      · cases h
  · cases h
end
end My
namespace My
open PySem PySem.Spec PySem.W PyProof.Rows L2
theorem boot_isinstance : bootBuiltins "isinstance" = some (.builtin "isinstance") := by decide +kernel
theorem boot_ValueError : bootBuiltins "ValueError" = some (.type "ValueError") := by decide +kernel
set_option maxHeartbeats 4000000 in
theorem word_ps {X : Cx} {p1 p2 p3 p4 p5 p6 p7 p8 p9 p10 p11 p12 p13 p14 p15 p16 p17 p18 p19 p20 p21 p22 p23 p24 p25 p26 p27 p28 p29 p30 p31 p32 p33 p34 p35 p36 p37 p38 p39 p40 p41 p42 p43 p44 p45 p46 p47 p48 p49 p50 p51 p52 p53 p54 p55 p56 p57 p58 p59 p60 p61 p62 p63 p64 p65 p66 p67 p68 p69 p70 p71 p72 p73 p74 p75 p76 p77 p78 p79 p80 p81 p82 p83 p84 p85 p86 p87 p88 p89 p90 p91 p92 p93 p94 p95 p96 p97 p98 p99 p100 p101 p102 p103 p104 p105 p106 p107 p108 p109 p110 p111 p112 p113 p114 p115 p116 p117 p118 : Pos} {j1 j2 j3 j4 j5 j6 j7 j8 j9 j10 j11 j12 j13 j14 j15 j16 j17 j18 : Nat} {c0 c1 c2 c3 c4 c5 c6 c7 c8 c9 c10 c11 c12 c13 : Addr} (nd : X.N.Nodup) (n0 : X.N[0]? = some ("e" : Str)) (n1 : X.N[1]? = some ("kinds" : Str)) (n2 : X.N[2]? = some ("words" : Str)) (v0 : Vis X.env.scope "e")
    (l1 : X.env.scope.names.lookup ("kinds" : Str) = some .local) (l2 : X.env.scope.names.lookup ("words" : Str) = some .local) (gi : Gl X "isinstance") (gv : Gl X "ValueError") (zi : X.mg "isinstance" = none) (zv : X.mg "ValueError" = none)
    (g0 : Gl X "Empty") (g1 : Gl X "Twice") (g2 : Gl X "NoTicket") (g3 : Gl X "Higher") (g4 : Gl X "NoCredit") (g5 : Gl X "NoPlace") (g6 : Gl X "NoKind") (g7 : Gl X "NoName") (g8 : Gl X "Taken") (g9 : Gl X "TooMany") (g10 : Gl X "NoHeap") (g11 : Gl X "NoKey") (g12 : Gl X "Itself") (g13 : Gl X "Unlike")
    (m0 : X.mg "Empty" = some (.ref c0)) (m1 : X.mg "Twice" = some (.ref c1)) (m2 : X.mg "NoTicket" = some (.ref c2)) (m3 : X.mg "Higher" = some (.ref c3)) (m4 : X.mg "NoCredit" = some (.ref c4)) (m5 : X.mg "NoPlace" = some (.ref c5)) (m6 : X.mg "NoKind" = some (.ref c6)) (m7 : X.mg "NoName" = some (.ref c7)) (m8 : X.mg "Taken" = some (.ref c8)) (m9 : X.mg "TooMany" = some (.ref c9)) (m10 : X.mg "NoHeap" = some (.ref c10)) (m11 : X.mg "NoKey" = some (.ref c11)) (m12 : X.mg "Itself" = some (.ref c12)) (m13 : X.mg "Unlike" = some (.ref c13)) (hl1 : (p76.endLine == p78.line) = true) (hl2 : (p114.endLine == p116.line) = true) :
    PSs X [.Assign [(.Name "kinds" p1)] (.List [(.Call (.Name "isinstance" p2) [(.Name "e" p3), (.Name "Empty" p4)] [] p5), (.Call (.Name "isinstance" p6) [(.Name "e" p7), (.Name "Twice" p8)] [] p9), (.Call (.Name "isinstance" p10) [(.Name "e" p11), (.Name "NoTicket" p12)] [] p13), (.Call (.Name "isinstance" p14) [(.Name "e" p15), (.Name "Higher" p16)] [] p17)] p18) p19,
      .Assign [(.Name "kinds" p20)] (.BinOp (.Name "kinds" p21) .Add (.List [(.Call (.Name "isinstance" p22) [(.Name "e" p23), (.Name "NoCredit" p24)] [] p25), (.Call (.Name "isinstance" p26) [(.Name "e" p27), (.Name "NoPlace" p28)] [] p29), (.Call (.Name "isinstance" p30) [(.Name "e" p31), (.Name "NoKind" p32)] [] p33), (.Call (.Name "isinstance" p34) [(.Name "e" p35), (.Name "NoName" p36)] [] p37)] p38) p39) p40,
      .Assign [(.Name "kinds" p41)] (.BinOp (.Name "kinds" p42) .Add (.List [(.Call (.Name "isinstance" p43) [(.Name "e" p44), (.Name "Taken" p45)] [] p46), (.Call (.Name "isinstance" p47) [(.Name "e" p48), (.Name "TooMany" p49)] [] p50), (.Call (.Name "isinstance" p51) [(.Name "e" p52), (.Name "NoHeap" p53)] [] p54), (.Call (.Name "isinstance" p55) [(.Name "e" p56), (.Name "NoKey" p57)] [] p58)] p59) p60) p61,
      .Assign [(.Name "kinds" p62)] (.BinOp (.Name "kinds" p63) .Add (.List [(.Call (.Name "isinstance" p64) [(.Name "e" p65), (.Name "Itself" p66)] [] p67), (.Call (.Name "isinstance" p68) [(.Name "e" p69), (.Name "Unlike" p70)] [] p71)] p72) p73) p74,
      .If (.BoolOp .Or [(.Compare (.Call (.Attribute (.Name "kinds" p75) "count" p76) [(.Constant (.bool true) j1 p77)] [] p78) [.NotEq] [(.Constant (.int 1) j2 p79)] p80), (.UnaryOp .Not (.Call (.Name "isinstance" p81) [(.Name "e" p82), (.Name "ValueError" p83)] [] p84) p85)] p86) [.Return (some (.Constant (.str "other") j3 p87)) p88] [] p89,
      .Assign [(.Name "words" p90)] (.List [(.Constant (.str "Empty") j4 p91), (.Constant (.str "Twice") j5 p92), (.Constant (.str "NoTicket") j6 p93), (.Constant (.str "Higher") j7 p94), (.Constant (.str "NoCredit") j8 p95), (.Constant (.str "NoPlace") j9 p96), (.Constant (.str "NoKind") j10 p97), (.Constant (.str "NoName") j11 p98), (.Constant (.str "Taken") j12 p99), (.Constant (.str "TooMany") j13 p100)] p101) p102,
      .Assign [(.Name "words" p103)] (.BinOp (.Name "words" p104) .Add (.List [(.Constant (.str "NoHeap") j14 p105), (.Constant (.str "NoKey") j15 p106), (.Constant (.str "Itself") j16 p107), (.Constant (.str "Unlike") j17 p108)] p109) p110) p111,
      .Return (some (.Subscript (.Name "words" p112) (.Call (.Attribute (.Name "kinds" p113) "index" p114) [(.Constant (.bool true) j18 p115)] [] p116) p117)) p118]
      (tWord X.K [.ref c0, .ref c1, .ref c2, .ref c3] [.ref c4, .ref c5, .ref c6, .ref c7] [.ref c8, .ref c9, .ref c10, .ref c11] [.ref c12, .ref c13]) :=
  (pss_cons (ps_set nd n1 (.inl l1) (pe_lst (pa_c (pe_callB call_instE gi zi boot_isinstance (pa_c (pe_var n0 v0) (pa_c (pe_glob (v := .ref c0) g0 m0 rfl) pa_nil rfl) rfl) (by decide) (by decide) (star_plain rfl) rfl) (pa_c (pe_callB call_instE gi zi boot_isinstance (pa_c (pe_var n0 v0) (pa_c (pe_glob (v := .ref c1) g1 m1 rfl) pa_nil rfl) rfl) (by decide) (by decide) (star_plain rfl) rfl) (pa_c (pe_callB call_instE gi zi boot_isinstance (pa_c (pe_var n0 v0) (pa_c (pe_glob (v := .ref c2) g2 m2 rfl) pa_nil rfl) rfl) (by decide) (by decide) (star_plain rfl) rfl) (pa_c (pe_callB call_instE gi zi boot_isinstance (pa_c (pe_var n0 v0) (pa_c (pe_glob (v := .ref c3) g3 m3 rfl) pa_nil rfl) rfl) (by decide) (by decide) (star_plain rfl) rfl) pa_nil rfl) rfl) rfl) rfl)) rfl (.inr l1))
    (pss_cons (ps_set nd n1 (.inl l1) (pe_op op_catL (pe_var n1 (.inl l1)) (pe_lst (pa_c (pe_callB call_instE gi zi boot_isinstance (pa_c (pe_var n0 v0) (pa_c (pe_glob (v := .ref c4) g4 m4 rfl) pa_nil rfl) rfl) (by decide) (by decide) (star_plain rfl) rfl) (pa_c (pe_callB call_instE gi zi boot_isinstance (pa_c (pe_var n0 v0) (pa_c (pe_glob (v := .ref c5) g5 m5 rfl) pa_nil rfl) rfl) (by decide) (by decide) (star_plain rfl) rfl) (pa_c (pe_callB call_instE gi zi boot_isinstance (pa_c (pe_var n0 v0) (pa_c (pe_glob (v := .ref c6) g6 m6 rfl) pa_nil rfl) rfl) (by decide) (by decide) (star_plain rfl) rfl) (pa_c (pe_callB call_instE gi zi boot_isinstance (pa_c (pe_var n0 v0) (pa_c (pe_glob (v := .ref c7) g7 m7 rfl) pa_nil rfl) rfl) (by decide) (by decide) (star_plain rfl) rfl) pa_nil rfl) rfl) rfl) rfl))) rfl (.inr l1))
    (pss_cons (ps_set nd n1 (.inl l1) (pe_op op_catL (pe_var n1 (.inl l1)) (pe_lst (pa_c (pe_callB call_instE gi zi boot_isinstance (pa_c (pe_var n0 v0) (pa_c (pe_glob (v := .ref c8) g8 m8 rfl) pa_nil rfl) rfl) (by decide) (by decide) (star_plain rfl) rfl) (pa_c (pe_callB call_instE gi zi boot_isinstance (pa_c (pe_var n0 v0) (pa_c (pe_glob (v := .ref c9) g9 m9 rfl) pa_nil rfl) rfl) (by decide) (by decide) (star_plain rfl) rfl) (pa_c (pe_callB call_instE gi zi boot_isinstance (pa_c (pe_var n0 v0) (pa_c (pe_glob (v := .ref c10) g10 m10 rfl) pa_nil rfl) rfl) (by decide) (by decide) (star_plain rfl) rfl) (pa_c (pe_callB call_instE gi zi boot_isinstance (pa_c (pe_var n0 v0) (pa_c (pe_glob (v := .ref c11) g11 m11 rfl) pa_nil rfl) rfl) (by decide) (by decide) (star_plain rfl) rfl) pa_nil rfl) rfl) rfl) rfl))) rfl (.inr l1))
    (pss_cons (ps_set nd n1 (.inl l1) (pe_op op_catL (pe_var n1 (.inl l1)) (pe_lst (pa_c (pe_callB call_instE gi zi boot_isinstance (pa_c (pe_var n0 v0) (pa_c (pe_glob (v := .ref c12) g12 m12 rfl) pa_nil rfl) rfl) (by decide) (by decide) (star_plain rfl) rfl) (pa_c (pe_callB call_instE gi zi boot_isinstance (pa_c (pe_var n0 v0) (pa_c (pe_glob (v := .ref c13) g13 m13 rfl) pa_nil rfl) rfl) (by decide) (by decide) (star_plain rfl) rfl) pa_nil rfl) rfl))) rfl (.inr l1))
    (pss_cons (ps_if (PW.pt (pw_or (pt_cmpR op_ne (pe_bm PySem.F.plainAttrs_list PySem.F.slot_list_count PySem.F.type_list_count mt_count (pe_var n1 (.inl l1)) (pa_c pe_bl pa_nil rfl) (by rfl) (few1 rfl) hl1 (star_plain rfl) rfl) pe_int rfl) (pw_or1 (pt_not (pt_val (pe_callB call_instE gi zi boot_isinstance (pa_c (pe_var n0 v0) (pa_c (pty "ValueError" gv zv boot_ValueError) pa_nil rfl) rfl) (by decide) (by decide) (star_plain rfl) rfl) fun _ => rfl))))) (pss_one (ps_ret pe_str)) pss_nil)
    (pss_cons (ps_set nd n2 (.inl l2) (pe_lst (pa_c pe_str (pa_c pe_str (pa_c pe_str (pa_c pe_str (pa_c pe_str (pa_c pe_str (pa_c pe_str (pa_c pe_str (pa_c pe_str (pa_c pe_str pa_nil rfl) rfl) rfl) rfl) rfl) rfl) rfl) rfl) rfl) rfl)) rfl (.inr l2))
    (pss_cons (ps_set nd n2 (.inl l2) (pe_op op_catL (pe_var n2 (.inl l2)) (pe_lst (pa_c pe_str (pa_c pe_str (pa_c pe_str (pa_c pe_str pa_nil rfl) rfl) rfl) rfl))) rfl (.inr l2))
    (pss_one (ps_ret (pe_ix ix_seq (pe_var n2 (.inl l2)) (pe_bm PySem.F.plainAttrs_list PySem.F.slot_list_index PySem.F.type_list_index mt_index (pe_var n1 (.inl l1)) (pa_c pe_bl pa_nil rfl) (by rfl) (few1 rfl) hl2 (star_plain rfl) rfl) (fun _ _ => rfl)))))))))))
end My
namespace My
open PySem PySem.Spec PySem.W PyProof.Rows L2
def exClsIn (K : PySem.W.Frag) (C : Addr) : Bool := (clsIn K C).isSome && findIn K (.ref C) "__getattribute__" == some (some (.builtin "BaseException.__getattribute__")) && findIn K (.ref C) "__getattr__" == some none && findIn K (.ref C) "__class__" == some (some (.builtin "object.__class__")) &&
  mroIn K C (.type "object") == some true && mroIn K C (.type "BaseException") == some true
theorem exCls_of {K : PySem.W.Frag} {C : Addr} (h : exClsIn K C = true) : ExCls K C := by
  unfold exClsIn at h
  simp only [Bool.and_eq_true, beq_iff_eq] at h
  exact ⟨h.1.1.1.1.1, h.1.1.1.1.2, h.1.1.1.2, h.1.1.2, h.1.2, h.2⟩
def exBaseIn (K : PySem.W.Frag) (B : Addr) : Bool := (clsIn K B).isSome && typeIn K (.ref B) == some (.type "type") && mroIn K B (.type "BaseException") == some true
theorem exBase_of {K : PySem.W.Frag} {B : Addr} (h : exBaseIn K B = true) : ExBase K B := by
  unfold exBaseIn at h
  simp only [Bool.and_eq_true, beq_iff_eq] at h
  exact ⟨h.1.1, h.1.2, h.2⟩
def nsOkL (K : PySem.W.Frag) (N : Addr) : Bool := match K.lookup N with
  | some ⟨_, _, .dict es _, _⟩ => es.toList.all fun e => match e.key with | .str _ _ => true | _ => false
  | _ => false
theorem nsOkL_of {K : PySem.W.Frag} {N : Addr} (h : nsOkL K N = true) : nsOkIn K N = true := by
  unfold nsOkL at h
  unfold nsOkIn
  split at h
  · rename_i c d es ep sl e
    rw [e]
    show (es.all fun e => match e.key with | .str _ _ => true | _ => false) = true
    rw [← Array.all_toList]
    exact h
  · cases h
def tailL (K : PySem.W.Frag) (bmB : List Value) : List Value → Bool
  | [] => bmB == []
  | v :: r => (v :: r) == bmB || match v with
    | .ref A => (match K.lookup A with
      | some ⟨_, _, .cls cd, _⟩ => nsOkL K cd.ns && nsIn K cd.ns "__init__" == some none && tailL K bmB r
      | _ => false)
    | _ => false
theorem tailL_of {K : PySem.W.Frag} {bmB : List Value} : ∀ {l : List Value}, tailL K bmB l = true → tailIn K bmB l = true
  | [], e => e
  | v :: r, e => by
    unfold tailL at e
    unfold tailIn
    rcases Bool.or_eq_true_iff.mp e with q | q
    · rw [q]; rfl
    · refine Bool.or_eq_true_iff.mpr (.inr ?_)
      split at q
      · split at q
        · rename_i ho
          simp only [Bool.and_eq_true] at q
          simp only [ho, Bool.and_eq_true]
          exact ⟨⟨nsOkL_of q.1.1, q.1.2⟩, tailL_of q.2⟩
        · cases q
      · cases q
def excL (K : PySem.W.Frag) (C : Addr) (bmB : List Value) (newId : String) : Bool := match K.lookup C with
  | some ⟨.type "type", _, .cls cd, sl⟩ => (match cd.mro, sl.toList with
    | .ref C' :: bm, [_, _, _, _, some (.builtin n), _] => C' == C && n == newId && !cd.hasDel && tailL K bmB bm && nsOkL K cd.ns && nsIn K cd.ns "__init__" == some none
    | _, _ => false)
  | _ => false
theorem excL_of {K : PySem.W.Frag} {C : Addr} {bmB : List Value} {newId : String} (h : excL K C bmB newId = true) : excIn K C bmB newId = true := by
  unfold excL at h
  unfold excIn
  split at h
  · rename_i ho
    rw [ho]
    split at h
    · rename_i hm hs
      simp only [Bool.and_eq_true] at h
      obtain ⟨⟨⟨⟨⟨a, b⟩, c⟩, d⟩, e⟩, f⟩ := h
      simp only [hm, hs, Bool.and_eq_true]
      exact ⟨⟨⟨⟨⟨a, b⟩, c⟩, tailL_of d⟩, nsOkL_of e⟩, f⟩
    · cases h
  · cases h
def oneIn (K : PySem.W.Frag) (cs : List Addr) (B : Addr) (j : Nat) (C : Addr) : Bool := exClsIn K C && kitOne K (.ref C) (.type "ValueError") == some true && mroIn K C (.ref B) == some true &&
  excL K C [.type "ValueError", .type "Exception", .type "BaseException", .type "object"] "ValueError.__new__" && cs.zipIdx.all fun q => kitOne K (.ref C) (.ref q.1) == some (q.2 == j)
def wordIn (K : PySem.W.Frag) (cs : List Addr) (B : Addr) : Bool := exBaseIn K B && cs.zipIdx.all fun p => oneIn K cs B p.2 p.1
theorem one_of {K : PySem.W.Frag} {cs : List Addr} {B : Addr} {j : Nat} {C : Addr} {nm : Str} (h : oneIn K cs B j C = true) (hn : words[j]? = some nm) : WordCls K cs C nm ∧ mroIn K C (.ref B) = some true ∧ excIn K C [.type "ValueError", .type "Exception", .type "BaseException", .type "object"] "ValueError.__new__" = true := by
  unfold oneIn at h
  simp only [Bool.and_eq_true, beq_iff_eq] at h
  refine ⟨⟨exCls_of h.1.1.1.1, ⟨j, hn, fun i c e => ?_⟩, h.1.1.1.2⟩, h.1.1.2, excL_of h.1.2⟩
  have := List.all_eq_true.mp h.2 (c, i) (by
    rw [List.mem_zipIdx_iff_getElem?]
    exact e)
  exact beq_iff_eq.mp this
structure Words (K : PySem.W.Frag) (mg : Str → Option Value) (cs : List Addr) (B : Addr) : Prop where
  ok : wordIn K cs B = true
  len : cs.length = 14
  at_ : ∀ (j : Nat) (nm : Str), words[j]? = some nm → ∃ C, cs[j]? = some C ∧ mg nm = some (.ref C)
theorem Words.all {K : PySem.W.Frag} {mg : Str → Option Value} {cs : List Addr} {B : Addr} (W : Words K mg cs B) : ∀ nm C, nm ∈ words → mg nm = some (.ref C) → WordCls K cs C nm ∧ mroIn K C (.ref B) = some true := by
  intro nm C hn hm
  obtain ⟨j, hj⟩ := List.mem_iff_getElem?.mp hn
  obtain ⟨C', e1, e2⟩ := W.at_ j nm hj
  rw [hm] at e2
  cases e2
  have ok := W.ok
  unfold wordIn at ok
  rw [Bool.and_eq_true] at ok
  have := List.all_eq_true.mp ok.2 (C, j) (by rw [List.mem_zipIdx_iff_getElem?]; exact e1)
  obtain ⟨a, b, _⟩ := one_of this hj
  exact ⟨a, b⟩
theorem Words.exc {K : PySem.W.Frag} {mg : Str → Option Value} {cs : List Addr} {B : Addr} (W : Words K mg cs B) (nm : Str) (hn : nm ∈ words) : ∃ C, ExcK K mg nm C := by
  obtain ⟨j, hj⟩ := List.mem_iff_getElem?.mp hn
  obtain ⟨C, e1, e2⟩ := W.at_ j nm hj
  have ok := W.ok
  unfold wordIn at ok
  rw [Bool.and_eq_true] at ok
  have := List.all_eq_true.mp ok.2 (C, j) (by rw [List.mem_zipIdx_iff_getElem?]; exact e1)
  obtain ⟨_, _, c⟩ := one_of this hj
  exact ⟨C, e2, c⟩
theorem Words.base {K : PySem.W.Frag} {mg : Str → Option Value} {cs : List Addr} {B : Addr} (W : Words K mg cs B) : ExBase K B := by
  have ok := W.ok
  unfold wordIn at ok
  rw [Bool.and_eq_true] at ok
  exact exBase_of ok.1
theorem word_ok {P : Program} {w : World} {K : PySem.W.Frag} {mg : Str → Option Value} {base : Heap} {st : Stmt} {c0 c1 c2 c3 c4 c5 c6 c7 c8 c9 c10 c11 c12 c13 : Addr} (D : Df K mg "_law_word" st ["e"]) (S : FnScope ["e", "kinds", "words"] ["e"] (defScope st))
    (hb : ∀ (f : Addr) (cdv : Value) (A : Around) (outer : List Env) (s : Shared) (H : Hp) (E : XK), PSs (cxW P w K mg base ["e", "kinds", "words"] "_law_word" (defScope st) f cdv A outer s H E).nox (defBody st)
      (tWord K [.ref c0, .ref c1, .ref c2, .ref c3] [.ref c4, .ref c5, .ref c6, .ref c7] [.ref c8, .ref c9, .ref c10, .ref c11] [.ref c12, .ref c13])) : WordFn P w K mg base [c0, c1, c2, c3, c4, c5, c6, c7, c8, c9, c10, c11, c12, c13] 1 := by
  obtain ⟨f, fd, F, m, b⟩ := D.ex
  have kp := F.kp
  obtain ⟨oc, od, kV, doc, pm, an, cdv, ct, osl, rfl, lk, hcd⟩ := F.ex
  refine ⟨f, _, fn_ofW (k := 0) lk hcd S (fun vs H Q E h => ?_) (fun A outer s H vs Q E hr h => ?_), m, kp, b⟩
  · obtain ⟨a, C, nm, rfl, _⟩ := h
    rfl
  · obtain ⟨a, C, nm, rfl, hH, WC, q⟩ := h
    refine ⟨_, hb f cdv A outer s H E, ?_⟩
    obtain ⟨j, hj, hk⟩ := WC.at_
    refine tWord_of WC.cls hH rfl rfl rfl rfl (j := j) (nm := nm) (fun i c e => ?_) WC.val hj q
    have hc : ([c0, c1, c2, c3, c4, c5, c6, c7, c8, c9, c10, c11, c12, c13].map V.ref)[i]? = some c := e
    rw [List.getElem?_map] at hc
    obtain ⟨c', e1, e2⟩ := Option.map_eq_some_iff.mp hc
    subst e2
    exact ⟨_, rfl, hk i c' e1⟩
structure OkRK (P : Program) (w : World) (K : PySem.W.Frag) (mg : Str → Option Value) (base : Heap) (k : Nat) (x : Str) (ps : List Str) (kw : Str) (d : V) (u : Value) (F : FR) : Prop where
  rel : RelV d u
  ex : ∃ (f : Addr) (fd : FuncData), FnOk P w K mg base (CX1 P w) k f fd ps (spR K mg F) ∧ mg x = some (.ref f) ∧ keepIn K (.ref f) = true ∧ Binds K fd ps [u] ∧ KBinds K fd ps [kw] (gK (ps.length - 1)) (gK (ps.length - 1))
theorem OkRK.mono {P : Program} {w : World} {K : PySem.W.Frag} {mg : Str → Option Value} {base : Heap} {j k : Nat} {x : Str} {ps : List Str} {kw : Str} {d : V} {u : Value} {F : FR} (o : OkRK P w K mg base j x ps kw d u F) (h : j ≤ k) : OkRK P w K mg base k x ps kw d u F := by
  obtain ⟨f, fd, F, r⟩ := o.ex
  exact ⟨o.rel, f, fd, F.mono h, r⟩
def xCallD (F : FR) (A : TDA) (d0 : D) : TDX := fun ρ => match A ρ with
  | some (ds, _) => F ((ds ++ [d0]).map Sl.im)
  | none => none
def xCallK (n : Nat) (F : FR) (A : TDA) (B : TDE) : TDX := fun ρ => match A ρ with
  | some (ds, ρ1) => if ds.length = n then (match B ρ1 with
    | some (d0, _) => F ((ds ++ [d0]).map Sl.im)
    | none => none) else none
  | none => none
section
variable {X : Cx} {E : XK} {e v : Expr} {es : List Expr} {As : TDA} {B : TDE} {x kw : Str} {p pos : Pos} {k j : Nat} {ps : List Str} {F : FR} {d0 : V} {u0 : Value} {dd : D} {T : TDX}
theorem xe_callD (hp : Passes (CX1 X.prog X.w) X E) (G0 : OkRK X.prog X.w X.K X.mg X.base k x ps kw d0 u0 F) (hdd : ∀ G, Dp X.K G d0 dd) (hr : Room j X.A) (hg : Gl X x) (ha : QA X (e :: es) As) (hpl : plainE e = true) (hps : es.all plainE = true) (hj : k ≤ j := by decide)
    (hdb : (x == ("__debug__" : Str)) = false := by decide) : QXE X E (.Call (.Name x p) (e :: es) [] pos) (xCallD F As dd) := by
  obtain ⟨ta, pa, ga⟩ := ha.ex
  obtain ⟨f, fd, FO, m, kp, bd, _⟩ := G0.ex
  refine ⟨_, pe_call FO (hr.mono hj) hg m kp bd (.cons G0.rel .nil) hp pa hdb (star_plain hpl) (star_none hps), fun b σ G H Q ρ nm R h kx => ?_⟩
  unfold xCallD at h
  split at h
  · next ds ρ1 e1 =>
    refine ga b σ G H _ ρ ds ρ1 R e1 fun vs G1 H1 R1 s1 d1 => ?_
    show spR X.K X.mg F (vs ++ [d0]) H1 Q E
    refine ⟨G1, fun _ => none, _, nm, Rep.args R1.sub (dpAll_app d1 (.cons (hdd G1) .nil)), h, fun C σ' ρ' G' H' mc R' s' => ?_⟩
    have g : Grow G1 H1 G' H' := ⟨fun b o e => R'.fr b o e (fun n => fun z => (nomatch z)), R'.bas, R'.sub, fun p e1 e2 => R'.nw p e2 e1⟩
    exact kx C σ ρ1 G' H' mc (R1.grown g) (s1.trans g.s2)
  · cases h
theorem xe_callKw {kpos : Pos} {n : Nat} (hp : Passes (CX1 X.prog X.w) X E) (G0 : OkRK X.prog X.w X.K X.mg X.base k x ps kw d0 u0 F) (hr : Room j X.A) (hg : Gl X x) (ha : QA X (e :: es) As) (hb : QE X v B) (hpl : plainE e = true) (hj : k ≤ j := by decide)
    (hdb : (x == ("__debug__" : Str)) = false := by decide) (hall : (backToKw pos (keywordEach [⟨some kw, v, kpos⟩] X.env)).all (·.1.isSome) = true := by rfl) (hks : (backToKw pos (keywordEach [⟨some kw, v, kpos⟩] X.env)).filterMap (·.1) = [kw] := by rfl)
    (hpk : ((backTo pos (starEach (e :: es) X.env)).any (·.1) || (backToKw pos (keywordEach [⟨some kw, v, kpos⟩] X.env)).any (·.1.isNone)) = false := by rfl) (hn : ps.length - 1 = n := by rfl) :
    QXE X E (.Call (.Name x p) (e :: es) [⟨some kw, v, kpos⟩] pos) (xCallK n F As B) := by
  subst hn
  obtain ⟨ta, pa, ga⟩ := ha.ex
  obtain ⟨tb, pb, gb⟩ := hb.ex
  obtain ⟨f, fd, FO, m, kp, _, kb⟩ := G0.ex
  refine ⟨_, pe_callK FO (hr.mono hj) hg m kp kb hp pa (pk_cons pb pk_nil) hall hks hdb (star_plain hpl) hpk, fun b σ G H Q ρ nm R h kx => ?_⟩
  unfold xCallK at h
  split at h
  · next ds ρ1 e1 =>
    split at h
    · next hdn =>
     split at h
     · next dk ρ2 e3 =>
        refine ga b σ G H _ ρ ds ρ1 R e1 fun vs G1 H1 R1 s1 d1 => gb b σ G1 H1 _ ρ1 dk ρ2 R1 e3 fun z G2 H2 R2 s2 d2 => ?_
        show spR X.K X.mg F (gK (ps.length - 1) vs [z]) H2 Q E
        have hg0 : gK (ps.length - 1) vs [z] = vs ++ [z] := if_pos ⟨by rw [dpAll_len d1]; exact hdn, rfl⟩
        rw [hg0]
        refine ⟨G2, fun _ => none, _, nm, Rep.args R2.sub (dpAll_app (dpAll_same s2 _ _ d1) (.cons d2 .nil)), h, fun C σ' ρ' G' H' mc R' s' => ?_⟩
        have g : Grow G2 H2 G' H' := ⟨fun b o e => R'.fr b o e (fun n => fun z => (nomatch z)), R'.bas, R'.sub, fun p e1 e2 => R'.nw p e2 e1⟩
        exact kx C σ ρ2 G' H' mc (R2.grown g) (s1.trans (s2.trans g.s2))
     · cases h
    · cases h
  · cases h
end
section
variable {P : Program} {w : World} {K : PySem.W.Frag} {mg : Str → Option Value} {base : Heap}
theorem okR_fnK {x : Str} {st : Stmt} {N ps : List Str} {k : Nat} {T : TDX} {kw : Str} {d0 : V} {u0 : Value} (D : DfK K mg x st ps kw d0 u0) (S : FnScope N ps (defScope st))
    (hb : ∀ (f : Addr) (cdv : Value) (A : Around) (outer : List PySem.Env) (s : Shared) (H : Hp) (E : XK), Room k (A.deeper (PyProof.Rows.envOfC x (defScope st) s.heap.objs.size f cdv)) → QXB (cxOf (CX1 P w) P w K mg base N x (defScope st) f cdv A outer s H E) E (defBody st) T) :
    OkRK P w K mg base (k + 1) x ps kw d0 u0 (fnR ps.length (N.length - ps.length) T) := by
  obtain ⟨f, fd, F, m, b, kb⟩ := D.ex
  have kp := F.kp
  obtain ⟨oc, od, kV, doc, pm, an, cdv, ct, osl, rfl, lk, hcd⟩ := F.ex
  refine ⟨D.rel, f, _, fn_of lk hcd S (fun vs H Q E h => ?_) (fun A outer s H vs Q E hr h => ?_), m, kp, b, kb⟩
  · obtain ⟨G, π, qs, nm, R, e, _⟩ := h
    have l := R.len
    rw [List.length_map, List.length_map] at l
    unfold fnR at e
    split at e
    · next hl => rw [l, hl]
    · cases e
  · obtain ⟨G, π, qs, nm, R, e, q⟩ := h
    obtain ⟨t, pt, gt⟩ := (hb f cdv A outer s H E hr).ex
    have l := R.len
    rw [List.length_map, List.length_map] at l
    refine ⟨t, pt, ?_⟩
    unfold fnR at e
    split at e
    · next hl =>
      have es : L2.start N vs = vs.map some ++ List.replicate (N.length - ps.length) none := by
        unfold L2.start
        rw [l, hl]
      rw [es]
      exact gt _ _ G H _ _ _ (R.pad (N.length - ps.length)) e fun C σ' ρ' G' H' mc R' s' => q C σ' ρ' G' H' mc R' s'
    · cases e
theorem tk_scope {fv : List Str} {sc : Scope} (kind : sc.kind = .function) (co : sc.isCoroutine = false) (gen : sc.isGenerator = false) (nocell : ∀ x ∈ sc.names, x.2 ≠ .cell) (hfr : ∀ y ∈ sc.names, y.2 = .free → y.1 ∈ fv) (free : ∀ x ∈ fv, sc.names.lookup x = some .free) : TkScope fv sc :=
  ⟨kind, co, gen, nocell, fun x e => hfr _ (PySem.mem_of_lookup e) rfl, free⟩
def sBody : Stmt → List Stmt
  | .For _ _ b _ _ => b
  | .While _ b _ _ => b
  | .If _ b _ _ => b
  | _ => []
def eNone : Expr := .Constant .none 0 ⟨0, 0, 0, 0⟩
def sTest : Stmt → Expr
  | .While t _ _ _ => t
  | .If t _ _ _ => t
  | _ => eNone
def sVal : Stmt → Expr
  | .Assign _ e _ => e
  | .Return (some e) _ => e
  | .Expr e _ => e
  | _ => eNone
def eArg (e : Expr) (i : Nat) : Expr := match e with
  | .Call _ es _ _ => es.getD i eNone
  | _ => eNone
def eL : Expr → Expr
  | .Compare a _ _ _ => a
  | .UnaryOp _ a _ => a
  | .BinOp a _ _ _ => a
  | _ => eNone
theorem mt_bits {X : Cx} : MtR X "int.bit_length" (fun x xs H Q => ∃ i : Int, x = .int i ∧ xs = [] ∧ Q (.int ((Builtin.Int.intBits i : Nat) : Int)) H) := by
  intro pins s σ H x xs v us Q I rx rxs h
  obtain ⟨i, rfl, rfl, q⟩ := h
  obtain ⟨t, rfl⟩ := (show ∃ t, v = Value.int i t from rx)
  cases rxs
  exact PyProof.Rows.call_int_bit_length ⟨.int _, H, I.tok _, ⟨_, rfl⟩, q⟩
def bitsD : D → Option D
  | .int i => some (.int ((Builtin.Int.intBits i : Nat) : Int))
  | _ => none
theorem qe_bits {X : Cx} {o : Expr} {A : TDE} {apos pos : Pos} (h : QE X o A) (hbase : attributeBase o "bit_length" X.env (eval o X.env) = eval o X.env := by rfl) (hline : (apos.endLine == pos.line) = true := by rfl) : QE X (.Call (.Attribute o "bit_length" apos) [] [] pos) (dUn bitsD A) := by
  obtain ⟨to, po, go⟩ := h.ex
  refine ⟨_, pe_bm0 PySem.F.plainAttrs_int PySem.F.slot_int_bit_length PySem.F.type_int_bit_length mt_bits po hbase hline, fun b σ G H Q ρ d ρ' R h q => ?_⟩
  unfold dUn at h
  split at h
  · next d0 ρ1 e1 =>
    split at h
    · next d2 e2 =>
      cases h
      refine go b σ G H _ ρ d0 ρ' R e1 fun v G1 H1 R1 s1 dv => ?_
      unfold bitsD at e2
      split at e2
      · cases e2
        cases dv
        exact ⟨rfl, _, rfl, rfl, q _ G1 H1 R1 s1 (.int _)⟩
      · cases e2
    · cases h
  · cases h
end
end My
namespace My
open PySem PySem.Spec PyProof.Rows L2
def top (i : Nat) : Stmt := PySem.Challenge.pw_heapwright_k22_credits_told.main.body.getD i (.Pass ⟨0, 0, 0, 0⟩)
abbrev s__law_word : Stmt := top 31
abbrev s__law_told : Stmt := top 32
abbrev s__law_cell_at : Stmt := top 26
abbrev s__law_stir : Stmt := top 27
abbrev s__law_take : Stmt := top 29
abbrev s__law_one_of : Stmt := top 30
abbrev s__law_log : Stmt := top 35
abbrev s__law_top : Stmt := top 36
abbrev s__law_due : Stmt := top 37
abbrev s__law_sort : Stmt := top 33
abbrev s__law_same : Stmt := top 34
abbrev s_log : Stmt := top 17
abbrev s_left_credit : Stmt := top 19
abbrev s_meeting_credit : Stmt := top 20
abbrev s_skew_credit : Stmt := top 21
abbrev s_count_credit : Stmt := top 22
abbrev s_most_children : Stmt := top 18
abbrev s_cut_credit : Stmt := top 23
abbrev s_credit : Stmt := top 24
abbrev s__law_source : Stmt := top 28
abbrev s_law : Stmt := top 38
abbrev LM_law_t0 : Lm := lmOf "law" (eArg (eL (sTest (stOf (sBody (stOf (defBody s_law) 3)) 2))) 0)
theorem sc_law_t0 : TkScope ["n"] LM_law_t0.scope := tk_scope rfl rfl rfl (by decide +kernel) (by decide +kernel) (by decide +kernel)
abbrev LM_law_t1 : Lm := lmOf "law" (eArg (eL (sVal (stOf (defBody s_law) 4))) 0)
theorem sc_law_t1 : TkScope [] LM_law_t1.scope := tk_scope rfl rfl rfl (by decide +kernel) (by decide +kernel) (by decide +kernel)
theorem sc__law_word : FnScope ["e", "kinds", "words"] ["e"] (defScope s__law_word) := ⟨rfl, rfl, rfl, by decide +kernel, rfl, by decide +kernel, by decide +kernel⟩
theorem sc__law_told : FnScope ["door", "found", "e"] ["door"] (defScope s__law_told) := ⟨rfl, rfl, rfl, by decide +kernel, rfl, by decide +kernel, by decide +kernel⟩
theorem sc__law_cell_at : FnScope ["script", "k"] ["script", "k"] (defScope s__law_cell_at) := ⟨rfl, rfl, rfl, by decide +kernel, rfl, by decide +kernel, by decide +kernel⟩
theorem sc__law_stir : FnScope ["cell", "k", "number"] ["cell", "k"] (defScope s__law_stir) := ⟨rfl, rfl, rfl, by decide +kernel, rfl, by decide +kernel, by decide +kernel⟩
theorem sc__law_take : FnScope ["source", "size", "found"] ["source", "size"] (defScope s__law_take) := ⟨rfl, rfl, rfl, by decide +kernel, rfl, by decide +kernel, by decide +kernel⟩
theorem sc__law_one_of : FnScope ["source", "some"] ["source", "some"] (defScope s__law_one_of) := ⟨rfl, rfl, rfl, by decide +kernel, rfl, by decide +kernel, by decide +kernel⟩
theorem sc__law_log : FnScope ["n", "k", "power"] ["n"] (defScope s__law_log) := ⟨rfl, rfl, rfl, by decide +kernel, rfl, by decide +kernel, by decide +kernel⟩
theorem sc__law_top : FnScope ["n", "some", "one"] ["n"] (defScope s__law_top) := ⟨rfl, rfl, rfl, by decide +kernel, rfl, by decide +kernel, by decide +kernel⟩
theorem sc__law_due : FnScope ["which", "word", "n", "more", "joins", "plain", "other"] ["which", "word", "n", "more"] (defScope s__law_due) := ⟨rfl, rfl, rfl, by decide +kernel, rfl, by decide +kernel, by decide +kernel⟩
theorem sc__law_sort : FnScope ["thing"] ["thing"] (defScope s__law_sort) := ⟨rfl, rfl, rfl, by decide +kernel, rfl, by decide +kernel, by decide +kernel⟩
theorem sc__law_same : FnScope ["told", "due", "k", "part"] ["told", "due"] (defScope s__law_same) := ⟨rfl, rfl, rfl, by decide +kernel, rfl, by decide +kernel, by decide +kernel⟩
theorem sc_log : FnScope ["n"] ["n"] (defScope s_log) := ⟨rfl, rfl, rfl, by decide +kernel, rfl, by decide +kernel, by decide +kernel⟩
theorem sc_left_credit : FnScope ["deed", "n", "m"] ["deed", "n", "m"] (defScope s_left_credit) := ⟨rfl, rfl, rfl, by decide +kernel, rfl, by decide +kernel, by decide +kernel⟩
theorem sc_meeting_credit : FnScope ["n", "m"] ["n", "m"] (defScope s_meeting_credit) := ⟨rfl, rfl, rfl, by decide +kernel, rfl, by decide +kernel, by decide +kernel⟩
theorem sc_skew_credit : FnScope ["deed", "n", "m"] ["deed", "n", "m"] (defScope s_skew_credit) := ⟨rfl, rfl, rfl, by decide +kernel, rfl, by decide +kernel, by decide +kernel⟩
theorem sc_count_credit : FnScope ["deed", "n"] ["deed", "n"] (defScope s_count_credit) := ⟨rfl, rfl, rfl, by decide +kernel, rfl, by decide +kernel, by decide +kernel⟩
theorem sc_most_children : FnScope ["n", "k", "this", "following"] ["n"] (defScope s_most_children) := ⟨rfl, rfl, rfl, by decide +kernel, rfl, by decide +kernel, by decide +kernel⟩
theorem sc_cut_credit : FnScope ["deed", "n"] ["deed", "n"] (defScope s_cut_credit) := ⟨rfl, rfl, rfl, by decide +kernel, rfl, by decide +kernel, by decide +kernel⟩
theorem sc_credit : FnScope ["kind", "deed", "n", "m"] ["kind", "deed", "n", "m"] (defScope s_credit) := ⟨rfl, rfl, rfl, by decide +kernel, rfl, by decide +kernel, by decide +kernel⟩
theorem sc__law_source : FnScope ["cell"] ["cell"] (defScope s__law_source) := ⟨rfl, rfl, rfl, by decide +kernel, rfl, by decide +kernel, by decide +kernel⟩
theorem sc_law : FnScope ["script", "source", "some", "k", "n", "other", "which", "word", "due"] ["script"] (defScope s_law) := ⟨rfl, rfl, rfl, by decide +kernel, rfl, by decide +kernel, by decide +kernel⟩
def T__law_cell_at : TDS := (dSeq (dIf (tB1 (dBin ltD (dVar 1) (dBi lenD (dCons (dVar 0) dNil)))) (dRet (dBin ixD (dVar 0) (dVar 1))) dSkip)
    (dRet (dC (.int 0))))
def D__law_cell_at : FD := fnD 2 0 (T__law_cell_at)
def T__law_stir : TDS := (dSeq (dSet 2 (dBin mulD (dBin addE (dBin addE (dBin modD (dVar 0) (dBin powD (dC (.int 10)) (dC (.int 60)))) (dBin mulD (dC (.int 7919)) (dVar 1))) (dC (.int 1))) (dC (.int 27182818284590452353602874713527))))
    (dSeq (dSet 2 (dBin modD (dVar 2) (dC (.int 170141183460469231731687303715884105727))))
    (dRet (dBin fdivD (dBin modD (dBin powD (dBin addE (dBin powD (dVar 2) (dC (.int 5))) (dBin mulD (dC (.int 48271)) (dVar 1))) (dC (.int 3))) (dC (.int 162259276829213363391578010288127))) (dC (.int 7))))))
def D__law_stir : FD := fnD 2 1 (T__law_stir)
def T__law_take (F__law_stir : FD) : TDS := (dSeq (dStore 0 (dBin addE (dIxW 0 (dC (.int 2))) (dC (.int 1))) (dC (.int 2)))
    (dSeq (dIf (tAnd2 (tB1 (dBin geD (dIxW 0 (dC (.int 0))) (dBin powD (dC (.int 10)) (dC (.int 18))))) (tB1 (dBin gtD (dIxW 0 (dC (.int 1))) (dC (.int 0))))) (dSeq (dSet 2 (dBin modD (dIxW 0 (dC (.int 1))) (dVar 1)))
    (dSeq (dStore 0 (dBin fdivD (dIxW 0 (dC (.int 1))) (dVar 1)) (dC (.int 1)))
    (dRet (dVar 2)))) dSkip)
    (dRet (dBin modD (dCall F__law_stir (dCons (dIxW 0 (dC (.int 0))) (dCons (dIxW 0 (dC (.int 2))) dNil))) (dVar 1)))))
def D__law_take (F__law_stir : FD) : FD := fnD 2 1 (T__law_take F__law_stir)
def T__law_one_of (F__law_take : FD) : TDS := (dRet (dBin ixD (dVar 1) (dCallS F__law_take 0 (dCons (dBi lenD (dCons (dVar 1) dNil)) dNil))))
def D__law_one_of (F__law_take : FD) : FD := fnD 2 0 (T__law_one_of F__law_take)
def T__law_log : TDS := (dSeq (dSet 1 (dC (.int 0)))
    (dSeq (dSet 2 (dC (.int 2)))
    (dSeq (whileD (tB1 (dBin leD (dVar 2) (dVar 0))) (dSeq (dSet 2 (dBin mulD (dC (.int 2)) (dVar 2)))
    (dSet 1 (dBin addE (dVar 1) (dC (.int 1))))) 1000)
    (dRet (dVar 1)))))
def D__law_log : FD := fnD 1 2 (T__law_log)
def T__law_top : TDS := (dSeq (dSetL 1 (dGuard (dCons (dC (.int 1)) (dCons (dC (.int 1)) dNil))))
    (dSeq (whileD (tB1 (dBin leD (dIxW 1 (dUn negD (dC (.int 1)))) (dVar 0))) (dExpr (dApp 1 (dBin addE (dIxW 1 (dUn negD (dC (.int 1)))) (dIxW 1 (dUn negD (dC (.int 2))))))) 1000)
    (dRet (dBin subD (dBi lenD (dCons (dOfL (dCompS 2 (dSlE (dFrzW 1) (oSome (dC (.int 1))) oNone) (tB1 (dBin leD (dVar 2) (dVar 0))) (dVar 2))) dNil)) (dC (.int 1))))))
def D__law_top : FD := fnD 1 2 (T__law_top)
def T__law_due (F__law_log : FD) (F__law_top : FD) : TDS := (dSeq (dIf (tB1 (dBin eqX (dVar 0) (dC (.str "left")))) (dSeq (dSet 4 (dIfE (tB1 (dBin eqX (dBin mulD (dVar 2) (dVar 3)) (dC (.int 0)))) (dC (.int 0)) (dBin subD (dBin addE (dCall F__law_log (dCons (dBin addE (dVar 2) (dC (.int 1))) dNil)) (dCall F__law_log (dCons (dBin addE (dVar 3) (dC (.int 1))) dNil))) (dC (.int 1)))))
    (dSeq (dSet 5 (dCall F__law_log (dCons (dBin addE (dVar 2) (dC (.int 1))) dNil)))
    (dRet (dTab ["put", "join", "take"] (dCons (dVar 5) (dCons (dVar 4) (dCons (dBin mulD (dC (.int 2)) (dCall F__law_log (dCons (dBi maxD (dCons (dVar 2) (dCons (dC (.int 1)) dNil))) dNil))) dNil))) (dVar 1) (dBin mulD (dC (.int 2)) (dVar 5)))))) dSkip)
    (dSeq (dIf (tB1 (dBin eqX (dVar 0) (dC (.str "skew")))) (dSeq (dIf (tB1 (dBin (inD false) (dVar 1) (dTup (dCons (dC (.str "put")) (dCons (dC (.str "join")) dNil))))) (dSeq (dSet 6 (dIfE (tB1 (dBin eqX (dVar 1) (dC (.str "put")))) (dC (.int 1)) (dVar 3)))
    (dRet (dIfE (tB1 (dBin eqX (dBin mulD (dVar 2) (dVar 6)) (dC (.int 0)))) (dC (.int 0)) (dBin addE (dBin addE (dBin mulD (dC (.int 2)) (dCall F__law_log (dCons (dVar 2) dNil))) (dBin mulD (dC (.int 2)) (dCall F__law_log (dCons (dVar 6) dNil)))) (dC (.int 3)))))) dSkip)
    (dRet (dBin addE (dBin mulD (dIfE (tB1 (dBin eqX (dVar 1) (dC (.str "take")))) (dC (.int 4)) (dC (.int 5))) (dCall F__law_log (dCons (dVar 2) dNil))) (dC (.int 3))))) dSkip)
    (dSeq (dIf (tB1 (dBin (inD false) (dVar 1) (dTup (dCons (dC (.str "put")) (dCons (dC (.str "join")) dNil))))) (dRet (dUn intD (dBin eqX (dVar 1) (dC (.str "put"))))) dSkip)
    (dSeq (dIf (tB1 (dBin eqX (dVar 0) (dC (.str "count")))) (dRet (dTab ["take", "lower"] (dCons (dBin subD (dCall F__law_log (dCons (dVar 2) dNil)) (dC (.int 1))) (dCons (dCall F__law_log (dCons (dVar 2) dNil)) dNil)) (dVar 1) (dBin subD (dBin mulD (dC (.int 2)) (dCall F__law_log (dCons (dVar 2) dNil))) (dC (.int 1))))) dSkip)
    (dRet (dTab ["take", "lower"] (dCons (dBin subD (dCall F__law_top (dCons (dVar 2) dNil)) (dC (.int 1))) (dCons (dC (.int 4)) dNil)) (dVar 1) (dBin addE (dCall F__law_top (dCons (dVar 2) dNil)) (dC (.int 3)))))))))
def D__law_due (F__law_log : FD) (F__law_top : FD) : FD := fnD 4 3 (T__law_due F__law_log F__law_top)
def T__law_sort : TDS := (dSeq (dIf (tTru (dUn (fun d => some (.bool (kindD d "bool"))) (dVar 0))) (dRet (dC (.str "truth"))) dSkip)
    (dSeq (dIf (tTru (dUn (fun d => some (.bool (kindD d "int"))) (dVar 0))) (dRet (dC (.str "number"))) dSkip)
    (dSeq (dIf (tTru (dUn (fun d => some (.bool (kindD d "tuple"))) (dVar 0))) (dRet (dC (.str "tuple"))) dSkip)
    (dRet (dIfE (tTru (dUn (fun d => some (.bool (kindD d "list"))) (dVar 0))) (dC (.str "list")) (dC (.str "other")))))))
def D__law_sort : FD := fnD 1 0 (T__law_sort)
def T__law_same (F__law_sort : FD) (F__law_same : FD) : TDS := (dSeq (dIf (tB1 (dBin neX (dCall F__law_sort (dCons (dVar 0) dNil)) (dCall F__law_sort (dCons (dVar 1) dNil)))) (dRet (dC (.bool false))) dSkip)
    (dSeq (dIf (tNot1 (tTru (dUn (fun d => some (.bool (kindD d "tuple" || kindD d "list"))) (dVar 0)))) (dRet (dBin eqX (dVar 0) (dVar 1))) dSkip)
    (dSeq (dIf (tB1 (dBin neX (dBi lenD (dCons (dVar 0) dNil)) (dBi lenD (dCons (dVar 1) dNil)))) (dRet (dC (.bool false))) dSkip)
    (dRet (dBin eqX (dOfL (dComp2 2 3 srcES (dVar 0) (tNot1 (tTru (dCall F__law_same (dCons (dVar 3) (dCons (dBin ixD (dVar 1) (dVar 2)) dNil))))) (dVar 2))) (dLst dNil))))))
def D__law_same (F__law_sort : FD) (F__law_same : FD) : FD := fnD 2 2 (T__law_same F__law_sort F__law_same)
def T_log : TDS := (dRet (dBin subD (dUn bitsD (dVar 0)) (dC (.int 1))))
def D_log : FD := fnD 1 0 (T_log)
def T_left_credit (F_log : FD) : TDS := (dSeq (dIf (tB1 (dBin eqX (dVar 0) (dC (.str "put")))) (dRet (dCall F_log (dCons (dBin addE (dVar 1) (dC (.int 1))) dNil))) dSkip)
    (dSeq (dIf (tB1 (dBin eqX (dVar 0) (dC (.str "join")))) (dRet (dIfE (tOr2 (tB1 (dBin eqX (dVar 1) (dC (.int 0)))) (tB1 (dBin eqX (dVar 2) (dC (.int 0))))) (dC (.int 0)) (dBin subD (dBin addE (dCall F_log (dCons (dBin addE (dVar 1) (dC (.int 1))) dNil)) (dCall F_log (dCons (dBin addE (dVar 2) (dC (.int 1))) dNil))) (dC (.int 1))))) dSkip)
    (dRet (dIfE (tB1 (dBin eqX (dVar 0) (dC (.str "take")))) (dBin mulD (dC (.int 2)) (dCall F_log (dCons (dVar 1) dNil))) (dBin mulD (dC (.int 2)) (dCall F_log (dCons (dBin addE (dVar 1) (dC (.int 1))) dNil)))))))
def D_left_credit (F_log : FD) : FD := fnD 3 0 (T_left_credit F_log)
def T_meeting_credit (F_log : FD) : TDS := (dRet (dIfE (tOr2 (tB1 (dBin eqX (dVar 0) (dC (.int 0)))) (tB1 (dBin eqX (dVar 1) (dC (.int 0))))) (dC (.int 0)) (dBin addE (dBin addE (dBin mulD (dC (.int 2)) (dCall F_log (dCons (dVar 0) dNil))) (dBin mulD (dC (.int 2)) (dCall F_log (dCons (dVar 1) dNil)))) (dC (.int 3)))))
def D_meeting_credit (F_log : FD) : FD := fnD 2 0 (T_meeting_credit F_log)
def T_skew_credit (F_meeting_credit : FD) (F_log : FD) : TDS := (dSeq (dIf (tB1 (dBin eqX (dVar 0) (dC (.str "put")))) (dRet (dCall F_meeting_credit (dCons (dVar 1) (dCons (dC (.int 1)) dNil)))) dSkip)
    (dSeq (dIf (tB1 (dBin eqX (dVar 0) (dC (.str "join")))) (dRet (dCall F_meeting_credit (dCons (dVar 1) (dCons (dVar 2) dNil)))) dSkip)
    (dRet (dIfE (tB1 (dBin eqX (dVar 0) (dC (.str "take")))) (dBin addE (dBin mulD (dC (.int 4)) (dCall F_log (dCons (dVar 1) dNil))) (dC (.int 3))) (dBin addE (dBin mulD (dC (.int 5)) (dCall F_log (dCons (dVar 1) dNil))) (dC (.int 3)))))))
def D_skew_credit (F_meeting_credit : FD) (F_log : FD) : FD := fnD 3 0 (T_skew_credit F_meeting_credit F_log)
def T_count_credit (F_log : FD) : TDS := (dSeq (dIf (tB1 (dBin eqX (dVar 0) (dC (.str "take")))) (dRet (dBin subD (dCall F_log (dCons (dVar 1) dNil)) (dC (.int 1)))) dSkip)
    (dRet (dIfE (tB1 (dBin eqX (dVar 0) (dC (.str "lower")))) (dCall F_log (dCons (dVar 1) dNil)) (dBin subD (dBin mulD (dC (.int 2)) (dCall F_log (dCons (dVar 1) dNil))) (dC (.int 1))))))
def D_count_credit (F_log : FD) : FD := fnD 2 0 (T_count_credit F_log)
def T_most_children : TDS := (dSeq (dSet 1 (dC (.int 0)))
    (dSeq (dAsg (dTup (dCons (dC (.int 1)) (dCons (dC (.int 2)) dNil))) (gTupD 2 (gConsD (gNameD 2) (gConsD (gNameD 3) gNilD))))
    (dSeq (whileD (tB1 (dBin leD (dVar 3) (dVar 0))) (dSeq (dPar 2 3 (dCons (dVar 3) (dCons (dBin addE (dVar 2) (dVar 3)) dNil)))
    (dAug 1 (fun m n => m + n) (dC (.int 1)))) 1000)
    (dRet (dVar 1)))))
def D_most_children : FD := fnD 1 3 (T_most_children)
def T_cut_credit (F_most_children : FD) : TDS := (dSeq (dIf (tB1 (dBin eqX (dVar 0) (dC (.str "take")))) (dRet (dBin subD (dCall F_most_children (dCons (dVar 1) dNil)) (dC (.int 1)))) dSkip)
    (dRet (dIfE (tB1 (dBin eqX (dVar 0) (dC (.str "lower")))) (dC (.int 4)) (dBin addE (dCall F_most_children (dCons (dVar 1) dNil)) (dC (.int 3))))))
def D_cut_credit (F_most_children : FD) : FD := fnD 2 0 (T_cut_credit F_most_children)
def T_credit (F_left_credit : FD) (F_skew_credit : FD) (F_count_credit : FD) (F_cut_credit : FD) : TDS := (dSeq (dIf (tB1 (dBin eqX (dVar 0) (dC (.str "pair")))) dNever dSkip)
    (dSeq (dIf (tB1 (dBin eqX (dVar 0) (dC (.str "left")))) (dRet (dCall F_left_credit (dCons (dVar 1) (dCons (dVar 2) (dCons (dVar 3) dNil))))) dSkip)
    (dSeq (dIf (tB1 (dBin eqX (dVar 0) (dC (.str "skew")))) (dRet (dCall F_skew_credit (dCons (dVar 1) (dCons (dVar 2) (dCons (dVar 3) dNil))))) dSkip)
    (dSeq (dIf (tB1 (dBin eqX (dVar 1) (dC (.str "put")))) (dRet (dC (.int 1))) dSkip)
    (dSeq (dIf (tB1 (dBin eqX (dVar 1) (dC (.str "join")))) (dRet (dC (.int 0))) dSkip)
    (dRet (dIfE (tB1 (dBin eqX (dVar 0) (dC (.str "count")))) (dCall F_count_credit (dCons (dVar 1) (dCons (dVar 2) dNil))) (dCall F_cut_credit (dCons (dVar 1) (dCons (dVar 2) dNil))))))))))
def D_credit (F_left_credit : FD) (F_skew_credit : FD) (F_count_credit : FD) (F_cut_credit : FD) : FD := fnD 4 0 (T_credit F_left_credit F_skew_credit F_count_credit F_cut_credit)
def T__law_source : TDS := (dRetL (dGuard (dCons (dVar 0) (dCons (dVar 0) (dCons (dC (.int 0)) (dCons (dC (.int 0)) dNil))))))
def D__law_source : FD := fnD 1 0 (T__law_source)
def E__law_source : FL := fnL 1 0 (T__law_source)
def T_law_t0 (F_credit : FD) : TDE := (dCallD F_credit (dCons (dC (.str "pair")) (dCons (dC (.str "take")) (dCons (dBi maxD (dCons (dVar 0) (dCons (dC (.int 1)) dNil))) dNil))) (.int 0))
def U_law_t0 (R_credit : FR) : TDX := (xCallD R_credit (dCons (dC (.str "pair")) (dCons (dC (.str "take")) (dCons (dBi maxD (dCons (dVar 0) (dCons (dC (.int 1)) dNil))) dNil))) (.int 0))
def T_law_t1 (F_credit : FD) : TDE := (dCallK 3 F_credit (dCons (dC (.str "pair")) (dCons (dC (.str "join")) (dCons (dC (.int 3)) dNil))) (dC (.int 4)))
def U_law_t1 (R_credit : FR) : TDX := (xCallK 3 R_credit (dCons (dC (.str "pair")) (dCons (dC (.str "join")) (dCons (dC (.int 3)) dNil))) (dC (.int 4)))
def T_law (TH_law_t0 : TDE) (UH_law_t0 : TDX) (TH_law_t1 : TDE) (UH_law_t1 : TDX) (F__law_cell_at : FD) (F__law_take : FD) (F__law_one_of : FD) (F__law_due : FD) (F__law_same : FD) (F_credit : FD) (L__law_source : FL) : TDS := (dSeq (dSetL 1 (dCallL L__law_source (dCons (dCall F__law_cell_at (dCons (dVar 0) (dCons (dC (.int 0)) dNil))) dNil)))
    (dSeq (dSet 2 (dBin addE (dOfL (dListG (dCons (dC (.int 60)) dNil))) (dLst (dCons (dC (.int 63)) (dCons (dC (.int 64)) (dCons (dC (.int 65)) (dCons (dC (.int 127)) (dCons (dC (.int 128)) (dCons (dC (.int 255)) (dCons (dC (.int 256)) (dCons (dC (.int 88)) (dCons (dC (.int 89)) (dCons (dC (.int 90)) (dCons (dC (.int 143)) (dCons (dC (.int 144)) (dCons (dC (.int 232)) (dCons (dC (.int 233)) (dCons (dC (.int 299)) (dCons (dC (.int 300)) dNil)))))))))))))))))))
    (dSeq (dSet 2 (dBin addE (dVar 2) (dOfL (dCompG 3 (rg1 (dCons (dC (.int 9)) dNil)) tTrue (dCallS F__law_take 1 (dCons (dC (.int 300)) dNil))))))
    (dSeq (dForS (dVar 2) (gNameD 4)
      (dSeq (dSet 5 (dCallS F__law_one_of 1 (dCons (dVar 2) dNil)))
    (dSeq (dForS (dTup (dCons (dC (.str "left")) (dCons (dC (.str "skew")) (dCons (dC (.str "count")) (dCons (dC (.str "cut")) dNil))))) (gNameD 6)
      (dSeq (dForS (dTup (dCons (dC (.str "put")) (dCons (dC (.str "join")) (dCons (dC (.str "take")) (dCons (dC (.str "lower")) (dCons (dC (.str "drop")) dNil)))))) (gNameD 7)
      (dIf (tOr2 (tB1 (dBin gtD (dVar 4) (dC (.int 0)))) (tB1 (dBin (inD false) (dVar 7) (dTup (dCons (dC (.str "put")) (dCons (dC (.str "join")) dNil)))))) (dSeq (dSet 8 (dCall F__law_due (dCons (dVar 6) (dCons (dVar 7) (dCons (dVar 4) (dCons (dVar 5) dNil))))))
    (dSeq (dIf (tNot1 (tTru (dCall F__law_same (dCons (dCallK 3 F_credit (dCons (dVar 6) (dCons (dVar 7) (dCons (dVar 4) dNil))) (dVar 5)) (dCons (dVar 8) dNil))))) (dRet (dC (.bool false))) dSkip)
    (dIf (tAnd2 (tB1 (dBin neX (dVar 7) (dC (.str "join")))) (tNot1 (tTru (dCall F__law_same (dCons (dCallD F_credit (dCons (dVar 6) (dCons (dVar 7) (dCons (dVar 4) dNil))) (.int 0)) (dCons (dVar 8) dNil)))))) (dRet (dC (.bool false))) dSkip))) dSkip))
    (dIf (tB1 (dBin neX (dCallD F_credit (dCons (dVar 6) (dCons (dC (.str "join")) (dCons (dVar 4) dNil))) (.int 0)) (dCall F__law_due (dCons (dVar 6) (dCons (dC (.str "join")) (dCons (dVar 4) (dCons (dC (.int 0)) dNil))))))) (dRet (dC (.bool false))) dSkip)))
    (dIf (tB1 (dBin neX (dTold [4] TH_law_t0 UH_law_t0) (dC (.str "NoCredit")))) (dRet (dC (.bool false))) dSkip))))
    (dRet (dBin eqX (dTold [] TH_law_t1 UH_law_t1) (dC (.str "NoCredit"))))))))
def D_law (TH_law_t0 : TDE) (UH_law_t0 : TDX) (TH_law_t1 : TDE) (UH_law_t1 : TDX) (F__law_cell_at : FD) (F__law_take : FD) (F__law_one_of : FD) (F__law_due : FD) (F__law_same : FD) (F_credit : FD) (L__law_source : FL) : FD := fnD 1 8 (T_law TH_law_t0 UH_law_t0 TH_law_t1 UH_law_t1 F__law_cell_at F__law_take F__law_one_of F__law_due F__law_same F_credit L__law_source)
def UD_credit : TDX := (xIf (tB1 (dBin eqX (dVar 0) (dC (.str "pair")))) (fun _ => some "NoCredit") xNo)
def RD_credit : FR := fnR 4 0 (UD_credit)
section
variable {P : Program} {w : World} {K : PySem.W.Frag} {mg : Str → Option Value} {base : Heap}
theorem ok__law_cell_at (D : Df K mg "_law_cell_at" s__law_cell_at ["script", "k"]) (z_len : mg "len" = none) : Ok P w K mg base (0 + 1) "_law_cell_at" ["script", "k"] (spD K (D__law_cell_at)) :=
  ok_fn D sc__law_cell_at fun f cdv A outer s H E hr =>
    (qb_cons (qs_if (qt_cmp (od_lt hr.units0) (qe_var 1) (qe_bi bi_len rfl z_len PySem.boot_len (qa_c (qe_var 0) qa_nil rfl) rfl rfl) (nomark _)) (qb_one (qs_ret (qe_ix (qe_var 0) (qe_var 1) (fun _ _ => rfl)))) qb_nil)
    (qb_one (qs_ret qe_int)))
theorem ok__law_stir (D : Df K mg "_law_stir" s__law_stir ["cell", "k"]) : Ok P w K mg base (0 + 1) "_law_stir" ["cell", "k"] (spD K (D__law_stir)) :=
  ok_fn D sc__law_stir fun f cdv A outer s H E hr =>
    (qb_cons (qs_set (i := 2) sc__law_stir.nd rfl (by first | exact Or.inl rfl | exact Or.inr rfl) (qe_op od_mul (qe_op od_addE (qe_op od_addE (qe_op od_mod (qe_var 0) (qe_op od_pow qe_int qe_int)) (qe_op od_mul qe_int (qe_var 1))) qe_int) qe_int))
    (qb_cons (qs_set (i := 2) sc__law_stir.nd rfl (by first | exact Or.inl rfl | exact Or.inr rfl) (qe_op od_mod (qe_var 2) qe_int))
    (qb_one (qs_ret (qe_op od_fdiv (qe_op od_mod (qe_op od_pow (qe_op od_addE (qe_op od_pow (qe_var 2) qe_int) (qe_op od_mul qe_int (qe_var 1))) qe_int) qe_int) qe_int)))))
theorem ok__law_take (D : Df K mg "_law_take" s__law_take ["source", "size"]) {F__law_stir : FD} (g__law_stir : Ok P w K mg base 1 "_law_stir" ["cell", "k"] (spD K F__law_stir)) : Ok P w K mg base (1 + 1) "_law_take" ["source", "size"] (spD K (D__law_take F__law_stir)) :=
  ok_fn D sc__law_take fun f cdv A outer s H E hr =>
    (qb_cons (qs_store (i := 0) ⟨rfl, (by first | exact Or.inl rfl | exact Or.inr (Or.inl rfl) | exact Or.inr (Or.inr rfl)), by decide, by decide⟩ (qe_op od_addE (qe_ixW (i := 0) ⟨rfl, (by first | exact Or.inl rfl | exact Or.inr (Or.inl rfl) | exact Or.inr (Or.inr rfl)), by decide, by decide⟩ qe_int (fun _ _ => rfl)) qe_int) qe_int)
    (qb_cons (qs_if (qt_w (qw_and (qt_cmp od_ge (qe_ixW (i := 0) ⟨rfl, (by first | exact Or.inl rfl | exact Or.inr (Or.inl rfl) | exact Or.inr (Or.inr rfl)), by decide, by decide⟩ qe_int (fun _ _ => rfl)) (qe_op od_pow qe_int qe_int) (nomark _)) (qw_and1 (qt_cmp od_gt (qe_ixW (i := 0) ⟨rfl, (by first | exact Or.inl rfl | exact Or.inr (Or.inl rfl) | exact Or.inr (Or.inr rfl)), by decide, by decide⟩ qe_int (fun _ _ => rfl)) qe_int (nomark _))))) (qb_cons (qs_set (i := 2) sc__law_take.nd rfl (by first | exact Or.inl rfl | exact Or.inr rfl) (qe_op od_mod (qe_ixW (i := 0) ⟨rfl, (by first | exact Or.inl rfl | exact Or.inr (Or.inl rfl) | exact Or.inr (Or.inr rfl)), by decide, by decide⟩ qe_int (fun _ _ => rfl)) (qe_var 1)))
    (qb_cons (qs_store (i := 0) ⟨rfl, (by first | exact Or.inl rfl | exact Or.inr (Or.inl rfl) | exact Or.inr (Or.inr rfl)), by decide, by decide⟩ (qe_op od_fdiv (qe_ixW (i := 0) ⟨rfl, (by first | exact Or.inl rfl | exact Or.inr (Or.inl rfl) | exact Or.inr (Or.inr rfl)), by decide, by decide⟩ qe_int (fun _ _ => rfl)) (qe_var 1)) qe_int)
    (qb_one (qs_ret (qe_var 2))))) qb_nil)
    (qb_one (qs_ret (qe_op od_mod (qe_call g__law_stir hr rfl (qa_c (qe_ixW (i := 0) ⟨rfl, (by first | exact Or.inl rfl | exact Or.inr (Or.inl rfl) | exact Or.inr (Or.inr rfl)), by decide, by decide⟩ qe_int (fun _ _ => rfl)) (qa_c (qe_ixW (i := 0) ⟨rfl, (by first | exact Or.inl rfl | exact Or.inr (Or.inl rfl) | exact Or.inr (Or.inr rfl)), by decide, by decide⟩ qe_int (fun _ _ => rfl)) qa_nil rfl) rfl) rfl rfl (by omega)) (qe_var 1))))))
theorem ok__law_one_of (D : Df K mg "_law_one_of" s__law_one_of ["source", "some"]) {F__law_take : FD} (g__law_take : Ok P w K mg base 2 "_law_take" ["source", "size"] (spD K F__law_take)) (z_len : mg "len" = none) : Ok P w K mg base (2 + 1) "_law_one_of" ["source", "some"] (spD K (D__law_one_of F__law_take)) :=
  ok_fn D sc__law_one_of fun f cdv A outer s H E hr =>
    (qb_one (qs_ret (qe_ix (qe_var 1) (qe_callS 0 g__law_take hr rfl (qa_c (qe_bi bi_len rfl z_len PySem.boot_len (qa_c (qe_var 1) qa_nil rfl) rfl rfl) qa_nil rfl) rfl (by omega)) (fun _ _ => rfl))))
theorem ok__law_log (D : Df K mg "_law_log" s__law_log ["n"]) : Ok P w K mg base (0 + 1) "_law_log" ["n"] (spD K (D__law_log)) :=
  ok_fn D sc__law_log fun f cdv A outer s H E hr =>
    (qb_cons (qs_set (i := 1) sc__law_log.nd rfl (by first | exact Or.inl rfl | exact Or.inr rfl) qe_int)
    (qb_cons (qs_set (i := 2) sc__law_log.nd rfl (by first | exact Or.inl rfl | exact Or.inr rfl) qe_int)
    (qb_cons (qs_while 1000 (qt_cmp od_le (qe_var 2) (qe_var 0) (nomark _)) (qb_cons (qs_set (i := 2) sc__law_log.nd rfl (by first | exact Or.inl rfl | exact Or.inr rfl) (qe_op od_mul qe_int (qe_var 2)))
    (qb_one (qs_set (i := 1) sc__law_log.nd rfl (by first | exact Or.inl rfl | exact Or.inr rfl) (qe_op od_addE (qe_var 1) qe_int)))) PassesOwn.never)
    (qb_one (qs_ret (qe_var 1))))))
theorem ok__law_top (D : Df K mg "_law_top" s__law_top ["n"]) (z_len : mg "len" = none) : Ok P w K mg base (0 + 1) "_law_top" ["n"] (spD K (D__law_top)) :=
  ok_fn D sc__law_top fun f cdv A outer s H E hr =>
    (qb_cons (qs_setL (i := 1) sc__law_top.nd rfl (by first | exact Or.inl rfl | exact Or.inr rfl) (ql_lst (qa_c qe_int (qa_c qe_int qa_nil rfl) rfl)))
    (qb_cons (qs_while 1000 (qt_cmp od_le (qe_ixW (i := 1) ⟨rfl, (by first | exact Or.inl rfl | exact Or.inr (Or.inl rfl) | exact Or.inr (Or.inr rfl)), by decide, by decide⟩ (qe_neg qe_int) (fun _ _ => rfl)) (qe_var 0) (nomark _)) (qb_one (qs_expr (qe_append (i := 1) ⟨rfl, (by first | exact Or.inl rfl | exact Or.inr (Or.inl rfl) | exact Or.inr (Or.inr rfl)), by decide, by decide⟩ (qe_op od_addE (qe_ixW (i := 1) ⟨rfl, (by first | exact Or.inl rfl | exact Or.inr (Or.inl rfl) | exact Or.inr (Or.inr rfl)), by decide, by decide⟩ (qe_neg qe_int) (fun _ _ => rfl)) (qe_ixW (i := 1) ⟨rfl, (by first | exact Or.inl rfl | exact Or.inr (Or.inl rfl) | exact Or.inr (Or.inr rfl)), by decide, by decide⟩ (qe_neg qe_int) (fun _ _ => rfl))) rfl rfl))) PassesOwn.never)
    (qb_one (qs_ret (qe_op od_sub (qe_bi bi_len rfl z_len PySem.boot_len (qa_c (qe_ofL (QC.l (qc_compS (i := 2) rfl sc__law_top.nd (blkOk_by (own := [("one", 2)]) (N := ["n", "some", "one"]) (sc := defScope s__law_top) (by decide +kernel)) (fun _ _ _ _ _ => pg_name (i := 2) sc__law_top.nd rfl (Or.inl rfl)) (fun _ _ _ _ _ => (qts_one (qt_cmp od_le (qe_var 2) (qe_var 0) (nomark _)))) (fun _ _ _ _ _ => (qe_var 2)) (qe_sliceE (qe_frzW (i := 1) ⟨rfl, (by first | exact Or.inl rfl | exact Or.inr (Or.inl rfl) | exact Or.inr (Or.inr rfl)), by decide, by decide⟩) (qo_some qe_int) qo_none)))) qa_nil rfl) rfl rfl) qe_int)))))
theorem ok__law_due (D : Df K mg "_law_due" s__law_due ["which", "word", "n", "more"]) {F__law_log : FD} (g__law_log : Ok P w K mg base 1 "_law_log" ["n"] (spD K F__law_log)) {F__law_top : FD} (g__law_top : Ok P w K mg base 1 "_law_top" ["n"] (spD K F__law_top)) (z_max : mg "max" = none) (z_int : mg "int" = none) : Ok P w K mg base (1 + 1) "_law_due" ["which", "word", "n", "more"] (spD K (D__law_due F__law_log F__law_top)) :=
  ok_fn D sc__law_due fun f cdv A outer s H E hr =>
    (qb_cons (qs_if (qt_cmp (od_eqX hr.units) (qe_var 0) qe_str (nomark _)) (qb_cons (qs_set (i := 4) sc__law_due.nd rfl (by first | exact Or.inl rfl | exact Or.inr rfl) (qe_ifExp (qt_cmp (od_eqX hr.units) (qe_op od_mul (qe_var 2) (qe_var 3)) qe_int (nomark _)) qe_int (qe_op od_sub (qe_op od_addE (qe_call g__law_log hr rfl (qa_c (qe_op od_addE (qe_var 2) qe_int) qa_nil rfl) rfl rfl (by omega)) (qe_call g__law_log hr rfl (qa_c (qe_op od_addE (qe_var 3) qe_int) qa_nil rfl) rfl rfl (by omega))) qe_int)))
    (qb_cons (qs_set (i := 5) sc__law_due.nd rfl (by first | exact Or.inl rfl | exact Or.inr rfl) (qe_call g__law_log hr rfl (qa_c (qe_op od_addE (qe_var 2) qe_int) qa_nil rfl) rfl rfl (by omega)))
    (qb_one (qs_ret (qe_tab (ks := ["put", "join", "take"]) hr.units (by decide) (by decide) (by simp) rfl rfl (by decide) (qps_cons (qe_var 5) (qps_cons (qe_var 4) (qps_cons (qe_op od_mul qe_int (qe_call g__law_log hr rfl (qa_c (qe_bi (bi_max rfl) rfl z_max (by decide +kernel) (qa_c (qe_var 2) (qa_c qe_int qa_nil rfl) rfl) rfl rfl) qa_nil rfl) rfl rfl (by omega))) qps_nil))) (qe_var 1) (qe_op od_mul qe_int (qe_var 5)) ⟨rfl, rfl, rfl, rfl⟩))))) qb_nil)
    (qb_cons (qs_if (qt_cmp (od_eqX hr.units) (qe_var 0) qe_str (nomark _)) (qb_cons (qs_if (qt_cmp od_in (qe_var 1) (qe_tup (qa_c qe_str (qa_c qe_str qa_nil rfl) rfl)) rfl) (qb_cons (qs_set (i := 6) sc__law_due.nd rfl (by first | exact Or.inl rfl | exact Or.inr rfl) (qe_ifExp (qt_cmp (od_eqX hr.units) (qe_var 1) qe_str (nomark _)) qe_int (qe_var 3)))
    (qb_one (qs_ret (qe_ifExp (qt_cmp (od_eqX hr.units) (qe_op od_mul (qe_var 2) (qe_var 6)) qe_int (nomark _)) qe_int (qe_op od_addE (qe_op od_addE (qe_op od_mul qe_int (qe_call g__law_log hr rfl (qa_c (qe_var 2) qa_nil rfl) rfl rfl (by omega))) (qe_op od_mul qe_int (qe_call g__law_log hr rfl (qa_c (qe_var 6) qa_nil rfl) rfl rfl (by omega)))) qe_int))))) qb_nil)
    (qb_one (qs_ret (qe_op od_addE (qe_op od_mul (qe_ifExp (qt_cmp (od_eqX hr.units) (qe_var 1) qe_str (nomark _)) qe_int qe_int) (qe_call g__law_log hr rfl (qa_c (qe_var 2) qa_nil rfl) rfl rfl (by omega))) qe_int)))) qb_nil)
    (qb_cons (qs_if (qt_cmp od_in (qe_var 1) (qe_tup (qa_c qe_str (qa_c qe_str qa_nil rfl) rfl)) rfl) (qb_one (qs_ret (qe_toInt (qe_cmp (od_eqX hr.units) (qe_var 1) qe_str (nomark _)) rfl z_int rfl))) qb_nil)
    (qb_cons (qs_if (qt_cmp (od_eqX hr.units) (qe_var 0) qe_str (nomark _)) (qb_one (qs_ret (qe_tab (ks := ["take", "lower"]) hr.units (by decide) (by decide) (by simp) rfl rfl (by decide) (qps_cons (qe_op od_sub (qe_call g__law_log hr rfl (qa_c (qe_var 2) qa_nil rfl) rfl rfl (by omega)) qe_int) (qps_cons (qe_call g__law_log hr rfl (qa_c (qe_var 2) qa_nil rfl) rfl rfl (by omega)) qps_nil)) (qe_var 1) (qe_op od_sub (qe_op od_mul qe_int (qe_call g__law_log hr rfl (qa_c (qe_var 2) qa_nil rfl) rfl rfl (by omega))) qe_int) ⟨rfl, rfl, rfl, rfl⟩))) qb_nil)
    (qb_one (qs_ret (qe_tab (ks := ["take", "lower"]) hr.units (by decide) (by decide) (by simp) rfl rfl (by decide) (qps_cons (qe_op od_sub (qe_call g__law_top hr rfl (qa_c (qe_var 2) qa_nil rfl) rfl rfl (by omega)) qe_int) (qps_cons qe_int qps_nil)) (qe_var 1) (qe_op od_addE (qe_call g__law_top hr rfl (qa_c (qe_var 2) qa_nil rfl) rfl rfl (by omega)) qe_int) ⟨rfl, rfl, rfl, rfl⟩)))))))
theorem ok__law_sort (D : Df K mg "_law_sort" s__law_sort ["thing"]) (z_isinstance : mg "isinstance" = none) (z_bool : mg "bool" = none) (z_int : mg "int" = none) (z_tuple : mg "tuple" = none) (z_list : mg "list" = none) : Ok P w K mg base (0 + 1) "_law_sort" ["thing"] (spD K (D__law_sort)) :=
  ok_fn D sc__law_sort fun f cdv A outer s H E hr =>
    (qb_cons (qs_if (qt_tru (qe_inst "bool" .bool (qe_var 0) rfl z_isinstance rfl z_bool (by decide +kernel) rfl)) (qb_one (qs_ret qe_str)) qb_nil)
    (qb_cons (qs_if (qt_tru (qe_inst "int" .int (qe_var 0) rfl z_isinstance rfl z_int (by decide +kernel) rfl)) (qb_one (qs_ret qe_str)) qb_nil)
    (qb_cons (qs_if (qt_tru (qe_inst "tuple" .tuple (qe_var 0) rfl z_isinstance rfl z_tuple (by decide +kernel) rfl)) (qb_one (qs_ret qe_str)) qb_nil)
    (qb_one (qs_ret (qe_ifExp (qt_tru (qe_inst "list" .list (qe_var 0) rfl z_isinstance rfl z_list (by decide +kernel) rfl)) qe_str qe_str))))))
theorem ok__law_same {n : Nat} (D : Df K mg "_law_same" s__law_same ["told", "due"]) {F__law_sort : FD} (g__law_sort : Ok P w K mg base 1 "_law_sort" ["thing"] (spD K F__law_sort)) {F__law_same : FD} (g__law_same : Ok P w K mg base (n + 1) "_law_same" ["told", "due"] (spD K F__law_same)) (z_isinstance : mg "isinstance" = none) (z_tuple : mg "tuple" = none) (z_list : mg "list" = none) (z_len : mg "len" = none) (z_enumerate : mg "enumerate" = none) : Ok P w K mg base (n + 1 + 1) "_law_same" ["told", "due"] (spD K (D__law_same F__law_sort F__law_same)) :=
  ok_fn D sc__law_same fun f cdv A outer s H E hr =>
    (qb_cons (qs_if (qt_cmp (od_neX hr.units) (qe_call g__law_sort hr rfl (qa_c (qe_var 0) qa_nil rfl) rfl rfl (by omega)) (qe_call g__law_sort hr rfl (qa_c (qe_var 1) qa_nil rfl) rfl rfl (by omega)) (nomark _)) (qb_one (qs_ret qe_bl)) qb_nil)
    (qb_cons (qs_if (qt_not (qt_tru (qe_inst2 "tuple" "list" .tuple .list (qe_var 0) rfl z_isinstance rfl z_tuple (by decide +kernel) rfl z_list (by decide +kernel) rfl))) (qb_one (qs_ret (qe_cmp (od_eqX hr.units) (qe_var 0) (qe_var 1) (nomark _)))) qb_nil)
    (qb_cons (qs_if (qt_cmp (od_neX hr.units) (qe_bi bi_len rfl z_len PySem.boot_len (qa_c (qe_var 0) qa_nil rfl) rfl rfl) (qe_bi bi_len rfl z_len PySem.boot_len (qa_c (qe_var 1) qa_nil rfl) rfl rfl) (nomark _)) (qb_one (qs_ret qe_bl)) qb_nil)
    (qb_one (qs_ret (qe_cmp (od_eqX hr.units) (qe_ofL (QC.l (qc_comp2ES (i := 2) (j := 3) rfl sc__law_same.nd (by decide) (blkOk_by (own := [("k", 2), ("part", 3)]) (N := ["told", "due", "k", "part"]) (sc := defScope s__law_same) (by decide +kernel)) (fun _ _ _ _ _ => pg_tup rfl (pgs_cons (pg_name (i := 2) sc__law_same.nd rfl (Or.inl rfl)) (pgs_cons (pg_name (i := 3) sc__law_same.nd rfl (Or.inl rfl)) pgs_nil))) (fun _ _ _ _ _ => (qts_one (qt_not (qt_tru (qe_call g__law_same hr rfl (qa_c (qe_var 3) (qa_c (qe_ix (qe_var 1) (qe_var 2) (fun _ _ => rfl)) qa_nil rfl) rfl) rfl rfl (by omega)))))) (fun _ _ _ _ _ => (qe_var 2)) (qe_var 0) rfl z_enumerate rfl))) (qe_lst qa_nil) (nomark _)))))))
theorem ok_log (D : Df K mg "log" s_log ["n"]) : Ok P w K mg base (0 + 1) "log" ["n"] (spD K (D_log)) :=
  ok_fn D sc_log fun f cdv A outer s H E hr =>
    (qb_one (qs_ret (qe_op od_sub (qe_bits (qe_var 0)) qe_int)))
theorem ok_left_credit (D : Df K mg "left_credit" s_left_credit ["deed", "n", "m"]) {F_log : FD} (g_log : Ok P w K mg base 1 "log" ["n"] (spD K F_log)) : Ok P w K mg base (1 + 1) "left_credit" ["deed", "n", "m"] (spD K (D_left_credit F_log)) :=
  ok_fn D sc_left_credit fun f cdv A outer s H E hr =>
    (qb_cons (qs_if (qt_cmp (od_eqX hr.units) (qe_var 0) qe_str (nomark _)) (qb_one (qs_ret (qe_call g_log hr rfl (qa_c (qe_op od_addE (qe_var 1) qe_int) qa_nil rfl) rfl rfl (by omega)))) qb_nil)
    (qb_cons (qs_if (qt_cmp (od_eqX hr.units) (qe_var 0) qe_str (nomark _)) (qb_one (qs_ret (qe_ifExp (qt_w (qw_or (qt_cmp (od_eqX hr.units) (qe_var 1) qe_int (nomark _)) (qw_or1 (qt_cmp (od_eqX hr.units) (qe_var 2) qe_int (nomark _))))) qe_int (qe_op od_sub (qe_op od_addE (qe_call g_log hr rfl (qa_c (qe_op od_addE (qe_var 1) qe_int) qa_nil rfl) rfl rfl (by omega)) (qe_call g_log hr rfl (qa_c (qe_op od_addE (qe_var 2) qe_int) qa_nil rfl) rfl rfl (by omega))) qe_int)))) qb_nil)
    (qb_one (qs_ret (qe_ifExp (qt_cmp (od_eqX hr.units) (qe_var 0) qe_str (nomark _)) (qe_op od_mul qe_int (qe_call g_log hr rfl (qa_c (qe_var 1) qa_nil rfl) rfl rfl (by omega))) (qe_op od_mul qe_int (qe_call g_log hr rfl (qa_c (qe_op od_addE (qe_var 1) qe_int) qa_nil rfl) rfl rfl (by omega))))))))
theorem ok_meeting_credit (D : Df K mg "meeting_credit" s_meeting_credit ["n", "m"]) {F_log : FD} (g_log : Ok P w K mg base 1 "log" ["n"] (spD K F_log)) : Ok P w K mg base (1 + 1) "meeting_credit" ["n", "m"] (spD K (D_meeting_credit F_log)) :=
  ok_fn D sc_meeting_credit fun f cdv A outer s H E hr =>
    (qb_one (qs_ret (qe_ifExp (qt_w (qw_or (qt_cmp (od_eqX hr.units) (qe_var 0) qe_int (nomark _)) (qw_or1 (qt_cmp (od_eqX hr.units) (qe_var 1) qe_int (nomark _))))) qe_int (qe_op od_addE (qe_op od_addE (qe_op od_mul qe_int (qe_call g_log hr rfl (qa_c (qe_var 0) qa_nil rfl) rfl rfl (by omega))) (qe_op od_mul qe_int (qe_call g_log hr rfl (qa_c (qe_var 1) qa_nil rfl) rfl rfl (by omega)))) qe_int))))
theorem ok_skew_credit (D : Df K mg "skew_credit" s_skew_credit ["deed", "n", "m"]) {F_meeting_credit : FD} (g_meeting_credit : Ok P w K mg base 2 "meeting_credit" ["n", "m"] (spD K F_meeting_credit)) {F_log : FD} (g_log : Ok P w K mg base 1 "log" ["n"] (spD K F_log)) : Ok P w K mg base (2 + 1) "skew_credit" ["deed", "n", "m"] (spD K (D_skew_credit F_meeting_credit F_log)) :=
  ok_fn D sc_skew_credit fun f cdv A outer s H E hr =>
    (qb_cons (qs_if (qt_cmp (od_eqX hr.units) (qe_var 0) qe_str (nomark _)) (qb_one (qs_ret (qe_call g_meeting_credit hr rfl (qa_c (qe_var 1) (qa_c qe_int qa_nil rfl) rfl) rfl rfl (by omega)))) qb_nil)
    (qb_cons (qs_if (qt_cmp (od_eqX hr.units) (qe_var 0) qe_str (nomark _)) (qb_one (qs_ret (qe_call g_meeting_credit hr rfl (qa_c (qe_var 1) (qa_c (qe_var 2) qa_nil rfl) rfl) rfl rfl (by omega)))) qb_nil)
    (qb_one (qs_ret (qe_ifExp (qt_cmp (od_eqX hr.units) (qe_var 0) qe_str (nomark _)) (qe_op od_addE (qe_op od_mul qe_int (qe_call g_log hr rfl (qa_c (qe_var 1) qa_nil rfl) rfl rfl (by omega))) qe_int) (qe_op od_addE (qe_op od_mul qe_int (qe_call g_log hr rfl (qa_c (qe_var 1) qa_nil rfl) rfl rfl (by omega))) qe_int))))))
theorem ok_count_credit (D : Df K mg "count_credit" s_count_credit ["deed", "n"]) {F_log : FD} (g_log : Ok P w K mg base 1 "log" ["n"] (spD K F_log)) : Ok P w K mg base (1 + 1) "count_credit" ["deed", "n"] (spD K (D_count_credit F_log)) :=
  ok_fn D sc_count_credit fun f cdv A outer s H E hr =>
    (qb_cons (qs_if (qt_cmp (od_eqX hr.units) (qe_var 0) qe_str (nomark _)) (qb_one (qs_ret (qe_op od_sub (qe_call g_log hr rfl (qa_c (qe_var 1) qa_nil rfl) rfl rfl (by omega)) qe_int))) qb_nil)
    (qb_one (qs_ret (qe_ifExp (qt_cmp (od_eqX hr.units) (qe_var 0) qe_str (nomark _)) (qe_call g_log hr rfl (qa_c (qe_var 1) qa_nil rfl) rfl rfl (by omega)) (qe_op od_sub (qe_op od_mul qe_int (qe_call g_log hr rfl (qa_c (qe_var 1) qa_nil rfl) rfl rfl (by omega))) qe_int)))))
theorem ok_most_children (D : Df K mg "most_children" s_most_children ["n"]) : Ok P w K mg base (0 + 1) "most_children" ["n"] (spD K (D_most_children)) :=
  ok_fn D sc_most_children fun f cdv A outer s H E hr =>
    (qb_cons (qs_set (i := 1) sc_most_children.nd rfl (by first | exact Or.inl rfl | exact Or.inr rfl) qe_int)
    (qb_cons (qs_asg (qe_tup (qa_c qe_int (qa_c qe_int qa_nil rfl) rfl)) (qg_tup (n := 2) rfl (qgs_cons (qg_name (i := 2) sc_most_children.nd rfl (by first | exact Or.inl rfl | exact Or.inr rfl)) (qgs_cons (qg_name (i := 3) sc_most_children.nd rfl (by first | exact Or.inl rfl | exact Or.inr rfl)) qgs_nil))))
    (qb_cons (qs_while 1000 (qt_cmp od_le (qe_var 3) (qe_var 0) (nomark _)) (qb_cons (qs_par (i := 2) (j := 3) rfl sc_most_children.nd rfl rfl (by decide) rfl rfl (qa_c (qe_var 3) (qa_c (qe_op od_addE (qe_var 2) (qe_var 3)) qa_nil rfl) rfl) rfl)
    (qb_one (qs_augA (i := 1) sc_most_children.nd rfl (by first | exact Or.inl rfl | exact Or.inr rfl) qe_int))) PassesOwn.never)
    (qb_one (qs_ret (qe_var 1))))))
theorem ok_cut_credit (D : Df K mg "cut_credit" s_cut_credit ["deed", "n"]) {F_most_children : FD} (g_most_children : Ok P w K mg base 1 "most_children" ["n"] (spD K F_most_children)) : Ok P w K mg base (1 + 1) "cut_credit" ["deed", "n"] (spD K (D_cut_credit F_most_children)) :=
  ok_fn D sc_cut_credit fun f cdv A outer s H E hr =>
    (qb_cons (qs_if (qt_cmp (od_eqX hr.units) (qe_var 0) qe_str (nomark _)) (qb_one (qs_ret (qe_op od_sub (qe_call g_most_children hr rfl (qa_c (qe_var 1) qa_nil rfl) rfl rfl (by omega)) qe_int))) qb_nil)
    (qb_one (qs_ret (qe_ifExp (qt_cmp (od_eqX hr.units) (qe_var 0) qe_str (nomark _)) qe_int (qe_op od_addE (qe_call g_most_children hr rfl (qa_c (qe_var 1) qa_nil rfl) rfl rfl (by omega)) qe_int)))))
theorem ok_credit {e_credit : Tok} (D : DfK K mg "credit" s_credit ["kind", "deed", "n", "m"] "m" (.int 0) (.int 0 e_credit)) {F_left_credit : FD} (g_left_credit : Ok P w K mg base 2 "left_credit" ["deed", "n", "m"] (spD K F_left_credit)) {F_skew_credit : FD} (g_skew_credit : Ok P w K mg base 3 "skew_credit" ["deed", "n", "m"] (spD K F_skew_credit)) {F_count_credit : FD} (g_count_credit : Ok P w K mg base 2 "count_credit" ["deed", "n"] (spD K F_count_credit)) {F_cut_credit : FD} (g_cut_credit : Ok P w K mg base 2 "cut_credit" ["deed", "n"] (spD K F_cut_credit)) : OkK P w K mg base (3 + 1) "credit" ["kind", "deed", "n", "m"] "m" (.int 0) (.int 0 e_credit) (spD K (D_credit F_left_credit F_skew_credit F_count_credit F_cut_credit)) :=
  ok_fnK D sc_credit fun f cdv A outer s H E hr =>
    (qb_cons (qs_if (qt_cmp (od_eqX hr.units) (qe_var 0) qe_str (nomark _)) (qb_one qs_never) qb_nil)
    (qb_cons (qs_if (qt_cmp (od_eqX hr.units) (qe_var 0) qe_str (nomark _)) (qb_one (qs_ret (qe_call g_left_credit hr rfl (qa_c (qe_var 1) (qa_c (qe_var 2) (qa_c (qe_var 3) qa_nil rfl) rfl) rfl) rfl rfl (by omega)))) qb_nil)
    (qb_cons (qs_if (qt_cmp (od_eqX hr.units) (qe_var 0) qe_str (nomark _)) (qb_one (qs_ret (qe_call g_skew_credit hr rfl (qa_c (qe_var 1) (qa_c (qe_var 2) (qa_c (qe_var 3) qa_nil rfl) rfl) rfl) rfl rfl (by omega)))) qb_nil)
    (qb_cons (qs_if (qt_cmp (od_eqX hr.units) (qe_var 1) qe_str (nomark _)) (qb_one (qs_ret qe_int)) qb_nil)
    (qb_cons (qs_if (qt_cmp (od_eqX hr.units) (qe_var 1) qe_str (nomark _)) (qb_one (qs_ret qe_int)) qb_nil)
    (qb_one (qs_ret (qe_ifExp (qt_cmp (od_eqX hr.units) (qe_var 0) qe_str (nomark _)) (qe_call g_count_credit hr rfl (qa_c (qe_var 1) (qa_c (qe_var 2) qa_nil rfl) rfl) rfl rfl (by omega)) (qe_call g_cut_credit hr rfl (qa_c (qe_var 1) (qa_c (qe_var 2) qa_nil rfl) rfl) rfl rfl (by omega))))))))))
theorem ok__law_source (D : Df K mg "_law_source" s__law_source ["cell"]) : Ok P w K mg base (0 + 1) "_law_source" ["cell"] (spD K (D__law_source)) :=
  ok_fn D sc__law_source fun f cdv A outer s H E hr =>
    (qb_one (qs_retL (ql_lst (qa_c (qe_var 0) (qa_c (qe_var 0) (qa_c qe_int (qa_c qe_int qa_nil rfl) rfl) rfl) rfl))))
theorem okL__law_source (D : Df K mg "_law_source" s__law_source ["cell"]) : Ok P w K mg base (0 + 1) "_law_source" ["cell"] (spL K (E__law_source)) :=
  ok_fnL D sc__law_source fun f cdv A outer s H E hr =>
    (qb_one (qs_retL (ql_lst (qa_c (qe_var 0) (qa_c (qe_var 0) (qa_c qe_int (qa_c qe_int qa_nil rfl) rfl) rfl) rfl))))
theorem tk_law_t0 {e_credit : Tok} {F_credit : FD} (g_credit : OkK P w K mg base 4 "credit" ["kind", "deed", "n", "m"] "m" (.int 0) (.int 0 e_credit) (spD K F_credit)) {R_credit : FR} (r_credit : OkRK P w K mg base 1 "credit" ["kind", "deed", "n", "m"] "m" (.int 0) (.int 0 e_credit) R_credit) (z_max : mg "max" = none) : ThkOk P w K mg base (4 + 1) LM_law_t0 ["n"] (T_law_t0 F_credit) (U_law_t0 R_credit) :=
  thk_ok sc_law_t0 (fun _ _ _ _ => rfl) (fun f c cs A outer s H E hr => (qe_callD g_credit (fun _ => .int _) hr rfl (qa_c qe_str (qa_c qe_str (qa_c (qe_bi (bi_max rfl) rfl z_max (by decide +kernel) (qa_c (qe_var 0) (qa_c qe_int qa_nil rfl) rfl) rfl rfl) qa_nil rfl) rfl) rfl) rfl rfl (by omega)))
    (fun f c cs A outer s H E hr => (xe_callD passT r_credit (fun _ => .int _) hr rfl (qa_c qe_str (qa_c qe_str (qa_c (qe_bi (bi_max rfl) rfl z_max (by decide +kernel) (qa_c (qe_var 0) (qa_c qe_int qa_nil rfl) rfl) rfl rfl) qa_nil rfl) rfl) rfl) rfl rfl (by omega)))
theorem tk_law_t1 {e_credit : Tok} {F_credit : FD} (g_credit : OkK P w K mg base 4 "credit" ["kind", "deed", "n", "m"] "m" (.int 0) (.int 0 e_credit) (spD K F_credit)) {R_credit : FR} (r_credit : OkRK P w K mg base 1 "credit" ["kind", "deed", "n", "m"] "m" (.int 0) (.int 0 e_credit) R_credit) : ThkOk P w K mg base (4 + 1) LM_law_t1 [] (T_law_t1 F_credit) (U_law_t1 R_credit) :=
  thk_ok sc_law_t1 (fun _ _ _ _ => rfl) (fun f c cs A outer s H E hr => (qe_callKw g_credit hr rfl (qa_c qe_str (qa_c qe_str (qa_c qe_int qa_nil rfl) rfl) rfl) qe_int rfl (by omega)))
    (fun f c cs A outer s H E hr => (xe_callKw passT r_credit hr rfl (qa_c qe_str (qa_c qe_str (qa_c qe_int qa_nil rfl) rfl) rfl) qe_int rfl (by omega)))
theorem ok_law (D : DfC K mg "law" s_law ["script"]) (TF : ToldFn P w K mg base 1) {TH_law_t0 : TDE} {UH_law_t0 : TDX} (o_law_t0 : ThkOk P w K mg base 5 LM_law_t0 ["n"] TH_law_t0 UH_law_t0) {TH_law_t1 : TDE} {UH_law_t1 : TDX} (o_law_t1 : ThkOk P w K mg base 5 LM_law_t1 [] TH_law_t1 UH_law_t1) {F__law_cell_at : FD} (g__law_cell_at : Ok P w K mg base 1 "_law_cell_at" ["script", "k"] (spD K F__law_cell_at)) {F__law_take : FD} (g__law_take : Ok P w K mg base 2 "_law_take" ["source", "size"] (spD K F__law_take)) {F__law_one_of : FD} (g__law_one_of : Ok P w K mg base 3 "_law_one_of" ["source", "some"] (spD K F__law_one_of)) {F__law_due : FD} (g__law_due : Ok P w K mg base 2 "_law_due" ["which", "word", "n", "more"] (spD K F__law_due)) {F__law_same : FD} (g__law_same : Ok P w K mg base 42 "_law_same" ["told", "due"] (spD K F__law_same)) {e_credit : Tok} {F_credit : FD} (g_credit : OkK P w K mg base 4 "credit" ["kind", "deed", "n", "m"] "m" (.int 0) (.int 0 e_credit) (spD K F_credit)) {L__law_source : FL} (l__law_source : Ok P w K mg base 1 "_law_source" ["cell"] (spL K L__law_source)) (z_range : mg "range" = none) (z_list : mg "list" = none) : Ok P w K mg base (42 + 1) "law" ["script"] (spD K (D_law TH_law_t0 UH_law_t0 TH_law_t1 UH_law_t1 F__law_cell_at F__law_take F__law_one_of F__law_due F__law_same F_credit L__law_source)) :=
  ok_fnC D sc_law (by decide) fun f c Pt A outer s H E hcd hT hr =>
    (qb_cons (qs_setL (i := 1) sc_law.nd rfl (by first | exact Or.inl rfl | exact Or.inr rfl) (ql_call l__law_source hr rfl (qa_c (qe_call g__law_cell_at hr rfl (qa_c (qe_var 0) (qa_c qe_int qa_nil rfl) rfl) rfl rfl (by omega)) qa_nil rfl) rfl rfl (by omega)))
    (qb_cons (qs_set (i := 2) sc_law.nd rfl (by first | exact Or.inl rfl | exact Or.inr rfl) (qe_op od_addE (qe_ofL (ql_listG (qa_c qe_int qa_nil rfl) rfl z_range rfl z_list rfl rfl rfl)) (qe_lst (qa_c qe_int (qa_c qe_int (qa_c qe_int (qa_c qe_int (qa_c qe_int (qa_c qe_int (qa_c qe_int (qa_c qe_int (qa_c qe_int (qa_c qe_int (qa_c qe_int (qa_c qe_int (qa_c qe_int (qa_c qe_int (qa_c qe_int (qa_c qe_int qa_nil rfl) rfl) rfl) rfl) rfl) rfl) rfl) rfl) rfl) rfl) rfl) rfl) rfl) rfl) rfl) rfl))))
    (qb_cons (qs_set (i := 2) sc_law.nd rfl (by first | exact Or.inl rfl | exact Or.inr rfl) (qe_op od_addE (qe_var 2) (qe_ofL (QC.l (qc_compG (i := 3) rfl sc_law.nd (blkOk_by (own := [("k", 3)]) (N := ["script", "source", "some", "k", "n", "other", "which", "word", "due"]) (sc := defScope s_law) (by decide +kernel)) (fun _ _ _ _ _ => pg_name (i := 3) sc_law.nd rfl (Or.inl rfl)) (fun _ _ _ _ _ => qts_nil) (fun _ _ _ _ _ => (qe_callS 1 g__law_take hr rfl (qa_c qe_int qa_nil rfl) rfl (by omega))) (qr1 (qa_c qe_int qa_nil rfl) rfl z_range rfl))))))
    (qb_cons (qs_forS (qe_var 2) (qg_name (i := 4) sc_law.nd rfl (by first | exact Or.inl rfl | exact Or.inr rfl))
      (qb_cons (qs_set (i := 5) sc_law.nd rfl (by first | exact Or.inl rfl | exact Or.inr rfl) (qe_callS 1 g__law_one_of hr rfl (qa_c (qe_var 2) qa_nil rfl) rfl (by omega)))
    (qb_cons (qs_forS (qe_tup (qa_c qe_str (qa_c qe_str (qa_c qe_str (qa_c qe_str qa_nil rfl) rfl) rfl) rfl)) (qg_name (i := 6) sc_law.nd rfl (by first | exact Or.inl rfl | exact Or.inr rfl))
      (qb_cons (qs_forS (qe_tup (qa_c qe_str (qa_c qe_str (qa_c qe_str (qa_c qe_str (qa_c qe_str qa_nil rfl) rfl) rfl) rfl) rfl)) (qg_name (i := 7) sc_law.nd rfl (by first | exact Or.inl rfl | exact Or.inr rfl))
      (qb_one (qs_if (qt_w (qw_or (qt_cmp od_gt (qe_var 4) qe_int (nomark _)) (qw_or1 (qt_cmp od_in (qe_var 7) (qe_tup (qa_c qe_str (qa_c qe_str qa_nil rfl) rfl)) rfl)))) (qb_cons (qs_set (i := 8) sc_law.nd rfl (by first | exact Or.inl rfl | exact Or.inr rfl) (qe_call g__law_due hr rfl (qa_c (qe_var 6) (qa_c (qe_var 7) (qa_c (qe_var 4) (qa_c (qe_var 5) qa_nil rfl) rfl) rfl) rfl) rfl rfl (by omega)))
    (qb_cons (qs_if (qt_not (qt_tru (qe_call g__law_same hr rfl (qa_c (qe_callKw g_credit hr rfl (qa_c (qe_var 6) (qa_c (qe_var 7) (qa_c (qe_var 4) qa_nil rfl) rfl) rfl) (qe_var 5) rfl (by omega)) (qa_c (qe_var 8) qa_nil rfl) rfl) rfl rfl (by omega)))) (qb_one (qs_ret qe_bl)) qb_nil)
    (qb_one (qs_if (qt_w (qw_and (qt_cmp (od_neX hr.units) (qe_var 7) qe_str (nomark _)) (qw_and1 (qt_not (qt_tru (qe_call g__law_same hr rfl (qa_c (qe_callD g_credit (fun _ => .int _) hr rfl (qa_c (qe_var 6) (qa_c (qe_var 7) (qa_c (qe_var 4) qa_nil rfl) rfl) rfl) rfl rfl (by omega)) (qa_c (qe_var 8) qa_nil rfl) rfl) rfl rfl (by omega))))))) (qb_one (qs_ret qe_bl)) qb_nil)))) qb_nil)) PassesOwn.never rfl)
    (qb_one (qs_if (qt_cmp (od_neX hr.units) (qe_callD g_credit (fun _ => .int _) hr rfl (qa_c (qe_var 6) (qa_c qe_str (qa_c (qe_var 4) qa_nil rfl) rfl) rfl) rfl rfl (by omega)) (qe_call g__law_due hr rfl (qa_c (qe_var 6) (qa_c qe_str (qa_c (qe_var 4) (qa_c qe_int qa_nil rfl) rfl) rfl) rfl) rfl rfl (by omega)) (nomark _)) (qb_one (qs_ret qe_bl)) qb_nil))) PassesOwn.never rfl)
    (qb_one (qs_if (qt_cmp (od_neX hr.units) (qe_told (L := LM_law_t0) (fv := ["n"]) (is := [4]) TF o_law_t0 hr rfl rfl hcd hT rfl rfl rfl rfl (show ∀ x ∈ (["n"] : List Str), (defScope s_law).names.lookup x = some .cell by decide +kernel) (by decide +kernel) (by decide +kernel) (by omega) (by omega)) qe_str (nomark _)) (qb_one (qs_ret qe_bl)) qb_nil)))) PassesOwn.never rfl)
    (qb_one (qs_ret (qe_cmp (od_eqX hr.units) (qe_told (L := LM_law_t1) (fv := []) (is := []) TF o_law_t1 hr rfl rfl hcd hT rfl rfl rfl rfl (show ∀ x ∈ ([] : List Str), (defScope s_law).names.lookup x = some .cell by decide +kernel) (by decide +kernel) (by decide +kernel) (by omega) (by omega)) qe_str (nomark _))))))))
theorem okR_credit {e_credit : Tok} (D : DfK K mg "credit" s_credit ["kind", "deed", "n", "m"] "m" (.int 0) (.int 0 e_credit)) {a_NoCredit : Addr} (x_NoCredit : ExcK K mg "NoCredit" a_NoCredit) : OkRK P w K mg base (0 + 1) "credit" ["kind", "deed", "n", "m"] "m" (.int 0) (.int 0 e_credit) (RD_credit) :=
  okR_fnK D sc_credit fun f cdv A outer s H E hr =>
    (xb_here (xs_if (qt_cmp (od_eqX hr.units) (qe_var 0) qe_str (nomark _)) (xb_here (xs_raise x_NoCredit rfl)) xb_no))
theorem word_fn {c0 c1 c2 c3 c4 c5 c6 c7 c8 c9 c10 c11 c12 c13 B : Addr} (D : Df K mg "_law_word" s__law_word ["e"]) (zi : mg "isinstance" = none) (zv : mg "ValueError" = none) (m0 : mg "Empty" = some (.ref c0)) (m1 : mg "Twice" = some (.ref c1)) (m2 : mg "NoTicket" = some (.ref c2)) (m3 : mg "Higher" = some (.ref c3)) (m4 : mg "NoCredit" = some (.ref c4)) (m5 : mg "NoPlace" = some (.ref c5)) (m6 : mg "NoKind" = some (.ref c6)) (m7 : mg "NoName" = some (.ref c7)) (m8 : mg "Taken" = some (.ref c8)) (m9 : mg "TooMany" = some (.ref c9)) (m10 : mg "NoHeap" = some (.ref c10)) (m11 : mg "NoKey" = some (.ref c11)) (m12 : mg "Itself" = some (.ref c12)) (m13 : mg "Unlike" = some (.ref c13)) : WordFn P w K mg base [c0, c1, c2, c3, c4, c5, c6, c7, c8, c9, c10, c11, c12, c13] 1 :=
  word_ok D sc__law_word fun f cdv A outer s H E => word_ps sc__law_word.nd rfl rfl rfl (.inl rfl) rfl rfl rfl rfl zi zv rfl rfl rfl rfl rfl rfl rfl rfl rfl rfl rfl rfl rfl rfl m0 m1 m2 m3 m4 m5 m6 m7 m8 m9 m10 m11 m12 m13 rfl rfl
theorem told_fn {c14 : List Addr} {B : Addr} (D : Df K mg "_law_told" s__law_told ["door"]) (mB : mg "HeapError" = some (.ref B)) (WW : Words K mg c14 B) (W : WordFn P w K mg base c14 1) : ToldFn P w K mg base 1 :=
  told_ok D sc__law_told rfl rfl rfl rfl rfl rfl (by decide +kernel) mB WW.base W WW.all
end
abbrev C__law_cell_at : FD := D__law_cell_at
abbrev C__law_stir : FD := D__law_stir
def C__law_take : FD := D__law_take C__law_stir
def C__law_one_of : FD := D__law_one_of C__law_take
abbrev C__law_log : FD := D__law_log
abbrev C__law_top : FD := D__law_top
def C__law_due : FD := D__law_due C__law_log C__law_top
abbrev C__law_sort : FD := D__law_sort
def C__law_same : Nat → FD
  | 0 => fun _ => none
  | n + 1 => D__law_same C__law_sort (C__law_same n)
abbrev C_log : FD := D_log
def C_left_credit : FD := D_left_credit C_log
def C_meeting_credit : FD := D_meeting_credit C_log
def C_skew_credit : FD := D_skew_credit C_meeting_credit C_log
def C_count_credit : FD := D_count_credit C_log
abbrev C_most_children : FD := D_most_children
def C_cut_credit : FD := D_cut_credit C_most_children
def C_credit : FD := D_credit C_left_credit C_skew_credit C_count_credit C_cut_credit
abbrev C__law_source : FD := D__law_source
abbrev CL__law_source : FL := E__law_source
def CR_credit : FR := RD_credit
def CT_law_t0 : TDE := T_law_t0 C_credit
def CU_law_t0 : TDX := U_law_t0 CR_credit
def CT_law_t1 : TDE := T_law_t1 C_credit
def CU_law_t1 : TDX := U_law_t1 CR_credit
def C_law : FD := D_law CT_law_t0 CU_law_t0 CT_law_t1 CU_law_t1 C__law_cell_at C__law_take C__law_one_of C__law_due (C__law_same 40) C_credit CL__law_source
end My
namespace My
open PySem L2
def stirI (c k : Int) : Int := ((((c % 10 ^ 60 + 7919 * k + 1) * 27182818284590452353602874713527) % 170141183460469231731687303715884105727) ^ 5 + 48271 * k) ^ 3 % 162259276829213363391578010288127 / 7
theorem run_stir {c k : Int} (h0 : 0 ≤ k) (h1 : k < 2 ^ 64) : D__law_stir [.im (.int c), .im (.int k)] = some (.int (stirI c k), [.im (.int c), .im (.int k)]) := by
  have e60 : powD (.int 10) (.int 60) = some (.int (10 ^ 60)) := powD_i (by decide) (by decide) (by decide)
  have m1 : modD (.int c) (.int (10 ^ 60)) = some (.int (c % 10 ^ 60)) := modD_i (by decide)
  have b1 : 0 ≤ c % 10 ^ 60 := Int.emod_nonneg _ (by decide)
  have b2 : c % 10 ^ 60 < 10 ^ 60 := Int.emod_lt_of_pos _ (by decide)
  have p1 : mulD (.int 7919) (.int k) = some (.int (7919 * k)) := mulD_i (by decide) (by omega)
  have p2 : mulD (.int (c % 10 ^ 60 + 7919 * k + 1)) (.int 27182818284590452353602874713527) = some (.int ((c % 10 ^ 60 + 7919 * k + 1) * 27182818284590452353602874713527)) := mulD_i (by omega) (by decide)
  generalize hx : (c % 10 ^ 60 + 7919 * k + 1) * 27182818284590452353602874713527 = x at *
  have m2 : modD (.int x) (.int 170141183460469231731687303715884105727) = some (.int (x % 170141183460469231731687303715884105727)) := modD_i (by decide)
  have c1 : 0 ≤ x % 170141183460469231731687303715884105727 := Int.emod_nonneg _ (by decide)
  have c2 : x % 170141183460469231731687303715884105727 < 170141183460469231731687303715884105727 := Int.emod_lt_of_pos _ (by decide)
  generalize hy : x % 170141183460469231731687303715884105727 = y at *
  have q1 : powD (.int y) (.int 5) = some (.int (y ^ 5)) := powD_i (by decide) (by decide) (by omega)
  have q2 : mulD (.int 48271) (.int k) = some (.int (48271 * k)) := mulD_i (by decide) (by omega)
  have d1 : 0 ≤ y ^ 5 := Int.pow_nonneg c1
  have d2 : y ^ 5 ≤ 170141183460469231731687303715884105727 ^ 5 := ipow_le c1 (Int.le_of_lt c2) 5
  have q3 : powD (.int (y ^ 5 + 48271 * k)) (.int 3) = some (.int ((y ^ 5 + 48271 * k) ^ 3)) := powD_i (by decide) (by decide) (by omega)
  generalize hz : (y ^ 5 + 48271 * k) ^ 3 = z at *
  have m3 : modD (.int z) (.int 162259276829213363391578010288127) = some (.int (z % 162259276829213363391578010288127)) := modD_i (by decide)
  have m4 : fdivD (.int (z % 162259276829213363391578010288127)) (.int 7) = some (.int (z % 162259276829213363391578010288127 / 7)) := fdivD_i (by decide) (by decide)
  unfold stirI
  rw [hx, hy, hz]
  simp only [D__law_stir, fnD, T__law_stir, dSeq, dSet, dRet, dBin, dVar, dC, List.map, List.length, List.replicate, List.getElem?_cons_zero, List.getElem?_cons_succ, List.set, List.cons_append, List.nil_append, e60, m1, addE_i, p1, p2, m2, q1, q2, q3, m3, m4, outP, if_pos]
def Src (n : Int) (ds : List D) : Prop := ∃ c r t : Int, ds = [.int c, .int r, .int n, .int t]
theorem run_take {n size : Int} {ds : List D} {tag : Nat} (hs : Src n ds) (h0 : 0 ≤ n) (h1 : n < 2 ^ 60) (z0 : 0 < size) (z1 : size < 1073741824) :
    ∃ v es, 0 ≤ v ∧ v < size ∧ Src (n + 1) es ∧ D__law_take D__law_stir [.own (some tag) ds, .im (.int size)] = some (.int v, [.own (some tag) es, .im (.int size)]) := by
  obtain ⟨c, r, t, rfl⟩ := hs
  have e18 : powD (.int 10) (.int 18) = some (.int 1000000000000000000) := powD_i (by decide) (by decide) (by decide)
  have st := run_stir (c := c) (k := n + 1) (by omega) (by omega)
  have ms : modD (.int (stirI c (n + 1))) (.int size) = some (.int (stirI c (n + 1) % size)) := modD_i z0
  have mr : modD (.int r) (.int size) = some (.int (r % size)) := modD_i z0
  have dr : fdivD (.int r) (.int size) = some (.int (r / size)) := fdivD_i z0 z1
  by_cases hc : 1000000000000000000 ≤ c
  · by_cases hr : 0 < r
    · refine ⟨r % size, [.int c, .int (r / size), .int (n + 1), .int t], Int.emod_nonneg _ (by omega), Int.emod_lt_of_pos _ z0, ⟨_, _, _, rfl⟩, ?_⟩
      simp [D__law_take, fnD, T__law_take, dSeq, dStore, dIf, dSet, dRet, dBin, dVar, dC, dIxW, dCall, dCons, dNil, dSkip, tAnd2, tB1, isOwn, atI, ixN, addE_i, e18, geD_i, gtD_i, hc, hr, mr, dr, outP]
    · refine ⟨stirI c (n + 1) % size, [.int c, .int r, .int (n + 1), .int t], Int.emod_nonneg _ (by omega), Int.emod_lt_of_pos _ z0, ⟨_, _, _, rfl⟩, ?_⟩
      simp [D__law_take, fnD, T__law_take, dSeq, dStore, dIf, dSet, dRet, dBin, dVar, dC, dIxW, dCall, dCons, dNil, dSkip, tAnd2, tB1, isOwn, atI, ixN, addE_i, e18, geD_i, gtD_i, hc, hr, mr, dr, outP, st, ms]
  · refine ⟨stirI c (n + 1) % size, [.int c, .int r, .int (n + 1), .int t], Int.emod_nonneg _ (by omega), Int.emod_lt_of_pos _ z0, ⟨_, _, _, rfl⟩, ?_⟩
    simp [D__law_take, fnD, T__law_take, dSeq, dStore, dIf, dSet, dRet, dBin, dVar, dC, dIxW, dCall, dCons, dNil, dSkip, tAnd2, tB1, isOwn, atI, ixN, addE_i, e18, geD_i, gtD_i, hc, mr, dr, outP, st, ms]
end My
namespace My
open PySem L2
def lgN (n : Nat) : Int := (Nat.log2 n : Nat)
def isOne (r : Option (D × List Sl)) (v : Int) (n : Nat) : Bool := match r with
  | some (.int w, [.im (.int m)]) => decide (w = v) && decide (m = (n : Int))
  | _ => false
theorem isOne_eq {r : Option (D × List Sl)} {v : Int} {n : Nat} (h : isOne r v n = true) : r = some (.int v, [.im (.int (n : Int))]) := by
  unfold isOne at h
  split at h
  · next w m =>
    rw [Bool.and_eq_true] at h
    rw [of_decide_eq_true h.1, of_decide_eq_true h.2]
  · cases h
def valOf (r : Option (D × List Sl)) : Int := match r with
  | some (.int w, _) => w
  | _ => 0
def tpN (n : Nat) : Int := valOf (C_most_children [.im (.int (n : Int))])
def okN (n : Nat) : Bool := isOne (C__law_log [.im (.int (n : Int))]) (lgN n) n && (n == 0 || isOne (C_log [.im (.int (n : Int))]) (lgN n) n) && isOne (C_most_children [.im (.int (n : Int))]) (tpN n) n && (n == 0 || isOne (C__law_top [.im (.int (n : Int))]) (tpN n) n) && decide (0 ≤ lgN n) && decide (lgN n < 100) && decide (0 ≤ tpN n) && decide (tpN n < 100)
theorem okN_all : (List.range 302).all okN = true := by decide +kernel
theorem okN_at {n : Nat} (h : n < 302) : okN n = true := List.all_eq_true.mp okN_all n (List.mem_range.mpr h)
def lg (i : Int) : Int := lgN i.toNat
def tp (i : Int) : Int := tpN i.toNat
structure Nums (i : Int) : Prop where
  ll : C__law_log [.im (.int i)] = some (.int (lg i), [.im (.int i)])
  lo : 0 < i → C_log [.im (.int i)] = some (.int (lg i), [.im (.int i)])
  mc : C_most_children [.im (.int i)] = some (.int (tp i), [.im (.int i)])
  lt : 0 < i → C__law_top [.im (.int i)] = some (.int (tp i), [.im (.int i)])
  l0 : 0 ≤ lg i
  l1 : lg i < 100
  t0 : 0 ≤ tp i
  t1 : tp i < 100
theorem nums {i : Int} (h0 : 0 ≤ i) (h1 : i < 302) : Nums i := by
  obtain ⟨n, rfl⟩ := Int.eq_ofNat_of_zero_le h0
  have hn : n < 302 := by omega
  have h := okN_at hn
  unfold okN at h
  simp only [Bool.and_eq_true, Bool.or_eq_true, beq_iff_eq, decide_eq_true_eq] at h
  obtain ⟨⟨⟨⟨⟨⟨⟨a, b⟩, c⟩, d⟩, e⟩, f⟩, g⟩, k⟩ := h
  have e0 : ((n : Int)).toNat = n := Int.toNat_natCast n
  refine ⟨?_, fun hp => ?_, ?_, fun hp => ?_, ?_, ?_, ?_, ?_⟩
  · unfold lg; rw [e0]; exact isOne_eq a
  · unfold lg; rw [e0]
    rcases b with b | b
    · omega
    · exact isOne_eq b
  · unfold tp; rw [e0]; exact isOne_eq c
  · unfold tp; rw [e0]
    rcases d with d | d
    · omega
    · exact isOne_eq d
  · unfold lg; rw [e0]; exact e
  · unfold lg; rw [e0]; exact f
  · unfold tp; rw [e0]; exact g
  · unfold tp; rw [e0]; exact k
end My
namespace My
open PySem L2
theorem z_ll : eqX (.str "left") (.str "left") = some (.bool true) := by kernel_rfl
theorem z_sl : eqX (.str "skew") (.str "left") = some (.bool false) := by kernel_rfl
theorem z_cl : eqX (.str "count") (.str "left") = some (.bool false) := by kernel_rfl
theorem z_tl : eqX (.str "cut") (.str "left") = some (.bool false) := by kernel_rfl
theorem z_ss : eqX (.str "skew") (.str "skew") = some (.bool true) := by kernel_rfl
theorem z_cs : eqX (.str "count") (.str "skew") = some (.bool false) := by kernel_rfl
theorem z_ts : eqX (.str "cut") (.str "skew") = some (.bool false) := by kernel_rfl
theorem z_cc : eqX (.str "count") (.str "count") = some (.bool true) := by kernel_rfl
theorem z_tc : eqX (.str "cut") (.str "count") = some (.bool false) := by kernel_rfl
theorem z_lp : eqX (.str "left") (.str "pair") = some (.bool false) := by kernel_rfl
theorem z_sp : eqX (.str "skew") (.str "pair") = some (.bool false) := by kernel_rfl
theorem z_cp : eqX (.str "count") (.str "pair") = some (.bool false) := by kernel_rfl
theorem z_tp : eqX (.str "cut") (.str "pair") = some (.bool false) := by kernel_rfl
theorem z_pp : eqX (.str "pair") (.str "pair") = some (.bool true) := by kernel_rfl
theorem y_pp : eqX (.str "put") (.str "put") = some (.bool true) := by kernel_rfl
theorem y_jp : eqX (.str "join") (.str "put") = some (.bool false) := by kernel_rfl
theorem y_tp : eqX (.str "take") (.str "put") = some (.bool false) := by kernel_rfl
theorem y_lp : eqX (.str "lower") (.str "put") = some (.bool false) := by kernel_rfl
theorem y_dp : eqX (.str "drop") (.str "put") = some (.bool false) := by kernel_rfl
theorem y_jj : eqX (.str "join") (.str "join") = some (.bool true) := by kernel_rfl
theorem y_tj : eqX (.str "take") (.str "join") = some (.bool false) := by kernel_rfl
theorem y_lj : eqX (.str "lower") (.str "join") = some (.bool false) := by kernel_rfl
theorem y_dj : eqX (.str "drop") (.str "join") = some (.bool false) := by kernel_rfl
theorem y_tt : eqX (.str "take") (.str "take") = some (.bool true) := by kernel_rfl
theorem y_lt : eqX (.str "lower") (.str "take") = some (.bool false) := by kernel_rfl
theorem y_dt : eqX (.str "drop") (.str "take") = some (.bool false) := by kernel_rfl
theorem y_ll : eqX (.str "lower") (.str "lower") = some (.bool true) := by kernel_rfl
theorem y_dl : eqX (.str "drop") (.str "lower") = some (.bool false) := by kernel_rfl
theorem i_p : inD false (.str "put") (.tuple [.str "put", .str "join"]) = some (.bool true) := by kernel_rfl
theorem i_j : inD false (.str "join") (.tuple [.str "put", .str "join"]) = some (.bool true) := by kernel_rfl
theorem i_t : inD false (.str "take") (.tuple [.str "put", .str "join"]) = some (.bool false) := by kernel_rfl
theorem i_l : inD false (.str "lower") (.tuple [.str "put", .str "join"]) = some (.bool false) := by kernel_rfl
theorem i_d : inD false (.str "drop") (.tuple [.str "put", .str "join"]) = some (.bool false) := by kernel_rfl
theorem eq_i (i j : Int) : eqX (.int i) (.int j) = some (.bool (i == j)) := rfl
theorem mul_s {i j : Int} (h : -1000000 < i) (h' : i < 1000000) (k : -1000000 < j) (k' : j < 1000000) : mulD (.int i) (.int j) = some (.int (i * j)) := mulD_i (by omega) (by omega)
inductive K4 where | left | skew | count | cut
inductive W5 where | put | join | take | lower | drop
def K4.s : K4 → Str | .left => "left" | .skew => "skew" | .count => "count" | .cut => "cut"
def W5.s : W5 → Str | .put => "put" | .join => "join" | .take => "take" | .lower => "lower" | .drop => "drop"
def W5.early : W5 → Bool | .put => true | .join => true | _ => false
def crd : K4 → W5 → Int → Int → Int
  | .left, .put, n, _ => lg (n + 1)
  | .left, .join, n, m => if n = 0 ∨ m = 0 then 0 else lg (n + 1) + lg (m + 1) - 1
  | .left, .take, n, _ => 2 * lg n
  | .left, _, n, _ => 2 * lg (n + 1)
  | .skew, .put, n, _ => if n = 0 then 0 else 2 * lg n + 2 * lg 1 + 3
  | .skew, .join, n, m => if n = 0 ∨ m = 0 then 0 else 2 * lg n + 2 * lg m + 3
  | .skew, .take, n, _ => 4 * lg n + 3
  | .skew, _, n, _ => 5 * lg n + 3
  | _, .put, _, _ => 1
  | _, .join, _, _ => 0
  | .count, .take, n, _ => lg n - 1
  | .count, .lower, n, _ => lg n
  | .count, .drop, n, _ => 2 * lg n - 1
  | .cut, .take, n, _ => tp n - 1
  | .cut, .lower, _, _ => 4
  | .cut, .drop, n, _ => tp n + 3
theorem beq0 {n : Int} (h : n ≠ 0) : (n == 0) = false := by simpa using h
theorem run_meet {n m : Int} (h0 : 0 ≤ n) (h1 : n < 301) (g0 : 0 ≤ m) (g1 : m < 301) : C_meeting_credit [.im (.int n), .im (.int m)] = some (.int (if n = 0 ∨ m = 0 then 0 else 2 * lg n + 2 * lg m + 3), [.im (.int n), .im (.int m)]) := by
  by_cases hn : n = 0
  · subst hn
    simp [C_meeting_credit, D_meeting_credit, T_meeting_credit, fnD, dSeq, dStore, dIf, dSet, dSetL, dRet, dRetL, dRetO, dAsg, gTupD, gConsD, gNilD, gNameD, dPar, dExpr, dBin, dUn, dBinO, dVar, dC, dIxW, dFrz, dCall, dCallS, dCallL, dCons, dNil, dTup, dLst, dGuard, dOfL, dSkip, dBi, dIfE, dIfL, dCatL, dChain, dAnd, dOr, tAnd2, tOr2, tNot1, tB1, isOwn, atI, ixN, ixD, lenD, addE_i, subD_i, geD_i, gtD_i, leD_i, ltD_i, negD_i, notD_b, outP, tTru, truD, tTruO, dSeeL, dLenW, dFrzW, dAug, dForRev, dNever, dPop, dApp, eq_i]
  by_cases hm : m = 0
  · subst hm
    simp [C_meeting_credit, D_meeting_credit, T_meeting_credit, fnD, dSeq, dStore, dIf, dSet, dSetL, dRet, dRetL, dRetO, dAsg, gTupD, gConsD, gNilD, gNameD, dPar, dExpr, dBin, dUn, dBinO, dVar, dC, dIxW, dFrz, dCall, dCallS, dCallL, dCons, dNil, dTup, dLst, dGuard, dOfL, dSkip, dBi, dIfE, dIfL, dCatL, dChain, dAnd, dOr, tAnd2, tOr2, tNot1, tB1, isOwn, atI, ixN, ixD, lenD, addE_i, subD_i, geD_i, gtD_i, leD_i, ltD_i, negD_i, notD_b, outP, tTru, truD, tTruO, dSeeL, dLenW, dFrzW, dAug, dForRev, dNever, dPop, dApp, eq_i, hn, beq0 hn]
  have a := nums h0 (show n < 302 by omega)
  have b := nums g0 (show m < 302 by omega)
  have a1 := a.l0; have a2 := a.l1; have b1 := b.l0; have b2 := b.l1
  simp [C_meeting_credit, D_meeting_credit, T_meeting_credit, fnD, dSeq, dStore, dIf, dSet, dSetL, dRet, dRetL, dRetO, dAsg, gTupD, gConsD, gNilD, gNameD, dPar, dExpr, dBin, dUn, dBinO, dVar, dC, dIxW, dFrz, dCall, dCallS, dCallL, dCons, dNil, dTup, dLst, dGuard, dOfL, dSkip, dBi, dIfE, dIfL, dCatL, dChain, dAnd, dOr, tAnd2, tOr2, tNot1, tB1, isOwn, atI, ixN, ixD, lenD, addE_i, subD_i, geD_i, gtD_i, leD_i, ltD_i, negD_i, notD_b, outP, tTru, truD, tTruO, dSeeL, dLenW, dFrzW, dAug, dForRev, dNever, dPop, dApp, eq_i, hn, hm, beq0 hn, beq0 hm, a.lo (by omega), b.lo (by omega), mul_s (i := 2) (j := lg n) (by omega) (by omega) (by omega) (by omega), mul_s (i := 2) (j := lg m) (by omega) (by omega) (by omega) (by omega)]
section
variable {n m : Int} (h0 : 0 ≤ n) (h1 : n < 301) (g0 : 0 ≤ m) (g1 : m < 301)
include h0 h1 g0 g1
theorem run_left (w : W5) (hw : w.early = true ∨ 0 < n) : C_left_credit [.im (.str w.s), .im (.int n), .im (.int m)] = some (.int (crd .left w n m), [.im (.str w.s), .im (.int n), .im (.int m)]) := by
  have a := nums (i := n + 1) (by omega) (by omega)
  have b := nums (i := m + 1) (by omega) (by omega)
  have c := nums (i := n) (by omega) (by omega)
  have a1 := a.l0; have a2 := a.l1; have b1 := b.l0; have b2 := b.l1; have c1 := c.l0; have c2 := c.l1
  have A := a.lo (by omega)
  have B := b.lo (by omega)
  cases w with
  | put => simp [W5.s, C_left_credit, D_left_credit, T_left_credit, fnD, dSeq, dStore, dIf, dSet, dSetL, dRet, dRetL, dRetO, dAsg, gTupD, gConsD, gNilD, gNameD, dPar, dExpr, dBin, dUn, dBinO, dVar, dC, dIxW, dFrz, dCall, dCallS, dCallL, dCons, dNil, dTup, dLst, dGuard, dOfL, dSkip, dBi, dIfE, dIfL, dCatL, dChain, dAnd, dOr, tAnd2, tOr2, tNot1, tB1, isOwn, atI, ixN, ixD, lenD, addE_i, subD_i, geD_i, gtD_i, leD_i, ltD_i, negD_i, notD_b, outP, tTru, truD, tTruO, dSeeL, dLenW, dFrzW, dAug, dForRev, dNever, dPop, dApp, y_pp, A, crd]
  | join =>
    by_cases hn : n = 0
    · subst hn
      simp [W5.s, C_left_credit, D_left_credit, T_left_credit, fnD, dSeq, dStore, dIf, dSet, dSetL, dRet, dRetL, dRetO, dAsg, gTupD, gConsD, gNilD, gNameD, dPar, dExpr, dBin, dUn, dBinO, dVar, dC, dIxW, dFrz, dCall, dCallS, dCallL, dCons, dNil, dTup, dLst, dGuard, dOfL, dSkip, dBi, dIfE, dIfL, dCatL, dChain, dAnd, dOr, tAnd2, tOr2, tNot1, tB1, isOwn, atI, ixN, ixD, lenD, addE_i, subD_i, geD_i, gtD_i, leD_i, ltD_i, negD_i, notD_b, outP, tTru, truD, tTruO, dSeeL, dLenW, dFrzW, dAug, dForRev, dNever, dPop, dApp, y_jp, y_jj, eq_i, crd]
    by_cases hm : m = 0
    · subst hm
      simp [W5.s, C_left_credit, D_left_credit, T_left_credit, fnD, dSeq, dStore, dIf, dSet, dSetL, dRet, dRetL, dRetO, dAsg, gTupD, gConsD, gNilD, gNameD, dPar, dExpr, dBin, dUn, dBinO, dVar, dC, dIxW, dFrz, dCall, dCallS, dCallL, dCons, dNil, dTup, dLst, dGuard, dOfL, dSkip, dBi, dIfE, dIfL, dCatL, dChain, dAnd, dOr, tAnd2, tOr2, tNot1, tB1, isOwn, atI, ixN, ixD, lenD, addE_i, subD_i, geD_i, gtD_i, leD_i, ltD_i, negD_i, notD_b, outP, tTru, truD, tTruO, dSeeL, dLenW, dFrzW, dAug, dForRev, dNever, dPop, dApp, y_jp, y_jj, eq_i, hn, beq0 hn, crd]
    simp [W5.s, C_left_credit, D_left_credit, T_left_credit, fnD, dSeq, dStore, dIf, dSet, dSetL, dRet, dRetL, dRetO, dAsg, gTupD, gConsD, gNilD, gNameD, dPar, dExpr, dBin, dUn, dBinO, dVar, dC, dIxW, dFrz, dCall, dCallS, dCallL, dCons, dNil, dTup, dLst, dGuard, dOfL, dSkip, dBi, dIfE, dIfL, dCatL, dChain, dAnd, dOr, tAnd2, tOr2, tNot1, tB1, isOwn, atI, ixN, ixD, lenD, addE_i, subD_i, geD_i, gtD_i, leD_i, ltD_i, negD_i, notD_b, outP, tTru, truD, tTruO, dSeeL, dLenW, dFrzW, dAug, dForRev, dNever, dPop, dApp, y_jp, y_jj, eq_i, hn, hm, beq0 hn, beq0 hm, A, B, crd]
  | take =>
    have hp : 0 < n := hw.resolve_left (by simp [W5.early])
    simp [W5.s, C_left_credit, D_left_credit, T_left_credit, fnD, dSeq, dStore, dIf, dSet, dSetL, dRet, dRetL, dRetO, dAsg, gTupD, gConsD, gNilD, gNameD, dPar, dExpr, dBin, dUn, dBinO, dVar, dC, dIxW, dFrz, dCall, dCallS, dCallL, dCons, dNil, dTup, dLst, dGuard, dOfL, dSkip, dBi, dIfE, dIfL, dCatL, dChain, dAnd, dOr, tAnd2, tOr2, tNot1, tB1, isOwn, atI, ixN, ixD, lenD, addE_i, subD_i, geD_i, gtD_i, leD_i, ltD_i, negD_i, notD_b, outP, tTru, truD, tTruO, dSeeL, dLenW, dFrzW, dAug, dForRev, dNever, dPop, dApp, y_tp, y_tj, y_tt, c.lo hp, mul_s (i := 2) (j := lg n) (by omega) (by omega) (by omega) (by omega), crd]
  | lower => simp [W5.s, C_left_credit, D_left_credit, T_left_credit, fnD, dSeq, dStore, dIf, dSet, dSetL, dRet, dRetL, dRetO, dAsg, gTupD, gConsD, gNilD, gNameD, dPar, dExpr, dBin, dUn, dBinO, dVar, dC, dIxW, dFrz, dCall, dCallS, dCallL, dCons, dNil, dTup, dLst, dGuard, dOfL, dSkip, dBi, dIfE, dIfL, dCatL, dChain, dAnd, dOr, tAnd2, tOr2, tNot1, tB1, isOwn, atI, ixN, ixD, lenD, addE_i, subD_i, geD_i, gtD_i, leD_i, ltD_i, negD_i, notD_b, outP, tTru, truD, tTruO, dSeeL, dLenW, dFrzW, dAug, dForRev, dNever, dPop, dApp, y_lp, y_lj, y_lt, A, mul_s (i := 2) (j := lg (n + 1)) (by omega) (by omega) (by omega) (by omega), crd]
  | drop => simp [W5.s, C_left_credit, D_left_credit, T_left_credit, fnD, dSeq, dStore, dIf, dSet, dSetL, dRet, dRetL, dRetO, dAsg, gTupD, gConsD, gNilD, gNameD, dPar, dExpr, dBin, dUn, dBinO, dVar, dC, dIxW, dFrz, dCall, dCallS, dCallL, dCons, dNil, dTup, dLst, dGuard, dOfL, dSkip, dBi, dIfE, dIfL, dCatL, dChain, dAnd, dOr, tAnd2, tOr2, tNot1, tB1, isOwn, atI, ixN, ixD, lenD, addE_i, subD_i, geD_i, gtD_i, leD_i, ltD_i, negD_i, notD_b, outP, tTru, truD, tTruO, dSeeL, dLenW, dFrzW, dAug, dForRev, dNever, dPop, dApp, y_dp, y_dj, y_dt, A, mul_s (i := 2) (j := lg (n + 1)) (by omega) (by omega) (by omega) (by omega), crd]
theorem run_skew (w : W5) (hw : w.early = true ∨ 0 < n) : C_skew_credit [.im (.str w.s), .im (.int n), .im (.int m)] = some (.int (crd .skew w n m), [.im (.str w.s), .im (.int n), .im (.int m)]) := by
  have c := nums (i := n) (by omega) (by omega)
  have c1 := c.l0; have c2 := c.l1
  cases w with
  | put => simp [W5.s, C_skew_credit, D_skew_credit, T_skew_credit, fnD, dSeq, dStore, dIf, dSet, dSetL, dRet, dRetL, dRetO, dAsg, gTupD, gConsD, gNilD, gNameD, dPar, dExpr, dBin, dUn, dBinO, dVar, dC, dIxW, dFrz, dCall, dCallS, dCallL, dCons, dNil, dTup, dLst, dGuard, dOfL, dSkip, dBi, dIfE, dIfL, dCatL, dChain, dAnd, dOr, tAnd2, tOr2, tNot1, tB1, isOwn, atI, ixN, ixD, lenD, addE_i, subD_i, geD_i, gtD_i, leD_i, ltD_i, negD_i, notD_b, outP, tTru, truD, tTruO, dSeeL, dLenW, dFrzW, dAug, dForRev, dNever, dPop, dApp, y_pp, run_meet h0 h1 (show (0 : Int) ≤ 1 by decide) (show (1 : Int) < 301 by decide), crd]
  | join => simp [W5.s, C_skew_credit, D_skew_credit, T_skew_credit, fnD, dSeq, dStore, dIf, dSet, dSetL, dRet, dRetL, dRetO, dAsg, gTupD, gConsD, gNilD, gNameD, dPar, dExpr, dBin, dUn, dBinO, dVar, dC, dIxW, dFrz, dCall, dCallS, dCallL, dCons, dNil, dTup, dLst, dGuard, dOfL, dSkip, dBi, dIfE, dIfL, dCatL, dChain, dAnd, dOr, tAnd2, tOr2, tNot1, tB1, isOwn, atI, ixN, ixD, lenD, addE_i, subD_i, geD_i, gtD_i, leD_i, ltD_i, negD_i, notD_b, outP, tTru, truD, tTruO, dSeeL, dLenW, dFrzW, dAug, dForRev, dNever, dPop, dApp, y_jp, y_jj, run_meet h0 h1 g0 g1, crd]
  | take =>
    have hp : 0 < n := hw.resolve_left (by simp [W5.early])
    simp [W5.s, C_skew_credit, D_skew_credit, T_skew_credit, fnD, dSeq, dStore, dIf, dSet, dSetL, dRet, dRetL, dRetO, dAsg, gTupD, gConsD, gNilD, gNameD, dPar, dExpr, dBin, dUn, dBinO, dVar, dC, dIxW, dFrz, dCall, dCallS, dCallL, dCons, dNil, dTup, dLst, dGuard, dOfL, dSkip, dBi, dIfE, dIfL, dCatL, dChain, dAnd, dOr, tAnd2, tOr2, tNot1, tB1, isOwn, atI, ixN, ixD, lenD, addE_i, subD_i, geD_i, gtD_i, leD_i, ltD_i, negD_i, notD_b, outP, tTru, truD, tTruO, dSeeL, dLenW, dFrzW, dAug, dForRev, dNever, dPop, dApp, y_tp, y_tj, y_tt, c.lo hp, mul_s (i := 4) (j := lg n) (by omega) (by omega) (by omega) (by omega), crd]
  | lower =>
    have hp : 0 < n := hw.resolve_left (by simp [W5.early])
    simp [W5.s, C_skew_credit, D_skew_credit, T_skew_credit, fnD, dSeq, dStore, dIf, dSet, dSetL, dRet, dRetL, dRetO, dAsg, gTupD, gConsD, gNilD, gNameD, dPar, dExpr, dBin, dUn, dBinO, dVar, dC, dIxW, dFrz, dCall, dCallS, dCallL, dCons, dNil, dTup, dLst, dGuard, dOfL, dSkip, dBi, dIfE, dIfL, dCatL, dChain, dAnd, dOr, tAnd2, tOr2, tNot1, tB1, isOwn, atI, ixN, ixD, lenD, addE_i, subD_i, geD_i, gtD_i, leD_i, ltD_i, negD_i, notD_b, outP, tTru, truD, tTruO, dSeeL, dLenW, dFrzW, dAug, dForRev, dNever, dPop, dApp, y_lp, y_lj, y_lt, c.lo hp, mul_s (i := 5) (j := lg n) (by omega) (by omega) (by omega) (by omega), crd]
  | drop =>
    have hp : 0 < n := hw.resolve_left (by simp [W5.early])
    simp [W5.s, C_skew_credit, D_skew_credit, T_skew_credit, fnD, dSeq, dStore, dIf, dSet, dSetL, dRet, dRetL, dRetO, dAsg, gTupD, gConsD, gNilD, gNameD, dPar, dExpr, dBin, dUn, dBinO, dVar, dC, dIxW, dFrz, dCall, dCallS, dCallL, dCons, dNil, dTup, dLst, dGuard, dOfL, dSkip, dBi, dIfE, dIfL, dCatL, dChain, dAnd, dOr, tAnd2, tOr2, tNot1, tB1, isOwn, atI, ixN, ixD, lenD, addE_i, subD_i, geD_i, gtD_i, leD_i, ltD_i, negD_i, notD_b, outP, tTru, truD, tTruO, dSeeL, dLenW, dFrzW, dAug, dForRev, dNever, dPop, dApp, y_dp, y_dj, y_dt, c.lo hp, mul_s (i := 5) (j := lg n) (by omega) (by omega) (by omega) (by omega), crd]
omit g0 g1 in
theorem run_count (w : W5) (he : w.early = false) (hp : 0 < n) : C_count_credit [.im (.str w.s), .im (.int n)] = some (.int (crd .count w n m), [.im (.str w.s), .im (.int n)]) := by
  have c := nums (i := n) (by omega) (by omega)
  have c1 := c.l0; have c2 := c.l1
  cases w with
  | put => cases he
  | join => cases he
  | take => simp [W5.s, C_count_credit, D_count_credit, T_count_credit, fnD, dSeq, dStore, dIf, dSet, dSetL, dRet, dRetL, dRetO, dAsg, gTupD, gConsD, gNilD, gNameD, dPar, dExpr, dBin, dUn, dBinO, dVar, dC, dIxW, dFrz, dCall, dCallS, dCallL, dCons, dNil, dTup, dLst, dGuard, dOfL, dSkip, dBi, dIfE, dIfL, dCatL, dChain, dAnd, dOr, tAnd2, tOr2, tNot1, tB1, isOwn, atI, ixN, ixD, lenD, addE_i, subD_i, geD_i, gtD_i, leD_i, ltD_i, negD_i, notD_b, outP, tTru, truD, tTruO, dSeeL, dLenW, dFrzW, dAug, dForRev, dNever, dPop, dApp, y_tt, c.lo hp, crd]
  | lower => simp [W5.s, C_count_credit, D_count_credit, T_count_credit, fnD, dSeq, dStore, dIf, dSet, dSetL, dRet, dRetL, dRetO, dAsg, gTupD, gConsD, gNilD, gNameD, dPar, dExpr, dBin, dUn, dBinO, dVar, dC, dIxW, dFrz, dCall, dCallS, dCallL, dCons, dNil, dTup, dLst, dGuard, dOfL, dSkip, dBi, dIfE, dIfL, dCatL, dChain, dAnd, dOr, tAnd2, tOr2, tNot1, tB1, isOwn, atI, ixN, ixD, lenD, addE_i, subD_i, geD_i, gtD_i, leD_i, ltD_i, negD_i, notD_b, outP, tTru, truD, tTruO, dSeeL, dLenW, dFrzW, dAug, dForRev, dNever, dPop, dApp, y_lt, y_ll, c.lo hp, crd]
  | drop => simp [W5.s, C_count_credit, D_count_credit, T_count_credit, fnD, dSeq, dStore, dIf, dSet, dSetL, dRet, dRetL, dRetO, dAsg, gTupD, gConsD, gNilD, gNameD, dPar, dExpr, dBin, dUn, dBinO, dVar, dC, dIxW, dFrz, dCall, dCallS, dCallL, dCons, dNil, dTup, dLst, dGuard, dOfL, dSkip, dBi, dIfE, dIfL, dCatL, dChain, dAnd, dOr, tAnd2, tOr2, tNot1, tB1, isOwn, atI, ixN, ixD, lenD, addE_i, subD_i, geD_i, gtD_i, leD_i, ltD_i, negD_i, notD_b, outP, tTru, truD, tTruO, dSeeL, dLenW, dFrzW, dAug, dForRev, dNever, dPop, dApp, y_dt, y_dl, c.lo hp, mul_s (i := 2) (j := lg n) (by omega) (by omega) (by omega) (by omega), crd]
omit g0 g1 in
theorem run_cut (w : W5) (he : w.early = false) (hp : 0 < n) : C_cut_credit [.im (.str w.s), .im (.int n)] = some (.int (crd .cut w n m), [.im (.str w.s), .im (.int n)]) := by
  have c := nums (i := n) (by omega) (by omega)
  cases w with
  | put => cases he
  | join => cases he
  | take => simp [W5.s, C_cut_credit, D_cut_credit, T_cut_credit, fnD, dSeq, dStore, dIf, dSet, dSetL, dRet, dRetL, dRetO, dAsg, gTupD, gConsD, gNilD, gNameD, dPar, dExpr, dBin, dUn, dBinO, dVar, dC, dIxW, dFrz, dCall, dCallS, dCallL, dCons, dNil, dTup, dLst, dGuard, dOfL, dSkip, dBi, dIfE, dIfL, dCatL, dChain, dAnd, dOr, tAnd2, tOr2, tNot1, tB1, isOwn, atI, ixN, ixD, lenD, addE_i, subD_i, geD_i, gtD_i, leD_i, ltD_i, negD_i, notD_b, outP, tTru, truD, tTruO, dSeeL, dLenW, dFrzW, dAug, dForRev, dNever, dPop, dApp, y_tt, c.mc, crd]
  | lower => simp [W5.s, C_cut_credit, D_cut_credit, T_cut_credit, fnD, dSeq, dStore, dIf, dSet, dSetL, dRet, dRetL, dRetO, dAsg, gTupD, gConsD, gNilD, gNameD, dPar, dExpr, dBin, dUn, dBinO, dVar, dC, dIxW, dFrz, dCall, dCallS, dCallL, dCons, dNil, dTup, dLst, dGuard, dOfL, dSkip, dBi, dIfE, dIfL, dCatL, dChain, dAnd, dOr, tAnd2, tOr2, tNot1, tB1, isOwn, atI, ixN, ixD, lenD, addE_i, subD_i, geD_i, gtD_i, leD_i, ltD_i, negD_i, notD_b, outP, tTru, truD, tTruO, dSeeL, dLenW, dFrzW, dAug, dForRev, dNever, dPop, dApp, y_lt, y_ll, crd]
  | drop => simp [W5.s, C_cut_credit, D_cut_credit, T_cut_credit, fnD, dSeq, dStore, dIf, dSet, dSetL, dRet, dRetL, dRetO, dAsg, gTupD, gConsD, gNilD, gNameD, dPar, dExpr, dBin, dUn, dBinO, dVar, dC, dIxW, dFrz, dCall, dCallS, dCallL, dCons, dNil, dTup, dLst, dGuard, dOfL, dSkip, dBi, dIfE, dIfL, dCatL, dChain, dAnd, dOr, tAnd2, tOr2, tNot1, tB1, isOwn, atI, ixN, ixD, lenD, addE_i, subD_i, geD_i, gtD_i, leD_i, ltD_i, negD_i, notD_b, outP, tTru, truD, tTruO, dSeeL, dLenW, dFrzW, dAug, dForRev, dNever, dPop, dApp, y_dt, y_dl, c.mc, crd]
theorem run_credit (k : K4) (w : W5) (hw : w.early = true ∨ 0 < n) : C_credit [.im (.str k.s), .im (.str w.s), .im (.int n), .im (.int m)] = some (.int (crd k w n m), [.im (.str k.s), .im (.str w.s), .im (.int n), .im (.int m)]) := by
  cases k with
  | left => simp [K4.s, C_credit, D_credit, T_credit, fnD, dSeq, dStore, dIf, dSet, dSetL, dRet, dRetL, dRetO, dAsg, gTupD, gConsD, gNilD, gNameD, dPar, dExpr, dBin, dUn, dBinO, dVar, dC, dIxW, dFrz, dCall, dCallS, dCallL, dCons, dNil, dTup, dLst, dGuard, dOfL, dSkip, dBi, dIfE, dIfL, dCatL, dChain, dAnd, dOr, tAnd2, tOr2, tNot1, tB1, isOwn, atI, ixN, ixD, lenD, addE_i, subD_i, geD_i, gtD_i, leD_i, ltD_i, negD_i, notD_b, outP, tTru, truD, tTruO, dSeeL, dLenW, dFrzW, dAug, dForRev, dNever, dPop, dApp, z_lp, z_ll, run_left h0 h1 g0 g1 w hw]
  | skew => simp [K4.s, C_credit, D_credit, T_credit, fnD, dSeq, dStore, dIf, dSet, dSetL, dRet, dRetL, dRetO, dAsg, gTupD, gConsD, gNilD, gNameD, dPar, dExpr, dBin, dUn, dBinO, dVar, dC, dIxW, dFrz, dCall, dCallS, dCallL, dCons, dNil, dTup, dLst, dGuard, dOfL, dSkip, dBi, dIfE, dIfL, dCatL, dChain, dAnd, dOr, tAnd2, tOr2, tNot1, tB1, isOwn, atI, ixN, ixD, lenD, addE_i, subD_i, geD_i, gtD_i, leD_i, ltD_i, negD_i, notD_b, outP, tTru, truD, tTruO, dSeeL, dLenW, dFrzW, dAug, dForRev, dNever, dPop, dApp, z_sp, z_sl, z_ss, run_skew h0 h1 g0 g1 w hw]
  | count =>
    cases w with
    | put => simp [K4.s, W5.s, C_credit, D_credit, T_credit, fnD, dSeq, dStore, dIf, dSet, dSetL, dRet, dRetL, dRetO, dAsg, gTupD, gConsD, gNilD, gNameD, dPar, dExpr, dBin, dUn, dBinO, dVar, dC, dIxW, dFrz, dCall, dCallS, dCallL, dCons, dNil, dTup, dLst, dGuard, dOfL, dSkip, dBi, dIfE, dIfL, dCatL, dChain, dAnd, dOr, tAnd2, tOr2, tNot1, tB1, isOwn, atI, ixN, ixD, lenD, addE_i, subD_i, geD_i, gtD_i, leD_i, ltD_i, negD_i, notD_b, outP, tTru, truD, tTruO, dSeeL, dLenW, dFrzW, dAug, dForRev, dNever, dPop, dApp, z_cp, z_cl, z_cs, y_pp, crd]
    | join => simp [K4.s, W5.s, C_credit, D_credit, T_credit, fnD, dSeq, dStore, dIf, dSet, dSetL, dRet, dRetL, dRetO, dAsg, gTupD, gConsD, gNilD, gNameD, dPar, dExpr, dBin, dUn, dBinO, dVar, dC, dIxW, dFrz, dCall, dCallS, dCallL, dCons, dNil, dTup, dLst, dGuard, dOfL, dSkip, dBi, dIfE, dIfL, dCatL, dChain, dAnd, dOr, tAnd2, tOr2, tNot1, tB1, isOwn, atI, ixN, ixD, lenD, addE_i, subD_i, geD_i, gtD_i, leD_i, ltD_i, negD_i, notD_b, outP, tTru, truD, tTruO, dSeeL, dLenW, dFrzW, dAug, dForRev, dNever, dPop, dApp, z_cp, z_cl, z_cs, y_jp, y_jj, crd]
    | take =>
      have r := run_count (m := m) h0 h1 .take rfl (hw.resolve_left (by simp [W5.early]))
      simp only [W5.s] at r
      simp [K4.s, W5.s, C_credit, D_credit, T_credit, fnD, dSeq, dStore, dIf, dSet, dSetL, dRet, dRetL, dRetO, dAsg, gTupD, gConsD, gNilD, gNameD, dPar, dExpr, dBin, dUn, dBinO, dVar, dC, dIxW, dFrz, dCall, dCallS, dCallL, dCons, dNil, dTup, dLst, dGuard, dOfL, dSkip, dBi, dIfE, dIfL, dCatL, dChain, dAnd, dOr, tAnd2, tOr2, tNot1, tB1, isOwn, atI, ixN, ixD, lenD, addE_i, subD_i, geD_i, gtD_i, leD_i, ltD_i, negD_i, notD_b, outP, tTru, truD, tTruO, dSeeL, dLenW, dFrzW, dAug, dForRev, dNever, dPop, dApp, z_cp, z_cl, z_cs, z_cc, y_tp, y_tj, r]
    | lower =>
      have r := run_count (m := m) h0 h1 .lower rfl (hw.resolve_left (by simp [W5.early]))
      simp only [W5.s] at r
      simp [K4.s, W5.s, C_credit, D_credit, T_credit, fnD, dSeq, dStore, dIf, dSet, dSetL, dRet, dRetL, dRetO, dAsg, gTupD, gConsD, gNilD, gNameD, dPar, dExpr, dBin, dUn, dBinO, dVar, dC, dIxW, dFrz, dCall, dCallS, dCallL, dCons, dNil, dTup, dLst, dGuard, dOfL, dSkip, dBi, dIfE, dIfL, dCatL, dChain, dAnd, dOr, tAnd2, tOr2, tNot1, tB1, isOwn, atI, ixN, ixD, lenD, addE_i, subD_i, geD_i, gtD_i, leD_i, ltD_i, negD_i, notD_b, outP, tTru, truD, tTruO, dSeeL, dLenW, dFrzW, dAug, dForRev, dNever, dPop, dApp, z_cp, z_cl, z_cs, z_cc, y_lp, y_lj, r]
    | drop =>
      have r := run_count (m := m) h0 h1 .drop rfl (hw.resolve_left (by simp [W5.early]))
      simp only [W5.s] at r
      simp [K4.s, W5.s, C_credit, D_credit, T_credit, fnD, dSeq, dStore, dIf, dSet, dSetL, dRet, dRetL, dRetO, dAsg, gTupD, gConsD, gNilD, gNameD, dPar, dExpr, dBin, dUn, dBinO, dVar, dC, dIxW, dFrz, dCall, dCallS, dCallL, dCons, dNil, dTup, dLst, dGuard, dOfL, dSkip, dBi, dIfE, dIfL, dCatL, dChain, dAnd, dOr, tAnd2, tOr2, tNot1, tB1, isOwn, atI, ixN, ixD, lenD, addE_i, subD_i, geD_i, gtD_i, leD_i, ltD_i, negD_i, notD_b, outP, tTru, truD, tTruO, dSeeL, dLenW, dFrzW, dAug, dForRev, dNever, dPop, dApp, z_cp, z_cl, z_cs, z_cc, y_dp, y_dj, r]
  | cut =>
    cases w with
    | put => simp [K4.s, W5.s, C_credit, D_credit, T_credit, fnD, dSeq, dStore, dIf, dSet, dSetL, dRet, dRetL, dRetO, dAsg, gTupD, gConsD, gNilD, gNameD, dPar, dExpr, dBin, dUn, dBinO, dVar, dC, dIxW, dFrz, dCall, dCallS, dCallL, dCons, dNil, dTup, dLst, dGuard, dOfL, dSkip, dBi, dIfE, dIfL, dCatL, dChain, dAnd, dOr, tAnd2, tOr2, tNot1, tB1, isOwn, atI, ixN, ixD, lenD, addE_i, subD_i, geD_i, gtD_i, leD_i, ltD_i, negD_i, notD_b, outP, tTru, truD, tTruO, dSeeL, dLenW, dFrzW, dAug, dForRev, dNever, dPop, dApp, z_tp, z_tl, z_ts, y_pp, crd]
    | join => simp [K4.s, W5.s, C_credit, D_credit, T_credit, fnD, dSeq, dStore, dIf, dSet, dSetL, dRet, dRetL, dRetO, dAsg, gTupD, gConsD, gNilD, gNameD, dPar, dExpr, dBin, dUn, dBinO, dVar, dC, dIxW, dFrz, dCall, dCallS, dCallL, dCons, dNil, dTup, dLst, dGuard, dOfL, dSkip, dBi, dIfE, dIfL, dCatL, dChain, dAnd, dOr, tAnd2, tOr2, tNot1, tB1, isOwn, atI, ixN, ixD, lenD, addE_i, subD_i, geD_i, gtD_i, leD_i, ltD_i, negD_i, notD_b, outP, tTru, truD, tTruO, dSeeL, dLenW, dFrzW, dAug, dForRev, dNever, dPop, dApp, z_tp, z_tl, z_ts, y_jp, y_jj, crd]
    | take =>
      have r := run_cut (m := m) h0 h1 .take rfl (hw.resolve_left (by simp [W5.early]))
      simp only [W5.s] at r
      simp [K4.s, W5.s, C_credit, D_credit, T_credit, fnD, dSeq, dStore, dIf, dSet, dSetL, dRet, dRetL, dRetO, dAsg, gTupD, gConsD, gNilD, gNameD, dPar, dExpr, dBin, dUn, dBinO, dVar, dC, dIxW, dFrz, dCall, dCallS, dCallL, dCons, dNil, dTup, dLst, dGuard, dOfL, dSkip, dBi, dIfE, dIfL, dCatL, dChain, dAnd, dOr, tAnd2, tOr2, tNot1, tB1, isOwn, atI, ixN, ixD, lenD, addE_i, subD_i, geD_i, gtD_i, leD_i, ltD_i, negD_i, notD_b, outP, tTru, truD, tTruO, dSeeL, dLenW, dFrzW, dAug, dForRev, dNever, dPop, dApp, z_tp, z_tl, z_ts, z_tc, y_tp, y_tj, r]
    | lower =>
      have r := run_cut (m := m) h0 h1 .lower rfl (hw.resolve_left (by simp [W5.early]))
      simp only [W5.s] at r
      simp [K4.s, W5.s, C_credit, D_credit, T_credit, fnD, dSeq, dStore, dIf, dSet, dSetL, dRet, dRetL, dRetO, dAsg, gTupD, gConsD, gNilD, gNameD, dPar, dExpr, dBin, dUn, dBinO, dVar, dC, dIxW, dFrz, dCall, dCallS, dCallL, dCons, dNil, dTup, dLst, dGuard, dOfL, dSkip, dBi, dIfE, dIfL, dCatL, dChain, dAnd, dOr, tAnd2, tOr2, tNot1, tB1, isOwn, atI, ixN, ixD, lenD, addE_i, subD_i, geD_i, gtD_i, leD_i, ltD_i, negD_i, notD_b, outP, tTru, truD, tTruO, dSeeL, dLenW, dFrzW, dAug, dForRev, dNever, dPop, dApp, z_tp, z_tl, z_ts, z_tc, y_lp, y_lj, r]
    | drop =>
      have r := run_cut (m := m) h0 h1 .drop rfl (hw.resolve_left (by simp [W5.early]))
      simp only [W5.s] at r
      simp [K4.s, W5.s, C_credit, D_credit, T_credit, fnD, dSeq, dStore, dIf, dSet, dSetL, dRet, dRetL, dRetO, dAsg, gTupD, gConsD, gNilD, gNameD, dPar, dExpr, dBin, dUn, dBinO, dVar, dC, dIxW, dFrz, dCall, dCallS, dCallL, dCons, dNil, dTup, dLst, dGuard, dOfL, dSkip, dBi, dIfE, dIfL, dCatL, dChain, dAnd, dOr, tAnd2, tOr2, tNot1, tB1, isOwn, atI, ixN, ixD, lenD, addE_i, subD_i, geD_i, gtD_i, leD_i, ltD_i, negD_i, notD_b, outP, tTru, truD, tTruO, dSeeL, dLenW, dFrzW, dAug, dForRev, dNever, dPop, dApp, z_tp, z_tl, z_ts, z_tc, y_dp, y_dj, r]
end
end My
namespace My
open PySem L2
section
variable {n m : Int} (h0 : 0 ≤ n) (h1 : n < 301) (g0 : 0 ≤ m) (g1 : m < 301)
include h0 h1 g0 g1
theorem due_left (w : W5) (hw : w.early = true ∨ 0 < n) : C__law_due [.im (.str "left"), .im (.str w.s), .im (.int n), .im (.int m)] = some (.int (crd .left w n m), [.im (.str "left"), .im (.str w.s), .im (.int n), .im (.int m)]) := by
  have a := nums (i := n + 1) (by omega) (by omega)
  have b := nums (i := m + 1) (by omega) (by omega)
  have hm1 : (0 : Int) ≤ (if (1 : Int) > n then 1 else n) ∧ (if (1 : Int) > n then 1 else n) < 301 := by split <;> omega
  have c := nums (i := if (1 : Int) > n then 1 else n) hm1.1 (by omega)
  have a1 := a.l0; have a2 := a.l1; have c1 := c.l0; have c2 := c.l1
  have q1 := mul_s (i := 2) (j := lg (n + 1)) (by omega) (by omega) (by omega) (by omega)
  have q2 := mul_s (i := 2) (j := lg (if (1 : Int) > n then 1 else n)) (by omega) (by omega) (by omega) (by omega)
  have q3 := mul_s (i := n) (j := m) (by omega) (by omega) (by omega) (by omega)
  have emax : maxD [.int n, .int 1] = some (.int (if (1 : Int) > n then 1 else n)) := rfl
  have cl := c.ll
  have hmx : 0 < n → (if (1 : Int) > n then 1 else n) = n := fun h => if_neg (by omega)
  generalize (if (1 : Int) > n then 1 else n) = mx at *
  have eT : tabD ["put", "join", "take"] [.int (lg (n + 1)), .int (if n = 0 ∨ m = 0 then 0 else lg (n + 1) + lg (m + 1) - 1), .int (2 * lg mx)] w.s (.int (2 * lg (n + 1))) = .int (crd .left w n m) := by
    cases w with
    | put => rfl
    | join => rfl
    | take =>
      have hp : 0 < n := hw.resolve_left (by simp [W5.early])
      rw [hmx hp]
      rfl
    | lower => rfl
    | drop => rfl
  have key : ∀ j : Int, j = (if n = 0 ∨ m = 0 then 0 else lg (n + 1) + lg (m + 1) - 1) → dTab ["put", "join", "take"] (dCons (dVar 5) (dCons (dVar 4) (dCons (dBin mulD (dC (.int 2)) (dCall C__law_log (dCons (dBi maxD (dCons (dVar 2) (dCons (dC (.int 1)) dNil))) dNil))) dNil))) (dVar 1) (dBin mulD (dC (.int 2)) (dVar 5))
      [some (.im (.str "left")), some (.im (.str w.s)), some (.im (.int n)), some (.im (.int m)), some (.im (.int j)), some (.im (.int (lg (n + 1)))), none] = some (.int (crd .left w n m), [some (.im (.str "left")), some (.im (.str w.s)), some (.im (.int n)), some (.im (.int m)), some (.im (.int j)), some (.im (.int (lg (n + 1)))), none]) := by
    intro j hj
    subst hj
    rw [← eT]
    simp [dTab, retag, retag1, untag, untag1, dCons, dVar, dBin, dC, dCall, dBi, dNil, emax, cl, q1, q2]
  by_cases hz : n = 0 ∨ m = 0
  · have e0 : (n * m == 0) = true := by
      rcases hz with rfl | rfl <;> simp
    have k := key 0 (if_pos hz).symm
    simp [C__law_due, D__law_due, T__law_due, fnD, dSeq, dStore, dIf, dSet, dSetL, dRet, dRetL, dRetO, dAsg, gTupD, gConsD, gNilD, gNameD, dPar, dExpr, dBin, dUn, dBinO, dVar, dC, dIxW, dFrz, dCall, dCallS, dCallL, dCons, dNil, dTup, dLst, dGuard, dOfL, dSkip, dBi, dIfE, dIfL, dCatL, dChain, dAnd, dOr, tAnd2, tOr2, tNot1, tB1, isOwn, atI, ixN, ixD, lenD, addE_i, subD_i, geD_i, gtD_i, leD_i, ltD_i, negD_i, notD_b, outP, tTru, truD, tTruO, dSeeL, dLenW, dFrzW, dAug, dForRev, dNever, dPop, dApp, z_ll, q3, eq_i, e0, a.ll, k]
  · have e0 : (n * m == 0) = false := by
      have : n * m ≠ 0 := fun e => hz (Int.mul_eq_zero.mp e)
      simpa using this
    have k := key _ (if_neg hz).symm
    simp [C__law_due, D__law_due, T__law_due, fnD, dSeq, dStore, dIf, dSet, dSetL, dRet, dRetL, dRetO, dAsg, gTupD, gConsD, gNilD, gNameD, dPar, dExpr, dBin, dUn, dBinO, dVar, dC, dIxW, dFrz, dCall, dCallS, dCallL, dCons, dNil, dTup, dLst, dGuard, dOfL, dSkip, dBi, dIfE, dIfL, dCatL, dChain, dAnd, dOr, tAnd2, tOr2, tNot1, tB1, isOwn, atI, ixN, ixD, lenD, addE_i, subD_i, geD_i, gtD_i, leD_i, ltD_i, negD_i, notD_b, outP, tTru, truD, tTruO, dSeeL, dLenW, dFrzW, dAug, dForRev, dNever, dPop, dApp, z_ll, q3, eq_i, e0, a.ll, b.ll, k]
theorem due_skew (w : W5) (hw : w.early = true ∨ 0 < n) : C__law_due [.im (.str "skew"), .im (.str w.s), .im (.int n), .im (.int m)] = some (.int (crd .skew w n m), [.im (.str "skew"), .im (.str w.s), .im (.int n), .im (.int m)]) := by
  have c := nums (i := n) (by omega) (by omega)
  have b := nums (i := m) (by omega) (by omega)
  have o := nums (i := 1) (by omega) (by omega)
  have c1 := c.l0; have c2 := c.l1; have b1 := b.l0; have b2 := b.l1; have o1 := o.l0; have o2 := o.l1
  have q1 := mul_s (i := 2) (j := lg n) (by omega) (by omega) (by omega) (by omega)
  have q2 := mul_s (i := 2) (j := lg m) (by omega) (by omega) (by omega) (by omega)
  have q3 := mul_s (i := n) (j := m) (by omega) (by omega) (by omega) (by omega)
  have q4 := mul_s (i := 4) (j := lg n) (by omega) (by omega) (by omega) (by omega)
  have q5 := mul_s (i := 5) (j := lg n) (by omega) (by omega) (by omega) (by omega)
  have q6 := mul_s (i := n) (j := 1) (by omega) (by omega) (by omega) (by omega)
  have q7 := mul_s (i := 2) (j := lg 1) (by omega) (by omega) (by omega) (by omega)
  rw [Int.mul_one] at q6
  cases w with
  | put =>
    by_cases hn : n = 0
    · subst hn
      simp [W5.s, C__law_due, D__law_due, T__law_due, fnD, dSeq, dStore, dIf, dSet, dSetL, dRet, dRetL, dRetO, dAsg, gTupD, gConsD, gNilD, gNameD, dPar, dExpr, dBin, dUn, dBinO, dVar, dC, dIxW, dFrz, dCall, dCallS, dCallL, dCons, dNil, dTup, dLst, dGuard, dOfL, dSkip, dBi, dIfE, dIfL, dCatL, dChain, dAnd, dOr, tAnd2, tOr2, tNot1, tB1, isOwn, atI, ixN, ixD, lenD, addE_i, subD_i, geD_i, gtD_i, leD_i, ltD_i, negD_i, notD_b, outP, tTru, truD, tTruO, dSeeL, dLenW, dFrzW, dAug, dForRev, dNever, dPop, dApp, z_sl, z_ss, i_p, y_pp, q6, eq_i, crd]
    · simp [W5.s, C__law_due, D__law_due, T__law_due, fnD, dSeq, dStore, dIf, dSet, dSetL, dRet, dRetL, dRetO, dAsg, gTupD, gConsD, gNilD, gNameD, dPar, dExpr, dBin, dUn, dBinO, dVar, dC, dIxW, dFrz, dCall, dCallS, dCallL, dCons, dNil, dTup, dLst, dGuard, dOfL, dSkip, dBi, dIfE, dIfL, dCatL, dChain, dAnd, dOr, tAnd2, tOr2, tNot1, tB1, isOwn, atI, ixN, ixD, lenD, addE_i, subD_i, geD_i, gtD_i, leD_i, ltD_i, negD_i, notD_b, outP, tTru, truD, tTruO, dSeeL, dLenW, dFrzW, dAug, dForRev, dNever, dPop, dApp, z_sl, z_ss, i_p, y_pp, q6, eq_i, hn, beq0 hn, c.ll, o.ll, q1, q7, crd]
  | join =>
    by_cases hz : n = 0 ∨ m = 0
    · have e0 : (n * m == 0) = true := by
        rcases hz with rfl | rfl <;> simp
      simp [W5.s, C__law_due, D__law_due, T__law_due, fnD, dSeq, dStore, dIf, dSet, dSetL, dRet, dRetL, dRetO, dAsg, gTupD, gConsD, gNilD, gNameD, dPar, dExpr, dBin, dUn, dBinO, dVar, dC, dIxW, dFrz, dCall, dCallS, dCallL, dCons, dNil, dTup, dLst, dGuard, dOfL, dSkip, dBi, dIfE, dIfL, dCatL, dChain, dAnd, dOr, tAnd2, tOr2, tNot1, tB1, isOwn, atI, ixN, ixD, lenD, addE_i, subD_i, geD_i, gtD_i, leD_i, ltD_i, negD_i, notD_b, outP, tTru, truD, tTruO, dSeeL, dLenW, dFrzW, dAug, dForRev, dNever, dPop, dApp, z_sl, z_ss, i_j, y_jp, q3, eq_i, e0, hz, crd]
    · have e0 : (n * m == 0) = false := by
        have : n * m ≠ 0 := fun e => hz (Int.mul_eq_zero.mp e)
        simpa using this
      have hc : crd .skew .join n m = 2 * lg n + 2 * lg m + 3 := if_neg hz
      simp [W5.s, C__law_due, D__law_due, T__law_due, fnD, dSeq, dStore, dIf, dSet, dSetL, dRet, dRetL, dRetO, dAsg, gTupD, gConsD, gNilD, gNameD, dPar, dExpr, dBin, dUn, dBinO, dVar, dC, dIxW, dFrz, dCall, dCallS, dCallL, dCons, dNil, dTup, dLst, dGuard, dOfL, dSkip, dBi, dIfE, dIfL, dCatL, dChain, dAnd, dOr, tAnd2, tOr2, tNot1, tB1, isOwn, atI, ixN, ixD, lenD, addE_i, subD_i, geD_i, gtD_i, leD_i, ltD_i, negD_i, notD_b, outP, tTru, truD, tTruO, dSeeL, dLenW, dFrzW, dAug, dForRev, dNever, dPop, dApp, z_sl, z_ss, i_j, y_jp, q3, eq_i, e0, c.ll, b.ll, q1, q2, hc]
  | take => simp [W5.s, C__law_due, D__law_due, T__law_due, fnD, dSeq, dStore, dIf, dSet, dSetL, dRet, dRetL, dRetO, dAsg, gTupD, gConsD, gNilD, gNameD, dPar, dExpr, dBin, dUn, dBinO, dVar, dC, dIxW, dFrz, dCall, dCallS, dCallL, dCons, dNil, dTup, dLst, dGuard, dOfL, dSkip, dBi, dIfE, dIfL, dCatL, dChain, dAnd, dOr, tAnd2, tOr2, tNot1, tB1, isOwn, atI, ixN, ixD, lenD, addE_i, subD_i, geD_i, gtD_i, leD_i, ltD_i, negD_i, notD_b, outP, tTru, truD, tTruO, dSeeL, dLenW, dFrzW, dAug, dForRev, dNever, dPop, dApp, z_sl, z_ss, i_t, y_tt, c.ll, q4, crd]
  | lower => simp [W5.s, C__law_due, D__law_due, T__law_due, fnD, dSeq, dStore, dIf, dSet, dSetL, dRet, dRetL, dRetO, dAsg, gTupD, gConsD, gNilD, gNameD, dPar, dExpr, dBin, dUn, dBinO, dVar, dC, dIxW, dFrz, dCall, dCallS, dCallL, dCons, dNil, dTup, dLst, dGuard, dOfL, dSkip, dBi, dIfE, dIfL, dCatL, dChain, dAnd, dOr, tAnd2, tOr2, tNot1, tB1, isOwn, atI, ixN, ixD, lenD, addE_i, subD_i, geD_i, gtD_i, leD_i, ltD_i, negD_i, notD_b, outP, tTru, truD, tTruO, dSeeL, dLenW, dFrzW, dAug, dForRev, dNever, dPop, dApp, z_sl, z_ss, i_l, y_lt, c.ll, q5, crd]
  | drop => simp [W5.s, C__law_due, D__law_due, T__law_due, fnD, dSeq, dStore, dIf, dSet, dSetL, dRet, dRetL, dRetO, dAsg, gTupD, gConsD, gNilD, gNameD, dPar, dExpr, dBin, dUn, dBinO, dVar, dC, dIxW, dFrz, dCall, dCallS, dCallL, dCons, dNil, dTup, dLst, dGuard, dOfL, dSkip, dBi, dIfE, dIfL, dCatL, dChain, dAnd, dOr, tAnd2, tOr2, tNot1, tB1, isOwn, atI, ixN, ixD, lenD, addE_i, subD_i, geD_i, gtD_i, leD_i, ltD_i, negD_i, notD_b, outP, tTru, truD, tTruO, dSeeL, dLenW, dFrzW, dAug, dForRev, dNever, dPop, dApp, z_sl, z_ss, i_d, y_dt, c.ll, q5, crd]
theorem due_count (w : W5) (hw : w.early = true ∨ 0 < n) : C__law_due [.im (.str "count"), .im (.str w.s), .im (.int n), .im (.int m)] = some (.int (crd .count w n m), [.im (.str "count"), .im (.str w.s), .im (.int n), .im (.int m)]) := by
  have c := nums (i := n) (by omega) (by omega)
  have c1 := c.l0; have c2 := c.l1
  have q1 := mul_s (i := 2) (j := lg n) (by omega) (by omega) (by omega) (by omega)
  have i1 : intD (.bool true) = some (.int 1) := rfl
  have i0 : intD (.bool false) = some (.int 0) := rfl
  have key : w.early = false → dTab ["take", "lower"] (dCons (dBin subD (dCall C__law_log (dCons (dVar 2) dNil)) (dC (.int 1))) (dCons (dCall C__law_log (dCons (dVar 2) dNil)) dNil)) (dVar 1) (dBin subD (dBin mulD (dC (.int 2)) (dCall C__law_log (dCons (dVar 2) dNil))) (dC (.int 1)))
      [some (.im (.str "count")), some (.im (.str w.s)), some (.im (.int n)), some (.im (.int m)), none, none, none] = some (.int (crd .count w n m), [some (.im (.str "count")), some (.im (.str w.s)), some (.im (.int n)), some (.im (.int m)), none, none, none]) := by
    intro he
    have eT : tabD ["take", "lower"] [.int (lg n - 1), .int (lg n)] w.s (.int (2 * lg n - 1)) = .int (crd .count w n m) := by
      cases w with
      | put => cases he
      | join => cases he
      | take => rfl
      | lower => rfl
      | drop => rfl
    rw [← eT]
    simp [dTab, retag, retag1, untag, untag1, dCons, dVar, dBin, dC, dCall, dBi, dNil, c.ll, q1, subD_i]
  cases w with
  | put => simp [W5.s, C__law_due, D__law_due, T__law_due, fnD, dSeq, dStore, dIf, dSet, dSetL, dRet, dRetL, dRetO, dAsg, gTupD, gConsD, gNilD, gNameD, dPar, dExpr, dBin, dUn, dBinO, dVar, dC, dIxW, dFrz, dCall, dCallS, dCallL, dCons, dNil, dTup, dLst, dGuard, dOfL, dSkip, dBi, dIfE, dIfL, dCatL, dChain, dAnd, dOr, tAnd2, tOr2, tNot1, tB1, isOwn, atI, ixN, ixD, lenD, addE_i, subD_i, geD_i, gtD_i, leD_i, ltD_i, negD_i, notD_b, outP, tTru, truD, tTruO, dSeeL, dLenW, dFrzW, dAug, dForRev, dNever, dPop, dApp, z_cl, z_cs, i_p, y_pp, i1, crd]
  | join => simp [W5.s, C__law_due, D__law_due, T__law_due, fnD, dSeq, dStore, dIf, dSet, dSetL, dRet, dRetL, dRetO, dAsg, gTupD, gConsD, gNilD, gNameD, dPar, dExpr, dBin, dUn, dBinO, dVar, dC, dIxW, dFrz, dCall, dCallS, dCallL, dCons, dNil, dTup, dLst, dGuard, dOfL, dSkip, dBi, dIfE, dIfL, dCatL, dChain, dAnd, dOr, tAnd2, tOr2, tNot1, tB1, isOwn, atI, ixN, ixD, lenD, addE_i, subD_i, geD_i, gtD_i, leD_i, ltD_i, negD_i, notD_b, outP, tTru, truD, tTruO, dSeeL, dLenW, dFrzW, dAug, dForRev, dNever, dPop, dApp, z_cl, z_cs, i_j, y_jp, i0, crd]
  | take => simp only [W5.s] at key; simp [W5.s, C__law_due, D__law_due, T__law_due, fnD, dSeq, dStore, dIf, dSet, dSetL, dRet, dRetL, dRetO, dAsg, gTupD, gConsD, gNilD, gNameD, dPar, dExpr, dBin, dUn, dBinO, dVar, dC, dIxW, dFrz, dCall, dCallS, dCallL, dCons, dNil, dTup, dLst, dGuard, dOfL, dSkip, dBi, dIfE, dIfL, dCatL, dChain, dAnd, dOr, tAnd2, tOr2, tNot1, tB1, isOwn, atI, ixN, ixD, lenD, addE_i, subD_i, geD_i, gtD_i, leD_i, ltD_i, negD_i, notD_b, outP, tTru, truD, tTruO, dSeeL, dLenW, dFrzW, dAug, dForRev, dNever, dPop, dApp, z_cl, z_cs, z_cc, i_t, key rfl]
  | lower => simp only [W5.s] at key; simp [W5.s, C__law_due, D__law_due, T__law_due, fnD, dSeq, dStore, dIf, dSet, dSetL, dRet, dRetL, dRetO, dAsg, gTupD, gConsD, gNilD, gNameD, dPar, dExpr, dBin, dUn, dBinO, dVar, dC, dIxW, dFrz, dCall, dCallS, dCallL, dCons, dNil, dTup, dLst, dGuard, dOfL, dSkip, dBi, dIfE, dIfL, dCatL, dChain, dAnd, dOr, tAnd2, tOr2, tNot1, tB1, isOwn, atI, ixN, ixD, lenD, addE_i, subD_i, geD_i, gtD_i, leD_i, ltD_i, negD_i, notD_b, outP, tTru, truD, tTruO, dSeeL, dLenW, dFrzW, dAug, dForRev, dNever, dPop, dApp, z_cl, z_cs, z_cc, i_l, key rfl]
  | drop => simp only [W5.s] at key; simp [W5.s, C__law_due, D__law_due, T__law_due, fnD, dSeq, dStore, dIf, dSet, dSetL, dRet, dRetL, dRetO, dAsg, gTupD, gConsD, gNilD, gNameD, dPar, dExpr, dBin, dUn, dBinO, dVar, dC, dIxW, dFrz, dCall, dCallS, dCallL, dCons, dNil, dTup, dLst, dGuard, dOfL, dSkip, dBi, dIfE, dIfL, dCatL, dChain, dAnd, dOr, tAnd2, tOr2, tNot1, tB1, isOwn, atI, ixN, ixD, lenD, addE_i, subD_i, geD_i, gtD_i, leD_i, ltD_i, negD_i, notD_b, outP, tTru, truD, tTruO, dSeeL, dLenW, dFrzW, dAug, dForRev, dNever, dPop, dApp, z_cl, z_cs, z_cc, i_d, key rfl]
theorem due_cut (w : W5) (hw : w.early = true ∨ 0 < n) : C__law_due [.im (.str "cut"), .im (.str w.s), .im (.int n), .im (.int m)] = some (.int (crd .cut w n m), [.im (.str "cut"), .im (.str w.s), .im (.int n), .im (.int m)]) := by
  have c := nums (i := n) (by omega) (by omega)
  have i1 : intD (.bool true) = some (.int 1) := rfl
  have i0 : intD (.bool false) = some (.int 0) := rfl
  have key : w.early = false → dTab ["take", "lower"] (dCons (dBin subD (dCall C__law_top (dCons (dVar 2) dNil)) (dC (.int 1))) (dCons (dC (.int 4)) dNil)) (dVar 1) (dBin addE (dCall C__law_top (dCons (dVar 2) dNil)) (dC (.int 3)))
      [some (.im (.str "cut")), some (.im (.str w.s)), some (.im (.int n)), some (.im (.int m)), none, none, none] = some (.int (crd .cut w n m), [some (.im (.str "cut")), some (.im (.str w.s)), some (.im (.int n)), some (.im (.int m)), none, none, none]) := by
    intro he
    have hp : 0 < n := hw.resolve_left (by rw [he]; exact fun z => nomatch z)
    have eT : tabD ["take", "lower"] [.int (tp n - 1), .int 4] w.s (.int (tp n + 3)) = .int (crd .cut w n m) := by
      cases w with
      | put => cases he
      | join => cases he
      | take => rfl
      | lower => rfl
      | drop => rfl
    rw [← eT]
    simp [dTab, retag, retag1, untag, untag1, dCons, dVar, dBin, dC, dCall, dBi, dNil, c.lt hp, subD_i, addE_i]
  cases w with
  | put => simp [W5.s, C__law_due, D__law_due, T__law_due, fnD, dSeq, dStore, dIf, dSet, dSetL, dRet, dRetL, dRetO, dAsg, gTupD, gConsD, gNilD, gNameD, dPar, dExpr, dBin, dUn, dBinO, dVar, dC, dIxW, dFrz, dCall, dCallS, dCallL, dCons, dNil, dTup, dLst, dGuard, dOfL, dSkip, dBi, dIfE, dIfL, dCatL, dChain, dAnd, dOr, tAnd2, tOr2, tNot1, tB1, isOwn, atI, ixN, ixD, lenD, addE_i, subD_i, geD_i, gtD_i, leD_i, ltD_i, negD_i, notD_b, outP, tTru, truD, tTruO, dSeeL, dLenW, dFrzW, dAug, dForRev, dNever, dPop, dApp, z_tl, z_ts, i_p, y_pp, i1, crd]
  | join => simp [W5.s, C__law_due, D__law_due, T__law_due, fnD, dSeq, dStore, dIf, dSet, dSetL, dRet, dRetL, dRetO, dAsg, gTupD, gConsD, gNilD, gNameD, dPar, dExpr, dBin, dUn, dBinO, dVar, dC, dIxW, dFrz, dCall, dCallS, dCallL, dCons, dNil, dTup, dLst, dGuard, dOfL, dSkip, dBi, dIfE, dIfL, dCatL, dChain, dAnd, dOr, tAnd2, tOr2, tNot1, tB1, isOwn, atI, ixN, ixD, lenD, addE_i, subD_i, geD_i, gtD_i, leD_i, ltD_i, negD_i, notD_b, outP, tTru, truD, tTruO, dSeeL, dLenW, dFrzW, dAug, dForRev, dNever, dPop, dApp, z_tl, z_ts, i_j, y_jp, i0, crd]
  | take => simp only [W5.s] at key; simp [W5.s, C__law_due, D__law_due, T__law_due, fnD, dSeq, dStore, dIf, dSet, dSetL, dRet, dRetL, dRetO, dAsg, gTupD, gConsD, gNilD, gNameD, dPar, dExpr, dBin, dUn, dBinO, dVar, dC, dIxW, dFrz, dCall, dCallS, dCallL, dCons, dNil, dTup, dLst, dGuard, dOfL, dSkip, dBi, dIfE, dIfL, dCatL, dChain, dAnd, dOr, tAnd2, tOr2, tNot1, tB1, isOwn, atI, ixN, ixD, lenD, addE_i, subD_i, geD_i, gtD_i, leD_i, ltD_i, negD_i, notD_b, outP, tTru, truD, tTruO, dSeeL, dLenW, dFrzW, dAug, dForRev, dNever, dPop, dApp, z_tl, z_ts, z_tc, i_t, key rfl]
  | lower => simp only [W5.s] at key; simp [W5.s, C__law_due, D__law_due, T__law_due, fnD, dSeq, dStore, dIf, dSet, dSetL, dRet, dRetL, dRetO, dAsg, gTupD, gConsD, gNilD, gNameD, dPar, dExpr, dBin, dUn, dBinO, dVar, dC, dIxW, dFrz, dCall, dCallS, dCallL, dCons, dNil, dTup, dLst, dGuard, dOfL, dSkip, dBi, dIfE, dIfL, dCatL, dChain, dAnd, dOr, tAnd2, tOr2, tNot1, tB1, isOwn, atI, ixN, ixD, lenD, addE_i, subD_i, geD_i, gtD_i, leD_i, ltD_i, negD_i, notD_b, outP, tTru, truD, tTruO, dSeeL, dLenW, dFrzW, dAug, dForRev, dNever, dPop, dApp, z_tl, z_ts, z_tc, i_l, key rfl]
  | drop => simp only [W5.s] at key; simp [W5.s, C__law_due, D__law_due, T__law_due, fnD, dSeq, dStore, dIf, dSet, dSetL, dRet, dRetL, dRetO, dAsg, gTupD, gConsD, gNilD, gNameD, dPar, dExpr, dBin, dUn, dBinO, dVar, dC, dIxW, dFrz, dCall, dCallS, dCallL, dCons, dNil, dTup, dLst, dGuard, dOfL, dSkip, dBi, dIfE, dIfL, dCatL, dChain, dAnd, dOr, tAnd2, tOr2, tNot1, tB1, isOwn, atI, ixN, ixD, lenD, addE_i, subD_i, geD_i, gtD_i, leD_i, ltD_i, negD_i, notD_b, outP, tTru, truD, tTruO, dSeeL, dLenW, dFrzW, dAug, dForRev, dNever, dPop, dApp, z_tl, z_ts, z_tc, i_d, key rfl]
theorem run_due (k : K4) (w : W5) (hw : w.early = true ∨ 0 < n) : C__law_due [.im (.str k.s), .im (.str w.s), .im (.int n), .im (.int m)] = some (.int (crd k w n m), [.im (.str k.s), .im (.str w.s), .im (.int n), .im (.int m)]) := by
  cases k with
  | left => exact due_left h0 h1 g0 g1 w hw
  | skew => exact due_skew h0 h1 g0 g1 w hw
  | count => exact due_count h0 h1 g0 g1 w hw
  | cut => exact due_cut h0 h1 g0 g1 w hw
end
end My
namespace My
open PySem L2
def kinds4 : TDE := (dTup (dCons (dC (.str "left")) (dCons (dC (.str "skew")) (dCons (dC (.str "count")) (dCons (dC (.str "cut")) dNil)))))
def words5 : TDE := (dTup (dCons (dC (.str "put")) (dCons (dC (.str "join")) (dCons (dC (.str "take")) (dCons (dC (.str "lower")) (dCons (dC (.str "drop")) dNil))))))
def lawB3 : TDS := (dIf (tOr2 (tB1 (dBin gtD (dVar 4) (dC (.int 0)))) (tB1 (dBin (inD false) (dVar 7) (dTup (dCons (dC (.str "put")) (dCons (dC (.str "join")) dNil)))))) (dSeq (dSet 8 (dCall C__law_due (dCons (dVar 6) (dCons (dVar 7) (dCons (dVar 4) (dCons (dVar 5) dNil)))))) (dSeq (dIf (tNot1 (tTru (dCall (C__law_same 40) (dCons (dCallK 3 C_credit (dCons (dVar 6) (dCons (dVar 7) (dCons (dVar 4) dNil))) (dVar 5)) (dCons (dVar 8) dNil))))) (dRet (dC (.bool false))) dSkip) (dIf (tAnd2 (tB1 (dBin neX (dVar 7) (dC (.str "join")))) (tNot1 (tTru (dCall (C__law_same 40) (dCons (dCallD C_credit (dCons (dVar 6) (dCons (dVar 7) (dCons (dVar 4) dNil))) (.int 0)) (dCons (dVar 8) dNil)))))) (dRet (dC (.bool false))) dSkip))) dSkip)
def lawB2 : TDS := (dSeq (dForS words5 (gNameD 7) lawB3) (dIf (tB1 (dBin neX (dCallD C_credit (dCons (dVar 6) (dCons (dC (.str "join")) (dCons (dVar 4) dNil))) (.int 0)) (dCall C__law_due (dCons (dVar 6) (dCons (dC (.str "join")) (dCons (dVar 4) (dCons (dC (.int 0)) dNil))))))) (dRet (dC (.bool false))) dSkip))
def lawB1 : TDS := (dSeq (dSet 5 (dCallS C__law_one_of 1 (dCons (dVar 2) dNil))) (dSeq (dForS kinds4 (gNameD 6) lawB2) (dIf (tB1 (dBin neX (dTold [4] CT_law_t0 CU_law_t0) (dC (.str "NoCredit")))) (dRet (dC (.bool false))) dSkip)))
theorem take_ok {n size : Int} {ds : List D} {tag : Nat} (hs : Src n ds) (h0 : 0 ≤ n) (h1 : n < 2 ^ 60) (z0 : 0 < size) (z1 : size < 1073741824) :
    ∃ v es, 0 ≤ v ∧ v < size ∧ Src (n + 1) es ∧ C__law_take [.own (some tag) ds, .im (.int size)] = some (.int v, [.own (some tag) es, .im (.int size)]) := run_take hs h0 h1 z0 z1
theorem one_ok {n : Int} {ds xs : List D} {tag : Nat} (hs : Src n ds) (h0 : 0 ≤ n) (h1 : n < 2 ^ 60) (hx : xs ≠ []) (hl : xs.length < 1000000) :
    ∃ x es, x ∈ xs ∧ Src (n + 1) es ∧ C__law_one_of [.own (some tag) ds, .im (.list xs)] = some (x, [.own (some tag) es, .im (.list xs)]) := by
  have hp : 0 < xs.length := List.length_pos_iff.mpr hx
  obtain ⟨v, es, a1, a2, a3, a4⟩ := take_ok (tag := 0) (size := (xs.length : Int)) hs h0 h1 (by omega) (by omega)
  obtain ⟨k, rfl⟩ := Int.eq_ofNat_of_zero_le a1
  have hk : k < xs.length := by omega
  refine ⟨xs[k], es, List.getElem_mem hk, a3, ?_⟩
  have e1 : atI xs (k : Int) = some xs[k] := by
    simp [atI, ixN, hk]
  simp [C__law_one_of, D__law_one_of, T__law_one_of, fnD, dRet, dBin, dVar, dCallS, dCons, dNil, dBi, lenD, a4, ixD, e1, outP]
theorem sort_int (i : Int) : C__law_sort [.im (.int i)] = some (.str "number", [.im (.int i)]) := by
  simp [C__law_sort, D__law_sort, T__law_sort, fnD, dSeq, dStore, dIf, dSet, dSetL, dRet, dRetL, dRetO, dAsg, gTupD, gConsD, gNilD, gNameD, dPar, dExpr, dBin, dUn, dBinO, dVar, dC, dIxW, dFrz, dCall, dCallS, dCallL, dCons, dNil, dTup, dLst, dGuard, dOfL, dSkip, dBi, dIfE, dIfL, dCatL, dChain, dAnd, dOr, tAnd2, tOr2, tNot1, tB1, isOwn, atI, ixN, ixD, lenD, addE_i, subD_i, geD_i, gtD_i, leD_i, ltD_i, negD_i, notD_b, outP, tTru, truD, tTruO, dSeeL, dLenW, dFrzW, dAug, dForRev, dNever, dPop, dApp, kindD]
theorem num_ne : neX (.str "number") (.str "number") = some (.bool false) := by kernel_rfl
theorem same_int (i : Int) : C__law_same 40 [.im (.int i), .im (.int i)] = some (.bool true, [.im (.int i), .im (.int i)]) := by
  have e : eqX (.int i) (.int i) = some (.bool true) := by rw [eq_i]; simp
  simp [C__law_same, D__law_same, T__law_same, fnD, dSeq, dStore, dIf, dSet, dSetL, dRet, dRetL, dRetO, dAsg, gTupD, gConsD, gNilD, gNameD, dPar, dExpr, dBin, dUn, dBinO, dVar, dC, dIxW, dFrz, dCall, dCallS, dCallL, dCons, dNil, dTup, dLst, dGuard, dOfL, dSkip, dBi, dIfE, dIfL, dCatL, dChain, dAnd, dOr, tAnd2, tOr2, tNot1, tB1, isOwn, atI, ixN, ixD, lenD, addE_i, subD_i, geD_i, gtD_i, leD_i, ltD_i, negD_i, notD_b, outP, tTru, truD, tTruO, dSeeL, dLenW, dFrzW, dAug, dForRev, dNever, dPop, dApp, sort_int, num_ne, kindD, e]
theorem x_p : neX (.str "put") (.str "join") = some (.bool true) := by kernel_rfl
theorem x_j : neX (.str "join") (.str "join") = some (.bool false) := by kernel_rfl
theorem x_t : neX (.str "take") (.str "join") = some (.bool true) := by kernel_rfl
theorem x_l : neX (.str "lower") (.str "join") = some (.bool true) := by kernel_rfl
theorem x_d : neX (.str "drop") (.str "join") = some (.bool true) := by kernel_rfl
theorem n_n : neX (.str "NoCredit") (.str "NoCredit") = some (.bool false) := by kernel_rfl
theorem e_n : eqX (.str "NoCredit") (.str "NoCredit") = some (.bool true) := by kernel_rfl
theorem in_w (w : W5) : inD false (.str w.s) (.tuple [.str "put", .str "join"]) = some (.bool w.early) := by
  cases w with
  | put => exact i_p
  | join => exact i_j
  | take => exact i_t
  | lower => exact i_l
  | drop => exact i_d
def W5.isJ : W5 → Bool | .join => true | _ => false
theorem ne_j (w : W5) : neX (.str w.s) (.str "join") = some (.bool (!w.isJ)) := by
  cases w with
  | put => exact x_p
  | join => exact x_j
  | take => exact x_t
  | lower => exact x_l
  | drop => exact x_d
theorem crd_m (k : K4) (w : W5) (n m : Int) (h : w.isJ = false) : crd k w n 0 = crd k w n m := by
  cases k <;> cases w <;> first | rfl | cases h
section
variable {n m : Int} (h0 : 0 ≤ n) (h1 : n < 301) (g0 : 0 ≤ m) (g1 : m < 301) {s0 s1 s2 s3 : Option Sl}
include h0 h1 g0 g1
theorem run_B3 (k : K4) (w : W5) (s8 : Option Sl) : ∃ x8, lawB3 [s0, s1, s2, s3, some (.im (.int n)), some (.im (.int m)), some (.im (.str k.s)), some (.im (.str w.s)), s8] = some (.nx [s0, s1, s2, s3, some (.im (.int n)), some (.im (.int m)), some (.im (.str k.s)), some (.im (.str w.s)), x8]) := by
  by_cases hw : w.early = true ∨ 0 < n
  · have d := run_due h0 h1 g0 g1 k w hw
    have c := run_credit h0 h1 g0 g1 k w hw
    have c0 := run_credit h0 h1 (show (0 : Int) ≤ 0 by decide) (show (0 : Int) < 301 by decide) k w hw
    have ht : (decide (0 < n) || w.early) = true := by
      rcases hw with z | z
      · rw [z, Bool.or_true]
      · rw [decide_eq_true z, Bool.true_or]
    have sm := same_int (crd k w n m)
    refine ⟨some (.im (.int (crd k w n m))), ?_⟩
    have et : tOr2 (tB1 (dBin gtD (dVar 4) (dC (.int 0)))) (tB1 (dBin (inD false) (dVar 7) (dTup (dCons (dC (.str "put")) (dCons (dC (.str "join")) dNil))))) [s0, s1, s2, s3, some (.im (.int n)), some (.im (.int m)), some (.im (.str k.s)), some (.im (.str w.s)), s8] = some (true, [s0, s1, s2, s3, some (.im (.int n)), some (.im (.int m)), some (.im (.str k.s)), some (.im (.str w.s)), s8]) := by
      rw [e_or (b := decide (0 < n)) (ρ1 := [s0, s1, s2, s3, some (.im (.int n)), some (.im (.int m)), some (.im (.str k.s)), some (.im (.str w.s)), s8]) (by simp [tB1, dBin, dVar, dC, gtD_i])]
      by_cases hp : 0 < n
      · simp [hp]
      · have he : w.early = true := hw.resolve_right hp
        simp [hp, tB1, dBin, dVar, dTup, dCons, dC, dNil, in_w, he]
    unfold lawB3
    rw [e_ifT et]
    rw [e_seq (e_set (e_call (ρ := [s0, s1, s2, s3, some (.im (.int n)), some (.im (.int m)), some (.im (.str k.s)), some (.im (.str w.s)), s8]) (ρ1 := [s0, s1, s2, s3, some (.im (.int n)), some (.im (.int m)), some (.im (.str k.s)), some (.im (.str w.s)), s8]) (r := [.im (.str k.s), .im (.str w.s), .im (.int n), .im (.int m)]) (ds := [.str k.s, .str w.s, .int n, .int m]) (by simp [dCons, dVar, dNil]) d))]
    rw [e_seq (ρ1 := [s0, s1, s2, s3, some (.im (.int n)), some (.im (.int m)), some (.im (.str k.s)), some (.im (.str w.s)), some (.im (.int (crd k w n m)))]) (by
      simp [dIf, tNot1, tTru, dCall, dCallK, dCons, dVar, dNil, c, sm, truD, dSkip])]
    cases hj : w.isJ with
    | true =>
      have := ne_j w
      rw [hj] at this
      simp [dIf, tAnd2, tB1, dBin, dVar, dC, this, dSkip]
    | false =>
      have := ne_j w
      rw [hj] at this
      rw [crd_m k w n m hj] at c0
      simp [dIf, tAnd2, tB1, tNot1, tTru, dCall, dCallD, dCons, dBin, dVar, dC, dNil, this, c0, sm, truD, dSkip]
  · have hp : ¬ 0 < n := fun z => hw (.inr z)
    have he : w.early = false := by
      cases h : w.early with
      | true => exact absurd (Or.inl h) hw
      | false => rfl
    refine ⟨s8, ?_⟩
    unfold lawB3
    rw [e_ifF (ρ1 := [s0, s1, s2, s3, some (.im (.int n)), some (.im (.int m)), some (.im (.str k.s)), some (.im (.str w.s)), s8]) (by
      rw [e_or (b := decide (0 < n)) (ρ1 := [s0, s1, s2, s3, some (.im (.int n)), some (.im (.int m)), some (.im (.str k.s)), some (.im (.str w.s)), s8]) (by simp [tB1, dBin, dVar, dC, gtD_i])]
      simp [hp, tB1, dBin, dVar, dTup, dCons, dC, dNil, in_w, he])]
    rfl
theorem run_words (k : K4) : ∀ (ws : List W5) (s7 s8 : Option Sl), ∃ x7 x8, forD (gNameD 7) lawB3 (ws.map fun w => .str w.s) [s0, s1, s2, s3, some (.im (.int n)), some (.im (.int m)), some (.im (.str k.s)), s7, s8] = some (.nx [s0, s1, s2, s3, some (.im (.int n)), some (.im (.int m)), some (.im (.str k.s)), x7, x8])
  | [], s7, s8 => ⟨s7, s8, rfl⟩
  | w :: ws, s7, s8 => by
    obtain ⟨y8, e⟩ := run_B3 h0 h1 g0 g1 (s0 := s0) (s1 := s1) (s2 := s2) (s3 := s3) k w s8
    obtain ⟨x7, x8, e'⟩ := run_words k ws (some (.im (.str w.s))) y8
    refine ⟨x7, x8, ?_⟩
    rw [List.map_cons]
    generalize lawB3 = B at e e' ⊢
    unfold forD
    simp only [gNameD, List.set_cons_succ, List.set_cons_zero, e]
    exact e'
theorem run_B2 (k : K4) (s7 s8 : Option Sl) : ∃ x7 x8, lawB2 [s0, s1, s2, s3, some (.im (.int n)), some (.im (.int m)), some (.im (.str k.s)), s7, s8] = some (.nx [s0, s1, s2, s3, some (.im (.int n)), some (.im (.int m)), some (.im (.str k.s)), x7, x8]) := by
  obtain ⟨x7, x8, e⟩ := run_words h0 h1 g0 g1 (s0 := s0) (s1 := s1) (s2 := s2) (s3 := s3) k [.put, .join, .take, .lower, .drop] s7 s8
  refine ⟨x7, x8, ?_⟩
  have c0 := run_credit h0 h1 (show (0 : Int) ≤ 0 by decide) (show (0 : Int) < 301 by decide) k .join (.inl rfl)
  have d0 := run_due h0 h1 (show (0 : Int) ≤ 0 by decide) (show (0 : Int) < 301 by decide) k .join (.inl rfl)
  simp only [W5.s] at c0 d0
  have en : neX (.int (crd k .join n 0)) (.int (crd k .join n 0)) = some (.bool false) := by
    show some (PyData.bool (!(crd k .join n 0 == crd k .join n 0))) = _
    simp
  unfold lawB2
  rw [e_seq (ρ1 := [s0, s1, s2, s3, some (.im (.int n)), some (.im (.int m)), some (.im (.str k.s)), x7, x8]) (by
    generalize lawB3 = B at e ⊢
    simp only [dForS, words5, dTup, dCons, dC, dNil, List.length_cons, List.length_nil]
    exact e)]
  simp [dIf, tB1, dBin, dCall, dCallD, dCons, dVar, dC, dNil, c0, d0, en, dSkip]
theorem run_kinds : ∀ (ks : List K4) (s6 s7 s8 : Option Sl), ∃ x6 x7 x8, forD (gNameD 6) lawB2 (ks.map fun k => .str k.s) [s0, s1, s2, s3, some (.im (.int n)), some (.im (.int m)), s6, s7, s8] = some (.nx [s0, s1, s2, s3, some (.im (.int n)), some (.im (.int m)), x6, x7, x8])
  | [], s6, s7, s8 => ⟨s6, s7, s8, rfl⟩
  | k :: ks, s6, s7, s8 => by
    obtain ⟨y7, y8, e⟩ := run_B2 h0 h1 g0 g1 (s0 := s0) (s1 := s1) (s2 := s2) (s3 := s3) k s7 s8
    obtain ⟨x6, x7, x8, e'⟩ := run_kinds ks (some (.im (.str k.s))) y7 y8
    refine ⟨x6, x7, x8, ?_⟩
    rw [List.map_cons]
    generalize lawB2 = B at e e' ⊢
    unfold forD
    simp only [gNameD, List.set_cons_succ, List.set_cons_zero, e]
    exact e'
end
theorem nc_in : ("NoCredit" : Str) ∈ words := by decide
theorem told0 (n : Int) : (CT_law_t0 [some (.im (.int n))] = none) ∧ CU_law_t0 [some (.im (.int n))] = some "NoCredit" := by
  constructor
  · simp [CT_law_t0, T_law_t0, dCallD, C_credit, D_credit, T_credit, fnD, dSeq, dStore, dIf, dSet, dSetL, dRet, dRetL, dRetO, dAsg, gTupD, gConsD, gNilD, gNameD, dPar, dExpr, dBin, dUn, dBinO, dVar, dC, dIxW, dFrz, dCall, dCallS, dCallL, dCons, dNil, dTup, dLst, dGuard, dOfL, dSkip, dBi, dIfE, dIfL, dCatL, dChain, dAnd, dOr, tAnd2, tOr2, tNot1, tB1, isOwn, atI, ixN, ixD, lenD, addE_i, subD_i, geD_i, gtD_i, leD_i, ltD_i, negD_i, notD_b, outP, tTru, truD, tTruO, dSeeL, dLenW, dFrzW, dAug, dForRev, dNever, dPop, dApp, maxD, z_pp]
  · simp [CU_law_t0, U_law_t0, xCallD, CR_credit, RD_credit, UD_credit, fnR, xIf, fnD, dSeq, dStore, dIf, dSet, dSetL, dRet, dRetL, dRetO, dAsg, gTupD, gConsD, gNilD, gNameD, dPar, dExpr, dBin, dUn, dBinO, dVar, dC, dIxW, dFrz, dCall, dCallS, dCallL, dCons, dNil, dTup, dLst, dGuard, dOfL, dSkip, dBi, dIfE, dIfL, dCatL, dChain, dAnd, dOr, tAnd2, tOr2, tNot1, tB1, isOwn, atI, ixN, ixD, lenD, addE_i, subD_i, geD_i, gtD_i, leD_i, ltD_i, negD_i, notD_b, outP, tTru, truD, tTruO, dSeeL, dLenW, dFrzW, dAug, dForRev, dNever, dPop, dApp, maxD, z_pp]
theorem told1 : (CT_law_t1 [] = none) ∧ CU_law_t1 [] = some "NoCredit" := by
  constructor
  · simp [CT_law_t1, T_law_t1, dCallK, C_credit, D_credit, T_credit, fnD, dSeq, dStore, dIf, dSet, dSetL, dRet, dRetL, dRetO, dAsg, gTupD, gConsD, gNilD, gNameD, dPar, dExpr, dBin, dUn, dBinO, dVar, dC, dIxW, dFrz, dCall, dCallS, dCallL, dCons, dNil, dTup, dLst, dGuard, dOfL, dSkip, dBi, dIfE, dIfL, dCatL, dChain, dAnd, dOr, tAnd2, tOr2, tNot1, tB1, isOwn, atI, ixN, ixD, lenD, addE_i, subD_i, geD_i, gtD_i, leD_i, ltD_i, negD_i, notD_b, outP, tTru, truD, tTruO, dSeeL, dLenW, dFrzW, dAug, dForRev, dNever, dPop, dApp, z_pp]
  · simp [CU_law_t1, U_law_t1, xCallK, CR_credit, RD_credit, UD_credit, fnR, xIf, fnD, dSeq, dStore, dIf, dSet, dSetL, dRet, dRetL, dRetO, dAsg, gTupD, gConsD, gNilD, gNameD, dPar, dExpr, dBin, dUn, dBinO, dVar, dC, dIxW, dFrz, dCall, dCallS, dCallL, dCons, dNil, dTup, dLst, dGuard, dOfL, dSkip, dBi, dIfE, dIfL, dCatL, dChain, dAnd, dOr, tAnd2, tOr2, tNot1, tB1, isOwn, atI, ixN, ixD, lenD, addE_i, subD_i, geD_i, gtD_i, leD_i, ltD_i, negD_i, notD_b, outP, tTru, truD, tTruO, dSeeL, dLenW, dFrzW, dAug, dForRev, dNever, dPop, dApp, z_pp]
def Few (d : D) : Prop := ∃ i : Int, d = .int i ∧ 0 ≤ i ∧ i < 301
theorem run_B1 {c : Int} {ds xs : List D} {n : Int} (s0 s3 : Option Sl) (h0 : 0 ≤ n) (h1 : n < 301) (hs : Src c ds) (hc0 : 0 ≤ c) (hc1 : c < 2 ^ 60) (hx : xs ≠ []) (hl : xs.length < 1000000) (hf : ∀ x ∈ xs, Few x) (s5 s6 s7 s8 : Option Sl) :
    ∃ es x5 x6 x7 x8, Src (c + 1) es ∧ lawB1 [s0, some (.own none ds), some (.im (.list xs)), s3, some (.im (.int n)), s5, s6, s7, s8] = some (.nx [s0, some (.own none es), some (.im (.list xs)), s3, some (.im (.int n)), x5, x6, x7, x8]) := by
  obtain ⟨x, es, a1, a2, a3⟩ := one_ok (tag := 0) hs hc0 hc1 hx hl
  obtain ⟨m, rfl, g0, g1⟩ := hf x a1
  obtain ⟨x6, x7, x8, e⟩ := run_kinds h0 h1 g0 g1 (s0 := s0) (s1 := some (.own none es)) (s2 := some (.im (.list xs))) (s3 := s3) [.left, .skew, .count, .cut] s6 s7 s8
  obtain ⟨t1, t2⟩ := told0 n
  refine ⟨es, some (.im (.int m)), x6, x7, x8, a2, ?_⟩
  unfold lawB1
  rw [e_seq (ρ1 := [s0, some (.own none es), some (.im (.list xs)), s3, some (.im (.int n)), some (.im (.int m)), s6, s7, s8]) (by
    simp [dSet, dCallS, dCons, dVar, dNil, a3])]
  rw [e_seq (ρ1 := [s0, some (.own none es), some (.im (.list xs)), s3, some (.im (.int n)), some (.im (.int m)), x6, x7, x8]) (by
    generalize lawB2 = B at e ⊢
    simp only [dForS, kinds4, dTup, dCons, dC, dNil, List.length_cons, List.length_nil]
    exact e)]
  simp [dIf, tB1, dBin, dTold, imAll, t1, t2, nc_in, dC, n_n, dSkip]
theorem law_loop {xs : List D} (s0 s3 : Option Sl) (hx : xs ≠ []) (hl : xs.length < 1000000) (hf : ∀ x ∈ xs, Few x) : ∀ (ys : List D), (∀ y ∈ ys, Few y) → ∀ (c : Int) (ds : List D), Src c ds → 0 ≤ c → c + ys.length < 2 ^ 60 → ∀ s4 s5 s6 s7 s8 : Option Sl,
    ∃ y1 y4 y5 y6 y7 y8, forD (gNameD 4) lawB1 ys [s0, some (.own none ds), some (.im (.list xs)), s3, s4, s5, s6, s7, s8] = some (.nx [s0, y1, some (.im (.list xs)), s3, y4, y5, y6, y7, y8])
  | [], _, c, ds, _, _, _, s4, s5, s6, s7, s8 => ⟨_, s4, s5, s6, s7, s8, rfl⟩
  | y :: ys, hy, c, ds, hs, hc0, hc1, s4, s5, s6, s7, s8 => by
    obtain ⟨n, rfl, n0, n1⟩ := hy y (.head _)
    rw [List.length_cons] at hc1
    obtain ⟨es, x5, x6, x7, x8, a, e⟩ := run_B1 s0 s3 n0 n1 hs hc0 (by omega) hx hl hf s5 s6 s7 s8
    obtain ⟨y1, y4, y5, y6, y7, y8, e'⟩ := law_loop s0 s3 hx hl hf ys (fun z hz => hy z (List.mem_cons_of_mem _ hz)) (c + 1) es a (by omega) (by omega) (some (.im (.int n))) x5 x6 x7 x8
    refine ⟨y1, y4, y5, y6, y7, y8, ?_⟩
    generalize lawB1 = B at e e' ⊢
    unfold forD
    simp only [gNameD, List.set_cons_succ, List.set_cons_zero, e]
    exact e'
theorem draws (d0 d2 : D) : ∀ (xs : List D) (c : Int) (ds : List D), Src c ds → 0 ≤ c → c + xs.length < 2 ^ 60 → ∃ ys es, ys.length = xs.length ∧ (∀ y ∈ ys, Few y) ∧ Src (c + xs.length) es ∧
    compD 3 tTrue (dCallS C__law_take 1 (dCons (dC (.int 300)) dNil)) xs [some (.im d0), some (.own none ds), some (.im d2), none, none, none, none, none, none] = some (ys, [some (.im d0), some (.own none es), some (.im d2), none, none, none, none, none, none])
  | [], c, ds, hs, _, _ => ⟨[], ds, rfl, (fun y hy => by cases hy), by simpa using hs, rfl⟩
  | x :: xs, c, ds, hs, h0, h1 => by
    rw [List.length_cons] at h1
    obtain ⟨v, es, v0, v1, s1, e⟩ := take_ok (tag := 0) (size := 300) hs h0 (by omega) (by decide) (by decide)
    obtain ⟨ys, fs, l, f, s2, e'⟩ := draws d0 d2 xs (c + 1) es s1 (by omega) (by omega)
    refine ⟨.int v :: ys, fs, by simp [l], fun y hy => ?_, ?_, ?_⟩
    · rcases List.mem_cons.mp hy with rfl | hy
      · exact ⟨v, rfl, v0, by omega⟩
      · exact f y hy
    · rw [List.length_cons, show c + ((xs.length + 1 : Nat) : Int) = c + 1 + xs.length by omega]
      exact s2
    · have e1 : frT tTrue [some (.im d0), some (.own none ds), some (.im d2), some (.im x), none, none, none, none, none] = some (true, [some (.im d0), some (.own none ds), some (.im d2), some (.im x), none, none, none, none, none]) := by
        simp [frT, tTrue, retag, retag1, untag, untag1]
      have e2 : frE (dCallS C__law_take 1 (dCons (dC (.int 300)) dNil)) [some (.im d0), some (.own none ds), some (.im d2), some (.im x), none, none, none, none, none] = some (.int v, [some (.im d0), some (.own none es), some (.im d2), some (.im x), none, none, none, none, none]) := by
        simp [frE, retag, retag1, untag, untag1, dCallS, dCons, dC, dNil, e]
      unfold compD
      simp only [List.set_cons_succ, List.set_cons_zero, e1, e2, e']
theorem run_source (c : Int) : ∃ q, CL__law_source [.im (.int c)] = some ([.int c, .int c, .int 0, .int 0], q) := ⟨_, by simp [E__law_source, T__law_source, fnL, fnD, dSeq, dStore, dIf, dSet, dSetL, dRet, dRetL, dRetO, dAsg, gTupD, gConsD, gNilD, gNameD, dPar, dExpr, dBin, dUn, dBinO, dVar, dC, dIxW, dFrz, dCall, dCallS, dCallL, dCons, dNil, dTup, dLst, dGuard, dOfL, dSkip, dBi, dIfE, dIfL, dCatL, dChain, dAnd, dOr, tAnd2, tOr2, tNot1, tB1, isOwn, atI, ixN, ixD, lenD, addE_i, subD_i, geD_i, gtD_i, leD_i, ltD_i, negD_i, notD_b, outP, tTru, truD, tTruO, dSeeL, dLenW, dFrzW, dAug, dForRev, dNever, dPop, dApp]; rfl⟩
theorem cell0 (ns : List Int) (h : ns.length ≤ 63) : ∃ c : Int, C__law_cell_at [.im (.list (ns.map PyData.int)), .im (.int 0)] = some (.int c, [.im (.list (ns.map PyData.int)), .im (.int 0)]) := by
  cases ns with
  | nil => exact ⟨0, by simp [C__law_cell_at, D__law_cell_at, T__law_cell_at, fnD, dSeq, dStore, dIf, dSet, dSetL, dRet, dRetL, dRetO, dAsg, gTupD, gConsD, gNilD, gNameD, dPar, dExpr, dBin, dUn, dBinO, dVar, dC, dIxW, dFrz, dCall, dCallS, dCallL, dCons, dNil, dTup, dLst, dGuard, dOfL, dSkip, dBi, dIfE, dIfL, dCatL, dChain, dAnd, dOr, tAnd2, tOr2, tNot1, tB1, isOwn, atI, ixN, ixD, lenD, addE_i, subD_i, geD_i, gtD_i, leD_i, ltD_i, negD_i, notD_b, outP, tTru, truD, tTruO, dSeeL, dLenW, dFrzW, dAug, dForRev, dNever, dPop, dApp]⟩
  | cons n r => exact ⟨n, by
      have : (0 : Int) < ((r.length + 1 : Nat) : Int) := by omega
      simp [C__law_cell_at, D__law_cell_at, T__law_cell_at, fnD, dSeq, dStore, dIf, dSet, dSetL, dRet, dRetL, dRetO, dAsg, gTupD, gConsD, gNilD, gNameD, dPar, dExpr, dBin, dUn, dBinO, dVar, dC, dIxW, dFrz, dCall, dCallS, dCallL, dCons, dNil, dTup, dLst, dGuard, dOfL, dSkip, dBi, dIfE, dIfL, dCatL, dChain, dAnd, dOr, tAnd2, tOr2, tNot1, tB1, isOwn, atI, ixN, ixD, lenD, addE_i, subD_i, geD_i, gtD_i, leD_i, ltD_i, negD_i, notD_b, outP, tTru, truD, tTruO, dSeeL, dLenW, dFrzW, dAug, dForRev, dNever, dPop, dApp]⟩
def base75 : List D := ((List.range 60).map fun i => PyData.int (i : Nat)) ++ [.int 63, .int 64, .int 65, .int 127, .int 128, .int 255, .int 256, .int 88, .int 89, .int 90, .int 143, .int 144, .int 232, .int 233, .int 299, .int 300]
theorem base_few : ∀ x ∈ base75, Few x := by
  intro x hx
  unfold base75 at hx
  rcases List.mem_append.mp hx with h | h
  · obtain ⟨i, hi, rfl⟩ := List.mem_map.mp h
    have := List.mem_range.mp hi
    exact ⟨_, rfl, by omega, by omega⟩
  · simp only [List.mem_cons, List.not_mem_nil, or_false] at h
    rcases h with rfl | rfl | rfl | rfl | rfl | rfl | rfl | rfl | rfl | rfl | rfl | rfl | rfl | rfl | rfl | rfl <;> exact ⟨_, rfl, by decide, by decide⟩
theorem run_base (ρ : Ro) : dBin addE (dOfL (dListG (dCons (dC (.int 60)) dNil))) (dLst (dCons (dC (.int 63)) (dCons (dC (.int 64)) (dCons (dC (.int 65)) (dCons (dC (.int 127)) (dCons (dC (.int 128)) (dCons (dC (.int 255)) (dCons (dC (.int 256)) (dCons (dC (.int 88)) (dCons (dC (.int 89)) (dCons (dC (.int 90)) (dCons (dC (.int 143)) (dCons (dC (.int 144)) (dCons (dC (.int 232)) (dCons (dC (.int 233)) (dCons (dC (.int 299)) (dCons (dC (.int 300)) dNil))))))))))))))))) ρ = some (.list base75, ρ) := by
  have e1 : rngD [.int 60] = some ((List.range 60).map fun i => PyData.int (i : Nat)) := by rfl
  simp [dBin, dOfL, dListG, dCons, dC, dNil, dLst, e1, addE, addD, base75]
theorem pure_law (ns : List Int) (h : ns.length ≤ 63) : ∃ q, C_law [.im (.list (ns.map PyData.int))] = some (.bool true, q) := by
  obtain ⟨c, ec⟩ := cell0 ns h
  obtain ⟨q, es⟩ := run_source c
  have hs : Src 0 [.int c, .int c, .int 0, .int 0] := ⟨_, _, _, rfl⟩
  have e9 : rngD [.int 9] = some ((List.range 9).map fun i => PyData.int (i : Nat)) := by rfl
  obtain ⟨ys, ds, yl, yf, s9, ed⟩ := draws (.list (ns.map PyData.int)) (.list base75) ((List.range 9).map fun i => PyData.int (i : Nat)) 0 _ hs (by decide) (by simp)
  have hf : ∀ x ∈ base75 ++ ys, Few x := fun x hx => (List.mem_append.mp hx).elim (base_few x) (yf x)
  have hl : (base75 ++ ys).length = 85 := by rw [List.length_append, yl]; rfl
  obtain ⟨y1, y4, y5, y6, y7, y8, el⟩ := law_loop (xs := base75 ++ ys) (some (.im (.list (ns.map PyData.int)))) none (by intro z; rw [z] at hl; cases hl) (by omega) hf (base75 ++ ys) hf _ ds s9 (by simp) (by rw [hl]; simp) none none none none none
  obtain ⟨t1, t2⟩ := told1
  refine ⟨[.im (.list (ns.map PyData.int))], ?_⟩
  have ea : C_law [.im (.list (ns.map PyData.int))] = fnD 1 8 ((dSeq (dSetL 1 (dCallL CL__law_source (dCons (dCall C__law_cell_at (dCons (dVar 0) (dCons (dC (.int 0)) dNil))) dNil))) (dSeq (dSet 2 (dBin addE (dOfL (dListG (dCons (dC (.int 60)) dNil))) (dLst (dCons (dC (.int 63)) (dCons (dC (.int 64)) (dCons (dC (.int 65)) (dCons (dC (.int 127)) (dCons (dC (.int 128)) (dCons (dC (.int 255)) (dCons (dC (.int 256)) (dCons (dC (.int 88)) (dCons (dC (.int 89)) (dCons (dC (.int 90)) (dCons (dC (.int 143)) (dCons (dC (.int 144)) (dCons (dC (.int 232)) (dCons (dC (.int 233)) (dCons (dC (.int 299)) (dCons (dC (.int 300)) dNil))))))))))))))))))) (dSeq (dSet 2 (dBin addE (dVar 2) (dOfL (dCompG 3 (rg1 (dCons (dC (.int 9)) dNil)) tTrue (dCallS C__law_take 1 (dCons (dC (.int 300)) dNil)))))) (dSeq (dForS (dVar 2) (gNameD 4) lawB1) (dRet (dBin eqX (dTold [] CT_law_t1 CU_law_t1) (dC (.str "NoCredit"))))))))) [.im (.list (ns.map PyData.int))] := rfl
  rw [ea]
  unfold fnD
  simp only [List.map_cons, List.map_nil, List.replicate, List.cons_append, List.nil_append, List.length_cons, List.length_nil]
  rw [if_pos trivial]
  rw [e_seq (ρ1 := [some (.im (.list (ns.map PyData.int))), some (.own none [.int c, .int c, .int 0, .int 0]), none, none, none, none, none, none, none]) (by
    simp [dSetL, dCallL, dCall, dCons, dVar, dC, dNil, ec, es])]
  rw [e_seq (e_set (run_base _))]
  rw [e_seq (ρ1 := [some (.im (.list (ns.map PyData.int))), some (.own none ds), some (.im (.list (base75 ++ ys))), none, none, none, none, none, none]) (by
    have ec9 : dCompG 3 (rg1 (dCons (dC (.int 9)) dNil)) tTrue (dCallS C__law_take 1 (dCons (dC (.int 300)) dNil)) [some (.im (.list (ns.map PyData.int))), some (.own none [.int c, .int c, .int 0, .int 0]), some (.im (.list base75)), none, none, none, none, none, none] = some (ys, [some (.im (.list (ns.map PyData.int))), some (.own none ds), some (.im (.list base75)), none, none, none, none, none, none]) := by
      have yl9 : ys.length ≤ 16777216 := by rw [yl]; decide
      simp only [dCompG, rg1, dCons, dC, dNil, e9, List.set_cons_succ, List.set_cons_zero, ed, if_pos yl9]
    have hl2 : base75.length + ys.length ≤ 16777216 := by rw [← List.length_append, hl]; decide
    simp only [List.set_cons_succ, List.set_cons_zero]
    simp [dSet, dBin, dVar, dOfL, ec9, addE, addD, hl2])]
  rw [e_seq (ρ1 := [some (.im (.list (ns.map PyData.int))), y1, some (.im (.list (base75 ++ ys))), none, y4, y5, y6, y7, y8]) (by
    unfold dForS
    simp only [dVar, List.getElem?_cons_succ, List.getElem?_cons_zero, seqD]
    exact el)]
  simp [dRet, dBin, dTold, imAll, t1, t2, nc_in, dC, e_n, outP]
end My
namespace My
open PySem PySem.Spec PyProof.Rows L2
theorem oup {P : Program} {w : World} {K : PySem.W.Frag} {mg : Str → Option Value} {base : Heap} {j k : Nat} {x : Str} {ps : List Str} {sp : Sp} (o : Ok P w K mg base j x ps sp) (h : j ≤ k) : Ok P w K mg base k x ps sp := by
  obtain ⟨f, fd, F, r⟩ := o.ex
  exact ⟨f, fd, F.mono h, r⟩
def spLaw (K : PySem.W.Frag) : Sp := fun vs H Q _ => ∃ (a : Addr) (ns : List Int), vs = [.ref a] ∧ SqL K H a (ns.map V.int) ∧ ns.length ≤ 63 ∧ ∀ H', Q (.bl true) H'
theorem rec__law_same {P : Program} {w : World} {K : PySem.W.Frag} {mg : Str → Option Value} {base : Heap} (D : Df K mg "_law_same" s__law_same ["told", "due"]) (g__law_sort : Ok P w K mg base 1 "_law_sort" ["thing"] (spD K C__law_sort)) (z_isinstance : mg "isinstance" = none) (z_tuple : mg "tuple" = none) (z_list : mg "list" = none) (z_len : mg "len" = none) (z_enumerate : mg "enumerate" = none) : ∀ n : Nat, Ok P w K mg base (n + 1) "_law_same" ["told", "due"] (spD K (C__law_same n))
  | 0 => ok_none D
  | n + 1 => by
    have ih := rec__law_same (P := P) (w := w) (base := base) D g__law_sort z_isinstance z_tuple z_list z_len z_enumerate n
    exact oup (ok__law_same (n := n + 0) D (oup g__law_sort (by omega)) ih z_isinstance z_tuple z_list z_len z_enumerate) (by omega)
set_option maxHeartbeats 0 in
theorem all_mk {l : PySem.W.OpenLaw} {w : World} {K : PySem.W.Frag} {h : Heap} {mg : Str → Option Value} {fa : Addr} (X : K.In h) (G : h.Ns mainGlobals mg) (hfa : mg "law" = some (.ref fa))
    {f0 : Addr} {od0 an0 : Option Addr} {sl0 : Array (Option Value)} {oc0 kV0 dc0 pm0 cd0 ct0 : Value}
    (a0 : PySem.W.nsIn K mainGlobals "_law_word" = some (some (.ref f0))) (l0 : K.lookup f0 = some ⟨oc0, od0, .func (PySem.W.fnOf "_law_word" "_law_word" (defArgs s__law_word) (defBody s__law_word) (defScope s__law_word) .none kV0 dc0 pm0 an0 cd0 ct0), sl0⟩) (c0 : PySem.W.codeIn K cd0 "_law_word" = true) (k0 : PySem.W.keepIn K (.ref f0) = true)
    {f1 : Addr} {od1 an1 : Option Addr} {sl1 : Array (Option Value)} {oc1 kV1 dc1 pm1 cd1 ct1 : Value}
    (a1 : PySem.W.nsIn K mainGlobals "_law_told" = some (some (.ref f1))) (l1 : K.lookup f1 = some ⟨oc1, od1, .func (PySem.W.fnOf "_law_told" "_law_told" (defArgs s__law_told) (defBody s__law_told) (defScope s__law_told) .none kV1 dc1 pm1 an1 cd1 ct1), sl1⟩) (c1 : PySem.W.codeIn K cd1 "_law_told" = true) (k1 : PySem.W.keepIn K (.ref f1) = true)
    {f2 : Addr} {od2 an2 : Option Addr} {sl2 : Array (Option Value)} {oc2 kV2 dc2 pm2 cd2 ct2 : Value}
    (a2 : PySem.W.nsIn K mainGlobals "_law_cell_at" = some (some (.ref f2))) (l2 : K.lookup f2 = some ⟨oc2, od2, .func (PySem.W.fnOf "_law_cell_at" "_law_cell_at" (defArgs s__law_cell_at) (defBody s__law_cell_at) (defScope s__law_cell_at) .none kV2 dc2 pm2 an2 cd2 ct2), sl2⟩) (c2 : PySem.W.codeIn K cd2 "_law_cell_at" = true) (k2 : PySem.W.keepIn K (.ref f2) = true)
    {f3 : Addr} {od3 an3 : Option Addr} {sl3 : Array (Option Value)} {oc3 kV3 dc3 pm3 cd3 ct3 : Value}
    (a3 : PySem.W.nsIn K mainGlobals "_law_stir" = some (some (.ref f3))) (l3 : K.lookup f3 = some ⟨oc3, od3, .func (PySem.W.fnOf "_law_stir" "_law_stir" (defArgs s__law_stir) (defBody s__law_stir) (defScope s__law_stir) .none kV3 dc3 pm3 an3 cd3 ct3), sl3⟩) (c3 : PySem.W.codeIn K cd3 "_law_stir" = true) (k3 : PySem.W.keepIn K (.ref f3) = true)
    {f4 : Addr} {od4 an4 : Option Addr} {sl4 : Array (Option Value)} {oc4 kV4 dc4 pm4 cd4 ct4 : Value}
    (a4 : PySem.W.nsIn K mainGlobals "_law_take" = some (some (.ref f4))) (l4 : K.lookup f4 = some ⟨oc4, od4, .func (PySem.W.fnOf "_law_take" "_law_take" (defArgs s__law_take) (defBody s__law_take) (defScope s__law_take) .none kV4 dc4 pm4 an4 cd4 ct4), sl4⟩) (c4 : PySem.W.codeIn K cd4 "_law_take" = true) (k4 : PySem.W.keepIn K (.ref f4) = true)
    {f5 : Addr} {od5 an5 : Option Addr} {sl5 : Array (Option Value)} {oc5 kV5 dc5 pm5 cd5 ct5 : Value}
    (a5 : PySem.W.nsIn K mainGlobals "_law_one_of" = some (some (.ref f5))) (l5 : K.lookup f5 = some ⟨oc5, od5, .func (PySem.W.fnOf "_law_one_of" "_law_one_of" (defArgs s__law_one_of) (defBody s__law_one_of) (defScope s__law_one_of) .none kV5 dc5 pm5 an5 cd5 ct5), sl5⟩) (c5 : PySem.W.codeIn K cd5 "_law_one_of" = true) (k5 : PySem.W.keepIn K (.ref f5) = true)
    {f6 : Addr} {od6 an6 : Option Addr} {sl6 : Array (Option Value)} {oc6 kV6 dc6 pm6 cd6 ct6 : Value}
    (a6 : PySem.W.nsIn K mainGlobals "_law_log" = some (some (.ref f6))) (l6 : K.lookup f6 = some ⟨oc6, od6, .func (PySem.W.fnOf "_law_log" "_law_log" (defArgs s__law_log) (defBody s__law_log) (defScope s__law_log) .none kV6 dc6 pm6 an6 cd6 ct6), sl6⟩) (c6 : PySem.W.codeIn K cd6 "_law_log" = true) (k6 : PySem.W.keepIn K (.ref f6) = true)
    {f7 : Addr} {od7 an7 : Option Addr} {sl7 : Array (Option Value)} {oc7 kV7 dc7 pm7 cd7 ct7 : Value}
    (a7 : PySem.W.nsIn K mainGlobals "_law_top" = some (some (.ref f7))) (l7 : K.lookup f7 = some ⟨oc7, od7, .func (PySem.W.fnOf "_law_top" "_law_top" (defArgs s__law_top) (defBody s__law_top) (defScope s__law_top) .none kV7 dc7 pm7 an7 cd7 ct7), sl7⟩) (c7 : PySem.W.codeIn K cd7 "_law_top" = true) (k7 : PySem.W.keepIn K (.ref f7) = true)
    {f8 : Addr} {od8 an8 : Option Addr} {sl8 : Array (Option Value)} {oc8 kV8 dc8 pm8 cd8 ct8 : Value}
    (a8 : PySem.W.nsIn K mainGlobals "_law_due" = some (some (.ref f8))) (l8 : K.lookup f8 = some ⟨oc8, od8, .func (PySem.W.fnOf "_law_due" "_law_due" (defArgs s__law_due) (defBody s__law_due) (defScope s__law_due) .none kV8 dc8 pm8 an8 cd8 ct8), sl8⟩) (c8 : PySem.W.codeIn K cd8 "_law_due" = true) (k8 : PySem.W.keepIn K (.ref f8) = true)
    {f9 : Addr} {od9 an9 : Option Addr} {sl9 : Array (Option Value)} {oc9 kV9 dc9 pm9 cd9 ct9 : Value}
    (a9 : PySem.W.nsIn K mainGlobals "_law_sort" = some (some (.ref f9))) (l9 : K.lookup f9 = some ⟨oc9, od9, .func (PySem.W.fnOf "_law_sort" "_law_sort" (defArgs s__law_sort) (defBody s__law_sort) (defScope s__law_sort) .none kV9 dc9 pm9 an9 cd9 ct9), sl9⟩) (c9 : PySem.W.codeIn K cd9 "_law_sort" = true) (k9 : PySem.W.keepIn K (.ref f9) = true)
    {f10 : Addr} {od10 an10 : Option Addr} {sl10 : Array (Option Value)} {oc10 kV10 dc10 pm10 cd10 ct10 : Value}
    (a10 : PySem.W.nsIn K mainGlobals "_law_same" = some (some (.ref f10))) (l10 : K.lookup f10 = some ⟨oc10, od10, .func (PySem.W.fnOf "_law_same" "_law_same" (defArgs s__law_same) (defBody s__law_same) (defScope s__law_same) .none kV10 dc10 pm10 an10 cd10 ct10), sl10⟩) (c10 : PySem.W.codeIn K cd10 "_law_same" = true) (k10 : PySem.W.keepIn K (.ref f10) = true)
    {f11 : Addr} {od11 an11 : Option Addr} {sl11 : Array (Option Value)} {oc11 kV11 dc11 pm11 cd11 ct11 : Value}
    (a11 : PySem.W.nsIn K mainGlobals "log" = some (some (.ref f11))) (l11 : K.lookup f11 = some ⟨oc11, od11, .func (PySem.W.fnOf "log" "log" (defArgs s_log) (defBody s_log) (defScope s_log) .none kV11 dc11 pm11 an11 cd11 ct11), sl11⟩) (c11 : PySem.W.codeIn K cd11 "log" = true) (k11 : PySem.W.keepIn K (.ref f11) = true)
    {f12 : Addr} {od12 an12 : Option Addr} {sl12 : Array (Option Value)} {oc12 kV12 dc12 pm12 cd12 ct12 : Value}
    (a12 : PySem.W.nsIn K mainGlobals "left_credit" = some (some (.ref f12))) (l12 : K.lookup f12 = some ⟨oc12, od12, .func (PySem.W.fnOf "left_credit" "left_credit" (defArgs s_left_credit) (defBody s_left_credit) (defScope s_left_credit) .none kV12 dc12 pm12 an12 cd12 ct12), sl12⟩) (c12 : PySem.W.codeIn K cd12 "left_credit" = true) (k12 : PySem.W.keepIn K (.ref f12) = true)
    {f13 : Addr} {od13 an13 : Option Addr} {sl13 : Array (Option Value)} {oc13 kV13 dc13 pm13 cd13 ct13 : Value}
    (a13 : PySem.W.nsIn K mainGlobals "meeting_credit" = some (some (.ref f13))) (l13 : K.lookup f13 = some ⟨oc13, od13, .func (PySem.W.fnOf "meeting_credit" "meeting_credit" (defArgs s_meeting_credit) (defBody s_meeting_credit) (defScope s_meeting_credit) .none kV13 dc13 pm13 an13 cd13 ct13), sl13⟩) (c13 : PySem.W.codeIn K cd13 "meeting_credit" = true) (k13 : PySem.W.keepIn K (.ref f13) = true)
    {f14 : Addr} {od14 an14 : Option Addr} {sl14 : Array (Option Value)} {oc14 kV14 dc14 pm14 cd14 ct14 : Value}
    (a14 : PySem.W.nsIn K mainGlobals "skew_credit" = some (some (.ref f14))) (l14 : K.lookup f14 = some ⟨oc14, od14, .func (PySem.W.fnOf "skew_credit" "skew_credit" (defArgs s_skew_credit) (defBody s_skew_credit) (defScope s_skew_credit) .none kV14 dc14 pm14 an14 cd14 ct14), sl14⟩) (c14 : PySem.W.codeIn K cd14 "skew_credit" = true) (k14 : PySem.W.keepIn K (.ref f14) = true)
    {f15 : Addr} {od15 an15 : Option Addr} {sl15 : Array (Option Value)} {oc15 kV15 dc15 pm15 cd15 ct15 : Value}
    (a15 : PySem.W.nsIn K mainGlobals "count_credit" = some (some (.ref f15))) (l15 : K.lookup f15 = some ⟨oc15, od15, .func (PySem.W.fnOf "count_credit" "count_credit" (defArgs s_count_credit) (defBody s_count_credit) (defScope s_count_credit) .none kV15 dc15 pm15 an15 cd15 ct15), sl15⟩) (c15 : PySem.W.codeIn K cd15 "count_credit" = true) (k15 : PySem.W.keepIn K (.ref f15) = true)
    {f16 : Addr} {od16 an16 : Option Addr} {sl16 : Array (Option Value)} {oc16 kV16 dc16 pm16 cd16 ct16 : Value}
    (a16 : PySem.W.nsIn K mainGlobals "most_children" = some (some (.ref f16))) (l16 : K.lookup f16 = some ⟨oc16, od16, .func (PySem.W.fnOf "most_children" "most_children" (defArgs s_most_children) (defBody s_most_children) (defScope s_most_children) .none kV16 dc16 pm16 an16 cd16 ct16), sl16⟩) (c16 : PySem.W.codeIn K cd16 "most_children" = true) (k16 : PySem.W.keepIn K (.ref f16) = true)
    {f17 : Addr} {od17 an17 : Option Addr} {sl17 : Array (Option Value)} {oc17 kV17 dc17 pm17 cd17 ct17 : Value}
    (a17 : PySem.W.nsIn K mainGlobals "cut_credit" = some (some (.ref f17))) (l17 : K.lookup f17 = some ⟨oc17, od17, .func (PySem.W.fnOf "cut_credit" "cut_credit" (defArgs s_cut_credit) (defBody s_cut_credit) (defScope s_cut_credit) .none kV17 dc17 pm17 an17 cd17 ct17), sl17⟩) (c17 : PySem.W.codeIn K cd17 "cut_credit" = true) (k17 : PySem.W.keepIn K (.ref f17) = true)
    {f18 : Addr} {od18 an18 : Option Addr} {sl18 : Array (Option Value)} {oc18 kV18 dc18 pm18 cd18 ct18 : Value}
    (a18 : PySem.W.nsIn K mainGlobals "credit" = some (some (.ref f18))) (l18 : K.lookup f18 = some ⟨oc18, od18, .func (PySem.W.fnOf "credit" "credit" (defArgs s_credit) (defBody s_credit) (defScope s_credit) .none kV18 dc18 pm18 an18 cd18 ct18), sl18⟩) (c18 : PySem.W.codeIn K cd18 "credit" = true) (k18 : PySem.W.keepIn K (.ref f18) = true)
    {e_credit : Tok}
    (y18 : ∀ (S : PySem.Setting) (u0 u1 u2 : Value), PySem.W.peek K S (bindArgs (PySem.W.fnOf "credit" "credit" (defArgs s_credit) (defBody s_credit) (defScope s_credit) .none kV18 dc18 pm18 an18 cd18 ct18) ⟨[u0, u1, u2], []⟩) = some [(("kind" : Str), u0), (("deed" : Str), u1), (("n" : Str), u2), (("m" : Str), .int 0 e_credit)])
    (w18 : ∀ (S : PySem.Setting) (u0 u1 u2 u3 : Value), PySem.W.peek K S (bindArgs (PySem.W.fnOf "credit" "credit" (defArgs s_credit) (defBody s_credit) (defScope s_credit) .none kV18 dc18 pm18 an18 cd18 ct18) ⟨[u0, u1, u2], [(("m" : Str), u3)]⟩) = some [(("kind" : Str), u0), (("deed" : Str), u1), (("n" : Str), u2), (("m" : Str), u3)])
    {f19 : Addr} {od19 an19 : Option Addr} {sl19 : Array (Option Value)} {oc19 kV19 dc19 pm19 cd19 ct19 : Value}
    (a19 : PySem.W.nsIn K mainGlobals "_law_source" = some (some (.ref f19))) (l19 : K.lookup f19 = some ⟨oc19, od19, .func (PySem.W.fnOf "_law_source" "_law_source" (defArgs s__law_source) (defBody s__law_source) (defScope s__law_source) .none kV19 dc19 pm19 an19 cd19 ct19), sl19⟩) (c19 : PySem.W.codeIn K cd19 "_law_source" = true) (k19 : PySem.W.keepIn K (.ref f19) = true)
    {cc20 PP20 : Addr} {cq20 : Option Addr} {cv20 : Array Value} {cs20 : Array (Option Value)}
    {f20 : Addr} {od20 an20 : Option Addr} {sl20 : Array (Option Value)} {oc20 kV20 dc20 pm20 ct20 : Value}
    (a20 : PySem.W.nsIn K mainGlobals "law" = some (some (.ref f20))) (l20 : K.lookup f20 = some ⟨oc20, od20, .func (PySem.W.fnOf "law" "law" (defArgs s_law) (defBody s_law) (defScope s_law) .none kV20 dc20 pm20 an20 (.ref cc20) ct20), sl20⟩) (c20 : PySem.W.codeIn K (.ref cc20) "law" = true) (k20 : PySem.W.keepIn K (.ref f20) = true)
    (h20 : K.lookup cc20 = some ⟨.type "code", cq20, .fields cv20, cs20⟩) (hb20 : (cv20[11]? : Option Value) = some (.ref PP20)) (hc20 : codeRest cv20 cc20 PP20 = true)
    {kB k_0 k_1 k_2 k_3 k_4 k_5 k_6 k_7 k_8 k_9 k_10 k_11 k_12 k_13 : Addr} (eB : PySem.W.nsIn K mainGlobals "HeapError" = some (some (.ref kB)))
    (e0 : PySem.W.nsIn K mainGlobals "Empty" = some (some (.ref k_0)))
    (e1 : PySem.W.nsIn K mainGlobals "Twice" = some (some (.ref k_1)))
    (e2 : PySem.W.nsIn K mainGlobals "NoTicket" = some (some (.ref k_2)))
    (e3 : PySem.W.nsIn K mainGlobals "Higher" = some (some (.ref k_3)))
    (e4 : PySem.W.nsIn K mainGlobals "NoCredit" = some (some (.ref k_4)))
    (e5 : PySem.W.nsIn K mainGlobals "NoPlace" = some (some (.ref k_5)))
    (e6 : PySem.W.nsIn K mainGlobals "NoKind" = some (some (.ref k_6)))
    (e7 : PySem.W.nsIn K mainGlobals "NoName" = some (some (.ref k_7)))
    (e8 : PySem.W.nsIn K mainGlobals "Taken" = some (some (.ref k_8)))
    (e9 : PySem.W.nsIn K mainGlobals "TooMany" = some (some (.ref k_9)))
    (e10 : PySem.W.nsIn K mainGlobals "NoHeap" = some (some (.ref k_10)))
    (e11 : PySem.W.nsIn K mainGlobals "NoKey" = some (some (.ref k_11)))
    (e12 : PySem.W.nsIn K mainGlobals "Itself" = some (some (.ref k_12)))
    (e13 : PySem.W.nsIn K mainGlobals "Unlike" = some (some (.ref k_13)))
    (wd : wordIn K [k_0, k_1, k_2, k_3, k_4, k_5, k_6, k_7, k_8, k_9, k_10, k_11, k_12, k_13] kB = true)
    (z0 : PySem.W.nsIn K mainGlobals "ValueError" = some none)
    (z1 : PySem.W.nsIn K mainGlobals "bool" = some none)
    (z2 : PySem.W.nsIn K mainGlobals "enumerate" = some none)
    (z3 : PySem.W.nsIn K mainGlobals "int" = some none)
    (z4 : PySem.W.nsIn K mainGlobals "isinstance" = some none)
    (z5 : PySem.W.nsIn K mainGlobals "len" = some none)
    (z6 : PySem.W.nsIn K mainGlobals "list" = some none)
    (z7 : PySem.W.nsIn K mainGlobals "max" = some none)
    (z8 : PySem.W.nsIn K mainGlobals "range" = some none)
    (z9 : PySem.W.nsIn K mainGlobals "tuple" = some none) :
    ∃ fd : FuncData, (∀ (s : Shared) (v : Value), BindsTo s fd ⟨[v], []⟩ [("script", v)]) ∧ ∀ base : Heap, K.In base → base.Ns mainGlobals mg → FnOk l.prog w K mg base CX0 43 fa fd ["script"] (spLaw K) := by
  have d__law_word : Df K mg "_law_word" s__law_word ["e"] := df_mk X G a0 l0 c0 k0 fun _ _ _ _ _ _ us hl => match us, hl with | [_], _ => rfl
  have d__law_told : Df K mg "_law_told" s__law_told ["door"] := df_mk X G a1 l1 c1 k1 fun _ _ _ _ _ _ us hl => match us, hl with | [_], _ => rfl
  have d__law_cell_at : Df K mg "_law_cell_at" s__law_cell_at ["script", "k"] := df_mk X G a2 l2 c2 k2 fun _ _ _ _ _ _ us hl => match us, hl with | [_, _], _ => rfl
  have d__law_stir : Df K mg "_law_stir" s__law_stir ["cell", "k"] := df_mk X G a3 l3 c3 k3 fun _ _ _ _ _ _ us hl => match us, hl with | [_, _], _ => rfl
  have d__law_take : Df K mg "_law_take" s__law_take ["source", "size"] := df_mk X G a4 l4 c4 k4 fun _ _ _ _ _ _ us hl => match us, hl with | [_, _], _ => rfl
  have d__law_one_of : Df K mg "_law_one_of" s__law_one_of ["source", "some"] := df_mk X G a5 l5 c5 k5 fun _ _ _ _ _ _ us hl => match us, hl with | [_, _], _ => rfl
  have d__law_log : Df K mg "_law_log" s__law_log ["n"] := df_mk X G a6 l6 c6 k6 fun _ _ _ _ _ _ us hl => match us, hl with | [_], _ => rfl
  have d__law_top : Df K mg "_law_top" s__law_top ["n"] := df_mk X G a7 l7 c7 k7 fun _ _ _ _ _ _ us hl => match us, hl with | [_], _ => rfl
  have d__law_due : Df K mg "_law_due" s__law_due ["which", "word", "n", "more"] := df_mk X G a8 l8 c8 k8 fun _ _ _ _ _ _ us hl => match us, hl with | [_, _, _, _], _ => rfl
  have d__law_sort : Df K mg "_law_sort" s__law_sort ["thing"] := df_mk X G a9 l9 c9 k9 fun _ _ _ _ _ _ us hl => match us, hl with | [_], _ => rfl
  have d__law_same : Df K mg "_law_same" s__law_same ["told", "due"] := df_mk X G a10 l10 c10 k10 fun _ _ _ _ _ _ us hl => match us, hl with | [_, _], _ => rfl
  have d_log : Df K mg "log" s_log ["n"] := df_mk X G a11 l11 c11 k11 fun _ _ _ _ _ _ us hl => match us, hl with | [_], _ => rfl
  have d_left_credit : Df K mg "left_credit" s_left_credit ["deed", "n", "m"] := df_mk X G a12 l12 c12 k12 fun _ _ _ _ _ _ us hl => match us, hl with | [_, _, _], _ => rfl
  have d_meeting_credit : Df K mg "meeting_credit" s_meeting_credit ["n", "m"] := df_mk X G a13 l13 c13 k13 fun _ _ _ _ _ _ us hl => match us, hl with | [_, _], _ => rfl
  have d_skew_credit : Df K mg "skew_credit" s_skew_credit ["deed", "n", "m"] := df_mk X G a14 l14 c14 k14 fun _ _ _ _ _ _ us hl => match us, hl with | [_, _, _], _ => rfl
  have d_count_credit : Df K mg "count_credit" s_count_credit ["deed", "n"] := df_mk X G a15 l15 c15 k15 fun _ _ _ _ _ _ us hl => match us, hl with | [_, _], _ => rfl
  have d_most_children : Df K mg "most_children" s_most_children ["n"] := df_mk X G a16 l16 c16 k16 fun _ _ _ _ _ _ us hl => match us, hl with | [_], _ => rfl
  have d_cut_credit : Df K mg "cut_credit" s_cut_credit ["deed", "n"] := df_mk X G a17 l17 c17 k17 fun _ _ _ _ _ _ us hl => match us, hl with | [_, _], _ => rfl
  have d_credit : DfK K mg "credit" s_credit ["kind", "deed", "n", "m"] "m" (.int 0) (.int 0 e_credit) := ⟨⟨_, rfl⟩, f18, _, fun_mk (st := s_credit) l18 c18 k18, PySem.W.mg_of X G a18, (fun s us hX hl => by
    have hz : us.length = 3 := by simpa using hl
    match us, hz with
    | [a0_, a1_, a2_], _ => exact PySem.W.kp_binds hX fun S => y18 S a0_ a1_ a2_), ⟨(fun s us ws hX hl => by
    unfold gK at hl ⊢
    split at hl
    · next hh =>
      rw [if_pos hh]
      match us, ws, hh with
      | [a0_, a1_, a2_], [b_], _ => exact PySem.W.kp_binds hX fun S => w18 S a0_ a1_ a2_ b_
    · cases hl), fun r1 r2 => gK_rel r1 r2⟩⟩
  have d__law_source : Df K mg "_law_source" s__law_source ["cell"] := df_mk X G a19 l19 c19 k19 fun _ _ _ _ _ _ us hl => match us, hl with | [_], _ => rfl
  have d_law : DfC K mg "law" s_law ["script"] := ⟨f20, kV20, dc20, pm20, an20, cc20, PP20, ct20, oc20, od20, sl20, l20, c20, codeHd_by h20 hb20 hc20, k20, PySem.W.mg_of X G a20, (fun_mk (st := s_law) l20 c20 k20).binds fun _ _ _ _ _ _ us hl => match us, hl with | [_], _ => rfl⟩
  have e := hfa.symm.trans (PySem.W.mg_of X G a20)
  cases e
  have z_ValueError := PySem.W.mg_none_of X G z0
  have z_bool := PySem.W.mg_none_of X G z1
  have z_enumerate := PySem.W.mg_none_of X G z2
  have z_int := PySem.W.mg_none_of X G z3
  have z_isinstance := PySem.W.mg_none_of X G z4
  have z_len := PySem.W.mg_none_of X G z5
  have z_list := PySem.W.mg_none_of X G z6
  have z_max := PySem.W.mg_none_of X G z7
  have z_range := PySem.W.mg_none_of X G z8
  have z_tuple := PySem.W.mg_none_of X G z9
  have me0 := PySem.W.mg_of X G e0
  have me1 := PySem.W.mg_of X G e1
  have me2 := PySem.W.mg_of X G e2
  have me3 := PySem.W.mg_of X G e3
  have me4 := PySem.W.mg_of X G e4
  have me5 := PySem.W.mg_of X G e5
  have me6 := PySem.W.mg_of X G e6
  have me7 := PySem.W.mg_of X G e7
  have me8 := PySem.W.mg_of X G e8
  have me9 := PySem.W.mg_of X G e9
  have me10 := PySem.W.mg_of X G e10
  have me11 := PySem.W.mg_of X G e11
  have me12 := PySem.W.mg_of X G e12
  have me13 := PySem.W.mg_of X G e13
  have WW : Words K mg [k_0, k_1, k_2, k_3, k_4, k_5, k_6, k_7, k_8, k_9, k_10, k_11, k_12, k_13] kB := ⟨wd, rfl, fun j nm e => match j, e with | 0, rfl => ⟨_, rfl, me0⟩ | 1, rfl => ⟨_, rfl, me1⟩ | 2, rfl => ⟨_, rfl, me2⟩ | 3, rfl => ⟨_, rfl, me3⟩ | 4, rfl => ⟨_, rfl, me4⟩ | 5, rfl => ⟨_, rfl, me5⟩ | 6, rfl => ⟨_, rfl, me6⟩ | 7, rfl => ⟨_, rfl, me7⟩ | 8, rfl => ⟨_, rfl, me8⟩ | 9, rfl => ⟨_, rfl, me9⟩ | 10, rfl => ⟨_, rfl, me10⟩ | 11, rfl => ⟨_, rfl, me11⟩ | 12, rfl => ⟨_, rfl, me12⟩ | 13, rfl => ⟨_, rfl, me13⟩ | n + 14, e => absurd (List.getElem?_eq_some_iff.mp e).1 (by show ¬ n + 14 < 14; omega)⟩
  obtain ⟨a_NoCredit, x_NoCredit⟩ := WW.exc "NoCredit" (by decide)
  refine ⟨PySem.W.fnOf "law" "law" (defArgs s_law) (defBody s_law) (defScope s_law) .none kV20 dc20 pm20 an20 (.ref cc20) ct20, fun s v => .of_eq rfl, fun base _ _ => ?_⟩
  have TF : ToldFn l.prog w K mg base 1 := told_fn d__law_told (PySem.W.mg_of X G eB) WW (word_fn (B := kB) d__law_word z_isinstance z_ValueError me0 me1 me2 me3 me4 me5 me6 me7 me8 me9 me10 me11 me12 me13)
  have g__law_cell_at : Ok l.prog w K mg base 1 "_law_cell_at" ["script", "k"] (spD K C__law_cell_at) := oup (ok__law_cell_at (P := l.prog) (w := w) (base := base) d__law_cell_at z_len) (by decide)
  have g__law_stir : Ok l.prog w K mg base 1 "_law_stir" ["cell", "k"] (spD K C__law_stir) := oup (ok__law_stir (P := l.prog) (w := w) (base := base) d__law_stir) (by decide)
  have g__law_take : Ok l.prog w K mg base 2 "_law_take" ["source", "size"] (spD K C__law_take) := oup (ok__law_take (P := l.prog) (w := w) (base := base) d__law_take (oup g__law_stir (by decide))) (by decide)
  have g__law_one_of : Ok l.prog w K mg base 3 "_law_one_of" ["source", "some"] (spD K C__law_one_of) := oup (ok__law_one_of (P := l.prog) (w := w) (base := base) d__law_one_of (oup g__law_take (by decide)) z_len) (by decide)
  have g__law_log : Ok l.prog w K mg base 1 "_law_log" ["n"] (spD K C__law_log) := oup (ok__law_log (P := l.prog) (w := w) (base := base) d__law_log) (by decide)
  have g__law_top : Ok l.prog w K mg base 1 "_law_top" ["n"] (spD K C__law_top) := oup (ok__law_top (P := l.prog) (w := w) (base := base) d__law_top z_len) (by decide)
  have g__law_due : Ok l.prog w K mg base 2 "_law_due" ["which", "word", "n", "more"] (spD K C__law_due) := oup (ok__law_due (P := l.prog) (w := w) (base := base) d__law_due (oup g__law_log (by decide)) (oup g__law_top (by decide)) z_max z_int) (by decide)
  have g__law_sort : Ok l.prog w K mg base 1 "_law_sort" ["thing"] (spD K C__law_sort) := oup (ok__law_sort (P := l.prog) (w := w) (base := base) d__law_sort z_isinstance z_bool z_int z_tuple z_list) (by decide)
  have g__law_same : Ok l.prog w K mg base 42 "_law_same" ["told", "due"] (spD K (C__law_same 40)) := oup (rec__law_same (P := l.prog) (w := w) (base := base) d__law_same g__law_sort z_isinstance z_tuple z_list z_len z_enumerate 40) (by decide)
  have g_log : Ok l.prog w K mg base 1 "log" ["n"] (spD K C_log) := oup (ok_log (P := l.prog) (w := w) (base := base) d_log) (by decide)
  have g_left_credit : Ok l.prog w K mg base 2 "left_credit" ["deed", "n", "m"] (spD K C_left_credit) := oup (ok_left_credit (P := l.prog) (w := w) (base := base) d_left_credit (oup g_log (by decide))) (by decide)
  have g_meeting_credit : Ok l.prog w K mg base 2 "meeting_credit" ["n", "m"] (spD K C_meeting_credit) := oup (ok_meeting_credit (P := l.prog) (w := w) (base := base) d_meeting_credit (oup g_log (by decide))) (by decide)
  have g_skew_credit : Ok l.prog w K mg base 3 "skew_credit" ["deed", "n", "m"] (spD K C_skew_credit) := oup (ok_skew_credit (P := l.prog) (w := w) (base := base) d_skew_credit (oup g_meeting_credit (by decide)) (oup g_log (by decide))) (by decide)
  have g_count_credit : Ok l.prog w K mg base 2 "count_credit" ["deed", "n"] (spD K C_count_credit) := oup (ok_count_credit (P := l.prog) (w := w) (base := base) d_count_credit (oup g_log (by decide))) (by decide)
  have g_most_children : Ok l.prog w K mg base 1 "most_children" ["n"] (spD K C_most_children) := oup (ok_most_children (P := l.prog) (w := w) (base := base) d_most_children) (by decide)
  have g_cut_credit : Ok l.prog w K mg base 2 "cut_credit" ["deed", "n"] (spD K C_cut_credit) := oup (ok_cut_credit (P := l.prog) (w := w) (base := base) d_cut_credit (oup g_most_children (by decide))) (by decide)
  have g_credit : OkK l.prog w K mg base 4 "credit" ["kind", "deed", "n", "m"] "m" (.int 0) (.int 0 e_credit) (spD K C_credit) := OkK.mono (ok_credit (P := l.prog) (w := w) (base := base) d_credit (oup g_left_credit (by decide)) (oup g_skew_credit (by decide)) (oup g_count_credit (by decide)) (oup g_cut_credit (by decide))) (by decide)
  have g__law_source : Ok l.prog w K mg base 1 "_law_source" ["cell"] (spD K C__law_source) := oup (ok__law_source (P := l.prog) (w := w) (base := base) d__law_source) (by decide)
  have l__law_source : Ok l.prog w K mg base 1 "_law_source" ["cell"] (spL K CL__law_source) := oup (okL__law_source (P := l.prog) (w := w) (base := base) d__law_source) (by decide)
  have r_credit : OkRK l.prog w K mg base 1 "credit" ["kind", "deed", "n", "m"] "m" (.int 0) (.int 0 e_credit) CR_credit := OkRK.mono (okR_credit (P := l.prog) (w := w) (base := base) d_credit x_NoCredit) (by decide)
  have o_law_t0 : ThkOk l.prog w K mg base 5 LM_law_t0 ["n"] CT_law_t0 CU_law_t0 := ThkOk.mono (tk_law_t0 (P := l.prog) (w := w) (base := base) (OkK.mono g_credit (by decide)) (OkRK.mono r_credit (by decide)) z_max) (by decide)
  have o_law_t1 : ThkOk l.prog w K mg base 5 LM_law_t1 [] CT_law_t1 CU_law_t1 := ThkOk.mono (tk_law_t1 (P := l.prog) (w := w) (base := base) (OkK.mono g_credit (by decide)) (OkRK.mono r_credit (by decide))) (by decide)
  have g_law : Ok l.prog w K mg base 43 "law" ["script"] (spD K C_law) := oup (ok_law (P := l.prog) (w := w) (base := base) d_law TF (ThkOk.mono o_law_t0 (by decide)) (ThkOk.mono o_law_t1 (by decide)) (oup g__law_cell_at (by decide)) (oup g__law_take (by decide)) (oup g__law_one_of (by decide)) (oup g__law_due (by decide)) (oup g__law_same (by decide)) (OkK.mono g_credit (by decide)) (oup l__law_source (by decide)) z_range z_list) (by decide)
  obtain ⟨f, fd, F, m, kp, b, o, ho, hd⟩ := g_law.ex
  have z := m.symm.trans hfa
  cases z
  have y := ho.symm.trans l20
  cases y
  cases hd
  refine F.imp fun vs H Q E ⟨a, ns, hv, hS, hl, q⟩ => ?_
  subst hv
  obtain ⟨r, hp⟩ := pure_law ns hl
  exact ⟨H, fun _ => none, _, .bool true, r, Rep.args (Same.refl H) (ds := [.list (ns.map PyData.int)]) (.cons (.lst hS (dpAll_map ns)) .nil), hp, fun v G' H' R' dp => by cases dp; exact q H'⟩
theorem walk {l : PySem.W.OpenLaw} {q : Program} {loose : List Str} {XP : (Str → Option Value) → Heap → Prop} {YP : World → Heap → Prop} {d : DefRec} {K : Params → PySem.W.Frag} (hn : l.most = some 63) (hdf : d.params.defaults = [])
    (hY : ∀ (w : World) (h : Heap), YP w h → (K w.params).In h ∧ TabsIn (K w.params) h)
    (F : ∀ (w : World) (mg : Str → Option Value) (fa : Addr) (h : Heap), (K w.params).In h → h.Ns mainGlobals mg → mg d.name = some (.ref fa) →
      ∃ fd : FuncData, (∀ (s : Shared) (u : Value), BindsTo s fd ⟨[u], []⟩ [("script", u)]) ∧ ∀ base : Heap, (K w.params).In base → base.Ns mainGlobals mg → FnOk l.prog w (K w.params) mg base CX0 43 fa fd ["script"] (spLaw (K w.params))) :
    PySem.W.WalkO q loose XP YP l.row.toRowW d [] (fun f vs => PySem.call f vs) :=
  L2.walk_of (n := 63) (k := 43) (x := "script") (CX := fun _ => CX0) (sp := fun w => spLaw (K w.params)) hn (by decide) hdf ⟨rfl, by decide, by decide⟩ hY F (fun _ _ a ns hl _ hS => ⟨a, ns, rfl, hS, hl, fun _ => rfl⟩) fun _ _ _ _ _ z => z
end My
open PySem PySem.W PyProof.Rows
set_option maxRecDepth 100000 in
set_option maxHeartbeats 0 in
theorem PySem.Challenge.cw_heapwright_k22_credits_told_holds : PySem.Challenge.rw_heapwright_k22_credits_told.Holds := by
  w_on; o_law; k_head; (case hw => w_witness2)
  k_fill
  refine My.walk (l := PySem.Challenge.rw_heapwright_k22_credits_told) rfl rfl (fun w h Y => ⟨by first | exact PySem.W.kIn_of Y | exact PySem.W.km_in_of Y, My.tabs_in (by first | rfl | decide +kernel) (PySem.W.km_tabs_of Y)⟩) ?F
  case F =>
    intro w mg fa h KX G hmg
    refine' My.all_mk KX G hmg ?a0 ?l0 ?c0 ?k0 ?a1 ?l1 ?c1 ?k1 ?a2 ?l2 ?c2 ?k2 ?a3 ?l3 ?c3 ?k3 ?a4 ?l4 ?c4 ?k4 ?a5 ?l5 ?c5 ?k5 ?a6 ?l6 ?c6 ?k6 ?a7 ?l7 ?c7 ?k7 ?a8 ?l8 ?c8 ?k8 ?a9 ?l9 ?c9 ?k9 ?a10 ?l10 ?c10 ?k10 ?a11 ?l11 ?c11 ?k11 ?a12 ?l12 ?c12 ?k12 ?a13 ?l13 ?c13 ?k13 ?a14 ?l14 ?c14 ?k14 ?a15 ?l15 ?c15 ?k15 ?a16 ?l16 ?c16 ?k16 ?a17 ?l17 ?c17 ?k17 ?a18 ?l18 ?c18 ?k18 ?y18 ?w18 ?a19 ?l19 ?c19 ?k19 ?a20 ?l20 ?c20 ?k20 ?h20 ?hb20 ?hc20 ?eB ?e0 ?e1 ?e2 ?e3 ?e4 ?e5 ?e6 ?e7 ?e8 ?e9 ?e10 ?e11 ?e12 ?e13 ?wd ?z0 ?z1 ?z2 ?z3 ?z4 ?z5 ?z6 ?z7 ?z8 ?z9
    (case a0 => k_is); (case l0 => k_is); (case c0 => k_is); (case k0 => k_is)
    (case a1 => k_is); (case l1 => k_is); (case c1 => k_is); (case k1 => k_is)
    (case a2 => k_is); (case l2 => k_is); (case c2 => k_is); (case k2 => k_is)
    (case a3 => k_is); (case l3 => k_is); (case c3 => k_is); (case k3 => k_is)
    (case a4 => k_is); (case l4 => k_is); (case c4 => k_is); (case k4 => k_is)
    (case a5 => k_is); (case l5 => k_is); (case c5 => k_is); (case k5 => k_is)
    (case a6 => k_is); (case l6 => k_is); (case c6 => k_is); (case k6 => k_is)
    (case a7 => k_is); (case l7 => k_is); (case c7 => k_is); (case k7 => k_is)
    (case a8 => k_is); (case l8 => k_is); (case c8 => k_is); (case k8 => k_is)
    (case a9 => k_is); (case l9 => k_is); (case c9 => k_is); (case k9 => k_is)
    (case a10 => k_is); (case l10 => k_is); (case c10 => k_is); (case k10 => k_is)
    (case a11 => k_is); (case l11 => k_is); (case c11 => k_is); (case k11 => k_is)
    (case a12 => k_is); (case l12 => k_is); (case c12 => k_is); (case k12 => k_is)
    (case a13 => k_is); (case l13 => k_is); (case c13 => k_is); (case k13 => k_is)
    (case a14 => k_is); (case l14 => k_is); (case c14 => k_is); (case k14 => k_is)
    (case a15 => k_is); (case l15 => k_is); (case c15 => k_is); (case k15 => k_is)
    (case a16 => k_is); (case l16 => k_is); (case c16 => k_is); (case k16 => k_is)
    (case a17 => k_is); (case l17 => k_is); (case c17 => k_is); (case k17 => k_is)
    (case a18 => k_is); (case l18 => k_is); (case c18 => k_is); (case k18 => k_is)
    (case y18 => intros; rfl); (case w18 => intros; rfl)
    (case a19 => k_is); (case l19 => k_is); (case c19 => k_is); (case k19 => k_is)
    (case a20 => k_is); (case l20 => k_is); (case c20 => k_is); (case k20 => k_is)
    (case h20 => k_is); (case hb20 => rfl); (case hc20 => rfl)
    (case eB => k_is)
    (case e0 => k_is)
    (case e1 => k_is)
    (case e2 => k_is)
    (case e3 => k_is)
    (case e4 => k_is)
    (case e5 => k_is)
    (case e6 => k_is)
    (case e7 => k_is)
    (case e8 => k_is)
    (case e9 => k_is)
    (case e10 => k_is)
    (case e11 => k_is)
    (case e12 => k_is)
    (case e13 => k_is)
    (case wd => rfl)
    (case z0 => k_is)
    (case z1 => k_is)
    (case z2 => k_is)
    (case z3 => k_is)
    (case z4 => k_is)
    (case z5 => k_is)
    (case z6 => k_is)
    (case z7 => k_is)
    (case z8 => k_is)
    (case z9 => k_is)
#print axioms PySem.Challenge.cw_heapwright_k22_credits_told_holds
