import PyProof.Rows.All
import Wide.All
import OpenK.AllK
import Wide.FinOn
import PyProof.EqAt
import PyProof.EqKinds
import PyProof.TupleCall
import KE.BitLaws
import Open.SpecLaws
import KE.OsHead
import KE.OsGo
import PyProof.ExcBaseAll.ValueError
import KE.KDictList
import PySem.Challenge.RW_functionterms_s01_answers
import KE.KIntText
import KE.RegKIsAll
set_option Elab.async false
set_option linter.all false
set_option maxRecDepth 100000
section
namespace L2
open PySem PySem.Spec PyProof.Rows
noncomputable abbrev Key := Sum Int Str
noncomputable def keyIs : Key -> Value -> Bool
  | .inl k,v => Value.isInt k v
  | .inr x,v => Value.isStrOf x v
noncomputable def keyH (w : World) : Key -> Int
  | .inl k => hashInt k
  | .inr x => hashStr w x
theorem keyIs_shape : ∀ {k : Key} {v : Value},keyIs k v = true -> (∃ i t,k = Sum.inl i /\ v = Value.int i t) \/ (∃ x t,k = Sum.inr x /\ v = Value.str x t)
  | .inl i,v,h => by
    obtain ⟨t,e⟩ := Value.isInt_shape (k := i) (v := v) h
    exact .inl ⟨i,t,rfl,e⟩
  | .inr x,v,h => by
    obtain ⟨t,e⟩ := Value.isStrOf_shape (x := x) (v := v) h
    exact .inr ⟨x,t,rfl,e⟩
theorem keyIs_int (i : Int) (t : Tok) : keyIs (.inl i) (.int i t) = true := by simp [keyIs,Value.isInt]
theorem keyIs_str (x : Str) (t : Tok) : keyIs (.inr x) (.str x t) = true := by simp [keyIs,Value.isStrOf]
theorem key_ll (a b : Int) : decide ((Sum.inl a : Key) = Sum.inl b) = (a == b) := by
  by_cases e : a = b
  · subst e; simp
  · have h : ¬ (Sum.inl a : Key) = Sum.inl b := fun q => e (Sum.inl.inj q)
    rw [decide_eq_false h]
    exact (beq_eq_false_iff_ne.mpr e).symm
theorem key_rr (a b : Str) : decide ((Sum.inr a : Key) = Sum.inr b) = decide (a = b) := by
  by_cases e : a = b
  · subst e; simp
  · have h : ¬ (Sum.inr a : Key) = Sum.inr b := fun q => e (Sum.inr.inj q)
    rw [decide_eq_false h,decide_eq_false e]
theorem key_lr (a : Int) (b : Str) : decide ((Sum.inl a : Key) = Sum.inr b) = false := decide_eq_false (fun q => nomatch q)
theorem key_rl (a : Str) (b : Int) : decide ((Sum.inr a : Key) = Sum.inl b) = false := decide_eq_false (fun q => nomatch q)
noncomputable def mixKind (prog : Program) (w : World) : PySem.KeyKind prog w Key where
  is := keyIs
  hash := keyH w
  inj := fun v a b ha hb => by
    rcases keyIs_shape ha with ⟨i,t,rfl,rfl⟩ | ⟨x,t,rfl,rfl⟩
    · rcases keyIs_shape hb with ⟨j,u,rfl,e⟩ | ⟨y,u,rfl,e⟩
      · injection e with e1 _; rw [e1]
      · exact nomatch e
    · rcases keyIs_shape hb with ⟨j,u,rfl,e⟩ | ⟨y,u,rfl,e⟩
      · exact nomatch e
      · injection e with e1 _; rw [e1]
  byValue := fun k v h => by
    rcases keyIs_shape h with ⟨i,t,rfl,rfl⟩ | ⟨x,t,rfl,rfl⟩ <;> rfl
  pyHash := fun hv h => by
    rcases keyIs_shape hv with ⟨i,t,rfl,rfl⟩ | ⟨x,t,rfl,rfl⟩
    · exact wpAny_pyHash_int h
    · exact wpAny_pyHash_str h
  eqBool := fun hu hv h => by
    rcases keyIs_shape hu with ⟨i,t,rfl,rfl⟩ | ⟨x,t,rfl,rfl⟩
    · rcases keyIs_shape hv with ⟨j,u,rfl,rfl⟩ | ⟨y,u,rfl,rfl⟩
      · rw [key_ll] at h; exact wpAny_eqBool_int h
      · rw [key_lr] at h; exact SeqAt.EqAt.int_str i t y u _ _ _ _ h
    · rcases keyIs_shape hv with ⟨j,u,rfl,rfl⟩ | ⟨y,u,rfl,rfl⟩
      · rw [key_rl] at h; exact SeqAt.EqAt.str_int x t j u _ _ _ _ h
      · rw [key_rr] at h; exact wpAny_eqBool_str h
  «strs» := fun k x t v h => by
    rcases keyIs_shape h with ⟨i,u,rfl,e⟩ | ⟨y,u,rfl,e⟩
    · exact nomatch e
    · injection e with e1 _
      subst e1
      cases v <;> rfl
theorem mixKind_int (prog : Program) (w : World) (i : Int) (t : Tok) : (mixKind prog w).is (.inl i) (.int i t) = true := keyIs_int i t
theorem mixKind_str (prog : Program) (w : World) (x : Str) (t : Tok) : (mixKind prog w).is (.inr x) (.str x t) = true := keyIs_str x t
end L2
namespace L2
open PySem PySem.Spec PyProof.Rows
inductive V where
  | non | bl (b : Bool) | int (i : Int) | str (x : Str) | byt (b : Array UInt8) | flt (b : UInt64) | ref (a : Addr) | ty (n : String)
  deriving DecidableEq
noncomputable def RelV : V -> Value -> Prop
  | .non,u => u = Value.none
  | .bl b,u => u = Value.bool b
  | .int i,u => ∃ t,u = Value.int i t
  | .str x,u => ∃ t,u = Value.str x t
  | .byt b,u => ∃ t,u = Value.bytes b t
  | .flt b,u => ∃ t,u = Value.float b t
  | .ref a,u => u = Value.ref a
  | .ty n,u => u = Value.type n
noncomputable abbrev Vals : List V -> List Value -> Prop := Paired RelV
theorem Vals.length {xs : List V} {us : List Value} (r : Vals xs us) : xs.length = us.length := Paired.length r
theorem Vals.get : ∀ {xs : List V} {us : List Value} {i : Nat} {x : V},Vals xs us -> xs[i]? = some x -> ∃ u,us[i]? = some u /\ RelV x u
  | _,_,_,_,.nil,e => by simp at e
  | _,_,0,_,.cons r _,e => by simp at e; subst e; exact ⟨_,rfl,r⟩
  | _,_,i + 1,x,.cons _ t,e => by
    obtain ⟨u,h1,h2⟩ := Vals.get (i := i) (x := x) t (by simpa using e)
    exact ⟨u,by simpa using h1,h2⟩
theorem Vals.append : ∀ {xs ys : List V} {us ws : List Value},Vals xs us -> Vals ys ws -> Vals (xs ++ ys) (us ++ ws)
  | _,_,_,_,.nil,s => s
  | _,_,_,_,.cons r t,s => .cons r (Vals.append t s)
theorem Vals.take : ∀ {xs : List V} {us : List Value} (n : Nat),Vals xs us -> Vals (xs.take n) (us.take n)
  | _,_,0,_ => .nil
  | _,_,_ + 1,.nil => .nil
  | _,_,n + 1,.cons r t => .cons r (Vals.take n t)
theorem Vals.drop : ∀ {xs : List V} {us : List Value} (n : Nat),Vals xs us -> Vals (xs.drop n) (us.drop n)
  | _,_,0,r => r
  | _,_,_ + 1,.nil => .nil
  | _,_,n + 1,.cons _ t => Vals.drop n t
noncomputable def RelO : Option V -> Option Value -> Prop
  | some v,some u => RelV v u
  | none,none => True
  | _,_ => False
noncomputable def KV {κ : Type} : List (κ × V) -> List (κ × Value) -> Prop := Paired fun (p : κ × V) (q : κ × Value) => p.1 = q.1 /\ RelV p.2 q.2
noncomputable def kV : Key -> V
  | .inl i => .int i
  | .inr x => .str x
inductive HO where
  | lst (xs : List V)
  | tup (xs : List V)
  | dK (kvs : List (Key × V)) | dT (kvs : List (List Key × V))
  | set (S : Int -> Bool) (n : Nat)
  | ins (C dx : Addr) (fs : List (Str × V))
  | own (x : Addr)
  | xd (fs : List (Str × V))
  | met (f x : Addr)
  | rng (lo hi : Int)
  | frz (o : Obj) (u : HO)
  | tbl (ps : Array Value)
  | ext (φ : Heap -> Prop)
noncomputable abbrev Hp := Addr -> Option HO
noncomputable def upd (H : Hp) (a : Addr) (o : HO) : Hp := fun b => if b = a then some o else H b
theorem upd_same {H : Hp} {a : Addr} {o : HO} : upd H a o a = some o := by unfold upd; rw [if_pos rfl]
theorem upd_ne {H : Hp} {a b : Addr} {o : HO} (h : b ≠ a) : upd H a o b = H b := by unfold upd; rw [if_neg h]
theorem ne_of {H : Hp} {a b : Addr} {o u : HO} (h : H a = some o) (h' : H b = some u) (d : o ≠ u) : a ≠ b := by
  intro e; subst e; rw [h] at h'; exact d (Option.some.inj h')
theorem ne_of_none {H : Hp} {a b : Addr} {o : HO} (h : H a = some o) (h' : H b = none) : a ≠ b := by
  intro e; subst e; rw [h] at h'; cases h'
section
variable (P : Program) (w : World)
noncomputable def ObjOk (H : Hp) (h : Heap) (a : Addr) : HO -> Prop
  | .lst xs => xs.length <= sizeLine /\ ∃ (its : List Value) (n : Nat),Vals xs its /\ h.get? a = some { cls := .type "list",data := .seq its.toArray n }
  | .tup xs => xs.length <= sizeLine /\ ∃ its : List Value,Vals xs its /\ IsTup h a its.toArray
  | .dK kvs => kvs.length <= sizeLine /\ (a == sysModules) = false /\ ∃ vs,KV kvs vs /\ h.DictOf (mixKind P w) a vs
  | .dT kvs => kvs.length <= sizeLine /\ (a == sysModules) = false /\ ∃ xs : List (List Key × Addr × Value),
      Paired (fun (p : List Key × V) (q : List Key × Addr × Value) => p.1 = q.1 /\ H q.2.1 = some (.tup (p.1.map kV)) /\ RelV p.2 q.2.2) kvs xs /\
      ∃ o es ep,h.get? a = some o /\ o.ExactDict /\ o.data = .dict es ep /\ es.toList = xs.map (entryOfKey (tupleKind (mixKind P w))) /\ (xs.map (·.1)).Nodup
  | .set S n => h.SetOf (intKind P w) a S n
  | .ins C dx fs => H dx = some (.own a) /\ fs.length <= 1000 /\ dx ≠ a /\ h.get? a = some (PySem.W.instObj C dx) /\
      ∃ mA,h.Ns1 dx mA /\ (∀ f,RelO (fs.lookup f) (mA f)) /\ PySem.Within mA (fs.map (·.1))
  | .own _ => ∃ o,h.get? a = some o
  | .xd fs => ∃ mA,h.Ns1 a mA /\ ∀ f,RelO (fs.lookup f) (mA f)
  | .rng lo hi => ∃ t u v,h.get? a = some { cls := .type "range",data := .fields #[.int lo t,.int hi u,.int 1 v] }
  | .frz o u => h.get? a = some o /\ ObjOk H h a u
  | .tbl ps => h.get? a = some { cls := .none,data := .fields ps }
  | .met f x => h.get? a = some (PySem.W.methodObj (.ref f) (.ref x))
  | .ext φ => φ h /\ (∃ o,h.get? a = some o) /\ ∀ h1 h2 : Heap,φ h1 -> (∀ o,h1.get? a = some o -> h2.get? a = some o) -> φ h2
noncomputable def HOk (H : Hp) (h : Heap) : Prop := ∀ a o,H a = some o -> ObjOk P w H h a o
end
section
variable {P : Program} {w : World} {H H' : Hp} {h h' : Heap} {a : Addr} {o : HO}
theorem ObjOk.lt (x : ObjOk P w H h a o) : a < h.objs.size := by
  cases o with
  | lst xs => obtain ⟨_,_,_,_,e⟩ := x; exact Heap.lt_size e
  | tup xs => obtain ⟨_,_,_,p⟩ := x; exact p.lt
  | dK kvs => obtain ⟨_,_,_,_,o,_,_,e,_⟩ := x; exact Heap.lt_size e
  | dT kvs => obtain ⟨_,_,_,_,o,_,_,e,_⟩ := x; exact Heap.lt_size e
  | set S n => obtain ⟨o,_,_,_,e,_⟩ := x; exact Heap.lt_size e
  | ins C dx fs => obtain ⟨_,_,_,e,_⟩ := x; exact Heap.lt_size e
  | own y => obtain ⟨_,e⟩ := x; exact Heap.lt_size e
  | xd fs => obtain ⟨_,⟨_,_,_,e,_⟩,_⟩ := x; exact Heap.lt_size e
  | rng lo hi => obtain ⟨_,_,_,e⟩ := x; exact Heap.lt_size e
  | frz ob u => obtain ⟨e,_⟩ := x; exact Heap.lt_size e
  | tbl ps => exact Heap.lt_size (show h.get? a = some _ from x)
  | met f y => exact Heap.lt_size (show h.get? a = some _ from x)
  | ext φ => obtain ⟨_,⟨_,e⟩,_⟩ := x; exact Heap.lt_size e
theorem Paired.mapP {α β : Type} {F G : α -> β -> Prop} : ∀ {l₁ : List α} {l₂ : List β},Paired F l₁ l₂ -> (∀ a b,F a b -> G a b) -> Paired G l₁ l₂
  | _,_,.nil,_ => .nil
  | _,_,.cons r t,f => .cons (f _ _ r) (Paired.mapP t f)
theorem ObjOk.stay (x : ObjOk P w H h a o) (k : ∀ b u,(b = a \/ H b = some (.own a)) -> h.get? b = some u -> h'.get? b = some u)
    (ho : ∀ b,H b = some (.own a) -> H' b = some (.own a)) (ht : ∀ b xs,H b = some (.tup xs) -> H' b = some (.tup xs)) : ObjOk P w H' h' a o := by
  induction o with
  | lst xs => obtain ⟨z,its,n,r,e⟩ := x; exact ⟨z,its,n,r,k _ _ (.inl rfl) e⟩
  | tup xs => obtain ⟨z,its,r,ob,e,c⟩ := x; exact ⟨z,its,r,ob,k _ _ (.inl rfl) e,c⟩
  | dK kvs => obtain ⟨z,y,vs,r,ob,es,ep,e,c⟩ := x; exact ⟨z,y,vs,r,ob,es,ep,k _ _ (.inl rfl) e,c⟩
  | dT kvs =>
    obtain ⟨z,y,xs,r,ob,es,ep,e,c⟩ := x
    exact ⟨z,y,xs,Paired.mapP r fun p q z => ⟨z.1,ht _ _ z.2.1,z.2.2⟩,ob,es,ep,k _ _ (.inl rfl) e,c⟩
  | set S n => obtain ⟨ob,es,ep,t,e,c⟩ := x; exact ⟨ob,es,ep,t,k _ _ (.inl rfl) e,c⟩
  | ins C dx fs =>
    obtain ⟨d,z,ne,e,mA,⟨od,es,ep,e2,c⟩,r⟩ := x
    exact ⟨ho _ d,z,ne,k _ _ (.inl rfl) e,mA,⟨od,es,ep,k _ _ (.inr d) e2,c⟩,r⟩
  | own y => obtain ⟨ob,e⟩ := x; exact ⟨ob,k _ _ (.inl rfl) e⟩
  | xd fs => obtain ⟨mA,⟨od,es,ep,e,c⟩,r⟩ := x; exact ⟨mA,⟨od,es,ep,k _ _ (.inl rfl) e,c⟩,r⟩
  | rng lo hi => obtain ⟨t,u,v,e⟩ := x; exact ⟨t,u,v,k _ _ (.inl rfl) e⟩
  | frz ob u ih => obtain ⟨e,q⟩ := x; exact ⟨k _ _ (.inl rfl) e,ih q⟩
  | tbl ps =>
    have e : h.get? a = some { cls := .none,data := .fields ps } := x
    show h'.get? a = some { cls := .none,data := .fields ps }
    exact k a _ (.inl rfl) e
  | met f y =>
    have e : h.get? a = some (PySem.W.methodObj (.ref f) (.ref y)) := x
    show h'.get? a = some (PySem.W.methodObj (.ref f) (.ref y))
    exact k a _ (.inl rfl) e
  | ext φ => obtain ⟨p,⟨o,e⟩,st⟩ := x; exact ⟨st _ _ p fun o q => k _ _ (.inl rfl) q,⟨o,k _ _ (.inl rfl) e⟩,st⟩
theorem HOk.lt (x : HOk P w H h) (e : H a = some o) : a < h.objs.size := (x a o e).lt
theorem HOk.fresh (x : HOk P w H h) (e : h.objs.size <= a) : H a = none := by
  cases q : H a with
  | none => rfl
  | some u => exact absurd (Nat.lt_of_lt_of_le (x.lt q) e) (Nat.lt_irrefl _)
theorem HOk.kept (x : HOk P w H h) (k : ∀ b u,h.get? b = some u -> h'.get? b = some u) : HOk P w H h' := fun a o e =>
  (x a o e).stay (fun b u _ q => k b u q) (fun _ q => q) fun _ _ q => q
theorem HOk.laid (x : HOk P w H h) (k : ∀ b u,h.get? b = some u -> h'.get? b = some u) (hp : h.objs.size <= a) (new : ObjOk P w (upd H a o) h' a o) : HOk P w (upd H a o) h' := fun b u e => by
  have hn := x.fresh hp
  by_cases hb : b = a
  · subst hb; rw [upd_same] at e; cases e; exact new
  · rw [upd_ne hb] at e
    exact (x b u e).stay (fun c v _ q => k c v q) (fun c q => by rw [upd_ne (ne_of_none q hn)]; exact q) fun c xs q => by rw [upd_ne (ne_of_none q hn)]; exact q
end
noncomputable def Rd (H : Hp) (a : Addr) (u : HO) : Prop := H a = some u \/ ∃ o,H a = some (.frz o u)
theorem Rd.ok {P : Program} {w : World} {H : Hp} {h : Heap} {a : Addr} {u : HO} (r : Rd H a u) (x : HOk P w H h) : ObjOk P w H h a u := by
  rcases r with r | ⟨o,r⟩
  · exact x a u r
  · obtain ⟨_,q⟩ := x a _ r
    exact q
noncomputable def Mut : Option HO -> Prop
  | some (.lst _) => True
  | some (.dK _) => True
  | some (.dT _) => True
  | some (.set _ _) => True
  | some (.ins _ _ _) => True
  | some (.ext _) => True
  | _ => False
section
variable {P : Program} {w : World} {H : Hp} {h h' : Heap} {x e : Addr} {o' : HO}
theorem HOk.write (ok : HOk P w H h) (mu : Mut (H x)) (he : e = x \/ H e = some (.own x)) (k : ∀ b u,b ≠ e -> h.get? b = some u -> h'.get? b = some u) (heo : ∃ u,h'.get? e = some u)
    (new : ObjOk P w (upd H x o') h' x o') : HOk P w (upd H x o') h' := fun b u q => by
  have nown : ∀ c y,H c = some (.own y) -> c ≠ x := fun c y r z => by subst z; rw [r] at mu; exact mu
  have ntup : ∀ c xs,H c = some (.tup xs) -> c ≠ x := fun c xs r z => by subst z; rw [r] at mu; exact mu
  by_cases hb : b = x
  · subst hb; rw [upd_same] at q; cases q; exact new
  · rw [upd_ne hb] at q
    by_cases hbe : b = e
    · have q' : H b = some (.own x) := by
        rcases he with z | z
        · exact absurd (hbe.trans z) hb
        · rw [hbe]; exact z
      rw [q] at q'; cases q'
      obtain ⟨v,hv⟩ := heo
      exact ⟨v,by rw [hbe]; exact hv⟩
    · refine (ok b u q).stay (fun c v hc r => k c v ?_ r) (fun c r => by rw [upd_ne (nown c b r)]; exact r) fun c xs r => by rw [upd_ne (ntup c xs r)]; exact r
      rcases hc with rfl | hc
      · exact hbe
      · rintro rfl
        rcases he with z | z
        · exact nown c b hc z
        · rw [hc] at z; cases z; exact hb rfl
end
structure Un (fs ex : List Addr) (H H' : Hp) (h h' : Heap) : Prop where
  keep : ∀ b o,h.get? b = some o -> H b = none -> b ∉ fs -> b ∉ ex -> h'.get? b = some o
  slot : ∀ b o,h.get? b = some o -> H b = none -> b ∈ fs -> b ∉ ex -> ∃ sl,h'.get? b = some { o with slots := sl }
  free : ∀ b o,h.get? b = some o -> H b = none -> b ∉ ex -> H' b = none
  there : ∀ b o,h.get? b = some o -> b ∉ ex -> ∃ o',h'.get? b = some o'
  tups : ∀ b xs,H b = some (.tup xs) -> H' b = some (.tup xs)
  frzs : ∀ b o u,H b = some (.frz o u) -> H' b = some (.frz o u)
  tbls : ∀ b ps,H b = some (.tbl ps) -> ∃ more,H' b = some (.tbl (ps ++ more))
section
variable {fs fs' ex ex' : List Addr} {H H1 H2 : Hp} {h h1 h2 h' : Heap} {a x e : Addr} {o : HO}
theorem Un.any (u : Un fs ex H H1 h h1) {b : Addr} {ob : Obj} (q : h.get? b = some ob) (n : H b = none) (hx : b ∉ ex) : ∃ sl,h1.get? b = some { ob with slots := sl } := by
  by_cases hb : b ∈ fs
  · exact u.slot b ob q n hb hx
  · exact ⟨ob.slots,u.keep b ob q n hb hx⟩
theorem Un.kept (k : ∀ b u,h.get? b = some u -> h'.get? b = some u) : Un fs ex H H h h' :=
  ⟨fun b ob q _ _ _ => k b ob q,fun b ob q _ _ _ => ⟨ob.slots,k b ob q⟩,fun _ _ _ n _ => n,fun b ob q _ => ⟨ob,k b ob q⟩,fun _ _ q => q,fun _ _ _ q => q,fun _ ps q => ⟨#[],by rw [q]; simp⟩⟩
theorem Un.refl : Un fs ex H H h h := Un.kept fun _ _ q => q
theorem Un.laid (k : ∀ b u,h.get? b = some u -> h'.get? b = some u) (hp : h.objs.size <= a) (hn : H a = none) : Un fs ex H (upd H a o) h h' where
  keep := fun b u q _ _ _ => k b u q
  slot := fun b u q _ _ _ => ⟨u.slots,k b u q⟩
  free := fun b u q n _ => by rw [upd_ne (Nat.ne_of_lt (Nat.lt_of_lt_of_le (Heap.lt_size q) hp))]; exact n
  there := fun b u q _ => ⟨u,k b u q⟩
  tups := fun b xs q => by rw [upd_ne (ne_of_none q hn)]; exact q
  frzs := fun b u xs q => by rw [upd_ne (ne_of_none q hn)]; exact q
  tbls := fun b ps q => ⟨#[],by rw [upd_ne (ne_of_none q hn),q]; simp⟩
theorem Un.write (mu : Mut (H x)) (he : e = x \/ H e = some (.own x)) (k : ∀ b u,b ≠ e -> h.get? b = some u -> h'.get? b = some u) (heo : ∃ u,h'.get? e = some u) : Un fs ex H (upd H x o) h h' := by
  have hx : ∀ b,H b = none -> b ≠ x := fun b n z => by subst z; rw [n] at mu; exact mu
  have hb : ∀ b,H b = none -> b ≠ e := fun b n z => by
    subst z
    rcases he with r | r
    · exact hx b n r
    · rw [n] at r; cases r
  have hm : ∀ b u,H b = some u -> ¬ Mut (some u) -> b ≠ x := fun b u q nm z => by subst z; rw [q] at mu; exact nm mu
  refine ⟨fun b u q n _ _ => k b u (hb b n) q,fun b u q n _ _ => ⟨u.slots,k b u (hb b n) q⟩,fun b u q n _ => by rw [upd_ne (hx b n)]; exact n,fun b u q _ => ?_,
    fun b xs q => by rw [upd_ne (hm b _ q fun z => z)]; exact q,fun b u xs q => by rw [upd_ne (hm b _ q fun z => z)]; exact q,fun b ps q => ⟨#[],by rw [upd_ne (hm b _ q fun z => z),q]; simp⟩⟩
  by_cases hbe : b = e
  · subst hbe; exact heo
  · exact ⟨u,k b u hbe q⟩
end
noncomputable def trk (h : Heap) (H : Hp) : List Addr := (List.range h.objs.size).filter fun a => (H a).isSome
noncomputable def hidT (h : Heap) (H : Hp) : Heap := PySem.W.hideAll h (trk h H)
theorem hidT_size (h : Heap) (H : Hp) : (hidT h H).objs.size = h.objs.size := PySem.W.hideAll_size _ _
theorem hidT_get {h : Heap} {H : Hp} {b : Addr} {o : Obj} (e : h.get? b = some o) (n : H b = none) : (hidT h H).get? b = some o :=
  PySem.W.hideAll_get _ e fun hm => by
    have q : (H b).isSome = true := (List.mem_filter.mp hm).2
    rw [n] at q; simp at q
theorem of_hidT {h : Heap} {H : Hp} {b : Addr} {o : Obj} (e : (hidT h H).get? b = some o) : h.get? b = some o /\ H b = none := by
  have e' : h.get? b = some o := PySem.W.of_hideAll (trk h H) e
  refine ⟨e',?_⟩
  cases q : H b with
  | none => rfl
  | some x =>
    have hm : b ∈ trk h H := List.mem_filter.mpr ⟨List.mem_range.mpr (Heap.lt_size e'),by simp [q]⟩
    have z : (hidT h H).get? b = none := PySem.W.hideAll_none (trk h H) hm
    rw [z] at e; cases e
end L2
namespace L2
open PySem PySem.Spec PyProof.Rows
structure Mod (K : PySem.W.Frag) (mg : Str -> Option Value) (base : Heap) : Prop where
  kin : K.In base
  glob : base.Ns mainGlobals mg
  blt : ∃ mb,base.Ns builtinsNs mb /\ ∀ x : Str,x ≠ "__name__" -> mb x = bootBuiltins x
  nolimit : base.NoLimit
structure Cx where
  prog : Program
  w : World
  K : PySem.W.Frag
  mg : Str -> Option Value
  base : Heap
  A : Around
  N : List Str
  s_0 : Shared
  H_0 : Hp
  env : Env
  outer : List Env
  stack : List Env
  ex : List Addr
  fn : Str -> Bool
  calm : Bool
  pn : List (Addr × Obj)
  xe : Value -> Shared -> Prop
noncomputable def frs (l : List Env) : List Addr := l.filterMap (·.frame)
noncomputable abbrev Cx.fs (X : Cx) : List Addr := frs X.outer
noncomputable def Vis (sc : Scope) (x : Str) : Prop := sc.names.lookup x = some .local \/ sc.names.lookup x = some .cell \/ sc.names.lookup x = some .free
noncomputable def Loc (sc : Scope) (x : Str) : Prop := sc.names.lookup x = some .local \/ sc.names.lookup x = some .cell
noncomputable def Look (env : Env) (h : Heap) (m : Str -> Option Value) (x : Str) (u : Value) : Prop :=
  (env.kindOf x = some .local /\ m x = some u) \/ ((env.kindOf x = some .cell \/ env.kindOf x = some .free) /\ ∃ c,env.cells.lookup x = some c /\ h.IsCell c (some u))
structure Cx.Ok (X : Cx) : Prop where
  mod : Mod X.K X.mg X.base
  kind : X.env.scope.kind = .function
  glob : X.env.globals = mainGlobals
  blt : X.env.builtins = builtinsNs
  above : X.s_0.heap.objs.size <= X.env.locals
  inj : ∀ x y c,X.env.cells.lookup x = some c -> X.env.cells.lookup y = some c -> x = y
  has : ∀ x,(X.env.kindOf x = some .cell \/ X.env.kindOf x = some .free) -> ∃ c,X.env.cells.lookup x = some c
  cab : ∀ x c,X.fn x = true -> X.env.cells.lookup x = some c -> X.s_0.heap.objs.size <= c
  hd : X.calm = true -> X.A.handled = none
  frames : X.A.frames = some X.stack
  stk : X.stack = X.outer \/ (X.stack = X.env :: X.outer /\ X.env.frame = some X.env.locals)
  exf : ∀ b ∈ X.ex,b ≠ X.env.locals /\ ∀ x c,X.env.cells.lookup x = some c -> c ≠ b
  bs : ∀ b o,X.base.get? b = some o -> X.s_0.heap.get? b = some o /\ X.H_0 b = none
  bsz : X.base.objs.size <= X.s_0.heap.objs.size
  noex : ∀ b o,X.base.get? b = some o -> b ∉ X.ex
  exfs : ∀ b ∈ X.ex,b ∉ X.fs
  funs : X.s_0.heap.FunFrames X.base X.outer
  frf : ∀ b ∈ X.fs,X.H_0 b = none
structure Inv (X : Cx) (pins : List (Addr × Obj)) (σ : List (Option V)) (H : Hp) (s : Shared) : Prop where
  ok : X.Ok
  os : s.os = X.s_0.os
  bare : AllBare s.gens
  base : Un X.fs X.ex X.H_0 H X.s_0.heap s.heap
  loc : ∃ m,s.heap.Ns X.env.locals m /\ ∀ (i : Nat) (x : Str) (v : V),X.N[i]? = some x -> σ[i]? = some (some v) -> Vis X.env.scope x -> ∃ u,RelV v u /\ Look X.env s.heap m x u
  cell : ∀ x c,X.env.cells.lookup x = some c -> ∃ v,s.heap.IsCell c v
  free : H X.env.locals = none
  freeC : ∀ x c,X.env.cells.lookup x = some c -> H c = none
  pin : ∀ p ∈ X.pn ++ pins,s.heap.get? p.1 = some p.2 /\ H p.1 = none /\ p.1 ≠ X.env.locals /\ p.1 ∉ X.fs /\ ∀ v,p.2.data ≠ .cell v
  hok : HOk X.prog X.w H s.heap
  len : σ.length = X.N.length
section
variable {X : Cx} {pins : List (Addr × Obj)} {σ : List (Option V)} {H H' : Hp} {s : Shared} {h' : Heap}
theorem Cx.Ok.nofr (ok : X.Ok) {b : Addr} {o : Obj} (e : X.base.get? b = some o) : b ∉ X.fs := fun hb => by
  have := (ok.funs.mem hb).1
  rw [e] at this; cases this
theorem Inv.bs (I : Inv X pins σ H s) : ∀ b o,X.base.get? b = some o -> s.heap.get? b = some o /\ H b = none := fun b o e =>
  ⟨I.base.keep b o (I.ok.bs b o e).1 (I.ok.bs b o e).2 (I.ok.nofr e) (I.ok.noex b o e),I.base.free b o (I.ok.bs b o e).1 (I.ok.bs b o e).2 (I.ok.noex b o e)⟩
theorem Inv.bk (I : Inv X pins σ H s) : ∀ b o,X.base.get? b = some o -> s.heap.get? b = some o := fun b o e => (I.bs b o e).1
theorem Inv.mod (I : Inv X pins σ H s) : Mod X.K X.mg X.base := I.ok.mod
theorem Inv.kIn (I : Inv X pins σ H s) : X.K.In s.heap := I.ok.mod.kin.keeps I.bk
theorem Inv.fr (I : Inv X pins σ H s) : ∃ m,Fr X.base X.env.locals s.heap m :=
  let ⟨m,hn,_⟩ := I.loc
  ⟨m,hn,I.bk,Nat.le_trans I.ok.bsz I.ok.above⟩
theorem Inv.lt (I : Inv X pins σ H s) : X.env.locals < s.heap.objs.size := let ⟨_,hn,_⟩ := I.loc; hn.lt
theorem Inv.sz (I : Inv X pins σ H s) : X.s_0.heap.objs.size <= s.heap.objs.size := Nat.le_trans I.ok.above (Nat.le_of_lt I.lt)
theorem Inv.nofs (I : Inv X pins σ H s) {a : Addr} (h : s.heap.objs.size <= a) : a ∉ X.fs := fun hb => by
  obtain ⟨_,o,ho,_⟩ := I.ok.funs.mem hb
  exact absurd (Nat.lt_of_lt_of_le (Heap.lt_size ho) (Nat.le_trans I.sz h)) (Nat.lt_irrefl _)
theorem Inv.cne (I : Inv X pins σ H s) : ∀ x c,X.env.cells.lookup x = some c -> c ≠ X.env.locals := fun x c e z => by
  obtain ⟨v,o,ho,hd⟩ := I.cell x c e
  obtain ⟨m,⟨o',es,ep,ho',hd',_⟩,_⟩ := I.loc
  rw [z,ho'] at ho; cases ho; rw [hd'] at hd; cases hd
theorem Inv.funs (I : Inv X pins σ H s) : s.heap.FunFrames X.base X.outer := by
  have all : ∀ (l : List Env),(∀ b ∈ frs l,b ∈ X.fs) -> X.s_0.heap.FunFrames X.base l -> s.heap.FunFrames X.base l := by
    intro l
    induction l with
    | nil => intro _ _; trivial
    | cons env r ih =>
      intro hs hl
      obtain ⟨hk,⟨L,o,hf,hn,ho,hd⟩,hr⟩ := hl
      have hL : L ∈ X.fs := hs L (by unfold frs; rw [List.filterMap_cons,hf]; exact List.mem_cons_self)
      obtain ⟨sl,e⟩ := I.base.slot L o ho (I.ok.frf L hL) hL fun z => I.ok.exfs L z hL
      exact ⟨hk,⟨L,_,hf,hn,e,hd⟩,ih (fun b hb => hs b (by unfold frs; rw [List.filterMap_cons,hf]; exact List.mem_cons_of_mem _ hb)) hr⟩
  exact all X.outer (fun _ hb => hb) I.ok.funs
theorem Inv.stack (I : Inv X pins σ H s) : s.heap.FunFrames X.base X.stack := by
  rcases I.ok.stk with e | ⟨e,hf⟩
  · rw [e]; exact I.funs
  · rw [e]
    obtain ⟨m,hn,_⟩ := I.loc
    refine .cons (by rw [I.ok.kind]; decide) hf hn ?_ I.funs
    exact Heap.get?_none_of_le (Nat.le_trans I.ok.bsz I.ok.above)
theorem Inv.stkSub (I : Inv X pins σ H s) : ∀ b ∈ frs X.stack,b ∈ X.env.locals :: X.fs := fun b hb => by
  rcases I.ok.stk with e | ⟨e,hf⟩
  · rw [e] at hb; exact List.mem_cons_of_mem _ hb
  · rw [e] at hb
    unfold frs at hb
    rw [List.filterMap_cons,hf] at hb
    exact hb
theorem Inv.stkFree (I : Inv X pins σ H s) : ∀ b ∈ frs X.stack,H b = none := fun b hb => by
  rcases List.mem_cons.mp (I.stkSub b hb) with e | hb
  · rw [e]; exact I.free
  · obtain ⟨_,o,ho,_⟩ := I.ok.funs.mem hb
    exact I.base.free b o ho (I.ok.frf b hb) fun z => I.ok.exfs b z hb
theorem Inv.step {g' : Array GenState} {t' : Nat} {d' : Drawn} {ch : List Addr} (I : Inv X pins σ H s)
    (hch : ∀ b ∈ ch,(b ∈ X.ex \/ X.s_0.heap.objs.size <= b) /\ b ≠ X.env.locals /\ (∀ x c,X.env.cells.lookup x = some c -> c ≠ b) /\ ∀ p ∈ X.pn ++ pins,p.1 ≠ b)
    (keep : ∀ b o,b ≠ X.env.locals -> b ∉ X.fs -> b ∉ ch -> s.heap.get? b = some o -> H b = none -> h'.get? b = some o)
    (slot : ∀ b o,b ≠ X.env.locals -> b ∈ X.fs -> b ∉ ch -> s.heap.get? b = some o -> H b = none -> ∃ sl,h'.get? b = some { o with slots := sl }) (free : ∀ b o,b ∉ ch -> s.heap.get? b = some o -> H b = none -> H' b = none)
    (there : ∀ b o,b ∉ ch -> s.heap.get? b = some o -> ∃ o',h'.get? b = some o')
    (tups : ∀ b xs,H b = some (.tup xs) -> H' b = some (.tup xs)) (frzs : ∀ b o u,H b = some (.frz o u) -> H' b = some (.frz o u)) (tbls : ∀ b ps,H b = some (.tbl ps) -> ∃ more,H' b = some (.tbl (ps ++ more)))
    (ns : ∀ m,s.heap.Ns X.env.locals m -> h'.Ns X.env.locals m) (hok : HOk X.prog X.w H' h') (hg : AllBare g') :
    Inv X pins σ H' { s with heap := h',gens := g',drawn := d',toks := t' } := by
  have neL : ∀ b o,X.s_0.heap.get? b = some o -> b ≠ X.env.locals := fun b o e => Nat.ne_of_lt (Nat.lt_of_lt_of_le (Heap.lt_size e) I.ok.above)
  have neC : ∀ b o,X.s_0.heap.get? b = some o -> b ∉ X.ex -> b ∉ ch := fun b o e hx hb => by
    rcases (hch b hb).1 with z | z
    · exact hx z
    · exact absurd (Nat.lt_of_lt_of_le (Heap.lt_size e) z) (Nat.lt_irrefl _)
  have cellK : ∀ x c,X.env.cells.lookup x = some c -> ∀ v,s.heap.IsCell c v -> h'.IsCell c v := fun x c e v ⟨o,ho,hd⟩ => by
    have nch : c ∉ ch := fun z => (hch c z).2.2.1 x c e rfl
    by_cases hc : c ∈ X.fs
    · obtain ⟨sl,q⟩ := slot c o (I.cne x c e) hc nch ho (I.freeC x c e)
      exact ⟨_,q,hd⟩
    · exact ⟨o,keep c o (I.cne x c e) hc nch ho (I.freeC x c e),hd⟩
  refine ⟨I.ok,I.os,hg,⟨fun b o e n hb hx => ?_,fun b o e n hb hx => ?_,fun b o e n hx => ?_,fun b o e hx => ?_,fun b xs e => tups b xs (I.base.tups b xs e),fun b o xs e => frzs b o xs (I.base.frzs b o xs e),fun b ps e => ?_⟩,?_,fun x c e => ?_,?_,fun x c e => ?_,fun p hp => ?_,hok,I.len⟩
  · exact keep b o (neL b o e) hb (neC b o e hx) (I.base.keep b o e n hb hx) (I.base.free b o e n hx)
  · obtain ⟨sl,e1⟩ := I.base.slot b o e n hb hx
    obtain ⟨sl',e2⟩ := slot b _ (neL b o e) hb (neC b o e hx) e1 (I.base.free b o e n hx)
    exact ⟨sl',e2⟩
  · obtain ⟨o',e1⟩ := I.base.there b o e hx
    exact free b o' (neC b o e hx) e1 (I.base.free b o e n hx)
  · obtain ⟨o',e1⟩ := I.base.there b o e hx
    exact there b o' (neC b o e hx) e1
  · obtain ⟨m1,e1⟩ := I.base.tbls b ps e
    obtain ⟨m2,e2⟩ := tbls b _ e1
    exact ⟨m1 ++ m2,by rw [e2,Array.append_assoc]⟩
  · obtain ⟨m,hn,hl⟩ := I.loc
    refine ⟨m,ns m hn,fun i x v e1 e2 e3 => ?_⟩
    obtain ⟨u,r,l⟩ := hl i x v e1 e2 e3
    refine ⟨u,r,?_⟩
    rcases l with l | ⟨k,c,e,z⟩
    · exact .inl l
    · exact .inr ⟨k,c,e,cellK x c e _ z⟩
  · obtain ⟨v,z⟩ := I.cell x c e
    exact ⟨v,cellK x c e v z⟩
  · obtain ⟨m,⟨o,_,_,ho,_⟩,_⟩ := I.loc
    exact free _ o (fun z => (hch _ z).2.1 rfl) ho I.free
  · obtain ⟨v,o,ho,hd⟩ := I.cell x c e
    exact free c o (fun z => (hch c z).2.2.1 x c e rfl) ho (I.freeC x c e)
  · obtain ⟨e,n,ne,nf,d⟩ := I.pin p hp
    have nch : p.1 ∉ ch := fun z => (hch p.1 z).2.2.2 p hp rfl
    exact ⟨keep p.1 p.2 ne nf nch e n,free p.1 p.2 nch e n,ne,nf,d⟩
theorem Inv.un {t' : Nat} (I : Inv X pins σ H s) (u : Un X.fs [] H H' s.heap h') (hok : HOk X.prog X.w H' h') : Inv X pins σ H' { s with heap := h',toks := t' } := by
  obtain ⟨m,⟨o,es,ep,ho,r⟩,_⟩ := id I.loc
  obtain ⟨sl,hL⟩ := u.any ho I.free (by simp)
  exact I.step (g' := s.gens) (d' := s.drawn) (ch := []) (fun _ z => nomatch z) (fun b o _ hb _ e n => u.keep b o e n hb (by simp)) (fun b o _ hb _ e n => u.slot b o e n hb (by simp)) (fun b o _ e n => u.free b o e n (by simp)) (fun b o _ e => u.there b o e (by simp)) u.tups u.frzs u.tbls (fun m' hm => by
    obtain ⟨o',es',ep',ho',r'⟩ := hm
    rw [ho] at ho'; cases ho'
    exact ⟨_,es',ep',hL,r'⟩) hok I.bare
theorem Inv.call {g' : Array GenState} {t' : Nat} {d' : Drawn} {ch : List Addr} (I : Inv X pins σ H s) (u : Un (frs X.stack) ch H H' s.heap h') (hok : HOk X.prog X.w H' h') (hg : AllBare g')
    (hch : ∀ b ∈ ch,(b ∈ X.ex \/ X.s_0.heap.objs.size <= b) /\ b ≠ X.env.locals /\ (∀ x c,X.env.cells.lookup x = some c -> c ≠ b) /\ ∀ p ∈ X.pn ++ pins,p.1 ≠ b) :
    Inv X pins σ H' { s with heap := h',gens := g',drawn := d',toks := t' } := by
  obtain ⟨m,⟨o,es,ep,ho,r⟩,_⟩ := id I.loc
  obtain ⟨sl,hL⟩ := u.any ho I.free fun z => (hch _ z).2.1 rfl
  exact I.step (ch := ch) hch (fun b o hL hb hc e n => u.keep b o e n (fun z => (List.mem_cons.mp (I.stkSub b z)).elim hL hb) hc) (fun b o _ _ hc e n => u.any e n hc) (fun b o hc e n => u.free b o e n hc) (fun b o hc e => u.there b o e hc) u.tups u.frzs u.tbls (fun m' hm => by
    obtain ⟨o',es',ep',ho',r'⟩ := hm
    rw [ho] at ho'; cases ho'
    exact ⟨_,es',ep',hL,r'⟩) hok hg
theorem Inv.turned {t' : Nat} {it : Addr} (I : Inv X pins σ H s) (k : ∀ b o,b ≠ it -> s.heap.get? b = some o -> h'.get? b = some o) (hn : H it = none) (hL : it ≠ X.env.locals)
    (h1 : it ∈ X.ex \/ X.s_0.heap.objs.size <= it) (h2 : ∀ x c,X.env.cells.lookup x = some c -> c ≠ it) (h3 : ∀ p ∈ X.pn ++ pins,p.1 ≠ it) : Inv X pins σ H { s with heap := h',toks := t' } := by
  have nit : ∀ b u,H b = some u -> b ≠ it := fun b u e z => by rw [z,hn] at e; cases e
  refine I.step (g' := s.gens) (d' := s.drawn) (ch := [it]) (fun b hb => ?_) (fun b o _ _ hc e _ => k b o (fun z => hc (by simp [z])) e) (fun b o _ _ hc e _ => ⟨o.slots,k b o (fun z => hc (by simp [z])) e⟩) (fun _ _ _ _ n => n)
    (fun b o hc e => ⟨o,k b o (fun z => hc (by simp [z])) e⟩) (fun _ _ e => e) (fun _ _ _ e => e) (fun b ps e => ⟨#[],by rw [e]; simp⟩) (fun m hm => ?_) (fun b u e => ?_) I.bare
  · have e : b = it := by simpa using hb
    subst e
    exact ⟨h1,hL,h2,h3⟩
  · obtain ⟨o,es,ep,ho,r⟩ := hm
    exact ⟨o,es,ep,k _ o (Ne.symm hL) ho,r⟩
  · refine (I.hok b u e).stay (fun c v hc q => k c v ?_ q) (fun _ q => q) fun _ _ q => q
    rcases hc with z | z
    · rw [z]; exact nit b u e
    · exact nit c _ z
theorem Inv.tok (I : Inv X pins σ H s) (t : Nat) : Inv X pins σ H { s with toks := t } := I.un (h' := s.heap) (t' := t) Un.refl I.hok
theorem Inv.kept {t' : Nat} (I : Inv X pins σ H s) (k : ∀ b u,s.heap.get? b = some u -> h'.get? b = some u) : Inv X pins σ H { s with heap := h',toks := t' } := I.un (Un.kept k) (I.hok.kept k)
theorem Inv.laid {a : Addr} {o : HO} {t' : Nat} (I : Inv X pins σ H s) (k : ∀ b u,s.heap.get? b = some u -> h'.get? b = some u) (hp : s.heap.objs.size <= a) (new : ObjOk X.prog X.w (upd H a o) h' a o) :
    Inv X pins σ (upd H a o) { s with heap := h',toks := t' } := I.un (Un.laid k hp (I.hok.fresh hp)) (I.hok.laid k hp new)
theorem Inv.write {x e : Addr} {o : HO} {t' : Nat} (I : Inv X pins σ H s) (mu : Mut (H x)) (he : e = x \/ H e = some (.own x)) (k : ∀ b u,b ≠ e -> s.heap.get? b = some u -> h'.get? b = some u) (heo : ∃ u,h'.get? e = some u)
    (new : ObjOk X.prog X.w (upd H x o) h' x o) : Inv X pins σ (upd H x o) { s with heap := h',toks := t' } := I.un (Un.write mu he k heo) (I.hok.write mu he k heo new)
theorem Inv.weak {σ' : List (Option V)} (I : Inv X pins σ H s) (hl : σ'.length = σ.length) (w : ∀ (i : Nat) v,σ'[i]? = some (some v) -> σ[i]? = some (some v)) : Inv X pins σ' H s :=
  ⟨I.ok,I.os,I.bare,I.base,let ⟨m,hn,hl'⟩ := I.loc; ⟨m,hn,fun i x v e1 e2 e3 => hl' i x v e1 (w i v e2) e3⟩,I.cell,I.free,I.freeC,I.pin,I.hok,hl.trans I.len⟩
theorem Inv.pins_of {pins' : List (Addr × Obj)} (I : Inv X pins σ H s) (h : ∀ p ∈ pins',s.heap.get? p.1 = some p.2 /\ H p.1 = none /\ p.1 ≠ X.env.locals /\ p.1 ∉ X.fs /\ ∀ v,p.2.data ≠ .cell v) : Inv X pins' σ H s :=
  ⟨I.ok,I.os,I.bare,I.base,I.loc,I.cell,I.free,I.freeC,fun p hp => (List.mem_append.mp hp).elim (fun z => I.pin p (List.mem_append_left _ z)) (h p),I.hok,I.len⟩
theorem nodup_ix {N : List Str} (hN : N.Nodup) {i j : Nat} {x : Str} (a : N[i]? = some x) (b : N[j]? = some x) : i = j := by
  obtain ⟨h1,e1⟩ := List.getElem?_eq_some_iff.mp a
  obtain ⟨h2,e2⟩ := List.getElem?_eq_some_iff.mp b
  exact (List.getElem_inj hN).mp (e1.trans e2.symm)
theorem store_ok2 {M : Model} {A : Around} {E : Value -> Shared -> Prop} {i : Nat} {x : Str} {v : V} {u : Value} {Q : Unit -> Shared -> Prop} (I : Inv X pins σ H s) (hN : X.N.Nodup) (hi : X.N[i]? = some x) (hx : Loc X.env.scope x) (r : RelV v u)
    (h : ∀ s',Inv X pins (σ.set i (some v)) H s' -> (∃ a,Heap.SameBut a s.heap s'.heap /\ (a = X.env.locals \/ X.env.cells.lookup x = some a)) -> Q () s') (hf : X.fn x = true \/ X.env.scope.names.lookup x = some .local := by first | exact .inl rfl | exact .inr rfl | assumption) : wpAny M A (storeName X.env x u) Q E s := by
  obtain ⟨m,hn,hl⟩ := id I.loc
  have hcls : (X.env.scope.kind == .class || (X.env.scope.kind == .module && X.env.locals != X.env.globals)) = false := by rw [I.ok.kind]; rfl
  have hiσ : i < σ.length := by rw [I.len]; exact (List.getElem?_eq_some_iff.mp hi).1
  have cne := I.cne
  have tracked : ∀ {a : Addr} {h' : Heap},(∃ o,s.heap.get? a = some o /\ H a = none) -> Heap.SameBut a s.heap h' -> HOk X.prog X.w H h' := fun {a h'} ha hs b ob e => by
    obtain ⟨_,_,hfree⟩ := ha
    refine (I.hok b ob e).stay (fun c w' hc q => (hs.2 c ?_).trans q) (fun _ q => q) fun _ _ q => q
    rintro rfl
    rcases hc with rfl | hc
    · rw [hfree] at e; cases e
    · rw [hfree] at hc; cases hc
  rcases hx with hk | hk
  · refine wpAny_storeName_local hk hn (fun h' hn' hs => ?_) hcls
    obtain ⟨oL,_,_,hoL,_⟩ := id hn
    refine h _ ⟨I.ok,I.os,I.bare,⟨fun b o e n hb hx => ?_,fun b o e n hb hx => ?_,I.base.free,fun b o e hx => ?_,I.base.tups,I.base.frzs,I.base.tbls⟩,⟨_,hn',fun j y v' e1 e2 e3 => ?_⟩,fun y c e => ?_,I.free,I.freeC,fun p hp => ?_,tracked ⟨oL,hoL,I.free⟩ hs,by simpa using I.len⟩ ⟨_,hs,.inl rfl⟩
    · exact (hs.2 b (Nat.ne_of_lt (Nat.lt_of_lt_of_le (Heap.lt_size e) I.ok.above))).trans (I.base.keep b o e n hb hx)
    · obtain ⟨sl,e1⟩ := I.base.slot b o e n hb hx
      exact ⟨sl,(hs.2 b (Nat.ne_of_lt (Nat.lt_of_lt_of_le (Heap.lt_size e) I.ok.above))).trans e1⟩
    · obtain ⟨o',e1⟩ := I.base.there b o e hx
      exact ⟨o',(hs.2 b (Nat.ne_of_lt (Nat.lt_of_lt_of_le (Heap.lt_size e) I.ok.above))).trans e1⟩
    · by_cases hj : j = i
      · subst hj
        rw [hi] at e1; cases e1
        rw [List.getElem?_set_self hiσ] at e2
        cases e2
        exact ⟨u,r,.inl ⟨hk,by simp⟩⟩
      · rw [List.getElem?_set_ne (Ne.symm hj)] at e2
        obtain ⟨u',r',q⟩ := hl j y v' e1 e2 e3
        refine ⟨u',r',?_⟩
        rcases q with ⟨k,e⟩ | ⟨k,c,e,z⟩
        · refine .inl ⟨k,?_⟩
          have : y ≠ x := fun e => hj (nodup_ix hN e1 (e ▸ hi))
          simp [this,e]
        · exact .inr ⟨k,c,e,z.sameBut hs (cne y c e)⟩
    · obtain ⟨w',z⟩ := I.cell y c e
      exact ⟨w',z.sameBut hs (cne y c e)⟩
    · obtain ⟨e,n,ne,nf,d⟩ := I.pin p hp
      exact ⟨(hs.2 p.1 ne).trans e,n,ne,nf,d⟩
  · have hfn : X.fn x = true := by
      rcases hf with z | z
      · exact z
      · rw [z] at hk; cases hk
    obtain ⟨c,hc⟩ := I.ok.has x (.inl hk)
    obtain ⟨w',z⟩ := I.cell x c hc
    refine wpAny_storeName_cell I.ok.kind hk hc z (fun h' hc' hs => ?_)
    obtain ⟨oc,hoc,hocd⟩ := id z
    refine h { s with heap := h' } ⟨I.ok,I.os,I.bare,⟨fun b o e n hb hx => ?_,fun b o e n hb hx => ?_,I.base.free,fun b o e hx => ?_,I.base.tups,I.base.frzs,I.base.tbls⟩,⟨m,hn.sameBut hs (Ne.symm (cne x c hc)),fun j y v' e1 e2 e3 => ?_⟩,fun y c' e => ?_,I.free,I.freeC,fun p hp => ?_,tracked ⟨oc,hoc,I.freeC x c hc⟩ hs,by simpa using I.len⟩ ⟨c,hs,.inr hc⟩
    · exact (hs.2 b (Nat.ne_of_lt (Nat.lt_of_lt_of_le (Heap.lt_size e) (I.ok.cab x c hfn hc)))).trans (I.base.keep b o e n hb hx)
    · obtain ⟨sl,e1⟩ := I.base.slot b o e n hb hx
      exact ⟨sl,(hs.2 b (Nat.ne_of_lt (Nat.lt_of_lt_of_le (Heap.lt_size e) (I.ok.cab x c hfn hc)))).trans e1⟩
    · obtain ⟨o',e1⟩ := I.base.there b o e hx
      exact ⟨o',(hs.2 b (Nat.ne_of_lt (Nat.lt_of_lt_of_le (Heap.lt_size e) (I.ok.cab x c hfn hc)))).trans e1⟩
    · by_cases hj : j = i
      · subst hj
        rw [hi] at e1; cases e1
        rw [List.getElem?_set_self hiσ] at e2
        cases e2
        exact ⟨u,r,.inr ⟨.inl hk,c,hc,hc'⟩⟩
      · rw [List.getElem?_set_ne (Ne.symm hj)] at e2
        obtain ⟨u',r',q⟩ := hl j y v' e1 e2 e3
        refine ⟨u',r',?_⟩
        rcases q with q | ⟨k,c',e,z'⟩
        · exact .inl q
        · refine .inr ⟨k,c',e,z'.sameBut hs ?_⟩
          rintro rfl
          exact hj (nodup_ix hN e1 (I.ok.inj _ _ _ e hc ▸ hi))
    · by_cases hcc : c' = c
      · subst hcc; exact ⟨_,hc'⟩
      · obtain ⟨w2,z2⟩ := I.cell y c' e
        exact ⟨w2,z2.sameBut hs hcc⟩
    · obtain ⟨e,n,ne,nf,d⟩ := I.pin p hp
      refine ⟨(hs.2 p.1 ?_).trans e,n,ne,nf,d⟩
      intro q
      rw [q,hoc] at e
      have q' : oc = p.2 := Option.some.inj e
      exact d w' (by rw [<- q']; exact hocd)
theorem store_ok {M : Model} {A : Around} {E : Value -> Shared -> Prop} {i : Nat} {x : Str} {v : V} {u : Value} {Q : Unit -> Shared -> Prop} (I : Inv X pins σ H s) (hN : X.N.Nodup) (hi : X.N[i]? = some x) (hx : Loc X.env.scope x) (r : RelV v u)
    (h : ∀ s',Inv X pins (σ.set i (some v)) H s' -> Q () s') (hf : X.fn x = true \/ X.env.scope.names.lookup x = some .local := by first | exact .inl rfl | exact .inr rfl | assumption) : wpAny M A (storeName X.env x u) Q E s :=
  store_ok2 I hN hi hx r (fun s' I' _ => h s' I') hf
theorem Inv.call' {s' : Shared} {ch : List Addr} (I : Inv X pins σ H s) (ho : s'.os = s.os) (u : Un (frs X.stack) ch H H' s.heap s'.heap) (hok : HOk X.prog X.w H' s'.heap) (hg : AllBare s'.gens)
    (hch : ∀ b ∈ ch,(b ∈ X.ex \/ X.s_0.heap.objs.size <= b) /\ b ≠ X.env.locals /\ (∀ x c,X.env.cells.lookup x = some c -> c ≠ b) /\ ∀ p ∈ X.pn ++ pins,p.1 ≠ b) : Inv X pins σ H' s' := by
  obtain ⟨h',g',d',t',o'⟩ := s'
  have e : o' = s.os := ho
  subst e
  exact I.call (g' := g') (t' := t') (d' := d') u hok hg hch
end
noncomputable abbrev XK := Value -> Option Addr -> Hp -> Prop
noncomputable abbrev St := List (Option V)
noncomputable abbrev VK := V -> Hp -> Prop
noncomputable abbrev TE := St -> Hp -> VK -> Prop
noncomputable abbrev TT := St -> Hp -> (Bool -> Hp -> Prop) -> Prop
noncomputable abbrev TA := St -> Hp -> (List V -> Hp -> Prop) -> Prop
structure Ends where
  nx : St -> Hp -> Prop
  rt : VK
  bk : St -> Hp -> Prop := fun _ _ => False
  ct : St -> Hp -> Prop := fun _ _ => False
noncomputable abbrev TS := Ends -> St -> Hp -> Prop
noncomputable def EP (X : Cx) (pins : List (Addr × Obj)) (σ : St) (Q : VK) (u : Value) (s' : Shared) : Prop := ∃ v H',Inv X pins σ H' s' /\ RelV v u /\ Q v H'
noncomputable def TP (X : Cx) (pins : List (Addr × Obj)) (σ : St) (Q : Bool -> Hp -> Prop) (b : Bool) (s' : Shared) : Prop := ∃ H',Inv X pins σ H' s' /\ Q b H'
noncomputable def AP (X : Cx) (pins : List (Addr × Obj)) (σ : St) (Q : List V -> Hp -> Prop) (us : List Value) (s' : Shared) : Prop := ∃ vs H',Inv X pins σ H' s' /\ Vals vs us /\ Q vs H'
noncomputable def SP (X : Cx) (pins : List (Addr × Obj)) (D : Ends) (f : Flow) (s' : Shared) : Prop :=
  match f with
  | .next => ∃ σ' H',Inv X pins σ' H' s' /\ D.nx σ' H'
  | .brk => ∃ σ' H',Inv X pins σ' H' s' /\ D.bk σ' H'
  | .cont => ∃ σ' H',Inv X pins σ' H' s' /\ D.ct σ' H'
  | .ret u => ∃ v σ' H',Inv X pins σ' H' s' /\ RelV v u /\ D.rt v H'
noncomputable def PE (X : Cx) (e : Expr) (t : TE) : Prop :=
  ∀ (pins : List (Addr × Obj)) (s : Shared) (σ : St) (H : Hp) (Q : VK),Inv X pins σ H s -> t σ H Q -> wpAny (model X.prog X.w) X.A (eval e X.env) (EP X pins σ Q) X.xe s
noncomputable def PT (X : Cx) (e : Expr) (t : TT) : Prop :=
  ∀ (pins : List (Addr × Obj)) (s : Shared) (σ : St) (H : Hp) (Q : Bool -> Hp -> Prop),Inv X pins σ H s -> t σ H Q -> wpAny (model X.prog X.w) X.A (isTrue e X.env (eval e X.env)) (TP X pins σ Q) X.xe s
noncomputable def PW (X : Cx) (e : Expr) (t : TT) : Prop :=
  ∀ (whole : Sem Value) (pins : List (Addr × Obj)) (s : Shared) (σ : St) (H : Hp) (Q : Bool -> Hp -> Prop),Inv X pins σ H s -> t σ H Q -> wpAny (model X.prog X.w) X.A (isTrue e X.env whole) (TP X pins σ Q) X.xe s
theorem PW.pt {X : Cx} {e : Expr} {t : TT} (h : PW X e t) : PT X e t := h _
noncomputable def PA (X : Cx) (es : List Expr) (t : TA) : Prop :=
  ∀ (pos : Pos) (pins : List (Addr × Obj)) (s : Shared) (σ : St) (H : Hp) (Q : List V -> Hp -> Prop),Inv X pins σ H s -> t σ H Q -> wpAny (model X.prog X.w) X.A (spliced (backTo pos (starEach es X.env))) (AP X pins σ Q) X.xe s
noncomputable def PS (X : Cx) (st : Stmt) (t : TS) : Prop :=
  ∀ (pins : List (Addr × Obj)) (s : Shared) (σ : St) (H : Hp) (D : Ends),Inv X pins σ H s -> t D σ H -> wpAny (model X.prog X.w) X.A (exec st X.env) (SP X pins D) X.xe s
noncomputable def PSs (X : Cx) (st : List Stmt) (t : TS) : Prop :=
  ∀ (pins : List (Addr × Obj)) (s : Shared) (σ : St) (H : Hp) (D : Ends),Inv X pins σ H s -> t D σ H -> wpAny (model X.prog X.w) X.A (execs st X.env) (SP X pins D) X.xe s
theorem thn {α : Type} {t : Sem α} {Q Q' : α -> Shared -> Prop} {M : Model} {A : Around} {E : Value -> Shared -> Prop} {s : Shared} (h : wpAny M A t Q E s) (hQ : ∀ a s,Q a s -> Q' a s) : wpAny M A t Q' E s := wpAny_mono h hQ fun _ _ x => x
end L2
namespace L2
open PySem PySem.Spec PyProof.Rows
section
variable {X : Cx}
theorem bin {a b : Expr} {ta tb : TE} (ha : PE X a ta) (hb : PE X b tb) {pins : List (Addr × Obj)} {s : Shared} {σ : St} {H : Hp} {R : V -> V -> Hp -> Prop} (I : Inv X pins σ H s) (h : ta σ H fun x H1 => tb σ H1 fun y H2 => R x y H2)
    {α : Type} {Q : α -> Shared -> Prop} {f : Value -> Value -> Sem α}
    (hf : ∀ v u s2 x y H2,Inv X pins σ H2 s2 -> RelV x v -> RelV y u -> R x y H2 -> wpAny (model X.prog X.w) X.A (f v u) Q X.xe s2) :
    wpAny (model X.prog X.w) X.A (eval a X.env) (fun v s₁ => wpAny (model X.prog X.w) X.A (eval b X.env) (fun u s₂ => wpAny (model X.prog X.w) X.A (f v u) Q X.xe s₂) X.xe s₁) X.xe s := by
  refine thn (ha pins s σ H _ I h) fun v s1 ⟨x,H1,I1,r1,q1⟩ => ?_
  refine thn (hb pins s1 σ H1 _ I1 q1) fun u s2 ⟨y,H2,I2,r2,q2⟩ => ?_
  exact hf v u s2 x y H2 I2 r1 r2 q2
noncomputable def tVar (i : Nat) : TE := fun σ H Q => ∃ v,σ[i]? = some (some v) /\ Q v H
noncomputable def tC (v : V) : TE := fun _ H Q => Q v H
theorem pe_var {i : Nat} {x : Str} {pos : Pos} (hN : X.N[i]? = some x) (hv : Vis X.env.scope x) (hd : (x == ("__debug__" : Str)) = false := by decide) (hcd : (x == ("__classdict__" : Str)) = false := by decide) : PE X (.Name x pos) (tVar i) := by
  intro pins s σ H Q I h
  obtain ⟨v,e,h⟩ := h
  obtain ⟨m,hn,hl⟩ := I.loc
  obtain ⟨u,r,l⟩ := hl i x v hN e hv
  have fin : EP X pins σ Q u s := ⟨v,H,I,r,h⟩
  rcases l with ⟨hk,hm⟩ | ⟨hk,c,hc,hcell⟩
  · exact wpAny_Name (wpAny_loadName_local I.ok.kind hk hn hm fin) hd
  · rcases hk with hk | hk
    · exact wpAny_Name (wpAny_loadName_cell I.ok.kind hk hc hcell fin) hd
    · exact wpAny_Name (wpAny_loadName_free I.ok.kind hk hc hcell fin hcd) hd
theorem pe_int {i j pos} : PE X (.Constant (.int i) j pos) (tC (.int i)) := fun _ _ _ H _ I h => wpAny_Constant_int ⟨.int i,H,I.tok _,⟨_,rfl⟩,h⟩
theorem pe_bl {b j pos} : PE X (.Constant (.bool b) j pos) (tC (.bl b)) := fun _ _ _ H _ I h => Constant_bool ⟨.bl b,H,I,rfl,h⟩
theorem pe_non {j pos} : PE X (.Constant .none j pos) (tC .non) := fun _ _ _ H _ I h => Constant_none ⟨.non,H,I,rfl,h⟩
noncomputable def Gl (X : Cx) (x : Str) : Prop := X.env.kindOf x = some .globalImplicit
theorem ld_glob {E : Value -> Shared -> Prop} {pins : List (Addr × Obj)} {s : Shared} {σ : St} {H : Hp} {x : Str} {u : Value} {pos : Pos} {Q : Value -> Shared -> Prop} (I : Inv X pins σ H s) (hg : Gl X x) (hm : X.mg x = some u) (h : Q u s)
    (hd : (x == ("__debug__" : Str)) = false := by decide) : wpAny (model X.prog X.w) X.A (eval (.Name x pos) X.env) Q E s :=
  Calls.Name_function_global I.ok.kind hg (Calls.loadGlobal_global (by rw [I.ok.glob]; exact I.mod.glob.keeps I.bk) hm h) hd
theorem ld_blt {E : Value -> Shared -> Prop} {pins : List (Addr × Obj)} {s : Shared} {σ : St} {H : Hp} {x : Str} {u : Value} {pos : Pos} {Q : Value -> Shared -> Prop} (I : Inv X pins σ H s) (hg : Gl X x) (hm : X.mg x = none) (hv : bootBuiltins x = some u) (h : Q u s)
    (hn : x ≠ "__name__" := by decide) (hd : (x == ("__debug__" : Str)) = false := by decide) : wpAny (model X.prog X.w) X.A (eval (.Name x pos) X.env) Q E s := by
  obtain ⟨mb,h1,h2⟩ := I.mod.blt
  exact Calls.Name_function_global I.ok.kind hg (Calls.loadGlobal_builtin (by rw [I.ok.glob]; exact I.mod.glob.keeps I.bk) hm (by rw [I.ok.blt]; exact h1.keeps I.bk) ((h2 x hn).trans hv) h) hd
theorem pe_glob {x : Str} {v : V} {u : Value} {pos : Pos} (hg : Gl X x) (hm : X.mg x = some u) (r : RelV v u) (hd : (x == ("__debug__" : Str)) = false := by decide) : PE X (.Name x pos) (tC v) :=
  fun _ _ _ H _ I h => ld_glob I hg hm ⟨v,H,I,r,h⟩ hd
theorem pe_bltn {x : Str} {v : V} {u : Value} {pos : Pos} (hg : Gl X x) (hm : X.mg x = none) (hv : bootBuiltins x = some u) (r : RelV v u) (hn : x ≠ "__name__" := by decide) (hd : (x == ("__debug__" : Str)) = false := by decide) : PE X (.Name x pos) (tC v) :=
  fun _ _ _ H _ I h => ld_blt I hg hm hv ⟨v,H,I,r,h⟩ hn hd
variable {a b : Expr} {ta tb : TE} {pos : Pos}
noncomputable def PC (X : Cx) (op : CmpOp) (a b : Expr) (t : TE) : Prop :=
  ∀ (pins : List (Addr × Obj)) (s : Shared) (σ : St) (H : Hp) (Q : VK),Inv X pins σ H s -> t σ H Q ->
    wpAny (model X.prog X.w) X.A (eval a X.env) (fun v s₁ => wpAny (model X.prog X.w) X.A (eval b X.env) (fun u s₂ => wpAny (model X.prog X.w) X.A (compareOp op v u) (EP X pins σ Q) X.xe s₂) X.xe s₁) X.xe s
noncomputable def tB (t : TE) : TT := fun σ H Q => t σ H fun x H1 => ∃ c,x = .bl c /\ Q c H1
theorem pt_cmp {op : CmpOp} {t : TE} (h : PC X op a b t) (h1 : behindInMarks op b = false := by first | exact nobehind _ (by decide) (by decide) | rfl) : PT X (.Compare a [op] [b] pos) (tB t) := by
  intro pins s σ H Q I hw
  refine wpAny_isTrue_Compare1 (thn (h pins s σ H _ I hw) fun v s1 h1 => thn h1 fun u s2 h2 => thn h2 fun c s3 ⟨x,H1,I1,r1,q1⟩ => ?_) h1
  obtain ⟨d,rfl,q⟩ := q1
  cases r1
  exact wpAny_truthy_bool ⟨H1,I1,q⟩
theorem pt_val {e : Expr} {t : TE} (h : PE X e t) (he : ∀ whole,isTrue e X.env whole = (do let v <- whole; standAt e.pos; holding [v] (truthy v)) := by intro _; rfl) : PT X e (tB t) := by
  intro pins s σ H Q I hw
  refine isTrue_plain (thn (h pins s σ H _ I hw) fun v s1 ⟨x,H1,I1,r1,q1⟩ => ?_) (he _)
  obtain ⟨d,rfl,q⟩ := q1
  cases r1
  exact wpAny_truthy_bool ⟨H1,I1,q⟩
variable {tA tB' : TT} {rest : List Expr}
noncomputable def tAnd (t u : TT) : TT := fun σ H Q => t σ H fun c H1 => if c = true then u σ H1 Q else Q false H1
noncomputable def tOr (t u : TT) : TT := fun σ H Q => t σ H fun c H1 => if c = true then Q true H1 else u σ H1 Q
noncomputable def tNot (t : TT) : TT := fun σ H Q => t σ H fun c H1 => Q (!c) H1
theorem pw_and1 (ha : PT X a tA) : PW X (.BoolOp .And [a] pos) tA := by
  intro wh pins s σ H Q I h
  refine isTrue_and (thn (ha pins s σ H Q I h) fun c s1 e => ?_)
  cases c with
  | true => exact isTrue_and_nil e
  | false => exact e
theorem pw_or1 (ha : PT X a tA) : PW X (.BoolOp .Or [a] pos) tA := by
  intro wh pins s σ H Q I h
  refine isTrue_or (thn (ha pins s σ H Q I h) fun c s1 e => ?_)
  cases c with
  | false => exact isTrue_or_nil e
  | true => exact e
theorem pw_and (ha : PT X a tA) (hb : PW X (.BoolOp .And (b :: rest) pos) tB') : PW X (.BoolOp .And (a :: b :: rest) pos) (tAnd tA tB') := by
  intro wh pins s σ H Q I h
  refine isTrue_and (thn (ha pins s σ H _ I h) fun c s1 ⟨H1,I1,q1⟩ => ?_)
  cases c with
  | true => exact hb wh pins s1 σ H1 Q I1 q1
  | false => exact ⟨H1,I1,q1⟩
theorem pw_or (ha : PT X a tA) (hb : PW X (.BoolOp .Or (b :: rest) pos) tB') : PW X (.BoolOp .Or (a :: b :: rest) pos) (tOr tA tB') := by
  intro wh pins s σ H Q I h
  refine isTrue_or (thn (ha pins s σ H _ I h) fun c s1 ⟨H1,I1,q1⟩ => ?_)
  cases c with
  | true => exact ⟨H1,I1,q1⟩
  | false => exact hb wh pins s1 σ H1 Q I1 q1
theorem pt_not (ha : PT X a tA) : PT X (.UnaryOp .Not a pos) (tNot tA) := by
  intro pins s σ H Q I h
  exact isTrue_not (ha pins s σ H (fun c H1 => Q (!c) H1) I h)
noncomputable def tAndV (ta tb : TE) : TE := fun σ H Q => ta σ H fun x H1 => ∃ c,x = .bl c /\ if c = true then tb σ H1 Q else Q (.bl false) H1
noncomputable def tOrV (ta tb : TE) : TE := fun σ H Q => ta σ H fun x H1 => ∃ c,x = .bl c /\ if c = true then Q (.bl true) H1 else tb σ H1 Q
theorem pe_one {op} {t : TE} (h : PE X a t) : PE X (.BoolOp op [a] pos) t := fun pins s σ H Q I hw => BoolOp_one (h pins s σ H Q I hw)
theorem pe_and (ha : PE X a ta) (hb : PE X (.BoolOp .And (b :: rest) pos) tb) : PE X (.BoolOp .And (a :: b :: rest) pos) (tAndV ta tb) := by
  intro pins s σ H Q I h
  refine BoolOp_and (thn (ha pins s σ H _ I h) fun v s1 ⟨x,H1,I1,r1,q1⟩ => ?_)
  obtain ⟨c,rfl,q1⟩ := q1
  cases r1
  refine wpAny_truthy_bool ?_
  cases c with
  | true => exact hb pins s1 σ H1 Q I1 q1
  | false => exact ⟨.bl false,H1,I1,rfl,q1⟩
theorem pe_or (ha : PE X a ta) (hb : PE X (.BoolOp .Or (b :: rest) pos) tb) : PE X (.BoolOp .Or (a :: b :: rest) pos) (tOrV ta tb) := by
  intro pins s σ H Q I h
  refine BoolOp_or (thn (ha pins s σ H _ I h) fun v s1 ⟨x,H1,I1,r1,q1⟩ => ?_)
  obtain ⟨c,rfl,q1⟩ := q1
  cases r1
  refine wpAny_truthy_bool ?_
  cases c with
  | false => exact hb pins s1 σ H1 Q I1 q1
  | true => exact ⟨.bl true,H1,I1,rfl,q1⟩
noncomputable def tIf (t : TT) (ta tb : TE) : TE := fun σ H Q => t σ H fun c H1 => if c = true then ta σ H1 Q else tb σ H1 Q
theorem pe_ifExp {c : Expr} (hc : PT X c tA) (ha : PE X a ta) (hb : PE X b tb) : PE X (.IfExp c a b pos) (tIf tA ta tb) := by
  intro pins s σ H Q I h
  refine wpAny_IfExp (thn (hc pins s σ H _ I h) fun d s1 ⟨H1,I1,q1⟩ => ?_)
  cases d with
  | true => exact ha pins s1 σ H1 Q I1 q1
  | false => exact hb pins s1 σ H1 Q I1 q1
end
end L2
namespace L2
open PySem PySem.Spec PyProof.Rows
noncomputable def SqL (K : PySem.W.Frag) (H : Hp) (a : Addr) (xs : List V) : Prop :=
  Rd H a (.lst xs) \/
    ∃ (o : Obj) (its : Array Value) (n : Nat),K.lookup a = some o /\ o.cls = .type "list" /\ o.dict = none /\ o.data = .seq its n /\ its.size <= sizeLine /\ Vals xs its.toList
noncomputable def SqT (K : PySem.W.Frag) (H : Hp) (a : Addr) (xs : List V) : Prop :=
  Rd H a (.tup xs) \/
    ∃ (o : Obj) (its : Array Value) (n : Nat),K.lookup a = some o /\ o.cls = .type "tuple" /\ o.data = .seq its n /\ its.size <= sizeLine /\ Vals xs its.toList
noncomputable def absV : Value -> Option V
  | .none => some .non
  | .bool b => some (.bl b)
  | .int i _ => some (.int i)
  | .str x _ => some (.str x)
  | .bytes b _ => some (.byt b)
  | .float b _ => some (.flt b)
  | .ref a => some (.ref a)
  | .type n => some (.ty n)
  | _ => none
theorem RelV.abs {x : V} {u : Value} (r : RelV x u) : absV u = some x := by
  cases x with
  | non => cases r; rfl
  | bl _ => cases r; rfl
  | int _ => obtain ⟨t,rfl⟩ := r; rfl
  | str _ => obtain ⟨t,rfl⟩ := r; rfl
  | byt _ => obtain ⟨t,rfl⟩ := r; rfl
  | flt _ => obtain ⟨t,rfl⟩ := r; rfl
  | ref _ => cases r; rfl
  | ty _ => cases r; rfl
theorem RelV.inj {x y : V} {u : Value} (r : RelV x u) (q : RelV y u) : x = y := Option.some.inj (r.abs.symm.trans q.abs)
theorem Vals.inj : ∀ {xs ys : List V} {us : List Value},Vals xs us -> Vals ys us -> xs = ys
  | _,_,_,.nil,.nil => rfl
  | _,_,_,.cons r t,.cons r' t' => by rw [r.inj r',Vals.inj t t']
section
variable {X : Cx} {pins : List (Addr × Obj)} {σ : St} {H : Hp} {s : Shared} {a : Addr} {xs ys : List V}
theorem SqL.of {K : PySem.W.Frag} (h : H a = some (.lst xs)) : SqL K H a xs := .inl (.inl h)
theorem SqT.of {K : PySem.W.Frag} (h : H a = some (.tup xs)) : SqT K H a xs := .inl (.inl h)
theorem Inv.list (I : Inv X pins σ H s) (h : SqL X.K H a xs) : ∃ its : List Value,Vals xs its /\ PlainL s.heap a its.toArray /\ xs.length <= sizeLine := by
  rcases h with h | ⟨o,its,n,hk,hc,hd,hs,hz,r⟩
  · obtain ⟨z,its,n,r,e⟩ := h.ok I.hok
    exact ⟨its,r,⟨_,n,e,rfl,rfl,rfl⟩,z⟩
  · refine ⟨its.toList,r,⟨o,n,I.kIn a o hk,hc,hd,by simpa using hs⟩,?_⟩
    have e := r.length
    simp only [Array.length_toList] at e
    omega
theorem Inv.tuple (I : Inv X pins σ H s) (h : SqT X.K H a xs) : ∃ its : List Value,Vals xs its /\ IsTup s.heap a its.toArray /\ xs.length <= sizeLine := by
  rcases h with h | ⟨o,its,n,hk,hc,hs,hz,r⟩
  · obtain ⟨z,its,r,p⟩ := h.ok I.hok
    exact ⟨its,r,p,z⟩
  · refine ⟨its.toList,r,⟨o,I.kIn a o hk,hc,n,by simpa using hs⟩,?_⟩
    have e := r.length
    simp only [Array.length_toList] at e
    omega
theorem Inv.list_inj (I : Inv X pins σ H s) (h : SqL X.K H a xs) (h' : SqL X.K H a ys) : xs = ys := by
  obtain ⟨its,r,⟨o,n,e,_,_,d⟩,_⟩ := I.list h
  obtain ⟨its',r',⟨o',n',e',_,_,d'⟩,_⟩ := I.list h'
  rw [e] at e'; cases e'
  rw [d] at d'
  injection d' with d1 _
  have : its = its' := by simpa using congrArg Array.toList d1
  subst this
  exact r.inj r'
theorem Inv.tuple_inj (I : Inv X pins σ H s) (h : SqT X.K H a xs) (h' : SqT X.K H a ys) : xs = ys := by
  obtain ⟨its,r,⟨o,e,_,n,d⟩,_⟩ := I.tuple h
  obtain ⟨its',r',⟨o',e',_,n',d'⟩,_⟩ := I.tuple h'
  rw [e] at e'; cases e'
  rw [d] at d'
  injection d' with d1 _
  have : its = its' := by simpa using congrArg Array.toList d1
  subst this
  exact r.inj r'
end
noncomputable abbrev Cx.wish (X : Cx) (E : Value -> Shared -> Prop) : Cx := { X with xe := E }
noncomputable abbrev Cx.nox (X : Cx) : Cx := X.wish fun _ _ => False
theorem Cx.Ok.wish {X : Cx} (ok : X.Ok) (E : Value -> Shared -> Prop) : (X.wish E).Ok :=
  ⟨ok.mod,ok.kind,ok.glob,ok.blt,ok.above,ok.inj,ok.has,ok.cab,ok.hd,ok.frames,ok.stk,ok.exf,ok.bs,ok.bsz,ok.noex,ok.exfs,ok.funs,ok.frf⟩
theorem Cx.Ok.unwish {X : Cx} {E : Value -> Shared -> Prop} (ok : (X.wish E).Ok) : X.Ok :=
  ⟨ok.mod,ok.kind,ok.glob,ok.blt,ok.above,ok.inj,ok.has,ok.cab,ok.hd,ok.frames,ok.stk,ok.exf,ok.bs,ok.bsz,ok.noex,ok.exfs,ok.funs,ok.frf⟩
section
variable {X : Cx} {pins : List (Addr × Obj)} {σ : St} {H : Hp} {s : Shared} {E : Value -> Shared -> Prop}
theorem Inv.wish (I : Inv X pins σ H s) (E : Value -> Shared -> Prop) : Inv (X.wish E) pins σ H s := ⟨I.ok.wish E,I.os,I.bare,I.base,I.loc,I.cell,I.free,I.freeC,I.pin,I.hok,I.len⟩
theorem Inv.unwish (I : Inv (X.wish E) pins σ H s) : Inv X pins σ H s := ⟨I.ok.unwish,I.os,I.bare,I.base,I.loc,I.cell,I.free,I.freeC,I.pin,I.hok,I.len⟩
theorem SP.unwish {D : Ends} {f : Flow} {s' : Shared} (h : SP (X.wish E) pins D f s') : SP X pins D f s' := by
  cases f with
  | next => obtain ⟨σ',H',I,q⟩ := h; exact ⟨σ',H',I.unwish,q⟩
  | brk => obtain ⟨σ',H',I,q⟩ := h; exact ⟨σ',H',I.unwish,q⟩
  | cont => obtain ⟨σ',H',I,q⟩ := h; exact ⟨σ',H',I.unwish,q⟩
  | ret u => obtain ⟨v,σ',H',I,r,q⟩ := h; exact ⟨v,σ',H',I.unwish,r,q⟩
theorem PSs.nox {st : List Stmt} {t : TS} (h : PSs X.nox st t) : PSs X st t := fun pins s σ H D I hw =>
  wpAny_mono (h pins s σ H D (I.wish _) hw) (fun _ _ q => q.unwish) fun _ _ z => False.elim z
end
section
variable {X : Cx} {st : Stmt} {rest : List Stmt} {t u : TS} {e : Expr} {te : TE} {pos : Pos}
noncomputable def tNext : TS := fun D σ H => D.nx σ H
noncomputable def tSeq (t u : TS) : TS := fun D σ H => t { D with nx := u D } σ H
theorem pss_nil : PSs X [] tNext := fun _ _ σ H _ I h => wpAny_execs_nil ⟨σ,H,I,h⟩
theorem pss_cons (h1 : PS X st t) (h2 : PSs X rest u) : PSs X (st :: rest) (tSeq t u) := by
  intro pins s σ H D I h
  refine wpAny_execs_cons (thn (h1 pins s σ H { D with nx := u D } I h) fun f s1 q => ?_)
  cases f with
  | next =>
    obtain ⟨σ',H',I',q⟩ := q
    exact h2 pins s1 σ' H' D I' q
  | ret v => exact q
  | brk => exact q
  | cont => exact q
theorem pss_one (h1 : PS X st t) : PSs X [st] t := by
  intro pins s σ H D I h
  refine wpAny_execs_cons (thn (h1 pins s σ H D I h) fun f s1 q => ?_)
  cases f with
  | next => exact wpAny_execs_nil q
  | ret v => exact q
  | brk => exact q
  | cont => exact q
theorem Inv.quiet {pins : List (Addr × Obj)} {σ : St} {H : Hp} {s : Shared} (I : Inv X pins σ H s) : interactive X.env = false := by simp [interactive,I.ok.kind]
noncomputable def tDrop (te : TE) : TS := fun D σ H => te σ H fun _ H1 => D.nx σ H1
theorem ps_expr (he : PE X e te) (hs : swapsWith e none pos.line X.env = pure false := by rfl) : PS X (.Expr e pos) (tDrop te) := by
  intro pins s σ H D I h
  exact wpAny_Expr_any (thn (he pins s σ H _ I h) fun v s1 ⟨x,H1,I1,r1,q1⟩ => ⟨σ,H1,I1,q1⟩) I.quiet hs
noncomputable def tRet (te : TE) : TS := fun D σ H => te σ H D.rt
theorem ps_ret (he : PE X e te) : PS X (.Return (some e) pos) (tRet te) := by
  intro pins s σ H D I h
  exact wpAny_Return_some (thn (he pins s σ H _ I h) fun v s1 ⟨x,H1,I1,r1,q1⟩ => ⟨x,σ,H1,I1,r1,q1⟩)
noncomputable def tRetN : TS := fun D _ H => D.rt .non H
theorem ps_retN : PS X (.Return none pos) tRetN := fun _ _ σ H _ I h => wpAny_Return_none ⟨.non,σ,H,I,rfl,h⟩
noncomputable def tIfS (c : TT) (t u : TS) : TS := fun D σ H => c σ H fun b H1 => if b = true then t D σ H1 else u D σ H1
theorem ps_if {c : Expr} {a b : List Stmt} {tc : TT} (hc : PT X c tc) (ha : PSs X a t) (hb : PSs X b u) : PS X (.If c a b pos) (tIfS tc t u) := by
  intro pins s σ H D I h
  refine wpAny_If (thn (hc pins s σ H _ I h) fun d s1 ⟨H1,I1,q1⟩ => ?_)
  cases d with
  | true => exact ha pins s1 σ H1 D I1 q1
  | false => exact hb pins s1 σ H1 D I1 q1
noncomputable def tNever : TS := fun _ _ _ => False
theorem pss_never {sts : List Stmt} : PSs X sts tNever := fun _ _ _ _ _ _ h => h.elim
end
noncomputable abbrev TG := V -> St -> Hp -> (St -> Hp -> Prop) -> Prop
noncomputable def PG (X : Cx) (target : Expr) (t : TG) : Prop :=
  ∀ (pins : List (Addr × Obj)) (s : Shared) (σ : St) (H : Hp) (v : V) (u : Value) (Q : St -> Hp -> Prop),Inv X pins σ H s -> RelV v u -> t v σ H Q ->
    wpAny (model X.prog X.w) X.A (assign target X.env u) (fun _ s' => ∃ σ' H',Inv X pins σ' H' s' /\ Q σ' H') X.xe s
noncomputable abbrev TIp := V -> V -> Hp -> VK -> Prop
noncomputable def PIp (X : Cx) (op : Operator) (t : TIp) : Prop :=
  ∀ (pins : List (Addr × Obj)) (s : Shared) (σ : St) (H : Hp) (x y : V) (v u : Value) (Q : VK),Inv X pins σ H s -> RelV x v -> RelV y u -> t x y H Q ->
    wpAny (model X.prog X.w) X.A (inplaceOp op v u) (EP X pins σ Q) X.xe s
section
variable {X : Cx} {pos : Pos}
noncomputable def gName (i : Nat) : TG := fun v σ H Q => Q (σ.set i (some v)) H
theorem pg_name {i : Nat} {x : Str} (hN : X.N.Nodup) (hi : X.N[i]? = some x) (hx : Loc X.env.scope x) (hf : X.fn x = true \/ X.env.scope.names.lookup x = some .local := by first | exact .inl rfl | exact .inr rfl | assumption) : PG X (.Name x pos) (gName i) := by
  intro pins s σ H v u Q I r h
  exact wpAny_assign_Name (store_ok I hN hi hx r (fun s' I' => ⟨_,H,I',h⟩) hf)
noncomputable def tAsg (te : TE) (g : TG) : TS := fun D σ H => te σ H fun x H1 => g x σ H1 D.nx
theorem ps_set {i : Nat} {x : Str} {e : Expr} {te : TE} {pos' : Pos} (hN : X.N.Nodup) (hi : X.N[i]? = some x) (hx : Loc X.env.scope x) (he : PE X e te) (hs : swapsWith e (some (.Name x pos')) pos.line X.env = pure false := by rfl) (hf : X.fn x = true \/ X.env.scope.names.lookup x = some .local := by first | exact .inl rfl | exact .inr rfl | assumption) :
    PS X (.Assign [.Name x pos'] e pos) (tAsg te (gName i)) := by
  intro pins s σ H D I h
  refine wpAny_Assign_Name (thn (he pins s σ H _ I h) fun v s1 ⟨y,H1,I1,r1,q1⟩ => ?_) hs
  exact store_ok I1 hN hi hx r1 (fun s2 I2 => ⟨_,H1,I2,q1⟩) hf
noncomputable def tAug (i : Nat) (te : TE) (ti : TIp) : TS := fun D σ H => ∃ x,σ[i]? = some (some x) /\ te σ H fun y H1 => ti x y H1 fun z H2 => D.nx (σ.set i (some z)) H2
theorem ps_aug {i : Nat} {x : Str} {e : Expr} {te : TE} {op : Operator} {ti : TIp} {pos' : Pos} (hN : X.N.Nodup) (hi : X.N[i]? = some x) (hx : Loc X.env.scope x) (he : PE X e te) (ho : PIp X op ti) (hf : X.fn x = true \/ X.env.scope.names.lookup x = some .local := by first | exact .inl rfl | exact .inr rfl | assumption) :
    PS X (.AugAssign (.Name x pos') op e pos) (tAug i te ti) := by
  intro pins s σ H D I h
  obtain ⟨v,e1,h⟩ := h
  obtain ⟨m,hn,hl⟩ := I.loc
  have vis : Vis X.env.scope x := by rcases hx with k | k; exact .inl k; exact .inr (.inl k)
  obtain ⟨u,r,l⟩ := hl i x v hi e1 vis
  refine wpAny_AugAssign_Name ?_
  have go : wpAny (model X.prog X.w) X.A (eval e X.env) (fun w s₂ => wpAny (model X.prog X.w) X.A (inplaceOp op u w) (fun r s₃ => wpAny (model X.prog X.w) X.A (storeName X.env x r) (fun _ => SP X pins D .next) X.xe s₃) X.xe s₂) X.xe s := by
    refine thn (he pins s σ H _ I h) fun w s1 ⟨y,H1,I1,r1,q1⟩ => ?_
    refine thn (ho pins s1 σ H1 v y u w _ I1 r r1 q1) fun z s2 ⟨zv,H2,I2,r2,q2⟩ => ?_
    exact store_ok I2 hN hi hx r2 (fun s3 I3 => ⟨_,H2,I3,q2⟩) hf
  rcases l with ⟨hk,hm⟩ | ⟨hk,c,hc,hcell⟩
  · exact wpAny_loadName_local I.ok.kind hk hn hm go
  · rcases hk with hk | hk
    · exact wpAny_loadName_cell I.ok.kind hk hc hcell go
    · rcases hx with k | k
      · have : X.env.scope.names.lookup x = some .free := hk
        rw [k] at this; cases this
      · have : X.env.scope.names.lookup x = some .free := hk
        rw [k] at this; cases this
noncomputable def ipI (f : Int -> Int -> Int) : TIp := fun x y H Q => ∃ i j,x = .int i /\ y = .int j /\ Q (.int (f i j)) H
theorem ip_add : PIp X .Add (ipI fun i j => i + j) := by
  intro pins s σ H x y v u Q I r1 r2 h
  obtain ⟨i,j,e1,e2,q⟩ := h
  subst e1; subst e2
  obtain ⟨t,rfl⟩ := r1
  obtain ⟨t',rfl⟩ := r2
  exact iadd_int ⟨.int _,H,I.tok _,⟨_,rfl⟩,q⟩
end
section
variable {X : Cx} {pos : Pos}
noncomputable def tWhile (c : TT) (tb : TS) : TS := fun D σ H => ∃ W : Nat -> St -> Hp -> Prop,(∃ m,W m σ H) /\ ∀ m σ H,W m σ H ->
  c σ H fun b H1 => if b = true then ∃ N : St -> Hp -> Prop,(∀ σ' H',N σ' H' -> ∃ m',m' < m /\ W m' σ' H') /\ tb { D with nx := N,ct := N,bk := D.nx } σ H1 else D.nx σ H1
theorem ps_while {c : Expr} {body : List Stmt} {tc : TT} {tb : TS} (hp : PassesOwn (model X.prog X.w) X.A X.env X.xe) (hc : PT X c tc) (hb : PSs X body tb) : PS X (.While c body [] pos) (tWhile tc tb) := by
  intro pins s σ H D I h
  obtain ⟨W,⟨m0,w0⟩,turn⟩ := h
  refine wpAny_While (codeAny_whileLoop (fun n s' => ∃ σ' H',Inv X pins σ' H' s' /\ W n σ' H') ?_ m0 ⟨σ,H,I,w0⟩)
  rintro n s1 ⟨σ1,H1,I1,w1⟩
  refine wpAny_passesOwn hp (thn (hc pins s1 σ1 H1 _ I1 (turn n σ1 H1 w1)) fun b s2 ⟨H2,I2,q2⟩ => ?_)
  cases b with
  | true =>
    obtain ⟨N,hN,q2⟩ := q2
    rw [if_pos rfl]
    refine wpAny_passesOwn hp (thn (hb pins s2 σ1 H2 _ I2 q2) fun f s3 q3 => ?_)
    cases f with
    | next =>
      obtain ⟨σ3,H3,I3,n3⟩ := q3
      obtain ⟨m',hm,w3⟩ := hN σ3 H3 n3
      exact ⟨m',hm,σ3,H3,I3,w3⟩
    | cont =>
      obtain ⟨σ3,H3,I3,n3⟩ := q3
      obtain ⟨m',hm,w3⟩ := hN σ3 H3 n3
      exact ⟨m',hm,σ3,H3,I3,w3⟩
    | brk => exact q3
    | ret v => exact q3
  | false =>
    rw [if_neg Bool.false_ne_true]
    exact wpAny_execs_nil ⟨σ1,H2,I2,q2⟩
end
structure It where
  go : Nat -> Hp -> Prop
  yld : Nat -> Hp -> V -> Hp -> Prop
  stop : Nat -> Hp -> Prop
noncomputable def FpOk (X : Cx) (pins : List (Addr × Obj)) (H : Hp) (b : Addr) : Prop :=
  H b = none /\ b ≠ X.env.locals /\ b ∉ X.fs /\ (b ∈ X.ex \/ X.s_0.heap.objs.size <= b) /\ (∀ x c,X.env.cells.lookup x = some c -> c ≠ b) /\ ∀ p ∈ X.pn ++ pins,p.1 ≠ b
theorem Inv.fpOk {X : Cx} {pins : List (Addr × Obj)} {σ : St} {H H' : Hp} {s : Shared} {b : Addr} (I : Inv X pins σ H s) (hb : s.heap.objs.size <= b) (hn : H' b = none) : FpOk X pins H' b := by
  refine ⟨hn,Nat.ne_of_gt (Nat.lt_of_lt_of_le I.lt hb),I.nofs hb,.inr (Nat.le_trans I.sz hb),fun x c e z => ?_,fun p hp z => ?_⟩
  · obtain ⟨v,q⟩ := I.cell x c e
    exact absurd (Nat.lt_of_lt_of_le q.lt (by rw [z]; exact hb)) (Nat.lt_irrefl _)
  · exact absurd (Nat.lt_of_lt_of_le (Heap.lt_size (I.pin p hp).1) (by rw [z]; exact hb)) (Nat.lt_irrefl _)
structure Turn (P : Program) (w : World) (K : PySem.W.Frag) (tg : Expr) (J : It) (fp : List Addr) (it : Addr) (tn : Nat -> Heap -> Prop) : Prop where
  mem : it ∈ fp
  obj : ∀ i h,tn i h -> ∀ b ∈ fp,∃ o,h.get? b = some o /\ ∀ v,o.data ≠ .cell v
  keep : ∀ i h h',tn i h -> (∀ b ∈ fp,∀ o,h.get? b = some o -> h'.get? b = some o) -> tn i h'
  item : ∀ (X : Cx),X.prog = P -> X.w = w -> X.K = K -> X.calm = true -> ∀ (i : Nat) (pins : List (Addr × Obj)) (s : Shared) (σ : St) (H : Hp) (E : Value -> Shared -> Prop),Inv X pins σ H s -> (∀ b ∈ fp,FpOk X pins H b) -> tn i s.heap -> J.go i H ->
    wpAny (model P w) X.A (pyNext (.ref it)) (fun r s1 => ∃ u,r = some u /\
      wpAny (model P w) X.A (letOwnedTupleGo tg (.ref it) u) (fun _ s2 => ∃ x H',Inv X pins σ H' s2 /\ RelV x u /\ J.yld i H x H' /\ tn (i + 1) s2.heap /\ ∀ b ∈ fp,H' b = none) E s1) E s
  done : ∀ (X : Cx),X.prog = P -> X.w = w -> X.K = K -> X.calm = true -> ∀ (i : Nat) (pins : List (Addr × Obj)) (s : Shared) (σ : St) (H : Hp) (E : Value -> Shared -> Prop),Inv X pins σ H s -> (∀ b ∈ fp,FpOk X pins H b) -> tn i s.heap -> J.stop i H ->
    wpAny (model P w) X.A (pyNext (.ref it)) (fun r s1 => r = none /\ Inv X pins σ H s1) E s
  self : ∀ (A : Around) (i : Nat) (s : Shared) (Q : Value -> Shared -> Prop) (E : Value -> Shared -> Prop),tn i s.heap -> Q (.ref it) s -> wpAny (model P w) A (pyIter (.ref it)) Q E s
noncomputable abbrev TI := St -> Hp -> (It -> Hp -> Prop) -> Prop
noncomputable def PIE (X : Cx) (pins : List (Addr × Obj)) (σ : St) (tg : Expr) (R : It -> Hp -> Prop) (itv : Value) (s2 : Shared) : Prop :=
  ∃ (it : Addr) (fp : List Addr) (tn : Nat -> Heap -> Prop) (J : It) (H' : Hp),itv = .ref it /\ Inv X pins σ H' s2 /\ Turn X.prog X.w X.K tg J fp it tn /\ tn 0 s2.heap /\ (∀ b ∈ fp,FpOk X pins H' b) /\ R J H'
noncomputable def PI (X : Cx) (tg iter : Expr) (wi : TI) : Prop :=
  ∀ (pins : List (Addr × Obj)) (s : Shared) (σ : St) (H : Hp) (R : It -> Hp -> Prop),Inv X pins σ H s -> wi σ H R ->
    wpAny (model X.prog X.w) X.A (eval iter X.env) (fun v s1 => wpAny (model X.prog X.w) X.A (pyIter v) (PIE X pins σ tg R) X.xe s1) X.xe s
theorem go_of {M : Model} {A : Around} {E : Value -> Shared -> Prop} {s : Shared} {tg : Expr} {it : Addr} {u : Value} {o : Obj} {n : String} {vs : Array Value} {Q : Unit -> Shared -> Prop} (ho : s.heap.get? it = some o) (hc : o.cls = .type n) (hd : o.data = .fields vs)
    (hn : ["enumerate","zip","dict_itemiterator","dict_reverseitemiterator","odict_iterator","itertools.zip_longest","itertools.pairwise"].contains n = false) (hQ : Q () s) : wpAny M A (letOwnedTupleGo tg (.ref it) u) Q E s := by
  unfold letOwnedTupleGo
  cases tg <;> first
    | exact wpAny_pure hQ
    | (cases u <;> first
        | exact wpAny_pure hQ
        | (refine wpAny_bind (wpAny_load ho ?_)
           rw [hc,hd]
           show wpAny M A (if (["enumerate","zip","dict_itemiterator","dict_reverseitemiterator","odict_iterator","itertools.zip_longest","itertools.pairwise"].contains n && vs[0]? == some (rawInt _)) = true then _ else _) Q E s
           rw [if_neg (by intro h; rw [hn,Bool.false_and] at h; cases h)]
           exact wpAny_pure hQ))
noncomputable def Itl (K : PySem.W.Frag) (a : Addr) : It :=
  ⟨fun i H => ∃ xs x,SqL K H a xs /\ xs[i]? = some x,fun i H x H' => H' = H /\ ∀ xs,SqL K H a xs -> xs[i]? = some x,fun i H => ∃ xs,SqL K H a xs /\ xs.length <= i⟩
noncomputable def Itt (K : PySem.W.Frag) (a : Addr) : It :=
  ⟨fun i H => ∃ xs x,SqT K H a xs /\ xs[i]? = some x,fun i H x H' => H' = H /\ ∀ xs,SqT K H a xs -> xs[i]? = some x,fun i H => ∃ xs,SqT K H a xs /\ xs.length <= i⟩
theorem turn_list {P : Program} {w : World} {K : PySem.W.Frag} {tg : Expr} (a it : Addr) : Turn P w K tg (Itl K a) [it] it (fun i h => h.IsListIter it a i) where
  mem := by simp
  obj := fun i h st b hb => by
    have e : b = it := by simpa using hb
    subst e
    obtain ⟨o,e,c,d⟩ := st
    exact ⟨o,e,fun v z => by rw [d] at z; cases z⟩
  keep := fun i h h' st k => st.at fun o e => k it (by simp) o e
  item := by
    intro X hP hw hK hc i pins s σ H E I hf st hg
    subst hP hw hK
    obtain ⟨xs,x,hq,hx⟩ := hg
    obtain ⟨its,rv,p,hz⟩ := I.list hq
    obtain ⟨u,hu,ru⟩ := rv.get hx
    obtain ⟨f0,f1,f2,f3,f4,f5⟩ := hf it (by simp)
    refine wpAny_pyNext_list_item st p.isList (x := u) (by simpa using hu) fun h' st' sb => ?_
    have I1 : Inv X pins σ H { s with heap := h' } := I.turned (t' := s.toks) (fun b o hb e => (sb.2 b hb).trans e) f0 f1 f3 f4 f5
    obtain ⟨o,e,c,d⟩ := id st'
    exact ⟨u,rfl,go_of (s := { s with heap := h' }) e c d (by decide) ⟨x,H,I1,ru,⟨rfl,fun ys hy => by rw [I.list_inj hy hq]; exact hx⟩,st',fun b hb => (hf b hb).1⟩⟩
  done := by
    intro X hP hw hK hc i pins s σ H E I hf st hg
    subst hP hw hK
    obtain ⟨xs,hq,hx⟩ := hg
    obtain ⟨its,rv,p,hz⟩ := I.list hq
    obtain ⟨f0,f1,f2,f3,f4,f5⟩ := hf it (by simp)
    have hl := rv.length
    exact wpAny_pyNext_list_end (I.ok.hd hc) st p.isList (by simp; omega) fun h' eb => ⟨rfl,I.turned (t' := s.toks) (fun b o hb e => eb b o hb e) f0 f1 f3 f4 f5⟩
  self := fun _ _ _ _ _ st h => wpAny_pyIter_listiter st h
theorem turn_tuple {P : Program} {w : World} {K : PySem.W.Frag} {tg : Expr} (a it : Addr) : Turn P w K tg (Itt K a) [it] it (fun i h => h.IsTupleIter it a i) where
  mem := by simp
  obj := fun i h st b hb => by
    have e : b = it := by simpa using hb
    subst e
    obtain ⟨o,e,c,d⟩ := st
    exact ⟨o,e,fun v z => by rw [d] at z; cases z⟩
  keep := fun i h h' st k => st.at fun o e => k it (by simp) o e
  item := by
    intro X hP hw hK hc i pins s σ H E I hf st hg
    subst hP hw hK
    obtain ⟨xs,x,hq,hx⟩ := hg
    obtain ⟨its,rv,p,hz⟩ := I.tuple hq
    obtain ⟨u,hu,ru⟩ := rv.get hx
    obtain ⟨f0,f1,f2,f3,f4,f5⟩ := hf it (by simp)
    refine wpAny_pyNext_tuple_item st (show s.heap.IsTuple a its.toArray from p) (x := u) (by simpa using hu) fun h' st' sb => ?_
    have I1 : Inv X pins σ H { s with heap := h' } := I.turned (t' := s.toks) (fun b o hb e => (sb.2 b hb).trans e) f0 f1 f3 f4 f5
    obtain ⟨o,e,c,d⟩ := id st'
    exact ⟨u,rfl,go_of (s := { s with heap := h' }) e c d (by decide) ⟨x,H,I1,ru,⟨rfl,fun ys hy => by rw [I.tuple_inj hy hq]; exact hx⟩,st',fun b hb => (hf b hb).1⟩⟩
  done := by
    intro X hP hw hK hc i pins s σ H E I hf st hg
    subst hP hw hK
    obtain ⟨xs,hq,hx⟩ := hg
    obtain ⟨its,rv,p,hz⟩ := I.tuple hq
    obtain ⟨f0,f1,f2,f3,f4,f5⟩ := hf it (by simp)
    have hl := rv.length
    exact wpAny_pyNext_tuple_end (I.ok.hd hc) st (show s.heap.IsTuple a its.toArray from p) (by simp; omega) fun h' eb => ⟨rfl,I.turned (t' := s.toks) (fun b o hb e => eb b o hb e) f0 f1 f3 f4 f5⟩
  self := fun _ _ _ _ _ st h => wpAny_pyIter_tupleiter st h
end L2
namespace L2
open PySem PySem.Spec PyProof.Rows
section
variable {X : Cx} {tg : Expr}
noncomputable def iList (K : PySem.W.Frag) (tl : TE) : TI := fun σ H R => tl σ H fun x H1 => ∃ a,x = .ref a /\ (∃ xs,SqL K H1 a xs) /\ R (Itl K a) H1
noncomputable def iTup (K : PySem.W.Frag) (tl : TE) : TI := fun σ H R => tl σ H fun x H1 => ∃ a,x = .ref a /\ (∃ xs,SqT K H1 a xs) /\ R (Itt K a) H1
theorem pi_list {l : Expr} {tl : TE} (hl : PE X l tl) : PI X tg l (iList X.K tl) := by
  intro pins s σ H R I h
  refine thn (hl pins s σ H _ I h) fun v s1 ⟨x,H1,I1,r1,q1⟩ => ?_
  obtain ⟨a,e,⟨xs,hq⟩,q⟩ := q1
  subst e
  cases r1
  obtain ⟨its,rv,p,hz⟩ := I1.list hq
  refine wpAny_pyIter_list p.isList ?_
  refine ⟨s1.heap.objs.size,[s1.heap.objs.size],_,_,H1,rfl,I1.kept (t' := s1.toks) fun b o e => Heap.get?_push_of_some _ e,turn_list a _,⟨_,Heap.get?_push_size _ rfl,rfl,rfl⟩,fun b hb => ?_,q⟩
  have e : b = s1.heap.objs.size := by simpa using hb
  subst e
  exact I1.fpOk (Nat.le_refl _) (I1.hok.fresh (Nat.le_refl _))
theorem pi_tup {l : Expr} {tl : TE} (hl : PE X l tl) : PI X tg l (iTup X.K tl) := by
  intro pins s σ H R I h
  refine thn (hl pins s σ H _ I h) fun v s1 ⟨x,H1,I1,r1,q1⟩ => ?_
  obtain ⟨a,e,⟨xs,hq⟩,q⟩ := q1
  subst e
  cases r1
  obtain ⟨its,rv,p,hz⟩ := I1.tuple hq
  refine wpAny_pyIter_tuple (show s1.heap.IsTuple a its.toArray from p) ?_
  refine ⟨s1.heap.objs.size,[s1.heap.objs.size],_,_,H1,rfl,I1.kept (t' := s1.toks) fun b o e => Heap.get?_push_of_some _ e,turn_tuple a _,⟨_,Heap.get?_push_size _ rfl,rfl,rfl⟩,fun b hb => ?_,q⟩
  have e : b = s1.heap.objs.size := by simpa using hb
  subst e
  exact I1.fpOk (Nat.le_refl _) (I1.hok.fresh (Nat.le_refl _))
noncomputable def tFor (wi : TI) (g : TG) (tb : TS) : TS := fun D σ H => wi σ H fun J H1 => ∃ W : Nat -> Nat -> St -> Hp -> Prop,(∃ m,W 0 m σ H1) /\ ∀ i m σ H,W i m σ H ->
  (J.stop i H /\ D.nx σ H) \/ (J.go i H /\ ∃ N : St -> Hp -> Prop,(∀ σ' H',N σ' H' -> ∃ m',m' < m /\ W (i + 1) m' σ' H') /\ ∀ x H',J.yld i H x H' -> g x σ H' fun σ2 H2 => tb { D with nx := N,ct := N,bk := D.nx } σ2 H2)
noncomputable def pinsAt (fp : List Addr) (h : Heap) : List (Addr × Obj) := fp.filterMap fun b => (h.get? b).map fun o => (b,o)
theorem mem_pinsAt {fp : List Addr} {h : Heap} {b : Addr} {o : Obj} (hb : b ∈ fp) (e : h.get? b = some o) : (b,o) ∈ pinsAt fp h := List.mem_filterMap.mpr ⟨b,hb,by rw [e]; rfl⟩
theorem of_pinsAt {fp : List Addr} {h : Heap} {p : Addr × Obj} (hp : p ∈ pinsAt fp h) : p.1 ∈ fp /\ h.get? p.1 = some p.2 := by
  obtain ⟨b,hb,e⟩ := List.mem_filterMap.mp hp
  cases q : h.get? b with
  | none => rw [q] at e; cases e
  | some o =>
    rw [q] at e
    have e' : (b,o) = p := Option.some.inj e
    subst e'
    exact ⟨hb,q⟩
theorem Inv.pinned {pins : List (Addr × Obj)} {σ : St} {H : Hp} {s : Shared} {fp : List Addr} (I : Inv X pins σ H s) (hf : ∀ b ∈ fp,FpOk X pins H b) (ho : ∀ b ∈ fp,∃ o,s.heap.get? b = some o /\ ∀ v,o.data ≠ .cell v) : Inv X (pins ++ pinsAt fp s.heap) σ H s :=
  I.pins_of fun p hp => (List.mem_append.mp hp).elim (fun z => I.pin p (List.mem_append_right _ z)) fun z => by
    obtain ⟨hb,e⟩ := of_pinsAt z
    obtain ⟨f0,f1,f2,_⟩ := hf p.1 hb
    obtain ⟨o,e',d⟩ := ho p.1 hb
    rw [e] at e'; cases e'
    exact ⟨e,f0,f1,f2,d⟩
theorem Inv.unpinned {pins pl : List (Addr × Obj)} {σ : St} {H : Hp} {s : Shared} (I : Inv X (pins ++ pl) σ H s) : Inv X pins σ H s := I.pins_of fun p hp => I.pin p (List.mem_append_right _ (List.mem_append_left _ hp))
theorem ps_for {iter : Expr} {body : List Stmt} {wi : TI} {g : TG} {tb : TS} {pos : Pos} (hp : PassesOwn (model X.prog X.w) X.A X.env X.xe) (hc : X.calm = true) (hi : PI X tg iter wi) (hg : PG X tg g) (hb : PSs X body tb)
    (hs : ∀ x,foldedSetIterable iter X.env x = pure x := by intro _; rfl) : PS X (.For tg iter body [] pos) (tFor wi g tb) := by
  intro pins s σ H D I h
  refine wpAny_For (thn (hi pins s σ H _ I h) fun v s1 h1 => thn h1 fun itv s2 h2 => ?_) hs
  obtain ⟨it,fp,tn,J,H2,e,I2,T,st2,f2,W,⟨m0,w0⟩,turn⟩ := h2
  subst e
  have stat : ∀ {H' : Hp},(∀ b ∈ fp,H' b = none) -> ∀ b ∈ fp,FpOk X pins H' b := fun hn b hb => ⟨hn b hb,(f2 b hb).2⟩
  refine codeAny_forLoop_any (fun n s' => ∃ i σ' H',Inv X pins σ' H' s' /\ tn i s'.heap /\ (∀ b ∈ fp,H' b = none) /\ W i n σ' H') ?_ m0 ⟨0,σ,H2,I2,st2,fun b hb => (f2 b hb).1,w0⟩
  rintro n s3 ⟨i,σ3,H3,I3,st3,fr3,w3⟩
  rcases turn i n σ3 H3 w3 with ⟨stop,qn⟩ | ⟨go,N,hN,step⟩
  · refine wpAny_passesOwn hp (thn (T.done X rfl rfl rfl hc i pins s3 σ3 H3 X.xe I3 (stat fr3) st3 stop) fun r s4 ⟨hr,I4⟩ => ?_)
    subst hr
    exact wpAny_execs_nil ⟨σ3,H3,I4,qn⟩
  · refine wpAny_passesOwn hp (thn (T.item X rfl rfl rfl hc i pins s3 σ3 H3 X.xe I3 (stat fr3) st3 go) fun r s4 ⟨u,hr,h4⟩ => ?_)
    subst hr
    refine wpAny_passesOwn hp (thn h4 fun _ s5 ⟨x,H5,I5,r5,y5,st5,fr5⟩ => ?_)
    have I5' := I5.pinned (stat fr5) (T.obj _ _ st5)
    refine wpAny_passesOwn hp (thn (hg _ s5 σ3 H5 x u _ I5' r5 (step x H5 y5)) fun _ s6 ⟨σ6,H6,I6,q6⟩ => ?_)
    refine wpAny_passesOwn hp (thn (hb _ s6 σ6 H6 _ I6 q6) fun f s7 q7 => ?_)
    have again : ∀ {σ7 : St} {H7 : Hp},Inv X (pins ++ pinsAt fp s5.heap) σ7 H7 s7 -> N σ7 H7 -> ∃ m,m < n /\ ∃ i σ' H',Inv X pins σ' H' s7 /\ tn i s7.heap /\ (∀ b ∈ fp,H' b = none) /\ W i m σ' H' := fun {σ7 H7} I7 n7 => by
      obtain ⟨m',hm,w7⟩ := hN σ7 H7 n7
      refine ⟨m',hm,i + 1,σ7,H7,I7.unpinned,T.keep _ _ _ st5 fun b hb o e => (I7.pin (b,o) (List.mem_append_right _ (List.mem_append_right _ (mem_pinsAt hb e)))).1,fun b hb => ?_,w7⟩
      obtain ⟨o,e,d⟩ := T.obj _ _ st5 b hb
      exact (I7.pin (b,o) (List.mem_append_right _ (List.mem_append_right _ (mem_pinsAt hb e)))).2.1
    cases f with
    | next => obtain ⟨σ7,H7,I7,n7⟩ := q7; exact again I7 n7
    | cont => obtain ⟨σ7,H7,I7,n7⟩ := q7; exact again I7 n7
    | brk => obtain ⟨σ7,H7,I7,q7⟩ := q7; exact ⟨σ7,H7,I7.unpinned,q7⟩
    | ret v => obtain ⟨x7,σ7,H7,I7,r7,q7⟩ := q7; exact ⟨x7,σ7,H7,I7.unpinned,r7,q7⟩
end
theorem for_list {K : PySem.W.Frag} {a : Addr} {xs : List V} {g : TG} {tb : TS} {D : Ends} {σ : St} {H : Hp} (Pv : Nat -> St -> Hp -> Prop) (h0 : Pv 0 σ H) (hl : ∀ i σ H,i <= xs.length -> Pv i σ H -> SqL K H a xs)
    (hs : ∀ i x σ H,xs[i]? = some x -> Pv i σ H -> g x σ H fun σ2 H2 => tb { D with nx := Pv (i + 1),ct := Pv (i + 1),bk := D.nx } σ2 H2) (hd : ∀ σ H,Pv xs.length σ H -> D.nx σ H) :
    ∃ W : Nat -> Nat -> St -> Hp -> Prop,(∃ m,W 0 m σ H) /\ ∀ i m σ H,W i m σ H ->
      ((Itl K a).stop i H /\ D.nx σ H) \/ ((Itl K a).go i H /\ ∃ N : St -> Hp -> Prop,(∀ σ' H',N σ' H' -> ∃ m',m' < m /\ W (i + 1) m' σ' H') /\ ∀ x H',(Itl K a).yld i H x H' -> g x σ H' fun σ2 H2 => tb { D with nx := N,ct := N,bk := D.nx } σ2 H2) := by
  refine ⟨fun i m σ H => m = xs.length - i /\ i <= xs.length /\ Pv i σ H,⟨xs.length,by simp,Nat.zero_le _,h0⟩,?_⟩
  rintro i m σ H ⟨rfl,hi,p⟩
  have q := hl i σ H hi p
  by_cases hlt : i < xs.length
  · refine .inr ⟨⟨xs,xs[i],q,by simp [hlt]⟩,Pv (i + 1),fun σ' H' p' => ⟨xs.length - (i + 1),by omega,rfl,hlt,p'⟩,fun x H' y => ?_⟩
    obtain ⟨e,y⟩ := y
    subst e
    exact hs i x σ _ (y xs q) p
  · have e : i = xs.length := by omega
    subst e
    exact .inl ⟨⟨xs,q,Nat.le_refl _⟩,hd σ H p⟩
end L2
namespace L2
open PySem PySem.Spec PyProof.Rows
noncomputable abbrev R2 := V -> V -> Hp -> VK -> Prop
noncomputable def OpR (X : Cx) (f : Value -> Value -> Sem Value) (r : R2) : Prop :=
  ∀ (pins : List (Addr × Obj)) (s : Shared) (σ : St) (H : Hp) (x y : V) (v u : Value) (Q : VK),Inv X pins σ H s -> RelV x v -> RelV y u -> r x y H Q ->
    wpAny (model X.prog X.w) X.A (f v u) (EP X pins σ Q) X.xe s
noncomputable def UnR (X : Cx) (f : Value -> Sem Value) (r : V -> Hp -> VK -> Prop) : Prop :=
  ∀ (pins : List (Addr × Obj)) (s : Shared) (σ : St) (H : Hp) (x : V) (v : Value) (Q : VK),Inv X pins σ H s -> RelV x v -> r x H Q ->
    wpAny (model X.prog X.w) X.A (f v) (EP X pins σ Q) X.xe s
noncomputable def CallR (X : Cx) (f : Value) (r : List V -> Hp -> VK -> Prop) : Prop :=
  ∀ (pins : List (Addr × Obj)) (s : Shared) (σ : St) (H : Hp) (xs : List V) (us : List Value) (Q : VK),Inv X pins σ H s -> Vals xs us -> r xs H Q ->
    wpAny (model X.prog X.w) X.A (call f us) (EP X pins σ Q) X.xe s
noncomputable def TruR (X : Cx) (r : V -> Hp -> (Bool -> Hp -> Prop) -> Prop) : Prop :=
  ∀ (pins : List (Addr × Obj)) (s : Shared) (σ : St) (H : Hp) (x : V) (v : Value) (Q : Bool -> Hp -> Prop),Inv X pins σ H s -> RelV x v -> r x H Q ->
    wpAny (model X.prog X.w) X.A (truthy v) (TP X pins σ Q) X.xe s
noncomputable def tOp (r : R2) (ta tb : TE) : TE := fun σ H Q => ta σ H fun x H1 => tb σ H1 fun y H2 => r x y H2 Q
noncomputable def tUn (r : V -> Hp -> VK -> Prop) (ta : TE) : TE := fun σ H Q => ta σ H fun x H1 => r x H1 Q
noncomputable def rI (C : Int -> Int -> Prop) (g : Int -> Int -> V) : R2 := fun x y H Q => ∃ i j,x = .int i /\ y = .int j /\ C i j /\ Q (g i j) H
noncomputable def rI0 (g : Int -> Int -> V) : R2 := fun x y H Q => ∃ i j,x = .int i /\ y = .int j /\ Q (g i j) H
noncomputable def rU (g : Int -> V) : V -> Hp -> VK -> Prop := fun x H Q => ∃ i,x = .int i /\ Q (g i) H
section
variable {X : Cx} {a b c : Expr} {ta tb tc : TE} {pos : Pos}
theorem binT (ha : PE X a ta) (hb : PE X b tb) {pins : List (Addr × Obj)} {s : Shared} {σ : St} {H : Hp} {R : V -> V -> Hp -> Prop} (I : Inv X pins σ H s)
    (h : ta σ H fun x H1 => tb σ H1 fun y H2 => R x y H2) {Q : Value -> Shared -> Prop} {f : Value -> Value -> Sem Value}
    (hf : ∀ v u s2 x y H2,Inv X pins σ H2 s2 -> RelV x v -> RelV y u -> R x y H2 -> wpAny (model X.prog X.w) X.A (f v u) Q X.xe s2) :
    wpAny (model X.prog X.w) X.A (eval a X.env) (fun v s₁ => wpAny (model X.prog X.w) X.A (eval b X.env) (fun u s₂ => wpAny (model X.prog X.w) X.A (f v u) Q X.xe s₂) X.xe s₁) X.xe s := by
  refine thn (ha pins s σ H _ I h) fun v s1 ⟨x,H1,I1,r1,q1⟩ => ?_
  refine thn (hb pins s1 σ H1 _ I1 q1) fun u s2 ⟨y,H2,I2,r2,q2⟩ => ?_
  exact hf v u s2 x y H2 I2 r1 r2 q2
theorem pe_op {op : Operator} {r : R2} (ho : OpR X (binaryOp op) r) (ha : PE X a ta) (hb : PE X b tb) : PE X (.BinOp a op b pos) (tOp r ta tb) := by
  intro pins s σ H Q I h
  exact wpAny_BinOp (binT ha hb I h fun v u s2 x y H2 I2 rx ry q => ho pins s2 σ H2 x y v u Q I2 rx ry q)
theorem pe_un {op : UnaryOp} {r : V -> Hp -> VK -> Prop} (ho : UnR X (unaryOp op) r) (ha : PE X a ta) : PE X (.UnaryOp op a pos) (tUn r ta) := by
  intro pins s σ H Q I h
  exact UnaryOp_ (thn (ha pins s σ H _ I h) fun v s1 ⟨x,H1,I1,r1,q1⟩ => ho pins s1 σ H1 x v Q I1 r1 q1)
theorem opI {f : Value -> Value -> Sem Value} {C : Int -> Int -> Prop} {g : Int -> Int -> Int}
    (rule : ∀ (i j : Int) (t u : Tok) (s : Shared) (Q : Value -> Shared -> Prop) (E : Value -> Shared -> Prop),C i j -> Q (.int (g i j) s.toks) { s with toks := s.toks + 1 } -> wpAny (model X.prog X.w) X.A (f (.int i t) (.int j u)) Q E s) :
    OpR X f (rI C fun i j => .int (g i j)) := by
  intro pins s σ H x y v u Q I rx ry h
  obtain ⟨i,j,rfl,rfl,hc,q⟩ := h
  obtain ⟨t,rfl⟩ := rx
  obtain ⟨t',rfl⟩ := ry
  exact rule i j t t' s _ _ hc ⟨.int (g i j),H,I.tok _,⟨_,rfl⟩,q⟩
theorem opI0 {f : Value -> Value -> Sem Value} {g : Int -> Int -> Int}
    (rule : ∀ (i j : Int) (t u : Tok) (s : Shared) (Q : Value -> Shared -> Prop) (E : Value -> Shared -> Prop),Q (.int (g i j) s.toks) { s with toks := s.toks + 1 } -> wpAny (model X.prog X.w) X.A (f (.int i t) (.int j u)) Q E s) :
    OpR X f (rI0 fun i j => .int (g i j)) := by
  intro pins s σ H x y v u Q I rx ry h
  obtain ⟨i,j,rfl,rfl,q⟩ := h
  obtain ⟨t,rfl⟩ := rx
  obtain ⟨t',rfl⟩ := ry
  exact rule i j t t' s _ _ ⟨.int (g i j),H,I.tok _,⟨_,rfl⟩,q⟩
theorem opB0 {f : Value -> Value -> Sem Value} {g : Int -> Int -> Bool}
    (rule : ∀ (i j : Int) (t u : Tok) (s : Shared) (Q : Value -> Shared -> Prop) (E : Value -> Shared -> Prop),Q (.bool (g i j)) s -> wpAny (model X.prog X.w) X.A (f (.int i t) (.int j u)) Q E s) :
    OpR X f (rI0 fun i j => .bl (g i j)) := by
  intro pins s σ H x y v u Q I rx ry h
  obtain ⟨i,j,rfl,rfl,q⟩ := h
  obtain ⟨t,rfl⟩ := rx
  obtain ⟨t',rfl⟩ := ry
  exact rule i j t t' s _ _ ⟨.bl (g i j),H,I,rfl,q⟩
noncomputable def CDiv (i j : Int) : Prop := 0 < j /\ j < 1073741824
theorem op_add : OpR X (binaryOp .Add) (rI0 fun i j => .int (i + j)) := opI0 fun _ _ _ _ _ _ _ q => add_int q
theorem op_sub : OpR X (binaryOp .Sub) (rI0 fun i j => .int (i - j)) := opI0 fun _ _ _ _ _ _ _ q => sub_int q
theorem op_fdiv : OpR X (binaryOp .FloorDiv) (rI CDiv fun i j => .int (i / j)) := opI fun i j _ _ _ _ _ hc q => by
  have h1 : (0 : Int) < j := hc.1
  have h2 : j < 1073741824 := hc.2
  exact floordiv_int (by omega) (by rw [Int.fdiv_eq_ediv_of_nonneg i (by omega)]; exact q) (.inl (PyProof.noPylong_small (by omega)))
theorem op_mod : OpR X (binaryOp .Mod) (rI (fun _ j => 0 < j) fun i j => .int (i % j)) := opI fun i j _ _ _ _ _ hc q => by
  have h1 : (0 : Int) < j := hc
  exact mod_int' (by omega) (by rw [Int.fmod_eq_emod_of_nonneg i (by omega)]; exact q)
theorem unI {f : Value -> Sem Value} {g : Int -> Int}
    (rule : ∀ (i : Int) (t : Tok) (s : Shared) (Q : Value -> Shared -> Prop) (E : Value -> Shared -> Prop),Q (.int (g i) s.toks) { s with toks := s.toks + 1 } -> wpAny (model X.prog X.w) X.A (f (.int i t)) Q E s) :
    UnR X f (rU fun i => .int (g i)) := by
  intro pins s σ H x v Q I rx h
  obtain ⟨i,rfl,q⟩ := h
  obtain ⟨t,rfl⟩ := rx
  exact rule i t s _ _ ⟨.int (g i),H,I.tok _,⟨_,rfl⟩,q⟩
theorem un_neg : UnR X (unaryOp .USub) (rU fun i => .int (-i)) := unI fun _ _ _ _ _ q => neg_int q
end
noncomputable def scal : V -> V -> Bool
  | .non,.non => true | .non,.int _ => true | .int _,.non => true | .non,.bl _ => true | .bl _,.non => true | .non,.str _ => true | .str _,.non => true
  | .int _,.int _ => true | .bl _,.bl _ => true | .str _,.str _ => true | .byt _,.byt _ => true
  | .int _,.str _ => true | .str _,.int _ => true | .bl _,.str _ => true | .str _,.bl _ => true
  | _,_ => false
noncomputable def rEq : R2 := fun x y H Q => scal x y = true /\ Q (.bl (decide (x = y))) H
noncomputable def rNe : R2 := fun x y H Q => scal x y = true /\ Q (.bl (!decide (x = y))) H
theorem dec_int {i j : Int} : decide (V.int i = V.int j) = (i == j) := by
  rw [Bool.eq_iff_iff]
  simp
theorem dec_bl {i j : Bool} : decide (V.bl i = V.bl j) = (i == j) := by
  rw [Bool.eq_iff_iff]
  simp
theorem dec_str {i j : Str} : decide (V.str i = V.str j) = (i == j) := by
  rw [Bool.eq_iff_iff]
  simp
theorem dec_byt {i j : Array UInt8} : decide (V.byt i = V.byt j) = (i.toList == j.toList) := by
  rw [Bool.eq_iff_iff]
  cases i
  cases j
  simp
section
variable {X : Cx} {a b c : Expr} {ta tb tc : TE} {pos : Pos}
theorem fin_bl {pins : List (Addr × Obj)} {σ : St} {H : Hp} {s : Shared} {Q : VK} {k k' : Bool} (I : Inv X pins σ H s) (q : Q (.bl k) H) (e : k = k') : EP X pins σ Q (.bool k') s := by
  subst e
  exact ⟨.bl k,H,I,rfl,q⟩
theorem op_eq : OpR X (compareOp .Eq) rEq := by
  intro pins s σ H x y v u Q I rx ry h
  obtain ⟨hs,q⟩ := h
  cases x with
  | non =>
    cases rx
    cases y with
    | non => cases ry; exact PySem.EqNone.eq_none_none (fin_bl I q (by simp))
    | bl j => cases ry; exact PySem.EqNone.eq_none_bool (fin_bl I q (by simp))
    | int j => obtain ⟨t',rfl⟩ := ry; exact PySem.EqNone.eq_none_int (fin_bl I q (by simp))
    | str j => obtain ⟨t',rfl⟩ := ry; exact PySem.EqNone.eq_none_str (fin_bl I q (by simp))
    | _ => exact absurd (show false = true from hs) Bool.false_ne_true
  | bl i =>
    cases rx
    cases y with
    | non => cases ry; exact PySem.EqNone.eq_bool_none (fin_bl I q (by simp))
    | bl j => cases ry; exact eq_bool (fin_bl I q dec_bl)
    | str j => obtain ⟨t',rfl⟩ := ry; exact PySem.EqMixed.eq_bool_str (fin_bl I q (by simp))
    | _ => exact absurd (show false = true from hs) Bool.false_ne_true
  | int i =>
    obtain ⟨t,rfl⟩ := rx
    cases y with
    | non => cases ry; exact PySem.EqNone.eq_int_none (fin_bl I q (by simp))
    | int j => obtain ⟨t',rfl⟩ := ry; exact eq_int (fin_bl I q dec_int)
    | str j => obtain ⟨t',rfl⟩ := ry; exact PySem.EqMixed.eq_int_str (fin_bl I q (by simp))
    | _ => exact absurd (show false = true from hs) Bool.false_ne_true
  | str i =>
    obtain ⟨t,rfl⟩ := rx
    cases y with
    | non => cases ry; exact PySem.EqNone.eq_str_none (fin_bl I q (by simp))
    | bl j => cases ry; exact PySem.EqMixed.eq_str_bool (fin_bl I q (by simp))
    | int j => obtain ⟨t',rfl⟩ := ry; exact PySem.EqMixed.eq_str_int (fin_bl I q (by simp))
    | str j => obtain ⟨t',rfl⟩ := ry; exact eq_str (fin_bl I q dec_str)
    | _ => exact absurd (show false = true from hs) Bool.false_ne_true
  | byt i =>
    obtain ⟨t,rfl⟩ := rx
    cases y with
    | byt j => obtain ⟨t',rfl⟩ := ry; exact PySem.W.eq_bytes (fin_bl I q dec_byt)
    | _ => exact absurd (show false = true from hs) Bool.false_ne_true
  | _ => cases y <;> exact absurd (show false = true from hs) Bool.false_ne_true
theorem op_ne : OpR X (compareOp .NotEq) rNe := by
  intro pins s σ H x y v u Q I rx ry h
  obtain ⟨hs,q⟩ := h
  cases x with
  | non =>
    cases rx
    cases y with
    | non => cases ry; exact PySem.EqNone.ne_none_none (fin_bl I q (by simp))
    | bl j => cases ry; exact PySem.EqNone.ne_none_bool (fin_bl I q (by simp))
    | int j => obtain ⟨t',rfl⟩ := ry; exact PySem.EqNone.ne_none_int (fin_bl I q (by simp))
    | str j => obtain ⟨t',rfl⟩ := ry; exact PySem.EqNone.ne_none_str (fin_bl I q (by simp))
    | _ => exact absurd (show false = true from hs) Bool.false_ne_true
  | bl i =>
    cases rx
    cases y with
    | non => cases ry; exact PySem.EqNone.ne_bool_none (fin_bl I q (by simp))
    | bl j => cases ry; exact ne_bool (fin_bl I q (congrArg not dec_bl))
    | str j => obtain ⟨t',rfl⟩ := ry; exact PySem.EqMixed.ne_bool_str (fin_bl I q (by simp))
    | _ => exact absurd (show false = true from hs) Bool.false_ne_true
  | int i =>
    obtain ⟨t,rfl⟩ := rx
    cases y with
    | non => cases ry; exact PySem.EqNone.ne_int_none (fin_bl I q (by simp))
    | int j => obtain ⟨t',rfl⟩ := ry; exact ne_int (fin_bl I q (congrArg not dec_int))
    | str j => obtain ⟨t',rfl⟩ := ry; exact PySem.EqMixed.ne_int_str (fin_bl I q (by simp))
    | _ => exact absurd (show false = true from hs) Bool.false_ne_true
  | str i =>
    obtain ⟨t,rfl⟩ := rx
    cases y with
    | non => cases ry; exact PySem.EqNone.ne_str_none (fin_bl I q (by simp))
    | bl j => cases ry; exact PySem.EqMixed.ne_str_bool (fin_bl I q (by simp))
    | int j => obtain ⟨t',rfl⟩ := ry; exact PySem.EqMixed.ne_str_int (fin_bl I q (by simp))
    | str j => obtain ⟨t',rfl⟩ := ry; exact ne_str (fin_bl I q (congrArg not dec_str))
    | _ => exact absurd (show false = true from hs) Bool.false_ne_true
  | byt i =>
    obtain ⟨t,rfl⟩ := rx
    cases y with
    | byt j => obtain ⟨t',rfl⟩ := ry; exact PySem.W.ne_bytes (fin_bl I q (congrArg not dec_byt))
    | _ => exact absurd (show false = true from hs) Bool.false_ne_true
  | _ => cases y <;> exact absurd (show false = true from hs) Bool.false_ne_true
theorem op_lt : OpR X (compareOp .Lt) (rI0 fun i j => .bl (decide (i < j))) := opB0 fun _ _ _ _ _ _ _ q => lt_int q
theorem op_le : OpR X (compareOp .LtE) (rI0 fun i j => .bl (decide (i <= j))) := opB0 fun _ _ _ _ _ _ _ q => le_int q
theorem op_gt : OpR X (compareOp .Gt) (rI0 fun i j => .bl (decide (j < i))) := opB0 fun _ _ _ _ _ _ _ q => gt_int q
theorem op_ge : OpR X (compareOp .GtE) (rI0 fun i j => .bl (decide (j <= i))) := opB0 fun _ _ _ _ _ _ _ q => ge_int q
theorem op_isN : OpR X (compareOp .Is) (fun x y H Q => y = .non /\ Q (.bl (decide (x = .non))) H) := by
  intro pins s σ H x y v u Q I rx ry h
  obtain ⟨rfl,q⟩ := h
  cases ry
  refine is_none_gen (fin_bl I q ?_)
  cases x <;> first
    | (cases rx; rfl)
    | (obtain ⟨t,rfl⟩ := rx; rfl)
theorem op_notN : OpR X (compareOp .IsNot) (fun x y H Q => y = .non /\ Q (.bl (!decide (x = .non))) H) := by
  intro pins s σ H x y v u Q I rx ry h
  obtain ⟨rfl,q⟩ := h
  cases ry
  refine isnot_none_gen (fin_bl I q ?_)
  cases x <;> first
    | (cases rx; rfl)
    | (obtain ⟨t,rfl⟩ := rx; rfl)
theorem nomark (b : Expr) {op : CmpOp} (h : op ≠ .In := by decide) (h2 : op ≠ .NotIn := by decide) : behindInMarks op b = false := by
  have e1 : (op == CmpOp.In) = false := by cases op <;> first | rfl | exact absurd rfl h
  have e2 : (op == CmpOp.NotIn) = false := by cases op <;> first | rfl | exact absurd rfl h2
  cases b <;> simp [behindInMarks,e1,e2]
theorem pe_cmpR {op : CmpOp} {r : R2} (ho : OpR X (compareOp op) r) (ha : PE X a ta) (hb : PE X b tb) (hm : behindInMarks op b = false) : PE X (.Compare a [op] [b] pos) (tOp r ta tb) := by
  intro pins s σ H Q I h
  exact wpAny_Compare1 (binT ha hb I h fun v u s2 x y H2 I2 rx ry q => ho pins s2 σ H2 x y v u Q I2 rx ry q) hm
noncomputable def tTest (t : TE) : TT := fun σ H Q => t σ H fun x H' => ∃ k,x = .bl k /\ Q k H'
theorem pt_cmpR {op : CmpOp} {r : R2} (ho : OpR X (compareOp op) r) (ha : PE X a ta) (hb : PE X b tb) (hm : behindInMarks op b = false) : PT X (.Compare a [op] [b] pos) (tTest (tOp r ta tb)) := by
  intro pins s σ H Q I h
  refine wpAny_isTrue_Compare1 (thn (ha pins s σ H _ I h) fun v s1 ⟨x,H1,I1,r1,q1⟩ => thn (hb pins s1 σ H1 _ I1 q1) fun u s2 ⟨y,H2,I2,r2,q2⟩ =>
    thn (ho pins s2 σ H2 x y v u _ I2 r1 r2 q2) fun c s3 ⟨z,H3,I3,r3,k,e,q3⟩ => ?_) hm
  subst e
  cases r3
  exact wpAny_truthy_bool ⟨H3,I3,q3⟩
noncomputable def tChain (r r' : R2) (ta tb tc : TE) : TE := fun σ H Q => ta σ H fun x H1 => tb σ H1 fun y H2 => r x y H2 fun z H3 => ∃ k,z = .bl k /\
  (if k = true then tc σ H3 fun w' H4 => r' y w' H4 Q else Q (.bl false) H3)
theorem pe_chain {op op' : CmpOp} {r r' : R2} (ho : OpR X (compareOp op) r) (ho' : OpR X (compareOp op') r') (ha : PE X a ta) (hb : PE X b tb) (hc : PE X c tc)
    (hm : lastMarks [op,op'] [b,c] = false := by with_unfolding_all rfl) : PE X (.Compare a [op,op'] [b,c] pos) (tChain r r' ta tb tc) := by
  intro pins s σ H Q I h
  refine Compare_chain (thn (ha pins s σ H _ I h) fun v s1 ⟨x,H1,I1,r1,q1⟩ => chain_link (thn (hb pins s1 σ H1 _ I1 q1) fun u s2 ⟨y,H2,I2,r2,q2⟩ =>
    thn (ho pins s2 σ H2 x y v u _ I2 r1 r2 q2) fun d s3 ⟨z,H3,I3,r3,k,e,q3⟩ => ?_)) hm
  subst e
  cases r3
  refine wpAny_truthy_bool ?_
  cases k with
  | false => exact ite_ff ⟨.bl false,H3,I3,rfl,q3⟩
  | true => exact ite_tt (chain_last (thn (hc pins s3 σ H3 _ I3 q3) fun w' s4 ⟨z',H4,I4,r4,q4⟩ => ho' pins s4 σ H4 y z' u w' Q I4 r2 r4 q4))
theorem pt_chain {op op' : CmpOp} {r r' : R2} (ho : OpR X (compareOp op) r) (ho' : OpR X (compareOp op') r') (ha : PE X a ta) (hb : PE X b tb) (hc : PE X c tc)
    (hm : lastMarks [op,op'] [b,c] = false := by with_unfolding_all rfl) : PT X (.Compare a [op,op'] [b,c] pos) (tTest (tChain r r' ta tb tc)) := by
  intro pins s σ H Q I h
  refine isTrue_chain (thn (ha pins s σ H _ I h) fun v s1 ⟨x,H1,I1,r1,q1⟩ => test_link (thn (hb pins s1 σ H1 _ I1 q1) fun u s2 ⟨y,H2,I2,r2,q2⟩ =>
    thn (ho pins s2 σ H2 x y v u _ I2 r1 r2 q2) fun d s3 ⟨z,H3,I3,r3,k,e,q3⟩ => ?_)) hm
  subst e
  cases r3
  refine wpAny_truthy_bool ?_
  cases k with
  | false =>
    obtain ⟨k',e',q'⟩ := q3
    cases e'
    exact ite_ff ⟨H3,I3,q'⟩
  | true =>
    refine ite_tt (test_last (thn (hc pins s3 σ H3 _ I3 q3) fun w' s4 ⟨z',H4,I4,r4,q4⟩ => thn (ho' pins s4 σ H4 y z' u w' _ I4 r2 r4 q4) fun d' s5 ⟨z2,H5,I5,r5,k2,e2,q5⟩ => ?_))
    subst e2
    cases r5
    exact wpAny_truthy_bool ⟨H5,I5,q5⟩
noncomputable def TruV (K : PySem.W.Frag) (x : V) (H : Hp) (k : Bool) : Prop :=
  match x with
  | .non => k = false
  | .bl b => k = b
  | .int i => k = (i != 0)
  | .str y => y.length <= sizeLine /\ k = ((y.length : Int) != 0)
  | .byt y => y.size <= sizeLine /\ k = ((y.size : Int) != 0)
  | .ref p => (∃ xs,SqL K H p xs /\ k = !xs.isEmpty) \/ (∃ xs,SqT K H p xs /\ k = !xs.isEmpty) \/ ∃ kvs,H p = some (.dK kvs) /\ k = !kvs.isEmpty
  | _ => False
theorem isEmpty_kv {κ : Type} {kvs : List (κ × V)} {vs : List (κ × Value)} (r : KV kvs vs) : (!vs.isEmpty) = !kvs.isEmpty := by
  cases r <;> rfl
theorem isEmpty_of {xs : List V} {its : List Value} (r : Vals xs its) : (!its.toArray.isEmpty) = !xs.isEmpty := by
  cases r <;> simp
theorem line63 : (sizeLine : Nat) < 2 ^ 63 := by rw [sizeLine_eq]; decide
theorem tru_ok : TruR X (fun x H Q => ∃ k,TruV X.K x H k /\ Q k H) := by
  intro pins s σ H x v Q I rx h
  obtain ⟨k,e,q⟩ := h
  have hl := line63
  have hs : sizeLine = 16777216 := sizeLine_eq
  cases x with
  | non =>
    cases rx
    have e' : k = false := e
    subst e'
    exact truthy_none ⟨H,I,q⟩
  | bl b =>
    cases rx
    have e' : k = b := e
    subst e'
    exact wpAny_truthy_bool ⟨H,I,q⟩
  | int i =>
    obtain ⟨t,rfl⟩ := rx
    have e' : k = (i != 0) := e
    subst e'
    exact PySem.P.truthy_int ⟨H,I,q⟩
  | str y =>
    obtain ⟨t,rfl⟩ := rx
    obtain ⟨hy,e'⟩ : y.length <= sizeLine /\ k = ((y.length : Int) != 0) := e
    subst e'
    exact PySem.P.truthy_str (by omega) ⟨H,I.tok _,q⟩
  | byt y =>
    obtain ⟨t,rfl⟩ := rx
    obtain ⟨hy,e'⟩ : y.size <= sizeLine /\ k = ((y.size : Int) != 0) := e
    subst e'
    exact PySem.W.truthy_bytes (by omega) ⟨H,I.tok _,q⟩
  | ref p =>
    cases rx
    have e' : (∃ xs,SqL X.K H p xs /\ k = !xs.isEmpty) \/ (∃ xs,SqT X.K H p xs /\ k = !xs.isEmpty) \/ ∃ kvs,H p = some (.dK kvs) /\ k = !kvs.isEmpty := e
    rcases e' with ⟨xs,hx,e'⟩ | ⟨xs,hx,e'⟩ | ⟨kvs,hx,e'⟩
    · subst e'
      obtain ⟨its,r,pl,hz⟩ := I.list hx
      have hlen := r.length
      exact wpAny_truthy_list pl.isList (by simp only [List.size_toArray]; omega) ⟨H,I.tok _,by rw [isEmpty_of r]; exact q⟩
    · subst e'
      obtain ⟨its,r,pl,hz⟩ := I.tuple hx
      have hlen := r.length
      exact truthy_tuple pl (by simp only [List.size_toArray]; omega) ⟨H,I.tok _,by rw [isEmpty_of r]; exact q⟩
    · subst e'
      obtain ⟨hz,hS,vs,r,m⟩ : kvs.length <= sizeLine /\ (p == sysModules) = false /\ ∃ vs,KV kvs vs /\ s.heap.DictOf (mixKind X.prog X.w) p vs := I.hok p _ hx
      have hlen : kvs.length = vs.length := Paired.length r
      exact wpAny_truthy_dict hS m (by omega) ⟨H,I.tok _,by rw [isEmpty_kv r]; exact q⟩
  | _ => exact (show False from e).elim
theorem pt_truth (ha : PE X a ta) (he : ∀ whole,isTrue a X.env whole = (do let v <- whole; standAt a.pos; holding [v] (truthy v))) :
    PT X a (fun σ H Q => ta σ H fun x H' => ∃ k,TruV X.K x H' k /\ Q k H') := by
  intro pins s σ H Q I h
  exact isTrue_plain (thn (ha pins s σ H _ I h) fun v s1 ⟨x,H1,I1,r1,q1⟩ => tru_ok pins s1 σ H1 x v Q I1 r1 q1) (he _)
theorem vals1 {x : V} {us : List Value} (r : Vals [x] us) : ∃ u,us = [u] /\ RelV x u := by
  cases r with
  | cons r1 r2 => cases r2; exact ⟨_,rfl,r1⟩
theorem vals2 {x y : V} {us : List Value} (r : Vals [x,y] us) : ∃ u w',us = [u,w'] /\ RelV x u /\ RelV y w' := by
  cases r with
  | cons r1 r2 =>
    cases r2 with
    | cons r3 r4 => cases r4; exact ⟨_,_,rfl,r1,r3⟩
theorem call_min2 (hc : X.calm = true) : CallR X (.builtin "min") (fun xs H Q => ∃ i j,xs = [.int i,.int j] /\ Q (.int (if j < i then j else i)) H) := by
  intro pins s σ H xs us Q I r h
  obtain ⟨i,j,rfl,q⟩ := h
  obtain ⟨u,w',rfl,⟨t,rfl⟩,⟨t',rfl⟩⟩ := vals2 r
  refine min_two_ints (I.ok.hd hc) fun h' tk k => ⟨_,H,I.kept k,?_,q⟩
  by_cases hj : j < i
  · rw [if_pos hj,if_pos hj]; exact ⟨_,rfl⟩
  · rw [if_neg hj,if_neg hj]; exact ⟨_,rfl⟩
theorem call_str_int : CallR X (.type "str") (fun xs H Q => ∃ i,xs = [.int i] /\ i.natAbs.log2 < 1920 /\ Q (.str (toString i)) H) := by
  intro pins s σ H xs us Q I r h
  obtain ⟨i,rfl,hz,q⟩ := h
  obtain ⟨u,rfl,t,rfl⟩ := vals1 r
  exact PySem.P.str_of_int hz ⟨.str _,H,I.tok _,⟨_,rfl⟩,q⟩
theorem call_ord : CallR X (.builtin "ord") (fun xs H Q => ∃ x,xs = [.str x] /\ x.length = 1 /\ Q (.int (x.cps.getD 0 0 : Nat)) H) := by
  intro pins s σ H xs us Q I r h
  obtain ⟨x,rfl,hz,q⟩ := h
  obtain ⟨u,rfl,t,rfl⟩ := vals1 r
  exact ord_of_one hz ⟨.int _,H,I.tok _,⟨_,rfl⟩,q⟩
end
end L2
namespace L2
open PySem PySem.Spec PyProof.Rows
structure ObjM (h : Heap) (x dx C : Addr) (mA : Str -> Option Value) : Prop where
  obj : h.get? x = some (PySem.W.instObj C dx)
  ns : h.Ns1 dx mA
  ne : dx ≠ x
theorem lookIn_ns {h : Heap} {dx : Addr} {mA : Str -> Option Value} (n : h.Ns1 dx mA) : ∃ od,h.get? dx = some od /\ ∀ name,PySem.W.lookIn name od = some (mA name) := by
  obtain ⟨o,es,ep,ho,hd,hk,_,hm⟩ := n
  refine ⟨o,ho,fun name => ?_⟩
  have e := hm name
  unfold nsFind findBy at e
  rw [<- Array.find?_toList] at e
  unfold PySem.W.lookIn
  rw [hd]
  dsimp only
  split
  · rename_i y q
    rw [q] at e
    exact congrArg some e
  · rename_i q
    rw [q] at e
    have a : es.toList.any (·.refKey) = false := by
      rw [List.any_eq_false]
      intro y hy
      obtain ⟨z,t,hkey⟩ := hk y (Array.mem_toList_iff.mp hy)
      simp [DictEntry.refKey,hkey]
    have a' : ¬ es.toList.any (·.refKey) = true := by rw [a]; exact Bool.false_ne_true
    rw [if_neg a']
    exact congrArg some e
theorem ObjM.look {h : Heap} {x dx C : Addr} {mA : Str -> Option Value} (I : ObjM h x dx C mA) : ∃ od,PySem.W.InstAt h x (PySem.W.instObj C dx) C (some od) /\ ∀ name,PySem.W.lookIn name od = some (mA name) :=
  let ⟨od,ho,hl⟩ := lookIn_ns I.ns
  ⟨od,⟨I.obj,rfl,rfl,ho⟩,hl⟩
section
variable {prog : Program} {w : World} {A : Around} {E : Value -> Shared -> Prop} {s : Shared} {K : PySem.W.Frag} {x dx C f : Addr} {mA : Str -> Option Value} {name : Str} {v : Value}
theorem get_map {expr : Bool} {Q : Value -> Shared -> Prop} (X : K.In s.heap) (I : ObjM s.heap x dx C mA) (hg : PySem.W.plainGet K C name = true) (hh : PySem.W.hasDictIn K C = true)
    (ha : PySem.W.findIn K (.ref C) name = some none) (hv : mA name = some v) (hv' : PySem.W.handedIn v = true) (h : Q v { s with toks := s.toks + 1 }) :
    wpAny (model prog w) A (getAttr (.ref x) name expr) Q E s := by
  obtain ⟨od,J,hl⟩ := I.look
  exact PySem.W.get_value X J (PySem.W.plainGet_of hg).1 (PySem.W.findObj_own hh ha rfl (by rw [hl,hv])) hv' h
theorem get_meth {pl : Sem Bool} {Q : Value × List Value -> Shared -> Prop} (X : K.In s.heap) (I : ObjM s.heap x dx C mA) (hg : PySem.W.plainGet K C name = true)
    (hf : PySem.W.findIn K (.ref C) name = some (some (.ref f))) (ht : PySem.W.isFn K (.ref f) = true) (hv : mA name = none) (h : Q (.ref f,[.ref x]) s) :
    wpAny (model prog w) A (getMethod (.ref x) name pl) Q E s := by
  obtain ⟨od,J,hl⟩ := I.look
  exact PySem.W.method_fn X J (PySem.W.plainGet_of hg).1 (PySem.W.plainGet_of hg).2 hf (beq_iff_eq.mp ht) (by show (PySem.W.lookIn name od).map (·.isSome) = some false; rw [hl,hv]; rfl) h
theorem set_map {ns : List Str} {Q : Unit -> Shared -> Prop} (X : K.In s.heap) (I : ObjM s.heap x dx C mA)
    (hs : PySem.W.findIn K (.ref C) "__setattr__" = some (some (.builtin "object.__setattr__"))) (hp : PySem.W.plainOver K C = true) (ht : PySem.W.takerIn K C name = some none) (hh : PySem.W.hasDictIn K C = true)
    (hw : PySem.Within mA ns) (hsz : ns.length <= sizeLine)
    (h : ∀ h',ObjM h' x dx C (fun y => if y = name then some v else mA y) -> Heap.SameBut dx s.heap h' -> Q () { s with heap := h',toks := s.toks + 2 }) :
    wpAny (model prog w) A (setAttr (.ref x) name v) Q E s := by
  obtain ⟨od,J,hl⟩ := I.look
  refine PySem.W.set_plain X J hs (PySem.W.osa_open (s := { s with toks := s.toks + 1 }) (r := none) X J hp ht fun b => ?_)
  obtain ⟨cd,hc,hd'⟩ := PySem.W.any_some hh
  have hx : s.heap.get? x = some ⟨.ref C,some dx,.plain,#[]⟩ := I.obj
  refine wpAny_bind (wpAny_pure (wpAny_bind (wpAny_bind (wpAny_loadPart hx (wpAny_bind (PySem.W.Looks.here (s := { s with toks := s.toks + 1 }) (PySem.W.looks_clsIn X hc) ?_))))))
  rw [hd']
  refine wpAny_pure (a := some dx) (wpAny_bind (wpAny_pure (wpAny_bind ?_)))
  refine wpAny_nsSet1 (s := { s with toks := s.toks + 1 }) I.ns fun h' hn2 hs2 => ?_
  obtain ⟨oD,esD,epD,hoD,hdD,hcD⟩ := hn2.count (PySem.Within.cons name v hw)
  refine wpAny_bind (wpAny_lookBehind hoD (by rw [hdD]; exact pastItsLine_dict (Nat.le_trans hcD (by rw [List.length_cons]; omega))) ?_)
  exact wpAny_pure (h _ ⟨(hs2.2 _ (Ne.symm I.ne)).trans I.obj,hn2,I.ne⟩ hs2)
theorem make_map {R : Result -> Shared -> Prop} {vs : List Value} {kw : List (Str × Value)} (X : K.In s.heap) (hm : PySem.W.makesIn K C = true)
    (hi : PySem.W.findIn K (.ref C) "__init__" = some (some (.ref f))) (hf : PySem.W.typeIn K (.ref f) = some (.type "function"))
    (h : codeAny (model prog w) (A.under (.builtin "type.__call__" ⟨.ref C :: vs,kw⟩)) (.call (.ref f) ⟨.ref (s.heap.objs.size + 1) :: vs,kw⟩) (PySem.W.InitBack (s.heap.objs.size + 1) R)
      { s with heap := (s.heap.push PySem.W.emptyDict).push (PySem.W.instObj C s.heap.objs.size) }) :
    codeAny (model prog w) A (.call (.ref C) ⟨vs,kw⟩) R s := by
  obtain ⟨hh,g,d,t,os⟩ := s
  exact PySem.W.make_core (PySem.W.makes_of X hm) (PySem.W.looks_findIn X hi) (fun self => PySem.W.bind_fn X self hf) (.inl rfl) h
end
noncomputable def putF (f : Str) (v : V) : List (Str × V) -> List (Str × V)
  | [] => [(f,v)]
  | (g,x) :: r => if g = f then (g,v) :: r else (g,x) :: putF f v r
theorem lookup_putF (f g : Str) (v : V) : ∀ fs : List (Str × V),(putF f v fs).lookup g = if g = f then some v else fs.lookup g
  | [] => by
    show List.lookup g [(f,v)] = _
    by_cases h : g = f
    · have hb : (g == f) = true := beq_iff_eq.mpr h
      simp only [List.lookup,hb,if_pos h]
    · have hb : (g == f) = false := beq_eq_false_iff_ne.mpr h
      simp only [List.lookup,hb,if_neg h]
  | (k,x) :: r => by
    have ih := lookup_putF f g v r
    rw [show putF f v ((k,x) :: r) = (if k = f then (k,v) :: r else (k,x) :: putF f v r) from rfl]
    by_cases hk : k = f
    · rw [if_pos hk]
      by_cases h : g = k
      · have hb : (g == k) = true := beq_iff_eq.mpr h
        simp only [List.lookup,hb,if_pos (h.trans hk)]
      · have hb : (g == k) = false := beq_eq_false_iff_ne.mpr h
        simp only [List.lookup,hb,if_neg (fun e : g = f => h (e.trans hk.symm))]
    · rw [if_neg hk]
      by_cases h : g = k
      · have hb : (g == k) = true := beq_iff_eq.mpr h
        simp only [List.lookup,hb,if_neg (fun e : g = f => hk (h.symm.trans e))]
      · have hb : (g == k) = false := beq_eq_false_iff_ne.mpr h
        simp only [List.lookup,hb]
        exact ih
theorem keys_putF (f : Str) (v : V) : ∀ fs : List (Str × V),f ∈ (putF f v fs).map (·.1) /\ ∀ g,g ∈ fs.map (·.1) -> g ∈ (putF f v fs).map (·.1)
  | [] => ⟨by simp [putF],fun g h => by simp at h⟩
  | (k,x) :: r => by
    obtain ⟨i1,i2⟩ := keys_putF f v r
    rw [show putF f v ((k,x) :: r) = (if k = f then (k,v) :: r else (k,x) :: putF f v r) from rfl]
    by_cases hk : k = f
    · rw [if_pos hk]
      subst hk
      exact ⟨by simp,fun g h => by simpa using h⟩
    · rw [if_neg hk]
      refine ⟨?_,fun g h => ?_⟩
      · rw [List.map_cons]
        exact List.mem_cons_of_mem _ i1
      · rw [List.map_cons] at h ⊢
        rcases List.mem_cons.mp h with e | e
        · exact List.mem_cons.mpr (.inl e)
        · exact List.mem_cons_of_mem _ (i2 g e)
theorem length_putF (f : Str) (v : V) : ∀ fs : List (Str × V),(putF f v fs).length <= fs.length + 1
  | [] => by simp [putF]
  | (k,x) :: r => by
    have ih := length_putF f v r
    rw [show putF f v ((k,x) :: r) = (if k = f then (k,v) :: r else (k,x) :: putF f v r) from rfl]
    by_cases hk : k = f
    · rw [if_pos hk,List.length_cons,List.length_cons]; omega
    · rw [if_neg hk,List.length_cons,List.length_cons]; omega
theorem RelO.some_of {v : V} {o : Option Value} (r : RelO (some v) o) : ∃ u,o = some u /\ RelV v u := by
  cases o with
  | none => exact (show False from r).elim
  | some u => exact ⟨u,rfl,r⟩
theorem RelO.none_of {o : Option Value} (r : RelO none o) : o = none := by
  cases o with
  | none => rfl
  | some u => exact (show False from r).elim
theorem handed_of {v : V} {u : Value} (r : RelV v u) : PySem.W.handedIn u = true := by
  cases v with
  | non => cases (show u = Value.none from r); rfl
  | bl b => cases (show u = Value.bool b from r); rfl
  | int i => obtain ⟨t,e⟩ := (show ∃ t,u = Value.int i t from r); cases e; rfl
  | str x => obtain ⟨t,e⟩ := (show ∃ t,u = Value.str x t from r); cases e; rfl
  | byt b => obtain ⟨t,e⟩ := (show ∃ t,u = Value.bytes b t from r); cases e; rfl
  | flt b => obtain ⟨t,e⟩ := (show ∃ t,u = Value.float b t from r); cases e; rfl
  | ref a => cases (show u = Value.ref a from r); rfl
  | ty n => cases (show u = Value.type n from r); rfl
section
variable {P : Program} {w : World} {H H' : Hp} {h h' : Heap} {a C dx : Addr} {fs fs' : List (Str × V)}
theorem ins_get (hok : HOk P w H h) (e : H a = some (.ins C dx fs)) : ∃ mA,ObjM h a dx C mA /\ (∀ f,RelO (fs.lookup f) (mA f)) /\ PySem.Within mA (fs.map (·.1)) /\ fs.length <= 1000 /\ H dx = some (.own a) := by
  obtain ⟨d,z,ne,ob,mA,n,r,q⟩ := (show ObjOk P w H h a (.ins C dx fs) from hok a _ e)
  exact ⟨mA,⟨ob,n,ne⟩,r,q,z,d⟩
end
structure Cls (K : PySem.W.Frag) (C : Addr) : Prop where
  pg : PySem.W.plainGet K C Str.empty = true
  hd : PySem.W.hasDictIn K C = true
  po : PySem.W.plainOver K C = true
  sa : PySem.W.findIn K (.ref C) "__setattr__" = some (some (.builtin "object.__setattr__"))
theorem Cls.get {K : PySem.W.Frag} {C : Addr} (c : Cls K C) (f : Str) : PySem.W.plainGet K C f = true := c.pg
noncomputable def NoAttr (K : PySem.W.Frag) (C : Addr) (f : Str) : Prop := PySem.W.findIn K (.ref C) f = some none
theorem NoAttr.taker {K : PySem.W.Frag} {C : Addr} {f : Str} (n : NoAttr K C f) : PySem.W.takerIn K C f = some none := by
  unfold PySem.W.takerIn
  rw [show PySem.W.findIn K (.ref C) f = some none from n]
  rfl
structure Con (K : PySem.W.Frag) (C : Addr) (f : Str) (v : V) (u : Value) : Prop where
  at_ : PySem.W.findIn K (.ref C) f = some (some u)
  rel : RelV v u
  get : PySem.W.specialIn K u "__get__" = some none
  cp : PySem.W.copiedNames.contains f = false
structure Meth (K : PySem.W.Frag) (C : Addr) (m : Str) (f : Addr) : Prop where
  at_ : PySem.W.findIn K (.ref C) m = some (some (.ref f))
  fn : PySem.W.isFn K (.ref f) = true
  kp : PySem.W.keepIn K (.ref f) = true
section
variable {X : Cx} {pins : List (Addr × Obj)} {σ : St} {H : Hp} {s : Shared} {a C dx : Addr} {fs : List (Str × V)} {f : Str} {v : V} {A : Around} {E : Value -> Shared -> Prop}
theorem getattr_ok {b : Bool} {Q : Value -> Shared -> Prop} (I : Inv X pins σ H s) (e : H a = some (.ins C dx fs)) (c : Cls X.K C) (n : NoAttr X.K C f) (l : fs.lookup f = some v)
    (h : ∀ u s',Inv X pins σ H s' -> RelV v u -> Q u s') : wpAny (model X.prog X.w) A (getAttr (.ref a) f b) Q E s := by
  obtain ⟨mA,O,r,_,_,_⟩ := ins_get I.hok e
  obtain ⟨u,hu,ru⟩ := RelO.some_of (v := v) (o := mA f) (by rw [<- l]; exact r f)
  exact get_map I.kIn O (c.get f) c.hd n hu (handed_of ru) (h u _ (I.tok _) ru)
theorem getmeth_ok {m : Str} {g : Addr} {pl : Sem Bool} {Q : Value × List Value -> Shared -> Prop} (I : Inv X pins σ H s) (e : H a = some (.ins C dx fs)) (c : Cls X.K C) (k : Meth X.K C m g) (l : fs.lookup m = none)
    (h : Q (.ref g,[.ref a]) s) : wpAny (model X.prog X.w) A (getMethod (.ref a) m pl) Q E s := by
  obtain ⟨mA,O,r,_,_,_⟩ := ins_get I.hok e
  have hn : mA m = none := RelO.none_of (by rw [<- l]; exact r m)
  exact get_meth I.kIn O (c.get m) k.at_ k.fn hn h
theorem setattr_ok {y : V} {u : Value} {Q : Unit -> Shared -> Prop} (I : Inv X pins σ H s) (e : H a = some (.ins C dx fs)) (c : Cls X.K C) (n : NoAttr X.K C f) (hl : fs.length < 1000) (ry : RelV y u)
    (h : ∀ s',Inv X pins σ (upd H a (.ins C dx (putF f y fs))) s' -> Q () s') : wpAny (model X.prog X.w) A (setAttr (.ref a) f u) Q E s := by
  obtain ⟨mA,O,r,wi,_,ho⟩ := ins_get I.hok e
  have hz : (fs.map (·.1)).length <= sizeLine := by rw [List.length_map,sizeLine_eq]; omega
  refine set_map I.kIn O c.sa c.po n.taker c.hd wi hz fun h' O' sb => h _ ?_
  have hd : ∃ o,h'.get? dx = some o := let ⟨o,_,_,e',_⟩ := O'.ns; ⟨o,e'⟩
  refine I.write (x := a) (e := dx) (by rw [e]; exact True.intro) (.inr ho) (fun b q hb z => (sb.2 b hb).trans z) hd ?_
  refine ⟨by rw [upd_ne O.ne]; exact ho,?_,O.ne,O'.obj,_,O'.ns,fun g => ?_,fun g hg => ?_⟩
  · have := length_putF f y fs; omega
  · show RelO ((putF f y fs).lookup g) (if g = f then some u else mA g)
    rw [lookup_putF]
    by_cases q : g = f
    · rw [if_pos q,if_pos q]; exact ry
    · rw [if_neg q,if_neg q]; exact r g
  · by_cases q : g = f
    · rw [q]; exact (keys_putF f y fs).1
    · refine (keys_putF f y fs).2 g (wi g fun z => hg ?_)
      show (if g = f then some u else mA g) = none
      rw [if_neg q]; exact z
theorem Inv.made (I : Inv X pins σ H s) : Inv X pins σ (upd (upd H s.heap.objs.size (.own (s.heap.objs.size + 1))) (s.heap.objs.size + 1) (.ins C s.heap.objs.size []))
    { s with heap := (s.heap.push PySem.W.emptyDict).push (PySem.W.instObj C s.heap.objs.size) } := by
  have e1 : (s.heap.push PySem.W.emptyDict).get? s.heap.objs.size = some PySem.W.emptyDict := Heap.get?_push_size s.heap rfl
  have e2 : ((s.heap.push PySem.W.emptyDict).push (PySem.W.instObj C s.heap.objs.size)).get? (s.heap.objs.size + 1) = some (PySem.W.instObj C s.heap.objs.size) := by
    have := Heap.get?_push_size (s.heap.push PySem.W.emptyDict) (o := PySem.W.instObj C s.heap.objs.size) rfl
    rwa [Heap.size_push] at this
  have e3 : (s.heap.push PySem.W.emptyDict).Ns s.heap.objs.size (fun _ => none) := ⟨PySem.W.emptyDict,#[],_,e1,rfl,(fun e he => absurd he (by simp)),fun _ => rfl⟩
  have I1 := I.laid (a := s.heap.objs.size) (o := .own (s.heap.objs.size + 1)) (h' := s.heap.push PySem.W.emptyDict) (t' := s.toks) (fun b u q => Heap.get?_push_of_some _ q) (Nat.le_refl _) ⟨_,e1⟩
  refine I1.laid (a := s.heap.objs.size + 1) (o := .ins C s.heap.objs.size []) (t' := s.toks) (fun b u q => Heap.get?_push_of_some _ q) (Nat.le_of_eq (Heap.size_push _ _)) ?_
  have ne : s.heap.objs.size ≠ s.heap.objs.size + 1 := Nat.ne_of_lt (Nat.lt_succ_self _)
  refine ⟨by rw [upd_ne ne,upd_same],Nat.zero_le _,ne,e2,fun _ => none,(Heap.Ns1.of_empty e3).at fun o q => Heap.get?_push_of_some _ q,fun _ => True.intro,fun y hy => absurd rfl hy⟩
theorem attr_of {prog : Program} {w : World} {env : Env} {e : Expr} {f : Str} {pos : Pos} {s : Shared} {Q : Value -> Shared -> Prop} (hb : attributeBase e f env (eval e env) = eval e env)
    (h : wpAny (model prog w) A (eval e env) (fun o s₁ => wpAny (model prog w) A (getAttr o f true) Q E s₁) E s) : wpAny (model prog w) A (eval (.Attribute e f pos) env) Q E s :=
  Attribute_any_ h (by rw [arm_eval_Attribute,hb])
end
noncomputable def tFld (K : PySem.W.Frag) (ta : TE) (f : Str) : TE := fun σ H Q => ta σ H fun x H1 => ∃ a C dx fs v,x = .ref a /\ H1 a = some (.ins C dx fs) /\ Cls K C /\ NoAttr K C f /\ fs.lookup f = some v /\ Q v H1
noncomputable def sFld (K : PySem.W.Frag) (ta tv : TE) (f : Str) : TS := fun D σ H => tv σ H fun y H1 => ta σ H1 fun x H2 => ∃ a C dx fs,x = .ref a /\ H2 a = some (.ins C dx fs) /\ Cls K C /\ NoAttr K C f /\ fs.length < 1000 /\
  D.nx σ (upd H2 a (.ins C dx (putF f y fs)))
noncomputable def InOp (X : Cx) (op : Operator) (rd : V -> V -> Hp -> VK -> Prop) : Prop :=
  ∀ (pins : List (Addr × Obj)) (s : Shared) (σ : St) (H : Hp) (x y : V) (u v : Value) (Q : VK),Inv X pins σ H s -> RelV x u -> RelV y v -> rd x y H Q -> wpAny (model X.prog X.w) X.A (inplaceOp op u v) (EP X pins σ Q) X.xe s
noncomputable def sFldAug (K : PySem.W.Frag) (ta tv : TE) (rd : V -> V -> Hp -> VK -> Prop) (f : Str) : TS := fun D σ H => ta σ H fun x H1 => ∃ a C dx fs v,x = .ref a /\ H1 a = some (.ins C dx fs) /\ Cls K C /\ NoAttr K C f /\ fs.lookup f = some v /\
  tv σ H1 fun y H2 => rd v y H2 fun z H3 => ∃ dx' fs',H3 a = some (.ins C dx' fs') /\ fs'.length < 1000 /\ D.nx σ (upd H3 a (.ins C dx' (putF f z fs')))
section
variable {X : Cx} {o e value : Expr} {f : Str} {pos pos' tpos : Pos} {ta tv : TE}
theorem pe_fld (he : PE X e ta) (hb : attributeBase e f X.env (eval e X.env) = eval e X.env) : PE X (.Attribute e f pos) (tFld X.K ta f) := by
  intro pins s σ H Q I h
  refine attr_of hb (thn (he pins s σ H _ I h) fun u s1 ⟨x,H1,I1,rx,a,C,dx,fs,v,ex,ea,c,n,l,q⟩ => ?_)
  subst ex
  obtain rfl : u = Value.ref a := rx
  exact getattr_ok I1 ea c n l fun u' s2 I2 ru => ⟨v,H1,I2,ru,q⟩
theorem ps_fld (ha : PE X o ta) (hv : PE X value tv) (hs : swapsWith value (some (.Attribute o f pos')) pos.line X.env = pure false) : PS X (.Assign [.Attribute o f pos'] value pos) (sFld X.K ta tv f) := by
  intro pins s σ H D I h
  refine plainObj_wpAny_Assign_Attribute (thn (hv pins s σ H _ I h) fun u s1 ⟨y,H1,I1,ry,q⟩ => thn (ha pins s1 σ H1 _ I1 q) fun ov s2 ⟨x,H2,I2,rx,a,C,dx,fs,ex,ea,c,n,l,q2⟩ => ?_) hs
  subst ex
  obtain rfl : ov = Value.ref a := rx
  exact setattr_ok I2 ea c n l ry fun s3 I3 => ⟨σ,_,I3,q2⟩
theorem ps_fldaug {op : Operator} {rd : V -> V -> Hp -> VK -> Prop} (ha : PE X o ta) (hv : PE X value tv) (hop : InOp X op rd) : PS X (.AugAssign (.Attribute o f tpos) op value pos) (sFldAug X.K ta tv rd f) := by
  intro pins s σ H D I h
  refine wpAny_AugAssign_AttributeAny (thn (ha pins s σ H _ I h) fun ov s1 ⟨x,H1,I1,rx,a,C,dx,fs,v,ex,ea,c,n,l,q⟩ => ?_)
  subst ex
  obtain rfl : ov = Value.ref a := rx
  refine getattr_ok I1 ea c n l fun u s2 I2 ru => thn (hv pins s2 σ H1 _ I2 q) fun w3 s3 ⟨y,H2,I3,ry,q3⟩ => thn (hop pins s3 σ H2 v y u w3 _ I3 ru ry q3) fun w4 s4 ⟨z,H3,I4,rz,dx',fs',ea',l',q4⟩ => ?_
  exact setattr_ok I4 ea' c n l' rz fun s5 I5 => ⟨σ,_,I5,q4⟩
noncomputable def rAdd : V -> V -> Hp -> VK -> Prop := fun x y H Q => ∃ i j,x = .int i /\ y = .int j /\ Q (.int (i + j)) H
noncomputable def rSub : V -> V -> Hp -> VK -> Prop := fun x y H Q => ∃ i j,x = .int i /\ y = .int j /\ Q (.int (i - j)) H
theorem in_add : InOp X .Add rAdd := by
  rintro pins s σ H x y u v Q I rx ry ⟨i,j,rfl,rfl,q⟩
  obtain ⟨t,rfl⟩ := (show ∃ t,u = Value.int i t from rx)
  obtain ⟨t',rfl⟩ := (show ∃ t',v = Value.int j t' from ry)
  exact PyProof.Rows.iadd_int ⟨.int (i + j),H,I.tok _,⟨_,rfl⟩,q⟩
theorem in_sub : InOp X .Sub rSub := by
  rintro pins s σ H x y u v Q I rx ry ⟨i,j,rfl,rfl,q⟩
  obtain ⟨t,rfl⟩ := (show ∃ t,u = Value.int i t from rx)
  obtain ⟨t',rfl⟩ := (show ∃ t',v = Value.int j t' from ry)
  exact PyProof.Rows.isub_int ⟨.int (i - j),H,I.tok _,⟨_,rfl⟩,q⟩
theorem methcall_of {pl : Sem Bool} {m : Str} {apos : Pos} {args : List Expr} {pins : List (Addr × Obj)} {s : Shared} {σ : St} {H : Hp} {Q : Value -> Shared -> Prop} {te : TE} (he : PE X e te) (I : Inv X pins σ H s)
    (h : te σ H fun x H1 => ∃ a C dx fs g,x = .ref a /\ H1 a = some (.ins C dx fs) /\ Cls X.K C /\ Meth X.K C m g /\ fs.lookup m = none /\
      ∀ s1,Inv X pins σ H1 s1 -> wpAny (model X.prog X.w) X.A (callWith pos (.ref g) [.ref a] (backTo pos (starEach args X.env)) (backToKw pos (keywordEach [] X.env))) Q X.xe s1)
    (ht : eval (.Call (.Attribute e m apos) args [] pos) X.env = (do
      let ov <- eval e X.env
      standAt apos.atName
      let (f,first) <- holding [ov] (getMethod ov m pl)
      callWith pos f first (backTo pos (starEach args X.env)) (backToKw pos (keywordEach [] X.env)))) :
    wpAny (model X.prog X.w) X.A (eval (.Call (.Attribute e m apos) args [] pos) X.env) Q X.xe s := by
  refine PySem.W.methodCall_KW (pl := pl) (thn (he pins s σ H _ I h) fun u s1 ⟨x,H1,I1,rx,a,C,dx,fs,g,ex,ea,c,k,l,q⟩ => ?_) ht
  subst ex
  obtain rfl : u = Value.ref a := rx
  exact getmeth_ok I1 ea c k l (q s1 I1)
end
section
variable {X : Cx} {pins : List (Addr × Obj)} {σ : St} {H : Hp} {s : Shared} {A : Around} {E : Value -> Shared -> Prop} {Q : Value -> Shared -> Prop} {c : Value} {b : Bool}
inductive TyOf (K : PySem.W.Frag) (H : Hp) : V -> Value -> Prop where
  | non : TyOf K H .non (.type "NoneType")
  | bl (x : Bool) : TyOf K H (.bl x) (.type "bool")
  | int (i : Int) : TyOf K H (.int i) (.type "int")
  | str (x : Str) : TyOf K H (.str x) (.type "str")
  | flt (x : UInt64) : TyOf K H (.flt x) (.type "float")
  | lst {a : Addr} {xs : List V} (e : H a = some (.lst xs)) : TyOf K H (.ref a) (.type "list")
  | frz {a : Addr} {o : Obj} {xs : List V} (e : H a = some (.frz o (.lst xs))) : TyOf K H (.ref a) (.type "list")
  | tup {a : Addr} {xs : List V} (e : H a = some (.tup xs)) : TyOf K H (.ref a) (.type "tuple")
  | dK {a : Addr} {kvs : List (Key × V)} (e : H a = some (.dK kvs)) : TyOf K H (.ref a) (.type "dict")
  | dT {a : Addr} {kvs : List (List Key × V)} (e : H a = some (.dT kvs)) : TyOf K H (.ref a) (.type "dict")
  | ins {a C dx : Addr} {fs : List (Str × V)} (e : H a = some (.ins C dx fs)) (cl : Cls K C) (ha : PySem.W.findIn K (.ref C) "__class__" = some (some (.builtin "object.__class__")))
      (hn : PySem.W.specialIn K (.builtin "object.__class__") "__get__" = some (some (.builtin "getset_descriptor.__get__"))) (htk : PySem.W.takesIn K (.builtin "object.__class__") = some true)
      (hm : PySem.W.mroIn K C (.type "object") = some true) : TyOf K H (.ref a) (.ref C)
theorem isinst_ok {x : V} {u t : Value} (I : Inv X pins σ H s) (rx : RelV x u) (ty : TyOf X.K H x t) (e : PySem.W.kitOne X.K t c = some b) (h : ∀ tk,Q (.bool b) { s with toks := tk }) :
    wpAny (model X.prog X.w) A (call (.builtin "isinstance") [u,c]) Q E s := by
  cases ty with
  | non => cases (show u = Value.none from rx); exact PySem.W.kia_one PySem.W.kitx_none I.kIn True.intro e (fun z => nomatch z) h
  | bl y => cases (show u = Value.bool y from rx); exact PySem.W.kia_one PySem.W.kitx_bool I.kIn True.intro e (fun z => nomatch z) h
  | int i => obtain ⟨t,q⟩ := (show ∃ t,u = Value.int i t from rx); cases q; exact PySem.W.kia_one PySem.W.kitx_int I.kIn True.intro e (fun z => nomatch z) h
  | str y => obtain ⟨t,q⟩ := (show ∃ t,u = Value.str y t from rx); cases q; exact PySem.W.kia_one PySem.W.kitx_str I.kIn True.intro e (fun z => nomatch z) h
  | flt y => obtain ⟨t,q⟩ := (show ∃ t,u = Value.float y t from rx); cases q; exact PySem.W.kia_one PySem.W.kitx_float I.kIn True.intro e (fun z => nomatch z) h
  | @lst a xs ea =>
    cases (show u = Value.ref a from rx)
    obtain ⟨_,_,n,_,h1⟩ := (show ObjOk X.prog X.w H s.heap a (.lst xs) from I.hok a _ ea)
    exact PySem.W.kia_one PySem.W.kitx_list I.kIn ⟨_,h1,rfl⟩ e (fun z => nomatch z) h
  | @frz a ob xs ea =>
    cases (show u = Value.ref a from rx)
    obtain ⟨_,_,_,n,_,h1⟩ := (show ObjOk X.prog X.w H s.heap a (.frz ob (.lst xs)) from I.hok a _ ea)
    exact PySem.W.kia_one PySem.W.kitx_list I.kIn ⟨_,h1,rfl⟩ e (fun z => nomatch z) h
  | @tup a xs ea =>
    cases (show u = Value.ref a from rx)
    obtain ⟨_,_,_,p⟩ := (show ObjOk X.prog X.w H s.heap a (.tup xs) from I.hok a _ ea)
    obtain ⟨o,h1,h2,_⟩ := p
    exact PySem.W.kia_one PySem.W.kitx_tuple I.kIn ⟨o,h1,h2⟩ e (fun z => nomatch z) h
  | @dK a kvs ea =>
    cases (show u = Value.ref a from rx)
    obtain ⟨_,_,vs,_,p⟩ := (show ObjOk X.prog X.w H s.heap a (.dK kvs) from I.hok a _ ea)
    obtain ⟨o,es,ep,h1,h2,_⟩ := p
    exact PySem.W.kia_one PySem.W.kitx_dict I.kIn ⟨o,h1,h2.1⟩ e (fun z => nomatch z) h
  | @dT a kvs ea =>
    cases (show u = Value.ref a from rx)
    obtain ⟨_,_,xs,_,o,es,ep,h1,h2,_⟩ := (show ObjOk X.prog X.w H s.heap a (.dT kvs) from I.hok a _ ea)
    exact PySem.W.kia_one PySem.W.kitx_dict I.kIn ⟨o,h1,h2.1⟩ e (fun z => nomatch z) h
  | @ins a C dx fs ea cl ha hn htk hm =>
    cases (show u = Value.ref a from rx)
    obtain ⟨mA,O,_⟩ := ins_get I.hok ea
    obtain ⟨od,J,_⟩ := O.look
    exact PySem.W.kia_one (PySem.W.kitx_own (cl.get _) cl.hd ha hn htk hm) I.kIn J e (fun z => nomatch z) h
end
end L2
namespace L2
open PySem PySem.Spec PyProof.Rows
structure Room (k : Nat) (A : Around) : Prop where
  hd : A.handled = none
  dp : A.depth + 3 * k + 5 < recursionLimit
  un : A.units + 16 * k + 200 < cLine
theorem Room.mono {j k : Nat} {A : Around} (r : Room k A) (h : j <= k) : Room j A := ⟨r.hd,by have := r.dp; omega,by have := r.un; omega⟩
theorem Room.deeper {k : Nat} {A : Around} (r : Room (k + 1) A) (env : Env) : Room k (A.deeper env) :=
  ⟨r.hd,by have := r.dp; show A.depth + 1 + 3 * k + 5 < _; omega,by have := r.un; show A.units + 3 + 16 * k + 200 < _; omega⟩
theorem make_depth {A : Around} {C : Addr} {us : List Value} {kw : List (Str × Value)} : (A.under (.builtin "type.__call__" ⟨.ref C :: us,kw⟩)).depth = A.depth + 1 := by
  first | rfl | simp [Around.under,Code.weight,Code.isCreation,Code.isGuard,Code.isCaller,Code.frames,Code.isFrame,guardIds]
theorem make_units {A : Around} {C : Addr} {us : List Value} {kw : List (Str × Value)} : (A.under (.builtin "type.__call__" ⟨.ref C :: us,kw⟩)).units = A.units + 1 := by
  first | rfl | simp [Around.under,Code.cUnits,Code.frames,Code.isFrame]
theorem Room.make {k : Nat} {A : Around} (r : Room (k + 1) A) (C : Addr) (us : List Value) (kw : List (Str × Value)) : Room k (A.under (.builtin "type.__call__" ⟨.ref C :: us,kw⟩)) :=
  ⟨r.hd,by have := r.dp; rw [make_depth]; omega,by have := r.un; rw [make_units]; omega⟩
theorem Room.depth {k : Nat} {A : Around} (r : Room k A) : A.depth < recursionLimit := by have := r.dp; omega
theorem Room.units {k : Nat} {A : Around} (r : Room k A) : A.units + 64 < cLine := by have := r.un; omega
noncomputable def tNil : TA := fun _ H Q => Q [] H
noncomputable def tCons (ta : TE) (tr : TA) : TA := fun σ H Q => ta σ H fun x H1 => tr σ H1 fun xs H2 => Q (x :: xs) H2
section
variable {X : Cx} {e : Expr} {es : List Expr} {te : TE} {t : TA} {pos : Pos}
theorem pa_nil : PA X [] tNil := fun _ _ _ _ H Q I h => Calls.spliced_nil ⟨[],H,I,.nil,h⟩
theorem pa_cons (ha : PE X e te) (hr : PA X es t) (hs : starEach (e :: es) X.env = (false,eval e X.env) :: starEach es X.env := by rfl) : PA X (e :: es) (tCons te t) := by
  intro pos pins s σ H Q I h
  rw [hs]
  show wpAny _ _ (spliced ((false,eval e X.env) :: backTo pos (starEach es X.env))) _ _ s
  refine Calls.spliced_cons (thn (ha pins s σ H _ I h) fun u s1 ⟨x,H1,I1,r1,q1⟩ => ?_)
  exact thn (hr pos pins s1 σ H1 _ I1 q1) fun us s2 ⟨xs,H2,I2,r2,q2⟩ => ⟨x :: xs,H2,I2,.cons r1 r2,q2⟩
noncomputable def tTup (t : TA) : TE := fun σ H Q => t σ H fun xs H1 => xs.length <= sizeLine /\ ∀ p,H1 p = none -> Q (.ref p) (upd H1 p (.tup xs))
noncomputable def tLst (t : TA) : TE := fun σ H Q => t σ H fun xs H1 => xs.length <= sizeLine /\ ∀ p,H1 p = none -> Q (.ref p) (upd H1 p (.lst xs))
theorem pe_tup {x1} (h : PA X es t) : PE X (.Tuple es x1 pos) (tTup t) := by
  intro pins s σ H Q I hq
  refine wpAny_Tuple_spliced (thn (h pos pins s σ H _ I hq) fun us s1 ⟨xs,H1,I1,r,z,q⟩ => ⟨by rw [<- r.length]; exact z,?_⟩)
  have hf : H1 s1.heap.objs.size = none := I1.hok.fresh (Nat.le_refl _)
  refine ⟨.ref s1.heap.objs.size,upd H1 s1.heap.objs.size (.tup xs),I1.laid (t' := s1.toks) (fun b u e => Heap.get?_push_of_some _ e) (Nat.le_refl _) ?_,rfl,q _ hf⟩
  exact ⟨z,us,r,⟨_,Heap.get?_push_size _ rfl,rfl,_,rfl⟩⟩
theorem pe_lst (h : PA X es t) : PE X (.List es pos) (tLst t) := by
  intro pins s σ H Q I hq
  refine wpAny_List_spliced (thn (h pos pins s σ H _ I hq) fun us s1 ⟨xs,H1,I1,r,z,q⟩ => ⟨by rw [<- r.length]; exact z,?_⟩)
  have hf : H1 s1.heap.objs.size = none := I1.hok.fresh (Nat.le_refl _)
  refine ⟨.ref s1.heap.objs.size,upd H1 s1.heap.objs.size (.lst xs),I1.laid (t' := s1.toks) (fun b u e => Heap.get?_push_of_some _ e) (Nat.le_refl _) ?_,rfl,q _ hf⟩
  exact ⟨z,us,0,r,Heap.get?_push_size _ rfl⟩
end
noncomputable abbrev Sp := List V -> Hp -> VK -> XK -> Prop
noncomputable abbrev CXT := List Env -> Hp -> Shared -> XK -> Value -> Shared -> Prop
structure Env0 (P : Program) (w : World) (K : PySem.W.Frag) (mg : Str -> Option Value) (base : Heap) (A : Around) (outer : List Env) (s : Shared) (H : Hp) : Prop where
  frames : A.frames = some outer
  mod : Mod K mg base
  bs : ∀ b o,base.get? b = some o -> s.heap.get? b = some o /\ H b = none
  bsz : base.objs.size <= s.heap.objs.size
  funs : s.heap.FunFrames base outer
  frf : ∀ b ∈ frs outer,H b = none
  hok : HOk P w H s.heap
  bare : AllBare s.gens
noncomputable def CE (outer : List Env) (P : Program) (w : World) (H : Hp) (s : Shared) (Q : VK) (u : Value) (s' : Shared) : Prop :=
  ∃ v H',s'.os = s.os /\ AllBare s'.gens /\ Un (frs outer) [] H H' s.heap s'.heap /\ HOk P w H' s'.heap /\ RelV v u /\ Q v H'
noncomputable def CR (CX : CXT) (outer : List Env) (P : Program) (w : World) (H : Hp) (s : Shared) (Q : VK) (E : XK) (r : Result) (s' : Shared) : Prop :=
  match r with
  | .ok (.ret u) => CE outer P w H s Q u s'
  | .ok _ => False
  | .error e => CX outer H s E e s'
structure FnOk (P : Program) (w : World) (K : PySem.W.Frag) (mg : Str -> Option Value) (base : Heap) (CX : CXT) (k : Nat) (f : Addr) (fd : FuncData) (ps : List Str) (sp : Sp) : Prop where
  len : ∀ vs H Q E,sp vs H Q E -> vs.length = ps.length
  run : ∀ (A : Around) (outer : List Env) (s : Shared) (H : Hp) (args : Args) (us : List Value) (vs : List V) (Q : VK) (E : XK),Room k A -> Env0 P w K mg base A outer s H -> BindsTo s fd args (ps.zip us) -> Vals vs us -> sp vs H Q E ->
    codeAny (model P w) A (.call (.ref f) args) (CR CX outer P w H s Q E) s
theorem Env0.make {P : Program} {w : World} {K : PySem.W.Frag} {mg : Str -> Option Value} {base : Heap} {A : Around} {outer : List Env} {s : Shared} {H : Hp} (e : Env0 P w K mg base A outer s H) (C : Addr) (us : List Value) (kw : List (Str × Value)) :
    Env0 P w K mg base (A.under (.builtin "type.__call__" ⟨.ref C :: us,kw⟩)) outer s H := ⟨by first | exact e.frames | (simpa [Around.under,Code.envs,Code.isFrame,pushEnvs] using e.frames),e.mod,e.bs,e.bsz,e.funs,e.frf,e.hok,e.bare⟩
section
variable {X : Cx} {pins : List (Addr × Obj)} {σ : St} {H : Hp} {s s' : Shared}
theorem Inv.env0 (I : Inv X pins σ H s) : Env0 X.prog X.w X.K X.mg X.base X.A X.stack s H :=
  ⟨I.ok.frames,I.ok.mod,I.bs,Nat.le_trans I.ok.bsz I.sz,I.stack,I.stkFree,I.hok,I.bare⟩
theorem Inv.after {Q : VK} {u : Value} (I : Inv X pins σ H s) (h : CE X.stack X.prog X.w H s Q u s') : EP X pins σ Q u s' := by
  obtain ⟨v,H',os,bare,un,hok,r,q⟩ := h
  obtain ⟨hh,g,d,t,os'⟩ := s'
  obtain rfl : os' = s.os := os
  exact ⟨v,H',I.call (h' := hh) (g' := g) (d' := d) (t' := t) (ch := []) un hok bare (fun b z => absurd z (by simp)),r,q⟩
end
noncomputable def tCall (sp : Sp) (dvs : List V) (E : XK) (t : TA) : TE := fun σ H Q => t σ H fun vs H1 => sp (vs ++ dvs) H1 Q E
noncomputable def tMeth (C : Addr) (m : Str) (sp : Sp) (dvs : List V) (E : XK) (ta : TE) (t : TA) : TE := fun σ H Q => ta σ H fun x H1 => ∃ a dx fs,x = .ref a /\ H1 a = some (.ins C dx fs) /\ fs.lookup m = none /\
  t σ H1 fun vs H2 => sp (x :: (vs ++ dvs)) H2 Q E
noncomputable def tMake (C : Addr) (sp : Sp) (dvs : List V) (E : XK) (t : TA) : TE := fun σ H Q => t σ H fun vs H1 => ∀ x dx,H1 x = none -> H1 dx = none -> dx ≠ x ->
  sp (.ref x :: (vs ++ dvs)) (upd (upd H1 dx (.own x)) x (.ins C dx [])) (fun v H2 => v = .non /\ Q (.ref x) H2) E
noncomputable def Binds (K : PySem.W.Frag) (fd : FuncData) (ps : List Str) (ds : List Value) : Prop :=
  ∀ (s : Shared) (us : List Value),K.In s.heap -> (us ++ ds).length = ps.length -> BindsTo s fd ⟨us,[]⟩ (ps.zip (us ++ ds))
theorem Binds.all {K : PySem.W.Frag} {fd : FuncData} {ps : List Str} (h : ∀ us : List Value,us.length = ps.length -> bindArgs fd ⟨us,[]⟩ = pure (ps.zip us)) : Binds K fd ps [] := fun s us _ hl => by
  rw [List.append_nil] at hl ⊢
  exact .of_eq (h us hl)
noncomputable def Passes (CX : CXT) (X : Cx) (E : XK) : Prop := ∀ (pins : List (Addr × Obj)) (σ : St) (H : Hp) (s : Shared) (e : Value) (s' : Shared),Inv X pins σ H s -> CX X.stack H s E e s' -> X.xe e s'
section
variable {X : Cx} {CX : CXT} {k : Nat} {f C : Addr} {fd : FuncData} {ps : List Str} {sp : Sp} {dvs : List V} {ds : List Value} {E : XK} {x m : Str} {p pos apos : Pos} {e o : Expr} {es : List Expr} {ta : TE} {t : TA}
theorem run_fn {pins : List (Addr × Obj)} {σ : St} {H : Hp} {s : Shared} {Q : VK} {us : List Value} {vs : List V} (F : FnOk X.prog X.w X.K X.mg X.base CX k f fd ps sp) (hr : Room k X.A) (hb : Binds X.K fd ps ds) (hd : Vals dvs ds) (hx : Passes CX X E)
    (I : Inv X pins σ H s) (r : Vals vs us) (h : sp (vs ++ dvs) H Q E) : wpAny (model X.prog X.w) X.A (call (.ref f) us) (EP X pins σ Q) X.xe s := by
  have r2 : Vals (vs ++ dvs) (us ++ ds) := r.append hd
  have hl : (us ++ ds).length = ps.length := by rw [<- r2.length]; exact F.len _ _ _ _ h
  refine wpAny_call (codeAny_mono (F.run X.A X.stack s H ⟨us,[]⟩ (us ++ ds) (vs ++ dvs) Q E hr I.env0 (hb s us I.kIn hl) r2 h) fun r s' hq => ?_)
  cases r with
  | error e => exact hx pins σ H s e s' I hq
  | ok fl =>
    cases fl with
    | ret u => exact I.after hq
    | next => exact False.elim hq
    | brk => exact False.elim hq
    | cont => exact False.elim hq
theorem pe_call (F : FnOk X.prog X.w X.K X.mg X.base CX k f fd ps sp) (hr : Room k X.A) (hg : Gl X x) (hm : X.mg x = some (.ref f)) (hk : PySem.W.keepIn X.K (.ref f) = true) (hb : Binds X.K fd ps ds) (hd : Vals dvs ds) (hx : Passes CX X E)
    (ha : PA X (e :: es) t) (hdb : (x == ("__debug__" : Str)) = false := by decide) (he : starEach (e :: es) X.env = (false,eval e X.env) :: starEach es X.env := by rfl) (hpl : (backTo pos (starEach es X.env)).any (·.1) = false := by rfl) :
    PE X (.Call (.Name x p) (e :: es) [] pos) (tCall sp dvs E t) := by
  intro pins s σ H Q I h
  refine wpAny_Call_Name_kw (ld_glob I hg hm ?_ hdb)
  refine PySem.W.callWith_K (h₀ := X.base) I.ok.mod.kin hk (thn (ha pos pins s σ H _ I h) fun us s1 ⟨vs,H1,I1,r,q⟩ => ⟨I1.kIn,?_⟩) he hpl
  exact run_fn F hr hb hd hx I1 r q
theorem pe_meth {pl : Sem Bool} (he : PE X o ta) (c : Cls X.K C) (hm : Meth X.K C m f) (F : FnOk X.prog X.w X.K X.mg X.base CX k f fd ps sp) (hr : Room k X.A) (hb : Binds X.K fd ps ds) (hd : Vals dvs ds) (hx : Passes CX X E) (ha : PA X (e :: es) t)
    (hst : starEach (e :: es) X.env = (false,eval e X.env) :: starEach es X.env := by rfl) (hpl : (backTo pos (starEach es X.env)).any (·.1) = false := by rfl)
    (ht : eval (.Call (.Attribute o m apos) (e :: es) [] pos) X.env = (do
      let ov <- eval o X.env
      standAt apos.atName
      let (f,first) <- holding [ov] (getMethod ov m pl)
      callWith pos f first (backTo pos (starEach (e :: es) X.env)) (backToKw pos (keywordEach [] X.env))) := by rfl) :
    PE X (.Call (.Attribute o m apos) (e :: es) [] pos) (tMeth C m sp dvs E ta t) := by
  intro pins s σ H Q I h
  refine PySem.W.methodCall_KW (pl := pl) (thn (he pins s σ H _ I h) fun u s1 ⟨x,H1,I1,rx,a,dx,fs,ex,ea,l,q⟩ => ?_) ht
  subst ex
  obtain rfl : u = Value.ref a := rx
  refine getmeth_ok I1 ea c hm l ?_
  refine PySem.W.callWith_K (first := [.ref a]) (h₀ := X.base) I.ok.mod.kin hm.kp (thn (ha pos pins s1 σ H1 _ I1 q) fun us s2 ⟨vs,H2,I2,r,q2⟩ => ⟨I2.kIn,?_⟩) hst hpl
  exact run_fn (us := .ref a :: us) (vs := .ref a :: vs) F hr hb hd hx I2 (.cons rfl r) q2
theorem pe_meth0 {pl : Sem Bool} (he : PE X o ta) (c : Cls X.K C) (hm : Meth X.K C m f) (F : FnOk X.prog X.w X.K X.mg X.base CX k f fd ps sp) (hr : Room k X.A) (hb : Binds X.K fd ps ds) (hd : Vals dvs ds) (hx : Passes CX X E)
    (ht : eval (.Call (.Attribute o m apos) [] [] pos) X.env = (do
      let ov <- eval o X.env
      standAt apos.atName
      let (f,first) <- holding [ov] (getMethod ov m pl)
      callWith pos f first (backTo pos (starEach [] X.env)) (backToKw pos (keywordEach [] X.env))) := by rfl) :
    PE X (.Call (.Attribute o m apos) [] [] pos) (tMeth C m sp dvs E ta tNil) := by
  intro pins s σ H Q I h
  refine PySem.W.methodCall_KW (pl := pl) (thn (he pins s σ H _ I h) fun u s1 ⟨x,H1,I1,rx,a,dx,fs,ex,ea,l,q⟩ => ?_) ht
  subst ex
  obtain rfl : u = Value.ref a := rx
  refine getmeth_ok I1 ea c hm l ?_
  exact PySem.W.callWith_K0 (first := [.ref a]) I1.kIn hm.kp (run_fn (us := [.ref a]) (vs := [.ref a]) F hr hb hd hx I1 (.cons rfl .nil) q)
structure Mk (K : PySem.W.Frag) (C f : Addr) : Prop where
  makes : PySem.W.makesIn K C = true
  init : PySem.W.findIn K (.ref C) "__init__" = some (some (.ref f))
  fn : PySem.W.isFn K (.ref f) = true
  kp : PySem.W.keepIn K (.ref C) = true
theorem run_make {pins : List (Addr × Obj)} {σ : St} {H : Hp} {s : Shared} {Q : VK} {us : List Value} {vs : List V} (M : Mk X.K C f) (F : FnOk X.prog X.w X.K X.mg X.base CX k f fd ps sp) (hr : Room (k + 1) X.A) (hb : Binds X.K fd ps ds) (hd : Vals dvs ds)
    (hx : Passes CX X E) (I : Inv X pins σ H s) (r : Vals vs us)
    (h : ∀ x dx,H x = none -> H dx = none -> dx ≠ x -> sp (.ref x :: (vs ++ dvs)) (upd (upd H dx (.own x)) x (.ins C dx [])) (fun v H2 => v = .non /\ Q (.ref x) H2) E) :
    wpAny (model X.prog X.w) X.A (call (.ref C) us) (EP X pins σ Q) X.xe s := by
  have hq := h (s.heap.objs.size + 1) s.heap.objs.size (I.hok.fresh (Nat.le_succ _)) (I.hok.fresh (Nat.le_refl _)) (Nat.ne_of_lt (Nat.lt_succ_self _))
  have I2 := Inv.made (C := C) I
  have r2 : Vals (V.ref (s.heap.objs.size + 1) :: (vs ++ dvs)) (Value.ref (s.heap.objs.size + 1) :: (us ++ ds)) := .cons rfl (r.append hd)
  have hl : (Value.ref (s.heap.objs.size + 1) :: us ++ ds).length = ps.length := by
    have e := r2.length
    rw [F.len _ _ _ _ hq] at e
    exact e.symm
  refine wpAny_call (make_map (f := f) I.kIn M.makes M.init (beq_iff_eq.mp M.fn) (codeAny_mono (F.run _ X.stack _ _ ⟨Value.ref (s.heap.objs.size + 1) :: us,[]⟩ (Value.ref (s.heap.objs.size + 1) :: (us ++ ds)) _ _ E (hr.make C us [])
    (I2.env0.make C us []) (hb _ (Value.ref (s.heap.objs.size + 1) :: us) I2.kIn hl) r2 hq) fun r s' hq' => ?_))
  cases r with
  | error e => exact hx pins σ _ _ e s' I2 hq'
  | ok fl =>
    cases fl with
    | ret u =>
      obtain ⟨v,H',I3,rv,ev,q3⟩ := I2.after hq'
      subst ev
      exact ⟨rv,⟨V.ref (s.heap.objs.size + 1),H',I3,rfl,q3⟩⟩
    | next => exact False.elim hq'
    | brk => exact False.elim hq'
    | cont => exact False.elim hq'
theorem pe_make (M : Mk X.K C f) (F : FnOk X.prog X.w X.K X.mg X.base CX k f fd ps sp) (hr : Room (k + 1) X.A) (hg : Gl X x) (hm : X.mg x = some (.ref C)) (hb : Binds X.K fd ps ds) (hd : Vals dvs ds) (hx : Passes CX X E)
    (ha : PA X (e :: es) t) (hdb : (x == ("__debug__" : Str)) = false := by decide) (he : starEach (e :: es) X.env = (false,eval e X.env) :: starEach es X.env := by rfl) (hpl : (backTo pos (starEach es X.env)).any (·.1) = false := by rfl) :
    PE X (.Call (.Name x p) (e :: es) [] pos) (tMake C sp dvs E t) := by
  intro pins s σ H Q I h
  refine wpAny_Call_Name_kw (ld_glob I hg hm ?_ hdb)
  refine PySem.W.callWith_K (h₀ := X.base) I.ok.mod.kin M.kp (thn (ha pos pins s σ H _ I h) fun us s1 ⟨vs,H1,I1,r,q⟩ => ⟨I1.kIn,?_⟩) he hpl
  exact run_make M F hr hb hd hx I1 r q
theorem pe_make0 (M : Mk X.K C f) (F : FnOk X.prog X.w X.K X.mg X.base CX k f fd ps sp) (hr : Room (k + 1) X.A) (hg : Gl X x) (hm : X.mg x = some (.ref C)) (hb : Binds X.K fd ps ds) (hd : Vals dvs ds) (hx : Passes CX X E)
    (hdb : (x == ("__debug__" : Str)) = false := by decide) : PE X (.Call (.Name x p) [] [] pos) (tMake C sp dvs E tNil) := by
  intro pins s σ H Q I h
  refine wpAny_Call_Name_kw (ld_glob I hg hm ?_ hdb)
  exact PySem.W.callWith_K0 I.kIn M.kp (run_make (us := []) M F hr hb hd hx I .nil h)
end
section
variable {X : Cx} {CX : CXT} {k : Nat} {f C : Addr} {fd : FuncData} {ps ks : List Str} {sp : Sp} {E : XK} {x m : Str} {p pos apos kpos : Pos} {e o : Expr} {es : List Expr} {kws : List Keyword} {te ta : TE} {t tk : TA} {nm : Option Str}
structure KBinds (K : PySem.W.Frag) (fd : FuncData) (ps ks : List Str) (g : List Value -> List Value -> List Value) (gV : List V -> List V -> List V) : Prop where
  to : ∀ (s : Shared) (us ws : List Value),K.In s.heap -> (g us ws).length = ps.length -> BindsTo s fd ⟨us,ks.zip ws⟩ (ps.zip (g us ws))
  rel : ∀ {vs : List V} {us : List Value} {zs : List V} {ws : List Value},Vals vs us -> Vals zs ws -> Vals (gV vs zs) (g us ws)
variable {g : List Value -> List Value -> List Value} {gV : List V -> List V -> List V}
end
structure FnScope (N P : List Str) (sc : Scope) : Prop where
  kind : sc.kind = .function
  co : sc.isCoroutine = false
  gen : sc.isGenerator = false
  nd : N.Nodup
  pre : N.take P.length = P
  par : ∀ x ∈ P,sc.names.lookup x = some .local \/ sc.names.lookup x = some .cell
  nofree : ∀ y ∈ sc.names,y.2 ≠ .free
theorem bindL_out {kindOf : Str -> Option NameKind} {x : Str} : ∀ {binds : List (Str × Value)} {m : Str -> Option Value},(∀ v,(x,v) ∉ binds) -> bindL kindOf binds m x = m x
  | [],_,_ => rfl
  | (n,v) :: r,m,h => by
    unfold bindL
    rw [bindL_out fun w hw => h w (List.mem_cons_of_mem _ hw)]
    split
    · have : x ≠ n := by rintro rfl; exact h v List.mem_cons_self
      simp [this]
    · rfl
theorem bindC_out {kindOf : Str -> Option NameKind} {x : Str} : ∀ {binds : List (Str × Value)} {m : Str -> Option Value},(∀ v,(x,v) ∉ binds) -> bindC kindOf binds m x = m x
  | [],_,_ => rfl
  | (n,v) :: r,m,h => by
    unfold bindC
    rw [bindC_out fun w hw => h w (List.mem_cons_of_mem _ hw)]
    split
    · rfl
    · have : x ≠ n := by rintro rfl; exact h v List.mem_cons_self
      simp [this]
theorem bindL_get {kindOf : Str -> Option NameKind} {x : Str} {v : Value} : ∀ {P : List Str} {vs : List Value} {i : Nat} {m : Str -> Option Value},P.Nodup -> P[i]? = some x -> vs[i]? = some v -> kindOf x = some .local ->
    bindL kindOf (P.zip vs) m x = some v
  | [],_,_,_,_,h,_,_ => by simp at h
  | _ :: _,[],_,_,_,_,h,_ => by simp at h
  | p :: P,w :: vs,0,m,nd,h1,h2,hk => by
    simp at h1 h2; subst h1; subst h2
    show bindL kindOf ((p,w) :: P.zip vs) m p = _
    unfold bindL
    rw [bindL_out fun v hv => (List.nodup_cons.mp nd).1 (List.of_mem_zip hv).1,if_pos hk]
    simp
  | p :: P,w :: vs,i + 1,m,nd,h1,h2,hk => by
    show bindL kindOf ((p,w) :: P.zip vs) m x = _
    unfold bindL
    exact bindL_get (i := i) (List.nodup_cons.mp nd).2 (by simpa using h1) (by simpa using h2) hk
theorem bindC_get {kindOf : Str -> Option NameKind} {x : Str} {v : Value} : ∀ {P : List Str} {vs : List Value} {i : Nat} {m : Str -> Option Value},P.Nodup -> P[i]? = some x -> vs[i]? = some v -> kindOf x ≠ some .local ->
    bindC kindOf (P.zip vs) m x = some v
  | [],_,_,_,_,h,_,_ => by simp at h
  | _ :: _,[],_,_,_,_,h,_ => by simp at h
  | p :: P,w :: vs,0,m,nd,h1,h2,hk => by
    simp at h1 h2; subst h1; subst h2
    show bindC kindOf ((p,w) :: P.zip vs) m p = _
    unfold bindC
    rw [bindC_out fun v hv => (List.nodup_cons.mp nd).1 (List.of_mem_zip hv).1,if_neg hk]
    simp
  | p :: P,w :: vs,i + 1,m,nd,h1,h2,hk => by
    show bindC kindOf ((p,w) :: P.zip vs) m x = _
    unfold bindC
    exact bindC_get (i := i) (List.nodup_cons.mp nd).2 (by simpa using h1) (by simpa using h2) hk
noncomputable def start (N : List Str) (vs : List V) : St := vs.map some ++ List.replicate (N.length - vs.length) none
noncomputable def cxOf (CX : CXT) (P : Program) (w : World) (K : PySem.W.Frag) (mg : Str -> Option Value) (base : Heap) (N : List Str) (qual : Str) (scope : Scope) (f : Addr) (cd : Value) (A : Around) (outer : List Env) (s : Shared) (H : Hp) (E : XK) : Cx where
  prog := P
  w := w
  K := K
  mg := mg
  base := base
  A := A.deeper (envOfC qual scope s.heap.objs.size f cd)
  N := N
  s_0 := s
  H_0 := H
  env := envOfC qual scope s.heap.objs.size f cd
  outer := outer
  stack := envOfC qual scope s.heap.objs.size f cd :: outer
  ex := []
  calm := true
  fn := fun _ => true
  pn := []
  xe := fun e s' => wpAny (model P w) (A.deeper (envOfC qual scope s.heap.objs.size f cd)) (leaving (envOfC qual scope s.heap.objs.size f cd) e) (fun _ s'' => CX outer H s E e s'') (fun e' s'' => CX outer H s E e' s'') s'
theorem cell_has {sc : Scope} {n : Nat} {x : Str} (h : sc.names.lookup x = some .cell) : ∃ c,(cellsFrom n sc.names []).lookup x = some c := by
  have q := PySem.W.cellsFrom_some sc.names n [] (.inl h)
  exact Option.isSome_iff_exists.mp q
theorem inv_start {CX : CXT} {P : Program} {w : World} {K : PySem.W.Frag} {mg : Str -> Option Value} {base : Heap} {N ps : List Str} {qual : Str} {scope : Scope} {f : Addr} {cd : Value} {A : Around} {outer : List Env} {s s1 : Shared} {H : Hp} {E : XK} {us : List Value} {vs : List V}
    (S : FnScope N ps scope) (hd : A.handled = none) (e0 : Env0 P w K mg base A outer s H) (hl : vs.length = ps.length) (r : Vals vs us)
    (x : InCallC s s.heap.objs.size (bindL (envOfC qual scope s.heap.objs.size f cd).kindOf (ps.zip us) fun _ => none) (cellsFrom (s.heap.objs.size + 1) scope.names []) (bindC (envOfC qual scope s.heap.objs.size f cd).kindOf (ps.zip us) fun _ => none) s1) :
    Inv (cxOf CX P w K mg base N qual scope f cd A outer s H E) [] (start N vs) H s1 := by
  have hpl : ps.length <= N.length := by have := congrArg List.length S.pre; rw [List.length_take] at this; omega
  obtain ⟨h1,tk,rfl,hk⟩ := x.done
  have noA : ∀ b : Addr,b ∉ (cxOf CX P w K mg base N qual scope f cd A outer s H E).ex := fun b z => absurd (show b ∈ ([] : List Addr) from z) (by simp)
  refine ⟨⟨e0.mod,S.kind,rfl,rfl,Nat.le_refl _,fun y z c h1 h2 => ?_,fun y hy => ?_,fun y c _ h => ?_,fun _ => hd,Around.frames_deeper e0.frames,.inr ⟨rfl,rfl⟩,fun b z => absurd z (noA b),e0.bs,e0.bsz,fun b _ _ => noA b,fun b z => absurd z (noA b),e0.funs,e0.frf⟩,
    rfl,e0.bare,Un.kept hk,⟨_,x.toInCall.ns,fun i y v h1 h2 h3 => ?_⟩,fun y c h => ⟨_,x.cell y c h⟩,e0.hok.fresh (Nat.le_refl _),fun y c h => ?_,fun p hp => absurd (show p ∈ ([] : List (Addr × Obj)) from hp) (by simp),e0.hok.kept hk,?_⟩
  · exact name_of_addr x.apart (PySem.mem_of_lookup h1) (PySem.mem_of_lookup h2)
  · have hy : scope.names.lookup y = some .cell \/ scope.names.lookup y = some .free := hy
    rcases hy with hy | hy
    · exact cell_has hy
    · exact absurd rfl (S.nofree _ (PySem.mem_of_lookup hy))
  · exact Nat.le_of_lt (x.above y c (PySem.mem_of_lookup h))
  · have hi : i < vs.length := by
      unfold start at h2
      by_cases hi : i < vs.length
      · exact hi
      · rw [List.getElem?_append_right (by simpa using hi)] at h2
        rw [List.getElem?_replicate] at h2
        split at h2 <;> cases h2
    have ha : vs[i]? = some v := by
      unfold start at h2
      rw [List.getElem?_append_left (by simpa using hi),List.getElem?_map] at h2
      cases e : vs[i]? with
      | none => rw [e] at h2; cases h2
      | some a => rw [e] at h2; cases h2; rfl
    obtain ⟨u,hu,rv⟩ := r.get ha
    have hp : ps[i]? = some y := by
      rw [<- S.pre,List.getElem?_take_of_lt (by omega)]; exact h1
    have ndP : ps.Nodup := by rw [<- S.pre]; exact S.nd.sublist (List.take_sublist _ _)
    refine ⟨u,rv,?_⟩
    rcases S.par y (List.mem_of_getElem? hp) with k | k
    · exact .inl ⟨k,bindL_get ndP hp hu k⟩
    · obtain ⟨c,e⟩ := cell_has (n := s.heap.objs.size + 1) k
      refine .inr ⟨.inl k,c,e,?_⟩
      have q := x.cell y c e
      rw [bindC_get ndP hp hu (by show scope.names.lookup y ≠ _; rw [k]; decide)] at q
      exact q
  · exact e0.hok.fresh (Nat.le_of_lt (x.above y c (PySem.mem_of_lookup h)))
  · unfold start
    show _ = N.length
    rw [List.length_append,List.length_map,List.length_replicate]
    omega
theorem fn_of {CX : CXT} {P : Program} {w : World} {K : PySem.W.Frag} {mg : Str -> Option Value} {base : Heap} {k : Nat} {f : Addr} {name qual : Str} {params : Arguments} {body : List Stmt} {scope : Scope} {dV kV doc pm cdv ct oc : Value} {an od : Option Addr}
    {osl : Array (Option Value)} {N ps : List Str} {sp : Sp} (lk : K.lookup f = some ⟨oc,od,.func (PySem.W.fnOf name qual params body scope dV kV doc pm an cdv ct),osl⟩) (hcd : PySem.W.codeIn K cdv qual = true) (S : FnScope N ps scope)
    (len : ∀ vs H Q E,sp vs H Q E -> vs.length = ps.length)
    (hbody : ∀ (A : Around) (outer : List Env) (s : Shared) (H : Hp) (vs : List V) (Q : VK) (E : XK),Room k (A.deeper (envOfC qual scope s.heap.objs.size f cdv)) -> sp vs H Q E ->
      ∃ t,PSs (cxOf CX P w K mg base N qual scope f cdv A outer s H E) body t /\ t { nx := fun _ H' => Q .non H',rt := Q } (start N vs) H) :
    FnOk P w K mg base CX (k + 1) f (PySem.W.fnOf name qual params body scope dV kV doc pm an cdv ct) ps sp := by
  refine ⟨len,fun A outer s H args us vs Q E hr e0 hb r hsp => ?_⟩
  have hl := len _ _ _ _ hsp
  have KX : K.In s.heap := e0.mod.kin.keeps fun b o e => (e0.bs b o e).1
  have lim : s.heap.NoLimit := e0.mod.nolimit.keeps fun b o e => (e0.bs b o e).1
  have hkind : ∀ y ∈ ps.zip us,scope.names.lookup y.1 = some .local \/ (scope.names.lookup y.1 = some .cell /\ ((cellsFrom (s.heap.objs.size + 1) scope.names []).lookup y.1).isSome = true) := fun ⟨n,v⟩ hy => by
    rcases S.par n (List.of_mem_zip hy).1 with q | q
    · exact .inl q
    · exact .inr ⟨q,PySem.W.cellsFrom_some _ _ _ (.inl q)⟩
  refine codeAny_call_function hr.depth (KX _ _ lk) rfl S.co S.gen rfl (PySem.W.codeRec_of KX hcd) (hb _ _ _ _ ?_)
  refine wpAny_newFunctionEnv_cells S.kind hkind fun env he s1 x => ?_
  subst he
  refine ⟨lim.keeps x.toInCall.keep,codeAny_func ?_⟩
  obtain ⟨t,ht,hq⟩ := hbody A outer s H vs Q E (hr.deeper _) hsp
  have I : Inv (cxOf CX P w K mg base N qual scope f cdv A outer s H E) [] (start N vs) H s1 := inv_start S hr.hd e0 hl r x
  refine wpAny_mono (ht [] s1 (start N vs) H _ I hq) (fun fl s' hs => ?_) fun e s' hs => hs
  have fin : ∀ {σ' : St} {H' : Hp} {v : V} {u : Value},Inv (cxOf CX P w K mg base N qual scope f cdv A outer s H E) [] σ' H' s' -> RelV v u -> Q v H' -> CE outer P w H s Q u s' :=
    fun {σ' H' v u} J rv q => ⟨v,H',J.os,J.bare,J.base,J.hok,rv,q⟩
  cases fl with
  | ret u =>
    obtain ⟨v,σ',H',J,rv,q⟩ := hs
    exact fin J rv q
  | next =>
    obtain ⟨σ',H',J,q⟩ := hs
    exact fin (v := V.non) (u := Value.none) J rfl q
  | brk =>
    obtain ⟨_,_,_,q⟩ := hs
    exact False.elim q
  | cont =>
    obtain ⟨_,_,_,q⟩ := hs
    exact False.elim q
end L2
namespace L2
open PySem PySem.Spec PyProof.Rows
section
variable {X : Cx} {x : Str} {p pos : Pos} {e : Expr} {es : List Expr} {t : TA} {id T : String} {r : List V -> Hp -> VK -> Prop}
noncomputable def tCB (r : List V -> Hp -> VK -> Prop) (t : TA) : TE := fun σ H Q => t σ H fun vs H1 => r vs H1 Q
theorem pe_callB (hc : CallR X (.builtin id) r) (hg : Gl X x) (hm : X.mg x = none) (hv : bootBuiltins x = some (.builtin id)) (ha : PA X (e :: es) t) (hn : x ≠ "__name__" := by decide) (hdb : (x == ("__debug__" : Str)) = false := by decide)
    (he : starEach (e :: es) X.env = (false,eval e X.env) :: starEach es X.env := by rfl) (hpl : (backTo pos (starEach es X.env)).any (·.1) = false := by rfl) : PE X (.Call (.Name x p) (e :: es) [] pos) (tCB r t) := by
  intro pins s σ H Q I h
  refine wpAny_Call_Name_kw (ld_blt I hg hm hv ?_ hn hdb)
  exact PyProof.Rows.callWith_builtin1 (thn (ha pos pins s σ H _ I h) fun us s1 ⟨vs,H1,I1,r1,q1⟩ => hc pins s1 σ H1 vs us Q I1 r1 q1) he hpl
theorem pe_callTy (hc : CallR X (.type T) r) (hg : Gl X x) (hm : X.mg x = none) (hv : bootBuiltins x = some (.type T)) (ha : PA X (e :: es) t) (hn : x ≠ "__name__" := by decide) (hdb : (x == ("__debug__" : Str)) = false := by decide)
    (he : starEach (e :: es) X.env = (false,eval e X.env) :: starEach es X.env := by rfl) (hpl : (backTo pos (starEach es X.env)).any (·.1) = false := by rfl) : PE X (.Call (.Name x p) (e :: es) [] pos) (tCB r t) := by
  intro pins s σ H Q I h
  refine wpAny_Call_Name_kw (ld_blt I hg hm hv ?_ hn hdb)
  exact PyProof.Rows.callWith_type1 (thn (ha pos pins s σ H _ I h) fun us s1 ⟨vs,H1,I1,r1,q1⟩ => hc pins s1 σ H1 vs us Q I1 r1 q1) he hpl
end
end L2
namespace HT
open PySem PyProof.Rows
section
open PySem.SeqAt
open PySem.AutoSeq1 (wpAny_loadPart')
open PySem.MeetsSeq PySem.MeetsSeq2 PySem.MeetsSeq3
end
section
variable {prog : Program} {w : World} {A : Around} {E : Value -> Shared -> Prop} {s : Shared}
noncomputable def sIx (n d : Nat) : Option Int -> Nat
  | none => d
  | some v => if v < 0 then (v + (n : Int)).toNat else min v.toNat n
theorem sIx_nat (n d k : Nat) : sIx n d (some (k : Int)) = min k n := by
  show (if (k : Int) < 0 then ((k : Int) + (n : Int)).toNat else min (k : Int).toNat n) = min k n
  rw [if_neg (by omega),Int.toNat_natCast]
end
end HT
namespace L2
open PySem PySem.Spec PyProof.Rows
noncomputable abbrev TO := St -> Hp -> (Option Int -> Hp -> Prop) -> Prop
noncomputable def PO (X : Cx) (e : Option Expr) (t : TO) : Prop :=
  ∀ (pins : List (Addr × Obj)) (s : Shared) (σ : St) (H : Hp) (Q : Option Int -> Hp -> Prop),Inv X pins σ H s -> t σ H Q ->
    wpAny (model X.prog X.w) X.A (evalPart e X.env) (fun u s' => ∃ o H',Inv X pins σ H' s' /\ IsPart u o /\ Q o H') X.xe s
noncomputable def tPart (t : TE) : TO := fun σ H Q => t σ H fun x H1 => ∃ i,x = .int i /\ Q (some i) H1
section
variable {X : Cx} {e : Expr} {te : TE} {lo hi : Option Expr} {tl th : TO} {pos p2 : Pos}
theorem po_some (h : PE X e te) : PO X (some e) (tPart te) := by
  intro pins s σ H Q I hw
  rw [evalPart_some]
  refine thn (h pins s σ H _ I hw) fun u s1 ⟨x,H1,I1,r1,q1⟩ => ?_
  obtain ⟨i,rfl,q⟩ := q1
  obtain ⟨t,rfl⟩ := r1
  exact ⟨some i,H1,I1,.int i t,q⟩
noncomputable def SlR (X : Cx) (r : V -> Option Int -> Option Int -> Hp -> VK -> Prop) : Prop :=
  ∀ (pins : List (Addr × Obj)) (s : Shared) (σ : St) (H : Hp) (x : V) (v vl vu : Value) (lo hi : Option Int) (sl : Addr) (Q : VK),Inv X pins σ H s -> RelV x v -> s.heap.IsSliceOf sl vl vu .none -> IsPart vl lo -> IsPart vu hi -> r x lo hi H Q ->
    ∃ T id,typeLookup (.type T) "__getitem__" = pure (some (.builtin id)) /\ s.TypeIs v T /\ wpAny (model X.prog X.w) X.A (getItem v (.ref sl)) (EP X pins σ Q) X.xe s
noncomputable def tSl (r : V -> Option Int -> Option Int -> Hp -> VK -> Prop) (te : TE) (tl th : TO) : TE := fun σ H Q => te σ H fun x H1 => tl σ H1 fun l H2 => th σ H2 fun u H3 => r x l u H3 Q
theorem pe_slice {r : V -> Option Int -> Option Int -> Hp -> VK -> Prop} (hr : SlR X r) (he : PE X e te) (hl : PO X lo tl) (hu : PO X hi th) : PE X (.Subscript e (.Slice lo hi none p2) pos) (tSl r te tl th) := by
  intro pins s σ H Q I h
  refine Subscript_ (thn (he pins s σ H _ I h) fun v s1 ⟨x,H1,I1,r1,q1⟩ => ?_)
  refine wpAny_Slice (thn (hl pins s1 σ H1 _ I1 q1) fun vl s2 ⟨l,H2,I2,pl,q2⟩ => thn (hu pins s2 σ H2 _ I2 q2) fun vu s3 ⟨u,H3,I3,pu,q3⟩ => ?_)
  rw [evalPart_none]
  refine wpAny_pure ?_
  have I4 : Inv X pins σ H3 { s3 with heap := s3.heap.push { cls := .type "slice",data := .fields #[vl,vu,.none] } } := I3.kept (t' := s3.toks) fun b ob q => Heap.get?_push_of_some _ q
  obtain ⟨T,id,hT,ht,hg⟩ := hr pins { s3 with heap := s3.heap.push { cls := .type "slice",data := .fields #[vl,vu,.none] } } σ H3 x v vl vu l u s3.heap.objs.size Q I4 r1 (Heap.IsSliceOf.new ..) pl pu q3
  show wpAny (model X.prog X.w) X.A (subscriptTail e (.Slice lo hi none p2) v (.ref s3.heap.objs.size)) (EP X pins σ Q) X.xe { s3 with heap := s3.heap.push { cls := .type "slice",data := .fields #[vl,vu,.none] } }
  exact tail_any (ops := [.ref s3.heap.objs.size,v]) ht hT hg (by with_unfolding_all rfl)
noncomputable def cutV (xs : List V) (lo hi : Option Int) : List V := (xs.drop (HT.sIx xs.length 0 lo)).take (HT.sIx xs.length xs.length hi - HT.sIx xs.length 0 lo)
theorem cutV_length (xs : List V) (lo hi : Option Int) : (cutV xs lo hi).length <= xs.length := by
  unfold cutV
  rw [List.length_take,List.length_drop]
  omega
end
end L2
namespace L2
open PySem PySem.Spec PyProof.Rows
noncomputable def ixN (n : Nat) (i : Int) : Option Nat := if 0 <= i then (if i < n then some i.toNat else none) else if -(n : Int) <= i then some (i + n).toNat else none
noncomputable def atI {α : Type} (xs : List α) (i : Int) : Option α := (ixN xs.length i).bind fun j => xs[j]?
theorem ixN_seq {n : Nat} {i : Int} {j : Nat} (h : ixN n i = some j) : seqIndex? i n = some j /\ j < n /\ -(n : Int) <= i /\ i < n := by
  unfold ixN at h
  by_cases h0 : 0 <= i
  · rw [if_pos h0] at h
    by_cases h1 : i < n
    · rw [if_pos h1] at h
      have e : i.toNat = j := Option.some.inj h
      exact ⟨by rw [seqIndex_of h0 h1,e],by omega,by omega,h1⟩
    · rw [if_neg h1] at h; cases h
  · rw [if_neg h0] at h
    by_cases h1 : -(n : Int) <= i
    · rw [if_pos h1] at h
      have e : (i + n).toNat = j := Option.some.inj h
      exact ⟨by rw [seqIndex_neg (by omega) h1,e],by omega,h1,by omega⟩
    · rw [if_neg h1] at h; cases h
theorem atI_get {α : Type} {xs : List α} {i : Int} {v : α} (h : atI xs i = some v) : ∃ j,seqIndex? i xs.length = some j /\ xs[j]? = some v /\ j < xs.length /\ -(xs.length : Int) <= i /\ i < xs.length := by
  unfold atI at h
  cases e : ixN xs.length i with
  | none => rw [e] at h; cases h
  | some j =>
    rw [e] at h
    obtain ⟨h1,h2,h3,h4⟩ := ixN_seq e
    exact ⟨j,h1,h,h2,h3,h4⟩
theorem atI_nat {α : Type} {xs : List α} {j : Nat} {v : α} (h : xs[j]? = some v) : atI xs (j : Int) = some v := by
  have hj : j < xs.length := (List.getElem?_eq_some_iff.mp h).1
  have e : ixN xs.length (j : Int) = some j := by
    unfold ixN
    rw [if_pos (by omega),if_pos (by omega)]; simp
  unfold atI; rw [e]; exact h
theorem atI_last {α : Type} (xs : List α) (v : α) : atI (xs ++ [v]) (-1) = some v := by
  have hl : (xs ++ [v]).length = xs.length + 1 := by simp
  have e : ixN (xs ++ [v]).length (-1) = some xs.length := by
    unfold ixN
    rw [hl,if_neg (by decide),if_pos (by omega)]
    congr 1
    omega
  unfold atI
  rw [e]
  show (xs ++ [v])[xs.length]? = some v
  simp
noncomputable def PlainIx (b : Expr) : Prop := ∀ o i,subscripted b false o i = operate [o,i] (getItem o i)
noncomputable def IxR (X : Cx) (r : R2) : Prop :=
  ∀ (value slice : Expr) (pins : List (Addr × Obj)) (s : Shared) (σ : St) (H : Hp) (x y : V) (v u : Value) (Q : VK),Inv X pins σ H s -> RelV x v -> RelV y u -> r x y H Q ->
    subscripted slice false v u = operate [v,u] (getItem v u) -> wpAny (model X.prog X.w) X.A (subscriptTail value slice v u) (EP X pins σ Q) X.xe s
noncomputable def MtR (X : Cx) (id : String) (r : V -> List V -> Hp -> VK -> Prop) : Prop :=
  ∀ (pins : List (Addr × Obj)) (s : Shared) (σ : St) (H : Hp) (x : V) (xs : List V) (v : Value) (us : List Value) (Q : VK),Inv X pins σ H s -> RelV x v -> Vals xs us -> r x xs H Q ->
    wpAny (model X.prog X.w) X.A (call (.builtin id) (v :: us)) (EP X pins σ Q) X.xe s
section
variable {X : Cx} {a b : Expr} {ta tb : TE} {pos : Pos}
theorem IxR.or {r r' : R2} (h : IxR X r) (h' : IxR X r') : IxR X (fun x y H Q => r x y H Q \/ r' x y H Q) := by
  intro value slice pins s σ H x y v u Q I rx ry q hs
  rcases q with q | q
  · exact h value slice pins s σ H x y v u Q I rx ry q hs
  · exact h' value slice pins s σ H x y v u Q I rx ry q hs
theorem pe_ix {r : R2} (hr : IxR X r) (ha : PE X a ta) (hb : PE X b tb) (hs : PlainIx b) : PE X (.Subscript a b pos) (tOp r ta tb) := by
  intro pins s σ H Q I h
  exact Subscript_ (binT ha hb I h fun v u s2 x y H2 I2 rx ry q => hr a b pins s2 σ H2 x y v u Q I2 rx ry q (hs _ _))
noncomputable def rIxL (K : PySem.W.Frag) : R2 := fun x y H Q => ∃ p xs i v,x = .ref p /\ y = .int i /\ SqL K H p xs /\ atI xs i = some v /\ Q v H
noncomputable def rIxT (K : PySem.W.Frag) : R2 := fun x y H Q => ∃ p xs i v,x = .ref p /\ y = .int i /\ SqT K H p xs /\ atI xs i = some v /\ Q v H
noncomputable def rIxS : R2 := fun x y H Q => ∃ z i c,x = .str z /\ y = .int i /\ z.length <= sizeLine /\ atI z.cps.toList i = some c /\ Q (.str ⟨#[c]⟩) H
theorem ix_list : IxR X (rIxL X.K) := by
  intro value slice pins s σ H x y v u Q I rx ry h hs
  obtain ⟨p,xs,i,z,rfl,rfl,hq,he,q⟩ := h
  cases rx
  obtain ⟨t,rfl⟩ := ry
  obtain ⟨its,r,pl,hz⟩ := I.list hq
  obtain ⟨j,h1,h2,h3,h4,h5⟩ := atI_get he
  obtain ⟨w,ew,rw'⟩ := r.get h2
  have hl := r.length
  have hn := line63
  have fin : EP X pins σ Q w s := ⟨z,H,I,rw',q⟩
  by_cases h0 : 0 <= i
  · have hj : i.toNat = j := by
      rw [seqIndex_of h0 h5] at h1
      exact Option.some.inj h1
    exact item_listR pl.isList h0 (by omega) (by rw [hj]; simpa using ew) fin hs
  · have hj : (i + (its.toArray.size : Int)).toNat = j := by
      rw [seqIndex_neg (by omega) h4] at h1
      rw [List.size_toArray,<- hl]
      exact Option.some.inj h1
    exact subscriptTail_builtinR (x := w) pl.isList.typeIs slot_list_getitem.lookup
      (wpAny_getItem_list_neg (Q := fun r s' => r = w /\ EP X pins σ Q r s') pl.isList (by omega) (by rw [List.size_toArray] <;> omega) (by omega) (by rw [hj]; simpa using ew) ⟨rfl,fin⟩) hs
theorem ix_tup : IxR X (rIxT X.K) := by
  intro value slice pins s σ H x y v u Q I rx ry h hs
  obtain ⟨p,xs,i,z,rfl,rfl,hq,he,q⟩ := h
  cases rx
  obtain ⟨t,rfl⟩ := ry
  obtain ⟨its,r,pl,hz⟩ := I.tuple hq
  obtain ⟨j,h1,h2,h3,h4,h5⟩ := atI_get he
  obtain ⟨w,ew,rw'⟩ := r.get h2
  have hl := r.length
  have hn := line63
  have fin : EP X pins σ Q w s := ⟨z,H,I,rw',q⟩
  exact subscriptTail_builtinR (x := w) pl.typeIs slot_tuple_getitem.lookup
    (getItem_tuple (j := j) (Q := fun r s' => r = w /\ EP X pins σ Q r s') pl (by omega) (by omega) (by rw [List.size_toArray,<- hl]; exact h1) (by simpa using ew) ⟨rfl,fin⟩) hs
theorem ix_str : IxR X rIxS := by
  intro value slice pins s σ H x y v u Q I rx ry h hs
  obtain ⟨z,i,c,rfl,rfl,hz,he,q⟩ := h
  obtain ⟨t,rfl⟩ := rx
  obtain ⟨t',rfl⟩ := ry
  obtain ⟨j,h1,h2,h3,h4,h5⟩ := atI_get he
  have hl : z.cps.toList.length = z.length := by simp [Str.length]
  rw [hl] at h1 h4 h5
  have hn := line63
  exact tail_any (typeIs_str s z t) slot_str_getitem.lookup (getItem_str (c := c) (by
    have e1 : decide (i < -(2 ^ 63 : Int)) = false := decide_eq_false (by omega)
    have e2 : decide (i >= 2 ^ 63) = false := decide_eq_false (by omega)
    rw [e1,e2,Bool.or_false]) (by rw [h1]; simpa using h2) ⟨.str ⟨#[c]⟩,H,I.tok _,⟨_,rfl⟩,q⟩) hs
noncomputable def rIx (K : PySem.W.Frag) : R2 := fun x y H Q => rIxL K x y H Q \/ rIxT K x y H Q \/ rIxS x y H Q
theorem ix_seq : IxR X (rIx X.K) := ix_list.or (ix_tup.or ix_str)
theorem slice_bounds (lo hi : Option Int) (n : Nat) : (sliceBounds lo hi none n).1 = ((HT.sIx n 0 lo : Nat) : Int) /\ (sliceBounds lo hi none n).2.1 = ((HT.sIx n n hi : Nat) : Int) /\ (sliceBounds lo hi none n).2.2 = 1 := by
  refine ⟨?_,?_,rfl⟩
  · cases lo with
    | none => simp [sliceBounds,HT.sIx]
    | some i =>
      simp only [sliceBounds,HT.sIx,Option.getD_none,show (1 : Int) > 0 by decide,if_true]
      by_cases h : i < 0
      · simp only [h,if_true] <;> omega
      · simp only [h,if_false] <;> omega
  · cases hi with
    | none => simp [sliceBounds,HT.sIx]
    | some i =>
      simp only [sliceBounds,HT.sIx,Option.getD_none,show (1 : Int) > 0 by decide,if_true]
      by_cases h : i < 0
      · simp only [h,if_true] <;> omega
      · simp only [h,if_false] <;> omega
theorem slicePick_cut (its : List Value) (lo hi : Option Int) : slicePick its.toArray lo hi none = ((its.drop (HT.sIx its.length 0 lo)).take (HT.sIx its.length its.length hi - HT.sIx its.length 0 lo)).toArray := by
  obtain ⟨h1,h2,h3⟩ := slice_bounds lo hi its.toArray.size
  unfold slicePick
  rw [h1,h2,h3]
  simp only [sliceRange_one,pick_run,List.size_toArray] <;> rfl
noncomputable def rSlL (K : PySem.W.Frag) : V -> Option Int -> Option Int -> Hp -> VK -> Prop := fun x lo hi H Q => ∃ a xs,x = .ref a /\ SqL K H a xs /\ ∀ p,H p = none -> Q (.ref p) (upd H p (.lst (cutV xs lo hi)))
theorem sl_list : SlR X (rSlL X.K) := by
  intro pins s σ H x v vl vu lo hi sl Q I rx hs pl pu h
  obtain ⟨a,xs,rfl,hx,q⟩ := h
  cases rx
  obtain ⟨its,r,ht,hz⟩ := I.list hx
  have hlen := r.length
  refine ⟨"list",_,slot_list_getitem.lookup,ht.isList.typeIs,?_⟩
  refine wpAny_getItem_list_slice ht.isList hs pl pu .none (by simp) ?_ (by rw [List.size_toArray] <;> omega)
  rw [slicePick_cut,<- hlen]
  refine ⟨.ref s.heap.objs.size,_,I.laid (t' := s.toks) (o := .lst (cutV xs lo hi)) (fun b ob q => Heap.get?_push_of_some _ q) (Nat.le_refl _) ?_,rfl,q _ (I.hok.fresh (Nat.le_refl _))⟩
  exact ⟨Nat.le_trans (cutV_length xs lo hi) hz,_,0,(r.drop (HT.sIx xs.length 0 lo)).take (HT.sIx xs.length xs.length hi - HT.sIx xs.length 0 lo),Heap.get?_push_size _ rfl⟩
noncomputable def flatV : V -> Bool
  | .non => true
  | .bl _ => true
  | .int _ => true
  | .str _ => true
  | _ => false
noncomputable def eqV : V -> V -> Bool
  | .non,.non => true
  | .bl a,.bl b => a == b
  | .bl a,.int b => (if a then 1 else 0) == b
  | .int a,.bl b => a == (if b then 1 else 0)
  | .int a,.int b => a == b
  | .str a,.str b => a == b
  | _,_ => false
theorem eqAt_V {A : Around} {s : Shared} {y x : V} {u v : Value} (ry : RelV y u) (rx : RelV x v) (fy : flatV y = true) (fx : flatV x = true) : SeqAt.EqAt A s u v (eqV y x) := by
  cases y with
  | non =>
    cases ry
    cases x with
    | non => cases rx; exact SeqAt.EqAt.same _
    | bl b => cases rx; exact SeqAt.EqAt.none_bool b
    | int b => obtain ⟨t,rfl⟩ := rx; exact SeqAt.EqAt.none_int b t
    | str b => obtain ⟨t,rfl⟩ := rx; exact SeqAt.EqAt.none_str b t
    | _ => exact absurd (show false = true from fx) Bool.false_ne_true
  | bl a =>
    cases ry
    cases x with
    | non => cases rx; exact SeqAt.EqAt.bool_none a
    | bl b => cases rx; exact SeqAt.EqAt.bool_bool a b
    | int b => obtain ⟨t,rfl⟩ := rx; exact SeqAt.EqAt.bool_int a b t
    | str b => obtain ⟨t,rfl⟩ := rx; exact SeqAt.EqAt.bool_str a b t
    | _ => exact absurd (show false = true from fx) Bool.false_ne_true
  | int a =>
    obtain ⟨t',rfl⟩ := ry
    cases x with
    | non => cases rx; exact SeqAt.EqAt.int_none a t'
    | bl b => cases rx; exact SeqAt.EqAt.int_bool a t' b
    | int b => obtain ⟨t,rfl⟩ := rx; exact SeqAt.EqAt.int_int a t' b t
    | str b => obtain ⟨t,rfl⟩ := rx; exact SeqAt.EqAt.int_str a t' b t
    | _ => exact absurd (show false = true from fx) Bool.false_ne_true
  | str a =>
    obtain ⟨t',rfl⟩ := ry
    cases x with
    | non => cases rx; exact SeqAt.EqAt.str_none a t'
    | bl b => cases rx; exact SeqAt.EqAt.str_bool a t' b
    | int b => obtain ⟨t,rfl⟩ := rx; exact SeqAt.EqAt.str_int a t' b t
    | str b => obtain ⟨t,rfl⟩ := rx; exact SeqAt.EqAt.str_str a t' b t
    | _ => exact absurd (show false = true from fx) Bool.false_ne_true
  | _ => exact absurd (show false = true from fy) Bool.false_ne_true
noncomputable def eqU (x : V) (u : Value) : Bool := match u with
  | .none => eqV .non x
  | .bool b => eqV (.bl b) x
  | .int i _ => eqV (.int i) x
  | .str z _ => eqV (.str z) x
  | _ => false
theorem eqU_of {x y : V} {u : Value} (r : RelV y u) (f : flatV y = true) : eqU x u = eqV y x := by
  cases y with
  | non => cases r; rfl
  | bl b => cases r; rfl
  | int i => obtain ⟨t,rfl⟩ := r; rfl
  | str z => obtain ⟨t,rfl⟩ := r; rfl
  | _ => exact absurd (show false = true from f) Bool.false_ne_true
theorem any_eqU {x : V} : ∀ {xs : List V} {us : List Value},Vals xs us -> xs.all flatV = true -> us.any (eqU x) = xs.any fun y => eqV y x
  | _,_,.nil,_ => rfl
  | y :: xs,u :: us,.cons r t,f => by
    rw [List.all_cons,Bool.and_eq_true] at f
    rw [List.any_cons,List.any_cons,eqU_of r f.1,any_eqU t f.2]
theorem mem_eqAt {A : Around} {s : Shared} {x : V} {v : Value} (rx : RelV x v) (fx : flatV x = true) : ∀ {xs : List V} {us : List Value},Vals xs us -> xs.all flatV = true -> ∀ u ∈ us,SeqAt.EqAt A s u v (eqU x u)
  | _,_,.nil,_ => fun u hu => by cases hu
  | y :: xs,u :: us,.cons r t,f => fun u' hu => by
    rw [List.all_cons,Bool.and_eq_true] at f
    rcases List.mem_cons.mp hu with rfl | hu
    · rw [eqU_of r f.1]; exact eqAt_V r rx f.1 fx
    · exact mem_eqAt rx fx t f.2 u' hu
noncomputable def inV (x : V) (xs : List V) : Bool := xs.any fun y => eqV y x
noncomputable def rIn (K : PySem.W.Frag) (neg : Bool) : R2 := fun x y H Q => ∃ p xs,y = .ref p /\ (SqL K H p xs \/ SqT K H p xs) /\ flatV x = true /\ xs.all flatV = true /\ Q (.bl (if neg then !inV x xs else inV x xs)) H
theorem op_in_seq : OpR X (compareOp .In) (rIn X.K false) := by
  intro pins s σ H x y v u Q I rx ry h
  obtain ⟨p,xs,rfl,hq,fx,fs,q⟩ := h
  cases ry
  rcases hq with hq | hq
  · obtain ⟨its,r,pl,hz⟩ := I.list hq
    refine SeqAt.in_listAt (eqU x) pl.isList (fun w hw => mem_eqAt rx fx r fs w (by simpa using hw)) ⟨.bl _,H,I,rfl,?_⟩
    rw [show its.toArray.any (eqU x) = its.any (eqU x) by simp,any_eqU r fs]
    exact q
  · obtain ⟨its,r,pl,hz⟩ := I.tuple hq
    refine SeqAt.in_tupleAt (eqU x) pl (fun w hw => mem_eqAt rx fx r fs w (by simpa using hw)) ⟨.bl _,H,I,rfl,?_⟩
    rw [show its.toArray.any (eqU x) = its.any (eqU x) by simp,any_eqU r fs]
    exact q
theorem call_len_seq : CallR X (.builtin "len") (fun xs H Q => ∃ p ys,xs = [.ref p] /\ (SqL X.K H p ys \/ SqT X.K H p ys) /\ Q (.int ys.length) H) := by
  intro pins s σ H xs us Q I r h
  obtain ⟨p,ys,rfl,hq,q⟩ := h
  obtain ⟨u,rfl,rx⟩ := vals1 r
  cases rx
  have hn := line63
  rcases hq with hq | hq
  · obtain ⟨its,r',pl,hz⟩ := I.list hq
    have hlen := r'.length
    exact Calls.call_len_list pl.isList (by simp only [List.size_toArray] <;> omega) ⟨.int ys.length,H,I.tok _,⟨s.toks + 1,by rw [List.size_toArray,hlen]⟩,q⟩
  · obtain ⟨its,r',pl,hz⟩ := I.tuple hq
    have hlen := r'.length
    exact len_tuple pl (by simp only [List.size_toArray] <;> omega) ⟨.int ys.length,H,I.tok _,⟨s.toks + 1,by rw [List.size_toArray,hlen]⟩,q⟩
theorem call_list_of : CallR X (.type "list") (fun xs H Q => ∃ p ys,xs = [.ref p] /\ (SqL X.K H p ys \/ SqT X.K H p ys) /\ ∀ l,H l = none -> Q (.ref l) (upd H l (.lst ys))) := by
  intro pins s σ H xs us Q I r h
  obtain ⟨p,ys,rfl,hq,q⟩ := h
  obtain ⟨u,rfl,rx⟩ := vals1 r
  cases rx
  have fin : ∀ (its : List Value),Vals ys its -> ys.length <= sizeLine -> ∀ (h' : Heap) (c' : Nat),(∀ b o',s.heap.get? b = some o' -> h'.get? b = some o') ->
      h'.get? s.heap.objs.size = some { cls := .type "list",dict := none,data := .seq its.toArray c',slots := #[] } -> EP X pins σ Q (.ref s.heap.objs.size) { s with heap := h' } := fun its r' hz h' c' kp e =>
    ⟨.ref s.heap.objs.size,_,I.laid (t' := s.toks) kp (Nat.le_refl _) (show ObjOk X.prog X.w _ h' _ (.lst ys) from ⟨hz,its,c',r',e⟩),rfl,q _ (I.hok.fresh (Nat.le_refl _))⟩
  rcases hq with hq | hq
  · obtain ⟨its,r',pl,hz⟩ := I.list hq
    have hlen := r'.length
    obtain ⟨o,ho,hc,n,hd⟩ := pl.isList
    exact call_list_seq p (.inl rfl) ho hc hd (fun h' c' kp e => fin its r' hz h' c' kp e) (by simp only [List.size_toArray] <;> omega)
  · obtain ⟨its,r',pl,hz⟩ := I.tuple hq
    have hlen := r'.length
    obtain ⟨o,ho,hc,n,hd⟩ := pl
    exact call_list_seq p (.inr rfl) ho hc hd (fun h' c' kp e => fin its r' hz h' c' kp e) (by simp only [List.size_toArray] <;> omega)
theorem call_tuple_of : CallR X (.type "tuple") (fun xs H Q => ∃ p ys,xs = [.ref p] /\ ((SqL X.K H p ys /\ ∀ l,H l = none -> Q (.ref l) (upd H l (.tup ys))) \/ (SqT X.K H p ys /\ Q (.ref p) H))) := by
  intro pins s σ H xs us Q I r h
  obtain ⟨p,ys,rfl,h⟩ := h
  obtain ⟨u,rfl,rx⟩ := vals1 r
  cases rx
  rcases h with ⟨hq,q⟩ | ⟨hq,q⟩
  · obtain ⟨its,r',pl,hz⟩ := I.list hq
    have hlen := r'.length
    refine call_tuple_list pl.isList (fun h' kp => ?_) (by simp only [List.size_toArray] <;> omega)
    have I1 : Inv X pins σ H { s with heap := h' } := I.kept (t' := s.toks) kp
    have I2 : Inv X pins σ (upd H h'.objs.size (.tup ys)) { s with heap := h'.push { cls := .type "tuple",data := .seq its.toArray } } :=
      I1.laid (t' := s.toks) (fun b o e => Heap.get?_push_of_some _ e) (Nat.le_refl _) (show ObjOk X.prog X.w _ _ _ (.tup ys) from ⟨hz,its,r',IsTup.new _ _⟩)
    exact ⟨.ref h'.objs.size,_,I2,rfl,q _ (I1.hok.fresh (Nat.le_refl _))⟩
  · obtain ⟨its,r',pl,hz⟩ := I.tuple hq
    exact call_tuple_same pl ⟨.ref p,H,I,rfl,q⟩
noncomputable def tyV (K : PySem.W.Frag) (T : String) (x : V) (H : Hp) : Prop := match x with
  | .str _ => T = "str"
  | .int _ => T = "int"
  | .ref p => (T = "list" /\ ∃ xs,SqL K H p xs) \/ (T = "tuple" /\ ∃ o,K.lookup p = some o /\ o.cls = .type "tuple" /\ o.dict = none) \/
      (T = "dict" /\ ((∃ kvs,H p = some (.dK kvs)) \/ ∃ kvs,H p = some (.dT kvs))) \/ (T = "set" /\ ∃ S n,H p = some (.set S n))
  | _ => False
theorem tyV_is {pins : List (Addr × Obj)} {σ : St} {H : Hp} {s : Shared} {T : String} {x : V} {v : Value} (I : Inv X pins σ H s) (r : RelV x v) (ty : tyV X.K T x H) :
    s.TypeIs v T /\ ∀ a,v = .ref a -> ∃ ob,s.heap.get? a = some ob /\ ob.dict = none := by
  cases x with
  | str z =>
    obtain ⟨t,rfl⟩ := r
    cases (show T = "str" from ty)
    exact ⟨typeIs_str s z t,fun _ e => nomatch e⟩
  | int i =>
    obtain ⟨t,rfl⟩ := r
    cases (show T = "int" from ty)
    exact ⟨typeIs_int s i t,fun _ e => nomatch e⟩
  | ref p =>
    cases r
    rcases ty with ⟨rfl,xs,hq⟩ | ⟨rfl,o,hk,hc,hd⟩ | ⟨rfl,hk⟩ | ⟨rfl,S,n,hk⟩
    · obtain ⟨its,_,pl,_⟩ := I.list hq
      refine ⟨pl.isList.typeIs,fun a e => ?_⟩
      cases e
      obtain ⟨o,n,e,c,hd,_⟩ := pl
      exact ⟨o,e,hd⟩
    · refine ⟨⟨o,I.kIn p o hk,hc⟩,fun a e => ?_⟩
      cases e
      exact ⟨o,I.kIn _ o hk,hd⟩
    · have z : ∃ o,s.heap.get? p = some o /\ o.ExactDict := by
        rcases hk with ⟨kvs,hk⟩ | ⟨kvs,hk⟩
        · obtain ⟨_,_,_,_,o,_,_,e,ex,_⟩ := I.hok p _ hk
          exact ⟨o,e,ex⟩
        · obtain ⟨_,_,_,_,o,_,_,e,ex,_⟩ := I.hok p _ hk
          exact ⟨o,e,ex⟩
      obtain ⟨o,e,ex⟩ := z
      refine ⟨⟨o,e,ex.1⟩,fun a e2 => ?_⟩
      cases e2
      exact ⟨o,e,ex.2.1⟩
    · obtain ⟨o,_,_,_,e,ex,_⟩ := I.hok p _ hk
      refine ⟨⟨o,e,ex.1⟩,fun a e2 => ?_⟩
      cases e2
      exact ⟨o,e,ex.2.1⟩
  | _ => exact False.elim ty
noncomputable def tBM0 (K : PySem.W.Frag) (T : String) (r : V -> List V -> Hp -> VK -> Prop) (to : TE) : TE := fun σ H Q => to σ H fun x H1 => tyV K T x H1 /\ r x [] H1 Q
noncomputable def tBM (K : PySem.W.Frag) (T : String) (r : V -> List V -> Hp -> VK -> Prop) (to : TE) (t : TA) : TE := fun σ H Q => to σ H fun x H1 => tyV K T x H1 /\ t σ H1 fun xs H2 => r x xs H2 Q
variable {o e : Expr} {es : List Expr} {to : TE} {t : TA} {name : Str} {apos cpos : Pos} {T id : String} {r : V -> List V -> Hp -> VK -> Prop}
theorem pe_bm0 (pa : PlainAttrs T) (slot : Slot T name id) (hty : typeOf (.builtin id) = pure (.type "method_descriptor")) (hm : MtR X id r) (ho : PE X o to)
    (hbase : attributeBase o name X.env (eval o X.env) = eval o X.env := by rfl) (hline : (apos.endLine == cpos.line) = true := by rfl) : PE X (.Call (.Attribute o name apos) [] [] cpos) (tBM0 X.K T r to) := by
  intro pins s σ H Q I h
  refine wpAny_Call_method0_late hbase hline (thn (ho pins s σ H _ I h) fun v s1 ⟨x,H1,I1,r1,ty,q1⟩ => ?_)
  obtain ⟨h1,h2⟩ := tyV_is I1 r1 ty
  exact ⟨T,id,pa,slot,hty,h1,h2,Calls.callWith_builtin rfl (PySem.evalArgs_none (hm pins s1 σ H1 x [] v [] Q I1 r1 .nil q1))⟩
theorem pe_bm (pa : PlainAttrs T) (slot : Slot T name id) (hty : typeOf (.builtin id) = pure (.type "method_descriptor")) (hm : MtR X id r) (ho : PE X o to) (ha : PA X (e :: es) t)
    (hbase : attributeBase o name X.env (eval o X.env) = eval o X.env := by rfl)
    (hfew : ((backTo cpos (starEach (e :: es) X.env)).all (fun x => !x.1) && (backToKw cpos (keywordEach [] X.env)).all (fun x => x.1.isSome)
      && decide ((e :: es).length + ([] : List Keyword).length + (if ([] : List Keyword).isEmpty then 0 else 1) < 30)) = true := by rfl)
    (hline : (apos.endLine == cpos.line) = true := by rfl) (hs : starEach (e :: es) X.env = (false,eval e X.env) :: starEach es X.env := by rfl) (hplain : (backTo cpos (starEach es X.env)).any (·.1) = false := by rfl) :
    PE X (.Call (.Attribute o name apos) (e :: es) [] cpos) (tBM X.K T r to t) := by
  intro pins s σ H Q I h
  refine wpAny_Call_method_late hbase hfew hline rfl (thn (ho pins s σ H _ I h) fun v s1 ⟨x,H1,I1,r1,ty,q1⟩ => ?_)
  obtain ⟨h1,h2⟩ := tyV_is I1 r1 ty
  refine ⟨T,id,pa,slot,hty,h1,h2,?_⟩
  have hA := ha cpos pins s1 σ H1 _ I1 q1
  rw [hs] at hA ⊢
  refine Calls.callWith_builtin (by show (false || (backTo cpos (starEach es X.env)).any (·.1)) = false; rw [hplain] <;> rfl) (Calls.evalArgs_plain ?_)
  exact thn hA fun us s2 ⟨vs,H2,I2,r2,q2⟩ => hm pins s2 σ H2 x vs v us Q I2 r1 r2 q2
/- xs.append(e),list.index on a module's tuple .. are MtR facts of 06m -/
end
end L2
namespace L2
open PySem PySem.Spec PyProof.Rows
noncomputable def MtM (X : Cx) (id : String) (r : V -> List V -> Hp -> VK -> Prop) : Prop :=
  ∀ (pins : List (Addr × Obj)) (s : Shared) (σ : St) (H : Hp) (x : V) (xs : List V) (v : Value) (us : List Value) (Q : VK),Inv X pins σ H s -> RelV x v -> Vals xs us -> r x xs H Q ->
    wpAny (model X.prog X.w) X.A (call (.builtin id) (v :: us)) (EP X pins σ Q) X.xe s
theorem Vals.one : ∀ {x : V} {us : List Value},Vals [x] us -> ∃ u,us = [u] /\ RelV x u
  | _,_,.cons r .nil => ⟨_,rfl,r⟩
theorem Vals.zero : ∀ {us : List Value},Vals [] us -> us = []
  | _,.nil => rfl
theorem Vals.dropLast {xs : List V} {us : List Value} (h : Vals xs us) : Vals xs.dropLast us.dropLast := by
  induction h with
  | nil => exact .nil
  | cons r t ih =>
    cases t with
    | nil => exact .nil
    | cons q t' => exact .cons r ih
theorem Vals.reverse {xs : List V} {us : List Value} (h : Vals xs us) : Vals xs.reverse us.reverse := by
  induction h with
  | nil => exact .nil
  | cons r t ih => rw [List.reverse_cons,List.reverse_cons]; exact Vals.append ih (.cons r .nil)
theorem erase_last {α : Type} (l : List α) : l.eraseIdx (l.length - 1) = l.dropLast := by
  induction l with
  | nil => rfl
  | cons a r ih =>
    cases r with
    | nil => rfl
    | cons b r =>
      have e : (a :: b :: r).length - 1 = ((b :: r).length - 1) + 1 := by
        have h1 : (a :: b :: r).length = r.length + 2 := rfl
        have h2 : (b :: r).length = r.length + 1 := rfl
        omega
      rw [e,List.eraseIdx_cons_succ,ih]
      all_goals rfl
section
variable {X : Cx} {pins : List (Addr × Obj)} {σ : St} {H : Hp} {s : Shared} {l b : Addr} {xs ys zs : List V}
theorem Inv.lset {its its' : List Value} {n : Nat} {f : Array Value -> Array Value} {t' : Nat} (I : Inv X pins σ H s) (hH : H l = some (.lst xs))
    (e : s.heap.get? l = some { cls := .type "list",data := .seq its.toArray n }) (hf : f its.toArray = its'.toArray) (hv : Vals ys its') (hz : ys.length <= sizeLine) :
    Inv X pins σ (upd H l (.lst ys)) { s with heap := s.heap.update l (Obj.mapSeq f),toks := t' } := by
  have q := PySem.IsL.update e f
  rw [hf] at q
  refine I.write (x := l) (e := l) (by rw [hH]; exact trivial) (.inl rfl) (fun b' u hb hu => (Heap.get?_update_other s.heap (Obj.mapSeq f) (Ne.symm hb)).trans hu) ⟨_,q⟩ ?_
  exact ⟨hz,its',_,hv,q⟩
theorem Inv.lnew {its : List Value} {t' : Nat} (I : Inv X pins σ H s) (hv : Vals ys its) (hz : ys.length <= sizeLine) :
    Inv X pins σ (upd H s.heap.objs.size (.lst ys)) { s with heap := s.heap.push { cls := .type "list",data := .seq its.toArray },toks := t' } :=
  I.laid (fun _ _ q => Heap.get?_push_of_some _ q) (Nat.le_refl _) ⟨hz,its,0,hv,Heap.get?_push_size _ rfl⟩
theorem Inv.fresh (I : Inv X pins σ H s) : H s.heap.objs.size = none := I.hok.fresh (Nat.le_refl _)
theorem Inv.lstM (I : Inv X pins σ H s) (hH : H l = some (.lst xs)) : xs.length <= sizeLine /\ ∃ (its : List Value) (n : Nat),Vals xs its /\ xs.length = its.length /\ s.heap.get? l = some { cls := .type "list",data := .seq its.toArray n } := by
  obtain ⟨z,its,n,r,e⟩ := I.hok l _ hH
  exact ⟨z,its,n,r,r.length,e⟩
theorem notLongL {n : Nat} (h : n <= sizeLine) : Builtin.List.listTooLong n = false := by
  unfold Builtin.List.listTooLong
  exact decide_eq_false (by omega)
end
section
variable {X : Cx}
noncomputable def rAppend : V -> List V -> Hp -> VK -> Prop := fun x vs H Q => ∃ l xs y,x = .ref l /\ vs = [y] /\ H l = some (.lst xs) /\ xs.length < sizeLine /\ Q .non (upd H l (.lst (xs ++ [y])))
theorem mt_append : MtM X "list.append" rAppend := by
  intro pins s σ H x vs v us Q I rx rv h
  obtain ⟨l,xs,y,rfl,rfl,hH,hz,q⟩ := h
  cases rx
  obtain ⟨u,rfl,ru⟩ := rv.one
  obtain ⟨z,its,n,r,hl,e⟩ := I.lstM hH
  refine call_meets F.slot_list_append ⟨_,e,rfl⟩ F.entry_list_append (F.args_list_append_2 _ _) (PySem.list_append l its.toArray n u (by rw [List.size_toArray]; omega)) ⟨e,?_⟩
  refine ⟨.non,_,I.lset (its' := its ++ [u]) hH e (by simp) (r.append (.cons ru .nil)) ?_,rfl,q⟩
  rw [List.length_append,List.length_singleton]
  omega
noncomputable def rExtend : V -> List V -> Hp -> VK -> Prop := fun x vs H Q => ∃ l b xs zs,x = .ref l /\ vs = [.ref b] /\ H l = some (.lst xs) /\ H b = some (.lst zs) /\ xs.length + zs.length <= sizeLine /\ Q .non (upd H l (.lst (xs ++ zs)))
theorem mt_extend : MtM X "list.extend" rExtend := by
  intro pins s σ H x vs v us Q I rx rv h
  obtain ⟨l,b,xs,zs,rfl,rfl,hH,hB,hz,q⟩ := h
  cases rx
  obtain ⟨u,rfl,ru⟩ := rv.one
  cases ru
  obtain ⟨z,its,n,r,hl,e⟩ := I.lstM hH
  obtain ⟨z2,its2,n2,r2,hl2,e2⟩ := I.lstM hB
  have hsz : its.toArray.size + its2.toArray.size <= sizeLine := by rw [List.size_toArray,List.size_toArray]; omega
  have hlong : ¬ (!its.toArray.isEmpty && Builtin.List.listTooLong (its.toArray.size + its2.toArray.size)) = true := by
    rw [notLongL hsz,Bool.and_false]
    exact Bool.false_ne_true
  refine call_meets F.slot_list_extend ⟨_,e,rfl⟩ F.entry_list_extend (F.args_list_extend_2 _ _)
    (AutoSeq1.list_extend_list_list_0 l its.toArray n b its2.toArray n2 hlong (by rw [List.size_toArray]; omega) (by omega)) ⟨e,e2,?_⟩
  refine ⟨.non,_,I.lset (its' := its ++ its2) hH e (by simp) (r.append r2) ?_,rfl,q⟩
  rw [List.length_append]
  omega
noncomputable def rPop : V -> List V -> Hp -> VK -> Prop := fun x vs H Q => ∃ l xs y,x = .ref l /\ vs = [] /\ H l = some (.lst xs) /\ xs[xs.length - 1]? = some y /\ Q y (upd H l (.lst xs.dropLast))
theorem mt_pop : MtM X "list.pop" rPop := by
  intro pins s σ H x vs v us Q I rx rv h
  obtain ⟨l,xs,y,rfl,rfl,hH,hy,q⟩ := h
  cases rx
  have hus := rv.zero
  subst hus
  obtain ⟨z,its,n,r,hl,e⟩ := I.lstM hH
  obtain ⟨u,hu,ru⟩ := r.get hy
  have hy' : its.toArray[its.toArray.size - 1]? = some u := by
    show its.toArray[its.length - 1]? = some u
    rw [<- Array.getElem?_toList,<- hl]
    exact hu
  refine call_meets F.slot_list_pop ⟨_,e,rfl⟩ F.entry_list_pop (F.args_list_pop_1 _) (MeetsSeq.list_pop_last l its.toArray n u hy' (by rw [List.size_toArray]; omega)) ⟨e,?_⟩
  refine ⟨y,_,I.lset (its' := its.dropLast) hH e ?_ r.dropLast ?_,ru,q⟩
  · show its.toArray.eraseIdxIfInBounds (its.toArray.size - 1) = its.dropLast.toArray
    rw [List.size_toArray,List.eraseIdxIfInBounds_toArray,erase_last]
  · rw [List.length_dropLast]
    omega
noncomputable def rCat : R2 := fun x y H Q => ∃ l b xs zs,x = .ref l /\ y = .ref b /\ H l = some (.lst xs) /\ H b = some (.lst zs) /\ xs.length + zs.length <= sizeLine /\ ∀ p,H p = none -> Q (.ref p) (upd H p (.lst (xs ++ zs)))
theorem op_cat : OpR X (binaryOp .Add) rCat := by
  intro pins s σ H x y v u Q I rx ry h
  obtain ⟨l,b,xs,zs,rfl,rfl,hH,hB,hz,q⟩ := h
  cases rx
  cases ry
  obtain ⟨z,its,n,r,hl,e⟩ := I.lstM hH
  obtain ⟨z2,its2,n2,r2,hl2,e2⟩ := I.lstM hB
  refine PySem.P.add_list e e2 ?_ (by rw [List.size_toArray,List.size_toArray]; omega)
  have ea : its.toArray ++ its2.toArray = (its ++ its2).toArray := by simp
  rw [ea]
  exact ⟨.ref _,_,I.lnew (t' := s.toks) (r.append r2) (by rw [List.length_append]; omega),rfl,q _ I.fresh⟩
end
end L2
namespace L2
open PySem PySem.Spec PyProof.Rows
theorem Vals.bls : ∀ {bs : List Bool} {us : List Value},Vals (bs.map V.bl) us -> us = bs.map Value.bool
  | [],us,h => by
    rw [List.map_nil] at h
    cases h
    rfl
  | b :: bs,us,h => by
    rw [List.map_cons] at h
    cases h with
    | cons r t =>
      cases r
      rw [Vals.bls t,List.map_cons]
theorem Vals.ref1 {a : Addr} {us : List Value} (r : Vals [V.ref a] us) : us = [Value.ref a] := by
  cases r with
  | cons r t =>
    cases t
    cases r
    rfl
section
variable {X : Cx}
end
theorem iter_any {prog : Program} {w : World} {A : Around} {E : Value -> Shared -> Prop} {s : Shared} {l : Addr} {items : Array Value} {Q : Value -> Shared -> Prop} (hl : s.heap.IsList l items)
    (h : ∀ s₂ : Shared,s₂ = { s with heap := s.heap.push { cls := .type "list_iterator",data := .fields #[.ref l,.int 0 0] } } ->
      (s₂.heap.IsListIter s.heap.objs.size l 0 /\ s₂.heap.IsList l items) -> l ≠ s.heap.objs.size -> Q (.ref s.heap.objs.size) s₂) : wpAny (model prog w) A (pyIter (.ref l)) Q E s := by
  have hlt : l < s.heap.objs.size := by obtain ⟨_,e,_⟩ := hl; exact Heap.lt_size e
  exact wpAny_pyIter_list hl (h _ rfl ⟨⟨_,Heap.get?_push_size _ rfl,rfl,rfl⟩,hl.push _⟩ (Nat.ne_of_lt hlt))
theorem truth_bools {prog : Program} {w : World} {A : Around} {bs : List Bool} {its : List Value} (e : its = bs.map Value.bool) :
    TruthOf prog w A (fun i v => its.toArray[i]? = some v) (fun i => bs.getD i false) := fun i v s Q E hv hq => by
  have hv' : its[i]? = some v := by simpa using hv
  rw [e,List.getElem?_map] at hv'
  obtain ⟨b,hb,rfl⟩ := Option.map_eq_some_iff.mp hv'
  have hg : bs.getD i false = b := by rw [List.getD_eq_getElem?_getD,hb] <;> rfl
  have hq' : Q (bs.getD i false) s := hq
  rw [hg] at hq'
  exact wpAny_truthy_bool hq'
theorem any_range : ∀ bs : List Bool,(List.range bs.length).any (fun i => bs.getD i false) = bs.any id
  | [] => rfl
  | b :: bs => by
    rw [List.length_cons,List.range_succ_eq_map,List.any_cons,List.any_map,List.any_cons,<- any_range bs]
    all_goals rfl
theorem all_range : ∀ bs : List Bool,(List.range bs.length).all (fun i => bs.getD i false) = bs.all id
  | [] => rfl
  | b :: bs => by
    rw [List.length_cons,List.range_succ_eq_map,List.all_cons,List.all_map,List.all_cons,<- all_range bs]
    all_goals rfl
section
variable {X : Cx}
noncomputable def rAll (K : PySem.W.Frag) : List V -> Hp -> VK -> Prop := fun vs H Q => ∃ (a : Addr) (bs : List Bool),vs = [V.ref a] /\ SqL K H a (bs.map V.bl) /\ Q (.bl (bs.all id)) H
theorem cr_all (hc : X.calm = true) : CallR X (.builtin "all") (rAll X.K) := by
  intro pins s σ H vs us Q I r h
  obtain ⟨a,bs,rfl,hs,q⟩ := h
  obtain ⟨its,rv,hl,_⟩ := I.list hs
  rw [Vals.ref1 r]
  have hb := rv.bls
  refine call_all_walk (iter_any hl.isList fun s₂ e2 st hne => ?_)
  subst e2
  refine ⟨_,_,_,_,_,_,_,rfl,Walks.list (A := X.A.in1) (I.ok.hd hc) _ a hne its.toArray,st,truth_bools hb,fun h' tk hk => ?_⟩
  refine ⟨.bl _,H,I.kept fun b o eo => hk b o (fun hmem => ?_) (Heap.get?_push_of_some _ eo),?_,q⟩
  · rcases List.mem_cons.mp hmem with e1 | hmem
    · exact absurd (e1 ▸ Heap.lt_size eo) (Nat.lt_irrefl _)
    · cases hmem
  · show Value.bool _ = Value.bool _
    rw [<- all_range,hb,List.size_toArray,List.length_map]
end
mutual
inductive Dp (K : PySem.W.Frag) (H : Hp) : V -> PyData -> Prop
  | non : Dp K H .non .none
  | bl (b : Bool) : Dp K H (.bl b) (.bool b)
  | int (i : Int) : Dp K H (.int i) (.int i)
  | str (x : Str) : Dp K H (.str x) (.str x)
  | lst {a : Addr} {xs : List V} {ds : List PyData} : SqL K H a xs -> DpAll K H xs ds -> Dp K H (.ref a) (.list ds)
  | tup {a : Addr} {xs : List V} {ds : List PyData} : SqT K H a xs -> DpAll K H xs ds -> Dp K H (.ref a) (.tuple ds)
inductive DpAll (K : PySem.W.Frag) (H : Hp) : List V -> List PyData -> Prop
  | nil : DpAll K H [] []
  | cons {v : V} {vs : List V} {d : PyData} {ds : List PyData} : Dp K H v d -> DpAll K H vs ds -> DpAll K H (v :: vs) (d :: ds)
end
section
variable {X : Cx} {pins : List (Addr × Obj)} {σ : St} {H : Hp} {s : Shared}
mutual
theorem Dp.reads (I : Inv X pins σ H s) : ∀ (d : PyData) (v : V) (u : Value),Dp X.K H v d -> RelV v u -> ∃ as,Reads s.heap u d as
  | .none,_,_,h,r => by
    cases h
    cases r
    exact ⟨_,Reads.none⟩
  | .bool b,_,_,h,r => by
    cases h
    cases r
    exact ⟨_,Reads.bool b⟩
  | .int i,_,_,h,r => by
    cases h
    obtain ⟨t,rfl⟩ := r
    exact ⟨_,Reads.int i t⟩
  | .str x,_,_,h,r => by
    cases h
    obtain ⟨t,rfl⟩ := r
    exact ⟨_,Reads.str x t⟩
  | .list ds,_,_,h,r => by
    cases h with
    | lst hs ha =>
      cases r
      obtain ⟨its,rv,⟨o,n,ho,hc,_,hd⟩,_⟩ := I.list hs
      obtain ⟨as,hr⟩ := Dp.readsAll I ds _ its ha rv
      exact ⟨_,Reads.list ho hc hd hr⟩
  | .tuple ds,_,_,h,r => by
    cases h with
    | tup hs ha =>
      cases r
      obtain ⟨its,rv,⟨o,ho,hc,n,hd⟩,_⟩ := I.tuple hs
      obtain ⟨as,hr⟩ := Dp.readsAll I ds _ its ha rv
      exact ⟨_,Reads.tuple ho hc hd hr⟩
  | .dict _,_,_,h,_ => by cases h
theorem Dp.readsAll (I : Inv X pins σ H s) : ∀ (ds : List PyData) (vs : List V) (us : List Value),DpAll X.K H vs ds -> Vals vs us -> ∃ as,ReadsAll s.heap us ds as
  | [],_,_,h,r => by
    cases h
    cases r
    exact ⟨_,ReadsAll.nil⟩
  | d :: ds,_,_,h,r => by
    cases h with
    | cons h1 h2 =>
      cases r with
      | cons r1 r2 =>
        obtain ⟨as,q1⟩ := Dp.reads I d _ _ h1 r1
        obtain ⟨bs,q2⟩ := Dp.readsAll I ds _ _ h2 r2
        exact ⟨_,ReadsAll.cons q1 q2⟩
end
end
section
variable {X : Cx}
noncomputable def rEqD (K : PySem.W.Frag) : R2 := fun x y H Q => ∃ d e,Dp K H x d /\ Dp K H y e /\ SeqAt.shaped d = true /\ SeqAt.shaped e = true /\ Q (.bl (PyData.eqv d e)) H
noncomputable def rNeD (K : PySem.W.Frag) : R2 := fun x y H Q => ∃ d e,Dp K H x d /\ Dp K H y e /\ SeqAt.shaped d = true /\ SeqAt.shaped e = true /\ Q (.bl (!PyData.eqv d e)) H
theorem op_eqD (hu : X.A.units + 64 < cLine) : OpR X (compareOp .Eq) (rEqD X.K) := by
  intro pins s σ H x y v u Q I rx ry h
  obtain ⟨d,e,hd,he,sd,se,q⟩ := h
  obtain ⟨as,r1⟩ := Dp.reads I d x v hd rx
  obtain ⟨bs,r2⟩ := Dp.reads I e y u he ry
  exact SeqAt.compareEq_shaped r1 r2 sd se hu ⟨.bl _,H,I,rfl,q⟩
theorem op_neD (hu : X.A.units + 64 < cLine) : OpR X (compareOp .NotEq) (rNeD X.K) := by
  intro pins s σ H x y v u Q I rx ry h
  obtain ⟨d,e,hd,he,sd,se,q⟩ := h
  obtain ⟨as,r1⟩ := Dp.reads I d x v hd rx
  obtain ⟨bs,r2⟩ := Dp.reads I e y u he ry
  exact SeqAt.compareNe_shaped r1 r2 sd se hu ⟨.bl _,H,I,rfl,q⟩
end
end L2
namespace L2
open PySem PySem.Spec PyProof.Rows
noncomputable abbrev CellAt (h : Heap) (c : Addr) (v : Option Value) : Prop := h.IsCell c v
noncomputable def relS (scope sc : Scope) : Scope :=
  { scope with names := scope.names.map fun (n,k) => if (k == .free && sc.kind == .function && sc.names.lookup n == some .cell) then (n,.cell) else (n,k) }
noncomputable def cloFrom (cells : List (Str × Addr)) : List (Str × NameKind) -> List (Str × Addr) -> List (Str × Addr)
  | [],acc => acc
  | (n,k) :: r,acc => if k == .free then cloFrom cells r ((n,(cells.lookup n).getD 0) :: acc) else cloFrom cells r acc
theorem closure_loop (env : Env) (f : Str × NameKind -> List (Str × Addr) -> Sem (ForInStep (List (Str × Addr))))
    (hf : ∀ n k c,f (n,k) c = if k == .free then (do let a <- cellOf env n; pure (.yield ((n,a) :: c))) else pure (.yield c)) :
    ∀ (names : List (Str × NameKind)) (acc : List (Str × Addr)),(∀ y ∈ names,y.2 = .free -> ∃ c,env.cells.lookup y.1 = some c) -> forIn names acc f = pure (cloFrom env.cells names acc)
  | [],acc,_ => by rw [List.forIn_nil]; rfl
  | (n,k) :: r,acc,h => by
    rw [List.forIn_cons,hf]
    have ih := fun acc => closure_loop env f hf r acc fun y hy => h y (List.mem_cons_of_mem _ hy)
    unfold cloFrom
    by_cases hk : (k == NameKind.free) = true
    · rw [if_pos hk,if_pos hk]
      obtain ⟨c,hc⟩ := h (n,k) List.mem_cons_self (by simpa using hk)
      have e : cellOf env n = pure c := by unfold cellOf; rw [hc]
      rw [e]
      have e2 : (env.cells.lookup n).getD 0 = c := by rw [hc]; rfl
      rw [e2]
      exact ih _
    · rw [if_neg hk,if_neg hk]
      exact ih _
theorem closure_ok {scope : Scope} {env : Env} (h : ∀ y ∈ scope.names,y.2 = .free -> ∃ c,env.cells.lookup y.1 = some c) : closureFor scope env = pure (cloFrom env.cells scope.names []) := by
  simp only [closureFor]
  rw [closure_loop env _ (fun n k c => rfl) scope.names [] h]
  rfl
theorem mem_lookup {α : Type} : ∀ {l : List (Str × α)} {n : Str} {c : α},(n,c) ∈ l -> ∃ c',l.lookup n = some c'
  | (k,v) :: r,n,c,h => by
    rw [List.lookup_cons]
    cases hb : n == k with
    | true => exact ⟨_,rfl⟩
    | false =>
      rcases List.mem_cons.mp h with e | h
      · cases e; simp at hb
      · exact mem_lookup h
theorem cloFrom_mem {cells : List (Str × Addr)} : ∀ {names : List (Str × NameKind)} {acc : List (Str × Addr)} {n : Str} {c : Addr},(n,c) ∈ cloFrom cells names acc -> (n,c) ∈ acc \/ ((n,.free) ∈ names /\ c = (cells.lookup n).getD 0)
  | [],_,_,_,h => .inl h
  | (m,k) :: r,acc,n,c,h => by
    unfold cloFrom at h
    split at h
    · rename_i hk
      have hk : k = .free := by simpa using hk
      rcases cloFrom_mem h with h | ⟨h1,h2⟩
      · rcases List.mem_cons.mp h with e | h
        · cases e; exact .inr ⟨hk ▸ List.mem_cons_self,rfl⟩
        · exact .inl h
      · exact .inr ⟨List.mem_cons_of_mem _ h1,h2⟩
    · rcases cloFrom_mem h with h | ⟨h1,h2⟩
      · exact .inl h
      · exact .inr ⟨List.mem_cons_of_mem _ h1,h2⟩
theorem cloFrom_acc {cells : List (Str × Addr)} : ∀ {names : List (Str × NameKind)} {acc : List (Str × Addr)} {p : Str × Addr},p ∈ acc -> p ∈ cloFrom cells names acc
  | [],_,_,h => h
  | (m,k) :: r,acc,p,h => by
    unfold cloFrom
    split
    · exact cloFrom_acc (List.mem_cons_of_mem _ h)
    · exact cloFrom_acc h
theorem cloFrom_has {cells : List (Str × Addr)} : ∀ {names : List (Str × NameKind)} {acc : List (Str × Addr)} {n : Str},(n,.free) ∈ names -> (n,(cells.lookup n).getD 0) ∈ cloFrom cells names acc
  | (m,k) :: r,acc,n,h => by
    unfold cloFrom
    rcases List.mem_cons.mp h with e | h
    · cases e
      exact cloFrom_acc List.mem_cons_self
    · split
      · exact cloFrom_has h
      · exact cloFrom_has h
theorem cells_mem : ∀ {names : List (Str × NameKind)} {h : Heap} {acc : List (Str × Addr)} {x : Str} {c : Addr},(x,c) ∈ cellsFrom h.objs.size names acc ->
    (x,c) ∈ acc \/ ((x,.cell) ∈ names /\ h.objs.size <= c /\ CellAt (pushCells h names) c none)
  | [],_,_,_,_,h => .inl h
  | (n,k) :: r,h,acc,x,c,hm => by
    unfold cellsFrom at hm
    unfold pushCells
    split at hm
    · rename_i hk
      rw [if_pos hk]
      have hk : k = .cell := by simpa using hk
      rw [<- Heap.size_push h { cls := .type "cell",data := .cell none }] at hm
      rcases cells_mem hm with hm | ⟨h1,h2,h3⟩
      · rcases List.mem_cons.mp hm with e | hm
        · cases e
          exact .inr ⟨hk ▸ List.mem_cons_self,Nat.le_refl _,_,pushCells_keeps r _ _ _ (Heap.get?_push_size _ rfl),rfl⟩
        · exact .inl hm
      · rw [Heap.size_push] at h2
        exact .inr ⟨List.mem_cons_of_mem _ h1,Nat.le_of_succ_le h2,h3⟩
    · rename_i hk
      rw [if_neg hk]
      rcases cells_mem hm with hm | ⟨h1,h2,h3⟩
      · exact .inl hm
      · exact .inr ⟨List.mem_cons_of_mem _ h1,h2,h3⟩
theorem cells_acc : ∀ {names : List (Str × NameKind)} {n : Nat} {acc : List (Str × Addr)} {p : Str × Addr},p ∈ acc -> p ∈ cellsFrom n names acc
  | [],_,_,_,h => h
  | (m,k) :: r,n,acc,p,h => by
    unfold cellsFrom
    split
    · exact cells_acc (List.mem_cons_of_mem _ h)
    · exact cells_acc h
theorem cells_has : ∀ {names : List (Str × NameKind)} {n : Nat} {acc : List (Str × Addr)} {x : Str},(x,.cell) ∈ names -> ∃ c,(x,c) ∈ cellsFrom n names acc
  | (m,k) :: r,n,acc,x,h => by
    unfold cellsFrom
    rcases List.mem_cons.mp h with e | h
    · cases e
      exact ⟨n,cells_acc List.mem_cons_self⟩
    · split
      · exact cells_has h
      · exact cells_has h
theorem cells_inj : ∀ {names : List (Str × NameKind)} {h : Heap} {acc : List (Str × Addr)} {x y : Str} {c : Addr},(∀ p ∈ acc,p.2 < h.objs.size) -> (∀ x y c,(x,c) ∈ acc -> (y,c) ∈ acc -> x = y) ->
    (x,c) ∈ cellsFrom h.objs.size names acc -> (y,c) ∈ cellsFrom h.objs.size names acc -> x = y
  | [],_,_,_,_,_,_,hi,h1,h2 => hi _ _ _ h1 h2
  | (n,k) :: r,h,acc,x,y,c,hl,hi,h1,h2 => by
    unfold cellsFrom at h1 h2
    split at h1
    · rename_i hk
      rw [if_pos hk] at h2
      rw [<- Heap.size_push h { cls := .type "cell",data := .cell none }] at h1 h2
      refine cells_inj (h := h.push _) (fun p hp => ?_) (fun x y c a b => ?_) h1 h2
      · rw [Heap.size_push]
        rcases List.mem_cons.mp hp with rfl | hp
        · exact Nat.lt_succ_self _
        · exact Nat.lt_succ_of_lt (hl p hp)
      · rcases List.mem_cons.mp a with e | a <;> rcases List.mem_cons.mp b with e' | b
        · cases e; cases e'; rfl
        · cases e; exact absurd (hl _ b) (Nat.lt_irrefl _)
        · cases e'; exact absurd (hl _ a) (Nat.lt_irrefl _)
        · exact hi _ _ _ a b
    · rename_i hk
      rw [if_neg hk] at h2
      exact cells_inj hl hi h1 h2
theorem newEnv_comp {M : Model} {A : Around} {E : Value -> Shared -> Prop} {s : Shared} {scope : Scope} {globals : Addr} {closure : List (Str × Addr)} {qual : Str} {func : Option Addr} {code : Value} {around : Env} {builtins : Addr} {Q : Env -> Shared -> Prop}
    (h : Q (newEnv scope s.heap.objs.size globals (cellsFrom (s.heap.objs.size + 1) scope.names closure) qual func code (some around) builtins)
      { s with heap := pushCells (s.heap.push { cls := .type "dict",data := .dict #[] }) scope.names }) :
    wpAny M A (newFunctionEnv scope globals closure [] qual func code (some around) builtins) Q E s := by
  simp only [newFunctionEnv,Option.isSome_some,if_true]
  refine wpAny_bind (wpAny_alloc ?_)
  refine wpAny_bind (wpAny_layCells _ (fun n k c => rfl) scope.names closure _ _ ?_)
  rw [show ({ s with heap := s.heap.push { cls := .type "dict",data := .dict #[] } } : Shared).heap.objs.size = s.heap.objs.size + 1 from Heap.size_push ..]
  rw [List.forIn_nil]
  exact wpAny_bind (wpAny_pure (wpAny_pure h))
theorem lookup_relS {sc : Scope} : ∀ {names : List (Str × NameKind)} {x : Str} {k : NameKind},
    (names.map fun (n,k) => if (k == NameKind.free && sc.kind == .function && sc.names.lookup n == some .cell) then (n,NameKind.cell) else (n,k)).lookup x = some k ->
    ∃ k',names.lookup x = some k' /\ (k = k' \/ (k' = .free /\ k = .cell))
  | [],_,_,h => by simp at h
  | (n,k₀) :: r,x,k,h => by
    have ih := @lookup_relS sc r x k
    have h' : List.lookup x ((if (k₀ == NameKind.free && sc.kind == .function && sc.names.lookup n == some .cell) = true then (n,NameKind.cell) else (n,k₀)) :: (r.map _)) = some k := h
    cases hx : x == n with
    | true =>
      simp only [List.lookup_cons,hx]
      by_cases hc : (k₀ == NameKind.free && sc.kind == .function && sc.names.lookup n == some .cell) = true
      · rw [if_pos hc] at h'
        simp only [List.lookup_cons,hx] at h'
        cases h'
        simp only [Bool.and_eq_true,beq_iff_eq] at hc
        exact ⟨k₀,rfl,.inr ⟨hc.1.1,rfl⟩⟩
      · rw [if_neg hc] at h'
        simp only [List.lookup_cons,hx] at h'
        cases h'
        exact ⟨_,rfl,.inl rfl⟩
    | false =>
      simp only [List.lookup_cons,hx]
      by_cases hc : (k₀ == NameKind.free && sc.kind == .function && sc.names.lookup n == some .cell) = true
      · rw [if_pos hc] at h'
        simp only [List.lookup_cons,hx] at h'
        exact ih h'
      · rw [if_neg hc] at h'
        simp only [List.lookup_cons,hx] at h'
        exact ih h'
structure BlkOk (N : List Str) (sc scope : Scope) (own : List (Str × Nat)) : Prop where
  kind : scope.kind = .function
  uniq : ∀ y ∈ scope.names,scope.names.lookup y.1 = some y.2
  ix : ∀ p ∈ own,N[p.2]? = some p.1
  free : ∀ y ∈ scope.names,y.2 = .free -> sc.names.lookup y.1 = some .cell \/ sc.names.lookup y.1 = some .free
  own : ∀ y ∈ scope.names,y.2 = .local \/ y.2 = .cell -> y.1 ∈ own.map (·.1) \/ y.1 ∉ N
noncomputable def wipe (σ : St) : List Nat -> St
  | [] => σ
  | v :: vs => (wipe σ vs).set v none
theorem wipe_length (σ : St) : ∀ vs : List Nat,(wipe σ vs).length = σ.length
  | [] => rfl
  | v :: vs => by unfold wipe; rw [List.length_set,wipe_length σ vs]
theorem wipe_some {σ : St} {i : Nat} {x : V} : ∀ {vs : List Nat},(wipe σ vs)[i]? = some (some x) -> σ[i]? = some (some x) /\ i ∉ vs
  | [],h => ⟨h,by simp⟩
  | v :: vs,h => by
    unfold wipe at h
    by_cases hi : v = i
    · subst hi
      by_cases hv : v < (wipe σ vs).length
      · rw [List.getElem?_set_self hv] at h; cases h
      · rw [List.getElem?_eq_none (by simpa using hv)] at h; cases h
    · rw [List.getElem?_set_ne hi] at h
      obtain ⟨h1,h2⟩ := wipe_some h
      exact ⟨h1,by simp only [List.mem_cons,not_or]; exact ⟨fun e => hi e.symm,h2⟩⟩
noncomputable abbrev Cx.blk (X : Cx) (s : Shared) (H : Hp) (scope : Scope) (cenv : Env) (fp : List Addr) : Cx := { X with s_0 := s,H_0 := H,env := cenv,outer := X.stack,ex := fp,fn := fun x => scope.names.lookup x == some .cell,pn := [],xe := fun _ _ => False }
section
variable {X : Cx} {pins : List (Addr × Obj)} {σ : St} {H : Hp} {s : Shared}
theorem block_start {scope : Scope} {own : List (Str × Nat)} {fp : List Addr} (I : Inv X pins σ H s) (ok : BlkOk X.N X.env.scope scope own) (hN : X.N.Nodup) (hfp : ∀ b ∈ fp,FpOk X pins H b /\ b < s.heap.objs.size) :
    Inv (X.blk s H scope (compEnvC scope (cellsFrom (s.heap.objs.size + 1) scope.names (cloFrom X.env.cells scope.names [])) s.heap.objs.size X.env) fp) [] (wipe σ (own.map (·.2))) H { s with heap := pushCells (s.heap.push { cls := .type "dict",data := .dict #[] }) scope.names } := by
  have hfree : ∀ y ∈ scope.names,y.2 = .free -> ∃ c,X.env.cells.lookup y.1 = some c := fun y hy e => by
    rcases ok.free y hy e with k | k
    · exact I.ok.has _ (.inl k)
    · exact I.ok.has _ (.inr k)
  generalize hcenv : compEnvC scope (cellsFrom (s.heap.objs.size + 1) scope.names (cloFrom X.env.cells scope.names [])) s.heap.objs.size X.env = cenv
  have kp : ∀ b o,s.heap.get? b = some o -> (pushCells (s.heap.push { cls := .type "dict",data := .dict #[] }) scope.names).get? b = some o := fun b o e => pushCells_keeps _ _ _ _ (Heap.get?_push_of_some _ e)
  have hL : cenv.locals = s.heap.objs.size := by rw [<- hcenv]; rfl
  have hcl : cenv.cells = cellsFrom (s.heap.objs.size + 1) scope.names (cloFrom X.env.cells scope.names []) := by rw [<- hcenv]; rfl
  have hsc : cenv.scope = relS scope X.env.scope := by rw [<- hcenv]; rfl
  rw [<- Heap.size_push s.heap { cls := .type "dict",data := .dict #[] }] at hcl
  have cm : ∀ {y c},(y,c) ∈ cloFrom X.env.cells scope.names [] -> X.env.cells.lookup y = some c /\ c < s.heap.objs.size := fun {y c} hm => by
    rcases cloFrom_mem hm with hm | ⟨h1,rfl⟩
    · cases hm
    · obtain ⟨c,hc⟩ := hfree _ h1 rfl
      rw [hc]
      obtain ⟨w,z⟩ := I.cell _ _ hc
      exact ⟨rfl,z.lt⟩
  have mem : ∀ {y c},cenv.cells.lookup y = some c -> (X.env.cells.lookup y = some c /\ c < s.heap.objs.size) \/ (s.heap.objs.size + 1 <= c /\ CellAt (pushCells (s.heap.push { cls := .type "dict",data := .dict #[] }) scope.names) c none) := fun {y c} e => by
    rw [hcl] at e
    rcases cells_mem (PySem.mem_of_lookup e) with hm | ⟨_,h2,h3⟩
    · exact .inl (cm hm)
    · rw [Heap.size_push] at h2; exact .inr ⟨h2,h3⟩
  have look : ∀ {y},scope.names.lookup y = some .free -> ∃ c,cenv.cells.lookup y = some c /\ X.env.cells.lookup y = some c := fun {y} hl => by
    have hy : (y,NameKind.free) ∈ scope.names := PySem.mem_of_lookup hl
    obtain ⟨c',e'⟩ := mem_lookup (cells_acc (names := scope.names) (n := (s.heap.push { cls := .type "dict",data := .dict #[] }).objs.size) (cloFrom_has (cells := X.env.cells) (acc := []) hy))
    rw [<- hcl] at e'
    refine ⟨c',e',?_⟩
    rw [hcl] at e'
    rcases cells_mem (PySem.mem_of_lookup e') with hm | ⟨h1,_,_⟩
    · exact (cm hm).1
    · have := ok.uniq _ h1
      rw [hl] at this; cases this
  have okB : (X.blk s H scope cenv fp).Ok := by
    refine ⟨I.ok.mod,by show cenv.scope.kind = _; rw [hsc]; exact ok.kind,by show cenv.globals = _; rw [<- hcenv]; exact I.ok.glob,by show cenv.builtins = _; rw [<- hcenv]; exact I.ok.blt,by show s.heap.objs.size <= cenv.locals; rw [hL]; exact Nat.le_refl _,
      fun y z c e1 e2 => ?_,fun y hy => ?_,fun y c z e => ?_,I.ok.hd,I.ok.frames,.inl rfl,fun b hb => ⟨?_,fun y c e z => ?_⟩,I.bs,Nat.le_trans I.ok.bsz I.sz,fun b o e hb => ?_,fun b hb z => ?_,I.stack,I.stkFree⟩
    · have e1 : cenv.cells.lookup y = some c := e1
      have e2 : cenv.cells.lookup z = some c := e2
      rw [hcl] at e1 e2
      refine cells_inj (fun p hp => ?_) (fun y z c a b => I.ok.inj y z c (cm a).1 (cm b).1) (PySem.mem_of_lookup e1) (PySem.mem_of_lookup e2)
      rw [Heap.size_push]
      exact Nat.lt_succ_of_lt (cm (y := p.1) (c := p.2) hp).2
    · show ∃ c,cenv.cells.lookup y = some c
      have key : ∀ k,cenv.kindOf y = some k -> (k = .cell \/ k = .free) -> ∃ c,cenv.cells.lookup y = some c := fun k hk hk' => by
        unfold Env.kindOf at hk
        rw [hsc] at hk
        obtain ⟨k',e,r⟩ := lookup_relS hk
        have : k' = .cell \/ k' = .free := by
          rcases r with rfl | ⟨rfl,_⟩
          · exact hk'
          · exact .inr rfl
        rcases this with rfl | rfl
        · obtain ⟨c,hm⟩ := cells_has (n := (s.heap.push { cls := .type "dict",data := .dict #[] }).objs.size) (acc := cloFrom X.env.cells scope.names []) (PySem.mem_of_lookup e)
          obtain ⟨c',e'⟩ := mem_lookup hm
          exact ⟨c',by rw [hcl]; exact e'⟩
        · obtain ⟨c,h1,_⟩ := look e
          exact ⟨c,h1⟩
      rcases hy with hy | hy
      · exact key _ hy (.inl rfl)
      · exact key _ hy (.inr rfl)
    · have z : (scope.names.lookup y == some NameKind.cell) = true := z
      have z : scope.names.lookup y = some .cell := by simpa using z
      have e : cenv.cells.lookup y = some c := e
      rw [hcl] at e
      rcases cells_mem (PySem.mem_of_lookup e) with hm | ⟨_,h2,_⟩
      · rcases cloFrom_mem hm with hm | ⟨h1,_⟩
        · cases hm
        · have q := ok.uniq _ h1
          rw [z] at q; cases q
      · rw [Heap.size_push] at h2
        exact Nat.le_of_succ_le h2
    · show b ≠ cenv.locals
      rw [hL]; exact Nat.ne_of_lt (hfp b hb).2
    · have e : cenv.cells.lookup y = some c := e
      rcases mem e with ⟨h1,_⟩ | ⟨h1,_⟩
      · exact (hfp b hb).1.2.2.2.2.1 y c h1 z
      · have h2 : s.heap.objs.size + 1 <= b := by rw [<- z]; exact h1
        exact absurd (Nat.lt_of_lt_of_le (hfp b hb).2 (Nat.le_of_succ_le h2)) (Nat.lt_irrefl _)
    · rcases (hfp b hb).1.2.2.2.1 with z | z
      · exact I.ok.noex b o e z
      · exact absurd (Nat.lt_of_lt_of_le (Heap.lt_size e) (Nat.le_trans I.ok.bsz z)) (Nat.lt_irrefl _)
    · rcases List.mem_cons.mp (I.stkSub b z) with z | z
      · exact (hfp b hb).1.2.1 z
      · exact (hfp b hb).1.2.2.1 z
  refine ⟨okB,rfl,I.bare,Un.kept kp,⟨fun _ => none,?_,fun i y av e1 e2 e3 => ?_⟩,fun y c e => ?_,?_,fun y c e => ?_,fun p hp => ?_,I.hok.kept kp,by rw [wipe_length]; exact I.len⟩
  · show Heap.Ns _ cenv.locals _
    rw [hL]
    exact Heap.Ns.keeps (Heap.Ns.new ..) fun b o e => pushCells_keeps _ _ _ _ e
  · obtain ⟨e2,hne⟩ := wipe_some e2
    have hfr : scope.names.lookup y = some .free /\ (cenv.kindOf y = some .cell \/ cenv.kindOf y = some .free) := by
      have key : ∀ k,cenv.scope.names.lookup y = some k -> k = .local \/ k = .cell \/ k = .free -> scope.names.lookup y = some .free /\ (cenv.kindOf y = some .cell \/ cenv.kindOf y = some .free) := fun k hk hk' => by
        have hk0 := hk
        rw [hsc] at hk
        obtain ⟨k',e,r⟩ := lookup_relS hk
        have no : ¬ (k' = .local \/ k' = .cell) := fun hh => by
          rcases ok.own _ (PySem.mem_of_lookup e) hh with e' | e'
          · obtain ⟨p,hp,hpy⟩ := List.mem_map.mp e'
            have e3 := ok.ix p hp
            have : p.1 = y := hpy
            rw [this] at e3
            exact hne (List.mem_map.mpr ⟨p,hp,nodup_ix hN e3 e1⟩)
          · exact e' (List.mem_of_getElem? e1)
        rcases r with rfl | ⟨rfl,rfl⟩
        · rcases hk' with rfl | rfl | rfl
          · exact absurd (.inl rfl) no
          · exact absurd (.inr rfl) no
          · exact ⟨e,.inr hk0⟩
        · exact ⟨e,.inl hk0⟩
      have e3 : Vis cenv.scope y := e3
      rcases e3 with e3 | e3 | e3
      · exact key _ e3 (.inl rfl)
      · exact key _ e3 (.inr (.inl rfl))
      · exact key _ e3 (.inr (.inr rfl))
    obtain ⟨m,hn,hl⟩ := I.loc
    have hvis : Vis X.env.scope y := (ok.free _ (PySem.mem_of_lookup hfr.1) rfl).elim (fun k => .inr (.inl k)) (fun k => .inr (.inr k))
    obtain ⟨w,r,q⟩ := hl i y av e1 e2 hvis
    refine ⟨w,r,.inr ⟨hfr.2,?_⟩⟩
    obtain ⟨c,h1,h2⟩ := look hfr.1
    rcases q with ⟨k,_⟩ | ⟨_,c',e',z⟩
    · have k : X.env.scope.names.lookup y = some .local := k
      rcases ok.free _ (PySem.mem_of_lookup hfr.1) rfl with k' | k' <;> rw [show X.env.scope.names.lookup y = _ from k'] at k <;> cases k
    · rw [h2] at e'; cases e'
      exact ⟨c,h1,z.keeps kp⟩
  · have e : cenv.cells.lookup y = some c := e
    rcases mem e with ⟨h1,_⟩ | ⟨_,z⟩
    · obtain ⟨w,z⟩ := I.cell y c h1
      exact ⟨w,z.keeps kp⟩
    · exact ⟨_,z⟩
  · show H cenv.locals = none
    rw [hL]; exact I.hok.fresh (Nat.le_refl _)
  · have e : cenv.cells.lookup y = some c := e
    rcases mem e with ⟨h1,_⟩ | ⟨h1,_⟩
    · exact I.freeC y c h1
    · exact I.hok.fresh (Nat.le_of_succ_le h1)
  · exact absurd (show p ∈ ([] : List (Addr × Obj)) ++ [] from hp) (by simp)
theorem app_ok {E : Value -> Shared -> Prop} {D : Addr} {xs : List V} {y : V} {v : Value} {Q : Value -> Shared -> Prop} (I : Inv X pins σ H s) (hD : H D = some (.lst xs)) (hz : xs.length < sizeLine) (r : RelV y v)
    (h : ∀ s',Inv X pins σ (upd H D (.lst (xs ++ [y]))) s' -> Q .none s') : wpAny (model X.prog X.w) X.A (call (.builtin "list.append") [.ref D,v]) Q E s := by
  obtain ⟨hz',its,n,ri,e⟩ := I.hok D _ hD
  have hl := ri.length
  refine append_at (hsz := by rw [List.size_toArray]; omega) e fun h' sb ho' => ?_
  refine h { s with heap := h' } (I.write (t' := s.toks) (by rw [hD]; trivial) (.inl rfl) (fun b u hb q => (sb.2 b hb).trans q) ⟨_,ho'⟩ ⟨by rw [List.length_append]; exact hz,its ++ [v],n + 1,ri.append (.cons r .nil),?_⟩)
  rw [ho']
  simp
noncomputable def PTs (X : Cx) (ifs : List Expr) (t : TT) : Prop :=
  ∀ (pins : List (Addr × Obj)) (s : Shared) (σ : St) (H : Hp) (Q : Bool -> Hp -> Prop),Inv X pins σ H s -> t σ H Q ->
    wpAny (model X.prog X.w) X.A (forIn ifs true fun c r => if r = true then do let ok <- isTrue c X.env (eval c X.env); pure (ForInStep.yield ok) else pure (ForInStep.yield r)) (TP X pins σ Q) X.xe s
noncomputable def tYes : TT := fun _ H Q => Q true H
theorem pts_nil : PTs X [] tYes := fun _ _ _ H _ I h => wpAny_tests_nil ⟨H,I,h⟩
end
theorem thnF {α : Type} {t : Sem α} {Q Q' : α -> Shared -> Prop} {M : Model} {A : Around} {E : Value -> Shared -> Prop} {s : Shared} (h : wpAny M A t Q (fun _ _ => False) s) (hQ : ∀ a s,Q a s -> Q' a s) : wpAny M A t Q' E s := wpAny_mono h hQ fun _ _ z => False.elim z
theorem compLoop_any {prog : Program} {w : World} {A : Around} {R : Result -> Shared -> Prop} {s : Shared} {elt target iter : Expr} {ifs : List Expr} {scope : Scope} {pos : Pos} {it acc : Value} {env : Env} (I : Nat -> Shared -> Prop)
    (turn : ∀ n s,I n s -> wpAny (model prog w) A (pyNext it) (fun r s₁ => match r with
      | none => R (.ok .next) s₁
      | some v => wpAny (model prog w) A (letOwnedTupleGo target it v) (fun _ s₁' => wpAny (model prog w) A (assign target env v) (fun _ s₂ =>
          wpAny (model prog w) A (forIn ifs true fun c r => if r = true then do let ok <- isTrue c env (eval c env); pure (ForInStep.yield ok) else pure (ForInStep.yield r)) (fun ok s₃ =>
            if ok = true then wpAny (model prog w) A (eval elt env) (fun x s₄ =>
              wpAny (model prog w) A (call (.builtin "list.append") [acc,x]) (fun _ s₅ => ∃ m,m < n /\ I m s₅) (notedBy (model prog w) A env fun e s' => R (.error e) s') s₄) (notedBy (model prog w) A env fun e s' => R (.error e) s') s₃
            else ∃ m,m < n /\ I m s₃) (notedBy (model prog w) A env fun e s' => R (.error e) s') s₂) (notedBy (model prog w) A env fun e s' => R (.error e) s') s₁') (notedBy (model prog w) A env fun e s' => R (.error e) s') s₁) (notedBy (model prog w) A env fun e s' => R (.error e) s') s)
    (n : Nat) (h : I n s) :
    codeAny (model prog w) A (.compLoop (.ListComp elt [⟨target,iter,ifs,0⟩] scope pos) 0 it acc env) R s := by
  refine codeAny_loop rfl I (fun n s hI => ?_) n h
  show wpAny _ A ((compTurn (.ListComp elt [⟨target,iter,ifs,0⟩] scope pos) 0 it acc env).onRaise (fun x => do noteFrame x env; theTreesLotGoes x)) _ _ s
  refine wpAny_noted ?_
  rw [compTurn_list]
  refine wpAny_bind (wpAny_standAt (wpAny_bind (wpAny_mono (turn n s hI) (fun r s₁ h₁ => ?_) fun _ _ h' => h')))
  cases r with
  | none => exact wpAny_pure h₁
  | some v =>
    refine wpAny_bind (wpAny_mono h₁ (fun _ s₁' h₁' => ?_) fun _ _ h' => h')
    refine wpAny_bind (wpAny_mono h₁' (fun _ s₂ h₂ => wpAny_bind (wpAny_mono h₂ (fun ok s₃ h₃ => ?_) fun _ _ h' => h')) fun _ _ h' => h')
    cases ok with
    | false => exact wpAny_pure ⟨rfl,h₃⟩
    | true =>
      exact wpAny_bind (wpAny_bind (wpAny_mono h₃ (fun x s₄ h₄ => wpAny_bind (wpAny_mono h₄ (fun _ s₅ h₅ => wpAny_pure (wpAny_pure ⟨rfl,h₅⟩)) fun _ _ h' => h')) fun _ _ h' => h'))
section
variable {X : Cx}
noncomputable def tLc (wi : TI) (g : TG) (tt : TT) (te : TE) (vs : List Nat) : TE := fun σ H Q => wi σ H fun J H1 => ∀ D,H1 D = none -> ∃ W : Nat -> Nat -> Hp -> Prop,(∃ m,W 0 m (upd H1 D (.lst []))) /\ ∀ i m H,W i m H ->
  (J.stop i H /\ Q (.ref D) H) \/ (J.go i H /\ ∃ Nx : Hp -> Prop,(∀ H',Nx H' -> ∃ m',m' < m /\ W (i + 1) m' H') /\ ∀ x H',J.yld i H x H' -> g x (wipe σ vs) H' fun σ2 H2 => wipe σ2 vs = wipe σ vs /\ tt σ2 H2 fun b H3 =>
    if b = true then te σ2 H3 fun y H4 => ∃ acc,H4 D = some (.lst acc) /\ acc.length < sizeLine /\ Nx (upd H4 D (.lst (acc ++ [y]))) else Nx H3)
theorem lc_core {pins : List (Addr × Obj)} {s : Shared} {σ : St} {H : Hp} {Q : VK} {elt tg iter : Expr} {ifs : List Expr} {scope : Scope} {own : List (Str × Nat)} {pos pos' : Pos} {wi : TI} {g : TG} {tt : TT} {te : TE} {use : Option (Value -> Sem Unit)} {Qf : Value -> Shared -> Prop}
    (hc : X.calm = true) (hN : X.N.Nodup) (I : Inv X pins σ H s) (hi : PI X tg iter wi) (ok : BlkOk X.N X.env.scope scope own)
    (hg : ∀ (s : Shared) (H : Hp) (C : Addr) (cl : List (Str × Addr)) (fp : List Addr),PG (X.blk s H scope (compEnvC scope cl C X.env) fp) tg g) (ht : ∀ (s : Shared) (H : Hp) (C : Addr) (cl : List (Str × Addr)) (fp : List Addr),PTs (X.blk s H scope (compEnvC scope cl C X.env) fp) ifs tt)
    (he : ∀ (s : Shared) (H : Hp) (C : Addr) (cl : List (Str × Addr)) (fp : List Addr),PE (X.blk s H scope (compEnvC scope cl C X.env) fp) elt te) (hs : ∀ x,foldedSetIterable iter X.env x = pure x)
    (h : tLc wi g tt te (own.map (·.2)) σ H Q)
    (hRR : ∀ D C s' m H',Inv X pins σ H' s' -> Q (.ref D) H' -> s'.heap.Ns C m -> FpOk X pins H' C -> compPost (model X.prog X.w) X.A X.xe use Qf (.ref D) C (.ok .next) s') :
    wpAny (model X.prog X.w) X.A (comprehension (.ListComp elt [⟨tg,iter,ifs,0⟩] scope pos) scope X.env pos' (newList []) false (eval iter X.env) use) Qf X.xe s := by
  have hfree : ∀ y ∈ scope.names,y.2 = .free -> ∃ c,X.env.cells.lookup y.1 = some c := fun y hy e => by
    rcases ok.free y hy e with k | k
    · exact I.ok.has _ (.inl k)
    · exact I.ok.has _ (.inr k)
  refine wpAny_comprehension_free (use := use) rfl hs (closure_ok hfree) ok.kind (fun y hy e => by rw [ok.uniq y hy,e])
    (thn (hi pins s σ H _ I h) fun xv s1 hx => thn hx fun itv s2 h2 => ?_)
  obtain ⟨it,fp,tn,J,H2,e,I2,T,st2,f2,q⟩ := h2
  subst e
  refine wpAny_newObj_type (newEnv_comp ?_) (by show 0 <= sizeLine; decide)
  generalize hD : s2.heap.objs.size = D
  have hDn : H2 D = none := I2.hok.fresh (Nat.le_of_eq hD)
  obtain ⟨W,⟨m0,w0⟩,turn⟩ := q D hDn
  generalize hs3 : ({ s2 with heap := s2.heap.push { cls := .type "list",data := .seq ([] : List Value).toArray } } : Shared) = s3
  have I3 : Inv X pins σ (upd H2 D (.lst [])) s3 := by
    rw [<- hs3]
    refine I2.laid (t' := s2.toks) (fun b o e => Heap.get?_push_of_some _ e) (Nat.le_of_eq hD) ⟨Nat.zero_le _,[],0,.nil,?_⟩
    rw [<- hD]
    exact Heap.get?_push_size _ rfl
  have h3 : s3.heap = s2.heap.push { cls := .type "list",data := .seq ([] : List Value).toArray } := by rw [<- hs3]
  have sz : ∀ b ∈ fp,b < s2.heap.objs.size := fun b hb => by
    obtain ⟨o,e,_⟩ := T.obj _ _ st2 b hb
    exact Heap.lt_size e
  have f3 : ∀ b ∈ fp,FpOk X pins (upd H2 D (.lst [])) b /\ b < s3.heap.objs.size := fun b hb => by
    have hlt := sz b hb
    refine ⟨⟨?_,(f2 b hb).2⟩,by rw [h3,Heap.size_push]; exact Nat.lt_succ_of_lt hlt⟩
    rw [upd_ne (by rw [<- hD]; exact Nat.ne_of_lt hlt)]
    exact (f2 b hb).1
  have st3 : tn 0 s3.heap := T.keep _ _ _ st2 fun b _ o e => by rw [h3]; exact Heap.get?_push_of_some _ e
  have I4 := block_start I3 ok hN f3
  have pg := hg s3 (upd H2 D (.lst [])) s3.heap.objs.size (cellsFrom (s3.heap.objs.size + 1) scope.names (cloFrom X.env.cells scope.names [])) fp
  have pt := ht s3 (upd H2 D (.lst [])) s3.heap.objs.size (cellsFrom (s3.heap.objs.size + 1) scope.names (cloFrom X.env.cells scope.names [])) fp
  have pe := he s3 (upd H2 D (.lst [])) s3.heap.objs.size (cellsFrom (s3.heap.objs.size + 1) scope.names (cloFrom X.env.cells scope.names [])) fp
  show codeAny _ _ (.compStart (.ListComp elt [⟨tg,iter,ifs,0⟩] scope pos) 0 (.ref it) (.ref D) (compEnvC scope (cellsFrom (s3.heap.objs.size + 1) scope.names (cloFrom X.env.cells scope.names [])) s3.heap.objs.size X.env)) (compPost (model X.prog X.w) X.A X.xe use Qf (.ref D) s3.heap.objs.size) { s3 with heap := pushCells (s3.heap.push { cls := .type "dict",data := .dict #[] }) scope.names }
  have nfp : ∀ b ∈ fp,(upd H2 D (.lst [])) b = none := fun b hb => (f3 b hb).1.1
  generalize hce : compEnvC scope (cellsFrom (s3.heap.objs.size + 1) scope.names (cloFrom X.env.cells scope.names [])) s3.heap.objs.size X.env = ce at I4 pg pt pe ⊢
  have cL : ce.locals = s3.heap.objs.size := by subst hce; rfl
  generalize hH3 : upd H2 D (.lst []) = H3 at I3 I4 pg pt pe w0 nfp f3
  generalize hs4 : ({ s3 with heap := pushCells (s3.heap.push { cls := .type "dict",data := .dict #[] }) scope.names } : Shared) = s4 at I4 ⊢
  have st4 : tn 0 s4.heap := T.keep _ _ _ st3 fun b _ o e => by rw [<- hs4]; exact pushCells_keeps _ _ _ _ (Heap.get?_push_of_some _ e)
  have stat : ∀ {σ' : St} {H' : Hp} {s' : Shared},Inv (X.blk s3 H3 scope ce fp) [] σ' H' s' -> (∀ b ∈ fp,H' b = none) -> ∀ b ∈ fp,FpOk (X.blk s3 H3 scope ce fp) [] H' b := fun {σ' H' s'} I' hn b hb =>
    ⟨hn b hb,(I'.ok.exf b hb).1,I'.ok.exfs b hb,.inl hb,fun x c e => (I'.ok.exf b hb).2 x c e,fun p hp => absurd (show p ∈ ([] : List (Addr × Obj)) ++ [] from hp) (by simp)⟩
  have loop : codeAny (model X.prog X.w) X.A (.compLoop (.ListComp elt [⟨tg,iter,ifs,0⟩] scope pos) 0 (.ref it) (.ref D) ce) (compPost (model X.prog X.w) X.A X.xe use Qf (.ref D) s3.heap.objs.size) s4 := by
    refine compLoop_any (fun n s' => ∃ i H',Inv (X.blk s3 H3 scope ce fp) [] (wipe σ (own.map (·.2))) H' s' /\ tn i s'.heap /\ (∀ b ∈ fp,H' b = none) /\ W i n H') ?_ m0 ⟨0,H3,I4,st4,nfp,w0⟩
    rintro n s5 ⟨i,H5,I5,st5,n5,w5⟩
    rcases turn i n H5 w5 with ⟨stop,qq⟩ | ⟨go,Nx,hNx,step⟩
    · have td := T.done (X.blk s3 H3 scope ce fp) rfl rfl rfl hc i [] s5 _ H5 (fun _ _ => False) I5 (stat I5 n5) st5 stop
      refine thnF td fun r s6 ⟨hr,I6⟩ => ?_
      subst hr
      have I7 : Inv X pins σ H5 s6 := I3.call' (ch := fp) I6.os I6.base I6.hok I6.bare fun b hb => ⟨(f3 b hb).1.2.2.2.1,(f3 b hb).1.2.1,(f3 b hb).1.2.2.2.2.1,(f3 b hb).1.2.2.2.2.2⟩
      have nC : H5 s3.heap.objs.size = none := by
        have z : H5 ce.locals = none := I6.free
        rw [cL] at z
        exact z
      obtain ⟨m,hn,_⟩ := I6.loc
      have hn : s6.heap.Ns ce.locals m := hn
      rw [cL] at hn
      exact hRR D s3.heap.objs.size s6 m H5 I7 qq hn (I3.fpOk (Nat.le_refl _) nC)
    · have ti := T.item (X.blk s3 H3 scope ce fp) rfl rfl rfl hc i [] s5 _ H5 (fun _ _ => False) I5 (stat I5 n5) st5 go
      refine thnF ti fun r s6 ⟨u,hr,h6⟩ => ?_
      subst hr
      refine thnF h6 fun _ s7 ⟨x,H7,I7,r7,y7,st7,n7⟩ => ?_
      have I7' := I7.pinned (stat I7 n7) (T.obj _ _ st7)
      refine thnF (pg _ s7 _ H7 x u _ I7' r7 (step x H7 y7)) fun _ s8 ⟨σ8,H8,I8,hw8,q8⟩ => ?_
      refine thnF (pt _ s8 σ8 H8 _ I8 q8) fun b s9 ⟨H9,I9,q9⟩ => ?_
      have fin : ∀ {s' : Shared} {H' : Hp},Inv (X.blk s3 H3 scope ce fp) ([] ++ pinsAt fp s7.heap) σ8 H' s' -> Nx H' -> ∃ m,m < n /\ ∃ i H',Inv (X.blk s3 H3 scope ce fp) [] (wipe σ (own.map (·.2))) H' s' /\ tn i s'.heap /\ (∀ b ∈ fp,H' b = none) /\ W i m H' := fun {s' H'} I' nx => by
        obtain ⟨m',hm,w'⟩ := hNx H' nx
        have pin' : ∀ b ∈ fp,∀ o,s7.heap.get? b = some o -> s'.heap.get? b = some o /\ H' b = none := fun b hb o e =>
          let z := I'.pin (b,o) (List.mem_append_right _ (List.mem_append_right _ (mem_pinsAt hb e)))
          ⟨z.1,z.2.1⟩
        have hl : (wipe σ (own.map (·.2))).length = σ8.length := by rw [<- hw8,wipe_length]
        refine ⟨m',hm,i + 1,H',(I'.unpinned (pins := [])).weak hl (fun j v e => ?_),T.keep _ _ _ st7 fun b hb o e => (pin' b hb o e).1,fun b hb => ?_,w'⟩
        · rw [<- hw8] at e
          exact (wipe_some e).1
        · obtain ⟨o,e,_⟩ := T.obj _ _ st7 b hb
          exact (pin' b hb o e).2
      cases b with
      | false =>
        simp only [Bool.false_eq_true,if_false] at q9 ⊢
        exact fin I9 q9
      | true =>
        simp only [if_true] at q9 ⊢
        refine thnF (pe _ s9 σ8 H9 _ I9 q9) fun z s10 ⟨yv,H10,I10,r10,acc,hD10,hz10,nx⟩ => ?_
        exact app_ok (X := X.blk s3 H3 scope ce fp) I10 hD10 hz10 r10 fun s11 I11 => fin I11 nx
  exact codeAny_compStart_list loop (T.self X.A 0 _ _ _ st4 loop)
theorem pe_lc {elt tg iter : Expr} {ifs : List Expr} {scope : Scope} {own : List (Str × Nat)} {pos : Pos} {wi : TI} {g : TG} {tt : TT} {te : TE} (hc : X.calm = true) (hN : X.N.Nodup) (hi : PI X tg iter wi) (ok : BlkOk X.N X.env.scope scope own)
    (hg : ∀ (s : Shared) (H : Hp) (C : Addr) (cl : List (Str × Addr)) (fp : List Addr),PG (X.blk s H scope (compEnvC scope cl C X.env) fp) tg g) (ht : ∀ (s : Shared) (H : Hp) (C : Addr) (cl : List (Str × Addr)) (fp : List Addr),PTs (X.blk s H scope (compEnvC scope cl C X.env) fp) ifs tt)
    (he : ∀ (s : Shared) (H : Hp) (C : Addr) (cl : List (Str × Addr)) (fp : List Addr),PE (X.blk s H scope (compEnvC scope cl C X.env) fp) elt te) (hs : ∀ x,foldedSetIterable iter X.env x = pure x := by intro _; rfl) :
    PE X (.ListComp elt [⟨tg,iter,ifs,0⟩] scope pos) (tLc wi g tt te (own.map (·.2))) := by
  intro pins s σ H Q I h
  rw [eval_ListComp]
  refine lc_core hc hN I hi ok hg ht he hs h fun D C s' m H' I' q hn f => ⟨m,hn,fun h'' sb => ?_⟩
  obtain ⟨f0,f1,f2,f3,f4,f5⟩ := f
  exact ⟨.ref D,H',I'.turned (t' := s'.toks) (fun b o hb e => (sb.2 b hb).trans e) f0 f1 f3 f4 f5,rfl,q⟩
end
noncomputable def blkC (N : List Str) (sc scope : Scope) (own : List (Str × Nat)) : Bool :=
  (match scope.kind with | .function => true | _ => false) && (scope.names.all fun y => decide (scope.names.lookup y.1 = some y.2)) && (own.all fun p => decide (N[p.2]? = some p.1)) &&
    (scope.names.all fun y => match y.2 with
      | .free => (match sc.names.lookup y.1 with | some .cell => true | some .free => true | _ => false)
      | .local => decide (y.1 ∈ own.map (·.1)) || decide (y.1 ∉ N)
      | .cell => decide (y.1 ∈ own.map (·.1)) || decide (y.1 ∉ N)
      | _ => true)
theorem blkOk_by {N : List Str} {sc scope : Scope} {own : List (Str × Nat)} (h : blkC N sc scope own = true) : BlkOk N sc scope own := by
  unfold blkC at h
  simp only [Bool.and_eq_true,List.all_eq_true,decide_eq_true_eq] at h
  obtain ⟨⟨⟨h1,h2⟩,h3⟩,h4⟩ := h
  refine ⟨?_,h2,h3,fun y hy e => ?_,fun y hy e => ?_⟩
  · split at h1
    · assumption
    · cases h1
  · have q := h4 y hy
    simp only [e] at q
    split at q <;> first | exact .inl (by assumption) | exact .inr (by assumption) | cases q
  · have q := h4 y hy
    rcases e with e | e <;> (simp only [e,Bool.or_eq_true,decide_eq_true_eq] at q; exact q)
end L2
namespace L2
open PySem PySem.Spec PyProof.Rows
end L2
namespace L2
open PySem PySem.Spec PyProof.Rows
section
variable {κ : Type} [DecidableEq κ]
noncomputable def valV (kvs : List (κ × V)) (k : κ) : Option V := (kvs.find? fun kv => decide (kv.1 = k)).map (·.2)
noncomputable def putK (kvs : List (κ × V)) (k : κ) (v : V) : List (κ × V) :=
  if (kvs.any fun kv => decide (kv.1 = k)) = true then kvs.map (fun kv => if kv.1 = k then (kv.1,v) else kv) else kvs ++ [(k,v)]
theorem valV_nil {k : κ} : valV ([] : List (κ × V)) k = none := rfl
theorem valV_pos {p : κ × V} {r : List (κ × V)} {k : κ} (e : p.1 = k) : valV (p :: r) k = some p.2 := by simp [valV,List.find?_cons,e]
theorem valV_neg {p : κ × V} {r : List (κ × V)} {k : κ} (e : ¬ p.1 = k) : valV (p :: r) k = valV r k := by simp [valV,List.find?_cons,e]
theorem valV_any (k : κ) : ∀ kvs : List (κ × V),(kvs.any fun kv => decide (kv.1 = k)) = (valV kvs k).isSome
  | [] => rfl
  | p :: r => by
    rw [List.any_cons]
    by_cases e : p.1 = k
    · simp only [valV_pos e,decide_eq_true e,Bool.true_or,Option.isSome_some]
    · rw [valV_neg e,decide_eq_false e,Bool.false_or]; exact valV_any k r
theorem valV_map (k j : κ) (y : V) : ∀ kvs : List (κ × V),valV (kvs.map fun kv => if kv.1 = k then (kv.1,y) else kv) j = (valV kvs j).map fun x => if j = k then y else x
  | [] => rfl
  | p :: r => by
    have ih := valV_map k j y r
    rw [List.map_cons]
    by_cases h : p.1 = k
    · rw [if_pos h]
      by_cases e : p.1 = j
      · rw [valV_pos (p := (p.1,y)) e,valV_pos e,Option.map_some,if_pos (e.symm.trans h)]
      · rw [valV_neg (p := (p.1,y)) e,valV_neg e,ih]
    · rw [if_neg h]
      by_cases e : p.1 = j
      · rw [valV_pos (p := p) e,valV_pos e,Option.map_some,if_neg (fun z => h (e.trans z))]
      · rw [valV_neg (p := p) e,valV_neg e,ih]
theorem valV_snoc (k j : κ) (y : V) : ∀ kvs : List (κ × V),valV kvs k = none -> valV (kvs ++ [(k,y)]) j = if j = k then some y else valV kvs j
  | [],_ => by
    by_cases e : k = j
    · rw [if_pos e.symm]; exact valV_pos (p := (k,y)) e
    · rw [if_neg (fun z => e z.symm)]; exact valV_neg (p := (k,y)) e
  | p :: r,hn => by
    rw [List.cons_append]
    have hk : ¬ p.1 = k := fun z => by rw [valV_pos z] at hn; cases hn
    rw [valV_neg hk] at hn
    have ih := valV_snoc k j y r hn
    by_cases e : p.1 = j
    · rw [valV_pos e,valV_pos e,if_neg (fun z => hk (e.trans z))]
    · rw [valV_neg e,valV_neg e,ih]
theorem valV_put (kvs : List (κ × V)) (k j : κ) (y : V) : valV (putK kvs k y) j = if j = k then some y else valV kvs j := by
  unfold putK
  by_cases a : (kvs.any fun kv => decide (kv.1 = k)) = true
  · rw [if_pos a,valV_map]
    rw [valV_any] at a
    by_cases e : j = k
    · obtain ⟨x,hx⟩ := Option.isSome_iff_exists.mp a
      rw [if_pos e,e,hx,Option.map_some,if_pos rfl]
    · rw [if_neg e]
      cases valV kvs j with
      | none => rfl
      | some x => rw [Option.map_some,if_neg e]
  · rw [if_neg a]
    refine valV_snoc k j y kvs ?_
    rw [valV_any] at a
    cases q : valV kvs k with
    | none => rfl
    | some x => rw [q] at a; exact (a rfl).elim
theorem length_putK (kvs : List (κ × V)) (k : κ) (v : V) : (putK kvs k v).length <= kvs.length + 1 := by
  unfold putK
  split
  · rw [List.length_map]; omega
  · rw [List.length_append,List.length_cons,List.length_nil]; omega
theorem putK_new {kvs : List (κ × V)} {k : κ} (v : V) (h : valV kvs k = none) : putK kvs k v = kvs ++ [(k,v)] := by
  unfold putK
  rw [valV_any,h]
  exact if_neg (by decide)
theorem RelO.isSome_eq {o : Option V} {u : Option Value} (r : RelO o u) : o.isSome = u.isSome := by
  cases o with
  | none => cases u with
    | none => rfl
    | some _ => exact (show False from r).elim
  | some _ => cases u with
    | none => exact (show False from r).elim
    | some _ => rfl
theorem RelO.getD {o : Option V} {u : Option Value} {d : V} {d' : Value} (r : RelO o u) (rd : RelV d d') : RelV (o.getD d) (u.getD d') := by
  cases o with
  | none => cases u with
    | none => exact rd
    | some _ => exact (show False from r).elim
  | some _ => cases u with
    | none => exact (show False from r).elim
    | some _ => exact r
theorem KV.val {kvs : List (κ × V)} {vs : List (κ × Value)} (r : KV kvs vs) (k : κ) : RelO (valV kvs k) (valueAt vs k) := by
  unfold KV at r
  induction r with
  | nil => exact True.intro
  | @cons p q ps qs h t ih =>
    obtain ⟨h1,h2⟩ := h
    by_cases e : p.1 = k
    · have e' : q.1 = k := h1.symm.trans e
      have b : valueAt (q :: qs) k = some q.2 := by simp [valueAt,List.find?_cons,e']
      rw [valV_pos e,b]; exact h2
    · have e' : ¬ q.1 = k := fun z => e (h1.trans z)
      have b : valueAt (q :: qs) k = valueAt qs k := by simp [valueAt,List.find?_cons,e']
      rw [valV_neg e,b]; exact ih
theorem KV.any {kvs : List (κ × V)} {vs : List (κ × Value)} (r : KV kvs vs) (k : κ) : (kvs.any fun kv => decide (kv.1 = k)) = vs.any fun kv => decide (kv.1 = k) := by
  unfold KV at r
  induction r with
  | nil => rfl
  | cons h t ih => rw [List.any_cons,List.any_cons,ih,h.1]
theorem KV.repl {kvs : List (κ × V)} {vs : List (κ × Value)} (r : KV kvs vs) (k : κ) {y : V} {u : Value} (ry : RelV y u) :
    KV (kvs.map fun kv => if kv.1 = k then (kv.1,y) else kv) (vs.map fun kv => if kv.1 = k then (kv.1,u) else kv) := by
  unfold KV at r ⊢
  induction r with
  | nil => exact .nil
  | @cons p q ps qs h t ih =>
    rw [List.map_cons,List.map_cons]
    refine .cons ?_ ih
    obtain ⟨h1,h2⟩ := h
    by_cases e : p.1 = k
    · rw [if_pos e,if_pos (h1.symm.trans e)]; exact ⟨h1,ry⟩
    · rw [if_neg e,if_neg (fun z => e (h1.trans z))]; exact ⟨h1,h2⟩
theorem KV.put {kvs : List (κ × V)} {vs : List (κ × Value)} (r : KV kvs vs) (k : κ) {y : V} {u : Value} (ry : RelV y u) : KV (putK kvs k y) (stored vs k u) := by
  unfold putK stored
  rw [r.any k]
  by_cases e : (vs.any fun kv => decide (kv.1 = k)) = true
  · rw [if_pos e,if_pos e]; exact r.repl k ry
  · rw [if_neg e,if_neg e]; exact Paired.snoc r ⟨rfl,ry⟩
theorem KV.length {kvs : List (κ × V)} {vs : List (κ × Value)} (r : KV kvs vs) : kvs.length = vs.length := Paired.length r
end
theorem kV_is {P : Program} {w : World} {k : Key} {u : Value} (r : RelV (kV k) u) : (mixKind P w).is k u = true := by
  cases k with
  | inl i => obtain ⟨t,e⟩ := (show ∃ t,u = Value.int i t from r); subst e; exact mixKind_int P w i t
  | inr x => obtain ⟨t,e⟩ := (show ∃ t,u = Value.str x t from r); subst e; exact mixKind_str P w x t
theorem items_are {P : Program} {w : World} : ∀ {ks : List Key} {us : List Value},Vals (ks.map kV) us -> ItemsAre (mixKind P w) ks us
  | [],_,r => by rw [List.map_nil] at r; cases r; exact .nil
  | k :: ks,_,r => by
    rw [List.map_cons] at r
    cases r with
    | cons h t => exact .cons (kV_is h) (items_are t)
noncomputable abbrev KT (H : Hp) : List (List Key × V) -> List (List Key × Addr × Value) -> Prop := Paired fun p q => p.1 = q.1 /\ H q.2.1 = some (.tup (p.1.map kV)) /\ RelV p.2 q.2.2
theorem KT.val {H : Hp} {kvs : List (List Key × V)} {xs : List (List Key × Addr × Value)} (r : KT H kvs xs) (k : List Key) : RelO (valV kvs k) ((atKey xs k).map (·.2)) := by
  induction r with
  | nil => exact True.intro
  | @cons p q ps qs h t ih =>
    obtain ⟨h1,_,h2⟩ := h
    by_cases e : p.1 = k
    · have e' : q.1 = k := h1.symm.trans e
      have b : atKey (q :: qs) k = some q.2 := by simp [atKey,List.find?_cons,e']
      rw [valV_pos e,b]; exact h2
    · have e' : ¬ q.1 = k := fun z => e (h1.trans z)
      have b : atKey (q :: qs) k = atKey qs k := by simp [atKey,List.find?_cons,e']
      rw [valV_neg e,b]; exact ih
theorem KT.repl {H : Hp} {kvs : List (List Key × V)} {xs : List (List Key × Addr × Value)} (r : KT H kvs xs) (k : List Key) {y : V} {u : Value} (ry : RelV y u) :
    KT H (kvs.map fun kv => if kv.1 = k then (kv.1,y) else kv) (xs.map (putAt k u)) := by
  induction r with
  | nil => exact .nil
  | @cons p q ps qs h t ih =>
    rw [List.map_cons,List.map_cons]
    refine .cons ?_ ih
    obtain ⟨h1,h2,h3⟩ := h
    unfold putAt
    by_cases e : p.1 = k
    · rw [if_pos e,if_pos (h1.symm.trans e)]; exact ⟨h1,h2,ry⟩
    · rw [if_neg e,if_neg (fun z => e (h1.trans z))]; exact ⟨h1,h2,h3⟩
theorem KT.put {H : Hp} {kvs : List (List Key × V)} {xs : List (List Key × Addr × Value)} (r : KT H kvs xs) (k : List Key) {b : Addr} {y : V} {u : Value} (hb : H b = some (.tup (k.map kV))) (ry : RelV y u) :
    KT H (putK kvs k y) (storedH xs k b u) := by
  have e : (kvs.any fun kv => decide (kv.1 = k)) = (atKey xs k).isSome := by
    rw [valV_any,(r.val k).isSome_eq,Option.isSome_map]
  unfold putK storedH
  rw [e]
  by_cases q : (atKey xs k).isSome = true
  · rw [if_pos q,if_pos q]; exact r.repl k ry
  · rw [if_neg q,if_neg q]; exact Paired.snoc r ⟨rfl,hb,ry⟩
theorem KT.keeps {H H' : Hp} {kvs : List (List Key × V)} {xs : List (List Key × Addr × Value)} (r : KT H kvs xs) (ht : ∀ b ys,H b = some (.tup ys) -> H' b = some (.tup ys)) : KT H' kvs xs :=
  Paired.mapP r fun _ _ z => ⟨z.1,ht _ _ z.2.1,z.2.2⟩
section
variable {P : Program} {w : World} {H : Hp} {h : Heap} {a : Addr}
theorem rd_of {u : HO} (ok : HOk P w H h) (e : Rd H a u) : ObjOk P w H h a u := e.ok ok
theorem dk_rd {kvs : List (Key × V)} (ok : HOk P w H h) (e : Rd H a (.dK kvs)) : kvs.length <= sizeLine /\ (a == sysModules) = false /\ ∃ vs,KV kvs vs /\ h.DictOf (mixKind P w) a vs :=
  show ObjOk P w H h a (.dK kvs) from rd_of ok e
theorem dk_of {kvs : List (Key × V)} (ok : HOk P w H h) (e : H a = some (.dK kvs)) : kvs.length <= sizeLine /\ (a == sysModules) = false /\ ∃ vs,KV kvs vs /\ h.DictOf (mixKind P w) a vs := dk_rd ok (.inl e)
theorem key_of {ks : List Key} (ok : HOk P w H h) (e : H a = some (.tup (ks.map kV))) : (tupleKind (mixKind P w)).is h ks a := by
  obtain ⟨_,its,r,o,h1,h2,n,h3⟩ := (show ObjOk P w H h a (.tup (ks.map kV)) from ok a _ e)
  exact ⟨o,its.toArray,n,h1,h2,h3,by simpa using items_are r⟩
theorem dt_rd {kvs : List (List Key × V)} (ok : HOk P w H h) (e : Rd H a (.dT kvs)) : kvs.length <= sizeLine /\ (a == sysModules) = false /\
    ∃ xs,KT H kvs xs /\ h.DictOfH (tupleKind (mixKind P w)) a xs := by
  obtain ⟨z,y,xs,r,o,es,ep,h1,h2,h3,h4,h5⟩ := (show ObjOk P w H h a (.dT kvs) from rd_of ok e)
  refine ⟨z,y,xs,r,o,es,ep,h1,h2,h3,h4,fun x hx => ?_,h5⟩
  have all : ∀ {l : List (List Key × V)} {m : List (List Key × Addr × Value)},KT H l m -> ∀ x ∈ m,(tupleKind (mixKind P w)).is h x.1 x.2.1 := by
    intro l m q
    induction q with
    | nil => intro x hx; exact nomatch hx
    | @cons p q ps qs hq t ih =>
      intro x hx
      rcases List.mem_cons.mp hx with e | hx
      · subst e
        exact key_of ok (by rw [<- hq.1]; exact hq.2.1)
      · exact ih x hx
  exact all r x hx
theorem dt_of {kvs : List (List Key × V)} (ok : HOk P w H h) (e : H a = some (.dT kvs)) : kvs.length <= sizeLine /\ (a == sysModules) = false /\
    ∃ xs,KT H kvs xs /\ h.DictOfH (tupleKind (mixKind P w)) a xs := dt_rd ok (.inl e)
end
noncomputable def DGet (H : Hp) (a : Addr) (y : V) (r : Option V) : Prop :=
  (∃ kvs k,Rd H a (.dK kvs) /\ y = kV k /\ r = valV kvs k) \/ ∃ kvs k b,Rd H a (.dT kvs) /\ y = .ref b /\ H b = some (.tup (k.map kV)) /\ r = valV kvs k
noncomputable def DPut (H : Hp) (a : Addr) (y v : V) (H' : Hp) : Prop :=
  (∃ kvs k,H a = some (.dK kvs) /\ y = kV k /\ kvs.length < sizeLine /\ H' = upd H a (.dK (putK kvs k v))) \/
  ∃ kvs k b,H a = some (.dT kvs) /\ y = .ref b /\ H b = some (.tup (k.map kV)) /\ kvs.length < sizeLine /\ H' = upd H a (.dT (putK kvs k v))
theorem DGet.t {H : Hp} {a b : Addr} {kvs : List (List Key × V)} {k : List Key} (e : H a = some (.dT kvs)) (eb : H b = some (.tup (k.map kV))) : DGet H a (.ref b) (valV kvs k) := .inr ⟨kvs,k,b,.inl e,rfl,eb,rfl⟩
theorem DPut.t {H : Hp} {a b : Addr} {kvs : List (List Key × V)} {k : List Key} {v : V} (e : H a = some (.dT kvs)) (eb : H b = some (.tup (k.map kV))) (hl : kvs.length < sizeLine) :
    DPut H a (.ref b) v (upd H a (.dT (putK kvs k v))) := .inr ⟨kvs,k,b,e,rfl,eb,hl,rfl⟩
section
variable {X : Cx} {pins : List (Addr × Obj)} {σ : St} {H : Hp} {s : Shared} {a : Addr} {y v : V} {u r : Value} {o : Option V} {A : Around} {E : Value -> Shared -> Prop}
theorem Inv.big (I : Inv X pins σ H s) : sysModules < s.heap.objs.size := by
  have h : mainGlobals < s.heap.objs.size := (I.mod.glob.keeps I.bk).lt
  exact Nat.lt_trans (by decide) h
theorem d_getItem {Q : Value -> Shared -> Prop} (hu : A.units + 1 < cLine) (I : Inv X pins σ H s) (g : DGet H a y (some v)) (ry : RelV y u) (h : ∀ w' s',Inv X pins σ H s' -> RelV v w' -> Q w' s') :
    wpAny (model X.prog X.w) A (getItem (.ref a) u) Q E s := by
  rcases g with ⟨kvs,k,e,ey,l⟩ | ⟨kvs,k,b,e,ey,eb,l⟩
  · subst ey
    obtain ⟨z,hd,vs,rel,dd⟩ := dk_rd I.hok e
    obtain ⟨w',hw,rw'⟩ := RelO.some_of (v := v) (o := valueAt vs k) (by rw [l]; exact rel.val k)
    exact wpAny_getItem_of (kV_is ry) dd.mapOf hw (h w' _ (I.tok _) rw')
  · subst ey
    cases (show u = Value.ref b from ry)
    obtain ⟨z,hd,xs,rel,dd⟩ := dt_rd I.hok e
    obtain ⟨w',hw,rw'⟩ := RelO.some_of (v := v) (o := (atKey xs k).map (·.2)) (by rw [l]; exact rel.val k)
    obtain ⟨p,hp,hp2⟩ := Option.map_eq_some_iff.mp hw
    refine wpAny_getItem_heap (tupleKind_room_in1 hu) (key_of I.hok eb) dd hp ?_
    rw [hp2]
    exact h w' _ (I.tok _) rw'
theorem d_in {Q : Value -> Shared -> Prop} (hu : A.units + 1 < cLine) (I : Inv X pins σ H s) (g : DGet H a y o) (ry : RelV y u) (h : ∀ s',Inv X pins σ H s' -> Q (.bool o.isSome) s') :
    wpAny (model X.prog X.w) A (compareOp .In u (.ref a)) Q E s := by
  rcases g with ⟨kvs,k,e,ey,l⟩ | ⟨kvs,k,b,e,ey,eb,l⟩
  · subst ey
    obtain ⟨z,hd,vs,rel,dd⟩ := dk_rd I.hok e
    refine wpAny_in_of (kV_is ry) hd dd.mapOf ?_
    rw [<- (rel.val k).isSome_eq,<- l]
    exact h _ (I.tok _)
  · subst ey
    cases (show u = Value.ref b from ry)
    obtain ⟨z,hd,xs,rel,dd⟩ := dt_rd I.hok e
    refine wpAny_in_heap (tupleKind_room_in1 hu) (key_of I.hok eb) hd dd ?_
    have q := (rel.val k).isSome_eq
    rw [Option.isSome_map] at q
    rw [<- q,<- l]
    exact h _ (I.tok _)
theorem d_notIn {Q : Value -> Shared -> Prop} (hu : A.units + 1 < cLine) (I : Inv X pins σ H s) (g : DGet H a y o) (ry : RelV y u) (h : ∀ s',Inv X pins σ H s' -> Q (.bool (!o.isSome)) s') :
    wpAny (model X.prog X.w) A (compareOp .NotIn u (.ref a)) Q E s := by
  rcases g with ⟨kvs,k,e,ey,l⟩ | ⟨kvs,k,b,e,ey,eb,l⟩
  · subst ey
    obtain ⟨z,hd,vs,rel,dd⟩ := dk_rd I.hok e
    refine wpAny_notIn_of (kV_is ry) hd dd.mapOf ?_
    rw [<- (rel.val k).isSome_eq,<- l]
    exact h _ (I.tok _)
  · subst ey
    cases (show u = Value.ref b from ry)
    obtain ⟨z,hd,xs,rel,dd⟩ := dt_rd I.hok e
    refine wpAny_notIn_heap (tupleKind_room_in1 hu) (key_of I.hok eb) hd dd ?_
    have q := (rel.val k).isSome_eq
    rw [Option.isSome_map] at q
    rw [<- q,<- l]
    exact h _ (I.tok _)
theorem d_write {h' : Heap} {t' : Nat} {ob : HO} (I : Inv X pins σ H s) (mu : Mut (H a)) (hs : Heap.SameBut a s.heap h') (he : ∃ q,h'.get? a = some q) (new : ObjOk X.prog X.w (upd H a ob) h' a ob) :
    Inv X pins σ (upd H a ob) { s with heap := h',toks := t' } :=
  I.write (x := a) (e := a) mu (.inl rfl) (fun b q hb z => (hs.2 b hb).trans z) he new
theorem dk_new {P : Program} {w : World} {H' : Hp} {h' : Heap} {kvs : List (Key × V)} {vs : List (Key × Value)} (z : kvs.length <= sizeLine) (hd : (a == sysModules) = false) (rel : KV kvs vs) (dd : h'.DictOf (mixKind P w) a vs) :
    ObjOk P w H' h' a (.dK kvs) := ⟨z,hd,vs,rel,dd⟩
theorem d_setItem {H' : Hp} {Q : Unit -> Shared -> Prop} (hu : A.units + 1 < cLine) (I : Inv X pins σ H s) (g : DPut H a y v H') (ry : RelV y u) (rv : RelV v r) (h : ∀ s',Inv X pins σ H' s' -> Q () s') :
    wpAny (model X.prog X.w) A (setItem (.ref a) u r) Q E s := by
  rcases g with ⟨kvs,k,e,ey,l,eH⟩ | ⟨kvs,k,b,e,ey,eb,l,eH⟩
  · subst ey eH
    obtain ⟨z,hd,vs,rel,dd⟩ := dk_of I.hok e
    have hz : vs.length <= sizeLine := by rw [<- rel.length]; exact z
    have hl : (putK kvs k v).length <= sizeLine := by have := length_putK kvs k v; omega
    refine wpAny_setItem_pairs (hsz := hz) (kV_is ry) dd fun h' dd' hs => h _ ?_
    have he : ∃ q,h'.get? a = some q := let ⟨q,_,_,hq,_⟩ := dd'; ⟨q,hq⟩
    exact d_write I (by rw [e]; exact True.intro) hs he (dk_new hl hd (rel.put k rv) dd')
  · subst ey eH
    cases (show u = Value.ref b from ry)
    obtain ⟨z,hd,xs,rel,dd⟩ := dt_of I.hok e
    have hz : xs.length <= sizeLine := by rw [<- Paired.length rel]; exact z
    have hl : (putK kvs k v).length <= sizeLine := by have := length_putK kvs k v; omega
    refine wpAny_setItem_heap (hsz := hz) (tupleKind_room_in1 hu) (key_of I.hok eb) dd fun h' dd' hs => h _ ?_
    obtain ⟨q,es,ep,hq,h2,h3,h4,_,h5⟩ := dd'
    refine d_write I (by rw [e]; exact True.intro) hs ⟨q,hq⟩ ⟨hl,hd,_,(rel.put k eb rv).keeps fun c ys ec => ?_,q,es,ep,hq,h2,h3,h4,h5⟩
    rw [upd_ne (ne_of ec e (fun z => nomatch z))]
    exact ec
end
noncomputable def NoSl (i : Expr) : Prop := ∀ ov iv,subscripted i false ov iv = operate [ov,iv] (getItem ov iv)
theorem subD_of {prog : Program} {w : World} {A : Around} {E : Value -> Shared -> Prop} {s : Shared} {env : Env} {value slice : Expr} {pos : Pos} {T id : String} {Q : Value -> Shared -> Prop}
    (hl : typeLookup (.type T) "__getitem__" = pure (some (.builtin id))) (hs : NoSl slice)
    (h : wpAny (model prog w) A (eval value env) (fun o s₁ => wpAny (model prog w) A (eval slice env) (fun i s₂ => s₂.TypeIs o T /\ wpAny (model prog w) A (getItem o i) Q E s₂) E s₁) E s) :
    wpAny (model prog w) A (eval (.Subscript value slice pos) env) Q E s := by
  refine Subscript_ (wpAny_mono h (fun o s₁ h₁ => wpAny_mono h₁ (fun i s₂ h₂ => ?_) fun _ _ x => x) fun _ _ x => x)
  obtain ⟨hT,h₂⟩ := h₂
  unfold subscriptTail
  refine wpAny_bind ?_
  rw [getitemInPython_of_ne hT.not_modules]
  refine wpAny_bind (wpAny_specialOf hT hl ?_)
  have fin : wpAny (model prog w) A (subscripted slice false o i) (fun r s₃ => wpAny (model prog w) A (letTemporaryGo value o r >>= fun _ => pure r) Q E s₃) E s₂ := by
    rw [hs o i]
    exact wpAny_operating (wpAny_mono h₂ (fun r s₃ h₃ => wpAny_bind (wpAny_letTemporaryGo (wpAny_pure h₃))) fun _ _ x => x)
  first
    | exact wpAny_pure (wpAny_bind fin)
    | exact wpAny_bind (wpAny_pure (wpAny_bind fin))
    | exact wpAny_bind fin
theorem dict_typeIs {X : Cx} {pins : List (Addr × Obj)} {σ : St} {H : Hp} {s : Shared} {a : Addr} {y : V} {o : Option V} (I : Inv X pins σ H s) (g : DGet H a y o) : s.TypeIs (.ref a) "dict" := by
  rcases g with ⟨kvs,k,e,_,_⟩ | ⟨kvs,k,b,e,_,_,_⟩
  · obtain ⟨_,_,vs,_,dd⟩ := dk_rd I.hok e
    exact dd.typeIs
  · obtain ⟨_,_,xs,_,dd⟩ := dt_rd I.hok e
    exact dd.typeIs
noncomputable def tDGet (td ty : TE) : TE := fun σ H Q => td σ H fun x H1 => ty σ H1 fun y H2 => ∃ a v,x = .ref a /\ DGet H2 a y (some v) /\ Q v H2
noncomputable def tDIn (ty td : TE) : TE := fun σ H Q => ty σ H fun y H1 => td σ H1 fun x H2 => ∃ a o,x = .ref a /\ DGet H2 a y o /\ Q (.bl o.isSome) H2
noncomputable def tDNotIn (ty td : TE) : TE := fun σ H Q => ty σ H fun y H1 => td σ H1 fun x H2 => ∃ a o,x = .ref a /\ DGet H2 a y o /\ Q (.bl (!o.isSome)) H2
noncomputable def sDPut (td ty tv : TE) : TS := fun D σ H => tv σ H fun v H1 => td σ H1 fun x H2 => ty σ H2 fun y H3 => ∃ a H4,x = .ref a /\ DPut H3 a y v H4 /\ D.nx σ H4
section
variable {X : Cx} {o i e value : Expr} {pos pos' tpos : Pos} {td ty tv : TE}
theorem pe_dget (hu : X.A.units + 1 < cLine) (ho : PE X o td) (hi : PE X i ty) (hs : NoSl i) : PE X (.Subscript o i pos) (tDGet td ty) := by
  intro pins s σ H Q I h
  refine subD_of PySem.F.slot_dict_getitem.lookup hs (thn (ho pins s σ H _ I h) fun u s1 ⟨x,H1,I1,rx,q1⟩ => thn (hi pins s1 σ H1 _ I1 q1) fun iv s2 ⟨y,H2,I2,ry,a,v,ex,g,q2⟩ => ?_)
  subst ex
  obtain rfl : u = Value.ref a := rx
  exact ⟨dict_typeIs I2 g,d_getItem hu I2 g ry fun w' s3 I3 rw' => ⟨v,H2,I3,rw',q2⟩⟩
theorem pc_din (hu : X.A.units + 1 < cLine) (hi : PE X i ty) (ho : PE X o td) : PC X .In i o (tDIn ty td) := by
  intro pins s σ H Q I h
  refine thn (hi pins s σ H _ I h) fun iv s1 ⟨y,H1,I1,ry,q1⟩ => thn (ho pins s1 σ H1 _ I1 q1) fun u s2 ⟨x,H2,I2,rx,a,ov,ex,g,q2⟩ => ?_
  subst ex
  obtain rfl : u = Value.ref a := rx
  exact d_in hu I2 g ry fun s3 I3 => ⟨.bl ov.isSome,H2,I3,rfl,q2⟩
theorem pc_dnotin (hu : X.A.units + 1 < cLine) (hi : PE X i ty) (ho : PE X o td) : PC X .NotIn i o (tDNotIn ty td) := by
  intro pins s σ H Q I h
  refine thn (hi pins s σ H _ I h) fun iv s1 ⟨y,H1,I1,ry,q1⟩ => thn (ho pins s1 σ H1 _ I1 q1) fun u s2 ⟨x,H2,I2,rx,a,ov,ex,g,q2⟩ => ?_
  subst ex
  obtain rfl : u = Value.ref a := rx
  exact d_notIn hu I2 g ry fun s3 I3 => ⟨.bl (!ov.isSome),H2,I3,rfl,q2⟩
theorem ps_dput (hu : X.A.units + 1 < cLine) (ho : PE X o td) (hi : PE X i ty) (hv : PE X value tv) (hs : swapsWith value (some (.Subscript o i pos')) pos.line X.env = pure false) :
    PS X (.Assign [.Subscript o i pos'] value pos) (sDPut td ty tv) := by
  intro pins s σ H D I h
  refine wpAny_Assign_Subscript (thn (hv pins s σ H _ I h) fun r s1 ⟨v,H1,I1,rv,q1⟩ => thn (ho pins s1 σ H1 _ I1 q1) fun u s2 ⟨x,H2,I2,rx,q2⟩ => thn (hi pins s2 σ H2 _ I2 q2) fun iv s3 ⟨y,H3,I3,ry,a,H4,ex,g,q3⟩ => ?_) hs
  subst ex
  obtain rfl : u = Value.ref a := rx
  exact d_setItem hu I3 g ry rv fun s4 I4 => ⟨σ,H4,I4,q3⟩
end
theorem dt_empty {P : Program} {w : World} {H : Hp} (h : Heap) (hb : sysModules < h.objs.size) : ObjOk P w H (h.push { cls := .type "dict",data := .dict #[] }) h.objs.size (.dT []) :=
  ⟨Nat.zero_le _,beq_eq_false_iff_ne.mpr (Ne.symm (Nat.ne_of_lt hb)),[],.nil,_,#[],0,Heap.get?_push_size _ rfl,⟨rfl,rfl,rfl⟩,rfl,rfl,List.nodup_nil⟩
noncomputable def tDNewT : TE := fun _ H Q => ∀ p,H p = none -> Q (.ref p) (upd H p (.dT []))
section
variable {X : Cx} {pos : Pos}
theorem pe_dnewT : PE X (.Dict [] [] pos) tDNewT := fun pins s σ H Q I h =>
  wpAny_Dict_empty ⟨.ref s.heap.objs.size,_,I.laid (a := s.heap.objs.size) (o := .dT []) (t' := s.toks) (fun _ _ q => Heap.get?_push_of_some _ q) (Nat.le_refl _) (dt_empty s.heap I.big),rfl,h _ (I.hok.fresh (Nat.le_refl _))⟩
end
structure M1 (X : Cx) (o : Expr) (m : Str) (apos : Pos) (e : Expr) (cpos : Pos) : Prop where
  base : attributeBase o m X.env (eval o X.env) = eval o X.env
  few : ((backTo cpos (starEach [e] X.env)).all (fun x => !x.1) && (backToKw cpos (keywordEach [] X.env)).all (fun x => x.1.isSome)
    && decide (([e] : List Expr).length + ([] : List Keyword).length + (if ([] : List Keyword).isEmpty then 0 else 1) < 30)) = true
  line : (apos.endLine == cpos.line) = true
  trees : backTo cpos (starEach [e] X.env) = [(false,eval e X.env)]
structure M2 (X : Cx) (o : Expr) (m : Str) (apos : Pos) (e f : Expr) (cpos : Pos) : Prop where
  base : attributeBase o m X.env (eval o X.env) = eval o X.env
  few : ((backTo cpos (starEach [e,f] X.env)).all (fun x => !x.1) && (backToKw cpos (keywordEach [] X.env)).all (fun x => x.1.isSome)
    && decide (([e,f] : List Expr).length + ([] : List Keyword).length + (if ([] : List Keyword).isEmpty then 0 else 1) < 30)) = true
  line : (apos.endLine == cpos.line) = true
  trees : backTo cpos (starEach [e,f] X.env) = [(false,eval e X.env),(false,eval f X.env)]
noncomputable def IsD (H : Hp) (a : Addr) : Prop := (∃ kvs,Rd H a (.dK kvs)) \/ ∃ kvs,Rd H a (.dT kvs)
theorem isD_at {X : Cx} {pins : List (Addr × Obj)} {σ : St} {H : Hp} {s : Shared} {a : Addr} (I : Inv X pins σ H s) (d : IsD H a) :
    s.TypeIs (.ref a) "dict" /\ (∀ b,Value.ref a = .ref b -> ∃ ob,s.heap.get? b = some ob /\ ob.dict = none) /\ (a == sysModules) = false := by
  rcases d with ⟨kvs,e⟩ | ⟨kvs,e⟩
  · obtain ⟨_,hd,vs,_,dd⟩ := dk_rd I.hok e
    refine ⟨dd.typeIs,fun b q => ?_,hd⟩
    cases q
    obtain ⟨ob,_,_,h1,h2,_⟩ := dd
    exact ⟨ob,h1,h2.2.1⟩
  · obtain ⟨_,hd,xs,_,dd⟩ := dt_rd I.hok e
    refine ⟨dd.typeIs,fun b q => ?_,hd⟩
    cases q
    obtain ⟨ob,_,_,h1,h2,_⟩ := dd
    exact ⟨ob,h1,h2.2.1⟩
section
variable {X : Cx} {pins : List (Addr × Obj)} {σ : St} {H : Hp} {s : Shared} {a : Addr} {y d : V} {u r : Value} {o : Option V} {A : Around} {E : Value -> Shared -> Prop}
theorem d_get2 {Q : Value -> Shared -> Prop} (hu : A.units + 1 < cLine) (I : Inv X pins σ H s) (g : DGet H a y o) (ry : RelV y u) (rd : RelV d r) (h : ∀ w' s',Inv X pins σ H s' -> RelV (o.getD d) w' -> Q w' s') :
    wpAny (model X.prog X.w) A (call (.builtin "dict.get") [.ref a,u,r]) Q E s := by
  rcases g with ⟨kvs,k,e,ey,l⟩ | ⟨kvs,k,b,e,ey,eb,l⟩
  · subst ey
    obtain ⟨z,hd,vs,rel,dd⟩ := dk_rd I.hok e
    refine call_meetsIn PySem.F.slot_dict_get dd.typeIs PySem.F.entry_dict_get (PySem.F.args_dict_get_3 _ _ _) (meets_dict_get_default (mixKind X.prog X.w) a (kV_is ry) hd r) ⟨_,dd.mapOf,h _ _ (I.tok _) ?_⟩
    rw [l]
    exact (rel.val k).getD rd
  · subst ey
    cases (show u = Value.ref b from ry)
    obtain ⟨z,hd,xs,rel,dd⟩ := dt_rd I.hok e
    refine call_meetsIn PySem.F.slot_dict_get dd.typeIs PySem.F.entry_dict_get (PySem.F.args_dict_get_3 _ _ _) (meetsH_dict_get_default (tupleKind (mixKind X.prog X.w)) a b hd r) ⟨tupleKind_room_in1 hu,k,xs,key_of I.hok eb,dd,h _ _ (I.tok _) ?_⟩
    rw [l]
    exact (rel.val k).getD rd
end
noncomputable def tDGet2 (td ty tx : TE) : TE := fun σ H Q => td σ H fun x H1 => ∃ a,x = .ref a /\ IsD H1 a /\ ty σ H1 fun y H2 => tx σ H2 fun z H3 => ∃ o,DGet H3 a y o /\ Q (o.getD z) H3
section
variable {X : Cx} {o e f : Expr} {apos cpos : Pos} {td ty tx : TE}
theorem pe_dget2 (hu : X.A.units + 1 < cLine) (ho : PE X o td) (he : PE X e ty) (hf : PE X f tx) (m : M2 X o "get" apos e f cpos) : PE X (.Call (.Attribute o "get" apos) [e,f] [] cpos) (tDGet2 td ty tx) := by
  intro pins s σ H Q I h
  refine wpAny_Call_method m.base m.few m.line PySem.F.plainAttrs_dict PySem.F.slot_dict_get PySem.F.type_dict_get (thn (ho pins s σ H _ I h) fun u s1 ⟨x,H1,I1,rx,a,ex,d,q1⟩ => ?_)
  subst ex
  obtain rfl : u = Value.ref a := rx
  obtain ⟨t1,t2,_⟩ := isD_at I1 d
  refine ⟨t1,t2,?_⟩
  rw [m.trees]
  refine Calls.callWith_builtin rfl (Calls.evalArgs_plain (Calls.spliced_cons (thn (he pins s1 σ H1 _ I1 q1) fun iv s2 ⟨y,H2,I2,ry,q2⟩ =>
    Calls.spliced_cons (thn (hf pins s2 σ H2 _ I2 q2) fun fv s3 ⟨z,H3,I3,rz,ov,g,q3⟩ => Calls.spliced_nil ?_))))
  exact d_get2 hu I3 g ry rz fun w' s4 I4 rw' => ⟨_,H3,I4,rw',q3⟩
end
end L2
namespace L2
open PySem PySem.Spec PyProof.Rows
section
variable {prog : Program} {w : World} {A : Around} {E : Value -> Shared -> Prop}
end
end L2
namespace L2
open PySem PySem.Spec PyProof.Rows
theorem boot_reversed5 : bootBuiltins "reversed" = some (.type "reversed") := by decide +kernel
section
variable {X : Cx} {pins : List (Addr × Obj)} {σ : St} {H : Hp} {s : Shared} {h' : Heap}
end
section
variable {X : Cx}
theorem pi_one {tg : Expr} {pins : List (Addr × Obj)} {σ : St} {H : Hp} {s : Shared} {R : It -> Hp -> Prop} {J : It} {tn : Nat -> Heap -> Prop} {tk : Nat} (I : Inv X pins σ H s) (o : Obj)
    (T : Turn X.prog X.w X.K tg J [s.heap.objs.size] s.heap.objs.size tn) (st : tn 0 (s.heap.push o)) (q : R J H) : PIE X pins σ tg R (.ref s.heap.objs.size) { s with heap := s.heap.push o,toks := tk } := by
  refine ⟨s.heap.objs.size,[s.heap.objs.size],tn,J,H,rfl,I.kept fun b ob e => Heap.get?_push_of_some _ e,T,st,fun b hb => ?_,q⟩
  have e : b = s.heap.objs.size := by simpa using hb
  subst e
  exact I.fpOk (Nat.le_refl _) (I.hok.fresh (Nat.le_refl _))
end
noncomputable def Its (x : Str) : It := ⟨fun i _ => i < x.cps.size,fun i H v H' => H' = H /\ ∃ c,x.cps[i]? = some c /\ v = .str ⟨#[c]⟩,fun i _ => x.cps.size <= i⟩
theorem turn_str {P : Program} {w : World} {K : PySem.W.Frag} {tg : Expr} (it : Addr) (x : Str) (t : Tok) (ty : String) (hty : ty = "str_ascii_iterator" \/ ty = "str_iterator") :
    Turn P w K tg (Its x) [it] it (fun i h => h.IsStrIter it ty x t i) where
  mem := by simp
  obj := fun i h st b hb => by
    have e : b = it := by simpa using hb
    subst e
    obtain ⟨o,e,c,d⟩ := st
    exact ⟨o,e,fun v z => by rw [d] at z; cases z⟩
  keep := fun i h h' st k => let ⟨o,ho,r⟩ := st; ⟨o,k it (by simp) o ho,r⟩
  item := by
    intro X hP hw hK hc i pins s σ H E I hf st hg
    subst hP hw hK
    obtain ⟨f0,f1,f2,f3,f4,f5⟩ := hf it (by simp)
    have W : Walks X.prog X.w X.A it [it] [it] x.cps.size (SignAt x) (fun i h => h.IsStrIter it ty x t i) := by
      rcases hty with e | e
      · rw [e]; exact Walks.strAscii (I.ok.hd hc) it x t
      · rw [e]; exact Walks.strWide (I.ok.hd hc) it x t
    have hno : ["enumerate","zip","dict_itemiterator","dict_reverseitemiterator","odict_iterator","itertools.zip_longest","itertools.pairwise"].contains ty = false := by
      rcases hty with e | e
      · rw [e]; decide
      · rw [e]; decide
    refine W.item i s _ _ hg st fun v h' tk hv st' kk => ?_
    obtain ⟨c,u,hcx,rfl⟩ := hv
    have I1 : Inv X pins σ H { s with heap := h',toks := tk } := I.turned (fun b o hb e => kk b o (by simpa using hb) e) f0 f1 f3 f4 f5
    obtain ⟨oi,e,cc,dd⟩ := id st'
    exact ⟨_,rfl,go_of (s := { s with heap := h',toks := tk }) e cc dd hno ⟨.str ⟨#[c]⟩,H,I1,⟨u,rfl⟩,⟨rfl,c,hcx,rfl⟩,st',fun b hb => (hf b hb).1⟩⟩
  done := by
    intro X hP hw hK hc i pins s σ H E I hf st hg
    subst hP hw hK
    obtain ⟨f0,f1,f2,f3,f4,f5⟩ := hf it (by simp)
    have hx : x.cps[i]? = none := Array.getElem?_eq_none hg
    rcases hty with e | e
    · rw [e] at st
      exact wpAny_pyNext_ascii_end (I.ok.hd hc) st hx fun h' eb => ⟨rfl,I.turned (t' := s.toks) (fun b o hb e => eb b o hb e) f0 f1 f3 f4 f5⟩
    · rw [e] at st
      exact wpAny_pyNext_wide_end (I.ok.hd hc) st hx fun h' eb => ⟨rfl,I.turned (t' := s.toks) (fun b o hb e => eb b o hb e) f0 f1 f3 f4 f5⟩
  self := fun A i s Q E st h => by
    rcases hty with e | e
    · rw [e] at st; exact wpAny_pyIter_striter_ascii st h
    · rw [e] at st; exact wpAny_pyIter_striter_wide st h
noncomputable def iStr (te : TE) : TI := fun σ H R => te σ H fun v H1 => ∃ x,v = .str x /\ R (Its x) H1
theorem pi_str {X : Cx} {tg e : Expr} {te : TE} (he : PE X e te) : PI X tg e (iStr te) := by
  intro pins s σ H R I h
  refine thn (he pins s σ H _ I h) fun v s1 ⟨y,H1,I1,r1,x,ex,q⟩ => ?_
  subst ex
  obtain ⟨t,rfl⟩ := r1
  cases ha : x.cps.all (· < 128)
  · exact wpAny_pyIter_wide ha (pi_one (tk := s1.toks) I1 _ (turn_str _ x t "str_iterator" (.inr rfl)) ⟨_,Heap.get?_push_size _ rfl,rfl,rfl⟩ q)
  · exact wpAny_pyIter_ascii ha (pi_one (tk := s1.toks) I1 _ (turn_str _ x t "str_ascii_iterator" (.inl rfl)) ⟨_,Heap.get?_push_size _ rfl,rfl,rfl⟩ q)
section
variable {prog : Program} {w : World} {A : Around} {E : Value -> Shared -> Prop} {s : Shared}
theorem iter_keys {d : Addr} {o : Obj} {es : Array DictEntry} {ep : Nat} {Q : Value -> Shared -> Prop} (hd : (d == sysModules) = false) (ho : s.heap.get? d = some o) (hc : o.ExactDict) (hdat : o.data = .dict es ep)
    (hQ : Q (.ref s.heap.objs.size) { s with heap := s.heap.push { cls := .type "dict_keyiterator",data := .fields #[.ref d,.int 0 0,.int es.size 0,.int ep 0] } }) :
    wpAny (model prog w) A (pyIter (.ref d)) Q E s := by
  have hT : s.TypeIs (.ref d) "dict" := ⟨o,ho,hc.1⟩
  refine wpAny_pyIter_slot hT F.slot_dict_iter (wpAny_call_entry F.slot_dict_iter hT F.entry_dict_iter ?_ (F.args_dict_iter_1 _))
  unfold Builtin.«dict.__iter__»
  refine wpAny_bind ?_
  unfold Builtin.Dict.dictSlotNone
  refine wpAny_bind (wpAny_notOrdered_dict hT ?_)
  show wpAny _ _ (pure (Value.ref d)) _ _ s
  refine wpAny_pure ?_
  show wpAny _ _ (Builtin.Dict.showsAll d >>= _) _ _ s
  unfold Builtin.Dict.showsAll
  rw [if_neg (by rw [hd]; exact Bool.false_ne_true)]
  refine wpAny_bind (wpAny_pure ?_)
  refine wpAny_bind (wpAny_dictEntries ho hdat ?_)
  refine wpAny_bind (wpAny_dictEpoch ho hdat ?_)
  refine wpAny_bind (wpAny_newObj_type (wpAny_pure ⟨_,rfl,"dict_keyiterator",_,⟨_,Heap.get?_push_size _ rfl,rfl⟩,F.slot_dict_keyiterator_next.lookup,?_⟩))
  simpa [rawInt] using hQ
theorem next_key_item {it d : Addr} {i n ep : Nat} {od : Obj} {es : Array DictEntry} {en : DictEntry} {Q : Option Value -> Shared -> Prop} (hit : s.heap.IsKeyIter it d i n ep) (hod : s.heap.get? d = some od) (hdd : od.data = .dict es ep)
    (hsz : es.size = n) (hx : es[i]? = some en) (hQ : ∀ h',h'.IsKeyIter it d (i + 1) n ep -> Heap.SameBut it s.heap h' -> Q (some en.key) { s with heap := h' }) : wpAny (model prog w) A (pyNext (.ref it)) Q E s := by
  obtain ⟨o,ho,hc,hd⟩ := id hit
  unfold pyNext
  refine wpAny_bind (wpAny_attempt (wpAny_callSpecial?_slot (name := Str.ofString "__next__") hit.typeIs F.slot_dict_keyiterator_next
    (wpAny_call_entry F.slot_dict_keyiterator_next hit.typeIs F.entry_dict_keyiterator_next ?_ (F.args_dict_keyiterator_next_1 _))))
  refine wpAny_bind (wpAny_pure ?_)
  refine wpAny_bind ?_
  refine wpAny_bind ?_
  first | refine wpAny_bind (wpAny_typeNameOfWhole_keyiter hit.typeIs (wpAny_pure ?_)) | refine wpAny_bind (wpAny_typeNameOf_keyiter hit.typeIs (wpAny_pure ?_))
  refine wpAny_bind (wpAny_fieldsOf ho hd ?_)
  have hown : Builtin.Dict_items.ownsTuple "dict_keyiterator" = false := by decide
  simp only [hown,Bool.false_eq_true,if_false]
  show wpAny _ _ (if (Value.ref d == Value.none) = true then _ else _) _ _ s
  rw [if_neg (show ¬ ((Value.ref d == Value.none) = true) from Bool.false_ne_true)]
  refine wpAny_bind (wpAny_pure ?_)
  refine wpAny_bind (wpAny_dictEntries hod hdd ?_)
  rw [if_neg (by rw [hsz]; simp)]
  refine wpAny_bind (wpAny_pure ?_)
  refine wpAny_bind (wpAny_dictEpoch hod hdd ?_)
  rw [if_neg (by simp)]
  refine wpAny_pure ?_
  obtain ⟨hlt',hen⟩ := Array.getElem?_eq_some_iff.mp hx
  simp only [show ¬ ((i : Int) < 0) from by omega,if_false,Int.toNat_natCast,Array.getElem?_eq_getElem hlt']
  refine wpAny_bind ?_
  first | refine wpAny_bind (wpAny_typeNameOfWhole_keyiter hit.typeIs (wpAny_pure ?_)) | refine wpAny_bind (wpAny_typeNameOf_keyiter hit.typeIs (wpAny_pure ?_))
  refine wpAny_bind (wpAny_isOneOf_keyiter hit.typeIs ?_)
  show wpAny _ _ (setField (.ref it) 1 (rawInt ((i : Int) + 1)) >>= _) _ _ s
  refine wpAny_bind (wpAny_setField ho hd (by simp) ?_)
  have hit' : (s.heap.update it (Obj.mapFields (·.setIfInBounds 1 (rawInt ((i : Int) + 1))))).IsKeyIter it d (i + 1) n ep :=
    ⟨_,Heap.get?_update_self _ ho (Obj.isFreed_of_fields (Obj.data_mapFields hd _)),(Obj.cls_mapFields ..).trans hc,by rw [Obj.data_mapFields hd]; simp [rawInt]⟩
  refine wpAny_bind (wpAny_holding ?_)
  refine wpAny_bind (wpAny_isOneOf_keyiter (s := { s with heap := s.heap.update it (Obj.mapFields (·.setIfInBounds 1 (rawInt ((i : Int) + 1)))) }) hit'.typeIs ?_)
  show wpAny _ _ (pure es[i].key) _ _ _
  rw [hen]
  exact wpAny_pure (wpAny_pure ⟨_,rfl,wpAny_pure (hQ _ hit' (Heap.SameBut.update ..))⟩)
theorem next_key_end {it d : Addr} {i n ep : Nat} {od : Obj} {es : Array DictEntry} {Q : Option Value -> Shared -> Prop} (hh : A.handled = none) (hit : s.heap.IsKeyIter it d i n ep) (hod : s.heap.get? d = some od) (hdd : od.data = .dict es ep)
    (hsz : es.size = n) (hge : n <= i) (hQ : ∀ h',Heap.ExtBut it s.heap h' -> Q none { s with heap := h' }) : wpAny (model prog w) A (pyNext (.ref it)) Q E s := by
  obtain ⟨o,ho,hc,hd⟩ := id hit
  unfold pyNext
  refine wpAny_bind (wpAny_attempt (wpAny_callSpecial?_slot (name := Str.ofString "__next__") hit.typeIs F.slot_dict_keyiterator_next
    (wpAny_call_entry F.slot_dict_keyiterator_next hit.typeIs F.entry_dict_keyiterator_next ?_ (F.args_dict_keyiterator_next_1 _))))
  refine wpAny_bind (wpAny_pure ?_)
  refine wpAny_bind ?_
  refine wpAny_bind ?_
  first | refine wpAny_bind (wpAny_typeNameOfWhole_keyiter hit.typeIs (wpAny_pure ?_)) | refine wpAny_bind (wpAny_typeNameOf_keyiter hit.typeIs (wpAny_pure ?_))
  refine wpAny_bind (wpAny_fieldsOf ho hd ?_)
  have hown : Builtin.Dict_items.ownsTuple "dict_keyiterator" = false := by decide
  simp only [hown,Bool.false_eq_true,if_false]
  show wpAny _ _ (if (Value.ref d == Value.none) = true then _ else _) _ _ s
  rw [if_neg (show ¬ ((Value.ref d == Value.none) = true) from Bool.false_ne_true)]
  refine wpAny_bind (wpAny_pure ?_)
  refine wpAny_bind (wpAny_dictEntries hod hdd ?_)
  rw [if_neg (by rw [hsz]; simp)]
  refine wpAny_bind (wpAny_pure ?_)
  refine wpAny_bind (wpAny_dictEpoch hod hdd ?_)
  rw [if_neg (by simp)]
  refine wpAny_pure ?_
  have hge' : es.size <= i := by rw [hsz]; exact hge
  simp only [show ¬ ((i : Int) < 0) from by omega,if_false,Int.toNat_natCast,Array.getElem?_eq_none hge']
  refine wpAny_bind ?_
  first | refine wpAny_bind (wpAny_typeNameOfWhole_keyiter hit.typeIs (wpAny_pure ?_)) | refine wpAny_bind (wpAny_typeNameOf_keyiter hit.typeIs (wpAny_pure ?_))
  show wpAny _ _ (setField (.ref it) 0 .none >>= _) _ _ s
  refine wpAny_bind (wpAny_setField ho hd (by simp) ?_)
  show wpAny _ _ (newExc (.type "StopIteration") [] >>= _) _ _ _
  refine wpAny_bind ?_
  simp only [newExc,newTuple]
  refine wpAny_bind (wpAny_newObj_type ?_ (by size_fits))
  refine wpAny_bind (m := firstArgMember _ _) (wpAny_of_eq (a := Value.none) (by first | rfl | (simp only [firstArgMember]; rfl)) ?_)
  refine wpAny_newObj_type ?_ (by size_fits)
  simp only [raiseNew]
  refine wpAny_bind (wpAny_handled ?_)
  rw [show A.in1.handled = none from hh]
  refine wpAny_bind (wpAny_pure (wpAny_throw ?_))
  refine wpAny_bind (wpAny_isInstance (T := "StopIteration") (b := true) ⟨_,Heap.get?_push_size _ rfl,rfl⟩ isSubtype_stop ?_)
  exact wpAny_pure (hQ _ (((Heap.SameBut.update ..).extBut.push _).push _))
end
theorem paired_get {α β : Type} {G : α -> β -> Prop} {l₁ : List α} {l₂ : List β} (h : Paired G l₁ l₂) : ∀ {i : Nat} {a : α},l₁[i]? = some a -> ∃ b,l₂[i]? = some b /\ G a b := by
  induction h with
  | nil => intro i a e; simp at e
  | @cons a b l₁ l₂ r t ih =>
    intro i a' e
    cases i with
    | zero =>
      simp only [List.getElem?_cons_zero,Option.some.injEq] at e
      subst e
      exact ⟨b,rfl,r⟩
    | succ j =>
      simp only [List.getElem?_cons_succ] at e ⊢
      exact ih e
end L2
section 
namespace Bits
open PySem PyProof.Rows
end Bits
end 
section 
namespace TL
open PySem PySem.Builtin PySem.Builtin.Str PySem.StrLaws
end TL
end 
namespace L2
open PySem PySem.Spec PyProof.Rows
section
variable {X : Cx}
end
section
variable {X : Cx} {o e : Expr} {to te : TE}
end
end L2
namespace L2
open PySem PySem.Spec PyProof.Rows
end L2
namespace Att
open PySem PySem.W PySem.Calls PyProof.Rows
section
variable {prog : Program} {w : World} {A : Around} {E : Value -> Shared -> Prop} {s : Shared} {K : Frag}
end
end Att
namespace L2
open PySem PySem.Spec PyProof.Rows
end L2
namespace L2
open PySem PySem.Spec PyProof.Rows
noncomputable abbrev KOf {K : PySem.W.Frag} {h : Heap} (_ : K.In h) : PySem.W.Frag := K
end L2
/- THE LAST THEOREM (shape; LID,My.* are yours):
   My.Adr: a structure of the addresses that your layer names (classes,functions); My.Txt K t: a structure (Prop) of the equations over K;
   My.txt_mk : {K} {implicit addresses ..} (e1 : nsIn K mainGlobals "law" = some (some (.ref f))) (e2 : K.lookup f = some ⟨oc,od,.func (fnOf "law" "law" params body scope dV kV doc pm an cdv ct),sl⟩) (e3 : codeIn K cdv "law" = true) .. : ∃ t,My.Txt K t
set_option maxRecDepth 100000 in
set_option maxHeartbeats 0 in
theorem PySem.Challenge.cw_LID_holds : PySem.Challenge.rw_LID.Holds := by
  w_on; o_law; k_head; (case hw => w_witness2)
  k_fill
  refine L2.walk_of (l := PySem.Challenge.rw_LID) (n := 63) (k := 40) (x := "script") (CX := fun w => ..) (sp := fun _ => My.sp_law) rfl (by decide) rfl ⟨rfl,by decide,by decide⟩ (fun w h Y => PySem.W.kIn_of Y) ?F ?S ?C
  case F =>
    intro w mg fa h KX G hmg
    have T : ∃ t,My.Txt (L2.KOf KX) t := by
      dsimp only [L2.KOf]                          -- K must stand as «<heap const> w.params» for k_is
      refine' My.txt_mk ?e1 ?e2 ?e3 ..
      (case e1 => PySem.W.k_is)                    -- in the order: a name -> its address -> its object -> its parts
      (case e2 => PySem.W.k_is)
      ..
    obtain ⟨t,T⟩ := T
    have e0 := hmg.symm.trans (PySem.W.mg_of KX G T.law)
    cases e0                                       -- fa is the law's own address
    exact ⟨_,fun s u => .of_eq rfl,fun base kb nb => My.law_fn T kb nb⟩     -- if «.of_eq rfl» comes too early: refine' ⟨_,?b,fun base kb nb => My.law_fn T kb nb⟩; exact fun s u => .of_eq rfl
  case S => exact fun w H a ns hl hO hS => ..
  case C => exact ..
(the tactic k_is has no namespace: write k_is) -/
namespace L2
open PySem PySem.Spec PyProof.Rows
noncomputable def inClass (s : Stmt) (j : Nat) : Stmt := match s with
  | .ClassDef _ _ _ body _ _ _ _ _ _ _ => body.getD j (.Pass ⟨0,0,0,0⟩)
  | _ => .Pass ⟨0,0,0,0⟩
noncomputable def defArgs (s : Stmt) : Arguments := match s with
  | .FunctionDef _ a _ _ _ _ _ _ _ _ => a
  | _ => { posonlyargs := [],args := [],vararg := none,kwonlyargs := [],kw_defaults := [],kwarg := none,defaults := [] }
noncomputable def defBody (s : Stmt) : List Stmt := match s with
  | .FunctionDef _ _ b _ _ _ _ _ _ _ => b
  | _ => []
noncomputable def defScope (s : Stmt) : Scope := match s with
  | .FunctionDef _ _ _ _ _ _ sc _ _ _ => sc
  | _ => { kind := .function,names := [],isGenerator := false,isCoroutine := false }
noncomputable abbrev CX0 : CXT := fun _ _ _ _ _ _ => False
noncomputable abbrev E0 : XK := fun _ _ _ => False
theorem pass0 {X : Cx} : Passes CX0 X E0 := fun _ _ _ _ _ _ _ h => h.elim
structure Fun (K : PySem.W.Frag) (x qual : Str) (st : Stmt) (f : Addr) (fd : FuncData) : Prop where
  ex : ∃ (oc : Value) (od : Option Addr) (kV doc pm : Value) (an : Option Addr) (cdv ct : Value) (osl : Array (Option Value)),
    fd = PySem.W.fnOf x qual (defArgs st) (defBody st) (defScope st) .none kV doc pm an cdv ct /\ K.lookup f = some ⟨oc,od,.func fd,osl⟩ /\ PySem.W.codeIn K cdv qual = true
  kp : PySem.W.keepIn K (.ref f) = true
section
variable {P : Program} {w : World} {K : PySem.W.Frag} {mg : Str -> Option Value} {base : Heap}
theorem Fun.ok {x qual : Str} {st : Stmt} {f : Addr} {fd : FuncData} {N ps : List Str} {k : Nat} {sp : Sp} (F : Fun K x qual st f fd) (S : FnScope N ps (defScope st)) (len : ∀ vs H Q E,sp vs H Q E -> vs.length = ps.length)
    (hbody : ∀ (cdv : Value) (A : Around) (outer : List Env) (s : Shared) (H : Hp) (vs : List V) (Q : VK) (E : XK),Room k (A.deeper (envOfC qual (defScope st) s.heap.objs.size f cdv)) -> sp vs H Q E ->
      ∃ t,PSs (cxOf CX0 P w K mg base N qual (defScope st) f cdv A outer s H E).nox (defBody st) t /\ t { nx := fun _ H' => Q .non H',rt := Q } (start N vs) H) : FnOk P w K mg base CX0 (k + 1) f fd ps sp := by
  obtain ⟨oc,od,kV,doc,pm,an,cdv,ct,osl,rfl,lk,hcd⟩ := F.ex
  refine fn_of lk hcd S len fun A outer s H vs Q E hr hsp => ?_
  obtain ⟨t,h,q⟩ := hbody cdv A outer s H vs Q E hr hsp
  exact ⟨t,h.nox,q⟩
theorem Fun.binds {x qual : Str} {st : Stmt} {f : Addr} {fd : FuncData} {ps : List Str} (F : Fun K x qual st f fd)
    (h : ∀ (kV doc pm : Value) (an : Option Addr) (cdv ct : Value) (us : List Value),us.length = ps.length -> bindArgs (PySem.W.fnOf x qual (defArgs st) (defBody st) (defScope st) .none kV doc pm an cdv ct) ⟨us,[]⟩ = pure (ps.zip us)) : Binds K fd ps [] := by
  obtain ⟨oc,od,kV,doc,pm,an,cdv,ct,osl,rfl,lk,hcd⟩ := F.ex
  exact .all (h kV doc pm an cdv ct)
theorem fun_mk {x qual : Str} {st : Stmt} {f : Addr} {oc : Value} {od an : Option Addr} {osl : Array (Option Value)} {kV doc pm cdv ct : Value} (l : K.lookup f = some ⟨oc,od,.func (PySem.W.fnOf x qual (defArgs st) (defBody st) (defScope st) .none kV doc pm an cdv ct),osl⟩)
    (c : PySem.W.codeIn K cdv qual = true) (k : PySem.W.keepIn K (.ref f) = true) : Fun K x qual st f (PySem.W.fnOf x qual (defArgs st) (defBody st) (defScope st) .none kV doc pm an cdv ct) := ⟨⟨oc,od,kV,doc,pm,an,cdv,ct,osl,rfl,l,c⟩,k⟩
end
theorem hu_of {A : Around} {k : Nat} (hr : Room k A) : A.units + 1 < cLine := Nat.lt_of_le_of_lt (Nat.add_le_add_left (by decide : 1 <= 64) _) hr.units
section
variable {X : Cx}
theorem pv (i : Nat) {x : Str} {pos : Pos} (hN : X.N[i]? = some x := by rfl) (hv : Vis X.env.scope x := by first | exact Or.inl rfl | exact Or.inr (Or.inl rfl) | exact Or.inr (Or.inr rfl)) (hd : (x == ("__debug__" : Str)) = false := by decide)
    (hcd : (x == ("__classdict__" : Str)) = false := by decide) : PE X (.Name x pos) (tVar i) := pe_var hN hv hd hcd
end
theorem iteF {A B : Prop} (h : B) : if false = true then A else B := by
  rw [if_neg Bool.false_ne_true]
  exact h
theorem iteT {A B : Prop} (h : A) : if true = true then A else B := by
  rw [if_pos rfl]
  exact h
theorem ite2 {c A B : Prop} [Decidable c] (h1 : c -> A) (h2 : ¬ c -> B) : if c then A else B := by
  by_cases h : c
  · rw [if_pos h]
    exact h1 h
  · rw [if_neg h]
    exact h2 h
noncomputable def Same (H H' : Hp) : Prop := ∀ b o,H b = some o -> H' b = some o
theorem Same.refl (H : Hp) : Same H H := fun _ _ h => h
theorem Same.trans {H H1 H2 : Hp} (a : Same H H1) (b : Same H1 H2) : Same H H2 := fun c o h => b c o (a c o h)
theorem Same.free {H H' : Hp} (e : Same H H') {l : Addr} (h : H' l = Option.none) : H l = Option.none := by
  cases q : H l with
  | none => rfl
  | some o =>
    rw [e l o q] at h
    cases h
theorem Same.seq {K : PySem.W.Frag} {H H' : Hp} {a : Addr} {xs : List V} (e : Same H H') (h : SqL K H a xs) : SqL K H' a xs := by
  rcases h with (h | ⟨o,h⟩) | h
  · exact .inl (.inl (e _ _ h))
  · exact .inl (.inr ⟨o,e _ _ h⟩)
  · exact .inr h
section
variable {κ : Type} [DecidableEq κ]
theorem valV_not {kvs : List (κ × V)} {k : κ} (h : valV kvs k = none) : ¬ k ∈ kvs.map (·.1) := by
  intro m
  obtain ⟨p,hp,e⟩ := List.mem_map.mp m
  have q : (kvs.any fun kv => decide (kv.1 = k)) = true := List.any_eq_true.mpr ⟨p,hp,decide_eq_true e⟩
  rw [valV_any,h] at q
  exact absurd q (by simp)
theorem valV_in {kvs : List (κ × V)} {k : κ} {v : V} (h : valV kvs k = some v) : k ∈ kvs.map (·.1) := by
  have q : (kvs.any fun kv => decide (kv.1 = k)) = true := by
    rw [valV_any,h]
    all_goals rfl
  obtain ⟨p,hp,e⟩ := List.any_eq_true.mp q
  exact List.mem_map.mpr ⟨p,hp,of_decide_eq_true e⟩
end
end L2
end

section
section
set_option maxHeartbeats 2000000
namespace L2
open PySem PySem.Spec PyProof.Rows
open PySem.W (WData Codec OpenSpec Well WellAll ReadsW ReadsAllW)
mutual
inductive Dw (K : PySem.W.Frag) (H : Hp) : V -> WData -> Prop
  | non : Dw K H .non .none
  | bl (b : Bool) : Dw K H (.bl b) (.bool b)
  | int (i : Int) : Dw K H (.int i) (.int i)
  | str (x : Str) : Dw K H (.str x) (.str x)
  | byt (b : Array UInt8) : Dw K H (.byt b) (.bytes b.toList)
  | lst {a : Addr} {xs : List V} {ds : List WData} : SqL K H a xs -> DwAll K H xs ds -> Dw K H (.ref a) (.list ds)
  | tup {a : Addr} {xs : List V} {ds : List WData} : SqT K H a xs -> DwAll K H xs ds -> Dw K H (.ref a) (.tuple ds)
inductive DwAll (K : PySem.W.Frag) (H : Hp) : List V -> List WData -> Prop
  | nil : DwAll K H [] []
  | cons {v : V} {vs : List V} {d : WData} {ds : List WData} : Dw K H v d -> DwAll K H vs ds -> DwAll K H (v :: vs) (d :: ds)
end
theorem dw_ints {K : PySem.W.Frag} {H : Hp} : ∀ ns : List Int,DwAll K H (ns.map V.int) (ns.map WData.int)
  | [] => .nil
  | n :: r => .cons (.int n) (dw_ints r)
theorem ints_dw {K : PySem.W.Frag} {H : Hp} : ∀ (ns : List Int) (xs : List V),DwAll K H xs (ns.map WData.int) -> xs = ns.map V.int
  | [],xs,h => by
    cases h
    rfl
  | n :: r,xs,h => by
    cases h with
    | cons h1 h2 =>
      cases h1
      rw [ints_dw r _ h2] <;> rfl
section
variable {P : Program} {w : World} {K : PySem.W.Frag} {H : Hp} {h : Heap} {R : PySem.W.WRecords} {cl : Str -> Option Addr}
theorem sqL_at {a : Addr} {xs : List V} (hok : HOk P w H h) (KX : K.In h) (q : SqL K H a xs) : ∃ (its : List Value) (o : Obj) (n : Nat),Vals xs its /\ h.get? a = some o /\ o.cls = .type "list" /\ o.data = .seq its.toArray n := by
  rcases q with q | ⟨o,its,n,e,hc,_,hd,_,hv⟩
  · obtain ⟨_,its,n,hv,e⟩ := (show ObjOk P w H h a (.lst xs) from q.ok hok)
    exact ⟨its,_,n,hv,e,rfl,rfl⟩
  · exact ⟨its.toList,o,n,hv,KX _ _ e,hc,by simp [hd]⟩
theorem sqT_at {a : Addr} {xs : List V} (hok : HOk P w H h) (KX : K.In h) (q : SqT K H a xs) : ∃ (its : List Value) (o : Obj) (n : Nat),Vals xs its /\ h.get? a = some o /\ o.cls = .type "tuple" /\ o.data = .seq its.toArray n := by
  rcases q with q | ⟨o,its,n,e,hc,hd,_,hv⟩
  · obtain ⟨_,its,hv,o,e,hc,n,hd⟩ := (show ObjOk P w H h a (.tup xs) from q.ok hok)
    exact ⟨its,o,n,hv,e,hc,hd⟩
  · exact ⟨its.toList,o,n,hv,KX _ _ e,hc,by simp [hd]⟩
mutual
theorem Dw.reads (hok : HOk P w H h) (KX : K.In h) : ∀ (d : WData) (v : V) (u : Value),Dw K H v d -> RelV v u -> ∃ as,ReadsW R cl h u d as
  | .none,_,_,x,r => by
    cases x
    cases r
    exact ⟨_,ReadsW.none⟩
  | .bool b,_,_,x,r => by
    cases x
    cases r
    exact ⟨_,ReadsW.bool b⟩
  | .int i,_,_,x,r => by
    cases x
    obtain ⟨t,rfl⟩ := r
    exact ⟨_,ReadsW.int i t⟩
  | .str s,_,_,x,r => by
    cases x
    obtain ⟨t,rfl⟩ := r
    exact ⟨_,ReadsW.str s t⟩
  | .bytes b,_,_,x,r => by
    cases x
    obtain ⟨t,rfl⟩ := r
    exact ⟨_,ReadsW.bytes _ t⟩
  | .list ds,_,_,x,r => by
    cases x with
    | lst hs ha =>
      cases r
      obtain ⟨its,o,n,rv,ho,hc,hd⟩ := sqL_at hok KX hs
      obtain ⟨as,hr⟩ := Dw.readsAll hok KX ds _ its ha rv
      exact ⟨_,ReadsW.list ho hc hd hr⟩
  | .tuple ds,_,_,x,r => by
    cases x with
    | tup hs ha =>
      cases r
      obtain ⟨its,o,n,rv,ho,hc,hd⟩ := sqT_at hok KX hs
      obtain ⟨as,hr⟩ := Dw.readsAll hok KX ds _ its ha rv
      exact ⟨_,ReadsW.tuple ho hc hd hr⟩
  | .float _,_,_,x,_ => by cases x
  | .dict _,_,_,x,_ => by cases x
  | .bytearray _,_,_,x,_ => by cases x
  | .set _,_,_,x,_ => by cases x
  | .frozenset _,_,_,x,_ => by cases x
  | .obj _ _,_,_,x,_ => by cases x
theorem Dw.readsAll (hok : HOk P w H h) (KX : K.In h) : ∀ (ds : List WData) (vs : List V) (us : List Value),DwAll K H vs ds -> Vals vs us -> ∃ as,ReadsAllW R cl h us ds as
  | [],_,_,x,r => by
    cases x
    cases r
    exact ⟨_,ReadsAllW.nil⟩
  | d :: ds,_,_,x,r => by
    cases x with
    | cons h1 h2 =>
      cases r with
      | cons r1 r2 =>
        obtain ⟨as,q1⟩ := Dw.reads hok KX d _ _ h1 r1
        obtain ⟨bs,q2⟩ := Dw.readsAll hok KX ds _ _ h2 r2
        exact ⟨_,ReadsAllW.cons q1 q2⟩
end
end
mutual
noncomputable def plW : WData -> Bool
  | .none => true
  | .bool _ => true
  | .int _ => true
  | .str _ => true
  | .bytes _ => true
  | .list xs => plWs xs
  | .tuple xs => plWs xs
  | _ => false
noncomputable def plWs : List WData -> Bool
  | [] => true
  | x :: r => plW x && plWs r
end
theorem plWs_map {α : Type} {f : α -> WData} (h : ∀ a,plW (f a) = true) : ∀ l : List α,plWs (l.map f) = true
  | [] => rfl
  | x :: r => by
    show (plW (f x) && plWs (r.map f)) = true
    rw [h x,plWs_map h r] <;> rfl
theorem pl_enc : ∀ (c : Codec) (a : c.denote),plW (c.enc a) = true
  | .unit,_ => rfl
  | .bool,_ => rfl
  | .int _ _,_ => rfl
  | .nat _ _,_ => rfl
  | .u8,_ => rfl
  | .bytes _ _,_ => rfl
  | .text _ _ _ _,_ => rfl
  | .list _ _ c,a => plWs_map (fun x => pl_enc c x) a
  | .pair c d,a => by
    show (plW (c.enc a.1) && (plW (d.enc a.2) && true)) = true
    rw [pl_enc c a.1,pl_enc d a.2] <;> rfl
  | .triple c d e,a => by
    show (plW (c.enc a.1) && (plW (d.enc a.2.1) && (plW (e.enc a.2.2) && true))) = true
    rw [pl_enc c a.1,pl_enc d a.2.1,pl_enc e a.2.2] <;> rfl
  | .option c,none => rfl
  | .option c,some x => pl_enc c x
theorem pl_encAll : ∀ (cs : List Codec) (a : Codec.denoteAll cs),plWs (Codec.encAll cs a) = true
  | [],_ => rfl
  | c :: cs,a => by
    show (plW (c.enc a.1) && plWs (Codec.encAll cs a.2)) = true
    rw [pl_enc c a.1,pl_encAll cs a.2] <;> rfl
theorem weight_mem : ∀ {xs : List WData} {d : WData},d ∈ xs -> d.weight <= WData.weightAll xs
  | [],d,h => absurd h (by simp)
  | x :: r,d,h => by
    show d.weight <= x.weight + 1 + WData.weightAll r
    rcases List.mem_cons.mp h with e | m
    · rw [e]
      omega
    · have z := weight_mem m
      omega
noncomputable def toV : Value -> V
  | .none => .non
  | .bool b => .bl b
  | .int i _ => .int i
  | .str x _ => .str x
  | .bytes b _ => .byt b
  | .ref a => .ref a
  | _ => .non
noncomputable def OkU (A : List Addr) : Value -> Prop
  | .none => True
  | .bool _ => True
  | .int _ _ => True
  | .str _ _ => True
  | .bytes _ _ => True
  | .ref a => a ∈ A
  | _ => False
theorem OkU.mono {A B : List Addr} (h : ∀ a ∈ A,a ∈ B) : ∀ {u : Value},OkU A u -> OkU B u := fun {u} x => by
  cases u with
  | ref a => exact h a x
  | none => trivial
  | bool b => trivial
  | int i t => trivial
  | str s t => trivial
  | bytes b t => trivial
  | _ => exact False.elim x
theorem relV_toV {A : List Addr} {u : Value} (x : OkU A u) : RelV (toV u) u := by
  cases u with
  | ref a => rfl
  | none => rfl
  | bool b => rfl
  | int i t => exact ⟨t,rfl⟩
  | str s t => exact ⟨t,rfl⟩
  | bytes b t => exact ⟨t,rfl⟩
  | _ => exact False.elim x
theorem vals_toV {A : List Addr} : ∀ {vs : List Value},(∀ u ∈ vs,OkU A u) -> Vals (vs.map toV) vs
  | [],_ => .nil
  | u :: r,h => .cons (relV_toV (h u (List.mem_cons_self ..))) (vals_toV fun x hx => h x (List.mem_cons_of_mem _ hx))
noncomputable def ArgOb (h : Heap) (A : List Addr) (a : Addr) : Prop := ∃ vs : List Value,vs.length <= sizeLine /\ (∀ u ∈ vs,OkU A u) /\
  (h.get? a = some { cls := .type "list",data := .seq vs.toArray } \/ h.get? a = some { cls := .type "tuple",data := .seq vs.toArray })
theorem ArgOb.mono {h : Heap} {A B : List Addr} {a : Addr} (k : ∀ a ∈ A,a ∈ B) (x : ArgOb h A a) : ArgOb h B a := by
  obtain ⟨vs,h1,h2,h3⟩ := x
  exact ⟨vs,h1,fun u hu => (h2 u hu).mono k,h3⟩
theorem wellAll_len {P : Params} {h : Heap} : ∀ {vs : List Value} {ds : List WData},WellAll P h vs ds -> vs.length = ds.length
  | _,_,.nil => rfl
  | _,_,.cons _ b => by
    show _ + 1 = _ + 1
    rw [wellAll_len b]
theorem well_list {P : Params} {h : Heap} {v : Value} {ds : List WData} (x : Well P h v (.list ds)) : ∃ (a : Addr) (vs : List Value),v = .ref a /\ h.get? a = some { cls := .type "list",data := .seq vs.toArray } /\ WellAll P h vs ds := by
  cases x with
  | list ho hall => exact ⟨_,_,rfl,ho,hall⟩
theorem well_tuple {P : Params} {h : Heap} {v : Value} {ds : List WData} (x : Well P h v (.tuple ds)) : ∃ (a : Addr) (vs : List Value),v = .ref a /\ h.get? a = some { cls := .type "tuple",data := .seq vs.toArray } /\ WellAll P h vs ds := by
  cases x with
  | tuple ho hall => exact ⟨_,_,rfl,ho,hall⟩
theorem well_cons {P : Params} {h : Heap} {us : List Value} {d : WData} {ds : List WData} (x : WellAll P h us (d :: ds)) : ∃ (v : Value) (vs : List Value),us = v :: vs /\ Well P h v d /\ WellAll P h vs ds := by
  cases x with
  | cons a b => exact ⟨_,_,rfl,a,b⟩
theorem line_of {n : Nat} (h : n <= 1048576) : n <= sizeLine := Nat.le_trans h (by decide)
section
variable {P : Params} {h : Heap}
mutual
theorem area_one : ∀ (d : WData) (v : Value),Well P h v d -> plW d = true -> d.weight <= 1048576 -> ∃ A : List Addr,OkU A v /\ ∀ a ∈ A,ArgOb h A a
  | .none,_,x,_,_ => by
    cases x
    exact ⟨[],trivial,fun a m => absurd m (by simp)⟩
  | .bool b,_,x,_,_ => by
    cases x
    exact ⟨[],trivial,fun a m => absurd m (by simp)⟩
  | .int i,_,x,_,_ => by
    cases x
    exact ⟨[],trivial,fun a m => absurd m (by simp)⟩
  | .str s,_,x,_,_ => by
    cases x
    exact ⟨[],trivial,fun a m => absurd m (by simp)⟩
  | .bytes b,_,x,_,_ => by
    cases x
    exact ⟨[],trivial,fun a m => absurd m (by simp)⟩
  | .list ds,_,x,p,z => by
    obtain ⟨a,vs,rfl,ho,hall⟩ := well_list x
    have z2 : WData.weightAll ds <= 1048576 := z
    obtain ⟨A,h1,h2⟩ := area_all ds _ hall p fun d hd => Nat.le_trans (weight_mem hd) z2
    have k : ∀ b ∈ A,b ∈ a :: A := fun b hb => List.mem_cons_of_mem _ hb
    refine ⟨a :: A,List.mem_cons_self ..,fun b hb => ?_⟩
    rcases List.mem_cons.mp hb with e | m
    · rw [e]
      exact ⟨vs,line_of (by rw [wellAll_len hall]; exact Nat.le_trans (PySem.W.length_le_weightAllW ds) z2),fun u hu => (h1 u hu).mono k,.inl ho⟩
    · exact (h2 b m).mono k
  | .tuple ds,_,x,p,z => by
    obtain ⟨a,vs,rfl,ho,hall⟩ := well_tuple x
    have z2 : WData.weightAll ds <= 1048576 := z
    obtain ⟨A,h1,h2⟩ := area_all ds _ hall p fun d hd => Nat.le_trans (weight_mem hd) z2
    have k : ∀ b ∈ A,b ∈ a :: A := fun b hb => List.mem_cons_of_mem _ hb
    refine ⟨a :: A,List.mem_cons_self ..,fun b hb => ?_⟩
    rcases List.mem_cons.mp hb with e | m
    · rw [e]
      exact ⟨vs,line_of (by rw [wellAll_len hall]; exact Nat.le_trans (PySem.W.length_le_weightAllW ds) z2),fun u hu => (h1 u hu).mono k,.inr ho⟩
    · exact (h2 b m).mono k
  | .float _,_,_,p,_ => Bool.noConfusion (show false = true from p)
  | .dict _,_,_,p,_ => Bool.noConfusion (show false = true from p)
  | .bytearray _,_,_,p,_ => Bool.noConfusion (show false = true from p)
  | .set _,_,_,p,_ => Bool.noConfusion (show false = true from p)
  | .frozenset _,_,_,p,_ => Bool.noConfusion (show false = true from p)
  | .obj _ _,_,_,p,_ => Bool.noConfusion (show false = true from p)
theorem area_all : ∀ (ds : List WData) (vs : List Value),WellAll P h vs ds -> plWs ds = true -> (∀ d ∈ ds,d.weight <= 1048576) -> ∃ A : List Addr,(∀ u ∈ vs,OkU A u) /\ ∀ a ∈ A,ArgOb h A a
  | [],_,x,_,_ => by
    cases x
    exact ⟨[],fun u m => absurd m (by simp),fun a m => absurd m (by simp)⟩
  | d :: ds,_,x,p,z => by
    obtain ⟨v,vs,rfl,x1,x2⟩ := well_cons x
    have q : plW d = true /\ plWs ds = true := Bool.and_eq_true_iff.mp p
    obtain ⟨A,a1,a2⟩ := area_one d v x1 q.1 (z d (List.mem_cons_self ..))
    obtain ⟨B,b1,b2⟩ := area_all ds vs x2 q.2 fun e he => z e (List.mem_cons_of_mem _ he)
    have kA : ∀ b ∈ A,b ∈ A ++ B := fun b hb => List.mem_append.mpr (.inl hb)
    have kB : ∀ b ∈ B,b ∈ A ++ B := fun b hb => List.mem_append.mpr (.inr hb)
    refine ⟨A ++ B,fun u hu => ?_,fun b hb => ?_⟩
    · rcases List.mem_cons.mp hu with e | m
      · rw [e]
        exact a1.mono kA
      · exact (b1 u m).mono kB
    · rcases List.mem_append.mp hb with m | m
      · exact (a2 b m).mono kA
      · exact (b2 b m).mono kB
end
end
noncomputable def hoOf (o : Obj) : Option HO := match o.data with
  | .seq vs _ => if (o.cls == Value.type "list") = true then some (.frz o (.lst (vs.toList.map toV))) else some (.frz o (.tup (vs.toList.map toV)))
  | _ => none
noncomputable def argH (K : PySem.W.Frag) (h : Heap) (A : List Addr) : Hp := fun b => if b ∈ A then (if (K.lookup b).isNone = true then (h.get? b).bind hoOf else none) else none
noncomputable def OnlyF (H : Hp) : Prop := ∀ b,H b = none \/ ∃ o u,H b = some (.frz o u)
theorem hoOf_lst (vs : List Value) : hoOf { cls := .type "list",data := .seq vs.toArray } = some (.frz { cls := .type "list",data := .seq vs.toArray } (.lst (vs.map toV))) := by
  show (if (Value.type "list" == Value.type "list") = true then some (HO.frz { cls := .type "list",data := .seq vs.toArray } (.lst (vs.toArray.toList.map toV))) else some (HO.frz { cls := .type "list",data := .seq vs.toArray } (.tup (vs.toArray.toList.map toV)))) = _
  rw [if_pos (beq_self_eq_true _)]
theorem hoOf_tup (vs : List Value) : hoOf { cls := .type "tuple",data := .seq vs.toArray } = some (.frz { cls := .type "tuple",data := .seq vs.toArray } (.tup (vs.map toV))) := by
  show (if (Value.type "tuple" == Value.type "list") = true then some (HO.frz { cls := .type "tuple",data := .seq vs.toArray } (.lst (vs.toArray.toList.map toV))) else some (HO.frz { cls := .type "tuple",data := .seq vs.toArray } (.tup (vs.toArray.toList.map toV)))) = _
  rw [if_neg (by decide)]
section
variable {P : Program} {w : World} {K : PySem.W.Frag} {h : Heap} {A : List Addr}
theorem argH_at {b : Addr} {o : Obj} (hb : b ∈ A) (hk : K.lookup b = none) (e : h.get? b = some o) : argH K h A b = hoOf o := by
  unfold argH
  rw [if_pos hb,hk,if_pos (show (none : Option Obj).isNone = true from rfl),e] <;> rfl
theorem of_argH {b : Addr} {u : HO} (q : argH K h A b = some u) : b ∈ A /\ K.lookup b = none := by
  unfold argH at q
  by_cases hb : b ∈ A
  · rw [if_pos hb] at q
    cases hk : K.lookup b with
    | none => exact ⟨hb,rfl⟩
    | some o =>
      rw [hk,if_neg (by simp)] at q
      cases q
  · rw [if_neg hb] at q
    cases q
theorem argH_is (ar : ∀ a ∈ A,ArgOb h A a) {b : Addr} {u : HO} (q : argH K h A b = some u) : K.lookup b = none /\ ∃ vs : List Value,vs.length <= sizeLine /\ (∀ u ∈ vs,OkU A u) /\
    ((h.get? b = some { cls := .type "list",data := .seq vs.toArray } /\ u = .frz { cls := .type "list",data := .seq vs.toArray } (.lst (vs.map toV))) \/
     (h.get? b = some { cls := .type "tuple",data := .seq vs.toArray } /\ u = .frz { cls := .type "tuple",data := .seq vs.toArray } (.tup (vs.map toV)))) := by
  obtain ⟨hb,hk⟩ := of_argH q
  obtain ⟨vs,h1,h2,h3⟩ := ar b hb
  refine ⟨hk,vs,h1,h2,?_⟩
  rcases h3 with e | e
  · rw [argH_at hb hk e,hoOf_lst] at q
    exact .inl ⟨e,(Option.some.inj q).symm⟩
  · rw [argH_at hb hk e,hoOf_tup] at q
    exact .inr ⟨e,(Option.some.inj q).symm⟩
theorem argH_only (ar : ∀ a ∈ A,ArgOb h A a) : OnlyF (argH K h A) := fun b => by
  cases q : argH K h A b with
  | none => exact .inl rfl
  | some u =>
    obtain ⟨_,vs,_,_,⟨_,e⟩ | ⟨_,e⟩⟩ := argH_is ar q
    · exact .inr ⟨_,_,by rw [e]⟩
    · exact .inr ⟨_,_,by rw [e]⟩
theorem argH_ok (ar : ∀ a ∈ A,ArgOb h A a) : HOk P w (argH K h A) h := fun b u q => by
  obtain ⟨_,vs,h1,h2,⟨e,rfl⟩ | ⟨e,rfl⟩⟩ := argH_is ar q
  · exact ⟨e,by rw [List.length_map]; exact h1,vs,_,vals_toV h2,e⟩
  · exact ⟨e,by rw [List.length_map]; exact h1,vs,vals_toV h2,_,e,rfl,_,rfl⟩
theorem seq_inj {c c' : Value} {vs us : List Value} (e : (some { cls := c,data := .seq vs.toArray } : Option Obj) = some { cls := c',data := .seq us.toArray }) : c = c' /\ vs = us := by
  have e1 := Option.some.inj e
  have e2 : c = c' := congrArg Obj.cls e1
  have e3 : Data.seq vs.toArray = Data.seq us.toArray := congrArg Obj.data e1
  injection e3 with e4
  refine ⟨e2,?_⟩
  have e5 := congrArg Array.toList e4
  simpa using e5
theorem argL (KX : K.In h) (ar : ∀ a ∈ A,ArgOb h A a) {a : Addr} {vs : List Value} (ha : a ∈ A) (e : h.get? a = some { cls := .type "list",data := .seq vs.toArray }) : (∀ u ∈ vs,OkU A u) /\ SqL K (argH K h A) a (vs.map toV) := by
  obtain ⟨us,h1,h2,h3⟩ := ar a ha
  have hu : us = vs := by
    rcases h3 with q | q
    · rw [e] at q
      exact (seq_inj q).2.symm
    · rw [e] at q
      exact absurd (Value.type.inj (seq_inj q).1) (by decide)
  subst hu
  refine ⟨h2,?_⟩
  cases hk : K.lookup a with
  | none => exact .inl (.inr ⟨_,by rw [argH_at ha hk e,hoOf_lst]⟩)
  | some o =>
    have e2 := KX a o hk
    rw [e] at e2
    obtain rfl := Option.some.inj e2
    exact .inr ⟨_,us.toArray,_,hk,rfl,rfl,rfl,by rw [List.size_toArray]; exact h1,by simpa using vals_toV h2⟩
theorem argT (KX : K.In h) (ar : ∀ a ∈ A,ArgOb h A a) {a : Addr} {vs : List Value} (ha : a ∈ A) (e : h.get? a = some { cls := .type "tuple",data := .seq vs.toArray }) : (∀ u ∈ vs,OkU A u) /\ SqT K (argH K h A) a (vs.map toV) := by
  obtain ⟨us,h1,h2,h3⟩ := ar a ha
  have hu : us = vs := by
    rcases h3 with q | q
    · rw [e] at q
      exact absurd (Value.type.inj (seq_inj q).1) (by decide)
    · rw [e] at q
      exact (seq_inj q).2.symm
  subst hu
  refine ⟨h2,?_⟩
  cases hk : K.lookup a with
  | none => exact .inl (.inr ⟨_,by rw [argH_at ha hk e,hoOf_tup]⟩)
  | some o =>
    have e2 := KX a o hk
    rw [e] at e2
    obtain rfl := Option.some.inj e2
    exact .inr ⟨_,us.toArray,_,hk,rfl,rfl,by rw [List.size_toArray]; exact h1,by simpa using vals_toV h2⟩
mutual
theorem dw_one {Pm : Params} (KX : K.In h) (ar : ∀ a ∈ A,ArgOb h A a) : ∀ (d : WData) (v : Value),Well Pm h v d -> plW d = true -> OkU A v -> Dw K (argH K h A) (toV v) d
  | .none,_,x,_,_ => by
    cases x
    exact .non
  | .bool b,_,x,_,_ => by
    cases x
    exact .bl b
  | .int i,_,x,_,_ => by
    cases x
    exact .int i
  | .str s,_,x,_,_ => by
    cases x
    exact .str s
  | .bytes b,_,x,_,_ => by
    cases x
    have z := Dw.byt (K := K) (H := argH K h A) b.toArray
    exact z
  | .list ds,_,x,p,hu => by
    obtain ⟨a,vs,rfl,ho,hall⟩ := well_list x
    obtain ⟨h2,hs⟩ := argL KX ar hu ho
    exact .lst hs (dw_all KX ar ds _ hall p h2)
  | .tuple ds,_,x,p,hu => by
    obtain ⟨a,vs,rfl,ho,hall⟩ := well_tuple x
    obtain ⟨h2,hs⟩ := argT KX ar hu ho
    exact .tup hs (dw_all KX ar ds _ hall p h2)
  | .float _,_,_,p,_ => Bool.noConfusion (show false = true from p)
  | .dict _,_,_,p,_ => Bool.noConfusion (show false = true from p)
  | .bytearray _,_,_,p,_ => Bool.noConfusion (show false = true from p)
  | .set _,_,_,p,_ => Bool.noConfusion (show false = true from p)
  | .frozenset _,_,_,p,_ => Bool.noConfusion (show false = true from p)
  | .obj _ _,_,_,p,_ => Bool.noConfusion (show false = true from p)
theorem dw_all {Pm : Params} (KX : K.In h) (ar : ∀ a ∈ A,ArgOb h A a) : ∀ (ds : List WData) (vs : List Value),WellAll Pm h vs ds -> plWs ds = true -> (∀ u ∈ vs,OkU A u) -> DwAll K (argH K h A) (vs.map toV) ds
  | [],_,x,_,_ => by
    cases x
    exact .nil
  | d :: ds,_,x,p,hu => by
    obtain ⟨v,vs,rfl,x1,x2⟩ := well_cons x
    have q : plW d = true /\ plWs ds = true := Bool.and_eq_true_iff.mp p
    exact .cons (dw_one KX ar d v x1 q.1 (hu _ (List.mem_cons_self ..))) (dw_all KX ar ds vs x2 q.2 fun u m => hu u (List.mem_cons_of_mem _ m))
end
end
theorem spec_call {P : Program} {w : World} {K : PySem.W.Frag} {mg mb : Str -> Option Value} {CX : CXT} {k : Nat} {fa : Addr} {fd : FuncData} {ps : List Str} {sp : Sp} {s₁ : Shared} {vals : List Value} {ds : List WData} {R : PySem.W.WRecords} {cl : Str -> Option Addr} {d0 : WData}
    (KX : K.In s₁.heap) (hns : s₁.heap.Ns mainGlobals mg) (hb : s₁.heap.Ns builtinsNs mb) (hbb : ∀ x : Str,x ≠ "__name__" -> mb x = bootBuiltins x) (hlim : s₁.heap.NoLimit) (hg : s₁.gens = #[])
    (hwl : WellAll w.params s₁.heap vals ds) (hpl : plWs ds = true) (hwt : ∀ d ∈ ds,d.weight <= 1048576) (hr : Room k callerA)
    (F : ∀ base : Heap,K.In base -> base.Ns mainGlobals mg -> FnOk P w K mg base CX k fa fd ps sp) (hbind : ∀ (s : Shared) (us : List Value),us.length = ps.length -> BindsTo s fd ⟨us,[]⟩ (ps.zip us)) (hlen : ds.length = ps.length)
    (hsp : ∀ (H : Hp) (xs : List V),OnlyF H -> DwAll K H xs ds -> sp xs H (fun v H' => Dw K H' v d0) fun _ _ _ => False)
    (hCX : ∀ H e s',CX [] H s₁ (fun _ _ _ => False) e s' -> False) :
    codeAny (model P w) callerA (.call (.ref fa) ⟨vals,[]⟩) (fun r s' => ∃ u as,r = .ok (.ret u) /\ ReadsW R cl s'.heap u d0 as /\ OldK s₁.heap s'.heap /\ s'.os = s₁.os /\ AllBare s'.gens) s₁ := by
  obtain ⟨A,ho,ar⟩ := area_all ds vals hwl hpl hwt
  have hO : OnlyF (argH K s₁.heap A) := argH_only ar
  have hok : HOk P w (argH K s₁.heap A) s₁.heap := argH_ok ar
  have hS := dw_all KX ar ds vals hwl hpl ho
  have hV := vals_toV ho
  have hK : ∀ b u,argH K s₁.heap A b = some u -> K.lookup b = none := fun b u q => (argH_is ar q).1
  have noA : ∀ {b : Addr} {o : Obj} {es : Array DictEntry} {ep : Nat},s₁.heap.get? b = some o -> o.data = .dict es ep -> argH K s₁.heap A b = none := fun {b o es ep} e d => by
    cases q : argH K s₁.heap A b with
    | none => rfl
    | some u =>
      obtain ⟨_,vs,_,_,⟨e2,_⟩ | ⟨e2,_⟩⟩ := argH_is ar q
      · rw [e2] at e
        cases e
        have d' : Data.seq vs.toArray _ = Data.dict es ep := d
        cases d'
      · rw [e2] at e
        cases e
        have d' : Data.seq vs.toArray _ = Data.dict es ep := d
        cases d'
  generalize argH K s₁.heap A = H at hO hok hS hK noA
  have base_of : ∀ {b : Addr} {o : Obj},s₁.heap.get? b = some o -> H b = none -> (hidT s₁.heap H).get? b = some o := fun e n => hidT_get e n
  have nsK : ∀ {b : Addr} {m : Str -> Option Value},s₁.heap.Ns b m -> (hidT s₁.heap H).Ns b m := fun {b m} ⟨o,es,ep,e,d,r⟩ => ⟨o,es,ep,base_of e (noA e d),d,r⟩
  have nK : ∀ b o,K.lookup b = some o -> H b = none := fun b o e => by
    cases q : H b with
    | none => rfl
    | some u =>
      rw [hK b u q] at e
      cases e
  have hKb : K.In (hidT s₁.heap H) := fun b o e => base_of (KX b o e) (nK b o e)
  have hM : Mod K mg (hidT s₁.heap H) := ⟨hKb,nsK hns,⟨mb,nsK hb,hbb⟩,let ⟨mc,h1,h2⟩ := hlim; ⟨mc,nsK h1,h2⟩⟩
  have e0 : Env0 P w K mg (hidT s₁.heap H) callerA [] s₁ H := ⟨rfl,hM,fun b o e => of_hidT e,Nat.le_of_eq (hidT_size _ _),trivial,fun b hb => absurd (show b ∈ ([] : List Addr) from hb) (by simp),hok,.of_eq hg⟩
  have hl : vals.length = ps.length := by rw [wellAll_len hwl]; exact hlen
  refine codeAny_mono ((F _ hKb (nsK hns)).run callerA [] s₁ H ⟨vals,[]⟩ vals (vals.map toV) _ _ hr e0 (hbind s₁ vals hl) hV (hsp H _ hO hS)) fun r s' x => ?_
  cases r with
  | error e => exact (hCX H e s' x).elim
  | ok fl =>
    cases fl with
    | next => exact False.elim x
    | brk => exact False.elim x
    | cont => exact False.elim x
    | ret u =>
      obtain ⟨v,H',os,bare,un,hok',r',q⟩ := x
      have kept : ∀ b o,s₁.heap.get? b = some o -> s'.heap.get? b = some o := fun b o e => by
        cases q2 : H b with
        | none => exact un.keep b o e q2 (by intro z; exact absurd (show b ∈ ([] : List Addr) from z) (by simp)) (by simp)
        | some u2 =>
          rcases hO b with z | ⟨ob,u3,z⟩
          · rw [q2] at z
            cases z
          · have z2 := un.frzs b ob _ z
            obtain ⟨e1,_⟩ := hok b _ z
            obtain ⟨e2,_⟩ := hok' b _ z2
            rw [e] at e1
            cases e1
            exact e2
      have KX' : K.In s'.heap := fun b o e => kept b o (KX b o e)
      obtain ⟨as,hrd⟩ := Dw.reads (R := R) (cl := cl) hok' KX' d0 v u q r'
      exact ⟨u,as,rfl,hrd,OldK.of_keep kept,os,bare⟩
theorem layable_weight {ds : List WData} (h : WData.layableAll ds = true) : ∀ d ∈ ds,d.weight <= 1048576 := fun d hd =>
  (PySem.W.layableW_iff.mp (List.all_eq_true.mp h d hd)).2.2
theorem encAll_len : ∀ (cs : List Codec) (a : Codec.denoteAll cs),(Codec.encAll cs a).length = cs.length
  | [],_ => rfl
  | c :: cs,a => by
    show (Codec.encAll cs a.2).length + 1 = cs.length + 1
    rw [encAll_len cs a.2]
theorem walk_spec {r : OpenSpec} {k : Nat} {q : Program} {loose : List Str} {XP : (Str -> Option Value) -> Heap -> Prop} {YP : World -> Heap -> Prop} {d : DefRec} {K : Params -> PySem.W.Frag} {CX : World -> CXT} {ps : List Str} {sp : World -> Sp}
    (hwell : r.wellSaid = true) (hdf : d.params.defaults = []) (hlen : r.args.length = ps.length) (hr : Room k callerA)
    (hY : ∀ (w : World) (h : Heap),YP w h -> (K w.params).In h)
    (F : ∀ (w : World) (mg : Str -> Option Value) (fa : Addr) (h : Heap),YP w h -> (K w.params).In h -> h.Ns mainGlobals mg -> mg d.name = some (.ref fa) ->
      ∃ fd : FuncData,(∀ (s : Shared) (us : List Value),us.length = ps.length -> BindsTo s fd ⟨us,[]⟩ (ps.zip us)) /\
        ∀ base : Heap,(K w.params).In base -> base.Ns mainGlobals mg -> FnOk r.prog w (K w.params) mg base (CX w) k fa fd ps (sp w))
    (hsp : ∀ (w : World) (H : Hp) (xs : List V) (a : Codec.denoteAll r.args),OnlyF H -> Codec.withinAll r.args a = true -> Codec.app r.args r.asked a = true -> DwAll (K w.params) H xs (Codec.encAll r.args a) ->
      sp w xs H (fun v H' => Dw (K w.params) H' v (r.ret.enc (Codec.app r.args r.f a))) fun _ _ _ => False)
    (hCX : ∀ (w : World) (H : Hp) (s : Shared) (e : Value) (s' : Shared),CX w [] H s (fun _ _ _ => False) e s' -> False) :
    PySem.W.WalkOS q loose XP YP r d [] (fun f vs => PySem.call f vs) := by
  intro w s_0 s₁ mg mb G Y fa o pm cd doc dV kV ho hd hcd hD hmg hg args vals as hpre hlay hrd hwl hlo
  obtain ⟨a,e1,e2⟩ := PySem.W.os_pre_some hpre
  obtain ⟨e3,hwi⟩ := Codec.encAll_of_decAll r.args args a e1
  subst e3
  have KX := hY w _ Y
  obtain ⟨fd,hb,hF⟩ := F w mg fa _ Y KX G.T.g hmg
  refine PySem.W.enter_call (codeAny_mono (spec_call (R := []) (cl := classAt s_0.heap) (d0 := r.ret.enc (Codec.app r.args r.f a)) KX G.T.g G.T.b G.T.builtins G.T.nolimit hg hwl (pl_encAll _ _) (layable_weight hlay) hr hF hb (by rw [encAll_len]; exact hlen)
    (fun H xs hO hS => hsp w H xs a hO hwi e2 hS) fun H e s' => hCX w H s₁ e s') fun r' s' hq => ?_)
  obtain ⟨u,as',rfl,h1,h2,h3,h4⟩ := hq
  exact ⟨.inl ⟨u,_,as',rfl,fun _ => rfl,h1,(OpenSpec.post_iff hwell hwi _ _).mpr rfl,fun z => Bool.noConfusion (show false = true from z)⟩,h2,h3,h4⟩
theorem walk_specK {r : OpenSpec} {k : Nat} {q : Program} {loose : List Str} {XP : (Str -> Option Value) -> Heap -> Prop} {YP : World -> Heap -> Prop} {d : DefRec} {K : Params -> PySem.W.Frag} {CX : CXT} {ps : List Str} {sp : PySem.W.Frag -> Sp}
    (hwell : r.wellSaid = true) (hdf : d.params.defaults = []) (hlen : r.args.length = ps.length) (hr : Room k callerA)
    (hY : ∀ (w : World) (h : Heap),YP w h -> (K w.params).In h)
    (F : ∀ (w : World) (mg : Str -> Option Value) (fa : Addr) (h : Heap),YP w h -> (K w.params).In h -> h.Ns mainGlobals mg -> mg d.name = some (.ref fa) ->
      ∃ fd : FuncData,(∀ (s : Shared) (us : List Value),us.length = ps.length -> BindsTo s fd ⟨us,[]⟩ (ps.zip us)) /\
        ∀ base : Heap,(K w.params).In base -> base.Ns mainGlobals mg -> FnOk r.prog w (K w.params) mg base CX k fa fd ps (sp (K w.params)))
    (hsp : ∀ (K : PySem.W.Frag) (H : Hp) (xs : List V) (a : Codec.denoteAll r.args),OnlyF H -> Codec.withinAll r.args a = true -> Codec.app r.args r.asked a = true -> DwAll K H xs (Codec.encAll r.args a) ->
      sp K xs H (fun v H' => Dw K H' v (r.ret.enc (Codec.app r.args r.f a))) fun _ _ _ => False)
    (hCX : ∀ (H : Hp) (s : Shared) (e : Value) (s' : Shared),CX [] H s (fun _ _ _ => False) e s' -> False) :
    PySem.W.WalkOS q loose XP YP r d [] (fun f vs => PySem.call f vs) :=
  walk_spec (K := K) (CX := fun _ => CX) (sp := fun w => sp (K w.params)) hwell hdf hlen hr hY F (fun w H xs a h1 h2 h3 h4 => hsp (K w.params) H xs a h1 h2 h3 h4) fun _ H s e s' => hCX H s e s'
end L2
end
end

section
namespace L2
open PySem PySem.Spec PyProof.Rows
structure UnB (fs : List Addr) (H H' : Hp) (h B : Heap) : Prop where
  keep : ∀ b o,h.get? b = some o -> H b = none -> b ∉ fs -> B.get? b = some o
  free : ∀ b o,h.get? b = some o -> H b = none -> H' b = none
  there : ∀ b o,h.get? b = some o -> b ∉ fs -> ∃ o',B.get? b = some o'
  tups : ∀ b xs,H b = some (.tup xs) -> H' b = some (.tup xs)
  frzs : ∀ b o u,H b = some (.frz o u) -> H' b = some (.frz o u)
  tbls : ∀ b ps,H b = some (.tbl ps) -> ∃ more,H' b = some (.tbl (ps ++ more))
noncomputable def Sl (fs : List Addr) (h h' : Heap) : Prop := ∀ b o,h.get? b = some o -> b ∈ fs -> ∃ sl,h'.get? b = some { o with slots := sl }
theorem UnB.un {fs : List Addr} {H H' : Hp} {h h' B : Heap} (u : UnB fs H H' h B) (k : B.StaysIn h') (sl : Sl fs h h') : Un fs [] H H' h h' where
  keep := fun b o e n hb _ => k b o (u.keep b o e n hb)
  slot := fun b o e _ hb _ => sl b o e hb
  free := fun b o e n _ => u.free b o e n
  there := fun b o e _ => by
    by_cases hb : b ∈ fs
    · obtain ⟨_,q⟩ := sl b o e hb
      exact ⟨_,q⟩
    · obtain ⟨o',q⟩ := u.there b o e hb
      exact ⟨o',k _ _ q⟩
  tups := u.tups
  frzs := u.frzs
  tbls := u.tbls
theorem Sl.up {fs : List Addr} {h h' h'' : Heap} (x : Sl fs h h') (nf : ∀ b o,h.get? b = some o -> b ∈ fs -> ∀ vs,o.data ≠ .fields vs) (y : h'.UpToSlots h'') : Sl fs h h'' := fun b o e hb => by
  obtain ⟨sl,q⟩ := x b o e hb
  obtain ⟨sl',q'⟩ := y b _ q (nf b o e hb)
  exact ⟨sl',q'⟩
noncomputable def CXN (P : Program) (w : World) (C : Addr) : CXT := fun outer H s E e s' => ∃ (ea : Addr) (a0 : Value) (B : Heap) (H' : Hp),e = .ref ea /\ s'.os = s.os /\ AllBare s'.gens /\
  UnB (frs outer) H H' s.heap B /\ Sl (frs outer) s.heap s'.heap /\ HOk P w H' B /\ Heap.FlyingW B outer ea (.ref C) a0 s'.heap /\ E (.ref C) none H'
structure XN (X : Cx) (C : Addr) (E : XK) : Prop where
  stk : X.stack = X.env :: X.outer
  fr : X.env.frame = some X.env.locals
  ex : X.ex = []
  xe : ∀ e s',wpAny (model X.prog X.w) X.A (leaving X.env e) (fun _ s'' => CXN X.prog X.w C X.outer X.H_0 X.s_0 E e s'') (fun e' s'' => CXN X.prog X.w C X.outer X.H_0 X.s_0 E e' s'') s' -> X.xe e s'
section
variable {X : Cx} {C : Addr} {E : XK} {pins : List (Addr × Obj)} {σ : St} {H : Hp} {s : Shared}
theorem frs_cons {env : Env} {outer : List Env} {L : Addr} (hf : env.frame = some L) : frs (env :: outer) = L :: frs outer := by
  unfold frs
  rw [List.filterMap_cons,hf]
theorem XN.frs (hX : XN X C E) : L2.frs X.stack = X.env.locals :: X.fs := by
  rw [hX.stk]
  exact frs_cons hX.fr
theorem XN.out (hX : XN X C E) (I : Inv X pins σ H s) {b : Addr} {o : Obj} (e : X.s_0.heap.get? b = some o) (hb : b ∉ X.fs) : b ∉ L2.frs X.stack := by
  rw [hX.frs]
  intro m
  rcases List.mem_cons.mp m with q | q
  · exact absurd (Nat.lt_of_lt_of_le (Heap.lt_size e) I.ok.above) (by rw [q]; exact Nat.lt_irrefl _)
  · exact hb q
theorem XN.noex (hX : XN X C E) (b : Addr) : b ∉ X.ex := by
  rw [hX.ex]
  simp
theorem XN.unB (hX : XN X C E) (I : Inv X pins σ H s) {H' : Hp} {B : Heap} (u : UnB (L2.frs X.stack) H H' s.heap B) : UnB X.fs X.H_0 H' X.s_0.heap B where
  keep := fun b o e n hb => u.keep b o (I.base.keep b o e n hb (hX.noex b)) (I.base.free b o e n (hX.noex b)) (hX.out I e hb)
  free := fun b o e n => by
    obtain ⟨o',e'⟩ := I.base.there b o e (hX.noex b)
    exact u.free b o' e' (I.base.free b o e n (hX.noex b))
  there := fun b o e hb => by
    obtain ⟨o',e'⟩ := I.base.there b o e (hX.noex b)
    exact u.there b o' e' (hX.out I e hb)
  tups := fun b xs e => u.tups b xs (I.base.tups b xs e)
  frzs := fun b o v e => u.frzs b o v (I.base.frzs b o v e)
  tbls := fun b ps e => by
    obtain ⟨m1,e1⟩ := I.base.tbls b ps e
    obtain ⟨m2,e2⟩ := u.tbls b _ e1
    exact ⟨m1 ++ m2,by rw [e2,Array.append_assoc]⟩
theorem XN.sl (hX : XN X C E) (I : Inv X pins σ H s) {h' : Heap} (x : Sl (L2.frs X.stack) s.heap h') : Sl X.fs X.s_0.heap h' := fun b o e hb => by
  obtain ⟨sl,q⟩ := I.base.slot b o e (I.ok.frf b hb) hb (hX.noex b)
  obtain ⟨sl',q'⟩ := x b _ q (by rw [hX.frs]; exact List.mem_cons_of_mem _ hb)
  exact ⟨sl',q'⟩
theorem funs_nf {h base : Heap} {l : List Env} (x : h.FunFrames base l) : ∀ b o,h.get? b = some o -> b ∈ frs l -> ∀ vs,o.data ≠ .fields vs := fun b o e hb => by
  obtain ⟨_,o',e',q⟩ := x.mem hb
  rw [e] at e'
  cases e'
  exact q
theorem passN {E' : XK} (hX : XN X C E) (hE : ∀ H',E' (.ref C) none H' -> E (.ref C) none H') : Passes (CXN X.prog X.w C) X E' := by
  intro pins σ H s e s' I h
  obtain ⟨ea,a0,B,H',rfl,os,bare,u,sl,hok,fl,q⟩ := h
  refine hX.xe _ _ ?_
  rw [hX.stk] at fl
  refine wpAny_leaves_onW (by rw [<- hX.stk]; exact I.ok.frames) hX.fr fl fun h' fl' up => ?_
  refine ⟨ea,a0,B,H',rfl,os.trans I.os,bare,hX.unB I u,?_,hok,fl',hE _ q⟩
  exact hX.sl I (sl.up (funs_nf I.stack) up)
end
noncomputable def ExcK (K : PySem.W.Frag) (C : Addr) : Prop := PySem.W.excIn K C [.type "ValueError",.type "Exception",.type "BaseException",.type "object"] "ValueError.__new__" = true
theorem excObj {K : PySem.W.Frag} {h : Heap} {C : Addr} {bmB : List Value} {newId : String} (X : K.In h) (q : PySem.W.excIn K C bmB newId = true) :
    ∃ bm N nm q bs hdct sn sub ab col dd k0 k1 k2 k3 k5 mN,h.get? C = some (excClassObj nm q C N bs bm hdct sn sub ab col dd k0 k1 k2 k3 k5 newId) /\ h.Ns N mN /\ mN "__init__" = none /\ OwnTail h bmB bm := by
  unfold PySem.W.excIn at q
  split at q
  · rename_i dd cd sl ho
    split at q
    · rename_i C' bm k0 k1 k2 k3 n k5 hm hs
      simp only [Bool.and_eq_true,beq_iff_eq,Bool.not_eq_true'] at q
      obtain ⟨⟨⟨⟨⟨rfl,rfl⟩,hdel⟩,ht⟩,hok⟩,hni⟩ := q
      obtain ⟨nm,bs,mro,ns,qn,hd,sn,sub,ab,col,del⟩ := cd
      dsimp only at hm hdel hok hni
      subst hm hdel
      have hsl : sl = #[k0,k1,k2,k3,some (.builtin n),k5] := by
        obtain ⟨l⟩ := sl
        simp only at hs
        rw [hs]
      subst hsl
      exact ⟨bm,ns,nm,qn,bs,hd,sn,sub,ab,col,dd,k0,k1,k2,k3,k5,_,X _ _ ho,.of_isNs (PySem.W.isNs_of_in X hok),PySem.W.nsMap_none_of_in X hok hni,PySem.W.tail_of_in X ht⟩
    · cases q
  · cases q
noncomputable def tRaise (C : Addr) (E : XK) : TS := fun _ _ H => E (.ref C) none H
theorem ps_raise {X : Cx} {C : Addr} {E : XK} {x : Str} {np cpos pos : Pos} (hX : XN X C E) (hc : X.calm = true) (O : ExcK X.K C) (hg : Gl X x) (hm : X.mg x = some (.ref C)) (hd : (x == ("__debug__" : Str)) = false := by decide) :
    PS X (.Raise (some (.Call (.Name x np) [] [] cpos)) none pos) (tRaise C E) := by
  intro pins s σ H D I h
  obtain ⟨tl,N,nm,q,bs,hdct,sn,sub,ab,col,dd,k0,k1,k2,k3,k5,mN,hC,hN,hni,T⟩ := excObj I.kIn O
  refine wpAny_Raise_call_subT (C := C) (nm := nm) (q := q) (N := N) (bs := bs) (bm := tl) (hdct := hdct) (sn := sn) (sub := sub) (ab := ab) (col := col) (dd := dd) (k0 := k0) (k1 := k1) (k2 := k2) (k3 := k3) (k5 := k5)
    PySem.F.excBase_ValueError (mN := mN) (T.hasType PySem.F.excBase_ValueError.hasBase) (I.ok.hd hc) rfl hni (ld_glob I hg hm ⟨rfl,?_⟩ hd)
  refine evalArgs_empty ⟨rfl,Nat.zero_le _,hC,hN,T,fun h' e hx => hX.xe _ _ ?_⟩
  have hin : ∀ env ∈ X.env :: X.outer,∀ b,env.frame = some b -> b ∈ frs X.stack := fun env he b hb => by
    rw [hX.stk]
    exact List.mem_filterMap.mpr ⟨env,he,hb⟩
  have hfr : X.A.frames = some (X.env :: X.outer) := by rw [<- hX.stk]; exact I.ok.frames
  have hst : s.heap.FunFrames X.base (X.env :: X.outer) := by rw [<- hX.stk]; exact I.stack
  refine wpAny_leaves_madeW (base := PySem.W.hideAll s.heap (frs X.stack)) hfr hX.fr (fun b o q => PySem.W.of_hideAll _ q) (PySem.W.funFrames_hide hst hin) hx fun h'' t fl _ _ up => ?_
  have u : UnB (frs X.stack) H H s.heap (PySem.W.hideAll s.heap (frs X.stack)) :=
    ⟨fun b o e _ hb => PySem.W.hideAll_get _ e hb,fun _ _ _ n => n,fun b o e hb => ⟨o,PySem.W.hideAll_get _ e hb⟩,fun _ _ e => e,fun _ _ _ e => e,fun b ps e => ⟨#[],by rw [e]; simp⟩⟩
  have nfr : ∀ b v,H b = some v -> b ∉ frs X.stack := fun b v e m => by
    rw [I.stkFree b m] at e
    cases e
  have hok : HOk X.prog X.w H (PySem.W.hideAll s.heap (frs X.stack)) := fun b v e =>
    (I.hok b v e).stay (fun c v' hcc q => PySem.W.hideAll_get _ q (by
      rcases hcc with z | z
      · rw [z]; exact nfr b v e
      · exact nfr c _ z)) (fun _ q => q) fun _ _ q => q
  have sl : Sl (frs X.stack) s.heap h'' := Sl.up (h' := h') (fun b o e _ => ⟨o.slots,hx.keeps b o e⟩) (funs_nf I.stack) up
  exact ⟨e,_,_,H,rfl,I.os,I.bare,hX.unB I u,hX.sl I sl,hok,fl,h⟩
noncomputable def tTry (C : Addr) (E1 : XK) (tb ts : TS) : TS := fun D σ H => tb D σ H /\ ∀ (σ' : St) (H' : Hp),σ'.length = σ.length -> E1 (.ref C) none H' -> ts D σ' H'
noncomputable abbrev Cx.tryB (X : Cx) (pn : List (Addr × Obj)) (W : Value -> Shared -> Prop) : Cx := { X with pn := pn,xe := W }
noncomputable abbrev Cx.exB (X : Cx) (pn : List (Addr × Obj)) (ea : Addr) : Cx := { X with A := X.A.mark (some (.ref ea)),calm := false,pn := pn,xe := fun _ _ => False }
section
variable {X : Cx} {C : Addr} {E1 : XK} {x : Str} {np hpos pos : Pos} {body suite : List Stmt} {b₀ : Stmt} {tb ts : TS}
theorem Cx.Ok.tryB (ok : X.Ok) (pn : List (Addr × Obj)) (W : Value -> Shared -> Prop) : (X.tryB pn W).Ok :=
  ⟨ok.mod,ok.kind,ok.glob,ok.blt,ok.above,ok.inj,ok.has,ok.cab,ok.hd,ok.frames,ok.stk,ok.exf,ok.bs,ok.bsz,ok.noex,ok.exfs,ok.funs,ok.frf⟩
theorem Cx.Ok.exB (ok : X.Ok) (pn : List (Addr × Obj)) (ea : Addr) : (X.exB pn ea).Ok :=
  ⟨ok.mod,ok.kind,ok.glob,ok.blt,ok.above,ok.inj,ok.has,ok.cab,fun z => Bool.noConfusion (show false = true from z),ok.frames,ok.stk,ok.exf,ok.bs,ok.bsz,ok.noex,ok.exfs,ok.funs,ok.frf⟩
theorem Cx.Ok.unTry {pn : List (Addr × Obj)} {W : Value -> Shared -> Prop} (ok : (X.tryB pn W).Ok) : X.Ok :=
  ⟨ok.mod,ok.kind,ok.glob,ok.blt,ok.above,ok.inj,ok.has,ok.cab,ok.hd,ok.frames,ok.stk,ok.exf,ok.bs,ok.bsz,ok.noex,ok.exfs,ok.funs,ok.frf⟩
theorem ps_try (stk : X.stack = X.env :: X.outer) (hf : X.env.frame = some X.env.locals) (O : ExcK X.K C) (hg : Gl X x) (hm : X.mg x = some (.ref C))
    (hb : ∀ pn W,Passes (CXN X.prog X.w C) (X.tryB pn W) E1 -> PSs (X.tryB pn W) body tb)
    (hs : ∀ pn ea,PSs (X.exB pn ea) (b₀ :: suite) ts) (hd : (x == ("__debug__" : Str)) = false := by decide) :
    PS X (.Try body [.ExceptHandler (some (.Name x np)) none (b₀ :: suite) hpos] [] [] pos) (tTry C E1 tb ts) := by
  intro pins s σ H D I h
  obtain ⟨h1,h2⟩ := h
  have back : ∀ {W : Value -> Shared -> Prop} {σ' : St} {H' : Hp} {s' : Shared},Inv (X.tryB (X.pn ++ pins) W) [] σ' H' s' -> Inv X pins σ' H' s' := fun {W σ' H' s'} J =>
    ⟨J.ok.unTry,J.os,J.bare,J.base,J.loc,J.cell,J.free,J.freeC,fun p hp => J.pin p (List.mem_append_left _ hp),J.hok,J.len⟩
  let W : Value -> Shared -> Prop := fun e s' => ∃ (σ1 : St) (H1 : Hp) (s1 : Shared),Inv X pins σ1 H1 s1 /\ CXN X.prog X.w C X.stack H1 s1 E1 e s'
  have I0 : Inv (X.tryB (X.pn ++ pins) W) [] σ H s :=
    ⟨I.ok.tryB _ _,I.os,I.bare,I.base,I.loc,I.cell,I.free,I.freeC,fun p hp => I.pin p (by simpa using hp),I.hok,I.len⟩
  have pass : Passes (CXN X.prog X.w C) (X.tryB (X.pn ++ pins) W) E1 := fun pins1 σ1 H1 s1 e s' I1 hc =>
    ⟨σ1,H1,s1,back (I1.pins_of fun p hp => absurd hp (by simp)),hc⟩
  refine wpAny_Try_except (wpAny_mono (hb (X.pn ++ pins) W pass [] s σ H D I0 h1) (fun f s1 q => ?_) fun e s1 q => ?_)
  · cases f with
    | next =>
      obtain ⟨σ',H',J,z⟩ := q
      exact wpAny_execs_nil ⟨σ',H',back J,z⟩
    | brk =>
      obtain ⟨σ',H',J,z⟩ := q
      exact ⟨σ',H',back J,z⟩
    | cont =>
      obtain ⟨σ',H',J,z⟩ := q
      exact ⟨σ',H',back J,z⟩
    | ret u =>
      obtain ⟨v,σ',H',J,r,z⟩ := q
      exact ⟨v,σ',H',back J,r,z⟩
  · obtain ⟨σ1,H1,s0,I1,ea,a0,B,H',rfl,os,bare,u,sl,hok,fl,q⟩ := q
    have hfr : X.A.frames = some (X.env :: X.outer) := by rw [<- stk]; exact I.ok.frames
    have inv : ∀ {h' : Heap},B.StaysIn h' -> Sl (frs X.stack) s0.heap h' -> Inv X pins σ1 H' { s1 with heap := h' } := fun {h'} k z =>
      I1.call' (s' := { s1 with heap := h' }) (ch := []) os (u.un k z) (hok.kept k) bare (fun b m => absurd m (by simp))
    have inX : ∀ {h' : Heap},Inv X pins σ1 H' { s1 with heap := h' } -> Inv (X.exB (X.pn ++ pins) ea) [] σ1 H' { s1 with heap := h' } := fun {h'} J =>
      ⟨J.ok.exB _ _,J.os,J.bare,J.base,J.loc,J.cell,J.free,J.freeC,fun p hp => J.pin p (by simpa using hp),J.hok,J.len⟩
    rw [stk] at fl
    refine wpAny_looks_onW hfr hf fl fun h4 hl4 up4 => wpAny_landsW hl4 fun h5 fl5 up5 => ?_
    have sl5 : Sl (frs X.stack) s0.heap h5 := (sl.up (funs_nf I1.stack) up4).up (funs_nf I1.stack) up5
    have I5 := inX (inv fl5.1 sl5)
    refine wpAny_handleBy_cons (codeAny_handlers_test ?_) (by intro z; cases z)
    refine ld_glob (X := X.exB (X.pn ++ pins) ea) I5 hg hm ?_ hd
    obtain ⟨tl,N,nm,q2,bs,hdct,sn,sub,ab,col,dd,k0,k1,k2,k3,k5,mN,hC,hN,hni,T⟩ := excObj I5.kIn O
    obtain ⟨oe,he,hcls⟩ := fl5.there
    refine wpAny_excMatches_sub_self hC he hcls (T.hasType PySem.F.excBase_ValueError.hasBase) (codeAny_handlers_suite ?_)
    refine lands_againW fl5 fun h6 fl6 up6 => ?_
    have I6 := inX (inv fl6.1 (sl5.up (funs_nf I1.stack) up6))
    refine wpAny_mono (hs (X.pn ++ pins) ea [] _ σ1 H' D I6 (h2 σ1 H' (I1.len.trans I.len.symm) q)) (fun f s7 z => ?_) fun _ _ z => False.elim z
    have back2 : ∀ {σ' : St} {H' : Hp} {s' : Shared},Inv (X.exB (X.pn ++ pins) ea) [] σ' H' s' -> Inv X pins σ' H' s' := fun {σ' H' s'} J =>
      ⟨I.ok,J.os,J.bare,J.base,J.loc,J.cell,J.free,J.freeC,fun p hp => J.pin p (List.mem_append_left _ hp),J.hok,J.len⟩
    cases f with
    | next =>
      obtain ⟨σ',H',J,z⟩ := z
      exact ⟨σ',H',back2 J,z⟩
    | brk =>
      obtain ⟨σ',H',J,z⟩ := z
      exact ⟨σ',H',back2 J,z⟩
    | cont =>
      obtain ⟨σ',H',J,z⟩ := z
      exact ⟨σ',H',back2 J,z⟩
    | ret u =>
      obtain ⟨v,σ',H',J,r,z⟩ := z
      exact ⟨v,σ',H',back2 J,r,z⟩
end
section
variable {P : Program} {w : World} {K : PySem.W.Frag} {mg : Str -> Option Value} {base : Heap}
theorem Fun.okN {x qual : Str} {st : Stmt} {f C : Addr} {fd : FuncData} {N ps : List Str} {k : Nat} {sp : Sp} (F : Fun K x qual st f fd) (S : FnScope N ps (defScope st)) (len : ∀ vs H Q E,sp vs H Q E -> vs.length = ps.length)
    (hbody : ∀ (cdv : Value) (A : Around) (outer : List Env) (s : Shared) (H : Hp) (vs : List V) (Q : VK) (E : XK),Room k (A.deeper (envOfC qual (defScope st) s.heap.objs.size f cdv)) -> sp vs H Q E ->
      ∃ t,PSs (cxOf (CXN P w C) P w K mg base N qual (defScope st) f cdv A outer s H E) (defBody st) t /\ t { nx := fun _ H' => Q .non H',rt := Q } (start N vs) H) : FnOk P w K mg base (CXN P w C) (k + 1) f fd ps sp := by
  obtain ⟨oc,od,kV,doc,pm,an,cdv,ct,osl,rfl,lk,hcd⟩ := F.ex
  exact fn_of lk hcd S len fun A outer s H vs Q E hr hsp => hbody cdv A outer s H vs Q E hr hsp
theorem xn_of {C : Addr} {N : List Str} {qual : Str} {sc : Scope} {f : Addr} {cd : Value} {A : Around} {outer : List Env} {s : Shared} {H : Hp} {E : XK} : XN (cxOf (CXN P w C) P w K mg base N qual sc f cd A outer s H E) C E :=
  ⟨rfl,rfl,rfl,fun _ _ h => h⟩
theorem po_of {C : Addr} {N : List Str} {qual : Str} {sc : Scope} {f : Addr} {cd : Value} {A : Around} {outer : List Env} {s : Shared} {H : Hp} {E : XK} :
    PassesOwn (model P w) (cxOf (CXN P w C) P w K mg base N qual sc f cd A outer s H E).A (cxOf (CXN P w C) P w K mg base N qual sc f cd A outer s H E).env (cxOf (CXN P w C) P w K mg base N qual sc f cd A outer s H E).xe :=
  PassesOwn.leaving (M := model P w) (A := A.deeper (envOfC qual sc s.heap.objs.size f cd)) (env := envOfC qual sc s.heap.objs.size f cd) (Q₁ := fun e s'' => CXN P w C outer H s E e s'') (E₁ := fun e' s'' => CXN P w C outer H s E e' s'')
end
end L2
end

section
namespace L2
open PySem PySem.Spec PyProof.Rows
section
variable {prog : Program} {w : World} {K : Type} [DecidableEq K] {knd : HeapKind prog w K} {A : Around} {E : Value -> Shared -> Prop} {s : Shared}
theorem setDefault_heap {d a : Addr} {xs : List (K × Addr × Value)} {k : K} {v : Value} {Q : Value -> Shared -> Prop} (hu : knd.room A) (hkey : knd.is s.heap k a) (hm : s.heap.DictOfH knd d xs)
    (h1 : ∀ p,atKey xs k = some p -> Q p.2 { s with toks := s.toks + knd.draws k })
    (h2 : atKey xs k = none -> ∀ h',h'.DictOfH knd d (storedH xs k a v) -> Heap.SameBut d s.heap h' -> Q v { s with heap := h',toks := s.toks + knd.draws k })
    (hsz : xs.length <= sizeLine) :
    wpAny (model prog w) A (dictSetDefault d (.ref a) v) Q E s := by
  obtain ⟨o,es,ep,ho,hc,hd,he,his,hn⟩ := hm
  unfold dictSetDefault
  try with_reducible refine wpAny_holding ?_
  refine wpAny_bind (knd.pyHash hu hkey ?_)
  refine wpAny_bind (wpAny_dictFind_heap (s := { s with toks := s.toks + knd.draws k }) hu hkey ho hd he his hn ?_ ?_)
  · intro hno
    have hnot : k ∉ xs.map (·.1) := not_mem_keys_of_get hno
    refine wpAny_bind (wpAny_rule (wpAny_bind (wpAny_updateDictKeys (hz := by have e := size_of_entries he; omega) (s := { s with toks := s.toks + knd.draws k }) ho hd (wpAny_pure (h2 (atKey_none_of_get hno) _ ⟨_,_,ep + 1,Heap.get?_update_self _ ho (Obj.isFreed_of_dict (Obj.data_mapDictKeys hd _)),
      hc.mapDictKeys _,Obj.data_mapDictKeys hd _,?_,?_,?_⟩ (Heap.SameBut.update ..))))))
    · rw [storedH_new (atKey_none_of_get hno)]
      simp [he,entryOfKey]
    · rw [storedH_new (atKey_none_of_get hno)]
      intro x hx
      rcases List.mem_append.mp hx with hx | hx
      · exact knd.keeps (his x hx) ho hd (Heap.SameBut.update ..)
      · simp only [List.mem_singleton] at hx
        subst hx
        exact knd.keeps hkey ho hd (Heap.SameBut.update ..)
    · rw [storedH_new (atKey_none_of_get hno)]
      rw [List.map_append,List.nodup_append]
      refine ⟨hn,by simp,?_⟩
      intro x hx y hy
      simp only [List.map_cons,List.map_nil,List.mem_singleton] at hy
      subst hy
      exact fun e => hnot (e ▸ hx)
  · intro j p hj
    refine wpAny_bind (wpAny_dictEntries (s := { s with toks := s.toks + knd.draws k }) ho hd ?_)
    rw [entry_at he j,hj]
    exact wpAny_bind (wpAny_rule (wpAny_pure (h1 p (atKey_of_get hn hj))))
theorem meetsH_setdefault {d a : Addr} (hd : (d == sysModules) = false) (dflt : Value) :
    MeetsIn prog w (Builtin.«dict.setdefault» ⟨[.ref d,.ref a,dflt],[]⟩) (fun A R s => knd.room A.in1 /\ ∃ k xs,knd.is s.heap k a /\ s.heap.DictOfH knd d xs /\ xs.length <= sizeLine /\
      (∀ p,atKey xs k = some p -> R (.ok (.ret p.2)) { s with toks := s.toks + knd.draws k }) /\
      (atKey xs k = none -> ∀ h',h'.DictOfH knd d (storedH xs k a dflt) -> Heap.SameBut d s.heap h' -> R (.ok (.ret dflt)) { s with heap := h',toks := s.toks + knd.draws k })) :=
  .of_wp fun A R s ⟨hu,k,xs,hkey,hm,hz,h1,h2⟩ => by
    unfold Builtin.«dict.setdefault»
    refine wpAny_bind ?_
    unfold Builtin.Dict.keyAndDefault
    refine wpAny_bind (wpAny_notOrdered_dict hm.typeIs ?_)
    show wpAny _ _ (pure (d,Value.ref a,some dflt)) _ _ s
    refine wpAny_pure ?_
    show wpAny _ _ (if (d == sysModules) = true then _ else (dictSetDefault d (.ref a) dflt >>= _)) _ _ s
    rw [if_neg (by rw [hd]; exact Bool.false_ne_true)]
    exact wpAny_bind (setDefault_heap hu hkey hm (fun p hp => wpAny_pure ⟨p.2,rfl,h1 p hp⟩) (fun hn h' hm' hs' => wpAny_pure ⟨dflt,rfl,h2 hn h' hm' hs'⟩) hz)
end
section
variable {X : Cx} {pins : List (Addr × Obj)} {σ : St} {H : Hp} {s : Shared} {a b : Addr} {kvs : List (List Key × V)} {k : List Key} {v : V} {r : Value} {A : Around} {E : Value -> Shared -> Prop}
theorem d_setdefault {Q : Value -> Shared -> Prop} (hu : A.units + 1 < cLine) (I : Inv X pins σ H s) (e : H a = some (.dT kvs)) (eb : H b = some (.tup (k.map kV))) (l : kvs.length < sizeLine) (rv : RelV v r)
    (h1 : ∀ x w' s',valV kvs k = some x -> Inv X pins σ H s' -> RelV x w' -> Q w' s') (h2 : ∀ s',valV kvs k = none -> Inv X pins σ (upd H a (.dT (putK kvs k v))) s' -> Q r s') :
    wpAny (model X.prog X.w) A (call (.builtin "dict.setdefault") [.ref a,.ref b,r]) Q E s := by
  obtain ⟨z,hd,xs,rel,dd⟩ := dt_of I.hok e
  have hz : xs.length <= sizeLine := by rw [<- Paired.length rel]; exact z
  have hl : (putK kvs k v).length <= sizeLine := by have := length_putK kvs k v; omega
  have rk := rel.val k
  refine call_meetsIn PySem.F.slot_dict_setdefault dd.typeIs PySem.F.entry_dict_setdefault (PySem.F.args_dict_setdefault_3 _ _ _) (meetsH_setdefault (knd := tupleKind (mixKind X.prog X.w)) hd r)
    ⟨tupleKind_room_in1 hu,k,xs,key_of I.hok eb,dd,hz,fun p hp => ?_,fun hn h' dd' hs => ?_⟩
  · rw [hp,Option.map_some] at rk
    cases q : valV kvs k with
    | none => rw [q] at rk; exact False.elim rk
    | some x =>
      rw [q] at rk
      exact h1 x _ _ q (I.tok _) rk
  · rw [hn,Option.map_none] at rk
    have q := rk
    cases qq : valV kvs k with
    | some x => rw [qq] at q; exact False.elim q
    | none =>
      obtain ⟨q,es,ep,hq,g2,g3,g4,_,g5⟩ := dd'
      refine h2 _ qq (d_write I (by rw [e]; exact True.intro) hs ⟨q,hq⟩ ⟨hl,hd,_,(rel.put k eb rv).keeps fun c ys ec => ?_,q,es,ep,hq,g2,g3,g4,g5⟩)
      rw [upd_ne (ne_of ec e (fun z => nomatch z))]
      exact ec
end
noncomputable def tDSetd (td ty tx : TE) : TE := fun σ H Q => td σ H fun x H1 => ∃ a,x = .ref a /\ IsD H1 a /\ ty σ H1 fun y H2 => tx σ H2 fun z H3 => ∃ kvs k b,H3 a = some (.dT kvs) /\ y = .ref b /\ H3 b = some (.tup (k.map kV)) /\ kvs.length < sizeLine /\
  (∀ v,valV kvs k = some v -> Q v H3) /\ (valV kvs k = none -> Q z (upd H3 a (.dT (putK kvs k z))))
section
variable {X : Cx} {o e f : Expr} {apos cpos : Pos} {td ty tx : TE}
theorem pe_dsetd (hu : X.A.units + 1 < cLine) (ho : PE X o td) (he : PE X e ty) (hf : PE X f tx) (m : M2 X o "setdefault" apos e f cpos) : PE X (.Call (.Attribute o "setdefault" apos) [e,f] [] cpos) (tDSetd td ty tx) := by
  intro pins s σ H Q I h
  refine wpAny_Call_method m.base m.few m.line PySem.F.plainAttrs_dict PySem.F.slot_dict_setdefault PySem.F.type_dict_setdefault (thn (ho pins s σ H _ I h) fun u s1 ⟨x,H1,I1,rx,a,ex,d,q1⟩ => ?_)
  subst ex
  obtain rfl : u = Value.ref a := rx
  obtain ⟨t1,t2,_⟩ := isD_at I1 d
  refine ⟨t1,t2,?_⟩
  rw [m.trees]
  refine Calls.callWith_builtin rfl (Calls.evalArgs_plain (Calls.spliced_cons (thn (he pins s1 σ H1 _ I1 q1) fun iv s2 ⟨y,H2,I2,ry,q2⟩ =>
    Calls.spliced_cons (thn (hf pins s2 σ H2 _ I2 q2) fun fv s3 ⟨z,H3,I3,rz,kvs,k,b,g1,g2,g3,g4,g5,g6⟩ => Calls.spliced_nil ?_))))
  subst g2
  obtain rfl : iv = Value.ref b := ry
  exact d_setdefault hu I3 g1 g3 g4 rz (fun x w' s4 hv I4 rw' => ⟨x,H3,I4,rw',g5 x hv⟩) fun s4 hv I4 => ⟨z,_,I4,rz,g6 hv⟩
end
theorem meets_lenH {prog : Program} {w : World} {d : Addr} (hd : (d == sysModules) = false) (n : Nat) :
    MeetsIn prog w (Builtin.«dict.__len__» ⟨[.ref d],[]⟩) (fun _ R s => (∃ o es ep,s.heap.get? d = some o /\ o.ExactDict /\ o.data = .dict es ep /\ es.size = n) /\ R (.ok (.ret (.int n s.toks))) { s with toks := s.toks + 1 }) :=
  .of_wp fun A R s ⟨⟨o,es,ep,ho,hc,hdat,hn⟩,h⟩ => by
    show wpAny _ _ (dictSize d >>= _) _ _ s
    unfold dictSize
    refine wpAny_bind (wpAny_bind (wpAny_dictEntries ho hdat (wpAny_pure ?_)))
    show wpAny _ _ (Builtin.Dict.pendingCount d >>= _) _ _ s
    refine wpAny_bind (wpAny_pendingCount_other hd ?_)
    refine wpAny_ret_mkInt ?_
    rw [Nat.add_zero,hn]
    exact h
theorem len_bodyH {prog : Program} {w : World} {A : Around} {E : Value -> Shared -> Prop} {s : Shared} {d : Addr} {n : Nat} {Q : Value -> Shared -> Prop} (hd : (d == sysModules) = false) (hT : s.TypeIs (.ref d) "dict")
    (hm : ∃ o es ep,s.heap.get? d = some o /\ o.ExactDict /\ o.data = .dict es ep /\ es.size = n) (hfit : (n : Int) < 2 ^ 63)
    (h : Q (.int n (s.toks + 1)) { s with toks := s.toks + 1 + 1 }) : wpAny (model prog w) A (Builtin.«len» ⟨[.ref d],[]⟩) (fun fin s' => ∃ r,fin = .done (.ret r) /\ Q r s') E s := by
  unfold Builtin.«len»
  refine wpAny_bind (m := oneArg "len" _) (wpAny_pure ?_)
  refine wpAny_bind (m := callSpecial? (.ref d) (Str.ofString "__len__")) (wpAny_callSpecial?_slot (name := Str.ofString "__len__") hT PySem.F.slot_dict_len
    (call_meetsIn PySem.F.slot_dict_len hT PySem.F.entry_dict_len (PySem.F.args_dict_len_1 _) (meets_lenH hd n) ⟨hm,?_⟩))
  show wpAny _ _ _ _ _ { s with toks := s.toks + 1 }
  refine wpAny_bind (wpAny_holding (wpAny_pure ?_))
  refine wpAny_bind (wpAny_letGo ?_)
  show wpAny _ _ (if ((n : Nat) : Int) < 0 then _ else _) _ _ _
  rw [if_neg (by omega)]
  show wpAny _ _ (if ((n : Nat) : Int) >= 2 ^ 63 then _ else _) _ _ _
  rw [if_neg (by omega)]
  exact wpAny_bind (wpAny_mkInt (wpAny_pure ⟨_,rfl,h⟩))
section
variable {X : Cx}
theorem call_lenT : CallR X (.builtin "len") (fun xs H Q => ∃ a kvs,xs = [V.ref a] /\ H a = some (.dT kvs) /\ Q (.int kvs.length) H) := by
  intro pins s σ H xs us Q I r h
  obtain ⟨a,kvs,rfl,ha,q⟩ := h
  obtain ⟨u,rfl,ru⟩ := vals1 r
  cases ru
  obtain ⟨z,hd,ys,rel,dd⟩ := dt_of I.hok ha
  have hT := dd.typeIs
  obtain ⟨o,es,ep,h1,h2,h3,h4,_⟩ := dd
  have hn : es.size = kvs.length := by
    rw [<- Array.length_toList,h4,List.length_map]
    exact (Paired.length rel).symm
  refine Calls.call_function_entry kind_len plain_len entry_len (args_len1 _) (len_bodyH hd hT ⟨o,es,ep,h1,h2,h3,hn⟩ (by rw [sizeLine_eq] at z; omega) ?_)
  exact ⟨.int kvs.length,H,I.tok _,⟨_,rfl⟩,q⟩
end
section
variable {prog : Program} {w : World} {A : Around} {E : Value -> Shared -> Prop} {s : Shared}
theorem lri_no_len : typeLookup (.type "list_reverseiterator") "__len__" = pure none := by rw [typeLookup_type,builtinLookup_eq_fast]; kernel_rfl
theorem lri_hint : typeLookup (.type "list_reverseiterator") "__length_hint__" = pure (some (.builtin "list_reverseiterator.__length_hint__")) := by rw [typeLookup_type,builtinLookup_eq_fast]; kernel_rfl
theorem lri_sub : isSubtype (.type "list_reverseiterator") (.type "list_reverseiterator") = pure true := by rw [isSubtype_type]; kernel_rfl
theorem extend_rev {R : Result -> Shared -> Prop} (hh : A.handled = none) {it l : Addr} {items : Array Value} (hl : s.heap.IsList l items) (hit : s.heap.IsRevIter it l ((items.size : Int) - 1)) (hne : l ≠ it) (S : Addr) (res : Value) (c₀ : Nat)
    (hS : s.heap.get? S = some { cls := .type "list",data := .seq #[] c₀ }) (hSI : S ≠ it) (hSl : S ≠ l)
    (hR : ∀ h' tk acc' c',(∀ b o,b ≠ S -> b ≠ it -> s.heap.get? b = some o -> h'.get? b = some o) -> h'.get? S = some { cls := .type "list",dict := none,data := .seq acc' c',slots := #[] } ->
      ItemsOf (fun i v => items[items.size - 1 - i]? = some v) acc' items.size -> R (.ok (.ret res)) { s with heap := h',toks := tk }) (hn : items.size <= sizeLine) :
    wpAny (model prog w) A.in1 (Builtin.List.listExtendWith (.ref S) (.ref it) res)
      (fun fin s' => match fin with | .done f => R (.ok f) s' | .again c' => c'.quiet = true /\ codeAny (model prog w) A c' R s') (fun e s' => R (.error e) s') s := by
  have hT : s.TypeIs (.ref it) "list_reverseiterator" := hit.typeIs
  have hSf : S ∉ [it,l] := fun hm => by
    rcases List.mem_cons.mp hm with e | hm
    · exact hSI e
    · exact hSl (List.mem_singleton.mp hm)
  unfold Builtin.List.listExtendWith
  refine wpAny_bind (wpAny_typeOf hT ?_)
  have h1 : Builtin.List.listSameRef (.ref S) (.ref it) = false := by simp [Builtin.List.listSameRef,hSI]
  have h2 : (Value.type "list_reverseiterator" == Value.type "list") = false := by decide
  have h3 : (Value.type "list_reverseiterator" == Value.type "tuple") = false := by decide
  simp only [h1,h2,h3,Bool.or_false,Bool.false_eq_true,if_false]
  refine wpAny_bind (wpAny_pyIter_revIter hit ?_)
  refine wpAny_bind (wpAny_holding ?_)
  unfold Builtin.List.listLengthHint
  refine wpAny_bind (wpAny_specialOf hT lri_no_len ?_)
  show wpAny _ A.in1 (specialOf (Value.ref it) (Str.ofString "__length_hint__") >>= _) _ _ _
  refine wpAny_bind (wpAny_specialOf hT lri_hint ?_)
  wp_delta
  refine wpAny_bind (wpAny_isInstance hT lri_sub ?_)
  refine wpAny_of_eq (a := false) (by kernel_rfl) ?_
  show wpAny _ A.in1 (again (.builtin "list.extend.loop" ⟨[.ref S,.ref it,res],[]⟩)) _ _ _
  have W := Walks.listRev (prog := prog) (w := w) (A := A.in1) hh it l hne items
  refine wpAny_pure ⟨plainId_quiet PySem.F.plain_extend_loop _,codeAny_extend_loopS W.toS hn _ hSf _ items.size 0 _ _ _ rfl (Nat.zero_le _) ⟨Nat.zero_le _,?_,hl⟩ hS (ItemsOf.nil _) fun s' acc' c' hm hS' hacc => ?_⟩
  · have e : (items.size : Int) - 1 - ((0 : Nat) : Int) = (items.size : Int) - 1 := by omega
    rw [e]
    exact hit
  · rw [Moved.eq_with hm]
    refine hR s'.heap s'.toks acc' c' (fun b ob hb hb2 e => hm.heap b ob (fun hmem => ?_) e) hS' hacc
    rcases List.mem_cons.mp hmem with e' | hmem
    · exact hb e'
    · exact hb2 (List.mem_singleton.mp hmem)
theorem list_init_rev {R : Result -> Shared -> Prop} (hh : A.handled = none) {it l : Addr} {items : Array Value} (hl : s.heap.IsList l items) (hit : s.heap.IsRevIter it l ((items.size : Int) - 1)) (hne : l ≠ it) (S : Addr)
    (hS : s.heap.get? S = some { cls := .type "list",data := .seq #[] }) (hSI : S ≠ it) (hSl : S ≠ l)
    (hR : ∀ h' tk acc' c',(∀ b o,b ≠ S -> b ≠ it -> s.heap.get? b = some o -> h'.get? b = some o) -> h'.get? S = some { cls := .type "list",dict := none,data := .seq acc' c',slots := #[] } ->
      ItemsOf (fun i v => items[items.size - 1 - i]? = some v) acc' items.size -> R (.ok (.ret .none)) { s with heap := h',toks := tk }) (hn : items.size <= sizeLine) :
    wpAny (model prog w) A.in1 (Builtin.«list.__init__» ⟨[.ref S,.ref it],[]⟩)
      (fun fin s' => match fin with | .done f => R (.ok f) s' | .again c' => c'.quiet = true /\ codeAny (model prog w) A c' R s') (fun e s' => R (.error e) s') s := by
  show wpAny _ _ (do let old <- Builtin.List.listItems (.ref S); Builtin.List.listUpdate (.ref S) (fun _ => #[]); letGo old.toList.reverse; Builtin.List.listExtendWith (.ref S) (.ref it) .none) _ _ s
  refine wpAny_bind ?_
  unfold Builtin.List.listItems
  refine wpAny_bind (wpAny_seqItems hS rfl (wpAny_pure ?_))
  show wpAny _ _ (updateSeq S (fun _ => #[]) >>= fun _ => letGo (#[] : Array Value).toList.reverse >>= fun _ => Builtin.List.listExtendWith (.ref S) (.ref it) .none) _ _ s
  refine wpAny_bind (wpAny_updateSeq hS rfl ?_)
  have hS₂ := Heap.get?_update_self (Obj.mapSeq (fun _ => (#[] : Array Value))) hS rfl
  have oth : ∀ b o,b ≠ S -> s.heap.get? b = some o -> (s.heap.update S (Obj.mapSeq (fun _ => (#[] : Array Value)))).get? b = some o :=
    fun b o hb e => (Heap.get?_update_other _ _ (Ne.symm hb)).trans e
  refine wpAny_bind (wpAny_letGo ?_)
  refine extend_rev hh (hl.at fun o e => oth l o (Ne.symm hSl) e) (hit.at fun o e => oth it o (Ne.symm hSI) e) hne S .none _ hS₂ hSI hSl (fun h' tk acc' c' hk hS' hacc => ?_) hn
  exact hR h' tk acc' c' (fun b o hb hb2 e => hk b o hb hb2 (oth b o hb e)) hS' hacc
theorem call_list_rev {Q : Value -> Shared -> Prop} (hh : A.handled = none) {it l : Addr} {items : Array Value} (hl : s.heap.IsList l items) (hit : s.heap.IsRevIter it l ((items.size : Int) - 1)) (hne : l ≠ it)
    (hQ : ∀ h' tk acc' c',(∀ b o,b ≠ it -> s.heap.get? b = some o -> h'.get? b = some o) ->
      h'.get? s.heap.objs.size = some { cls := .type "list",dict := none,data := .seq acc' c',slots := #[] } -> ItemsOf (fun i v => items[items.size - 1 - i]? = some v) acc' items.size -> Q (.ref s.heap.objs.size) { s with heap := h',toks := tk }) (hn : items.size <= sizeLine) :
    wpAny (model prog w) A (call (.type "list") [.ref it]) Q E s := by
  refine callType_codes (Q₁ := fun obj s₁ => obj = .ref s.heap.objs.size /\ s₁ = { s with heap := s.heap.push { cls := .type "list",data := .seq #[] } }) PySem.F.called_list (PySem.F.typeCall_list_1 _) PySem.F.entry_list_init
    (code_list_new _ ⟨rfl,rfl⟩) fun obj s₁ h₁ => ?_
  obtain ⟨rfl,rfl⟩ := h₁
  have hS : (s.heap.push { cls := .type "list",data := .seq #[] }).get? s.heap.objs.size = some { cls := .type "list",data := .seq #[] } := Heap.get?_push_size _ rfl
  have ni : s.heap.objs.size ≠ it := by obtain ⟨o,e,_⟩ := hit; exact Nat.ne_of_gt (Heap.lt_size e)
  have nl : s.heap.objs.size ≠ l := by obtain ⟨o,e,_⟩ := hl; exact Nat.ne_of_gt (Heap.lt_size e)
  refine ⟨⟨_,hS,rfl⟩,PySem.F.args_list_init_2 _ _,list_init_rev (A := A.in1) hh (hl.push _) (hit.at fun o e => Heap.get?_push_of_some _ e) hne _ hS ni nl (fun h' tk acc' c' hk hS' hacc => ?_) hn⟩
  exact ⟨rfl,hQ h' tk acc' c' (fun b o hb e => hk b o (Nat.ne_of_lt (Heap.lt_size e)) hb (Heap.get?_push_of_some _ e)) hS' hacc⟩
end
section
variable {X : Cx} {e : Expr} {ta : TA} {p1 p2 pos1 pos2 : Pos}
noncomputable def tListRev (K : PySem.W.Frag) (ta : TA) : TE := fun σ H Q => ta σ H fun vs H1 => ∃ (a : Addr) (xs : List V),vs = [.ref a] /\ SqL K H1 a xs /\ ∀ l,H1 l = none -> Q (.ref l) (upd H1 l (.lst xs.reverse))
theorem pe_listrev (hc : X.calm = true) (hg : Gl X "list") (hm : X.mg "list" = none) (hg2 : Gl X "reversed") (hm2 : X.mg "reversed" = none) (ha : PA X [e] ta) (hs : starEach [e] X.env = [(false,eval e X.env)] := by rfl)
    (hs2 : starEach [.Call (.Name "reversed" p2) [e] [] pos2] X.env = [(false,eval (.Call (.Name "reversed" p2) [e] [] pos2) X.env)] := by rfl) :
    PE X (.Call (.Name "list" p1) [.Call (.Name "reversed" p2) [e] [] pos2] [] pos1) (tListRev X.K ta) := by
  intro pins s σ H Q I h
  refine wpAny_Call_Name_kw (ld_blt I hg hm boot_list ?_ (by decide) (by decide))
  refine PyProof.Rows.callWith_type1 ?_ hs2 rfl
  rw [hs2]
  show wpAny _ _ (spliced [(false,_)]) _ _ s
  refine Calls.spliced_cons ?_
  refine Call_ (ld_blt I hg2 hm2 boot_reversed5 (PyProof.Rows.callWith_type1 (thn (ha pos2 pins s σ H _ I h) fun us s1 ⟨vs,H1,I1,r1,q1⟩ => ?_) hs rfl))
  obtain ⟨a,xs,ea,hq,q⟩ := q1
  subst ea
  cases r1 with
  | cons r rr =>
    cases rr
    cases r
    obtain ⟨its,rv,p',hz⟩ := I1.list hq
    have hl := rv.length
    refine call_reversed_list p'.isList (Calls.spliced_nil ?_)
    have hne : a ≠ s1.heap.objs.size := by obtain ⟨o,e,_⟩ := p'.isList; exact Nat.ne_of_lt (Heap.lt_size e)
    refine call_list_rev (I.ok.hd hc) (items := its.toArray) (p'.isList.push _) ⟨_,Heap.get?_push_size _ rfl,rfl,rfl⟩ hne (fun h' tk acc' c' hk hS hacc => ?_) (by rw [List.size_toArray]; omega)
    obtain ⟨n1,n2⟩ := hacc
    have n3 : acc'.size = its.length := n1.trans (List.size_toArray ..)
    have hrev : acc'.toList = its.reverse := by
      refine List.ext_getElem? fun j => ?_
      by_cases hj : j < acc'.size
      · have e1 : acc'[j]? = some acc'[j] := Array.getElem?_eq_getElem hj
        have e2 := n2 j _ e1
        rw [Array.getElem?_toList,e1]
        rw [List.size_toArray] at e2
        rw [List.getElem?_reverse (by omega)]
        rw [<- e2]
        simp
      · rw [Array.getElem?_toList,Array.getElem?_eq_none (by omega),List.getElem?_eq_none (by rw [List.length_reverse]; omega)]
    have hfr : H1 (s1.heap.objs.size + 1) = none := I1.hok.fresh (Nat.le_succ _)
    have hsz : (s1.heap.push (revObj a ((its.toArray.size : Int) - 1))).objs.size = s1.heap.objs.size + 1 := Heap.size_push ..
    rw [hsz] at hS ⊢
    refine ⟨.ref (s1.heap.objs.size + 1),_,I1.laid (a := s1.heap.objs.size + 1) (o := .lst xs.reverse) (t' := tk) (h' := h') (fun b o eb => hk b o (Nat.ne_of_lt (Heap.lt_size eb)) (Heap.get?_push_of_some _ eb)) (Nat.le_succ _) ?_,rfl,q _ hfr⟩
    refine ⟨by rw [List.length_reverse]; exact hz,its.reverse,c',rv.reverse,?_⟩
    rw [hS,<- hrev]
end
section
variable {X : Cx}
theorem call_isinst {T : String} : CallR X (.builtin "isinstance") (fun xs H Q => ∃ x t b,xs = [x,.ty T] /\ TyOf X.K H x t /\ PySem.W.kitOne X.K t (.type T) = some b /\ Q (.bl b) H) := by
  intro pins s σ H xs us Q I r h
  obtain ⟨x,t,b,rfl,ty,e,q⟩ := h
  obtain ⟨u,w',rfl,r1,r2⟩ := vals2 r
  obtain rfl : w' = Value.type T := r2
  exact isinst_ok I r1 ty e fun tk => ⟨.bl b,H,I.tok _,rfl,q⟩
end
end L2
end

section
namespace L2
open PySem PySem.Spec PyProof.Rows
theorem keys_src {prog : Program} {w : World} {d : Addr} {o : Obj} {es : Array DictEntry} {ep : Nat} (hs : (d == sysModules) = false) (hx : o.ExactDict) (hdt : o.data = .dict es ep) :
    PySem.W.KdlSrc prog w "dict" d d es.size (fun i v => ∃ en,es[i]? = some en /\ v = en.key) (fun h => h.get? d = some o) where
  type := fun s ok => ⟨o,ok,hx.1⟩
  there := fun h ok => ⟨Heap.lt_size ok,Heap.lt_size ok⟩
  keep := fun h h' ok k => k d (.inl rfl) o ok
  notList := by decide
  notTuple := by decide
  hint := fun A E s Q ok q => PySem.W.kdl_hint_dict ⟨o,ok,hx.1⟩ q
  iter := fun A s hh ok => by
    have hne : d ≠ s.heap.objs.size := Nat.ne_of_lt (Heap.lt_size ok)
    refine ⟨_,fun i h => h.IsKeyIter s.heap.objs.size d i es.size ep /\ h.get? d = some o,fun E Q q => iter_keys hs ok hx hdt q,?_,⟨_,Heap.get?_push_size _ rfl,rfl,rfl⟩,Heap.get?_push_of_some _ ok⟩
    exact {
      sub := fun b hb => by simp at hb; simp [hb]
      frame := fun _ _ _ st hk => ⟨st.1.at fun o e => hk _ (by simp) o e,hk d (by simp) o st.2⟩
      item := fun i s' Q E hi st hQ => by
        obtain ⟨en,hen⟩ : ∃ en,es[i]? = some en := ⟨es[i],by simp [hi]⟩
        refine next_key_item st.1 st.2 hdt rfl hen fun h' hit' sb => ?_
        exact hQ en.key h' s'.toks ⟨en,hen,rfl⟩ ⟨hit',(sb.2 d hne).trans st.2⟩ fun b ob hb e => (sb.2 b (fun z => hb (by simp [z]))).trans e
      done := fun s' Q E st hQ => next_key_end hh st.1 st.2 hdt rfl (Nat.le_refl _) fun h' eb => hQ h' s'.toks fun b ob hb e => eb b ob (fun z => hb (by simp [z])) e
      self := fun _ _ _ _ st hQ => wpAny_pyIter_keyiter st.1 hQ }
section
variable {X : Cx}
theorem call_list_keysT (hc : X.calm = true) : CallR X (.type "list") (fun xs H Q => ∃ d kvs,xs = [V.ref d] /\ H d = some (.dT kvs) /\
    ∀ l qs,H l = none -> Paired (fun (p : List Key × V) (v : V) => ∃ q,v = .ref q /\ H q = some (.tup (p.1.map kV))) kvs qs -> Q (.ref l) (upd H l (.lst qs))) := by
  intro pins s σ H xs us Q I r h
  obtain ⟨d,kvs,rfl,hd,q⟩ := h
  obtain ⟨u,rfl,ru⟩ := vals1 r
  cases ru
  obtain ⟨z,hs,ys,rel,dd⟩ := dt_of I.hok hd
  obtain ⟨o,es,ep,h1,h2,h3,h4,h5,h6⟩ := dd
  have l1 : es.size = ys.length := size_of_entries h4
  have l2 : kvs.length = ys.length := Paired.length rel
  refine PySem.W.kdl_call (keys_src hs h2 h3) (I.ok.hd hc) h1 (by omega) fun h' tk acc' c' hk hS hacc => ?_
  obtain ⟨n1,n2⟩ := hacc
  have eacc : acc'.toList = ys.map fun p => Value.ref p.2.1 := by
    refine List.ext_getElem? fun j => ?_
    rw [Array.getElem?_toList,List.getElem?_map]
    by_cases hj : j < acc'.size
    · have e1 : acc'[j]? = some acc'[j] := Array.getElem?_eq_getElem hj
      obtain ⟨en,e2,e3⟩ := n2 j _ e1
      have e4 := entry_at h4 j
      rw [e2] at e4
      rw [e1,e3]
      cases e5 : ys[j]? with
      | none => rw [e5] at e4; cases e4
      | some y =>
        rw [e5] at e4
        cases e4
        rfl
    · rw [Array.getElem?_eq_none (by omega),List.getElem?_eq_none (by omega)]
      rfl
  have vals : ∀ zs : List (List Key × Addr × Value),Vals (zs.map fun p => V.ref p.2.1) (zs.map fun p => Value.ref p.2.1) := fun zs => by
    induction zs with
    | nil => exact .nil
    | cons p zs ih => exact .cons rfl ih
  refine ⟨.ref s.heap.objs.size,_,I.laid (t' := tk) hk (Nat.le_refl _) (show ObjOk X.prog X.w _ h' _ (.lst (ys.map fun p => V.ref p.2.1)) from ⟨by rw [List.length_map]; omega,acc'.toList,c',by rw [eacc]; exact vals ys,hS⟩),rfl,q _ _ (I.hok.fresh (Nat.le_refl _)) ?_⟩
  clear h1 h2 h3 h4 h5 h6 l1 l2 n1 n2 eacc hS vals
  unfold KT at rel
  clear hk z hd q I
  induction rel with
  | nil => exact .nil
  | cons r t ih => exact .cons ⟨_,rfl,r.2.1⟩ ih
end
end L2
end

section
namespace Ft
open Sy10
inductive N where
  | free (x : List Nat)
  | bound (k : Nat)
  | outer (l : Nat)
  | app (a b : N)
  | fn (a : N)
namespace N
noncomputable def size : N -> Nat
  | .free _ => 1
  | .bound _ => 1
  | .outer _ => 1
  | .app a b => a.size + b.size + 1
  | .fn a => a.size + 1
noncomputable def reach : N -> Nat
  | .free _ => 0
  | .bound k => k + 1
  | .outer _ => 0
  | .app a b => if b.reach < a.reach then a.reach else b.reach
  | .fn a => if 0 < a.reach then a.reach - 1 else 0
noncomputable def low (d : Nat) : N -> Prop
  | .free _ => True
  | .bound _ => True
  | .outer l => l < d
  | .app a b => a.low d /\ b.low d
  | .fn a => a.low d
noncomputable def cl (d : Nat) : Nat -> N -> T
  | _,.free x => .free x
  | _,.bound k => .own k
  | j,.outer l => .own (j + d - 1 - l)
  | j,.app a b => .app (a.cl d j) (b.cl d j)
  | j,.fn a => .fn (a.cl d (j + 1))
noncomputable def en : Nat -> N -> T
  | _,.free x => .free x
  | _,.bound k => .own k
  | d,.outer l => .own (d - 1 - l)
  | d,.app a b => .app (a.en d) (b.en d)
  | d,.fn a => .fn (a.en (d + 1))
noncomputable def ent : Nat -> N -> Prop
  | _,.free _ => True
  | _,.bound _ => False
  | d,.outer l => l < d
  | d,.app a b => a.ent d /\ b.ent d
  | d,.fn a => a.ent (d + 1)
theorem size_pos : ∀ n : N,0 < n.size
  | .free _ => Nat.one_pos
  | .bound _ => Nat.one_pos
  | .outer _ => Nat.one_pos
  | .app _ _ => Nat.succ_pos _
  | .fn _ => Nat.succ_pos _
theorem size_cl (d : Nat) : ∀ (n : N) (j : Nat),(n.cl d j).size = n.size
  | .free _,_ => rfl
  | .bound _,_ => rfl
  | .outer _,_ => rfl
  | .app a b,j => by simp only [cl,T.size,size,size_cl d a,size_cl d b]; omega
  | .fn a,j => by simp only [cl,T.size,size,size_cl d a]; omega
theorem size_en : ∀ (n : N) (d : Nat),(n.en d).size = n.size
  | .free _,_ => rfl
  | .bound _,_ => rfl
  | .outer _,_ => rfl
  | .app a b,j => by simp only [en,T.size,size,size_en a,size_en b]; omega
  | .fn a,j => by simp only [en,T.size,size,size_en a]; omega
theorem reach_app {a b : N} {c : Nat} : (N.app a b).reach <= c ↔ a.reach <= c /\ b.reach <= c := by
  simp only [reach]
  split <;> omega
theorem reach_fn {a : N} {c : Nat} : (N.fn a).reach <= c ↔ a.reach <= c + 1 := by
  simp only [reach]
  split <;> omega
theorem low_mono {d e : Nat} (h : d <= e) : ∀ {n : N},n.low d -> n.low e
  | .free _,_ => trivial
  | .bound _,_ => trivial
  | .outer _,x => Nat.lt_of_lt_of_le x h
  | .app _ _,x => ⟨low_mono h x.1,low_mono h x.2⟩
  | .fn a,x => low_mono (n := a) h x
noncomputable def putN (s : N) : Nat -> N -> N
  | _,.free x => .free x
  | c,.bound k => if k + 1 <= c then .bound k else s
  | _,.outer l => .outer l
  | c,.app a b => if (N.app a b).reach <= c then .app a b else .app (putN s c a) (putN s c b)
  | c,.fn a => if (N.fn a).reach <= c then .fn a else .fn (putN s (c + 1) a)
theorem putN_small {s : N} {c : Nat} : ∀ {n : N},n.reach <= c -> putN s c n = n
  | .free _,_ => rfl
  | .bound k,h => by unfold putN; exact if_pos h
  | .outer _,_ => rfl
  | .app a b,h => by unfold putN; exact if_pos h
  | .fn a,h => by unfold putN; exact if_pos h
theorem putN_app {s : N} {c : Nat} {a b : N} : putN s c (.app a b) = .app (putN s c a) (putN s c b) := by
  by_cases h : (N.app a b).reach <= c
  · rw [putN_small h,putN_small (reach_app.mp h).1,putN_small (reach_app.mp h).2]
  · conv => lhs; unfold putN
    exact if_neg h
theorem putN_fn {s : N} {c : Nat} {a : N} : putN s c (.fn a) = .fn (putN s (c + 1) a) := by
  by_cases h : (N.fn a).reach <= c
  · rw [putN_small h,putN_small (reach_fn.mp h)]
  · conv => lhs; unfold putN
    exact if_neg h
theorem putN_reach {s : N} (hs : s.reach = 0) : ∀ {n : N} {c : Nat},n.reach <= c + 1 -> (putN s c n).reach <= c
  | .free _,_,_ => Nat.zero_le _
  | .bound k,c,h => by
    unfold putN
    split
    · rename_i q; exact q
    · rw [hs]; exact Nat.zero_le _
  | .outer _,_,_ => Nat.zero_le _
  | .app a b,c,h => by
    rw [putN_app,reach_app]
    exact ⟨putN_reach hs (reach_app.mp h).1,putN_reach hs (reach_app.mp h).2⟩
  | .fn a,c,h => by
    rw [putN_fn,reach_fn]
    exact putN_reach hs (reach_fn.mp h)
theorem putN_low {s : N} {d : Nat} (hs : s.low d) : ∀ {n : N} {c : Nat},n.low d -> (putN s c n).low d
  | .free _,_,_ => trivial
  | .bound k,c,_ => by
    unfold putN
    split
    · trivial
    · exact hs
  | .outer _,_,h => h
  | .app a b,c,h => by
    rw [putN_app]
    exact ⟨putN_low hs h.1,putN_low hs h.2⟩
  | .fn a,c,h => by
    rw [putN_fn]
    exact putN_low (n := a) hs h
theorem cl_up {d : Nat} : ∀ {n : N} {i j : Nat},n.reach <= i -> n.low d -> (n.cl d (j + i)).up i = n.cl d (j + i + 1)
  | .free _,_,_,_,_ => rfl
  | .bound k,i,j,h,_ => by
    have h' : k + 1 <= i := h
    simp only [cl,T.up]
    rw [if_neg (by omega)]
  | .outer l,i,j,_,h => by
    have h' : l < d := h
    simp only [cl,T.up]
    rw [if_pos (by omega)]
    congr 1
    omega
  | .app a b,i,j,h,l => by
    simp only [cl,T.up]
    rw [cl_up (reach_app.mp h).1 l.1,cl_up (reach_app.mp h).2 l.2]
  | .fn a,i,j,h,l => by
    simp only [cl,T.up]
    have := cl_up (d := d) (n := a) (i := i + 1) (j := j) (reach_fn.mp h) l
    rw [show j + i + 1 = j + (i + 1) by omega,this]
theorem put_cl {d : Nat} {s : N} (hs : s.reach = 0) (ls : s.low d) : ∀ {n : N} {c : Nat},n.reach <= c + 1 -> n.low d -> (putN s c n).cl d c = T.put c (s.cl d c) (n.cl d (c + 1))
  | .free _,_,_,_ => rfl
  | .bound k,c,h,_ => by
    have h' : k + 1 <= c + 1 := h
    unfold putN
    simp only [cl,T.put]
    by_cases q : k + 1 <= c
    · rw [if_pos q,if_neg (by omega),if_neg (by omega)]; rfl
    · rw [if_neg q,if_pos (by omega)]
  | .outer l,c,_,h => by
    have h' : l < d := h
    simp only [putN,cl,T.put]
    rw [if_neg (by omega),if_pos (by omega)]
    congr 1
    omega
  | .app a b,c,h,l => by
    rw [putN_app]
    simp only [cl,T.put]
    rw [put_cl hs ls (reach_app.mp h).1 l.1,put_cl hs ls (reach_app.mp h).2 l.2]
  | .fn a,c,h,l => by
    rw [putN_fn]
    simp only [cl,T.put]
    rw [put_cl hs ls (n := a) (c := c + 1) (reach_fn.mp h) l]
    have := cl_up (d := d) (n := s) (i := 0) (j := c) (by omega) ls
    rw [show c + 0 = c by omega,show c + 0 + 1 = c + 1 by omega] at this
    rw [this]
theorem enter_cl {d : Nat} : ∀ {n : N} {c : Nat},n.reach <= c + 1 -> n.low d -> (putN (.outer d) c n).cl (d + 1) c = n.cl d (c + 1)
  | .free _,_,_,_ => rfl
  | .bound k,c,h,_ => by
    have h' : k + 1 <= c + 1 := h
    unfold putN
    by_cases q : k + 1 <= c
    · rw [if_pos q]; rfl
    · rw [if_neg q]
      simp only [cl]
      congr 1
      omega
  | .outer l,c,_,h => by
    have h' : l < d := h
    simp only [putN,cl]
    congr 1
    omega
  | .app a b,c,h,l => by
    rw [putN_app]
    simp only [cl]
    rw [enter_cl (reach_app.mp h).1 l.1,enter_cl (reach_app.mp h).2 l.2]
  | .fn a,c,h,l => by
    rw [putN_fn]
    simp only [cl]
    rw [enter_cl (n := a) (c := c + 1) (reach_fn.mp h) l]
theorem enter_size {d : Nat} : ∀ {n : N} {c : Nat},(putN (.outer d) c n).size = n.size
  | .free _,_ => rfl
  | .bound k,c => by
    unfold putN
    split <;> rfl
  | .outer _,_ => rfl
  | .app a b,c => by
    rw [putN_app]
    simp only [size]
    rw [enter_size (n := a),enter_size (n := b)]
  | .fn a,c => by
    rw [putN_fn]
    simp only [size]
    rw [enter_size (n := a)]
end N
inductive Frm where
  | ap (a : N)
  | ar (f : N)
  | inf
noncomputable def Frm.isAp : Frm -> Bool
  | .ap _ => true
  | _ => false
noncomputable def noAp : List Frm -> Prop
  | .ap _ :: _ => False
  | _ => True
noncomputable def isFn : T -> Prop
  | .fn _ => True
  | _ => False
noncomputable def plug : List Frm -> Nat -> T -> T
  | [],_,t => t
  | .ap a :: K,d,t => plug K d (.app t (a.cl d 0))
  | .ar f :: K,d,t => plug K d (.app (f.en d) t)
  | .inf :: K,d,t => plug K (d - 1) (.fn t)
noncomputable def NK : List Frm -> Nat -> Prop
  | [],d => d = 0
  | .ap a :: K,d => a.reach = 0 /\ a.low d /\ NK K d
  | .ar f :: K,d => (f.en d).step = none /\ ¬ isFn (f.en d) /\ f.ent d /\ NK K d
  | .inf :: K,d => 0 < d /\ noAp K /\ NK K (d - 1)
theorem step_app {a b : T} (h : ¬ isFn a) : (T.app a b).step = (match a.step with | some x => some (.app x b) | none => b.step.map fun y => .app a y) := by
  cases a with
  | fn t => exact absurd trivial h
  | own k => rfl
  | free x => rfl
  | app x y => rfl
theorem step_plug : ∀ {K : List Frm} {d : Nat} {t u : T},NK K d -> t.step = some u -> (isFn t -> noAp K) -> (plug K d t).step = some (plug K d u)
  | [],_,_,_,_,h,_ => h
  | .ap a :: K,d,t,u,nk,h,q => by
    have nf : ¬ isFn t := fun z => q z
    simp only [plug]
    refine step_plug nk.2.2 ?_ (fun z => False.elim z)
    rw [step_app nf,h]
  | .ar f :: K,d,t,u,nk,h,q => by
    simp only [plug]
    refine step_plug nk.2.2.2 ?_ (fun z => False.elim z)
    rw [step_app nk.2.1,nk.1,h]
    rfl
  | .inf :: K,d,t,u,nk,h,q => by
    simp only [plug]
    refine step_plug nk.2.2 ?_ (fun _ => nk.2.1)
    show t.step.map T.fn = some (.fn u)
    rw [h]
    rfl
theorem plug_size : ∀ {K : List Frm} {d : Nat} {t u : T},((plug K d t).size : Int) - (plug K d u).size = (t.size : Int) - u.size
  | [],_,_,_ => rfl
  | .ap a :: K,d,t,u => by
    simp only [plug]
    rw [plug_size]
    simp only [T.size]
    omega
  | .ar f :: K,d,t,u => by
    simp only [plug]
    rw [plug_size]
    simp only [T.size]
    omega
  | .inf :: K,d,t,u => by
    simp only [plug]
    rw [plug_size]
    simp only [T.size]
    omega
noncomputable def todo : List Frm -> Nat
  | [] => 0
  | .ap a :: K => a.size + 1 + todo K
  | _ :: K => todo K
noncomputable def down : N -> List Frm -> N × List Frm
  | .app a b,K => down a (.ap b :: K)
  | n,K => (n,K)
theorem down_plug (d : Nat) : ∀ (n : N) (K : List Frm),plug (down n K).2 d ((down n K).1.cl d 0) = plug K d (n.cl d 0)
  | .free _,_ => rfl
  | .bound _,_ => rfl
  | .outer _,_ => rfl
  | .fn _,_ => rfl
  | .app a b,K => by
    show plug (down a (.ap b :: K)).2 d ((down a (.ap b :: K)).1.cl d 0) = _
    rw [down_plug d a]
    rfl
theorem down_ok {d : Nat} : ∀ {n : N} {K : List Frm},n.reach = 0 -> n.low d -> NK K d -> (down n K).1.reach = 0 /\ (down n K).1.low d /\ NK (down n K).2 d
  | .free _,_,h1,h2,h3 => ⟨h1,h2,h3⟩
  | .bound _,_,h1,h2,h3 => ⟨h1,h2,h3⟩
  | .outer _,_,h1,h2,h3 => ⟨h1,h2,h3⟩
  | .fn _,_,h1,h2,h3 => ⟨h1,h2,h3⟩
  | .app a b,K,h1,h2,h3 => by
    have q := N.reach_app.mp (Nat.le_of_eq h1)
    exact down_ok (n := a) (K := .ap b :: K) (Nat.le_zero.mp q.1) h2.1 ⟨Nat.le_zero.mp q.2,h2.2,h3⟩
noncomputable def N.isApp : N -> Bool
  | .app _ _ => true
  | _ => false
noncomputable def N.isFun : N -> Bool
  | .fn _ => true
  | _ => false
theorem down_noApp : ∀ (n : N) (K : List Frm),(down n K).1.isApp = false
  | .free _,_ => rfl
  | .bound _,_ => rfl
  | .outer _,_ => rfl
  | .fn _,_ => rfl
  | .app a b,K => down_noApp a _
theorem down_todo : ∀ (n : N) (K : List Frm),(down n K).1.size + todo (down n K).2 = n.size + todo K
  | .free _,_ => rfl
  | .bound _,_ => rfl
  | .outer _,_ => rfl
  | .fn _,_ => rfl
  | .app a b,K => by
    show (down a (.ap b :: K)).1.size + todo (down a (.ap b :: K)).2 = _
    rw [down_todo a]
    simp only [N.size,todo]
    omega
noncomputable def on : N -> List Frm -> Nat -> (N × List Frm × Nat) ⊕ N
  | p,[],_ => .inr p
  | p,.ap a :: K,d => .inl (a,.ar p :: K,d)
  | p,.ar f :: K,d => on (.app f p) K d
  | p,.inf :: K,d => on (.fn p) K (d - 1)
structure Seen (p : N) (K : List Frm) (d : Nat) : Prop where
  nk : NK K d
  ent : p.ent d
  nor : (p.en d).step = none
  fn : isFn (p.en d) -> noAp K
theorem on_inl : ∀ {p : N} {K : List Frm} {d : Nat} {p' : N} {K' : List Frm} {d' : Nat},Seen p K d -> on p K d = .inl (p',K',d') ->
    p'.reach = 0 /\ p'.low d' /\ NK K' d' /\ plug K' d' (p'.cl d' 0) = plug K d (p.en d) /\ p'.size + todo K' < todo K
  | p,[],d,_,_,_,_,e => by cases e
  | p,.ap a :: K,d,p',K',d',s,e => by
    have e' : (a,Frm.ar p :: K,d) = (p',K',d') := Sum.inl.inj e
    injection e' with e1 e2
    injection e2 with e2 e3
    subst e1 e2 e3
    have nk : a.reach = 0 /\ a.low d /\ NK K d := s.nk
    exact ⟨nk.1,nk.2.1,⟨s.nor,fun z => s.fn z,s.ent,nk.2.2⟩,rfl,by simp only [todo]; omega⟩
  | p,.ar f :: K,d,p',K',d',s,e => by
    have nk : (f.en d).step = none /\ ¬ isFn (f.en d) /\ f.ent d /\ NK K d := s.nk
    have s' : Seen (.app f p) K d := ⟨nk.2.2.2,⟨nk.2.2.1,s.ent⟩,by
      show (T.app (f.en d) (p.en d)).step = none
      rw [step_app nk.2.1,nk.1,s.nor]
      rfl,fun z => False.elim z⟩
    obtain ⟨h1,h2,h3,h4,h5⟩ := on_inl (p := .app f p) (K := K) s' e
    exact ⟨h1,h2,h3,h4,h5⟩
  | p,.inf :: K,d,p',K',d',s,e => by
    have nk : 0 < d /\ noAp K /\ NK K (d - 1) := s.nk
    have ed : d - 1 + 1 = d := Nat.sub_add_cancel nk.1
    have s' : Seen (.fn p) K (d - 1) := ⟨nk.2.2,by show p.ent (d - 1 + 1); rw [ed]; exact s.ent,by
      show (p.en (d - 1 + 1)).step.map T.fn = none
      rw [ed,s.nor]
      rfl,fun _ => nk.2.1⟩
    obtain ⟨h1,h2,h3,h4,h5⟩ := on_inl (p := .fn p) (K := K) s' e
    refine ⟨h1,h2,h3,?_,h5⟩
    rw [h4]
    show plug K (d - 1) (.fn (p.en (d - 1 + 1))) = plug K (d - 1) (.fn (p.en d))
    rw [ed]
theorem on_inr : ∀ {p : N} {K : List Frm} {d : Nat} {p' : N},Seen p K d -> on p K d = .inr p' -> p'.ent 0 /\ (p'.en 0).step = none /\ p'.en 0 = plug K d (p.en d)
  | p,[],d,p',s,e => by
    have e' : p = p' := Sum.inr.inj e
    have nk : d = 0 := s.nk
    subst e' nk
    exact ⟨s.ent,s.nor,rfl⟩
  | p,.ap a :: K,d,p',s,e => by cases e
  | p,.ar f :: K,d,p',s,e => by
    have nk : (f.en d).step = none /\ ¬ isFn (f.en d) /\ f.ent d /\ NK K d := s.nk
    have s' : Seen (.app f p) K d := ⟨nk.2.2.2,⟨nk.2.2.1,s.ent⟩,by
      show (T.app (f.en d) (p.en d)).step = none
      rw [step_app nk.2.1,nk.1,s.nor]
      rfl,fun z => False.elim z⟩
    exact on_inr (p := .app f p) (K := K) s' e
  | p,.inf :: K,d,p',s,e => by
    have nk : 0 < d /\ noAp K /\ NK K (d - 1) := s.nk
    have ed : d - 1 + 1 = d := Nat.sub_add_cancel nk.1
    have s' : Seen (.fn p) K (d - 1) := ⟨nk.2.2,by show p.ent (d - 1 + 1); rw [ed]; exact s.ent,by
      show (p.en (d - 1 + 1)).step.map T.fn = none
      rw [ed,s.nor]
      rfl,fun _ => nk.2.1⟩
    obtain ⟨h1,h2,h3⟩ := on_inr (p := .fn p) (K := K) s' e
    refine ⟨h1,h2,?_⟩
    rw [h3]
    show plug K (d - 1) (.fn (p.en (d - 1 + 1))) = plug K (d - 1) (.fn (p.en d))
    rw [ed]
structure At (p : N) (K : List Frm) (d : Nat) (w : T) : Prop where
  reach : p.reach = 0
  low : p.low d
  nk : NK K d
  whole : plug K d (p.cl d 0) = w
theorem At.start {n : N} (h : n.reach = 0) (l : n.low 0) : At n [] 0 (n.cl 0 0) := ⟨h,l,rfl,rfl⟩
theorem At.down {p : N} {K : List Frm} {d : Nat} {w : T} (a : At p K d w) : At (down p K).1 (down p K).2 d w :=
  let ⟨h1,h2,h3⟩ := down_ok a.reach a.low a.nk
  ⟨h1,h2,h3,(down_plug d p K).trans a.whole⟩
theorem At.seen {p : N} {K : List Frm} {d : Nat} {w : T} (a : At p K d w) (h1 : p.isApp = false) (h2 : p.isFun = false) : Seen p K d /\ plug K d (p.en d) = w := by
  cases p with
  | app x y => cases h1
  | fn x => cases h2
  | bound k => exact absurd a.reach (Nat.succ_ne_zero k)
  | free x => exact ⟨⟨a.nk,trivial,rfl,fun z => False.elim z⟩,a.whole⟩
  | outer l =>
    have e : (N.outer l).cl d 0 = (N.outer l).en d := by simp only [N.cl,N.en,Nat.zero_add]
    exact ⟨⟨a.nk,a.low,rfl,fun z => False.elim z⟩,by rw [<- e]; exact a.whole⟩
theorem At.onward {p : N} {K : List Frm} {d : Nat} {w : T} (a : At p K d w) (h1 : p.isApp = false) (h2 : p.isFun = false) {p' : N} {K' : List Frm} {d' : Nat} (e : on p K d = .inl (p',K',d')) :
    At p' K' d' w /\ p'.size + todo K' < todo K := by
  obtain ⟨s,q⟩ := a.seen h1 h2
  obtain ⟨x1,x2,x3,x4,x5⟩ := on_inl s e
  exact ⟨⟨x1,x2,x3,x4.trans q⟩,x5⟩
theorem At.ended {p : N} {K : List Frm} {d : Nat} {w : T} (a : At p K d w) (h1 : p.isApp = false) (h2 : p.isFun = false) {p' : N} (e : on p K d = .inr p') :
    p'.ent 0 /\ w.step = none /\ p'.en 0 = w := by
  obtain ⟨s,q⟩ := a.seen h1 h2
  obtain ⟨x1,x2,x3⟩ := on_inr s e
  have e2 := x3.trans q
  exact ⟨x1,by rw [<- e2]; exact x2,e2⟩
theorem At.enter {b : N} {K : List Frm} {d : Nat} {w : T} (a : At (.fn b) K d w) (h : noAp K) : At (N.putN (.outer d) 0 b) (.inf :: K) (d + 1) w := by
  have r := N.reach_fn.mp (Nat.le_of_eq a.reach)
  have lo : b.low d := a.low
  refine ⟨Nat.le_zero.mp (N.putN_reach rfl r),N.putN_low (s := .outer d) (d := d + 1) (Nat.lt_succ_self d) (N.low_mono (Nat.le_succ d) lo),⟨Nat.succ_pos d,h,a.nk⟩,?_⟩
  rw [<- a.whole]
  show plug K (d + 1 - 1) (.fn ((N.putN (.outer d) 0 b).cl (d + 1) 0)) = plug K d (.fn (b.cl d 1))
  rw [N.enter_cl r lo]
  rfl
theorem At.step {b a : N} {K : List Frm} {d : Nat} {w : T} (x : At (.fn b) (.ap a :: K) d w) : At (N.putN a 0 b) K d (plug K d ((N.putN a 0 b).cl d 0)) /\ w.step = some (plug K d ((N.putN a 0 b).cl d 0)) /\
    ((plug K d ((N.putN a 0 b).cl d 0)).size : Int) = w.size + ((N.putN a 0 b).size - ((N.fn b).size + a.size + 1)) := by
  have nk : a.reach = 0 /\ a.low d /\ NK K d := x.nk
  have r := N.reach_fn.mp (Nat.le_of_eq x.reach)
  have lo : b.low d := x.low
  have e : (N.putN a 0 b).cl d 0 = T.put 0 (a.cl d 0) (b.cl d 1) := N.put_cl nk.1 nk.2.1 r lo
  have hw : plug K d (.app (.fn (b.cl d 1)) (a.cl d 0)) = w := x.whole
  refine ⟨⟨Nat.le_zero.mp (N.putN_reach nk.1 r),N.putN_low nk.2.1 lo,nk.2.2,rfl⟩,?_,?_⟩
  · rw [<- hw]
    refine step_plug nk.2.2 ?_ (fun z => False.elim z)
    rw [e]
    rfl
  · have q := plug_size (K := K) (d := d) (t := (N.putN a 0 b).cl d 0) (u := .app (.fn (b.cl d 1)) (a.cl d 0))
    rw [hw] at q
    simp only [T.size,N.size_cl] at q
    simp only [N.size]
    omega
theorem At.redex {b a : N} {K : List Frm} {d : Nat} {w : T} (x : At (.fn b) (.ap a :: K) d w) : w.step ≠ none := by
  rw [x.step.2.1]
  exact fun z => nomatch z
theorem go_large {n : Nat} {t : T} (h : MOST < t.size) : T.go n t = (0,t) := by
  cases n with
  | zero => rfl
  | succ n => unfold T.go; rw [if_pos h]
theorem go_normal {n : Nat} {t : T} (h : t.step = none) : T.go n t = (0,t) := by
  cases n with
  | zero => rfl
  | succ n =>
    unfold T.go
    rw [h]
    split <;> rfl
theorem go_step {n : Nat} {t u : T} (h : ¬ MOST < t.size) (e : t.step = some u) : T.go (n + 1) t = ((T.go n u).1 + 1,(T.go n u).2) := by
  conv => lhs; unfold T.go
  rw [if_neg h,e]
end Ft
end

section
namespace Ft
open Sy10
theorem map_inj {α β : Type} {f : α -> β} (hf : ∀ a b,f a = f b -> a = b) : ∀ {l m : List α},l.map f = m.map f -> l = m
  | [],[],_ => rfl
  | [],_ :: _,h => by cases h
  | _ :: _,[],h => by cases h
  | a :: l,b :: m,h => by
    rw [List.map_cons,List.map_cons] at h
    injection h with h1 h2
    rw [hf a b h1,map_inj hf h2]
theorem decimal_inj {a b : Nat} (h : decimal a = decimal b) : a = b := by
  unfold decimal at h
  have e : Nat.toDigits 10 a = Nat.toDigits 10 b := map_inj (fun x y q => Char.toNat_inj.mp q) h
  have e1 := Nat.ofDigitChars_ten_toDigits (n := a)
  rw [e,Nat.ofDigitChars_ten_toDigits] at e1
  exact e1.symm
theorem decimal_ne (a : Nat) : decimal a ≠ [] := by
  unfold decimal
  intro h
  exact Nat.toDigits_ne_nil (List.map_eq_nil_iff.mp h)
theorem nameAt_inj {a b : Nat} (h : nameAt a = nameAt b) : a = b := by
  unfold nameAt at h
  injection h with h1 h2
  have m : a % 26 = b % 26 := by omega
  by_cases qa : a < 26
  · by_cases qb : b < 26
    · omega
    · rw [if_pos qa,if_neg qb] at h2
      exact absurd h2.symm (decimal_ne _)
  · by_cases qb : b < 26
    · rw [if_neg qa,if_pos qb] at h2
      exact absurd h2 (decimal_ne _)
    · rw [if_neg qa,if_neg qb] at h2
      have := decimal_inj h2
      omega
theorem nameAt_len {k : Nat} (h : k < 26000) : (nameAt k).length <= 4 := by
  unfold nameAt
  rw [List.length_cons]
  by_cases q : k < 26
  · rw [if_pos q]; simp
  · rw [if_neg q]
    have : (decimal (k / 26)).length <= 3 := by
      unfold decimal
      rw [List.length_map]
      exact (Nat.length_toDigits_le_iff (by decide) (by decide)).mpr (by omega)
    omega
noncomputable def pool (left : List Bytes) (k : Nat) : List Bytes := ((List.range k).map nameAt).filter fun x => !left.contains x
theorem pool_succ (left : List Bytes) (k : Nat) : pool left (k + 1) = pool left k ++ (if left.contains (nameAt k) = true then [] else [nameAt k]) := by
  unfold pool
  rw [List.range_succ,List.map_append,List.filter_append]
  congr 1
  simp only [List.map_cons,List.map_nil,List.filter_cons,List.filter_nil]
  cases left.contains (nameAt k) <;> rfl
theorem nodup_sub : ∀ {l m : List Bytes},l.Nodup -> (∀ x ∈ l,x ∈ m) -> l.length <= m.length
  | [],_,_,_ => Nat.zero_le _
  | a :: l,m,nd,h => by
    have ha : a ∈ m := h a (List.mem_cons_self ..)
    have nd' := List.nodup_cons.mp nd
    have := nodup_sub (l := l) (m := m.erase a) nd'.2 fun x hx => by
      have : x ≠ a := fun q => nd'.1 (q ▸ hx)
      exact (List.mem_erase_of_ne this).mpr (h x (List.mem_cons_of_mem _ hx))
    rw [List.length_erase_of_mem ha] at this
    have pos : 0 < m.length := List.length_pos_of_mem ha
    simp only [List.length_cons]
    omega
theorem names_nodup (k : Nat) : ((List.range k).map nameAt).Nodup := by
  induction k with
  | zero => simp
  | succ k ih =>
    rw [List.range_succ,List.map_append]
    refine List.nodup_append.mpr ⟨ih,by simp,fun a ha b hb => ?_⟩
    obtain ⟨i,hi,rfl⟩ := List.mem_map.mp ha
    have hb' : b = nameAt k := by simpa using hb
    rw [hb']
    intro q
    have := nameAt_inj q
    have := List.mem_range.mp hi
    omega
theorem filter_len {α : Type} (p : α -> Bool) : ∀ l : List α,(l.filter p).length + (l.filter fun x => !p x).length = l.length
  | [] => rfl
  | a :: l => by
    have := filter_len p l
    simp only [List.filter_cons,List.length_cons]
    cases p a <;> simp <;> omega
theorem pool_len (left : List Bytes) (k : Nat) : k <= (pool left k).length + left.length := by
  have h1 := filter_len (fun x => left.contains x) ((List.range k).map nameAt)
  have h2 : (((List.range k).map nameAt).filter fun x => left.contains x).length <= left.length := by
    refine nodup_sub ((names_nodup k).filter _) fun x hx => ?_
    have := (List.mem_filter.mp hx).2
    simpa using this
  rw [List.length_map,List.length_range] at h1
  unfold pool
  omega
theorem pool_prefix (left : List Bytes) (k : Nat) : ∀ m : Nat,∃ r,pool left (k + m) = pool left k ++ r
  | 0 => ⟨[],by simp⟩
  | m + 1 => by
    obtain ⟨r,e⟩ := pool_prefix left k m
    refine ⟨r ++ (if left.contains (nameAt (k + m)) = true then [] else [nameAt (k + m)]),?_⟩
    rw [<- Nat.add_assoc,pool_succ,e,List.append_assoc]
theorem pool_get {left : List Bytes} {k j : Nat} {x : Bytes} (h : (pool left k)[j]? = some x) : fresh left j = x := by
  have e : fresh left j = (pool left (j + left.length + 1)).getD j [] := rfl
  have l1 := pool_len left (j + left.length + 1)
  rw [e,List.getD_eq_getElem?_getD]
  have : (pool left (j + left.length + 1))[j]? = some x := by
    rcases Nat.le_total k (j + left.length + 1) with q | q
    · obtain ⟨r,er⟩ := pool_prefix left k (j + left.length + 1 - k)
      rw [show k + (j + left.length + 1 - k) = j + left.length + 1 by omega] at er
      rw [er,List.getElem?_append_left (by have := (List.getElem?_eq_some_iff.mp h).1; omega)]
      exact h
    · obtain ⟨r,er⟩ := pool_prefix left (j + left.length + 1) (k - (j + left.length + 1))
      rw [show j + left.length + 1 + (k - (j + left.length + 1)) = k by omega] at er
      rw [er,List.getElem?_append_left (by omega)] at h
      exact h
  rw [this]
  rfl
theorem pool_mem {left : List Bytes} {k : Nat} {x : Bytes} (h : x ∈ pool left k) : ∃ i,i < k /\ x = nameAt i := by
  have := (List.mem_filter.mp h).1
  obtain ⟨i,hi,e⟩ := List.mem_map.mp this
  exact ⟨i,List.mem_range.mp hi,e.symm⟩
theorem fresh_len {left : List Bytes} {j : Nat} (h : j + left.length < 25999) : (fresh left j).length <= 4 := by
  have l1 := pool_len left (j + left.length + 1)
  have lt : j < (pool left (j + left.length + 1)).length := by omega
  have e := pool_get (List.getElem?_eq_getElem lt)
  rw [e]
  obtain ⟨i,hi,q⟩ := pool_mem (List.getElem_mem lt)
  rw [q]
  exact nameAt_len (by omega)
theorem once_go (l : List Bytes) : ∀ (r : List Bytes) (x : Bytes),x ∈ l.foldl (fun r x => if r.contains x = true then r else r ++ [x]) r ↔ x ∈ r \/ x ∈ l := by
  induction l with
  | nil => intro r x; simp
  | cons a l ih =>
    intro r x
    rw [List.foldl_cons,ih]
    by_cases q : r.contains a = true
    · rw [if_pos q]
      have : a ∈ r := by simpa using q
      constructor
      · rintro (h | h)
        · exact .inl h
        · exact .inr (List.mem_cons_of_mem _ h)
      · rintro (h | h)
        · exact .inl h
        · rcases List.mem_cons.mp h with h | h
          · rw [h]; exact .inl this
          · exact .inr h
    · rw [if_neg q]
      constructor
      · rintro (h | h)
        · rcases List.mem_append.mp h with h | h
          · exact .inl h
          · rw [List.mem_singleton.mp h]; exact .inr (List.mem_cons_self ..)
        · exact .inr (List.mem_cons_of_mem _ h)
      · rintro (h | h)
        · exact .inl (List.mem_append.mpr (.inl h))
        · rcases List.mem_cons.mp h with h | h
          · rw [h]; exact .inl (List.mem_append.mpr (.inr (List.mem_singleton.mpr rfl)))
          · exact .inr h
theorem mem_once {l : List Bytes} {x : Bytes} : x ∈ once l ↔ x ∈ l := by
  unfold once
  rw [once_go]
  simp
theorem once_len_go (l : List Bytes) : ∀ r : List Bytes,(l.foldl (fun r x => if r.contains x = true then r else r ++ [x]) r).length <= r.length + l.length := by
  induction l with
  | nil => intro r; simp
  | cons a l ih =>
    intro r
    rw [List.foldl_cons]
    refine Nat.le_trans (ih _) ?_
    split
    · simp only [List.length_cons]; omega
    · simp only [List.length_cons,List.length_append,List.length_nil]; omega
theorem once_len (l : List Bytes) : (once l).length <= l.length := by
  have := once_len_go l []
  rw [List.length_nil,Nat.zero_add] at this
  exact this
theorem once_snoc (l : List Bytes) (x : Bytes) : once (l ++ [x]) = if (once l).contains x = true then once l else once l ++ [x] := by
  unfold once
  rw [List.foldl_append]
  rfl
noncomputable def sayE (nm : Nat -> Bytes) : N -> Nat -> Bool -> Bool -> Bytes
  | .free x,_,_,_ => x
  | .bound _,_,_,_ => []
  | .outer l,_,_,_ => nm l
  | .app a b,j,la,ar => if ar = true then 40 :: (sayE nm a j false false ++ 32 :: sayE nm b j (la || ar) true) ++ [41] else sayE nm a j false false ++ 32 :: sayE nm b j (la || ar) true
  | .fn a,j,la,_ => if la = true then 92 :: (nm j ++ 46 :: sayE nm a (j + 1) true false) else 40 :: (92 :: (nm j ++ 46 :: sayE nm a (j + 1) true false)) ++ [41]
noncomputable def plc (la ar : Bool) : Place := if la = true then (if ar = true then .last else .whole) else (if ar = true then .between else .first)
theorem sayE_say {left : List Bytes} : ∀ {n : N} {j : Nat} {la ar : Bool},n.ent j -> sayE (fresh left) n j la ar = T.say left (plc la ar) j (n.en j)
  | .free x,j,la,ar,_ => by
    simp only [sayE,N.en,T.say,needs]
    rfl
  | .bound _,_,_,_,h => False.elim h
  | .outer l,j,la,ar,h => by
    have h' : l < j := h
    show fresh left l = if false = true then 40 :: (fresh left (j - 1 - (j - 1 - l)) ++ [41]) else fresh left (j - 1 - (j - 1 - l))
    rw [if_neg (by simp),show j - 1 - (j - 1 - l) = l by omega]
  | .app a b,j,la,ar,h => by
    simp only [sayE,N.en]
    unfold T.say
    rw [sayE_say (n := a) (la := false) (ar := false) h.1,sayE_say (n := b) (la := la || ar) (ar := true) h.2]
    cases la <;> cases ar <;> simp [plc,needs]
  | .fn a,j,la,ar,h => by
    simp only [sayE,N.en]
    unfold T.say
    rw [sayE_say (n := a) (la := true) (ar := false) h]
    cases la <;> cases ar <;> simp [plc,needs]
theorem text_eq {n : N} {t : T} (h : n.ent 0) (e : n.en 0 = t) : t.text = sayE (fresh (once t.frees)) n 0 true false := by
  rw [sayE_say h,e]
  rfl
noncomputable def N.short : N -> Prop
  | .free x => x.length <= 8
  | .bound _ => True
  | .outer _ => True
  | .app a b => a.short /\ b.short
  | .fn a => a.short
theorem short_frees : ∀ {n : N} {d : Nat},(∀ x ∈ (n.en d).frees,x.length <= 8) -> n.short
  | .free x,_,h => h x (by simp [N.en,T.frees])
  | .bound _,_,_ => trivial
  | .outer _,_,_ => trivial
  | .app a b,d,h => ⟨short_frees (d := d) fun x hx => h x (by simp only [N.en,T.frees]; exact List.mem_append.mpr (.inl hx)),short_frees (d := d) fun x hx => h x (by simp only [N.en,T.frees]; exact List.mem_append.mpr (.inr hx))⟩
  | .fn a,d,h => short_frees (n := a) (d := d + 1) h
theorem sayE_len {nm : Nat -> Bytes} {m : Nat} (hn : ∀ l,l < m -> (nm l).length <= 4) : ∀ {n : N} {j : Nat} {la ar : Bool},n.ent j -> n.short -> j + n.size <= m -> (sayE nm n j la ar).length <= 8 * n.size
  | .free x,_,_,_,_,s,_ => by
    have s' : x.length <= 8 := s
    simp only [sayE,N.size]
    omega
  | .bound _,_,_,_,h,_,_ => False.elim h
  | .outer l,j,_,_,h,_,hm => by
    have h' : l < j := h
    have := hn l (by simp only [N.size] at hm; omega)
    simp only [sayE,N.size]
    omega
  | .app a b,j,la,ar,h,s,hm => by
    simp only [N.size] at hm
    have h1 := sayE_len hn (n := a) (j := j) (la := false) (ar := false) h.1 s.1 (by omega)
    have h2 := sayE_len hn (n := b) (j := j) (la := la || ar) (ar := true) h.2 s.2 (by omega)
    simp only [sayE,N.size]
    split <;> simp only [List.length_append,List.length_cons,List.length_nil] <;> omega
  | .fn a,j,la,ar,h,s,hm => by
    simp only [N.size] at hm
    have h1 := sayE_len hn (n := a) (j := j + 1) (la := true) (ar := false) h s (by omega)
    have h2 := hn j (by omega)
    simp only [sayE,N.size]
    split <;> simp only [List.length_append,List.length_cons,List.length_nil] <;> omega
theorem frees_up : ∀ (t : T) (c : Nat),(t.up c).frees = t.frees
  | .own k,c => rfl
  | .free x,c => rfl
  | .fn t,c => frees_up t _
  | .app a b,c => by simp only [T.up,T.frees,frees_up a,frees_up b]
theorem frees_put : ∀ (t : T) (c : Nat) (s : T) (x : Bytes),x ∈ (T.put c s t).frees -> x ∈ s.frees \/ x ∈ t.frees
  | .own k,c,s,x,h => by
    simp only [T.put] at h
    split at h
    · exact .inl h
    · simp [T.frees] at h
  | .free y,c,s,x,h => .inr h
  | .fn t,c,s,x,h => by
    have := frees_put t (c + 1) (s.up 0) x h
    rw [frees_up] at this
    exact this
  | .app a b,c,s,x,h => by
    have h' : x ∈ (T.put c s a).frees ++ (T.put c s b).frees := h
    rcases List.mem_append.mp h' with q | q
    · rcases frees_put a c s x q with z | z
      · exact .inl z
      · exact .inr (List.mem_append.mpr (.inl z))
    · rcases frees_put b c s x q with z | z
      · exact .inl z
      · exact .inr (List.mem_append.mpr (.inr z))
theorem frees_step : ∀ (t u : T) (x : Bytes),t.step = some u -> x ∈ u.frees -> x ∈ t.frees
  | .own _,u,x,h,_ => by cases h
  | .free _,u,x,h,_ => by cases h
  | .fn t,u,x,h,hx => by
    have h' : t.step.map T.fn = some u := h
    cases e : t.step with
    | none => rw [e] at h'; cases h'
    | some v =>
      rw [e] at h'
      cases h'
      exact frees_step t v x e hx
  | .app a b,u,x,h,hx => by
    by_cases q : isFn a
    · cases a with
      | fn t =>
        have h' : some (T.put 0 b t) = some u := h
        cases h'
        rcases frees_put t 0 b x hx with z | z
        · exact List.mem_append.mpr (.inr z)
        · exact List.mem_append.mpr (.inl z)
      | own _ => exact False.elim q
      | free _ => exact False.elim q
      | app _ _ => exact False.elim q
    · rw [step_app q] at h
      cases e : a.step with
      | some v =>
        rw [e] at h
        cases h
        rcases List.mem_append.mp hx with z | z
        · exact List.mem_append.mpr (.inl (frees_step a v x e z))
        · exact List.mem_append.mpr (.inr z)
      | none =>
        rw [e] at h
        cases e2 : b.step with
        | none => rw [e2] at h; cases h
        | some v =>
          rw [e2] at h
          cases h
          rcases List.mem_append.mp hx with z | z
          · exact List.mem_append.mpr (.inl z)
          · exact List.mem_append.mpr (.inr (frees_step b v x e2 z))
theorem frees_len : ∀ t : T,t.frees.length <= t.size
  | .own _ => Nat.zero_le _
  | .free _ => Nat.le_refl _
  | .fn t => by
    have := frees_len t
    simp only [T.frees,T.size]
    omega
  | .app a b => by
    have := frees_len a
    have := frees_len b
    simp only [T.frees,T.size,List.length_append]
    omega
theorem text_len {n : N} {t : T} (h : n.ent 0) (e : n.en 0 = t) (hs : t.size <= 4096) (hx : ∀ x ∈ t.frees,x.length <= 8) : t.text.length <= 32768 := by
  have sz : n.size <= 4096 := by rw [<- N.size_en n 0,e]; exact hs
  have l1 : (once t.frees).length <= 4096 := Nat.le_trans (once_len _) (Nat.le_trans (frees_len t) hs)
  rw [text_eq h e]
  have := sayE_len (nm := fresh (once t.frees)) (m := 4096) (fun l hl => fresh_len (by omega)) (n := n) (j := 0) (la := true) (ar := false) h (short_frees (d := 0) (by rw [e]; exact hx)) (by omega)
  omega
end Ft
end

section
namespace Ft
open Sy10
inductive Ptk where
  | nm (x : Bytes)
  | sg (c : Nat)
noncomputable def word (l : Bytes) : Bytes := l.takeWhile isNameByte
theorem word_drop (l : Bytes) : word l ++ l.drop (word l).length = l := by
  unfold word
  induction l with
  | nil => rfl
  | cons a l ih =>
    rw [List.takeWhile_cons]
    split
    · simp [ih]
    · rfl
theorem word_pos {c : Nat} {r : Bytes} (h : isNameByte c = true) : 0 < (word (c :: r)).length := by
  unfold word
  rw [List.takeWhile_cons,if_pos h]
  simp
noncomputable def ptok : Nat -> Bytes -> Option (List Ptk)
  | _,[] => some []
  | 0,_ :: _ => none
  | k + 1,c :: r =>
    if isNameByte c = true then
      (if isName (word (c :: r)) = true then (ptok k ((c :: r).drop (word (c :: r)).length)).map fun l => .nm (word (c :: r)) :: l else none)
    else if isBlank c = true then ptok k r else (ptok k r).map fun l => .sg c :: l
theorem ptok_fuel : ∀ (k m : Nat) (b : Bytes),b.length <= k -> b.length <= m -> ptok k b = ptok m b
  | k,m,[],_,_ => by cases k <;> cases m <;> rfl
  | 0,_,_ :: _,h,_ => by simp at h
  | _ + 1,0,_ :: _,_,h => by simp at h
  | k + 1,m + 1,c :: r,h1,h2 => by
    simp only [List.length_cons] at h1 h2
    unfold ptok
    by_cases q : isNameByte c = true
    · rw [if_pos q,if_pos q]
      have p := word_pos (r := r) q
      rw [ptok_fuel k m _ (by simp only [List.length_drop,List.length_cons]; omega) (by simp only [List.length_drop,List.length_cons]; omega)]
    · rw [if_neg q,if_neg q,ptok_fuel k m r (by omega) (by omega)]
noncomputable def conv : Ptk -> Option Tok
  | .nm x => some (.name x)
  | .sg c => if c = 92 then some .back else if c = 46 then some .dot else if c = 40 then some .opens else if c = 41 then some .closes else none
noncomputable def cvs : List Ptk -> Option (List Tok)
  | [] => some []
  | p :: r => match conv p,cvs r with
    | some a,some l => some (a :: l)
    | _,_ => none
theorem tokens_ptok : ∀ (k : Nat) (b : Bytes),tokens k b = (ptok k b).bind cvs
  | k,[] => by cases k <;> rfl
  | 0,_ :: _ => rfl
  | k + 1,c :: r => by
    unfold tokens ptok
    by_cases q : isNameByte c = true
    · have nb : isBlank c = false := by
        simp only [isNameByte,isLetter,isBlank,Bool.or_eq_true,Bool.and_eq_true,decide_eq_true_eq] at q ⊢
        simp only [Bool.or_eq_false_iff,beq_eq_false_iff_ne]
        omega
      have n1 : ¬ c = 92 /\ ¬ c = 46 /\ ¬ c = 40 /\ ¬ c = 41 := by
        simp only [isNameByte,isLetter,Bool.or_eq_true,Bool.and_eq_true,decide_eq_true_eq] at q
        omega
      rw [if_pos q,if_neg (by rw [nb]; simp),if_neg n1.1,if_neg n1.2.1,if_neg n1.2.2.1,if_neg n1.2.2.2]
      show (if isName (word (c :: r)) = true then (tokens k ((c :: r).drop (word (c :: r)).length)).map fun l => Tok.name (word (c :: r)) :: l else none) = _
      by_cases z : isName (word (c :: r)) = true
      · rw [if_pos z,if_pos z,tokens_ptok k]
        cases ptok k ((c :: r).drop (word (c :: r)).length) with
        | none => rfl
        | some l =>
          show (cvs l).map _ = cvs (.nm (word (c :: r)) :: l)
          simp only [cvs,conv]
          cases cvs l <;> rfl
      · rw [if_neg z,if_neg z]
        rfl
    · rw [if_neg q]
      by_cases nb : isBlank c = true
      · rw [if_pos nb,if_pos nb,tokens_ptok k]
      · rw [if_neg nb,if_neg nb]
        have e : ∀ (t : Tok),conv (.sg c) = some t -> (tokens k r).map (fun l => t :: l) = ((ptok k r).map fun l => Ptk.sg c :: l).bind cvs := fun t ht => by
          rw [tokens_ptok k]
          cases ptok k r with
          | none => rfl
          | some l =>
            show (cvs l).map _ = cvs (.sg c :: l)
            simp only [cvs,ht]
            cases cvs l <;> rfl
        by_cases h1 : c = 92
        · rw [if_pos h1]; exact e _ (by simp only [conv]; rw [if_pos h1])
        rw [if_neg h1]
        by_cases h2 : c = 46
        · rw [if_pos h2]; exact e _ (by simp only [conv]; rw [if_neg h1,if_pos h2])
        rw [if_neg h2]
        by_cases h3 : c = 40
        · rw [if_pos h3]; exact e _ (by simp only [conv]; rw [if_neg h1,if_neg h2,if_pos h3])
        rw [if_neg h3]
        by_cases h4 : c = 41
        · rw [if_pos h4]; exact e _ (by simp only [conv]; rw [if_neg h1,if_neg h2,if_neg h3,if_pos h4])
        rw [if_neg h4]
        have hw : (c :: r).takeWhile isNameByte = [] := by rw [List.takeWhile_cons,if_neg q]
        have cn : conv (.sg c) = none := by simp only [conv]; rw [if_neg h1,if_neg h2,if_neg h3,if_neg h4]
        simp only [hw]
        rw [if_neg (by decide)]
        cases ptok k r with
        | none => rfl
        | some l =>
          show none = cvs (.sg c :: l)
          simp only [cvs,cn]
noncomputable def Ptk.ok : Ptk -> Prop
  | .nm x => isName x = true
  | .sg _ => True
theorem ptok_ok : ∀ (k : Nat) (b : Bytes) (l : List Ptk),ptok k b = some l -> ∀ p ∈ l,p.ok
  | k,[],l,h => by
    have : l = [] := by cases k <;> simpa [ptok] using h.symm
    subst this
    intro p hp
    cases hp
  | 0,_ :: _,l,h => by cases h
  | k + 1,c :: r,l,h => by
    unfold ptok at h
    by_cases q : isNameByte c = true
    · rw [if_pos q] at h
      by_cases z : isName (word (c :: r)) = true
      · rw [if_pos z] at h
        obtain ⟨m,hm,rfl⟩ := Option.map_eq_some_iff.mp h
        intro p hp
        rcases List.mem_cons.mp hp with e | hp
        · rw [e]; exact z
        · exact ptok_ok k _ m hm p hp
      · rw [if_neg z] at h
        cases h
    · rw [if_neg q] at h
      by_cases nb : isBlank c = true
      · rw [if_pos nb] at h
        exact ptok_ok k r l h
      · rw [if_neg nb] at h
        obtain ⟨m,hm,rfl⟩ := Option.map_eq_some_iff.mp h
        intro p hp
        rcases List.mem_cons.mp hp with e | hp
        · rw [e]; trivial
        · exact ptok_ok k _ m hm p hp
theorem ptok_len : ∀ (k : Nat) (b : Bytes) (l : List Ptk),ptok k b = some l -> l.length <= b.length
  | k,[],l,h => by
    have : l = [] := by cases k <;> simpa [ptok] using h.symm
    subst this
    exact Nat.zero_le _
  | 0,_ :: _,l,h => by cases h
  | k + 1,c :: r,l,h => by
    unfold ptok at h
    by_cases q : isNameByte c = true
    · rw [if_pos q] at h
      by_cases z : isName (word (c :: r)) = true
      · rw [if_pos z] at h
        obtain ⟨m,hm,rfl⟩ := Option.map_eq_some_iff.mp h
        have := ptok_len k _ m hm
        have p := word_pos (r := r) q
        simp only [List.length_drop,List.length_cons] at this ⊢
        omega
      · rw [if_neg z] at h
        cases h
    · rw [if_neg q] at h
      by_cases nb : isBlank c = true
      · rw [if_pos nb] at h
        have := ptok_len k r l h
        simp only [List.length_cons]
        omega
      · rw [if_neg nb] at h
        obtain ⟨m,hm,rfl⟩ := Option.map_eq_some_iff.mp h
        have := ptok_len k _ m hm
        simp only [List.length_cons]
        omega
inductive Kd where
  | start
  | par
  | fun_ (x : Bytes)
noncomputable abbrev Rw := Kd × Option T
noncomputable def envR : List Rw -> List Bytes
  | [] => []
  | (.fun_ x,_) :: R => x :: envR R
  | _ :: R => envR R
noncomputable def nmT (d : Defs) (env : List Bytes) (x : Bytes) : T := match env.findIdx? fun y => y == x with
  | some k => .own k
  | none => (lookup d x).getD (.free x)
theorem nmT_with (d : Defs) (env : List Bytes) (x : Bytes) : (named env x).with_ d = nmT d env x := by
  unfold named nmT
  cases env.findIdx? fun y => y == x <;> rfl
noncomputable def addP (t : T) : List Rw -> List Rw
  | [] => []
  | (k,a) :: R => (k,some (more a t)) :: R
noncomputable def endF : List Rw -> Option (List Rw)
  | (.fun_ _,some t) :: (k,a) :: R => endF ((k,some (more a (.fn t))) :: R)
  | (.fun_ _,some _) :: [] => none
  | (.fun_ _,none) :: _ => none
  | R => some R
termination_by R => R.length
theorem endF_fun {x : Bytes} {t : T} {k : Kd} {a : Option T} {R : List Rw} : endF ((.fun_ x,some t) :: (k,a) :: R) = endF ((k,some (more a (.fn t))) :: R) := by
  rw [endF]
theorem endF_none {x : Bytes} {R : List Rw} : endF ((.fun_ x,none) :: R) = none := by rw [endF]
theorem endF_start {a : Option T} {R : List Rw} : endF ((.start,a) :: R) = some ((.start,a) :: R) := by
  rw [endF] <;> (intros; rename_i q; cases q)
theorem endF_par {a : Option T} {R : List Rw} : endF ((.par,a) :: R) = some ((.par,a) :: R) := by
  rw [endF] <;> (intros; rename_i q; cases q)
noncomputable def shutP : List Rw -> Option (List Rw)
  | (.par,some t) :: (k,a) :: R => some ((k,some (more a t)) :: R)
  | _ => none
noncomputable def shut (R : List Rw) : Option (List Rw) := (endF R).bind shutP
noncomputable def endTP : List Rw -> Option T
  | (.start,some t) :: _ => some t
  | _ => none
noncomputable def endT (R : List Rw) : Option T := (endF R).bind endTP
noncomputable def stepP (d : Defs) (R : List Rw) : List Ptk -> Option (List Rw × List Ptk)
  | .nm x :: r => some (addP (nmT d (envR R) x) R,r)
  | .sg c :: r =>
    if c = 92 then (match r with
      | .nm x :: .sg e :: r' => if e = 46 then some ((.fun_ x,none) :: R,r') else none
      | _ => none)
    else if c = 40 then some ((.par,none) :: R,r)
    else if c = 41 then (shut R).map fun R' => (R',r)
    else none
  | [] => none
theorem stepP_len {d : Defs} {R R' : List Rw} {l r : List Ptk} (h : stepP d R l = some (R',r)) : r.length < l.length := by
  match l,h with
  | .nm x :: l,h =>
    have h' : some (addP (nmT d (envR R) x) R,l) = some (R',r) := h
    cases h'
    simp
  | .sg c :: l,h =>
    unfold stepP at h
    dsimp only at h
    by_cases h1 : c = 92
    · rw [if_pos h1] at h
      match l,h with
      | .nm x :: .sg e :: l,h =>
        dsimp only at h
        by_cases h2 : e = 46
        · rw [if_pos h2] at h
          cases h
          simp only [List.length_cons]
          omega
        · rw [if_neg h2] at h
          cases h
      | [],h => cases h
      | .sg _ :: _,h => cases h
      | [.nm _],h => cases h
      | .nm _ :: .nm _ :: _,h => cases h
    · rw [if_neg h1] at h
      by_cases h2 : c = 40
      · rw [if_pos h2] at h
        cases h
        simp
      · rw [if_neg h2] at h
        by_cases h3 : c = 41
        · rw [if_pos h3] at h
          obtain ⟨R2,_,e⟩ := Option.map_eq_some_iff.mp h
          cases e
          simp
        · rw [if_neg h3] at h
          cases h
noncomputable def mach (d : Defs) : Nat -> List Rw -> List Ptk -> Option T
  | _,R,[] => endT R
  | 0,_,_ :: _ => none
  | k + 1,R,p :: l => (stepP d R (p :: l)).bind fun q => mach d k q.1 q.2
theorem mach_fuel (d : Defs) : ∀ (k m : Nat) (R : List Rw) (l : List Ptk),l.length <= k -> l.length <= m -> mach d k R l = mach d m R l
  | k,m,R,[],_,_ => by cases k <;> cases m <;> rfl
  | 0,_,_,_ :: _,h,_ => by simp at h
  | _ + 1,0,_,_ :: _,_,h => by simp at h
  | k + 1,m + 1,R,p :: l,h1,h2 => by
    unfold mach
    cases e : stepP d R (p :: l) with
    | none => rfl
    | some q =>
      obtain ⟨R',r⟩ := q
      have := stepP_len e
      simp only [List.length_cons] at this h1 h2
      exact mach_fuel d k m R' r (by omega) (by omega)
noncomputable def machT (d : Defs) : List Rw -> List Tok -> Option T
  | R,[] => endT R
  | R,.closes :: r => (shut R).bind fun R' => machT d R' r
  | R,.name x :: r => machT d (addP (nmT d (envR R) x) R) r
  | R,.opens :: r => machT d ((.par,none) :: R) r
  | R,.back :: .name x :: .dot :: r => machT d ((.fun_ x,none) :: R) r
  | _,_ => none
theorem mach_machT (d : Defs) : ∀ (k : Nat) (R : List Rw) (l : List Ptk),l.length <= k -> mach d k R l = (cvs l).bind fun t => machT d R t
  | k,R,[],_ => by cases k <;> rfl
  | 0,_,_ :: _,h => by simp at h
  | k + 1,R,.nm x :: l,h => by
    simp only [List.length_cons] at h
    show mach d k (addP (nmT d (envR R) x) R) l = _
    rw [mach_machT d k _ l (by omega)]
    simp only [cvs,conv]
    cases cvs l <;> rfl
  | k + 1,R,.sg c :: l,h => by
    simp only [List.length_cons] at h
    unfold mach stepP
    dsimp only
    by_cases h1 : c = 92
    · rw [if_pos h1]
      have cb : conv (.sg c) = some .back := by simp only [conv]; rw [if_pos h1]
      match l,h with
      | [],_ => simp only [cvs,cb]; rfl
      | [.nm x],_ =>
        have cx : conv (.nm x) = some (.name x) := rfl
        simp only [cvs,cb,cx]; rfl
      | .sg e :: l,_ =>
        simp only [cvs,cb]
        show none = _
        cases e1 : conv (.sg e) with
        | none => rfl
        | some t =>
          cases e2 : cvs l with
          | none => rfl
          | some m =>
            show none = machT d R (.back :: t :: m)
            have : ∀ x,t ≠ .name x := fun x q => by
              subst q
              simp only [conv] at e1
              split at e1
              · cases e1
              · split at e1
                · cases e1
                · split at e1
                  · cases e1
                  · split at e1 <;> cases e1
            cases t with
            | name x => exact absurd rfl (this x)
            | back => rfl
            | dot => rfl
            | opens => rfl
            | closes => rfl
      | .nm x :: .nm y :: l,_ =>
        have cx : conv (.nm x) = some (.name x) := rfl
        have cy : conv (.nm y) = some (.name y) := rfl
        simp only [cvs,cb,cx,cy]
        show none = _
        cases cvs l <;> rfl
      | .nm x :: .sg e :: l,h =>
        simp only [List.length_cons] at h
        simp only [cvs,cb]
        have cx : conv (.nm x) = some (.name x) := rfl
        rw [cx]
        by_cases h2 : e = 46
        · have ce : conv (.sg e) = some .dot := by rw [h2]; rfl
          rw [if_pos h2,ce]
          show mach d k ((.fun_ x,none) :: R) l = _
          rw [mach_machT d k _ l (by omega)]
          cases cvs l <;> rfl
        · rw [if_neg h2]
          show none = _
          cases e1 : conv (.sg e) with
          | none => rfl
          | some t =>
            cases e2 : cvs l with
            | none => rfl
            | some m =>
              show none = machT d R (.back :: .name x :: t :: m)
              have : t ≠ .dot := fun q => by
                subst q
                simp only [conv] at e1
                rw [if_neg h2] at e1
                split at e1
                · cases e1
                · split at e1
                  · cases e1
                  · split at e1 <;> cases e1
              cases t with
              | name x => rfl
              | back => rfl
              | dot => exact absurd rfl this
              | opens => rfl
              | closes => rfl
    · rw [if_neg h1]
      by_cases h2 : c = 40
      · rw [if_pos h2]
        have cb : conv (.sg c) = some .opens := by rw [h2]; rfl
        show mach d k ((.par,none) :: R) l = _
        rw [mach_machT d k _ l (by omega)]
        simp only [cvs,cb]
        cases cvs l <;> rfl
      · rw [if_neg h2]
        by_cases h3 : c = 41
        · rw [if_pos h3]
          have cb : conv (.sg c) = some .closes := by rw [h3]; rfl
          simp only [cvs,cb]
          cases e : shut R with
          | none =>
            show none = _
            cases cvs l with
            | none => rfl
            | some m =>
              show none = (shut R).bind _
              rw [e]
              rfl
          | some R' =>
            show mach d k R' l = _
            rw [mach_machT d k _ l (by omega)]
            cases cvs l with
            | none => rfl
            | some m =>
              show machT d R' m = (shut R).bind _
              rw [e]
              rfl
        · rw [if_neg h3]
          show none = _
          simp only [cvs]
          by_cases h4 : c = 46
          · have cb : conv (.sg c) = some .dot := by rw [h4]; rfl
            rw [cb]
            cases cvs l <;> rfl
          · have cb : conv (.sg c) = none := by simp only [conv]; rw [if_neg h1,if_neg h4,if_neg h2,if_neg h3]
            rw [cb]
            rfl
theorem with_more (d : Defs) (a : Option T) (b : T) : (more a b).with_ d = more (a.map (T.with_ d)) (b.with_ d) := by
  cases a <;> rfl
noncomputable def isEnd : List Tok -> Prop
  | [] => True
  | .closes :: _ => True
  | _ => False
theorem parse_end : ∀ (k : Nat) (env : List Bytes) (a : Option T) (l : List Tok) (t : T) (r : List Tok),parse k env a l = some (t,r) -> isEnd r /\ r.length <= l.length
  | 0,_,_,_,_,_,h => by cases h
  | k + 1,env,a,[],t,r,h => by
    unfold parse at h
    obtain ⟨_,_,e⟩ := Option.map_eq_some_iff.mp h
    cases e
    exact ⟨trivial,Nat.le_refl _⟩
  | k + 1,env,a,.closes :: l,t,r,h => by
    unfold parse at h
    obtain ⟨_,_,e⟩ := Option.map_eq_some_iff.mp h
    cases e
    exact ⟨trivial,Nat.le_refl _⟩
  | k + 1,env,a,.name x :: l,t,r,h => by
    unfold parse at h
    have := parse_end k _ _ _ _ _ h
    exact ⟨this.1,Nat.le_trans this.2 (Nat.le_succ _)⟩
  | k + 1,env,a,.opens :: l,t,r,h => by
    unfold parse at h
    cases e : parse k env none l with
    | none => rw [e] at h; cases h
    | some q =>
      rw [e] at h
      obtain ⟨t1,r1⟩ := q
      match r1,e,h with
      | [],_,h => cases h
      | .closes :: u,e,h =>
        have h1 := parse_end k _ _ _ _ _ e
        have h2 := parse_end k _ _ _ _ _ h
        simp only [List.length_cons] at h1 ⊢
        exact ⟨h2.1,by omega⟩
      | .name _ :: _,_,h => cases h
      | .back :: _,_,h => cases h
      | .dot :: _,_,h => cases h
      | .opens :: _,_,h => cases h
  | k + 1,env,a,.back :: .name x :: .dot :: l,t,r,h => by
    unfold parse at h
    cases e : parse k (x :: env) none l with
    | none => rw [e] at h; cases h
    | some q =>
      rw [e] at h
      obtain ⟨t1,r1⟩ := q
      cases h
      have h1 := parse_end k _ _ _ _ _ e
      simp only [List.length_cons]
      exact ⟨h1.1,by omega⟩
  | k + 1,_,_,.dot :: _,_,_,h => by cases h
  | k + 1,_,_,[.back],_,_,h => by cases h
  | k + 1,_,_,.back :: .back :: _,_,_,h => by cases h
  | k + 1,_,_,.back :: .dot :: _,_,_,h => by cases h
  | k + 1,_,_,.back :: .opens :: _,_,_,h => by cases h
  | k + 1,_,_,.back :: .closes :: _,_,_,h => by cases h
  | k + 1,_,_,[.back,.name _],_,_,h => by cases h
  | k + 1,_,_,.back :: .name _ :: .name _ :: _,_,_,h => by cases h
  | k + 1,_,_,.back :: .name _ :: .back :: _,_,_,h => by cases h
  | k + 1,_,_,.back :: .name _ :: .opens :: _,_,_,h => by cases h
  | k + 1,_,_,.back :: .name _ :: .closes :: _,_,_,h => by cases h
theorem endT_none {k : Kd} {R : List Rw} : endT ((k,none) :: R) = none := by
  unfold endT
  cases k with
  | start => rw [endF_start]; rfl
  | par => rw [endF_par]; rfl
  | fun_ x => rw [endF_none]; rfl
theorem shut_none {k : Kd} {R : List Rw} : shut ((k,none) :: R) = none := by
  unfold shut
  cases k with
  | start => rw [endF_start]; rfl
  | par => rw [endF_par]; rfl
  | fun_ x => rw [endF_none]; rfl
theorem machT_fun {d : Defs} {x : Bytes} {t : T} {k : Kd} {a : Option T} {R : List Rw} : ∀ {l : List Tok},isEnd l -> machT d ((.fun_ x,some t) :: (k,a) :: R) l = machT d ((k,some (more a (.fn t))) :: R) l
  | [],_ => by
    show endT _ = endT _
    unfold endT
    rw [endF_fun]
  | .closes :: r,_ => by
    show (shut _).bind _ = (shut _).bind _
    unfold shut
    rw [endF_fun]
  | .name _ :: _,h => False.elim h
  | .back :: _,h => False.elim h
  | .dot :: _,h => False.elim h
  | .opens :: _,h => False.elim h
theorem machT_parse (d : Defs) : ∀ (k : Nat) (kd : Kd) (a : Option T) (R : List Rw) (l : List Tok),l.length < k ->
    machT d ((kd,a.map (T.with_ d)) :: R) l = (parse k (envR ((kd,a.map (T.with_ d)) :: R)) a l).bind fun q => machT d ((kd,some (q.1.with_ d)) :: R) q.2
  | 0,_,_,_,_,h => by omega
  | k + 1,kd,a,R,[],h => by
    unfold parse
    cases a with
    | none => exact endT_none
    | some t => rfl
  | k + 1,kd,a,R,.closes :: l,h => by
    unfold parse
    cases a with
    | none =>
      show (shut ((kd,none) :: R)).bind _ = none
      rw [shut_none]
      rfl
    | some t => rfl
  | k + 1,kd,a,R,.name x :: l,h => by
    simp only [List.length_cons] at h
    have env : ∀ b c : Option T,envR ((kd,b) :: R) = envR ((kd,c) :: R) := fun b c => by cases kd <;> rfl
    unfold parse
    show machT d ((kd,some (more (a.map (T.with_ d)) (nmT d (envR ((kd,a.map (T.with_ d)) :: R)) x))) :: R) l = _
    have ih := machT_parse d k kd (some (more a (named (envR ((kd,a.map (T.with_ d)) :: R)) x))) R l (by omega)
    rw [Option.map_some,with_more,nmT_with] at ih
    rw [ih]
    rw [env (some _) (a.map (T.with_ d))]
  | k + 1,kd,a,R,.opens :: l,h => by
    simp only [List.length_cons] at h
    unfold parse
    show machT d ((.par,none) :: (kd,a.map (T.with_ d)) :: R) l = _
    have ih := machT_parse d k .par none ((kd,a.map (T.with_ d)) :: R) l (by omega)
    have e0 : envR ((Kd.par,none) :: (kd,a.map (T.with_ d)) :: R) = envR ((kd,a.map (T.with_ d)) :: R) := rfl
    rw [Option.map_none,e0] at ih
    rw [ih]
    cases e : parse k (envR ((kd,a.map (T.with_ d)) :: R)) none l with
    | none => rfl
    | some q =>
      obtain ⟨t1,r1⟩ := q
      have pe := parse_end k _ _ _ _ _ e
      match r1,e,pe with
      | [],_,_ =>
        show machT d ((.par,some (t1.with_ d)) :: (kd,a.map (T.with_ d)) :: R) [] = none
        show endT _ = none
        unfold endT
        rw [endF_par]
        rfl
      | .closes :: u,e,pe =>
        show machT d ((.par,some (t1.with_ d)) :: (kd,a.map (T.with_ d)) :: R) (.closes :: u) = _
        show (shut _).bind _ = _
        unfold shut
        rw [endF_par]
        show machT d ((kd,some (more (a.map (T.with_ d)) (t1.with_ d))) :: R) u = _
        have ih2 := machT_parse d k kd (some (more a t1)) R u (by simp only [List.length_cons] at pe; omega)
        rw [Option.map_some,with_more] at ih2
        rw [ih2]
        have env : ∀ b c : Option T,envR ((kd,b) :: R) = envR ((kd,c) :: R) := fun b c => by cases kd <;> rfl
        rw [env (some _) (a.map (T.with_ d))]
      | .name _ :: _,_,pe => exact False.elim pe.1
      | .back :: _,_,pe => exact False.elim pe.1
      | .dot :: _,_,pe => exact False.elim pe.1
      | .opens :: _,_,pe => exact False.elim pe.1
  | k + 1,kd,a,R,.back :: .name x :: .dot :: l,h => by
    simp only [List.length_cons] at h
    unfold parse
    show machT d ((.fun_ x,none) :: (kd,a.map (T.with_ d)) :: R) l = _
    have ih := machT_parse d k (.fun_ x) none ((kd,a.map (T.with_ d)) :: R) l (by omega)
    have e0 : envR ((Kd.fun_ x,none) :: (kd,a.map (T.with_ d)) :: R) = x :: envR ((kd,a.map (T.with_ d)) :: R) := rfl
    rw [Option.map_none,e0] at ih
    rw [ih]
    cases e : parse k (x :: envR ((kd,a.map (T.with_ d)) :: R)) none l with
    | none => rfl
    | some q =>
      obtain ⟨t1,r1⟩ := q
      have pe := parse_end k _ _ _ _ _ e
      show machT d ((.fun_ x,some (t1.with_ d)) :: (kd,a.map (T.with_ d)) :: R) r1 = machT d ((kd,some ((more a (.fn t1)).with_ d)) :: R) r1
      rw [machT_fun pe.1,with_more]
      rfl
  | k + 1,_,_,_,.dot :: _,_ => rfl
  | k + 1,_,_,_,[.back],_ => rfl
  | k + 1,_,_,_,.back :: .back :: _,_ => rfl
  | k + 1,_,_,_,.back :: .dot :: _,_ => rfl
  | k + 1,_,_,_,.back :: .opens :: _,_ => rfl
  | k + 1,_,_,_,.back :: .closes :: _,_ => rfl
  | k + 1,_,_,_,[.back,.name _],_ => rfl
  | k + 1,_,_,_,.back :: .name _ :: .name _ :: _,_ => rfl
  | k + 1,_,_,_,.back :: .name _ :: .back :: _,_ => rfl
  | k + 1,_,_,_,.back :: .name _ :: .opens :: _,_ => rfl
  | k + 1,_,_,_,.back :: .name _ :: .closes :: _,_ => rfl
noncomputable def readM (d : Defs) (b : Bytes) : Option T := (ptok (b.length + 1) b).bind fun l => mach d l.length [(.start,none)] l
theorem readM_read (d : Defs) (b : Bytes) : readM d b = Sy10.read d b := by
  unfold readM Sy10.read readPlain
  rw [tokens_ptok]
  cases e : ptok (b.length + 1) b with
  | none => rfl
  | some l =>
    show mach d l.length [(.start,none)] l = _
    rw [mach_machT d _ _ l (Nat.le_refl _)]
    show _ = Option.map _ (match cvs l with | some l => _ | none => none)
    cases e2 : cvs l with
    | none => rfl
    | some m =>
      show machT d [(.start,none)] m = Option.map (T.with_ d) (match parse (2 * m.length + 2) [] none m with | some (t,[]) => some t | _ => none)
      have := machT_parse d (2 * m.length + 2) .start none [] m (by omega)
      rw [Option.map_none] at this
      rw [this]
      have ee : envR [(Kd.start,none)] = [] := rfl
      rw [ee]
      cases e3 : parse (2 * m.length + 2) [] none m with
      | none => rfl
      | some q =>
        obtain ⟨t,r⟩ := q
        have pe := parse_end _ _ _ _ _ _ e3
        match r,pe with
        | [],_ =>
          show endT [(.start,some (t.with_ d))] = some (t.with_ d)
          unfold endT
          rw [endF_start]
          rfl
        | .closes :: u,_ =>
          show (shut [(.start,some (t.with_ d))]).bind _ = none
          unfold shut
          rw [endF_start]
          rfl
        | .name _ :: _,pe => exact False.elim pe.1
        | .back :: _,pe => exact False.elim pe.1
        | .dot :: _,pe => exact False.elim pe.1
        | .opens :: _,pe => exact False.elim pe.1
end Ft
end

section
namespace Ft
open Sy10
noncomputable def ofT : T -> N
  | .own k => .bound k
  | .free x => .free x
  | .fn t => .fn (ofT t)
  | .app a b => .app (ofT a) (ofT b)
theorem ofT_size : ∀ t : T,(ofT t).size = t.size
  | .own _ => rfl
  | .free _ => rfl
  | .fn t => by simp only [ofT,N.size,T.size,ofT_size t]; omega
  | .app a b => by simp only [ofT,N.size,T.size,ofT_size a,ofT_size b]; omega
theorem ofT_low (d : Nat) : ∀ t : T,(ofT t).low d
  | .own _ => trivial
  | .free _ => trivial
  | .fn t => ofT_low d t
  | .app a b => ⟨ofT_low d a,ofT_low d b⟩
theorem ofT_cl (d : Nat) : ∀ (t : T) (j : Nat),(ofT t).cl d j = t
  | .own _,_ => rfl
  | .free _,_ => rfl
  | .fn t,j => by simp only [ofT,N.cl,ofT_cl d t]
  | .app a b,j => by simp only [ofT,N.cl,ofT_cl d a,ofT_cl d b]
noncomputable abbrev rch (t : T) : Nat := (ofT t).reach
theorem rch_app {a b : T} {c : Nat} : rch (.app a b) <= c ↔ rch a <= c /\ rch b <= c := N.reach_app
theorem rch_fn {a : T} {c : Nat} : rch (.fn a) <= c ↔ rch a <= c + 1 := N.reach_fn
structure DefsOk (d : Defs) : Prop where
  frees : ∀ x t,lookup d x = some t -> t.frees = []
  reach : ∀ x t,lookup d x = some t -> rch t = 0
theorem frees_with {d : Defs} (h : DefsOk d) : ∀ t : T,(t.with_ d).frees = t.frees.filter fun x => (lookup d x).isNone
  | .own _ => rfl
  | .free x => by
    show ((lookup d x).getD (.free x)).frees = List.filter (fun x => (lookup d x).isNone) [x]
    rw [List.filter_cons,List.filter_nil]
    cases e : lookup d x with
    | none => rfl
    | some t => exact h.frees x t e
  | .fn t => frees_with h t
  | .app a b => by
    show (a.with_ d).frees ++ (b.with_ d).frees = List.filter _ (a.frees ++ b.frees)
    rw [List.filter_append,frees_with h a,frees_with h b]
noncomputable def accF : Option T -> List Bytes
  | some t => t.frees
  | none => []
noncomputable def frR : List Rw -> List Bytes
  | [] => []
  | (_,a) :: R => frR R ++ accF a
theorem accF_more (a : Option T) (t : T) : accF (some (more a t)) = accF a ++ t.frees := by
  cases a <;> rfl
noncomputable def wfR : List Rw -> Prop
  | [] => False
  | (.start,a) :: R => R = [] /\ (∀ t,a = some t -> rch t <= 0)
  | (.par,a) :: R => (∀ t,a = some t -> rch t <= (envR R).length) /\ wfR R
  | (.fun_ x,a) :: R => (∀ t,a = some t -> rch t <= (envR R).length + 1) /\ wfR R
theorem wfR_start : wfR [(.start,none)] := ⟨rfl,fun _ h => nomatch h⟩
theorem envR_acc (k : Kd) (a b : Option T) (R : List Rw) : envR ((k,a) :: R) = envR ((k,b) :: R) := by cases k <;> rfl
theorem wfR_set {k : Kd} {a b : Option T} {R : List Rw} (h : wfR ((k,a) :: R)) (q : ∀ t,b = some t -> rch t <= (envR ((k,b) :: R)).length) : wfR ((k,b) :: R) := by
  cases k with
  | start => exact ⟨h.1,fun t e => by have := q t e; rw [h.1] at this; exact this⟩
  | par => exact ⟨q,h.2⟩
  | fun_ x => exact ⟨q,h.2⟩
theorem wfR_acc {k : Kd} {a : Option T} {R : List Rw} (h : wfR ((k,a) :: R)) : ∀ t,a = some t -> rch t <= (envR ((k,a) :: R)).length := by
  cases k with
  | start => intro t e; have := h.2 t e; omega
  | par => exact h.1
  | fun_ x => exact h.1
theorem rch_more {a : Option T} {t : T} {c : Nat} (h1 : ∀ u,a = some u -> rch u <= c) (h2 : rch t <= c) : rch (more a t) <= c := by
  cases a with
  | none => exact h2
  | some u => exact rch_app.mpr ⟨h1 u rfl,h2⟩
theorem addP_frees {t : T} {R : List Rw} (h : wfR R) : frR (addP t R) = frR R ++ t.frees := by
  cases R with
  | nil => exact False.elim h
  | cons p R =>
    obtain ⟨k,a⟩ := p
    show frR R ++ accF (some (more a t)) = frR R ++ accF a ++ t.frees
    rw [accF_more,List.append_assoc]
theorem addP_wf {t : T} {R : List Rw} (h : wfR R) (ht : rch t <= (envR R).length) : wfR (addP t R) := by
  cases R with
  | nil => exact False.elim h
  | cons p R =>
    obtain ⟨k,a⟩ := p
    refine wfR_set (b := some (more a t)) h fun u e => ?_
    cases e
    rw [envR_acc k (some _) a]
    exact rch_more (wfR_acc h) ht
theorem endF_ok : ∀ (n : Nat) {R R' : List Rw},R.length <= n -> wfR R -> endF R = some R' -> wfR R' /\ frR R' = frR R /\ R'.length <= R.length
  | 0,R,_,l,h,_ => by
    have : R = [] := List.length_eq_zero_iff.mp (Nat.le_zero.mp l)
    subst this
    exact False.elim h
  | n + 1,[],_,_,h,_ => False.elim h
  | n + 1,(.start,a) :: R,R',l,h,e => by
    rw [endF_start] at e
    cases e
    exact ⟨h,rfl,Nat.le_refl _⟩
  | n + 1,(.par,a) :: R,R',l,h,e => by
    rw [endF_par] at e
    cases e
    exact ⟨h,rfl,Nat.le_refl _⟩
  | n + 1,(.fun_ x,none) :: R,R',l,h,e => by
    rw [endF_none] at e
    cases e
  | n + 1,(.fun_ x,some t) :: [],R',l,h,e => False.elim h.2
  | n + 1,(.fun_ x,some t) :: (k,a) :: R,R',l,h,e => by
    rw [endF_fun] at e
    have h2 : wfR ((k,a) :: R) := h.2
    have w : wfR ((k,some (more a (.fn t))) :: R) := addP_wf (t := .fn t) h2 (rch_fn.mpr (h.1 t rfl))
    have l2 : ((k,some (more a (.fn t))) :: R).length <= n := by simp only [List.length_cons] at l ⊢; omega
    obtain ⟨q1,q2,q3⟩ := endF_ok n l2 w e
    refine ⟨q1,?_,?_⟩
    · rw [q2]
      show frR R ++ accF (some (more a (.fn t))) = frR R ++ accF a ++ accF (some t)
      rw [accF_more,List.append_assoc]
      rfl
    · simp only [List.length_cons] at q3 ⊢
      omega
theorem shut_ok {R R' : List Rw} (h : wfR R) (e : shut R = some R') : wfR R' /\ frR R' = frR R /\ R'.length <= R.length := by
  unfold shut at e
  cases q : endF R with
  | none => rw [q] at e; cases e
  | some S =>
    rw [q] at e
    obtain ⟨w,f,l⟩ := endF_ok _ (Nat.le_refl _) h q
    match S,w,e with
    | (.par,some t) :: (k,a) :: S,w,e =>
      have e' : some ((k,some (more a t)) :: S) = some R' := e
      cases e'
      have w2 : wfR ((k,a) :: S) := w.2
      refine ⟨addP_wf (t := t) w2 (w.1 t rfl),?_,?_⟩
      · rw [<- f]
        show frR S ++ accF (some (more a t)) = frR S ++ accF a ++ accF (some t)
        rw [accF_more,List.append_assoc]
        rfl
      · simp only [List.length_cons] at l ⊢
        omega
    | [],_,e => cases e
    | (.start,_) :: _,_,e => cases e
    | (.fun_ _,_) :: _,_,e => cases e
    | (.par,none) :: _,_,e => cases e
    | [(.par,some _)],_,e => cases e
theorem endT_ok {R : List Rw} {t : T} (h : wfR R) (e : endT R = some t) : t.frees = frR R /\ rch t = 0 := by
  unfold endT at e
  cases q : endF R with
  | none => rw [q] at e; cases e
  | some S =>
    rw [q] at e
    obtain ⟨w,f,l⟩ := endF_ok _ (Nat.le_refl _) h q
    match S,w,e with
    | (.start,some u) :: S,w,e =>
      have e' : some u = some t := e
      cases e'
      have w1 : S = [] := w.1
      subst w1
      rw [<- f]
      exact ⟨rfl,Nat.le_zero.mp (w.2 t rfl)⟩
    | [],_,e => cases e
    | (.start,none) :: _,_,e => cases e
    | (.fun_ _,_) :: _,_,e => cases e
    | (.par,_) :: _,_,e => cases e
theorem findIdx_lt {l : List Bytes} {x : Bytes} {k : Nat} (h : l.findIdx? (fun y => y == x) = some k) : k < l.length := by
  have := List.findIdx?_eq_some_iff_findIdx_eq.mp h
  exact this.1
theorem nmT_rch {d : Defs} (hd : DefsOk d) (R : List Rw) (x : Bytes) : rch (nmT d (envR R) x) <= (envR R).length := by
  unfold nmT
  cases e : (envR R).findIdx? fun y => y == x with
  | some k => exact findIdx_lt e
  | none =>
    cases e2 : lookup d x with
    | none => exact Nat.zero_le _
    | some t =>
      show rch t <= _
      rw [hd.reach x t e2]
      exact Nat.zero_le _
noncomputable def nmF (d : Defs) (env : List Bytes) (x : Bytes) : List Bytes := match env.findIdx? fun y => y == x with
  | some _ => []
  | none => match lookup d x with
    | some _ => []
    | none => [x]
theorem nmT_frees {d : Defs} (hd : DefsOk d) (env : List Bytes) (x : Bytes) : (nmT d env x).frees = nmF d env x := by
  unfold nmT nmF
  cases e : env.findIdx? fun y => y == x with
  | some k => rfl
  | none =>
    cases e2 : lookup d x with
    | none => rfl
    | some t => exact hd.frees x t e2
theorem stepP_ok {d : Defs} (hd : DefsOk d) {R R' : List Rw} {l r : List Ptk} (h : wfR R) (e : stepP d R l = some (R',r)) : wfR R' /\ R'.length <= R.length + 1 /\
    (frR R' = frR R \/ ∃ x,Ptk.nm x ∈ l /\ frR R' = frR R ++ [x]) := by
  match l,e with
  | .nm x :: l,e =>
    have e' : some (addP (nmT d (envR R) x) R,l) = some (R',r) := e
    cases e'
    refine ⟨addP_wf h (nmT_rch hd R x),?_,?_⟩
    · cases R with
      | nil => exact Nat.zero_le _
      | cons p R =>
        obtain ⟨k,a⟩ := p
        simp only [addP,List.length_cons]
        omega
    · rw [addP_frees h,nmT_frees hd]
      unfold nmF
      split
      · exact .inl (List.append_nil _)
      · split
        · exact .inl (List.append_nil _)
        · exact .inr ⟨x,List.mem_cons_self ..,rfl⟩
  | .sg c :: l,e =>
    unfold stepP at e
    dsimp only at e
    by_cases h1 : c = 92
    · rw [if_pos h1] at e
      match l,e with
      | .nm x :: .sg c2 :: l,e =>
        dsimp only at e
        by_cases h2 : c2 = 46
        · rw [if_pos h2] at e
          cases e
          exact ⟨⟨(fun _ z => by cases z),h⟩,Nat.le_refl _,.inl (List.append_nil _)⟩
        · rw [if_neg h2] at e
          cases e
      | [],e => cases e
      | .sg _ :: _,e => cases e
      | [.nm _],e => cases e
      | .nm _ :: .nm _ :: _,e => cases e
    · rw [if_neg h1] at e
      by_cases h2 : c = 40
      · rw [if_pos h2] at e
        cases e
        exact ⟨⟨(fun _ z => by cases z),h⟩,Nat.le_refl _,.inl (List.append_nil _)⟩
      · rw [if_neg h2] at e
        by_cases h3 : c = 41
        · rw [if_pos h3] at e
          obtain ⟨R2,e1,e2⟩ := Option.map_eq_some_iff.mp e
          cases e2
          obtain ⟨q1,q2,q3⟩ := shut_ok h e1
          exact ⟨q1,by omega,.inl q2⟩
        · rw [if_neg h3] at e
          cases e
theorem mach_ok {d : Defs} (hd : DefsOk d) : ∀ (k : Nat) {R : List Rw} {l : List Ptk} {t : T},wfR R -> (∀ p ∈ l,p.ok) -> (∀ x ∈ frR R,isName x = true) -> mach d k R l = some t -> rch t = 0 /\ ∀ x ∈ t.frees,isName x = true
  | k,R,[],t,h,_,hx,e => by
    have e' : endT R = some t := by cases k <;> exact e
    obtain ⟨q1,q2⟩ := endT_ok h e'
    exact ⟨q2,by rw [q1]; exact hx⟩
  | 0,_,_ :: _,_,_,_,_,e => by cases e
  | k + 1,R,p :: l,t,h,hp,hx,e => by
    unfold mach at e
    cases q : stepP d R (p :: l) with
    | none => rw [q] at e; cases e
    | some s =>
      obtain ⟨R',r⟩ := s
      rw [q] at e
      obtain ⟨w,_,f⟩ := stepP_ok hd h q
      have sub : ∀ p' ∈ r,p' ∈ p :: l := by
        match p,q with
        | .nm x,q =>
          have q' : some (addP (nmT d (envR R) x) R,l) = some (R',r) := q
          cases q'
          exact fun p' m => List.mem_cons_of_mem _ m
        | .sg c,q =>
          unfold stepP at q
          dsimp only at q
          by_cases h1 : c = 92
          · rw [if_pos h1] at q
            match l,q with
            | .nm x :: .sg c2 :: l,q =>
              dsimp only at q
              by_cases h2 : c2 = 46
              · rw [if_pos h2] at q
                cases q
                exact fun p' m => List.mem_cons_of_mem _ (List.mem_cons_of_mem _ (List.mem_cons_of_mem _ m))
              · rw [if_neg h2] at q
                cases q
            | [],q => cases q
            | .sg _ :: _,q => cases q
            | [.nm _],q => cases q
            | .nm _ :: .nm _ :: _,q => cases q
          · rw [if_neg h1] at q
            by_cases h2 : c = 40
            · rw [if_pos h2] at q
              cases q
              exact fun p' m => List.mem_cons_of_mem _ m
            · rw [if_neg h2] at q
              by_cases h3 : c = 41
              · rw [if_pos h3] at q
                obtain ⟨R2,e1,e2⟩ := Option.map_eq_some_iff.mp q
                cases e2
                exact fun p' m => List.mem_cons_of_mem _ m
              · rw [if_neg h3] at q
                cases q
      refine mach_ok hd k w (fun p' m => hp p' (sub p' m)) ?_ e
      rcases f with f | ⟨x,m,f⟩
      · rw [f]; exact hx
      · rw [f]
        intro y hy
        rcases List.mem_append.mp hy with z | z
        · exact hx y z
        · have hy' : y = x := List.mem_singleton.mp z
          subst hy'
          exact hp _ m
theorem readM_nm {d : Defs} (hd : DefsOk d) {b : Bytes} {t : T} (e : readM d b = some t) : rch t = 0 /\ ∀ x ∈ t.frees,isName x = true := by
  unfold readM at e
  cases q : ptok (b.length + 1) b with
  | none => rw [q] at e; cases e
  | some l =>
    rw [q] at e
    exact mach_ok hd _ wfR_start (ptok_ok _ _ _ q) (fun x hx => by cases hx) e
theorem readM_ok {d : Defs} (hd : DefsOk d) {b : Bytes} {t : T} (e : readM d b = some t) : rch t = 0 /\ ∀ x ∈ t.frees,x.length <= 8 := by
  obtain ⟨h1,h2⟩ := readM_nm hd e
  refine ⟨h1,fun x hx => ?_⟩
  have := h2 x hx
  unfold isName at this
  simp only [Bool.and_eq_true,decide_eq_true_eq] at this
  exact this.2
theorem readM_ne {d : Defs} (hd : DefsOk d) {b : Bytes} {t : T} (e : readM d b = some t) : ∀ x ∈ t.frees,x ≠ [] := fun x hx z => by
  have := (readM_nm hd e).2 x hx
  rw [z] at this
  cases this
end Ft
end

section
namespace Ft
open PySem PySem.Spec PyProof.Rows L2
structure Gd (P : Program) (w : World) (K : PySem.W.Frag) (mg : Str -> Option Value) (base : Heap) (CX : CXT) (k : Nat) (f : Addr) (ps : List Str) (sp : Sp) : Prop where
  ex : ∃ fd,FnOk P w K mg base CX k f fd ps sp /\ Binds K fd ps []
section
variable {X : Cx} {CX : CXT} {k k' : Nat} {f C : Addr} {ps : List Str} {sp : Sp} {E : XK} {x m : Str} {p pos apos : Pos} {e o : Expr} {es : List Expr} {ta : TE} {t : TA}
theorem pe_callG (G : Gd X.prog X.w X.K X.mg X.base CX k f ps sp) (hr : Room k' X.A) (hk : k <= k') (hg : Gl X x) (hm : X.mg x = some (.ref f)) (kp : PySem.W.keepIn X.K (.ref f) = true) (hx : Passes CX X E) (ha : PA X (e :: es) t)
    (hdb : (x == ("__debug__" : Str)) = false := by decide) (he : starEach (e :: es) X.env = (false,eval e X.env) :: starEach es X.env := by rfl) (hpl : (backTo pos (starEach es X.env)).any (·.1) = false := by rfl) :
    PE X (.Call (.Name x p) (e :: es) [] pos) (tCall sp [] E t) := by
  obtain ⟨fd,F,b⟩ := G.ex
  exact pe_call F (hr.mono hk) hg hm kp b .nil hx ha hdb he hpl
theorem pe_methG {pl : Sem Bool} (he : PE X o ta) (c : Cls X.K C) (hm : Meth X.K C m f) (G : Gd X.prog X.w X.K X.mg X.base CX k f ps sp) (hr : Room k' X.A) (hk : k <= k') (hx : Passes CX X E) (ha : PA X (e :: es) t)
    (hst : starEach (e :: es) X.env = (false,eval e X.env) :: starEach es X.env := by rfl) (hpl : (backTo pos (starEach es X.env)).any (·.1) = false := by rfl)
    (ht : eval (.Call (.Attribute o m apos) (e :: es) [] pos) X.env = (do
      let ov <- eval o X.env
      standAt apos.atName
      let (f,first) <- holding [ov] (getMethod ov m pl)
      callWith pos f first (backTo pos (starEach (e :: es) X.env)) (backToKw pos (keywordEach [] X.env))) := by rfl) :
    PE X (.Call (.Attribute o m apos) (e :: es) [] pos) (tMeth C m sp [] E ta t) := by
  obtain ⟨fd,F,b⟩ := G.ex
  exact pe_meth he c hm F (hr.mono hk) b .nil hx ha hst hpl ht
theorem pe_meth0G {pl : Sem Bool} (he : PE X o ta) (c : Cls X.K C) (hm : Meth X.K C m f) (G : Gd X.prog X.w X.K X.mg X.base CX k f ps sp) (hr : Room k' X.A) (hk : k <= k') (hx : Passes CX X E)
    (ht : eval (.Call (.Attribute o m apos) [] [] pos) X.env = (do
      let ov <- eval o X.env
      standAt apos.atName
      let (f,first) <- holding [ov] (getMethod ov m pl)
      callWith pos f first (backTo pos (starEach [] X.env)) (backToKw pos (keywordEach [] X.env))) := by rfl) :
    PE X (.Call (.Attribute o m apos) [] [] pos) (tMeth C m sp [] E ta tNil) := by
  obtain ⟨fd,F,b⟩ := G.ex
  exact pe_meth0 he c hm F (hr.mono hk) b .nil hx ht
theorem pe_makeG (M : Mk X.K C f) (G : Gd X.prog X.w X.K X.mg X.base CX k f ps sp) (hr : Room k' X.A) (hk : k + 1 <= k') (hg : Gl X x) (hm : X.mg x = some (.ref C)) (hx : Passes CX X E) (ha : PA X (e :: es) t)
    (hdb : (x == ("__debug__" : Str)) = false := by decide) (he : starEach (e :: es) X.env = (false,eval e X.env) :: starEach es X.env := by rfl) (hpl : (backTo pos (starEach es X.env)).any (·.1) = false := by rfl) :
    PE X (.Call (.Name x p) (e :: es) [] pos) (tMake C sp [] E t) := by
  obtain ⟨fd,F,b⟩ := G.ex
  exact pe_make M F (hr.mono hk) hg hm b .nil hx ha hdb he hpl
theorem pe_make0G (M : Mk X.K C f) (G : Gd X.prog X.w X.K X.mg X.base CX k f ps sp) (hr : Room k' X.A) (hk : k + 1 <= k') (hg : Gl X x) (hm : X.mg x = some (.ref C)) (hx : Passes CX X E)
    (hdb : (x == ("__debug__" : Str)) = false := by decide) : PE X (.Call (.Name x p) [] [] pos) (tMake C sp [] E tNil) := by
  obtain ⟨fd,F,b⟩ := G.ex
  exact pe_make0 M F (hr.mono hk) hg hm b .nil hx hdb
theorem pe_k {i : Int} (h : ∃ t,X.mg x = some (.int i t)) (hg : Gl X x := by rfl) (hd : (x == ("__debug__" : Str)) = false := by decide) : PE X (.Name x p) (tC (.int i)) := by
  obtain ⟨t,h⟩ := h
  exact pe_glob hg h ⟨t,rfl⟩ hd
end
noncomputable def FnD (K : PySem.W.Frag) (x qual : Str) (st : Stmt) (ps : List Str) (f : Addr) : Prop := ∃ fd,Fun K x qual st f fd /\ Binds K fd ps []
section
variable {P : Program} {w : World} {K : PySem.W.Frag} {mg : Str -> Option Value} {base : Heap} {x qual : Str} {st : Stmt} {f C : Addr} {N ps : List Str} {k : Nat} {sp : Sp}
theorem FnD.ok (F : FnD K x qual st ps f) (S : FnScope N ps (defScope st)) (len : ∀ vs H Q E,sp vs H Q E -> vs.length = ps.length)
    (hbody : ∀ (cdv : Value) (A : Around) (outer : List Env) (s : Shared) (H : Hp) (vs : List V) (Q : VK) (E : XK),Room k (A.deeper (envOfC qual (defScope st) s.heap.objs.size f cdv)) -> sp vs H Q E ->
      ∃ t,PSs (cxOf CX0 P w K mg base N qual (defScope st) f cdv A outer s H E).nox (defBody st) t /\ t { nx := fun _ H' => Q .non H',rt := Q } (start N vs) H) : Gd P w K mg base CX0 (k + 1) f ps sp := by
  obtain ⟨fd,F,b⟩ := F
  exact ⟨fd,F.ok S len hbody,b⟩
theorem FnD.okN (F : FnD K x qual st ps f) (S : FnScope N ps (defScope st)) (len : ∀ vs H Q E,sp vs H Q E -> vs.length = ps.length)
    (hbody : ∀ (cdv : Value) (A : Around) (outer : List Env) (s : Shared) (H : Hp) (vs : List V) (Q : VK) (E : XK),Room k (A.deeper (envOfC qual (defScope st) s.heap.objs.size f cdv)) -> sp vs H Q E ->
      ∃ t,PSs (cxOf (CXN P w C) P w K mg base N qual (defScope st) f cdv A outer s H E) (defBody st) t /\ t { nx := fun _ H' => Q .non H',rt := Q } (start N vs) H) : Gd P w K mg base (CXN P w C) (k + 1) f ps sp := by
  obtain ⟨fd,F,b⟩ := F
  exact ⟨fd,F.okN S len hbody,b⟩
end
section
variable {X : Cx} {e : Expr} {st : Stmt} {sts : List Stmt}
noncomputable def tCut (t : TE) : TE := fun σ H Q => ∃ Nx : VK,t σ H Nx /\ ∀ v H',Nx v H' -> Q v H'
theorem pe_cut {t : TE} (h : PE X e t) : PE X e (tCut t) := by
  intro pins s σ H Q I hw
  obtain ⟨Nx,h1,h2⟩ := hw
  exact thn (h pins s σ H Nx I h1) fun u s' ⟨v,H',I',r,q⟩ => ⟨v,H',I',r,h2 v H' q⟩
noncomputable def tCutT (t : TT) : TT := fun σ H Q => ∃ Nx : Bool -> Hp -> Prop,t σ H Nx /\ ∀ v H',Nx v H' -> Q v H'
theorem pt_cut {t : TT} (h : PT X e t) : PT X e (tCutT t) := by
  intro pins s σ H Q I hw
  obtain ⟨Nx,h1,h2⟩ := hw
  exact thn (h pins s σ H Nx I h1) fun u s' ⟨H',I',q⟩ => ⟨H',I',h2 u H' q⟩
noncomputable def tCutS (t : TS) : TS := fun D σ H => ∃ Nx : L2.St -> Hp -> Prop,t { D with nx := Nx } σ H /\ ∀ σ' H',Nx σ' H' -> D.nx σ' H'
theorem ps_cut {t : TS} (h : PS X st t) : PS X st (tCutS t) := by
  intro pins s σ H D I hw
  obtain ⟨Nx,h1,h2⟩ := hw
  refine thn (h pins s σ H { D with nx := Nx } I h1) fun f s' q => ?_
  cases f with
  | next =>
    obtain ⟨σ',H',I',q⟩ := q
    exact ⟨σ',H',I',h2 σ' H' q⟩
  | ret v => exact q
  | brk => exact q
  | cont => exact q
end
theorem upd_upd (H : Hp) (a : Addr) (o u : HO) : upd (upd H a o) a u = upd H a u := by
  funext b
  unfold upd
  split <;> rfl
theorem same_new {H : Hp} {p : Addr} {o : HO} (h : H p = none) : Same H (upd H p o) := fun b u e => by
  rw [upd_ne (ne_of_none e h)]
  exact e
theorem same_made {H H' : Hp} {x dx : Addr} {o : HO} (hx : H x = none) (hd : H dx = none) (k : ∀ b,b ≠ x -> H' b = upd (upd H dx (.own x)) x o b) : Same H H' := fun b u e => by
  rw [k b (ne_of_none e hx),upd_ne (ne_of_none e hx),upd_ne (ne_of_none e hd)]
  exact e
noncomputable def imm (C : Addr) : HO -> Prop
  | .ins C' _ _ => C' = C
  | .tup _ => True
  | _ => False
noncomputable def Keep (C : Addr) (H H' : Hp) : Prop := ∀ b o,H b = some o -> imm C o -> H' b = some o
theorem Keep.refl (C : Addr) (H : Hp) : Keep C H H := fun _ _ e _ => e
theorem Keep.trans {C : Addr} {H H1 H2 : Hp} (a : Keep C H H1) (b : Keep C H1 H2) : Keep C H H2 := fun c o e i => b c o (a c o e i) i
theorem Keep.of {C : Addr} {H H' : Hp} (h : Same H H') : Keep C H H' := fun b o e _ => h b o e
theorem Keep.upd {C : Addr} {H : Hp} {p : Addr} {o u : HO} (h : H p = some o) (ho : ¬ imm C o) : Keep C H (upd H p u) := fun b v e i => by
  rw [upd_ne]
  · exact e
  · intro z
    subst z
    rw [h] at e
    cases e
    exact ho i
theorem Keep.new {C : Addr} {H : Hp} {p : Addr} {u : HO} (h : H p = none) : Keep C H (L2.upd H p u) := Keep.of (same_new h)
noncomputable def ky (x : List Nat) : List Key := x.map fun (n : Nat) => (Sum.inl (n : Int) : Key)
noncomputable def byV (x : List Nat) : List V := x.map fun (n : Nat) => V.int (n : Int)
theorem ky_map (x : List Nat) : (ky x).map kV = byV x := by
  unfold ky byV
  rw [List.map_map]
  rfl
theorem ky_inj {x y : List Nat} (h : ky x = ky y) : x = y := map_inj (f := fun (n : Nat) => (Sum.inl (n : Int) : Key)) (fun a b q => by have := Sum.inl.inj q; omega) h
theorem byV_length (x : List Nat) : (byV x).length = x.length := List.length_map ..
noncomputable def tf (k s r : Int) (l f g : V) : List (Str × V) := [("kind",.int k),("size",.int s),("reach",.int r),("label",l),("first",f),("second",g)]
noncomputable def TObj (C : Addr) (H : Hp) (p : Addr) (k s r : Int) (l f g : V) : Prop := ∃ dx,H p = some (.ins C dx (tf k s r l f g))
inductive TermAt (C : Addr) (H : Hp) : Addr -> N -> Prop where
  | free {p t : Addr} {x : List Nat} (h : TObj C H p 0 1 0 (.ref t) .non .non) (ht : H t = some (.tup ((ky x).map kV))) : TermAt C H p (.free x)
  | bound {p : Addr} {k : Nat} (h : TObj C H p 1 1 (k + 1 : Nat) (.int k) .non .non) : TermAt C H p (.bound k)
  | outer {p : Addr} {l : Nat} (h : TObj C H p 2 1 0 (.int l) .non .non) : TermAt C H p (.outer l)
  | app {p a b : Addr} {x y : N} (h : TObj C H p 3 ((N.app x y).size : Nat) ((N.app x y).reach : Nat) .non (.ref a) (.ref b)) (ha : TermAt C H a x) (hb : TermAt C H b y) : TermAt C H p (.app x y)
  | fn {p a : Addr} {x : N} (h : TObj C H p 4 ((N.fn x).size : Nat) ((N.fn x).reach : Nat) .non (.ref a) .non) (ha : TermAt C H a x) : TermAt C H p (.fn x)
theorem TObj.keep {C : Addr} {H H' : Hp} {p : Addr} {k s r : Int} {l f g : V} (h : TObj C H p k s r l f g) (e : Keep C H H') : TObj C H' p k s r l f g := by
  obtain ⟨dx,h⟩ := h
  exact ⟨dx,e _ _ h rfl⟩
theorem TermAt.keep {C : Addr} {H H' : Hp} {p : Addr} {n : N} (h : TermAt C H p n) (e : Keep C H H') : TermAt C H' p n := by
  induction h with
  | free h ht => exact .free (h.keep e) (e _ _ ht trivial)
  | bound h => exact .bound (h.keep e)
  | outer h => exact .outer (h.keep e)
  | app h _ _ ih1 ih2 => exact .app (h.keep e) ih1 ih2
  | fn h _ ih => exact .fn (h.keep e) ih
theorem TermAt.same {C : Addr} {H H' : Hp} {p : Addr} {n : N} (h : TermAt C H p n) (e : Same H H') : TermAt C H' p n := h.keep (.of e)
noncomputable def N.kind : N -> Int
  | .free _ => 0
  | .bound _ => 1
  | .outer _ => 2
  | .app _ _ => 3
  | .fn _ => 4
theorem TermAt.obj {C : Addr} {H : Hp} {p : Addr} {n : N} (h : TermAt C H p n) : ∃ l f g,TObj C H p n.kind (n.size : Nat) (n.reach : Nat) l f g := by
  cases h with
  | free h _ => exact ⟨_,_,_,h⟩
  | bound h => exact ⟨_,_,_,h⟩
  | outer h => exact ⟨_,_,_,h⟩
  | app h _ _ => exact ⟨_,_,_,h⟩
  | fn h _ => exact ⟨_,_,_,h⟩
theorem TermAt.fn_inv {C : Addr} {H : Hp} {p : Addr} {x : N} (h : TermAt C H p (.fn x)) : ∃ a dx,H p = some (.ins C dx (tf 4 ((N.fn x).size : Nat) ((N.fn x).reach : Nat) .non (.ref a) .non)) /\ TermAt C H a x := by
  cases h with
  | fn h ha =>
    obtain ⟨dx,h⟩ := h
    exact ⟨_,dx,h,ha⟩
theorem TermAt.app_inv {C : Addr} {H : Hp} {p : Addr} {x y : N} (h : TermAt C H p (.app x y)) : ∃ a b dx,H p = some (.ins C dx (tf 3 ((N.app x y).size : Nat) ((N.app x y).reach : Nat) .non (.ref a) (.ref b))) /\ TermAt C H a x /\ TermAt C H b y := by
  cases h with
  | app h ha hb =>
    obtain ⟨dx,h⟩ := h
    exact ⟨_,_,dx,h,ha,hb⟩
end Ft
end

section
namespace Ft
open PySem PySem.Spec PyProof.Rows L2
noncomputable def top (i : Nat) : Stmt := PySem.Challenge.pw_functionterms_s01_answers.main.body.getD i (.Pass ⟨0,0,0,0⟩)
noncomputable abbrev s_Term_init : Stmt := inClass (top 6) 0
noncomputable abbrev s_make_free : Stmt := top 7
noncomputable abbrev s_make_bound : Stmt := top 8
noncomputable abbrev s_make_outer : Stmt := top 9
noncomputable abbrev s_make_application : Stmt := top 10
noncomputable abbrev s_make_function : Stmt := top 11
noncomputable abbrev s_are_same : Stmt := top 13
noncomputable abbrev s_is_name_of : Stmt := top 14
noncomputable abbrev s_number_of : Stmt := top 15
noncomputable abbrev s_is_letter : Stmt := top 33
noncomputable abbrev s_is_letter_or_digit : Stmt := top 34
noncomputable abbrev s_is_blank : Stmt := top 35
noncomputable abbrev s_is_name : Stmt := top 36
noncomputable abbrev s_end_of_word : Stmt := top 37
noncomputable abbrev s_tokens_of : Stmt := top 38
noncomputable abbrev s_Row_init : Stmt := inClass (top 39) 0
noncomputable abbrev s_Reader_init : Stmt := inClass (top 40) 0
noncomputable abbrev s_Reader_add_part : Stmt := inClass (top 40) 1
noncomputable abbrev s_Reader_add_name : Stmt := inClass (top 40) 2
noncomputable abbrev s_Reader_begin_function : Stmt := inClass (top 40) 3
noncomputable abbrev s_Reader_end_row : Stmt := inClass (top 40) 4
noncomputable abbrev s_Reader_end_functions : Stmt := inClass (top 40) 5
noncomputable abbrev s_Reader_end_parenthesis : Stmt := inClass (top 40) 6
noncomputable abbrev s_Reader_end_text : Stmt := inClass (top 40) 7
noncomputable abbrev s_function_name : Stmt := top 41
noncomputable abbrev s_take_part : Stmt := top 42
noncomputable abbrev s_Reading_init : Stmt := inClass (top 43) 0
noncomputable abbrev s_read_text : Stmt := top 44
noncomputable abbrev s_put_together : Stmt := top 51
noncomputable abbrev s_put_in : Stmt := top 52
noncomputable abbrev s_Work_init : Stmt := inClass (top 53) 0
noncomputable abbrev s_Work_find_step : Stmt := inClass (top 53) 1
noncomputable abbrev s_Work_go_to_first_part : Stmt := inClass (top 53) 2
noncomputable abbrev s_Work_enter_function : Stmt := inClass (top 53) 3
noncomputable abbrev s_Work_go_on : Stmt := inClass (top 53) 4
noncomputable abbrev s_Work_make_step : Stmt := inClass (top 53) 5
noncomputable abbrev s_work_out : Stmt := top 54
noncomputable abbrev s_free_names : Stmt := top 57
noncomputable abbrev s_name_in_order : Stmt := top 58
noncomputable abbrev s_FunctionNames_init : Stmt := inClass (top 59) 0
noncomputable abbrev s_FunctionNames_name_at : Stmt := inClass (top 59) 1
noncomputable abbrev s_Part_init : Stmt := inClass (top 60) 0
noncomputable abbrev s_in_parentheses : Stmt := top 61
noncomputable abbrev s_pieces_of_function : Stmt := top 62
noncomputable abbrev s_pieces_of_application : Stmt := top 63
noncomputable abbrev s_pieces_of : Stmt := top 64
noncomputable abbrev s_write_term : Stmt := top 65
noncomputable abbrev s_write_names : Stmt := top 66
noncomputable abbrev s_refusal_of : Stmt := top 86
noncomputable abbrev s_Line_init : Stmt := inClass (top 87) 0
noncomputable abbrev s_Line_begin : Stmt := inClass (top 87) 1
noncomputable abbrev s_Line_define : Stmt := inClass (top 87) 2
noncomputable abbrev s_Line_normal : Stmt := inClass (top 87) 3
noncomputable abbrev s_Line_same : Stmt := inClass (top 87) 4
noncomputable abbrev s_Line_number : Stmt := inClass (top 87) 5
noncomputable abbrev s_Line_names : Stmt := inClass (top 87) 6
noncomputable abbrev s_Tape_init : Stmt := inClass (top 88) 0
noncomputable abbrev s_Tape_has_more : Stmt := inClass (top 88) 1
noncomputable abbrev s_Tape_take_number : Stmt := inClass (top 88) 2
noncomputable abbrev s_Tape_take_row : Stmt := inClass (top 88) 3
noncomputable abbrev s_answer_next : Stmt := top 89
noncomputable abbrev s_answers : Stmt := top 90
theorem scm {N P : List Str} {sc : Scope} (a : sc.kind = .function := by rfl) (b : sc.isCoroutine = false := by rfl) (c : sc.isGenerator = false := by rfl) (d : N.Nodup := by decide +kernel) (e : N.take P.length = P := by rfl) (f : ∀ x ∈ P,sc.names.lookup x = some .local \/ sc.names.lookup x = some .cell := by decide +kernel) (g : ∀ y ∈ sc.names,y.2 ≠ .free := by decide +kernel) : FnScope N P sc := ⟨a,b,c,d,e,f,g⟩
theorem sc_Term_init : FnScope ["self","kind","size","reach","label","first","second"] ["self","kind","size","reach","label","first","second"] (defScope s_Term_init) := scm
theorem sc_make_free : FnScope ["name"] ["name"] (defScope s_make_free) := scm
theorem sc_make_bound : FnScope ["between"] ["between"] (defScope s_make_bound) := scm
theorem sc_make_outer : FnScope ["level"] ["level"] (defScope s_make_outer) := scm
theorem sc_make_application : FnScope ["first","second","reach"] ["first","second"] (defScope s_make_application) := scm
theorem sc_make_function : FnScope ["body","reach"] ["body"] (defScope s_make_function) := scm
theorem sc_are_same : FnScope ["first","second","todo","pair","one","other"] ["first","second"] (defScope s_are_same) := scm
theorem sc_is_name_of : FnScope ["term","level"] ["term","level"] (defScope s_is_name_of) := scm
theorem sc_number_of : FnScope ["term","rest","count"] ["term"] (defScope s_number_of) := scm
theorem sc_is_letter : FnScope ["byte"] ["byte"] (defScope s_is_letter) := scm
theorem sc_is_letter_or_digit : FnScope ["byte"] ["byte"] (defScope s_is_letter_or_digit) := scm
theorem sc_is_blank : FnScope ["byte"] ["byte"] (defScope s_is_blank) := scm
theorem sc_is_name : FnScope ["row","byte"] ["row"] (defScope s_is_name) := scm
theorem sc_end_of_word : FnScope ["text","start","end"] ["text","start"] (defScope s_end_of_word) := scm
theorem sc_tokens_of : FnScope ["text","tokens","at","end","word"] ["text"] (defScope s_tokens_of) := scm
theorem sc_Row_init : FnScope ["self","begun","name"] ["self","begun","name"] (defScope s_Row_init) := scm
theorem sc_Reader_init : FnScope ["self","defined"] ["self","defined"] (defScope s_Reader_init) := scm
theorem sc_Reader_add_part : FnScope ["self","part","row"] ["self","part"] (defScope s_Reader_add_part) := scm
theorem sc_Reader_add_name : FnScope ["self","name","owners"] ["self","name"] (defScope s_Reader_add_name) := scm
theorem sc_Reader_begin_function : FnScope ["self","name"] ["self","name"] (defScope s_Reader_begin_function) := scm
theorem sc_Reader_end_row : FnScope ["self","row"] ["self"] (defScope s_Reader_end_row) := scm
theorem sc_Reader_end_functions : FnScope ["self","row"] ["self"] (defScope s_Reader_end_functions) := scm
theorem sc_Reader_end_parenthesis : FnScope ["self","row"] ["self"] (defScope s_Reader_end_parenthesis) := scm
theorem sc_Reader_end_text : FnScope ["self"] ["self"] (defScope s_Reader_end_text) := scm
theorem sc_function_name : FnScope ["tokens","at"] ["tokens","at"] (defScope s_function_name) := scm
theorem sc_take_part : FnScope ["reader","tokens","at","token"] ["reader","tokens","at"] (defScope s_take_part) := scm
theorem sc_Reading_init : FnScope ["self","term","unknown"] ["self","term","unknown"] (defScope s_Reading_init) := scm
theorem sc_read_text : FnScope ["text","defined","reader","tokens","at"] ["text","defined"] (defScope s_read_text) := scm
theorem sc_put_together : FnScope ["term","built","last"] ["term","built"] (defScope s_put_together) := scm
theorem sc_put_in : FnScope ["body","argument","todo","built","entry","term","depth"] ["body","argument"] (defScope s_put_in) := scm
theorem sc_Work_init : FnScope ["self","term"] ["self","term"] (defScope s_Work_init) := scm
theorem sc_Work_find_step : FnScope ["self"] ["self"] (defScope s_Work_find_step) := scm
theorem sc_Work_go_to_first_part : FnScope ["self"] ["self"] (defScope s_Work_go_to_first_part) := scm
theorem sc_Work_enter_function : FnScope ["self"] ["self"] (defScope s_Work_enter_function) := scm
theorem sc_Work_go_on : FnScope ["self","surrounding"] ["self"] (defScope s_Work_go_on) := scm
theorem sc_Work_make_step : FnScope ["self","argument","before"] ["self"] (defScope s_Work_make_step) := scm
theorem sc_work_out : FnScope ["term","steps","allowed","work"] ["term","steps"] (defScope s_work_out) := scm
theorem sc_free_names : FnScope ["term","found","todo","part"] ["term"] (defScope s_free_names) := scm
theorem sc_name_in_order : FnScope ["number","letter","digit"] ["number"] (defScope s_name_in_order) := scm
theorem sc_FunctionNames_init : FnScope ["self","taken"] ["self","taken"] (defScope s_FunctionNames_init) := scm
theorem sc_FunctionNames_name_at : FnScope ["self","level","name"] ["self","level"] (defScope s_FunctionNames_name_at) := scm
theorem sc_Part_init : FnScope ["self","term","level","is_last","is_argument"] ["self","term","level","is_last","is_argument"] (defScope s_Part_init) := scm
theorem sc_in_parentheses : FnScope ["pieces"] ["pieces"] (defScope s_in_parentheses) := scm
theorem sc_pieces_of_function : FnScope ["part","names","head","pieces"] ["part","names"] (defScope s_pieces_of_function) := scm
theorem sc_pieces_of_application : FnScope ["part","ends_row","first","second","pieces"] ["part"] (defScope s_pieces_of_application) := scm
theorem sc_pieces_of : FnScope ["part","names"] ["part","names"] (defScope s_pieces_of) := scm
theorem sc_write_term : FnScope ["term","names","text","todo","piece"] ["term"] (defScope s_write_term) := scm
theorem sc_write_names : FnScope ["names","text","name"] ["names"] (defScope s_write_names) := scm
theorem sc_refusal_of : FnScope ["work"] ["work"] (defScope s_refusal_of) := scm
theorem sc_Line_init : FnScope ["self"] ["self"] (defScope s_Line_init) := scm
theorem sc_Line_begin : FnScope ["self"] ["self"] (defScope s_Line_begin) := scm
theorem sc_Line_define : FnScope ["self","name","text","reading","key"] ["self","name","text"] (defScope s_Line_define) := scm
theorem sc_Line_normal : FnScope ["self","steps","most","text","reading","work","refusal","written"] ["self","steps","most","text"] (defScope s_Line_normal) := scm
theorem sc_Line_same : FnScope ["self","a","b","first","second"] ["self","a","b"] (defScope s_Line_same) := scm
theorem sc_Line_number : FnScope ["self","steps","text","reading","work","refusal","found"] ["self","steps","text"] (defScope s_Line_number) := scm
theorem sc_Line_names : FnScope ["self","most","text","reading","written"] ["self","most","text"] (defScope s_Line_names) := scm
theorem sc_Tape_init : FnScope ["self","numbers"] ["self","numbers"] (defScope s_Tape_init) := scm
theorem sc_Tape_has_more : FnScope ["self"] ["self"] (defScope s_Tape_has_more) := scm
theorem sc_Tape_take_number : FnScope ["self","number"] ["self"] (defScope s_Tape_take_number) := scm
theorem sc_Tape_take_row : FnScope ["self","length","row"] ["self"] (defScope s_Tape_take_row) := scm
theorem sc_answer_next : FnScope ["line","tape","call","name","steps","most","a"] ["line","tape"] (defScope s_answer_next) := scm
theorem sc_answers : FnScope ["calls","line","tape","answered","answer"] ["calls"] (defScope s_answers) := scm
noncomputable abbrev fo (x q : Str) (st : Stmt) (kV doc pm : Value) (an : Option Addr) (cdv ct : Value) : FuncData := PySem.W.fnOf x q (defArgs st) (defBody st) (defScope st) .none kV doc pm an cdv ct
theorem bd1 {F : Value -> Value -> Value -> Option Addr -> Value -> Value -> FuncData} {ps : List Str} (hl : ps.length = 1) (h : ∀ a b c d e f u0,bindArgs (F a b c d e f) ⟨[u0],[]⟩ = pure (ps.zip [u0])) : ∀ a b c d e f (us : List Value),us.length = ps.length -> bindArgs (F a b c d e f) ⟨us,[]⟩ = pure (ps.zip us) := by
  intro a b c d e f us z
  rw [hl] at z
  match us,z with
  | [u0],_ => exact h a b c d e f u0
theorem bd2 {F : Value -> Value -> Value -> Option Addr -> Value -> Value -> FuncData} {ps : List Str} (hl : ps.length = 2) (h : ∀ a b c d e f u0 u1,bindArgs (F a b c d e f) ⟨[u0,u1],[]⟩ = pure (ps.zip [u0,u1])) : ∀ a b c d e f (us : List Value),us.length = ps.length -> bindArgs (F a b c d e f) ⟨us,[]⟩ = pure (ps.zip us) := by
  intro a b c d e f us z
  rw [hl] at z
  match us,z with
  | [u0,u1],_ => exact h a b c d e f u0 u1
theorem bd3 {F : Value -> Value -> Value -> Option Addr -> Value -> Value -> FuncData} {ps : List Str} (hl : ps.length = 3) (h : ∀ a b c d e f u0 u1 u2,bindArgs (F a b c d e f) ⟨[u0,u1,u2],[]⟩ = pure (ps.zip [u0,u1,u2])) : ∀ a b c d e f (us : List Value),us.length = ps.length -> bindArgs (F a b c d e f) ⟨us,[]⟩ = pure (ps.zip us) := by
  intro a b c d e f us z
  rw [hl] at z
  match us,z with
  | [u0,u1,u2],_ => exact h a b c d e f u0 u1 u2
theorem bd4 {F : Value -> Value -> Value -> Option Addr -> Value -> Value -> FuncData} {ps : List Str} (hl : ps.length = 4) (h : ∀ a b c d e f u0 u1 u2 u3,bindArgs (F a b c d e f) ⟨[u0,u1,u2,u3],[]⟩ = pure (ps.zip [u0,u1,u2,u3])) : ∀ a b c d e f (us : List Value),us.length = ps.length -> bindArgs (F a b c d e f) ⟨us,[]⟩ = pure (ps.zip us) := by
  intro a b c d e f us z
  rw [hl] at z
  match us,z with
  | [u0,u1,u2,u3],_ => exact h a b c d e f u0 u1 u2 u3
theorem bd5 {F : Value -> Value -> Value -> Option Addr -> Value -> Value -> FuncData} {ps : List Str} (hl : ps.length = 5) (h : ∀ a b c d e f u0 u1 u2 u3 u4,bindArgs (F a b c d e f) ⟨[u0,u1,u2,u3,u4],[]⟩ = pure (ps.zip [u0,u1,u2,u3,u4])) : ∀ a b c d e f (us : List Value),us.length = ps.length -> bindArgs (F a b c d e f) ⟨us,[]⟩ = pure (ps.zip us) := by
  intro a b c d e f us z
  rw [hl] at z
  match us,z with
  | [u0,u1,u2,u3,u4],_ => exact h a b c d e f u0 u1 u2 u3 u4
theorem bd7 {F : Value -> Value -> Value -> Option Addr -> Value -> Value -> FuncData} {ps : List Str} (hl : ps.length = 7) (h : ∀ a b c d e f u0 u1 u2 u3 u4 u5 u6,bindArgs (F a b c d e f) ⟨[u0,u1,u2,u3,u4,u5,u6],[]⟩ = pure (ps.zip [u0,u1,u2,u3,u4,u5,u6])) : ∀ a b c d e f (us : List Value),us.length = ps.length -> bindArgs (F a b c d e f) ⟨us,[]⟩ = pure (ps.zip us) := by
  intro a b c d e f us z
  rw [hl] at z
  match us,z with
  | [u0,u1,u2,u3,u4,u5,u6],_ => exact h a b c d e f u0 u1 u2 u3 u4 u5 u6
theorem fnd {K : PySem.W.Frag} {x q : Str} {st : Stmt} {ps : List Str} {f : Addr} {oc : Value} {od an : Option Addr} {osl : Array (Option Value)} {kV doc pm cdv ct : Value} (l : K.lookup f = some ⟨oc,od,.func (fo x q st kV doc pm an cdv ct),osl⟩)
    (c : PySem.W.codeIn K cdv q = true) (k : PySem.W.keepIn K (.ref f) = true) (h : ∀ (kV doc pm : Value) (an : Option Addr) (cdv ct : Value) (us : List Value),us.length = ps.length -> bindArgs (fo x q st kV doc pm an cdv ct) ⟨us,[]⟩ = pure (ps.zip us) := by first | exact bd1 rfl (fun _ _ _ _ _ _ _ => rfl) | exact bd2 rfl (fun _ _ _ _ _ _ _ _ => rfl) | exact bd3 rfl (fun _ _ _ _ _ _ _ _ _ => rfl) | exact bd4 rfl (fun _ _ _ _ _ _ _ _ _ _ => rfl) | exact bd5 rfl (fun _ _ _ _ _ _ _ _ _ _ _ => rfl) | exact bd7 rfl (fun _ _ _ _ _ _ _ _ _ _ _ _ _ => rfl)) : FnD K x q st ps f := ⟨_,fun_mk l c k,(fun_mk l c k).binds h⟩
set_option genInjectivity false in
structure Ad where
  c_Term : Addr
  c_NotATerm : Addr
  c_Row : Addr
  c_Reader : Addr
  c_Reading : Addr
  c_Work : Addr
  c_FunctionNames : Addr
  c_Part : Addr
  c_UnknownCall : Addr
  c_Line : Addr
  c_Tape : Addr
  f_Term_init : Addr
  f_make_free : Addr
  f_make_bound : Addr
  f_make_outer : Addr
  f_make_application : Addr
  f_make_function : Addr
  f_are_same : Addr
  f_is_name_of : Addr
  f_number_of : Addr
  f_is_letter : Addr
  f_is_letter_or_digit : Addr
  f_is_blank : Addr
  f_is_name : Addr
  f_end_of_word : Addr
  f_tokens_of : Addr
  f_Row_init : Addr
  f_Reader_init : Addr
  f_Reader_add_part : Addr
  f_Reader_add_name : Addr
  f_Reader_begin_function : Addr
  f_Reader_end_row : Addr
  f_Reader_end_functions : Addr
  f_Reader_end_parenthesis : Addr
  f_Reader_end_text : Addr
  f_function_name : Addr
  f_take_part : Addr
  f_Reading_init : Addr
  f_read_text : Addr
  f_put_together : Addr
  f_put_in : Addr
  f_Work_init : Addr
  f_Work_find_step : Addr
  f_Work_go_to_first_part : Addr
  f_Work_enter_function : Addr
  f_Work_go_on : Addr
  f_Work_make_step : Addr
  f_work_out : Addr
  f_free_names : Addr
  f_name_in_order : Addr
  f_FunctionNames_init : Addr
  f_FunctionNames_name_at : Addr
  f_Part_init : Addr
  f_in_parentheses : Addr
  f_pieces_of_function : Addr
  f_pieces_of_application : Addr
  f_pieces_of : Addr
  f_write_term : Addr
  f_write_names : Addr
  f_refusal_of : Addr
  f_Line_init : Addr
  f_Line_begin : Addr
  f_Line_define : Addr
  f_Line_normal : Addr
  f_Line_same : Addr
  f_Line_number : Addr
  f_Line_names : Addr
  f_Tape_init : Addr
  f_Tape_has_more : Addr
  f_Tape_take_number : Addr
  f_Tape_take_row : Addr
  f_answer_next : Addr
  f_answers : Addr
structure Tx (K : PySem.W.Frag) (mg : Str -> Option Value) (a : Ad) : Prop where
  mg_Term : mg "Term" = some (.ref a.c_Term)
  cl_Term : Cls K a.c_Term
  mk_Term : Mk K a.c_Term a.f_Term_init
  na_Term_kind : NoAttr K a.c_Term "kind"
  na_Term_size : NoAttr K a.c_Term "size"
  na_Term_reach : NoAttr K a.c_Term "reach"
  na_Term_label : NoAttr K a.c_Term "label"
  na_Term_first : NoAttr K a.c_Term "first"
  na_Term_second : NoAttr K a.c_Term "second"
  mg_NotATerm : mg "NotATerm" = some (.ref a.c_NotATerm)
  ex_NotATerm : ExcK K a.c_NotATerm
  mg_Row : mg "Row" = some (.ref a.c_Row)
  cl_Row : Cls K a.c_Row
  mk_Row : Mk K a.c_Row a.f_Row_init
  na_Row_begun : NoAttr K a.c_Row "begun"
  na_Row_name : NoAttr K a.c_Row "name"
  na_Row_term : NoAttr K a.c_Row "term"
  mg_Reader : mg "Reader" = some (.ref a.c_Reader)
  cl_Reader : Cls K a.c_Reader
  mk_Reader : Mk K a.c_Reader a.f_Reader_init
  na_Reader_defined : NoAttr K a.c_Reader "defined"
  na_Reader_rows : NoAttr K a.c_Reader "rows"
  na_Reader_depth : NoAttr K a.c_Reader "depth"
  na_Reader_owners : NoAttr K a.c_Reader "owners"
  na_Reader_unknown : NoAttr K a.c_Reader "unknown"
  me_Reader_add_part : Meth K a.c_Reader "add_part" a.f_Reader_add_part
  me_Reader_add_name : Meth K a.c_Reader "add_name" a.f_Reader_add_name
  me_Reader_begin_function : Meth K a.c_Reader "begin_function" a.f_Reader_begin_function
  me_Reader_end_row : Meth K a.c_Reader "end_row" a.f_Reader_end_row
  me_Reader_end_functions : Meth K a.c_Reader "end_functions" a.f_Reader_end_functions
  me_Reader_end_parenthesis : Meth K a.c_Reader "end_parenthesis" a.f_Reader_end_parenthesis
  me_Reader_end_text : Meth K a.c_Reader "end_text" a.f_Reader_end_text
  mg_Reading : mg "Reading" = some (.ref a.c_Reading)
  cl_Reading : Cls K a.c_Reading
  mk_Reading : Mk K a.c_Reading a.f_Reading_init
  na_Reading_term : NoAttr K a.c_Reading "term"
  na_Reading_unknown : NoAttr K a.c_Reading "unknown"
  mg_Work : mg "Work" = some (.ref a.c_Work)
  cl_Work : Cls K a.c_Work
  mk_Work : Mk K a.c_Work a.f_Work_init
  na_Work_place : NoAttr K a.c_Work "place"
  na_Work_around : NoAttr K a.c_Work "around"
  na_Work_level : NoAttr K a.c_Work "level"
  na_Work_size : NoAttr K a.c_Work "size"
  na_Work_steps : NoAttr K a.c_Work "steps"
  na_Work_finished : NoAttr K a.c_Work "finished"
  me_Work_find_step : Meth K a.c_Work "find_step" a.f_Work_find_step
  me_Work_go_to_first_part : Meth K a.c_Work "go_to_first_part" a.f_Work_go_to_first_part
  me_Work_enter_function : Meth K a.c_Work "enter_function" a.f_Work_enter_function
  me_Work_go_on : Meth K a.c_Work "go_on" a.f_Work_go_on
  me_Work_make_step : Meth K a.c_Work "make_step" a.f_Work_make_step
  mg_FunctionNames : mg "FunctionNames" = some (.ref a.c_FunctionNames)
  cl_FunctionNames : Cls K a.c_FunctionNames
  mk_FunctionNames : Mk K a.c_FunctionNames a.f_FunctionNames_init
  na_FunctionNames_taken : NoAttr K a.c_FunctionNames "taken"
  na_FunctionNames_chosen : NoAttr K a.c_FunctionNames "chosen"
  na_FunctionNames_tried : NoAttr K a.c_FunctionNames "tried"
  me_FunctionNames_name_at : Meth K a.c_FunctionNames "name_at" a.f_FunctionNames_name_at
  mg_Part : mg "Part" = some (.ref a.c_Part)
  cl_Part : Cls K a.c_Part
  mk_Part : Mk K a.c_Part a.f_Part_init
  na_Part_term : NoAttr K a.c_Part "term"
  na_Part_level : NoAttr K a.c_Part "level"
  na_Part_is_last : NoAttr K a.c_Part "is_last"
  na_Part_is_argument : NoAttr K a.c_Part "is_argument"
  mg_UnknownCall : mg "UnknownCall" = some (.ref a.c_UnknownCall)
  ex_UnknownCall : ExcK K a.c_UnknownCall
  mg_Line : mg "Line" = some (.ref a.c_Line)
  cl_Line : Cls K a.c_Line
  mk_Line : Mk K a.c_Line a.f_Line_init
  na_Line_defined : NoAttr K a.c_Line "defined"
  me_Line_begin : Meth K a.c_Line "begin" a.f_Line_begin
  me_Line_define : Meth K a.c_Line "define" a.f_Line_define
  me_Line_normal : Meth K a.c_Line "normal" a.f_Line_normal
  me_Line_same : Meth K a.c_Line "same" a.f_Line_same
  me_Line_number : Meth K a.c_Line "number" a.f_Line_number
  me_Line_names : Meth K a.c_Line "names" a.f_Line_names
  mg_Tape : mg "Tape" = some (.ref a.c_Tape)
  cl_Tape : Cls K a.c_Tape
  mk_Tape : Mk K a.c_Tape a.f_Tape_init
  na_Tape_numbers : NoAttr K a.c_Tape "numbers"
  na_Tape_at : NoAttr K a.c_Tape "at"
  me_Tape_has_more : Meth K a.c_Tape "has_more" a.f_Tape_has_more
  me_Tape_take_number : Meth K a.c_Tape "take_number" a.f_Tape_take_number
  me_Tape_take_row : Meth K a.c_Tape "take_row" a.f_Tape_take_row
  fn_Term_init : FnD K "__init__" "Term.__init__" s_Term_init ["self","kind","size","reach","label","first","second"] a.f_Term_init
  fn_make_free : FnD K "make_free" "make_free" s_make_free ["name"] a.f_make_free
  mg_make_free : mg "make_free" = some (.ref a.f_make_free)
  kp_make_free : PySem.W.keepIn K (.ref a.f_make_free) = true
  fn_make_bound : FnD K "make_bound" "make_bound" s_make_bound ["between"] a.f_make_bound
  mg_make_bound : mg "make_bound" = some (.ref a.f_make_bound)
  kp_make_bound : PySem.W.keepIn K (.ref a.f_make_bound) = true
  fn_make_outer : FnD K "make_outer" "make_outer" s_make_outer ["level"] a.f_make_outer
  mg_make_outer : mg "make_outer" = some (.ref a.f_make_outer)
  kp_make_outer : PySem.W.keepIn K (.ref a.f_make_outer) = true
  fn_make_application : FnD K "make_application" "make_application" s_make_application ["first","second"] a.f_make_application
  mg_make_application : mg "make_application" = some (.ref a.f_make_application)
  kp_make_application : PySem.W.keepIn K (.ref a.f_make_application) = true
  fn_make_function : FnD K "make_function" "make_function" s_make_function ["body"] a.f_make_function
  mg_make_function : mg "make_function" = some (.ref a.f_make_function)
  kp_make_function : PySem.W.keepIn K (.ref a.f_make_function) = true
  fn_are_same : FnD K "are_same" "are_same" s_are_same ["first","second"] a.f_are_same
  mg_are_same : mg "are_same" = some (.ref a.f_are_same)
  kp_are_same : PySem.W.keepIn K (.ref a.f_are_same) = true
  fn_is_name_of : FnD K "is_name_of" "is_name_of" s_is_name_of ["term","level"] a.f_is_name_of
  mg_is_name_of : mg "is_name_of" = some (.ref a.f_is_name_of)
  kp_is_name_of : PySem.W.keepIn K (.ref a.f_is_name_of) = true
  fn_number_of : FnD K "number_of" "number_of" s_number_of ["term"] a.f_number_of
  mg_number_of : mg "number_of" = some (.ref a.f_number_of)
  kp_number_of : PySem.W.keepIn K (.ref a.f_number_of) = true
  fn_is_letter : FnD K "is_letter" "is_letter" s_is_letter ["byte"] a.f_is_letter
  mg_is_letter : mg "is_letter" = some (.ref a.f_is_letter)
  kp_is_letter : PySem.W.keepIn K (.ref a.f_is_letter) = true
  fn_is_letter_or_digit : FnD K "is_letter_or_digit" "is_letter_or_digit" s_is_letter_or_digit ["byte"] a.f_is_letter_or_digit
  mg_is_letter_or_digit : mg "is_letter_or_digit" = some (.ref a.f_is_letter_or_digit)
  kp_is_letter_or_digit : PySem.W.keepIn K (.ref a.f_is_letter_or_digit) = true
  fn_is_blank : FnD K "is_blank" "is_blank" s_is_blank ["byte"] a.f_is_blank
  mg_is_blank : mg "is_blank" = some (.ref a.f_is_blank)
  kp_is_blank : PySem.W.keepIn K (.ref a.f_is_blank) = true
  fn_is_name : FnD K "is_name" "is_name" s_is_name ["row"] a.f_is_name
  mg_is_name : mg "is_name" = some (.ref a.f_is_name)
  kp_is_name : PySem.W.keepIn K (.ref a.f_is_name) = true
  fn_end_of_word : FnD K "end_of_word" "end_of_word" s_end_of_word ["text","start"] a.f_end_of_word
  mg_end_of_word : mg "end_of_word" = some (.ref a.f_end_of_word)
  kp_end_of_word : PySem.W.keepIn K (.ref a.f_end_of_word) = true
  fn_tokens_of : FnD K "tokens_of" "tokens_of" s_tokens_of ["text"] a.f_tokens_of
  mg_tokens_of : mg "tokens_of" = some (.ref a.f_tokens_of)
  kp_tokens_of : PySem.W.keepIn K (.ref a.f_tokens_of) = true
  fn_Row_init : FnD K "__init__" "Row.__init__" s_Row_init ["self","begun","name"] a.f_Row_init
  fn_Reader_init : FnD K "__init__" "Reader.__init__" s_Reader_init ["self","defined"] a.f_Reader_init
  fn_Reader_add_part : FnD K "add_part" "Reader.add_part" s_Reader_add_part ["self","part"] a.f_Reader_add_part
  fn_Reader_add_name : FnD K "add_name" "Reader.add_name" s_Reader_add_name ["self","name"] a.f_Reader_add_name
  fn_Reader_begin_function : FnD K "begin_function" "Reader.begin_function" s_Reader_begin_function ["self","name"] a.f_Reader_begin_function
  fn_Reader_end_row : FnD K "end_row" "Reader.end_row" s_Reader_end_row ["self"] a.f_Reader_end_row
  fn_Reader_end_functions : FnD K "end_functions" "Reader.end_functions" s_Reader_end_functions ["self"] a.f_Reader_end_functions
  fn_Reader_end_parenthesis : FnD K "end_parenthesis" "Reader.end_parenthesis" s_Reader_end_parenthesis ["self"] a.f_Reader_end_parenthesis
  fn_Reader_end_text : FnD K "end_text" "Reader.end_text" s_Reader_end_text ["self"] a.f_Reader_end_text
  fn_function_name : FnD K "function_name" "function_name" s_function_name ["tokens","at"] a.f_function_name
  mg_function_name : mg "function_name" = some (.ref a.f_function_name)
  kp_function_name : PySem.W.keepIn K (.ref a.f_function_name) = true
  fn_take_part : FnD K "take_part" "take_part" s_take_part ["reader","tokens","at"] a.f_take_part
  mg_take_part : mg "take_part" = some (.ref a.f_take_part)
  kp_take_part : PySem.W.keepIn K (.ref a.f_take_part) = true
  fn_Reading_init : FnD K "__init__" "Reading.__init__" s_Reading_init ["self","term","unknown"] a.f_Reading_init
  fn_read_text : FnD K "read_text" "read_text" s_read_text ["text","defined"] a.f_read_text
  mg_read_text : mg "read_text" = some (.ref a.f_read_text)
  kp_read_text : PySem.W.keepIn K (.ref a.f_read_text) = true
  fn_put_together : FnD K "put_together" "put_together" s_put_together ["term","built"] a.f_put_together
  mg_put_together : mg "put_together" = some (.ref a.f_put_together)
  kp_put_together : PySem.W.keepIn K (.ref a.f_put_together) = true
  fn_put_in : FnD K "put_in" "put_in" s_put_in ["body","argument"] a.f_put_in
  mg_put_in : mg "put_in" = some (.ref a.f_put_in)
  kp_put_in : PySem.W.keepIn K (.ref a.f_put_in) = true
  fn_Work_init : FnD K "__init__" "Work.__init__" s_Work_init ["self","term"] a.f_Work_init
  fn_Work_find_step : FnD K "find_step" "Work.find_step" s_Work_find_step ["self"] a.f_Work_find_step
  fn_Work_go_to_first_part : FnD K "go_to_first_part" "Work.go_to_first_part" s_Work_go_to_first_part ["self"] a.f_Work_go_to_first_part
  fn_Work_enter_function : FnD K "enter_function" "Work.enter_function" s_Work_enter_function ["self"] a.f_Work_enter_function
  fn_Work_go_on : FnD K "go_on" "Work.go_on" s_Work_go_on ["self"] a.f_Work_go_on
  fn_Work_make_step : FnD K "make_step" "Work.make_step" s_Work_make_step ["self"] a.f_Work_make_step
  fn_work_out : FnD K "work_out" "work_out" s_work_out ["term","steps"] a.f_work_out
  mg_work_out : mg "work_out" = some (.ref a.f_work_out)
  kp_work_out : PySem.W.keepIn K (.ref a.f_work_out) = true
  fn_free_names : FnD K "free_names" "free_names" s_free_names ["term"] a.f_free_names
  mg_free_names : mg "free_names" = some (.ref a.f_free_names)
  kp_free_names : PySem.W.keepIn K (.ref a.f_free_names) = true
  fn_name_in_order : FnD K "name_in_order" "name_in_order" s_name_in_order ["number"] a.f_name_in_order
  mg_name_in_order : mg "name_in_order" = some (.ref a.f_name_in_order)
  kp_name_in_order : PySem.W.keepIn K (.ref a.f_name_in_order) = true
  fn_FunctionNames_init : FnD K "__init__" "FunctionNames.__init__" s_FunctionNames_init ["self","taken"] a.f_FunctionNames_init
  fn_FunctionNames_name_at : FnD K "name_at" "FunctionNames.name_at" s_FunctionNames_name_at ["self","level"] a.f_FunctionNames_name_at
  fn_Part_init : FnD K "__init__" "Part.__init__" s_Part_init ["self","term","level","is_last","is_argument"] a.f_Part_init
  fn_in_parentheses : FnD K "in_parentheses" "in_parentheses" s_in_parentheses ["pieces"] a.f_in_parentheses
  mg_in_parentheses : mg "in_parentheses" = some (.ref a.f_in_parentheses)
  kp_in_parentheses : PySem.W.keepIn K (.ref a.f_in_parentheses) = true
  fn_pieces_of_function : FnD K "pieces_of_function" "pieces_of_function" s_pieces_of_function ["part","names"] a.f_pieces_of_function
  mg_pieces_of_function : mg "pieces_of_function" = some (.ref a.f_pieces_of_function)
  kp_pieces_of_function : PySem.W.keepIn K (.ref a.f_pieces_of_function) = true
  fn_pieces_of_application : FnD K "pieces_of_application" "pieces_of_application" s_pieces_of_application ["part"] a.f_pieces_of_application
  mg_pieces_of_application : mg "pieces_of_application" = some (.ref a.f_pieces_of_application)
  kp_pieces_of_application : PySem.W.keepIn K (.ref a.f_pieces_of_application) = true
  fn_pieces_of : FnD K "pieces_of" "pieces_of" s_pieces_of ["part","names"] a.f_pieces_of
  mg_pieces_of : mg "pieces_of" = some (.ref a.f_pieces_of)
  kp_pieces_of : PySem.W.keepIn K (.ref a.f_pieces_of) = true
  fn_write_term : FnD K "write_term" "write_term" s_write_term ["term"] a.f_write_term
  mg_write_term : mg "write_term" = some (.ref a.f_write_term)
  kp_write_term : PySem.W.keepIn K (.ref a.f_write_term) = true
  fn_write_names : FnD K "write_names" "write_names" s_write_names ["names"] a.f_write_names
  mg_write_names : mg "write_names" = some (.ref a.f_write_names)
  kp_write_names : PySem.W.keepIn K (.ref a.f_write_names) = true
  fn_refusal_of : FnD K "refusal_of" "refusal_of" s_refusal_of ["work"] a.f_refusal_of
  mg_refusal_of : mg "refusal_of" = some (.ref a.f_refusal_of)
  kp_refusal_of : PySem.W.keepIn K (.ref a.f_refusal_of) = true
  fn_Line_init : FnD K "__init__" "Line.__init__" s_Line_init ["self"] a.f_Line_init
  fn_Line_begin : FnD K "begin" "Line.begin" s_Line_begin ["self"] a.f_Line_begin
  fn_Line_define : FnD K "define" "Line.define" s_Line_define ["self","name","text"] a.f_Line_define
  fn_Line_normal : FnD K "normal" "Line.normal" s_Line_normal ["self","steps","most","text"] a.f_Line_normal
  fn_Line_same : FnD K "same" "Line.same" s_Line_same ["self","a","b"] a.f_Line_same
  fn_Line_number : FnD K "number" "Line.number" s_Line_number ["self","steps","text"] a.f_Line_number
  fn_Line_names : FnD K "names" "Line.names" s_Line_names ["self","most","text"] a.f_Line_names
  fn_Tape_init : FnD K "__init__" "Tape.__init__" s_Tape_init ["self","numbers"] a.f_Tape_init
  fn_Tape_has_more : FnD K "has_more" "Tape.has_more" s_Tape_has_more ["self"] a.f_Tape_has_more
  fn_Tape_take_number : FnD K "take_number" "Tape.take_number" s_Tape_take_number ["self"] a.f_Tape_take_number
  fn_Tape_take_row : FnD K "take_row" "Tape.take_row" s_Tape_take_row ["self"] a.f_Tape_take_row
  fn_answer_next : FnD K "answer_next" "answer_next" s_answer_next ["line","tape"] a.f_answer_next
  mg_answer_next : mg "answer_next" = some (.ref a.f_answer_next)
  kp_answer_next : PySem.W.keepIn K (.ref a.f_answer_next) = true
  fn_answers : FnD K "answers" "answers" s_answers ["calls"] a.f_answers
  mg_answers : mg "answers" = some (.ref a.f_answers)
  kp_answers : PySem.W.keepIn K (.ref a.f_answers) = true
  k_FREE : ∃ t,mg "FREE" = some (.int (0) t)
  k_BOUND : ∃ t,mg "BOUND" = some (.int (1) t)
  k_OUTER : ∃ t,mg "OUTER" = some (.int (2) t)
  k_APPLICATION : ∃ t,mg "APPLICATION" = some (.int (3) t)
  k_FUNCTION : ∃ t,mg "FUNCTION" = some (.int (4) t)
  k_TAB : ∃ t,mg "TAB" = some (.int (9) t)
  k_LINE_FEED : ∃ t,mg "LINE_FEED" = some (.int (10) t)
  k_SPACE : ∃ t,mg "SPACE" = some (.int (32) t)
  k_LEFT_PARENTHESIS : ∃ t,mg "LEFT_PARENTHESIS" = some (.int (40) t)
  k_RIGHT_PARENTHESIS : ∃ t,mg "RIGHT_PARENTHESIS" = some (.int (41) t)
  k_POINT : ∃ t,mg "POINT" = some (.int (46) t)
  k_DIGIT_0 : ∃ t,mg "DIGIT_0" = some (.int (48) t)
  k_DIGIT_9 : ∃ t,mg "DIGIT_9" = some (.int (57) t)
  k_BACKSLASH : ∃ t,mg "BACKSLASH" = some (.int (92) t)
  k_LETTER_A : ∃ t,mg "LETTER_A" = some (.int (97) t)
  k_LETTER_Z : ∃ t,mg "LETTER_Z" = some (.int (122) t)
  k_LONGEST_NAME : ∃ t,mg "LONGEST_NAME" = some (.int (8) t)
  k_BY_START : ∃ t,mg "BY_START" = some (.int (0) t)
  k_BY_PARENTHESIS : ∃ t,mg "BY_PARENTHESIS" = some (.int (1) t)
  k_BY_FUNCTION : ∃ t,mg "BY_FUNCTION" = some (.int (2) t)
  k_MOST_SIZE : ∃ t,mg "MOST_SIZE" = some (.int (4096) t)
  k_MOST_STEPS : ∃ t,mg "MOST_STEPS" = some (.int (100000) t)
  k_APPLIED_TO : ∃ t,mg "APPLIED_TO" = some (.int (0) t)
  k_ARGUMENT_OF : ∃ t,mg "ARGUMENT_OF" = some (.int (1) t)
  k_IN_FUNCTION : ∃ t,mg "IN_FUNCTION" = some (.int (2) t)
  k_LETTERS : ∃ t,mg "LETTERS" = some (.int (26) t)
  k_LONGEST_TEXT : ∃ t,mg "LONGEST_TEXT" = some (.int (2048) t)
  k_MOST_DEFINED_SIZE : ∃ t,mg "MOST_DEFINED_SIZE" = some (.int (1024) t)
  k_MOST_DEFINED : ∃ t,mg "MOST_DEFINED" = some (.int (16) t)
  k_WRONG_FORM : ∃ t,mg "WRONG_FORM" = some (.int (-1) t)
  k_NO_TERM : ∃ t,mg "NO_TERM" = some (.int (-2) t)
  k_UNKNOWN_NAME : ∃ t,mg "UNKNOWN_NAME" = some (.int (-3) t)
  k_NOT_NORMAL : ∃ t,mg "NOT_NORMAL" = some (.int (-4) t)
  k_TOO_LARGE : ∃ t,mg "TOO_LARGE" = some (.int (-5) t)
  k_TOO_LONG : ∃ t,mg "TOO_LONG" = some (.int (-6) t)
  k_TOO_MANY : ∃ t,mg "TOO_MANY" = some (.int (-7) t)
  k_NO_NUMBER : ∃ t,mg "NO_NUMBER" = some (.int (-8) t)
  k_BEGIN : ∃ t,mg "BEGIN" = some (.int (0) t)
  k_DEFINE : ∃ t,mg "DEFINE" = some (.int (1) t)
  k_NORMAL : ∃ t,mg "NORMAL" = some (.int (2) t)
  k_SAME : ∃ t,mg "SAME" = some (.int (3) t)
  k_NUMBER : ∃ t,mg "NUMBER" = some (.int (4) t)
  k_NAMES : ∃ t,mg "NAMES" = some (.int (5) t)
  b_all : mg "all" = none
  b_min : mg "min" = none
  b_tuple : mg "tuple" = none
  b_len : mg "len" = none
  b_list : mg "list" = none
  b_isinstance : mg "isinstance" = none
  b_ord : mg "ord" = none
  b_str : mg "str" = none
  b_reversed : mg "reversed" = none
  ha_Part : PySem.W.findIn K (.ref a.c_Part) "__class__" = some (some (.builtin "object.__class__"))
  hm_Part : PySem.W.mroIn K a.c_Part (.type "object") = some true
  ki_Part_list : PySem.W.kitOne K (.ref a.c_Part) (.type "list") = some false
  hn_class : PySem.W.specialIn K (.builtin "object.__class__") "__get__" = some (some (.builtin "getset_descriptor.__get__"))
  htk_class : PySem.W.takesIn K (.builtin "object.__class__") = some true
end Ft
end

section
namespace Ft
open PySem PySem.Spec PyProof.Rows L2
noncomputable def spIn (C : Addr) (fs : List Str) : Sp := fun vs H Q _ => ∃ (p dx : Addr) (args : List V),vs = .ref p :: args /\ args.length = fs.length /\ H p = some (.ins C dx []) /\
  ∀ H' : Hp,H' p = some (.ins C dx (fs.zip args)) -> (∀ b,b ≠ p -> H' b = H b) -> Q .non H'
theorem len_succ {α : Type} {l : List α} {n : Nat} (h : l.length = n + 1) : ∃ x r,l = x :: r /\ r.length = n := by
  cases l with
  | nil => cases h
  | cons x r => exact ⟨x,r,rfl,Nat.succ.inj h⟩
theorem spIn_len {C : Addr} {fs ps : List Str} (hl : ps.length = fs.length + 1) : ∀ vs H Q E,spIn C fs vs H Q E -> vs.length = ps.length := fun vs H Q E h => by
  obtain ⟨p,dx,args,rfl,l,_⟩ := h
  rw [List.length_cons,l,hl]
noncomputable abbrev termF : List Str := ["kind","size","reach","label","first","second"]
section
variable {P : Program} {w : World} {K : PySem.W.Frag} {mg : Str -> Option Value} {base : Heap} {a : Ad}
theorem ok_Term_init (T : Tx K mg a) : Gd P w K mg base CX0 1 a.f_Term_init ["self","kind","size","reach","label","first","second"] (spIn a.c_Term termF) := by
  refine T.fn_Term_init.ok sc_Term_init (spIn_len rfl) (fun cdv A outer s H vs Q E hr h => ?_)
  obtain ⟨p,dx,args,rfl,l,hp,k⟩ := h
  obtain ⟨x1,r1,rfl,m1⟩ := len_succ (n := 5) l
  obtain ⟨x2,r2,rfl,m2⟩ := len_succ (n := 4) m1
  obtain ⟨x3,r3,rfl,m3⟩ := len_succ (n := 3) m2
  obtain ⟨x4,r4,rfl,m4⟩ := len_succ (n := 2) m3
  obtain ⟨x5,r5,rfl,m5⟩ := len_succ (n := 1) m4
  obtain ⟨x6,r6,rfl,m6⟩ := len_succ (n := 0) m5
  cases List.eq_nil_of_length_eq_zero m6
  refine ⟨_,pss_cons (ps_fld (pv 0) (pv 1) rfl) (pss_cons (ps_fld (pv 0) (pv 2) rfl) (pss_cons (ps_fld (pv 0) (pv 3) rfl) (pss_cons (ps_fld (pv 0) (pv 4) rfl) (pss_cons (ps_fld (pv 0) (pv 5) rfl) (pss_one (ps_fld (pv 0) (pv 6) rfl)))))),?_⟩
  refine ⟨_,rfl,_,rfl,p,a.c_Term,dx,_,rfl,hp,T.cl_Term,T.na_Term_kind,(show 0 < 1000 by decide),?_⟩
  refine ⟨_,rfl,_,rfl,p,a.c_Term,dx,_,rfl,upd_same,T.cl_Term,T.na_Term_size,(show 1 < 1000 by decide),?_⟩
  refine ⟨_,rfl,_,rfl,p,a.c_Term,dx,_,rfl,upd_same,T.cl_Term,T.na_Term_reach,(show 2 < 1000 by decide),?_⟩
  refine ⟨_,rfl,_,rfl,p,a.c_Term,dx,_,rfl,upd_same,T.cl_Term,T.na_Term_label,(show 3 < 1000 by decide),?_⟩
  refine ⟨_,rfl,_,rfl,p,a.c_Term,dx,_,rfl,upd_same,T.cl_Term,T.na_Term_first,(show 4 < 1000 by decide),?_⟩
  refine ⟨_,rfl,_,rfl,p,a.c_Term,dx,_,rfl,upd_same,T.cl_Term,T.na_Term_second,(show 5 < 1000 by decide),?_⟩
  exact k _ upd_same fun b hb => by simp only [upd_ne hb]
noncomputable def spT (C : Addr) (pre : List V -> Hp -> N -> Prop) : Sp := fun vs H Q _ => ∃ n,pre vs H n /\ ∀ (H' : Hp) (p : Addr),Same H H' -> TermAt C H' p n -> Q (.ref p) H'
noncomputable def spMakeFree (C : Addr) : Sp := spT C fun vs H n => ∃ t x,vs = [.ref t] /\ H t = some (.tup ((ky x).map kV)) /\ n = .free x
noncomputable def spMakeBound (C : Addr) : Sp := spT C fun vs H n => ∃ k : Nat,vs = [.int k] /\ n = .bound k
noncomputable def spMakeOuter (C : Addr) : Sp := spT C fun vs H n => ∃ k : Nat,vs = [.int k] /\ n = .outer k
noncomputable def spMakeApp (C : Addr) : Sp := spT C fun vs H n => ∃ p q x y,vs = [.ref p,.ref q] /\ TermAt C H p x /\ TermAt C H q y /\ n = .app x y
noncomputable def spMakeFn (C : Addr) : Sp := spT C fun vs H n => ∃ p x,vs = [.ref p] /\ TermAt C H p x /\ n = .fn x
theorem ok_make_free (T : Tx K mg a) : Gd P w K mg base CX0 3 a.f_make_free ["name"] (spMakeFree a.c_Term) := by
  refine T.fn_make_free.ok sc_make_free (fun vs H Q E h => ?_) (fun cdv A outer s H vs Q E hr h => ?_)
  · obtain ⟨n,⟨t,x,rfl,_⟩,_⟩ := h
    rfl
  · obtain ⟨n,⟨t,x,rfl,ht,rfl⟩,k⟩ := h
    refine ⟨_,pss_one (ps_ret (pe_makeG T.mk_Term (ok_Term_init T) hr (by decide) rfl T.mg_Term pass0 (pa_cons (pe_k T.k_FREE) (pa_cons pe_int (pa_cons pe_int (pa_cons (pv 0) (pa_cons pe_non (pa_cons pe_non pa_nil)))))))),?_⟩
    refine ⟨_,rfl,fun y dy ny ndy ned => ⟨y,dy,_,rfl,rfl,upd_same,fun H' h1 h2 => ⟨rfl,?_⟩⟩⟩
    have sm := same_made ny ndy h2
    exact k _ _ sm (.free ⟨dy,h1⟩ (sm _ _ ht))
theorem ok_make_bound (T : Tx K mg a) : Gd P w K mg base CX0 3 a.f_make_bound ["between"] (spMakeBound a.c_Term) := by
  refine T.fn_make_bound.ok sc_make_bound (fun vs H Q E h => ?_) (fun cdv A outer s H vs Q E hr h => ?_)
  · obtain ⟨n,⟨t,rfl,_⟩,_⟩ := h
    rfl
  · obtain ⟨n,⟨t,rfl,rfl⟩,k⟩ := h
    refine ⟨_,pss_one (ps_ret (pe_makeG T.mk_Term (ok_Term_init T) hr (by decide) rfl T.mg_Term pass0 (pa_cons (pe_k T.k_BOUND) (pa_cons pe_int (pa_cons (pe_op op_add (pv 0) pe_int) (pa_cons (pv 0) (pa_cons pe_non (pa_cons pe_non pa_nil)))))))),?_⟩
    refine ⟨_,rfl,_,_,rfl,rfl,_,rfl,fun y dy ny ndy ned => ⟨y,dy,_,rfl,rfl,upd_same,fun H' h1 h2 => ⟨rfl,?_⟩⟩⟩
    have sm := same_made ny ndy h2
    exact k _ _ sm (.bound ⟨dy,h1⟩)
theorem ok_make_outer (T : Tx K mg a) : Gd P w K mg base CX0 3 a.f_make_outer ["level"] (spMakeOuter a.c_Term) := by
  refine T.fn_make_outer.ok sc_make_outer (fun vs H Q E h => ?_) (fun cdv A outer s H vs Q E hr h => ?_)
  · obtain ⟨n,⟨t,rfl,_⟩,_⟩ := h
    rfl
  · obtain ⟨n,⟨t,rfl,rfl⟩,k⟩ := h
    refine ⟨_,pss_one (ps_ret (pe_makeG T.mk_Term (ok_Term_init T) hr (by decide) rfl T.mg_Term pass0 (pa_cons (pe_k T.k_OUTER) (pa_cons pe_int (pa_cons pe_int (pa_cons (pv 0) (pa_cons pe_non (pa_cons pe_non pa_nil)))))))),?_⟩
    refine ⟨_,rfl,fun y dy ny ndy ned => ⟨y,dy,_,rfl,rfl,upd_same,fun H' h1 h2 => ⟨rfl,?_⟩⟩⟩
    have sm := same_made ny ndy h2
    exact k _ _ sm (.outer ⟨dy,h1⟩)
theorem ok_make_application (T : Tx K mg a) : Gd P w K mg base CX0 3 a.f_make_application ["first","second"] (spMakeApp a.c_Term) := by
  refine T.fn_make_application.ok sc_make_application (fun vs H Q E h => ?_) (fun cdv A outer s H vs Q E hr h => ?_)
  · obtain ⟨n,⟨p,q,x,y,rfl,_⟩,_⟩ := h
    rfl
  · obtain ⟨n,⟨p,q,x,y,rfl,hx,hy,rfl⟩,k⟩ := h
    obtain ⟨l1,f1,g1,d1,o1⟩ := hx.obj
    obtain ⟨l2,f2,g2,d2,o2⟩ := hy.obj
    refine ⟨_,pss_cons (ps_set (i := 2) sc_make_application.nd rfl (Or.inl rfl) (pe_cut (pe_ifExp (pt_cmpR op_gt (pe_fld (pv 0) rfl) (pe_fld (pv 1) rfl) (nomark _)) (pe_fld (pv 0) rfl) (pe_fld (pv 1) rfl))))
      (pss_one (ps_ret (pe_makeG T.mk_Term (ok_Term_init T) hr (by decide) rfl T.mg_Term pass0 (pa_cons (pe_k T.k_APPLICATION) (pa_cons (pe_op op_add (pe_op op_add (pe_fld (pv 0) rfl) (pe_fld (pv 1) rfl)) pe_int) (pa_cons (pv 2) (pa_cons pe_non (pa_cons (pv 0) (pa_cons (pv 1) pa_nil))))))))),?_⟩
    refine ⟨fun v H' => v = .int ((N.app x y).reach : Nat) /\ H' = H,?_,?_⟩
    · refine ⟨_,rfl,p,_,d1,_,_,rfl,o1,T.cl_Term,T.na_Term_reach,rfl,_,rfl,q,_,d2,_,_,rfl,o2,T.cl_Term,T.na_Term_reach,rfl,_,_,rfl,rfl,_,rfl,?_⟩
      refine ite2 (fun c => ?_) (fun c => ?_)
      · refine ⟨_,rfl,p,_,d1,_,_,rfl,o1,T.cl_Term,T.na_Term_reach,rfl,?_,rfl⟩
        have c' : ((y.reach : Nat) : Int) < (x.reach : Nat) := of_decide_eq_true c
        simp only [N.reach]
        rw [if_pos (by omega)]
      · refine ⟨_,rfl,q,_,d2,_,_,rfl,o2,T.cl_Term,T.na_Term_reach,rfl,?_,rfl⟩
        have c' : ¬ ((y.reach : Nat) : Int) < (x.reach : Nat) := fun z => c (decide_eq_true z)
        simp only [N.reach]
        rw [if_neg (by omega)]
    · rintro v H1 ⟨rfl,rfl⟩
      refine ⟨_,rfl,p,_,d1,_,_,rfl,o1,T.cl_Term,T.na_Term_size,rfl,_,rfl,q,_,d2,_,_,rfl,o2,T.cl_Term,T.na_Term_size,rfl,_,_,rfl,rfl,_,_,rfl,rfl,_,rfl,_,rfl,_,rfl,fun u du nu ndu ned => ⟨u,du,_,rfl,rfl,upd_same,fun H' h1 h2 => ⟨rfl,?_⟩⟩⟩
      have sm := same_made nu ndu h2
      exact k _ _ sm (.app ⟨du,h1⟩ (hx.same sm) (hy.same sm))
theorem ok_make_function (T : Tx K mg a) : Gd P w K mg base CX0 3 a.f_make_function ["body"] (spMakeFn a.c_Term) := by
  refine T.fn_make_function.ok sc_make_function (fun vs H Q E h => ?_) (fun cdv A outer s H vs Q E hr h => ?_)
  · obtain ⟨n,⟨p,x,rfl,_⟩,_⟩ := h
    rfl
  · obtain ⟨n,⟨p,x,rfl,hx,rfl⟩,k⟩ := h
    obtain ⟨l1,f1,g1,d1,o1⟩ := hx.obj
    refine ⟨_,pss_cons (ps_set (i := 1) sc_make_function.nd rfl (Or.inl rfl) (pe_cut (pe_ifExp (pt_cmpR op_gt (pe_fld (pv 0) rfl) pe_int (nomark _)) (pe_op op_sub (pe_fld (pv 0) rfl) pe_int) pe_int)))
      (pss_one (ps_ret (pe_makeG T.mk_Term (ok_Term_init T) hr (by decide) rfl T.mg_Term pass0 (pa_cons (pe_k T.k_FUNCTION) (pa_cons (pe_op op_add (pe_fld (pv 0) rfl) pe_int) (pa_cons (pv 1) (pa_cons pe_non (pa_cons (pv 0) (pa_cons pe_non pa_nil))))))))),?_⟩
    refine ⟨fun v H' => v = .int ((N.fn x).reach : Nat) /\ H' = H,?_,?_⟩
    · refine ⟨_,rfl,p,_,d1,_,_,rfl,o1,T.cl_Term,T.na_Term_reach,rfl,_,_,rfl,rfl,_,rfl,?_⟩
      refine ite2 (fun c => ?_) (fun c => ?_)
      · have c' : (0 : Int) < (x.reach : Nat) := of_decide_eq_true c
        refine ⟨_,rfl,p,_,d1,_,_,rfl,o1,T.cl_Term,T.na_Term_reach,rfl,_,_,rfl,rfl,?_,rfl⟩
        simp only [N.reach]
        rw [if_pos (by omega)]
        congr 1
        omega
      · have c' : ¬ (0 : Int) < (x.reach : Nat) := fun z => c (decide_eq_true z)
        refine ⟨?_,rfl⟩
        simp only [N.reach]
        rw [if_neg (by omega)]
        rfl
    · rintro v H1 ⟨rfl,rfl⟩
      refine ⟨_,rfl,p,_,d1,_,_,rfl,o1,T.cl_Term,T.na_Term_size,rfl,_,_,rfl,rfl,_,rfl,_,rfl,fun u du nu ndu ned => ⟨u,du,_,rfl,rfl,upd_same,fun H' h1 h2 => ⟨rfl,?_⟩⟩⟩
      have sm := same_made nu ndu h2
      exact k _ _ sm (.fn ⟨du,h1⟩ (hx.same sm))
end
end Ft
end

section
namespace Ft
open PySem PySem.Spec PyProof.Rows L2
inductive Stk {α : Type} (R : V -> α -> Prop) : List V -> List α -> Prop where
  | nil : Stk R [] []
  | push {vs : List V} {l : List α} {v : V} {e : α} (h : Stk R vs l) (r : R v e) : Stk R (vs ++ [v]) (e :: l)
theorem Stk.pop {α : Type} {R : V -> α -> Prop} {vs : List V} {l : List α} {e : α} (h : Stk R vs (e :: l)) : ∃ us v,vs = us ++ [v] /\ Stk R us l /\ R v e := by
  cases h with
  | push h r => exact ⟨_,_,rfl,h,r⟩
theorem Stk.length {α : Type} {R : V -> α -> Prop} {vs : List V} {l : List α} (h : Stk R vs l) : vs.length = l.length := by
  induction h with
  | nil => rfl
  | push _ _ ih => rw [List.length_append,List.length_cons,List.length_nil,List.length_cons,ih]
theorem Stk.imp {α : Type} {R S : V -> α -> Prop} (f : ∀ v e,R v e -> S v e) {vs : List V} {l : List α} (h : Stk R vs l) : Stk S vs l := by
  induction h with
  | nil => exact .nil
  | push _ r ih => exact .push ih (f _ _ r)
theorem Stk.empty {α : Type} {R : V -> α -> Prop} {vs : List V} (h : Stk R vs ([] : List α)) : vs = [] := by
  cases h
  rfl
theorem pop_last {us : List V} {v : V} : (us ++ [v])[(us ++ [v]).length - 1]? = some v := by
  rw [List.length_append,List.length_cons,List.length_nil]
  simp
theorem pop_rest {us : List V} {v : V} : (us ++ [v]).dropLast = us := by simp
theorem ne_nil_snoc {us : List V} {v : V} : (!(us ++ [v]).isEmpty) = true := by
  cases us <;> rfl
end Ft
end

section
namespace Ft
open PySem PySem.Spec PyProof.Rows L2
noncomputable abbrev Ent := N × Nat × Bool
noncomputable def runP (s : N) : List Ent -> List N -> List N
  | [],B => B
  | (n,d,false) :: K,B => runP s K (N.putN s d n :: B)
  | (.fn _,_,true) :: K,m :: B => runP s K (.fn m :: B)
  | (.app _ _,_,true) :: K,m2 :: m1 :: B => runP s K (.app m1 m2 :: B)
  | _ :: K,B => runP s K B
noncomputable def wtP : List Ent -> Nat
  | [] => 0
  | (n,_,false) :: K => 2 * n.size + wtP K
  | (_,_,true) :: K => 1 + wtP K
noncomputable def okP : List Ent -> Nat -> Prop
  | [],b => b = 1
  | (_,_,false) :: K,b => okP K (b + 1)
  | (n,_,true) :: K,b => (n.isFun = true /\ 1 <= b /\ okP K b) \/ (n.isApp = true /\ 2 <= b /\ okP K (b - 1))
noncomputable def EntAt (C : Addr) (H : Hp) (v : V) (e : Ent) : Prop := ∃ t p,v = .ref t /\ H t = some (.tup [.ref p,.int (e.2.1 : Nat),.bl e.2.2]) /\ TermAt C H p e.1
noncomputable def BltAt (C : Addr) (H : Hp) (v : V) (n : N) : Prop := ∃ p,v = .ref p /\ TermAt C H p n
theorem EntAt.keep {C : Addr} {H H' : Hp} (k : Keep C H H') (v : V) (e : Ent) (h : EntAt C H v e) : EntAt C H' v e := by
  obtain ⟨t,p,e1,e2,e3⟩ := h
  exact ⟨t,p,e1,k _ _ e2 trivial,e3.keep k⟩
theorem BltAt.keep {C : Addr} {H H' : Hp} (k : Keep C H H') (v : V) (n : N) (h : BltAt C H v n) : BltAt C H' v n := by
  obtain ⟨p,e1,e3⟩ := h
  exact ⟨p,e1,e3.keep k⟩
section
variable {P : Program} {w : World} {K : PySem.W.Frag} {mg : Str -> Option Value} {base : Heap} {a : Ad}
noncomputable def spPutTog (C : Addr) : Sp := fun vs H Q _ => ∃ (p b : Addr) (n m : N) (L : List V),vs = [.ref p,.ref b] /\ TermAt C H p n /\
  ((n.isFun = true /\ ∃ q x,H b = some (.lst (L ++ [.ref q])) /\ TermAt C H q x /\ m = .fn x) \/
   (n.isApp = true /\ ∃ q1 q2 x y,H b = some (.lst ((L ++ [.ref q1]) ++ [.ref q2])) /\ TermAt C H q1 x /\ TermAt C H q2 y /\ m = .app x y)) /\
  ∀ (H' : Hp) (r : Addr),H' b = some (.lst L) -> (∀ c o,H c = some o -> c ≠ b -> H' c = some o) -> TermAt C H' r m -> Q (.ref r) H'
theorem ok_put_together (T : Tx K mg a) : Gd P w K mg base CX0 4 a.f_put_together ["term","built"] (spPutTog a.c_Term) := by
  refine T.fn_put_together.ok sc_put_together (fun vs H Q E h => ?_) (fun cdv A outer s H vs Q E hr h => ?_)
  · obtain ⟨p,b,n,m,L,rfl,_⟩ := h
    rfl
  · obtain ⟨p,b,n,m,L,rfl,hn,hw,k⟩ := h
    obtain ⟨l1,f1,g1,d1,o1⟩ := hn.obj
    refine ⟨_,pss_cons (ps_set (i := 2) sc_put_together.nd rfl (Or.inl rfl) (pe_bm0 PySem.F.plainAttrs_list PySem.F.slot_list_pop PySem.F.type_list_pop mt_pop (pv 1)))
      (pss_cons (ps_if (pt_cmpR op_eq (pe_fld (pv 0) rfl) (pe_k T.k_FUNCTION) (nomark _))
        (pss_one (ps_ret (pe_callG (ok_make_function T) hr (by decide) rfl T.mg_make_function T.kp_make_function pass0 (pa_cons (pv 2) pa_nil))))
        pss_nil)
      (pss_one (ps_ret (pe_callG (ok_make_application T) hr (by decide) rfl T.mg_make_application T.kp_make_application pass0 (pa_cons (pe_bm0 PySem.F.plainAttrs_list PySem.F.slot_list_pop PySem.F.type_list_pop mt_pop (pv 1)) (pa_cons (pv 2) pa_nil)))))),?_⟩
    rcases hw with ⟨hf,q,x,hb,hx,rfl⟩ | ⟨hf,q1,q2,x,y,hb,hx,hy,rfl⟩
    · have kp1 : Keep a.c_Term H (upd H b (.lst L)) := Keep.upd hb (fun z => z)
      refine ⟨_,rfl,.inl ⟨rfl,_,SqL.of hb⟩,b,_,_,rfl,rfl,hb,pop_last,?_⟩
      rw [pop_rest]
      obtain ⟨l2,f2,g2,d2,o2⟩ := (hn.keep kp1).obj
      refine ⟨_,rfl,p,_,d2,_,_,rfl,o2,T.cl_Term,T.na_Term_kind,rfl,rfl,_,rfl,?_⟩
      have kd : n.kind = 4 := by cases n <;> first | rfl | cases hf
      rw [kd]
      refine iteT ⟨_,rfl,_,⟨q,x,rfl,hx.keep kp1,rfl⟩,fun H' r sm ht => ?_⟩
      refine k H' r (sm _ _ upd_same) (fun c o e ne => sm _ _ (by rw [upd_ne ne]; exact e)) ht
    · have kp1 : Keep a.c_Term H (upd H b (.lst (L ++ [.ref q1]))) := Keep.upd hb (fun z => z)
      refine ⟨_,rfl,.inl ⟨rfl,_,SqL.of hb⟩,b,_,_,rfl,rfl,hb,pop_last,?_⟩
      rw [pop_rest]
      obtain ⟨l2,f2,g2,d2,o2⟩ := (hn.keep kp1).obj
      refine ⟨_,rfl,p,_,d2,_,_,rfl,o2,T.cl_Term,T.na_Term_kind,rfl,rfl,_,rfl,?_⟩
      have kd : n.kind = 3 := by cases n <;> first | rfl | cases hf
      rw [kd]
      refine iteF ?_
      have kp2 : Keep a.c_Term H (upd (upd H b (.lst (L ++ [.ref q1]))) b (.lst L)) := kp1.trans (Keep.upd upd_same (fun z => z))
      refine ⟨_,rfl,.inl ⟨rfl,_,SqL.of upd_same⟩,b,_,_,rfl,rfl,upd_same,pop_last,?_⟩
      rw [pop_rest]
      refine ⟨_,rfl,_,⟨q1,q2,x,y,rfl,hx.keep kp2,hy.keep kp2,rfl⟩,fun H' r sm ht => ?_⟩
      refine k H' r (sm _ _ upd_same) (fun c o e ne => sm _ _ (by rw [upd_ne ne,upd_ne ne]; exact e)) ht
noncomputable def spPutIn (C : Addr) : Sp := fun vs H Q _ => ∃ (p q : Addr) (n s : N),vs = [.ref p,.ref q] /\ TermAt C H p n /\ TermAt C H q s /\ n.size <= 1000000 /\
  ∀ (H' : Hp) (r : Addr),Same H H' -> TermAt C H' r (N.putN s 0 n) -> Q (.ref r) H'
structure PutW (C : Addr) (H : Hp) (p q t b : Addr) (n s : N) (m : Nat) (σ : L2.St) (H' : Hp) : Prop where
  si : ∃ v4 v5 v6,σ = [some (.ref p),some (.ref q),some (.ref t),some (.ref b),v4,v5,v6]
  st : ∃ xs l ys B,H' t = some (.lst xs) /\ Stk (EntAt C H') xs l /\ H' b = some (.lst ys) /\ Stk (BltAt C H') ys B /\ runP s l B = [N.putN s 0 n] /\ okP l B.length /\ wtP l + B.length <= 2 * n.size /\ m = wtP l
  sm : Same H H'
  hs : TermAt C H' q s
theorem len_wtP : ∀ l : List Ent,l.length <= wtP l
  | [] => Nat.le_refl _
  | (n,d,false) :: K => by
    have := len_wtP K
    have := n.size_pos
    simp only [List.length_cons,wtP]
    omega
  | (n,d,true) :: K => by
    have := len_wtP K
    simp only [List.length_cons,wtP]
    omega
theorem push_ent {C : Addr} {H : Hp} {t : Addr} {xs : List V} {l : List Ent} {e : Ent} {z : Addr} (ht : H t = some (.lst xs)) (hl : Stk (EntAt C H) xs l) {r : Addr} (hr : TermAt C H r e.1) (hz : H z = none) :
    Stk (EntAt C (upd (upd H z (.tup [.ref r,.int (e.2.1 : Nat),.bl e.2.2])) t (.lst (xs ++ [.ref z])))) (xs ++ [.ref z]) (e :: l) /\ Keep C H (upd (upd H z (.tup [.ref r,.int (e.2.1 : Nat),.bl e.2.2])) t (.lst (xs ++ [.ref z]))) := by
  have ne : z ≠ t := fun q => by rw [q,ht] at hz; cases hz
  have k1 : Keep C H (upd H z (.tup [.ref r,.int (e.2.1 : Nat),.bl e.2.2])) := Keep.new hz
  have k2 : Keep C H (upd (upd H z (.tup [.ref r,.int (e.2.1 : Nat),.bl e.2.2])) t (.lst (xs ++ [.ref z]))) := k1.trans (Keep.upd (o := .lst xs) (by rw [upd_ne (Ne.symm ne)]; exact ht) (fun q => q))
  exact ⟨.push (hl.imp fun v e h => h.keep k2 v e) ⟨z,r,rfl,by rw [upd_ne ne,upd_same],hr.keep k2⟩,k2⟩
theorem ok_put_in (T : Tx K mg a) : Gd P w K mg base CX0 5 a.f_put_in ["body","argument"] (spPutIn a.c_Term) := by
  refine T.fn_put_in.ok sc_put_in (fun vs H Q E h => ?_) (fun cdv A outer s H vs Q E hr h => ?_)
  · obtain ⟨p,q,n,s,rfl,_⟩ := h
    rfl
  · obtain ⟨p,q,n,s,rfl,hn,hs,hsz,k⟩ := h
    refine ⟨_,pss_cons (ps_set (i := 2) sc_put_in.nd rfl (Or.inl rfl) (pe_lst (pa_cons (pe_tup (pa_cons (pv 0) (pa_cons pe_int (pa_cons pe_bl pa_nil)))) pa_nil)))
      (pss_cons (ps_set (i := 3) sc_put_in.nd rfl (Or.inl rfl) (pe_lst pa_nil))
      (pss_cons (ps_while PassesOwn.never (pt_truth (pv 2) (fun _ => rfl))
        (pss_cons (ps_set (i := 4) sc_put_in.nd rfl (Or.inl rfl) (pe_bm0 PySem.F.plainAttrs_list PySem.F.slot_list_pop PySem.F.type_list_pop mt_pop (pv 2)))
        (pss_cons (ps_set (i := 5) sc_put_in.nd rfl (Or.inl rfl) (pe_ix ix_tup (pv 4) pe_int (fun _ _ => rfl)))
        (pss_cons (ps_set (i := 6) sc_put_in.nd rfl (Or.inl rfl) (pe_ix ix_tup (pv 4) pe_int (fun _ _ => rfl)))
        (pss_one (ps_if (pt_val (pe_ix ix_tup (pv 4) pe_int (fun _ _ => rfl)))
          (pss_one (ps_expr (pe_bm PySem.F.plainAttrs_list PySem.F.slot_list_append PySem.F.type_list_append mt_append (pv 3) (pa_cons (pe_callG (ok_put_together T) hr (by decide) rfl T.mg_put_together T.kp_put_together pass0 (pa_cons (pv 5) (pa_cons (pv 3) pa_nil))) pa_nil))))
          (pss_one (ps_if (pt_cmpR op_le (pe_fld (pv 5) rfl) (pv 6) (nomark _))
            (pss_one (ps_expr (pe_bm PySem.F.plainAttrs_list PySem.F.slot_list_append PySem.F.type_list_append mt_append (pv 3) (pa_cons (pv 5) pa_nil))))
            (pss_one (ps_if (pt_cmpR op_eq (pe_fld (pv 5) rfl) (pe_k T.k_BOUND) (nomark _))
              (pss_one (ps_expr (pe_bm PySem.F.plainAttrs_list PySem.F.slot_list_append PySem.F.type_list_append mt_append (pv 3) (pa_cons (pv 1) pa_nil))))
              (pss_one (ps_if (pt_cmpR op_eq (pe_fld (pv 5) rfl) (pe_k T.k_FUNCTION) (nomark _))
                (pss_cons (ps_expr (pe_bm PySem.F.plainAttrs_list PySem.F.slot_list_append PySem.F.type_list_append mt_append (pv 2) (pa_cons (pe_tup (pa_cons (pv 5) (pa_cons (pv 6) (pa_cons pe_bl pa_nil)))) pa_nil)))
                (pss_one (ps_expr (pe_bm PySem.F.plainAttrs_list PySem.F.slot_list_append PySem.F.type_list_append mt_append (pv 2) (pa_cons (pe_tup (pa_cons (pe_fld (pv 5) rfl) (pa_cons (pe_op op_add (pv 6) pe_int) (pa_cons pe_bl pa_nil)))) pa_nil)))))
                (pss_cons (ps_expr (pe_bm PySem.F.plainAttrs_list PySem.F.slot_list_append PySem.F.type_list_append mt_append (pv 2) (pa_cons (pe_tup (pa_cons (pv 5) (pa_cons (pv 6) (pa_cons pe_bl pa_nil)))) pa_nil)))
                (pss_cons (ps_expr (pe_bm PySem.F.plainAttrs_list PySem.F.slot_list_append PySem.F.type_list_append mt_append (pv 2) (pa_cons (pe_tup (pa_cons (pe_fld (pv 5) rfl) (pa_cons (pv 6) (pa_cons pe_bl pa_nil)))) pa_nil)))
                (pss_one (ps_expr (pe_bm PySem.F.plainAttrs_list PySem.F.slot_list_append PySem.F.type_list_append mt_append (pv 2) (pa_cons (pe_tup (pa_cons (pe_fld (pv 5) rfl) (pa_cons (pv 6) (pa_cons pe_bl pa_nil)))) pa_nil))))))))))))))))))
      (pss_one (ps_ret (pe_bm0 PySem.F.plainAttrs_list PySem.F.slot_list_pop PySem.F.type_list_pop mt_pop (pv 3)))))),?_⟩
    refine ⟨_,rfl,(show 3 <= sizeLine by decide),fun z hz => ⟨(show 1 <= sizeLine by decide),fun t ht => ?_⟩⟩
    refine ⟨Nat.zero_le _,fun b hb => ?_⟩
    have tz : H t = none := by
      have ne : t ≠ z := fun e => by rw [e,upd_same] at ht; cases ht
      rw [upd_ne ne] at ht
      exact ht
    have sm0 : Same H (upd (upd (upd H z (.tup [.ref p,.int 0,.bl false])) t (.lst [.ref z])) b (.lst [])) := ((same_new hz).trans (same_new ht)).trans (same_new hb)
    have zt : z ≠ t := fun e => by rw [<- e,upd_same] at ht; cases ht
    have tb : t ≠ b := fun e => by rw [<- e,upd_same] at hb; cases hb
    have zb : z ≠ b := fun e => by rw [<- e,upd_ne zt,upd_same] at hb; cases hb
    have nt : ∀ c o,H c = some o -> c ≠ t := fun c o e q2 => by rw [q2,tz] at e; cases e
    have nb : ∀ c o,H c = some o -> c ≠ b := fun c o e => ne_of_none ((same_new hz).trans (same_new ht) c o e) hb
    refine ⟨PutW a.c_Term H p q t b n s,⟨_,⟨⟨none,none,none,rfl⟩,⟨_,[(n,0,false)],_,[],by rw [upd_ne tb,upd_same]; rfl,.push (vs := []) .nil ⟨z,p,rfl,by rw [upd_ne zb,upd_ne zt,upd_same]; rfl,hn.same sm0⟩,upd_same,.nil,rfl,rfl,by simp [wtP],rfl⟩,sm0,hs.same sm0⟩⟩,?_⟩
    rintro m σ H' ⟨⟨v4,v5,v6,rfl⟩,⟨xs,l,ys,B,h1,h2,h3,h4,h5,h6,h7,rfl⟩,sm,hs'⟩
    have lx := h2.length
    have ly := h4.length
    refine ⟨_,rfl,_,.inl ⟨xs,SqL.of h1,rfl⟩,?_⟩
    cases l with
    | nil =>
      have := h2.empty
      subst this
      refine iteF ?_
      have e5 : B = [N.putN s 0 n] := h5
      subst e5
      obtain ⟨us,v,rfl,_,r,rfl,hr'⟩ := h4.pop
      refine ⟨_,rfl,.inl ⟨rfl,_,SqL.of h3⟩,b,_,_,rfl,rfl,h3,pop_last,?_⟩
      refine k _ _ (fun c o e => ?_) (hr'.keep (Keep.upd h3 (fun z => z)))
      rw [upd_ne (nb c o e)]
      exact sm c o e
    | cons e l =>
      obtain ⟨us,v,rfl,h2',t1,p1,rfl,ht1,hp1⟩ := h2.pop
      obtain ⟨n1,d1,k1⟩ := e
      rw [ne_nil_snoc]
      refine iteT ⟨_,fun _ _ z => z,?_⟩
      have kp : Keep a.c_Term H' (upd H' t (.lst us)) := Keep.upd h1 (fun z => z)
      have sm1 : Same H (upd H' t (.lst us)) := fun c o e => by rw [upd_ne (nt c o e)]; exact sm c o e
      have ht2 := kp _ _ ht1 trivial
      have hp2 := hp1.keep kp
      have hs2 := hs'.keep kp
      have hb2 : upd H' t (.lst us) b = some (.lst ys) := by rw [upd_ne (Ne.symm tb)]; exact h3
      have S2 : Stk (EntAt a.c_Term (upd H' t (.lst us))) us l := h2'.imp fun v e h => h.keep kp v e
      have B2 : Stk (BltAt a.c_Term (upd H' t (.lst us))) ys B := h4.imp fun v e h => h.keep kp v e
      generalize hH2 : upd H' t (.lst us) = H2 at kp sm1 ht2 hp2 hs2 hb2 S2 B2
      have htt : H2 t = some (.lst us) := by rw [<- hH2,upd_same]
      refine ⟨_,rfl,.inl ⟨rfl,_,SqL.of h1⟩,t,_,_,rfl,rfl,h1,pop_last,?_⟩
      rw [pop_rest,hH2]
      refine ⟨_,rfl,t1,_,_,_,rfl,rfl,SqT.of ht2,rfl,?_⟩
      refine ⟨_,rfl,t1,_,_,_,rfl,rfl,SqT.of ht2,rfl,?_⟩
      refine ⟨_,rfl,t1,_,_,_,rfl,rfl,SqT.of ht2,rfl,_,rfl,?_⟩
      have hlen : B.length < sizeLine := Nat.lt_of_le_of_lt (Nat.le_trans (Nat.le_trans (Nat.le_add_left _ _) h7) (Nat.mul_le_mul_left 2 hsz)) (by decide)
      have lay : ∀ {H3 : Hp} {ys3 : List V} {B3 : List N} {m3 : N} {r3 : Addr} {v4 v5 v6 : Option V},Keep a.c_Term H2 H3 -> Same H H3 -> H3 t = some (.lst us) -> H3 b = some (.lst ys3) -> Stk (BltAt a.c_Term H3) ys3 B3 -> TermAt a.c_Term H3 r3 m3 ->
          runP s l (m3 :: B3) = [N.putN s 0 n] -> okP l (B3.length + 1) -> wtP l + (B3.length + 1) <= 2 * n.size -> wtP l < wtP ((n1,d1,k1) :: l) -> 
          ∃ m',m' < wtP ((n1,d1,k1) :: l) /\ PutW a.c_Term H p q t b n s m' [some (.ref p),some (.ref q),some (.ref t),some (.ref b),v4,v5,v6] (upd H3 b (.lst (ys3 ++ [.ref r3]))) := by
        intro H3 ys3 B3 m3 r3 v4 v5 v6 kk s3 e1 e2 e3 e4 e5 e6 e7 e8
        have k3 : Keep a.c_Term H3 (upd H3 b (.lst (ys3 ++ [.ref r3]))) := Keep.upd e2 (fun z => z)
        refine ⟨_,e8,⟨_,_,_,rfl⟩,⟨us,l,_,m3 :: B3,by rw [upd_ne tb]; exact e1,(S2.imp fun v e h => (h.keep kk v e).keep k3 v e),upd_same,.push (e3.imp fun v e h => h.keep k3 v e) ⟨r3,rfl,e4.keep k3⟩,e5,e6,e7,rfl⟩,fun c o e => ?_,(hs2.keep kk).keep k3⟩
        rw [upd_ne (nb c o e)]
        exact s3 c o e
      cases k1 with
      | true =>
        refine iteT ?_
        have h6' : (n1.isFun = true /\ 1 <= B.length /\ okP l B.length) \/ (n1.isApp = true /\ 2 <= B.length /\ okP l (B.length - 1)) := h6
        have h7' : 1 + wtP l + B.length <= 2 * n.size := h7
        refine ⟨_,rfl,.inl ⟨rfl,_,SqL.of hb2⟩,_,rfl,_,rfl,?_⟩
        rcases h6' with ⟨hf,hB,ho⟩ | ⟨hf,hB,ho⟩
        · match B,B2,hB with
          | m1 :: B,B2,_ =>
            obtain ⟨vs,v,rfl,B3,q1,rfl,hq1⟩ := B2.pop
            refine ⟨p1,b,n1,.fn m1,vs,rfl,hp2,.inl ⟨hf,q1,m1,hb2,hq1,rfl⟩,fun H3 r3 g1 g2 g3 => ?_⟩
            have kk : Keep a.c_Term H2 H3 := fun c o e i => g2 c o e fun z => by rw [z,hb2] at e; cases e; exact i
            refine ⟨b,_,_,rfl,rfl,g1,?_,?_⟩
            · have := B3.length
              rw [this]
              simp only [List.length_cons] at hlen
              omega
            · refine lay kk (fun c o e => g2 c o (sm1 c o e) (nb c o e)) (g2 _ _ htt tb) g1 (B3.imp fun v e h => h.keep kk v e) g3 ?_ ho ?_ ?_
              · cases n1 <;> first | (cases hf; done) | exact h5
              · simp only [List.length_cons] at h7'
                omega
              · simp only [wtP]
                omega
        · match B,B2,hB with
          | m2 :: m1 :: B,B2,_ =>
            obtain ⟨vs,v,rfl,B3,q2,rfl,hq2⟩ := B2.pop
            obtain ⟨vs,v,rfl,B4,q1,rfl,hq1⟩ := B3.pop
            refine ⟨p1,b,n1,.app m1 m2,vs,rfl,hp2,.inr ⟨hf,q1,q2,m1,m2,hb2,hq1,hq2,rfl⟩,fun H3 r3 g1 g2 g3 => ?_⟩
            have kk : Keep a.c_Term H2 H3 := fun c o e i => g2 c o e fun z => by rw [z,hb2] at e; cases e; exact i
            refine ⟨b,_,_,rfl,rfl,g1,?_,?_⟩
            · have := B4.length
              rw [this]
              simp only [List.length_cons] at hlen
              omega
            · refine lay kk (fun c o e => g2 c o (sm1 c o e) (nb c o e)) (g2 _ _ htt tb) g1 (B4.imp fun v e h => h.keep kk v e) g3 ?_ ?_ ?_ ?_
              · cases n1 <;> first | (cases hf; done) | exact h5
              · simp only [List.length_cons] at ho
                exact ho
              · simp only [List.length_cons] at h7'
                omega
              · simp only [wtP]
                omega
      | false =>
        refine iteF ?_
        have h6' : okP l (B.length + 1) := h6
        have h7' : 2 * n1.size + wtP l + B.length <= 2 * n.size := h7
        have h5' : runP s l (N.putN s d1 n1 :: B) = [N.putN s 0 n] := h5
        have np := n1.size_pos
        obtain ⟨l2,f2,g2,dd2,o2⟩ := hp2.obj
        refine ⟨_,rfl,p1,_,dd2,_,_,rfl,o2,T.cl_Term,T.na_Term_reach,rfl,_,rfl,_,_,rfl,rfl,_,rfl,?_⟩
        refine ite2 (fun c => ?_) (fun c => ?_)
        · -- it does not reach so far
          have c' : ((n1.reach : Nat) : Int) <= (d1 : Nat) := of_decide_eq_true c
          refine ⟨_,rfl,.inl ⟨rfl,_,SqL.of hb2⟩,_,rfl,b,_,_,rfl,rfl,hb2,by rw [ly]; exact hlen,?_⟩
          refine lay (Keep.refl _ _) sm1 htt hb2 B2 hp2 ?_ h6' (by omega) (by simp only [wtP]; omega)
          rw [N.putN_small (by omega)] at h5'
          exact h5'
        · have c' : ¬ ((n1.reach : Nat) : Int) <= (d1 : Nat) := fun z => c (decide_eq_true z)
          refine ⟨_,rfl,p1,_,dd2,_,_,rfl,o2,T.cl_Term,T.na_Term_kind,rfl,rfl,_,rfl,?_⟩
          cases hp2 with
          | free h _ => exact absurd (Int.ofNat_nonneg _) c'
          | outer h => exact absurd (Int.ofNat_nonneg _) c'
          | @bound _ kk0 h =>
            refine iteT ?_
            refine ⟨_,rfl,.inl ⟨rfl,_,SqL.of hb2⟩,_,rfl,b,_,_,rfl,rfl,hb2,by rw [ly]; exact hlen,?_⟩
            refine lay (Keep.refl _ _) sm1 htt hb2 B2 hs2 ?_ h6' (by simp only [N.size] at h7'; omega) (by simp only [wtP]; omega)
            have e : N.putN s d1 (.bound kk0) = s := by
              simp only [N.reach] at c'
              unfold N.putN
              exact if_neg (by omega)
            rw [e] at h5'
            exact h5'
          | @fn _ pa xa h ha =>
            refine iteF ?_
            obtain ⟨dd3,o3⟩ := h
            refine ⟨_,rfl,p1,_,dd3,_,_,rfl,o3,T.cl_Term,T.na_Term_kind,rfl,rfl,_,rfl,iteT ?_⟩
            have hl1 : us.length < sizeLine := by
              have e1 := S2.length
              have e2 := len_wtP l
              rw [e1]
              exact Nat.lt_of_le_of_lt (Nat.le_trans (show l.length <= 2 * n.size by omega) (Nat.mul_le_mul_left 2 hsz)) (by decide)
            refine ⟨_,rfl,.inl ⟨rfl,_,SqL.of htt⟩,_,rfl,_,rfl,(show 3 <= sizeLine by decide),fun z1 hz1 => ?_⟩
            have zt1 : t ≠ z1 := fun q2 => by rw [q2,hz1] at htt; cases htt
            refine ⟨t,_,_,rfl,rfl,by rw [upd_ne zt1]; exact htt,hl1,?_⟩
            obtain ⟨S4,k4⟩ := push_ent (e := (.fn xa,d1,true)) htt S2 (TermAt.fn ⟨dd3,o3⟩ ha) hz1
            have sm4 : Same H (upd (upd H2 z1 (.tup [.ref p1,.int (d1 : Nat),.bl true])) t (.lst (us ++ [.ref z1]))) := fun c o e => by rw [upd_ne (nt c o e)]; exact same_new hz1 c o (sm1 c o e)
            have hb4 : upd (upd H2 z1 (.tup [.ref p1,.int (d1 : Nat),.bl true])) t (.lst (us ++ [.ref z1])) b = some (.lst ys) := by rw [upd_ne (Ne.symm tb)]; exact same_new hz1 _ _ hb2
            refine ⟨_,rfl,.inl ⟨rfl,_,SqL.of upd_same⟩,_,rfl,p1,_,dd3,_,_,rfl,k4 _ _ o3 rfl,T.cl_Term,T.na_Term_first,rfl,_,rfl,_,_,rfl,rfl,(show 3 <= sizeLine by decide),fun z2 hz2 => ?_⟩
            have zt2 : t ≠ z2 := fun q2 => by rw [<- q2,upd_same] at hz2; cases hz2
            refine ⟨t,_,_,rfl,rfl,by rw [upd_ne zt2]; exact upd_same,?_,?_⟩
            · rw [List.length_append,List.length_cons,List.length_nil]
              have e1 := S2.length
              have e2 := len_wtP l
              rw [e1]
              exact Nat.lt_of_le_of_lt (Nat.le_trans (show l.length + 1 <= 2 * n.size + 1 by omega) (Nat.add_le_add_right (Nat.mul_le_mul_left 2 hsz) 1)) (by decide)
            obtain ⟨S5,k5⟩ := push_ent (e := (xa,d1 + 1,false)) upd_same S4 (ha.keep k4) hz2
            have h7s : 2 * (xa.size + 1) + wtP l + B.length <= 2 * n.size := h7'
            refine ⟨wtP ((xa,d1 + 1,false) :: (.fn xa,d1,true) :: l),by simp only [wtP,N.size]; omega,⟨_,_,_,rfl⟩,⟨_,(xa,d1 + 1,false) :: (.fn xa,d1,true) :: l,ys,B,upd_same,S5,?_,B2.imp fun v e h => (h.keep k4 v e).keep k5 v e,?_,?_,?_,rfl⟩,?_,(hs2.keep k4).keep k5⟩
            · rw [upd_ne (Ne.symm tb)]
              exact same_new hz2 _ _ hb4
            · rw [N.putN_fn] at h5'
              exact h5'
            · exact .inl ⟨rfl,Nat.le_add_left _ _,h6'⟩
            · simp only [wtP]
              omega
            · exact fun c o e => by rw [upd_ne (nt c o e)]; exact same_new hz2 c o (sm4 c o e)
          | @app _ pa pb xa xb h ha hb' =>
            refine iteF ?_
            obtain ⟨dd3,o3⟩ := h
            refine ⟨_,rfl,p1,_,dd3,_,_,rfl,o3,T.cl_Term,T.na_Term_kind,rfl,rfl,_,rfl,iteF ?_⟩
            have e1 := S2.length
            have e2 := len_wtP l
            have h7s : 2 * (xa.size + xb.size + 1) + wtP l + B.length <= 2 * n.size := h7'
            have big : ∀ j,j <= 2 * n.size + 2 -> j < sizeLine := fun j hj => Nat.lt_of_le_of_lt (Nat.le_trans hj (Nat.add_le_add_right (Nat.mul_le_mul_left 2 hsz) 2)) (by decide)
            refine ⟨_,rfl,.inl ⟨rfl,_,SqL.of htt⟩,_,rfl,_,rfl,(show 3 <= sizeLine by decide),fun z1 hz1 => ?_⟩
            have zt1 : t ≠ z1 := fun q2 => by rw [q2,hz1] at htt; cases htt
            refine ⟨t,_,_,rfl,rfl,by rw [upd_ne zt1]; exact htt,big _ (by omega),?_⟩
            obtain ⟨S4,k4⟩ := push_ent (e := (.app xa xb,d1,true)) htt S2 (TermAt.app ⟨dd3,o3⟩ ha hb') hz1
            have sm4 : Same H (upd (upd H2 z1 (.tup [.ref p1,.int (d1 : Nat),.bl true])) t (.lst (us ++ [.ref z1]))) := fun c o e => by rw [upd_ne (nt c o e)]; exact same_new hz1 c o (sm1 c o e)
            have hb4 : upd (upd H2 z1 (.tup [.ref p1,.int (d1 : Nat),.bl true])) t (.lst (us ++ [.ref z1])) b = some (.lst ys) := by rw [upd_ne (Ne.symm tb)]; exact same_new hz1 _ _ hb2
            refine ⟨_,rfl,.inl ⟨rfl,_,SqL.of upd_same⟩,_,rfl,p1,_,dd3,_,_,rfl,k4 _ _ o3 rfl,T.cl_Term,T.na_Term_second,rfl,_,rfl,(show 3 <= sizeLine by decide),fun z2 hz2 => ?_⟩
            have zt2 : t ≠ z2 := fun q2 => by rw [<- q2,upd_same] at hz2; cases hz2
            refine ⟨t,_,_,rfl,rfl,by rw [upd_ne zt2]; exact upd_same,big _ (by rw [List.length_append,List.length_cons,List.length_nil]; omega),?_⟩
            obtain ⟨S5,k5⟩ := push_ent (e := (xb,d1,false)) upd_same S4 (hb'.keep k4) hz2
            generalize hH5 : upd (upd (upd (upd H2 z1 (.tup [.ref p1,.int (d1 : Nat),.bl true])) t (.lst (us ++ [.ref z1]))) z2 (.tup [.ref pb,.int ((xb,d1,false) : Ent).2.1,.bl ((xb,d1,false) : Ent).2.2])) t (.lst (us ++ [.ref z1] ++ [.ref z2])) = H5 at S5 k5
            have hH5' : upd (upd (upd (upd H2 z1 (.tup [.ref p1,.int (d1 : Nat),.bl true])) t (.lst (us ++ [.ref z1]))) z2 (.tup [.ref pb,.int (d1 : Nat),.bl false])) t (.lst (us ++ [.ref z1] ++ [.ref z2])) = H5 := hH5
            have t5 : H5 t = some (.lst (us ++ [.ref z1] ++ [.ref z2])) := by rw [<- hH5,upd_same]
            have sm5 : Same H H5 := fun c o e => by rw [<- hH5,upd_ne (nt c o e)]; exact same_new hz2 c o (sm4 c o e)
            have hb5 : H5 b = some (.lst ys) := by rw [<- hH5,upd_ne (Ne.symm tb)]; exact same_new hz2 _ _ hb4
            refine ⟨_,rfl,.inl ⟨rfl,_,SqL.of t5⟩,_,rfl,p1,_,dd3,_,_,rfl,k5 _ _ (k4 _ _ o3 rfl) rfl,T.cl_Term,T.na_Term_first,rfl,_,rfl,(show 3 <= sizeLine by decide),fun z3 hz3 => ?_⟩
            have zt3 : t ≠ z3 := fun q2 => by rw [<- q2,t5] at hz3; cases hz3
            refine ⟨t,_,_,rfl,rfl,by rw [upd_ne zt3]; exact t5,big _ (by simp only [List.length_append,List.length_cons,List.length_nil]; omega),?_⟩
            obtain ⟨S6,k6⟩ := push_ent (e := (xa,d1,false)) t5 S5 ((ha.keep k4).keep k5) hz3
            refine ⟨wtP ((xa,d1,false) :: (xb,d1,false) :: (.app xa xb,d1,true) :: l),by simp only [wtP,N.size]; omega,⟨_,_,_,rfl⟩,⟨_,(xa,d1,false) :: (xb,d1,false) :: (.app xa xb,d1,true) :: l,ys,B,upd_same,S6,?_,B2.imp fun v e h => ((h.keep k4 v e).keep k5 v e).keep k6 v e,?_,?_,?_,rfl⟩,?_,((hs2.keep k4).keep k5).keep k6⟩
            · rw [upd_ne (Ne.symm tb)]
              exact same_new hz3 _ _ hb5
            · rw [N.putN_app] at h5'
              exact h5'
            · exact .inr ⟨rfl,Nat.le_add_left _ _,h6'⟩
            · simp only [wtP]
              omega
            · exact fun c o e => by rw [upd_ne (nt c o e)]; exact same_new hz3 c o (sm5 c o e)
end
end Ft
end

section
namespace Ft
open PySem PySem.Spec PyProof.Rows L2
theorem cls_ne {K : PySem.W.Frag} {C C' f f' : Addr} {x x' q q' : Str} {st st' : Stmt} {ps ps' : List Str} (M : Mk K C f) (M' : Mk K C' f') (F : FnD K x q st ps f) (F' : FnD K x' q' st' ps' f') (h : q ≠ q') : C ≠ C' := by
  intro e
  subst e
  have e1 := M.init.symm.trans M'.init
  have e2 : f = f' := by
    have := Option.some.inj (Option.some.inj e1)
    exact Value.ref.inj this
  subst e2
  obtain ⟨fd,⟨⟨oc,od,kV,doc,pm,an,cdv,ct,osl,e3,e4,_⟩,_⟩,_⟩ := F
  obtain ⟨fd',⟨⟨oc',od',kV',doc',pm',an',cdv',ct',osl',e3',e4',_⟩,_⟩,_⟩ := F'
  have e5 := Option.some.inj (e4.symm.trans e4')
  have e6 : Data.func fd = Data.func fd' := congrArg Obj.data e5
  have e7 : fd = fd' := Data.func.inj e6
  rw [e3,e3'] at e7
  exact h (congrArg FuncData.qualname e7)
noncomputable def wkf (pl ar : V) (d sz st : Int) (fin : Bool) : List (Str × V) := [("place",pl),("around",ar),("level",.int d),("size",.int sz),("steps",.int st),("finished",.bl fin)]
noncomputable def FrAt (C : Addr) (H : Hp) (v : V) : Frm -> Prop
  | .ap n => ∃ t q,v = .ref t /\ H t = some (.tup [.int 0,.ref q]) /\ TermAt C H q n
  | .ar n => ∃ t q,v = .ref t /\ H t = some (.tup [.int 1,.ref q]) /\ TermAt C H q n
  | .inf => ∃ t,v = .ref t /\ H t = some (.tup [.int 2,.non])
theorem FrAt.keep {C : Addr} {H H' : Hp} (k : Keep C H H') (v : V) : ∀ e : Frm,FrAt C H v e -> FrAt C H' v e
  | .ap n,⟨t,q,h1,h2,h3⟩ => ⟨t,q,h1,k _ _ h2 trivial,h3.keep k⟩
  | .ar n,⟨t,q,h1,h2,h3⟩ => ⟨t,q,h1,k _ _ h2 trivial,h3.keep k⟩
  | .inf,⟨t,h1,h2⟩ => ⟨t,h1,k _ _ h2 trivial⟩
structure WkAt (a : Ad) (H : Hp) (wk dx ar : Addr) (p : N) (Kf : List Frm) (d : Nat) (sz st : Int) (fin : Bool) : Prop where
  obj : ∃ pl,H wk = some (.ins a.c_Work dx (wkf (.ref pl) (.ref ar) d sz st fin)) /\ TermAt a.c_Term H pl p
  lst : ∃ xs,H ar = some (.lst xs) /\ Stk (FrAt a.c_Term H) xs Kf
noncomputable def FrW (H H' : Hp) (wk ar : Addr) : Prop := ∀ b o,H b = some o -> b ≠ wk -> b ≠ ar -> H' b = some o
theorem FrW.refl (H : Hp) (wk ar : Addr) : FrW H H wk ar := fun _ _ e _ _ => e
theorem FrW.trans {H H1 H2 : Hp} {wk ar : Addr} (x : FrW H H1 wk ar) (y : FrW H1 H2 wk ar) : FrW H H2 wk ar := fun b o e n1 n2 => y b o (x b o e n1 n2) n1 n2
theorem FrW.same {H H1 H2 : Hp} {wk ar : Addr} (x : FrW H H1 wk ar) (y : Same H1 H2) : FrW H H2 wk ar := fun b o e n1 n2 => y b o (x b o e n1 n2)
theorem FrW.wk {H H1 : Hp} {wk ar : Addr} {o : HO} (x : FrW H H1 wk ar) : FrW H (upd H1 wk o) wk ar := fun b u e n1 n2 => by rw [upd_ne n1]; exact x b u e n1 n2
theorem FrW.ar {H H1 : Hp} {wk ar : Addr} {o : HO} (x : FrW H H1 wk ar) : FrW H (upd H1 ar o) wk ar := fun b u e n1 n2 => by rw [upd_ne n2]; exact x b u e n1 n2
section
variable {P : Program} {w : World} {K : PySem.W.Frag} {mg : Str -> Option Value} {base : Heap} {a : Ad}
theorem ne_Work (T : Tx K mg a) : a.c_Work ≠ a.c_Term := cls_ne T.mk_Work T.mk_Term T.fn_Work_init T.fn_Term_init (by decide +kernel)
theorem keep_wk (T : Tx K mg a) {H : Hp} {wk dx : Addr} {fs : List (Str × V)} {o : HO} (h : H wk = some (.ins a.c_Work dx fs)) : Keep a.c_Term H (upd H wk o) := Keep.upd h fun z => ne_Work T z
theorem WkAt.set (T : Tx K mg a) {H : Hp} {wk dx ar pl : Addr} {p : N} {Kf : List Frm} {d d' : Nat} {sz st sz' st' : Int} {fin fin' : Bool} {p' : N} {pl' : Addr} (W : WkAt a H wk dx ar p Kf d sz st fin) (h : TermAt a.c_Term H pl' p') :
    WkAt a (upd H wk (.ins a.c_Work dx (wkf (.ref pl') (.ref ar) d' sz' st' fin'))) wk dx ar p' Kf d' sz' st' fin' := by
  obtain ⟨⟨pl0,h1,h2⟩,⟨xs,h3,h4⟩⟩ := W
  have k := keep_wk T (o := .ins a.c_Work dx (wkf (.ref pl') (.ref ar) d' sz' st' fin')) h1
  exact ⟨⟨pl',upd_same,h.keep k⟩,⟨xs,by rw [upd_ne (ne_of h3 h1 (fun z => nomatch z))]; exact h3,h4.imp fun v e q => q.keep k v e⟩⟩
theorem WkAt.ne {H : Hp} {wk dx ar : Addr} {p : N} {Kf : List Frm} {d : Nat} {sz st : Int} {fin : Bool} (W : WkAt a H wk dx ar p Kf d sz st fin) : wk ≠ ar := by
  obtain ⟨⟨pl0,h1,h2⟩,⟨xs,h3,h4⟩⟩ := W
  exact ne_of h1 h3 (fun z => nomatch z)
theorem WkAt.push {H : Hp} {wk dx ar : Addr} {p : N} {Kf : List Frm} {d : Nat} {sz st : Int} {fin : Bool} (W : WkAt a H wk dx ar p Kf d sz st fin) {xs : List V} (hx : H ar = some (.lst xs)) {z : Addr} {ys : List V} (hz : H z = none) {f : Frm}
    (hf : ∀ H' : Hp,Keep a.c_Term H H' -> H' z = some (.tup ys) -> FrAt a.c_Term H' (.ref z) f) :
    WkAt a (upd (upd H z (.tup ys)) ar (.lst (xs ++ [.ref z]))) wk dx ar p (f :: Kf) d sz st fin /\ FrW H (upd (upd H z (.tup ys)) ar (.lst (xs ++ [.ref z]))) wk ar /\ Keep a.c_Term H (upd (upd H z (.tup ys)) ar (.lst (xs ++ [.ref z]))) := by
  have hne := W.ne
  obtain ⟨⟨pl0,h1,h2⟩,⟨xs',h3,h4⟩⟩ := W
  rw [hx] at h3
  cases h3
  have na : ar ≠ z := ne_of_none hx hz
  have k1 : Keep a.c_Term H (upd H z (.tup ys)) := Keep.new hz
  have k2 : Keep a.c_Term H (upd (upd H z (.tup ys)) ar (.lst (xs ++ [.ref z]))) := k1.trans (Keep.upd (o := .lst xs) (by rw [upd_ne na]; exact hx) (fun q => q))
  refine ⟨⟨⟨pl0,?_,h2.keep k2⟩,⟨_,upd_same,.push (h4.imp fun v e q => q.keep k2 v e) (hf _ k2 (by rw [upd_ne (Ne.symm na),upd_same]))⟩⟩,fun b o e n1 n2 => ?_,k2⟩
  · rw [upd_ne hne]
    exact same_new hz _ _ h1
  · rw [upd_ne n2]
    exact same_new hz _ _ e
noncomputable def spDown (a : Ad) : Sp := fun vs H Q _ => ∃ (wk dx ar : Addr) (p : N) (Kf : List Frm) (d : Nat) (sz st : Int) (fin : Bool),vs = [.ref wk] /\ WkAt a H wk dx ar p Kf d sz st fin /\ Kf.length + p.size <= 1000000 /\
  ∀ H' : Hp,WkAt a H' wk dx ar (down p Kf).1 (down p Kf).2 d sz st fin -> FrW H H' wk ar -> Q .non H'
theorem ok_Work_go_to_first_part (T : Tx K mg a) : Gd P w K mg base CX0 1 a.f_Work_go_to_first_part ["self"] (spDown a) := by
  refine T.fn_Work_go_to_first_part.ok sc_Work_go_to_first_part (fun vs H Q E h => ?_) (fun cdv A outer s H vs Q E hr h => ?_)
  · obtain ⟨wk,dx,ar,p,Kf,d,sz,st,fin,rfl,_⟩ := h
    rfl
  · obtain ⟨wk,dx,ar,p,Kf,d,sz,st,fin,rfl,W,hb,k⟩ := h
    refine ⟨_,pss_one (ps_while PassesOwn.never (pt_cmpR op_eq (pe_fld (pe_fld (pv 0) rfl) rfl) (pe_k T.k_APPLICATION) (nomark _))
      (pss_cons (ps_expr (pe_bm PySem.F.plainAttrs_list PySem.F.slot_list_append PySem.F.type_list_append mt_append (pe_fld (pv 0) rfl) (pa_cons (pe_tup (pa_cons (pe_k T.k_APPLIED_TO) (pa_cons (pe_fld (pe_fld (pv 0) rfl) rfl) pa_nil))) pa_nil)))
      (pss_one (ps_fld (pv 0) (pe_fld (pe_fld (pv 0) rfl) rfl) rfl)))),?_⟩
    refine ⟨fun m σ H' => σ = [some (.ref wk)] /\ FrW H H' wk ar /\ ∃ p' Kf',WkAt a H' wk dx ar p' Kf' d sz st fin /\ down p' Kf' = down p Kf /\ Kf'.length + p'.size <= 1000000 /\ m = p'.size,
      ⟨_,rfl,FrW.refl _ _ _,p,Kf,W,rfl,hb,rfl⟩,?_⟩
    rintro m σ H' ⟨rfl,fr,p',Kf',W',e1,hb',rfl⟩
    obtain ⟨⟨pl,h1,h2⟩,⟨xs,h3,h4⟩⟩ := id W'
    obtain ⟨l1,f1,g1,d1,o1⟩ := h2.obj
    refine ⟨_,rfl,wk,_,dx,_,_,rfl,h1,T.cl_Work,T.na_Work_place,rfl,pl,_,d1,_,_,rfl,o1,T.cl_Term,T.na_Term_kind,rfl,rfl,_,rfl,?_⟩
    cases h2 with
    | free h _ => exact iteF (k H' (by rw [<- e1]; exact W') fr)
    | bound h => exact iteF (k H' (by rw [<- e1]; exact W') fr)
    | outer h => exact iteF (k H' (by rw [<- e1]; exact W') fr)
    | fn h _ => exact iteF (k H' (by rw [<- e1]; exact W') fr)
    | @app _ pa pb xa xb h ha hb2 =>
      refine iteT ⟨_,fun _ _ z => z,?_⟩
      obtain ⟨d2,o2⟩ := h
      have lx := h4.length
      refine ⟨_,rfl,wk,_,dx,_,_,rfl,h1,T.cl_Work,T.na_Work_around,rfl,.inl ⟨rfl,_,SqL.of h3⟩,_,rfl,wk,_,dx,_,_,rfl,h1,T.cl_Work,T.na_Work_place,rfl,pl,_,d2,_,_,rfl,o2,T.cl_Term,T.na_Term_second,rfl,(show 2 <= sizeLine by decide),fun z hz => ?_⟩
      have na : ar ≠ z := ne_of_none h3 hz
      refine ⟨ar,_,_,rfl,rfl,by rw [upd_ne na]; exact h3,?_,?_⟩
      · rw [lx]
        exact Nat.lt_of_le_of_lt (Nat.le_trans (Nat.le_add_right _ _) hb') (by decide)
      · obtain ⟨W2,fr2,k2⟩ := W'.push (f := .ap xb) h3 (ys := [.int 0,.ref pb]) hz (fun H3 kk e => ⟨z,pb,rfl,e,hb2.keep kk⟩)
        obtain ⟨⟨pl2,g1,g2⟩,_⟩ := id W2
        have ep : pl2 = pl := by
          have := fr2.trans (FrW.refl _ _ _)
          have e3 : upd (upd H' z (.tup [.int 0,.ref pb])) ar (.lst (xs ++ [.ref z])) wk = some (.ins a.c_Work dx (wkf (.ref pl) (.ref ar) d sz st fin)) := by
            rw [upd_ne W'.ne]
            exact same_new hz _ _ h1
          rw [g1] at e3
          have e4 := Option.some.inj e3
          injection e4 with _ _ e5
          injection e5 with e6 _
          injection e6 with _ e7
          injection e7
        subst ep
        refine ⟨_,rfl,wk,_,dx,_,_,rfl,g1,T.cl_Work,T.na_Work_place,rfl,pl2,_,d2,_,_,rfl,k2 _ _ o2 rfl,T.cl_Term,T.na_Term_first,rfl,_,rfl,wk,_,dx,_,rfl,g1,T.cl_Work,T.na_Work_place,(show 6 < 1000 by decide),?_⟩
        refine ⟨xa.size,by simp only [N.size]; omega,rfl,(fr.trans fr2).wk,xa,.ap xb :: Kf',W2.set T (pl := pl2) (ha.keep k2),?_,?_,rfl⟩
        · rw [<- e1]
          rfl
        · simp only [N.size] at hb'
          simp only [List.length_cons]
          omega
noncomputable def spEnter (a : Ad) : Sp := fun vs H Q _ => ∃ (wk dx ar : Addr) (b : N) (Kf : List Frm) (d : Nat) (sz st : Int) (fin : Bool),vs = [.ref wk] /\ WkAt a H wk dx ar (.fn b) Kf d sz st fin /\ Kf.length + b.size <= 900000 /\
  ∀ H' : Hp,WkAt a H' wk dx ar (N.putN (.outer d) 0 b) (.inf :: Kf) (d + 1) sz st fin -> FrW H H' wk ar -> Q .non H'
theorem WkAt.keep_same {H H' : Hp} {wk dx ar : Addr} {p : N} {Kf : List Frm} {d : Nat} {sz st : Int} {fin : Bool} (W : WkAt a H wk dx ar p Kf d sz st fin) (sm : Same H H') : WkAt a H' wk dx ar p Kf d sz st fin := by
  obtain ⟨⟨pl,h1,h2⟩,⟨xs,h3,h4⟩⟩ := W
  exact ⟨⟨pl,sm _ _ h1,h2.same sm⟩,⟨xs,sm _ _ h3,h4.imp fun v e q => q.keep (.of sm) v e⟩⟩
theorem ok_Work_enter_function (T : Tx K mg a) : Gd P w K mg base CX0 6 a.f_Work_enter_function ["self"] (spEnter a) := by
  refine T.fn_Work_enter_function.ok sc_Work_enter_function (fun vs H Q E h => ?_) (fun cdv A outer s H vs Q E hr h => ?_)
  · obtain ⟨wk,dx,ar,p,Kf,d,sz,st,fin,rfl,_⟩ := h
    rfl
  · obtain ⟨wk,dx,ar,b,Kf,d,sz,st,fin,rfl,W,hb,k⟩ := h
    refine ⟨_,pss_cons (ps_fld (pv 0) (pe_callG (ok_put_in T) hr (by decide) rfl T.mg_put_in T.kp_put_in pass0 (pa_cons (pe_fld (pe_fld (pv 0) rfl) rfl) (pa_cons (pe_callG (ok_make_outer T) hr (by decide) rfl T.mg_make_outer T.kp_make_outer pass0 (pa_cons (pe_fld (pv 0) rfl) pa_nil)) pa_nil))) rfl)
      (pss_cons (ps_expr (pe_bm PySem.F.plainAttrs_list PySem.F.slot_list_append PySem.F.type_list_append mt_append (pe_fld (pv 0) rfl) (pa_cons (pe_tup (pa_cons (pe_k T.k_IN_FUNCTION) (pa_cons pe_non pa_nil))) pa_nil)))
      (pss_one (ps_fldaug (pv 0) pe_int in_add))),?_⟩
    obtain ⟨⟨pl,h1,h2⟩,⟨xs,h3,h4⟩⟩ := id W
    cases h2 with
    | @fn _ pa _ h ha =>
      obtain ⟨d2,o2⟩ := h
      refine ⟨_,rfl,wk,_,dx,_,_,rfl,h1,T.cl_Work,T.na_Work_place,rfl,pl,_,d2,_,_,rfl,o2,T.cl_Term,T.na_Term_first,rfl,_,rfl,wk,_,dx,_,_,rfl,h1,T.cl_Work,T.na_Work_level,rfl,_,⟨d,rfl,rfl⟩,fun H1 r1 sm1 t1 => ?_⟩
      refine ⟨pa,r1,b,.outer d,rfl,ha.same sm1,t1,by omega,fun H2 r2 sm2 t2 => ?_⟩
      have sm : Same H H2 := sm1.trans sm2
      have W2 := W.keep_same sm
      refine ⟨_,rfl,wk,_,dx,_,rfl,sm _ _ h1,T.cl_Work,T.na_Work_place,(show 6 < 1000 by decide),?_⟩
      have W3 := W2.set T (pl := pl) (d' := d) (sz' := sz) (st' := st) (fin' := fin) t2
      have fr3 : FrW H (upd H2 wk (.ins a.c_Work dx (wkf (.ref r2) (.ref ar) d sz st fin))) wk ar := ((FrW.refl H wk ar).same sm).wk
      have h3' : upd H2 wk (.ins a.c_Work dx (wkf (.ref r2) (.ref ar) d sz st fin)) ar = some (.lst xs) := by rw [upd_ne (Ne.symm W.ne)]; exact sm _ _ h3
      have lx := h4.length
      refine ⟨_,rfl,wk,_,dx,_,_,rfl,upd_same,T.cl_Work,T.na_Work_around,rfl,.inl ⟨rfl,_,SqL.of h3'⟩,(show 2 <= sizeLine by decide),fun z hz => ?_⟩
      obtain ⟨W4,fr4,k4⟩ := W3.push (f := .inf) h3' (ys := [.int 2,.non]) hz (fun H3 kk e => ⟨z,rfl,e⟩)
      have na : ar ≠ z := ne_of_none h3' hz
      have hw4 : upd (upd (upd H2 wk (.ins a.c_Work dx (wkf (.ref r2) (.ref ar) d sz st fin))) z (.tup [.int 2,.non])) ar (.lst (xs ++ [.ref z])) wk = some (.ins a.c_Work dx (wkf (.ref r2) (.ref ar) d sz st fin)) := by
        rw [upd_ne W.ne]
        exact same_new hz _ _ upd_same
      refine ⟨ar,_,_,rfl,rfl,same_new hz _ _ h3',?_,?_⟩
      · rw [lx]
        exact Nat.lt_of_le_of_lt (Nat.le_trans (Nat.le_add_right _ _) hb) (by decide)
      · refine ⟨_,rfl,wk,_,dx,_,_,rfl,hw4,T.cl_Work,T.na_Work_level,rfl,_,_,rfl,rfl,dx,_,hw4,(show 6 < 1000 by decide),?_⟩
        have t4 : TermAt a.c_Term _ r2 (N.putN (.outer d) 0 b) := (t2.keep (keep_wk T (o := .ins a.c_Work dx (wkf (.ref r2) (.ref ar) d sz st fin)) (sm _ _ h1))).keep k4
        exact k _ (W4.set T (pl := r2) (d' := d + 1) (sz' := sz) (st' := st) (fin' := fin) t4) (fr3.trans fr4).wk
noncomputable def lvl : List Frm -> Nat
  | [] => 0
  | .inf :: Kf => lvl Kf + 1
  | _ :: Kf => lvl Kf
theorem NK.lvl : ∀ {Kf : List Frm} {d : Nat},NK Kf d -> d = lvl Kf
  | [],d,h => h
  | .ap _ :: Kf,d,h => NK.lvl (Kf := Kf) h.2.2
  | .ar _ :: Kf,d,h => NK.lvl (Kf := Kf) h.2.2.2
  | .inf :: Kf,d,h => by
    have := NK.lvl (Kf := Kf) h.2.2
    have h1 : 0 < d := h.1
    show d = Ft.lvl Kf + 1
    omega
noncomputable def spOn (a : Ad) : Sp := fun vs H Q _ => ∃ (wk dx ar : Addr) (p : N) (Kf : List Frm) (d : Nat) (sz st : Int),vs = [.ref wk] /\ WkAt a H wk dx ar p Kf d sz st false /\ d = lvl Kf /\ Kf.length <= 900000 /\
  ∀ H' : Hp,(match on p Kf d with
    | .inl (p',K',d') => WkAt a H' wk dx ar p' K' d' sz st false
    | .inr p' => WkAt a H' wk dx ar p' [] 0 sz st true) -> FrW H H' wk ar -> Q .non H'
theorem WkAt.popped {H : Hp} {wk dx ar : Addr} {p : N} {Kf : List Frm} {d : Nat} {sz st : Int} {fin : Bool} {f : Frm} (W : WkAt a H wk dx ar p (f :: Kf) d sz st fin) :
    ∃ us v,H ar = some (.lst (us ++ [v])) /\ FrAt a.c_Term H v f /\ WkAt a (upd H ar (.lst us)) wk dx ar p Kf d sz st fin /\ Keep a.c_Term H (upd H ar (.lst us)) := by
  have ne := W.ne
  obtain ⟨⟨pl,h1,h2⟩,⟨xs,h3,h4⟩⟩ := W
  obtain ⟨us,v,rfl,h5,h6⟩ := h4.pop
  have k : Keep a.c_Term H (upd H ar (.lst us)) := Keep.upd h3 (fun z => z)
  exact ⟨us,v,h3,h6,⟨⟨pl,by rw [upd_ne ne]; exact h1,h2.keep k⟩,⟨us,upd_same,h5.imp fun v e q => q.keep k v e⟩⟩,k⟩
theorem ok_Work_go_on (T : Tx K mg a) : Gd P w K mg base CX0 4 a.f_Work_go_on ["self"] (spOn a) := by
  refine T.fn_Work_go_on.ok sc_Work_go_on (fun vs H Q E h => ?_) (fun cdv A outer s H vs Q E hr h => ?_)
  · obtain ⟨wk,dx,ar,p,Kf,d,sz,st,rfl,_⟩ := h
    rfl
  · obtain ⟨wk,dx,ar,p,Kf,d,sz,st,rfl,W,hd,hb,k⟩ := h
    refine ⟨_,pss_cons (ps_while PassesOwn.never (pt_truth (pe_fld (pv 0) rfl) (fun _ => rfl))
        (pss_cons (ps_set (i := 1) sc_Work_go_on.nd rfl (Or.inl rfl) (pe_bm0 PySem.F.plainAttrs_list PySem.F.slot_list_pop PySem.F.type_list_pop mt_pop (pe_fld (pv 0) rfl)))
        (pss_cons (ps_if (pt_cmpR op_eq (pe_ix ix_tup (pv 1) pe_int (fun _ _ => rfl)) (pe_k T.k_APPLIED_TO) (nomark _))
          (pss_cons (ps_expr (pe_bm PySem.F.plainAttrs_list PySem.F.slot_list_append PySem.F.type_list_append mt_append (pe_fld (pv 0) rfl) (pa_cons (pe_tup (pa_cons (pe_k T.k_ARGUMENT_OF) (pa_cons (pe_fld (pv 0) rfl) pa_nil))) pa_nil)))
          (pss_cons (ps_fld (pv 0) (pe_ix ix_tup (pv 1) pe_int (fun _ _ => rfl)) rfl)
          (pss_one ps_retN)))
          pss_nil)
        (pss_one (ps_if (pt_cmpR op_eq (pe_ix ix_tup (pv 1) pe_int (fun _ _ => rfl)) (pe_k T.k_ARGUMENT_OF) (nomark _))
          (pss_one (ps_fld (pv 0) (pe_callG (ok_make_application T) hr (by decide) rfl T.mg_make_application T.kp_make_application pass0 (pa_cons (pe_ix ix_tup (pv 1) pe_int (fun _ _ => rfl)) (pa_cons (pe_fld (pv 0) rfl) pa_nil))) rfl))
          (pss_cons (ps_fld (pv 0) (pe_callG (ok_make_function T) hr (by decide) rfl T.mg_make_function T.kp_make_function pass0 (pa_cons (pe_fld (pv 0) rfl) pa_nil)) rfl)
          (pss_one (ps_fldaug (pv 0) pe_int in_sub))))))))
      (pss_one (ps_fld (pv 0) pe_bl rfl)),?_⟩
    refine ⟨fun m σ H' => (∃ v1,σ = [some (.ref wk),v1]) /\ FrW H H' wk ar /\ ∃ p' Kf' d',WkAt a H' wk dx ar p' Kf' d' sz st false /\ on p' Kf' d' = on p Kf d /\ d' = lvl Kf' /\ Kf'.length <= 900000 /\ m = Kf'.length,
      ⟨_,⟨_,rfl⟩,FrW.refl _ _ _,p,Kf,d,W,rfl,hd,hb,rfl⟩,?_⟩
    rintro m σ H' ⟨⟨v1,rfl⟩,fr,p',Kf',d',W',e1,hd',hb',rfl⟩
    obtain ⟨⟨pl,h1,h2⟩,⟨xs,h3,h4⟩⟩ := id W'
    refine ⟨_,rfl,wk,_,dx,_,_,rfl,h1,T.cl_Work,T.na_Work_around,rfl,_,.inl ⟨xs,SqL.of h3,rfl⟩,?_⟩
    cases Kf' with
    | nil =>
      have := h4.empty
      subst this
      refine iteF ⟨_,rfl,wk,_,dx,_,rfl,h1,T.cl_Work,T.na_Work_finished,(show 6 < 1000 by decide),?_⟩
      have e2 : on p Kf d = .inr p' := by rw [<- e1]; rfl
      have hd2 : d' = 0 := hd'
      subst hd2
      refine k _ ?_ fr.wk
      rw [e2]
      exact W'.set T (pl := pl) (d' := 0) (sz' := sz) (st' := st) (fin' := true) h2
    | cons f Kf' =>
      obtain ⟨us,v,g1,g2,W2,k2⟩ := W'.popped
      have ex : xs = us ++ [v] := by rw [h3] at g1; cases g1; rfl
      subst ex
      rw [ne_nil_snoc]
      refine iteT ⟨_,fun _ _ z => z,?_⟩
      refine ⟨_,rfl,wk,_,dx,_,_,rfl,h1,T.cl_Work,T.na_Work_around,rfl,.inl ⟨rfl,_,SqL.of h3⟩,ar,_,_,rfl,rfl,h3,pop_last,?_⟩
      rw [pop_rest]
      have hw2 : upd H' ar (.lst us) wk = some (.ins a.c_Work dx (wkf (.ref pl) (.ref ar) d' sz st false)) := by rw [upd_ne W'.ne]; exact h1
      have ha2 : upd H' ar (.lst us) ar = some (.lst us) := upd_same
      have fr2 : FrW H (upd H' ar (.lst us)) wk ar := fr.ar
      have t2 := h2.keep k2
      have lus : us.length < sizeLine := by
        have := h4.length
        rw [List.length_append,List.length_cons,List.length_nil,List.length_cons] at this
        simp only [List.length_cons] at hb'
        exact Nat.lt_of_le_of_lt (show us.length <= 900000 by omega) (by decide)
      have g3 := g2.keep k2
      generalize upd H' ar (.lst us) = H2 at W2 k2 hw2 ha2 fr2 t2 g3
      cases f with
      | ap n =>
        obtain ⟨t,q,rfl,ht,hq⟩ := g3
        refine ⟨_,rfl,t,_,_,_,rfl,rfl,SqT.of ht,rfl,rfl,_,rfl,iteT ?_⟩
        refine ⟨_,rfl,wk,_,dx,_,_,rfl,hw2,T.cl_Work,T.na_Work_around,rfl,.inl ⟨rfl,_,SqL.of ha2⟩,_,rfl,wk,_,dx,_,_,rfl,hw2,T.cl_Work,T.na_Work_place,rfl,(show 2 <= sizeLine by decide),fun z hz => ?_⟩
        obtain ⟨W4,fr4,k4⟩ := W2.push (f := .ar p') ha2 (ys := [.int 1,.ref pl]) hz (fun H3 kk e => ⟨z,pl,rfl,e,t2.keep kk⟩)
        have hw4 : upd (upd H2 z (.tup [.int 1,.ref pl])) ar (.lst (us ++ [.ref z])) wk = some (.ins a.c_Work dx (wkf (.ref pl) (.ref ar) d' sz st false)) := by
          rw [upd_ne W'.ne]
          exact same_new hz _ _ hw2
        refine ⟨ar,_,_,rfl,rfl,same_new hz _ _ ha2,lus,?_⟩
        refine ⟨_,rfl,t,_,_,_,rfl,rfl,SqT.of (k4 _ _ ht trivial),rfl,_,rfl,wk,_,dx,_,rfl,hw4,T.cl_Work,T.na_Work_place,(show 6 < 1000 by decide),?_⟩
        have e2 : on p Kf d = .inl (n,.ar p' :: Kf',d') := by rw [<- e1]; rfl
        refine k _ ?_ (fr2.trans fr4).wk
        rw [e2]
        exact W4.set T (pl := pl) (d' := d') (sz' := sz) (st' := st) (fin' := false) (hq.keep k4)
      | ar n =>
        obtain ⟨t,q,rfl,ht,hq⟩ := g3
        refine ⟨_,rfl,t,_,_,_,rfl,rfl,SqT.of ht,rfl,rfl,_,rfl,iteF ?_⟩
        refine ⟨_,rfl,t,_,_,_,rfl,rfl,SqT.of ht,rfl,rfl,_,rfl,iteT ?_⟩
        refine ⟨_,rfl,t,_,_,_,rfl,rfl,SqT.of ht,rfl,_,rfl,wk,_,dx,_,_,rfl,hw2,T.cl_Work,T.na_Work_place,rfl,_,⟨q,pl,n,p',rfl,hq,t2,rfl⟩,fun H3 r3 sm3 t3 => ?_⟩
        refine ⟨_,rfl,wk,_,dx,_,rfl,sm3 _ _ hw2,T.cl_Work,T.na_Work_place,(show 6 < 1000 by decide),?_⟩
        refine ⟨Kf'.length,by simp only [List.length_cons]; omega,⟨_,rfl⟩,(fr2.same sm3).wk,.app n p',Kf',d',(W2.keep_same sm3).set T (pl := pl) (d' := d') (sz' := sz) (st' := st) (fin' := false) t3,?_,hd',?_,rfl⟩
        · rw [<- e1]
          rfl
        · simp only [List.length_cons] at hb'
          omega
      | inf =>
        obtain ⟨t,rfl,ht⟩ := g3
        refine ⟨_,rfl,t,_,_,_,rfl,rfl,SqT.of ht,rfl,rfl,_,rfl,iteF ?_⟩
        refine ⟨_,rfl,t,_,_,_,rfl,rfl,SqT.of ht,rfl,rfl,_,rfl,iteF ?_⟩
        refine ⟨_,rfl,wk,_,dx,_,_,rfl,hw2,T.cl_Work,T.na_Work_place,rfl,_,⟨pl,p',rfl,t2,rfl⟩,fun H3 r3 sm3 t3 => ?_⟩
        refine ⟨_,rfl,wk,_,dx,_,rfl,sm3 _ _ hw2,T.cl_Work,T.na_Work_place,(show 6 < 1000 by decide),?_⟩
        have W3 := (W2.keep_same sm3).set T (pl := pl) (d' := d') (sz' := sz) (st' := st) (fin' := false) t3
        refine ⟨_,rfl,wk,_,dx,_,_,rfl,upd_same,T.cl_Work,T.na_Work_level,rfl,_,_,rfl,rfl,dx,_,upd_same,(show 6 < 1000 by decide),?_⟩
        have hd2 : d' = lvl Kf' + 1 := hd'
        have ei : ((d' : Nat) : Int) - 1 = ((d' - 1 : Nat) : Int) := by omega
        have W4 := W3.set T (pl := r3) (d' := d' - 1) (sz' := sz) (st' := st) (fin' := false) (t3.keep (keep_wk T (o := .ins a.c_Work dx (wkf (.ref r3) (.ref ar) d' sz st false)) (sm3 _ _ hw2)))
        rw [<- ei] at W4
        refine ⟨Kf'.length,by simp only [List.length_cons]; omega,⟨_,rfl⟩,(fr2.same sm3).wk.wk,.fn p',Kf',d' - 1,?_,?_,by omega,?_,rfl⟩
        · exact W4
        · rw [<- e1]
          rfl
        · simp only [List.length_cons] at hb'
          omega
end
end Ft
end

section
namespace Ft
open PySem PySem.Spec PyProof.Rows L2
theorem plug_len : ∀ {Kf : List Frm} {d : Nat} {t : Sy10.T},Kf.length + t.size <= (plug Kf d t).size
  | [],_,_ => by simp [plug]
  | .ap x :: Kf,d,t => by
    have := plug_len (Kf := Kf) (d := d) (t := .app t (x.cl d 0))
    simp only [Sy10.T.size] at this
    simp only [plug,List.length_cons]
    omega
  | .ar x :: Kf,d,t => by
    have := plug_len (Kf := Kf) (d := d) (t := .app (x.en d) t)
    simp only [Sy10.T.size] at this
    simp only [plug,List.length_cons]
    omega
  | .inf :: Kf,d,t => by
    have := plug_len (Kf := Kf) (d := d - 1) (t := .fn t)
    simp only [Sy10.T.size] at this
    simp only [plug,List.length_cons]
    omega
theorem At.len {p : N} {Kf : List Frm} {d : Nat} {t : Sy10.T} (x : At p Kf d t) : Kf.length + p.size <= t.size := by
  have := plug_len (Kf := Kf) (d := d) (t := p.cl d 0)
  rw [x.whole,N.size_cl] at this
  exact this
section
variable {P : Program} {w : World} {K : PySem.W.Frag} {mg : Str -> Option Value} {base : Heap} {a : Ad}
noncomputable def spStep (a : Ad) : Sp := fun vs H Q _ => ∃ (wk dx ar : Addr) (b x : N) (Kf : List Frm) (d : Nat) (sz st : Int) (fin : Bool),vs = [.ref wk] /\ WkAt a H wk dx ar (.fn b) (.ap x :: Kf) d sz st fin /\ b.size <= 900000 /\
  ∀ H' : Hp,WkAt a H' wk dx ar (N.putN x 0 b) Kf d (sz + ((N.putN x 0 b).size - ((N.fn b).size + x.size + 1))) (st + 1) fin -> FrW H H' wk ar -> Q .non H'
theorem ok_Work_make_step (T : Tx K mg a) : Gd P w K mg base CX0 6 a.f_Work_make_step ["self"] (spStep a) := by
  refine T.fn_Work_make_step.ok sc_Work_make_step (fun vs H Q E h => ?_) (fun cdv A outer s H vs Q E hr h => ?_)
  · obtain ⟨wk,dx,ar,b,x,Kf,d,sz,st,fin,rfl,_⟩ := h
    rfl
  · obtain ⟨wk,dx,ar,b,x,Kf,d,sz,st,fin,rfl,W,hb,k⟩ := h
    refine ⟨_,pss_cons (ps_set (i := 1) sc_Work_make_step.nd rfl (Or.inl rfl) (pe_ix ix_tup (pe_bm0 PySem.F.plainAttrs_list PySem.F.slot_list_pop PySem.F.type_list_pop mt_pop (pe_fld (pv 0) rfl)) pe_int (fun _ _ => rfl)))
      (pss_cons (ps_set (i := 2) sc_Work_make_step.nd rfl (Or.inl rfl) (pe_op op_add (pe_op op_add (pe_fld (pe_fld (pv 0) rfl) rfl) (pe_fld (pv 1) rfl)) pe_int))
      (pss_cons (ps_fld (pv 0) (pe_callG (ok_put_in T) hr (by decide) rfl T.mg_put_in T.kp_put_in pass0 (pa_cons (pe_fld (pe_fld (pv 0) rfl) rfl) (pa_cons (pv 1) pa_nil))) rfl)
      (pss_cons (ps_fldaug (pv 0) (pe_op op_sub (pe_fld (pe_fld (pv 0) rfl) rfl) (pv 2)) in_add)
      (pss_one (ps_fldaug (pv 0) pe_int in_add))))),?_⟩
    obtain ⟨⟨pl,h1,h2⟩,⟨xs,h3,h4⟩⟩ := id W
    obtain ⟨us,v,g1,g2,W2,k2⟩ := W.popped
    have ex : xs = us ++ [v] := by rw [h3] at g1; cases g1; rfl
    subst ex
    have g3 := FrAt.keep k2 v _ g2
    have hw2 : upd H ar (.lst us) wk = some (.ins a.c_Work dx (wkf (.ref pl) (.ref ar) d sz st fin)) := by rw [upd_ne W.ne]; exact h1
    have fr2 : FrW H (upd H ar (.lst us)) wk ar := (FrW.refl H wk ar).ar
    have t2 := h2.keep k2
    obtain ⟨t,q,rfl,ht,hq⟩ := g3
    refine ⟨_,rfl,wk,_,dx,_,_,rfl,h1,T.cl_Work,T.na_Work_around,rfl,.inl ⟨rfl,_,SqL.of h3⟩,ar,_,_,rfl,rfl,h3,pop_last,?_⟩
    rw [pop_rest]
    generalize upd H ar (.lst us) = H2 at W2 k2 hw2 fr2 t2 ht hq
    refine ⟨t,_,_,_,rfl,rfl,SqT.of ht,rfl,?_⟩
    obtain ⟨l5,f5,g5,d5,o5⟩ := hq.obj
    cases t2 with
    | @fn _ pa _ h ha =>
      obtain ⟨d2,o2⟩ := h
      refine ⟨_,rfl,wk,_,dx,_,_,rfl,hw2,T.cl_Work,T.na_Work_place,rfl,pl,_,d2,_,_,rfl,o2,T.cl_Term,T.na_Term_size,rfl,_,rfl,q,_,d5,_,_,rfl,o5,T.cl_Term,T.na_Term_size,rfl,_,_,rfl,rfl,_,_,rfl,rfl,?_⟩
      refine ⟨_,rfl,wk,_,dx,_,_,rfl,hw2,T.cl_Work,T.na_Work_place,rfl,pl,_,d2,_,_,rfl,o2,T.cl_Term,T.na_Term_first,rfl,_,rfl,pa,q,b,x,rfl,ha,hq,by omega,fun H3 r3 sm3 t3 => ?_⟩
      have W3 := (W2.keep_same sm3).set T (pl := pl) (d' := d) (sz' := sz) (st' := st) (fin' := fin) t3
      have t4 := t3.keep (keep_wk T (o := .ins a.c_Work dx (wkf (.ref r3) (.ref ar) d sz st fin)) (sm3 _ _ hw2))
      have fr3 : FrW H (upd H3 wk (.ins a.c_Work dx (wkf (.ref r3) (.ref ar) d sz st fin))) wk ar := (fr2.same sm3).wk
      have hw4 : upd H3 wk (.ins a.c_Work dx (wkf (.ref r3) (.ref ar) d sz st fin)) wk = some (.ins a.c_Work dx (wkf (.ref r3) (.ref ar) d sz st fin)) := upd_same
      refine ⟨_,rfl,wk,_,dx,_,rfl,sm3 _ _ hw2,T.cl_Work,T.na_Work_place,(show 6 < 1000 by decide),?_⟩
      generalize hH4 : upd H3 wk (.ins a.c_Work dx (wkf (.ref r3) (.ref ar) d sz st fin)) = H4 at W3 t4 fr3 hw4
      have hH4' : upd H3 wk (.ins a.c_Work dx (putF "place" (.ref r3) (wkf (.ref pl) (.ref ar) d sz st fin))) = H4 := hH4
      rw [hH4']
      obtain ⟨l6,f6,g6,d6,o6⟩ := t4.obj
      refine ⟨_,rfl,wk,_,dx,_,_,rfl,hw4,T.cl_Work,T.na_Work_size,rfl,_,rfl,wk,_,dx,_,_,rfl,hw4,T.cl_Work,T.na_Work_place,rfl,r3,_,d6,_,_,rfl,o6,T.cl_Term,T.na_Term_size,rfl,_,rfl,_,_,rfl,rfl,_,_,rfl,rfl,dx,_,hw4,(show 6 < 1000 by decide),?_⟩
      have W5 := W3.set T (pl := r3) (d' := d) (sz' := sz + ((N.putN x 0 b).size - ((N.fn b).size + x.size + 1))) (st' := st) (fin' := fin) t4
      have t5 := t4.keep (keep_wk T (o := .ins a.c_Work dx (wkf (.ref r3) (.ref ar) d (sz + ((N.putN x 0 b).size - ((N.fn b).size + x.size + 1))) st fin)) hw4)
      refine ⟨_,rfl,wk,_,dx,_,_,rfl,upd_same,T.cl_Work,T.na_Work_steps,rfl,_,_,rfl,rfl,dx,_,upd_same,(show 6 < 1000 by decide),?_⟩
      exact k _ (W5.set T (pl := r3) (d' := d) (st' := st + 1) (fin' := fin) t5) fr3.wk.wk
noncomputable def spFind (a : Ad) : Sp := fun vs H Q _ => ∃ (wk dx ar : Addr) (p : N) (Kf : List Frm) (d : Nat) (sz st : Int) (t : Sy10.T),vs = [.ref wk] /\ WkAt a H wk dx ar p Kf d sz st false /\ At p Kf d t /\ t.size <= 800000 /\
  (∀ (H' : Hp) (b x : N) (K' : List Frm) (d' : Nat),WkAt a H' wk dx ar (.fn b) (.ap x :: K') d' sz st false -> At (.fn b) (.ap x :: K') d' t -> FrW H H' wk ar -> Q (.bl true) H') /\
  (∀ (H' : Hp) (p' : N),WkAt a H' wk dx ar p' [] 0 sz st true -> p'.ent 0 -> p'.en 0 = t -> t.step = none -> FrW H H' wk ar -> Q (.bl false) H')
theorem ok_Work_find_step (T : Tx K mg a) : Gd P w K mg base CX0 7 a.f_Work_find_step ["self"] (spFind a) := by
  refine T.fn_Work_find_step.ok sc_Work_find_step (fun vs H Q E h => ?_) (fun cdv A outer s H vs Q E hr h => ?_)
  · obtain ⟨wk,dx,ar,p,Kf,d,sz,st,t,rfl,_⟩ := h
    rfl
  · obtain ⟨wk,dx,ar,p,Kf,d,sz,st,t,rfl,W,hA,hb,kT,kF⟩ := h
    refine ⟨_,pss_cons (ps_while PassesOwn.never (pt_not (pt_val (pe_fld (pv 0) rfl)))
        (pss_cons (ps_expr (pe_meth0G (pv 0) T.cl_Work T.me_Work_go_to_first_part (ok_Work_go_to_first_part T) hr (by decide) pass0))
        (pss_one (ps_if (pt_cmpR op_ne (pe_fld (pe_fld (pv 0) rfl) rfl) (pe_k T.k_FUNCTION) (nomark _))
          (pss_one (ps_expr (pe_meth0G (pv 0) T.cl_Work T.me_Work_go_on (ok_Work_go_on T) hr (by decide) pass0)))
          (pss_one (ps_if (PW.pt (pw_and (pt_truth (pe_fld (pv 0) rfl) (fun _ => rfl)) (pw_and1 (pt_cmpR op_eq (pe_ix ix_tup (pe_ix ix_list (pe_fld (pv 0) rfl) (pe_un un_neg pe_int) (fun _ _ => rfl)) pe_int (fun _ _ => rfl)) (pe_k T.k_APPLIED_TO) (nomark _)))))
            (pss_one (ps_ret pe_bl))
            (pss_one (ps_expr (pe_meth0G (pv 0) T.cl_Work T.me_Work_enter_function (ok_Work_enter_function T) hr (by decide) pass0)))))))))
      (pss_one (ps_ret pe_bl)),?_⟩
    refine ⟨fun m σ H' => σ = [some (.ref wk)] /\ FrW H H' wk ar /\ ((∃ p' K' d',WkAt a H' wk dx ar p' K' d' sz st false /\ At p' K' d' t /\ m = p'.size + todo K' + 1) \/
      (∃ p',WkAt a H' wk dx ar p' [] 0 sz st true /\ p'.ent 0 /\ p'.en 0 = t /\ t.step = none /\ m = 0)),⟨_,rfl,FrW.refl _ _ _,.inl ⟨p,Kf,d,W,hA,rfl⟩⟩,?_⟩
    rintro m σ H' ⟨rfl,fr,⟨p',K',d',W',hA',rfl⟩ | ⟨p',W',e1,e2,e3,rfl⟩⟩
    · obtain ⟨⟨pl,h1,h2⟩,_⟩ := id W'
      refine ⟨_,rfl,wk,_,dx,_,_,rfl,h1,T.cl_Work,T.na_Work_finished,rfl,_,rfl,iteT ⟨_,fun _ _ z => z,?_⟩⟩
      have hl := hA'.len
      refine ⟨_,rfl,wk,dx,_,rfl,h1,rfl,?_⟩
      refine ⟨wk,dx,ar,p',K',d',sz,st,false,rfl,W',by omega,fun H2 W2 fr2 => ?_⟩
      have hA2 := hA'.down
      have hn2 := down_noApp p' K'
      have ht2 := down_todo p' K'
      generalize down p' K' = pk at W2 hA2 hn2 ht2
      obtain ⟨p2,K2⟩ := pk
      dsimp only at W2 hA2 hn2 ht2
      have hl2 := hA2.len
      obtain ⟨⟨pl2,g1,g2⟩,⟨xs,g3,g4⟩⟩ := id W2
      obtain ⟨l5,f5,g5,d5,o5⟩ := g2.obj
      refine ⟨_,rfl,wk,_,dx,_,_,rfl,g1,T.cl_Work,T.na_Work_place,rfl,pl2,_,d5,_,_,rfl,o5,T.cl_Term,T.na_Term_kind,rfl,rfl,_,rfl,?_⟩
      by_cases hf : p2.isFun = true
      · -- a function
        match p2,hf,W2,hA2,ht2,g2,o5,hl2 with
        | .fn b,_,W2,hA2,ht2,g2,o5,hl2 =>
          refine iteF ?_
          simp only [N.size] at hl2 ht2
          refine ⟨_,rfl,wk,_,dx,_,_,rfl,g1,T.cl_Work,T.na_Work_around,rfl,_,.inl ⟨xs,SqL.of g3,rfl⟩,?_⟩
          have enter : noAp K2 -> ∀ (D : Ends),(∀ H3,(∃ m',m' < p'.size + todo K' + 1 /\ ([some (V.ref wk)] : L2.St) = [some (.ref wk)] /\ FrW H H3 wk ar /\ ((∃ p' K' d',WkAt a H3 wk dx ar p' K' d' sz st false /\ At p' K' d' t /\ m' = p'.size + todo K' + 1) \/
              (∃ p',WkAt a H3 wk dx ar p' [] 0 sz st true /\ p'.ent 0 /\ p'.en 0 = t /\ t.step = none /\ m' = 0))) -> D.nx [some (.ref wk)] H3) ->
              tDrop (tMeth a.c_Work "enter_function" (spEnter a) [] E0 (tVar 0) tNil) D [some (.ref wk)] H2 := by
            intro hna D hD
            refine ⟨_,rfl,wk,dx,_,rfl,g1,rfl,?_⟩
            refine ⟨wk,dx,ar,b,K2,d',sz,st,false,rfl,W2,by omega,fun H3 W3 fr3 => hD H3 ?_⟩
            refine ⟨(N.putN (.outer d') 0 b).size + todo (.inf :: K2) + 1,?_,rfl,(fr.trans fr2).trans fr3,.inl ⟨_,_,_,W3,hA2.enter hna,rfl⟩⟩
            rw [N.enter_size]
            simp only [todo]
            omega
          cases K2 with
          | nil =>
            have := g4.empty
            subst this
            exact iteF (iteF (enter trivial _ fun H3 h => h))
          | cons f K2 =>
            obtain ⟨us,v,rfl,g6,g7⟩ := g4.pop
            rw [ne_nil_snoc]
            refine iteT ?_
            cases f with
            | ap x =>
              obtain ⟨tt,q,rfl,ht,hq⟩ := g7
              refine ⟨_,rfl,wk,_,dx,_,_,rfl,g1,T.cl_Work,T.na_Work_around,rfl,_,rfl,ar,_,_,_,rfl,rfl,SqL.of g3,atI_last _ _,tt,_,_,_,rfl,rfl,SqT.of ht,rfl,rfl,_,rfl,?_⟩
              exact iteT (kT H2 b x K2 d' W2 hA2 (fr.trans fr2))
            | ar x =>
              obtain ⟨tt,q,rfl,ht,hq⟩ := g7
              refine ⟨_,rfl,wk,_,dx,_,_,rfl,g1,T.cl_Work,T.na_Work_around,rfl,_,rfl,ar,_,_,_,rfl,rfl,SqL.of g3,atI_last _ _,tt,_,_,_,rfl,rfl,SqT.of ht,rfl,rfl,_,rfl,?_⟩
              exact iteF (enter trivial _ fun H3 h => h)
            | inf =>
              obtain ⟨tt,rfl,ht⟩ := g7
              refine ⟨_,rfl,wk,_,dx,_,_,rfl,g1,T.cl_Work,T.na_Work_around,rfl,_,rfl,ar,_,_,_,rfl,rfl,SqL.of g3,atI_last _ _,tt,_,_,_,rfl,rfl,SqT.of ht,rfl,rfl,_,rfl,?_⟩
              exact iteF (enter trivial _ fun H3 h => h)
      · have hf' : p2.isFun = false := by cases h : p2.isFun <;> simp_all
        have kd : (!decide (V.int p2.kind = V.int 4)) = true := by
          cases p2 with
          | free _ => rfl
          | bound _ => rfl
          | outer _ => rfl
          | app _ _ => rfl
          | fn _ => cases hf'
        rw [kd]
        refine iteT ⟨_,rfl,wk,dx,_,rfl,g1,rfl,?_⟩
        refine ⟨wk,dx,ar,p2,K2,d',sz,st,rfl,W2,hA2.nk.lvl,by omega,fun H3 W3 fr3 => ?_⟩
        cases e : on p2 K2 d' with
        | inl q =>
          obtain ⟨p3,K3,d3⟩ := q
          rw [e] at W3
          obtain ⟨hA3,lt⟩ := hA2.onward hn2 hf' e
          exact ⟨p3.size + todo K3 + 1,by omega,rfl,(fr.trans fr2).trans fr3,.inl ⟨p3,K3,d3,W3,hA3,rfl⟩⟩
        | inr p3 =>
          rw [e] at W3
          obtain ⟨x1,x2,x3⟩ := hA2.ended hn2 hf' e
          exact ⟨0,by omega,rfl,(fr.trans fr2).trans fr3,.inr ⟨p3,W3,x1,x3,x2,rfl⟩⟩
    · obtain ⟨⟨pl,h1,h2⟩,_⟩ := id W'
      refine ⟨_,rfl,wk,_,dx,_,_,rfl,h1,T.cl_Work,T.na_Work_finished,rfl,_,rfl,iteF ?_⟩
      exact kF H' p' W' e1 e2 e3 fr
end
end Ft
end

section
namespace Ft
open PySem PySem.Spec PyProof.Rows L2
section
variable {P : Program} {w : World} {K : PySem.W.Frag} {mg : Str -> Option Value} {base : Heap} {a : Ad}
noncomputable def spWorkInit (a : Ad) : Sp := fun vs H Q _ => ∃ (wk dx p : Addr) (n : N),vs = [.ref wk,.ref p] /\ H wk = some (.ins a.c_Work dx []) /\ TermAt a.c_Term H p n /\
  ∀ (H' : Hp) (ar : Addr),WkAt a H' wk dx ar n [] 0 (n.size : Nat) 0 false -> H ar = none -> (∀ b o,H b = some o -> b ≠ wk -> H' b = some o) -> Q .non H'
theorem ok_Work_init (T : Tx K mg a) : Gd P w K mg base CX0 1 a.f_Work_init ["self","term"] (spWorkInit a) := by
  refine T.fn_Work_init.ok sc_Work_init (fun vs H Q E h => ?_) (fun cdv A outer s H vs Q E hr h => ?_)
  · obtain ⟨wk,dx,p,n,rfl,_⟩ := h
    rfl
  · obtain ⟨wk,dx,p,n,rfl,hw,hp,k⟩ := h
    refine ⟨_,pss_cons (ps_fld (pv 0) (pv 1) rfl) (pss_cons (ps_fld (pv 0) (pe_lst pa_nil) rfl) (pss_cons (ps_fld (pv 0) pe_int rfl) (pss_cons (ps_fld (pv 0) (pe_fld (pv 1) rfl) rfl) (pss_cons (ps_fld (pv 0) pe_int rfl) (pss_one (ps_fld (pv 0) pe_bl rfl)))))),?_⟩
    refine ⟨_,rfl,_,rfl,wk,_,dx,_,rfl,hw,T.cl_Work,T.na_Work_place,(show 0 < 1000 by decide),?_⟩
    have k1 : Keep a.c_Term H (upd H wk (.ins a.c_Work dx (putF "place" (.ref p) []))) := keep_wk T hw
    refine ⟨Nat.zero_le _,fun ar har => ?_⟩
    have nar : ar ≠ wk := fun e => by rw [e,upd_same] at har; cases har
    have har0 : H ar = none := by rw [upd_ne nar] at har; exact har
    have k2 := k1.trans (Keep.new (C := a.c_Term) (u := .lst []) har)
    have hw2 : upd (upd H wk (.ins a.c_Work dx (putF "place" (.ref p) []))) ar (.lst []) wk = some (.ins a.c_Work dx (putF "place" (.ref p) [])) := by rw [upd_ne (Ne.symm nar),upd_same]
    refine ⟨_,rfl,wk,_,dx,_,rfl,hw2,T.cl_Work,T.na_Work_around,(show 1 < 1000 by decide),?_⟩
    refine ⟨_,rfl,wk,_,dx,_,rfl,upd_same,T.cl_Work,T.na_Work_level,(show 2 < 1000 by decide),?_⟩
    rw [upd_upd]
    have k3 := k2.trans (keep_wk T (o := .ins a.c_Work dx (putF "level" (.int 0) (putF "around" (.ref ar) (putF "place" (.ref p) [])))) hw2)
    obtain ⟨l5,f5,g5,d5,o5⟩ := (hp.keep k3).obj
    refine ⟨_,rfl,p,_,d5,_,_,rfl,o5,T.cl_Term,T.na_Term_size,rfl,_,rfl,wk,_,dx,_,rfl,upd_same,T.cl_Work,T.na_Work_size,(show 3 < 1000 by decide),?_⟩
    rw [upd_upd]
    refine ⟨_,rfl,wk,_,dx,_,rfl,upd_same,T.cl_Work,T.na_Work_steps,(show 4 < 1000 by decide),?_⟩
    rw [upd_upd]
    refine ⟨_,rfl,wk,_,dx,_,rfl,upd_same,T.cl_Work,T.na_Work_finished,(show 5 < 1000 by decide),?_⟩
    rw [upd_upd]
    have k4 : Keep a.c_Term H (upd (upd (upd H wk (.ins a.c_Work dx (putF "place" (.ref p) []))) ar (.lst [])) wk (.ins a.c_Work dx (wkf (.ref p) (.ref ar) (0 : Nat) (n.size : Nat) 0 false))) := k2.trans (keep_wk T hw2)
    refine k _ ar ⟨⟨p,upd_same,hp.keep k4⟩,⟨[],by rw [upd_ne nar,upd_same],.nil⟩⟩ har0 fun b o e nb => ?_
    rw [upd_ne nb,upd_ne (ne_of_none e har0),upd_ne nb]
    exact e
structure Done (a : Ad) (H' : Hp) (wk : Addr) (r : Nat × Sy10.T) : Prop where
  ex : ∃ dx ar p' K' d' fin,WkAt a H' wk dx ar p' K' d' (r.2.size : Nat) (r.1 : Nat) fin /\
    (Sy10.MOST < r.2.size \/ (fin = true /\ ¬ Sy10.MOST < r.2.size /\ p'.ent 0 /\ p'.en 0 = r.2 /\ r.2.step = none) \/ (fin = false /\ ¬ Sy10.MOST < r.2.size /\ r.2.step ≠ none))
noncomputable def spWorkOut (a : Ad) : Sp := fun vs H Q _ => ∃ (p : Addr) (n : Nat) (t : Sy10.T),vs = [.ref p,.int n] /\ TermAt a.c_Term H p (ofT t) /\ rch t = 0 /\
  ∀ (H' : Hp) (wk : Addr),Done a H' wk (Sy10.T.go (min n Sy10.STEPS) t) -> Same H H' -> Q (.ref wk) H'
theorem ok_work_out (T : Tx K mg a) : Gd P w K mg base CX0 8 a.f_work_out ["term","steps"] (spWorkOut a) := by
  refine T.fn_work_out.ok sc_work_out (fun vs H Q E h => ?_) (fun cdv A outer s H vs Q E hr h => ?_)
  · obtain ⟨p,n,t,rfl,_⟩ := h
    rfl
  · obtain ⟨p,n,t,rfl,hp,hre,k⟩ := h
    refine ⟨_,pss_cons (ps_set (i := 2) sc_work_out.nd rfl (Or.inl rfl) (pe_callB (call_min2 rfl) rfl T.b_min (by decide +kernel) (pa_cons (pv 1) (pa_cons (pe_k T.k_MOST_STEPS) pa_nil))))
      (pss_cons (ps_set (i := 3) sc_work_out.nd rfl (Or.inl rfl) (pe_makeG T.mk_Work (ok_Work_init T) hr (by decide) rfl T.mg_Work pass0 (pa_cons (pv 0) pa_nil)))
      (pss_cons (ps_while PassesOwn.never (PW.pt (pw_and (pt_cmpR op_le (pe_fld (pv 3) rfl) (pe_k T.k_MOST_SIZE) (nomark _)) (pw_and (pt_val (pe_meth0G (pv 3) T.cl_Work T.me_Work_find_step (ok_Work_find_step T) hr (by decide) pass0)) (pw_and1 (pt_cmpR op_lt (pe_fld (pv 3) rfl) (pv 2) (nomark _))))))
        (pss_one (ps_expr (pe_meth0G (pv 3) T.cl_Work T.me_Work_make_step (ok_Work_make_step T) hr (by decide) pass0))))
      (pss_one (ps_ret (pv 3))))),?_⟩
    refine ⟨_,rfl,_,_,rfl,?_⟩
    have em : (if (100000 : Int) < (n : Int) then (100000 : Int) else (n : Int)) = ((min n Sy10.STEPS : Nat) : Int) := by
      unfold Sy10.STEPS
      split <;> omega
    rw [em]
    generalize min n Sy10.STEPS = A0 at k
    refine ⟨_,rfl,fun wk dx nw nd ned => ?_⟩
    have smd : Same H (upd (upd H dx (.own wk)) wk (.ins a.c_Work dx [])) := (same_new nd).trans (same_new (by rw [upd_ne (Ne.symm ned)]; exact nw))
    refine ⟨wk,dx,p,ofT t,rfl,upd_same,hp.same smd,fun H1 ar W1 nar fr1 => ⟨rfl,?_⟩⟩
    have nar0 : H ar = none := smd.free nar
    have s1 : Same H H1 := fun b o e => fr1 b o (smd b o e) (ne_of_none e nw)
    have frS : ∀ {H2 H3 : Hp},Same H H2 -> FrW H2 H3 wk ar -> Same H H3 := fun x y b o e => y b o (x b o e) (ne_of_none e nw) (ne_of_none e nar0)
    rw [ofT_size] at W1
    refine ⟨fun m σ H' => σ = [some (.ref p),some (.int n),some (.int A0),some (.ref wk)] /\ Same H H' /\ ∃ p' K' d' t' st,WkAt a H' wk dx ar p' K' d' (t'.size : Nat) (st : Nat) false /\ At p' K' d' t' /\
      Sy10.T.go A0 t = (st + (Sy10.T.go (A0 - st) t').1,(Sy10.T.go (A0 - st) t').2) /\ st <= A0 /\ m = A0 - st,
      ⟨_,rfl,s1,ofT t,[],0,t,0,W1,by have := At.start (n := ofT t) hre (ofT_low 0 t); rw [ofT_cl] at this; exact this,by simp,Nat.zero_le _,rfl⟩,?_⟩
    rintro m σ H' ⟨rfl,sm,p',K',d',t',st,W',hA',e1,e2,rfl⟩
    obtain ⟨⟨pl,h1,h2⟩,_⟩ := id W'
    refine ⟨_,rfl,wk,_,dx,_,_,rfl,h1,T.cl_Work,T.na_Work_size,rfl,_,_,rfl,rfl,_,rfl,?_⟩
    refine ite2 (fun c => ?_) (fun c => ?_)
    · have c' : ((t'.size : Nat) : Int) <= 4096 := of_decide_eq_true c
      have small : ¬ Sy10.MOST < t'.size := by unfold Sy10.MOST; omega
      refine ⟨_,rfl,wk,dx,_,rfl,h1,rfl,?_⟩
      refine ⟨wk,dx,ar,p',K',d',_,_,t',rfl,W',hA',by omega,fun H2 b x K2 d2 W2 hA2 fr2 => ?_,fun H2 p2 W2 x1 x2 x3 fr2 => ?_⟩
      · -- there is a step
        refine ⟨_,rfl,iteT ?_⟩
        obtain ⟨⟨pl2,g1,g2⟩,_⟩ := id W2
        refine ⟨_,rfl,wk,_,dx,_,_,rfl,g1,T.cl_Work,T.na_Work_steps,rfl,_,rfl,_,_,rfl,rfl,_,rfl,?_⟩
        refine ite2 (fun c2 => ?_) (fun c2 => ?_)
        · have c2' : ((st : Nat) : Int) < (A0 : Nat) := of_decide_eq_true c2
          refine ⟨_,fun _ _ z => z,?_⟩
          obtain ⟨y1,y2,y3⟩ := hA2.step
          have hl := hA2.len
          refine ⟨_,rfl,wk,dx,_,rfl,g1,rfl,?_⟩
          refine ⟨wk,dx,ar,b,x,K2,d2,_,_,false,rfl,W2,by simp only [N.size] at hl; omega,fun H3 W3 fr3 => ?_⟩
          refine ⟨A0 - (st + 1),by omega,rfl,frS (frS sm fr2) fr3,_,_,_,plug K2 d2 ((N.putN x 0 b).cl d2 0),st + 1,?_,y1,?_,by omega,rfl⟩
          · rw [y3]
            exact W3
          · rw [e1,show A0 - st = (A0 - (st + 1)) + 1 by omega,go_step small y2]
            simp only [Prod.mk.injEq,and_true]
            omega
        · have c2' : ¬ ((st : Nat) : Int) < (A0 : Nat) := fun z => c2 (decide_eq_true z)
          refine ⟨_,rfl,k H2 wk ⟨dx,ar,.fn b,.ap x :: K2,d2,false,?_,?_⟩ (frS sm fr2)⟩
          · have ez : A0 - st = 0 := by omega
            rw [e1,ez]
            show WkAt a H2 wk dx ar _ _ _ (t'.size : Nat) ((st + 0 : Nat) : Int) false
            rw [Nat.add_zero]
            exact W2
          · have ez : A0 - st = 0 := by omega
            rw [e1,ez]
            exact .inr (.inr ⟨rfl,small,hA2.redex⟩)
      · -- it is normal
        refine ⟨_,rfl,iteF ?_⟩
        refine ⟨_,rfl,k H2 wk ⟨dx,ar,p2,[],0,true,?_,?_⟩ (frS sm fr2)⟩
        · rw [e1,go_normal x3]
          exact W2
        · rw [e1,go_normal x3]
          exact .inr (.inl ⟨rfl,small,x1,x2,x3⟩)
    · have c' : ¬ ((t'.size : Nat) : Int) <= 4096 := fun z => c (decide_eq_true z)
      have large : Sy10.MOST < t'.size := by unfold Sy10.MOST; omega
      refine ⟨_,rfl,k H' wk ⟨dx,ar,p',K',d',false,?_,?_⟩ sm⟩
      · rw [e1,go_large large]
        exact W'
      · rw [e1,go_large large]
        exact .inl large
end
end Ft
end

section
namespace Ft
open PySem PySem.Spec PyProof.Rows L2
noncomputable def churchN : N -> Option Nat
  | .outer 1 => some 0
  | .app (.outer 0) t => (churchN t).map fun n => n + 1
  | _ => none
noncomputable def numN : N -> Option Nat
  | .fn (.fn b) => churchN b
  | _ => none
theorem church_en : ∀ b : N,b.ent 2 -> Sy10.church (b.en 2) = churchN b
  | .free _,_ => rfl
  | .bound _,h => h.elim
  | .outer 0,_ => rfl
  | .outer 1,_ => rfl
  | .outer (l + 2),h => by
    have h' : l + 2 < 2 := h
    omega
  | .fn _,_ => rfl
  | .app x t,h => by
    have ih := church_en t h.2
    match x,h.1 with
    | .free _,_ => rfl
    | .bound _,z => exact z.elim
    | .outer 0,_ =>
      show (Sy10.church (t.en 2)).map _ = (churchN t).map _
      rw [ih]
    | .outer 1,_ => rfl
    | .outer (l + 2),z =>
      have z' : l + 2 < 2 := z
      omega
    | .fn _,_ => rfl
    | .app _ _,_ => rfl
theorem num_en {n : N} (h : n.ent 0) : (n.en 0).number = numN n := by
  match n,h with
  | .free _,_ => rfl
  | .bound _,h => exact h.elim
  | .outer _,_ => rfl
  | .app _ _,_ => rfl
  | .fn (.free _),_ => rfl
  | .fn (.bound _),_ => rfl
  | .fn (.outer _),_ => rfl
  | .fn (.app _ _),_ => rfl
  | .fn (.fn b),h => exact church_en b h
theorem churchN_not {m : N} (h1 : m ≠ .outer 1) (h2 : ∀ t,m ≠ .app (.outer 0) t) : churchN m = none := by
  cases m with
  | free _ => rfl
  | bound _ => rfl
  | fn _ => rfl
  | outer l =>
    cases l with
    | zero => rfl
    | succ l =>
      cases l with
      | zero => exact absurd rfl h1
      | succ _ => rfl
  | app x t =>
    cases x with
    | outer l =>
      cases l with
      | zero => exact absurd rfl (h2 t)
      | succ _ => rfl
    | free _ => rfl
    | bound _ => rfl
    | fn _ => rfl
    | app _ _ => rfl
theorem numN_not {n : N} (h : ∀ b,n ≠ .fn (.fn b)) : numN n = none := by
  cases n with
  | fn x =>
    cases x with
    | fn b => exact absurd rfl (h b)
    | free _ => rfl
    | bound _ => rfl
    | outer _ => rfl
    | app _ _ => rfl
  | free _ => rfl
  | bound _ => rfl
  | outer _ => rfl
  | app _ _ => rfl
section
variable {P : Program} {w : World} {K : PySem.W.Frag} {mg : Str -> Option Value} {base : Heap} {a : Ad}
noncomputable def spNameOf (a : Ad) : Sp := fun vs H Q _ => ∃ (p : Addr) (n : N) (l : Nat),vs = [.ref p,.int l] /\ TermAt a.c_Term H p n /\ ∀ b : Bool,(b = true ↔ n = .outer l) -> Q (.bl b) H
theorem ok_is_name_of (T : Tx K mg a) : Gd P w K mg base CX0 1 a.f_is_name_of ["term","level"] (spNameOf a) := by
  refine T.fn_is_name_of.ok sc_is_name_of (fun vs H Q E h => ?_) (fun cdv A outer s H vs Q E hr h => ?_)
  · obtain ⟨p,n,l,rfl,_⟩ := h
    rfl
  obtain ⟨p,n,l,rfl,hp,k⟩ := h
  refine ⟨_,pss_one (ps_ret (pe_and (pe_cmpR op_eq (pe_fld (pv 0) rfl) (pe_k T.k_OUTER) (nomark _)) (pe_one (pe_cmpR op_eq (pe_fld (pv 0) rfl) (pv 1) (nomark _))))),?_⟩
  obtain ⟨lp,fp,gp,dp,op⟩ := hp.obj
  refine ⟨_,rfl,p,_,dp,_,_,rfl,op,T.cl_Term,T.na_Term_kind,rfl,rfl,_,rfl,?_⟩
  cases hp with
  | free h _ => exact iteF (k false ⟨(fun z => nomatch z),fun z => nomatch z⟩)
  | bound h => exact iteF (k false ⟨(fun z => nomatch z),fun z => nomatch z⟩)
  | app h _ _ => exact iteF (k false ⟨(fun z => nomatch z),fun z => nomatch z⟩)
  | fn h _ => exact iteF (k false ⟨(fun z => nomatch z),fun z => nomatch z⟩)
  | @outer _ j h =>
    obtain ⟨d3,o3⟩ := h
    refine iteT ⟨_,rfl,p,_,d3,_,_,rfl,o3,T.cl_Term,T.na_Term_label,rfl,_,rfl,rfl,?_⟩
    refine k _ ⟨fun z => ?_,fun z => ?_⟩
    · have z1 := V.int.inj (of_decide_eq_true z)
      rw [show j = l by omega]
    · have z1 := N.outer.inj z
      exact decide_eq_true (by rw [z1])
noncomputable def optV : Option Nat -> V
  | none => .non
  | some k => .int k
noncomputable def spNumber (a : Ad) : Sp := fun vs H Q _ => ∃ (p : Addr) (n : N),vs = [.ref p] /\ TermAt a.c_Term H p n /\ Q (optV (numN n)) H
theorem ok_number_of (T : Tx K mg a) : Gd P w K mg base CX0 2 a.f_number_of ["term"] (spNumber a) := by
  refine T.fn_number_of.ok sc_number_of (fun vs H Q E h => ?_) (fun cdv A outer s H vs Q E hr h => ?_)
  · obtain ⟨p,n,rfl,_⟩ := h
    rfl
  obtain ⟨p,n,rfl,hp,k⟩ := h
  refine ⟨_,pss_cons (ps_if (pt_cut (PW.pt (pw_or (pt_cmpR op_ne (pe_fld (pv 0) rfl) (pe_k T.k_FUNCTION) (nomark _)) (pw_or1 (pt_cmpR op_ne (pe_fld (pe_fld (pv 0) rfl) rfl) (pe_k T.k_FUNCTION) (nomark _))))))
      (pss_one (ps_ret pe_non)) pss_nil)
    (pss_cons (ps_set (i := 1) sc_number_of.nd rfl (Or.inl rfl) (pe_fld (pe_fld (pv 0) rfl) rfl))
    (pss_cons (ps_set (i := 2) sc_number_of.nd rfl (Or.inl rfl) pe_int)
    (pss_cons (ps_while PassesOwn.never (pt_cut (PW.pt (pw_and (pt_cmpR op_eq (pe_fld (pv 1) rfl) (pe_k T.k_APPLICATION) (nomark _)) (pw_and1 (pt_val (pe_callG (ok_is_name_of T) hr (by decide) rfl T.mg_is_name_of T.kp_is_name_of pass0 (pa_cons (pe_fld (pv 1) rfl) (pa_cons pe_int pa_nil))))))))
      (pss_cons (ps_set (i := 1) sc_number_of.nd rfl (Or.inl rfl) (pe_fld (pv 1) rfl))
      (pss_one (ps_aug sc_number_of.nd (i := 2) rfl (Or.inl rfl) pe_int ip_add))))
    (pss_one (ps_ret (pe_ifExp (pt_val (pe_callG (ok_is_name_of T) hr (by decide) rfl T.mg_is_name_of T.kp_is_name_of pass0 (pa_cons (pv 1) (pa_cons pe_int pa_nil)))) (pv 2) pe_non)))))),?_⟩
  refine ⟨fun v H' => (v = false ↔ ∃ b,n = .fn (.fn b)) /\ H' = H,?_,?_⟩
  · obtain ⟨lp,fp,gp,dp,op⟩ := hp.obj
    refine ⟨_,rfl,p,_,dp,_,_,rfl,op,T.cl_Term,T.na_Term_kind,rfl,rfl,_,rfl,?_⟩
    cases hp with
    | free h _ => exact iteT ⟨⟨(fun z => nomatch z),fun ⟨_,z⟩ => nomatch z⟩,rfl⟩
    | bound h => exact iteT ⟨⟨(fun z => nomatch z),fun ⟨_,z⟩ => nomatch z⟩,rfl⟩
    | outer h => exact iteT ⟨⟨(fun z => nomatch z),fun ⟨_,z⟩ => nomatch z⟩,rfl⟩
    | app h _ _ => exact iteT ⟨⟨(fun z => nomatch z),fun ⟨_,z⟩ => nomatch z⟩,rfl⟩
    | @fn _ pa xa h ha =>
      obtain ⟨d3,o3⟩ := h
      obtain ⟨l4,f4,g4,d4,o4⟩ := ha.obj
      refine iteF ⟨_,rfl,p,_,d3,_,_,rfl,o3,T.cl_Term,T.na_Term_first,rfl,pa,_,d4,_,_,rfl,o4,T.cl_Term,T.na_Term_kind,rfl,rfl,_,rfl,?_⟩
      cases ha with
      | free h _ => exact ⟨⟨(fun z => nomatch z),fun ⟨_,z⟩ => nomatch z⟩,rfl⟩
      | bound h => exact ⟨⟨(fun z => nomatch z),fun ⟨_,z⟩ => nomatch z⟩,rfl⟩
      | outer h => exact ⟨⟨(fun z => nomatch z),fun ⟨_,z⟩ => nomatch z⟩,rfl⟩
      | app h _ _ => exact ⟨⟨(fun z => nomatch z),fun ⟨_,z⟩ => nomatch z⟩,rfl⟩
      | @fn _ pb xb h hb => exact ⟨⟨fun _ => ⟨xb,rfl⟩,fun _ => rfl⟩,rfl⟩
  rintro v H1 ⟨hv,rfl⟩
  cases v with
  | true =>
    rw [numN_not (fun b z => nomatch (hv.mpr ⟨b,z⟩))] at k
    exact iteT k
  | false =>
    obtain ⟨b,rfl⟩ := hv.mp rfl
    refine iteF ?_
    obtain ⟨pa,d3,o3,ha⟩ := hp.fn_inv
    obtain ⟨pb,d4,o4,hb⟩ := ha.fn_inv
    refine ⟨_,rfl,p,_,d3,_,_,rfl,o3,T.cl_Term,T.na_Term_first,rfl,pa,_,d4,_,_,rfl,o4,T.cl_Term,T.na_Term_first,rfl,?_⟩
    refine ⟨fun i σ H' => ∃ (q : Addr) (m : N) (c : Nat),σ = [some (.ref p),some (.ref q),some (.int c)] /\ H' = H1 /\ TermAt a.c_Term H1 q m /\ numN (.fn (.fn b)) = (churchN m).map (fun j => j + c) /\ i = m.size,
      ⟨_,pb,b,0,rfl,rfl,hb,by show churchN b = _; cases churchN b <;> rfl,rfl⟩,?_⟩
    rintro i σ H' ⟨q,m,c,rfl,rfl,hm,he,rfl⟩
    refine ⟨fun v H2 => (v = true ↔ ∃ t,m = .app (.outer 0) t) /\ H2 = H',?_,?_⟩
    · obtain ⟨lp,fp,gp,dp,op⟩ := hm.obj
      refine ⟨_,rfl,q,_,dp,_,_,rfl,op,T.cl_Term,T.na_Term_kind,rfl,rfl,_,rfl,?_⟩
      cases hm with
      | free h _ => exact iteF ⟨⟨(fun z => nomatch z),fun ⟨_,z⟩ => nomatch z⟩,rfl⟩
      | bound h => exact iteF ⟨⟨(fun z => nomatch z),fun ⟨_,z⟩ => nomatch z⟩,rfl⟩
      | outer h => exact iteF ⟨⟨(fun z => nomatch z),fun ⟨_,z⟩ => nomatch z⟩,rfl⟩
      | fn h _ => exact iteF ⟨⟨(fun z => nomatch z),fun ⟨_,z⟩ => nomatch z⟩,rfl⟩
      | @app _ qa qb xa xb h hxa hxb =>
        obtain ⟨d5,o5⟩ := h
        refine iteT ⟨_,rfl,q,_,d5,_,_,rfl,o5,T.cl_Term,T.na_Term_first,rfl,qa,xa,0,rfl,hxa,fun bb hbb => ⟨_,rfl,?_,rfl⟩⟩
        exact ⟨fun z => ⟨xb,by rw [hbb.mp z]⟩,fun ⟨t,z⟩ => hbb.mpr (N.app.inj z).1⟩
    rintro v H2 ⟨hv2,rfl⟩
    cases v with
    | true =>
      obtain ⟨t,rfl⟩ := hv2.mp rfl
      refine iteT ⟨_,fun _ _ z => z,?_⟩
      obtain ⟨qa,qb,d5,o5,_,hxb⟩ := hm.app_inv
      refine ⟨_,rfl,q,_,d5,_,_,rfl,o5,T.cl_Term,T.na_Term_second,rfl,?_⟩
      refine ⟨_,rfl,_,_,rfl,rfl,?_⟩
      refine ⟨t.size,by simp only [N.size]; omega,qb,t,c + 1,rfl,rfl,hxb,?_,rfl⟩
      rw [he]
      show ((churchN t).map fun n => n + 1).map _ = _
      rw [Option.map_map]
      congr 1
      funext j
      show j + 1 + c = j + (c + 1)
      omega
    | false =>
      have no : ∀ t,m ≠ .app (.outer 0) t := fun t z => nomatch (hv2.mpr ⟨t,z⟩)
      refine iteF ⟨_,rfl,q,m,1,rfl,hm,fun bb hbb => ⟨_,rfl,?_⟩⟩
      cases bb with
      | true =>
        have e := hbb.mp rfl
        subst e
        refine iteT ⟨_,rfl,?_⟩
        rw [he] at k
        have k' : Q (.int ((0 + c : Nat) : Int)) _ := k
        rw [Nat.zero_add] at k'
        exact k'
      | false =>
        refine iteF ?_
        rw [he,churchN_not (fun z => nomatch (hbb.mpr z)) no] at k
        exact k
noncomputable def refV (sz : Nat) (fin : Bool) : V := if 4096 < sz then .int (-5) else if fin = true then .non else .int (-4)
noncomputable def spRefusal (a : Ad) : Sp := fun vs H Q _ => ∃ (wk dx : Addr) (pl ar : V) (d : Int) (sz : Nat) (st : Int) (fin : Bool),vs = [.ref wk] /\ H wk = some (.ins a.c_Work dx (wkf pl ar d sz st fin)) /\ Q (refV sz fin) H
theorem ok_refusal_of (T : Tx K mg a) : Gd P w K mg base CX0 1 a.f_refusal_of ["work"] (spRefusal a) := by
  refine T.fn_refusal_of.ok sc_refusal_of (fun vs H Q E h => ?_) (fun cdv A outer s H vs Q E hr h => ?_)
  · obtain ⟨wk,dx,pl,ar,d,sz,st,fin,rfl,_⟩ := h
    rfl
  obtain ⟨wk,dx,pl,ar,d,sz,st,fin,rfl,hw,k⟩ := h
  refine ⟨_,pss_cons (ps_if (pt_cmpR op_gt (pe_fld (pv 0) rfl) (pe_k T.k_MOST_SIZE) (nomark _)) (pss_one (ps_ret (pe_k T.k_TOO_LARGE))) pss_nil)
    (pss_cons (ps_if (pt_not (pt_val (pe_fld (pv 0) rfl))) (pss_one (ps_ret (pe_k T.k_NOT_NORMAL))) pss_nil)
    (pss_one (ps_ret pe_non))),?_⟩
  refine ⟨_,rfl,wk,_,dx,_,_,rfl,hw,T.cl_Work,T.na_Work_size,rfl,_,_,rfl,rfl,_,rfl,?_⟩
  unfold refV at k
  by_cases c : 4096 < sz
  · rw [if_pos c] at k
    refine ite2 (fun _ => k) (fun z => absurd (decide_eq_true (show ((sz : Nat) : Int) > 4096 by omega)) z)
  · rw [if_neg c] at k
    refine ite2 (fun z => absurd (of_decide_eq_true z) (show ¬ ((sz : Nat) : Int) > 4096 by omega)) (fun _ => ?_)
    refine ⟨_,rfl,wk,_,dx,_,_,rfl,hw,T.cl_Work,T.na_Work_finished,rfl,_,rfl,?_⟩
    cases fin with
    | true => exact iteF k
    | false => exact iteT k
end
end Ft
end

section
namespace Ft
open PySem PySem.Spec PyProof.Rows L2
noncomputable def frN : N -> List (List Nat)
  | .free x => [x]
  | .bound _ => []
  | .outer _ => []
  | .app a b => frN a ++ frN b
  | .fn a => frN a
theorem frN_en : ∀ (n : N) (d : Nat),(n.en d).frees = frN n
  | .free _,_ => rfl
  | .bound _,_ => rfl
  | .outer _,_ => rfl
  | .app a b,d => by simp only [N.en,Sy10.T.frees,frN,frN_en a,frN_en b]
  | .fn a,d => by simp only [N.en,Sy10.T.frees,frN,frN_en a]
noncomputable def Keys (kvs : List (List Key × V)) (m : List Nat -> Prop) : Prop := ∀ x,(valV kvs (ky x)).isSome = true ↔ m x
noncomputable def szs (l : List N) : Nat := (l.map N.size).sum
theorem szs_cons (n : N) (l : List N) : szs (n :: l) = n.size + szs l := by simp [szs]
theorem szs_len : ∀ l : List N,l.length <= szs l
  | [] => Nat.le_refl _
  | n :: l => by
    have := szs_len l
    have := n.size_pos
    rw [szs_cons,List.length_cons]
    omega
section
variable {P : Program} {w : World} {K : PySem.W.Frag} {mg : Str -> Option Value} {base : Heap} {a : Ad}
noncomputable def spFree (a : Ad) : Sp := fun vs H Q _ => ∃ (p : Addr) (n : N),vs = [.ref p] /\ TermAt a.c_Term H p n /\ n.size <= 1000000 /\
  ∀ (H' : Hp) (f : Addr) (kvs : List (List Key × V)),H' f = some (.dT kvs) -> Keys kvs (fun x => x ∈ frN n) -> Same H H' -> Q (.ref f) H'
theorem ok_free_names (T : Tx K mg a) : Gd P w K mg base CX0 1 a.f_free_names ["term"] (spFree a) := by
  refine T.fn_free_names.ok sc_free_names (fun vs H Q E h => ?_) (fun cdv A outer s H vs Q E hr h => ?_)
  · obtain ⟨p,n,rfl,_⟩ := h
    rfl
  · obtain ⟨p,n,rfl,hp,hsz,k⟩ := h
    refine ⟨_,pss_cons (ps_set (i := 1) sc_free_names.nd rfl (Or.inl rfl) pe_dnewT)
      (pss_cons (ps_set (i := 2) sc_free_names.nd rfl (Or.inl rfl) (pe_lst (pa_cons (pv 0) pa_nil)))
      (pss_cons (ps_while PassesOwn.never (pt_truth (pv 2) (fun _ => rfl))
        (pss_cons (ps_set (i := 3) sc_free_names.nd rfl (Or.inl rfl) (pe_bm0 PySem.F.plainAttrs_list PySem.F.slot_list_pop PySem.F.type_list_pop mt_pop (pv 2)))
        (pss_one (ps_if (pt_cmpR op_eq (pe_fld (pv 3) rfl) (pe_k T.k_FREE) (nomark _))
          (pss_one (ps_dput (hu_of hr) (pv 1) (pe_fld (pv 3) rfl) pe_bl rfl))
          (pss_one (ps_if (pt_cmpR op_eq (pe_fld (pv 3) rfl) (pe_k T.k_APPLICATION) (nomark _))
            (pss_cons (ps_expr (pe_bm PySem.F.plainAttrs_list PySem.F.slot_list_append PySem.F.type_list_append mt_append (pv 2) (pa_cons (pe_fld (pv 3) rfl) pa_nil)))
            (pss_one (ps_expr (pe_bm PySem.F.plainAttrs_list PySem.F.slot_list_append PySem.F.type_list_append mt_append (pv 2) (pa_cons (pe_fld (pv 3) rfl) pa_nil)))))
            (pss_one (ps_if (pt_cmpR op_eq (pe_fld (pv 3) rfl) (pe_k T.k_FUNCTION) (nomark _))
              (pss_one (ps_expr (pe_bm PySem.F.plainAttrs_list PySem.F.slot_list_append PySem.F.type_list_append mt_append (pv 2) (pa_cons (pe_fld (pv 3) rfl) pa_nil))))
              pss_nil))))))))
      (pss_one (ps_ret (pv 1))))),?_⟩
    intro f hf
    refine ⟨_,rfl,(show 1 <= sizeLine by decide),fun t ht => ?_⟩
    have ft : f ≠ t := fun e => by rw [<- e,upd_same] at ht; cases ht
    have nt : H t = none := by rw [upd_ne (Ne.symm ft)] at ht; exact ht
    have sm0 : Same H (upd (upd H f (.dT [])) t (.lst [.ref p])) := (same_new hf).trans (same_new ht)
    refine ⟨fun m σ H' => (∃ v3,σ = [some (.ref p),some (.ref f),some (.ref t),v3]) /\ Same H H' /\ ∃ xs l kvs,H' t = some (.lst xs) /\ Stk (BltAt a.c_Term H') xs l /\ H' f = some (.dT kvs) /\
      (∀ x,((valV kvs (ky x)).isSome = true \/ x ∈ l.flatMap frN) ↔ x ∈ frN n) /\ kvs.length + szs l <= n.size /\ m = szs l,
      ⟨_,⟨_,rfl⟩,sm0,_,[n],[],upd_same,.push (vs := []) .nil ⟨p,rfl,hp.same sm0⟩,by rw [upd_ne ft,upd_same],fun x => by simp [valV_nil],by simp [szs],rfl⟩,?_⟩
    rintro m σ H' ⟨⟨v3,rfl⟩,sm,xs,l,kvs,h1,h2,h3,h4,h5,rfl⟩
    have lx := h2.length
    refine ⟨_,rfl,_,.inl ⟨xs,SqL.of h1,rfl⟩,?_⟩
    cases l with
    | nil =>
      have := h2.empty
      subst this
      refine iteF ⟨_,rfl,k H' f kvs h3 (fun x => ?_) sm⟩
      have := h4 x
      simpa using this
    | cons e l =>
      obtain ⟨us,v,rfl,h2',q,rfl,hq⟩ := h2.pop
      rw [ne_nil_snoc]
      refine iteT ⟨_,fun _ _ z => z,?_⟩
      have kp : Keep a.c_Term H' (upd H' t (.lst us)) := Keep.upd h1 (fun z => z)
      refine ⟨_,rfl,.inl ⟨rfl,_,SqL.of h1⟩,t,_,_,rfl,rfl,h1,pop_last,?_⟩
      rw [pop_rest]
      have sm1 : Same H (upd H' t (.lst us)) := fun c o e => by rw [upd_ne (ne_of_none e nt)]; exact sm c o e
      have hf1 : upd H' t (.lst us) f = some (.dT kvs) := by rw [upd_ne ft]; exact h3
      have ht1 : upd H' t (.lst us) t = some (.lst us) := upd_same
      have hq1 := hq.keep kp
      have S1 : Stk (BltAt a.c_Term (upd H' t (.lst us))) us l := h2'.imp fun v e h => h.keep kp v e
      generalize upd H' t (.lst us) = H1 at kp sm1 hf1 ht1 hq1 S1
      rw [szs_cons] at h5
      have le := szs_len l
      have lus := S1.length
      have big : ∀ j,j <= n.size + 2 -> j < sizeLine := fun j hj => Nat.lt_of_le_of_lt (Nat.le_trans hj (Nat.add_le_add_right hsz 2)) (by decide)
      obtain ⟨l5,f5,g5,d5,o5⟩ := hq1.obj
      refine ⟨_,rfl,q,_,d5,_,_,rfl,o5,T.cl_Term,T.na_Term_kind,rfl,rfl,_,rfl,?_⟩
      cases hq1 with
      | @free _ tt x h htt =>
        refine iteT ?_
        obtain ⟨dd,oo⟩ := h
        refine ⟨_,rfl,_,rfl,q,_,dd,_,_,rfl,oo,T.cl_Term,T.na_Term_label,rfl,f,_,rfl,DPut.t hf1 htt (big _ (by omega)),?_⟩
        have k2 : Keep a.c_Term H1 (upd H1 f (.dT (putK kvs (ky x) (.bl true)))) := Keep.upd hf1 (fun z => z)
        refine ⟨szs l,by simp only [szs_cons,N.size]; omega,⟨_,rfl⟩,fun c o e => by rw [upd_ne (ne_of_none e hf)]; exact sm1 c o e,us,l,_,by rw [upd_ne (Ne.symm ft)]; exact ht1,S1.imp fun v e h => h.keep k2 v e,upd_same,fun y => ?_,?_,rfl⟩
        · rw [valV_put,<- h4 y]
          simp only [List.flatMap_cons,frN]
          by_cases e : ky y = ky x
          · rw [if_pos e,ky_inj e]
            simp
          · rw [if_neg e]
            have : y ≠ x := fun z => e (by rw [z])
            simp [this]
        · have := length_putK kvs (ky x) (.bl true)
          simp only [N.size] at h5
          omega
      | bound h =>
        refine iteF ⟨_,rfl,q,_,d5,_,_,rfl,o5,T.cl_Term,T.na_Term_kind,rfl,rfl,_,rfl,iteF ?_⟩
        refine ⟨_,rfl,q,_,d5,_,_,rfl,o5,T.cl_Term,T.na_Term_kind,rfl,rfl,_,rfl,iteF ?_⟩
        refine ⟨szs l,by simp only [szs_cons,N.size]; omega,⟨_,rfl⟩,sm1,us,l,kvs,ht1,S1,hf1,fun y => ?_,by omega,rfl⟩
        rw [<- h4 y]
        simp [frN]
      | outer h =>
        refine iteF ⟨_,rfl,q,_,d5,_,_,rfl,o5,T.cl_Term,T.na_Term_kind,rfl,rfl,_,rfl,iteF ?_⟩
        refine ⟨_,rfl,q,_,d5,_,_,rfl,o5,T.cl_Term,T.na_Term_kind,rfl,rfl,_,rfl,iteF ?_⟩
        refine ⟨szs l,by simp only [szs_cons,N.size]; omega,⟨_,rfl⟩,sm1,us,l,kvs,ht1,S1,hf1,fun y => ?_,by omega,rfl⟩
        rw [<- h4 y]
        simp [frN]
      | @fn _ pa xa h ha =>
        obtain ⟨dd,oo⟩ := h
        refine iteF ⟨_,rfl,q,_,dd,_,_,rfl,oo,T.cl_Term,T.na_Term_kind,rfl,rfl,_,rfl,iteF ?_⟩
        refine ⟨_,rfl,q,_,dd,_,_,rfl,oo,T.cl_Term,T.na_Term_kind,rfl,rfl,_,rfl,iteT ?_⟩
        refine ⟨_,rfl,.inl ⟨rfl,_,SqL.of ht1⟩,_,rfl,q,_,dd,_,_,rfl,oo,T.cl_Term,T.na_Term_first,rfl,t,_,_,rfl,rfl,ht1,big _ (by omega),?_⟩
        have k2 : Keep a.c_Term H1 (upd H1 t (.lst (us ++ [.ref pa]))) := Keep.upd ht1 (fun z => z)
        simp only [N.size] at h5
        refine ⟨szs (xa :: l),by simp only [szs_cons,N.size]; omega,⟨_,rfl⟩,fun c o e => by rw [upd_ne (ne_of_none e nt)]; exact sm1 c o e,_,xa :: l,kvs,upd_same,.push (S1.imp fun v e h => h.keep k2 v e) ⟨pa,rfl,ha.keep k2⟩,by rw [upd_ne ft]; exact hf1,fun y => ?_,by rw [szs_cons]; omega,rfl⟩
        rw [<- h4 y]
        simp [frN]
      | @app _ pa pb xa xb h ha hb =>
        obtain ⟨dd,oo⟩ := h
        refine iteF ⟨_,rfl,q,_,dd,_,_,rfl,oo,T.cl_Term,T.na_Term_kind,rfl,rfl,_,rfl,iteT ?_⟩
        refine ⟨_,rfl,.inl ⟨rfl,_,SqL.of ht1⟩,_,rfl,q,_,dd,_,_,rfl,oo,T.cl_Term,T.na_Term_second,rfl,t,_,_,rfl,rfl,ht1,big _ (by omega),?_⟩
        have k2 : Keep a.c_Term H1 (upd H1 t (.lst (us ++ [.ref pb]))) := Keep.upd ht1 (fun z => z)
        refine ⟨_,rfl,.inl ⟨rfl,_,SqL.of upd_same⟩,_,rfl,q,_,dd,_,_,rfl,k2 _ _ oo rfl,T.cl_Term,T.na_Term_first,rfl,t,_,_,rfl,rfl,upd_same,big _ (by rw [List.length_append,List.length_cons,List.length_nil]; omega),?_⟩
        rw [upd_upd]
        have k3 : Keep a.c_Term H1 (upd H1 t (.lst (us ++ [.ref pb] ++ [.ref pa]))) := Keep.upd ht1 (fun z => z)
        simp only [N.size] at h5
        refine ⟨szs (xa :: xb :: l),by simp only [szs_cons,N.size]; omega,⟨_,rfl⟩,fun c o e => by rw [upd_ne (ne_of_none e nt)]; exact sm1 c o e,_,xa :: xb :: l,kvs,upd_same,.push (.push (S1.imp fun v e h => h.keep k3 v e) ⟨pb,rfl,hb.keep k3⟩) ⟨pa,rfl,ha.keep k3⟩,by rw [upd_ne ft]; exact hf1,fun y => ?_,by rw [szs_cons,szs_cons]; omega,rfl⟩
        rw [<- h4 y]
        simp [frN]
noncomputable def spNio (a : Ad) : Sp := fun vs H Q _ => ∃ k : Nat,vs = [.int k] /\ k < 1000000000 /\ ∀ (H' : Hp) (t : Addr),H' t = some (.tup ((ky (Sy10.nameAt k)).map kV)) -> Same H H' -> Q (.ref t) H'
theorem ok_name_in_order (T : Tx K mg a) : Gd P w K mg base CX0 1 a.f_name_in_order ["number"] (spNio a) := by
  refine T.fn_name_in_order.ok sc_name_in_order (fun vs H Q E h => ?_) (fun cdv A outer s H vs Q E hr h => ?_)
  · obtain ⟨k,rfl,_⟩ := h
    rfl
  · obtain ⟨n,rfl,hn,k⟩ := h
    refine ⟨_,pss_cons (ps_set (i := 1) sc_name_in_order.nd rfl (Or.inl rfl) (pe_op op_add (pe_k T.k_LETTER_A) (pe_op op_mod (pv 0) (pe_k T.k_LETTERS))))
      (pss_cons (ps_if (pt_cmpR op_lt (pv 0) (pe_k T.k_LETTERS) (nomark _))
        (pss_one (ps_ret (pe_tup (pa_cons (pv 1) pa_nil))))
        pss_nil)
      (pss_one (ps_ret (pe_callTy call_tuple_of rfl T.b_tuple (by decide +kernel) (pa_cons (pe_op op_cat (pe_lst (pa_cons (pv 1) pa_nil))
        (pe_lc rfl sc_name_in_order.nd (own := [("digit",2)]) (pi_str (pe_callTy call_str_int rfl T.b_str (by decide +kernel) (pa_cons (pe_op op_fdiv (pv 0) (pe_k T.k_LETTERS)) pa_nil))) (blkOk_by (by show blkC ["number","letter","digit"] (defScope s_name_in_order) _ _ = true; decide +kernel))
          (fun _ _ _ _ _ => pg_name (i := 2) sc_name_in_order.nd rfl (Or.inl rfl)) (fun _ _ _ _ _ => pts_nil) (fun _ _ _ _ _ => pe_callB call_ord rfl T.b_ord (by decide +kernel) (pa_cons (pv 2) pa_nil)))) pa_nil))))),?_⟩
    refine ⟨_,rfl,_,_,rfl,rfl,(by show (0 : Int) < 26; decide),_,_,rfl,rfl,?_⟩
    refine ⟨_,rfl,_,_,rfl,rfl,_,rfl,?_⟩
    have el : (97 : Int) + ((n : Nat) : Int) % 26 = ((97 + n % 26 : Nat) : Int) := by omega
    refine ite2 (fun c => ?_) (fun c => ?_)
    · have c' : ((n : Nat) : Int) < 26 := of_decide_eq_true c
      refine ⟨_,rfl,(show 1 <= sizeLine by decide),fun t ht => ?_⟩
      refine k _ t ?_ (same_new ht)
      rw [upd_same,ky_map]
      show some (HO.tup [V.int (97 + ((n : Nat) : Int) % 26)]) = _
      rw [el]
      unfold Sy10.nameAt
      rw [if_pos (by omega)]
      rfl
    · have c' : ¬ ((n : Nat) : Int) < 26 := fun z => c (decide_eq_true z)
      refine ⟨_,rfl,(show 1 <= sizeLine by decide),fun l hl => ?_⟩
      have ed : ((n : Nat) : Int) / 26 = ((n / 26 : Nat) : Int) := by omega
      refine ⟨_,rfl,_,_,rfl,rfl,⟨by decide,by decide⟩,_,rfl,?_,?_⟩
      · rw [ed]
        show (n / 26).log2 < 1920
        have : n / 26 < 2 ^ 1920 := Nat.lt_of_lt_of_le (show n / 26 < 2 ^ 30 by omega) (Nat.pow_le_pow_right (by decide) (by decide))
        by_cases z : n / 26 = 0
        · rw [z]; decide
        · exact (Nat.log2_lt z).mpr this
      refine ⟨_,rfl,?_⟩
      rw [ed]
      generalize hz : (PySem.Str.ofString (toString ((n / 26 : Nat) : Int))) = z
      have hcs : z.cps.toList = Sy10.decimal (n / 26) := by rw [<- hz]; exact PySem.W.KIN.signs_num (n / 26)
      intro D hD
      have hlen : z.cps.size < sizeLine := by
        rw [<- Array.length_toList,hcs]
        have : (Sy10.decimal (n / 26)).length <= 9 := by
          unfold Sy10.decimal
          rw [List.length_map]
          exact (Nat.length_toDigits_le_iff (by decide) (by decide)).mpr (by omega)
        exact Nat.lt_of_le_of_lt this (by decide)
      have nDl : D ≠ l := fun e => by rw [e,upd_same] at hD; cases hD
      refine ⟨fun i m H' => i <= z.cps.size /\ m = z.cps.size - i /\ H' = upd (upd H l (.lst [V.int ((97 + n % 26 : Nat) : Int)])) D (.lst (byV (z.cps.toList.take i))),⟨_,Nat.zero_le _,rfl,?_⟩,?_⟩
      · rw [<- el]
        rfl
      rintro i m H' ⟨hi,rfl,rfl⟩
      by_cases hlt : i < z.cps.size
      · refine .inr ⟨hlt,fun H'' => H'' = upd (upd H l (.lst [V.int ((97 + n % 26 : Nat) : Int)])) D (.lst (byV (z.cps.toList.take (i + 1)))),fun H'' e => ⟨z.cps.size - (i + 1),by omega,hlt,rfl,e⟩,?_⟩
        rintro x H'' ⟨rfl,cc,hcc,rfl⟩
        refine ⟨rfl,?_⟩
        unfold tYes
        dsimp only
        rw [if_pos rfl]
        refine ⟨_,rfl,_,rfl,rfl,_,upd_same,?_,?_⟩
        · rw [byV_length,List.length_take]
          omega
        · rw [upd_upd]
          congr 2
          have hcc' : z.cps.toList[i]? = some cc := by rw [Array.getElem?_toList]; exact hcc
          have : z.cps.toList.take (i + 1) = z.cps.toList.take i ++ [cc] := by
            rw [List.take_add_one,hcc']
            rfl
          rw [this]
          unfold byV
          rw [List.map_append]
          rfl
      · refine .inl ⟨Nat.le_of_not_lt hlt,?_⟩
        have ei : i = z.cps.size := by omega
        subst ei
        have et : z.cps.toList.take z.cps.size = z.cps.toList := by rw [<- Array.length_toList,List.take_length]
        rw [et,hcs]
        refine ⟨l,D,_,_,rfl,rfl,by rw [upd_ne (Ne.symm nDl),upd_same],upd_same,?_,fun q hq => ?_⟩
        · show 1 + (byV (Sy10.decimal (n / 26))).length <= sizeLine
          rw [byV_length,<- hcs,Array.length_toList]
          omega
        refine ⟨q,_,rfl,.inl ⟨SqL.of upd_same,fun t ht => ?_⟩⟩
        refine k _ t ?_ ?_
        · rw [upd_same,ky_map]
          unfold Sy10.nameAt
          rw [if_neg (by omega)]
          rfl
        · exact (((same_new hl).trans (same_new (by rw [<- el]; exact hD))).trans (same_new hq)).trans (same_new ht)
end
end Ft
end

section
namespace Ft
open PySem PySem.Spec PyProof.Rows L2
noncomputable def fnf (tk ch : V) (tr : Int) : List (Str × V) := [("taken",tk),("chosen",ch),("tried",.int tr)]
noncomputable def NameAt (H : Hp) (v : V) (x : List Nat) : Prop := ∃ t,v = .ref t /\ H t = some (.tup ((ky x).map kV))
theorem NameAt.keep {C : Addr} {H H' : Hp} (k : Keep C H H') {v : V} {x : List Nat} (h : NameAt H v x) : NameAt H' v x := by
  obtain ⟨t,h1,h2⟩ := h
  exact ⟨t,h1,k _ _ h2 trivial⟩
structure NmAt (a : Ad) (H : Hp) (nm dx f c : Addr) (left : List (List Nat)) (k : Nat) : Prop where
  obj : H nm = some (.ins a.c_FunctionNames dx (fnf (.ref f) (.ref c) k))
  tk : ∃ kvs,H f = some (.dT kvs) /\ Keys kvs (fun x => x ∈ left)
  ch : ∃ xs,H c = some (.lst xs) /\ Paired (NameAt H) xs (pool left k)
theorem paired_imp {α : Type} {R S : V -> α -> Prop} {vs : List V} {l : List α} (f : ∀ v e,R v e -> S v e) (h : Paired R vs l) : Paired S vs l := by
  induction h with
  | nil => exact .nil
  | cons r _ ih => exact .cons (f _ _ r) ih
theorem paired_get {α : Type} {R : V -> α -> Prop} : ∀ {vs : List V} {l : List α} {i : Nat} {e : α},Paired R vs l -> l[i]? = some e -> ∃ v,vs[i]? = some v /\ R v e
  | _,_,_,_,.nil,h => by simp at h
  | _,_,0,_,.cons r _,h => by
    simp at h
    subst h
    exact ⟨_,rfl,r⟩
  | _,_,i + 1,e,.cons _ t,h => by
    obtain ⟨v,h1,h2⟩ := paired_get (i := i) t (by simpa using h)
    exact ⟨v,by simpa using h1,h2⟩
section
variable {P : Program} {w : World} {K : PySem.W.Frag} {mg : Str -> Option Value} {base : Heap} {a : Ad}
theorem ne_FunctionNames (T : Tx K mg a) : a.c_FunctionNames ≠ a.c_Term := cls_ne T.mk_FunctionNames T.mk_Term T.fn_FunctionNames_init T.fn_Term_init (by decide +kernel)
theorem NmAt.nc {H : Hp} {nm dx f c : Addr} {left : List (List Nat)} {k : Nat} (W : NmAt a H nm dx f c left k) : nm ≠ c := by
  obtain ⟨xs,h,_⟩ := W.ch
  exact ne_of W.obj h (fun z => nomatch z)
theorem NmAt.fc {H : Hp} {nm dx f c : Addr} {left : List (List Nat)} {k : Nat} (W : NmAt a H nm dx f c left k) : f ≠ c /\ f ≠ nm := by
  obtain ⟨xs,h,_⟩ := W.ch
  obtain ⟨kvs,h2,_⟩ := W.tk
  exact ⟨ne_of h2 h (fun z => nomatch z),ne_of h2 W.obj (fun z => nomatch z)⟩
theorem NmAt.same {H H' : Hp} {nm dx f c : Addr} {left : List (List Nat)} {k : Nat} (W : NmAt a H nm dx f c left k) (sm : Same H H') : NmAt a H' nm dx f c left k := by
  obtain ⟨kvs,h2,h3⟩ := W.tk
  obtain ⟨xs,h4,h5⟩ := W.ch
  exact ⟨sm _ _ W.obj,⟨kvs,sm _ _ h2,h3⟩,⟨xs,sm _ _ h4,paired_imp (fun v e h => NameAt.keep (C := a.c_Term) (.of sm) h) h5⟩⟩
noncomputable def spFnInit (a : Ad) : Sp := fun vs H Q _ => ∃ (p dx f : Addr),vs = [.ref p,.ref f] /\ H p = some (.ins a.c_FunctionNames dx []) /\
  ∀ (H' : Hp) (c : Addr),H' p = some (.ins a.c_FunctionNames dx (fnf (.ref f) (.ref c) 0)) -> H c = none -> H' c = some (.lst []) -> (∀ b o,H b = some o -> b ≠ p -> H' b = some o) -> Q .non H'
theorem ok_FunctionNames_init (T : Tx K mg a) : Gd P w K mg base CX0 1 a.f_FunctionNames_init ["self","taken"] (spFnInit a) := by
  refine T.fn_FunctionNames_init.ok sc_FunctionNames_init (fun vs H Q E h => ?_) (fun cdv A outer s H vs Q E hr h => ?_)
  · obtain ⟨p,dx,f,rfl,_⟩ := h
    rfl
  · obtain ⟨p,dx,f,rfl,hp,k⟩ := h
    refine ⟨_,pss_cons (ps_fld (pv 0) (pv 1) rfl) (pss_cons (ps_fld (pv 0) (pe_lst pa_nil) rfl) (pss_one (ps_fld (pv 0) pe_int rfl))),?_⟩
    refine ⟨_,rfl,_,rfl,p,_,dx,_,rfl,hp,T.cl_FunctionNames,T.na_FunctionNames_taken,(show 0 < 1000 by decide),?_⟩
    refine ⟨Nat.zero_le _,fun c hc => ?_⟩
    have nc : c ≠ p := fun e => by rw [e,upd_same] at hc; cases hc
    have hc0 : H c = none := by rw [upd_ne nc] at hc; exact hc
    have hp2 : upd (upd H p (.ins a.c_FunctionNames dx (putF "taken" (.ref f) []))) c (.lst []) p = some (.ins a.c_FunctionNames dx (putF "taken" (.ref f) [])) := by rw [upd_ne (Ne.symm nc),upd_same]
    refine ⟨_,rfl,p,_,dx,_,rfl,hp2,T.cl_FunctionNames,T.na_FunctionNames_chosen,(show 1 < 1000 by decide),?_⟩
    refine ⟨_,rfl,p,_,dx,_,rfl,upd_same,T.cl_FunctionNames,T.na_FunctionNames_tried,(show 2 < 1000 by decide),?_⟩
    rw [upd_upd]
    refine k _ c upd_same hc0 (by rw [upd_ne nc,upd_same]) fun b o e nb => ?_
    rw [upd_ne nb,upd_ne (ne_of_none e hc0),upd_ne nb]
    exact e
noncomputable def spNameAt (a : Ad) : Sp := fun vs H Q _ => ∃ (nm dx f c : Addr) (left : List (List Nat)) (k j : Nat),vs = [.ref nm,.int j] /\ NmAt a H nm dx f c left k /\ j + left.length < 1000000 /\
  ∀ (H' : Hp) (k' : Nat) (l : Addr),NmAt a H' nm dx f c left k' -> H' l = some (.lst (byV (Sy10.fresh left j))) -> H l = none -> (∀ b o,H b = some o -> b ≠ nm -> b ≠ c -> H' b = some o) -> Q (.ref l) H'
theorem ok_FunctionNames_name_at (T : Tx K mg a) : Gd P w K mg base CX0 2 a.f_FunctionNames_name_at ["self","level"] (spNameAt a) := by
  refine T.fn_FunctionNames_name_at.ok sc_FunctionNames_name_at (fun vs H Q E h => ?_) (fun cdv A outer s H vs Q E hr h => ?_)
  · obtain ⟨nm,dx,f,c,left,k,j,rfl,_⟩ := h
    rfl
  · obtain ⟨nm,dx,f,c,left,k0,j,rfl,W,hb,k⟩ := h
    refine ⟨_,pss_cons (ps_while PassesOwn.never (pt_cmpR op_le (pe_callB call_len_seq rfl T.b_len PySem.boot_len (pa_cons (pe_fld (pv 0) rfl) pa_nil)) (pv 1) (nomark _))
        (pss_cons (ps_set (i := 2) sc_FunctionNames_name_at.nd rfl (Or.inl rfl) (pe_callG (ok_name_in_order T) hr (by decide) rfl T.mg_name_in_order T.kp_name_in_order pass0 (pa_cons (pe_fld (pv 0) rfl) pa_nil)))
        (pss_cons (ps_fldaug (pv 0) pe_int in_add)
        (pss_one (ps_if (pt_cmp (pc_dnotin (hu_of hr) (pv 2) (pe_fld (pv 0) rfl)))
          (pss_one (ps_expr (pe_bm PySem.F.plainAttrs_list PySem.F.slot_list_append PySem.F.type_list_append mt_append (pe_fld (pv 0) rfl) (pa_cons (pv 2) pa_nil))))
          pss_nil)))))
      (pss_one (ps_ret (pe_callTy call_list_of rfl T.b_list (by decide +kernel) (pa_cons (pe_ix ix_list (pe_fld (pv 0) rfl) (pv 1) (fun _ _ => rfl)) pa_nil)))),?_⟩
    refine ⟨fun m σ H' => (∃ v2,σ = [some (.ref nm),some (.int j),v2]) /\ (∀ b o,H b = some o -> b ≠ nm -> b ≠ c -> H' b = some o) /\ (∀ l,H' l = none -> H l = none) /\ ∃ k',NmAt a H' nm dx f c left k' /\ m = j + left.length + 1 - k',
      ⟨_,⟨_,rfl⟩,fun _ _ e _ _ => e,fun _ e => e,k0,W,rfl⟩,?_⟩
    rintro m σ H' ⟨⟨v2,rfl⟩,fr,fre,k',W',rfl⟩
    obtain ⟨xs,h1,h2⟩ := W'.ch
    obtain ⟨kvs,h3,h4⟩ := W'.tk
    have lx : xs.length = (pool left k').length := Paired.length h2
    have lp := pool_len left k'
    refine ⟨_,rfl,nm,_,dx,_,_,rfl,W'.obj,T.cl_FunctionNames,T.na_FunctionNames_chosen,rfl,c,_,rfl,.inl (SqL.of h1),_,rfl,_,_,rfl,rfl,_,rfl,?_⟩
    refine ite2 (fun cc => ?_) (fun cc => ?_)
    · have c' : ((xs.length : Nat) : Int) <= (j : Nat) := of_decide_eq_true cc
      refine ⟨_,fun _ _ z => z,?_⟩
      refine ⟨_,rfl,nm,_,dx,_,_,rfl,W'.obj,T.cl_FunctionNames,T.na_FunctionNames_tried,rfl,k',rfl,by omega,fun H2 t ht sm2 => ?_⟩
      have W2 := W'.same sm2
      have o2 := W2.obj
      refine ⟨_,rfl,nm,_,dx,_,_,rfl,o2,T.cl_FunctionNames,T.na_FunctionNames_tried,rfl,_,_,rfl,rfl,dx,_,o2,(show 3 < 1000 by decide),?_⟩
      have k3 : Keep a.c_Term H2 (upd H2 nm (.ins a.c_FunctionNames dx (putF "tried" (.int (k' + 1)) (fnf (.ref f) (.ref c) k')))) := Keep.upd o2 (ne_FunctionNames T)
      have hc3 : upd H2 nm (.ins a.c_FunctionNames dx (putF "tried" (.int (k' + 1)) (fnf (.ref f) (.ref c) k'))) c = some (.lst xs) := by rw [upd_ne (Ne.symm W'.nc)]; exact sm2 _ _ h1
      have hf3 : upd H2 nm (.ins a.c_FunctionNames dx (putF "tried" (.int (k' + 1)) (fnf (.ref f) (.ref c) k'))) f = some (.dT kvs) := by rw [upd_ne W'.fc.2]; exact sm2 _ _ h3
      have hn3 : upd H2 nm (.ins a.c_FunctionNames dx (putF "tried" (.int (k' + 1)) (fnf (.ref f) (.ref c) k'))) nm = some (.ins a.c_FunctionNames dx (fnf (.ref f) (.ref c) ((k' + 1 : Nat) : Int))) := upd_same
      have ht3 := k3 _ _ ht trivial
      have pr3 : Paired (NameAt (upd H2 nm (.ins a.c_FunctionNames dx (putF "tried" (.int (k' + 1)) (fnf (.ref f) (.ref c) k'))))) xs (pool left k') := paired_imp (fun v e h => NameAt.keep k3 (NameAt.keep (C := a.c_Term) (.of sm2) h)) h2
      have fr3 : ∀ b o,H b = some o -> b ≠ nm -> b ≠ c -> upd H2 nm (.ins a.c_FunctionNames dx (putF "tried" (.int (k' + 1)) (fnf (.ref f) (.ref c) k'))) b = some o := fun b o e n1 n2 => by rw [upd_ne n1]; exact sm2 _ _ (fr b o e n1 n2)
      have fre3 : ∀ l,upd H2 nm (.ins a.c_FunctionNames dx (putF "tried" (.int (k' + 1)) (fnf (.ref f) (.ref c) k'))) l = none -> H l = none := fun l e => by
        have nl : l ≠ nm := fun z => by rw [z,upd_same] at e; cases e
        rw [upd_ne nl] at e
        exact fre l (sm2.free e)
      generalize upd H2 nm (.ins a.c_FunctionNames dx (putF "tried" (.int (k' + 1)) (fnf (.ref f) (.ref c) k'))) = H3 at k3 hc3 hf3 hn3 ht3 pr3 fr3 fre3
      refine ⟨_,rfl,_,rfl,nm,_,dx,_,_,rfl,hn3,T.cl_FunctionNames,T.na_FunctionNames_taken,rfl,f,_,rfl,DGet.t hf3 ht3,_,rfl,?_⟩
      have h4' := h4 (Sy10.nameAt k')
      have ps := pool_succ left k'
      cases hv : (valV kvs (ky (Sy10.nameAt k'))).isSome with
      | true =>
        have hin : left.contains (Sy10.nameAt k') = true := by simpa using h4'.mp hv
        rw [if_pos hin,List.append_nil] at ps
        refine iteF ⟨j + left.length + 1 - (k' + 1),by omega,⟨_,rfl⟩,fr3,fre3,k' + 1,⟨hn3,⟨kvs,hf3,h4⟩,⟨xs,hc3,by rw [ps]; exact pr3⟩⟩,rfl⟩
      | false =>
        have hout : ¬ left.contains (Sy10.nameAt k') = true := fun z => by
          have := h4'.mpr (by simpa using z)
          rw [hv] at this
          cases this
        rw [if_neg hout] at ps
        refine iteT ⟨_,rfl,nm,_,dx,_,_,rfl,hn3,T.cl_FunctionNames,T.na_FunctionNames_chosen,rfl,.inl ⟨rfl,_,SqL.of hc3⟩,_,rfl,c,_,_,rfl,rfl,hc3,?_,?_⟩
        · exact Nat.lt_of_le_of_lt (show xs.length <= 1000000 by omega) (by decide)
        · have k4 : Keep a.c_Term H3 (upd H3 c (.lst (xs ++ [.ref t]))) := Keep.upd hc3 (fun z => z)
          refine ⟨j + left.length + 1 - (k' + 1),by omega,⟨_,rfl⟩,fun b o e n1 n2 => by rw [upd_ne n2]; exact fr3 b o e n1 n2,fun l e => ?_,k' + 1,⟨by rw [upd_ne W'.nc]; exact hn3,⟨kvs,by rw [upd_ne W'.fc.1]; exact hf3,h4⟩,⟨_,upd_same,?_⟩⟩,rfl⟩
          · have nl : l ≠ c := fun z => by rw [z,upd_same] at e; cases e
            rw [upd_ne nl] at e
            exact fre3 l e
          · rw [ps]
            exact Paired.snoc (paired_imp (fun v e h => NameAt.keep k4 h) pr3) ⟨t,rfl,k4 _ _ ht3 trivial⟩
    · have c' : ¬ ((xs.length : Nat) : Int) <= (j : Nat) := fun z => cc (decide_eq_true z)
      have hj : j < (pool left k').length := by omega
      have e1 := List.getElem?_eq_getElem hj
      have e2 := pool_get e1
      obtain ⟨v,hv,t,rfl,ht⟩ := paired_get h2 e1
      refine ⟨_,rfl,nm,_,dx,_,_,rfl,W'.obj,T.cl_FunctionNames,T.na_FunctionNames_chosen,rfl,_,rfl,c,_,_,_,rfl,rfl,SqL.of h1,atI_nat hv,t,_,rfl,.inr (SqT.of ht),fun l hl => ?_⟩
      refine k _ k' l (W'.same (same_new hl)) ?_ (fre l hl) fun b o e n1 n2 => same_new hl _ _ (fr b o e n1 n2)
      rw [upd_same,ky_map,e2]
end
end Ft
end

section
namespace Ft
open PySem PySem.Spec PyProof.Rows L2
inductive Pc where
  | txt (b : List Nat)
  | part (n : N) (j : Nat) (la ar : Bool)
noncomputable def flatP (nm : Nat -> List Nat) : List Pc -> List Nat
  | [] => []
  | .txt b :: l => b ++ flatP nm l
  | .part n j la ar :: l => sayE nm n j la ar ++ flatP nm l
theorem flatP_app (nm : Nat -> List Nat) : ∀ l m : List Pc,flatP nm (l ++ m) = flatP nm l ++ flatP nm m
  | [],m => rfl
  | .txt b :: l,m => by simp only [List.cons_append,flatP,flatP_app nm l m,List.append_assoc]
  | .part n j la ar :: l,m => by simp only [List.cons_append,flatP,flatP_app nm l m,List.append_assoc]
noncomputable def parP (l : List Pc) : List Pc := [.txt [40]] ++ l ++ [.txt [41]]
noncomputable def pcs (nm : Nat -> List Nat) : N -> Nat -> Bool -> Bool -> List Pc
  | .free x,_,_,_ => [.txt x]
  | .bound _,_,_,_ => []
  | .outer l,_,_,_ => [.txt (nm l)]
  | .app x y,j,la,ar => if ar = true then parP [.part x j false false,.txt [32],.part y j (la || ar) true] else [.part x j false false,.txt [32],.part y j (la || ar) true]
  | .fn x,j,la,_ => if la = true then [.txt ([92] ++ nm j ++ [46]),.part x (j + 1) true false] else parP [.txt ([92] ++ nm j ++ [46]),.part x (j + 1) true false]
theorem pcs_flat (nm : Nat -> List Nat) : ∀ (n : N) (j : Nat) (la ar : Bool),flatP nm (pcs nm n j la ar) = sayE nm n j la ar
  | .free x,_,_,_ => by simp [pcs,flatP,sayE]
  | .bound _,_,_,_ => rfl
  | .outer l,_,_,_ => by simp [pcs,flatP,sayE]
  | .app x y,j,la,ar => by cases ar <;> simp [pcs,parP,flatP,sayE]
  | .fn x,j,la,ar => by cases la <;> simp [pcs,parP,flatP,sayE]
noncomputable def wtC : List Pc -> Nat
  | [] => 0
  | .txt _ :: l => 1 + wtC l
  | .part n _ _ _ :: l => 4 * n.size + wtC l
theorem wtC_app : ∀ l m : List Pc,wtC (l ++ m) = wtC l + wtC m
  | [],m => by simp [wtC]
  | .txt b :: l,m => by simp only [List.cons_append,wtC,wtC_app l m]; omega
  | .part n j la ar :: l,m => by simp only [List.cons_append,wtC,wtC_app l m]; omega
theorem wtC_len : ∀ l : List Pc,l.length <= wtC l
  | [] => Nat.le_refl _
  | .txt b :: l => by have := wtC_len l; simp only [List.length_cons,wtC]; omega
  | .part n j la ar :: l => by have := wtC_len l; have := n.size_pos; simp only [List.length_cons,wtC]; omega
theorem pcs_wt (nm : Nat -> List Nat) : ∀ (n : N) (j : Nat) (la ar : Bool),wtC (pcs nm n j la ar) < 4 * n.size
  | .free x,_,_,_ => by simp [pcs,wtC,N.size]
  | .bound _,_,_,_ => by simp [pcs,wtC,N.size]
  | .outer l,_,_,_ => by simp [pcs,wtC,N.size]
  | .app x y,j,la,ar => by cases ar <;> simp [pcs,parP,wtC,N.size] <;> omega
  | .fn x,j,la,ar => by cases la <;> simp [pcs,parP,wtC,N.size] <;> omega
noncomputable def Pc.low (m : Nat) : Pc -> Prop
  | .txt _ => True
  | .part n j _ _ => n.ent j /\ j + n.size <= m
theorem pcs_low {nm : Nat -> List Nat} {m : Nat} : ∀ {n : N} {j : Nat} {la ar : Bool},(Pc.part n j la ar).low m -> ∀ p ∈ pcs nm n j la ar,p.low m
  | .free x,_,_,_,_ => fun p hp => by simp [pcs] at hp; rw [hp]; trivial
  | .bound _,_,_,_,_ => fun p hp => by simp [pcs] at hp
  | .outer l,_,_,_,_ => fun p hp => by simp [pcs] at hp; rw [hp]; trivial
  | .app x y,j,la,ar,h => fun p hp => by
    have h1 : x.ent j /\ y.ent j := h.1
    have h2 : j + (x.size + y.size + 1) <= m := h.2
    cases ar <;> simp [pcs,parP] at hp <;> rcases hp with rfl | hp <;> first | trivial | exact ⟨h1.1,by omega⟩ | skip
    · rcases hp with rfl | rfl
      · trivial
      · exact ⟨h1.2,by omega⟩
    · rcases hp with rfl | rfl | rfl | rfl
      · exact ⟨h1.1,by omega⟩
      · trivial
      · exact ⟨h1.2,by omega⟩
      · trivial
  | .fn x,j,la,ar,h => fun p hp => by
    have h1 : x.ent (j + 1) := h.1
    have h2 : j + (x.size + 1) <= m := h.2
    cases la <;> simp [pcs,parP] at hp
    · rcases hp with rfl | rfl | rfl | rfl
      · trivial
      · trivial
      · exact ⟨h1,by omega⟩
      · trivial
    · rcases hp with rfl | rfl
      · trivial
      · exact ⟨h1,by omega⟩
noncomputable abbrev partF : List Str := ["term","level","is_last","is_argument"]
noncomputable def PcAt (a : Ad) (H : Hp) (S : List Addr) (v : V) : Pc -> Prop
  | .txt b => ∃ l,v = .ref l /\ H l = some (.lst (byV b)) /\ l ∉ S
  | .part n j la ar => ∃ p dx q,v = .ref p /\ H p = some (.ins a.c_Part dx (partF.zip [.ref q,.int j,.bl la,.bl ar])) /\ TermAt a.c_Term H q n
noncomputable def Fb (S : List Addr) (H H' : Hp) : Prop := ∀ b o,H b = some o -> b ∉ S -> H' b = some o
theorem Fb.trans {S : List Addr} {H H1 H2 : Hp} (x : Fb S H H1) (y : Fb S H1 H2) : Fb S H H2 := fun b o e n => y b o (x b o e n) n
theorem Fb.of {S : List Addr} {H H' : Hp} (x : Same H H') : Fb S H H' := fun b o e _ => x b o e
theorem Fb.upd {S : List Addr} {H : Hp} {p : Addr} {o : HO} (h : p ∈ S) : Fb S H (L2.upd H p o) := fun b u e n => by
  have ne : b ≠ p := fun z => n (by rw [z]; exact h)
  rw [upd_ne ne]
  exact e
noncomputable def Mu (C : Addr) (S : List Addr) (H : Hp) : Prop := ∀ b ∈ S,∃ o,H b = some o /\ ((∃ xs,o = .lst xs) \/ ∃ C' dx fs,o = .ins C' dx fs /\ C' ≠ C)
theorem Fb.keep {C : Addr} {S : List Addr} {H H' : Hp} (x : Fb S H H') (m : Mu C S H) : Keep C H H' := fun b o e i => x b o e fun hb => by
  obtain ⟨o',e',h⟩ := m b hb
  rw [e] at e'
  cases e'
  rcases h with ⟨xs,rfl⟩ | ⟨C',dx,fs,rfl,ne⟩
  · exact i
  · exact ne i
theorem PcAt.fb {a : Ad} {S : List Addr} {H H' : Hp} (x : Fb S H H') (m : Mu a.c_Term S H) (hS : ∀ b ∈ S,∀ dx fs,H b ≠ some (.ins a.c_Part dx fs)) {v : V} : ∀ {p : Pc},PcAt a H S v p -> PcAt a H' S v p
  | .txt b,⟨l,h1,h2,h3⟩ => ⟨l,h1,x _ _ h2 h3,h3⟩
  | .part n j la ar,⟨p,dx,q,h1,h2,h3⟩ => ⟨p,dx,q,h1,x _ _ h2 fun hb => hS p hb _ _ h2,h3.keep (x.keep m)⟩
theorem PcAt.same {a : Ad} {S : List Addr} {H H' : Hp} (x : Same H H') {v : V} : ∀ {p : Pc},PcAt a H S v p -> PcAt a H' S v p
  | .txt b,⟨l,h1,h2,h3⟩ => ⟨l,h1,x _ _ h2,h3⟩
  | .part n j la ar,⟨p,dx,q,h1,h2,h3⟩ => ⟨p,dx,q,h1,x _ _ h2,h3.same x⟩
theorem nmem_new {S : List Addr} {H : Hp} {l : Addr} (h : H l = none) (hS : ∀ b ∈ S,∃ o,H b = some o) : l ∉ S := fun m => by
  obtain ⟨o,e⟩ := hS l m
  rw [h] at e
  cases e
theorem stk_rev {α : Type} {R : V -> α -> Prop} : ∀ {us : List V} {ps : List α} {vs : List V} {l : List α},Paired R us ps -> Stk R vs l -> Stk R (vs ++ us.reverse) (ps ++ l)
  | _,_,vs,l,.nil,h => by simpa using h
  | _,_,vs,l,.cons (a := u) (b := p) (l₁ := us) (l₂ := ps) r t,h => by
    have := stk_rev t h
    rw [List.reverse_cons,<- List.append_assoc]
    exact .push this r
section
variable {P : Program} {w : World} {K : PySem.W.Frag} {mg : Str -> Option Value} {base : Heap} {a : Ad}
theorem ne_Part (T : Tx K mg a) : a.c_Part ≠ a.c_Term /\ a.c_Part ≠ a.c_FunctionNames := ⟨cls_ne T.mk_Part T.mk_Term T.fn_Part_init T.fn_Term_init (by decide +kernel),cls_ne T.mk_Part T.mk_FunctionNames T.fn_Part_init T.fn_FunctionNames_init (by decide +kernel)⟩
theorem ok_Part_init (T : Tx K mg a) : Gd P w K mg base CX0 1 a.f_Part_init ["self","term","level","is_last","is_argument"] (spIn a.c_Part partF) := by
  refine T.fn_Part_init.ok sc_Part_init (spIn_len rfl) (fun cdv A outer s H vs Q E hr h => ?_)
  obtain ⟨p,dx,args,rfl,l,hp,k⟩ := h
  obtain ⟨x1,r1,rfl,m1⟩ := len_succ (n := 3) l
  obtain ⟨x2,r2,rfl,m2⟩ := len_succ (n := 2) m1
  obtain ⟨x3,r3,rfl,m3⟩ := len_succ (n := 1) m2
  obtain ⟨x4,r4,rfl,m4⟩ := len_succ (n := 0) m3
  cases List.eq_nil_of_length_eq_zero m4
  refine ⟨_,pss_cons (ps_fld (pv 0) (pv 1) rfl) (pss_cons (ps_fld (pv 0) (pv 2) rfl) (pss_cons (ps_fld (pv 0) (pv 3) rfl) (pss_one (ps_fld (pv 0) (pv 4) rfl)))),?_⟩
  refine ⟨_,rfl,_,rfl,p,a.c_Part,dx,_,rfl,hp,T.cl_Part,T.na_Part_term,(show 0 < 1000 by decide),?_⟩
  refine ⟨_,rfl,_,rfl,p,a.c_Part,dx,_,rfl,upd_same,T.cl_Part,T.na_Part_level,(show 1 < 1000 by decide),?_⟩
  refine ⟨_,rfl,_,rfl,p,a.c_Part,dx,_,rfl,upd_same,T.cl_Part,T.na_Part_is_last,(show 2 < 1000 by decide),?_⟩
  refine ⟨_,rfl,_,rfl,p,a.c_Part,dx,_,rfl,upd_same,T.cl_Part,T.na_Part_is_argument,(show 3 < 1000 by decide),?_⟩
  exact k _ upd_same fun b hb => by simp only [upd_ne hb]
noncomputable def spParen (a : Ad) : Sp := fun vs H Q _ => ∃ (r : Addr) (us : List V) (ps : List Pc) (S : List Addr),vs = [.ref r] /\ H r = some (.lst us) /\ us.length <= 1000 /\ Paired (PcAt a H S) us ps /\ (∀ b ∈ S,∃ o,H b = some o) /\
  ∀ (H' : Hp) (r' : Addr) (us' : List V),H' r' = some (.lst us') -> us'.length <= us.length + 2 -> Paired (PcAt a H' S) us' (parP ps) -> Same H H' -> Q (.ref r') H'
theorem ok_in_parentheses (T : Tx K mg a) : Gd P w K mg base CX0 1 a.f_in_parentheses ["pieces"] (spParen a) := by
  refine T.fn_in_parentheses.ok sc_in_parentheses (fun vs H Q E h => ?_) (fun cdv A outer s H vs Q E hr h => ?_)
  · obtain ⟨r,us,ps,S,rfl,_⟩ := h
    rfl
  · obtain ⟨r,us,ps,S,rfl,hrr,hlen,hp,hS,k⟩ := h
    refine ⟨_,pss_one (ps_ret (pe_op op_cat (pe_op op_cat (pe_lst (pa_cons (pe_lst (pa_cons (pe_k T.k_LEFT_PARENTHESIS) pa_nil)) pa_nil)) (pv 0)) (pe_lst (pa_cons (pe_lst (pa_cons (pe_k T.k_RIGHT_PARENTHESIS) pa_nil)) pa_nil)))),?_⟩
    have small : ∀ n,n <= 2000 -> n <= sizeLine := fun n h => Nat.le_trans h (by decide)
    refine ⟨small _ (by decide),fun l1 h1 => ⟨small 1 (by decide),fun l2 h2 => ?_⟩⟩
    have s1 := same_new (o := .lst [.int 40]) h1
    have s2 := s1.trans (same_new (o := .lst [.ref l1]) h2)
    refine ⟨_,rfl,l2,r,_,_,rfl,rfl,upd_same,s2 _ _ hrr,small _ (by simp only [List.length_cons,List.length_nil]; omega),fun l3 h3 => ?_⟩
    have s3 := s2.trans (same_new (o := .lst ([.ref l1] ++ us)) h3)
    refine ⟨small _ (by decide),fun l4 h4 => ⟨small 1 (by decide),fun l5 h5 => ?_⟩⟩
    have s4 := s3.trans (same_new (o := .lst [.int 41]) h4)
    have s5 := s4.trans (same_new (o := .lst [.ref l4]) h5)
    refine ⟨l3,l5,_,_,rfl,rfl,same_new h5 _ _ (same_new h4 _ _ upd_same),upd_same,small _ (by simp only [List.length_cons,List.length_nil,List.length_append]; omega),fun l6 h6 => ?_⟩
    have s6 := s5.trans (same_new (o := .lst ([.ref l1] ++ us ++ [.ref l4])) h6)
    refine k _ l6 _ upd_same (by simp only [List.length_cons,List.length_nil,List.length_append]; omega) ?_ s6
    have n1 : l1 ∉ S := nmem_new h1 hS
    have n4 : l4 ∉ S := nmem_new h4 fun b hb => by obtain ⟨o,e⟩ := hS b hb; exact ⟨o,s3 _ _ e⟩
    refine Paired.snoc (.cons ?_ (paired_imp (fun v e h => PcAt.same s6 h) hp)) ?_
    · exact ⟨l1,rfl,same_new h6 _ _ (same_new h5 _ _ (same_new h4 _ _ (same_new h3 _ _ (same_new h2 _ _ upd_same)))),n1⟩
    · exact ⟨l4,rfl,same_new h6 _ _ (same_new h5 _ _ upd_same),n4⟩
end
end Ft
end

section
namespace Ft
open PySem PySem.Spec PyProof.Rows L2
structure Sy (a : Ad) (H : Hp) (S : List Addr) (nm dx f c : Addr) (left : List (List Nat)) (k : Nat) : Prop where
  nmA : NmAt a H nm dx f c left k
  nmS : nm ∈ S
  cS : c ∈ S
  mu : Mu a.c_Term S H
  np : ∀ b ∈ S,∀ dx fs,H b ≠ some (.ins a.c_Part dx fs)
theorem Mu.ex {C : Addr} {S : List Addr} {H : Hp} (m : Mu C S H) : ∀ b ∈ S,∃ o,H b = some o := fun b hb => by
  obtain ⟨o,e,_⟩ := m b hb
  exact ⟨o,e⟩
theorem Sy.same {a : Ad} {H H' : Hp} {S : List Addr} {nm dx f c : Addr} {left : List (List Nat)} {k : Nat} (s : Sy a H S nm dx f c left k) (sm : Same H H') : Sy a H' S nm dx f c left k := by
  refine ⟨s.nmA.same sm,s.nmS,s.cS,fun b hb => ?_,fun b hb dx fs e => ?_⟩
  · obtain ⟨o,e,h⟩ := s.mu b hb
    exact ⟨o,sm _ _ e,h⟩
  · obtain ⟨o,e2,h⟩ := s.mu b hb
    have := sm _ _ e2
    rw [e] at this
    cases this
    exact s.np b hb dx fs e2
theorem Sy.wide {a : Ad} {H H1 H2 : Hp} {S : List Addr} {nm dx f c : Addr} {left : List (List Nat)} {k : Nat} (s : Sy a H S nm dx f c left k) (fb : Fb [nm,c] H1 H2) : Fb S H1 H2 := fun b o e hb => fb b o e (by
  simp only [List.mem_cons,List.not_mem_nil,or_false,not_or]
  exact ⟨fun z => hb (by rw [z]; exact s.nmS),fun z => hb (by rw [z]; exact s.cS)⟩)
theorem Sy.named {a : Ad} {K : PySem.W.Frag} {mg : Str -> Option Value} (T : Tx K mg a) {H H' : Hp} {S : List Addr} {nm dx f c : Addr} {left : List (List Nat)} {k k' : Nat} (s : Sy a H S nm dx f c left k) (n : NmAt a H' nm dx f c left k')
    (fr : ∀ b o,H b = some o -> b ≠ nm -> b ≠ c -> H' b = some o) : Sy a H' S nm dx f c left k' /\ Fb [nm,c] H H' := by
  have fb : Fb [nm,c] H H' := fun b o e hb => fr b o e (fun z => hb (by rw [z]; simp)) (fun z => hb (by rw [z]; simp))
  refine ⟨⟨n,s.nmS,s.cS,fun b hb => ?_,fun b hb dx2 fs e => ?_⟩,fb⟩
  · by_cases h1 : b = nm
    · subst h1
      exact ⟨_,n.obj,.inr ⟨_,_,_,rfl,ne_FunctionNames T⟩⟩
    · by_cases h2 : b = c
      · subst h2
        obtain ⟨xs,hx,_⟩ := n.ch
        exact ⟨_,hx,.inl ⟨_,rfl⟩⟩
      · obtain ⟨o,e,h⟩ := s.mu b hb
        exact ⟨o,fr b o e h1 h2,h⟩
  · by_cases h1 : b = nm
    · subst h1
      rw [n.obj] at e
      have e2 := Option.some.inj e
      injection e2 with e3 _ _
      exact (ne_Part T).2 e3.symm
    · by_cases h2 : b = c
      · subst h2
        obtain ⟨xs,hx,_⟩ := n.ch
        rw [hx] at e
        cases e
      · obtain ⟨o,e2,h⟩ := s.mu b hb
        have := fr b o e2 h1 h2
        rw [e] at this
        cases this
        exact s.np b hb dx2 fs e2
noncomputable def PcOut (a : Ad) (H : Hp) (S : List Addr) (nm dx f c : Addr) (left : List (List Nat)) (ps : List Pc) (Q : VK) : Prop :=
  ∀ (H' : Hp) (r : Addr) (us : List V) (k' : Nat),H' r = some (.lst us) -> us.length <= 10 -> Paired (PcAt a H' S) us ps -> Sy a H' S nm dx f c left k' -> Fb [nm,c] H H' -> Q (.ref r) H'
noncomputable def spPfn (a : Ad) : Sp := fun vs H Q _ => ∃ (p nm dx f c : Addr) (S : List Addr) (left : List (List Nat)) (k j : Nat) (x : N) (la ar : Bool),vs = [.ref p,.ref nm] /\ Sy a H S nm dx f c left k /\ PcAt a H S (.ref p) (.part (.fn x) j la ar) /\
  j + left.length < 20000 /\ PcOut a H S nm dx f c left (pcs (Sy10.fresh left) (.fn x) j la ar) Q
section
variable {P : Program} {w : World} {K : PySem.W.Frag} {mg : Str -> Option Value} {base : Heap} {a : Ad}
theorem ok_pieces_of_function (T : Tx K mg a) : Gd P w K mg base CX0 3 a.f_pieces_of_function ["part","names"] (spPfn a) := by
  refine T.fn_pieces_of_function.ok sc_pieces_of_function (fun vs H Q E h => ?_) (fun cdv A outer s H vs Q E hr h => ?_)
  · obtain ⟨p,nm,dx,f,c,S,left,k,j,x,la,ar,rfl,_⟩ := h
    rfl
  · obtain ⟨p,nm,dx,f,c,S,left,k0,j,x,la,ar,rfl,sy,⟨p0,dp,q,e0,hp,hq⟩,hj,k⟩ := h
    cases e0
    refine ⟨_,pss_cons (ps_set (i := 2) sc_pieces_of_function.nd rfl (Or.inl rfl) (pe_op op_cat (pe_op op_cat (pe_lst (pa_cons (pe_k T.k_BACKSLASH) pa_nil)) (pe_methG (pv 1) T.cl_FunctionNames T.me_FunctionNames_name_at (ok_FunctionNames_name_at T) hr (by decide) pass0 (pa_cons (pe_fld (pv 0) rfl) pa_nil))) (pe_lst (pa_cons (pe_k T.k_POINT) pa_nil))))
      (pss_cons (ps_set (i := 3) sc_pieces_of_function.nd rfl (Or.inl rfl) (pe_lst (pa_cons (pv 2) (pa_cons (pe_makeG T.mk_Part (ok_Part_init T) hr (by decide) rfl T.mg_Part pass0 (pa_cons (pe_fld (pe_fld (pv 0) rfl) rfl) (pa_cons (pe_op op_add (pe_fld (pv 0) rfl) pe_int) (pa_cons pe_bl (pa_cons pe_bl pa_nil))))) pa_nil))))
      (pss_one (ps_ret (pe_ifExp (pt_val (pe_fld (pv 0) rfl)) (pv 3) (pe_callG (ok_in_parentheses T) hr (by decide) rfl T.mg_in_parentheses T.kp_in_parentheses pass0 (pa_cons (pv 3) pa_nil)))))),?_⟩
    refine ⟨(show 1 <= sizeLine by decide),fun l1 h1 => ?_⟩
    have s1 := same_new (o := .lst [.int 92]) h1
    have sy1 := sy.same s1
    refine ⟨_,rfl,nm,dx,_,rfl,sy1.nmA.obj,rfl,_,rfl,p,_,dp,_,_,rfl,s1 _ _ hp,T.cl_Part,T.na_Part_level,rfl,?_⟩
    refine ⟨nm,dx,f,c,left,k0,j,rfl,sy1.nmA,by omega,fun H2 k2 l2 N2 e2 n2 fr2 => ?_⟩
    obtain ⟨sy2,fb2⟩ := sy1.named T N2 fr2
    have fb1 : Fb [nm,c] H H2 := (Fb.of s1).trans fb2
    have hp2 : PcAt a H2 S (.ref p) (.part (.fn x) j la ar) := PcAt.fb (sy.wide fb1) sy.mu sy.np ⟨p,dp,q,rfl,hp,hq⟩
    obtain ⟨p0,dp2,q2,e0,hp2,hq2⟩ := hp2
    cases e0
    have n1S : l1 ∉ S := nmem_new h1 sy.mu.ex
    have e1 : H2 l1 = some (.lst [.int 92]) := (sy.wide fb2) _ _ upd_same n1S
    have fl : (Sy10.fresh left j).length <= 4 := fresh_len (by omega)
    refine ⟨l1,l2,_,_,rfl,rfl,e1,e2,?_,fun l3 h3 => ?_⟩
    · rw [byV_length]
      exact Nat.le_trans (show 1 + (Sy10.fresh left j).length <= 100 by omega) (by decide)
    have s3 := same_new (o := .lst ([.int 92] ++ byV (Sy10.fresh left j))) h3
    refine ⟨(show 1 <= sizeLine by decide),fun l4 h4 => ?_⟩
    have s4 := s3.trans (same_new (o := .lst [.int 46]) h4)
    refine ⟨l3,l4,_,_,rfl,rfl,same_new h4 _ _ upd_same,upd_same,?_,fun l5 h5 => ?_⟩
    · rw [List.length_append,byV_length]
      exact Nat.le_trans (show 1 + (Sy10.fresh left j).length + 1 <= 100 by omega) (by decide)
    have s5 := s4.trans (same_new (o := .lst (([.int 92] ++ byV (Sy10.fresh left j)) ++ [.int 46])) h5)
    have e5 : upd (upd (upd H2 l3 (.lst ([.int 92] ++ byV (Sy10.fresh left j)))) l4 (.lst [.int 46])) l5 (.lst (([.int 92] ++ byV (Sy10.fresh left j)) ++ [.int 46])) l5 = some (.lst (byV ([92] ++ Sy10.fresh left j ++ [46]))) := by
      rw [upd_same]
      unfold byV
      rw [List.map_append,List.map_append]
      rfl
    have n5S : l5 ∉ S := nmem_new h5 (fun b hb => by obtain ⟨o,e⟩ := sy2.mu.ex b hb; exact ⟨o,s4 _ _ e⟩)
    generalize upd (upd (upd H2 l3 (.lst ([.int 92] ++ byV (Sy10.fresh left j)))) l4 (.lst [.int 46])) l5 (.lst (([.int 92] ++ byV (Sy10.fresh left j)) ++ [.int 46])) = H5 at s5 e5
    have sy5 := sy2.same s5
    have hp5 := s5 _ _ hp2
    have hq5 := hq2.same s5
    cases hq5 with
    | @fn _ pa _ ho ha =>
      obtain ⟨d6,o6⟩ := ho
      refine ⟨_,rfl,_,rfl,p,_,dp2,_,_,rfl,hp5,T.cl_Part,T.na_Part_term,rfl,q2,_,d6,_,_,rfl,o6,T.cl_Term,T.na_Term_first,rfl,_,rfl,p,_,dp2,_,_,rfl,hp5,T.cl_Part,T.na_Part_level,rfl,_,_,rfl,rfl,fun y dy ny ndy ned => ?_⟩
      refine ⟨y,dy,_,rfl,rfl,upd_same,fun H6 g1 g2 => ⟨rfl,?_⟩⟩
      have s6 := same_made ny ndy g2
      refine ⟨(show 2 <= sizeLine by decide),fun l7 h7 => ?_⟩
      have s7 := s6.trans (same_new (o := .lst [.ref l5,.ref y]) h7)
      have sy7 := sy5.same s7
      have fb7 : Fb [nm,c] H (upd H6 l7 (.lst [.ref l5,.ref y])) := (fb1.trans (.of s5)).trans (.of s7)
      have pr : Paired (PcAt a (upd H6 l7 (.lst [.ref l5,.ref y])) S) [.ref l5,.ref y] [.txt ([92] ++ Sy10.fresh left j ++ [46]),.part x (j + 1) true false] :=
        .cons ⟨l5,rfl,s7 _ _ e5,n5S⟩ (.cons ⟨y,dy,pa,rfl,same_new h7 _ _ g1,ha.same s7⟩ .nil)
      refine ⟨_,rfl,p,_,dp2,_,_,rfl,s7 _ _ hp5,T.cl_Part,T.na_Part_is_last,rfl,_,rfl,?_⟩
      cases la with
      | true => exact iteT ⟨_,rfl,k _ l7 _ k2 upd_same (by simp) pr sy7 fb7⟩
      | false =>
        refine iteF ⟨_,rfl,l7,_,_,S,rfl,upd_same,by simp,pr,sy7.mu.ex,fun H8 r8 us8 u1 u2 u3 s8 => ?_⟩
        exact k H8 r8 us8 k2 u1 (by simp only [List.length_cons,List.length_nil] at u2; omega) u3 (sy7.same s8) (fb7.trans (.of s8))
noncomputable def spPap (a : Ad) : Sp := fun vs H Q _ => ∃ (p nm dx f c : Addr) (S : List Addr) (left : List (List Nat)) (k j : Nat) (x y : N) (la ar : Bool),vs = [.ref p] /\ Sy a H S nm dx f c left k /\ PcAt a H S (.ref p) (.part (.app x y) j la ar) /\
  PcOut a H S nm dx f c left (pcs (Sy10.fresh left) (.app x y) j la ar) Q
theorem ok_pieces_of_application (T : Tx K mg a) : Gd P w K mg base CX0 3 a.f_pieces_of_application ["part"] (spPap a) := by
  refine T.fn_pieces_of_application.ok sc_pieces_of_application (fun vs H Q E h => ?_) (fun cdv A outer s H vs Q E hr h => ?_)
  · obtain ⟨p,nm,dx,f,c,S,left,k,j,x,y,la,ar,rfl,_⟩ := h
    rfl
  · obtain ⟨p,nm,dx,f,c,S,left,k0,j,x,y,la,ar,rfl,sy,⟨p0,dp,q,e0,hp,hq⟩,k⟩ := h
    cases e0
    refine ⟨_,pss_cons (ps_set (i := 1) sc_pieces_of_application.nd rfl (Or.inl rfl) (pe_cut (pe_or (pe_fld (pv 0) rfl) (pe_one (pe_fld (pv 0) rfl)))))
      (pss_cons (ps_set (i := 2) sc_pieces_of_application.nd rfl (Or.inl rfl) (pe_makeG T.mk_Part (ok_Part_init T) hr (by decide) rfl T.mg_Part pass0 (pa_cons (pe_fld (pe_fld (pv 0) rfl) rfl) (pa_cons (pe_fld (pv 0) rfl) (pa_cons pe_bl (pa_cons pe_bl pa_nil))))))
      (pss_cons (ps_set (i := 3) sc_pieces_of_application.nd rfl (Or.inl rfl) (pe_makeG T.mk_Part (ok_Part_init T) hr (by decide) rfl T.mg_Part pass0 (pa_cons (pe_fld (pe_fld (pv 0) rfl) rfl) (pa_cons (pe_fld (pv 0) rfl) (pa_cons (pv 1) (pa_cons pe_bl pa_nil))))))
      (pss_cons (ps_set (i := 4) sc_pieces_of_application.nd rfl (Or.inl rfl) (pe_lst (pa_cons (pv 2) (pa_cons (pe_lst (pa_cons (pe_k T.k_SPACE) pa_nil)) (pa_cons (pv 3) pa_nil)))))
      (pss_one (ps_ret (pe_ifExp (pt_val (pe_fld (pv 0) rfl)) (pe_callG (ok_in_parentheses T) hr (by decide) rfl T.mg_in_parentheses T.kp_in_parentheses pass0 (pa_cons (pv 4) pa_nil)) (pv 4))))))),?_⟩
    cases hq with
    | @app _ pa pb _ _ ho ha hb =>
      obtain ⟨d6,o6⟩ := ho
      refine ⟨fun v H' => v = .bl (la || ar) /\ H' = H,?_,?_⟩
      · refine ⟨_,rfl,p,_,dp,_,_,rfl,hp,T.cl_Part,T.na_Part_is_last,rfl,_,rfl,?_⟩
        cases la with
        | true => exact iteT ⟨rfl,rfl⟩
        | false => exact iteF ⟨_,rfl,p,_,dp,_,_,rfl,hp,T.cl_Part,T.na_Part_is_argument,rfl,rfl,rfl⟩
      rintro v H1 ⟨rfl,rfl⟩
      refine ⟨_,rfl,p,_,dp,_,_,rfl,hp,T.cl_Part,T.na_Part_term,rfl,q,_,d6,_,_,rfl,o6,T.cl_Term,T.na_Term_first,rfl,_,rfl,p,_,dp,_,_,rfl,hp,T.cl_Part,T.na_Part_level,rfl,fun u du nu ndu ned => ?_⟩
      refine ⟨u,du,_,rfl,rfl,upd_same,fun H2 g1 g2 => ⟨rfl,?_⟩⟩
      have s2 := same_made nu ndu g2
      refine ⟨_,rfl,p,_,dp,_,_,rfl,s2 _ _ hp,T.cl_Part,T.na_Part_term,rfl,q,_,d6,_,_,rfl,s2 _ _ o6,T.cl_Term,T.na_Term_second,rfl,_,rfl,p,_,dp,_,_,rfl,s2 _ _ hp,T.cl_Part,T.na_Part_level,rfl,_,rfl,fun z dz nz ndz ned2 => ?_⟩
      refine ⟨z,dz,_,rfl,rfl,upd_same,fun H3 g3 g4 => ⟨rfl,?_⟩⟩
      have s3 := same_made nz ndz g4
      refine ⟨_,rfl,(show 1 <= sizeLine by decide),fun l4 h4 => ⟨_,rfl,(show 3 <= sizeLine by decide),fun l5 h5 => ?_⟩⟩
      have s4 := same_new (o := .lst [.int 32]) h4
      have s5 := s4.trans (same_new (o := .lst [.ref u,.ref l4,.ref z]) h5)
      have sa : Same H1 (upd (upd H3 l4 (.lst [.int 32])) l5 (.lst [.ref u,.ref l4,.ref z])) := (s2.trans s3).trans s5
      have sy5 := sy.same sa
      have n4S : l4 ∉ S := nmem_new h4 (fun b hb => by obtain ⟨o,e⟩ := sy.mu.ex b hb; exact ⟨o,s3 _ _ (s2 _ _ e)⟩)
      have pr : Paired (PcAt a (upd (upd H3 l4 (.lst [.int 32])) l5 (.lst [.ref u,.ref l4,.ref z])) S) [.ref u,.ref l4,.ref z] [.part x j false false,.txt [32],.part y j (la || ar) true] :=
        .cons ⟨u,du,pa,rfl,s5 _ _ (s3 _ _ g1),ha.same sa⟩ (.cons ⟨l4,rfl,same_new h5 _ _ upd_same,n4S⟩ (.cons ⟨z,dz,pb,rfl,s5 _ _ g3,hb.same sa⟩ .nil))
      refine ⟨_,rfl,p,_,dp,_,_,rfl,sa _ _ hp,T.cl_Part,T.na_Part_is_argument,rfl,_,rfl,?_⟩
      cases ar with
      | false => exact iteF ⟨_,rfl,k _ l5 _ k0 upd_same (by simp) pr sy5 (.of sa)⟩
      | true =>
        refine iteT ⟨_,rfl,l5,_,_,S,rfl,upd_same,by simp,pr,sy5.mu.ex,fun H8 r8 us8 u1 u2 u3 s8 => ?_⟩
        exact k H8 r8 us8 k0 u1 (by simp only [List.length_cons,List.length_nil] at u2; omega) u3 (sy5.same s8) (.of (sa.trans s8))
noncomputable def spPcs (a : Ad) : Sp := fun vs H Q _ => ∃ (p nm dx f c : Addr) (S : List Addr) (left : List (List Nat)) (k j : Nat) (n : N) (la ar : Bool),vs = [.ref p,.ref nm] /\ Sy a H S nm dx f c left k /\ PcAt a H S (.ref p) (.part n j la ar) /\
  n.ent j /\ j + n.size + left.length < 20000 /\ PcOut a H S nm dx f c left (pcs (Sy10.fresh left) n j la ar) Q
theorem ok_pieces_of (T : Tx K mg a) : Gd P w K mg base CX0 4 a.f_pieces_of ["part","names"] (spPcs a) := by
  refine T.fn_pieces_of.ok sc_pieces_of (fun vs H Q E h => ?_) (fun cdv A outer s H vs Q E hr h => ?_)
  · obtain ⟨p,nm,dx,f,c,S,left,k,j,n,la,ar,rfl,_⟩ := h
    rfl
  · obtain ⟨p,nm,dx,f,c,S,left,k0,j,n,la,ar,rfl,sy,hpc,hent,hj,k⟩ := h
    obtain ⟨p0,dp,q,e0,hp,hq⟩ := id hpc
    cases e0
    refine ⟨_,pss_cons (ps_if (pt_cmpR op_eq (pe_fld (pe_fld (pv 0) rfl) rfl) (pe_k T.k_FUNCTION) (nomark _))
        (pss_one (ps_ret (pe_callG (ok_pieces_of_function T) hr (by decide) rfl T.mg_pieces_of_function T.kp_pieces_of_function pass0 (pa_cons (pv 0) (pa_cons (pv 1) pa_nil)))))
        pss_nil)
      (pss_cons (ps_if (pt_cmpR op_eq (pe_fld (pe_fld (pv 0) rfl) rfl) (pe_k T.k_APPLICATION) (nomark _))
        (pss_one (ps_ret (pe_callG (ok_pieces_of_application T) hr (by decide) rfl T.mg_pieces_of_application T.kp_pieces_of_application pass0 (pa_cons (pv 0) pa_nil))))
        pss_nil)
      (pss_cons (ps_if (pt_cmpR op_eq (pe_fld (pe_fld (pv 0) rfl) rfl) (pe_k T.k_FREE) (nomark _))
        (pss_one (ps_ret (pe_lst (pa_cons (pe_callTy call_list_of rfl T.b_list (by decide +kernel) (pa_cons (pe_fld (pe_fld (pv 0) rfl) rfl) pa_nil)) pa_nil))))
        pss_nil)
      (pss_one (ps_ret (pe_lst (pa_cons (pe_methG (pv 1) T.cl_FunctionNames T.me_FunctionNames_name_at (ok_FunctionNames_name_at T) hr (by decide) pass0 (pa_cons (pe_fld (pe_fld (pv 0) rfl) rfl) pa_nil)) pa_nil)))))),?_⟩
    obtain ⟨l1,f1,g1,d1,o1⟩ := hq.obj
    refine ⟨_,rfl,p,_,dp,_,_,rfl,hp,T.cl_Part,T.na_Part_term,rfl,q,_,d1,_,_,rfl,o1,T.cl_Term,T.na_Term_kind,rfl,rfl,_,rfl,?_⟩
    cases hq with
    | @fn _ pa x ho ha =>
      refine iteT ⟨_,rfl,_,rfl,p,nm,dx,f,c,S,left,k0,j,x,la,ar,rfl,sy,hpc,by omega,k⟩
    | @app _ pa pb x y ho ha hb =>
      refine iteF ⟨_,rfl,p,_,dp,_,_,rfl,hp,T.cl_Part,T.na_Part_term,rfl,q,_,d1,_,_,rfl,o1,T.cl_Term,T.na_Term_kind,rfl,rfl,_,rfl,?_⟩
      refine iteT ⟨_,rfl,p,nm,dx,f,c,S,left,k0,j,x,y,la,ar,rfl,sy,hpc,k⟩
    | @free _ t x ho ht =>
      obtain ⟨d6,o6⟩ := ho
      refine iteF ⟨_,rfl,p,_,dp,_,_,rfl,hp,T.cl_Part,T.na_Part_term,rfl,q,_,d1,_,_,rfl,o1,T.cl_Term,T.na_Term_kind,rfl,rfl,_,rfl,?_⟩
      refine iteF ⟨_,rfl,p,_,dp,_,_,rfl,hp,T.cl_Part,T.na_Part_term,rfl,q,_,d1,_,_,rfl,o1,T.cl_Term,T.na_Term_kind,rfl,rfl,_,rfl,?_⟩
      refine iteT ⟨_,rfl,p,_,dp,_,_,rfl,hp,T.cl_Part,T.na_Part_term,rfl,q,_,d6,_,_,rfl,o6,T.cl_Term,T.na_Term_label,rfl,t,_,rfl,.inr (SqT.of ht),fun l hl => ?_⟩
      have s1 := same_new (o := .lst ((ky x).map kV)) hl
      refine ⟨(show 1 <= sizeLine by decide),fun l2 hl2 => ?_⟩
      have s2 := s1.trans (same_new (o := .lst [.ref l]) hl2)
      refine k _ l2 _ k0 upd_same (by simp) (.cons ⟨l,rfl,?_,nmem_new hl sy.mu.ex⟩ .nil) (sy.same s2) (.of s2)
      rw [<- ky_map]
      exact same_new hl2 _ _ upd_same
    | bound ho => exact False.elim hent
    | @outer _ lv ho =>
      obtain ⟨d6,o6⟩ := ho
      have hlv : lv < j := hent
      refine iteF ⟨_,rfl,p,_,dp,_,_,rfl,hp,T.cl_Part,T.na_Part_term,rfl,q,_,d1,_,_,rfl,o1,T.cl_Term,T.na_Term_kind,rfl,rfl,_,rfl,?_⟩
      refine iteF ⟨_,rfl,p,_,dp,_,_,rfl,hp,T.cl_Part,T.na_Part_term,rfl,q,_,d1,_,_,rfl,o1,T.cl_Term,T.na_Term_kind,rfl,rfl,_,rfl,?_⟩
      refine iteF ⟨_,rfl,nm,dx,_,rfl,sy.nmA.obj,rfl,_,rfl,p,_,dp,_,_,rfl,hp,T.cl_Part,T.na_Part_term,rfl,q,_,d6,_,_,rfl,o6,T.cl_Term,T.na_Term_label,rfl,?_⟩
      refine ⟨nm,dx,f,c,left,k0,lv,rfl,sy.nmA,by omega,fun H2 k2 l2 N2 e2 n2 fr2 => ?_⟩
      obtain ⟨sy2,fb2⟩ := sy.named T N2 fr2
      refine ⟨(show 1 <= sizeLine by decide),fun l3 hl3 => ?_⟩
      have s3 := same_new (o := .lst [.ref l2]) hl3
      exact k _ l3 _ k2 upd_same (by simp) (.cons ⟨l2,rfl,s3 _ _ e2,nmem_new n2 sy.mu.ex⟩ .nil) (sy2.same s3) (fb2.trans (.of s3))
end
end Ft
end

section
namespace Ft
open PySem PySem.Spec PyProof.Rows L2
section
variable {P : Program} {w : World} {K : PySem.W.Frag} {mg : Str -> Option Value} {base : Heap} {a : Ad}
noncomputable def spWrite (a : Ad) : Sp := fun vs H Q _ => ∃ (p : Addr) (n : N) (t : Sy10.T),vs = [.ref p] /\ TermAt a.c_Term H p n /\ n.ent 0 /\ n.en 0 = t /\ t.size <= 4096 /\ (∀ x ∈ t.frees,x.length <= 8) /\
  ∀ (H' : Hp) (r : Addr),H' r = some (.lst (byV t.text)) -> Same H H' -> Q (.ref r) H'
theorem Sy.fb {a : Ad} {H : Hp} {S : List Addr} {nm dx f c : Addr} {left : List (List Nat)} {k : Nat} (s : Sy a H S nm dx f c left k) {l : Addr} {xs : List V} (hl : l ∈ S) (e : ∃ ys,H l = some (.lst ys)) (n1 : l ≠ nm) (n2 : l ≠ c) :
    Sy a (upd H l (.lst xs)) S nm dx f c left k := by
  obtain ⟨ys,e⟩ := e
  obtain ⟨kvs,h2,h3⟩ := s.nmA.tk
  obtain ⟨zs,h4,h5⟩ := s.nmA.ch
  have kp : Keep a.c_Term H (upd H l (.lst xs)) := Keep.upd e (fun z => z)
  refine ⟨⟨by rw [upd_ne (Ne.symm n1)]; exact s.nmA.obj,⟨kvs,by rw [upd_ne (ne_of h2 e (fun z => nomatch z))]; exact h2,h3⟩,⟨zs,by rw [upd_ne (Ne.symm n2)]; exact h4,paired_imp (fun v e h => NameAt.keep kp h) h5⟩⟩,s.nmS,s.cS,fun b hb => ?_,fun b hb dx2 fs q => ?_⟩
  · by_cases z : b = l
    · subst z
      exact ⟨_,upd_same,.inl ⟨_,rfl⟩⟩
    · rw [upd_ne z]
      exact s.mu b hb
  · by_cases z : b = l
    · subst z
      rw [upd_same] at q
      cases q
    · rw [upd_ne z] at q
      exact s.np b hb dx2 fs q
theorem ok_write_term (T : Tx K mg a) : Gd P w K mg base CX0 5 a.f_write_term ["term"] (spWrite a) := by
  refine T.fn_write_term.ok sc_write_term (fun vs H Q E h => ?_) (fun cdv A outer s H vs Q E hr h => ?_)
  · obtain ⟨p,n,t,rfl,_⟩ := h
    rfl
  · obtain ⟨p,n,t,rfl,hp,hent,hen,hsz,hfr,k⟩ := h
    refine ⟨_,pss_cons (ps_set (i := 1) sc_write_term.nd rfl (Or.inl rfl) (pe_makeG T.mk_FunctionNames (ok_FunctionNames_init T) hr (by decide) rfl T.mg_FunctionNames pass0 (pa_cons (pe_callG (ok_free_names T) hr (by decide) rfl T.mg_free_names T.kp_free_names pass0 (pa_cons (pv 0) pa_nil)) pa_nil)))
      (pss_cons (ps_set (i := 2) sc_write_term.nd rfl (Or.inl rfl) (pe_lst pa_nil))
      (pss_cons (ps_set (i := 3) sc_write_term.nd rfl (Or.inl rfl) (pe_lst (pa_cons (pe_makeG T.mk_Part (ok_Part_init T) hr (by decide) rfl T.mg_Part pass0 (pa_cons (pv 0) (pa_cons pe_int (pa_cons pe_bl (pa_cons pe_bl pa_nil))))) pa_nil)))
      (pss_cons (ps_while PassesOwn.never (pt_truth (pv 3) (fun _ => rfl))
        (pss_cons (ps_set (i := 4) sc_write_term.nd rfl (Or.inl rfl) (pe_bm0 PySem.F.plainAttrs_list PySem.F.slot_list_pop PySem.F.type_list_pop mt_pop (pv 3)))
        (pss_one (ps_if (pt_val (pe_callB (call_isinst (T := "list")) rfl T.b_isinstance (by decide +kernel) (pa_cons (pv 4) (pa_cons (pe_bltn (v := .ty "list") rfl T.b_list (by decide +kernel) rfl) pa_nil))))
          (pss_one (ps_expr (pe_bm PySem.F.plainAttrs_list PySem.F.slot_list_extend PySem.F.type_list_extend mt_extend (pv 2) (pa_cons (pv 4) pa_nil))))
          (pss_one (ps_expr (pe_bm PySem.F.plainAttrs_list PySem.F.slot_list_extend PySem.F.type_list_extend mt_extend (pv 3) (pa_cons (pe_listrev rfl rfl T.b_list rfl T.b_reversed (pa_cons (pe_callG (ok_pieces_of T) hr (by decide) rfl T.mg_pieces_of T.kp_pieces_of pass0 (pa_cons (pv 4) (pa_cons (pv 1) pa_nil))) pa_nil)) pa_nil))))))))
      (pss_one (ps_ret (pv 2)))))),?_⟩
    have nsz : n.size <= 4096 := by rw [<- N.size_en n 0,hen]; exact hsz
    have tl := text_len hent hen hsz hfr
    have lL : (Sy10.once t.frees).length <= 4096 := Nat.le_trans (once_len _) (Nat.le_trans (frees_len t) hsz)
    have te := text_eq hent hen
    generalize hleft : Sy10.once t.frees = left at lL te
    refine ⟨_,rfl,p,n,rfl,hp,by omega,fun H1 f kvs hf hk s1 => ?_⟩
    have hk' : Keys kvs (fun x => x ∈ left) := fun x => by
      refine (hk x).trans ?_
      show x ∈ frN n ↔ x ∈ left
      rw [<- hleft,mem_once,<- hen,frN_en]
    intro nm dx n1 n2 n3
    have s2 : Same H1 (upd (upd H1 dx (.own nm)) nm (.ins a.c_FunctionNames dx [])) := (same_new n2).trans (same_new (by rw [upd_ne (Ne.symm n3)]; exact n1))
    refine ⟨nm,dx,f,rfl,upd_same,fun H2 c g1 g2 g3 g4 => ⟨rfl,?_⟩⟩
    have c1 : H1 c = none := s2.free g2
    have s3 : Same H1 H2 := fun b o e => g4 b o (s2 b o e) (ne_of_none e n1)
    have sA : Same H H2 := s1.trans s3
    have N2 : NmAt a H2 nm dx f c left 0 := ⟨g1,⟨kvs,s3 _ _ hf,hk'⟩,⟨[],g3,.nil⟩⟩
    refine ⟨Nat.zero_le _,fun x hx => ?_⟩
    have s4 := same_new (o := .lst []) hx
    have hx0 : upd H2 x (.lst []) x = some (.lst []) := upd_same
    have xnm : x ≠ nm := Ne.symm (ne_of_none N2.obj hx)
    have xc : x ≠ c := Ne.symm (ne_of_none g3 hx)
    have N3 := N2.same s4
    generalize upd H2 x (.lst []) = H3 at s4 hx0 N3
    refine ⟨_,rfl,fun pp dp m1 m2 m3 => ?_⟩
    refine ⟨pp,dp,_,rfl,rfl,upd_same,fun H4 u1 u2 => ⟨rfl,?_⟩⟩
    have s5 := same_made m1 m2 u2
    refine ⟨(show 1 <= sizeLine by decide),fun td htd => ?_⟩
    have s6 := same_new (o := .lst [.ref pp]) htd
    have sB : Same H (upd H4 td (.lst [.ref pp])) := ((sA.trans s4).trans s5).trans s6
    have N4 := (N3.same s5).same s6
    have tnm : td ≠ nm := Ne.symm (ne_of_none (N3.same s5).obj htd)
    have tc : td ≠ c := by
      obtain ⟨ys,q,_⟩ := (N3.same s5).ch
      exact Ne.symm (ne_of_none q htd)
    have tx : td ≠ x := Ne.symm (ne_of_none (s5 _ _ hx0) htd)
    have hx4 : upd H4 td (.lst [.ref pp]) x = some (.lst []) := s6 _ _ (s5 _ _ hx0)
    have ht4 : upd H4 td (.lst [.ref pp]) td = some (.lst [.ref pp]) := upd_same
    have pp4 : PcAt a (upd H4 td (.lst [.ref pp])) [nm,c,x,td] (.ref pp) (.part n 0 true false) := ⟨pp,dp,p,rfl,s6 _ _ u1,hp.same sB⟩
    have nf : H nm = none /\ H c = none := ⟨s1.free n1,s1.free c1⟩
    have xf : H x = none := sA.free hx
    have tf0 : H td = none := ((sA.trans s4).trans s5).free htd
    generalize upd H4 td (.lst [.ref pp]) = H5 at s6 sB N4 hx4 ht4 pp4
    have Sy5 : Sy a H5 [nm,c,x,td] nm dx f c left 0 := by
      obtain ⟨ys,q,_⟩ := N4.ch
      refine ⟨N4,by simp,by simp,fun b hb => ?_,fun b hb dx2 fs e => ?_⟩
      · simp only [List.mem_cons,List.not_mem_nil,or_false] at hb
        rcases hb with rfl | rfl | rfl | rfl
        · exact ⟨_,N4.obj,.inr ⟨_,_,_,rfl,ne_FunctionNames T⟩⟩
        · exact ⟨_,q,.inl ⟨_,rfl⟩⟩
        · exact ⟨_,hx4,.inl ⟨_,rfl⟩⟩
        · exact ⟨_,ht4,.inl ⟨_,rfl⟩⟩
      · simp only [List.mem_cons,List.not_mem_nil,or_false] at hb
        rcases hb with rfl | rfl | rfl | rfl
        · rw [N4.obj] at e
          have e2 := Option.some.inj e
          injection e2 with e3 _ _
          exact (ne_Part T).2 e3.symm
        · rw [q] at e; cases e
        · rw [hx4] at e; cases e
        · rw [ht4] at e; cases e
    have SH : ∀ {H6 : Hp},Same H H5 -> Fb [nm,c,x,td] H5 H6 -> Same H H6 := fun s7 fb b o e => fb b o (s7 b o e) (by
      simp only [List.mem_cons,List.not_mem_nil,or_false,not_or]
      exact ⟨ne_of_none e nf.1,ne_of_none e nf.2,ne_of_none e xf,ne_of_none e tf0⟩)
    refine ⟨fun m σ H' => (∃ v4,σ = [some (.ref p),some (.ref nm),some (.ref x),some (.ref td),v4]) /\ Fb [nm,c,x,td] H5 H' /\ ∃ vs l b k',Sy a H' [nm,c,x,td] nm dx f c left k' /\ H' x = some (.lst (byV b)) /\ H' td = some (.lst vs) /\
      Stk (PcAt a H' [nm,c,x,td]) vs l /\ b ++ flatP (Sy10.fresh left) l = t.text /\ (∀ p ∈ l,p.low 4096) /\ wtC l <= 16384 /\ m = wtC l,
      ⟨_,⟨_,rfl⟩,fun _ _ e _ => e,_,[.part n 0 true false],[],0,Sy5,hx4,ht4,.push (vs := []) .nil pp4,?_,?_,?_,rfl⟩,?_⟩
    · rw [te]
      simp [flatP]
    · intro q hq
      simp only [List.mem_singleton] at hq
      rw [hq]
      exact ⟨hent,by omega⟩
    · simp only [wtC]
      omega
    rintro m σ H' ⟨⟨v4,rfl⟩,fb,vs,l,b,k',sy,hx',ht',st,hb,hl,hw,rfl⟩
    have lv := st.length
    have lw := wtC_len l
    refine ⟨_,rfl,_,.inl ⟨vs,SqL.of ht',rfl⟩,?_⟩
    cases l with
    | nil =>
      have := st.empty
      subst this
      have hb' : b = t.text := by simpa [flatP] using hb
      exact iteF ⟨_,rfl,k H' x (by rw [<- hb']; exact hx') (SH sB fb)⟩
    | cons q l =>
      obtain ⟨us,v,rfl,st',hq⟩ := st.pop
      rw [ne_nil_snoc]
      refine iteT ⟨_,fun _ _ z => z,?_⟩
      refine ⟨_,rfl,.inl ⟨rfl,_,SqL.of ht'⟩,td,_,_,rfl,rfl,ht',pop_last,?_⟩
      rw [pop_rest]
      have sy1 := sy.fb (xs := us) (show td ∈ [nm,c,x,td] by simp) ⟨_,ht'⟩ tnm tc
      have fb1 : Fb [nm,c,x,td] H' (upd H' td (.lst us)) := Fb.upd (by simp)
      have hx1 : upd H' td (.lst us) x = some (.lst (byV b)) := by rw [upd_ne (Ne.symm tx)]; exact hx'
      have ht1 : upd H' td (.lst us) td = some (.lst us) := upd_same
      have st1 : Stk (PcAt a (upd H' td (.lst us)) [nm,c,x,td]) us l := st'.imp fun v e h => PcAt.fb fb1 sy.mu sy.np h
      have hq1 := PcAt.fb fb1 sy.mu sy.np hq
      have fb2 := fb.trans fb1
      generalize upd H' td (.lst us) = H1' at sy1 fb1 hx1 ht1 st1 hq1 fb2
      have lu := st1.length
      have ll := wtC_len l
      have hlq := hl q (List.mem_cons_self ..)
      have hll : ∀ p ∈ l,p.low 4096 := fun p hp => hl p (List.mem_cons_of_mem _ hp)
      cases q with
      | txt bb =>
        obtain ⟨lb,rfl,hlb,nlb⟩ := hq1
        refine ⟨_,rfl,_,_,_,rfl,TyOf.lst hlb,rfl,_,rfl,iteT ?_⟩
        have tot : (b ++ bb).length <= 32768 := by
          rw [<- hb] at tl
          simp only [flatP,List.length_append] at tl ⊢
          omega
        refine ⟨_,rfl,.inl ⟨rfl,_,SqL.of hx1⟩,_,rfl,x,lb,_,_,rfl,rfl,hx1,hlb,?_,?_⟩
        · rw [byV_length,byV_length]
          rw [List.length_append] at tot
          exact Nat.le_trans tot (by decide)
        · have fb3 : Fb [nm,c,x,td] H1' (upd H1' x (.lst (byV b ++ byV bb))) := Fb.upd (by simp)
          have eb : byV b ++ byV bb = byV (b ++ bb) := by unfold byV; rw [List.map_append]
          refine ⟨wtC l,by simp only [wtC]; omega,⟨_,rfl⟩,fb2.trans fb3,us,l,b ++ bb,k',sy1.fb (show x ∈ [nm,c,x,td] by simp) ⟨_,hx1⟩ xnm xc,by rw [upd_same,eb],by rw [upd_ne tx]; exact ht1,st1.imp fun v e h => PcAt.fb fb3 sy1.mu sy1.np h,?_,hll,by simp only [wtC] at hw; omega,rfl⟩
          rw [<- hb]
          simp only [flatP,List.append_assoc]
      | part n1 j1 la ar =>
        obtain ⟨p1,dp1,q1,rfl,hp1,hq1'⟩ := id hq1
        refine ⟨_,rfl,_,_,_,rfl,TyOf.ins hp1 T.cl_Part T.ha_Part T.hn_class T.htk_class T.hm_Part,T.ki_Part_list,_,rfl,iteF ?_⟩
        simp only [wtC] at hw
        refine ⟨_,rfl,.inl ⟨rfl,_,SqL.of ht1⟩,_,rfl,_,rfl,p1,nm,dx,f,c,[nm,c,x,td],left,k',j1,n1,la,ar,rfl,sy1,hq1,hlq.1,?_,fun H2' r us2 k2 w1 w2 w3 w4 w5 => ?_⟩
        · have := hlq.2
          omega
        refine ⟨r,_,rfl,SqL.of w1,fun l3 hl3 => ?_⟩
        have s7 := same_new (o := .lst us2.reverse) hl3
        have pw := pcs_wt (Sy10.fresh left) n1 j1 la ar
        have tS : td ∉ [nm,c] := by simp only [List.mem_cons,List.not_mem_nil,or_false,not_or]; exact ⟨tnm,tc⟩
        have xS : x ∉ [nm,c] := by simp only [List.mem_cons,List.not_mem_nil,or_false,not_or]; exact ⟨xnm,xc⟩
        have ht2 : upd H2' l3 (.lst us2.reverse) td = some (.lst us) := s7 _ _ (w5 _ _ ht1 tS)
        have hx2 : upd H2' l3 (.lst us2.reverse) x = some (.lst (byV b)) := s7 _ _ (w5 _ _ hx1 xS)
        have sy2 := w4.same s7
        have fb3 : Fb [nm,c,x,td] H1' (upd H2' l3 (.lst us2.reverse)) := (sy1.wide w5).trans (.of s7)
        have st2 : Stk (PcAt a (upd H2' l3 (.lst us2.reverse)) [nm,c,x,td]) us l := st1.imp fun v e h => PcAt.fb fb3 sy1.mu sy1.np h
        have pr2 := paired_imp (fun v e h => PcAt.same s7 h) w3
        have l3e : upd H2' l3 (.lst us2.reverse) l3 = some (.lst us2.reverse) := upd_same
        generalize upd H2' l3 (.lst us2.reverse) = H3' at ht2 hx2 sy2 fb3 st2 pr2 l3e
        refine ⟨td,l3,_,_,rfl,rfl,ht2,l3e,?_,?_⟩
        · rw [List.length_reverse]
          exact Nat.le_trans (show us.length + us2.length <= 20000 by omega) (by decide)
        · have fb4 : Fb [nm,c,x,td] H3' (upd H3' td (.lst (us ++ us2.reverse))) := Fb.upd (by simp)
          refine ⟨wtC (pcs (Sy10.fresh left) n1 j1 la ar ++ l),by rw [wtC_app]; simp only [wtC]; omega,⟨_,rfl⟩,(fb2.trans fb3).trans fb4,_,pcs (Sy10.fresh left) n1 j1 la ar ++ l,b,k2,sy2.fb (by simp) ⟨_,ht2⟩ tnm tc,by rw [upd_ne (Ne.symm tx)]; exact hx2,upd_same,
            (stk_rev pr2 st2).imp (fun v e h => PcAt.fb fb4 sy2.mu sy2.np h),?_,?_,by rw [wtC_app]; omega,rfl⟩
          · rw [<- hb,flatP_app,pcs_flat]
            rfl
          · intro q hq
            rcases List.mem_append.1 hq with h | h
            · exact pcs_low hlq q h
            · exact hll q h
end
end Ft
end

section
namespace Ft
open PySem PySem.Spec PyProof.Rows L2
noncomputable def J : List Nat -> List (List Nat) -> List Nat
  | acc,[] => acc
  | acc,x :: r => J ((if 0 < acc.length then acc ++ [32] else acc) ++ x) r
theorem J_ne : ∀ (r : List (List Nat)) (acc : List Nat),acc ≠ [] -> J acc r = acc ++ r.flatMap fun y => 32 :: y
  | [],acc,_ => (List.append_nil _).symm
  | y :: r,acc,h => by
    unfold J
    rw [if_pos (List.length_pos_iff.mpr h),J_ne r _ (by simp),List.flatMap_cons]
    simp only [List.append_assoc,List.cons_append,List.nil_append]
theorem J_joined (xs : List (List Nat)) (h : ∀ x ∈ xs,x ≠ []) : J [] xs = Sy10.joined xs := by
  cases xs with
  | nil => rfl
  | cons x r => exact J_ne r x (h x (List.mem_cons_self ..))
theorem J_len : ∀ (r : List (List Nat)) (acc : List Nat),acc.length <= (J acc r).length
  | [],_ => Nat.le_refl _
  | y :: r,acc => by
    refine Nat.le_trans ?_ (J_len r _)
    rw [List.length_append]
    split
    · rw [List.length_append]; omega
    · omega
section
variable {P : Program} {w : World} {K : PySem.W.Frag} {mg : Str -> Option Value} {base : Heap} {a : Ad}
noncomputable def spWn : Sp := fun vs H Q _ => ∃ (l : Addr) (qs : List V) (xs : List (List Nat)),vs = [.ref l] /\ H l = some (.lst qs) /\ Paired (NameAt H) qs xs /\ (∀ x ∈ xs,x ≠ []) /\ (Sy10.joined xs).length <= 100000 /\
  ∀ (H' : Hp) (p : Addr),H' p = some (.lst (byV (Sy10.joined xs))) -> Same H H' -> Q (.ref p) H'
theorem ok_write_names (T : Tx K mg a) : Gd P w K mg base CX0 1 a.f_write_names ["names"] spWn := by
  refine T.fn_write_names.ok sc_write_names (fun vs H Q E h => ?_) (fun cdv A outer s H vs Q E hr h => ?_)
  · obtain ⟨l,qs,xs,rfl,_⟩ := h
    rfl
  obtain ⟨l,qs,xs,rfl,hl,pr,hne,hlen,k⟩ := h
  refine ⟨_,pss_cons (ps_set (i := 1) sc_write_names.nd rfl (Or.inl rfl) (pe_lst pa_nil))
    (pss_cons (ps_for PassesOwn.never rfl (pi_list (pv 0)) (pg_name (i := 2) sc_write_names.nd rfl (Or.inl rfl))
      (pss_cons (ps_cut (ps_if (pt_cmpR op_gt (pe_callB call_len_seq rfl T.b_len PySem.boot_len (pa_cons (pv 1) pa_nil)) pe_int (nomark _))
        (pss_one (ps_expr (pe_bm PySem.F.plainAttrs_list PySem.F.slot_list_append PySem.F.type_list_append mt_append (pv 1) (pa_cons (pe_k T.k_SPACE) pa_nil)))) pss_nil))
      (pss_one (ps_expr (pe_bm PySem.F.plainAttrs_list PySem.F.slot_list_extend PySem.F.type_list_extend mt_extend (pv 1) (pa_cons (pe_callTy call_list_of rfl T.b_list (by decide +kernel) (pa_cons (pv 2) pa_nil)) pa_nil))))))
    (pss_one (ps_ret (pv 1)))),?_⟩
  refine ⟨Nat.zero_le _,fun p hp => ?_⟩
  have s1 := same_new (o := .lst []) hp
  have lq : qs.length = xs.length := Paired.length pr
  refine ⟨_,rfl,l,rfl,⟨_,SqL.of (s1 _ _ hl)⟩,for_list (K := K) (a := l) (xs := qs) (fun i σ H' => ∃ (acc : List Nat) (v : Option V),σ = [some (.ref l),some (.ref p),v] /\ Same H H' /\ H' p = some (.lst (byV acc)) /\ J acc (xs.drop i) = Sy10.joined xs)
    ⟨[],_,rfl,s1,upd_same,J_joined xs hne⟩ (fun i σ H' _ ⟨acc,v,_,s2,_⟩ => SqL.of (s2 _ _ hl)) (fun i x σ H' hx hPv => ?_) (fun σ H' hPv => ?_)⟩
  · obtain ⟨acc,v,rfl,s2,hacc,hj⟩ := hPv
    obtain ⟨y,hy,t,rfl,ht⟩ := L2.paired_get pr hx
    have hi : i < xs.length := by
      rcases Nat.lt_or_ge i xs.length with q | q
      · exact q
      · rw [List.getElem?_eq_none q] at hy; cases hy
    have hd := List.drop_eq_getElem_cons hi
    rw [List.getElem?_eq_getElem hi] at hy
    injection hy with hy
    rw [hy] at hd
    rw [hd] at hj
    have hJ : J ((if 0 < acc.length then acc ++ [32] else acc) ++ y) (xs.drop (i + 1)) = Sy10.joined xs := hj
    have jl := J_len (xs.drop (i + 1)) ((if 0 < acc.length then acc ++ [32] else acc) ++ y)
    rw [hJ] at jl
    have hp2 : ∀ (H2 : Hp) (o : HO),Same H H2 -> Same H (upd H2 p o) := fun H2 o s c u e => by rw [upd_ne (ne_of_none e hp)]; exact s c u e
    have la : acc.length + y.length <= 100000 := by
      have : acc.length <= (if 0 < acc.length then acc ++ [32] else acc).length := by
        split
        · rw [List.length_append]; omega
        · exact Nat.le_refl _
      rw [List.length_append] at jl
      omega
    refine ⟨fun σ' H2 => σ' = [some (.ref l),some (.ref p),some (.ref t)] /\ Same H H2 /\ H2 p = some (.lst (byV (if 0 < acc.length then acc ++ [32] else acc))),?_,?_⟩
    · refine ⟨_,rfl,p,_,rfl,.inl (SqL.of hacc),_,_,rfl,rfl,_,rfl,?_⟩
      rw [byV_length]
      by_cases c : 0 < acc.length
      · refine ite2 (fun _ => ?_) (fun z => absurd (decide_eq_true (show ((acc.length : Nat) : Int) > 0 by omega)) z)
        refine ⟨_,rfl,.inl ⟨rfl,_,SqL.of hacc⟩,p,_,_,rfl,rfl,hacc,?_,rfl,hp2 _ _ s2,?_⟩
        · rw [byV_length]
          exact Nat.lt_of_le_of_lt (show acc.length <= 100000 by omega) (by decide)
        · rw [if_pos c,upd_same]
          unfold byV
          rw [List.map_append]
          rfl
      · refine ite2 (fun z => absurd (of_decide_eq_true z) (show ¬ ((acc.length : Nat) : Int) > 0 by omega)) (fun _ => ?_)
        refine ⟨rfl,s2,?_⟩
        rw [if_neg c]
        exact hacc
    · rintro σ' H2 ⟨rfl,s3,h3⟩
      have t2 : H2 t = some (.tup (byV y)) := by rw [<- ky_map]; exact s3 _ _ ht
      refine ⟨_,rfl,.inl ⟨rfl,_,SqL.of h3⟩,_,rfl,t,_,rfl,.inr (SqT.of t2),fun l4 hl4 => ?_⟩
      have s4 := same_new (o := .lst (byV y)) hl4
      have p4 := s4 _ _ h3
      refine ⟨p,l4,_,_,rfl,rfl,p4,upd_same,?_,?_⟩
      · rw [byV_length,byV_length,<- List.length_append]
        exact Nat.le_trans jl (Nat.le_trans hlen (by decide))
      · refine ⟨_,_,rfl,hp2 _ _ (s3.trans s4),?_,hJ⟩
        rw [upd_same]
        unfold byV
        rw [List.map_append]
  · obtain ⟨acc,v,rfl,s2,hacc,hj⟩ := hPv
    rw [lq,List.drop_length] at hj
    have hj' : acc = Sy10.joined xs := hj
    subst hj'
    exact ⟨_,rfl,k _ _ hacc s2⟩
end
end Ft
end

section
namespace Ft
open PySem PySem.Spec PyProof.Rows L2
theorem dec_nat {i j : Nat} : decide (((i : Nat) : Int) <= ((j : Nat) : Int)) = decide (i <= j) := decide_eq_decide.mpr Int.ofNat_le
section
variable {P : Program} {w : World} {K : PySem.W.Frag} {mg : Str -> Option Value} {base : Heap} {a : Ad}
noncomputable def spB1 (f : Nat -> Bool) : Sp := fun vs H Q _ => ∃ c : Nat,vs = [.int c] /\ Q (.bl (f c)) H
theorem spB1_len {f : Nat -> Bool} : ∀ vs H Q E,spB1 f vs H Q E -> vs.length = 1 := by
  rintro vs H Q E ⟨c,rfl,_⟩
  rfl
theorem ok_is_letter (T : Tx K mg a) : Gd P w K mg base CX0 1 a.f_is_letter ["byte"] (spB1 Sy10.isLetter) := by
  refine T.fn_is_letter.ok sc_is_letter spB1_len (fun cdv A outer s H vs Q E hr h => ?_)
  obtain ⟨c,rfl,k⟩ := h
  refine ⟨_,pss_one (ps_ret (pe_chain op_le op_le (pe_k T.k_LETTER_A) (pv 0) (pe_k T.k_LETTER_Z))),?_⟩
  refine ⟨_,rfl,_,_,rfl,rfl,_,rfl,?_⟩
  unfold Sy10.isLetter at k
  have e1 := @dec_nat 97 c
  have e2 := @dec_nat c 122
  refine ite2 (fun z => ?_) (fun z => ?_)
  · refine ⟨_,_,rfl,rfl,?_⟩
    have e3 : decide (97 <= c) = true := by rw [<- e1]; exact z
    rw [e3,Bool.true_and,<- e2] at k
    exact k
  · have e3 : decide (97 <= c) = false := by rw [<- e1]; exact Bool.eq_false_iff.mpr z
    rw [e3,Bool.false_and] at k
    exact k
theorem ok_is_letter_or_digit (T : Tx K mg a) : Gd P w K mg base CX0 2 a.f_is_letter_or_digit ["byte"] (spB1 Sy10.isNameByte) := by
  refine T.fn_is_letter_or_digit.ok sc_is_letter_or_digit spB1_len (fun cdv A outer s H vs Q E hr h => ?_)
  obtain ⟨c,rfl,k⟩ := h
  refine ⟨_,pss_one (ps_ret (pe_or (pe_callG (ok_is_letter T) hr (by decide) rfl T.mg_is_letter T.kp_is_letter pass0 (pa_cons (pv 0) pa_nil)) (pe_one (pe_chain op_le op_le (pe_k T.k_DIGIT_0) (pv 0) (pe_k T.k_DIGIT_9))))),?_⟩
  refine ⟨_,rfl,c,rfl,_,rfl,?_⟩
  unfold Sy10.isNameByte at k
  cases hl : Sy10.isLetter c with
  | true =>
    rw [hl,Bool.true_or] at k
    exact iteT k
  | false =>
    rw [hl,Bool.false_or] at k
    refine iteF ⟨_,rfl,_,_,rfl,rfl,_,rfl,?_⟩
    have e1 := @dec_nat 48 c
    have e2 := @dec_nat c 57
    refine ite2 (fun z => ?_) (fun z => ?_)
    · refine ⟨_,_,rfl,rfl,?_⟩
      have e3 : decide (48 <= c) = true := by rw [<- e1]; exact z
      rw [e3,Bool.true_and,<- e2] at k
      exact k
    · have e3 : decide (48 <= c) = false := by rw [<- e1]; exact Bool.eq_false_iff.mpr z
      rw [e3,Bool.false_and] at k
      exact k
noncomputable def spBlank : Sp := fun vs H Q _ => ∃ c : Nat,vs = [.int c] /\ ∀ H',Same H H' -> Q (.bl (Sy10.isBlank c)) H'
theorem ok_is_blank (T : Tx K mg a) : Gd P w K mg base CX0 1 a.f_is_blank ["byte"] spBlank := by
  refine T.fn_is_blank.ok sc_is_blank (fun vs H Q E h => ?_) (fun cdv A outer s H vs Q E hr h => ?_)
  · obtain ⟨c,rfl,k⟩ := h
    rfl
  obtain ⟨c,rfl,k⟩ := h
  refine ⟨_,pss_one (ps_ret (pe_cmpR op_in_seq (pv 0) (pe_tup (pa_cons (pe_k T.k_TAB) (pa_cons (pe_k T.k_LINE_FEED) (pa_cons (pe_k T.k_SPACE) pa_nil)))) rfl)),?_⟩
  refine ⟨_,rfl,(show 3 <= sizeLine by decide),fun p hp => ⟨p,_,rfl,.inr (SqT.of upd_same),rfl,rfl,?_⟩⟩
  have e : (if false = true then !inV (.int (c : Int)) [.int 9,.int 10,.int 32] else inV (.int (c : Int)) [.int 9,.int 10,.int 32]) = Sy10.isBlank c := by
    unfold inV Sy10.isBlank
    simp only [List.any_cons,List.any_nil,eqV,Bool.or_false,if_neg Bool.false_ne_true]
    rw [show ((9 : Int) == (c : Int)) = (c == 9) from by rw [Bool.eq_iff_iff]; simp; omega,show ((10 : Int) == (c : Int)) = (c == 10) from by rw [Bool.eq_iff_iff]; simp; omega,show ((32 : Int) == (c : Int)) = (c == 32) from by rw [Bool.eq_iff_iff]; simp; omega]
    cases c == 9 <;> cases c == 10 <;> cases c == 32 <;> rfl
  rw [e]
  exact k _ (same_new hp)
noncomputable def RowAt (H : Hp) (r : Addr) (x : List Nat) : Prop := H r = some (.lst (byV x)) \/ H r = some (.tup (byV x))
theorem RowAt.sq {K : PySem.W.Frag} {H : Hp} {r : Addr} {x : List Nat} (h : RowAt H r x) : SqL K H r (byV x) \/ SqT K H r (byV x) := h.imp SqL.of SqT.of
noncomputable def spName : Sp := fun vs H Q _ => ∃ (r : Addr) (x : List Nat),vs = [.ref r] /\ RowAt H r x /\ x.length <= 1000000 /\ ∀ H',Same H H' -> Q (.bl (Sy10.isName x)) H'
theorem byV_get {x : List Nat} {i c : Nat} (h : x[i]? = some c) : (byV x)[i]? = some (.int (c : Int)) := by
  unfold byV
  rw [List.getElem?_map,h]
  rfl
theorem pi_row {K : PySem.W.Frag} {H : Hp} {r : Addr} {x : List Nat} (i : Nat) (h : RowAt H r x) : ∃ (wi : TI) (J : It),(∀ (X : Cx) (tg l : Expr),X.K = K -> PE X l (tVar i) -> PI X tg l wi) /\
    (∀ (σ : L2.St) (R : It -> Hp -> Prop),σ[i]? = some (some (.ref r)) -> R J H -> wi σ H R) /\
    (∀ (j : Nat) (H' : Hp),Same H H' -> x.length <= j -> J.stop j H') /\ (∀ (j c : Nat) (H' : Hp),Same H H' -> x[j]? = some c -> J.go j H' /\ ∀ v H'',J.yld j H' v H'' -> v = .int (c : Int) /\ H'' = H') := by
  have lb := byV_length x
  rcases h with hx | hx
  · refine ⟨iList K (tVar i),Itl K r,fun X tg l e h => e ▸ pi_list h,fun σ R e q => ⟨_,e,r,rfl,⟨_,SqL.of hx⟩,q⟩,fun j H' sm hi => ⟨_,SqL.of (sm _ _ hx),by rw [lb]; exact hi⟩,fun j c H' sm hc => ⟨⟨_,_,SqL.of (sm _ _ hx),byV_get hc⟩,fun v H'' y => ⟨?_,y.1⟩⟩⟩
    have := y.2 _ (SqL.of (sm _ _ hx))
    rw [byV_get hc] at this
    exact (Option.some.inj this).symm
  · refine ⟨iTup K (tVar i),Itt K r,fun X tg l e h => e ▸ pi_tup h,fun σ R e q => ⟨_,e,r,rfl,⟨_,SqT.of hx⟩,q⟩,fun j H' sm hi => ⟨_,SqT.of (sm _ _ hx),by rw [lb]; exact hi⟩,fun j c H' sm hc => ⟨⟨_,_,SqT.of (sm _ _ hx),byV_get hc⟩,fun v H'' y => ⟨?_,y.1⟩⟩⟩
    have := y.2 _ (SqT.of (sm _ _ hx))
    rw [byV_get hc] at this
    exact (Option.some.inj this).symm
theorem ok_is_name (T : Tx K mg a) : Gd P w K mg base CX0 3 a.f_is_name ["row"] spName := by
  refine T.fn_is_name.ok sc_is_name (fun vs H Q E h => ?_) (fun cdv A outer s H vs Q E hr h => ?_)
  · obtain ⟨r,x,rfl,_⟩ := h
    rfl
  obtain ⟨r,x,rfl,hx,hlen,k⟩ := h
  have lb := byV_length x
  obtain ⟨wi,J,p1,p2,hstop,hgo⟩ := pi_row (K := K) 0 hx
  refine ⟨_,pss_cons (ps_if (pt_cut (PW.pt (pw_or (pt_not (pt_chain op_le op_le pe_int (pe_callB call_len_seq rfl T.b_len PySem.boot_len (pa_cons (pv 0) pa_nil)) (pe_k T.k_LONGEST_NAME))) (pw_or1 (pt_not (pt_val (pe_callG (ok_is_letter T) hr (by decide) rfl T.mg_is_letter T.kp_is_letter pass0 (pa_cons (pe_ix ix_seq (pv 0) pe_int (fun _ _ => rfl)) pa_nil))))))))
      (pss_one (ps_ret pe_bl)) pss_nil)
    (pss_one (ps_ret (pe_callB (cr_all rfl) rfl T.b_all (by decide +kernel) (pa_cons (pe_lc rfl sc_is_name.nd (own := [("byte",1)]) (p1 _ _ _ rfl (pv 0)) (blkOk_by (by show blkC ["row","byte"] (defScope s_is_name) _ _ = true; decide +kernel))
      (fun _ _ _ _ _ => pg_name (i := 1) sc_is_name.nd rfl (Or.inl rfl)) (fun _ _ _ _ _ => pts_nil) (fun _ _ _ _ _ => pe_callG (ok_is_letter_or_digit T) hr (by decide) rfl T.mg_is_letter_or_digit T.kp_is_letter_or_digit pass0 (pa_cons (pv 1) pa_nil))) pa_nil)))),?_⟩
  refine ⟨fun v H' => v = !(decide (1 <= x.length /\ x.length <= 8) && x.head?.any Sy10.isLetter) /\ H' = H,?_,?_⟩
  · refine ⟨_,rfl,r,_,rfl,hx.sq,_,_,rfl,rfl,_,rfl,?_⟩
    rw [lb]
    have e1 := @dec_nat 1 x.length
    have e2 := @dec_nat x.length 8
    refine ite2 (fun z => ?_) (fun z => ?_)
    · have h1 : 1 <= x.length := by rw [show decide (((1 : Nat) : Int) <= ((x.length : Nat) : Int)) = true from z] at e1; exact of_decide_eq_true e1.symm
      refine ⟨_,_,rfl,rfl,_,rfl,?_⟩
      by_cases h2 : x.length <= 8
      · rw [show decide (((x.length : Nat) : Int) <= (8 : Int)) = true from e2.trans (decide_eq_true h2)]
        refine iteF ?_
        match x,h1 with
        | c :: x,_ =>
          rw [show decide (1 <= (c :: x).length /\ (c :: x).length <= 8) = true from decide_eq_true ⟨by simp,h2⟩,Bool.true_and]
          have g : atI (byV (c :: x)) ((0 : Nat) : Int) = some (.int (c : Int)) := atI_nat (byV_get rfl)
          refine ⟨_,rfl,?_⟩
          rcases hx with h | h
          · exact .inl ⟨r,_,_,_,rfl,rfl,SqL.of h,g,c,rfl,_,rfl,rfl,rfl⟩
          · exact .inr (.inl ⟨r,_,_,_,rfl,rfl,SqT.of h,g,c,rfl,_,rfl,rfl,rfl⟩)
      · rw [show decide (((x.length : Nat) : Int) <= (8 : Int)) = false from e2.trans (decide_eq_false h2)]
        rw [show decide (1 <= x.length /\ x.length <= 8) = false from decide_eq_false fun h => h2 h.2,Bool.false_and]
        exact iteT ⟨rfl,rfl⟩
    · have h1 : ¬ 1 <= x.length := fun h => by
        have e3 : decide (((1 : Nat) : Int) <= ((x.length : Nat) : Int)) = true := by rw [e1]; exact decide_eq_true h
        exact z e3
      rw [show decide (1 <= x.length /\ x.length <= 8) = false from decide_eq_false fun h => h1 h.1,Bool.false_and]
      exact ⟨_,rfl,iteT ⟨rfl,rfl⟩⟩
  rintro v H' ⟨rfl,rfl⟩
  cases hb : (decide (1 <= x.length /\ x.length <= 8) && x.head?.any Sy10.isLetter) with
  | false =>
    refine iteT ?_
    have : Sy10.isName x = false := by
      unfold Sy10.isName
      rw [Bool.and_eq_false_iff] at hb
      rcases hb with h | h
      · have h := of_decide_eq_false h
        match x with
        | [] => rfl
        | c :: x =>
          rw [show decide ((c :: x).length <= 8) = false from decide_eq_false fun z => h ⟨by simp,z⟩,Bool.and_false]
      · rw [h,Bool.false_and,Bool.false_and]
    have q := k H' (fun _ _ e => e)
    rw [this] at q
    exact q
  | true =>
    refine iteF ?_
    have e : Sy10.isName x = x.all Sy10.isNameByte := by
      rw [Bool.and_eq_true] at hb
      have h1 := of_decide_eq_true hb.1
      unfold Sy10.isName
      rw [hb.2,decide_eq_true h1.2,Bool.true_and,Bool.and_true]
    rw [e] at k
    refine p2 _ _ rfl ?_
    intro D hD
    have same : ∀ xs,Same H' (upd H' D (.lst xs)) := fun xs => same_new hD
    refine ⟨fun i m H2 => i <= x.length /\ m = x.length - i /\ H2 = upd H' D (.lst ((x.take i).map fun c => V.bl (Sy10.isNameByte c))),⟨_,Nat.zero_le _,rfl,rfl⟩,?_⟩
    rintro i m H2 ⟨hi,rfl,rfl⟩
    by_cases hlt : i < x.length
    · have hc := List.getElem?_eq_getElem hlt
      generalize x[i] = c at hc
      obtain ⟨g1,g2⟩ := hgo i c _ (same _) hc
      refine .inr ⟨g1,fun H'' => H'' = upd H' D (.lst ((x.take (i + 1)).map fun c => V.bl (Sy10.isNameByte c))),fun H'' e => ⟨x.length - (i + 1),by omega,hlt,rfl,e⟩,fun v H'' y => ?_⟩
      obtain ⟨rfl,rfl⟩ := g2 _ _ y
      refine ⟨rfl,?_⟩
      unfold tYes
      dsimp only
      rw [if_pos rfl]
      refine ⟨_,rfl,c,rfl,_,upd_same,?_,?_⟩
      · rw [List.length_map,List.length_take]
        exact Nat.lt_of_le_of_lt (Nat.le_trans (Nat.min_le_right _ _) hlen) (by decide)
      · rw [upd_upd,List.take_add_one,hc,List.map_append]
        rfl
    · refine .inl ⟨hstop i _ (same _) (Nat.le_of_not_lt hlt),?_⟩
      have ei : x.take i = x := List.take_of_length_le (Nat.le_of_not_lt hlt)
      rw [ei]
      refine ⟨D,x.map Sy10.isNameByte,rfl,?_,?_⟩
      · rw [List.map_map]
        exact SqL.of upd_same
      · rw [List.all_map]
        exact k _ (same _)
theorem word_cons {b : List Nat} {e c : Nat} (h : b[e]? = some c) (hc : Sy10.isNameByte c = true) : (word (b.drop e)).length = (word (b.drop (e + 1))).length + 1 := by
  have he : e < b.length := by
    rcases Nat.lt_or_ge e b.length with z | z
    · exact z
    · rw [List.getElem?_eq_none z] at h
      cases h
  rw [List.drop_eq_getElem_cons he]
  have : b[e] = c := by rw [List.getElem?_eq_getElem he] at h; exact Option.some.inj h
  rw [this]
  unfold word
  rw [List.takeWhile_cons,if_pos hc,List.length_cons]
theorem word_stop {b : List Nat} {e : Nat} (h : ∀ c,b[e]? = some c -> Sy10.isNameByte c = false) : word (b.drop e) = [] := by
  rcases Nat.lt_or_ge e b.length with z | z
  · rw [List.drop_eq_getElem_cons z]
    have := h _ (List.getElem?_eq_getElem z)
    unfold word
    rw [List.takeWhile_cons,if_neg (by rw [this]; exact Bool.false_ne_true)]
  · rw [List.drop_of_length_le z]
    rfl
noncomputable def spEow : Sp := fun vs H Q _ => ∃ (r : Addr) (b : List Nat) (st : Nat),vs = [.ref r,.int st] /\ H r = some (.lst (byV b)) /\ st <= b.length /\ Q (.int ((st + (word (b.drop st)).length : Nat) : Int)) H
theorem ok_end_of_word (T : Tx K mg a) : Gd P w K mg base CX0 3 a.f_end_of_word ["text","start"] spEow := by
  refine T.fn_end_of_word.ok sc_end_of_word (fun vs H Q E h => ?_) (fun cdv A outer s H vs Q E hr h => ?_)
  · obtain ⟨r,b,st,rfl,_⟩ := h
    rfl
  obtain ⟨r,b,st,rfl,hb,hst,k⟩ := h
  refine ⟨_,pss_cons (ps_set (i := 2) sc_end_of_word.nd rfl (Or.inl rfl) (pv 1))
    (pss_cons (ps_while PassesOwn.never (PW.pt (pw_and (pt_cmpR op_lt (pv 2) (pe_callB call_len_seq rfl T.b_len PySem.boot_len (pa_cons (pv 0) pa_nil)) (nomark _)) (pw_and1 (pt_val (pe_callG (ok_is_letter_or_digit T) hr (by decide) rfl T.mg_is_letter_or_digit T.kp_is_letter_or_digit pass0 (pa_cons (pe_ix ix_list (pv 0) (pv 2) (fun _ _ => rfl)) pa_nil))))))
      (pss_one (ps_aug sc_end_of_word.nd (i := 2) rfl (Or.inl rfl) pe_int ip_add)))
    (pss_one (ps_ret (pv 2)))),?_⟩
  refine ⟨_,rfl,?_⟩
  refine ⟨fun m σ H' => ∃ e : Nat,σ = [some (.ref r),some (.int st),some (.int e)] /\ H' = H /\ e <= b.length /\ e + (word (b.drop e)).length = st + (word (b.drop st)).length /\ m = b.length - e,⟨_,st,rfl,rfl,hst,rfl,rfl⟩,?_⟩
  rintro m σ H' ⟨e,rfl,rfl,he,hw,rfl⟩
  refine ⟨_,rfl,_,rfl,r,_,rfl,.inl (SqL.of hb),_,_,rfl,rfl,_,rfl,?_⟩
  rw [byV_length]
  refine ite2 (fun c => ?_) (fun c => ?_)
  · have c' : ((e : Nat) : Int) < (b.length : Nat) := of_decide_eq_true c
    have hlt : e < b.length := by omega
    have hc := List.getElem?_eq_getElem hlt
    generalize b[e] = d at hc
    refine ⟨_,rfl,_,rfl,r,_,_,_,rfl,rfl,SqL.of hb,atI_nat (byV_get hc),d,rfl,_,rfl,?_⟩
    cases hn : Sy10.isNameByte d with
    | true =>
      refine iteT ⟨_,fun _ _ z => z,?_⟩
      refine ⟨_,rfl,_,_,rfl,rfl,?_⟩
      have := word_cons hc hn
      exact ⟨b.length - (e + 1),by omega,e + 1,rfl,rfl,by omega,by omega,rfl⟩
    | false =>
      refine iteF ⟨_,rfl,?_⟩
      have : word (b.drop e) = [] := word_stop fun c q => by rw [hc] at q; cases q; exact hn
      rw [this] at hw
      rw [<- hw] at k
      exact k
  · have c' : ¬ ((e : Nat) : Int) < (b.length : Nat) := fun z => c (decide_eq_true z)
    refine iteF ⟨_,rfl,?_⟩
    have : word (b.drop e) = [] := word_stop fun c q => by
      rw [List.getElem?_eq_none (by omega)] at q
      cases q
    rw [this] at hw
    rw [<- hw] at k
    exact k
end
end Ft
end

section
namespace Ft
open PySem PySem.Spec PyProof.Rows L2
noncomputable def TokAt (H : Hp) (v : V) : Ptk -> Prop
  | .nm x => ∃ t,v = .ref t /\ H t = some (.tup ((ky x).map kV))
  | .sg c => v = .int (c : Int)
theorem TokAt.keep {C : Addr} {H H' : Hp} (k : Keep C H H') {v : V} : ∀ {p : Ptk},TokAt H v p -> TokAt H' v p
  | .nm x,⟨t,h1,h2⟩ => ⟨t,h1,k _ _ h2 trivial⟩
  | .sg c,h => h
noncomputable def tokF (b : List Nat) (i : Nat) : Option (List Ptk) := ptok (b.length + 1) (b.drop i)
theorem tokF_end {b : List Nat} {i : Nat} (h : b.length <= i) : tokF b i = some [] := by
  unfold tokF
  rw [List.drop_of_length_le h]
  rfl
theorem word_len (l : List Nat) : (word l).length <= l.length := by
  have := congrArg List.length (word_drop l)
  rw [List.length_append,List.length_drop] at this
  omega
theorem word_take (l : List Nat) : l.take (word l).length = word l := by
  have h : (word l ++ l.drop (word l).length).take (word l).length = word l := List.take_left' rfl
  rw [word_drop] at h
  exact h
theorem tokF_step {b : List Nat} {i c : Nat} (h : b[i]? = some c) : tokF b i =
    if Sy10.isNameByte c = true then (if Sy10.isName (word (b.drop i)) = true then (tokF b (i + (word (b.drop i)).length)).map fun l => .nm (word (b.drop i)) :: l else none)
    else if Sy10.isBlank c = true then tokF b (i + 1) else (tokF b (i + 1)).map fun l => .sg c :: l := by
  have hi : i < b.length := by
    rcases Nat.lt_or_ge i b.length with z | z
    · exact z
    · rw [List.getElem?_eq_none z] at h
      cases h
  have e : b.drop i = c :: b.drop (i + 1) := by
    rw [List.drop_eq_getElem_cons hi]
    have : b[i] = c := by rw [List.getElem?_eq_getElem hi] at h; exact Option.some.inj h
    rw [this]
  unfold tokF
  have f1 : ∀ j,ptok (b.length + 1) (b.drop j) = ptok b.length (b.drop j) := fun j => ptok_fuel _ _ _ (by rw [List.length_drop]; omega) (by rw [List.length_drop]; omega)
  rw [f1,f1 (i + (word (b.drop i)).length),f1 (i + 1),<- List.drop_drop,e]
  match hb : b.length,hi with
  | m + 1,_ =>
    have f2 : ∀ l : List Nat,l.length <= m -> ptok (m + 1) l = ptok m l := fun l hl => ptok_fuel _ _ _ (by omega) hl
    have l1 : (b.drop (i + 1)).length <= m := by rw [List.length_drop]; omega
    rw [show ptok (m + 1) (c :: b.drop (i + 1)) = _ from rfl]
    conv => lhs; unfold ptok
    by_cases q : Sy10.isNameByte c = true
    · rw [if_pos q,if_pos q]
      have p := word_pos (r := b.drop (i + 1)) q
      rw [f2 ((c :: b.drop (i + 1)).drop _) (by rw [List.length_drop,List.length_cons]; omega)]
    · rw [if_neg q,if_neg q,f2 _ l1]
section
variable {P : Program} {w : World} {K : PySem.W.Frag} {mg : Str -> Option Value} {base : Heap} {a : Ad}
noncomputable def spToks (a : Ad) : Sp := fun vs H Q E => ∃ (r : Addr) (b : List Nat),vs = [.ref r] /\ H r = some (.lst (byV b)) /\ b.length <= 100000 /\
  (ptok (b.length + 1) b = none -> ∀ H',Same H H' -> E (.ref a.c_NotATerm) none H') /\
  ∀ (l : List Ptk),ptok (b.length + 1) b = some l -> ∀ (H' : Hp) (q : Addr) (vs : List V),H' q = some (.lst vs) -> Paired (TokAt H') vs l -> Same H H' -> H q = none -> Q (.ref q) H'
theorem ok_tokens_of (T : Tx K mg a) : Gd P w K mg base (CXN P w a.c_NotATerm) 4 a.f_tokens_of ["text"] (spToks a) := by
  refine T.fn_tokens_of.okN sc_tokens_of (fun vs H Q E h => ?_) (fun cdv A outer s H vs Q E hr h => ?_)
  · obtain ⟨r,b,rfl,_⟩ := h
    rfl
  obtain ⟨r,b,rfl,hb,hlen,kE,k⟩ := h
  refine ⟨_,pss_cons (ps_set (i := 1) sc_tokens_of.nd rfl (Or.inl rfl) (pe_lst pa_nil))
    (pss_cons (ps_set (i := 2) sc_tokens_of.nd rfl (Or.inl rfl) pe_int)
    (pss_cons (ps_while po_of (pt_cmpR op_lt (pv 2) (pe_callB call_len_seq rfl T.b_len PySem.boot_len (pa_cons (pv 0) pa_nil)) (nomark _))
      (pss_one (ps_if (pt_val (pe_callG (ok_is_letter_or_digit T) hr (by decide) rfl T.mg_is_letter_or_digit T.kp_is_letter_or_digit pass0 (pa_cons (pe_ix ix_list (pv 0) (pv 2) (fun _ _ => rfl)) pa_nil)))
        (pss_cons (ps_set (i := 3) sc_tokens_of.nd rfl (Or.inl rfl) (pe_callG (ok_end_of_word T) hr (by decide) rfl T.mg_end_of_word T.kp_end_of_word pass0 (pa_cons (pv 0) (pa_cons (pv 2) pa_nil))))
        (pss_cons (ps_set (i := 4) sc_tokens_of.nd rfl (Or.inl rfl) (pe_callTy call_tuple_of rfl T.b_tuple (by decide +kernel) (pa_cons (pe_slice sl_list (pv 0) (po_some (pv 2)) (po_some (pv 3))) pa_nil)))
        (pss_cons (ps_if (pt_not (pt_val (pe_callG (ok_is_name T) hr (by decide) rfl T.mg_is_name T.kp_is_name pass0 (pa_cons (pv 4) pa_nil))))
          (pss_one (ps_raise xn_of rfl T.ex_NotATerm rfl T.mg_NotATerm))
          pss_nil)
        (pss_cons (ps_expr (pe_bm PySem.F.plainAttrs_list PySem.F.slot_list_append PySem.F.type_list_append mt_append (pv 1) (pa_cons (pv 4) pa_nil)))
        (pss_one (ps_set (i := 2) sc_tokens_of.nd rfl (Or.inl rfl) (pv 3)))))))
        (pss_cons (ps_if (pt_not (pt_val (pe_callG (ok_is_blank T) hr (by decide) rfl T.mg_is_blank T.kp_is_blank pass0 (pa_cons (pe_ix ix_list (pv 0) (pv 2) (fun _ _ => rfl)) pa_nil))))
          (pss_one (ps_expr (pe_bm PySem.F.plainAttrs_list PySem.F.slot_list_append PySem.F.type_list_append mt_append (pv 1) (pa_cons (pe_ix ix_list (pv 0) (pv 2) (fun _ _ => rfl)) pa_nil))))
          pss_nil)
        (pss_one (ps_aug sc_tokens_of.nd (i := 2) rfl (Or.inl rfl) pe_int ip_add))))))
    (pss_one (ps_ret (pv 1))))),?_⟩
  refine ⟨Nat.zero_le _,fun q hq => ?_⟩
  have qr : q ≠ r := Ne.symm (ne_of_none hb hq)
  refine ⟨fun m σ H' => ∃ (i : Nat) (v3 v4 : Option V) (vs : List V) (l : List Ptk),σ = [some (.ref r),some (.ref q),some (.int i),v3,v4] /\ Same H H' /\ H' q = some (.lst vs) /\ Paired (TokAt H') vs l /\ l.length <= i /\ i <= b.length /\
    tokF b 0 = (tokF b i).map (fun m => l ++ m) /\ m = b.length - i,⟨_,0,_,_,_,[],rfl,same_new hq,upd_same,.nil,Nat.le_refl _,Nat.zero_le _,by cases tokF b 0 <;> rfl,rfl⟩,?_⟩
  rintro m σ H' ⟨i,v3,v4,vs,l,rfl,sm,hq',pr,hl,hi,ht,rfl⟩
  have hb' := sm _ _ hb
  have lp : vs.length = l.length := Paired.length pr
  have t0 : tokF b 0 = ptok (b.length + 1) b := rfl
  refine ⟨_,rfl,_,rfl,r,_,rfl,.inl (SqL.of hb'),_,_,rfl,rfl,_,rfl,?_⟩
  rw [byV_length]
  refine ite2 (fun c => ?_) (fun c => ?_)
  · have c' : ((i : Nat) : Int) < (b.length : Nat) := of_decide_eq_true c
    have hlt : i < b.length := by omega
    have hc := List.getElem?_eq_getElem hlt
    generalize b[i] = d at hc
    have st := tokF_step hc
    have small : vs.length < sizeLine := Nat.lt_of_le_of_lt (show vs.length <= 100000 by omega) (by decide)
    refine ⟨_,fun _ _ z => z,?_⟩
    refine ⟨_,rfl,_,rfl,r,_,_,_,rfl,rfl,SqL.of hb',atI_nat (byV_get hc),d,rfl,_,rfl,?_⟩
    cases hn : Sy10.isNameByte d with
    | true =>
      rw [if_pos hn] at st
      have wl : i + (word (b.drop i)).length <= b.length := by
        have := word_len (b.drop i)
        rw [List.length_drop] at this
        omega
      have wp := word_cons hc hn
      refine iteT ⟨_,rfl,_,rfl,r,b,i,rfl,hb',hi,?_⟩
      have cut : cutV (byV b) (some (i : Int)) (some ((i + (word (b.drop i)).length : Nat) : Int)) = byV (word (b.drop i)) := by
        unfold cutV
        rw [HT.sIx_nat,HT.sIx_nat,byV_length,Nat.min_eq_left hi,Nat.min_eq_left wl,Nat.add_sub_cancel_left]
        unfold byV
        rw [<- List.map_drop,<- List.map_take]
        congr 1
        exact word_take _
      generalize hw : word (b.drop i) = wd at st wl wp cut
      refine ⟨_,rfl,_,rfl,_,rfl,_,rfl,_,rfl,r,_,rfl,SqL.of hb',fun p hp => ?_⟩
      rw [cut]
      have s1 := same_new (o := .lst (byV wd)) hp
      refine ⟨p,_,rfl,.inl ⟨SqL.of upd_same,fun t htt => ?_⟩⟩
      have s2 := s1.trans (same_new (o := .tup (byV wd)) htt)
      refine ⟨_,rfl,t,wd,rfl,.inr upd_same,?_,fun H2 s3 => ?_⟩
      · omega
      have s4 := s2.trans s3
      have e2 : H2 t = some (.tup (byV wd)) := s3 _ _ upd_same
      refine ⟨_,rfl,?_⟩
      cases hnm : Sy10.isName wd with
      | false =>
        rw [hnm,if_neg Bool.false_ne_true] at st
        rw [st] at ht
        exact iteT (kE (t0 ▸ ht) _ (sm.trans s4))
      | true =>
        rw [hnm,if_pos rfl] at st
        have hq2 := s4 _ _ hq'
        refine iteF ⟨_,rfl,.inl ⟨rfl,_,SqL.of hq2⟩,_,rfl,q,_,_,rfl,rfl,hq2,small,?_⟩
        refine ⟨_,rfl,b.length - (i + wd.length),by omega,i + wd.length,_,_,_,l ++ [.nm wd],rfl,fun c o e => ?_,upd_same,?_,?_,wl,?_,rfl⟩
        · rw [upd_ne (ne_of_none e hq)]
          exact s4 _ _ (sm _ _ e)
        · have k1 : Keep a.c_Term H2 (upd H2 q (.lst (vs ++ [.ref t]))) := Keep.upd hq2 (fun z => z)
          refine Paired.snoc (paired_imp (fun v e h => (h.keep (C := a.c_Term) (.of s4)).keep k1) pr) ⟨t,rfl,?_⟩
          rw [ky_map]
          exact k1 _ _ e2 trivial
        · rw [List.length_append,List.length_cons,List.length_nil]
          omega
        · rw [ht,st]
          cases tokF b (i + wd.length) with
          | none => rfl
          | some m => simp
    | false =>
      rw [if_neg (by rw [hn]; exact Bool.false_ne_true)] at st
      refine iteF ⟨_,rfl,_,rfl,r,_,_,_,rfl,rfl,SqL.of hb',atI_nat (byV_get hc),d,rfl,fun H2 s2 => ?_⟩
      refine ⟨_,rfl,?_⟩
      have sm2 := sm.trans s2
      have hq2 := s2 _ _ hq'
      have pr2 := paired_imp (fun v e h => TokAt.keep (C := a.c_Term) (.of s2) h) pr
      cases hk : Sy10.isBlank d with
      | true =>
        rw [hk,if_pos rfl] at st
        refine iteF ⟨_,rfl,_,_,rfl,rfl,b.length - (i + 1),by omega,i + 1,_,_,vs,l,rfl,sm2,hq2,pr2,by omega,by omega,?_,rfl⟩
        rw [ht,st]
      | false =>
        rw [hk,if_neg Bool.false_ne_true] at st
        refine iteT ⟨_,rfl,.inl ⟨rfl,_,SqL.of hq2⟩,_,rfl,_,rfl,r,_,_,_,rfl,rfl,SqL.of (s2 _ _ hb'),atI_nat (byV_get hc),q,_,_,rfl,rfl,hq2,small,?_⟩
        refine ⟨_,rfl,_,_,rfl,rfl,b.length - (i + 1),by omega,i + 1,_,_,_,l ++ [.sg d],rfl,fun c o e => ?_,upd_same,?_,?_,by omega,?_,rfl⟩
        · rw [upd_ne (ne_of_none e hq)]
          exact sm2 _ _ e
        · have k1 : Keep a.c_Term H2 (upd H2 q (.lst (vs ++ [.int (d : Int)]))) := Keep.upd hq2 (fun z => z)
          exact Paired.snoc (paired_imp (fun v e h => TokAt.keep k1 h) pr2) rfl
        · rw [List.length_append,List.length_cons,List.length_nil]
          omega
        · rw [ht,st]
          cases tokF b (i + 1) with
          | none => rfl
          | some m => simp
  · have c' : ¬ ((i : Nat) : Int) < (b.length : Nat) := fun z => c (decide_eq_true z)
    rw [tokF_end (show b.length <= i by omega)] at ht
    have : ptok (b.length + 1) b = some l := by rw [<- t0,ht]; simp
    exact ⟨_,rfl,k l this H' q vs hq' pr sm hq⟩
end
end Ft
end

section
namespace Ft
open PySem PySem.Spec PyProof.Rows L2
noncomputable abbrev Bytes := Sy10.Bytes
noncomputable def lv (x : Bytes) : List Bytes -> List Nat
  | [] => []
  | y :: e => if y = x then lv x e ++ [e.length + 1] else lv x e
noncomputable def lvV (x : Bytes) (env : List Bytes) : List V := (lv x env).map fun (n : Nat) => V.int (n : Int)
theorem lv_same (x : Bytes) (e : List Bytes) : lvV x (x :: e) = lvV x e ++ [.int ((e.length + 1 : Nat) : Int)] := by
  unfold lvV
  rw [lv,if_pos rfl,List.map_append]
  rfl
theorem lv_ne {x y : Bytes} (e : List Bytes) (h : y ≠ x) : lvV x (y :: e) = lvV x e := by
  unfold lvV
  rw [lv,if_neg h]
theorem lv_len (x : Bytes) : ∀ e : List Bytes,(lvV x e).length <= e.length
  | [] => Nat.le_refl _
  | y :: e => by
    have := lv_len x e
    by_cases h : y = x
    · subst h
      rw [lv_same,List.length_append,List.length_cons,List.length_nil,List.length_cons]
      omega
    · rw [lv_ne e h,List.length_cons]
      omega
theorem lv_find (x : Bytes) : ∀ env : List Bytes,match env.findIdx? (fun y => y == x) with
    | none => lvV x env = []
    | some k => k < env.length /\ ∃ us,lvV x env = us ++ [.int ((env.length - k : Nat) : Int)]
  | [] => rfl
  | y :: e => by
    have ih := lv_find x e
    rw [List.findIdx?_cons]
    by_cases h : y = x
    · subst h
      rw [show (y == y) = true from beq_self_eq_true y,if_pos rfl]
      exact ⟨by simp,_,lv_same y e⟩
    · rw [show (y == x) = false from beq_false_of_ne h,if_neg Bool.false_ne_true,lv_ne e h]
      cases q : e.findIdx? fun y => y == x with
      | none =>
        rw [q] at ih
        exact ih
      | some k =>
        rw [q] at ih
        obtain ⟨h1,us,h2⟩ := ih
        refine ⟨by simp only [List.length_cons]; omega,us,?_⟩
        rw [h2]
        congr 4
        simp only [List.length_cons]
        omega
noncomputable abbrev rowF : List Str := ["begun","name","term"]
noncomputable abbrev rdF : List Str := ["defined","rows","depth","owners","unknown"]
noncomputable def Kd.num : Kd -> Int
  | .start => 0
  | .par => 1
  | .fun_ _ => 2
noncomputable def KdAt (H : Hp) (v : V) : Kd -> Prop
  | .fun_ x => ∃ t,v = .ref t /\ H t = some (.tup ((ky x).map kV))
  | .start => v = .non
  | .par => v = .non
theorem KdAt.keep {C : Addr} {H H' : Hp} (k : Keep C H H') {v : V} : ∀ {kd : Kd},KdAt H v kd -> KdAt H' v kd
  | .fun_ x,⟨t,h1,h2⟩ => ⟨t,h1,k _ _ h2 trivial⟩
  | .start,h => h
  | .par,h => h
noncomputable def AccAt (C : Addr) (H : Hp) (v : V) : Option Sy10.T -> Prop
  | none => v = .non
  | some t => ∃ q,v = .ref q /\ TermAt C H q (ofT t)
theorem AccAt.keep {C : Addr} {H H' : Hp} (k : Keep C H H') {v : V} : ∀ {o : Option Sy10.T},AccAt C H v o -> AccAt C H' v o
  | some t,⟨q,h1,h2⟩ => ⟨q,h1,h2.keep k⟩
  | none,h => h
structure RowO (a : Ad) (H : Hp) (p : Addr) (r : Rw) (dx : Addr) (nv tv : V) : Prop where
  ob : H p = some (.ins a.c_Row dx (rowF.zip [.int r.1.num,nv,tv]))
  kd : KdAt H nv r.1
  acc : AccAt a.c_Term H tv r.2
noncomputable def RwAt (a : Ad) (H0 H : Hp) (v : V) (r : Rw) : Prop := ∃ p dx nv tv,v = .ref p /\ H0 p = none /\ RowO a H p r dx nv tv
noncomputable def KeepR (a : Ad) (H H' : Hp) : Prop := ∀ b o,H b = some o -> (imm a.c_Term o \/ ∃ dx fs,o = .ins a.c_Row dx fs) -> H' b = some o
theorem KeepR.keep {a : Ad} {H H' : Hp} (k : KeepR a H H') : Keep a.c_Term H H' := fun b o e i => k b o e (.inl i)
theorem KeepR.of {a : Ad} {H H' : Hp} (s : Same H H') : KeepR a H H' := fun b o e _ => s b o e
theorem KeepR.upd {a : Ad} {H : Hp} {p : Addr} {o u : HO} (h : H p = some o) (ho : ¬ imm a.c_Term o) (hr : ∀ dx fs,o ≠ .ins a.c_Row dx fs) : KeepR a H (L2.upd H p u) := fun b v e i => by
  rw [upd_ne]
  · exact e
  · intro z
    subst z
    rw [h] at e
    cases e
    rcases i with i | ⟨dx,fs,i⟩
    · exact ho i
    · exact hr dx fs i
theorem KeepR.lst {a : Ad} {H : Hp} {p : Addr} {xs : List V} {u : HO} (h : H p = some (.lst xs)) : KeepR a H (L2.upd H p u) := .upd h (fun z => z) (fun _ _ z => nomatch z)
theorem KeepR.dT {a : Ad} {H : Hp} {p : Addr} {xs : List (List Key × V)} {u : HO} (h : H p = some (.dT xs)) : KeepR a H (L2.upd H p u) := .upd h (fun z => z) (fun _ _ z => nomatch z)
theorem RowO.keepR {a : Ad} {H H' : Hp} {p : Addr} {r : Rw} {dx : Addr} {nv tv : V} (h : RowO a H p r dx nv tv) (k : KeepR a H H') : RowO a H' p r dx nv tv :=
  ⟨k _ _ h.ob (.inr ⟨_,_,rfl⟩),h.kd.keep k.keep,h.acc.keep k.keep⟩
theorem RwAt.keepR {a : Ad} {H0 H H' : Hp} (k : KeepR a H H') {v : V} {r : Rw} (h : RwAt a H0 H v r) : RwAt a H0 H' v r := by
  obtain ⟨p,dx,nv,tv,h1,h2,h3⟩ := h
  exact ⟨p,dx,nv,tv,h1,h2,h3.keepR k⟩
noncomputable def DefAt (a : Ad) (H : Hp) (D : Addr) (d : Sy10.Defs) : Prop := ∃ dk,H D = some (.dT dk) /\ dk.length = d.length /\ ∀ x,match Sy10.lookup d x with
  | none => valV dk (ky x) = none
  | some t => ∃ q,valV dk (ky x) = some (.ref q) /\ TermAt a.c_Term H q (ofT t)
theorem DefAt.same {a : Ad} {H H' : Hp} {D : Addr} {d : Sy10.Defs} (h : DefAt a H D d) (s : Same H H') : DefAt a H' D d := by
  obtain ⟨dk,h1,h2,h3⟩ := h
  refine ⟨dk,s _ _ h1,h2,fun x => ?_⟩
  have := h3 x
  cases e : Sy10.lookup d x with
  | none => rw [e] at this; exact this
  | some t =>
    rw [e] at this
    obtain ⟨q,q1,q2⟩ := this
    exact ⟨q,q1,q2.same s⟩
noncomputable def UkAt (uk : List (List Key × V)) (F : List Bytes) : Prop := uk.map (·.1) = (Sy10.once F).map ky
theorem keys_put (kvs : List (List Key × V)) (k : List Key) (v : V) : (putK kvs k v).map (·.1) = if (valV kvs k).isSome = true then kvs.map (·.1) else kvs.map (·.1) ++ [k] := by
  unfold putK
  rw [valV_any]
  split
  · rw [List.map_map]
    refine List.map_congr_left fun kv _ => ?_
    show (if kv.1 = k then (kv.1,v) else kv).1 = kv.1
    split <;> rfl
  · rw [List.map_append]
    rfl
theorem UkAt.mem {uk : List (List Key × V)} {F : List Bytes} (h : UkAt uk F) (x : Bytes) : (valV uk (ky x)).isSome = true ↔ x ∈ F := by
  rw [<- mem_once (l := F)]
  constructor
  · intro e
    obtain ⟨v,e⟩ := Option.isSome_iff_exists.mp e
    have := valV_in e
    rw [h] at this
    obtain ⟨y,hy,e2⟩ := List.mem_map.mp this
    rw [<- ky_inj e2]
    exact hy
  · intro e
    cases q : valV uk (ky x) with
    | some v => rfl
    | none =>
      have := valV_not q
      rw [h] at this
      exact absurd (List.mem_map.mpr ⟨x,e,rfl⟩) this
theorem UkAt.put {uk : List (List Key × V)} {F : List Bytes} (h : UkAt uk F) (x : Bytes) (v : V) : UkAt (putK uk (ky x) v) (F ++ [x]) := by
  unfold UkAt
  rw [keys_put,once_snoc]
  by_cases e : x ∈ F
  · rw [if_pos ((h.mem x).mpr e),if_pos (by simpa using (mem_once (l := F)).mpr e)]
    exact h
  · rw [if_neg (fun z => e ((h.mem x).mp z)),if_neg (fun z => e ((mem_once (l := F)).mp (by simpa using z))),List.map_append,h]
    rfl
theorem UkAt.length {uk : List (List Key × V)} {F : List Bytes} (h : UkAt uk F) : uk.length = (Sy10.once F).length := by
  have := congrArg List.length h
  simpa using this
structure RdA where
  D : Addr
  L : Addr
  O : Addr
  U : Addr
  dx : Addr
structure Own (H0 H : Hp) (L : Addr) (kvs : List (List Key × V)) (env : List Bytes) : Prop where
  at_ : ∀ x,(valV kvs (ky x) = none /\ lvV x env = []) \/ ∃ l,valV kvs (ky x) = some (.ref l) /\ H0 l = none /\ l ≠ L /\ H l = some (.lst (lvV x env))
  inj : ∀ x y l,valV kvs (ky x) = some (.ref l) -> valV kvs (ky y) = some (.ref l) -> x = y
theorem Own.of {H0 H H' : Hp} {L : Addr} {kvs : List (List Key × V)} {env : List Bytes} (o : Own H0 H L kvs env) (h : ∀ l xs,l ≠ L -> H0 l = none -> H l = some (.lst xs) -> H' l = some (.lst xs)) : Own H0 H' L kvs env :=
  ⟨fun x => (o.at_ x).imp id fun ⟨l,h1,h2,h3,h4⟩ => ⟨l,h1,h2,h3,h l _ h3 h2 h4⟩,o.inj⟩
structure Rd (a : Ad) (H0 : Hp) (d : Sy10.Defs) (A : RdA) (H : Hp) (rd : Addr) (R : List Rw) (dp : Int) (env F : List Bytes) (n : Nat) : Prop where
  sm : Same H0 H
  df : DefAt a H0 A.D d
  ob : H rd = some (.ins a.c_Reader A.dx (rdF.zip [.ref A.D,.ref A.L,.int dp,.ref A.O,.ref A.U]))
  rn : H0 rd = none
  ln : H0 A.L = none
  on : H0 A.O = none
  un : H0 A.U = none
  ou : A.O ≠ A.U
  rows : ∃ vs,H A.L = some (.lst vs) /\ Stk (RwAt a H0 H) vs R /\ vs.Nodup
  own : ∃ kvs,H A.O = some (.dT kvs) /\ kvs.length <= n /\ Own H0 H A.L kvs env
  unk : ∃ uk,H A.U = some (.dT uk) /\ uk.length <= n /\ UkAt uk F
section
variable {K : PySem.W.Frag} {mg : Str -> Option Value} {a : Ad} {H0 H H' : Hp} {d : Sy10.Defs} {A : RdA} {rd : Addr} {R : List Rw} {dp : Int} {env F : List Bytes} {n : Nat}
theorem ne_Row (T : Tx K mg a) : a.c_Row ≠ a.c_Term /\ a.c_Row ≠ a.c_Reader := ⟨cls_ne T.mk_Row T.mk_Term T.fn_Row_init T.fn_Term_init (by decide +kernel),cls_ne T.mk_Row T.mk_Reader T.fn_Row_init T.fn_Reader_init (by decide +kernel)⟩
theorem ne_Reader (T : Tx K mg a) : a.c_Reader ≠ a.c_Term := cls_ne T.mk_Reader T.mk_Term T.fn_Reader_init T.fn_Term_init (by decide +kernel)
theorem Rd.same (h : Rd a H0 d A H rd R dp env F n) (s : Same H H') : Rd a H0 d A H' rd R dp env F n := by
  obtain ⟨vs,r1,r2,r3⟩ := h.rows
  obtain ⟨kvs,o1,o2,o3⟩ := h.own
  obtain ⟨uk,u1,u2,u3⟩ := h.unk
  exact ⟨h.sm.trans s,h.df,s _ _ h.ob,h.rn,h.ln,h.on,h.un,h.ou,⟨vs,s _ _ r1,r2.imp fun v e q => q.keepR (.of s),r3⟩,⟨kvs,s _ _ o1,o2,o3.of fun l xs _ _ e => s _ _ e⟩,⟨uk,s _ _ u1,u2,u3⟩⟩
theorem Rd.mono (h : Rd a H0 d A H rd R dp env F n) {m : Nat} (hm : n <= m) : Rd a H0 d A H rd R dp env F m := by
  obtain ⟨kvs,o1,o2,o3⟩ := h.own
  obtain ⟨uk,u1,u2,u3⟩ := h.unk
  exact ⟨h.sm,h.df,h.ob,h.rn,h.ln,h.on,h.un,h.ou,h.rows,⟨kvs,o1,by omega,o3⟩,⟨uk,u1,by omega,u3⟩⟩
theorem same_out {p : Addr} {o : HO} (s : Same H0 H) (h : H0 p = none) : Same H0 (upd H p o) := fun b u e => by
  rw [upd_ne (ne_of_none e h)]
  exact s b u e
theorem nodup_snoc {us : List V} {v : V} : (us ++ [v]).Nodup ↔ us.Nodup /\ v ∉ us := by
  rw [List.nodup_append]
  constructor
  · rintro ⟨h1,_,h3⟩
    exact ⟨h1,fun m => h3 v m v (by simp) rfl⟩
  · rintro ⟨h1,h2⟩
    refine ⟨h1,by simp,fun x hx y hy => ?_⟩
    simp only [List.mem_singleton] at hy
    subst hy
    exact fun e => h2 (e ▸ hx)
theorem stk_mem {α : Type} {R : V -> α -> Prop} {vs : List V} {l : List α} (h : Stk R vs l) {v : V} (m : v ∈ vs) : ∃ e,R v e := by
  induction h with
  | nil => cases m
  | push _ r ih =>
    rcases List.mem_append.mp m with z | z
    · exact ih z
    · simp only [List.mem_singleton] at z
      subst z
      exact ⟨_,r⟩
theorem stk_impM {α : Type} {R S : V -> α -> Prop} {vs : List V} {l : List α} (h : Stk R vs l) (f : ∀ v e,v ∈ vs -> R v e -> S v e) : Stk S vs l := by
  induction h with
  | nil => exact .nil
  | push _ r ih => exact .push (ih fun v e m q => f v e (List.mem_append_left _ m) q) (f _ _ (by simp) r)
theorem Rd.top (T : Tx K mg a) {r : Rw} (h : Rd a H0 d A H rd (r :: R) dp env F n) : ∃ us p dx nv tv,H A.L = some (.lst (us ++ [.ref p])) /\ H0 p = none /\ RowO a H p r dx nv tv /\
    Rd a H0 d A (upd H A.L (.lst us)) rd R dp env F n /\
    ∀ (H1 : Hp) (tv' : V) (acc' : Option Sy10.T),Same H H1 -> AccAt a.c_Term H1 tv' acc' -> Rd a H0 d A (upd H1 p (.ins a.c_Row dx (rowF.zip [.int r.1.num,nv,tv']))) rd ((r.1,acc') :: R) dp env F n /\
      Keep a.c_Term H (upd H1 p (.ins a.c_Row dx (rowF.zip [.int r.1.num,nv,tv']))) := by
  obtain ⟨vs,r1,r2,r3⟩ := h.rows
  obtain ⟨kvs,o1,o2,o3⟩ := h.own
  obtain ⟨uk,u1,u2,u3⟩ := h.unk
  obtain ⟨us,v,rfl,st,p,dx,nv,tv,rfl,p0,hp⟩ := r2.pop
  obtain ⟨nd,np⟩ := nodup_snoc.mp r3
  refine ⟨us,p,dx,nv,tv,r1,p0,hp,?_,fun H1 tv' acc' s ha => ?_⟩
  · have k : KeepR a H (upd H A.L (.lst us)) := .lst r1
    refine ⟨same_out h.sm h.ln,h.df,by rw [upd_ne (ne_of h.ob r1 (fun z => nomatch z))]; exact h.ob,h.rn,h.ln,h.on,h.un,h.ou,⟨us,upd_same,st.imp fun v e q => q.keepR k,nd⟩,
      ⟨kvs,by rw [upd_ne (ne_of o1 r1 (fun z => nomatch z))]; exact o1,o2,o3.of fun l xs n1 _ e => by rw [upd_ne n1]; exact e⟩,⟨uk,by rw [upd_ne (ne_of u1 r1 (fun z => nomatch z))]; exact u1,u2,u3⟩⟩
  · have hp1 : H1 p = some (.ins a.c_Row dx (rowF.zip [.int r.1.num,nv,tv])) := s _ _ hp.ob
    have k : Keep a.c_Term H1 (upd H1 p (.ins a.c_Row dx (rowF.zip [.int r.1.num,nv,tv']))) := Keep.upd hp1 (ne_Row T).1
    refine ⟨?_,(Keep.of s).trans k⟩
    have e1 := s _ _ r1
    have e2 := s _ _ o1
    have e3 := s _ _ u1
    refine ⟨same_out (h.sm.trans s) p0,h.df,by rw [upd_ne (ne_of (s _ _ h.ob) hp1 (fun z => by injection z with z1 _ _; exact (ne_Row T).2 z1.symm))]; exact s _ _ h.ob,h.rn,h.ln,h.on,h.un,h.ou,
      ⟨us ++ [.ref p],by rw [upd_ne (ne_of e1 hp1 (fun z => nomatch z))]; exact e1,.push (stk_impM st fun v e m q => ?_) ⟨p,dx,nv,tv',rfl,p0,upd_same,(hp.kd.keep (C := a.c_Term) (.of s)).keep k,ha.keep k⟩,r3⟩,
      ⟨kvs,by rw [upd_ne (ne_of e2 hp1 (fun z => nomatch z))]; exact e2,o2,o3.of fun l xs _ _ e => by rw [upd_ne (ne_of (s _ _ e) hp1 (fun z => nomatch z))]; exact s _ _ e⟩,
      ⟨uk,by rw [upd_ne (ne_of e3 hp1 (fun z => nomatch z))]; exact e3,u2,u3⟩⟩
    obtain ⟨p',dx',nv',tv2,rfl,q0,q1⟩ := q
    have ne : p' ≠ p := fun z => np (by rw [<- z]; exact m)
    exact ⟨p',dx',nv',tv2,rfl,q0,by rw [upd_ne ne]; exact s _ _ q1.ob,(q1.kd.keep (C := a.c_Term) (.of s)).keep k,(q1.acc.keep (.of s)).keep k⟩
theorem Rd.push (h : Rd a H0 d A H rd R dp env F n) {p dx : Addr} {kd : Kd} {nv : V} (hp : H p = none) (s : Same H H') (ho : H' p = some (.ins a.c_Row dx (rowF.zip [.int kd.num,nv,.non]))) (hk : KdAt H' nv kd) :
    ∃ vs,H' A.L = some (.lst vs) /\ vs.length = R.length /\ Rd a H0 d A (upd H' A.L (.lst (vs ++ [.ref p]))) rd ((kd,none) :: R) dp env F n /\ KeepR a H' (upd H' A.L (.lst (vs ++ [.ref p]))) := by
  have h' := h.same s
  obtain ⟨vs,q1,q2,q3⟩ := h.rows
  have p0 := h.sm.free hp
  have np : V.ref p ∉ vs := fun m => by
    obtain ⟨r,p',_,_,_,e,_,o⟩ := stk_mem q2 m
    cases e
    have := o.ob
    rw [hp] at this
    cases this
  have r1 := s _ _ q1
  have r2 : Stk (RwAt a H0 H') vs R := q2.imp fun v e q => q.keepR (.of s)
  obtain ⟨kvs,o1,o2,o3⟩ := h'.own
  obtain ⟨uk,u1,u2,u3⟩ := h'.unk
  have k : KeepR a H' (upd H' A.L (.lst (vs ++ [.ref p]))) := .lst r1
  refine ⟨vs,r1,q2.length,?_,k⟩
  exact ⟨same_out h'.sm h.ln,h.df,by rw [upd_ne (ne_of h'.ob r1 (fun z => nomatch z))]; exact h'.ob,h.rn,h.ln,h.on,h.un,h.ou,
    ⟨_,upd_same,.push (r2.imp fun v e q => q.keepR k) ⟨p,dx,nv,.non,rfl,p0,(⟨ho,hk,rfl⟩ : RowO a H' p (kd,none) dx nv .non).keepR k⟩,nodup_snoc.mpr ⟨q3,np⟩⟩,
    ⟨kvs,by rw [upd_ne (ne_of o1 r1 (fun z => nomatch z))]; exact o1,o2,o3.of fun l xs n1 _ e => by rw [upd_ne n1]; exact e⟩,⟨uk,by rw [upd_ne (ne_of u1 r1 (fun z => nomatch z))]; exact u1,u2,u3⟩⟩
theorem Rd.deep (T : Tx K mg a) (h : Rd a H0 d A H rd R dp env F n) (e : Int) : Rd a H0 d A (upd H rd (.ins a.c_Reader A.dx (rdF.zip [.ref A.D,.ref A.L,.int e,.ref A.O,.ref A.U]))) rd R e env F n /\
    KeepR a H (upd H rd (.ins a.c_Reader A.dx (rdF.zip [.ref A.D,.ref A.L,.int e,.ref A.O,.ref A.U]))) := by
  obtain ⟨vs,r1,r2,r3⟩ := h.rows
  obtain ⟨kvs,o1,o2,o3⟩ := h.own
  obtain ⟨uk,u1,u2,u3⟩ := h.unk
  have k : KeepR a H (upd H rd (.ins a.c_Reader A.dx (rdF.zip [.ref A.D,.ref A.L,.int e,.ref A.O,.ref A.U]))) := .upd h.ob (ne_Reader T) (fun _ _ z => by injection z with z1 _ _; exact (ne_Row T).2 z1.symm)
  refine ⟨⟨same_out h.sm h.rn,h.df,upd_same,h.rn,h.ln,h.on,h.un,h.ou,⟨vs,by rw [upd_ne (ne_of r1 h.ob (fun z => nomatch z))]; exact r1,r2.imp fun v e q => q.keepR k,r3⟩,
    ⟨kvs,by rw [upd_ne (ne_of o1 h.ob (fun z => nomatch z))]; exact o1,o2,o3.of fun l xs n1 _ e => by rw [upd_ne (ne_of e h.ob (fun z => nomatch z))]; exact e⟩,⟨uk,by rw [upd_ne (ne_of u1 h.ob (fun z => nomatch z))]; exact u1,u2,u3⟩⟩,k⟩
theorem Rd.level (h : Rd a H0 d A H rd R dp env F n) {env' : List Bytes} {kvs : List (List Key × V)} (hO : H A.O = some (.dT kvs)) {x : Bytes} {l : Addr} (hv : valV kvs (ky x) = some (.ref l)) (he : ∀ y,y ≠ x -> lvV y env' = lvV y env) :
    H l = some (.lst (lvV x env)) /\ Rd a H0 d A (upd H l (.lst (lvV x env'))) rd R dp env' F n /\ KeepR a H (upd H l (.lst (lvV x env'))) := by
  obtain ⟨vs,r1,r2,r3⟩ := h.rows
  obtain ⟨kvs',o1,o2,o3⟩ := h.own
  obtain ⟨uk,u1,u2,u3⟩ := h.unk
  rw [hO] at o1
  cases o1
  rcases o3.at_ x with ⟨z,_⟩ | ⟨l',z,l0,lL,hl⟩
  · rw [hv] at z; cases z
  rw [hv] at z
  cases z
  have k : KeepR a H (upd H l (.lst (lvV x env'))) := .lst hl
  refine ⟨hl,⟨same_out h.sm l0,h.df,by rw [upd_ne (ne_of h.ob hl (fun z => nomatch z))]; exact h.ob,h.rn,h.ln,h.on,h.un,h.ou,⟨vs,by rw [upd_ne (Ne.symm lL)]; exact r1,r2.imp fun v e q => q.keepR k,r3⟩,
    ⟨kvs,by rw [upd_ne (ne_of hO hl (fun z => nomatch z))]; exact hO,o2,⟨fun y => ?_,o3.inj⟩⟩,⟨uk,by rw [upd_ne (ne_of u1 hl (fun z => nomatch z))]; exact u1,u2,u3⟩⟩,k⟩
  by_cases e : y = x
  · subst e
    exact .inr ⟨l,hv,l0,lL,upd_same⟩
  · rw [he y e]
    refine (o3.at_ y).imp id fun ⟨m,m1,m2,m3,m4⟩ => ⟨m,m1,m2,m3,?_⟩
    rw [upd_ne]
    · exact m4
    · intro z
      subst z
      exact e (o3.inj y x _ m1 hv)
theorem Rd.first (h : Rd a H0 d A H rd R dp env F n) {kvs : List (List Key × V)} (hO : H A.O = some (.dT kvs)) {x : Bytes} {l : Addr} (hv : valV kvs (ky x) = none) (hl : H l = none) :
    Rd a H0 d A (upd (upd (upd H l (.lst [])) A.O (.dT (putK kvs (ky x) (.ref l)))) l (.lst (lvV x (x :: env)))) rd R dp (x :: env) F (n + 1) /\
    KeepR a H (upd (upd (upd H l (.lst [])) A.O (.dT (putK kvs (ky x) (.ref l)))) l (.lst (lvV x (x :: env)))) := by
  obtain ⟨vs,r1,r2,r3⟩ := h.rows
  obtain ⟨kvs',o1,o2,o3⟩ := h.own
  obtain ⟨uk,u1,u2,u3⟩ := h.unk
  rw [hO] at o1
  cases o1
  have l0 := h.sm.free hl
  have lL : A.L ≠ l := ne_of_none r1 hl
  have lO : A.O ≠ l := ne_of_none hO hl
  have lU : A.U ≠ l := ne_of_none u1 hl
  have lr : rd ≠ l := ne_of_none h.ob hl
  generalize hG : upd (upd (upd H l (.lst [])) A.O (.dT (putK kvs (ky x) (.ref l)))) l (.lst (lvV x (x :: env))) = G
  have out : ∀ b,b ≠ l -> b ≠ A.O -> G b = H b := fun b n1 n2 => by rw [<- hG,upd_ne n1,upd_ne n2,upd_ne n1]
  have k : KeepR a H G := fun b o e i => by
    rw [out b (ne_of_none e hl) (ne_of e hO (fun z => by subst z; rcases i with i | ⟨_,_,i⟩; exact i; cases i))]
    exact e
  have gl : G l = some (.lst (lvV x (x :: env))) := by rw [<- hG,upd_same]
  have gO : G A.O = some (.dT (putK kvs (ky x) (.ref l))) := by rw [<- hG,upd_ne lO,upd_same]
  refine ⟨⟨fun b o e => ?_,h.df,by rw [out _ lr (ne_of h.ob hO (fun z => nomatch z))]; exact h.ob,h.rn,h.ln,h.on,h.un,h.ou,⟨vs,by rw [out _ lL (ne_of r1 hO (fun z => nomatch z))]; exact r1,r2.imp fun v e q => q.keepR k,r3⟩,
    ⟨_,gO,?_,⟨fun y => ?_,fun y z m => ?_⟩⟩,⟨uk,by rw [out _ lU (Ne.symm h.ou)]; exact u1,by omega,u3⟩⟩,k⟩
  · rw [out b (ne_of_none e l0) (ne_of_none e h.on)]
    exact h.sm b o e
  · have := length_putK kvs (ky x) (.ref l)
    omega
  · rw [valV_put]
    by_cases e : y = x
    · subst e
      rw [if_pos rfl]
      exact .inr ⟨l,rfl,l0,Ne.symm lL,gl⟩
    · rw [if_neg (fun z => e (ky_inj z)),lv_ne env (Ne.symm e)]
      refine (o3.at_ y).imp id fun ⟨m,m1,m2,m3,m4⟩ => ⟨m,m1,m2,m3,?_⟩
      rw [out m (ne_of_none m4 hl) (ne_of m4 hO (fun z => nomatch z))]
      exact m4
  · have no : ∀ y,valV kvs (ky y) ≠ some (.ref l) := fun y q => by
      rcases o3.at_ y with ⟨q2,_⟩ | ⟨m,q2,_,_,q3⟩
      · rw [q] at q2; cases q2
      · rw [q] at q2
        cases q2
        rw [hl] at q3
        cases q3
    rw [valV_put,valV_put]
    by_cases e1 : y = x
    · by_cases e2 : z = x
      · intro _ _
        rw [e1,e2]
      · rw [if_pos (by rw [e1]),if_neg (fun z => e2 (ky_inj z))]
        intro q1 q2
        cases q1
        exact absurd q2 (no z)
    · rw [if_neg (fun z => e1 (ky_inj z))]
      by_cases e2 : z = x
      · rw [if_pos (by rw [e2])]
        intro q1 q2
        cases q2
        exact absurd q1 (no y)
      · rw [if_neg (fun z => e2 (ky_inj z))]
        exact o3.inj y z m
theorem Rd.miss (h : Rd a H0 d A H rd R dp env F n) {x : Bytes} : ∃ uk,H A.U = some (.dT uk) /\ uk.length <= n /\ Rd a H0 d A (upd H A.U (.dT (putK uk (ky x) (.bl true)))) rd R dp env (F ++ [x]) (n + 1) /\ KeepR a H (upd H A.U (.dT (putK uk (ky x) (.bl true)))) := by
  obtain ⟨vs,r1,r2,r3⟩ := h.rows
  obtain ⟨kvs,o1,o2,o3⟩ := h.own
  obtain ⟨uk,u1,u2,u3⟩ := h.unk
  have k : KeepR a H (upd H A.U (.dT (putK uk (ky x) (.bl true)))) := .dT u1
  refine ⟨uk,u1,u2,⟨same_out h.sm h.un,h.df,by rw [upd_ne (ne_of h.ob u1 (fun z => nomatch z))]; exact h.ob,h.rn,h.ln,h.on,h.un,h.ou,⟨vs,by rw [upd_ne (ne_of r1 u1 (fun z => nomatch z))]; exact r1,r2.imp fun v e q => q.keepR k,r3⟩,
    ⟨kvs,by rw [upd_ne h.ou]; exact o1,by omega,o3.of fun l xs n1 _ e => by rw [upd_ne (ne_of e u1 (fun z => nomatch z))]; exact e⟩,⟨_,upd_same,?_,u3.put x _⟩⟩,k⟩
  have := length_putK uk (ky x) (.bl true)
  omega
end
end Ft
end

section
namespace Ft
open PySem PySem.Spec PyProof.Rows L2
section
variable {P : Program} {w : World} {K : PySem.W.Frag} {mg : Str -> Option Value} {base : Heap} {a : Ad}
noncomputable def spRow (a : Ad) : Sp := fun vs H Q _ => ∃ (p dx : Addr) (b nm : V),vs = [.ref p,b,nm] /\ H p = some (.ins a.c_Row dx []) /\ ∀ H' : Hp,H' p = some (.ins a.c_Row dx (rowF.zip [b,nm,.non])) -> (∀ q,q ≠ p -> H' q = H q) -> Q .non H'
theorem ok_Row_init (T : Tx K mg a) : Gd P w K mg base CX0 1 a.f_Row_init ["self","begun","name"] (spRow a) := by
  refine T.fn_Row_init.ok sc_Row_init (fun vs H Q E h => ?_) (fun cdv A outer s H vs Q E hr h => ?_)
  · obtain ⟨p,dx,b,nm,rfl,_⟩ := h
    rfl
  obtain ⟨p,dx,b,nm,rfl,hp,k⟩ := h
  refine ⟨_,pss_cons (ps_fld (pv 0) (pv 1) rfl) (pss_cons (ps_fld (pv 0) (pv 2) rfl) (pss_one (ps_fld (pv 0) pe_non rfl))),?_⟩
  refine ⟨_,rfl,_,rfl,p,_,dx,_,rfl,hp,T.cl_Row,T.na_Row_begun,(show 0 < 1000 by decide),?_⟩
  refine ⟨_,rfl,_,rfl,p,_,dx,_,rfl,upd_same,T.cl_Row,T.na_Row_name,(show 1 < 1000 by decide),?_⟩
  refine ⟨_,rfl,p,_,dx,_,rfl,upd_same,T.cl_Row,T.na_Row_term,(show 2 < 1000 by decide),?_⟩
  exact k _ upd_same fun q hq => by simp only [upd_ne hq]
noncomputable def spAdd (a : Ad) : Sp := fun vs H Q _ => ∃ (H0 : Hp) (d : Sy10.Defs) (A : RdA) (rd : Addr) (R : List Rw) (kd : Kd) (acc : Option Sy10.T) (dp : Int) (env F : List Bytes) (n : Nat) (q : Addr) (t : Sy10.T),vs = [.ref rd,.ref q] /\ Rd a H0 d A H rd ((kd,acc) :: R) dp env F n /\
  TermAt a.c_Term H q (ofT t) /\ ∀ H',Rd a H0 d A H' rd ((kd,some (Sy10.more acc t)) :: R) dp env F n -> Q .non H'
theorem ok_Reader_add_part (T : Tx K mg a) : Gd P w K mg base CX0 4 a.f_Reader_add_part ["self","part"] (spAdd a) := by
  refine T.fn_Reader_add_part.ok sc_Reader_add_part (fun vs H Q E h => ?_) (fun cdv A outer s H vs Q E hr h => ?_)
  · obtain ⟨H0,d,A,rd,R,kd,acc,dp,env,F,n,q,t,rfl,_⟩ := h
    rfl
  obtain ⟨H0,d,A,rd,R,kd,acc,dp,env,F,n,q,t,rfl,h,hq,k⟩ := h
  refine ⟨_,pss_cons (ps_set (i := 2) sc_Reader_add_part.nd rfl (Or.inl rfl) (pe_ix ix_list (pe_fld (pv 0) rfl) (pe_un un_neg pe_int) (fun _ _ => rfl)))
    (pss_one (ps_fld (pv 2) (pe_ifExp (pt_cmpR op_isN (pe_fld (pv 2) rfl) pe_non (nomark _)) (pv 1) (pe_callG (ok_make_application T) hr (by decide) rfl T.mg_make_application T.kp_make_application pass0 (pa_cons (pe_fld (pv 2) rfl) (pa_cons (pv 1) pa_nil)))) rfl)),?_⟩
  obtain ⟨us,p,dx,nv,tv,r1,p0,ro,_,st⟩ := h.top T
  refine ⟨_,rfl,rd,_,A.dx,_,_,rfl,h.ob,T.cl_Reader,T.na_Reader_rows,rfl,_,rfl,A.L,_,_,_,rfl,rfl,SqL.of r1,atI_last us _,?_⟩
  refine ⟨_,rfl,p,_,dx,_,_,rfl,ro.ob,T.cl_Row,T.na_Row_term,rfl,rfl,_,rfl,?_⟩
  have hacc := ro.acc
  cases acc with
  | none =>
    have e : tv = .non := hacc
    subst e
    refine ite2 (fun _ => ?_) (fun z => absurd (decide_eq_true rfl) z)
    refine ⟨_,rfl,_,rfl,p,_,dx,_,rfl,ro.ob,T.cl_Row,T.na_Row_term,(show 3 < 1000 by decide),?_⟩
    exact k _ (st H (.ref q) (some t) (fun _ _ e => e) ⟨q,rfl,hq⟩).1
  | some u =>
    obtain ⟨q2,rfl,hq2⟩ := hacc
    refine ite2 (fun z => absurd (of_decide_eq_true z) (fun y => nomatch y)) (fun _ => ?_)
    refine ⟨_,rfl,p,_,dx,_,_,rfl,ro.ob,T.cl_Row,T.na_Row_term,rfl,_,rfl,_,⟨q2,q,_,_,rfl,hq2,hq,rfl⟩,fun H1 z s1 hz => ?_⟩
    refine ⟨_,rfl,p,_,dx,_,rfl,s1 _ _ ro.ob,T.cl_Row,T.na_Row_term,(show 3 < 1000 by decide),?_⟩
    exact k _ (st H1 (.ref z) (some (.app u t)) s1 ⟨z,rfl,hz⟩).1
noncomputable def spEndRow (a : Ad) : Sp := fun vs H Q E => ∃ (H0 : Hp) (d : Sy10.Defs) (A : RdA) (rd : Addr) (R : List Rw) (kd : Kd) (acc : Option Sy10.T) (dp : Int) (env F : List Bytes) (n : Nat),vs = [.ref rd] /\ Rd a H0 d A H rd ((kd,acc) :: R) dp env F n /\
  (acc = none -> ∀ H',Same H0 H' -> E (.ref a.c_NotATerm) none H') /\
  ∀ t,acc = some t -> ∀ (H' : Hp) (p dx : Addr) (nv tv : V),RowO a H' p (kd,some t) dx nv tv -> Rd a H0 d A H' rd R dp env F n -> Q (.ref p) H'
theorem ok_Reader_end_row (T : Tx K mg a) : Gd P w K mg base (CXN P w a.c_NotATerm) 1 a.f_Reader_end_row ["self"] (spEndRow a) := by
  refine T.fn_Reader_end_row.okN sc_Reader_end_row (fun vs H Q E h => ?_) (fun cdv A outer s H vs Q E hr h => ?_)
  · obtain ⟨H0,d,A,rd,R,kd,acc,dp,env,F,n,rfl,_⟩ := h
    rfl
  obtain ⟨H0,d,A,rd,R,kd,acc,dp,env,F,n,rfl,h,kE,k⟩ := h
  refine ⟨_,pss_cons (ps_set (i := 1) sc_Reader_end_row.nd rfl (Or.inl rfl) (pe_bm0 PySem.F.plainAttrs_list PySem.F.slot_list_pop PySem.F.type_list_pop mt_pop (pe_fld (pv 0) rfl)))
    (pss_cons (ps_if (pt_cmpR op_isN (pe_fld (pv 1) rfl) pe_non (nomark _))
      (pss_one (ps_raise xn_of rfl T.ex_NotATerm rfl T.mg_NotATerm)) pss_nil)
    (pss_one (ps_ret (pv 1)))),?_⟩
  obtain ⟨us,p,dx,nv,tv,r1,p0,ro,h2,_⟩ := h.top T
  refine ⟨_,rfl,rd,_,A.dx,_,_,rfl,h.ob,T.cl_Reader,T.na_Reader_rows,rfl,.inl ⟨rfl,_,SqL.of r1⟩,A.L,_,_,rfl,rfl,r1,pop_last,?_⟩
  rw [pop_rest]
  have ro2 := ro.keepR (H' := upd H A.L (.lst us)) (.lst r1)
  refine ⟨_,rfl,p,_,dx,_,_,rfl,ro2.ob,T.cl_Row,T.na_Row_term,rfl,rfl,_,rfl,?_⟩
  have hacc := ro2.acc
  cases acc with
  | none =>
    have e : tv = .non := hacc
    subst e
    refine ite2 (fun _ => ?_) (fun z => absurd (decide_eq_true rfl) z)
    exact kE rfl _ h2.sm
  | some u =>
    obtain ⟨q2,rfl,hq2⟩ := id hacc
    refine ite2 (fun z => absurd (of_decide_eq_true z) (fun y => nomatch y)) (fun _ => ?_)
    exact ⟨_,rfl,k u rfl _ p dx nv _ ro2 h2⟩
noncomputable def spBegin (a : Ad) : Sp := fun vs H Q _ => ∃ (H0 : Hp) (d : Sy10.Defs) (A : RdA) (rd : Addr) (R : List Rw) (env F : List Bytes) (n : Nat) (t : Addr) (x : Bytes),vs = [.ref rd,.ref t] /\ Rd a H0 d A H rd R env.length env F n /\ H t = some (.tup ((ky x).map kV)) /\
  R.length <= 1000000 /\ env.length <= 1000000 /\ n <= 1000000 /\ ∀ H',Rd a H0 d A H' rd ((.fun_ x,none) :: R) (x :: env).length (x :: env) F (n + 1) -> Q .non H'
theorem small_of {n : Nat} (h : n <= 1000000) : n < sizeLine := Nat.lt_of_le_of_lt h (by decide)
theorem ok_Reader_begin_function (T : Tx K mg a) : Gd P w K mg base CX0 3 a.f_Reader_begin_function ["self","name"] (spBegin a) := by
  refine T.fn_Reader_begin_function.ok sc_Reader_begin_function (fun vs H Q E h => ?_) (fun cdv A outer s H vs Q E hr h => ?_)
  · obtain ⟨H0,d,A,rd,R,env,F,n,t,x,rfl,_⟩ := h
    rfl
  obtain ⟨H0,d,A,rd,R,env,F,n,t,x,rfl,h,ht,bR,bE,bN,k⟩ := h
  refine ⟨_,pss_cons (ps_expr (pe_bm PySem.F.plainAttrs_list PySem.F.slot_list_append PySem.F.type_list_append mt_append (pe_fld (pv 0) rfl) (pa_cons (pe_makeG T.mk_Row (ok_Row_init T) hr (by decide) rfl T.mg_Row pass0 (pa_cons (pe_k T.k_BY_FUNCTION) (pa_cons (pv 1) pa_nil))) pa_nil)))
    (pss_cons (ps_fldaug (pv 0) pe_int in_add)
    (pss_one (ps_expr (pe_bm PySem.F.plainAttrs_list PySem.F.slot_list_append PySem.F.type_list_append mt_append (pe_dsetd (hu_of hr) (pe_fld (pv 0) rfl) (pv 1) (pe_lst pa_nil) ⟨rfl,rfl,rfl,rfl⟩) (pa_cons (pe_fld (pv 0) rfl) pa_nil))))),?_⟩
  obtain ⟨vs0,r0,_⟩ := h.rows
  refine ⟨_,rfl,rd,_,A.dx,_,_,rfl,h.ob,T.cl_Reader,T.na_Reader_rows,rfl,.inl ⟨rfl,_,SqL.of r0⟩,_,rfl,fun p dx n1 n2 n3 => ?_⟩
  refine ⟨p,dx,_,_,rfl,upd_same,fun H1 g1 g2 => ⟨rfl,?_⟩⟩
  have s1 := same_made n1 n2 g2
  obtain ⟨vs,r1,rl,h2,k2⟩ := h.push (kd := .fun_ x) n1 s1 g1 ⟨t,rfl,s1 _ _ ht⟩
  have ht2 := k2.keep _ _ (s1 _ _ ht) trivial
  refine ⟨A.L,_,_,rfl,rfl,r1,small_of (by omega),?_⟩
  generalize upd H1 A.L (.lst (vs ++ [.ref p])) = H2 at h2 k2 ht2
  refine ⟨_,rfl,rd,_,A.dx,_,_,rfl,h2.ob,T.cl_Reader,T.na_Reader_depth,rfl,_,_,rfl,rfl,A.dx,_,h2.ob,(show 5 < 1000 by decide),?_⟩
  obtain ⟨h3,k3⟩ := h2.deep T (env.length + 1)
  have ht3 := k3.keep _ _ ht2 trivial
  rw [show putF "depth" (.int ((env.length : Int) + 1)) (rdF.zip [.ref A.D,.ref A.L,.int env.length,.ref A.O,.ref A.U]) = rdF.zip [.ref A.D,.ref A.L,.int ((env.length : Int) + 1),.ref A.O,.ref A.U] from rfl]
  generalize upd H2 rd (.ins a.c_Reader A.dx (rdF.zip [.ref A.D,.ref A.L,.int (env.length + 1),.ref A.O,.ref A.U])) = H3 at h3 k3 ht3
  obtain ⟨kvs,o1,o2,o3⟩ := h3.own
  refine ⟨_,rfl,rd,_,A.dx,_,_,rfl,h3.ob,T.cl_Reader,T.na_Reader_owners,rfl,A.O,rfl,.inr ⟨kvs,.inl o1⟩,_,rfl,Nat.zero_le _,fun l hl => ?_⟩
  have s4 := same_new (o := .lst []) hl
  refine ⟨kvs,ky x,t,s4 _ _ o1,rfl,s4 _ _ ht3,small_of (by omega),fun v hv => ?_,fun hv => ?_⟩
  · rcases o3.at_ x with ⟨z,_⟩ | ⟨m,z,_,_,_⟩
    · rw [hv] at z; cases z
    rw [hv] at z
    cases z
    have h4 := h3.same s4
    obtain ⟨g3,h5,k5⟩ := h4.level (env' := x :: env) (s4 _ _ o1) hv (fun y hy => lv_ne env (Ne.symm hy))
    rw [lv_same] at h5
    refine ⟨.inl ⟨rfl,_,SqL.of g3⟩,_,rfl,rd,_,A.dx,_,_,rfl,h4.ob,T.cl_Reader,T.na_Reader_depth,rfl,m,_,_,rfl,rfl,g3,small_of (Nat.le_trans (lv_len x env) bE),?_⟩
    exact k _ (h5.mono (Nat.le_succ _))
  · obtain ⟨h4,k4⟩ := h3.first o1 hv hl
    have e0 : lvV x env = [] := by
      rcases o3.at_ x with ⟨_,z⟩ | ⟨m,z,_⟩
      · exact z
      · rw [hv] at z; cases z
    rw [lv_same,e0] at h4
    have lO : A.O ≠ l := ne_of_none o1 hl
    have lr : rd ≠ l := ne_of_none h3.ob hl
    have gl : upd (upd H3 l (.lst [])) A.O (.dT (putK kvs (ky x) (.ref l))) l = some (.lst []) := by rw [upd_ne (Ne.symm lO),upd_same]
    have go : upd (upd H3 l (.lst [])) A.O (.dT (putK kvs (ky x) (.ref l))) rd = _ := (upd_ne (ne_of (s4 _ _ h3.ob) (s4 _ _ o1) (fun z => nomatch z))).trans (s4 _ _ h3.ob)
    refine ⟨.inl ⟨rfl,_,SqL.of gl⟩,_,rfl,rd,_,A.dx,_,_,rfl,go,T.cl_Reader,T.na_Reader_depth,rfl,l,_,_,rfl,rfl,gl,(show 0 < sizeLine by decide),?_⟩
    exact k _ h4
end
end Ft
end

section
namespace Ft
open PySem PySem.Spec PyProof.Rows L2
section
variable {P : Program} {w : World} {K : PySem.W.Frag} {mg : Str -> Option Value} {base : Heap} {a : Ad}
noncomputable def spAddName (a : Ad) : Sp := fun vs H Q _ => ∃ (H0 : Hp) (d : Sy10.Defs) (A : RdA) (rd : Addr) (R : List Rw) (kd : Kd) (acc : Option Sy10.T) (env F : List Bytes) (n : Nat) (t : Addr) (x : Bytes),vs = [.ref rd,.ref t] /\ Rd a H0 d A H rd ((kd,acc) :: R) env.length env F n /\
  H t = some (.tup ((ky x).map kV)) /\ n <= 1000000 /\ ∀ H',Rd a H0 d A H' rd ((kd,some (Sy10.more acc (nmT d env x))) :: R) env.length env (F ++ nmF d env x) (n + 1) -> Q .non H'
theorem ok_Reader_add_name (T : Tx K mg a) : Gd P w K mg base CX0 5 a.f_Reader_add_name ["self","name"] (spAddName a) := by
  refine T.fn_Reader_add_name.ok sc_Reader_add_name (fun vs H Q E h => ?_) (fun cdv A outer s H vs Q E hr h => ?_)
  · obtain ⟨H0,d,A,rd,R,kd,acc,env,F,n,t,x,rfl,_⟩ := h
    rfl
  obtain ⟨H0,d,A,rd,R,kd,acc,env,F,n,t,x,rfl,h,ht,bN,k⟩ := h
  refine ⟨_,pss_cons (ps_set (i := 2) sc_Reader_add_name.nd rfl (Or.inl rfl) (pe_dget2 (hu_of hr) (pe_fld (pv 0) rfl) (pv 1) (pe_lst pa_nil) ⟨rfl,rfl,rfl,rfl⟩))
    (pss_one (ps_if (pt_cmpR op_gt (pe_callB call_len_seq rfl T.b_len PySem.boot_len (pa_cons (pv 2) pa_nil)) pe_int (nomark _))
      (pss_one (ps_expr (pe_methG (pv 0) T.cl_Reader T.me_Reader_add_part (ok_Reader_add_part T) hr (by decide) pass0 (pa_cons (pe_callG (ok_make_bound T) hr (by decide) rfl T.mg_make_bound T.kp_make_bound pass0 (pa_cons (pe_op op_sub (pe_fld (pv 0) rfl) (pe_ix ix_list (pv 2) (pe_un un_neg pe_int) (fun _ _ => rfl))) pa_nil)) pa_nil))))
      (pss_one (ps_if (pt_cmp (pc_din (hu_of hr) (pv 1) (pe_fld (pv 0) rfl)))
        (pss_one (ps_expr (pe_methG (pv 0) T.cl_Reader T.me_Reader_add_part (ok_Reader_add_part T) hr (by decide) pass0 (pa_cons (pe_dget (hu_of hr) (pe_fld (pv 0) rfl) (pv 1) (fun _ _ => rfl)) pa_nil))))
        (pss_cons (ps_dput (hu_of hr) (pe_fld (pv 0) rfl) (pv 1) pe_bl rfl)
        (pss_one (ps_expr (pe_methG (pv 0) T.cl_Reader T.me_Reader_add_part (ok_Reader_add_part T) hr (by decide) pass0 (pa_cons (pe_callG (ok_make_free T) hr (by decide) rfl T.mg_make_free T.kp_make_free pass0 (pa_cons (pv 1) pa_nil)) pa_nil))))))))),?_⟩
  obtain ⟨kvs,o1,o2,o3⟩ := h.own
  refine ⟨_,rfl,rd,_,A.dx,_,_,rfl,h.ob,T.cl_Reader,T.na_Reader_owners,rfl,A.O,rfl,.inr ⟨kvs,.inl o1⟩,_,rfl,Nat.zero_le _,fun l hl => ?_⟩
  have s1 := same_new (o := .lst []) hl
  refine ⟨_,DGet.t (s1 _ _ o1) (s1 _ _ ht),?_⟩
  have lev : ∃ m,(valV kvs (ky x)).getD (.ref l) = .ref m /\ upd H l (.lst []) m = some (.lst (lvV x env)) := by
    rcases o3.at_ x with ⟨z1,z2⟩ | ⟨m,z1,_,_,z2⟩
    · rw [z1,z2]
      exact ⟨l,rfl,upd_same⟩
    · rw [z1]
      exact ⟨m,rfl,s1 _ _ z2⟩
  obtain ⟨m,em,hm⟩ := lev
  rw [em]
  have h1 := h.same s1
  have ht1 := s1 _ _ ht
  clear em o1 o2 o3
  generalize upd H l (.lst []) = H1 at s1 hm h1 ht1
  refine ⟨_,rfl,m,_,rfl,.inl (SqL.of hm),_,_,rfl,rfl,_,rfl,?_⟩
  have lf := lv_find x env
  cases hf : env.findIdx? fun y => y == x with
  | some j =>
    rw [hf] at lf
    obtain ⟨hj,us,hus⟩ := lf
    have e1 : nmT d env x = .own j := by unfold nmT; rw [hf]
    have e2 : nmF d env x = [] := by unfold nmF; rw [hf]
    rw [e1,e2,List.append_nil] at k
    rw [hus] at hm ⊢
    refine ite2 (fun _ => ?_) (fun z => absurd (decide_eq_true (show (0 : Int) < ((us ++ [V.int ((env.length - j : Nat) : Int)]).length : Nat) by rw [List.length_append,List.length_cons,List.length_nil]; omega)) z)
    refine ⟨_,rfl,rd,A.dx,_,rfl,h1.ob,rfl,_,rfl,rd,_,A.dx,_,_,rfl,h1.ob,T.cl_Reader,T.na_Reader_depth,rfl,_,rfl,_,rfl,m,_,_,_,rfl,rfl,SqL.of hm,atI_last us _,_,_,rfl,rfl,_,⟨j,?_,rfl⟩,fun H2 q s2 hq => ?_⟩
    · have : ((env.length : Nat) : Int) - ((env.length - j : Nat) : Int) = (j : Int) := by omega
      rw [<- this]
      rfl
    · exact ⟨H0,d,A,rd,R,kd,acc,_,env,F,n,q,.own j,rfl,h1.same s2,hq,fun H3 h3 => k _ (h3.mono (Nat.le_succ _))⟩
  | none =>
    rw [hf] at lf
    have lf' : lvV x env = [] := lf
    rw [lf']
    refine ite2 (fun z => absurd (of_decide_eq_true z) (by decide)) (fun _ => ?_)
    obtain ⟨dk,d1,d2,d3⟩ := h1.df.same h1.sm
    refine ⟨_,rfl,_,rfl,rd,_,A.dx,_,_,rfl,h1.ob,T.cl_Reader,T.na_Reader_defined,rfl,A.D,_,rfl,DGet.t d1 ht1,_,rfl,?_⟩
    have d3x := d3 x
    cases hd : Sy10.lookup d x with
    | some u =>
      rw [hd] at d3x
      obtain ⟨q,q1,q2⟩ := d3x
      have e1 : nmT d env x = u := by unfold nmT; rw [hf,hd]; rfl
      have e2 : nmF d env x = [] := by unfold nmF; rw [hf,hd]
      rw [e1,e2,List.append_nil] at k
      refine ite2 (fun _ => ?_) (fun z => absurd (show (valV dk (ky x)).isSome = true by rw [q1]; rfl) z)
      have dg : DGet H1 A.D (.ref t) (some (.ref q)) := by rw [<- q1]; exact DGet.t d1 ht1
      refine ⟨_,rfl,rd,A.dx,_,rfl,h1.ob,rfl,_,rfl,rd,_,A.dx,_,_,rfl,h1.ob,T.cl_Reader,T.na_Reader_defined,rfl,_,rfl,A.D,_,rfl,dg,?_⟩
      exact ⟨H0,d,A,rd,R,kd,acc,_,env,F,n,q,u,rfl,h1,q2,fun H3 h3 => k _ (h3.mono (Nat.le_succ _))⟩
    | none =>
      rw [hd] at d3x
      have e1 : nmT d env x = .free x := by unfold nmT; rw [hf,hd]; rfl
      have e2 : nmF d env x = [x] := by unfold nmF; rw [hf,hd]
      rw [e1,e2] at k
      refine ite2 (fun z => absurd z (by rw [show valV dk (ky x) = none from d3x]; exact Bool.false_ne_true)) (fun _ => ?_)
      obtain ⟨uk,u1,u2,h2,k2⟩ := h1.miss (x := x)
      refine ⟨_,rfl,rd,_,A.dx,_,_,rfl,h1.ob,T.cl_Reader,T.na_Reader_unknown,rfl,_,rfl,A.U,_,rfl,DPut.t u1 ht1 (small_of (by omega)),?_⟩
      have ht2 := k2.keep _ _ ht1 trivial
      generalize upd H1 A.U (.dT (putK uk (ky x) (.bl true))) = H2 at h2 k2 ht2
      refine ⟨_,rfl,rd,A.dx,_,rfl,h2.ob,rfl,_,rfl,_,⟨t,x,rfl,ht2,rfl⟩,fun H3 q s3 hq => ?_⟩
      exact ⟨H0,d,A,rd,R,kd,acc,_,env,_,_,q,.free x,rfl,h2.same s3,hq,fun H4 h4 => k _ h4⟩
theorem Rd.has {H0 H : Hp} {d : Sy10.Defs} {A : RdA} {rd : Addr} {R : List Rw} {dp : Int} {env F : List Bytes} {n : Nat} {x : Bytes} (h : Rd a H0 d A H rd R dp (x :: env) F n) : ∃ kvs l,H A.O = some (.dT kvs) /\ valV kvs (ky x) = some (.ref l) := by
  obtain ⟨kvs,o1,o2,o3⟩ := h.own
  rcases o3.at_ x with ⟨_,z⟩ | ⟨l,z,_⟩
  · rw [lv_same] at z
    simp at z
  · exact ⟨kvs,l,o1,z⟩
noncomputable def spEndF (a : Ad) : Sp := fun vs H Q E => ∃ (H0 : Hp) (d : Sy10.Defs) (A : RdA) (rd : Addr) (R : List Rw) (F : List Bytes) (n : Nat),vs = [.ref rd] /\ Rd a H0 d A H rd R (envR R).length (envR R) F n /\ wfR R /\
  (endF R = none -> ∀ H',Same H0 H' -> E (.ref a.c_NotATerm) none H') /\
  ∀ R',endF R = some R' -> ∀ H',Rd a H0 d A H' rd R' (envR R').length (envR R') F n -> Q .non H'
theorem ok_Reader_end_functions (T : Tx K mg a) : Gd P w K mg base (CXN P w a.c_NotATerm) 5 a.f_Reader_end_functions ["self"] (spEndF a) := by
  refine T.fn_Reader_end_functions.okN sc_Reader_end_functions (fun vs H Q E h => ?_) (fun cdv A outer s H vs Q E hr h => ?_)
  · obtain ⟨H0,d,A,rd,R,F,n,rfl,_⟩ := h
    rfl
  obtain ⟨H0,d,A,rd,R,F,n,rfl,h,hw,kE,k⟩ := h
  refine ⟨_,pss_one (ps_while po_of (pt_cmpR op_eq (pe_fld (pe_ix ix_list (pe_fld (pv 0) rfl) (pe_un un_neg pe_int) (fun _ _ => rfl)) rfl) (pe_k T.k_BY_FUNCTION) (nomark _))
    (pss_cons (ps_set (i := 1) sc_Reader_end_functions.nd rfl (Or.inl rfl) (pe_meth0G (pv 0) T.cl_Reader T.me_Reader_end_row (ok_Reader_end_row T) hr (by decide) (passN xn_of fun _ h => h)))
    (pss_cons (ps_expr (pe_bm0 PySem.F.plainAttrs_list PySem.F.slot_list_pop PySem.F.type_list_pop mt_pop (pe_dget (hu_of hr) (pe_fld (pv 0) rfl) (pe_fld (pv 1) rfl) (fun _ _ => rfl))))
    (pss_cons (ps_fldaug (pv 0) pe_int in_sub)
    (pss_one (ps_expr (pe_methG (pv 0) T.cl_Reader T.me_Reader_add_part (ok_Reader_add_part T) hr (by decide) pass0 (pa_cons (pe_callG (ok_make_function T) hr (by decide) rfl T.mg_make_function T.kp_make_function pass0 (pa_cons (pe_fld (pv 1) rfl) pa_nil)) pa_nil)))))))),?_⟩
  refine ⟨fun m σ H' => ∃ (v1 : Option V) (R1 : List Rw),σ = [some (.ref rd),v1] /\ Rd a H0 d A H' rd R1 (envR R1).length (envR R1) F n /\ wfR R1 /\ endF R1 = endF R /\ m = R1.length,⟨_,_,R,rfl,h,hw,rfl,rfl⟩,?_⟩
  rintro m σ H' ⟨v1,R1,rfl,h1,w1,e1,rfl⟩
  match R1,w1 with
  | (kd,acc) :: R2,w1 =>
    obtain ⟨us,p,dx,nv,tv,r1,p0,ro,_,_⟩ := h1.top T
    refine ⟨_,rfl,rd,_,A.dx,_,_,rfl,h1.ob,T.cl_Reader,T.na_Reader_rows,rfl,_,rfl,A.L,_,_,_,rfl,rfl,SqL.of r1,atI_last us _,p,_,dx,_,_,rfl,ro.ob,T.cl_Row,T.na_Row_begun,rfl,rfl,_,rfl,?_⟩
    match kd,w1 with
    | .start,w1 => exact iteF (k _ (by rw [<- e1,endF_start]) H' h1)
    | .par,w1 => exact iteF (k _ (by rw [<- e1,endF_par]) H' h1)
    | .fun_ x,w1 =>
      refine iteT ⟨_,fun _ _ z => z,?_⟩
      refine ⟨_,rfl,rd,A.dx,_,rfl,h1.ob,rfl,?_⟩
      refine ⟨H0,d,A,rd,R2,.fun_ x,acc,_,_,F,n,rfl,h1,fun z => ?_,fun t z H2 p2 dx2 nv2 tv2 ro2 h2 => ?_⟩
      · subst z
        exact kE (by rw [<- e1,endF_none])
      subst z
      have h2' : Rd a H0 d A H2 rd R2 ((x :: envR R2).length : Nat) (x :: envR R2) F n := h2
      obtain ⟨kvs,l,o1,hv⟩ := h2'.has
      obtain ⟨t2,ht2,htt⟩ := ro2.kd
      obtain ⟨q3,hq3,hqt⟩ := id ro2.acc
      subst ht2 hq3
      obtain ⟨g3,h3,k3⟩ := h2'.level (env' := envR R2) o1 hv (fun y hy => (lv_ne (envR R2) (Ne.symm hy)).symm)
      rw [lv_same] at g3
      have dg : DGet H2 A.O (.ref t2) (some (.ref l)) := by rw [<- hv]; exact DGet.t o1 htt
      refine ⟨_,rfl,rd,_,A.dx,_,_,rfl,h2.ob,T.cl_Reader,T.na_Reader_owners,rfl,_,rfl,p2,_,dx2,_,_,rfl,ro2.ob,T.cl_Row,T.na_Row_name,rfl,A.O,_,rfl,dg,.inl ⟨rfl,_,SqL.of g3⟩,l,_,_,rfl,rfl,g3,pop_last,?_⟩
      rw [pop_rest]
      have ro3 := ro2.keepR k3
      generalize upd H2 l (.lst (lvV x (envR R2))) = H3 at h3 k3 ro3
      refine ⟨_,rfl,rd,_,A.dx,_,_,rfl,h3.ob,T.cl_Reader,T.na_Reader_depth,rfl,_,_,rfl,rfl,A.dx,_,h3.ob,(show 5 < 1000 by decide),?_⟩
      rw [show putF "depth" (.int (((x :: envR R2).length : Nat) - 1 : Int)) (rdF.zip [.ref A.D,.ref A.L,.int ((x :: envR R2).length : Nat),.ref A.O,.ref A.U]) = rdF.zip [.ref A.D,.ref A.L,.int (((x :: envR R2).length : Nat) - 1 : Int),.ref A.O,.ref A.U] from rfl]
      have ed : (((x :: envR R2).length : Nat) - 1 : Int) = ((envR R2).length : Nat) := by rw [List.length_cons]; omega
      rw [ed]
      obtain ⟨h4,k4⟩ := h3.deep T ((envR R2).length : Nat)
      have ro4 := ro3.keepR k4
      generalize upd H3 rd (.ins a.c_Reader A.dx (rdF.zip [.ref A.D,.ref A.L,.int ((envR R2).length : Nat),.ref A.O,.ref A.U])) = H4 at h4 k4 ro4
      obtain ⟨q4,e4,hq4⟩ := id ro4.acc
      cases e4
      have w2 : wfR R2 := w1.2
      refine ⟨_,rfl,rd,A.dx,_,rfl,h4.ob,rfl,_,rfl,p2,_,dx2,_,_,rfl,ro4.ob,T.cl_Row,T.na_Row_term,rfl,_,⟨q3,_,rfl,hq4,rfl⟩,fun H5 q5 s5 hq5 => ?_⟩
      match R2,w2 with
      | (k2,a2) :: R3,w2 =>
        refine ⟨H0,d,A,rd,R3,k2,a2,_,_,F,n,q5,.fn t,rfl,h4.same s5,hq5,fun H6 h6 => ?_⟩
        have wn : wfR (addP (.fn t) ((k2,a2) :: R3)) := addP_wf w2 (rch_fn.mpr (w1.1 t rfl))
        refine ⟨((k2,some (Sy10.more a2 (.fn t))) :: R3).length,by simp,_,(k2,some (Sy10.more a2 (.fn t))) :: R3,rfl,?_,wn,?_,rfl⟩
        · rw [envR_acc k2 (some _) a2]
          exact h6
        · rw [<- e1,endF_fun]
noncomputable def spEndP (a : Ad) : Sp := fun vs H Q E => ∃ (H0 : Hp) (d : Sy10.Defs) (A : RdA) (rd : Addr) (R : List Rw) (F : List Bytes) (n : Nat),vs = [.ref rd] /\ Rd a H0 d A H rd R (envR R).length (envR R) F n /\ wfR R /\
  (shut R = none -> ∀ H',Same H0 H' -> E (.ref a.c_NotATerm) none H') /\
  ∀ R',shut R = some R' -> ∀ H',Rd a H0 d A H' rd R' (envR R').length (envR R') F n -> Q .non H'
theorem endF_top : ∀ (n : Nat) {R R' : List Rw},R.length <= n -> endF R = some R' -> ∀ x acc R2,R' ≠ (.fun_ x,acc) :: R2
  | 0,R,R',l,e => by
    have : R = [] := List.length_eq_zero_iff.mp (Nat.le_zero.mp l)
    subst this
    rw [endF] at e
    · cases e
      intro x acc R2 z
      cases z
    all_goals (intros; rename_i q; cases q)
  | n + 1,[],R',l,e => endF_top n (Nat.zero_le _) e
  | n + 1,(.start,b) :: R,R',l,e => by
    rw [endF_start] at e
    cases e
    intro x acc R2 z
    cases z
  | n + 1,(.par,b) :: R,R',l,e => by
    rw [endF_par] at e
    cases e
    intro x acc R2 z
    cases z
  | n + 1,(.fun_ x,none) :: R,R',l,e => by
    rw [endF_none] at e
    cases e
  | n + 1,[(.fun_ x,some t)],R',l,e => by
    rw [endF] at e
    cases e
  | n + 1,(.fun_ x,some t) :: (k,b) :: R,R',l,e => by
    rw [endF_fun] at e
    exact endF_top n (by simpa using l) e
theorem ok_Reader_end_parenthesis (T : Tx K mg a) : Gd P w K mg base (CXN P w a.c_NotATerm) 6 a.f_Reader_end_parenthesis ["self"] (spEndP a) := by
  refine T.fn_Reader_end_parenthesis.okN sc_Reader_end_parenthesis (fun vs H Q E h => ?_) (fun cdv A outer s H vs Q E hr h => ?_)
  · obtain ⟨H0,d,A,rd,R,F,n,rfl,_⟩ := h
    rfl
  obtain ⟨H0,d,A,rd,R,F,n,rfl,h,hw,kE,k⟩ := h
  refine ⟨_,pss_cons (ps_expr (pe_meth0G (pv 0) T.cl_Reader T.me_Reader_end_functions (ok_Reader_end_functions T) hr (by decide) (passN xn_of fun _ h => h)))
    (pss_cons (ps_if (pt_cmpR op_ne (pe_fld (pe_ix ix_list (pe_fld (pv 0) rfl) (pe_un un_neg pe_int) (fun _ _ => rfl)) rfl) (pe_k T.k_BY_PARENTHESIS) (nomark _))
      (pss_one (ps_raise xn_of rfl T.ex_NotATerm rfl T.mg_NotATerm)) pss_nil)
    (pss_cons (ps_set (i := 1) sc_Reader_end_parenthesis.nd rfl (Or.inl rfl) (pe_meth0G (pv 0) T.cl_Reader T.me_Reader_end_row (ok_Reader_end_row T) hr (by decide) (passN xn_of fun _ h => h)))
    (pss_one (ps_expr (pe_methG (pv 0) T.cl_Reader T.me_Reader_add_part (ok_Reader_add_part T) hr (by decide) pass0 (pa_cons (pe_fld (pv 1) rfl) pa_nil)))))),?_⟩
  refine ⟨_,rfl,rd,A.dx,_,rfl,h.ob,rfl,?_⟩
  refine ⟨H0,d,A,rd,R,F,n,rfl,h,hw,fun z => kE (by unfold shut; rw [z]; rfl),fun R1 z H1 h1 => ?_⟩
  obtain ⟨w1,_,_⟩ := endF_ok R.length (Nat.le_refl _) hw z
  have nf := endF_top R.length (Nat.le_refl _) z
  have es : shut R = shutP R1 := by unfold shut; rw [z]; rfl
  match R1,w1 with
  | (kd,acc) :: R2,w1 =>
    obtain ⟨us,p,dx,nv,tv,r1,p0,ro,_,_⟩ := h1.top T
    refine ⟨_,rfl,rd,_,A.dx,_,_,rfl,h1.ob,T.cl_Reader,T.na_Reader_rows,rfl,_,rfl,A.L,_,_,_,rfl,rfl,SqL.of r1,atI_last us _,p,_,dx,_,_,rfl,ro.ob,T.cl_Row,T.na_Row_begun,rfl,rfl,_,rfl,?_⟩
    match kd,w1 with
    | .fun_ x,w1 => exact absurd rfl (nf x acc R2)
    | .start,w1 => exact iteT (kE (by rw [es]; rfl) _ h1.sm)
    | .par,w1 =>
      refine iteF ⟨_,rfl,rd,A.dx,_,rfl,h1.ob,rfl,?_⟩
      refine ⟨H0,d,A,rd,R2,.par,acc,_,_,F,n,rfl,h1,fun z => kE (by rw [es,z]; rfl),fun t z H2 p2 dx2 nv2 tv2 ro2 h2 => ?_⟩
      subst z
      obtain ⟨q3,rfl,hqt⟩ := id ro2.acc
      refine ⟨_,rfl,rd,A.dx,_,rfl,h2.ob,rfl,_,rfl,p2,_,dx2,_,_,rfl,ro2.ob,T.cl_Row,T.na_Row_term,rfl,?_⟩
      have w2 : wfR R2 := w1.2
      match R2,w2 with
      | (k2,a2) :: R3,w2 =>
        refine ⟨H0,d,A,rd,R3,k2,a2,_,_,F,n,q3,t,rfl,h2,hqt,fun H6 h6 => k ((k2,some (Sy10.more a2 t)) :: R3) (by rw [es]; rfl) H6 ?_⟩
        rw [envR_acc k2 (some _) a2]
        exact h6
noncomputable def spEndT (a : Ad) : Sp := fun vs H Q E => ∃ (H0 : Hp) (d : Sy10.Defs) (A : RdA) (rd : Addr) (R : List Rw) (F : List Bytes) (n : Nat),vs = [.ref rd] /\ Rd a H0 d A H rd R (envR R).length (envR R) F n /\ wfR R /\
  (endT R = none -> ∀ H',Same H0 H' -> E (.ref a.c_NotATerm) none H') /\
  ∀ t,endT R = some t -> ∀ (H' : Hp) (q : Addr) (R' : List Rw) (dp : Int) (env : List Bytes),TermAt a.c_Term H' q (ofT t) -> Rd a H0 d A H' rd R' dp env F n -> Q (.ref q) H'
theorem ok_Reader_end_text (T : Tx K mg a) : Gd P w K mg base (CXN P w a.c_NotATerm) 6 a.f_Reader_end_text ["self"] (spEndT a) := by
  refine T.fn_Reader_end_text.okN sc_Reader_end_text (fun vs H Q E h => ?_) (fun cdv A outer s H vs Q E hr h => ?_)
  · obtain ⟨H0,d,A,rd,R,F,n,rfl,_⟩ := h
    rfl
  obtain ⟨H0,d,A,rd,R,F,n,rfl,h,hw,kE,k⟩ := h
  refine ⟨_,pss_cons (ps_expr (pe_meth0G (pv 0) T.cl_Reader T.me_Reader_end_functions (ok_Reader_end_functions T) hr (by decide) (passN xn_of fun _ h => h)))
    (pss_cons (ps_if (pt_cmpR op_ne (pe_fld (pe_ix ix_list (pe_fld (pv 0) rfl) (pe_un un_neg pe_int) (fun _ _ => rfl)) rfl) (pe_k T.k_BY_START) (nomark _))
      (pss_one (ps_raise xn_of rfl T.ex_NotATerm rfl T.mg_NotATerm)) pss_nil)
    (pss_one (ps_ret (pe_fld (pe_meth0G (pv 0) T.cl_Reader T.me_Reader_end_row (ok_Reader_end_row T) hr (by decide) (passN xn_of fun _ h => h)) rfl)))),?_⟩
  refine ⟨_,rfl,rd,A.dx,_,rfl,h.ob,rfl,?_⟩
  refine ⟨H0,d,A,rd,R,F,n,rfl,h,hw,fun z => kE (by unfold endT; rw [z]; rfl),fun R1 z H1 h1 => ?_⟩
  obtain ⟨w1,_,_⟩ := endF_ok R.length (Nat.le_refl _) hw z
  have nf := endF_top R.length (Nat.le_refl _) z
  have es : endT R = endTP R1 := by unfold endT; rw [z]; rfl
  match R1,w1 with
  | (kd,acc) :: R2,w1 =>
    obtain ⟨us,p,dx,nv,tv,r1,p0,ro,_,_⟩ := h1.top T
    refine ⟨_,rfl,rd,_,A.dx,_,_,rfl,h1.ob,T.cl_Reader,T.na_Reader_rows,rfl,_,rfl,A.L,_,_,_,rfl,rfl,SqL.of r1,atI_last us _,p,_,dx,_,_,rfl,ro.ob,T.cl_Row,T.na_Row_begun,rfl,rfl,_,rfl,?_⟩
    match kd,w1 with
    | .fun_ x,w1 => exact absurd rfl (nf x acc R2)
    | .par,w1 => exact iteT (kE (by rw [es]; rfl) _ h1.sm)
    | .start,w1 =>
      refine iteF ⟨_,rfl,rd,A.dx,_,rfl,h1.ob,rfl,?_⟩
      refine ⟨H0,d,A,rd,R2,.start,acc,_,_,F,n,rfl,h1,fun z => kE (by rw [es,z]; rfl),fun t z H2 p2 dx2 nv2 tv2 ro2 h2 => ?_⟩
      subst z
      obtain ⟨q3,rfl,hqt⟩ := id ro2.acc
      exact ⟨p2,_,dx2,_,_,rfl,ro2.ob,T.cl_Row,T.na_Row_term,rfl,k t (by rw [es]; rfl) H2 q3 _ _ _ hqt h2⟩
end
end Ft
end

section
namespace Ft
open PySem PySem.Spec PyProof.Rows L2
noncomputable def nI : Nat -> PyData := fun n => .int (n : Int)
theorem can_ints : ∀ x : List Nat,PyData.canLayAll0 (x.map nI) = true
  | [] => rfl
  | n :: x => can_ints x
theorem depth_ints : ∀ x : List Nat,PyData.depthAll (x.map nI) <= 2
  | [] => by decide
  | n :: x => by
    have := depth_ints x
    show max _ (PyData.depthAll (x.map nI)) <= 2
    exact Nat.max_le.mpr ⟨(by show PyData.depth (.int n) <= 2; exact Nat.le_of_ble_eq_true rfl),this⟩
theorem shaped_ints (x : List Nat) : SeqAt.shaped (.tuple (x.map nI)) = true := by
  unfold SeqAt.shaped
  rw [Bool.and_eq_true]
  refine ⟨can_ints x,decide_eq_true ?_⟩
  show PyData.depthAll (x.map nI) + 1 <= 64
  have := depth_ints x
  omega
theorem dp_ints {K : PySem.W.Frag} {H : Hp} : ∀ x : List Nat,DpAll K H (byV x) (x.map nI)
  | [] => .nil
  | n :: x => .cons (.int _) (dp_ints x)
noncomputable def tkE : Ptk -> Int -> Bool
  | .nm _,_ => false
  | .sg e,c => (e : Int) == c
theorem TokAt.dp {K : PySem.W.Frag} {H : Hp} {v : V} : ∀ {p : Ptk},TokAt H v p -> ∃ dd,Dp K H v dd /\ SeqAt.shaped dd = true /\ ∀ c : Int,PyData.eqv dd (.int c) = tkE p c
  | .nm x,⟨t,e,h⟩ => by
    subst e
    rw [ky_map] at h
    exact ⟨.tuple (x.map nI),.tup (SqT.of h) (dp_ints x),shaped_ints x,fun c => rfl⟩
  | .sg e,h => by
    have h' : v = .int (e : Int) := h
    subst h'
    exact ⟨.int e,.int _,rfl,fun c => rfl⟩
noncomputable def isNm : Ptk -> Bool
  | .nm _ => true
  | .sg _ => false
theorem TokAt.ty {K : PySem.W.Frag} {H : Hp} {v : V} : ∀ {p : Ptk},TokAt H v p -> ∃ t,TyOf K H v t /\ PySem.W.kitOne K t (.type "tuple") = some (isNm p)
  | .nm x,⟨t,e,h⟩ => by
    subst e
    exact ⟨_,.tup h,rfl⟩
  | .sg e,h => by
    have h' : v = .int (e : Int) := h
    subst h'
    exact ⟨_,.int _,rfl⟩
theorem tkE_nat {e c : Nat} : tkE (.sg e) (c : Int) = decide (e = c) := by
  show ((e : Int) == (c : Int)) = decide (e = c)
  by_cases h : e = c
  · subst h
    simp
  · rw [decide_eq_false h]
    exact beq_false_of_ne (fun z => h (by omega))
noncomputable def fnm : List Ptk -> Option Bytes
  | .nm x :: .sg e :: _ => if e = 46 then some x else none
  | _ => none
section
variable {P : Program} {w : World} {K : PySem.W.Frag} {mg : Str -> Option Value} {base : Heap} {a : Ad}
noncomputable def spFnm (a : Ad) : Sp := fun vs H Q E => ∃ (q : Addr) (us : List V) (l : List Ptk) (i : Nat),vs = [.ref q,.int i] /\ H q = some (.lst us) /\ Paired (TokAt H) us l /\ i < l.length /\
  (fnm (l.drop (i + 1)) = none -> E (.ref a.c_NotATerm) none H) /\ ∀ x t,fnm (l.drop (i + 1)) = some x -> H t = some (.tup ((ky x).map kV)) -> Q (.ref t) H
theorem drop_get {α : Type} {l r : List α} {k j : Nat} (h : l.drop k = r) : l[k + j]? = r[j]? := by
  rw [<- h,List.getElem?_drop]
theorem ok_function_name (T : Tx K mg a) : Gd P w K mg base (CXN P w a.c_NotATerm) 1 a.f_function_name ["tokens","at"] (spFnm a) := by
  refine T.fn_function_name.okN sc_function_name (fun vs H Q E h => ?_) (fun cdv A outer s H vs Q E hr h => ?_)
  · obtain ⟨q,us,l,i,rfl,_⟩ := h
    rfl
  obtain ⟨q,us,l,i,rfl,hq,pr,hi,kE,k⟩ := h
  refine ⟨_,pss_cons (ps_if (PW.pt (pw_or (pt_cmpR op_ge (pe_op op_add (pv 1) pe_int) (pe_callB call_len_seq rfl T.b_len PySem.boot_len (pa_cons (pv 0) pa_nil)) (nomark _))
        (pw_or (pt_cmpR (op_neD hr.units) (pe_ix ix_list (pv 0) (pe_op op_add (pv 1) pe_int) (fun _ _ => rfl)) (pe_k T.k_POINT) (nomark _))
        (pw_or1 (pt_not (pt_val (pe_callB (call_isinst (T := "tuple")) rfl T.b_isinstance (by decide +kernel) (pa_cons (pe_ix ix_list (pv 0) (pe_op op_add (pv 1) pe_int) (fun _ _ => rfl)) (pa_cons (pe_bltn (v := .ty "tuple") rfl T.b_tuple (by decide +kernel) rfl) pa_nil)))))))))
      (pss_one (ps_raise xn_of rfl T.ex_NotATerm rfl T.mg_NotATerm)) pss_nil)
    (pss_one (ps_ret (pe_ix ix_list (pv 0) (pe_op op_add (pv 1) pe_int) (fun _ _ => rfl)))),?_⟩
  have lp : us.length = l.length := Paired.length pr
  refine ⟨_,rfl,_,_,rfl,rfl,_,rfl,q,_,rfl,.inl (SqL.of hq),_,_,rfl,rfl,_,rfl,?_⟩
  generalize hr : l.drop (i + 1) = r at kE k
  have ll : l.length = i + 1 + r.length := by
    have := congrArg List.length hr
    rw [List.length_drop] at this
    omega
  have short : r.length < 2 -> decide ((i : Int) + 2 >= (us.length : Nat)) = true := fun h => decide_eq_true (by omega)
  match r,hr with
  | [],hr =>
    refine ite2 (fun _ => ?_) (fun z => absurd (short (by simp)) z)
    exact iteT (kE rfl)
  | [p1],hr =>
    refine ite2 (fun _ => ?_) (fun z => absurd (short (by simp)) z)
    exact iteT (kE (by cases p1 <;> rfl))
  | p1 :: p2 :: r,hr =>
    simp only [List.length_cons] at ll
    refine ite2 (fun z => absurd (of_decide_eq_true z) (by omega)) (fun _ => ?_)
    have g1 : l[i + 1]? = some p1 := drop_get (j := 0) hr
    have g2 : l[i + 1 + 1]? = some p2 := drop_get (j := 1) hr
    obtain ⟨v1,e1,h1⟩ := paired_get pr g1
    obtain ⟨v2,e2,h2⟩ := paired_get pr g2
    obtain ⟨dd,d1,d2,d3⟩ := h2.dp (K := K)
    have a2 : atI us ((i : Int) + 2) = some v2 := atI_nat (j := i + 1 + 1) e2
    have a1 : atI us ((i : Int) + 1) = some v1 := atI_nat (j := i + 1) e1
    refine ⟨_,rfl,_,rfl,_,_,rfl,rfl,q,_,_,_,rfl,rfl,SqL.of hq,a2,dd,_,d1,.int 46,d2,rfl,_,rfl,?_⟩
    rw [d3 46]
    match p2,h2 with
    | .nm y,h2 => exact iteT (iteT (kE (by cases p1 <;> rfl)))
    | .sg e,h2 =>
      have t := @tkE_nat e 46
      by_cases he : e = 46
      · subst he
        refine iteF ?_
        obtain ⟨ty,y1,y2⟩ := h1.ty (K := K)
        refine ⟨_,rfl,_,rfl,_,_,rfl,rfl,q,_,_,_,rfl,rfl,SqL.of hq,a1,_,_,_,rfl,y1,y2,_,rfl,?_⟩
        match p1,h1 with
        | .sg c,h1 => exact iteT (kE rfl)
        | .nm x,h1 =>
          obtain ⟨tt,rfl,htt⟩ := h1
          refine iteF ⟨_,rfl,_,rfl,_,_,rfl,rfl,q,_,_,_,rfl,rfl,SqL.of hq,a1,?_⟩
          exact k x tt rfl htt
      · rw [show tkE (.sg e) (46 : Int) = false from t.trans (decide_eq_false he)]
        refine iteT (iteT (kE ?_))
        cases p1 with
        | sg _ => rfl
        | nm x => exact if_neg he
end
end Ft
end

section
namespace Ft
open PySem PySem.Spec PyProof.Rows L2
noncomputable def labD : N -> PyData
  | .free x => .tuple (x.map nI)
  | .bound k => nI k
  | .outer l => nI l
  | .app _ _ => .none
  | .fn _ => .none
theorem labD_shaped : ∀ n : N,SeqAt.shaped (labD n) = true
  | .free x => shaped_ints x
  | .bound _ => rfl
  | .outer _ => rfl
  | .app _ _ => rfl
  | .fn _ => rfl
theorem eqv_ints : ∀ x y : List Nat,PyData.eqvAll (x.map nI) (y.map nI) = true -> x = y
  | [],[],_ => rfl
  | [],_ :: _,h => by simp [PyData.eqvAll] at h
  | _ :: _,[],h => by simp [PyData.eqvAll] at h
  | c :: x,d :: y,h => by
    simp only [List.map_cons,PyData.eqvAll,Bool.and_eq_true] at h
    have e := eqv_ints x y h.2
    have h1 : (((c : Nat) : Int) == ((d : Nat) : Int)) = true := h.1
    have h2 : ((c : Nat) : Int) = ((d : Nat) : Int) := by simpa using h1
    rw [e,show c = d by omega]
theorem eqv_ints_self : ∀ x : List Nat,PyData.eqvAll (x.map nI) (x.map nI) = true
  | [] => by simp [PyData.eqvAll]
  | c :: x => by
    simp only [List.map_cons,PyData.eqvAll,Bool.and_eq_true]
    exact ⟨(by show (((c : Nat) : Int) == ((c : Nat) : Int)) = true; simp),eqv_ints_self x⟩
noncomputable def headEq (n m : N) : Bool := decide (n.kind = m.kind) && PyData.eqv (labD n) (labD m)
theorem headEq_self : ∀ n : N,headEq n n = true
  | .free x => eqv_ints_self x
  | .bound k => by show (((k : Nat) : Int) == ((k : Nat) : Int)) = true; simp
  | .outer k => by show (((k : Nat) : Int) == ((k : Nat) : Int)) = true; simp
  | .app _ _ => rfl
  | .fn _ => rfl
theorem headEq_free {x : List Nat} {m : N} (h : headEq (.free x) m = true) : m = .free x := by
  cases m with
  | free y =>
    have h' : PyData.eqvAll (x.map nI) (y.map nI) = true := h
    rw [eqv_ints x y h']
  | bound _ => cases h
  | outer _ => cases h
  | app _ _ => cases h
  | fn _ => cases h
theorem headEq_bound {x : Nat} {m : N} (h : headEq (.bound x) m = true) : m = .bound x := by
  cases m with
  | bound y =>
    have h' : (((x : Nat) : Int) == ((y : Nat) : Int)) = true := h
    have h2 : ((x : Nat) : Int) = ((y : Nat) : Int) := by simpa using h'
    rw [show y = x by omega]
  | free _ => cases h
  | outer _ => cases h
  | app _ _ => cases h
  | fn _ => cases h
theorem headEq_outer {x : Nat} {m : N} (h : headEq (.outer x) m = true) : m = .outer x := by
  cases m with
  | outer y =>
    have h' : (((x : Nat) : Int) == ((y : Nat) : Int)) = true := h
    have h2 : ((x : Nat) : Int) = ((y : Nat) : Int) := by simpa using h'
    rw [show y = x by omega]
  | free _ => cases h
  | bound _ => cases h
  | app _ _ => cases h
  | fn _ => cases h
theorem headEq_app {x y m : N} (h : headEq (.app x y) m = true) : ∃ u v,m = .app u v := by
  cases m with
  | app u v => exact ⟨u,v,rfl⟩
  | free _ => cases h
  | bound _ => cases h
  | outer _ => cases h
  | fn _ => cases h
theorem headEq_fn {x m : N} (h : headEq (.fn x) m = true) : ∃ u,m = .fn u := by
  cases m with
  | fn u => exact ⟨u,rfl⟩
  | free _ => cases h
  | bound _ => cases h
  | outer _ => cases h
  | app _ _ => cases h
theorem kind_app {n : N} (h : n.kind = 3) : ∃ a b,n = .app a b := by
  cases n with
  | app a b => exact ⟨a,b,rfl⟩
  | free _ => exact absurd h (show (0 : Int) ≠ 3 by decide)
  | bound _ => exact absurd h (show (1 : Int) ≠ 3 by decide)
  | outer _ => exact absurd h (show (2 : Int) ≠ 3 by decide)
  | fn _ => exact absurd h (show (4 : Int) ≠ 3 by decide)
theorem kind_fn {n : N} (h : n.kind = 4) : ∃ a,n = .fn a := by
  cases n with
  | fn a => exact ⟨a,rfl⟩
  | free _ => exact absurd h (show (0 : Int) ≠ 4 by decide)
  | bound _ => exact absurd h (show (1 : Int) ≠ 4 by decide)
  | outer _ => exact absurd h (show (2 : Int) ≠ 4 by decide)
  | app _ _ => exact absurd h (show (3 : Int) ≠ 4 by decide)
theorem headEq_leaf {n m : N} (h : headEq n m = true) (h3 : n.kind ≠ 3) (h4 : n.kind ≠ 4) : n = m := by
  cases n with
  | free x => exact (headEq_free h).symm
  | bound x => exact (headEq_bound h).symm
  | outer x => exact (headEq_outer h).symm
  | app _ _ => exact absurd rfl h3
  | fn _ => exact absurd rfl h4
theorem TermAt.lab {K : PySem.W.Frag} {C : Addr} {H : Hp} {p : Addr} {n : N} (h : TermAt C H p n) : ∃ dx l f g,H p = some (.ins C dx (tf n.kind (n.size : Nat) (n.reach : Nat) l f g)) /\ Dp K H l (labD n) := by
  cases h with
  | @free _ t x h ht =>
    obtain ⟨dx,h⟩ := h
    rw [ky_map] at ht
    exact ⟨dx,_,_,_,h,.tup (SqT.of ht) (dp_ints x)⟩
  | bound h =>
    obtain ⟨dx,h⟩ := h
    exact ⟨dx,_,_,_,h,.int _⟩
  | outer h =>
    obtain ⟨dx,h⟩ := h
    exact ⟨dx,_,_,_,h,.int _⟩
  | app h _ _ =>
    obtain ⟨dx,h⟩ := h
    exact ⟨dx,_,_,_,h,.non⟩
  | fn h _ =>
    obtain ⟨dx,h⟩ := h
    exact ⟨dx,_,_,_,h,.non⟩
noncomputable def PairAt (C : Addr) (H : Hp) (v : V) (e : N × N) : Prop := ∃ z p q,v = .ref z /\ H z = some (.tup [.ref p,.ref q]) /\ TermAt C H p e.1 /\ TermAt C H q e.2
theorem PairAt.keep {C : Addr} {H H' : Hp} (k : Keep C H H') (v : V) (e : N × N) (h : PairAt C H v e) : PairAt C H' v e := by
  obtain ⟨z,p,q,rfl,hz,hp,hq⟩ := h
  exact ⟨z,p,q,rfl,k _ _ hz trivial,hp.keep k,hq.keep k⟩
noncomputable def wtS : List (N × N) -> Nat
  | [] => 0
  | e :: l => e.1.size + wtS l
theorem wtS_len : ∀ l : List (N × N),l.length <= wtS l
  | [] => Nat.le_refl _
  | e :: l => by
    have := wtS_len l
    have := e.1.size_pos
    simp only [List.length_cons,wtS]
    omega
theorem push_pair {C : Addr} {H : Hp} {t : Addr} {xs : List V} {l : List (N × N)} {e : N × N} {z r r' : Addr} (ht : H t = some (.lst xs)) (hl : Stk (PairAt C H) xs l) (hr : TermAt C H r e.1) (hr' : TermAt C H r' e.2) (hz : H z = none) :
    Stk (PairAt C (upd (upd H z (.tup [.ref r,.ref r'])) t (.lst (xs ++ [.ref z])))) (xs ++ [.ref z]) (e :: l) /\ Keep C H (upd (upd H z (.tup [.ref r,.ref r'])) t (.lst (xs ++ [.ref z]))) := by
  have ne : z ≠ t := fun q => by rw [q,ht] at hz; cases hz
  have k1 : Keep C H (upd H z (.tup [.ref r,.ref r'])) := Keep.new hz
  have k2 : Keep C H (upd (upd H z (.tup [.ref r,.ref r'])) t (.lst (xs ++ [.ref z]))) := k1.trans (Keep.upd (o := .lst xs) (by rw [upd_ne (Ne.symm ne)]; exact ht) (fun q => q))
  exact ⟨.push (hl.imp fun v e h => h.keep k2 v e) ⟨z,r,r',rfl,by rw [upd_ne ne,upd_same],hr.keep k2,hr'.keep k2⟩,k2⟩
section
variable {P : Program} {w : World} {K : PySem.W.Frag} {mg : Str -> Option Value} {base : Heap} {a : Ad}
noncomputable def spSame (a : Ad) : Sp := fun vs H Q _ => ∃ (p q : Addr) (n m : N),vs = [.ref p,.ref q] /\ TermAt a.c_Term H p n /\ TermAt a.c_Term H q m /\ n.size <= 1000000 /\ ∀ (b : Bool) (H' : Hp),(b = true ↔ n = m) -> Same H H' -> Q (.bl b) H'
theorem ok_are_same (T : Tx K mg a) : Gd P w K mg base CX0 1 a.f_are_same ["first","second"] (spSame a) := by
  refine T.fn_are_same.ok sc_are_same (fun vs H Q E h => ?_) (fun cdv A outer s H vs Q E hr h => ?_)
  · obtain ⟨p,q,n,m,rfl,_⟩ := h
    rfl
  obtain ⟨p,q,n,m,rfl,hp,hq,hsz,k⟩ := h
  refine ⟨_,pss_cons (ps_set (i := 2) sc_are_same.nd rfl (Or.inl rfl) (pe_lst (pa_cons (pe_tup (pa_cons (pv 0) (pa_cons (pv 1) pa_nil))) pa_nil)))
    (pss_cons (ps_while PassesOwn.never (pt_truth (pv 2) (fun _ => rfl))
      (pss_cons (ps_set (i := 3) sc_are_same.nd rfl (Or.inl rfl) (pe_bm0 PySem.F.plainAttrs_list PySem.F.slot_list_pop PySem.F.type_list_pop mt_pop (pv 2)))
      (pss_cons (ps_set (i := 4) sc_are_same.nd rfl (Or.inl rfl) (pe_ix ix_tup (pv 3) pe_int (fun _ _ => rfl)))
      (pss_cons (ps_set (i := 5) sc_are_same.nd rfl (Or.inl rfl) (pe_ix ix_tup (pv 3) pe_int (fun _ _ => rfl)))
      (pss_cons (ps_if (pt_cut (PW.pt (pw_or (pt_cmpR op_ne (pe_fld (pv 4) rfl) (pe_fld (pv 5) rfl) (nomark _)) (pw_or1 (pt_cmpR (op_neD hr.units) (pe_fld (pv 4) rfl) (pe_fld (pv 5) rfl) (nomark _))))))
        (pss_one (ps_ret pe_bl)) pss_nil)
      (pss_one (ps_if (pt_cmpR op_eq (pe_fld (pv 4) rfl) (pe_k T.k_APPLICATION) (nomark _))
        (pss_cons (ps_expr (pe_bm PySem.F.plainAttrs_list PySem.F.slot_list_append PySem.F.type_list_append mt_append (pv 2) (pa_cons (pe_tup (pa_cons (pe_fld (pv 4) rfl) (pa_cons (pe_fld (pv 5) rfl) pa_nil))) pa_nil)))
        (pss_one (ps_expr (pe_bm PySem.F.plainAttrs_list PySem.F.slot_list_append PySem.F.type_list_append mt_append (pv 2) (pa_cons (pe_tup (pa_cons (pe_fld (pv 4) rfl) (pa_cons (pe_fld (pv 5) rfl) pa_nil))) pa_nil)))))
        (pss_one (ps_if (pt_cmpR op_eq (pe_fld (pv 4) rfl) (pe_k T.k_FUNCTION) (nomark _))
          (pss_one (ps_expr (pe_bm PySem.F.plainAttrs_list PySem.F.slot_list_append PySem.F.type_list_append mt_append (pv 2) (pa_cons (pe_tup (pa_cons (pe_fld (pv 4) rfl) (pa_cons (pe_fld (pv 5) rfl) pa_nil))) pa_nil)))) pss_nil)))))))))
    (pss_one (ps_ret pe_bl))),?_⟩
  refine ⟨_,rfl,_,rfl,(show 2 <= sizeLine by decide),fun z hz => ⟨(show 1 <= sizeLine by decide),fun t ht => ?_⟩⟩
  have zt : z ≠ t := fun e => by rw [<- e,upd_same] at ht; cases ht
  have tz : H t = none := by rw [upd_ne (Ne.symm zt)] at ht; exact ht
  have sm0 : Same H (upd (upd H z (.tup [.ref p,.ref q])) t (.lst [.ref z])) := (same_new hz).trans (same_new ht)
  have nt : ∀ c o,H c = some o -> c ≠ t := fun c o e => ne_of_none e tz
  refine ⟨fun i σ H' => (∃ v3 v4 v5,σ = [some (.ref p),some (.ref q),some (.ref t),v3,v4,v5]) /\ Same H H' /\ ∃ xs l,H' t = some (.lst xs) /\ Stk (PairAt a.c_Term H') xs l /\ ((∀ e ∈ l,e.1 = e.2) ↔ n = m) /\ wtS l <= n.size /\ i = wtS l,
    ⟨_,⟨_,_,_,rfl⟩,sm0,_,[(n,m)],upd_same,.push (vs := []) .nil ⟨z,p,q,rfl,by rw [upd_ne zt,upd_same],hp.same sm0,hq.same sm0⟩,by simp,by simp [wtS],rfl⟩,?_⟩
  rintro i σ H' ⟨⟨v3,v4,v5,rfl⟩,sm,xs,l,h1,h2,h3,h4,rfl⟩
  have lx := h2.length
  refine ⟨_,rfl,_,.inl ⟨xs,SqL.of h1,rfl⟩,?_⟩
  cases l with
  | nil =>
    have := h2.empty
    subst this
    exact iteF (k true H' ⟨fun _ => h3.mp (fun e he => nomatch he),fun _ => rfl⟩ sm)
  | cons e l =>
    obtain ⟨n1,m1⟩ := e
    obtain ⟨us,v,rfl,h2',z1,p1,q1,rfl,hz1,hp1,hq1⟩ := h2.pop
    rw [ne_nil_snoc]
    refine iteT ⟨_,fun _ _ z => z,?_⟩
    have kp : Keep a.c_Term H' (upd H' t (.lst us)) := Keep.upd h1 (fun z => z)
    have sm1 : Same H (upd H' t (.lst us)) := fun c o e => by rw [upd_ne (nt c o e)]; exact sm c o e
    have hz2 := kp _ _ hz1 trivial
    have hp2 := hp1.keep kp
    have hq2 := hq1.keep kp
    have S2 : Stk (PairAt a.c_Term (upd H' t (.lst us))) us l := h2'.imp fun v e h => h.keep kp v e
    generalize hH2 : upd H' t (.lst us) = H2 at kp sm1 hz2 hp2 hq2 S2
    have htt : H2 t = some (.lst us) := by rw [<- hH2,upd_same]
    refine ⟨_,rfl,.inl ⟨rfl,_,SqL.of h1⟩,t,_,_,rfl,rfl,h1,pop_last,?_⟩
    rw [pop_rest,hH2]
    refine ⟨_,rfl,z1,_,_,_,rfl,rfl,SqT.of hz2,rfl,?_⟩
    refine ⟨_,rfl,z1,_,_,_,rfl,rfl,SqT.of hz2,rfl,?_⟩
    obtain ⟨dp1,lp1,fp1,gp1,op1,ep1⟩ := hp2.lab (K := K)
    obtain ⟨dq1,lq1,fq1,gq1,oq1,eq1⟩ := hq2.lab (K := K)
    refine ⟨fun v H3 => v = !(headEq n1 m1) /\ H3 = H2,?_,?_⟩
    · refine ⟨_,rfl,p1,_,dp1,_,_,rfl,op1,T.cl_Term,T.na_Term_kind,rfl,_,rfl,q1,_,dq1,_,_,rfl,oq1,T.cl_Term,T.na_Term_kind,rfl,rfl,_,rfl,?_⟩
      by_cases hk : n1.kind = m1.kind
      · rw [show (!decide (V.int n1.kind = V.int m1.kind)) = false by rw [hk]; simp]
        refine iteF ⟨_,rfl,p1,_,dp1,_,_,rfl,op1,T.cl_Term,T.na_Term_label,rfl,_,rfl,q1,_,dq1,_,_,rfl,oq1,T.cl_Term,T.na_Term_label,rfl,_,_,ep1,eq1,labD_shaped n1,labD_shaped m1,_,rfl,?_,rfl⟩
        unfold headEq
        rw [decide_eq_true hk,Bool.true_and]
      · rw [show (!decide (V.int n1.kind = V.int m1.kind)) = true by
          rw [decide_eq_false (fun z => hk (V.int.inj z))]; rfl]
        refine iteT ⟨?_,rfl⟩
        unfold headEq
        rw [decide_eq_false hk]
        rfl
    rintro v H3 ⟨rfl,rfl⟩
    have h4' : n1.size + wtS l <= n.size := h4
    have e2 := wtS_len l
    have lu := S2.length
    have big : ∀ j,j <= n.size + 2 -> j < sizeLine := fun j hj => Nat.lt_of_le_of_lt (Nat.le_trans hj (Nat.add_le_add_right hsz 2)) (by decide)
    cases hh : headEq n1 m1 with
    | false =>
      refine iteT (k false _ ⟨(fun z => nomatch z),fun z => ?_⟩ sm1)
      have e1 := h3.mpr z (n1,m1) (List.mem_cons_self ..)
      have e1' : n1 = m1 := e1
      rw [e1',headEq_self] at hh
      cases hh
    | true =>
      have leaf : n1 = m1 -> ((∀ e ∈ l,e.1 = e.2) ↔ n = m) := fun e => by
        rw [<- h3,List.forall_mem_cons]
        exact ⟨fun h => ⟨e,h⟩,fun h => h.2⟩
      refine iteF ⟨_,rfl,p1,_,dp1,_,_,rfl,op1,T.cl_Term,T.na_Term_kind,rfl,rfl,_,rfl,ite2 (fun c => ?_) (fun c => ?_)⟩
      · obtain ⟨xa,xb,rfl⟩ := kind_app (V.int.inj (of_decide_eq_true c))
        obtain ⟨u1,u2,rfl⟩ := headEq_app hh
        obtain ⟨pa,pb,d3,o3,ha,hb⟩ := hp2.app_inv
        obtain ⟨qa,qb,d4,o4,ha',hb'⟩ := hq2.app_inv
        refine ⟨_,rfl,.inl ⟨rfl,_,SqL.of htt⟩,_,rfl,p1,_,d3,_,_,rfl,o3,T.cl_Term,T.na_Term_second,rfl,_,rfl,q1,_,d4,_,_,rfl,o4,T.cl_Term,T.na_Term_second,rfl,(show 2 <= sizeLine by decide),fun z5 hz5 => ?_⟩
        have zt5 : t ≠ z5 := fun q2 => by rw [q2,hz5] at htt; cases htt
        refine ⟨t,_,_,rfl,rfl,by rw [upd_ne zt5]; exact htt,big _ (by omega),?_⟩
        obtain ⟨S5,k5⟩ := push_pair (e := (xb,u2)) htt S2 hb hb' hz5
        have sm5 : Same H (upd (upd H3 z5 (.tup [.ref pb,.ref qb])) t (.lst (us ++ [.ref z5]))) := fun c o e => by rw [upd_ne (nt c o e)]; exact same_new hz5 c o (sm1 c o e)
        have t5 : upd (upd H3 z5 (.tup [.ref pb,.ref qb])) t (.lst (us ++ [.ref z5])) t = some (.lst (us ++ [.ref z5])) := upd_same
        generalize upd (upd H3 z5 (.tup [.ref pb,.ref qb])) t (.lst (us ++ [.ref z5])) = H5 at S5 k5 sm5 t5
        refine ⟨_,rfl,.inl ⟨rfl,_,SqL.of t5⟩,_,rfl,p1,_,d3,_,_,rfl,k5 _ _ o3 rfl,T.cl_Term,T.na_Term_first,rfl,_,rfl,q1,_,d4,_,_,rfl,k5 _ _ o4 rfl,T.cl_Term,T.na_Term_first,rfl,(show 2 <= sizeLine by decide),fun z6 hz6 => ?_⟩
        have zt6 : t ≠ z6 := fun q2 => by rw [q2,hz6] at t5; cases t5
        refine ⟨t,_,_,rfl,rfl,by rw [upd_ne zt6]; exact t5,big _ (by rw [List.length_append,List.length_cons,List.length_nil]; simp only [N.size] at h4'; omega),?_⟩
        obtain ⟨S6,k6⟩ := push_pair (e := (xa,u1)) t5 S5 (ha.keep k5) (ha'.keep k5) hz6
        refine ⟨wtS ((xa,u1) :: (xb,u2) :: l),by simp only [wtS,N.size]; omega,⟨_,_,_,rfl⟩,fun c o e => by rw [upd_ne (nt c o e)]; exact same_new hz6 c o (sm5 c o e),_,(xa,u1) :: (xb,u2) :: l,upd_same,S6,?_,?_,rfl⟩
        · rw [<- h3,List.forall_mem_cons,List.forall_mem_cons,List.forall_mem_cons]
          exact ⟨fun h => ⟨(by have e1 : xa = u1 := h.1; have e2 : xb = u2 := h.2.1; subst e1; subst e2; rfl),h.2.2⟩,fun h => ⟨(N.app.inj h.1).1,(N.app.inj h.1).2,h.2⟩⟩
        · simp only [wtS,N.size] at h4' ⊢
          omega
      refine ⟨_,rfl,p1,_,dp1,_,_,rfl,op1,T.cl_Term,T.na_Term_kind,rfl,rfl,_,rfl,ite2 (fun c2 => ?_) (fun c2 => ?_)⟩
      · obtain ⟨xa,rfl⟩ := kind_fn (V.int.inj (of_decide_eq_true c2))
        obtain ⟨u,rfl⟩ := headEq_fn hh
        obtain ⟨pa,d3,o3,ha⟩ := hp2.fn_inv
        obtain ⟨qa,d4,o4,ha'⟩ := hq2.fn_inv
        refine ⟨_,rfl,.inl ⟨rfl,_,SqL.of htt⟩,_,rfl,p1,_,d3,_,_,rfl,o3,T.cl_Term,T.na_Term_first,rfl,_,rfl,q1,_,d4,_,_,rfl,o4,T.cl_Term,T.na_Term_first,rfl,(show 2 <= sizeLine by decide),fun z5 hz5 => ?_⟩
        have zt5 : t ≠ z5 := fun q2 => by rw [q2,hz5] at htt; cases htt
        refine ⟨t,_,_,rfl,rfl,by rw [upd_ne zt5]; exact htt,big _ (by omega),?_⟩
        obtain ⟨S5,k5⟩ := push_pair (e := (xa,u)) htt S2 ha ha' hz5
        refine ⟨wtS ((xa,u) :: l),by simp only [wtS,N.size]; omega,⟨_,_,_,rfl⟩,fun c o e => by rw [upd_ne (nt c o e)]; exact same_new hz5 c o (sm1 c o e),_,(xa,u) :: l,upd_same,S5,?_,?_,rfl⟩
        · rw [<- h3,List.forall_mem_cons,List.forall_mem_cons]
          exact ⟨fun h => ⟨congrArg N.fn h.1,h.2⟩,fun h => ⟨N.fn.inj h.1,h.2⟩⟩
        · simp only [wtS,N.size] at h4' ⊢
          omega
      · have np := n1.size_pos
        exact ⟨wtS l,by simp only [wtS]; omega,⟨_,_,_,rfl⟩,sm1,us,l,htt,S2,leaf (headEq_leaf hh (fun z => c (decide_eq_true (by rw [z]))) (fun z => c2 (decide_eq_true (by rw [z])))),by omega,rfl⟩
end
end Ft
end

section
namespace Ft
open PySem PySem.Spec PyProof.Rows L2
theorem envR_len : ∀ R : List Rw,(envR R).length <= R.length
  | [] => Nat.le_refl _
  | (.fun_ x,_) :: R => by have := envR_len R; simp only [envR,List.length_cons]; omega
  | (.par,_) :: R => by have := envR_len R; simp only [envR,List.length_cons]; omega
  | (.start,_) :: R => by have := envR_len R; simp only [envR,List.length_cons]; omega
theorem stepP_fnm {d : Sy10.Defs} {R : List Rw} {r : List Ptk} : stepP d R (.sg 92 :: r) = (fnm r).map fun x => ((.fun_ x,none) :: R,r.drop 2) := by
  match r with
  | [] => rfl
  | [.nm x] => rfl
  | .sg c :: r => rfl
  | .nm x :: .nm y :: r => rfl
  | .nm x :: .sg e :: r =>
    show (if e = 46 then some ((.fun_ x,none) :: R,r) else none) = (if e = 46 then some x else none).map _
    by_cases h : e = 46
    · rw [if_pos h,if_pos h]; rfl
    · rw [if_neg h,if_neg h]; rfl
section
variable {P : Program} {w : World} {K : PySem.W.Frag} {mg : Str -> Option Value} {base : Heap} {a : Ad}
noncomputable def TksAt (H : Hp) (q : Addr) (l : List Ptk) : Prop := ∃ us,H q = some (.lst us) /\ Paired (TokAt H) us l
theorem TksAt.same {H H' : Hp} {q : Addr} {l : List Ptk} (h : TksAt H q l) (s : Same H H') : TksAt H' q l := by
  obtain ⟨us,h1,h2⟩ := h
  exact ⟨us,s _ _ h1,paired_imp (fun v e z => TokAt.keep (C := 0) (.of s) z) h2⟩
noncomputable def spTake (a : Ad) : Sp := fun vs H Q E => ∃ (H0 : Hp) (d : Sy10.Defs) (A : RdA) (rd : Addr) (R : List Rw) (n : Nat) (q : Addr) (l : List Ptk) (i : Nat),vs = [.ref rd,.ref q,.int i] /\ Rd a H0 d A H rd R (envR R).length (envR R) (frR R) n /\ wfR R /\ DefsOk d /\
  TksAt H0 q l /\ i < l.length /\ R.length <= 1000000 /\ n <= 1000000 /\ (stepP d R (l.drop i) = none -> ∀ H',Same H0 H' -> E (.ref a.c_NotATerm) none H') /\
  ∀ R' r,stepP d R (l.drop i) = some (R',r) -> ∀ (H' : Hp) (j : Nat),l.drop j = r -> i < j -> j <= l.length -> Rd a H0 d A H' rd R' (envR R').length (envR R') (frR R') (n + 1) -> Q (.int j) H'
theorem ok_take_part (T : Tx K mg a) : Gd P w K mg base (CXN P w a.c_NotATerm) 7 a.f_take_part ["reader","tokens","at"] (spTake a) := by
  refine T.fn_take_part.okN sc_take_part (fun vs H Q E h => ?_) (fun cdv A outer s H vs Q E hr h => ?_)
  · obtain ⟨H0,d,A,rd,R,n,q,l,i,rfl,_⟩ := h
    rfl
  obtain ⟨H0,d,A,rd,R,n,q,l,i,rfl,h,hw,hd,tk,hi,bR,bN,kE,k⟩ := h
  refine ⟨_,pss_cons (ps_set (i := 3) sc_take_part.nd rfl (Or.inl rfl) (pe_ix ix_list (pv 1) (pv 2) (fun _ _ => rfl)))
    (pss_cons (ps_if (pt_cmpR (op_eqD hr.units) (pv 3) (pe_k T.k_BACKSLASH) (nomark _))
      (pss_cons (ps_expr (pe_methG (pv 0) T.cl_Reader T.me_Reader_begin_function (ok_Reader_begin_function T) hr (by decide) pass0 (pa_cons (pe_callG (ok_function_name T) hr (by decide) rfl T.mg_function_name T.kp_function_name (passN xn_of fun _ h => h) (pa_cons (pv 1) (pa_cons (pv 2) pa_nil))) pa_nil)))
      (pss_one (ps_ret (pe_op op_add (pv 2) pe_int))))
      pss_nil)
    (pss_cons (ps_if (pt_cmpR (op_eqD hr.units) (pv 3) (pe_k T.k_LEFT_PARENTHESIS) (nomark _))
      (pss_one (ps_expr (pe_bm PySem.F.plainAttrs_list PySem.F.slot_list_append PySem.F.type_list_append mt_append (pe_fld (pv 0) rfl) (pa_cons (pe_makeG T.mk_Row (ok_Row_init T) hr (by decide) rfl T.mg_Row pass0 (pa_cons (pe_k T.k_BY_PARENTHESIS) (pa_cons pe_non pa_nil))) pa_nil))))
      (pss_one (ps_if (pt_cmpR (op_eqD hr.units) (pv 3) (pe_k T.k_RIGHT_PARENTHESIS) (nomark _))
        (pss_one (ps_expr (pe_meth0G (pv 0) T.cl_Reader T.me_Reader_end_parenthesis (ok_Reader_end_parenthesis T) hr (by decide) (passN xn_of fun _ h => h))))
        (pss_one (ps_if (pt_val (pe_callB (call_isinst (T := "tuple")) rfl T.b_isinstance (by decide +kernel) (pa_cons (pv 3) (pa_cons (pe_bltn (v := .ty "tuple") rfl T.b_tuple (by decide +kernel) rfl) pa_nil))))
          (pss_one (ps_expr (pe_methG (pv 0) T.cl_Reader T.me_Reader_add_name (ok_Reader_add_name T) hr (by decide) pass0 (pa_cons (pv 3) pa_nil))))
          (pss_one (ps_raise xn_of rfl T.ex_NotATerm rfl T.mg_NotATerm)))))))
    (pss_one (ps_ret (pe_op op_add (pv 2) pe_int))))),?_⟩
  obtain ⟨us,u1,u2⟩ := tk.same h.sm
  have lp : us.length = l.length := Paired.length u2
  have gi := List.getElem?_eq_getElem hi
  have hdr := List.drop_eq_getElem_cons hi
  generalize l[i] = p at gi hdr
  obtain ⟨v,hv,ht⟩ := paired_get u2 gi
  have dj : l.drop (i + 1) = l.drop (i + 1) := rfl
  obtain ⟨dd,d1,d2,d3⟩ := ht.dp (K := K)
  refine ⟨_,rfl,_,rfl,q,_,_,_,rfl,rfl,SqL.of u1,atI_nat hv,?_⟩
  refine ⟨_,rfl,dd,_,d1,.int 92,d2,rfl,_,rfl,?_⟩
  rw [d3 92]
  have env1 := envR_len R
  rw [hdr] at kE k
  match p,ht with
  | .nm x,ht =>
    obtain ⟨t,rfl,htt⟩ := id ht
    refine iteF ⟨_,rfl,dd,_,d1,.int 40,d2,rfl,_,rfl,?_⟩
    rw [d3 40]
    refine iteF ⟨_,rfl,dd,_,d1,.int 41,d2,rfl,_,rfl,?_⟩
    rw [d3 41]
    obtain ⟨ty,y1,y2⟩ := ht.ty (K := K)
    refine iteF ⟨_,rfl,_,_,_,rfl,y1,y2,_,rfl,iteT ?_⟩
    refine ⟨_,rfl,rd,A.dx,_,rfl,h.ob,rfl,_,rfl,?_⟩
    match R,hw with
    | (kd,acc) :: R,hw =>
      refine ⟨H0,d,A,rd,R,kd,acc,_,_,n,t,x,rfl,h,htt,bN,fun H' h' => ⟨_,rfl,_,_,rfl,rfl,?_⟩⟩
      refine k (addP (nmT d (envR ((kd,acc) :: R)) x) ((kd,acc) :: R)) _ rfl H' (i + 1) rfl (Nat.lt_succ_self _) hi ?_
      rw [addP_frees hw,nmT_frees hd]
      show Rd a H0 d A H' rd ((kd,some _) :: R) (envR ((kd,some _) :: R)).length (envR ((kd,some _) :: R)) _ _
      rw [envR_acc kd (some _) acc]
      exact h'
  | .sg c,ht =>
    have t1 := @tkE_nat c 92
    have t2 := @tkE_nat c 40
    have t3 := @tkE_nat c 41
    by_cases c1 : c = 92
    · subst c1
      refine iteT ?_
      refine ⟨_,rfl,rd,A.dx,_,rfl,h.ob,rfl,_,rfl,_,rfl,?_⟩
      refine ⟨q,us,l,i,rfl,u1,u2,hi,fun z => kE (by rw [stepP_fnm,z]; rfl) _ h.sm,fun x t z htt => ?_⟩
      refine ⟨H0,d,A,rd,R,envR R,frR R,n,t,x,rfl,h,htt,bR,by omega,bN,fun H' h' => ⟨_,rfl,_,_,rfl,rfl,?_⟩⟩
      have l2 : 2 <= (l.drop (i + 1)).length := by
        match hrr : l.drop (i + 1),z with
        | .nm y :: .sg e :: r,_ => simp
        | [],z => cases z
        | [.nm y],z => cases z
        | .sg c :: r,z => cases z
        | .nm y :: .nm y2 :: r,z => cases z
      rw [List.length_drop] at l2
      refine k ((.fun_ x,none) :: R) ((l.drop (i + 1)).drop 2) (by rw [stepP_fnm,z]; rfl) H' (i + 3) (by rw [List.drop_drop]) (by omega) (by omega) ?_
      rw [show frR ((.fun_ x,none) :: R) = frR R from List.append_nil _]
      exact h'
    rw [show tkE (.sg c) (92 : Int) = false from t1.trans (decide_eq_false c1)]
    refine iteF ⟨_,rfl,dd,_,d1,.int 40,d2,rfl,_,rfl,?_⟩
    rw [d3 40]
    by_cases c2 : c = 40
    · subst c2
      refine iteT ?_
      obtain ⟨vs0,r0,_⟩ := h.rows
      refine ⟨_,rfl,rd,_,A.dx,_,_,rfl,h.ob,T.cl_Reader,T.na_Reader_rows,rfl,.inl ⟨rfl,_,SqL.of r0⟩,fun p dx n1 n2 n3 => ?_⟩
      refine ⟨p,dx,_,_,rfl,upd_same,fun H1 g1 g2 => ⟨rfl,?_⟩⟩
      have s1 := same_made n1 n2 g2
      obtain ⟨vs,r1,rl,h2,k2⟩ := h.push (kd := .par) n1 s1 g1 rfl
      refine ⟨A.L,_,_,rfl,rfl,r1,small_of (by omega),_,rfl,_,_,rfl,rfl,?_⟩
      refine k ((.par,none) :: R) _ rfl _ (i + 1) rfl (Nat.lt_succ_self _) hi ?_
      rw [show frR ((.par,none) :: R) = frR R from List.append_nil _]
      exact h2.mono (Nat.le_succ _)
    rw [show tkE (.sg c) (40 : Int) = false from t2.trans (decide_eq_false c2)]
    refine iteF ⟨_,rfl,dd,_,d1,.int 41,d2,rfl,_,rfl,?_⟩
    rw [d3 41]
    have st : stepP d R (.sg c :: l.drop (i + 1)) = if c = 41 then (shut R).map fun R' => (R',l.drop (i + 1)) else none := by
      show (if c = 92 then _ else if c = 40 then _ else if c = 41 then _ else none) = _
      rw [if_neg c1,if_neg c2]
    by_cases c3 : c = 41
    · subst c3
      rw [if_pos rfl] at st
      refine iteT ⟨_,rfl,rd,A.dx,_,rfl,h.ob,rfl,?_⟩
      refine ⟨H0,d,A,rd,R,frR R,n,rfl,h,hw,fun z => kE (by rw [st,z]; rfl),fun R' z H' h' => ⟨_,rfl,_,_,rfl,rfl,?_⟩⟩
      refine k R' (l.drop (i + 1)) (by rw [st,z]; rfl) H' (i + 1) rfl (Nat.lt_succ_self _) hi ?_
      rw [(shut_ok hw z).2.1]
      exact h'.mono (Nat.le_succ _)
    rw [show tkE (.sg c) (41 : Int) = false from t3.trans (decide_eq_false c3)]
    rw [if_neg c3] at st
    obtain ⟨ty,y1,y2⟩ := ht.ty (K := K)
    exact iteF ⟨_,rfl,_,_,_,rfl,y1,y2,_,rfl,iteF (kE st _ h.sm)⟩
noncomputable def spRdInit (a : Ad) : Sp := fun vs H Q _ => ∃ (H0 : Hp) (d : Sy10.Defs) (rd dx D : Addr),vs = [.ref rd,.ref D] /\ H rd = some (.ins a.c_Reader dx []) /\ Same H0 H /\ H0 rd = none /\ DefAt a H0 D d /\
  ∀ (H' : Hp) (A : RdA),Rd a H0 d A H' rd [(.start,none)] 0 [] [] 0 -> Q .non H'
theorem ok_Reader_init (T : Tx K mg a) : Gd P w K mg base CX0 3 a.f_Reader_init ["self","defined"] (spRdInit a) := by
  refine T.fn_Reader_init.ok sc_Reader_init (fun vs H Q E h => ?_) (fun cdv A outer s H vs Q E hr h => ?_)
  · obtain ⟨H0,d,rd,dx,D,rfl,_⟩ := h
    rfl
  obtain ⟨H0,d,rd,dx,D,rfl,hrd,sm,rn,df,k⟩ := h
  refine ⟨_,pss_cons (ps_fld (pv 0) (pv 1) rfl)
    (pss_cons (ps_fld (pv 0) (pe_lst (pa_cons (pe_makeG T.mk_Row (ok_Row_init T) hr (by decide) rfl T.mg_Row pass0 (pa_cons (pe_k T.k_BY_START) (pa_cons pe_non pa_nil))) pa_nil)) rfl)
    (pss_cons (ps_fld (pv 0) pe_int rfl)
    (pss_cons (ps_fld (pv 0) pe_dnewT rfl)
    (pss_one (ps_fld (pv 0) pe_dnewT rfl))))),?_⟩
  refine ⟨_,rfl,_,rfl,rd,_,dx,_,rfl,hrd,T.cl_Reader,T.na_Reader_defined,(show 0 < 1000 by decide),?_⟩
  have sm1 := same_out (o := .ins a.c_Reader dx (putF "defined" (.ref D) [])) sm rn
  have o1 : upd H rd (.ins a.c_Reader dx (putF "defined" (.ref D) [])) rd = some (.ins a.c_Reader dx [("defined",.ref D)]) := upd_same
  generalize upd H rd (.ins a.c_Reader dx (putF "defined" (.ref D) [])) = H1 at sm1 o1
  intro p dp n1 n2 n3
  refine ⟨p,dp,_,_,rfl,upd_same,fun H2 g1 g2 => ⟨rfl,?_⟩⟩
  have s2 := same_made n1 n2 g2
  have p0 := sm1.free n1
  have sm2 := sm1.trans s2
  have o2 := s2 _ _ o1
  refine ⟨(show 1 <= sizeLine by decide),fun L hL => ?_⟩
  have s3 := same_new (o := .lst [.ref p]) hL
  have L0 := sm2.free hL
  have sm3 := sm2.trans s3
  have o3 := s3 _ _ o2
  have l3 : upd H2 L (.lst [.ref p]) L = some (.lst [.ref p]) := upd_same
  have p3 := s3 _ _ g1
  generalize upd H2 L (.lst [.ref p]) = H3 at s3 sm3 o3 l3 p3
  refine ⟨_,rfl,rd,_,dx,_,rfl,o3,T.cl_Reader,T.na_Reader_rows,(show 1 < 1000 by decide),?_⟩
  have rL : L ≠ rd := ne_of l3 o3 (fun z => nomatch z)
  have rp : p ≠ rd := ne_of p3 o3 (fun z => by injection z with z1 _ _; exact (ne_Row T).2 z1)
  have sm4 := same_out (o := .ins a.c_Reader dx (putF "rows" (.ref L) [("defined",.ref D)])) sm3 rn
  have o4 : upd H3 rd (.ins a.c_Reader dx (putF "rows" (.ref L) [("defined",.ref D)])) rd = some (.ins a.c_Reader dx [("defined",.ref D),("rows",.ref L)]) := upd_same
  have l4 := (upd_ne (H := H3) (o := .ins a.c_Reader dx (putF "rows" (.ref L) [("defined",.ref D)])) rL).trans l3
  have p4 := (upd_ne (H := H3) (o := .ins a.c_Reader dx (putF "rows" (.ref L) [("defined",.ref D)])) rp).trans p3
  generalize upd H3 rd (.ins a.c_Reader dx (putF "rows" (.ref L) [("defined",.ref D)])) = H4 at sm4 o4 l4 p4
  refine ⟨_,rfl,rd,_,dx,_,rfl,o4,T.cl_Reader,T.na_Reader_depth,(show 2 < 1000 by decide),?_⟩
  have sm5 := same_out (o := .ins a.c_Reader dx (putF "depth" (.int 0) [("defined",.ref D),("rows",.ref L)])) sm4 rn
  have o5 : upd H4 rd (.ins a.c_Reader dx (putF "depth" (.int 0) [("defined",.ref D),("rows",.ref L)])) rd = some (.ins a.c_Reader dx [("defined",.ref D),("rows",.ref L),("depth",.int 0)]) := upd_same
  have l5 := (upd_ne (H := H4) (o := .ins a.c_Reader dx (putF "depth" (.int 0) [("defined",.ref D),("rows",.ref L)])) rL).trans l4
  have p5 := (upd_ne (H := H4) (o := .ins a.c_Reader dx (putF "depth" (.int 0) [("defined",.ref D),("rows",.ref L)])) rp).trans p4
  generalize upd H4 rd (.ins a.c_Reader dx (putF "depth" (.int 0) [("defined",.ref D),("rows",.ref L)])) = H5 at sm5 o5 l5 p5
  intro O hO
  have s6 := same_new (o := .dT []) hO
  have O0 := sm5.free hO
  have sm6 := sm5.trans s6
  have o6 := s6 _ _ o5
  have l6 := s6 _ _ l5
  have p6 := s6 _ _ p5
  have e6 : upd H5 O (.dT []) O = some (.dT []) := upd_same
  generalize upd H5 O (.dT []) = H6 at s6 sm6 o6 l6 p6 e6
  refine ⟨_,rfl,rd,_,dx,_,rfl,o6,T.cl_Reader,T.na_Reader_owners,(show 3 < 1000 by decide),?_⟩
  have rO : O ≠ rd := ne_of e6 o6 (fun z => nomatch z)
  have sm7 := same_out (o := .ins a.c_Reader dx (putF "owners" (.ref O) [("defined",.ref D),("rows",.ref L),("depth",.int 0)])) sm6 rn
  have o7 : upd H6 rd (.ins a.c_Reader dx (putF "owners" (.ref O) [("defined",.ref D),("rows",.ref L),("depth",.int 0)])) rd = some (.ins a.c_Reader dx [("defined",.ref D),("rows",.ref L),("depth",.int 0),("owners",.ref O)]) := upd_same
  have l7 := (upd_ne (H := H6) (o := .ins a.c_Reader dx (putF "owners" (.ref O) [("defined",.ref D),("rows",.ref L),("depth",.int 0)])) rL).trans l6
  have p7 := (upd_ne (H := H6) (o := .ins a.c_Reader dx (putF "owners" (.ref O) [("defined",.ref D),("rows",.ref L),("depth",.int 0)])) rp).trans p6
  have e7 := (upd_ne (H := H6) (o := .ins a.c_Reader dx (putF "owners" (.ref O) [("defined",.ref D),("rows",.ref L),("depth",.int 0)])) rO).trans e6
  generalize upd H6 rd (.ins a.c_Reader dx (putF "owners" (.ref O) [("defined",.ref D),("rows",.ref L),("depth",.int 0)])) = H7 at sm7 o7 l7 p7 e7
  intro U hU
  have s8 := same_new (o := .dT []) hU
  have U0 := sm7.free hU
  have sm8 := sm7.trans s8
  have o8 := s8 _ _ o7
  have l8 := s8 _ _ l7
  have p8 := s8 _ _ p7
  have e8 := s8 _ _ e7
  have f8 : upd H7 U (.dT []) U = some (.dT []) := upd_same
  have OU : O ≠ U := ne_of_none e7 hU
  generalize upd H7 U (.dT []) = H8 at s8 sm8 o8 l8 p8 e8 f8
  refine ⟨_,rfl,rd,_,dx,_,rfl,o8,T.cl_Reader,T.na_Reader_unknown,(show 4 < 1000 by decide),?_⟩
  have rU : U ≠ rd := ne_of f8 o8 (fun z => nomatch z)
  refine k _ ⟨D,L,O,U,dx⟩ ⟨same_out sm8 rn,df,upd_same,rn,L0,O0,U0,OU,⟨[.ref p],(upd_ne rL).trans l8,.push (vs := []) .nil ⟨p,dp,.non,.non,rfl,p0,(upd_ne rp).trans p8,rfl,rfl⟩,by simp⟩,
    ⟨[],(upd_ne rO).trans e8,Nat.le_refl _,⟨fun x => .inl ⟨rfl,rfl⟩,fun x y l z => by cases z⟩⟩,⟨[],(upd_ne rU).trans f8,Nat.le_refl _,rfl⟩⟩
theorem ok_Reading_init (T : Tx K mg a) : Gd P w K mg base CX0 1 a.f_Reading_init ["self","term","unknown"] (spIn a.c_Reading ["term","unknown"]) := by
  refine T.fn_Reading_init.ok sc_Reading_init (spIn_len rfl) (fun cdv A outer s H vs Q E hr h => ?_)
  obtain ⟨p,dx,args,rfl,l,hp,k⟩ := h
  obtain ⟨x1,r1,rfl,m1⟩ := len_succ (n := 1) l
  obtain ⟨x2,r2,rfl,m2⟩ := len_succ (n := 0) m1
  cases List.eq_nil_of_length_eq_zero m2
  refine ⟨_,pss_cons (ps_fld (pv 0) (pv 1) rfl) (pss_one (ps_fld (pv 0) (pv 2) rfl)),?_⟩
  refine ⟨_,rfl,_,rfl,p,_,dx,_,rfl,hp,T.cl_Reading,T.na_Reading_term,(show 0 < 1000 by decide),?_⟩
  refine ⟨_,rfl,_,rfl,p,_,dx,_,rfl,upd_same,T.cl_Reading,T.na_Reading_unknown,(show 1 < 1000 by decide),?_⟩
  exact k _ upd_same fun b hb => by simp only [upd_ne hb]
noncomputable def baseOf (H0 H H1 : Hp) : Hp := fun b => match H b with
  | some (.tup _) => H1 b
  | some _ => H0 b
  | none => H1 b
theorem base_in {H0 H H1 : Hp} {b : Addr} {o : HO} (e : H b = some o) (t : ∀ xs,o ≠ .tup xs) : baseOf H0 H H1 b = H0 b := by
  unfold baseOf
  rw [e]
  cases o with
  | tup xs => exact absurd rfl (t xs)
  | _ => rfl
theorem base_new {H0 H H1 : Hp} {b : Addr} (e : H b = none) : baseOf H0 H H1 b = H1 b := by
  unfold baseOf
  rw [e]
theorem base_tup {H0 H H1 : Hp} {b : Addr} {xs : List V} (e : H b = some (.tup xs)) : baseOf H0 H H1 b = H1 b := by
  unfold baseOf
  rw [e]
theorem base_same {H0 H H1 : Hp} (s0 : Same H0 H) (s : Same H H1) : Same H0 (baseOf H0 H H1) /\ Same (baseOf H0 H H1) H1 := by
  constructor
  · intro b o e
    have e1 := s0 b o e
    by_cases t : ∃ xs,o = .tup xs
    · obtain ⟨xs,rfl⟩ := t
      rw [base_tup e1]
      exact s b _ e1
    · rw [base_in e1 (fun xs z => t ⟨xs,z⟩)]
      exact e
  · intro b o e
    cases q : H b with
    | none => rw [base_new q] at e; exact e
    | some u =>
      by_cases t : ∃ xs,u = .tup xs
      · obtain ⟨xs,rfl⟩ := t
        rw [base_tup q] at e
        exact e
      · rw [base_in q (fun xs z => t ⟨xs,z⟩)] at e
        exact s b o (s0 b o e)
theorem Rd.rebase {H0 H H1 : Hp} {d : Sy10.Defs} {A : RdA} {rd : Addr} {R : List Rw} {dp : Int} {env F : List Bytes} {n : Nat} (h : Rd a H0 d A H rd R dp env F n) (s : Same H H1) :
    Rd a (baseOf H0 H H1) d A H1 rd R dp env F n := by
  have inn : ∀ b o,H b = some o -> (∀ xs,o ≠ .tup xs) -> H0 b = none -> baseOf H0 H H1 b = none := fun b o e t z => (base_in e t).trans z
  obtain ⟨sm0,sm1⟩ := base_same h.sm s
  have h1 := h.same s
  obtain ⟨vs,r1,r2,r3⟩ := h.rows
  obtain ⟨kvs,o1,o2,o3⟩ := h.own
  obtain ⟨uk,u1,u2,u3⟩ := h.unk
  refine ⟨sm1,h.df.same sm0,h1.ob,inn _ _ h.ob (fun _ z => nomatch z) h.rn,inn _ _ r1 (fun _ z => nomatch z) h.ln,inn _ _ o1 (fun _ z => nomatch z) h.on,inn _ _ u1 (fun _ z => nomatch z) h.un,h.ou,⟨vs,s _ _ r1,r2.imp fun v e q => ?_,r3⟩,⟨kvs,s _ _ o1,o2,⟨fun x => ?_,o3.inj⟩⟩,⟨uk,s _ _ u1,u2,u3⟩⟩
  · obtain ⟨p,dx,nv,tv,e1,e2,e3⟩ := q
    exact ⟨p,dx,nv,tv,e1,inn _ _ e3.ob (fun _ z => nomatch z) e2,e3.keepR (.of s)⟩
  · exact (o3.at_ x).imp id fun ⟨l,m1,m2,m3,m4⟩ => ⟨l,m1,inn _ _ m4 (fun _ z => nomatch z) m2,m3,s _ _ m4⟩
noncomputable def spReadText (a : Ad) : Sp := fun vs H Q E => ∃ (r D : Addr) (b : List Nat) (d : Sy10.Defs),vs = [.ref r,.ref D] /\ H r = some (.lst (byV b)) /\ b.length <= 100000 /\ DefAt a H D d /\ DefsOk d /\
  (readM d b = none -> ∀ H',Same H H' -> E (.ref a.c_NotATerm) none H') /\
  ∀ t,readM d b = some t -> ∀ (H' : Hp) (p dx q U : Addr) (uk : List (List Key × V)),Same H H' -> H' p = some (.ins a.c_Reading dx [("term",.ref q),("unknown",.ref U)]) -> TermAt a.c_Term H' q (ofT t) -> H' U = some (.dT uk) -> UkAt uk t.frees -> H U = none -> Q (.ref p) H'
theorem ok_read_text (T : Tx K mg a) : Gd P w K mg base (CXN P w a.c_NotATerm) 8 a.f_read_text ["text","defined"] (spReadText a) := by
  refine T.fn_read_text.okN sc_read_text (fun vs H Q E h => ?_) (fun cdv A outer s H vs Q E hr h => ?_)
  · obtain ⟨r,D,b,d,rfl,_⟩ := h
    rfl
  obtain ⟨r,D,b,d,rfl,hb,hlen,df,hd,kE,k⟩ := h
  refine ⟨_,pss_cons (ps_set (i := 2) sc_read_text.nd rfl (Or.inl rfl) (pe_makeG T.mk_Reader (ok_Reader_init T) hr (by decide) rfl T.mg_Reader pass0 (pa_cons (pv 1) pa_nil)))
    (pss_cons (ps_set (i := 3) sc_read_text.nd rfl (Or.inl rfl) (pe_callG (ok_tokens_of T) hr (by decide) rfl T.mg_tokens_of T.kp_tokens_of (passN xn_of fun _ h => h) (pa_cons (pv 0) pa_nil)))
    (pss_cons (ps_set (i := 4) sc_read_text.nd rfl (Or.inl rfl) pe_int)
    (pss_cons (ps_while po_of (pt_cmpR op_lt (pv 4) (pe_callB call_len_seq rfl T.b_len PySem.boot_len (pa_cons (pv 3) pa_nil)) (nomark _))
      (pss_one (ps_set (i := 4) sc_read_text.nd rfl (Or.inl rfl) (pe_callG (ok_take_part T) hr (by decide) rfl T.mg_take_part T.kp_take_part (passN xn_of fun _ h => h) (pa_cons (pv 2) (pa_cons (pv 3) (pa_cons (pv 4) pa_nil)))))))
    (pss_one (ps_ret (pe_makeG T.mk_Reading (ok_Reading_init T) hr (by decide) rfl T.mg_Reading pass0 (pa_cons (pe_meth0G (pv 2) T.cl_Reader T.me_Reader_end_text (ok_Reader_end_text T) hr (by decide) (passN xn_of fun _ h => h)) (pa_cons (pe_fld (pv 2) rfl) pa_nil)))))))),?_⟩
  refine ⟨_,rfl,fun rd dx n1 n2 n3 => ?_⟩
  have s1 : Same H (upd (upd H dx (.own rd)) rd (.ins a.c_Reader dx [])) := (same_new n2).trans (same_new (by rw [upd_ne (Ne.symm n3)]; exact n1))
  refine ⟨H,d,rd,dx,D,rfl,upd_same,s1,n1,df,fun H1 A h1 => ⟨rfl,?_⟩⟩
  have sm1 := h1.sm
  refine ⟨_,rfl,r,b,rfl,sm1 _ _ hb,hlen,fun z H2 s2 => kE (by unfold readM; rw [z]; rfl) H2 (sm1.trans s2),fun l hl H2 q us hq pr s2 hqn => ?_⟩
  have h2 := h1.rebase s2
  have SH : Same H (baseOf H H1 H2) := (base_same sm1 s2).1
  have hm : readM d b = mach d l.length [(.start,none)] l := by unfold readM; rw [hl]; rfl
  have tk : TksAt (baseOf H H1 H2) q l := by
    refine ⟨us,(base_new hqn).trans hq,paired_imp (fun v p z => ?_) pr⟩
    match p,z with
    | .sg c,z => exact z
    | .nm x,⟨t,e,ht⟩ =>
      refine ⟨t,e,?_⟩
      cases e1 : H1 t with
      | none => exact (base_new e1).trans ht
      | some o =>
        have e2 := s2 _ _ e1
        rw [ht] at e2
        cases e2
        exact (base_tup e1).trans ht
  generalize baseOf H H1 H2 = H0 at h2 SH tk
  have ll : l.length <= 100000 := Nat.le_trans (ptok_len _ _ _ hl) hlen
  refine ⟨fun m σ H' => ∃ (i n : Nat) (R : List Rw),σ = [some (.ref r),some (.ref D),some (.ref rd),some (.ref q),some (.int i)] /\ Rd a H0 d A H' rd R (envR R).length (envR R) (frR R) n /\ wfR R /\ R.length <= i + 1 /\ n <= i /\ i <= l.length /\
    mach d l.length R (l.drop i) = readM d b /\ m = l.length - i,⟨_,0,0,[(.start,none)],rfl,h2,wfR_start,Nat.le_refl _,Nat.le_refl _,Nat.zero_le _,hm.symm,rfl⟩,?_⟩
  rintro m σ H' ⟨i,n,R,rfl,h',w',b1,b2,b3,em,rfl⟩
  obtain ⟨us',u1,u2⟩ := tk.same h'.sm
  have lp : us'.length = l.length := Paired.length u2
  refine ⟨_,rfl,_,rfl,q,_,rfl,.inl (SqL.of u1),_,_,rfl,rfl,_,rfl,?_⟩
  rw [lp]
  refine ite2 (fun c => ?_) (fun c => ?_)
  · have c' : ((i : Nat) : Int) < (l.length : Nat) := of_decide_eq_true c
    have hi : i < l.length := by omega
    refine ⟨_,fun _ _ z => z,?_⟩
    have em' : (stepP d R (l.drop i)).bind (fun q => mach d l.length q.1 q.2) = readM d b := by
      rw [<- em]
      have hdr := List.drop_eq_getElem_cons hi
      generalize l[i] = p at hdr
      obtain ⟨m,hl1⟩ : ∃ m,l.length = m + 1 := ⟨l.length - 1,by omega⟩
      rw [hdr,hl1]
      show _ = (stepP d R (p :: l.drop (i + 1))).bind fun q => mach d m q.1 q.2
      cases hst : stepP d R (p :: l.drop (i + 1)) with
      | none => rfl
      | some z =>
        obtain ⟨R',r'⟩ := z
        have sl := stepP_len hst
        rw [<- hdr,List.length_drop] at sl
        show mach d (m + 1) R' r' = mach d m R' r'; exact mach_fuel d _ _ _ _ (by omega) (by omega)
    refine ⟨_,rfl,_,rfl,_,rfl,H0,d,A,rd,R,n,q,l,i,rfl,h',w',hd,tk,hi,by omega,by omega,fun z H3 s3 => kE ?_ H3 (SH.trans s3),fun R' r' z H3 j hj1 hj2 hj3 h3 => ?_⟩
    · rw [<- em',z]
      rfl
    · obtain ⟨w3,w4,_⟩ := stepP_ok hd w' z
      refine ⟨l.length - j,by omega,j,n + 1,R',rfl,h3,w3,by omega,by omega,hj3,?_,rfl⟩
      rw [hj1,<- em',z]
      rfl
  · have c' : ¬ ((i : Nat) : Int) < (l.length : Nat) := fun z => c (decide_eq_true z)
    have ei : l.drop i = [] := List.drop_of_length_le (by omega)
    rw [ei] at em
    have em' : endT R = readM d b := by rw [<- em]; cases l.length <;> rfl
    refine ⟨_,rfl,rd,A.dx,_,rfl,h'.ob,rfl,?_⟩
    refine ⟨H0,d,A,rd,R,frR R,n,rfl,h',w',fun z H3 s3 => kE (by rw [<- em',z]) H3 (SH.trans s3),fun t z H3 q3 R3 dp3 env3 hq3 h3 => ?_⟩
    refine ⟨_,rfl,rd,_,A.dx,_,_,rfl,h3.ob,T.cl_Reader,T.na_Reader_unknown,rfl,fun p dp m1 m2 m3 => ?_⟩
    refine ⟨p,dp,_,rfl,rfl,upd_same,fun H4 g1 g2 => ⟨rfl,?_⟩⟩
    have s4 := same_made m1 m2 g2
    obtain ⟨uk,y1,y2,y3⟩ := h3.unk
    refine k t (by rw [<- em',z]) H4 p dp q3 A.U uk (SH.trans (h3.sm.trans s4)) g1 (hq3.same s4) (s4 _ _ y1) ?_ (SH.free h3.un)
    rw [(endT_ok w' z).1]
    exact y3
end
end Ft
end

section
namespace Ft
open PySem PySem.Spec PyProof.Rows L2
noncomputable def textO (b : List Nat) : Option (List Nat) := if 2048 < b.length then none else some b
noncomputable def nameO (x : List Nat) : Option (List Nat) := if x.length < 1 \/ 8 < x.length then none else some x
noncomputable def ansOf (r : Sy10.Ans) : List Int := r.code :: ((match r.used with
  | some u => [(u : Int)]
  | none => []) ++ (if r.code < 0 then [] else r.out.map fun (x : Nat) => (x : Int)))
structure Dfs (d : Sy10.Defs) : Prop where
  ok : DefsOk d
  nd : (d.map (·.1)).Nodup
  few : d.length <= 16
theorem Dfs.nil : Dfs [] := ⟨⟨fun _ _ h => (nomatch h),fun _ _ h => (nomatch h)⟩,by simp,by simp⟩
theorem lookup_cons (x y : Bytes) (t : Sy10.T) (d : Sy10.Defs) : Sy10.lookup ((x,t) :: d) y = if x = y then some t else Sy10.lookup d y := by
  unfold Sy10.lookup
  rw [List.find?_cons]
  by_cases h : x = y
  · subst h
    simp
  · rw [if_neg h]
    have : ((x,t).1 == y) = false := beq_false_of_ne h
    rw [this]
theorem lookup_filter {x y : Bytes} (h : x ≠ y) : ∀ d : Sy10.Defs,Sy10.lookup (d.filter fun p => p.1 != x) y = Sy10.lookup d y
  | [] => rfl
  | (z,t) :: d => by
    rw [List.filter_cons]
    by_cases e : z = x
    · subst e
      rw [if_neg (by simp),lookup_filter h d,lookup_cons,if_neg h]
    · rw [if_pos (by simpa using e),lookup_cons,lookup_cons,lookup_filter h d]
theorem lookup_none {x : Bytes} : ∀ {d : Sy10.Defs},Sy10.lookup d x = none ↔ x ∉ d.map (·.1)
  | [] => by simp [Sy10.lookup]
  | (z,t) :: d => by
    rw [lookup_cons]
    by_cases e : z = x
    · subst e
      simp
    · rw [if_neg e,lookup_none (d := d)]
      simp only [List.map_cons,List.mem_cons,not_or]
      exact ⟨fun h => ⟨Ne.symm e,h⟩,fun h => h.2⟩
theorem filt_len {x : Bytes} : ∀ {d : Sy10.Defs},(d.map (·.1)).Nodup -> (d.filter fun p => p.1 != x).length + (if x ∈ d.map (·.1) then 1 else 0) = d.length
  | [],_ => by simp
  | (z,t) :: d,h => by
    rw [List.map_cons,List.nodup_cons] at h
    have ih := filt_len (x := x) h.2
    rw [List.filter_cons]
    by_cases e : z = x
    · subst e
      rw [if_neg h.1] at ih
      rw [if_neg (by simp),if_pos (by simp),List.length_cons]
      omega
    · rw [if_pos (by simpa using e),List.length_cons,List.length_cons]
      have : (x ∈ ((z,t) :: d).map (·.1)) ↔ x ∈ d.map (·.1) := by
        simp only [List.map_cons,List.mem_cons]
        exact ⟨fun h => h.resolve_left (Ne.symm e),fun h => .inr h⟩
      by_cases m : x ∈ d.map (·.1)
      · rw [if_pos m] at ih
        rw [if_pos (this.mpr m)]
        omega
      · rw [if_neg m] at ih
        rw [if_neg (fun z => m (this.mp z))]
        omega
theorem Dfs.put {d : Sy10.Defs} (h : Dfs d) {x : Bytes} {t : Sy10.T} (hf : t.frees = []) (hr : rch t = 0) (hn : ¬ ((Sy10.lookup d x).isNone = true /\ 16 <= d.length)) : Dfs ((x,t) :: d.filter fun p => p.1 != x) := by
  have fl := filt_len (x := x) h.nd
  refine ⟨⟨fun y u e => ?_,fun y u e => ?_⟩,?_,?_⟩
  · rw [lookup_cons] at e
    by_cases z : x = y
    · rw [if_pos z] at e; cases e; exact hf
    · rw [if_neg z,lookup_filter z] at e; exact h.ok.frees y u e
  · rw [lookup_cons] at e
    by_cases z : x = y
    · rw [if_pos z] at e; cases e; exact hr
    · rw [if_neg z,lookup_filter z] at e; exact h.ok.reach y u e
  · rw [List.map_cons,List.nodup_cons]
    refine ⟨fun m => ?_,?_⟩
    · obtain ⟨p,hp,e⟩ := List.mem_map.mp m
      have := (List.mem_filter.mp hp).2
      rw [e] at this
      simp at this
    · exact h.nd.sublist ((List.filter_sublist ..).map _)
  · rw [List.length_cons]
    have := h.few
    by_cases m : x ∈ d.map (·.1)
    · rw [if_pos m] at fl
      omega
    · rw [if_neg m] at fl
      have : Sy10.lookup d x = none := lookup_none.mpr m
      rw [this] at hn
      simp only [Option.isNone_none,true_and] at hn
      omega
theorem put_len {d : Sy10.Defs} (h : Dfs d) (x : Bytes) (t : Sy10.T) : ((x,t) :: d.filter fun p => p.1 != x).length = if (Sy10.lookup d x).isNone = true then d.length + 1 else d.length := by
  have fl := filt_len (x := x) h.nd
  rw [List.length_cons]
  cases e : Sy10.lookup d x with
  | none =>
    rw [if_neg (lookup_none.mp e)] at fl
    rw [if_pos (show (none : Option Sy10.T).isNone = true from rfl)]
    exact congrArg (fun n => n + 1) fl
  | some u =>
    have m : x ∈ d.map (·.1) := Decidable.byContradiction fun z => by rw [lookup_none.mpr z] at e; cases e
    rw [if_pos m] at fl
    simp only [Option.isNone_some,Bool.false_eq_true,if_false]
    omega
theorem go_frees : ∀ (n : Nat) (t : Sy10.T) (x : Bytes),x ∈ (Sy10.T.go n t).2.frees -> x ∈ t.frees
  | 0,t,x,h => h
  | n + 1,t,x,h => by
    unfold Sy10.T.go at h
    by_cases z : Sy10.MOST < t.size
    · rw [if_pos z] at h; exact h
    · rw [if_neg z] at h
      cases e : t.step with
      | none => rw [e] at h; exact h
      | some u =>
        rw [e] at h
        exact frees_step t u x e (go_frees n u x h)
theorem def_bad {d : Sy10.Defs} {x b : List Nat} (h : Sy10.isName x = false \/ 2048 < b.length) : Sy10.spec d (.define (nameO x) (textO b)) = (Sy10.only (-1),d) := by
  unfold nameO textO
  by_cases h1 : x.length < 1 \/ 8 < x.length
  · rw [if_pos h1]; rfl
  · rw [if_neg h1]
    by_cases h2 : 2048 < b.length
    · rw [if_pos h2]; rfl
    · rw [if_neg h2]
      have := h.resolve_right h2
      show (if Sy10.isName x = false then _ else _) = _
      rw [if_pos this]
theorem name_len {x : List Nat} (h : Sy10.isName x = true) : ¬ (x.length < 1 \/ 8 < x.length) := by
  unfold Sy10.isName at h
  simp only [Bool.and_eq_true,decide_eq_true_eq] at h
  obtain ⟨⟨h1,_⟩,h2⟩ := h
  cases x with
  | nil => cases h1
  | cons c x => simp only [List.length_cons] at h2 ⊢; omega
theorem def_good {d : Sy10.Defs} {x b : List Nat} (h1 : Sy10.isName x = true) (h2 : ¬ 2048 < b.length) : Sy10.spec d (.define (nameO x) (textO b)) = (match readM d b with
      | none => (Sy10.only (-2),d)
      | some t =>
        if t.frees ≠ [] then (Sy10.only (-3),d)
        else if Sy10.DEFINED < t.size then (Sy10.only (-5),d)
        else if (Sy10.lookup d x).isNone = true /\ Sy10.NAMED <= d.length then (Sy10.only (-7),d)
        else (Sy10.only 0,(x,t) :: d.filter fun p => p.1 != x)) := by
  unfold nameO textO
  rw [if_neg (name_len h1),if_neg h2,readM_read]
  show (if Sy10.isName x = false then _ else _) = _
  rw [if_neg (by rw [h1]; simp)]
  rfl
theorem comes_none {d : Sy10.Defs} {b : List Nat} {n : Nat} (h : 2048 < b.length) : Sy10.comes d (textO b) n = (-1,none,.own 0) := by
  unfold textO
  rw [if_pos h]
  rfl
theorem comes_bad {d : Sy10.Defs} {b : List Nat} {n : Nat} (h : ¬ 2048 < b.length) (e : readM d b = none) : Sy10.comes d (textO b) n = (-2,none,.own 0) := by
  unfold textO
  rw [if_neg h]
  rw [readM_read] at e
  show (match Sy10.read d b with | none => _ | some u => _) = _
  rw [e]
theorem comes_some {d : Sy10.Defs} {b : List Nat} {n : Nat} {u : Sy10.T} (h : ¬ 2048 < b.length) (e : readM d b = some u) : Sy10.comes d (textO b) n =
    (if Sy10.MOST < (Sy10.T.go (min n Sy10.STEPS) u).2.size then -5 else if (Sy10.T.go (min n Sy10.STEPS) u).2.step = none then 0 else -4,some (Sy10.T.go (min n Sy10.STEPS) u).1,(Sy10.T.go (min n Sy10.STEPS) u).2) := by
  unfold textO
  rw [if_neg h]
  rw [readM_read] at e
  show (match Sy10.read d b with | none => _ | some u => _) = _
  rw [e]
theorem pe_fldK {X : Cx} {e : Expr} {ta : TE} {f : Str} {pos : Pos} (K0 : PySem.W.Frag) (hK : X.K = K0) (he : PE X e ta) (hb : attributeBase e f X.env (eval e X.env) = eval e X.env) : PE X (.Attribute e f pos) (tFld K0 ta f) := hK ▸ pe_fld he hb
structure LnAt (a : Ad) (H : Hp) (ln dx D : Addr) (d : Sy10.Defs) : Prop where
  ob : H ln = some (.ins a.c_Line dx [("defined",.ref D)])
  df : DefAt a H D d
theorem LnAt.same {a : Ad} {H H' : Hp} {ln dx D : Addr} {d : Sy10.Defs} (h : LnAt a H ln dx D d) (s : Same H H') : LnAt a H' ln dx D d := ⟨s _ _ h.ob,h.df.same s⟩
noncomputable def PostL (a : Ad) (H : Hp) (ln dx D : Addr) (r : Sy10.Ans × Sy10.Defs) (Q : VK) : Prop :=
  ∀ (H' : Hp) (l D' : Addr),LnAt a H' ln dx D' r.2 -> H' l = some (.lst ((ansOf r.1).map V.int)) -> (ansOf r.1).length <= 32770 -> H l = none -> (∀ b o,H b = some o -> b ≠ ln -> b ≠ D -> H' b = some o) -> Q (.ref l) H'
theorem PostL.small {a : Ad} {H H1 : Hp} {ln dx D : Addr} {d : Sy10.Defs} {r : Sy10.Ans} {Q : VK} (k : PostL a H ln dx D (r,d) Q) (s : Same H H1) (h : LnAt a H ln dx D d) {l : Addr} (hl : H1 l = none) {vs : List V} (e : vs = (ansOf r).map V.int) (hs : vs.length <= 32770 := by exact Nat.le_of_ble_eq_true rfl) : Q (.ref l) (upd H1 l (.lst vs)) := by
  subst e
  rw [List.length_map] at hs
  exact k _ l D ((h.same s).same (same_new hl)) upd_same hs (s.free hl) fun b o e _ _ => same_new hl _ _ (s _ _ e)
section
variable {P : Program} {w : World} {K : PySem.W.Frag} {mg : Str -> Option Value} {base : Heap} {a : Ad}
noncomputable def spDefine (a : Ad) : Sp := fun vs H Q _ => ∃ (ln dx D : Addr) (d : Sy10.Defs) (r1 r2 : Addr) (x b : List Nat),vs = [.ref ln,.ref r1,.ref r2] /\ LnAt a H ln dx D d /\ Dfs d /\ H r1 = some (.lst (byV x)) /\ H r2 = some (.lst (byV b)) /\ x.length <= 100000 /\ b.length <= 100000 /\
  PostL a H ln dx D (Sy10.spec d (.define (nameO x) (textO b))) Q
theorem ok_Line_define (T : Tx K mg a) : Gd P w K mg base CX0 9 a.f_Line_define ["self","name","text"] (spDefine a) := by
  refine T.fn_Line_define.ok sc_Line_define (fun vs H Q E h => ?_) (fun cdv A outer s H vs Q E hr h => ?_)
  · obtain ⟨ln,dx,D,d,r1,r2,x,b,rfl,_⟩ := h
    rfl
  obtain ⟨ln,dx,D,d,r1,r2,x,b,rfl,h,hd,hx,hb,lx,lb,k⟩ := h
  refine ⟨_,pss_cons (ps_if (pt_cut (PW.pt (pw_or (pt_not (pt_val (pe_callG (ok_is_name T) hr (by decide) rfl T.mg_is_name T.kp_is_name pass0 (pa_cons (pv 1) pa_nil)))) (pw_or1 (pt_cmpR op_gt (pe_callB call_len_seq rfl T.b_len PySem.boot_len (pa_cons (pv 2) pa_nil)) (pe_k T.k_LONGEST_TEXT) (nomark _))))))
      (pss_one (ps_ret (pe_lst (pa_cons (pe_k T.k_WRONG_FORM) pa_nil)))) pss_nil)
    (pss_cons (ps_try (C := a.c_NotATerm) (E1 := fun _ _ H' => Same H H' /\ readM d b = none) rfl rfl T.ex_NotATerm rfl T.mg_NotATerm
      (fun pn W pass => pss_one (ps_set (i := 3) sc_Line_define.nd rfl (Or.inl rfl) (pe_callG (ok_read_text T) hr (by decide) rfl T.mg_read_text T.kp_read_text pass (pa_cons (pv 2) (pa_cons (pe_fldK K rfl (pv 0) rfl) pa_nil)))))
      (fun pn ea => pss_one (ps_ret (pe_lst (pa_cons (pe_k T.k_NO_TERM) pa_nil)))))
    (pss_cons (ps_if (pt_cmpR op_gt (pe_callB call_lenT rfl T.b_len PySem.boot_len (pa_cons (pe_fld (pv 3) rfl) pa_nil)) pe_int (nomark _))
      (pss_one (ps_ret (pe_lst (pa_cons (pe_k T.k_UNKNOWN_NAME) pa_nil)))) pss_nil)
    (pss_cons (ps_if (pt_cmpR op_gt (pe_fld (pe_fld (pv 3) rfl) rfl) (pe_k T.k_MOST_DEFINED_SIZE) (nomark _))
      (pss_one (ps_ret (pe_lst (pa_cons (pe_k T.k_TOO_LARGE) pa_nil)))) pss_nil)
    (pss_cons (ps_set (i := 4) sc_Line_define.nd rfl (Or.inl rfl) (pe_callTy call_tuple_of rfl T.b_tuple (by decide +kernel) (pa_cons (pv 1) pa_nil)))
    (pss_cons (ps_if (pt_cut (PW.pt (pw_and (pt_cmpR op_ge (pe_callB call_lenT rfl T.b_len PySem.boot_len (pa_cons (pe_fld (pv 0) rfl) pa_nil)) (pe_k T.k_MOST_DEFINED) (nomark _)) (pw_and1 (pt_cmp (pc_dnotin (hu_of hr) (pv 4) (pe_fld (pv 0) rfl)))))))
      (pss_one (ps_ret (pe_lst (pa_cons (pe_k T.k_TOO_MANY) pa_nil)))) pss_nil)
    (pss_cons (ps_dput (hu_of hr) (pe_fld (pv 0) rfl) (pv 4) (pe_fld (pv 3) rfl) rfl)
    (pss_one (ps_ret (pe_lst (pa_cons pe_int pa_nil)))))))))),?_⟩
  have one : 1 <= sizeLine := by decide
  refine ⟨fun v H' => v = (!Sy10.isName x || decide (2048 < b.length)) /\ Same H H',?_,?_⟩
  · refine ⟨_,rfl,r1,x,rfl,.inl hx,by omega,fun H1 s1 => ⟨_,rfl,?_⟩⟩
    cases hn : Sy10.isName x with
    | false => exact iteT ⟨rfl,s1⟩
    | true =>
      refine iteF ⟨_,rfl,r2,_,rfl,.inl (SqL.of (s1 _ _ hb)),_,_,rfl,rfl,_,rfl,?_,s1⟩
      rw [byV_length]
      show decide (((b.length : Nat) : Int) > 2048) = (!true || decide (2048 < b.length))
      rw [Bool.not_true,Bool.false_or]
      exact decide_eq_decide.mpr (by omega)
  rintro v H1 ⟨rfl,s1⟩
  refine ite2 (fun c => ?_) (fun c => ?_)
  · have hbad : Sy10.isName x = false \/ 2048 < b.length := by
      rw [Bool.or_eq_true] at c
      exact c.imp (fun z => by cases hh : Sy10.isName x; rfl; rw [hh] at z; cases z) of_decide_eq_true
    rw [def_bad hbad] at k
    exact ⟨one,fun l hl => k.small s1 h hl rfl⟩
  have hg : Sy10.isName x = true /\ ¬ 2048 < b.length := by
    constructor
    · cases hh : Sy10.isName x with
      | true => rfl
      | false => rw [hh] at c; exact absurd rfl c
    · intro z
      rw [decide_eq_true z,Bool.or_true] at c
      exact c rfl
  rw [def_good hg.1 hg.2] at k
  have h1 := h.same s1
  refine ⟨?_,fun σ' H' _ e => ?_⟩
  rotate_left
  · obtain ⟨s2,e2⟩ := e
    rw [e2] at k
    exact ⟨one,fun l hl => k.small s2 h hl rfl⟩
  refine ⟨_,rfl,_,rfl,ln,_,dx,_,_,rfl,h1.ob,T.cl_Line,T.na_Line_defined,rfl,?_⟩
  refine ⟨r2,D,b,d,rfl,s1 _ _ hb,lb,h1.df,hd.ok,fun z H2 s2 => ⟨s1.trans s2,z⟩,fun t ht H2 p dp q U uk s2 hp hq hU hK _ => ?_⟩
  rw [ht] at k
  dsimp only at k
  have s12 := s1.trans s2
  have h2 := h.same s12
  refine ⟨_,rfl,p,_,dp,_,_,rfl,hp,T.cl_Reading,T.na_Reading_unknown,rfl,U,_,rfl,hU,_,_,rfl,rfl,_,rfl,?_⟩
  by_cases hf : t.frees = []
  · have u0 : uk.length = 0 := by rw [hK.length,hf]; rfl
    rw [u0]
    rw [if_neg (fun z => z hf)] at k
    refine iteF ?_
    obtain ⟨l1,f1,g1,d1,o1⟩ := hq.obj
    refine ⟨_,rfl,p,_,dp,_,_,rfl,hp,T.cl_Reading,T.na_Reading_term,rfl,q,_,d1,_,_,rfl,o1,T.cl_Term,T.na_Term_size,rfl,_,_,rfl,rfl,_,rfl,?_⟩
    rw [ofT_size]
    by_cases hs : Sy10.DEFINED < t.size
    · rw [if_pos hs] at k
      have hs' : 1024 < t.size := hs
      refine ite2 (fun _ => ?_) (fun z => absurd (decide_eq_true (show ((t.size : Nat) : Int) > 1024 by omega)) z)
      exact ⟨one,fun l hl => k.small s12 h hl rfl⟩
    rw [if_neg hs] at k
    have hs' : ¬ 1024 < t.size := hs
    refine ite2 (fun z => absurd (of_decide_eq_true z) (show ¬ ((t.size : Nat) : Int) > 1024 by omega)) (fun _ => ?_)
    refine ⟨_,rfl,r1,_,rfl,.inl ⟨SqL.of (s12 _ _ hx),fun ty hty => ?_⟩⟩
    have s3 := same_new (o := .tup (byV x)) hty
    have s13 := s12.trans s3
    have h3 := h.same s13
    have ht3 : upd H2 ty (.tup (byV x)) ty = some (.tup ((ky x).map kV)) := by rw [upd_same,ky_map]
    have hp3 := s3 _ _ hp
    have hq3 := hq.same s3
    generalize upd H2 ty (.tup (byV x)) = H3 at s3 s13 h3 ht3 hp3 hq3
    obtain ⟨dk,k1,k2,k3⟩ := h3.df
    have kx := k3 x
    have hno : (valV dk (ky x)).isSome = !(Sy10.lookup d x).isNone := by
      cases e : Sy10.lookup d x with
      | none => rw [e] at kx; rw [show valV dk (ky x) = none from kx]; rfl
      | some u => rw [e] at kx; obtain ⟨_,z,_⟩ := kx; rw [z]; rfl
    refine ⟨fun v H' => v = decide ((Sy10.lookup d x).isNone = true /\ 16 <= d.length) /\ H' = H3,?_,?_⟩
    · refine ⟨_,rfl,ln,_,dx,_,_,rfl,h3.ob,T.cl_Line,T.na_Line_defined,rfl,D,_,rfl,k1,_,_,rfl,rfl,_,rfl,?_⟩
      rw [k2]
      by_cases z : 16 <= d.length
      · refine ite2 (fun _ => ?_) (fun y => absurd (decide_eq_true (show ((d.length : Nat) : Int) >= 16 by omega)) y)
        refine ⟨_,rfl,_,rfl,ln,_,dx,_,_,rfl,h3.ob,T.cl_Line,T.na_Line_defined,rfl,D,_,rfl,DGet.t k1 ht3,_,rfl,?_,rfl⟩
        rw [hno,Bool.not_not]
        cases (Sy10.lookup d x).isNone with
        | true => exact (decide_eq_true ⟨rfl,z⟩).symm
        | false => exact (decide_eq_false fun y => by cases y.1).symm
      · refine ite2 (fun y => absurd (of_decide_eq_true y) (show ¬ ((d.length : Nat) : Int) >= 16 by omega)) (fun _ => ?_)
        exact ⟨(decide_eq_false fun y => z y.2).symm,rfl⟩
    rintro v H4 ⟨rfl,rfl⟩
    refine ite2 (fun c2 => ?_) (fun c2 => ?_)
    · have c3 := of_decide_eq_true c2
      rw [if_pos (show (Sy10.lookup d x).isNone = true /\ Sy10.NAMED <= d.length from c3)] at k
      exact ⟨one,fun l hl => k.small s13 h hl rfl⟩
    have c3 : ¬ ((Sy10.lookup d x).isNone = true /\ 16 <= d.length) := fun z => c2 (decide_eq_true z)
    rw [if_neg (show ¬ ((Sy10.lookup d x).isNone = true /\ Sy10.NAMED <= d.length) from c3)] at k
    have few := hd.few
    refine ⟨_,rfl,p,_,dp,_,_,rfl,hp3,T.cl_Reading,T.na_Reading_term,rfl,_,rfl,ln,_,dx,_,_,rfl,h3.ob,T.cl_Line,T.na_Line_defined,rfl,_,rfl,D,_,rfl,DPut.t k1 ht3 (small_of (by omega)),?_⟩
    have k4 : Keep a.c_Term H4 (upd H4 D (.dT (putK dk (ky x) (.ref q)))) := Keep.upd k1 (fun z => z)
    have h5 : LnAt a (upd H4 D (.dT (putK dk (ky x) (.ref q)))) ln dx D ((x,t) :: d.filter fun p => p.1 != x) := by
      refine ⟨by rw [upd_ne (ne_of h3.ob k1 (fun z => nomatch z))]; exact h3.ob,_,upd_same,?_,fun y => ?_⟩
      · rw [put_len hd]
        cases e : Sy10.lookup d x with
        | none =>
          rw [e] at kx
          rw [putK_new _ (show valV dk (ky x) = none from kx),List.length_append,List.length_cons,List.length_nil,k2]
          rfl
        | some u =>
          rw [e] at hno
          unfold putK
          rw [valV_any,hno]
          show (List.map _ dk).length = d.length
          rw [List.length_map,k2]
      · rw [lookup_cons,valV_put]
        by_cases e : x = y
        · subst e
          rw [if_pos rfl,if_pos rfl]
          exact ⟨q,rfl,hq3.keep k4⟩
        · rw [if_neg e,lookup_filter e,if_neg (fun z => e (ky_inj z).symm)]
          have := k3 y
          cases e2 : Sy10.lookup d y with
          | none => rw [e2] at this; exact this
          | some u =>
            rw [e2] at this
            obtain ⟨q5,z1,z2⟩ := this
            exact ⟨q5,z1,z2.keep k4⟩
    refine ⟨one,fun l hl => ?_⟩
    have lD : l ≠ D := fun z => by rw [z,upd_same] at hl; cases hl
    have hl4 : H4 l = none := by rw [upd_ne lD] at hl; exact hl
    refine k _ l D (h5.same (same_new hl)) upd_same (Nat.le_of_ble_eq_true rfl) (s13.free hl4) fun b o e _ n2 => same_new hl _ _ ?_
    rw [upd_ne n2]
    exact s13 _ _ e
  · rw [if_pos hf] at k
    have u0 : 0 < uk.length := by
      match hfr : t.frees,hf with
      | y :: r,_ =>
        have := (hK.mem y).mpr (show y ∈ t.frees by rw [hfr]; simp)
        cases uk with
        | nil => cases this
        | cons _ _ => simp
    refine ite2 (fun _ => ?_) (fun z => absurd (decide_eq_true (show ((uk.length : Nat) : Int) > 0 by omega)) z)
    exact ⟨one,fun l hl => k.small s12 h hl rfl⟩
end
end Ft
end

section
namespace Ft
open PySem PySem.Spec PyProof.Rows L2
theorem nn_int (i : Int) : (!decide (V.int i = V.non)) = true := by
  rw [decide_eq_false (fun y => nomatch y)]
  rfl
theorem nn_non : (!decide (V.non = V.non)) = false := by
  rw [decide_eq_true rfl]
  rfl
section
variable {P : Program} {w : World} {K : PySem.W.Frag} {mg : Str -> Option Value} {base : Heap} {a : Ad}
noncomputable def spNormal (a : Ad) : Sp := fun vs H Q _ => ∃ (ln dx D : Addr) (d : Sy10.Defs) (r : Addr) (n m : Nat) (b : List Nat),vs = [.ref ln,.int n,.int m,.ref r] /\ LnAt a H ln dx D d /\ Dfs d /\ H r = some (.lst (byV b)) /\ b.length <= 100000 /\
  PostL a H ln dx D (Sy10.spec d (.normal (textO b) n m)) Q
theorem ok_Line_normal (T : Tx K mg a) : Gd P w K mg base CX0 9 a.f_Line_normal ["self","steps","most","text"] (spNormal a) := by
  refine T.fn_Line_normal.ok sc_Line_normal (fun vs H Q E h => ?_) (fun cdv A outer s H vs Q E hr h => ?_)
  · obtain ⟨ln,dx,D,d,r,n,m,b,rfl,_⟩ := h
    rfl
  obtain ⟨ln,dx,D,d,r,n,m,b,rfl,h,hd,hb,lb,k⟩ := h
  refine ⟨_,pss_cons (ps_if (pt_cmpR op_gt (pe_callB call_len_seq rfl T.b_len PySem.boot_len (pa_cons (pv 3) pa_nil)) (pe_k T.k_LONGEST_TEXT) (nomark _))
      (pss_one (ps_ret (pe_lst (pa_cons (pe_k T.k_WRONG_FORM) pa_nil)))) pss_nil)
    (pss_cons (ps_try (C := a.c_NotATerm) (E1 := fun _ _ H' => Same H H' /\ readM d b = none) rfl rfl T.ex_NotATerm rfl T.mg_NotATerm
      (fun pn W pass => pss_one (ps_set (i := 4) sc_Line_normal.nd rfl (Or.inl rfl) (pe_callG (ok_read_text T) hr (by decide) rfl T.mg_read_text T.kp_read_text pass (pa_cons (pv 3) (pa_cons (pe_fldK K rfl (pv 0) rfl) pa_nil)))))
      (fun pn ea => pss_one (ps_ret (pe_lst (pa_cons (pe_k T.k_NO_TERM) pa_nil)))))
    (pss_cons (ps_set (i := 5) sc_Line_normal.nd rfl (Or.inl rfl) (pe_callG (ok_work_out T) hr (by decide) rfl T.mg_work_out T.kp_work_out pass0 (pa_cons (pe_fld (pv 4) rfl) (pa_cons (pv 1) pa_nil))))
    (pss_cons (ps_set (i := 6) sc_Line_normal.nd rfl (Or.inl rfl) (pe_callG (ok_refusal_of T) hr (by decide) rfl T.mg_refusal_of T.kp_refusal_of pass0 (pa_cons (pv 5) pa_nil)))
    (pss_cons (ps_if (pt_cmpR op_notN (pv 6) pe_non (nomark _))
      (pss_one (ps_ret (pe_lst (pa_cons (pv 6) (pa_cons (pe_fld (pv 5) rfl) pa_nil))))) pss_nil)
    (pss_cons (ps_set (i := 7) sc_Line_normal.nd rfl (Or.inl rfl) (pe_callG (ok_write_term T) hr (by decide) rfl T.mg_write_term T.kp_write_term pass0 (pa_cons (pe_fld (pv 5) rfl) pa_nil)))
    (pss_cons (ps_if (pt_cmpR op_gt (pe_callB call_len_seq rfl T.b_len PySem.boot_len (pa_cons (pv 7) pa_nil)) (pv 2) (nomark _))
      (pss_one (ps_ret (pe_lst (pa_cons (pe_k T.k_TOO_LONG) (pa_cons (pe_fld (pv 5) rfl) pa_nil))))) pss_nil)
    (pss_one (ps_ret (pe_op op_cat (pe_lst (pa_cons (pe_callB call_len_seq rfl T.b_len PySem.boot_len (pa_cons (pv 7) pa_nil)) (pa_cons (pe_fld (pv 5) rfl) pa_nil))) (pv 7)))))))))),?_⟩
  have one : 1 <= sizeLine := by decide
  have two : 2 <= sizeLine := by decide
  refine ⟨_,rfl,r,_,rfl,.inl (SqL.of hb),_,_,rfl,rfl,_,rfl,?_⟩
  rw [byV_length]
  by_cases hl : 2048 < b.length
  · refine ite2 (fun _ => ?_) (fun z => absurd (decide_eq_true (show ((b.length : Nat) : Int) > 2048 by omega)) z)
    have e : Sy10.spec d (.normal (textO b) n m) = (⟨-1,[],none⟩,d) := by
      show (if (Sy10.comes d (textO b) n).1 ≠ 0 then _ else _) = _
      rw [comes_none hl]
      rfl
    rw [e] at k
    exact ⟨one,fun l hl => k.small (Same.refl _) h hl rfl⟩
  refine ite2 (fun z => absurd (of_decide_eq_true z) (show ¬ ((b.length : Nat) : Int) > 2048 by omega)) (fun _ => ?_)
  refine ⟨?_,fun σ' H' _ e => ?_⟩
  rotate_left
  · obtain ⟨s2,e2⟩ := e
    have e : Sy10.spec d (.normal (textO b) n m) = (⟨-2,[],none⟩,d) := by
      show (if (Sy10.comes d (textO b) n).1 ≠ 0 then _ else _) = _
      rw [comes_bad hl e2]
      rfl
    rw [e] at k
    exact ⟨one,fun l hl => k.small s2 h hl rfl⟩
  refine ⟨_,rfl,_,rfl,ln,_,dx,_,_,rfl,h.ob,T.cl_Line,T.na_Line_defined,rfl,?_⟩
  refine ⟨r,D,b,d,rfl,hb,lb,h.df,hd.ok,fun z H2 s2 => ⟨s2,z⟩,fun t ht H2 p dp q U uk s2 hp hq hU hK _ => ?_⟩
  obtain ⟨hre,hfr⟩ := readM_ok hd.ok ht
  have ec := comes_some (n := n) hl ht
  have es : Sy10.spec d (.normal (textO b) n m) = (if (Sy10.comes d (textO b) n).1 ≠ 0 then (⟨(Sy10.comes d (textO b) n).1,[],(Sy10.comes d (textO b) n).2.1⟩,d)
    else if m < (Sy10.comes d (textO b) n).2.2.text.length then (⟨-6,[],(Sy10.comes d (textO b) n).2.1⟩,d)
    else (⟨(Sy10.comes d (textO b) n).2.2.text.length,(Sy10.comes d (textO b) n).2.2.text,(Sy10.comes d (textO b) n).2.1⟩,d)) := rfl
  rw [ec] at es
  have gf := go_frees (min n Sy10.STEPS) t
  refine ⟨_,rfl,p,_,dp,_,_,rfl,hp,T.cl_Reading,T.na_Reading_term,rfl,_,rfl,q,n,t,rfl,hq,hre,fun H3 wk dn s3 => ?_⟩
  generalize Sy10.T.go (min n Sy10.STEPS) t = g at es gf dn
  obtain ⟨gn,gt⟩ := g
  dsimp only at es gf
  obtain ⟨dw,ar,p',K',d',fin,W,hc⟩ := dn.ex
  obtain ⟨⟨pl,w1,w2⟩,_⟩ := W
  have s23 := s2.trans s3
  dsimp only at hc w1
  refine ⟨_,rfl,wk,dw,_,_,_,_,_,_,rfl,w1,?_⟩
  by_cases c1 : Sy10.MOST < gt.size
  · have c1' : 4096 < gt.size := c1
    rw [if_pos c1,if_pos (show (-5 : Int) ≠ 0 by decide)] at es
    rw [es] at k
    rw [show refV gt.size fin = .int (-5) from if_pos c1']
    refine ⟨_,rfl,rfl,_,rfl,ite2 (fun _ => ?_) (fun z => absurd (nn_int _) z)⟩
    exact ⟨_,rfl,_,rfl,wk,_,dw,_,_,rfl,w1,T.cl_Work,T.na_Work_steps,rfl,two,fun l hl => k.small s23 h hl rfl⟩
  have c1' : ¬ 4096 < gt.size := c1
  rw [if_neg c1] at es
  rcases hc with z | ⟨rfl,_,he,hen,hst⟩ | ⟨rfl,_,hst⟩
  · exact absurd z c1
  · rw [if_pos hst,if_neg (fun z => z rfl)] at es
    rw [show refV gt.size true = .non from (if_neg c1').trans (if_pos rfl)]
    refine ⟨_,rfl,rfl,_,rfl,ite2 (fun z => absurd (nn_non.symm.trans z) (fun y => nomatch y)) (fun _ => ?_)⟩
    refine ⟨_,rfl,wk,_,dw,_,_,rfl,w1,T.cl_Work,T.na_Work_place,rfl,?_⟩
    refine ⟨pl,p',gt,rfl,w2,he,hen,Nat.le_of_not_lt c1',fun x hx => hfr x (gf x hx),fun H4 l4 e4 s4 => ?_⟩
    have s24 := s23.trans s4
    have w4 := s4 _ _ w1
    have tl := text_len he hen (Nat.le_of_not_lt c1') (fun x hx => hfr x (gf x hx))
    refine ⟨_,rfl,l4,_,rfl,.inl (SqL.of e4),_,rfl,_,_,rfl,rfl,_,rfl,?_⟩
    rw [byV_length]
    by_cases c2 : m < gt.text.length
    · rw [if_pos c2] at es
      rw [es] at k
      refine ite2 (fun _ => ?_) (fun z => absurd (decide_eq_true (show ((gt.text.length : Nat) : Int) > (m : Int) by omega)) z)
      exact ⟨_,rfl,wk,_,dw,_,_,rfl,w4,T.cl_Work,T.na_Work_steps,rfl,two,fun l hl => k.small s24 h hl rfl⟩
    · rw [if_neg c2] at es
      rw [es] at k
      refine ite2 (fun z => absurd (of_decide_eq_true z) (show ¬ ((gt.text.length : Nat) : Int) > (m : Int) by omega)) (fun _ => ?_)
      refine ⟨_,rfl,l4,_,rfl,.inl (SqL.of e4),_,rfl,wk,_,dw,_,_,rfl,w4,T.cl_Work,T.na_Work_steps,rfl,two,fun l hl => ?_⟩
      have s5 := same_new (o := .lst [.int ((byV gt.text).length : Nat),.int (gn : Nat)]) hl
      refine ⟨_,rfl,l,l4,_,_,rfl,rfl,upd_same,s5 _ _ e4,?_,fun l6 hl6 => ?_⟩
      · rw [byV_length]
        exact Nat.le_trans (show 2 + gt.text.length <= 100000 by omega) (by decide)
      · refine k.small (s24.trans s5) h hl6 ?_ (by rw [List.length_append,byV_length]; exact Nat.le_trans (show 2 + gt.text.length <= 32770 by omega) (Nat.le_refl _))
        rw [byV_length]
        unfold ansOf byV
        dsimp only
        rw [if_neg (by omega),List.map_cons,List.map_append,List.map_map]
        rfl
  · rw [if_neg hst,if_pos (show (-4 : Int) ≠ 0 by decide)] at es
    rw [es] at k
    rw [show refV gt.size false = .int (-4) from (if_neg c1').trans (if_neg (fun z => nomatch z))]
    refine ⟨_,rfl,rfl,_,rfl,ite2 (fun _ => ?_) (fun z => absurd (nn_int _) z)⟩
    exact ⟨_,rfl,_,rfl,wk,_,dw,_,_,rfl,w1,T.cl_Work,T.na_Work_steps,rfl,two,fun l hl => k.small s23 h hl rfl⟩
noncomputable def spBeg (a : Ad) : Sp := fun vs H Q _ => ∃ (ln dx D : Addr) (d : Sy10.Defs),vs = [.ref ln] /\ LnAt a H ln dx D d /\ PostL a H ln dx D (⟨0,[],none⟩,[]) Q
theorem ok_Line_begin (T : Tx K mg a) : Gd P w K mg base CX0 1 a.f_Line_begin ["self"] (spBeg a) := by
  refine T.fn_Line_begin.ok sc_Line_begin (fun vs H Q E h => ?_) (fun cdv A outer s H vs Q E hr h => ?_)
  · obtain ⟨ln,dx,D,d,rfl,_⟩ := h
    rfl
  obtain ⟨ln,dx,D,d,rfl,h,k⟩ := h
  refine ⟨_,pss_cons (ps_fld (pv 0) pe_dnewT rfl) (pss_one (ps_ret (pe_lst (pa_cons pe_int pa_nil)))),?_⟩
  intro D' hD
  have s1 := same_new (o := .dT []) hD
  have h1 := s1 _ _ h.ob
  refine ⟨_,rfl,ln,_,dx,_,rfl,h1,T.cl_Line,T.na_Line_defined,(show 1 < 1000 by decide),(show 1 <= sizeLine by decide),fun l hl => ?_⟩
  have lD : D' ≠ ln := Ne.symm (ne_of_none h.ob hD)
  have nl : l ≠ ln := fun z => by rw [z,upd_same] at hl; cases hl
  have hl1 : upd H D' (.dT []) l = none := by rw [upd_ne nl] at hl; exact hl
  refine k _ l D' ⟨same_new hl _ _ upd_same,⟨[],same_new hl _ _ (by rw [upd_ne lD,upd_same]),rfl,fun x => rfl⟩⟩ upd_same (Nat.le_of_ble_eq_true rfl) (s1.free hl1) fun b o e n1 _ => same_new hl _ _ ?_
  rw [upd_ne n1]
  exact s1 _ _ e
noncomputable def spLineInit (a : Ad) : Sp := fun vs H Q _ => ∃ (ln dx : Addr),vs = [.ref ln] /\ H ln = some (.ins a.c_Line dx []) /\ ∀ (H' : Hp) (D : Addr),LnAt a H' ln dx D [] -> (∀ b o,H b = some o -> b ≠ ln -> H' b = some o) -> Q .non H'
theorem ok_Line_init (T : Tx K mg a) : Gd P w K mg base CX0 1 a.f_Line_init ["self"] (spLineInit a) := by
  refine T.fn_Line_init.ok sc_Line_init (fun vs H Q E h => ?_) (fun cdv A outer s H vs Q E hr h => ?_)
  · obtain ⟨ln,dx,rfl,_⟩ := h
    rfl
  obtain ⟨ln,dx,rfl,h,k⟩ := h
  refine ⟨_,pss_one (ps_fld (pv 0) pe_dnewT rfl),?_⟩
  intro D' hD
  have s1 := same_new (o := .dT []) hD
  refine ⟨_,rfl,ln,_,dx,_,rfl,s1 _ _ h,T.cl_Line,T.na_Line_defined,(show 0 < 1000 by decide),?_⟩
  have lD : D' ≠ ln := Ne.symm (ne_of_none h hD)
  refine k _ D' ⟨upd_same,⟨[],by rw [upd_ne lD,upd_same],rfl,fun x => rfl⟩⟩ fun b o e n1 => ?_
  rw [upd_ne n1]
  exact s1 _ _ e
structure TpAt (K : PySem.W.Frag) (a : Ad) (H : Hp) (tp dx q : Addr) (ns : List Int) (i : Nat) : Prop where
  ob : H tp = some (.ins a.c_Tape dx [("numbers",.ref q),("at",.int i)])
  ls : SqL K H q (ns.map V.int)
theorem TpAt.same {H H' : Hp} {tp dx q : Addr} {ns : List Int} {i : Nat} (h : TpAt K a H tp dx q ns i) (s : Same H H') : TpAt K a H' tp dx q ns i := ⟨s _ _ h.ob,s.seq h.ls⟩
theorem sq_upd {H : Hp} {q p : Addr} {xs : List V} {o u : HO} (h : SqL K H q xs) (hp : H p = some o) (n1 : ∀ ys,o ≠ .lst ys) (n2 : ∀ z v,o ≠ .frz z v) : SqL K (upd H p u) q xs := by
  rcases h with (h | ⟨z,h⟩) | h
  · exact .inl (.inl ((upd_ne (ne_of h hp (fun e => n1 _ e.symm))).trans h))
  · exact .inl (.inr ⟨z,(upd_ne (ne_of h hp (fun e => n2 _ _ e.symm))).trans h⟩)
  · exact .inr h
theorem TpAt.set {H : Hp} {tp dx q : Addr} {ns : List Int} {i : Nat} (h : TpAt K a H tp dx q ns i) (j : Nat) : TpAt K a (upd H tp (.ins a.c_Tape dx [("numbers",.ref q),("at",.int j)])) tp dx q ns j :=
  ⟨upd_same,sq_upd h.ls h.ob (fun _ e => nomatch e) (fun _ _ e => nomatch e)⟩
theorem ok_Tape_init (T : Tx K mg a) : Gd P w K mg base CX0 1 a.f_Tape_init ["self","numbers"] (fun vs H Q _ => ∃ (tp dx : Addr) (v : V),vs = [.ref tp,v] /\ H tp = some (.ins a.c_Tape dx []) /\ ∀ H' : Hp,H' tp = some (.ins a.c_Tape dx [("numbers",v),("at",.int 0)]) -> (∀ b,b ≠ tp -> H' b = H b) -> Q .non H') := by
  refine T.fn_Tape_init.ok sc_Tape_init (fun vs H Q E h => ?_) (fun cdv A outer s H vs Q E hr h => ?_)
  · obtain ⟨tp,dx,v,rfl,_⟩ := h
    rfl
  obtain ⟨tp,dx,v,rfl,h,k⟩ := h
  refine ⟨_,pss_cons (ps_fld (pv 0) (pv 1) rfl) (pss_one (ps_fld (pv 0) pe_int rfl)),?_⟩
  refine ⟨_,rfl,_,rfl,tp,_,dx,_,rfl,h,T.cl_Tape,T.na_Tape_numbers,(show 0 < 1000 by decide),?_⟩
  refine ⟨_,rfl,tp,_,dx,_,rfl,upd_same,T.cl_Tape,T.na_Tape_at,(show 1 < 1000 by decide),?_⟩
  exact k _ upd_same fun b hb => by simp only [upd_ne hb]
noncomputable def spMore (K : PySem.W.Frag) (a : Ad) : Sp := fun vs H Q _ => ∃ (tp dx q : Addr) (ns : List Int) (i : Nat),vs = [.ref tp] /\ TpAt K a H tp dx q ns i /\ Q (.bl (decide (i < ns.length))) H
theorem ok_Tape_has_more (T : Tx K mg a) : Gd P w K mg base CX0 1 a.f_Tape_has_more ["self"] (spMore K a) := by
  refine T.fn_Tape_has_more.ok sc_Tape_has_more (fun vs H Q E h => ?_) (fun cdv A outer s H vs Q E hr h => ?_)
  · obtain ⟨tp,dx,q,ns,i,rfl,_⟩ := h
    rfl
  obtain ⟨tp,dx,q,ns,i,rfl,h,k⟩ := h
  refine ⟨_,pss_one (ps_ret (pe_cmpR op_lt (pe_fld (pv 0) rfl) (pe_callB call_len_seq rfl T.b_len PySem.boot_len (pa_cons (pe_fld (pv 0) rfl) pa_nil)) (nomark _))),?_⟩
  refine ⟨_,rfl,tp,_,dx,_,_,rfl,h.ob,T.cl_Tape,T.na_Tape_at,rfl,_,rfl,tp,_,dx,_,_,rfl,h.ob,T.cl_Tape,T.na_Tape_numbers,rfl,q,_,rfl,.inl h.ls,_,_,rfl,rfl,?_⟩
  rw [List.length_map]
  rw [<- show decide (((i : Nat) : Int) < ((ns.length : Nat) : Int)) = decide (i < ns.length) from decide_eq_decide.mpr (by omega)] at k
  exact k
noncomputable def spNum (K : PySem.W.Frag) (a : Ad) : Sp := fun vs H Q _ => ∃ (tp dx q : Addr) (ns : List Int) (i : Nat) (z : Int),vs = [.ref tp] /\ TpAt K a H tp dx q ns i /\ ns[i]? = some z /\
  ∀ H' : Hp,TpAt K a H' tp dx q ns (i + 1) -> (∀ b o,H b = some o -> b ≠ tp -> H' b = some o) -> Q (.int z) H'
theorem ok_Tape_take_number (T : Tx K mg a) : Gd P w K mg base CX0 1 a.f_Tape_take_number ["self"] (spNum K a) := by
  refine T.fn_Tape_take_number.ok sc_Tape_take_number (fun vs H Q E h => ?_) (fun cdv A outer s H vs Q E hr h => ?_)
  · obtain ⟨tp,dx,q,ns,i,z,rfl,_⟩ := h
    rfl
  obtain ⟨tp,dx,q,ns,i,z,rfl,h,hz,k⟩ := h
  refine ⟨_,pss_cons (ps_set (i := 1) sc_Tape_take_number.nd rfl (Or.inl rfl) (pe_ix ix_list (pe_fld (pv 0) rfl) (pe_fld (pv 0) rfl) (fun _ _ => rfl)))
    (pss_cons (ps_fldaug (pv 0) pe_int in_add) (pss_one (ps_ret (pv 1)))),?_⟩
  have gz : (ns.map V.int)[i]? = some (.int z) := by rw [List.getElem?_map,hz]; rfl
  refine ⟨_,rfl,tp,_,dx,_,_,rfl,h.ob,T.cl_Tape,T.na_Tape_numbers,rfl,_,rfl,tp,_,dx,_,_,rfl,h.ob,T.cl_Tape,T.na_Tape_at,rfl,q,_,_,_,rfl,rfl,h.ls,atI_nat gz,?_⟩
  refine ⟨_,rfl,tp,_,dx,_,_,rfl,h.ob,T.cl_Tape,T.na_Tape_at,rfl,_,_,rfl,rfl,dx,_,h.ob,(show 2 < 1000 by decide),?_⟩
  exact ⟨_,rfl,k _ (h.set (i + 1)) fun b o e n => by rw [upd_ne n]; exact e⟩
noncomputable def spRowT (K : PySem.W.Frag) (a : Ad) : Sp := fun vs H Q _ => ∃ (tp dx q : Addr) (ns : List Int) (i n : Nat),vs = [.ref tp] /\ TpAt K a H tp dx q ns i /\ ns[i]? = some (n : Int) /\ i + 1 + n <= ns.length /\
  ∀ (H' : Hp) (l : Addr),TpAt K a H' tp dx q ns (i + 1 + n) -> H' l = some (.lst (((ns.drop (i + 1)).take n).map V.int)) -> H l = none -> (∀ b o,H b = some o -> b ≠ tp -> H' b = some o) -> Q (.ref l) H'
theorem ok_Tape_take_row (T : Tx K mg a) : Gd P w K mg base CX0 2 a.f_Tape_take_row ["self"] (spRowT K a) := by
  refine T.fn_Tape_take_row.ok sc_Tape_take_row (fun vs H Q E h => ?_) (fun cdv A outer s H vs Q E hr h => ?_)
  · obtain ⟨tp,dx,q,ns,i,n,rfl,_⟩ := h
    rfl
  obtain ⟨tp,dx,q,ns,i,n,rfl,h,hz,hn,k⟩ := h
  refine ⟨_,pss_cons (ps_set (i := 1) sc_Tape_take_row.nd rfl (Or.inl rfl) (pe_meth0G (pv 0) T.cl_Tape T.me_Tape_take_number (ok_Tape_take_number T) hr (by decide) pass0))
    (pss_cons (ps_set (i := 2) sc_Tape_take_row.nd rfl (Or.inl rfl) (pe_slice sl_list (pe_fld (pv 0) rfl) (po_some (pe_fld (pv 0) rfl)) (po_some (pe_op op_add (pe_fld (pv 0) rfl) (pv 1)))))
    (pss_cons (ps_fldaug (pv 0) (pv 1) in_add) (pss_one (ps_ret (pv 2))))),?_⟩
  refine ⟨_,rfl,tp,dx,_,rfl,h.ob,rfl,tp,dx,q,ns,i,_,rfl,h,hz,fun H1 h1 f1 => ?_⟩
  have cut : cutV (ns.map V.int) (some ((i + 1 : Nat) : Int)) (some (((i + 1 : Nat) : Int) + (n : Int))) = ((ns.drop (i + 1)).take n).map V.int := by
    rw [show ((i + 1 : Nat) : Int) + (n : Int) = ((i + 1 + n : Nat) : Int) by omega]
    unfold cutV
    rw [HT.sIx_nat,HT.sIx_nat,List.length_map,Nat.min_eq_left hn,Nat.min_eq_left (show i + 1 <= ns.length by omega),Nat.add_sub_cancel_left,<- List.map_drop,<- List.map_take]
  refine ⟨_,rfl,tp,_,dx,_,_,rfl,h1.ob,T.cl_Tape,T.na_Tape_numbers,rfl,_,rfl,tp,_,dx,_,_,rfl,h1.ob,T.cl_Tape,T.na_Tape_at,rfl,_,rfl,_,rfl,tp,_,dx,_,_,rfl,h1.ob,T.cl_Tape,T.na_Tape_at,rfl,_,rfl,_,_,rfl,rfl,_,rfl,q,_,rfl,h1.ls,fun l hl => ?_⟩
  rw [cut]
  have s2 := same_new (o := .lst (((ns.drop (i + 1)).take n).map V.int)) hl
  have h2 := h1.same s2
  have l2 : upd H1 l (.lst (((ns.drop (i + 1)).take n).map V.int)) l = some (.lst (((ns.drop (i + 1)).take n).map V.int)) := upd_same
  have lt : l ≠ tp := Ne.symm (ne_of_none h1.ob hl)
  generalize upd H1 l (.lst (((ns.drop (i + 1)).take n).map V.int)) = H2 at s2 h2 l2
  refine ⟨_,rfl,tp,_,dx,_,_,rfl,h2.ob,T.cl_Tape,T.na_Tape_at,rfl,_,rfl,_,_,rfl,rfl,dx,_,h2.ob,(show 2 < 1000 by decide),?_⟩
  refine ⟨_,rfl,?_⟩
  have hl0 : H l = none := by
    cases e : H l with
    | none => rfl
    | some o =>
      have := f1 l o e lt
      rw [hl] at this
      cases this
  refine k _ l ?_ ((upd_ne lt).trans l2) hl0 fun b o e n1 => by rw [upd_ne n1]; exact s2 _ _ (f1 b o e n1)
  have := h2.set (i + 1 + n)
  rw [show ((i + 1 + n : Nat) : Int) = ((i + 1 : Nat) : Int) + (n : Int) by omega] at this
  exact this
end
end Ft
end

section
namespace Ft
open PySem PySem.Spec PyProof.Rows L2
open Sy10Neutral (nats)
structure RowN (ns : List Int) (j n : Nat) (x : List Int) : Prop where
  len : ns[j]? = some (n : Int)
  fit : j + 1 + n <= ns.length
  row : (ns.drop (j + 1)).take n = x
theorem row_at {ns : List Int} {j : Nat} {x s : List Int} (h : PyFlat.row (ns.drop j) = some (x,s)) : ∃ n,RowN ns j n x /\ s = ns.drop (j + 1 + n) := by
  match e : ns.drop j,h with
  | z :: r,h =>
    have hj : j < ns.length := by
      rcases Nat.lt_or_ge j ns.length with q | q
      · exact q
      · rw [List.drop_of_length_le q] at e; cases e
    have e2 := List.drop_eq_getElem_cons hj
    rw [e] at e2
    injection e2 with e3 e4
    unfold PyFlat.row at h
    dsimp only at h
    by_cases c : 0 <= z /\ z.toNat <= r.length
    · rw [if_pos c] at h
      injection h with h
      injection h with h1 h2
      refine ⟨z.toNat,⟨?_,?_,?_⟩,?_⟩
      · rw [List.getElem?_eq_getElem hj,<- e3,Int.toNat_of_nonneg c.1]
      · have := c.2
        rw [e4,List.length_drop] at this
        omega
      · rw [<- e4]; exact h1
      · rw [<- h2,e4,List.drop_drop]
    · rw [if_neg c] at h
      cases h
inductive CallAt (ns : List Int) (i : Nat) : List (List Int) -> Nat -> Prop where
  | c0 (h : ns[i]? = some 0) : CallAt ns i [[0]] (i + 1)
  | c1 {n1 n2 : Nat} {x y : List Int} (h : ns[i]? = some 1) (h1 : RowN ns (i + 1) n1 x) (h2 : RowN ns (i + 2 + n1) n2 y) : CallAt ns i [[1],x,y] (i + 3 + n1 + n2)
  | c2 {n : Nat} {a b : Int} {x : List Int} (h : ns[i]? = some 2) (ha : ns[i + 1]? = some a) (hb : ns[i + 2]? = some b) (h1 : RowN ns (i + 3) n x) : CallAt ns i [[2,a,b],x] (i + 4 + n)
  | c3 {n1 n2 : Nat} {x y : List Int} (h : ns[i]? = some 3) (h1 : RowN ns (i + 1) n1 x) (h2 : RowN ns (i + 2 + n1) n2 y) : CallAt ns i [[3],x,y] (i + 3 + n1 + n2)
  | c4 {n : Nat} {a : Int} {x : List Int} (h : ns[i]? = some 4) (ha : ns[i + 1]? = some a) (h1 : RowN ns (i + 2) n x) : CallAt ns i [[4,a],x] (i + 3 + n)
  | c5 {n : Nat} {a : Int} {x : List Int} (h : ns[i]? = some 5) (ha : ns[i + 1]? = some a) (h1 : RowN ns (i + 2) n x) : CallAt ns i [[5,a],x] (i + 3 + n)
theorem rows1 {l : List Int} {xs : List (List Int)} {t : List Int} (h : PyFlat.rows 1 l = some (xs,t)) : ∃ x,xs = [x] /\ PyFlat.row l = some (x,t) := by
  unfold PyFlat.rows at h
  cases e : PyFlat.row l with
  | none => rw [e] at h; cases h
  | some p =>
    obtain ⟨x,s⟩ := p
    rw [e] at h
    have h' : some ([x],s) = some (xs,t) := h
    cases h'
    exact ⟨x,rfl,rfl⟩
theorem rows2 {l : List Int} {xs : List (List Int)} {t : List Int} (h : PyFlat.rows 2 l = some (xs,t)) : ∃ x y s,xs = [x,y] /\ PyFlat.row l = some (x,s) /\ PyFlat.row s = some (y,t) := by
  unfold PyFlat.rows at h
  cases e : PyFlat.row l with
  | none => rw [e] at h; cases h
  | some p =>
    obtain ⟨x,s⟩ := p
    rw [e] at h
    dsimp only at h
    cases e2 : PyFlat.rows 1 s with
    | none => rw [e2] at h; cases h
    | some q =>
      obtain ⟨ys,u⟩ := q
      rw [e2] at h
      cases h
      obtain ⟨y,rfl,e3⟩ := rows1 e2
      exact ⟨x,y,s,rfl,rfl,e3⟩
theorem take1 {α : Type} {l : List α} {a : α} {k : Nat} (h : ¬ (l.drop k).length < 1) (e : l[k]? = some a) : (l.drop k).take 1 = [a] := by
  have hk : k < l.length := by rw [List.length_drop] at h; omega
  rw [List.drop_eq_getElem_cons hk]
  rw [List.getElem?_eq_getElem hk] at e
  cases e
  rfl
theorem call_at {ns : List Int} {i : Nat} {c : List (List Int)} {t : List Int} (h : PyFlat.call PySy10.shape (ns.drop i) = some (c,t)) : ∃ j,CallAt ns i c j /\ t = ns.drop j /\ i < j /\ j <= ns.length := by
  match e : ns.drop i,h with
  | p :: r,h =>
    have hi : i < ns.length := by
      rcases Nat.lt_or_ge i ns.length with q | q
      · exact q
      · rw [List.drop_of_length_le q] at e; cases e
    have e2 := List.drop_eq_getElem_cons hi
    rw [e] at e2
    injection e2 with e3 e4
    have g : ns[i]? = some p := by rw [List.getElem?_eq_getElem hi,e3]
    subst e4
    unfold PyFlat.call at h
    dsimp only at h
    cases hs : PySy10.shape p with
    | none => rw [hs] at h; cases h
    | some nk =>
      obtain ⟨n,k⟩ := nk
      rw [hs] at h
      dsimp only at h
      by_cases hl : (ns.drop (i + 1)).length < n
      · rw [if_pos hl] at h; cases h
      rw [if_neg hl,List.drop_drop] at h
      cases hr : PyFlat.rows k (ns.drop (i + 1 + n)) with
      | none => rw [hr] at h; cases h
      | some q =>
        obtain ⟨xs,t'⟩ := q
        rw [hr] at h
        dsimp only at h
        cases h
        have one : ∀ k,¬ (ns.drop k).length < 1 -> ∃ a,ns[k]? = some a := fun k hk => by
          rw [List.length_drop] at hk
          exact ⟨_,List.getElem?_eq_getElem (by omega)⟩
        unfold PySy10.shape at hs
        by_cases p0 : p = 0
        · subst p0
          rw [if_pos rfl] at hs
          cases hs
          cases hr
          exact ⟨i + 1,.c0 g,rfl,by omega,by omega⟩
        rw [if_neg p0] at hs
        by_cases p1 : p = 1
        · subst p1
          rw [if_pos rfl] at hs
          cases hs
          obtain ⟨x,y,s,rfl,r1,r2⟩ := rows2 hr
          obtain ⟨n1,q1,rfl⟩ := row_at r1
          obtain ⟨n2,q2,rfl⟩ := row_at r2
          rw [show i + 1 + 0 + 1 + n1 = i + 2 + n1 by omega] at q2
          refine ⟨i + 3 + n1 + n2,.c1 g q1 q2,by rw [show i + 1 + 0 + 1 + n1 + 1 + n2 = i + 3 + n1 + n2 by omega],by omega,?_⟩
          have := q2.fit
          omega
        rw [if_neg p1] at hs
        by_cases p2 : p = 2
        · subst p2
          rw [if_pos rfl] at hs
          cases hs
          obtain ⟨x,rfl,r1⟩ := rows1 hr
          obtain ⟨n1,q1,rfl⟩ := row_at r1
          rw [List.length_drop] at hl
          have ha := List.getElem?_eq_getElem (show i + 1 < ns.length by omega)
          have hb := List.getElem?_eq_getElem (show i + 2 < ns.length by omega)
          have et : (ns.drop (i + 1)).take 2 = [ns[i + 1]'(by omega),ns[i + 2]'(by omega)] := by
            rw [List.drop_eq_getElem_cons (show i + 1 < ns.length by omega),List.drop_eq_getElem_cons (show i + 1 + 1 < ns.length by omega)]
            rfl
          rw [et]
          rw [show i + 1 + 2 = i + 3 by omega] at q1
          refine ⟨i + 4 + n1,.c2 g ha hb q1,by rw [show i + 1 + 2 + 1 + n1 = i + 4 + n1 by omega],by omega,?_⟩
          have := q1.fit
          omega
        rw [if_neg p2] at hs
        by_cases p3 : p = 3
        · subst p3
          rw [if_pos rfl] at hs
          cases hs
          obtain ⟨x,y,s,rfl,r1,r2⟩ := rows2 hr
          obtain ⟨n1,q1,rfl⟩ := row_at r1
          obtain ⟨n2,q2,rfl⟩ := row_at r2
          rw [show i + 1 + 0 + 1 + n1 = i + 2 + n1 by omega] at q2
          refine ⟨i + 3 + n1 + n2,.c3 g q1 q2,by rw [show i + 1 + 0 + 1 + n1 + 1 + n2 = i + 3 + n1 + n2 by omega],by omega,?_⟩
          have := q2.fit
          omega
        rw [if_neg p3] at hs
        by_cases p4 : p = 4
        · subst p4
          rw [if_pos rfl] at hs
          cases hs
          obtain ⟨x,rfl,r1⟩ := rows1 hr
          obtain ⟨n1,q1,rfl⟩ := row_at r1
          obtain ⟨v,hv⟩ := one _ hl
          rw [take1 hl hv]
          rw [show i + 1 + 1 = i + 2 by omega] at q1
          refine ⟨i + 3 + n1,.c4 g hv q1,by rw [show i + 1 + 1 + 1 + n1 = i + 3 + n1 by omega],by omega,?_⟩
          have := q1.fit
          omega
        rw [if_neg p4] at hs
        by_cases p5 : p = 5
        · subst p5
          rw [if_pos rfl] at hs
          cases hs
          obtain ⟨x,rfl,r1⟩ := rows1 hr
          obtain ⟨n1,q1,rfl⟩ := row_at r1
          obtain ⟨v,hv⟩ := one _ hl
          rw [take1 hl hv]
          rw [show i + 1 + 1 = i + 2 by omega] at q1
          refine ⟨i + 3 + n1,.c5 g hv q1,by rw [show i + 1 + 1 + 1 + n1 = i + 3 + n1 by omega],by omega,?_⟩
          have := q1.fit
          omega
        rw [if_neg p5] at hs
        cases hs
noncomputable def callsF (ns : List Int) (i : Nat) (cs : List (List (List Int))) : Prop := ∃ f,PyFlat.calls PySy10.shape f (ns.drop i) = some cs
theorem callsF_end {ns : List Int} {i : Nat} {cs : List (List (List Int))} (h : callsF ns i cs) (hi : ns.length <= i) : cs = [] := by
  obtain ⟨f,h⟩ := h
  rw [List.drop_of_length_le hi] at h
  cases f <;> exact (Option.some.inj h).symm
theorem callsF_next {ns : List Int} {i : Nat} {cs : List (List (List Int))} (h : callsF ns i cs) (hi : i < ns.length) : ∃ c cs' j,cs = c :: cs' /\ CallAt ns i c j /\ i < j /\ j <= ns.length /\ callsF ns j cs' := by
  obtain ⟨f,h⟩ := h
  have hdr := List.drop_eq_getElem_cons hi
  generalize ns[i] = p at hdr
  rw [hdr] at h
  cases f with
  | zero => cases h
  | succ f =>
    unfold PyFlat.calls at h
    rw [<- hdr] at h
    cases e : PyFlat.call PySy10.shape (ns.drop i) with
    | none => rw [e] at h; cases h
    | some q =>
      obtain ⟨c,t⟩ := q
      rw [e] at h
      dsimp only at h
      cases e2 : PyFlat.calls PySy10.shape f t with
      | none => rw [e2] at h; cases h
      | some cs' =>
        rw [e2] at h
        cases h
        obtain ⟨j,q1,rfl,q2,q3⟩ := call_at e
        exact ⟨c,cs',j,rfl,q1,q2,q3,f,e2⟩
theorem whole_call {ns : List Int} {i j : Nat} {c : List (List Int)} (h : CallAt ns i c j) : PySy10.whole c = c := by cases h <;> rfl
theorem callsF_whole {ns : List Int} : ∀ (n i : Nat) {cs : List (List (List Int))},ns.length - i <= n -> callsF ns i cs -> cs.map PySy10.whole = cs
  | n,i,cs,hn,h => by
    by_cases hi : i < ns.length
    · obtain ⟨c,cs',j,rfl,ca,h1,h2,h3⟩ := callsF_next h hi
      match n,hn with
      | 0,hn => exact absurd hn (by omega)
      | n + 1,hn => rw [List.map_cons,whole_call ca,callsF_whole n j (by omega) h3]
    · rw [callsF_end h (Nat.le_of_not_lt hi)]
      rfl
theorem calls_eq (l : List Int) : PySy10.calls l = PyFlat.calls PySy10.shape l.length l := by
  unfold PySy10.calls
  cases e : PyFlat.calls PySy10.shape l.length l with
  | none => rfl
  | some cs =>
    show some (cs.map PySy10.whole) = some cs
    rw [callsF_whole l.length 0 (Nat.le_refl _) ⟨l.length,e⟩]
theorem nat_of {z : Int} {k : Nat} (h : Sy10Neutral.natural z k = true) : ((z.toNat : Nat) : Int) = z := by
  unfold Sy10Neutral.natural at h
  simp only [Bool.and_eq_true,decide_eq_true_eq] at h
  omega
theorem bytes_of {x : List Int} (h : x.all (fun z => Sy10Neutral.natural z 8) = true) : x.map V.int = byV (nats x) := by
  unfold byV nats
  rw [List.map_map]
  refine List.map_congr_left fun z hz => ?_
  have := List.all_eq_true.mp h z hz
  show V.int z = V.int ((z.toNat : Nat) : Int)
  rw [nat_of this]
theorem nats_len (x : List Int) : (nats x).length = x.length := List.length_map ..
theorem textOf_eq (t : List Int) : Sy10Neutral.textOf t = textO (nats t) := by
  unfold Sy10Neutral.textOf textO
  rw [nats_len]
theorem nameOf_eq (t : List Int) : Sy10Neutral.nameOf t = nameO (nats t) := by
  unfold Sy10Neutral.nameOf nameO
  rw [nats_len]
noncomputable def callC : List (List Int) -> Sy10.Call
  | [[1],x,t] => .define (nameO (nats x)) (textO (nats t))
  | [[2,s,m],t] => .normal (textO (nats t)) s.toNat m.toNat
  | [[3],x,y] => .same (textO (nats x)) (textO (nats y))
  | [[4,s],t] => .number (textO (nats t)) s.toNat
  | [[5,m],t] => .names (textO (nats t)) m.toNat
  | _ => .define none none
noncomputable def outC (d : Sy10.Defs) (c : List (List Int)) : Sy10.Ans × Sy10.Defs := if c = [[0]] then (⟨0,[],none⟩,[]) else Sy10.spec d (callC c)
theorem step_eq {ns : List Int} {i j : Nat} {c : List (List Int)} (h : CallAt ns i c j) (d : Sy10.Defs) : Sy10Neutral.step d c = ((outC d c).2,ansOf (outC d c).1) := by
  cases h with
  | c0 _ => rfl
  | @c1 _ _ x y _ _ _ =>
    show (if _ then _ else _) = _
    rw [if_neg (by simp)]
    unfold outC
    rw [if_neg (by simp)]
    show ((Sy10.spec d (.define (Sy10Neutral.nameOf x) (Sy10Neutral.textOf y))).2,ansOf (Sy10.spec d (.define (Sy10Neutral.nameOf x) (Sy10Neutral.textOf y))).1) = _
    rw [nameOf_eq,textOf_eq]
    rfl
  | @c2 _ u v x _ _ _ _ =>
    show (if _ then _ else _) = _
    rw [if_neg (by simp)]
    unfold outC
    rw [if_neg (by simp)]
    show ((Sy10.spec d (.normal (Sy10Neutral.textOf x) u.toNat v.toNat)).2,ansOf (Sy10.spec d (.normal (Sy10Neutral.textOf x) u.toNat v.toNat)).1) = _
    rw [textOf_eq]
    rfl
  | @c3 _ _ x y _ _ _ =>
    show (if _ then _ else _) = _
    rw [if_neg (by simp)]
    unfold outC
    rw [if_neg (by simp)]
    show ((Sy10.spec d (.same (Sy10Neutral.textOf x) (Sy10Neutral.textOf y))).2,ansOf (Sy10.spec d (.same (Sy10Neutral.textOf x) (Sy10Neutral.textOf y))).1) = _
    rw [textOf_eq,textOf_eq]
    rfl
  | @c4 _ u x _ _ _ =>
    show (if _ then _ else _) = _
    rw [if_neg (by simp)]
    unfold outC
    rw [if_neg (by simp)]
    show ((Sy10.spec d (.number (Sy10Neutral.textOf x) u.toNat)).2,ansOf (Sy10.spec d (.number (Sy10Neutral.textOf x) u.toNat)).1) = _
    rw [textOf_eq]
    rfl
  | @c5 _ u x _ _ _ =>
    show (if _ then _ else _) = _
    rw [if_neg (by simp)]
    unfold outC
    rw [if_neg (by simp)]
    show ((Sy10.spec d (.names (Sy10Neutral.textOf x) u.toNat)).2,ansOf (Sy10.spec d (.names (Sy10Neutral.textOf x) u.toNat)).1) = _
    rw [textOf_eq]
    rfl
end Ft
end

section
namespace Ft
open PySem PySem.Spec PyProof.Rows L2
open Sy10Neutral (nats)
theorem mach_len {d : Sy10.Defs} (hd : DefsOk d) : ∀ (k : Nat) {R : List Rw} {l : List Ptk} {t : Sy10.T},wfR R -> mach d k R l = some t -> t.frees.length <= (frR R).length + l.length
  | k,R,[],t,h,e => by
    have e' : endT R = some t := by cases k <;> exact e
    rw [(endT_ok h e').1]
    exact Nat.le_add_right _ _
  | 0,_,_ :: _,_,_,e => by cases e
  | k + 1,R,p :: l,t,h,e => by
    unfold mach at e
    cases q : stepP d R (p :: l) with
    | none => rw [q] at e; cases e
    | some z =>
      obtain ⟨R',r⟩ := z
      rw [q] at e
      have sl := stepP_len q
      obtain ⟨w',_,fr⟩ := stepP_ok hd h q
      have := mach_len hd k w' (show mach d k R' r = some t from e)
      rcases fr with fr | ⟨x,_,fr⟩
      · rw [fr] at this; simp only [List.length_cons] at sl ⊢; omega
      · rw [fr,List.length_append,List.length_cons,List.length_nil] at this; simp only [List.length_cons] at sl ⊢; omega
theorem readM_len {d : Sy10.Defs} (hd : DefsOk d) {b : List Nat} {t : Sy10.T} (e : readM d b = some t) : t.frees.length <= b.length := by
  unfold readM at e
  cases q : ptok (b.length + 1) b with
  | none => rw [q] at e; cases e
  | some l =>
    rw [q] at e
    have := mach_len hd _ wfR_start e
    have := ptok_len _ _ _ q
    simp only [frR,accF,List.append_nil,List.length_nil] at *
    omega
theorem with_nil : ∀ t : Sy10.T,t.with_ [] = t
  | .own _ => rfl
  | .free _ => rfl
  | .fn t => by show Sy10.T.fn (t.with_ []) = _; rw [with_nil t]
  | .app a b => by show Sy10.T.app (a.with_ []) (b.with_ []) = _; rw [with_nil a,with_nil b]
theorem readPlain_eq (b : List Nat) : Sy10.readPlain b = readM [] b := by
  rw [readM_read]
  unfold Sy10.read
  cases Sy10.readPlain b with
  | none => rfl
  | some t => show some t = some (t.with_ []); rw [with_nil]
theorem flat_len : ∀ {l : List (List Nat)},(∀ x ∈ l,x.length <= 8) -> (l.flatMap fun y => 32 :: y).length <= 9 * l.length
  | [],_ => Nat.le_refl _
  | x :: l,h => by
    have := flat_len (l := l) fun y hy => h y (List.mem_cons_of_mem _ hy)
    have := h x (List.mem_cons_self ..)
    rw [List.flatMap_cons,List.length_append,List.length_cons,List.length_cons]
    omega
theorem joined_len {l : List (List Nat)} (h : ∀ x ∈ l,x.length <= 8) : (Sy10.joined l).length <= 9 * l.length := by
  cases l with
  | nil => exact Nat.le_refl _
  | cons x l =>
    have := flat_len (l := l) fun y hy => h y (List.mem_cons_of_mem _ hy)
    have := h x (List.mem_cons_self ..)
    show (x ++ l.flatMap fun y => 32 :: y).length <= _
    rw [List.length_append,List.length_cons]
    omega
theorem names_len {b : List Nat} {t : Sy10.T} {f : List Nat -> Bool} (hb : ¬ 2048 < b.length) (e : Sy10.readPlain b = some t) : (Sy10.joined (Sy10.once (t.frees.filter f))).length <= 18432 := by
  rw [readPlain_eq] at e
  have ok := Dfs.nil.ok
  have h1 := readM_len ok e
  have h2 := (readM_ok ok e).2
  have h3 := once_len (t.frees.filter f)
  have h4 : (t.frees.filter f).length <= t.frees.length := List.length_filter_le ..
  have := joined_len (l := Sy10.once (t.frees.filter f)) fun x hx => h2 x ((List.mem_filter.mp (mem_once.mp hx)).1)
  omega
theorem spec_define {d : Sy10.Defs} (hd : Dfs d) (x b : List Nat) : (Sy10.spec d (.define (nameO x) (textO b))).1.out = [] /\ Dfs (Sy10.spec d (.define (nameO x) (textO b))).2 := by
  by_cases h : Sy10.isName x = false \/ 2048 < b.length
  · rw [def_bad h]; exact ⟨rfl,hd⟩
  · have h1 : Sy10.isName x = true := by cases e : Sy10.isName x; exact absurd (.inl e) h; rfl
    rw [def_good h1 (fun z => h (.inr z))]
    cases e : readM d b with
    | none => exact ⟨rfl,hd⟩
    | some t =>
      dsimp only
      by_cases c1 : t.frees = []
      · rw [if_neg (fun z => z c1)]
        by_cases c2 : Sy10.DEFINED < t.size
        · rw [if_pos c2]; exact ⟨rfl,hd⟩
        rw [if_neg c2]
        by_cases c3 : (Sy10.lookup d x).isNone = true /\ Sy10.NAMED <= d.length
        · rw [if_pos c3]; exact ⟨rfl,hd⟩
        rw [if_neg c3]
        exact ⟨rfl,hd.put c1 (readM_ok hd.ok e).1 c3⟩
      · rw [if_pos c1]; exact ⟨rfl,hd⟩
end Ft
end

section
namespace Ft
open PySem PySem.Spec PyProof.Rows L2
theorem same_bad {d : Sy10.Defs} {x y : List Nat} (h : 2048 < x.length \/ 2048 < y.length) : Sy10.spec d (.same (textO x) (textO y)) = (Sy10.only (-1),d) := by
  unfold textO
  by_cases h1 : 2048 < x.length
  · rw [if_pos h1]; rfl
  · rw [if_neg h1,if_pos (h.resolve_left h1)]; rfl
theorem same_good {d : Sy10.Defs} {x y : List Nat} (h1 : ¬ 2048 < x.length) (h2 : ¬ 2048 < y.length) : Sy10.spec d (.same (textO x) (textO y)) = (match readM d x,readM d y with
    | some t,some u => if Sy10.MOST < t.size \/ Sy10.MOST < u.size then (Sy10.only (-5),d) else (Sy10.only (if t = u then 1 else 0),d)
    | _,_ => (Sy10.only (-2),d)) := by
  unfold textO
  rw [if_neg h1,if_neg h2,readM_read,readM_read]
  rfl
theorem ofT_inj {t u : Sy10.T} (h : ofT t = ofT u) : t = u := by
  have := congrArg (fun n => N.cl 0 0 n) h
  simp only [ofT_cl] at this
  exact this
theorem names_bad {d : Sy10.Defs} {b : List Nat} {m : Nat} (h : 2048 < b.length) : Sy10.spec d (.names (textO b) m) = (Sy10.only (-1),d) := by
  unfold textO
  rw [if_pos h]
  rfl
theorem names_none {d : Sy10.Defs} {b : List Nat} {m : Nat} (h : ¬ 2048 < b.length) (e : readM d b = none) : Sy10.spec d (.names (textO b) m) = (Sy10.only (-2),d) := by
  unfold textO
  rw [if_neg h]
  rw [readM_read] at e
  unfold Sy10.read at e
  show (match Sy10.readPlain b with | none => _ | some t => _) = _
  cases q : Sy10.readPlain b with
  | none => rfl
  | some t => rw [q] at e; cases e
theorem names_some {d : Sy10.Defs} (hd : DefsOk d) {b : List Nat} {m : Nat} {t : Sy10.T} (h : ¬ 2048 < b.length) (e : readM d b = some t) : Sy10.spec d (.names (textO b) m) =
    (if m < (Sy10.joined (Sy10.once t.frees)).length then (Sy10.only (-6),d) else (⟨(Sy10.joined (Sy10.once t.frees)).length,Sy10.joined (Sy10.once t.frees),none⟩,d)) /\ (Sy10.joined (Sy10.once t.frees)).length <= 18432 := by
  unfold textO
  rw [if_neg h]
  rw [readM_read] at e
  unfold Sy10.read at e
  cases q : Sy10.readPlain b with
  | none => rw [q] at e; cases e
  | some t0 =>
    rw [q] at e
    have e' : t0.with_ d = t := Option.some.inj e
    have fr : t.frees = t0.frees.filter fun x => (Sy10.lookup d x).isNone := by rw [<- e',frees_with hd]
    refine ⟨?_,by rw [fr]; exact names_len h q⟩
    show (match Sy10.readPlain b with | none => _ | some t => _) = _
    rw [q,fr]
theorem keys_names {H : Hp} : ∀ {uk : List (List Key × V)} {qs : List V} {xs : List (List Nat)},Paired (fun (p : List Key × V) (v : V) => ∃ q,v = .ref q /\ H q = some (.tup (p.1.map kV))) uk qs -> uk.map (·.1) = xs.map ky -> Paired (NameAt H) qs xs
  | [],_,[],.nil,_ => .nil
  | [],_,_ :: _,_,h => by cases h
  | _ :: _,_,[],_,h => by cases h
  | p :: uk,_,x :: xs,.cons r t,h => by
    rw [List.map_cons,List.map_cons] at h
    injection h with h1 h2
    obtain ⟨q,e,hq⟩ := r
    refine .cons ⟨q,e,?_⟩ (keys_names t h2)
    rw [hq,h1]
section
variable {P : Program} {w : World} {K : PySem.W.Frag} {mg : Str -> Option Value} {base : Heap} {a : Ad}
noncomputable def spSm (a : Ad) : Sp := fun vs H Q _ => ∃ (ln dx D : Addr) (d : Sy10.Defs) (r1 r2 : Addr) (x y : List Nat),vs = [.ref ln,.ref r1,.ref r2] /\ LnAt a H ln dx D d /\ Dfs d /\ H r1 = some (.lst (byV x)) /\ H r2 = some (.lst (byV y)) /\ x.length <= 100000 /\ y.length <= 100000 /\
  PostL a H ln dx D (Sy10.spec d (.same (textO x) (textO y))) Q
theorem ok_Line_same (T : Tx K mg a) : Gd P w K mg base CX0 9 a.f_Line_same ["self","a","b"] (spSm a) := by
  refine T.fn_Line_same.ok sc_Line_same (fun vs H Q E h => ?_) (fun cdv A outer s H vs Q E hr h => ?_)
  · obtain ⟨ln,dx,D,d,r1,r2,x,y,rfl,_⟩ := h
    rfl
  obtain ⟨ln,dx,D,d,r1,r2,x,y,rfl,h,hd,hx,hy,lx,ly,k⟩ := h
  refine ⟨_,pss_cons (ps_if (pt_cut (PW.pt (pw_or (pt_cmpR op_gt (pe_callB call_len_seq rfl T.b_len PySem.boot_len (pa_cons (pv 1) pa_nil)) (pe_k T.k_LONGEST_TEXT) (nomark _)) (pw_or1 (pt_cmpR op_gt (pe_callB call_len_seq rfl T.b_len PySem.boot_len (pa_cons (pv 2) pa_nil)) (pe_k T.k_LONGEST_TEXT) (nomark _))))))
      (pss_one (ps_ret (pe_lst (pa_cons (pe_k T.k_WRONG_FORM) pa_nil)))) pss_nil)
    (pss_cons (ps_try (C := a.c_NotATerm) (E1 := fun _ _ H' => Same H H' /\ (readM d x = none \/ readM d y = none)) rfl rfl T.ex_NotATerm rfl T.mg_NotATerm
      (fun pn W pass => pss_cons (ps_set (i := 3) sc_Line_same.nd rfl (Or.inl rfl) (pe_fldK K rfl (pe_callG (ok_read_text T) hr (by decide) rfl T.mg_read_text T.kp_read_text pass (pa_cons (pv 1) (pa_cons (pe_fldK K rfl (pv 0) rfl) pa_nil))) rfl))
        (pss_one (ps_set (i := 4) sc_Line_same.nd rfl (Or.inl rfl) (pe_fldK K rfl (pe_callG (ok_read_text T) hr (by decide) rfl T.mg_read_text T.kp_read_text pass (pa_cons (pv 2) (pa_cons (pe_fldK K rfl (pv 0) rfl) pa_nil))) rfl))))
      (fun pn ea => pss_one (ps_ret (pe_lst (pa_cons (pe_k T.k_NO_TERM) pa_nil)))))
    (pss_cons (ps_if (pt_cut (PW.pt (pw_or (pt_cmpR op_gt (pe_fld (pv 3) rfl) (pe_k T.k_MOST_SIZE) (nomark _)) (pw_or1 (pt_cmpR op_gt (pe_fld (pv 4) rfl) (pe_k T.k_MOST_SIZE) (nomark _))))))
      (pss_one (ps_ret (pe_lst (pa_cons (pe_k T.k_TOO_LARGE) pa_nil)))) pss_nil)
    (pss_one (ps_ret (pe_lst (pa_cons (pe_ifExp (pt_val (pe_callG (ok_are_same T) hr (by decide) rfl T.mg_are_same T.kp_are_same pass0 (pa_cons (pv 3) (pa_cons (pv 4) pa_nil)))) pe_int pe_int) pa_nil)))))),?_⟩
  have one : 1 <= sizeLine := by decide
  refine ⟨fun v H' => v = decide (2048 < x.length \/ 2048 < y.length) /\ H' = H,?_,?_⟩
  · refine ⟨_,rfl,r1,_,rfl,.inl (SqL.of hx),_,_,rfl,rfl,_,rfl,?_⟩
    rw [byV_length]
    refine ite2 (fun c => ?_) (fun c => ?_)
    · have c' : ((x.length : Nat) : Int) > 2048 := of_decide_eq_true c
      exact ⟨(decide_eq_true (.inl (by omega))).symm,rfl⟩
    · have c' : ¬ ((x.length : Nat) : Int) > 2048 := fun z => c (decide_eq_true z)
      refine ⟨_,rfl,r2,_,rfl,.inl (SqL.of hy),_,_,rfl,rfl,_,rfl,?_,rfl⟩
      rw [byV_length]
      exact decide_eq_decide.mpr ⟨fun z => .inr (by omega),fun z => by omega⟩
  rintro v H1 ⟨rfl,rfl⟩
  by_cases hl : 2048 < x.length \/ 2048 < y.length
  · rw [same_bad hl] at k
    rw [decide_eq_true hl]
    exact iteT ⟨one,fun l hl => k.small (Same.refl _) h hl rfl⟩
  rw [decide_eq_false hl]
  refine iteF ?_
  rw [same_good (fun z => hl (.inl z)) (fun z => hl (.inr z))] at k
  refine ⟨?_,fun σ' H' _ e => ?_⟩
  rotate_left
  · obtain ⟨s2,e2⟩ := e
    have k' : PostL a H1 ln dx D (Sy10.only (-2),d) Q := by
      rcases e2 with e2 | e2
      · rw [e2] at k; exact k
      · rw [e2] at k
        cases hx' : readM d x with
        | none => rw [hx'] at k; exact k
        | some t => rw [hx'] at k; exact k
    exact ⟨one,fun l hl => k'.small s2 h hl rfl⟩
  refine ⟨_,rfl,_,rfl,ln,_,dx,_,_,rfl,h.ob,T.cl_Line,T.na_Line_defined,rfl,?_⟩
  refine ⟨r1,D,x,d,rfl,hx,lx,h.df,hd.ok,fun z H2 s2 => ⟨s2,.inl z⟩,fun t ht H2 p dp q U uk s2 hp hq _ _ _ => ?_⟩
  refine ⟨p,_,dp,_,_,rfl,hp,T.cl_Reading,T.na_Reading_term,rfl,?_⟩
  have h2 := h.same s2
  refine ⟨_,rfl,_,rfl,ln,_,dx,_,_,rfl,h2.ob,T.cl_Line,T.na_Line_defined,rfl,?_⟩
  refine ⟨r2,D,y,d,rfl,s2 _ _ hy,ly,h2.df,hd.ok,fun z H3 s3 => ⟨s2.trans s3,.inr z⟩,fun u hu H3 p' dp' q' U' uk' s3 hp' hq' _ _ _ => ?_⟩
  refine ⟨p',_,dp',_,_,rfl,hp',T.cl_Reading,T.na_Reading_term,rfl,?_⟩
  have s13 := s2.trans s3
  have hq3 := hq.same s3
  rw [ht,hu] at k
  dsimp only at k
  obtain ⟨l1,f1,g1,d1,o1⟩ := hq3.obj
  obtain ⟨l2,f2,g2,d2,o2⟩ := hq'.obj
  refine ⟨fun v H' => v = decide (Sy10.MOST < t.size \/ Sy10.MOST < u.size) /\ H' = H3,?_,?_⟩
  · refine ⟨_,rfl,q,_,d1,_,_,rfl,o1,T.cl_Term,T.na_Term_size,rfl,_,_,rfl,rfl,_,rfl,?_⟩
    rw [ofT_size]
    refine ite2 (fun c => ?_) (fun c => ?_)
    · have c' : ((t.size : Nat) : Int) > 4096 := of_decide_eq_true c
      exact ⟨(decide_eq_true (.inl (show 4096 < t.size by omega))).symm,rfl⟩
    · have c' : ¬ ((t.size : Nat) : Int) > 4096 := fun z => c (decide_eq_true z)
      refine ⟨_,rfl,q',_,d2,_,_,rfl,o2,T.cl_Term,T.na_Term_size,rfl,_,_,rfl,rfl,_,rfl,?_,rfl⟩
      rw [ofT_size]
      refine decide_eq_decide.mpr ⟨fun z => .inr (show 4096 < u.size by omega),fun z => ?_⟩
      rcases z with z | z
      · have z' : 4096 < t.size := z
        omega
      · have z' : 4096 < u.size := z
        omega
  rintro v H4 ⟨rfl,rfl⟩
  by_cases hs : Sy10.MOST < t.size \/ Sy10.MOST < u.size
  · rw [if_pos hs] at k
    rw [decide_eq_true hs]
    exact iteT ⟨one,fun l hl => k.small s13 h hl rfl⟩
  rw [if_neg hs] at k
  rw [decide_eq_false hs]
  refine iteF ?_
  have st : t.size <= 4096 := Nat.le_of_not_lt fun z => hs (.inl z)
  refine ⟨_,rfl,_,rfl,q,q',ofT t,ofT u,rfl,hq3,hq',by rw [ofT_size]; omega,fun b H5 hb s5 => ⟨_,rfl,?_⟩⟩
  have s15 := s13.trans s5
  cases b with
  | true =>
    rw [if_pos (ofT_inj (hb.mp rfl))] at k
    exact iteT ⟨one,fun l hl => k.small s15 h hl rfl⟩
  | false =>
    rw [if_neg (fun z => nomatch (hb.mpr (by rw [z])))] at k
    exact iteF ⟨one,fun l hl => k.small s15 h hl rfl⟩
noncomputable def spNumb (a : Ad) : Sp := fun vs H Q _ => ∃ (ln dx D : Addr) (d : Sy10.Defs) (r : Addr) (n : Nat) (b : List Nat),vs = [.ref ln,.int n,.ref r] /\ LnAt a H ln dx D d /\ Dfs d /\ H r = some (.lst (byV b)) /\ b.length <= 100000 /\
  PostL a H ln dx D (Sy10.spec d (.number (textO b) n)) Q
theorem ok_Line_number (T : Tx K mg a) : Gd P w K mg base CX0 9 a.f_Line_number ["self","steps","text"] (spNumb a) := by
  refine T.fn_Line_number.ok sc_Line_number (fun vs H Q E h => ?_) (fun cdv A outer s H vs Q E hr h => ?_)
  · obtain ⟨ln,dx,D,d,r,n,b,rfl,_⟩ := h
    rfl
  obtain ⟨ln,dx,D,d,r,n,b,rfl,h,hd,hb,lb,k⟩ := h
  refine ⟨_,pss_cons (ps_if (pt_cmpR op_gt (pe_callB call_len_seq rfl T.b_len PySem.boot_len (pa_cons (pv 2) pa_nil)) (pe_k T.k_LONGEST_TEXT) (nomark _))
      (pss_one (ps_ret (pe_lst (pa_cons (pe_k T.k_WRONG_FORM) pa_nil)))) pss_nil)
    (pss_cons (ps_try (C := a.c_NotATerm) (E1 := fun _ _ H' => Same H H' /\ readM d b = none) rfl rfl T.ex_NotATerm rfl T.mg_NotATerm
      (fun pn W pass => pss_one (ps_set (i := 3) sc_Line_number.nd rfl (Or.inl rfl) (pe_callG (ok_read_text T) hr (by decide) rfl T.mg_read_text T.kp_read_text pass (pa_cons (pv 2) (pa_cons (pe_fldK K rfl (pv 0) rfl) pa_nil)))))
      (fun pn ea => pss_one (ps_ret (pe_lst (pa_cons (pe_k T.k_NO_TERM) pa_nil)))))
    (pss_cons (ps_set (i := 4) sc_Line_number.nd rfl (Or.inl rfl) (pe_callG (ok_work_out T) hr (by decide) rfl T.mg_work_out T.kp_work_out pass0 (pa_cons (pe_fld (pv 3) rfl) (pa_cons (pv 1) pa_nil))))
    (pss_cons (ps_set (i := 5) sc_Line_number.nd rfl (Or.inl rfl) (pe_callG (ok_refusal_of T) hr (by decide) rfl T.mg_refusal_of T.kp_refusal_of pass0 (pa_cons (pv 4) pa_nil)))
    (pss_cons (ps_if (pt_cmpR op_notN (pv 5) pe_non (nomark _))
      (pss_one (ps_ret (pe_lst (pa_cons (pv 5) pa_nil)))) pss_nil)
    (pss_cons (ps_set (i := 6) sc_Line_number.nd rfl (Or.inl rfl) (pe_callG (ok_number_of T) hr (by decide) rfl T.mg_number_of T.kp_number_of pass0 (pa_cons (pe_fld (pv 4) rfl) pa_nil)))
    (pss_one (ps_ret (pe_lst (pa_cons (pe_ifExp (pt_cmpR op_isN (pv 6) pe_non (nomark _)) (pe_k T.k_NO_NUMBER) (pv 6)) pa_nil))))))))),?_⟩
  have one : 1 <= sizeLine := by decide
  have es : Sy10.spec d (.number (textO b) n) = (if (Sy10.comes d (textO b) n).1 ≠ 0 then (Sy10.only (Sy10.comes d (textO b) n).1,d) else (match (Sy10.comes d (textO b) n).2.2.number with
      | some n => (Sy10.only n,d)
      | none => (Sy10.only (-8),d))) := rfl
  refine ⟨_,rfl,r,_,rfl,.inl (SqL.of hb),_,_,rfl,rfl,_,rfl,?_⟩
  rw [byV_length]
  by_cases hl : 2048 < b.length
  · refine ite2 (fun _ => ?_) (fun z => absurd (decide_eq_true (show ((b.length : Nat) : Int) > 2048 by omega)) z)
    rw [comes_none hl,if_pos (show (-1 : Int) ≠ 0 by decide)] at es
    rw [es] at k
    exact ⟨one,fun l hl => k.small (Same.refl _) h hl rfl⟩
  refine ite2 (fun z => absurd (of_decide_eq_true z) (show ¬ ((b.length : Nat) : Int) > 2048 by omega)) (fun _ => ?_)
  refine ⟨?_,fun σ' H' _ e => ?_⟩
  rotate_left
  · obtain ⟨s2,e2⟩ := e
    rw [comes_bad hl e2,if_pos (show (-2 : Int) ≠ 0 by decide)] at es
    rw [es] at k
    exact ⟨one,fun l hl => k.small s2 h hl rfl⟩
  refine ⟨_,rfl,_,rfl,ln,_,dx,_,_,rfl,h.ob,T.cl_Line,T.na_Line_defined,rfl,?_⟩
  refine ⟨r,D,b,d,rfl,hb,lb,h.df,hd.ok,fun z H2 s2 => ⟨s2,z⟩,fun t ht H2 p dp q U uk s2 hp hq hU hK _ => ?_⟩
  obtain ⟨hre,hfr⟩ := readM_ok hd.ok ht
  rw [comes_some (n := n) hl ht] at es
  refine ⟨_,rfl,p,_,dp,_,_,rfl,hp,T.cl_Reading,T.na_Reading_term,rfl,_,rfl,q,n,t,rfl,hq,hre,fun H3 wk dn s3 => ?_⟩
  generalize Sy10.T.go (min n Sy10.STEPS) t = g at es dn
  obtain ⟨gn,gt⟩ := g
  dsimp only at es
  obtain ⟨dw,ar,p',K',d',fin,W,hc⟩ := dn.ex
  obtain ⟨⟨pl,w1,w2⟩,_⟩ := W
  have s23 := s2.trans s3
  dsimp only at hc w1
  refine ⟨_,rfl,wk,dw,_,_,_,_,_,_,rfl,w1,?_⟩
  by_cases c1 : Sy10.MOST < gt.size
  · have c1' : 4096 < gt.size := c1
    rw [if_pos c1,if_pos (show (-5 : Int) ≠ 0 by decide)] at es
    rw [es] at k
    rw [show refV gt.size fin = .int (-5) from if_pos c1']
    refine ⟨_,rfl,rfl,_,rfl,ite2 (fun _ => ?_) (fun z => absurd (nn_int _) z)⟩
    exact ⟨_,rfl,one,fun l hl => k.small s23 h hl rfl⟩
  have c1' : ¬ 4096 < gt.size := c1
  rw [if_neg c1] at es
  rcases hc with z | ⟨rfl,_,he,hen,hst⟩ | ⟨rfl,_,hst⟩
  · exact absurd z c1
  · rw [if_pos hst,if_neg (fun z => z rfl)] at es
    rw [show refV gt.size true = .non from (if_neg c1').trans (if_pos rfl)]
    refine ⟨_,rfl,rfl,_,rfl,ite2 (fun z => absurd (nn_non.symm.trans z) (fun y => nomatch y)) (fun _ => ?_)⟩
    refine ⟨_,rfl,wk,_,dw,_,_,rfl,w1,T.cl_Work,T.na_Work_place,rfl,pl,p',rfl,w2,?_⟩
    rw [<- hen,num_en he] at es
    cases hm : numN p' with
    | none =>
      rw [hm] at es
      rw [es] at k
      refine ⟨_,rfl,rfl,_,rfl,ite2 (fun _ => ?_) (fun z => absurd (decide_eq_true rfl) z)⟩
      exact ⟨one,fun l hl => k.small s23 h hl rfl⟩
    | some j =>
      rw [hm] at es
      rw [es] at k
      refine ⟨_,rfl,rfl,_,rfl,ite2 (fun z => absurd (of_decide_eq_true z) (fun y => nomatch y)) (fun _ => ?_)⟩
      refine ⟨_,rfl,one,fun l hl => k.small s23 h hl ?_⟩
      show [V.int (j : Nat)] = (ansOf (Sy10.only (j : Nat))).map V.int
      unfold ansOf Sy10.only
      dsimp only
      rw [if_neg (by omega)]
      rfl
  · rw [if_neg hst,if_pos (show (-4 : Int) ≠ 0 by decide)] at es
    rw [es] at k
    rw [show refV gt.size false = .int (-4) from (if_neg c1').trans (if_neg (fun z => nomatch z))]
    refine ⟨_,rfl,rfl,_,rfl,ite2 (fun _ => ?_) (fun z => absurd (nn_int _) z)⟩
    exact ⟨_,rfl,one,fun l hl => k.small s23 h hl rfl⟩
noncomputable def spNames (a : Ad) : Sp := fun vs H Q _ => ∃ (ln dx D : Addr) (d : Sy10.Defs) (r : Addr) (m : Nat) (b : List Nat),vs = [.ref ln,.int m,.ref r] /\ LnAt a H ln dx D d /\ Dfs d /\ H r = some (.lst (byV b)) /\ b.length <= 100000 /\
  PostL a H ln dx D (Sy10.spec d (.names (textO b) m)) Q
theorem ok_Line_names (T : Tx K mg a) : Gd P w K mg base CX0 9 a.f_Line_names ["self","most","text"] (spNames a) := by
  refine T.fn_Line_names.ok sc_Line_names (fun vs H Q E h => ?_) (fun cdv A outer s H vs Q E hr h => ?_)
  · obtain ⟨ln,dx,D,d,r,m,b,rfl,_⟩ := h
    rfl
  obtain ⟨ln,dx,D,d,r,m,b,rfl,h,hd,hb,lb,k⟩ := h
  refine ⟨_,pss_cons (ps_if (pt_cmpR op_gt (pe_callB call_len_seq rfl T.b_len PySem.boot_len (pa_cons (pv 2) pa_nil)) (pe_k T.k_LONGEST_TEXT) (nomark _))
      (pss_one (ps_ret (pe_lst (pa_cons (pe_k T.k_WRONG_FORM) pa_nil)))) pss_nil)
    (pss_cons (ps_try (C := a.c_NotATerm) (E1 := fun _ _ H' => Same H H' /\ readM d b = none) rfl rfl T.ex_NotATerm rfl T.mg_NotATerm
      (fun pn W pass => pss_one (ps_set (i := 3) sc_Line_names.nd rfl (Or.inl rfl) (pe_callG (ok_read_text T) hr (by decide) rfl T.mg_read_text T.kp_read_text pass (pa_cons (pv 2) (pa_cons (pe_fldK K rfl (pv 0) rfl) pa_nil)))))
      (fun pn ea => pss_one (ps_ret (pe_lst (pa_cons (pe_k T.k_NO_TERM) pa_nil)))))
    (pss_cons (ps_set (i := 4) sc_Line_names.nd rfl (Or.inl rfl) (pe_callG (ok_write_names T) hr (by decide) rfl T.mg_write_names T.kp_write_names pass0 (pa_cons (pe_callTy (call_list_keysT rfl) rfl T.b_list (by decide +kernel) (pa_cons (pe_fld (pv 3) rfl) pa_nil)) pa_nil)))
    (pss_cons (ps_if (pt_cmpR op_gt (pe_callB call_len_seq rfl T.b_len PySem.boot_len (pa_cons (pv 4) pa_nil)) (pv 1) (nomark _))
      (pss_one (ps_ret (pe_lst (pa_cons (pe_k T.k_TOO_LONG) pa_nil)))) pss_nil)
    (pss_one (ps_ret (pe_op op_cat (pe_lst (pa_cons (pe_callB call_len_seq rfl T.b_len PySem.boot_len (pa_cons (pv 4) pa_nil)) pa_nil)) (pv 4))))))),?_⟩
  have one : 1 <= sizeLine := by decide
  refine ⟨_,rfl,r,_,rfl,.inl (SqL.of hb),_,_,rfl,rfl,_,rfl,?_⟩
  rw [byV_length]
  by_cases hl : 2048 < b.length
  · refine ite2 (fun _ => ?_) (fun z => absurd (decide_eq_true (show ((b.length : Nat) : Int) > 2048 by omega)) z)
    rw [names_bad hl] at k
    exact ⟨one,fun l hl => k.small (Same.refl _) h hl rfl⟩
  refine ite2 (fun z => absurd (of_decide_eq_true z) (show ¬ ((b.length : Nat) : Int) > 2048 by omega)) (fun _ => ?_)
  refine ⟨?_,fun σ' H' _ e => ?_⟩
  rotate_left
  · obtain ⟨s2,e2⟩ := e
    rw [names_none hl e2] at k
    exact ⟨one,fun l hl => k.small s2 h hl rfl⟩
  refine ⟨_,rfl,_,rfl,ln,_,dx,_,_,rfl,h.ob,T.cl_Line,T.na_Line_defined,rfl,?_⟩
  refine ⟨r,D,b,d,rfl,hb,lb,h.df,hd.ok,fun z H2 s2 => ⟨s2,z⟩,fun t ht H2 p dp q U uk s2 hp hq hU hK _ => ?_⟩
  have hne := readM_ne hd.ok ht
  obtain ⟨es,jl⟩ := names_some hd.ok (m := m) hl ht
  rw [es] at k
  refine ⟨_,rfl,p,_,dp,_,_,rfl,hp,T.cl_Reading,T.na_Reading_unknown,rfl,U,_,rfl,hU,fun l3 qs hl3 pr => ?_⟩
  have s3 := same_new (o := .lst qs) hl3
  have pr2 : Paired (NameAt (upd H2 l3 (.lst qs))) qs (Sy10.once t.frees) := paired_imp (fun v e z => NameAt.keep (C := a.c_Term) (.of s3) z) (keys_names pr hK)
  have ne2 : ∀ x ∈ Sy10.once t.frees,x ≠ [] := fun x hx => hne x (mem_once.mp hx)
  generalize Sy10.once t.frees = xs at pr2 ne2 jl k
  refine ⟨l3,qs,xs,rfl,upd_same,pr2,ne2,by omega,fun H4 l4 e4 s4 => ?_⟩
  have s24 := (s2.trans s3).trans s4
  refine ⟨_,rfl,l4,_,rfl,.inl (SqL.of e4),_,rfl,_,_,rfl,rfl,_,rfl,?_⟩
  rw [byV_length]
  generalize Sy10.joined xs = js at k jl e4
  by_cases c2 : m < js.length
  · rw [if_pos c2] at k
    refine ite2 (fun _ => ?_) (fun z => absurd (decide_eq_true (show ((js.length : Nat) : Int) > (m : Int) by omega)) z)
    exact ⟨one,fun l hl => k.small s24 h hl rfl⟩
  · rw [if_neg c2] at k
    refine ite2 (fun z => absurd (of_decide_eq_true z) (show ¬ ((js.length : Nat) : Int) > (m : Int) by omega)) (fun _ => ?_)
    refine ⟨_,rfl,l4,_,rfl,.inl (SqL.of e4),one,fun l hl => ?_⟩
    have s5 := same_new (o := .lst [.int ((byV js).length : Nat)]) hl
    refine ⟨_,rfl,l,l4,_,_,rfl,rfl,upd_same,s5 _ _ e4,?_,fun l6 hl6 => ?_⟩
    · rw [byV_length]
      exact Nat.le_trans (show 1 + js.length <= 100000 by omega) (by decide)
    · refine k.small (s24.trans s5) h hl6 ?_ (by rw [List.length_append,byV_length]; exact Nat.le_trans (show 1 + js.length <= 32770 by omega) (Nat.le_refl _))
      rw [byV_length]
      unfold ansOf byV
      dsimp only
      rw [if_neg (by omega),List.map_cons,List.map_append,List.map_map]
      rfl
end
end Ft
end

section
namespace Ft
open PySem PySem.Spec PyProof.Rows L2
open Sy10Neutral (nats)
section
variable {P : Program} {w : World} {K : PySem.W.Frag} {mg : Str -> Option Value} {base : Heap} {a : Ad}
noncomputable def spNext (K : PySem.W.Frag) (a : Ad) : Sp := fun vs H Q _ => ∃ (ln dx D : Addr) (d : Sy10.Defs) (tp dt q : Addr) (ns : List Int) (i j : Nat) (c : List (List Int)),vs = [.ref ln,.ref tp] /\ LnAt a H ln dx D d /\ Dfs d /\ TpAt K a H tp dt q ns i /\ CallAt ns i c j /\ Sy10Neutral.asked1 c = true /\
  ∀ (H' : Hp) (l D' : Addr),LnAt a H' ln dx D' (outC d c).2 -> TpAt K a H' tp dt q ns j -> H' l = some (.lst ((ansOf (outC d c).1).map V.int)) -> (ansOf (outC d c).1).length <= 32770 -> H l = none -> (∀ b o,H b = some o -> b ≠ ln -> b ≠ D -> b ≠ tp -> H' b = some o) -> Q (.ref l) H'
theorem outC_dfs {ns : List Int} {i j : Nat} {c : List (List Int)} (h : CallAt ns i c j) {d : Sy10.Defs} (hd : Dfs d) : Dfs (outC d c).2 := by
  have ite_d : ∀ {p : Prop} [Decidable p] {x y : Sy10.Ans × Sy10.Defs},x.2 = d -> y.2 = d -> (if p then x else y).2 = d := fun {p _ x y} h1 h2 => by split <;> assumption
  unfold outC
  cases h with
  | c0 _ => exact Dfs.nil
  | c1 _ _ _ =>
    rw [if_neg (by simp)]
    exact (spec_define hd _ _).2
  | @c2 n u v x _ _ _ _ =>
    rw [if_neg (by simp)]
    have : (Sy10.spec d (callC [[2,u,v],x])).2 = d := ite_d rfl (ite_d rfl rfl)
    rw [this]
    exact hd
  | @c3 n1 n2 x y _ _ _ =>
    rw [if_neg (by simp)]
    have : (Sy10.spec d (callC [[3],x,y])).2 = d := by
      show (Sy10.spec d (.same (textO (nats x)) (textO (nats y)))).2 = d
      cases textO (nats x) with
      | none => rfl
      | some u =>
        cases textO (nats y) with
        | none => rfl
        | some v =>
          show (match Sy10.read d u,Sy10.read d v with | some x,some y => _ | _,_ => _ : Sy10.Ans × Sy10.Defs).2 = d
          cases Sy10.read d u with
          | none => rfl
          | some _ =>
            cases Sy10.read d v with
            | none => rfl
            | some _ => exact ite_d rfl rfl
    rw [this]
    exact hd
  | @c4 n s x _ _ _ =>
    rw [if_neg (by simp)]
    have : (Sy10.spec d (callC [[4,s],x])).2 = d := by
      refine ite_d rfl ?_
      show (match (Sy10.comes d (textO (nats x)) s.toNat).2.2.number with | some n => _ | none => _ : Sy10.Ans × Sy10.Defs).2 = d
      cases (Sy10.comes d (textO (nats x)) s.toNat).2.2.number <;> rfl
    rw [this]
    exact hd
  | @c5 n m x _ _ _ =>
    rw [if_neg (by simp)]
    have : (Sy10.spec d (callC [[5,m],x])).2 = d := by
      show (Sy10.spec d (.names (textO (nats x)) m.toNat)).2 = d
      cases textO (nats x) with
      | none => rfl
      | some b =>
        show (match Sy10.readPlain b with | none => _ | some t => _ : Sy10.Ans × Sy10.Defs).2 = d
        cases Sy10.readPlain b with
        | none => rfl
        | some t => exact ite_d rfl rfl
    rw [this]
    exact hd
noncomputable def spAns (K : PySem.W.Frag) : Sp := fun vs H Q _ => ∃ (q : Addr) (ns : List Int),vs = [.ref q] /\ SqL K H q (ns.map V.int) /\ ns.length <= 30000 /\ PySy10.answers_asked ns = true /\ ∀ (H' : Hp) (p : Addr),H' p = some (.lst ((PySy10.answers ns).map V.int)) -> Q (.ref p) H'
theorem told_cons (x : List Int) (l : List (List Int)) : PyFlat.told (x :: l) = ((x.length : Int) :: x) ++ PyFlat.told l := rfl
theorem ne_Tape (T : Tx K mg a) : a.c_Tape ≠ a.c_Line := cls_ne T.mk_Tape T.mk_Line T.fn_Tape_init T.fn_Line_init (by decide +kernel)
theorem ok_answers (T : Tx K mg a) (hn : Gd P w K mg base CX0 20 a.f_answer_next ["line","tape"] (spNext K a)) {fd : FuncData} (F : Fun K "answers" "answers" s_answers a.f_answers fd) : FnOk P w K mg base CX0 60 a.f_answers fd ["calls"] (spAns K) := by
  refine F.ok sc_answers (fun vs H Q E h => ?_) (fun cdv A outer s H vs Q E hr h => ?_)
  · obtain ⟨q,ns,rfl,_⟩ := h
    rfl
  obtain ⟨q,ns,rfl,hq,hlen,hask,k⟩ := h
  refine ⟨_,pss_cons (ps_set (i := 1) sc_answers.nd rfl (Or.inl rfl) (pe_make0G T.mk_Line (ok_Line_init T) hr (by decide) rfl T.mg_Line pass0))
    (pss_cons (ps_set (i := 2) sc_answers.nd rfl (Or.inl rfl) (pe_makeG T.mk_Tape (ok_Tape_init T) hr (by decide) rfl T.mg_Tape pass0 (pa_cons (pv 0) pa_nil)))
    (pss_cons (ps_set (i := 3) sc_answers.nd rfl (Or.inl rfl) (pe_lst pa_nil))
    (pss_cons (ps_while PassesOwn.never (pt_val (pe_meth0G (pv 2) T.cl_Tape T.me_Tape_has_more (ok_Tape_has_more T) hr (by decide) pass0))
      (pss_cons (ps_set (i := 4) sc_answers.nd rfl (Or.inl rfl) (pe_callG hn hr (by decide) rfl T.mg_answer_next T.kp_answer_next pass0 (pa_cons (pv 1) (pa_cons (pv 2) pa_nil))))
      (pss_cons (ps_expr (pe_bm PySem.F.plainAttrs_list PySem.F.slot_list_append PySem.F.type_list_append mt_append (pv 3) (pa_cons (pe_callB call_len_seq rfl T.b_len PySem.boot_len (pa_cons (pv 4) pa_nil)) pa_nil)))
      (pss_one (ps_expr (pe_bm PySem.F.plainAttrs_list PySem.F.slot_list_extend PySem.F.type_list_extend mt_extend (pv 3) (pa_cons (pv 4) pa_nil)))))))
    (pss_one (ps_ret (pv 3)))))),?_⟩
  unfold PySy10.answers_asked at hask
  unfold PySy10.answers at k
  rw [calls_eq] at hask k
  cases hcs : PyFlat.calls PySy10.shape ns.length ns with
  | none => rw [hcs] at hask; cases hask
  | some cs =>
  rw [hcs] at hask k
  dsimp only at hask k
  rw [Bool.and_eq_true] at hask
  have few : cs.length <= 60 := of_decide_eq_true hask.1
  have ask1 : cs.all Sy10Neutral.asked1 = true := by
    have := hask.2
    unfold Sy10Neutral.asked at this
    rw [Bool.and_eq_true] at this
    exact this.1
  have cf : callsF ns 0 cs := ⟨_,hcs⟩
  clear hask hcs
  intro ln dx n1 n2 n3
  have s1 : Same H (upd (upd H dx (.own ln)) ln (.ins a.c_Line dx [])) := (same_new n2).trans (same_new (by rw [upd_ne (Ne.symm n3)]; exact n1))
  refine ⟨ln,dx,rfl,upd_same,fun H1 D l1 f1 => ⟨rfl,?_⟩⟩
  have s2 : Same H H1 := fun b o e => f1 b o (s1 b o e) (ne_of_none e n1)
  refine ⟨_,rfl,fun tp dt m1 m2 m3 => ?_⟩
  refine ⟨tp,dt,_,rfl,upd_same,fun H2 g1 g2 => ⟨rfl,?_⟩⟩
  have s3 := same_made m1 m2 g2
  have l2 := l1.same s3
  have t2 : TpAt K a H2 tp dt q ns 0 := ⟨g1,(s2.trans s3).seq hq⟩
  refine ⟨Nat.zero_le _,fun an han => ?_⟩
  have s4 := same_new (o := .lst []) han
  have l3 := l2.same s4
  have t3 := t2.same s4
  have a3 : upd H2 an (.lst []) an = some (.lst []) := upd_same
  have up : ∀ (G : Hp) (o : HO),SqL K G q (ns.map V.int) -> SqL K (upd G an o) q (ns.map V.int) := fun G o h => by
    have an0 : H an = none := (s2.trans s3).free han
    rcases hq with (z | ⟨_,z⟩) | z
    · have ne : q ≠ an := ne_of_none z an0
      rcases h with (y | ⟨u,y⟩) | y
      · exact .inl (.inl ((upd_ne ne).trans y))
      · exact .inl (.inr ⟨u,(upd_ne ne).trans y⟩)
      · exact .inr y
    · have ne : q ≠ an := ne_of_none z an0
      rcases h with (y | ⟨u,y⟩) | y
      · exact .inl (.inl ((upd_ne ne).trans y))
      · exact .inl (.inr ⟨u,(upd_ne ne).trans y⟩)
      · exact .inr y
    · exact .inr z
  generalize upd H2 an (.lst []) = H3 at s4 l3 t3 a3
  refine ⟨fun m σ H' => ∃ (i : Nat) (d : Sy10.Defs) (D : Addr) (cs' : List (List (List Int))) (acc : List Int) (v4 : Option V),σ = [some (.ref q),some (.ref ln),some (.ref tp),some (.ref an),v4] /\ LnAt a H' ln dx D d /\ Dfs d /\ TpAt K a H' tp dt q ns i /\
    callsF ns i cs' /\ cs'.all Sy10Neutral.asked1 = true /\ H' an = some (.lst (acc.map V.int)) /\ acc ++ PyFlat.told (PyFlat.played Sy10Neutral.step d cs') = PyFlat.told (PyFlat.played Sy10Neutral.step Sy10Neutral.start cs) /\
    acc.length + 32771 * cs'.length <= 32771 * 60 /\ i <= ns.length /\ m = ns.length - i,
    ⟨_,0,[],D,cs,[],_,rfl,l3,Dfs.nil,t3,cf,ask1,a3,rfl,by simp only [List.length_nil]; omega,Nat.zero_le _,rfl⟩,?_⟩
  rintro m σ H' ⟨i,d,D',cs',acc,v4,rfl,hl,hd,ht,hc,ha,hacc,heq,hsz,hi,rfl⟩
  refine ⟨_,rfl,tp,dt,_,rfl,ht.ob,rfl,tp,dt,q,ns,i,rfl,ht,_,rfl,?_⟩
  by_cases hlt : i < ns.length
  · rw [decide_eq_true hlt]
    refine iteT ⟨_,fun _ _ z => z,?_⟩
    obtain ⟨c,cs2,j,rfl,ca,hij,hj,hc2⟩ := callsF_next hc hlt
    rw [List.all_cons,Bool.and_eq_true] at ha
    refine ⟨_,rfl,_,rfl,ln,dx,D',d,tp,dt,q,ns,i,j,c,rfl,hl,hd,ht,ca,ha.1,fun H4 l4 D4 p1 p2 p3 p4 p5 p6 => ?_⟩
    have se := step_eq ca d
    have hd4 := outC_dfs ca hd
    have heq4 : acc ++ (((ansOf (outC d c).1).length : Int) :: ansOf (outC d c).1) ++ PyFlat.told (PyFlat.played Sy10Neutral.step (outC d c).2 cs2) = PyFlat.told (PyFlat.played Sy10Neutral.step Sy10Neutral.start cs) := by
      rw [<- heq]
      show _ = acc ++ PyFlat.told ((Sy10Neutral.step d c).2 :: PyFlat.played Sy10Neutral.step (Sy10Neutral.step d c).1 cs2)
      rw [se,told_cons,List.append_assoc]
    generalize ansOf (outC d c).1 = ans at p3 p4 heq4
    have a4 : H4 an = some (.lst (acc.map V.int)) := by
      obtain ⟨dk,k1,_⟩ := hl.df
      exact p6 an _ hacc (ne_of hacc hl.ob (fun z => nomatch z)) (ne_of hacc k1 (fun z => nomatch z)) (ne_of hacc ht.ob (fun z => nomatch z))
    have na : l4 ≠ an := Ne.symm (ne_of_none hacc p5)
    simp only [List.length_cons] at hsz
    refine ⟨_,rfl,.inl ⟨rfl,_,SqL.of a4⟩,_,rfl,l4,_,rfl,.inl (SqL.of p3),an,_,_,rfl,rfl,a4,?_,?_⟩
    · rw [List.length_map]
      exact Nat.lt_of_le_of_lt (show acc.length <= 2000000 by omega) (by decide)
    rw [List.length_map]
    have l5 : upd H4 an (.lst (acc.map V.int ++ [.int (ans.length : Nat)])) l4 = some (.lst (ans.map V.int)) := (upd_ne na).trans p3
    have a5 : upd H4 an (.lst (acc.map V.int ++ [.int (ans.length : Nat)])) an = some (.lst (acc.map V.int ++ [.int (ans.length : Nat)])) := upd_same
    refine ⟨_,rfl,.inl ⟨rfl,_,SqL.of a5⟩,_,rfl,an,l4,_,_,rfl,rfl,a5,l5,?_,?_⟩
    · rw [List.length_append,List.length_map,List.length_map,List.length_cons,List.length_nil]
      exact Nat.le_trans (show acc.length + 1 + ans.length <= 2000000 by omega) (by decide)
    rw [upd_upd]
    have ea : (acc.map V.int ++ [.int (ans.length : Nat)]) ++ ans.map V.int = (acc ++ ((ans.length : Int) :: ans)).map V.int := by
      rw [List.map_append,List.map_cons,List.append_assoc]
      rfl
    rw [ea]
    have kp : Keep a.c_Term H4 (upd H4 an (.lst ((acc ++ ((ans.length : Int) :: ans)).map V.int))) := Keep.upd a4 (fun z => z)
    have lq : LnAt a (upd H4 an (.lst ((acc ++ ((ans.length : Int) :: ans)).map V.int))) ln dx D4 (outC d c).2 := by
      obtain ⟨dk,k1,k2,k3⟩ := p1.df
      refine ⟨by rw [upd_ne (ne_of p1.ob a4 (fun z => nomatch z))]; exact p1.ob,dk,by rw [upd_ne (ne_of k1 a4 (fun z => nomatch z))]; exact k1,k2,fun x => ?_⟩
      have := k3 x
      cases e : Sy10.lookup (outC d c).2 x with
      | none => rw [e] at this; exact this
      | some u =>
        rw [e] at this
        obtain ⟨z,z1,z2⟩ := this
        exact ⟨z,z1,z2.keep kp⟩
    have tq : TpAt K a (upd H4 an (.lst ((acc ++ ((ans.length : Int) :: ans)).map V.int))) tp dt q ns j := by
      exact ⟨by rw [upd_ne (ne_of p2.ob a4 (fun z => nomatch z))]; exact p2.ob,up _ _ p2.ls⟩
    refine ⟨ns.length - j,by omega,j,_,D4,cs2,_,_,rfl,lq,hd4,tq,hc2,ha.2,upd_same,heq4,?_,hj,rfl⟩
    rw [List.length_append,List.length_cons]
    omega
  · rw [decide_eq_false hlt]
    refine iteF ⟨_,rfl,k H' an ?_⟩
    have := callsF_end hc (Nat.le_of_not_lt hlt)
    subst this
    rw [<- heq]
    simp only [PyFlat.played,PyFlat.told,List.flatMap_nil,List.append_nil]
    exact hacc
end
end Ft
end

section
namespace Ft
open PySem PySem.Spec PyProof.Rows L2
open Sy10Neutral (nats)
noncomputable def Off (tp : Addr) (H H' : Hp) : Prop := ∀ b o,H b = some o -> b ≠ tp -> H' b = some o
theorem Off.trans {tp : Addr} {H H1 H2 : Hp} (x : Off tp H H1) (y : Off tp H1 H2) : Off tp H H2 := fun b o e n => y b o (x b o e n) n
theorem outC_ne {d : Sy10.Defs} {c : List (List Int)} (h : c ≠ [[0]]) : outC d c = Sy10.spec d (callC c) := if_neg h
section
variable {P : Program} {w : World} {K : PySem.W.Frag} {mg : Str -> Option Value} {base : Heap} {a : Ad}
theorem ne_TapeT (T : Tx K mg a) : a.c_Tape ≠ a.c_Term := cls_ne T.mk_Tape T.mk_Term T.fn_Tape_init T.fn_Term_init (by decide +kernel)
theorem LnAt.off (T : Tx K mg a) {H H' : Hp} {ln dx D tp dt q : Addr} {d : Sy10.Defs} {ns : List Int} {i : Nat} (h : LnAt a H ln dx D d) (t : TpAt K a H tp dt q ns i) (f : Off tp H H') : LnAt a H' ln dx D d := by
  have kp : Keep a.c_Term H H' := fun b o e im => f b o e fun z => by
    rw [z,t.ob] at e
    cases e
    exact ne_TapeT T im
  obtain ⟨dk,k1,k2,k3⟩ := h.df
  refine ⟨f _ _ h.ob (ne_of h.ob t.ob (fun z => ne_Tape T (by injection z with z1 _ _; exact z1.symm))),dk,f _ _ k1 (ne_of k1 t.ob (fun z => nomatch z)),k2,fun x => ?_⟩
  have := k3 x
  cases e : Sy10.lookup d x with
  | none => rw [e] at this; exact this
  | some u =>
    rw [e] at this
    obtain ⟨z,z1,z2⟩ := this
    exact ⟨z,z1,z2.keep kp⟩
theorem fin_next (T : Tx K mg a) {H Hk : Hp} {ln dx D tp dt q : Addr} {d : Sy10.Defs} {ns : List Int} {j : Nat} {c : List (List Int)} {Q : VK} (h : LnAt a Hk ln dx D d) (t : TpAt K a Hk tp dt q ns j) (f : Off tp H Hk)
    (k : ∀ (H' : Hp) (l D' : Addr),LnAt a H' ln dx D' (outC d c).2 -> TpAt K a H' tp dt q ns j -> H' l = some (.lst ((ansOf (outC d c).1).map V.int)) -> (ansOf (outC d c).1).length <= 32770 -> H l = none -> (∀ b o,H b = some o -> b ≠ ln -> b ≠ D -> b ≠ tp -> H' b = some o) -> Q (.ref l) H') :
    PostL a Hk ln dx D (outC d c) Q := by
  intro H' l D' h' hl hlen hn fr
  obtain ⟨dk,k1,k2,k3⟩ := h.df
  have n1 : tp ≠ ln := ne_of t.ob h.ob (fun z => ne_Tape T (by injection z with z1 _ _))
  have n2 : tp ≠ D := ne_of t.ob k1 (fun z => nomatch z)
  refine k H' l D' h' ⟨fr _ _ t.ob n1 n2,?_⟩ hl hlen ?_ (fun b o e m1 m2 m3 => fr b o (f b o e m3) m1 m2)
  · rcases t.ls with (z | ⟨u,z⟩) | z
    · exact .inl (.inl (fr _ _ z (ne_of z h.ob (fun y => nomatch y)) (ne_of z k1 (fun y => nomatch y))))
    · exact .inl (.inr ⟨u,fr _ _ z (ne_of z h.ob (fun y => nomatch y)) (ne_of z k1 (fun y => nomatch y))⟩)
    · exact .inr z
  · cases e : H l with
    | none => rfl
    | some o =>
      by_cases m : l = tp
      · rw [m,t.ob] at hn; cases hn
      · rw [f l o e m] at hn; cases hn
theorem ok_answer_next (T : Tx K mg a) : Gd P w K mg base CX0 20 a.f_answer_next ["line","tape"] (spNext K a) := by
  refine T.fn_answer_next.ok sc_answer_next (fun vs H Q E h => ?_) (fun cdv A outer s H vs Q E hr h => ?_)
  · obtain ⟨ln,dx,D,d,tp,dt,q,ns,i,j,c,rfl,_⟩ := h
    rfl
  obtain ⟨ln,dx,D,d,tp,dt,q,ns,i,j,c,rfl,h,hd,ht,hc,ha,k⟩ := h
  refine ⟨_,pss_cons (ps_set (i := 2) sc_answer_next.nd rfl (Or.inl rfl) (pe_meth0G (pv 1) T.cl_Tape T.me_Tape_take_number (ok_Tape_take_number T) hr (by decide) pass0))
    (pss_cons (ps_if (pt_cmpR op_eq (pv 2) (pe_k T.k_BEGIN) (nomark _))
      (pss_one (ps_ret (pe_meth0G (pv 0) T.cl_Line T.me_Line_begin (ok_Line_begin T) hr (by decide) pass0))) pss_nil)
    (pss_cons (ps_if (pt_cmpR op_eq (pv 2) (pe_k T.k_DEFINE) (nomark _))
      (pss_cons (ps_set (i := 3) sc_answer_next.nd rfl (Or.inl rfl) (pe_meth0G (pv 1) T.cl_Tape T.me_Tape_take_row (ok_Tape_take_row T) hr (by decide) pass0))
      (pss_one (ps_ret (pe_methG (pv 0) T.cl_Line T.me_Line_define (ok_Line_define T) hr (by decide) pass0 (pa_cons (pv 3) (pa_cons (pe_meth0G (pv 1) T.cl_Tape T.me_Tape_take_row (ok_Tape_take_row T) hr (by decide) pass0) pa_nil)))))) pss_nil)
    (pss_cons (ps_if (pt_cmpR op_eq (pv 2) (pe_k T.k_NORMAL) (nomark _))
      (pss_cons (ps_set (i := 4) sc_answer_next.nd rfl (Or.inl rfl) (pe_meth0G (pv 1) T.cl_Tape T.me_Tape_take_number (ok_Tape_take_number T) hr (by decide) pass0))
      (pss_cons (ps_set (i := 5) sc_answer_next.nd rfl (Or.inl rfl) (pe_meth0G (pv 1) T.cl_Tape T.me_Tape_take_number (ok_Tape_take_number T) hr (by decide) pass0))
      (pss_one (ps_ret (pe_methG (pv 0) T.cl_Line T.me_Line_normal (ok_Line_normal T) hr (by decide) pass0 (pa_cons (pv 4) (pa_cons (pv 5) (pa_cons (pe_meth0G (pv 1) T.cl_Tape T.me_Tape_take_row (ok_Tape_take_row T) hr (by decide) pass0) pa_nil)))))))) pss_nil)
    (pss_cons (ps_if (pt_cmpR op_eq (pv 2) (pe_k T.k_SAME) (nomark _))
      (pss_cons (ps_set (i := 6) sc_answer_next.nd rfl (Or.inl rfl) (pe_meth0G (pv 1) T.cl_Tape T.me_Tape_take_row (ok_Tape_take_row T) hr (by decide) pass0))
      (pss_one (ps_ret (pe_methG (pv 0) T.cl_Line T.me_Line_same (ok_Line_same T) hr (by decide) pass0 (pa_cons (pv 6) (pa_cons (pe_meth0G (pv 1) T.cl_Tape T.me_Tape_take_row (ok_Tape_take_row T) hr (by decide) pass0) pa_nil)))))) pss_nil)
    (pss_cons (ps_if (pt_cmpR op_eq (pv 2) (pe_k T.k_NUMBER) (nomark _))
      (pss_cons (ps_set (i := 4) sc_answer_next.nd rfl (Or.inl rfl) (pe_meth0G (pv 1) T.cl_Tape T.me_Tape_take_number (ok_Tape_take_number T) hr (by decide) pass0))
      (pss_one (ps_ret (pe_methG (pv 0) T.cl_Line T.me_Line_number (ok_Line_number T) hr (by decide) pass0 (pa_cons (pv 4) (pa_cons (pe_meth0G (pv 1) T.cl_Tape T.me_Tape_take_row (ok_Tape_take_row T) hr (by decide) pass0) pa_nil)))))) pss_nil)
    (pss_cons (ps_if (pt_cmpR op_eq (pv 2) (pe_k T.k_NAMES) (nomark _))
      (pss_cons (ps_set (i := 5) sc_answer_next.nd rfl (Or.inl rfl) (pe_meth0G (pv 1) T.cl_Tape T.me_Tape_take_number (ok_Tape_take_number T) hr (by decide) pass0))
      (pss_one (ps_ret (pe_methG (pv 0) T.cl_Line T.me_Line_names (ok_Line_names T) hr (by decide) pass0 (pa_cons (pv 5) (pa_cons (pe_meth0G (pv 1) T.cl_Tape T.me_Tape_take_row (ok_Tape_take_row T) hr (by decide) pass0) pa_nil)))))) pss_nil)
    pss_never)))))),?_⟩
  have lst : ∀ {G G' : Hp} {l : Addr} {xs : List V} {i : Nat},TpAt K a G tp dt q ns i -> Off tp G G' -> G l = some (.lst xs) -> G' l = some (.lst xs) := fun t f e => f _ _ e (ne_of e t.ob (fun z => nomatch z))
  cases hc with
  | c0 g =>
    refine ⟨_,rfl,tp,dt,_,rfl,ht.ob,rfl,tp,dt,q,ns,i,_,rfl,ht,g,fun H1 t1 (f1 : Off tp H H1) => ?_⟩
    have h1 := h.off T ht f1
    refine ⟨_,rfl,rfl,_,rfl,iteT ?_⟩
    refine ⟨_,rfl,ln,dx,_,rfl,h1.ob,rfl,ln,dx,D,d,rfl,h1,?_⟩
    exact fin_next T (c := [[0]]) h1 t1 f1 k
  | @c1 n1 n2 x y g r1 r2 =>
    refine ⟨_,rfl,tp,dt,_,rfl,ht.ob,rfl,tp,dt,q,ns,i,_,rfl,ht,g,fun H1 t1 (f1 : Off tp H H1) => ?_⟩
    have h1 := h.off T ht f1
    refine ⟨_,rfl,rfl,_,rfl,iteF ⟨_,rfl,rfl,_,rfl,iteT ?_⟩⟩
    refine ⟨_,rfl,tp,dt,_,rfl,t1.ob,rfl,tp,dt,q,ns,i + 1,n1,rfl,t1,r1.len,r1.fit,fun H2 l2 t2 e2 _ (f2 : Off tp H1 H2) => ?_⟩
    have h2 := h1.off T t1 f2
    rw [show i + 2 + n1 = i + 1 + 1 + n1 by omega] at r2
    refine ⟨_,rfl,ln,dx,_,rfl,h2.ob,rfl,_,rfl,_,rfl,tp,dt,_,rfl,t2.ob,rfl,tp,dt,q,ns,i + 1 + 1 + n1,n2,rfl,t2,r2.len,r2.fit,fun H3 l3 t3 e3 _ (f3 : Off tp H2 H3) => ?_⟩
    have h3 := h2.off T t2 f3
    have b : ((x.all (fun (z : Int) => Sy10Neutral.natural z 8) && decide (x.length <= 20)) && ((y.all (fun (z : Int) => Sy10Neutral.natural z 8) && decide (y.length <= 3000)))) = true := ha
    simp only [Bool.and_eq_true,decide_eq_true_eq] at b
    rw [r1.row,bytes_of b.1.1] at e2
    rw [r2.row,bytes_of b.2.1] at e3
    rw [show i + 1 + 1 + n1 + 1 + n2 = i + 3 + n1 + n2 by omega] at t3
    have kk := fin_next T (c := [[1],x,y]) h3 t3 ((f1.trans f2).trans f3) k
    rw [outC_ne (by simp)] at kk
    exact ⟨ln,dx,D,d,l2,l3,nats x,nats y,rfl,h3,hd,lst t2 f3 e2,e3,by rw [nats_len]; omega,by rw [nats_len]; omega,kk⟩
  | @c2 n u v x g hu hv r1 =>
    refine ⟨_,rfl,tp,dt,_,rfl,ht.ob,rfl,tp,dt,q,ns,i,_,rfl,ht,g,fun H1 t1 (f1 : Off tp H H1) => ?_⟩
    have h1 := h.off T ht f1
    refine ⟨_,rfl,rfl,_,rfl,iteF ⟨_,rfl,rfl,_,rfl,iteF ⟨_,rfl,rfl,_,rfl,iteT ?_⟩⟩⟩
    have b : (Sy10Neutral.natural u 32 && (Sy10Neutral.natural v 32 && ((x.all (fun (z : Int) => Sy10Neutral.natural z 8) && decide (x.length <= 3000))))) = true := ha
    simp only [Bool.and_eq_true,decide_eq_true_eq] at b
    rw [<- nat_of b.1] at hu
    rw [<- nat_of b.2.1] at hv
    refine ⟨_,rfl,tp,dt,_,rfl,t1.ob,rfl,tp,dt,q,ns,i + 1,_,rfl,t1,hu,fun H2 t2 (f2 : Off tp H1 H2) => ?_⟩
    have h2 := h1.off T t1 f2
    refine ⟨_,rfl,tp,dt,_,rfl,t2.ob,rfl,tp,dt,q,ns,i + 1 + 1,_,rfl,t2,hv,fun H3 t3 (f3 : Off tp H2 H3) => ?_⟩
    have h3 := h2.off T t2 f3
    refine ⟨_,rfl,ln,dx,_,rfl,h3.ob,rfl,_,rfl,_,rfl,_,rfl,tp,dt,_,rfl,t3.ob,rfl,tp,dt,q,ns,i + 1 + 1 + 1,n,rfl,t3,r1.len,r1.fit,fun H4 l4 t4 e4 _ (f4 : Off tp H3 H4) => ?_⟩
    have h4 := h3.off T t3 f4
    rw [r1.row,bytes_of b.2.2.1] at e4
    rw [show i + 1 + 1 + 1 + 1 + n = i + 4 + n by omega] at t4
    have kk := fin_next T (c := [[2,u,v],x]) h4 t4 (((f1.trans f2).trans f3).trans f4) k
    rw [outC_ne (by simp)] at kk
    exact ⟨ln,dx,D,d,l4,u.toNat,v.toNat,nats x,rfl,h4,hd,e4,by rw [nats_len]; omega,kk⟩
  | @c3 n1 n2 x y g r1 r2 =>
    refine ⟨_,rfl,tp,dt,_,rfl,ht.ob,rfl,tp,dt,q,ns,i,_,rfl,ht,g,fun H1 t1 (f1 : Off tp H H1) => ?_⟩
    have h1 := h.off T ht f1
    refine ⟨_,rfl,rfl,_,rfl,iteF ⟨_,rfl,rfl,_,rfl,iteF ⟨_,rfl,rfl,_,rfl,iteF ⟨_,rfl,rfl,_,rfl,iteT ?_⟩⟩⟩⟩
    refine ⟨_,rfl,tp,dt,_,rfl,t1.ob,rfl,tp,dt,q,ns,i + 1,n1,rfl,t1,r1.len,r1.fit,fun H2 l2 t2 e2 _ (f2 : Off tp H1 H2) => ?_⟩
    have h2 := h1.off T t1 f2
    rw [show i + 2 + n1 = i + 1 + 1 + n1 by omega] at r2
    refine ⟨_,rfl,ln,dx,_,rfl,h2.ob,rfl,_,rfl,_,rfl,tp,dt,_,rfl,t2.ob,rfl,tp,dt,q,ns,i + 1 + 1 + n1,n2,rfl,t2,r2.len,r2.fit,fun H3 l3 t3 e3 _ (f3 : Off tp H2 H3) => ?_⟩
    have h3 := h2.off T t2 f3
    have b : ((x.all (fun (z : Int) => Sy10Neutral.natural z 8) && decide (x.length <= 3000)) && ((y.all (fun (z : Int) => Sy10Neutral.natural z 8) && decide (y.length <= 3000)))) = true := ha
    simp only [Bool.and_eq_true,decide_eq_true_eq] at b
    rw [r1.row,bytes_of b.1.1] at e2
    rw [r2.row,bytes_of b.2.1] at e3
    rw [show i + 1 + 1 + n1 + 1 + n2 = i + 3 + n1 + n2 by omega] at t3
    have kk := fin_next T (c := [[3],x,y]) h3 t3 ((f1.trans f2).trans f3) k
    rw [outC_ne (by simp)] at kk
    exact ⟨ln,dx,D,d,l2,l3,nats x,nats y,rfl,h3,hd,lst t2 f3 e2,e3,by rw [nats_len]; omega,by rw [nats_len]; omega,kk⟩
  | @c4 n u x g hu r1 =>
    refine ⟨_,rfl,tp,dt,_,rfl,ht.ob,rfl,tp,dt,q,ns,i,_,rfl,ht,g,fun H1 t1 (f1 : Off tp H H1) => ?_⟩
    have h1 := h.off T ht f1
    refine ⟨_,rfl,rfl,_,rfl,iteF ⟨_,rfl,rfl,_,rfl,iteF ⟨_,rfl,rfl,_,rfl,iteF ⟨_,rfl,rfl,_,rfl,iteF ⟨_,rfl,rfl,_,rfl,iteT ?_⟩⟩⟩⟩⟩
    have b : (Sy10Neutral.natural u 32 && ((x.all (fun (z : Int) => Sy10Neutral.natural z 8) && decide (x.length <= 3000)))) = true := ha
    simp only [Bool.and_eq_true,decide_eq_true_eq] at b
    rw [<- nat_of b.1] at hu
    refine ⟨_,rfl,tp,dt,_,rfl,t1.ob,rfl,tp,dt,q,ns,i + 1,_,rfl,t1,hu,fun H2 t2 (f2 : Off tp H1 H2) => ?_⟩
    have h2 := h1.off T t1 f2
    refine ⟨_,rfl,ln,dx,_,rfl,h2.ob,rfl,_,rfl,_,rfl,tp,dt,_,rfl,t2.ob,rfl,tp,dt,q,ns,i + 1 + 1,n,rfl,t2,r1.len,r1.fit,fun H4 l4 t4 e4 _ (f4 : Off tp H2 H4) => ?_⟩
    have h4 := h2.off T t2 f4
    rw [r1.row,bytes_of b.2.1] at e4
    rw [show i + 1 + 1 + 1 + n = i + 3 + n by omega] at t4
    have kk := fin_next T (c := [[4,u],x]) h4 t4 ((f1.trans f2).trans f4) k
    rw [outC_ne (by simp)] at kk
    exact ⟨ln,dx,D,d,l4,u.toNat,nats x,rfl,h4,hd,e4,by rw [nats_len]; omega,kk⟩
  | @c5 n u x g hu r1 =>
    refine ⟨_,rfl,tp,dt,_,rfl,ht.ob,rfl,tp,dt,q,ns,i,_,rfl,ht,g,fun H1 t1 (f1 : Off tp H H1) => ?_⟩
    have h1 := h.off T ht f1
    refine ⟨_,rfl,rfl,_,rfl,iteF ⟨_,rfl,rfl,_,rfl,iteF ⟨_,rfl,rfl,_,rfl,iteF ⟨_,rfl,rfl,_,rfl,iteF ⟨_,rfl,rfl,_,rfl,iteF ⟨_,rfl,rfl,_,rfl,iteT ?_⟩⟩⟩⟩⟩⟩
    have b : (Sy10Neutral.natural u 32 && ((x.all (fun (z : Int) => Sy10Neutral.natural z 8) && decide (x.length <= 3000)))) = true := ha
    simp only [Bool.and_eq_true,decide_eq_true_eq] at b
    rw [<- nat_of b.1] at hu
    refine ⟨_,rfl,tp,dt,_,rfl,t1.ob,rfl,tp,dt,q,ns,i + 1,_,rfl,t1,hu,fun H2 t2 (f2 : Off tp H1 H2) => ?_⟩
    have h2 := h1.off T t1 f2
    refine ⟨_,rfl,ln,dx,_,rfl,h2.ob,rfl,_,rfl,_,rfl,tp,dt,_,rfl,t2.ob,rfl,tp,dt,q,ns,i + 1 + 1,n,rfl,t2,r1.len,r1.fit,fun H4 l4 t4 e4 _ (f4 : Off tp H2 H4) => ?_⟩
    have h4 := h2.off T t2 f4
    rw [r1.row,bytes_of b.2.1] at e4
    rw [show i + 1 + 1 + 1 + n = i + 3 + n by omega] at t4
    have kk := fin_next T (c := [[5,u],x]) h4 t4 ((f1.trans f2).trans f4) k
    rw [outC_ne (by simp)] at kk
    exact ⟨ln,dx,D,d,l4,u.toNat,nats x,rfl,h4,hd,e4,by rw [nats_len]; omega,kk⟩
end
end Ft
end

section
namespace Ft
open PySem PySem.Spec PyProof.Rows L2
theorem all_of {P : Program} {w : World} {K : PySem.W.Frag} {h : Heap} {mg : Str -> Option Value} {fa : Addr} {a : Ad} (hfa : mg "answers" = some (.ref fa)) (T : Tx K mg a) :
    ∃ fd : FuncData,(∀ (s : Shared) (us : List Value),us.length = (["calls"] : List Str).length -> BindsTo s fd ⟨us,[]⟩ ((["calls"] : List Str).zip us)) /\ ∀ base : Heap,K.In base -> base.Ns mainGlobals mg -> FnOk P w K mg base CX0 60 fa fd ["calls"] (spAns K) := by
  have e := hfa.symm.trans T.mg_answers
  cases e
  obtain ⟨fd,F,b⟩ := T.fn_answers
  have F' := F
  obtain ⟨oc,od,kV,doc,pm,an,cdv,ct,osl,rfl,lk,hcd⟩ := F.ex
  exact ⟨_,fun s us hu => match us,hu with | [_],_ => .of_eq rfl,fun base _ _ => ok_answers T (ok_answer_next T) F'⟩
end Ft
end

section
namespace Ft
open PySem PySem.Spec PyProof.Rows L2
set_option maxHeartbeats 0 in
theorem tx_mk {K : W.Frag} {h : Heap} {mg : Str -> Option Value} (X : K.In h) (G : h.Ns mainGlobals mg)
    {c0C c1C c2C c3C c4C c5C c6C c7C c8C c9C c10C f0 f1 f2 f3 f4 f5 f6 f7 f8 f9 f10 f11 f12 f13 f14 f15 f16 f17 f18 f19 f20 f21 f22 f23 f24 f25 f26 f27 f28 f29 f30 f31 f32 f33 f34 f35 f36 f37 f38 f39 f40 f41 f42 f43 f44 f45 f46 f47 f48 f49 f50 f51 f52 f53 f54 f55 f56 f57 f58 f59 f60 f61 : Addr}
    {od0 an0 od1 an1 od2 an2 od3 an3 od4 an4 od5 an5 od6 an6 od7 an7 od8 an8 od9 an9 od10 an10 od11 an11 od12 an12 od13 an13 od14 an14 od15 an15 od16 an16 od17 an17 od18 an18 od19 an19 od20 an20 od21 an21 od22 an22 od23 an23 od24 an24 od25 an25 od26 an26 od27 an27 od28 an28 od29 an29 od30 an30 od31 an31 od32 an32 od33 an33 od34 an34 od35 an35 od36 an36 od37 an37 od38 an38 od39 an39 od40 an40 od41 an41 od42 an42 od43 an43 od44 an44 od45 an45 od46 an46 od47 an47 od48 an48 od49 an49 od50 an50 od51 an51 od52 an52 od53 an53 od54 an54 od55 an55 od56 an56 od57 an57 od58 an58 od59 an59 od60 an60 od61 an61 : Option Addr} {sl0 sl1 sl2 sl3 sl4 sl5 sl6 sl7 sl8 sl9 sl10 sl11 sl12 sl13 sl14 sl15 sl16 sl17 sl18 sl19 sl20 sl21 sl22 sl23 sl24 sl25 sl26 sl27 sl28 sl29 sl30 sl31 sl32 sl33 sl34 sl35 sl36 sl37 sl38 sl39 sl40 sl41 sl42 sl43 sl44 sl45 sl46 sl47 sl48 sl49 sl50 sl51 sl52 sl53 sl54 sl55 sl56 sl57 sl58 sl59 sl60 sl61 : Array (Option Value)} {oc0 kv0 dc0 pm0 cd0 ct0 oc1 kv1 dc1 pm1 cd1 ct1 oc2 kv2 dc2 pm2 cd2 ct2 oc3 kv3 dc3 pm3 cd3 ct3 oc4 kv4 dc4 pm4 cd4 ct4 oc5 kv5 dc5 pm5 cd5 ct5 oc6 kv6 dc6 pm6 cd6 ct6 oc7 kv7 dc7 pm7 cd7 ct7 oc8 kv8 dc8 pm8 cd8 ct8 oc9 kv9 dc9 pm9 cd9 ct9 oc10 kv10 dc10 pm10 cd10 ct10 oc11 kv11 dc11 pm11 cd11 ct11 oc12 kv12 dc12 pm12 cd12 ct12 oc13 kv13 dc13 pm13 cd13 ct13 oc14 kv14 dc14 pm14 cd14 ct14 oc15 kv15 dc15 pm15 cd15 ct15 oc16 kv16 dc16 pm16 cd16 ct16 oc17 kv17 dc17 pm17 cd17 ct17 oc18 kv18 dc18 pm18 cd18 ct18 oc19 kv19 dc19 pm19 cd19 ct19 oc20 kv20 dc20 pm20 cd20 ct20 oc21 kv21 dc21 pm21 cd21 ct21 oc22 kv22 dc22 pm22 cd22 ct22 oc23 kv23 dc23 pm23 cd23 ct23 oc24 kv24 dc24 pm24 cd24 ct24 oc25 kv25 dc25 pm25 cd25 ct25 oc26 kv26 dc26 pm26 cd26 ct26 oc27 kv27 dc27 pm27 cd27 ct27 oc28 kv28 dc28 pm28 cd28 ct28 oc29 kv29 dc29 pm29 cd29 ct29 oc30 kv30 dc30 pm30 cd30 ct30 oc31 kv31 dc31 pm31 cd31 ct31 oc32 kv32 dc32 pm32 cd32 ct32 oc33 kv33 dc33 pm33 cd33 ct33 oc34 kv34 dc34 pm34 cd34 ct34 oc35 kv35 dc35 pm35 cd35 ct35 oc36 kv36 dc36 pm36 cd36 ct36 oc37 kv37 dc37 pm37 cd37 ct37 oc38 kv38 dc38 pm38 cd38 ct38 oc39 kv39 dc39 pm39 cd39 ct39 oc40 kv40 dc40 pm40 cd40 ct40 oc41 kv41 dc41 pm41 cd41 ct41 oc42 kv42 dc42 pm42 cd42 ct42 oc43 kv43 dc43 pm43 cd43 ct43 oc44 kv44 dc44 pm44 cd44 ct44 oc45 kv45 dc45 pm45 cd45 ct45 oc46 kv46 dc46 pm46 cd46 ct46 oc47 kv47 dc47 pm47 cd47 ct47 oc48 kv48 dc48 pm48 cd48 ct48 oc49 kv49 dc49 pm49 cd49 ct49 oc50 kv50 dc50 pm50 cd50 ct50 oc51 kv51 dc51 pm51 cd51 ct51 oc52 kv52 dc52 pm52 cd52 ct52 oc53 kv53 dc53 pm53 cd53 ct53 oc54 kv54 dc54 pm54 cd54 ct54 oc55 kv55 dc55 pm55 cd55 ct55 oc56 kv56 dc56 pm56 cd56 ct56 oc57 kv57 dc57 pm57 cd57 ct57 oc58 kv58 dc58 pm58 cd58 ct58 oc59 kv59 dc59 pm59 cd59 ct59 oc60 kv60 dc60 pm60 cd60 ct60 oc61 kv61 dc61 pm61 cd61 ct61 : Value}
    {T0 T1 T2 T3 T4 T5 T6 T7 T8 T9 T10 T11 T12 T13 T14 T15 T16 T17 T18 T19 T20 T21 T22 T23 T24 T25 T26 T27 T28 T29 T30 T31 T32 T33 T34 T35 T36 T37 T38 T39 T40 T41 T42 : PySem.Tok}
    (a0C : W.nsIn K mainGlobals "Term" = some (some (.ref c0C)))
    (a1C : W.nsIn K mainGlobals "NotATerm" = some (some (.ref c1C)))
    (a2C : W.nsIn K mainGlobals "Row" = some (some (.ref c2C)))
    (a3C : W.nsIn K mainGlobals "Reader" = some (some (.ref c3C)))
    (a4C : W.nsIn K mainGlobals "Reading" = some (some (.ref c4C)))
    (a5C : W.nsIn K mainGlobals "Work" = some (some (.ref c5C)))
    (a6C : W.nsIn K mainGlobals "FunctionNames" = some (some (.ref c6C)))
    (a7C : W.nsIn K mainGlobals "Part" = some (some (.ref c7C)))
    (a8C : W.nsIn K mainGlobals "UnknownCall" = some (some (.ref c8C)))
    (a9C : W.nsIn K mainGlobals "Line" = some (some (.ref c9C)))
    (a10C : W.nsIn K mainGlobals "Tape" = some (some (.ref c10C)))
    (a0 : W.findIn K (.ref c0C) "__init__" = some (some (.ref f0)))
    (i0 : W.isFn K (.ref f0) = true)
    (l0 : K.lookup f0 = some ⟨oc0,od0,.func (fo "__init__" "Term.__init__" s_Term_init kv0 dc0 pm0 an0 cd0 ct0),sl0⟩)
    (d0 : W.codeIn K cd0 "Term.__init__" = true)
    (k0 : W.keepIn K (.ref f0) = true)
    (a1 : W.nsIn K mainGlobals "make_free" = some (some (.ref f1)))
    (l1 : K.lookup f1 = some ⟨oc1,od1,.func (fo "make_free" "make_free" s_make_free kv1 dc1 pm1 an1 cd1 ct1),sl1⟩)
    (d1 : W.codeIn K cd1 "make_free" = true)
    (k1 : W.keepIn K (.ref f1) = true)
    (a2 : W.nsIn K mainGlobals "make_bound" = some (some (.ref f2)))
    (l2 : K.lookup f2 = some ⟨oc2,od2,.func (fo "make_bound" "make_bound" s_make_bound kv2 dc2 pm2 an2 cd2 ct2),sl2⟩)
    (d2 : W.codeIn K cd2 "make_bound" = true)
    (k2 : W.keepIn K (.ref f2) = true)
    (a3 : W.nsIn K mainGlobals "make_outer" = some (some (.ref f3)))
    (l3 : K.lookup f3 = some ⟨oc3,od3,.func (fo "make_outer" "make_outer" s_make_outer kv3 dc3 pm3 an3 cd3 ct3),sl3⟩)
    (d3 : W.codeIn K cd3 "make_outer" = true)
    (k3 : W.keepIn K (.ref f3) = true)
    (a4 : W.nsIn K mainGlobals "make_application" = some (some (.ref f4)))
    (l4 : K.lookup f4 = some ⟨oc4,od4,.func (fo "make_application" "make_application" s_make_application kv4 dc4 pm4 an4 cd4 ct4),sl4⟩)
    (d4 : W.codeIn K cd4 "make_application" = true)
    (k4 : W.keepIn K (.ref f4) = true)
    (a5 : W.nsIn K mainGlobals "make_function" = some (some (.ref f5)))
    (l5 : K.lookup f5 = some ⟨oc5,od5,.func (fo "make_function" "make_function" s_make_function kv5 dc5 pm5 an5 cd5 ct5),sl5⟩)
    (d5 : W.codeIn K cd5 "make_function" = true)
    (k5 : W.keepIn K (.ref f5) = true)
    (a6 : W.nsIn K mainGlobals "are_same" = some (some (.ref f6)))
    (l6 : K.lookup f6 = some ⟨oc6,od6,.func (fo "are_same" "are_same" s_are_same kv6 dc6 pm6 an6 cd6 ct6),sl6⟩)
    (d6 : W.codeIn K cd6 "are_same" = true)
    (k6 : W.keepIn K (.ref f6) = true)
    (a7 : W.nsIn K mainGlobals "is_name_of" = some (some (.ref f7)))
    (l7 : K.lookup f7 = some ⟨oc7,od7,.func (fo "is_name_of" "is_name_of" s_is_name_of kv7 dc7 pm7 an7 cd7 ct7),sl7⟩)
    (d7 : W.codeIn K cd7 "is_name_of" = true)
    (k7 : W.keepIn K (.ref f7) = true)
    (a8 : W.nsIn K mainGlobals "number_of" = some (some (.ref f8)))
    (l8 : K.lookup f8 = some ⟨oc8,od8,.func (fo "number_of" "number_of" s_number_of kv8 dc8 pm8 an8 cd8 ct8),sl8⟩)
    (d8 : W.codeIn K cd8 "number_of" = true)
    (k8 : W.keepIn K (.ref f8) = true)
    (a9 : W.nsIn K mainGlobals "is_letter" = some (some (.ref f9)))
    (l9 : K.lookup f9 = some ⟨oc9,od9,.func (fo "is_letter" "is_letter" s_is_letter kv9 dc9 pm9 an9 cd9 ct9),sl9⟩)
    (d9 : W.codeIn K cd9 "is_letter" = true)
    (k9 : W.keepIn K (.ref f9) = true)
    (a10 : W.nsIn K mainGlobals "is_letter_or_digit" = some (some (.ref f10)))
    (l10 : K.lookup f10 = some ⟨oc10,od10,.func (fo "is_letter_or_digit" "is_letter_or_digit" s_is_letter_or_digit kv10 dc10 pm10 an10 cd10 ct10),sl10⟩)
    (d10 : W.codeIn K cd10 "is_letter_or_digit" = true)
    (k10 : W.keepIn K (.ref f10) = true)
    (a11 : W.nsIn K mainGlobals "is_blank" = some (some (.ref f11)))
    (l11 : K.lookup f11 = some ⟨oc11,od11,.func (fo "is_blank" "is_blank" s_is_blank kv11 dc11 pm11 an11 cd11 ct11),sl11⟩)
    (d11 : W.codeIn K cd11 "is_blank" = true)
    (k11 : W.keepIn K (.ref f11) = true)
    (a12 : W.nsIn K mainGlobals "is_name" = some (some (.ref f12)))
    (l12 : K.lookup f12 = some ⟨oc12,od12,.func (fo "is_name" "is_name" s_is_name kv12 dc12 pm12 an12 cd12 ct12),sl12⟩)
    (d12 : W.codeIn K cd12 "is_name" = true)
    (k12 : W.keepIn K (.ref f12) = true)
    (a13 : W.nsIn K mainGlobals "end_of_word" = some (some (.ref f13)))
    (l13 : K.lookup f13 = some ⟨oc13,od13,.func (fo "end_of_word" "end_of_word" s_end_of_word kv13 dc13 pm13 an13 cd13 ct13),sl13⟩)
    (d13 : W.codeIn K cd13 "end_of_word" = true)
    (k13 : W.keepIn K (.ref f13) = true)
    (a14 : W.nsIn K mainGlobals "tokens_of" = some (some (.ref f14)))
    (l14 : K.lookup f14 = some ⟨oc14,od14,.func (fo "tokens_of" "tokens_of" s_tokens_of kv14 dc14 pm14 an14 cd14 ct14),sl14⟩)
    (d14 : W.codeIn K cd14 "tokens_of" = true)
    (k14 : W.keepIn K (.ref f14) = true)
    (a15 : W.findIn K (.ref c2C) "__init__" = some (some (.ref f15)))
    (i15 : W.isFn K (.ref f15) = true)
    (l15 : K.lookup f15 = some ⟨oc15,od15,.func (fo "__init__" "Row.__init__" s_Row_init kv15 dc15 pm15 an15 cd15 ct15),sl15⟩)
    (d15 : W.codeIn K cd15 "Row.__init__" = true)
    (k15 : W.keepIn K (.ref f15) = true)
    (a16 : W.findIn K (.ref c3C) "__init__" = some (some (.ref f16)))
    (i16 : W.isFn K (.ref f16) = true)
    (l16 : K.lookup f16 = some ⟨oc16,od16,.func (fo "__init__" "Reader.__init__" s_Reader_init kv16 dc16 pm16 an16 cd16 ct16),sl16⟩)
    (d16 : W.codeIn K cd16 "Reader.__init__" = true)
    (k16 : W.keepIn K (.ref f16) = true)
    (a17 : W.findIn K (.ref c3C) "add_part" = some (some (.ref f17)))
    (i17 : W.isFn K (.ref f17) = true)
    (l17 : K.lookup f17 = some ⟨oc17,od17,.func (fo "add_part" "Reader.add_part" s_Reader_add_part kv17 dc17 pm17 an17 cd17 ct17),sl17⟩)
    (d17 : W.codeIn K cd17 "Reader.add_part" = true)
    (k17 : W.keepIn K (.ref f17) = true)
    (a18 : W.findIn K (.ref c3C) "add_name" = some (some (.ref f18)))
    (i18 : W.isFn K (.ref f18) = true)
    (l18 : K.lookup f18 = some ⟨oc18,od18,.func (fo "add_name" "Reader.add_name" s_Reader_add_name kv18 dc18 pm18 an18 cd18 ct18),sl18⟩)
    (d18 : W.codeIn K cd18 "Reader.add_name" = true)
    (k18 : W.keepIn K (.ref f18) = true)
    (a19 : W.findIn K (.ref c3C) "begin_function" = some (some (.ref f19)))
    (i19 : W.isFn K (.ref f19) = true)
    (l19 : K.lookup f19 = some ⟨oc19,od19,.func (fo "begin_function" "Reader.begin_function" s_Reader_begin_function kv19 dc19 pm19 an19 cd19 ct19),sl19⟩)
    (d19 : W.codeIn K cd19 "Reader.begin_function" = true)
    (k19 : W.keepIn K (.ref f19) = true)
    (a20 : W.findIn K (.ref c3C) "end_row" = some (some (.ref f20)))
    (i20 : W.isFn K (.ref f20) = true)
    (l20 : K.lookup f20 = some ⟨oc20,od20,.func (fo "end_row" "Reader.end_row" s_Reader_end_row kv20 dc20 pm20 an20 cd20 ct20),sl20⟩)
    (d20 : W.codeIn K cd20 "Reader.end_row" = true)
    (k20 : W.keepIn K (.ref f20) = true)
    (a21 : W.findIn K (.ref c3C) "end_functions" = some (some (.ref f21)))
    (i21 : W.isFn K (.ref f21) = true)
    (l21 : K.lookup f21 = some ⟨oc21,od21,.func (fo "end_functions" "Reader.end_functions" s_Reader_end_functions kv21 dc21 pm21 an21 cd21 ct21),sl21⟩)
    (d21 : W.codeIn K cd21 "Reader.end_functions" = true)
    (k21 : W.keepIn K (.ref f21) = true)
    (a22 : W.findIn K (.ref c3C) "end_parenthesis" = some (some (.ref f22)))
    (i22 : W.isFn K (.ref f22) = true)
    (l22 : K.lookup f22 = some ⟨oc22,od22,.func (fo "end_parenthesis" "Reader.end_parenthesis" s_Reader_end_parenthesis kv22 dc22 pm22 an22 cd22 ct22),sl22⟩)
    (d22 : W.codeIn K cd22 "Reader.end_parenthesis" = true)
    (k22 : W.keepIn K (.ref f22) = true)
    (a23 : W.findIn K (.ref c3C) "end_text" = some (some (.ref f23)))
    (i23 : W.isFn K (.ref f23) = true)
    (l23 : K.lookup f23 = some ⟨oc23,od23,.func (fo "end_text" "Reader.end_text" s_Reader_end_text kv23 dc23 pm23 an23 cd23 ct23),sl23⟩)
    (d23 : W.codeIn K cd23 "Reader.end_text" = true)
    (k23 : W.keepIn K (.ref f23) = true)
    (a24 : W.nsIn K mainGlobals "function_name" = some (some (.ref f24)))
    (l24 : K.lookup f24 = some ⟨oc24,od24,.func (fo "function_name" "function_name" s_function_name kv24 dc24 pm24 an24 cd24 ct24),sl24⟩)
    (d24 : W.codeIn K cd24 "function_name" = true)
    (k24 : W.keepIn K (.ref f24) = true)
    (a25 : W.nsIn K mainGlobals "take_part" = some (some (.ref f25)))
    (l25 : K.lookup f25 = some ⟨oc25,od25,.func (fo "take_part" "take_part" s_take_part kv25 dc25 pm25 an25 cd25 ct25),sl25⟩)
    (d25 : W.codeIn K cd25 "take_part" = true)
    (k25 : W.keepIn K (.ref f25) = true)
    (a26 : W.findIn K (.ref c4C) "__init__" = some (some (.ref f26)))
    (i26 : W.isFn K (.ref f26) = true)
    (l26 : K.lookup f26 = some ⟨oc26,od26,.func (fo "__init__" "Reading.__init__" s_Reading_init kv26 dc26 pm26 an26 cd26 ct26),sl26⟩)
    (d26 : W.codeIn K cd26 "Reading.__init__" = true)
    (k26 : W.keepIn K (.ref f26) = true)
    (a27 : W.nsIn K mainGlobals "read_text" = some (some (.ref f27)))
    (l27 : K.lookup f27 = some ⟨oc27,od27,.func (fo "read_text" "read_text" s_read_text kv27 dc27 pm27 an27 cd27 ct27),sl27⟩)
    (d27 : W.codeIn K cd27 "read_text" = true)
    (k27 : W.keepIn K (.ref f27) = true)
    (a28 : W.nsIn K mainGlobals "put_together" = some (some (.ref f28)))
    (l28 : K.lookup f28 = some ⟨oc28,od28,.func (fo "put_together" "put_together" s_put_together kv28 dc28 pm28 an28 cd28 ct28),sl28⟩)
    (d28 : W.codeIn K cd28 "put_together" = true)
    (k28 : W.keepIn K (.ref f28) = true)
    (a29 : W.nsIn K mainGlobals "put_in" = some (some (.ref f29)))
    (l29 : K.lookup f29 = some ⟨oc29,od29,.func (fo "put_in" "put_in" s_put_in kv29 dc29 pm29 an29 cd29 ct29),sl29⟩)
    (d29 : W.codeIn K cd29 "put_in" = true)
    (k29 : W.keepIn K (.ref f29) = true)
    (a30 : W.findIn K (.ref c5C) "__init__" = some (some (.ref f30)))
    (i30 : W.isFn K (.ref f30) = true)
    (l30 : K.lookup f30 = some ⟨oc30,od30,.func (fo "__init__" "Work.__init__" s_Work_init kv30 dc30 pm30 an30 cd30 ct30),sl30⟩)
    (d30 : W.codeIn K cd30 "Work.__init__" = true)
    (k30 : W.keepIn K (.ref f30) = true)
    (a31 : W.findIn K (.ref c5C) "find_step" = some (some (.ref f31)))
    (i31 : W.isFn K (.ref f31) = true)
    (l31 : K.lookup f31 = some ⟨oc31,od31,.func (fo "find_step" "Work.find_step" s_Work_find_step kv31 dc31 pm31 an31 cd31 ct31),sl31⟩)
    (d31 : W.codeIn K cd31 "Work.find_step" = true)
    (k31 : W.keepIn K (.ref f31) = true)
    (a32 : W.findIn K (.ref c5C) "go_to_first_part" = some (some (.ref f32)))
    (i32 : W.isFn K (.ref f32) = true)
    (l32 : K.lookup f32 = some ⟨oc32,od32,.func (fo "go_to_first_part" "Work.go_to_first_part" s_Work_go_to_first_part kv32 dc32 pm32 an32 cd32 ct32),sl32⟩)
    (d32 : W.codeIn K cd32 "Work.go_to_first_part" = true)
    (k32 : W.keepIn K (.ref f32) = true)
    (a33 : W.findIn K (.ref c5C) "enter_function" = some (some (.ref f33)))
    (i33 : W.isFn K (.ref f33) = true)
    (l33 : K.lookup f33 = some ⟨oc33,od33,.func (fo "enter_function" "Work.enter_function" s_Work_enter_function kv33 dc33 pm33 an33 cd33 ct33),sl33⟩)
    (d33 : W.codeIn K cd33 "Work.enter_function" = true)
    (k33 : W.keepIn K (.ref f33) = true)
    (a34 : W.findIn K (.ref c5C) "go_on" = some (some (.ref f34)))
    (i34 : W.isFn K (.ref f34) = true)
    (l34 : K.lookup f34 = some ⟨oc34,od34,.func (fo "go_on" "Work.go_on" s_Work_go_on kv34 dc34 pm34 an34 cd34 ct34),sl34⟩)
    (d34 : W.codeIn K cd34 "Work.go_on" = true)
    (k34 : W.keepIn K (.ref f34) = true)
    (a35 : W.findIn K (.ref c5C) "make_step" = some (some (.ref f35)))
    (i35 : W.isFn K (.ref f35) = true)
    (l35 : K.lookup f35 = some ⟨oc35,od35,.func (fo "make_step" "Work.make_step" s_Work_make_step kv35 dc35 pm35 an35 cd35 ct35),sl35⟩)
    (d35 : W.codeIn K cd35 "Work.make_step" = true)
    (k35 : W.keepIn K (.ref f35) = true)
    (a36 : W.nsIn K mainGlobals "work_out" = some (some (.ref f36)))
    (l36 : K.lookup f36 = some ⟨oc36,od36,.func (fo "work_out" "work_out" s_work_out kv36 dc36 pm36 an36 cd36 ct36),sl36⟩)
    (d36 : W.codeIn K cd36 "work_out" = true)
    (k36 : W.keepIn K (.ref f36) = true)
    (a37 : W.nsIn K mainGlobals "free_names" = some (some (.ref f37)))
    (l37 : K.lookup f37 = some ⟨oc37,od37,.func (fo "free_names" "free_names" s_free_names kv37 dc37 pm37 an37 cd37 ct37),sl37⟩)
    (d37 : W.codeIn K cd37 "free_names" = true)
    (k37 : W.keepIn K (.ref f37) = true)
    (a38 : W.nsIn K mainGlobals "name_in_order" = some (some (.ref f38)))
    (l38 : K.lookup f38 = some ⟨oc38,od38,.func (fo "name_in_order" "name_in_order" s_name_in_order kv38 dc38 pm38 an38 cd38 ct38),sl38⟩)
    (d38 : W.codeIn K cd38 "name_in_order" = true)
    (k38 : W.keepIn K (.ref f38) = true)
    (a39 : W.findIn K (.ref c6C) "__init__" = some (some (.ref f39)))
    (i39 : W.isFn K (.ref f39) = true)
    (l39 : K.lookup f39 = some ⟨oc39,od39,.func (fo "__init__" "FunctionNames.__init__" s_FunctionNames_init kv39 dc39 pm39 an39 cd39 ct39),sl39⟩)
    (d39 : W.codeIn K cd39 "FunctionNames.__init__" = true)
    (k39 : W.keepIn K (.ref f39) = true)
    (a40 : W.findIn K (.ref c6C) "name_at" = some (some (.ref f40)))
    (i40 : W.isFn K (.ref f40) = true)
    (l40 : K.lookup f40 = some ⟨oc40,od40,.func (fo "name_at" "FunctionNames.name_at" s_FunctionNames_name_at kv40 dc40 pm40 an40 cd40 ct40),sl40⟩)
    (d40 : W.codeIn K cd40 "FunctionNames.name_at" = true)
    (k40 : W.keepIn K (.ref f40) = true)
    (a41 : W.findIn K (.ref c7C) "__init__" = some (some (.ref f41)))
    (i41 : W.isFn K (.ref f41) = true)
    (l41 : K.lookup f41 = some ⟨oc41,od41,.func (fo "__init__" "Part.__init__" s_Part_init kv41 dc41 pm41 an41 cd41 ct41),sl41⟩)
    (d41 : W.codeIn K cd41 "Part.__init__" = true)
    (k41 : W.keepIn K (.ref f41) = true)
    (a42 : W.nsIn K mainGlobals "in_parentheses" = some (some (.ref f42)))
    (l42 : K.lookup f42 = some ⟨oc42,od42,.func (fo "in_parentheses" "in_parentheses" s_in_parentheses kv42 dc42 pm42 an42 cd42 ct42),sl42⟩)
    (d42 : W.codeIn K cd42 "in_parentheses" = true)
    (k42 : W.keepIn K (.ref f42) = true)
    (a43 : W.nsIn K mainGlobals "pieces_of_function" = some (some (.ref f43)))
    (l43 : K.lookup f43 = some ⟨oc43,od43,.func (fo "pieces_of_function" "pieces_of_function" s_pieces_of_function kv43 dc43 pm43 an43 cd43 ct43),sl43⟩)
    (d43 : W.codeIn K cd43 "pieces_of_function" = true)
    (k43 : W.keepIn K (.ref f43) = true)
    (a44 : W.nsIn K mainGlobals "pieces_of_application" = some (some (.ref f44)))
    (l44 : K.lookup f44 = some ⟨oc44,od44,.func (fo "pieces_of_application" "pieces_of_application" s_pieces_of_application kv44 dc44 pm44 an44 cd44 ct44),sl44⟩)
    (d44 : W.codeIn K cd44 "pieces_of_application" = true)
    (k44 : W.keepIn K (.ref f44) = true)
    (a45 : W.nsIn K mainGlobals "pieces_of" = some (some (.ref f45)))
    (l45 : K.lookup f45 = some ⟨oc45,od45,.func (fo "pieces_of" "pieces_of" s_pieces_of kv45 dc45 pm45 an45 cd45 ct45),sl45⟩)
    (d45 : W.codeIn K cd45 "pieces_of" = true)
    (k45 : W.keepIn K (.ref f45) = true)
    (a46 : W.nsIn K mainGlobals "write_term" = some (some (.ref f46)))
    (l46 : K.lookup f46 = some ⟨oc46,od46,.func (fo "write_term" "write_term" s_write_term kv46 dc46 pm46 an46 cd46 ct46),sl46⟩)
    (d46 : W.codeIn K cd46 "write_term" = true)
    (k46 : W.keepIn K (.ref f46) = true)
    (a47 : W.nsIn K mainGlobals "write_names" = some (some (.ref f47)))
    (l47 : K.lookup f47 = some ⟨oc47,od47,.func (fo "write_names" "write_names" s_write_names kv47 dc47 pm47 an47 cd47 ct47),sl47⟩)
    (d47 : W.codeIn K cd47 "write_names" = true)
    (k47 : W.keepIn K (.ref f47) = true)
    (a48 : W.nsIn K mainGlobals "refusal_of" = some (some (.ref f48)))
    (l48 : K.lookup f48 = some ⟨oc48,od48,.func (fo "refusal_of" "refusal_of" s_refusal_of kv48 dc48 pm48 an48 cd48 ct48),sl48⟩)
    (d48 : W.codeIn K cd48 "refusal_of" = true)
    (k48 : W.keepIn K (.ref f48) = true)
    (a49 : W.findIn K (.ref c9C) "__init__" = some (some (.ref f49)))
    (i49 : W.isFn K (.ref f49) = true)
    (l49 : K.lookup f49 = some ⟨oc49,od49,.func (fo "__init__" "Line.__init__" s_Line_init kv49 dc49 pm49 an49 cd49 ct49),sl49⟩)
    (d49 : W.codeIn K cd49 "Line.__init__" = true)
    (k49 : W.keepIn K (.ref f49) = true)
    (a50 : W.findIn K (.ref c9C) "begin" = some (some (.ref f50)))
    (i50 : W.isFn K (.ref f50) = true)
    (l50 : K.lookup f50 = some ⟨oc50,od50,.func (fo "begin" "Line.begin" s_Line_begin kv50 dc50 pm50 an50 cd50 ct50),sl50⟩)
    (d50 : W.codeIn K cd50 "Line.begin" = true)
    (k50 : W.keepIn K (.ref f50) = true)
    (a51 : W.findIn K (.ref c9C) "define" = some (some (.ref f51)))
    (i51 : W.isFn K (.ref f51) = true)
    (l51 : K.lookup f51 = some ⟨oc51,od51,.func (fo "define" "Line.define" s_Line_define kv51 dc51 pm51 an51 cd51 ct51),sl51⟩)
    (d51 : W.codeIn K cd51 "Line.define" = true)
    (k51 : W.keepIn K (.ref f51) = true)
    (a52 : W.findIn K (.ref c9C) "normal" = some (some (.ref f52)))
    (i52 : W.isFn K (.ref f52) = true)
    (l52 : K.lookup f52 = some ⟨oc52,od52,.func (fo "normal" "Line.normal" s_Line_normal kv52 dc52 pm52 an52 cd52 ct52),sl52⟩)
    (d52 : W.codeIn K cd52 "Line.normal" = true)
    (k52 : W.keepIn K (.ref f52) = true)
    (a53 : W.findIn K (.ref c9C) "same" = some (some (.ref f53)))
    (i53 : W.isFn K (.ref f53) = true)
    (l53 : K.lookup f53 = some ⟨oc53,od53,.func (fo "same" "Line.same" s_Line_same kv53 dc53 pm53 an53 cd53 ct53),sl53⟩)
    (d53 : W.codeIn K cd53 "Line.same" = true)
    (k53 : W.keepIn K (.ref f53) = true)
    (a54 : W.findIn K (.ref c9C) "number" = some (some (.ref f54)))
    (i54 : W.isFn K (.ref f54) = true)
    (l54 : K.lookup f54 = some ⟨oc54,od54,.func (fo "number" "Line.number" s_Line_number kv54 dc54 pm54 an54 cd54 ct54),sl54⟩)
    (d54 : W.codeIn K cd54 "Line.number" = true)
    (k54 : W.keepIn K (.ref f54) = true)
    (a55 : W.findIn K (.ref c9C) "names" = some (some (.ref f55)))
    (i55 : W.isFn K (.ref f55) = true)
    (l55 : K.lookup f55 = some ⟨oc55,od55,.func (fo "names" "Line.names" s_Line_names kv55 dc55 pm55 an55 cd55 ct55),sl55⟩)
    (d55 : W.codeIn K cd55 "Line.names" = true)
    (k55 : W.keepIn K (.ref f55) = true)
    (a56 : W.findIn K (.ref c10C) "__init__" = some (some (.ref f56)))
    (i56 : W.isFn K (.ref f56) = true)
    (l56 : K.lookup f56 = some ⟨oc56,od56,.func (fo "__init__" "Tape.__init__" s_Tape_init kv56 dc56 pm56 an56 cd56 ct56),sl56⟩)
    (d56 : W.codeIn K cd56 "Tape.__init__" = true)
    (k56 : W.keepIn K (.ref f56) = true)
    (a57 : W.findIn K (.ref c10C) "has_more" = some (some (.ref f57)))
    (i57 : W.isFn K (.ref f57) = true)
    (l57 : K.lookup f57 = some ⟨oc57,od57,.func (fo "has_more" "Tape.has_more" s_Tape_has_more kv57 dc57 pm57 an57 cd57 ct57),sl57⟩)
    (d57 : W.codeIn K cd57 "Tape.has_more" = true)
    (k57 : W.keepIn K (.ref f57) = true)
    (a58 : W.findIn K (.ref c10C) "take_number" = some (some (.ref f58)))
    (i58 : W.isFn K (.ref f58) = true)
    (l58 : K.lookup f58 = some ⟨oc58,od58,.func (fo "take_number" "Tape.take_number" s_Tape_take_number kv58 dc58 pm58 an58 cd58 ct58),sl58⟩)
    (d58 : W.codeIn K cd58 "Tape.take_number" = true)
    (k58 : W.keepIn K (.ref f58) = true)
    (a59 : W.findIn K (.ref c10C) "take_row" = some (some (.ref f59)))
    (i59 : W.isFn K (.ref f59) = true)
    (l59 : K.lookup f59 = some ⟨oc59,od59,.func (fo "take_row" "Tape.take_row" s_Tape_take_row kv59 dc59 pm59 an59 cd59 ct59),sl59⟩)
    (d59 : W.codeIn K cd59 "Tape.take_row" = true)
    (k59 : W.keepIn K (.ref f59) = true)
    (a60 : W.nsIn K mainGlobals "answer_next" = some (some (.ref f60)))
    (l60 : K.lookup f60 = some ⟨oc60,od60,.func (fo "answer_next" "answer_next" s_answer_next kv60 dc60 pm60 an60 cd60 ct60),sl60⟩)
    (d60 : W.codeIn K cd60 "answer_next" = true)
    (k60 : W.keepIn K (.ref f60) = true)
    (a61 : W.nsIn K mainGlobals "answers" = some (some (.ref f61)))
    (l61 : K.lookup f61 = some ⟨oc61,od61,.func (fo "answers" "answers" s_answers kv61 dc61 pm61 an61 cd61 ct61),sl61⟩)
    (d61 : W.codeIn K cd61 "answers" = true)
    (k61 : W.keepIn K (.ref f61) = true)
    (pg0C : W.plainGet K c0C Str.empty = true)
    (hd0C : W.hasDictIn K c0C = true)
    (po0C : W.plainOver K c0C = true)
    (sa0C : W.findIn K (.ref c0C) "__setattr__" = some (some (.builtin "object.__setattr__")))
    (ma0C : W.makesIn K c0C = true)
    (kc0C : W.keepIn K (.ref c0C) = true)
    (n_Term_kind : W.findIn K (.ref c0C) "kind" = some none)
    (n_Term_size : W.findIn K (.ref c0C) "size" = some none)
    (n_Term_reach : W.findIn K (.ref c0C) "reach" = some none)
    (n_Term_label : W.findIn K (.ref c0C) "label" = some none)
    (n_Term_first : W.findIn K (.ref c0C) "first" = some none)
    (n_Term_second : W.findIn K (.ref c0C) "second" = some none)
    (x1C : W.excIn K c1C [.type "ValueError",.type "Exception",.type "BaseException",.type "object"] "ValueError.__new__" = true)
    (pg2C : W.plainGet K c2C Str.empty = true)
    (hd2C : W.hasDictIn K c2C = true)
    (po2C : W.plainOver K c2C = true)
    (sa2C : W.findIn K (.ref c2C) "__setattr__" = some (some (.builtin "object.__setattr__")))
    (ma2C : W.makesIn K c2C = true)
    (kc2C : W.keepIn K (.ref c2C) = true)
    (n_Row_begun : W.findIn K (.ref c2C) "begun" = some none)
    (n_Row_name : W.findIn K (.ref c2C) "name" = some none)
    (n_Row_term : W.findIn K (.ref c2C) "term" = some none)
    (pg3C : W.plainGet K c3C Str.empty = true)
    (hd3C : W.hasDictIn K c3C = true)
    (po3C : W.plainOver K c3C = true)
    (sa3C : W.findIn K (.ref c3C) "__setattr__" = some (some (.builtin "object.__setattr__")))
    (ma3C : W.makesIn K c3C = true)
    (kc3C : W.keepIn K (.ref c3C) = true)
    (n_Reader_defined : W.findIn K (.ref c3C) "defined" = some none)
    (n_Reader_rows : W.findIn K (.ref c3C) "rows" = some none)
    (n_Reader_depth : W.findIn K (.ref c3C) "depth" = some none)
    (n_Reader_owners : W.findIn K (.ref c3C) "owners" = some none)
    (n_Reader_unknown : W.findIn K (.ref c3C) "unknown" = some none)
    (pg4C : W.plainGet K c4C Str.empty = true)
    (hd4C : W.hasDictIn K c4C = true)
    (po4C : W.plainOver K c4C = true)
    (sa4C : W.findIn K (.ref c4C) "__setattr__" = some (some (.builtin "object.__setattr__")))
    (ma4C : W.makesIn K c4C = true)
    (kc4C : W.keepIn K (.ref c4C) = true)
    (n_Reading_term : W.findIn K (.ref c4C) "term" = some none)
    (n_Reading_unknown : W.findIn K (.ref c4C) "unknown" = some none)
    (pg5C : W.plainGet K c5C Str.empty = true)
    (hd5C : W.hasDictIn K c5C = true)
    (po5C : W.plainOver K c5C = true)
    (sa5C : W.findIn K (.ref c5C) "__setattr__" = some (some (.builtin "object.__setattr__")))
    (ma5C : W.makesIn K c5C = true)
    (kc5C : W.keepIn K (.ref c5C) = true)
    (n_Work_place : W.findIn K (.ref c5C) "place" = some none)
    (n_Work_around : W.findIn K (.ref c5C) "around" = some none)
    (n_Work_level : W.findIn K (.ref c5C) "level" = some none)
    (n_Work_size : W.findIn K (.ref c5C) "size" = some none)
    (n_Work_steps : W.findIn K (.ref c5C) "steps" = some none)
    (n_Work_finished : W.findIn K (.ref c5C) "finished" = some none)
    (pg6C : W.plainGet K c6C Str.empty = true)
    (hd6C : W.hasDictIn K c6C = true)
    (po6C : W.plainOver K c6C = true)
    (sa6C : W.findIn K (.ref c6C) "__setattr__" = some (some (.builtin "object.__setattr__")))
    (ma6C : W.makesIn K c6C = true)
    (kc6C : W.keepIn K (.ref c6C) = true)
    (n_FunctionNames_taken : W.findIn K (.ref c6C) "taken" = some none)
    (n_FunctionNames_chosen : W.findIn K (.ref c6C) "chosen" = some none)
    (n_FunctionNames_tried : W.findIn K (.ref c6C) "tried" = some none)
    (pg7C : W.plainGet K c7C Str.empty = true)
    (hd7C : W.hasDictIn K c7C = true)
    (po7C : W.plainOver K c7C = true)
    (sa7C : W.findIn K (.ref c7C) "__setattr__" = some (some (.builtin "object.__setattr__")))
    (ma7C : W.makesIn K c7C = true)
    (kc7C : W.keepIn K (.ref c7C) = true)
    (n_Part_term : W.findIn K (.ref c7C) "term" = some none)
    (n_Part_level : W.findIn K (.ref c7C) "level" = some none)
    (n_Part_is_last : W.findIn K (.ref c7C) "is_last" = some none)
    (n_Part_is_argument : W.findIn K (.ref c7C) "is_argument" = some none)
    (x8C : W.excIn K c8C [.type "ValueError",.type "Exception",.type "BaseException",.type "object"] "ValueError.__new__" = true)
    (pg9C : W.plainGet K c9C Str.empty = true)
    (hd9C : W.hasDictIn K c9C = true)
    (po9C : W.plainOver K c9C = true)
    (sa9C : W.findIn K (.ref c9C) "__setattr__" = some (some (.builtin "object.__setattr__")))
    (ma9C : W.makesIn K c9C = true)
    (kc9C : W.keepIn K (.ref c9C) = true)
    (n_Line_defined : W.findIn K (.ref c9C) "defined" = some none)
    (pg10C : W.plainGet K c10C Str.empty = true)
    (hd10C : W.hasDictIn K c10C = true)
    (po10C : W.plainOver K c10C = true)
    (sa10C : W.findIn K (.ref c10C) "__setattr__" = some (some (.builtin "object.__setattr__")))
    (ma10C : W.makesIn K c10C = true)
    (kc10C : W.keepIn K (.ref c10C) = true)
    (n_Tape_numbers : W.findIn K (.ref c10C) "numbers" = some none)
    (n_Tape_at : W.findIn K (.ref c10C) "at" = some none)
    (V0 : W.nsIn K mainGlobals "FREE" = some (some (.int (0) T0)))
    (V1 : W.nsIn K mainGlobals "BOUND" = some (some (.int (1) T1)))
    (V2 : W.nsIn K mainGlobals "OUTER" = some (some (.int (2) T2)))
    (V3 : W.nsIn K mainGlobals "APPLICATION" = some (some (.int (3) T3)))
    (V4 : W.nsIn K mainGlobals "FUNCTION" = some (some (.int (4) T4)))
    (V5 : W.nsIn K mainGlobals "TAB" = some (some (.int (9) T5)))
    (V6 : W.nsIn K mainGlobals "LINE_FEED" = some (some (.int (10) T6)))
    (V7 : W.nsIn K mainGlobals "SPACE" = some (some (.int (32) T7)))
    (V8 : W.nsIn K mainGlobals "LEFT_PARENTHESIS" = some (some (.int (40) T8)))
    (V9 : W.nsIn K mainGlobals "RIGHT_PARENTHESIS" = some (some (.int (41) T9)))
    (V10 : W.nsIn K mainGlobals "POINT" = some (some (.int (46) T10)))
    (V11 : W.nsIn K mainGlobals "DIGIT_0" = some (some (.int (48) T11)))
    (V12 : W.nsIn K mainGlobals "DIGIT_9" = some (some (.int (57) T12)))
    (V13 : W.nsIn K mainGlobals "BACKSLASH" = some (some (.int (92) T13)))
    (V14 : W.nsIn K mainGlobals "LETTER_A" = some (some (.int (97) T14)))
    (V15 : W.nsIn K mainGlobals "LETTER_Z" = some (some (.int (122) T15)))
    (V16 : W.nsIn K mainGlobals "LONGEST_NAME" = some (some (.int (8) T16)))
    (V17 : W.nsIn K mainGlobals "BY_START" = some (some (.int (0) T17)))
    (V18 : W.nsIn K mainGlobals "BY_PARENTHESIS" = some (some (.int (1) T18)))
    (V19 : W.nsIn K mainGlobals "BY_FUNCTION" = some (some (.int (2) T19)))
    (V20 : W.nsIn K mainGlobals "MOST_SIZE" = some (some (.int (4096) T20)))
    (V21 : W.nsIn K mainGlobals "MOST_STEPS" = some (some (.int (100000) T21)))
    (V22 : W.nsIn K mainGlobals "APPLIED_TO" = some (some (.int (0) T22)))
    (V23 : W.nsIn K mainGlobals "ARGUMENT_OF" = some (some (.int (1) T23)))
    (V24 : W.nsIn K mainGlobals "IN_FUNCTION" = some (some (.int (2) T24)))
    (V25 : W.nsIn K mainGlobals "LETTERS" = some (some (.int (26) T25)))
    (V26 : W.nsIn K mainGlobals "LONGEST_TEXT" = some (some (.int (2048) T26)))
    (V27 : W.nsIn K mainGlobals "MOST_DEFINED_SIZE" = some (some (.int (1024) T27)))
    (V28 : W.nsIn K mainGlobals "MOST_DEFINED" = some (some (.int (16) T28)))
    (V29 : W.nsIn K mainGlobals "WRONG_FORM" = some (some (.int (-1) T29)))
    (V30 : W.nsIn K mainGlobals "NO_TERM" = some (some (.int (-2) T30)))
    (V31 : W.nsIn K mainGlobals "UNKNOWN_NAME" = some (some (.int (-3) T31)))
    (V32 : W.nsIn K mainGlobals "NOT_NORMAL" = some (some (.int (-4) T32)))
    (V33 : W.nsIn K mainGlobals "TOO_LARGE" = some (some (.int (-5) T33)))
    (V34 : W.nsIn K mainGlobals "TOO_LONG" = some (some (.int (-6) T34)))
    (V35 : W.nsIn K mainGlobals "TOO_MANY" = some (some (.int (-7) T35)))
    (V36 : W.nsIn K mainGlobals "NO_NUMBER" = some (some (.int (-8) T36)))
    (V37 : W.nsIn K mainGlobals "BEGIN" = some (some (.int (0) T37)))
    (V38 : W.nsIn K mainGlobals "DEFINE" = some (some (.int (1) T38)))
    (V39 : W.nsIn K mainGlobals "NORMAL" = some (some (.int (2) T39)))
    (V40 : W.nsIn K mainGlobals "SAME" = some (some (.int (3) T40)))
    (V41 : W.nsIn K mainGlobals "NUMBER" = some (some (.int (4) T41)))
    (V42 : W.nsIn K mainGlobals "NAMES" = some (some (.int (5) T42)))
    (b_all : W.nsIn K mainGlobals "all" = some none)
    (b_min : W.nsIn K mainGlobals "min" = some none)
    (b_tuple : W.nsIn K mainGlobals "tuple" = some none)
    (b_len : W.nsIn K mainGlobals "len" = some none)
    (b_list : W.nsIn K mainGlobals "list" = some none)
    (b_isinstance : W.nsIn K mainGlobals "isinstance" = some none)
    (b_ord : W.nsIn K mainGlobals "ord" = some none)
    (b_str : W.nsIn K mainGlobals "str" = some none)
    (b_reversed : W.nsIn K mainGlobals "reversed" = some none)
    (ha_Part : W.findIn K (.ref c7C) "__class__" = some (some (.builtin "object.__class__")))
    (hm_Part : W.mroIn K c7C (.type "object") = some true)
    (ki_Part_list : W.kitOne K (.ref c7C) (.type "list") = some false)
    (hn_class : W.specialIn K (.builtin "object.__class__") "__get__" = some (some (.builtin "getset_descriptor.__get__")))
    (htk_class : W.takesIn K (.builtin "object.__class__") = some true) :
    ∃ a : Ad,Tx K mg a := by
  exact ⟨⟨c0C,c1C,c2C,c3C,c4C,c5C,c6C,c7C,c8C,c9C,c10C,f0,f1,f2,f3,f4,f5,f6,f7,f8,f9,f10,f11,f12,f13,f14,f15,f16,f17,f18,f19,f20,f21,f22,f23,f24,f25,f26,f27,f28,f29,f30,f31,f32,f33,f34,f35,f36,f37,f38,f39,f40,f41,f42,f43,f44,f45,f46,f47,f48,f49,f50,f51,f52,f53,f54,f55,f56,f57,f58,f59,f60,f61⟩,
    ⟨W.mg_of X G a0C,⟨pg0C,hd0C,po0C,sa0C⟩,⟨ma0C,a0,i0,kc0C⟩,n_Term_kind,n_Term_size,n_Term_reach,n_Term_label,n_Term_first,n_Term_second,W.mg_of X G a1C,x1C,W.mg_of X G a2C,⟨pg2C,hd2C,po2C,sa2C⟩,⟨ma2C,a15,i15,kc2C⟩,n_Row_begun,n_Row_name,n_Row_term,W.mg_of X G a3C,⟨pg3C,hd3C,po3C,sa3C⟩,⟨ma3C,a16,i16,kc3C⟩,n_Reader_defined,n_Reader_rows,n_Reader_depth,n_Reader_owners,n_Reader_unknown,⟨a17,i17,k17⟩,⟨a18,i18,k18⟩,⟨a19,i19,k19⟩,⟨a20,i20,k20⟩,⟨a21,i21,k21⟩,⟨a22,i22,k22⟩,⟨a23,i23,k23⟩,W.mg_of X G a4C,⟨pg4C,hd4C,po4C,sa4C⟩,⟨ma4C,a26,i26,kc4C⟩,n_Reading_term,n_Reading_unknown,W.mg_of X G a5C,⟨pg5C,hd5C,po5C,sa5C⟩,⟨ma5C,a30,i30,kc5C⟩,n_Work_place,n_Work_around,n_Work_level,n_Work_size,n_Work_steps,n_Work_finished,⟨a31,i31,k31⟩,⟨a32,i32,k32⟩,⟨a33,i33,k33⟩,⟨a34,i34,k34⟩,⟨a35,i35,k35⟩,W.mg_of X G a6C,⟨pg6C,hd6C,po6C,sa6C⟩,⟨ma6C,a39,i39,kc6C⟩,n_FunctionNames_taken,n_FunctionNames_chosen,n_FunctionNames_tried,⟨a40,i40,k40⟩,W.mg_of X G a7C,⟨pg7C,hd7C,po7C,sa7C⟩,⟨ma7C,a41,i41,kc7C⟩,n_Part_term,n_Part_level,n_Part_is_last,n_Part_is_argument,W.mg_of X G a8C,x8C,W.mg_of X G a9C,⟨pg9C,hd9C,po9C,sa9C⟩,⟨ma9C,a49,i49,kc9C⟩,n_Line_defined,⟨a50,i50,k50⟩,⟨a51,i51,k51⟩,⟨a52,i52,k52⟩,⟨a53,i53,k53⟩,⟨a54,i54,k54⟩,⟨a55,i55,k55⟩,W.mg_of X G a10C,⟨pg10C,hd10C,po10C,sa10C⟩,⟨ma10C,a56,i56,kc10C⟩,n_Tape_numbers,n_Tape_at,⟨a57,i57,k57⟩,⟨a58,i58,k58⟩,⟨a59,i59,k59⟩,fnd l0 d0 k0,fnd l1 d1 k1,W.mg_of X G a1,k1,fnd l2 d2 k2,W.mg_of X G a2,k2,fnd l3 d3 k3,W.mg_of X G a3,k3,fnd l4 d4 k4,W.mg_of X G a4,k4,fnd l5 d5 k5,W.mg_of X G a5,k5,fnd l6 d6 k6,W.mg_of X G a6,k6,fnd l7 d7 k7,W.mg_of X G a7,k7,fnd l8 d8 k8,W.mg_of X G a8,k8,fnd l9 d9 k9,W.mg_of X G a9,k9,fnd l10 d10 k10,W.mg_of X G a10,k10,fnd l11 d11 k11,W.mg_of X G a11,k11,fnd l12 d12 k12,W.mg_of X G a12,k12,fnd l13 d13 k13,W.mg_of X G a13,k13,fnd l14 d14 k14,W.mg_of X G a14,k14,fnd l15 d15 k15,fnd l16 d16 k16,fnd l17 d17 k17,fnd l18 d18 k18,fnd l19 d19 k19,fnd l20 d20 k20,fnd l21 d21 k21,fnd l22 d22 k22,fnd l23 d23 k23,fnd l24 d24 k24,W.mg_of X G a24,k24,fnd l25 d25 k25,W.mg_of X G a25,k25,fnd l26 d26 k26,fnd l27 d27 k27,W.mg_of X G a27,k27,fnd l28 d28 k28,W.mg_of X G a28,k28,fnd l29 d29 k29,W.mg_of X G a29,k29,fnd l30 d30 k30,fnd l31 d31 k31,fnd l32 d32 k32,fnd l33 d33 k33,fnd l34 d34 k34,fnd l35 d35 k35,fnd l36 d36 k36,W.mg_of X G a36,k36,fnd l37 d37 k37,W.mg_of X G a37,k37,fnd l38 d38 k38,W.mg_of X G a38,k38,fnd l39 d39 k39,fnd l40 d40 k40,fnd l41 d41 k41,fnd l42 d42 k42,W.mg_of X G a42,k42,fnd l43 d43 k43,W.mg_of X G a43,k43,fnd l44 d44 k44,W.mg_of X G a44,k44,fnd l45 d45 k45,W.mg_of X G a45,k45,fnd l46 d46 k46,W.mg_of X G a46,k46,fnd l47 d47 k47,W.mg_of X G a47,k47,fnd l48 d48 k48,W.mg_of X G a48,k48,fnd l49 d49 k49,fnd l50 d50 k50,fnd l51 d51 k51,fnd l52 d52 k52,fnd l53 d53 k53,fnd l54 d54 k54,fnd l55 d55 k55,fnd l56 d56 k56,fnd l57 d57 k57,fnd l58 d58 k58,fnd l59 d59 k59,fnd l60 d60 k60,W.mg_of X G a60,k60,fnd l61 d61 k61,W.mg_of X G a61,k61,⟨_,W.mg_of X G V0⟩,⟨_,W.mg_of X G V1⟩,⟨_,W.mg_of X G V2⟩,⟨_,W.mg_of X G V3⟩,⟨_,W.mg_of X G V4⟩,⟨_,W.mg_of X G V5⟩,⟨_,W.mg_of X G V6⟩,⟨_,W.mg_of X G V7⟩,⟨_,W.mg_of X G V8⟩,⟨_,W.mg_of X G V9⟩,⟨_,W.mg_of X G V10⟩,⟨_,W.mg_of X G V11⟩,⟨_,W.mg_of X G V12⟩,⟨_,W.mg_of X G V13⟩,⟨_,W.mg_of X G V14⟩,⟨_,W.mg_of X G V15⟩,⟨_,W.mg_of X G V16⟩,⟨_,W.mg_of X G V17⟩,⟨_,W.mg_of X G V18⟩,⟨_,W.mg_of X G V19⟩,⟨_,W.mg_of X G V20⟩,⟨_,W.mg_of X G V21⟩,⟨_,W.mg_of X G V22⟩,⟨_,W.mg_of X G V23⟩,⟨_,W.mg_of X G V24⟩,⟨_,W.mg_of X G V25⟩,⟨_,W.mg_of X G V26⟩,⟨_,W.mg_of X G V27⟩,⟨_,W.mg_of X G V28⟩,⟨_,W.mg_of X G V29⟩,⟨_,W.mg_of X G V30⟩,⟨_,W.mg_of X G V31⟩,⟨_,W.mg_of X G V32⟩,⟨_,W.mg_of X G V33⟩,⟨_,W.mg_of X G V34⟩,⟨_,W.mg_of X G V35⟩,⟨_,W.mg_of X G V36⟩,⟨_,W.mg_of X G V37⟩,⟨_,W.mg_of X G V38⟩,⟨_,W.mg_of X G V39⟩,⟨_,W.mg_of X G V40⟩,⟨_,W.mg_of X G V41⟩,⟨_,W.mg_of X G V42⟩,W.mg_none_of X G b_all,W.mg_none_of X G b_min,W.mg_none_of X G b_tuple,W.mg_none_of X G b_len,W.mg_none_of X G b_list,W.mg_none_of X G b_isinstance,W.mg_none_of X G b_ord,W.mg_none_of X G b_str,W.mg_none_of X G b_reversed,ha_Part,hm_Part,ki_Part_list,hn_class,htk_class⟩⟩
end Ft
open PySem PySem.W PyProof.Rows
namespace Ft
open PySem.W (Codec)
theorem all_ok {P : Program} {w : World} {K : PySem.W.Frag} {h : Heap} {mg : Str -> Option Value} {fa : Addr} {a : Ad} (X : K.In h) (G : h.Ns mainGlobals mg) (hfa : mg "answers" = some (.ref fa)) (T : Tx K mg a) :
  ∃ fd : FuncData,(∀ (s : Shared) (us : List Value),us.length = (["calls"] : List Str).length -> BindsTo s fd ⟨us,[]⟩ ((["calls"] : List Str).zip us)) /\ ∀ base : Heap,K.In base -> base.Ns mainGlobals mg -> L2.FnOk P w K mg base L2.CX0 60 fa fd ["calls"] (spAns K) :=
  all_of (h := h) hfa T
end Ft
namespace PySem.W.Fast
theorem tw17347454386627677212 : True := trivial
theorem tw15745513528226339577 : True := trivial
theorem tw15719619930526309462 : True := trivial
theorem tw11954685919556055397 : True := trivial
theorem tw10785311051222913392 : True := trivial
theorem tw3343184821836591934 : True := trivial
theorem tw7096416084539221217 : True := trivial
theorem tw4779789754642146293 : True := trivial
theorem tw5149721097903033864 : True := trivial
theorem tw5099939548309391194 : True := trivial
theorem tw15554089264778241963 : True := trivial
theorem tw15844431462400920513 : True := trivial
theorem tw6552736677805440349 : True := trivial
theorem tw1672098216775732092 : True := trivial
theorem tw12495953711009250526 : True := trivial
theorem tw18166358646340328571 : True := trivial
theorem tw9999534091100432475 : True := trivial
theorem tw6232137368826982376 : True := trivial
theorem tw9236900544326202890 : True := trivial
theorem tw13740348222340219392 : True := trivial
theorem tw14261594777040122466 : True := trivial
theorem tw12292128645531339163 : True := trivial
theorem tw13186581946461230350 : True := trivial
theorem tw3108999119128772994 : True := trivial
theorem tw7533430754010749959 : True := trivial
theorem tw8762401659179200292 : True := trivial
theorem tw13931764203649269205 : True := trivial
theorem tw3639407365632856585 : True := trivial
theorem tw13009497941167051190 : True := trivial
theorem tw14910752001328235976 : True := trivial
theorem tw9493025973576753322 : True := trivial
theorem tw5349862845214482566 : True := trivial
theorem tw6473865650973278461 : True := trivial
theorem tw12193347855053275302 : True := trivial
theorem tw13874839989380378713 : True := trivial
theorem tw3172973887592310601 : True := trivial
theorem tw106409473704295359 : True := trivial
theorem tw15075332335524272539 : True := trivial
theorem tw11234342936391486705 : True := trivial
theorem tw8588922247313548847 : True := trivial
theorem tw11855979463923664193 : True := trivial
theorem tw2857787653793957601 : True := trivial
theorem tw14493547331936188586 : True := trivial
theorem tw4501111304579907663 : True := trivial
theorem tw16158248429674446963 : True := trivial
theorem tw9298713959239762760 : True := trivial
theorem tw8383023282937386014 : True := trivial
theorem tw17616877966764804117 : True := trivial
theorem tw7158843543349821809 : True := trivial
theorem tw12236533954037926389 : True := trivial
theorem tw1546512358067760714 : True := trivial
theorem tw18094616634210724357 : True := trivial
theorem tw10325854861393567212 : True := trivial
theorem tw807331408392921069 : True := trivial
theorem tw15715484804543276090 : True := trivial
theorem tw4670630354728244272 : True := trivial
theorem tw99995839924521862 : True := trivial
theorem tw10776066739566479258 : True := trivial
theorem tw944108499701273988 : True := trivial
theorem tw14944657042117814239 : True := trivial
theorem tw7101470786451757095 : True := trivial
theorem tw11002396337959368129 : True := trivial
theorem tw46101893840771114 : True := trivial
theorem tw18378877953162776983 : True := trivial
theorem tw14812558577221750439 : True := trivial
theorem tw3367631708457617357 : True := trivial
theorem tw17399883950927761094 : True := trivial
theorem tw6789925176555708499 : True := trivial
theorem tw14070701377258149823 : True := trivial
theorem tw528351768105990959 : True := trivial
theorem tw7091672014243696513 : True := trivial
theorem tw16011599372276715117 : True := trivial
theorem tw3197838111712762860 : True := trivial
theorem tw6897367540697471163 : True := trivial
theorem tw222273816142741727 : True := trivial
theorem tw147320486841913643 : True := trivial
theorem tw332817813900363089 : True := trivial
theorem tw104088479188466470 : True := trivial
theorem tw5738010722402022346 : True := trivial
theorem tw9461324642814215124 : True := trivial
theorem tw1149149399269913415 : True := trivial
theorem tw5934415570001371149 : True := trivial
theorem tw5078448241868931306 : True := trivial
theorem tw12227029136765166841 : True := trivial
theorem tw15318475497166975915 : True := trivial
theorem tw16764036234648970043 : True := trivial
theorem tw8924950016445364232 : True := trivial
theorem tw7128117554760492079 : True := trivial
theorem tw561796422943502452 : True := trivial
theorem tw12564702784820321130 : True := trivial
theorem tw14459497715016272151 : True := trivial
theorem tw6537113736720167658 : True := trivial
theorem tw15359996156258453802 : True := trivial
theorem tw60721263519143723 : True := trivial
theorem tw9754814623576747189 : True := trivial
theorem tw12469176321696584819 : True := trivial
theorem tw11247292509494730793 : True := trivial
theorem tw2655642942942118330 : True := trivial
theorem tw17388753337999880775 : True := trivial
theorem tw2925020050589503230 : True := trivial
theorem tw15444145213355217749 : True := trivial
theorem tw2389947428625116215 : True := trivial
theorem tw16249855772053964880 : True := trivial
theorem tw14541392919753917497 : True := trivial
theorem tw11972643306365576388 : True := trivial
theorem tw4947691982950315528 : True := trivial
theorem tw6879908586267764419 : True := trivial
theorem tw15090080480799289828 : True := trivial
theorem tw16362050812476154948 : True := trivial
theorem tw3010171308745003190 : True := trivial
theorem tw7777251702469260573 : True := trivial
theorem tw8468410393044010899 : True := trivial
theorem tw12634618522838103069 : True := trivial
theorem tw13133600230231302479 : True := trivial
theorem tw14062660117182056999 : True := trivial
theorem tw13561991403038987351 : True := trivial
theorem tw3102961415810912918 : True := trivial
theorem tw10683704445068650425 : True := trivial
theorem tw16913910506163454427 : True := trivial
theorem tw7444372272433750270 : True := trivial
theorem tw13928272423163966354 : True := trivial
theorem tw11338144481810806969 : True := trivial
theorem tw16249575997552452239 : True := trivial
theorem tw8140963521103456736 : True := trivial
theorem tw14521497342282505265 : True := trivial
theorem tw16005996131735114837 : True := trivial
theorem tw8066481778860660892 : True := trivial
theorem tw5010048884758932082 : True := trivial
theorem tw17064607350471577341 : True := trivial
theorem tw5684636411823217128 : True := trivial
theorem tw17370275257993670571 : True := trivial
theorem tw12836983548832022740 : True := trivial
theorem tw3306794343924302262 : True := trivial
theorem tw15859200173506435981 : True := trivial
theorem tw4585110184159899437 : True := trivial
theorem tw9661273802734046806 : True := trivial
theorem tw10376059369111290894 : True := trivial
theorem tw9819553611305365585 : True := trivial
theorem tw2443323946881572613 : True := trivial
theorem tw10792599659502512759 : True := trivial
theorem tw285657068998356142 : True := trivial
theorem tw15579207989791313423 : True := trivial
theorem tw10528317800776695356 : True := trivial
theorem tw4456984900418502034 : True := trivial
theorem tw7505006468881305953 : True := trivial
theorem tw2328992316917925403 : True := trivial
theorem tw13258400183764929370 : True := trivial
theorem tw5476174177121924101 : True := trivial
theorem tw16545315050773033241 : True := trivial
theorem tw2216789898786888205 : True := trivial
theorem tw853213843360368101 : True := trivial
theorem tw13830729807089885614 : True := trivial
theorem tw8330922601281837388 : True := trivial
theorem tw9441548615777835256 : True := trivial
theorem tw11479473887020134960 : True := trivial
theorem tw4434862711197005784 : True := trivial
theorem tw6275932163876734873 : True := trivial
theorem tw13266153715924198160 : True := trivial
theorem tw5167933240956589574 : True := trivial
theorem tw1258914332323417946 : True := trivial
theorem tw12651496487374090817 : True := trivial
theorem tw10637116360747990186 : True := trivial
theorem tw2484761262671551064 : True := trivial
theorem tw302489052698797896 : True := trivial
theorem tw11991363941861884681 : True := trivial
theorem tw9755825930389094465 : True := trivial
theorem tw11874527943519410401 : True := trivial
theorem tw15255871944948274529 : True := trivial
theorem tw7871466351803583623 : True := trivial
theorem tw18038043303613866157 : True := trivial
theorem tw12709032027952661112 : True := trivial
theorem tw16420158866865199653 : True := trivial
theorem tw1185418043177416389 : True := trivial
theorem tw7087353160082047171 : True := trivial
theorem tw17245230185164376049 : True := trivial
theorem tw4532794467208228580 : True := trivial
theorem tw9531193775473543613 : True := trivial
theorem tw5016241920874672262 : True := trivial
theorem tw2220914613476631500 : True := trivial
theorem tw1790024648631393767 : True := trivial
theorem tw10942364823808603563 : True := trivial
theorem tw14706325825307009332 : True := trivial
theorem tw14036727115387462671 : True := trivial
theorem tw11821453837067985088 : True := trivial
theorem tw15840081468865489428 : True := trivial
theorem tw4287734775432463028 : True := trivial
theorem tw6348631031387817209 : True := trivial
theorem tw6510728532622157293 : True := trivial
theorem tw15231257194291854872 : True := trivial
theorem tw5449586024121700418 : True := trivial
theorem tw4670388602157219256 : True := trivial
theorem tw17973279630348578415 : True := trivial
theorem tw15840568408183916858 : True := trivial
theorem tw3025859449202520060 : True := trivial
theorem tw12988729045108858471 : True := trivial
theorem tw5513689244445070043 : True := trivial
theorem tw4071137765366100522 : True := trivial
theorem tw10668318294353620415 : True := trivial
theorem tw1687440232170318134 : True := trivial
theorem tw33968522790623151 : True := trivial
theorem tw16908504962934888250 : True := trivial
theorem tw8348858771114934352 : True := trivial
theorem tw7631986144352499945 : True := trivial
theorem tw11158721218737327155 : True := trivial
theorem tw2063725882756421598 : True := trivial
theorem tw4015245479422121785 : True := trivial
theorem tw5037907041438465416 : True := trivial
theorem tw6376820801305591487 : True := trivial
theorem tw4279540355727519733 : True := trivial
theorem tw1258237053521720082 : True := trivial
theorem tw18098855418775405672 : True := trivial
theorem tw15800202383376299929 : True := trivial
theorem tw12207262804284785063 : True := trivial
theorem tw9371134541350531326 : True := trivial
theorem tw13205449918357030826 : True := trivial
theorem tw13785883055015640257 : True := trivial
theorem tw15735734181806661392 : True := trivial
theorem tw11582166699994818979 : True := trivial
theorem tw6272029170174377234 : True := trivial
theorem tw2924552221097126082 : True := trivial
theorem tw12929863577144910607 : True := trivial
theorem tw3970949401025341802 : True := trivial
theorem tw1490966935344499525 : True := trivial
theorem tw6101785751641635544 : True := trivial
theorem tw130355366654138891 : True := trivial
theorem tw4357624706939839592 : True := trivial
theorem tw3219015157669957070 : True := trivial
theorem tw11727810835365967852 : True := trivial
theorem tw13011885339576138796 : True := trivial
theorem tw5197254550362422721 : True := trivial
theorem tw3591844941894734763 : True := trivial
theorem tw11599792014809683725 : True := trivial
theorem tw2342875896221429056 : True := trivial
theorem tw13736680172834998547 : True := trivial
theorem tw3408254988883677383 : True := trivial
theorem tw7142735118191763756 : True := trivial
theorem tw16779620173623796345 : True := trivial
theorem tw6856421967244057883 : True := trivial
theorem tw5982263161805923307 : True := trivial
theorem tw16637994559057063851 : True := trivial
theorem tw4940235064627194176 : True := trivial
theorem tw882108325585661543 : True := trivial
theorem tw3833321363401699685 : True := trivial
theorem tw110424406672361165 : True := trivial
theorem tw11767232660502735181 : True := trivial
theorem tw6058897697620902473 : True := trivial
theorem tw16710916900684034100 : True := trivial
theorem tw866433776663995443 : True := trivial
theorem tw12983637341879115897 : True := trivial
theorem tw17968329173055290591 : True := trivial
theorem tw7969970898784125605 : True := trivial
theorem tw6853053458283380551 : True := trivial
theorem tw5117289275911334309 : True := trivial
theorem tw10739410124636578260 : True := trivial
theorem tw13922687987817223829 : True := trivial
theorem tw14754587810324931216 : True := trivial
theorem tw1222472162960842452 : True := trivial
theorem tw9322293761150907802 : True := trivial
theorem tw4141307769598077738 : True := trivial
theorem tw16504118592638107233 : True := trivial
theorem tw9712866830371314055 : True := trivial
theorem tw15160567164596367357 : True := trivial
theorem tw5548645581515502656 : True := trivial
theorem tw11902720932460737707 : True := trivial
theorem tw3714366516132710814 : True := trivial
theorem tw2290629901770260130 : True := trivial
theorem tw8439930443472448837 : True := trivial
theorem tw16186558777720767050 : True := trivial
theorem tw18439584205241593307 : True := trivial
theorem tw10342773254840341811 : True := trivial
theorem tw10140789863566739418 : True := trivial
theorem tw11948259862210594385 : True := trivial
theorem tw5511960730752778153 : True := trivial
theorem tw4990396350535130390 : True := trivial
theorem tw3609831927710280992 : True := trivial
theorem tw3166231662594351782 : True := trivial
theorem tw2602707020505218505 : True := trivial
theorem tw261817862413636489 : True := trivial
theorem tw6688484114568072737 : True := trivial
theorem tw13917172107199163878 : True := trivial
theorem tw6577371468551901123 : True := trivial
theorem tw2328281345008924745 : True := trivial
theorem tw15794866183356220388 : True := trivial
theorem tw2697336764507569948 : True := trivial
theorem tw15748029993559548212 : True := trivial
theorem tw8021174226362980363 : True := trivial
theorem tw8989076514670210843 : True := trivial
theorem tw2617304917107612171 : True := trivial
theorem tw15796487378697265956 : True := trivial
theorem tw11994276823401858748 : True := trivial
theorem tw11120809439222408193 : True := trivial
theorem tw5924294862859181318 : True := trivial
theorem tw525374585296764509 : True := trivial
theorem tw3950380457657113231 : True := trivial
theorem tw17880780369345955750 : True := trivial
theorem tw2076313588114857792 : True := trivial
theorem tw3664009924832558845 : True := trivial
theorem tw17385707417675170444 : True := trivial
theorem tw13982426080534718753 : True := trivial
theorem tw2622013235720749860 : True := trivial
theorem tw458115828908936416 : True := trivial
theorem tw17329029936159997171 : True := trivial
theorem tw2026169653415341094 : True := trivial
theorem tw12703514972766305740 : True := trivial
theorem tw14292084068906683590 : True := trivial
theorem tw312796549275182443 : True := trivial
theorem tw9602082481826142595 : True := trivial
theorem tw12939348674520581342 : True := trivial
theorem tw9617056953236594559 : True := trivial
theorem tw10295218067331089951 : True := trivial
theorem tw7890808801239900735 : True := trivial
theorem tw3399316514752575853 : True := trivial
theorem tw11991991659782541404 : True := trivial
theorem tw4687634877710781715 : True := trivial
theorem tw18044073232696288975 : True := trivial
theorem tw13227618568339412018 : True := trivial
theorem tw9716853767159264618 : True := trivial
theorem tw13829312380318172528 : True := trivial
theorem tw16778890150275331812 : True := trivial
theorem tw17959106708394365448 : True := trivial
end PySem.W.Fast
set_option maxRecDepth 100000 in
set_option maxHeartbeats 0 in
theorem PySem.Challenge.cw_functionterms_s01_answers_holds : PySem.Challenge.rw_functionterms_s01_answers.Holds := by
  w_on; k_headS; (case hw => exact ⟨[.list [.int 0]],by decide +kernel,by decide +kernel⟩)
  k_fillS
  refine L2.walk_specK (r := PySem.Challenge.rw_functionterms_s01_answers) (k := 60) (CX := L2.CX0) (ps := ["calls"]) (sp := Ft.spAns) (by decide +kernel) rfl rfl ⟨rfl,by decide,by decide⟩ (fun w h Y => PySem.W.kIn_of Y) ?F ?S (fun _ _ _ _ z => z)
  case F =>
    intro w mg fa h Y KX G hmg
    have T : ∃ a : Ft.Ad,Ft.Tx (L2.KOf KX) mg a := by
      dsimp only [L2.KOf]
      refine' Ft.tx_mk KX G ?a0C ?a1C ?a2C ?a3C ?a4C ?a5C ?a6C ?a7C ?a8C ?a9C ?a10C ?a0 ?i0 ?l0 ?d0 ?k0 ?a1 ?l1 ?d1 ?k1 ?a2 ?l2 ?d2 ?k2 ?a3 ?l3 ?d3 ?k3 ?a4 ?l4 ?d4 ?k4 ?a5 ?l5 ?d5 ?k5 ?a6 ?l6 ?d6 ?k6 ?a7 ?l7 ?d7 ?k7 ?a8 ?l8 ?d8 ?k8 ?a9 ?l9 ?d9 ?k9 ?a10 ?l10 ?d10 ?k10 ?a11 ?l11 ?d11 ?k11 ?a12 ?l12 ?d12 ?k12 ?a13 ?l13 ?d13 ?k13 ?a14 ?l14 ?d14 ?k14 ?a15 ?i15 ?l15 ?d15 ?k15 ?a16 ?i16 ?l16 ?d16 ?k16 ?a17 ?i17 ?l17 ?d17 ?k17 ?a18 ?i18 ?l18 ?d18 ?k18 ?a19 ?i19 ?l19 ?d19 ?k19 ?a20 ?i20 ?l20 ?d20 ?k20 ?a21 ?i21 ?l21 ?d21 ?k21 ?a22 ?i22 ?l22 ?d22 ?k22 ?a23 ?i23 ?l23 ?d23 ?k23 ?a24 ?l24 ?d24 ?k24 ?a25 ?l25 ?d25 ?k25 ?a26 ?i26 ?l26 ?d26 ?k26 ?a27 ?l27 ?d27 ?k27 ?a28 ?l28 ?d28 ?k28 ?a29 ?l29 ?d29 ?k29 ?a30 ?i30 ?l30 ?d30 ?k30 ?a31 ?i31 ?l31 ?d31 ?k31 ?a32 ?i32 ?l32 ?d32 ?k32 ?a33 ?i33 ?l33 ?d33 ?k33 ?a34 ?i34 ?l34 ?d34 ?k34 ?a35 ?i35 ?l35 ?d35 ?k35 ?a36 ?l36 ?d36 ?k36 ?a37 ?l37 ?d37 ?k37 ?a38 ?l38 ?d38 ?k38 ?a39 ?i39 ?l39 ?d39 ?k39 ?a40 ?i40 ?l40 ?d40 ?k40 ?a41 ?i41 ?l41 ?d41 ?k41 ?a42 ?l42 ?d42 ?k42 ?a43 ?l43 ?d43 ?k43 ?a44 ?l44 ?d44 ?k44 ?a45 ?l45 ?d45 ?k45 ?a46 ?l46 ?d46 ?k46 ?a47 ?l47 ?d47 ?k47 ?a48 ?l48 ?d48 ?k48 ?a49 ?i49 ?l49 ?d49 ?k49 ?a50 ?i50 ?l50 ?d50 ?k50 ?a51 ?i51 ?l51 ?d51 ?k51 ?a52 ?i52 ?l52 ?d52 ?k52 ?a53 ?i53 ?l53 ?d53 ?k53 ?a54 ?i54 ?l54 ?d54 ?k54 ?a55 ?i55 ?l55 ?d55 ?k55 ?a56 ?i56 ?l56 ?d56 ?k56 ?a57 ?i57 ?l57 ?d57 ?k57 ?a58 ?i58 ?l58 ?d58 ?k58 ?a59 ?i59 ?l59 ?d59 ?k59 ?a60 ?l60 ?d60 ?k60 ?a61 ?l61 ?d61 ?k61 ?pg0C ?hd0C ?po0C ?sa0C ?ma0C ?kc0C ?n_Term_kind ?n_Term_size ?n_Term_reach ?n_Term_label ?n_Term_first ?n_Term_second ?x1C ?pg2C ?hd2C ?po2C ?sa2C ?ma2C ?kc2C ?n_Row_begun ?n_Row_name ?n_Row_term ?pg3C ?hd3C ?po3C ?sa3C ?ma3C ?kc3C ?n_Reader_defined ?n_Reader_rows ?n_Reader_depth ?n_Reader_owners ?n_Reader_unknown ?pg4C ?hd4C ?po4C ?sa4C ?ma4C ?kc4C ?n_Reading_term ?n_Reading_unknown ?pg5C ?hd5C ?po5C ?sa5C ?ma5C ?kc5C ?n_Work_place ?n_Work_around ?n_Work_level ?n_Work_size ?n_Work_steps ?n_Work_finished ?pg6C ?hd6C ?po6C ?sa6C ?ma6C ?kc6C ?n_FunctionNames_taken ?n_FunctionNames_chosen ?n_FunctionNames_tried ?pg7C ?hd7C ?po7C ?sa7C ?ma7C ?kc7C ?n_Part_term ?n_Part_level ?n_Part_is_last ?n_Part_is_argument ?x8C ?pg9C ?hd9C ?po9C ?sa9C ?ma9C ?kc9C ?n_Line_defined ?pg10C ?hd10C ?po10C ?sa10C ?ma10C ?kc10C ?n_Tape_numbers ?n_Tape_at ?V0 ?V1 ?V2 ?V3 ?V4 ?V5 ?V6 ?V7 ?V8 ?V9 ?V10 ?V11 ?V12 ?V13 ?V14 ?V15 ?V16 ?V17 ?V18 ?V19 ?V20 ?V21 ?V22 ?V23 ?V24 ?V25 ?V26 ?V27 ?V28 ?V29 ?V30 ?V31 ?V32 ?V33 ?V34 ?V35 ?V36 ?V37 ?V38 ?V39 ?V40 ?V41 ?V42 ?b_all ?b_min ?b_tuple ?b_len ?b_list ?b_isinstance ?b_ord ?b_str ?b_reversed ?ha_Part ?hm_Part ?ki_Part_list ?hn_class ?htk_class
      (case a0C | a1C | a2C | a3C | a4C | a5C | a6C | a7C | a8C | a9C | a10C | a0 | i0 | l0 | d0 | k0 | a1 | l1 | d1 | k1 | a2 | l2 | d2 | k2 | a3 | l3 | d3 | k3 | a4 | l4 | d4 | k4 | a5 | l5 | d5 | k5 | a6 | l6 | d6 | k6 | a7 | l7 | d7 | k7 | a8 | l8 | d8 | k8 | a9 | l9 | d9 | k9 | a10 | l10 | d10 | k10 | a11 | l11 | d11 | k11 | a12 | l12 | d12 | k12 | a13 | l13 | d13 | k13 | a14 | l14 | d14 | k14 | a15 | i15 | l15 | d15 | k15 | a16 | i16 | l16 | d16 | k16 | a17 | i17 | l17 | d17 | k17 | a18 | i18 | l18 | d18 | k18 | a19 | i19 | l19 | d19 | k19 | a20 | i20 | l20 | d20 | k20 | a21 | i21 | l21 | d21 | k21 | a22 | i22 | l22 | d22 | k22 | a23 | i23 | l23 | d23 | k23 | a24 | l24 | d24 | k24 | a25 | l25 | d25 | k25 | a26 | i26 | l26 | d26 | k26 | a27 | l27 | d27 | k27 | a28 | l28 | d28 | k28 | a29 | l29 | d29 | k29 | a30 | i30 | l30 | d30 | k30 | a31 | i31 | l31 | d31 | k31 | a32 | i32 | l32 | d32 | k32 | a33 | i33 | l33 | d33 | k33 | a34 | i34 | l34 | d34 | k34 | a35 | i35 | l35 | d35 | k35 | a36 | l36 | d36 | k36 | a37 | l37 | d37 | k37 | a38 | l38 | d38 | k38 | a39 | i39 | l39 | d39 | k39 | a40 | i40 | l40 | d40 | k40 | a41 | i41 | l41 | d41 | k41 | a42 | l42 | d42 | k42 | a43 | l43 | d43 | k43 | a44 | l44 | d44 | k44 | a45 | l45 | d45 | k45 | a46 | l46 | d46 | k46 | a47 | l47 | d47 | k47 | a48 | l48 | d48 | k48 | a49 | i49 | l49 | d49 | k49 | a50 | i50 | l50 | d50 | k50 | a51 | i51 | l51 | d51 | k51 | a52 | i52 | l52 | d52 | k52 | a53 | i53 | l53 | d53 | k53 | a54 | i54 | l54 | d54 | k54 | a55 | i55 | l55 | d55 | k55 | a56 | i56 | l56 | d56 | k56 | a57 | i57 | l57 | d57 | k57 | a58 | i58 | l58 | d58 | k58 | a59 | i59 | l59 | d59 | k59 | a60 | l60 | d60 | k60 | a61 | l61 | d61 | k61 | pg0C | hd0C | po0C | sa0C | ma0C | kc0C | n_Term_kind | n_Term_size | n_Term_reach | n_Term_label | n_Term_first | n_Term_second => k_is); (case x1C => k_exc); (case pg2C | hd2C | po2C | sa2C | ma2C | kc2C | n_Row_begun | n_Row_name | n_Row_term | pg3C | hd3C | po3C | sa3C | ma3C | kc3C | n_Reader_defined | n_Reader_rows | n_Reader_depth | n_Reader_owners | n_Reader_unknown | pg4C | hd4C | po4C | sa4C | ma4C | kc4C | n_Reading_term | n_Reading_unknown | pg5C | hd5C | po5C | sa5C | ma5C | kc5C | n_Work_place | n_Work_around | n_Work_level | n_Work_size | n_Work_steps | n_Work_finished | pg6C | hd6C | po6C | sa6C | ma6C | kc6C | n_FunctionNames_taken | n_FunctionNames_chosen | n_FunctionNames_tried | pg7C | hd7C | po7C | sa7C | ma7C | kc7C | n_Part_term | n_Part_level | n_Part_is_last | n_Part_is_argument => k_is); (case x8C => k_exc); (case pg9C | hd9C | po9C | sa9C | ma9C | kc9C | n_Line_defined | pg10C | hd10C | po10C | sa10C | ma10C | kc10C | n_Tape_numbers | n_Tape_at | V0 | V1 | V2 | V3 | V4 | V5 | V6 | V7 | V8 | V9 | V10 | V11 | V12 | V13 | V14 | V15 | V16 | V17 | V18 | V19 | V20 | V21 | V22 | V23 | V24 | V25 | V26 | V27 | V28 | V29 | V30 | V31 | V32 | V33 | V34 | V35 | V36 | V37 | V38 | V39 | V40 | V41 | V42 | b_all | b_min | b_tuple | b_len | b_list | b_isinstance | b_ord | b_str | b_reversed | ha_Part | hm_Part => k_is); (case ki_Part_list => (first | kit_is | (rw [L2.kitOne_ty (by decide)]; k_is) | decide +kernel | rfl)); (case hn_class | htk_class => k_is)
    obtain ⟨a,T⟩ := T
    exact Ft.all_ok KX G hmg T
  case S =>
    intro K H xs a hO hwi hask hx
    cases hx with
    | cons h1 h2 =>
      cases h2
      cases h1 with
      | lst hs ha =>
        have e := L2.ints_dw a.1 _ ha
        subst e
        have q : ((Codec.inLen 0 30000 a.1 && a.1.all (Codec.inInt 0 4294967295)) && true) = true := hwi
        rw [Bool.and_eq_true,Bool.and_eq_true] at q
        exact ⟨_,a.1,rfl,hs,(Codec.inNat_iff.mp q.1.1).2,hask,fun H' p hp => .lst (L2.SqL.of hp) (L2.dw_ints _)⟩
end
