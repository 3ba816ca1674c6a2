import PyProof.Rows.All
import Wide.All
import OpenK.AllK
import Wide.FinOn
import PyProof.EqAt
import PyProof.EqKinds
import PyProof.TupleCall
import KE.BitLaws
import Open.SpecLaws
import KE.OsHead
import KE.OsGo
import PySem.Challenge.RW_markheights_s01_answers
set_option Elab.async false
set_option linter.all false
set_option maxRecDepth 100000
set_option maxHeartbeats 4000000
namespace L2
open PySem PySem.Spec PyProof.Rows
abbrev Key:=Sum Int Str
def keyIs: Key -> Value -> Bool
 | .inl k,v => Value.isInt k v
 | .inr x,v => Value.isStrOf x v
def keyH (w: World): Key -> Int
 | .inl k => hashInt k
 | .inr x => hashStr w x
theorem keyIs_shape: ∀ {k: Key} {v: Value},keyIs k v = true -> (∃ i t,k = Sum.inl i /\ v = Value.int i t) \/ (∃ x t,k = Sum.inr x /\ v = Value.str x t)
 | .inl i,v,h => by
  obtain ⟨t,e⟩:=Value.isInt_shape (k:=i) (v:=v) h
  exact .inl ⟨i,t,rfl,e⟩
 | .inr x,v,h => by
  obtain ⟨t,e⟩:=Value.isStrOf_shape (x:=x) (v:=v) h
  exact .inr ⟨x,t,rfl,e⟩
theorem keyIs_int (i: Int) (t: Tok): keyIs (.inl i) (.int i t) = true:=by simp [keyIs,Value.isInt]
theorem keyIs_str (x: Str) (t: Tok): keyIs (.inr x) (.str x t) = true:=by simp [keyIs,Value.isStrOf]
theorem key_ll (a b: Int): decide ((Sum.inl a: Key) = Sum.inl b) = (a == b):=by
 by_cases e: a = b
 ·subst e; simp
 ·have h: ¬ (Sum.inl a: Key) = Sum.inl b:=fun q => e (Sum.inl.inj q)
  rw [decide_eq_false h]
  exact (beq_eq_false_iff_ne.mpr e).symm
theorem key_rr (a b: Str): decide ((Sum.inr a: Key) = Sum.inr b) = decide (a = b):=by
 by_cases e: a = b
 ·subst e; simp
 ·have h: ¬ (Sum.inr a: Key) = Sum.inr b:=fun q => e (Sum.inr.inj q)
  rw [decide_eq_false h,decide_eq_false e]
theorem key_lr (a: Int) (b: Str): decide ((Sum.inl a: Key) = Sum.inr b) = false:=decide_eq_false (fun q => nomatch q)
theorem key_rl (a: Str) (b: Int): decide ((Sum.inr a: Key) = Sum.inl b) = false:=decide_eq_false (fun q => nomatch q)
def mixKind (prog: Program) (w: World): PySem.KeyKind prog w Key where
 is:=keyIs
 hash:=keyH w
 inj:=fun v a b ha hb => by
  rcases keyIs_shape ha with ⟨i,t,rfl,rfl⟩ | ⟨x,t,rfl,rfl⟩
  ·rcases keyIs_shape hb with ⟨j,u,rfl,e⟩ | ⟨y,u,rfl,e⟩
   ·injection e with e1 _; rw [e1]
   ·exact nomatch e
  ·rcases keyIs_shape hb with ⟨j,u,rfl,e⟩ | ⟨y,u,rfl,e⟩
   ·exact nomatch e
   ·injection e with e1 _; rw [e1]
 byValue:=fun k v h => by
  rcases keyIs_shape h with ⟨i,t,rfl,rfl⟩ | ⟨x,t,rfl,rfl⟩ <;> rfl
 pyHash:=fun hv h => by
  rcases keyIs_shape hv with ⟨i,t,rfl,rfl⟩ | ⟨x,t,rfl,rfl⟩
  ·exact wpAny_pyHash_int h
  ·exact wpAny_pyHash_str h
 eqBool:=fun hu hv h => by
  rcases keyIs_shape hu with ⟨i,t,rfl,rfl⟩ | ⟨x,t,rfl,rfl⟩
  ·rcases keyIs_shape hv with ⟨j,u,rfl,rfl⟩ | ⟨y,u,rfl,rfl⟩
   ·rw [key_ll] at h; exact wpAny_eqBool_int h
   ·rw [key_lr] at h; exact SeqAt.EqAt.int_str i t y u _ _ _ _ h
  ·rcases keyIs_shape hv with ⟨j,u,rfl,rfl⟩ | ⟨y,u,rfl,rfl⟩
   ·rw [key_rl] at h; exact SeqAt.EqAt.str_int x t j u _ _ _ _ h
   ·rw [key_rr] at h; exact wpAny_eqBool_str h
 «strs»:=fun k x t v h => by
  rcases keyIs_shape h with ⟨i,u,rfl,e⟩ | ⟨y,u,rfl,e⟩
  ·exact nomatch e
  ·injection e with e1 _
   subst e1
   cases v <;> rfl
theorem mixKind_int (prog: Program) (w: World) (i: Int) (t: Tok): (mixKind prog w).is (.inl i) (.int i t) = true:=keyIs_int i t
theorem mixKind_str (prog: Program) (w: World) (x: Str) (t: Tok): (mixKind prog w).is (.inr x) (.str x t) = true:=keyIs_str x t
end L2
namespace L2
open PySem PySem.Spec PyProof.Rows
inductive V where
 | non | bl (b: Bool) | int (i: Int) | str (x: Str) | byt (b: Array UInt8) | flt (b: UInt64) | ref (a: Addr) | ty (n: String)
 deriving DecidableEq
def RelV: V -> Value -> Prop
 | .non,u => u = Value.none
 | .bl b,u => u = Value.bool b
 | .int i,u => ∃ t,u = Value.int i t
 | .str x,u => ∃ t,u = Value.str x t
 | .byt b,u => ∃ t,u = Value.bytes b t
 | .flt b,u => ∃ t,u = Value.float b t
 | .ref a,u => u = Value.ref a
 | .ty n,u => u = Value.type n
abbrev Vals: List V -> List Value -> Prop:=Paired RelV
theorem Vals.length {xs: List V} {us: List Value} (r: Vals xs us): xs.length = us.length:=Paired.length r
theorem Vals.get: ∀ {xs: List V} {us: List Value} {i: Nat} {x: V},Vals xs us -> xs[i]? = some x -> ∃ u,us[i]? = some u /\ RelV x u
 | _,_,_,_,.nil,e => by simp at e
 | _,_,0,_,.cons r _,e => by simp at e; subst e; exact ⟨_,rfl,r⟩
 | _,_,i + 1,x,.cons _ t,e => by
  obtain ⟨u,h1,h2⟩:=Vals.get (i:=i) (x:=x) t (by simpa using e)
  exact ⟨u,by simpa using h1,h2⟩
theorem Vals.set {x: V} {u: Value} (r: RelV x u): ∀ {xs: List V} {us: List Value} (i: Nat),Vals xs us -> Vals (xs.set i x) (us.set i u)
 | _,_,_,.nil => .nil
 | _,_,0,.cons _ t => .cons r t
 | _,_,i + 1,.cons q t => .cons q (Vals.set r i t)
theorem Vals.append: ∀ {xs ys: List V} {us ws: List Value},Vals xs us -> Vals ys ws -> Vals (xs ++ ys) (us ++ ws)
 | _,_,_,_,.nil,s => s
 | _,_,_,_,.cons r t,s => .cons r (Vals.append t s)
theorem Vals.take: ∀ {xs: List V} {us: List Value} (n: Nat),Vals xs us -> Vals (xs.take n) (us.take n)
 | _,_,0,_ => .nil
 | _,_,_ + 1,.nil => .nil
 | _,_,n + 1,.cons r t => .cons r (Vals.take n t)
theorem Vals.drop: ∀ {xs: List V} {us: List Value} (n: Nat),Vals xs us -> Vals (xs.drop n) (us.drop n)
 | _,_,0,r => r
 | _,_,_ + 1,.nil => .nil
 | _,_,n + 1,.cons _ t => Vals.drop n t
def RelO: Option V -> Option Value -> Prop
 | some v,some u => RelV v u
 | none,none => True
 | _,_ => False
def KV {κ: Type}: List (κ × V) -> List (κ × Value) -> Prop:=Paired fun (p: κ × V) (q: κ × Value) => p.1 = q.1 /\ RelV p.2 q.2
def kV: Key -> V
 | .inl i => .int i
 | .inr x => .str x
inductive HO where
 | lst (xs: List V)
 | tup (xs: List V)
 | dK (kvs: List (Key × V)) | dT (kvs: List (List Key × V))
 | set (S: Int -> Bool) (n: Nat)
 | ins (C dx: Addr) (fs: List (Str × V))
 | own (x: Addr)
 | xd (fs: List (Str × V))
 | met (f x: Addr)
 | rng (lo hi: Int)
 | frz (o: Obj) (u: HO)
 | tbl (ps: Array Value)
 | ext (φ: Heap -> Prop)
abbrev Hp:=Addr -> Option HO
def upd (H: Hp) (a: Addr) (o: HO): Hp:=fun b => if b = a then some o else H b
theorem upd_same {H: Hp} {a: Addr} {o: HO}: upd H a o a = some o:=by unfold upd; rw [if_pos rfl]
theorem upd_ne {H: Hp} {a b: Addr} {o: HO} (h: b ≠ a): upd H a o b = H b:=by unfold upd; rw [if_neg h]
theorem upd_upd {H: Hp} {a: Addr} {o u: HO}: upd (upd H a o) a u = upd H a u:=by
 funext b; unfold upd; split <;> rfl
theorem ne_of {H: Hp} {a b: Addr} {o u: HO} (h: H a = some o) (h': H b = some u) (d: o ≠ u): a ≠ b:=by
 intro e; subst e; rw [h] at h'; exact d (Option.some.inj h')
theorem ne_of_none {H: Hp} {a b: Addr} {o: HO} (h: H a = some o) (h': H b = none): a ≠ b:=by
 intro e; subst e; rw [h] at h'; cases h'
section
variable (P: Program) (w: World)
def ObjOk (H: Hp) (h: Heap) (a: Addr): HO -> Prop
 | .lst xs => xs.length <= sizeLine /\ ∃ (its: List Value) (n: Nat),Vals xs its /\ h.get? a = some { cls:=.type "list",data:=.seq its.toArray n }
 | .tup xs => xs.length <= sizeLine /\ ∃ its: List Value,Vals xs its /\ IsTup h a its.toArray
 | .dK kvs => kvs.length <= sizeLine /\ (a == sysModules) = false /\ ∃ vs,KV kvs vs /\ h.DictOf (mixKind P w) a vs
 | .dT kvs => kvs.length <= sizeLine /\ (a == sysModules) = false /\ ∃ xs: List (List Key × Addr × Value),
   Paired (fun (p: List Key × V) (q: List Key × Addr × Value) => p.1 = q.1 /\ H q.2.1 = some (.tup (p.1.map kV)) /\ RelV p.2 q.2.2) kvs xs /\
   ∃ o es ep,h.get? a = some o /\ o.ExactDict /\ o.data = .dict es ep /\ es.toList = xs.map (entryOfKey (tupleKind (mixKind P w))) /\ (xs.map (·.1)).Nodup
 | .set S n => h.SetOf (intKind P w) a S n
 | .ins C dx fs => H dx = some (.own a) /\ fs.length <= 1000 /\ dx ≠ a /\ h.get? a = some (PySem.W.instObj C dx) /\
   ∃ mA,h.Ns1 dx mA /\ (∀ f,RelO (fs.lookup f) (mA f)) /\ PySem.Within mA (fs.map (·.1))
 | .own _ => ∃ o,h.get? a = some o
 | .xd fs => ∃ mA,h.Ns1 a mA /\ ∀ f,RelO (fs.lookup f) (mA f)
 | .rng lo hi => ∃ t u v,h.get? a = some { cls:=.type "range",data:=.fields #[.int lo t,.int hi u,.int 1 v] }
 | .frz o u => h.get? a = some o /\ ObjOk H h a u
 | .tbl ps => h.get? a = some { cls:=.none,data:=.fields ps }
 | .met f x => h.get? a = some (PySem.W.methodObj (.ref f) (.ref x))
 | .ext φ => φ h /\ (∃ o,h.get? a = some o) /\ ∀ h1 h2: Heap,φ h1 -> (∀ o,h1.get? a = some o -> h2.get? a = some o) -> φ h2
def HOk (H: Hp) (h: Heap): Prop:=∀ a o,H a = some o -> ObjOk P w H h a o
end
section
variable {P: Program} {w: World} {H H': Hp} {h h': Heap} {a: Addr} {o: HO}
theorem ObjOk.lt (x: ObjOk P w H h a o): a < h.objs.size:=by
 cases o with
 | lst xs => obtain ⟨_,_,_,_,e⟩:=x; exact Heap.lt_size e
 | tup xs => obtain ⟨_,_,_,p⟩:=x; exact p.lt
 | dK kvs => obtain ⟨_,_,_,_,o,_,_,e,_⟩:=x; exact Heap.lt_size e
 | dT kvs => obtain ⟨_,_,_,_,o,_,_,e,_⟩:=x; exact Heap.lt_size e
 | set S n => obtain ⟨o,_,_,_,e,_⟩:=x; exact Heap.lt_size e
 | ins C dx fs => obtain ⟨_,_,_,e,_⟩:=x; exact Heap.lt_size e
 | own y => obtain ⟨_,e⟩:=x; exact Heap.lt_size e
 | xd fs => obtain ⟨_,⟨_,_,_,e,_⟩,_⟩:=x; exact Heap.lt_size e
 | rng lo hi => obtain ⟨_,_,_,e⟩:=x; exact Heap.lt_size e
 | frz ob u => obtain ⟨e,_⟩:=x; exact Heap.lt_size e
 | tbl ps => exact Heap.lt_size (show h.get? a = some _ from x)
 | met f y => exact Heap.lt_size (show h.get? a = some _ from x)
 | ext φ => obtain ⟨_,⟨_,e⟩,_⟩:=x; exact Heap.lt_size e
theorem Paired.mapP {α β: Type} {F G: α -> β -> Prop}: ∀ {l₁: List α} {l₂: List β},Paired F l₁ l₂ -> (∀ a b,F a b -> G a b) -> Paired G l₁ l₂
 | _,_,.nil,_ => .nil
 | _,_,.cons r t,f => .cons (f _ _ r) (Paired.mapP t f)
theorem ObjOk.stay (x: ObjOk P w H h a o) (k: ∀ b u,(b = a \/ H b = some (.own a)) -> h.get? b = some u -> h'.get? b = some u)
  (ho: ∀ b,H b = some (.own a) -> H' b = some (.own a)) (ht: ∀ b xs,H b = some (.tup xs) -> H' b = some (.tup xs)): ObjOk P w H' h' a o:=by
 induction o with
 | lst xs => obtain ⟨z,its,n,r,e⟩:=x; exact ⟨z,its,n,r,k _ _ (.inl rfl) e⟩
 | tup xs => obtain ⟨z,its,r,ob,e,c⟩:=x; exact ⟨z,its,r,ob,k _ _ (.inl rfl) e,c⟩
 | dK kvs => obtain ⟨z,y,vs,r,ob,es,ep,e,c⟩:=x; exact ⟨z,y,vs,r,ob,es,ep,k _ _ (.inl rfl) e,c⟩
 | dT kvs =>
  obtain ⟨z,y,xs,r,ob,es,ep,e,c⟩:=x
  exact ⟨z,y,xs,Paired.mapP r fun p q z => ⟨z.1,ht _ _ z.2.1,z.2.2⟩,ob,es,ep,k _ _ (.inl rfl) e,c⟩
 | set S n => obtain ⟨ob,es,ep,t,e,c⟩:=x; exact ⟨ob,es,ep,t,k _ _ (.inl rfl) e,c⟩
 | ins C dx fs =>
  obtain ⟨d,z,ne,e,mA,⟨od,es,ep,e2,c⟩,r⟩:=x
  exact ⟨ho _ d,z,ne,k _ _ (.inl rfl) e,mA,⟨od,es,ep,k _ _ (.inr d) e2,c⟩,r⟩
 | own y => obtain ⟨ob,e⟩:=x; exact ⟨ob,k _ _ (.inl rfl) e⟩
 | xd fs => obtain ⟨mA,⟨od,es,ep,e,c⟩,r⟩:=x; exact ⟨mA,⟨od,es,ep,k _ _ (.inl rfl) e,c⟩,r⟩
 | rng lo hi => obtain ⟨t,u,v,e⟩:=x; exact ⟨t,u,v,k _ _ (.inl rfl) e⟩
 | frz ob u ih => obtain ⟨e,q⟩:=x; exact ⟨k _ _ (.inl rfl) e,ih q⟩
 | tbl ps =>
  have e: h.get? a = some { cls:=.none,data:=.fields ps }:=x
  show h'.get? a = some { cls:=.none,data:=.fields ps }
  exact k a _ (.inl rfl) e
 | met f y =>
  have e: h.get? a = some (PySem.W.methodObj (.ref f) (.ref y)):=x
  show h'.get? a = some (PySem.W.methodObj (.ref f) (.ref y))
  exact k a _ (.inl rfl) e
 | ext φ => obtain ⟨p,⟨o,e⟩,st⟩:=x; exact ⟨st _ _ p fun o q => k _ _ (.inl rfl) q,⟨o,k _ _ (.inl rfl) e⟩,st⟩
theorem HOk.lt (x: HOk P w H h) (e: H a = some o): a < h.objs.size:=(x a o e).lt
theorem HOk.fresh (x: HOk P w H h) (e: h.objs.size <= a): H a = none:=by
 cases q: H a with
 | none => rfl
 | some u => exact absurd (Nat.lt_of_lt_of_le (x.lt q) e) (Nat.lt_irrefl _)
theorem HOk.kept (x: HOk P w H h) (k: ∀ b u,h.get? b = some u -> h'.get? b = some u): HOk P w H h':=fun a o e =>
 (x a o e).stay (fun b u _ q => k b u q) (fun _ q => q) fun _ _ q => q
theorem HOk.laid (x: HOk P w H h) (k: ∀ b u,h.get? b = some u -> h'.get? b = some u) (hp: h.objs.size <= a) (new: ObjOk P w (upd H a o) h' a o): HOk P w (upd H a o) h':=fun b u e => by
 have hn:=x.fresh hp
 by_cases hb: b = a
 ·subst hb; rw [upd_same] at e; cases e; exact new
 ·rw [upd_ne hb] at e
  exact (x b u e).stay (fun c v _ q => k c v q) (fun c q => by rw [upd_ne (ne_of_none q hn)]; exact q) fun c xs q => by rw [upd_ne (ne_of_none q hn)]; exact q
end
def Rd (H: Hp) (a: Addr) (u: HO): Prop:=H a = some u \/ ∃ o,H a = some (.frz o u)
theorem Rd.ok {P: Program} {w: World} {H: Hp} {h: Heap} {a: Addr} {u: HO} (r: Rd H a u) (x: HOk P w H h): ObjOk P w H h a u:=by
 rcases r with r | ⟨o,r⟩
 ·exact x a u r
 ·obtain ⟨_,q⟩:=x a _ r
  exact q
def Mut: Option HO -> Prop
 | some (.lst _) => True
 | some (.dK _) => True
 | some (.dT _) => True
 | some (.set _ _) => True
 | some (.ins _ _ _) => True
 | some (.ext _) => True
 | _ => False
section
variable {P: Program} {w: World} {H: Hp} {h h': Heap} {x e: Addr} {o': HO}
theorem HOk.write (ok: HOk P w H h) (mu: Mut (H x)) (he: e = x \/ H e = some (.own x)) (k: ∀ b u,b ≠ e -> h.get? b = some u -> h'.get? b = some u) (heo: ∃ u,h'.get? e = some u)
  (new: ObjOk P w (upd H x o') h' x o'): HOk P w (upd H x o') h':=fun b u q => by
 have nown: ∀ c y,H c = some (.own y) -> c ≠ x:=fun c y r z => by subst z; rw [r] at mu; exact mu
 have ntup: ∀ c xs,H c = some (.tup xs) -> c ≠ x:=fun c xs r z => by subst z; rw [r] at mu; exact mu
 by_cases hb: b = x
 ·subst hb; rw [upd_same] at q; cases q; exact new
 ·rw [upd_ne hb] at q
  by_cases hbe: b = e
  ·have q': H b = some (.own x):=by
    rcases he with z | z
    ·exact absurd (hbe.trans z) hb
    ·rw [hbe]; exact z
   rw [q] at q'; cases q'
   obtain ⟨v,hv⟩:=heo
   exact ⟨v,by rw [hbe]; exact hv⟩
  ·refine (ok b u q).stay (fun c v hc r => k c v ?_ r) (fun c r => by rw [upd_ne (nown c b r)]; exact r) fun c xs r => by rw [upd_ne (ntup c xs r)]; exact r
   rcases hc with rfl | hc
   ·exact hbe
   ·rintro rfl
    rcases he with z | z
    ·exact nown c b hc z
    ·rw [hc] at z; cases z; exact hb rfl
end
structure Un (fs ex: List Addr) (H H': Hp) (h h': Heap): Prop where
 keep: ∀ b o,h.get? b = some o -> H b = none -> b ∉ fs -> b ∉ ex -> h'.get? b = some o
 slot: ∀ b o,h.get? b = some o -> H b = none -> b ∈ fs -> b ∉ ex -> ∃ sl,h'.get? b = some { o with slots:=sl }
 free: ∀ b o,h.get? b = some o -> H b = none -> b ∉ ex -> H' b = none
 there: ∀ b o,h.get? b = some o -> b ∉ ex -> ∃ o',h'.get? b = some o'
 tups: ∀ b xs,H b = some (.tup xs) -> H' b = some (.tup xs)
 frzs: ∀ b o u,H b = some (.frz o u) -> H' b = some (.frz o u)
 tbls: ∀ b ps,H b = some (.tbl ps) -> ∃ more,H' b = some (.tbl (ps ++ more))
section
variable {fs fs' ex ex': List Addr} {H H1 H2: Hp} {h h1 h2 h': Heap} {a x e: Addr} {o: HO}
theorem Un.any (u: Un fs ex H H1 h h1) {b: Addr} {ob: Obj} (q: h.get? b = some ob) (n: H b = none) (hx: b ∉ ex): ∃ sl,h1.get? b = some { ob with slots:=sl }:=by
 by_cases hb: b ∈ fs
 ·exact u.slot b ob q n hb hx
 ·exact ⟨ob.slots,u.keep b ob q n hb hx⟩
theorem Un.kept (k: ∀ b u,h.get? b = some u -> h'.get? b = some u): Un fs ex H H h h' :=
 ⟨fun b ob q _ _ _ => k b ob q,fun b ob q _ _ _ => ⟨ob.slots,k b ob q⟩,fun _ _ _ n _ => n,fun b ob q _ => ⟨ob,k b ob q⟩,fun _ _ q => q,fun _ _ _ q => q,fun _ ps q => ⟨#[],by rw [q]; simp⟩⟩
theorem Un.refl: Un fs ex H H h h:=Un.kept fun _ _ q => q
theorem Un.laid (k: ∀ b u,h.get? b = some u -> h'.get? b = some u) (hp: h.objs.size <= a) (hn: H a = none): Un fs ex H (upd H a o) h h' where
 keep:=fun b u q _ _ _ => k b u q
 slot:=fun b u q _ _ _ => ⟨u.slots,k b u q⟩
 free:=fun b u q n _ => by rw [upd_ne (Nat.ne_of_lt (Nat.lt_of_lt_of_le (Heap.lt_size q) hp))]; exact n
 there:=fun b u q _ => ⟨u,k b u q⟩
 tups:=fun b xs q => by rw [upd_ne (ne_of_none q hn)]; exact q
 frzs:=fun b u xs q => by rw [upd_ne (ne_of_none q hn)]; exact q
 tbls:=fun b ps q => ⟨#[],by rw [upd_ne (ne_of_none q hn),q]; simp⟩
theorem Un.write (mu: Mut (H x)) (he: e = x \/ H e = some (.own x)) (k: ∀ b u,b ≠ e -> h.get? b = some u -> h'.get? b = some u) (heo: ∃ u,h'.get? e = some u): Un fs ex H (upd H x o) h h':=by
 have hx: ∀ b,H b = none -> b ≠ x:=fun b n z => by subst z; rw [n] at mu; exact mu
 have hb: ∀ b,H b = none -> b ≠ e:=fun b n z => by
  subst z
  rcases he with r | r
  ·exact hx b n r
  ·rw [n] at r; cases r
 have hm: ∀ b u,H b = some u -> ¬ Mut (some u) -> b ≠ x:=fun b u q nm z => by subst z; rw [q] at mu; exact nm mu
 refine ⟨fun b u q n _ _ => k b u (hb b n) q,fun b u q n _ _ => ⟨u.slots,k b u (hb b n) q⟩,fun b u q n _ => by rw [upd_ne (hx b n)]; exact n,fun b u q _ => ?_,
  fun b xs q => by rw [upd_ne (hm b _ q fun z => z)]; exact q,fun b u xs q => by rw [upd_ne (hm b _ q fun z => z)]; exact q,fun b ps q => ⟨#[],by rw [upd_ne (hm b _ q fun z => z),q]; simp⟩⟩
 by_cases hbe: b = e
 ·subst hbe; exact heo
 ·exact ⟨u,k b u hbe q⟩
end
def trk (h: Heap) (H: Hp): List Addr:=(List.range h.objs.size).filter fun a => (H a).isSome
def hidT (h: Heap) (H: Hp): Heap:=PySem.W.hideAll h (trk h H)
theorem hidT_size (h: Heap) (H: Hp): (hidT h H).objs.size = h.objs.size:=PySem.W.hideAll_size _ _
theorem hidT_get {h: Heap} {H: Hp} {b: Addr} {o: Obj} (e: h.get? b = some o) (n: H b = none): (hidT h H).get? b = some o :=
 PySem.W.hideAll_get _ e fun hm => by
  have q: (H b).isSome = true:=(List.mem_filter.mp hm).2
  rw [n] at q; simp at q
theorem of_hidT {h: Heap} {H: Hp} {b: Addr} {o: Obj} (e: (hidT h H).get? b = some o): h.get? b = some o /\ H b = none:=by
 have e': h.get? b = some o:=PySem.W.of_hideAll (trk h H) e
 refine ⟨e',?_⟩
 cases q: H b with
 | none => rfl
 | some x =>
  have hm: b ∈ trk h H:=List.mem_filter.mpr ⟨List.mem_range.mpr (Heap.lt_size e'),by simp [q]⟩
  have z: (hidT h H).get? b = none:=PySem.W.hideAll_none (trk h H) hm
  rw [z] at e; cases e
end L2
namespace L2
open PySem PySem.Spec PyProof.Rows
structure Mod (K: PySem.W.Frag) (mg: Str -> Option Value) (base: Heap): Prop where
 kin: K.In base
 glob: base.Ns mainGlobals mg
 blt: ∃ mb,base.Ns builtinsNs mb /\ ∀ x: Str,x ≠ "__name__" -> mb x = bootBuiltins x
 nolimit: base.NoLimit
structure Cx where
 prog: Program
 w: World
 K: PySem.W.Frag
 mg: Str -> Option Value
 base: Heap
 A: Around
 N: List Str
 s_0: Shared
 H_0: Hp
 env: Env
 outer: List Env
 stack: List Env
 ex: List Addr
 fn: Str -> Bool
 calm: Bool
 pn: List (Addr × Obj)
 xe: Value -> Shared -> Prop
def frs (l: List Env): List Addr:=l.filterMap (·.frame)
abbrev Cx.fs (X: Cx): List Addr:=frs X.outer
def Vis (sc: Scope) (x: Str): Prop:=sc.names.lookup x = some .local \/ sc.names.lookup x = some .cell \/ sc.names.lookup x = some .free
def Loc (sc: Scope) (x: Str): Prop:=sc.names.lookup x = some .local \/ sc.names.lookup x = some .cell
def Look (env: Env) (h: Heap) (m: Str -> Option Value) (x: Str) (u: Value): Prop :=
 (env.kindOf x = some .local /\ m x = some u) \/ ((env.kindOf x = some .cell \/ env.kindOf x = some .free) /\ ∃ c,env.cells.lookup x = some c /\ h.IsCell c (some u))
structure Cx.Ok (X: Cx): Prop where
 mod: Mod X.K X.mg X.base
 kind: X.env.scope.kind = .function
 glob: X.env.globals = mainGlobals
 blt: X.env.builtins = builtinsNs
 above: X.s_0.heap.objs.size <= X.env.locals
 inj: ∀ x y c,X.env.cells.lookup x = some c -> X.env.cells.lookup y = some c -> x = y
 has: ∀ x,(X.env.kindOf x = some .cell \/ X.env.kindOf x = some .free) -> ∃ c,X.env.cells.lookup x = some c
 cab: ∀ x c,X.fn x = true -> X.env.cells.lookup x = some c -> X.s_0.heap.objs.size <= c
 hd: X.calm = true -> X.A.handled = none
 frames: X.A.frames = some X.stack
 stk: X.stack = X.outer \/ (X.stack = X.env :: X.outer /\ X.env.frame = some X.env.locals)
 exf: ∀ b ∈ X.ex,b ≠ X.env.locals /\ ∀ x c,X.env.cells.lookup x = some c -> c ≠ b
 bs: ∀ b o,X.base.get? b = some o -> X.s_0.heap.get? b = some o /\ X.H_0 b = none
 bsz: X.base.objs.size <= X.s_0.heap.objs.size
 noex: ∀ b o,X.base.get? b = some o -> b ∉ X.ex
 exfs: ∀ b ∈ X.ex,b ∉ X.fs
 funs: X.s_0.heap.FunFrames X.base X.outer
 frf: ∀ b ∈ X.fs,X.H_0 b = none
structure Inv (X: Cx) (pins: List (Addr × Obj)) (σ: List (Option V)) (H: Hp) (s: Shared): Prop where
 ok: X.Ok
 os: s.os = X.s_0.os
 bare: AllBare s.gens
 base: Un X.fs X.ex X.H_0 H X.s_0.heap s.heap
 loc: ∃ m,s.heap.Ns X.env.locals m /\ ∀ (i: Nat) (x: Str) (v: V),X.N[i]? = some x -> σ[i]? = some (some v) -> Vis X.env.scope x -> ∃ u,RelV v u /\ Look X.env s.heap m x u
 cell: ∀ x c,X.env.cells.lookup x = some c -> ∃ v,s.heap.IsCell c v
 free: H X.env.locals = none
 freeC: ∀ x c,X.env.cells.lookup x = some c -> H c = none
 pin: ∀ p ∈ X.pn ++ pins,s.heap.get? p.1 = some p.2 /\ H p.1 = none /\ p.1 ≠ X.env.locals /\ p.1 ∉ X.fs /\ ∀ v,p.2.data ≠ .cell v
 hok: HOk X.prog X.w H s.heap
 len: σ.length = X.N.length
section
variable {X: Cx} {pins: List (Addr × Obj)} {σ: List (Option V)} {H H': Hp} {s: Shared} {h': Heap}
theorem Cx.Ok.nofr (ok: X.Ok) {b: Addr} {o: Obj} (e: X.base.get? b = some o): b ∉ X.fs:=fun hb => by
 have:=(ok.funs.mem hb).1
 rw [e] at this; cases this
theorem Inv.bs (I: Inv X pins σ H s): ∀ b o,X.base.get? b = some o -> s.heap.get? b = some o /\ H b = none:=fun b o e =>
 ⟨I.base.keep b o (I.ok.bs b o e).1 (I.ok.bs b o e).2 (I.ok.nofr e) (I.ok.noex b o e),I.base.free b o (I.ok.bs b o e).1 (I.ok.bs b o e).2 (I.ok.noex b o e)⟩
theorem Inv.bk (I: Inv X pins σ H s): ∀ b o,X.base.get? b = some o -> s.heap.get? b = some o:=fun b o e => (I.bs b o e).1
theorem Inv.mod (I: Inv X pins σ H s): Mod X.K X.mg X.base:=I.ok.mod
theorem Inv.kIn (I: Inv X pins σ H s): X.K.In s.heap:=I.ok.mod.kin.keeps I.bk
theorem Inv.fr (I: Inv X pins σ H s): ∃ m,Fr X.base X.env.locals s.heap m :=
 let ⟨m,hn,_⟩:=I.loc
 ⟨m,hn,I.bk,Nat.le_trans I.ok.bsz I.ok.above⟩
theorem Inv.lt (I: Inv X pins σ H s): X.env.locals < s.heap.objs.size:=let ⟨_,hn,_⟩:=I.loc; hn.lt
theorem Inv.sz (I: Inv X pins σ H s): X.s_0.heap.objs.size <= s.heap.objs.size:=Nat.le_trans I.ok.above (Nat.le_of_lt I.lt)
theorem Inv.nofs (I: Inv X pins σ H s) {a: Addr} (h: s.heap.objs.size <= a): a ∉ X.fs:=fun hb => by
 obtain ⟨_,o,ho,_⟩:=I.ok.funs.mem hb
 exact absurd (Nat.lt_of_lt_of_le (Heap.lt_size ho) (Nat.le_trans I.sz h)) (Nat.lt_irrefl _)
theorem Inv.cne (I: Inv X pins σ H s): ∀ x c,X.env.cells.lookup x = some c -> c ≠ X.env.locals:=fun x c e z => by
 obtain ⟨v,o,ho,hd⟩:=I.cell x c e
 obtain ⟨m,⟨o',es,ep,ho',hd',_⟩,_⟩:=I.loc
 rw [z,ho'] at ho; cases ho; rw [hd'] at hd; cases hd
theorem Inv.funs (I: Inv X pins σ H s): s.heap.FunFrames X.base X.outer:=by
 have all: ∀ (l: List Env),(∀ b ∈ frs l,b ∈ X.fs) -> X.s_0.heap.FunFrames X.base l -> s.heap.FunFrames X.base l:=by
  intro l
  induction l with
  | nil => intro _ _; trivial
  | cons env r ih =>
   intro hs hl
   obtain ⟨hk,⟨L,o,hf,hn,ho,hd⟩,hr⟩:=hl
   have hL: L ∈ X.fs:=hs L (by unfold frs; rw [List.filterMap_cons,hf]; exact List.mem_cons_self)
   obtain ⟨sl,e⟩:=I.base.slot L o ho (I.ok.frf L hL) hL fun z => I.ok.exfs L z hL
   exact ⟨hk,⟨L,_,hf,hn,e,hd⟩,ih (fun b hb => hs b (by unfold frs; rw [List.filterMap_cons,hf]; exact List.mem_cons_of_mem _ hb)) hr⟩
 exact all X.outer (fun _ hb => hb) I.ok.funs
theorem Inv.stack (I: Inv X pins σ H s): s.heap.FunFrames X.base X.stack:=by
 rcases I.ok.stk with e | ⟨e,hf⟩
 ·rw [e]; exact I.funs
 ·rw [e]
  obtain ⟨m,hn,_⟩:=I.loc
  refine .cons (by rw [I.ok.kind]; decide) hf hn ?_ I.funs
  exact Heap.get?_none_of_le (Nat.le_trans I.ok.bsz I.ok.above)
theorem Inv.stkSub (I: Inv X pins σ H s): ∀ b ∈ frs X.stack,b ∈ X.env.locals :: X.fs:=fun b hb => by
 rcases I.ok.stk with e | ⟨e,hf⟩
 ·rw [e] at hb; exact List.mem_cons_of_mem _ hb
 ·rw [e] at hb
  unfold frs at hb
  rw [List.filterMap_cons,hf] at hb
  exact hb
theorem Inv.stkFree (I: Inv X pins σ H s): ∀ b ∈ frs X.stack,H b = none:=fun b hb => by
 rcases List.mem_cons.mp (I.stkSub b hb) with e | hb
 ·rw [e]; exact I.free
 ·obtain ⟨_,o,ho,_⟩:=I.ok.funs.mem hb
  exact I.base.free b o ho (I.ok.frf b hb) fun z => I.ok.exfs b z hb
theorem Inv.step {g': Array GenState} {t': Nat} {d': Drawn} {ch: List Addr} (I: Inv X pins σ H s)
  (hch: ∀ b ∈ ch,(b ∈ X.ex \/ X.s_0.heap.objs.size <= b) /\ b ≠ X.env.locals /\ (∀ x c,X.env.cells.lookup x = some c -> c ≠ b) /\ ∀ p ∈ X.pn ++ pins,p.1 ≠ b)
  (keep: ∀ b o,b ≠ X.env.locals -> b ∉ X.fs -> b ∉ ch -> s.heap.get? b = some o -> H b = none -> h'.get? b = some o)
  (slot: ∀ b o,b ≠ X.env.locals -> b ∈ X.fs -> b ∉ ch -> s.heap.get? b = some o -> H b = none -> ∃ sl,h'.get? b = some { o with slots:=sl }) (free: ∀ b o,b ∉ ch -> s.heap.get? b = some o -> H b = none -> H' b = none)
  (there: ∀ b o,b ∉ ch -> s.heap.get? b = some o -> ∃ o',h'.get? b = some o')
  (tups: ∀ b xs,H b = some (.tup xs) -> H' b = some (.tup xs)) (frzs: ∀ b o u,H b = some (.frz o u) -> H' b = some (.frz o u)) (tbls: ∀ b ps,H b = some (.tbl ps) -> ∃ more,H' b = some (.tbl (ps ++ more)))
  (ns: ∀ m,s.heap.Ns X.env.locals m -> h'.Ns X.env.locals m) (hok: HOk X.prog X.w H' h') (hg: AllBare g') :
  Inv X pins σ H' { s with heap:=h',gens:=g',drawn:=d',toks:=t' }:=by
 have neL: ∀ b o,X.s_0.heap.get? b = some o -> b ≠ X.env.locals:=fun b o e => Nat.ne_of_lt (Nat.lt_of_lt_of_le (Heap.lt_size e) I.ok.above)
 have neC: ∀ b o,X.s_0.heap.get? b = some o -> b ∉ X.ex -> b ∉ ch:=fun b o e hx hb => by
  rcases (hch b hb).1 with z | z
  ·exact hx z
  ·exact absurd (Nat.lt_of_lt_of_le (Heap.lt_size e) z) (Nat.lt_irrefl _)
 have cellK: ∀ x c,X.env.cells.lookup x = some c -> ∀ v,s.heap.IsCell c v -> h'.IsCell c v:=fun x c e v ⟨o,ho,hd⟩ => by
  have nch: c ∉ ch:=fun z => (hch c z).2.2.1 x c e rfl
  by_cases hc: c ∈ X.fs
  ·obtain ⟨sl,q⟩:=slot c o (I.cne x c e) hc nch ho (I.freeC x c e)
   exact ⟨_,q,hd⟩
  ·exact ⟨o,keep c o (I.cne x c e) hc nch ho (I.freeC x c e),hd⟩
 refine ⟨I.ok,I.os,hg,⟨fun b o e n hb hx => ?_,fun b o e n hb hx => ?_,fun b o e n hx => ?_,fun b o e hx => ?_,fun b xs e => tups b xs (I.base.tups b xs e),fun b o xs e => frzs b o xs (I.base.frzs b o xs e),fun b ps e => ?_⟩,?_,fun x c e => ?_,?_,fun x c e => ?_,fun p hp => ?_,hok,I.len⟩
 ·exact keep b o (neL b o e) hb (neC b o e hx) (I.base.keep b o e n hb hx) (I.base.free b o e n hx)
 ·obtain ⟨sl,e1⟩:=I.base.slot b o e n hb hx
  obtain ⟨sl',e2⟩:=slot b _ (neL b o e) hb (neC b o e hx) e1 (I.base.free b o e n hx)
  exact ⟨sl',e2⟩
 ·obtain ⟨o',e1⟩:=I.base.there b o e hx
  exact free b o' (neC b o e hx) e1 (I.base.free b o e n hx)
 ·obtain ⟨o',e1⟩:=I.base.there b o e hx
  exact there b o' (neC b o e hx) e1
 ·obtain ⟨m1,e1⟩:=I.base.tbls b ps e
  obtain ⟨m2,e2⟩:=tbls b _ e1
  exact ⟨m1 ++ m2,by rw [e2,Array.append_assoc]⟩
 ·obtain ⟨m,hn,hl⟩:=I.loc
  refine ⟨m,ns m hn,fun i x v e1 e2 e3 => ?_⟩
  obtain ⟨u,r,l⟩:=hl i x v e1 e2 e3
  refine ⟨u,r,?_⟩
  rcases l with l | ⟨k,c,e,z⟩
  ·exact .inl l
  ·exact .inr ⟨k,c,e,cellK x c e _ z⟩
 ·obtain ⟨v,z⟩:=I.cell x c e
  exact ⟨v,cellK x c e v z⟩
 ·obtain ⟨m,⟨o,_,_,ho,_⟩,_⟩:=I.loc
  exact free _ o (fun z => (hch _ z).2.1 rfl) ho I.free
 ·obtain ⟨v,o,ho,hd⟩:=I.cell x c e
  exact free c o (fun z => (hch c z).2.2.1 x c e rfl) ho (I.freeC x c e)
 ·obtain ⟨e,n,ne,nf,d⟩:=I.pin p hp
  have nch: p.1 ∉ ch:=fun z => (hch p.1 z).2.2.2 p hp rfl
  exact ⟨keep p.1 p.2 ne nf nch e n,free p.1 p.2 nch e n,ne,nf,d⟩
theorem Inv.un {t': Nat} (I: Inv X pins σ H s) (u: Un X.fs [] H H' s.heap h') (hok: HOk X.prog X.w H' h'): Inv X pins σ H' { s with heap:=h',toks:=t' }:=by
 obtain ⟨m,⟨o,es,ep,ho,r⟩,_⟩:=id I.loc
 obtain ⟨sl,hL⟩:=u.any ho I.free (by simp)
 exact I.step (g':=s.gens) (d':=s.drawn) (ch:=[]) (fun _ z => nomatch z) (fun b o _ hb _ e n => u.keep b o e n hb (by simp)) (fun b o _ hb _ e n => u.slot b o e n hb (by simp)) (fun b o _ e n => u.free b o e n (by simp)) (fun b o _ e => u.there b o e (by simp)) u.tups u.frzs u.tbls (fun m' hm => by
  obtain ⟨o',es',ep',ho',r'⟩:=hm
  rw [ho] at ho'; cases ho'
  exact ⟨_,es',ep',hL,r'⟩) hok I.bare
theorem Inv.call {g': Array GenState} {t': Nat} {d': Drawn} {ch: List Addr} (I: Inv X pins σ H s) (u: Un (frs X.stack) ch H H' s.heap h') (hok: HOk X.prog X.w H' h') (hg: AllBare g')
  (hch: ∀ b ∈ ch,(b ∈ X.ex \/ X.s_0.heap.objs.size <= b) /\ b ≠ X.env.locals /\ (∀ x c,X.env.cells.lookup x = some c -> c ≠ b) /\ ∀ p ∈ X.pn ++ pins,p.1 ≠ b) :
  Inv X pins σ H' { s with heap:=h',gens:=g',drawn:=d',toks:=t' }:=by
 obtain ⟨m,⟨o,es,ep,ho,r⟩,_⟩:=id I.loc
 obtain ⟨sl,hL⟩:=u.any ho I.free fun z => (hch _ z).2.1 rfl
 exact I.step (ch:=ch) hch (fun b o hL hb hc e n => u.keep b o e n (fun z => (List.mem_cons.mp (I.stkSub b z)).elim hL hb) hc) (fun b o _ _ hc e n => u.any e n hc) (fun b o hc e n => u.free b o e n hc) (fun b o hc e => u.there b o e hc) u.tups u.frzs u.tbls (fun m' hm => by
  obtain ⟨o',es',ep',ho',r'⟩:=hm
  rw [ho] at ho'; cases ho'
  exact ⟨_,es',ep',hL,r'⟩) hok hg
theorem Inv.turned {t': Nat} {it: Addr} (I: Inv X pins σ H s) (k: ∀ b o,b ≠ it -> s.heap.get? b = some o -> h'.get? b = some o) (hn: H it = none) (hL: it ≠ X.env.locals)
  (h1: it ∈ X.ex \/ X.s_0.heap.objs.size <= it) (h2: ∀ x c,X.env.cells.lookup x = some c -> c ≠ it) (h3: ∀ p ∈ X.pn ++ pins,p.1 ≠ it): Inv X pins σ H { s with heap:=h',toks:=t' }:=by
 have nit: ∀ b u,H b = some u -> b ≠ it:=fun b u e z => by rw [z,hn] at e; cases e
 refine I.step (g':=s.gens) (d':=s.drawn) (ch:=[it]) (fun b hb => ?_) (fun b o _ _ hc e _ => k b o (fun z => hc (by simp [z])) e) (fun b o _ _ hc e _ => ⟨o.slots,k b o (fun z => hc (by simp [z])) e⟩) (fun _ _ _ _ n => n)
  (fun b o hc e => ⟨o,k b o (fun z => hc (by simp [z])) e⟩) (fun _ _ e => e) (fun _ _ _ e => e) (fun b ps e => ⟨#[],by rw [e]; simp⟩) (fun m hm => ?_) (fun b u e => ?_) I.bare
 ·have e: b = it:=by simpa using hb
  subst e
  exact ⟨h1,hL,h2,h3⟩
 ·obtain ⟨o,es,ep,ho,r⟩:=hm
  exact ⟨o,es,ep,k _ o (Ne.symm hL) ho,r⟩
 ·refine (I.hok b u e).stay (fun c v hc q => k c v ?_ q) (fun _ q => q) fun _ _ q => q
  rcases hc with z | z
  ·rw [z]; exact nit b u e
  ·exact nit c _ z
theorem Inv.tok (I: Inv X pins σ H s) (t: Nat): Inv X pins σ H { s with toks:=t }:=I.un (h':=s.heap) (t':=t) Un.refl I.hok
theorem Inv.kept {t': Nat} (I: Inv X pins σ H s) (k: ∀ b u,s.heap.get? b = some u -> h'.get? b = some u): Inv X pins σ H { s with heap:=h',toks:=t' }:=I.un (Un.kept k) (I.hok.kept k)
theorem Inv.laid {a: Addr} {o: HO} {t': Nat} (I: Inv X pins σ H s) (k: ∀ b u,s.heap.get? b = some u -> h'.get? b = some u) (hp: s.heap.objs.size <= a) (new: ObjOk X.prog X.w (upd H a o) h' a o) :
  Inv X pins σ (upd H a o) { s with heap:=h',toks:=t' }:=I.un (Un.laid k hp (I.hok.fresh hp)) (I.hok.laid k hp new)
theorem Inv.write {x e: Addr} {o: HO} {t': Nat} (I: Inv X pins σ H s) (mu: Mut (H x)) (he: e = x \/ H e = some (.own x)) (k: ∀ b u,b ≠ e -> s.heap.get? b = some u -> h'.get? b = some u) (heo: ∃ u,h'.get? e = some u)
  (new: ObjOk X.prog X.w (upd H x o) h' x o): Inv X pins σ (upd H x o) { s with heap:=h',toks:=t' }:=I.un (Un.write mu he k heo) (I.hok.write mu he k heo new)
theorem Inv.weak {σ': List (Option V)} (I: Inv X pins σ H s) (hl: σ'.length = σ.length) (w: ∀ (i: Nat) v,σ'[i]? = some (some v) -> σ[i]? = some (some v)): Inv X pins σ' H s :=
 ⟨I.ok,I.os,I.bare,I.base,let ⟨m,hn,hl'⟩:=I.loc; ⟨m,hn,fun i x v e1 e2 e3 => hl' i x v e1 (w i v e2) e3⟩,I.cell,I.free,I.freeC,I.pin,I.hok,hl.trans I.len⟩
theorem Inv.pins_of {pins': List (Addr × Obj)} (I: Inv X pins σ H s) (h: ∀ p ∈ pins',s.heap.get? p.1 = some p.2 /\ H p.1 = none /\ p.1 ≠ X.env.locals /\ p.1 ∉ X.fs /\ ∀ v,p.2.data ≠ .cell v): Inv X pins' σ H s :=
 ⟨I.ok,I.os,I.bare,I.base,I.loc,I.cell,I.free,I.freeC,fun p hp => (List.mem_append.mp hp).elim (fun z => I.pin p (List.mem_append_left _ z)) (h p),I.hok,I.len⟩
theorem nodup_ix {N: List Str} (hN: N.Nodup) {i j: Nat} {x: Str} (a: N[i]? = some x) (b: N[j]? = some x): i = j:=by
 obtain ⟨h1,e1⟩:=List.getElem?_eq_some_iff.mp a
 obtain ⟨h2,e2⟩:=List.getElem?_eq_some_iff.mp b
 exact (List.getElem_inj hN).mp (e1.trans e2.symm)
theorem store_ok2 {M: Model} {A: Around} {E: Value -> Shared -> Prop} {i: Nat} {x: Str} {v: V} {u: Value} {Q: Unit -> Shared -> Prop} (I: Inv X pins σ H s) (hN: X.N.Nodup) (hi: X.N[i]? = some x) (hx: Loc X.env.scope x) (r: RelV v u)
  (h: ∀ s',Inv X pins (σ.set i (some v)) H s' -> (∃ a,Heap.SameBut a s.heap s'.heap /\ (a = X.env.locals \/ X.env.cells.lookup x = some a)) -> Q () s') (hf: X.fn x = true \/ X.env.scope.names.lookup x = some .local:=by first | exact .inl rfl | exact .inr rfl | assumption): wpAny M A (storeName X.env x u) Q E s:=by
 obtain ⟨m,hn,hl⟩:=id I.loc
 have hcls: (X.env.scope.kind == .class || (X.env.scope.kind == .module && X.env.locals != X.env.globals)) = false:=by rw [I.ok.kind]; rfl
 have hiσ: i < σ.length:=by rw [I.len]; exact (List.getElem?_eq_some_iff.mp hi).1
 have cne:=I.cne
 have tracked: ∀ {a: Addr} {h': Heap},(∃ o,s.heap.get? a = some o /\ H a = none) -> Heap.SameBut a s.heap h' -> HOk X.prog X.w H h':=fun {a h'} ha hs b ob e => by
  obtain ⟨_,_,hfree⟩:=ha
  refine (I.hok b ob e).stay (fun c w' hc q => (hs.2 c ?_).trans q) (fun _ q => q) fun _ _ q => q
  rintro rfl
  rcases hc with rfl | hc
  ·rw [hfree] at e; cases e
  ·rw [hfree] at hc; cases hc
 rcases hx with hk | hk
 ·refine wpAny_storeName_local hk hn (fun h' hn' hs => ?_) hcls
  obtain ⟨oL,_,_,hoL,_⟩:=id hn
  refine h _ ⟨I.ok,I.os,I.bare,⟨fun b o e n hb hx => ?_,fun b o e n hb hx => ?_,I.base.free,fun b o e hx => ?_,I.base.tups,I.base.frzs,I.base.tbls⟩,⟨_,hn',fun j y v' e1 e2 e3 => ?_⟩,fun y c e => ?_,I.free,I.freeC,fun p hp => ?_,tracked ⟨oL,hoL,I.free⟩ hs,by simpa using I.len⟩ ⟨_,hs,.inl rfl⟩
  ·exact (hs.2 b (Nat.ne_of_lt (Nat.lt_of_lt_of_le (Heap.lt_size e) I.ok.above))).trans (I.base.keep b o e n hb hx)
  ·obtain ⟨sl,e1⟩:=I.base.slot b o e n hb hx
   exact ⟨sl,(hs.2 b (Nat.ne_of_lt (Nat.lt_of_lt_of_le (Heap.lt_size e) I.ok.above))).trans e1⟩
  ·obtain ⟨o',e1⟩:=I.base.there b o e hx
   exact ⟨o',(hs.2 b (Nat.ne_of_lt (Nat.lt_of_lt_of_le (Heap.lt_size e) I.ok.above))).trans e1⟩
  ·by_cases hj: j = i
   ·subst hj
    rw [hi] at e1; cases e1
    rw [List.getElem?_set_self hiσ] at e2
    cases e2
    exact ⟨u,r,.inl ⟨hk,by simp⟩⟩
   ·rw [List.getElem?_set_ne (Ne.symm hj)] at e2
    obtain ⟨u',r',q⟩:=hl j y v' e1 e2 e3
    refine ⟨u',r',?_⟩
    rcases q with ⟨k,e⟩ | ⟨k,c,e,z⟩
    ·refine .inl ⟨k,?_⟩
     have: y ≠ x:=fun e => hj (nodup_ix hN e1 (e ▸ hi))
     simp [this,e]
    ·exact .inr ⟨k,c,e,z.sameBut hs (cne y c e)⟩
  ·obtain ⟨w',z⟩:=I.cell y c e
   exact ⟨w',z.sameBut hs (cne y c e)⟩
  ·obtain ⟨e,n,ne,nf,d⟩:=I.pin p hp
   exact ⟨(hs.2 p.1 ne).trans e,n,ne,nf,d⟩
 ·have hfn: X.fn x = true:=by
   rcases hf with z | z
   ·exact z
   ·rw [z] at hk; cases hk
  obtain ⟨c,hc⟩:=I.ok.has x (.inl hk)
  obtain ⟨w',z⟩:=I.cell x c hc
  refine wpAny_storeName_cell I.ok.kind hk hc z (fun h' hc' hs => ?_)
  obtain ⟨oc,hoc,hocd⟩:=id z
  refine h { s with heap:=h' } ⟨I.ok,I.os,I.bare,⟨fun b o e n hb hx => ?_,fun b o e n hb hx => ?_,I.base.free,fun b o e hx => ?_,I.base.tups,I.base.frzs,I.base.tbls⟩,⟨m,hn.sameBut hs (Ne.symm (cne x c hc)),fun j y v' e1 e2 e3 => ?_⟩,fun y c' e => ?_,I.free,I.freeC,fun p hp => ?_,tracked ⟨oc,hoc,I.freeC x c hc⟩ hs,by simpa using I.len⟩ ⟨c,hs,.inr hc⟩
  ·exact (hs.2 b (Nat.ne_of_lt (Nat.lt_of_lt_of_le (Heap.lt_size e) (I.ok.cab x c hfn hc)))).trans (I.base.keep b o e n hb hx)
  ·obtain ⟨sl,e1⟩:=I.base.slot b o e n hb hx
   exact ⟨sl,(hs.2 b (Nat.ne_of_lt (Nat.lt_of_lt_of_le (Heap.lt_size e) (I.ok.cab x c hfn hc)))).trans e1⟩
  ·obtain ⟨o',e1⟩:=I.base.there b o e hx
   exact ⟨o',(hs.2 b (Nat.ne_of_lt (Nat.lt_of_lt_of_le (Heap.lt_size e) (I.ok.cab x c hfn hc)))).trans e1⟩
  ·by_cases hj: j = i
   ·subst hj
    rw [hi] at e1; cases e1
    rw [List.getElem?_set_self hiσ] at e2
    cases e2
    exact ⟨u,r,.inr ⟨.inl hk,c,hc,hc'⟩⟩
   ·rw [List.getElem?_set_ne (Ne.symm hj)] at e2
    obtain ⟨u',r',q⟩:=hl j y v' e1 e2 e3
    refine ⟨u',r',?_⟩
    rcases q with q | ⟨k,c',e,z'⟩
    ·exact .inl q
    ·refine .inr ⟨k,c',e,z'.sameBut hs ?_⟩
     rintro rfl
     exact hj (nodup_ix hN e1 (I.ok.inj _ _ _ e hc ▸ hi))
  ·by_cases hcc: c' = c
   ·subst hcc; exact ⟨_,hc'⟩
   ·obtain ⟨w2,z2⟩:=I.cell y c' e
    exact ⟨w2,z2.sameBut hs hcc⟩
  ·obtain ⟨e,n,ne,nf,d⟩:=I.pin p hp
   refine ⟨(hs.2 p.1 ?_).trans e,n,ne,nf,d⟩
   intro q
   rw [q,hoc] at e
   have q': oc = p.2:=Option.some.inj e
   exact d w' (by rw [<- q']; exact hocd)
theorem store_ok {M: Model} {A: Around} {E: Value -> Shared -> Prop} {i: Nat} {x: Str} {v: V} {u: Value} {Q: Unit -> Shared -> Prop} (I: Inv X pins σ H s) (hN: X.N.Nodup) (hi: X.N[i]? = some x) (hx: Loc X.env.scope x) (r: RelV v u)
  (h: ∀ s',Inv X pins (σ.set i (some v)) H s' -> Q () s') (hf: X.fn x = true \/ X.env.scope.names.lookup x = some .local:=by first | exact .inl rfl | exact .inr rfl | assumption): wpAny M A (storeName X.env x u) Q E s :=
 store_ok2 I hN hi hx r (fun s' I' _ => h s' I') hf
theorem Inv.call' {s': Shared} {ch: List Addr} (I: Inv X pins σ H s) (ho: s'.os = s.os) (u: Un (frs X.stack) ch H H' s.heap s'.heap) (hok: HOk X.prog X.w H' s'.heap) (hg: AllBare s'.gens)
  (hch: ∀ b ∈ ch,(b ∈ X.ex \/ X.s_0.heap.objs.size <= b) /\ b ≠ X.env.locals /\ (∀ x c,X.env.cells.lookup x = some c -> c ≠ b) /\ ∀ p ∈ X.pn ++ pins,p.1 ≠ b): Inv X pins σ H' s':=by
 obtain ⟨h',g',d',t',o'⟩:=s'
 have e: o' = s.os:=ho
 subst e
 exact I.call (g':=g') (t':=t') (d':=d') u hok hg hch
end
abbrev XK:=Value -> Option Addr -> Hp -> Prop
abbrev St:=List (Option V)
abbrev VK:=V -> Hp -> Prop
abbrev TE:=St -> Hp -> VK -> Prop
abbrev TT:=St -> Hp -> (Bool -> Hp -> Prop) -> Prop
abbrev TA:=St -> Hp -> (List V -> Hp -> Prop) -> Prop
structure Ends where
 nx: St -> Hp -> Prop
 rt: VK
 bk: St -> Hp -> Prop:=fun _ _ => False
 ct: St -> Hp -> Prop:=fun _ _ => False
abbrev TS:=Ends -> St -> Hp -> Prop
def EP (X: Cx) (pins: List (Addr × Obj)) (σ: St) (Q: VK) (u: Value) (s': Shared): Prop:=∃ v H',Inv X pins σ H' s' /\ RelV v u /\ Q v H'
def TP (X: Cx) (pins: List (Addr × Obj)) (σ: St) (Q: Bool -> Hp -> Prop) (b: Bool) (s': Shared): Prop:=∃ H',Inv X pins σ H' s' /\ Q b H'
def AP (X: Cx) (pins: List (Addr × Obj)) (σ: St) (Q: List V -> Hp -> Prop) (us: List Value) (s': Shared): Prop:=∃ vs H',Inv X pins σ H' s' /\ Vals vs us /\ Q vs H'
def SP (X: Cx) (pins: List (Addr × Obj)) (D: Ends) (f: Flow) (s': Shared): Prop :=
 match f with
 | .next => ∃ σ' H',Inv X pins σ' H' s' /\ D.nx σ' H'
 | .brk => ∃ σ' H',Inv X pins σ' H' s' /\ D.bk σ' H'
 | .cont => ∃ σ' H',Inv X pins σ' H' s' /\ D.ct σ' H'
 | .ret u => ∃ v σ' H',Inv X pins σ' H' s' /\ RelV v u /\ D.rt v H'
def PE (X: Cx) (e: Expr) (t: TE): Prop :=
 ∀ (pins: List (Addr × Obj)) (s: Shared) (σ: St) (H: Hp) (Q: VK),Inv X pins σ H s -> t σ H Q -> wpAny (model X.prog X.w) X.A (eval e X.env) (EP X pins σ Q) X.xe s
def PT (X: Cx) (e: Expr) (t: TT): Prop :=
 ∀ (pins: List (Addr × Obj)) (s: Shared) (σ: St) (H: Hp) (Q: Bool -> Hp -> Prop),Inv X pins σ H s -> t σ H Q -> wpAny (model X.prog X.w) X.A (isTrue e X.env (eval e X.env)) (TP X pins σ Q) X.xe s
def PW (X: Cx) (e: Expr) (t: TT): Prop :=
 ∀ (whole: Sem Value) (pins: List (Addr × Obj)) (s: Shared) (σ: St) (H: Hp) (Q: Bool -> Hp -> Prop),Inv X pins σ H s -> t σ H Q -> wpAny (model X.prog X.w) X.A (isTrue e X.env whole) (TP X pins σ Q) X.xe s
theorem PW.pt {X: Cx} {e: Expr} {t: TT} (h: PW X e t): PT X e t:=h _
def PA (X: Cx) (es: List Expr) (t: TA): Prop :=
 ∀ (pos: Pos) (pins: List (Addr × Obj)) (s: Shared) (σ: St) (H: Hp) (Q: List V -> Hp -> Prop),Inv X pins σ H s -> t σ H Q -> wpAny (model X.prog X.w) X.A (spliced (backTo pos (starEach es X.env))) (AP X pins σ Q) X.xe s
def PS (X: Cx) (st: Stmt) (t: TS): Prop :=
 ∀ (pins: List (Addr × Obj)) (s: Shared) (σ: St) (H: Hp) (D: Ends),Inv X pins σ H s -> t D σ H -> wpAny (model X.prog X.w) X.A (exec st X.env) (SP X pins D) X.xe s
def PSs (X: Cx) (st: List Stmt) (t: TS): Prop :=
 ∀ (pins: List (Addr × Obj)) (s: Shared) (σ: St) (H: Hp) (D: Ends),Inv X pins σ H s -> t D σ H -> wpAny (model X.prog X.w) X.A (execs st X.env) (SP X pins D) X.xe s
theorem thn {α: Type} {t: Sem α} {Q Q': α -> Shared -> Prop} {M: Model} {A: Around} {E: Value -> Shared -> Prop} {s: Shared} (h: wpAny M A t Q E s) (hQ: ∀ a s,Q a s -> Q' a s): wpAny M A t Q' E s:=wpAny_mono h hQ fun _ _ x => x
end L2
namespace L2
open PySem PySem.Spec PyProof.Rows
section
variable {X: Cx}
theorem bin {a b: Expr} {ta tb: TE} (ha: PE X a ta) (hb: PE X b tb) {pins: List (Addr × Obj)} {s: Shared} {σ: St} {H: Hp} {R: V -> V -> Hp -> Prop} (I: Inv X pins σ H s) (h: ta σ H fun x H1 => tb σ H1 fun y H2 => R x y H2)
  {α: Type} {Q: α -> Shared -> Prop} {f: Value -> Value -> Sem α}
  (hf: ∀ v u s2 x y H2,Inv X pins σ H2 s2 -> RelV x v -> RelV y u -> R x y H2 -> wpAny (model X.prog X.w) X.A (f v u) Q X.xe s2) :
  wpAny (model X.prog X.w) X.A (eval a X.env) (fun v s₁ => wpAny (model X.prog X.w) X.A (eval b X.env) (fun u s₂ => wpAny (model X.prog X.w) X.A (f v u) Q X.xe s₂) X.xe s₁) X.xe s:=by
 refine thn (ha pins s σ H _ I h) fun v s1 ⟨x,H1,I1,r1,q1⟩ => ?_
 refine thn (hb pins s1 σ H1 _ I1 q1) fun u s2 ⟨y,H2,I2,r2,q2⟩ => ?_
 exact hf v u s2 x y H2 I2 r1 r2 q2
def tVar (i: Nat): TE:=fun σ H Q => ∃ v,σ[i]? = some (some v) /\ Q v H
def tC (v: V): TE:=fun _ H Q => Q v H
theorem pe_var {i: Nat} {x: Str} {pos: Pos} (hN: X.N[i]? = some x) (hv: Vis X.env.scope x) (hd: (x == ("__debug__": Str)) = false:=by decide) (hcd: (x == ("__classdict__": Str)) = false:=by decide): PE X (.Name x pos) (tVar i):=by
 intro pins s σ H Q I h
 obtain ⟨v,e,h⟩:=h
 obtain ⟨m,hn,hl⟩:=I.loc
 obtain ⟨u,r,l⟩:=hl i x v hN e hv
 have fin: EP X pins σ Q u s:=⟨v,H,I,r,h⟩
 rcases l with ⟨hk,hm⟩ | ⟨hk,c,hc,hcell⟩
 ·exact wpAny_Name (wpAny_loadName_local I.ok.kind hk hn hm fin) hd
 ·rcases hk with hk | hk
  ·exact wpAny_Name (wpAny_loadName_cell I.ok.kind hk hc hcell fin) hd
  ·exact wpAny_Name (wpAny_loadName_free I.ok.kind hk hc hcell fin hcd) hd
theorem pe_int {i j pos}: PE X (.Constant (.int i) j pos) (tC (.int i)):=fun _ _ _ H _ I h => wpAny_Constant_int ⟨.int i,H,I.tok _,⟨_,rfl⟩,h⟩
theorem pe_non {j pos}: PE X (.Constant .none j pos) (tC .non):=fun _ _ _ H _ I h => Constant_none ⟨.non,H,I,rfl,h⟩
theorem pe_str {x j pos}: PE X (.Constant (.str x) j pos) (tC (.str x)):=fun _ _ _ H _ I h => Calls.Constant_str ⟨.str x,H,I.tok _,⟨_,rfl⟩,h⟩
def Gl (X: Cx) (x: Str): Prop:=X.env.kindOf x = some .globalImplicit
theorem ld_glob {E: Value -> Shared -> Prop} {pins: List (Addr × Obj)} {s: Shared} {σ: St} {H: Hp} {x: Str} {u: Value} {pos: Pos} {Q: Value -> Shared -> Prop} (I: Inv X pins σ H s) (hg: Gl X x) (hm: X.mg x = some u) (h: Q u s)
  (hd: (x == ("__debug__": Str)) = false:=by decide): wpAny (model X.prog X.w) X.A (eval (.Name x pos) X.env) Q E s :=
 Calls.Name_function_global I.ok.kind hg (Calls.loadGlobal_global (by rw [I.ok.glob]; exact I.mod.glob.keeps I.bk) hm h) hd
theorem ld_blt {E: Value -> Shared -> Prop} {pins: List (Addr × Obj)} {s: Shared} {σ: St} {H: Hp} {x: Str} {u: Value} {pos: Pos} {Q: Value -> Shared -> Prop} (I: Inv X pins σ H s) (hg: Gl X x) (hm: X.mg x = none) (hv: bootBuiltins x = some u) (h: Q u s)
  (hn: x ≠ "__name__":=by decide) (hd: (x == ("__debug__": Str)) = false:=by decide): wpAny (model X.prog X.w) X.A (eval (.Name x pos) X.env) Q E s:=by
 obtain ⟨mb,h1,h2⟩:=I.mod.blt
 exact Calls.Name_function_global I.ok.kind hg (Calls.loadGlobal_builtin (by rw [I.ok.glob]; exact I.mod.glob.keeps I.bk) hm (by rw [I.ok.blt]; exact h1.keeps I.bk) ((h2 x hn).trans hv) h) hd
theorem pe_glob {x: Str} {v: V} {u: Value} {pos: Pos} (hg: Gl X x) (hm: X.mg x = some u) (r: RelV v u) (hd: (x == ("__debug__": Str)) = false:=by decide): PE X (.Name x pos) (tC v) :=
 fun _ _ _ H _ I h => ld_glob I hg hm ⟨v,H,I,r,h⟩ hd
variable {a b: Expr} {ta tb: TE} {pos: Pos}
def PC (X: Cx) (op: CmpOp) (a b: Expr) (t: TE): Prop :=
 ∀ (pins: List (Addr × Obj)) (s: Shared) (σ: St) (H: Hp) (Q: VK),Inv X pins σ H s -> t σ H Q ->
  wpAny (model X.prog X.w) X.A (eval a X.env) (fun v s₁ => wpAny (model X.prog X.w) X.A (eval b X.env) (fun u s₂ => wpAny (model X.prog X.w) X.A (compareOp op v u) (EP X pins σ Q) X.xe s₂) X.xe s₁) X.xe s
def tB (t: TE): TT:=fun σ H Q => t σ H fun x H1 => ∃ c,x = .bl c /\ Q c H1
theorem pt_cmp {op: CmpOp} {t: TE} (h: PC X op a b t) (h1: behindInMarks op b = false:=by first | exact nobehind _ (by decide) (by decide) | rfl): PT X (.Compare a [op] [b] pos) (tB t):=by
 intro pins s σ H Q I hw
 refine wpAny_isTrue_Compare1 (thn (h pins s σ H _ I hw) fun v s1 h1 => thn h1 fun u s2 h2 => thn h2 fun c s3 ⟨x,H1,I1,r1,q1⟩ => ?_) h1
 obtain ⟨d,rfl,q⟩:=q1
 cases r1
 exact wpAny_truthy_bool ⟨H1,I1,q⟩
theorem pt_val {e: Expr} {t: TE} (h: PE X e t) (he: ∀ whole,isTrue e X.env whole = (do let v <- whole; standAt e.pos; holding [v] (truthy v)):=by intro _; rfl): PT X e (tB t):=by
 intro pins s σ H Q I hw
 refine isTrue_plain (thn (h pins s σ H _ I hw) fun v s1 ⟨x,H1,I1,r1,q1⟩ => ?_) (he _)
 obtain ⟨d,rfl,q⟩:=q1
 cases r1
 exact wpAny_truthy_bool ⟨H1,I1,q⟩
variable {tA tB': TT} {rest: List Expr}
def tAnd (t u: TT): TT:=fun σ H Q => t σ H fun c H1 => if c = true then u σ H1 Q else Q false H1
def tOr (t u: TT): TT:=fun σ H Q => t σ H fun c H1 => if c = true then Q true H1 else u σ H1 Q
def tNot (t: TT): TT:=fun σ H Q => t σ H fun c H1 => Q (!c) H1
theorem pw_and1 (ha: PT X a tA): PW X (.BoolOp .And [a] pos) tA:=by
 intro wh pins s σ H Q I h
 refine isTrue_and (thn (ha pins s σ H Q I h) fun c s1 e => ?_)
 cases c with
 | true => exact isTrue_and_nil e
 | false => exact e
theorem pw_or1 (ha: PT X a tA): PW X (.BoolOp .Or [a] pos) tA:=by
 intro wh pins s σ H Q I h
 refine isTrue_or (thn (ha pins s σ H Q I h) fun c s1 e => ?_)
 cases c with
 | false => exact isTrue_or_nil e
 | true => exact e
theorem pw_and (ha: PT X a tA) (hb: PW X (.BoolOp .And (b :: rest) pos) tB'): PW X (.BoolOp .And (a :: b :: rest) pos) (tAnd tA tB'):=by
 intro wh pins s σ H Q I h
 refine isTrue_and (thn (ha pins s σ H _ I h) fun c s1 ⟨H1,I1,q1⟩ => ?_)
 cases c with
 | true => exact hb wh pins s1 σ H1 Q I1 q1
 | false => exact ⟨H1,I1,q1⟩
theorem pw_or (ha: PT X a tA) (hb: PW X (.BoolOp .Or (b :: rest) pos) tB'): PW X (.BoolOp .Or (a :: b :: rest) pos) (tOr tA tB'):=by
 intro wh pins s σ H Q I h
 refine isTrue_or (thn (ha pins s σ H _ I h) fun c s1 ⟨H1,I1,q1⟩ => ?_)
 cases c with
 | true => exact ⟨H1,I1,q1⟩
 | false => exact hb wh pins s1 σ H1 Q I1 q1
theorem pt_not (ha: PT X a tA): PT X (.UnaryOp .Not a pos) (tNot tA):=by
 intro pins s σ H Q I h
 exact isTrue_not (ha pins s σ H (fun c H1 => Q (!c) H1) I h)
def tOrV (ta tb: TE): TE:=fun σ H Q => ta σ H fun x H1 => ∃ c,x = .bl c /\ if c = true then Q (.bl true) H1 else tb σ H1 Q
theorem pe_one {op} {t: TE} (h: PE X a t): PE X (.BoolOp op [a] pos) t:=fun pins s σ H Q I hw => BoolOp_one (h pins s σ H Q I hw)
theorem pe_or (ha: PE X a ta) (hb: PE X (.BoolOp .Or (b :: rest) pos) tb): PE X (.BoolOp .Or (a :: b :: rest) pos) (tOrV ta tb):=by
 intro pins s σ H Q I h
 refine BoolOp_or (thn (ha pins s σ H _ I h) fun v s1 ⟨x,H1,I1,r1,q1⟩ => ?_)
 obtain ⟨c,rfl,q1⟩:=q1
 cases r1
 refine wpAny_truthy_bool ?_
 cases c with
 | false => exact hb pins s1 σ H1 Q I1 q1
 | true => exact ⟨.bl true,H1,I1,rfl,q1⟩
def tIf (t: TT) (ta tb: TE): TE:=fun σ H Q => t σ H fun c H1 => if c = true then ta σ H1 Q else tb σ H1 Q
theorem pe_ifExp {c: Expr} (hc: PT X c tA) (ha: PE X a ta) (hb: PE X b tb): PE X (.IfExp c a b pos) (tIf tA ta tb):=by
 intro pins s σ H Q I h
 refine wpAny_IfExp (thn (hc pins s σ H _ I h) fun d s1 ⟨H1,I1,q1⟩ => ?_)
 cases d with
 | true => exact ha pins s1 σ H1 Q I1 q1
 | false => exact hb pins s1 σ H1 Q I1 q1
end
end L2
namespace L2
open PySem PySem.Spec PyProof.Rows
def SqL (K: PySem.W.Frag) (H: Hp) (a: Addr) (xs: List V): Prop :=
 Rd H a (.lst xs) \/
  ∃ (o: Obj) (its: Array Value) (n: Nat),K.lookup a = some o /\ o.cls = .type "list" /\ o.dict = none /\ o.data = .seq its n /\ its.size <= sizeLine /\ Vals xs its.toList
def SqT (K: PySem.W.Frag) (H: Hp) (a: Addr) (xs: List V): Prop :=
 Rd H a (.tup xs) \/
  ∃ (o: Obj) (its: Array Value) (n: Nat),K.lookup a = some o /\ o.cls = .type "tuple" /\ o.data = .seq its n /\ its.size <= sizeLine /\ Vals xs its.toList
def absV: Value -> Option V
 | .none => some .non
 | .bool b => some (.bl b)
 | .int i _ => some (.int i)
 | .str x _ => some (.str x)
 | .bytes b _ => some (.byt b)
 | .float b _ => some (.flt b)
 | .ref a => some (.ref a)
 | .type n => some (.ty n)
 | _ => none
theorem RelV.abs {x: V} {u: Value} (r: RelV x u): absV u = some x:=by
 cases x with
 | non => cases r; rfl
 | bl _ => cases r; rfl
 | int _ => obtain ⟨t,rfl⟩:=r; rfl
 | str _ => obtain ⟨t,rfl⟩:=r; rfl
 | byt _ => obtain ⟨t,rfl⟩:=r; rfl
 | flt _ => obtain ⟨t,rfl⟩:=r; rfl
 | ref _ => cases r; rfl
 | ty _ => cases r; rfl
theorem RelV.inj {x y: V} {u: Value} (r: RelV x u) (q: RelV y u): x = y:=Option.some.inj (r.abs.symm.trans q.abs)
theorem Vals.inj: ∀ {xs ys: List V} {us: List Value},Vals xs us -> Vals ys us -> xs = ys
 | _,_,_,.nil,.nil => rfl
 | _,_,_,.cons r t,.cons r' t' => by rw [r.inj r',Vals.inj t t']
section
variable {X: Cx} {pins: List (Addr × Obj)} {σ: St} {H: Hp} {s: Shared} {a: Addr} {xs ys: List V}
theorem SqL.of {K: PySem.W.Frag} (h: H a = some (.lst xs)): SqL K H a xs:=.inl (.inl h)
theorem SqT.of {K: PySem.W.Frag} (h: H a = some (.tup xs)): SqT K H a xs:=.inl (.inl h)
theorem Inv.list (I: Inv X pins σ H s) (h: SqL X.K H a xs): ∃ its: List Value,Vals xs its /\ PlainL s.heap a its.toArray /\ xs.length <= sizeLine:=by
 rcases h with h | ⟨o,its,n,hk,hc,hd,hs,hz,r⟩
 ·obtain ⟨z,its,n,r,e⟩:=h.ok I.hok
  exact ⟨its,r,⟨_,n,e,rfl,rfl,rfl⟩,z⟩
 ·refine ⟨its.toList,r,⟨o,n,I.kIn a o hk,hc,hd,by simpa using hs⟩,?_⟩
  have e:=r.length
  simp only [Array.length_toList] at e
  omega
theorem Inv.tuple (I: Inv X pins σ H s) (h: SqT X.K H a xs): ∃ its: List Value,Vals xs its /\ IsTup s.heap a its.toArray /\ xs.length <= sizeLine:=by
 rcases h with h | ⟨o,its,n,hk,hc,hs,hz,r⟩
 ·obtain ⟨z,its,r,p⟩:=h.ok I.hok
  exact ⟨its,r,p,z⟩
 ·refine ⟨its.toList,r,⟨o,I.kIn a o hk,hc,n,by simpa using hs⟩,?_⟩
  have e:=r.length
  simp only [Array.length_toList] at e
  omega
theorem Inv.list_inj (I: Inv X pins σ H s) (h: SqL X.K H a xs) (h': SqL X.K H a ys): xs = ys:=by
 obtain ⟨its,r,⟨o,n,e,_,_,d⟩,_⟩:=I.list h
 obtain ⟨its',r',⟨o',n',e',_,_,d'⟩,_⟩:=I.list h'
 rw [e] at e'; cases e'
 rw [d] at d'
 injection d' with d1 _
 have: its = its':=by simpa using congrArg Array.toList d1
 subst this
 exact r.inj r'
end
section
variable {X: Cx} {pins: List (Addr × Obj)} {σ: St} {H: Hp} {s: Shared} {E: Value -> Shared -> Prop}
end
section
variable {X: Cx} {st: Stmt} {rest: List Stmt} {t u: TS} {e: Expr} {te: TE} {pos: Pos}
def tNext: TS:=fun D σ H => D.nx σ H
def tSeq (t u: TS): TS:=fun D σ H => t { D with nx:=u D } σ H
theorem pss_nil: PSs X [] tNext:=fun _ _ σ H _ I h => wpAny_execs_nil ⟨σ,H,I,h⟩
theorem pss_cons (h1: PS X st t) (h2: PSs X rest u): PSs X (st :: rest) (tSeq t u):=by
 intro pins s σ H D I h
 refine wpAny_execs_cons (thn (h1 pins s σ H { D with nx:=u D } I h) fun f s1 q => ?_)
 cases f with
 | next =>
  obtain ⟨σ',H',I',q⟩:=q
  exact h2 pins s1 σ' H' D I' q
 | ret v => exact q
 | brk => exact q
 | cont => exact q
theorem pss_one (h1: PS X st t): PSs X [st] t:=by
 intro pins s σ H D I h
 refine wpAny_execs_cons (thn (h1 pins s σ H D I h) fun f s1 q => ?_)
 cases f with
 | next => exact wpAny_execs_nil q
 | ret v => exact q
 | brk => exact q
 | cont => exact q
theorem Inv.quiet {pins: List (Addr × Obj)} {σ: St} {H: Hp} {s: Shared} (I: Inv X pins σ H s): interactive X.env = false:=by simp [interactive,I.ok.kind]
def tDrop (te: TE): TS:=fun D σ H => te σ H fun _ H1 => D.nx σ H1
theorem ps_expr (he: PE X e te) (hs: swapsWith e none pos.line X.env = pure false:=by rfl): PS X (.Expr e pos) (tDrop te):=by
 intro pins s σ H D I h
 exact wpAny_Expr_any (thn (he pins s σ H _ I h) fun v s1 ⟨x,H1,I1,r1,q1⟩ => ⟨σ,H1,I1,q1⟩) I.quiet hs
def tRet (te: TE): TS:=fun D σ H => te σ H D.rt
theorem ps_ret (he: PE X e te): PS X (.Return (some e) pos) (tRet te):=by
 intro pins s σ H D I h
 exact wpAny_Return_some (thn (he pins s σ H _ I h) fun v s1 ⟨x,H1,I1,r1,q1⟩ => ⟨x,σ,H1,I1,r1,q1⟩)
def tIfS (c: TT) (t u: TS): TS:=fun D σ H => c σ H fun b H1 => if b = true then t D σ H1 else u D σ H1
theorem ps_if {c: Expr} {a b: List Stmt} {tc: TT} (hc: PT X c tc) (ha: PSs X a t) (hb: PSs X b u): PS X (.If c a b pos) (tIfS tc t u):=by
 intro pins s σ H D I h
 refine wpAny_If (thn (hc pins s σ H _ I h) fun d s1 ⟨H1,I1,q1⟩ => ?_)
 cases d with
 | true => exact ha pins s1 σ H1 D I1 q1
 | false => exact hb pins s1 σ H1 D I1 q1
end
abbrev TG:=V -> St -> Hp -> (St -> Hp -> Prop) -> Prop
def PG (X: Cx) (target: Expr) (t: TG): Prop :=
 ∀ (pins: List (Addr × Obj)) (s: Shared) (σ: St) (H: Hp) (v: V) (u: Value) (Q: St -> Hp -> Prop),Inv X pins σ H s -> RelV v u -> t v σ H Q ->
  wpAny (model X.prog X.w) X.A (assign target X.env u) (fun _ s' => ∃ σ' H',Inv X pins σ' H' s' /\ Q σ' H') X.xe s
abbrev TSet:=V -> V -> V -> Hp -> (Hp -> Prop) -> Prop
def PSet (X: Cx) (t: TSet): Prop :=
 ∀ (pins: List (Addr × Obj)) (s: Shared) (σ: St) (H: Hp) (o i v: V) (ov iv u: Value) (Q: Hp -> Prop),Inv X pins σ H s -> RelV o ov -> RelV i iv -> RelV v u -> t o i v H Q ->
  wpAny (model X.prog X.w) X.A (setItem ov iv u) (fun _ s' => ∃ H',Inv X pins σ H' s' /\ Q H') X.xe s
abbrev TIp:=V -> V -> Hp -> VK -> Prop
def PIp (X: Cx) (op: Operator) (t: TIp): Prop :=
 ∀ (pins: List (Addr × Obj)) (s: Shared) (σ: St) (H: Hp) (x y: V) (v u: Value) (Q: VK),Inv X pins σ H s -> RelV x v -> RelV y u -> t x y H Q ->
  wpAny (model X.prog X.w) X.A (inplaceOp op v u) (EP X pins σ Q) X.xe s
section
variable {X: Cx} {pos: Pos}
def gName (i: Nat): TG:=fun v σ H Q => Q (σ.set i (some v)) H
theorem pg_name {i: Nat} {x: Str} (hN: X.N.Nodup) (hi: X.N[i]? = some x) (hx: Loc X.env.scope x) (hf: X.fn x = true \/ X.env.scope.names.lookup x = some .local:=by first | exact .inl rfl | exact .inr rfl | assumption): PG X (.Name x pos) (gName i):=by
 intro pins s σ H v u Q I r h
 exact wpAny_assign_Name (store_ok I hN hi hx r (fun s' I' => ⟨_,H,I',h⟩) hf)
def gSub (to ti: TE) (t: TSet): TG:=fun v σ H Q => to σ H fun o H1 => ti σ H1 fun i H2 => t o i v H2 fun H3 => Q σ H3
theorem pg_sub {o i: Expr} {to ti: TE} {t: TSet} (ho: PE X o to) (hi: PE X i ti) (hs: PSet X t)
  (ha: ∀ v,assign (.Subscript o i pos) X.env v = (do
   let ov <- holding [v] (eval o X.env)
   let iv <- holding [v,ov] (eval i X.env)
   standAt pos
   holding [v,ov,iv] (setItem ov iv v)
   release [v,ov,iv] []):=by intro _; rfl): PG X (.Subscript o i pos) (gSub to ti t):=by
 intro pins s σ H v u Q I r h
 rw [ha]
 refine wpAny_bind (wpAny_holding (thn (ho pins s σ H _ I h) fun ov s1 ⟨x,H1,I1,r1,q1⟩ => ?_))
 refine wpAny_bind (wpAny_holding (thn (hi pins s1 σ H1 _ I1 q1) fun iv s2 ⟨y,H2,I2,r2,q2⟩ => ?_))
 refine wpAny_bind (wpAny_standAt (wpAny_bind (wpAny_holding (thn (hs pins s2 σ H2 x y v ov iv u _ I2 r1 r2 r q2) fun _ s3 ⟨H3,I3,q3⟩ => ?_))))
 exact wpAny_release ⟨σ,H3,I3,q3⟩
def tAsg (te: TE) (g: TG): TS:=fun D σ H => te σ H fun x H1 => g x σ H1 D.nx
theorem ps_asg {tg e: Expr} {te: TE} {g: TG} (he: PE X e te) (hg: PG X tg g) (hs: swapsWithSole [tg] e pos.line X.env = pure false:=by rfl) (hw: swappedStores [tg] e X.env = pure none:=by rfl)
  (h1: (assignEach [tg] X.env).map (·.2) = [assign tg X.env]:=by rfl): PS X (.Assign [tg] e pos) (tAsg te g):=by
 intro pins s σ H D I h
 refine wpAny_Assign_stores (thn (he pins s σ H _ I h) fun v s1 ⟨x,H1,I1,r1,q1⟩ => ?_) hs hw
 rw [h1]
 exact thn (hg pins s1 σ H1 x v _ I1 r1 q1) fun _ s2 q => q
theorem ps_set {i: Nat} {x: Str} {e: Expr} {te: TE} {pos': Pos} (hN: X.N.Nodup) (hi: X.N[i]? = some x) (hx: Loc X.env.scope x) (he: PE X e te) (hs: swapsWith e (some (.Name x pos')) pos.line X.env = pure false:=by rfl) (hf: X.fn x = true \/ X.env.scope.names.lookup x = some .local:=by first | exact .inl rfl | exact .inr rfl | assumption) :
  PS X (.Assign [.Name x pos'] e pos) (tAsg te (gName i)):=by
 intro pins s σ H D I h
 refine wpAny_Assign_Name (thn (he pins s σ H _ I h) fun v s1 ⟨y,H1,I1,r1,q1⟩ => ?_) hs
 exact store_ok I1 hN hi hx r1 (fun s2 I2 => ⟨_,H1,I2,q1⟩) hf
def tAug (i: Nat) (te: TE) (ti: TIp): TS:=fun D σ H => ∃ x,σ[i]? = some (some x) /\ te σ H fun y H1 => ti x y H1 fun z H2 => D.nx (σ.set i (some z)) H2
theorem ps_aug {i: Nat} {x: Str} {e: Expr} {te: TE} {op: Operator} {ti: TIp} {pos': Pos} (hN: X.N.Nodup) (hi: X.N[i]? = some x) (hx: Loc X.env.scope x) (he: PE X e te) (ho: PIp X op ti) (hf: X.fn x = true \/ X.env.scope.names.lookup x = some .local:=by first | exact .inl rfl | exact .inr rfl | assumption) :
  PS X (.AugAssign (.Name x pos') op e pos) (tAug i te ti):=by
 intro pins s σ H D I h
 obtain ⟨v,e1,h⟩:=h
 obtain ⟨m,hn,hl⟩:=I.loc
 have vis: Vis X.env.scope x:=by rcases hx with k | k; exact .inl k; exact .inr (.inl k)
 obtain ⟨u,r,l⟩:=hl i x v hi e1 vis
 refine wpAny_AugAssign_Name ?_
 have go: wpAny (model X.prog X.w) X.A (eval e X.env) (fun w s₂ => wpAny (model X.prog X.w) X.A (inplaceOp op u w) (fun r s₃ => wpAny (model X.prog X.w) X.A (storeName X.env x r) (fun _ => SP X pins D .next) X.xe s₃) X.xe s₂) X.xe s:=by
  refine thn (he pins s σ H _ I h) fun w s1 ⟨y,H1,I1,r1,q1⟩ => ?_
  refine thn (ho pins s1 σ H1 v y u w _ I1 r r1 q1) fun z s2 ⟨zv,H2,I2,r2,q2⟩ => ?_
  exact store_ok I2 hN hi hx r2 (fun s3 I3 => ⟨_,H2,I3,q2⟩) hf
 rcases l with ⟨hk,hm⟩ | ⟨hk,c,hc,hcell⟩
 ·exact wpAny_loadName_local I.ok.kind hk hn hm go
 ·rcases hk with hk | hk
  ·exact wpAny_loadName_cell I.ok.kind hk hc hcell go
  ·rcases hx with k | k
   ·have: X.env.scope.names.lookup x = some .free:=hk
    rw [k] at this; cases this
   ·have: X.env.scope.names.lookup x = some .free:=hk
    rw [k] at this; cases this
def tAugS (to ti te: TE) (tget: V -> V -> Hp -> VK -> Prop) (tip: TIp) (tset: TSet): TS:=fun D σ H => to σ H fun o H1 => ti σ H1 fun i H2 => tget o i H2 fun x H3 => te σ H3 fun y H4 => tip x y H4 fun z H5 => tset o i z H5 fun H6 => D.nx σ H6
def PGet (X: Cx) (t: V -> V -> Hp -> VK -> Prop): Prop :=
 ∀ (pins: List (Addr × Obj)) (s: Shared) (σ: St) (H: Hp) (o i: V) (ov iv: Value) (Q: VK),Inv X pins σ H s -> RelV o ov -> RelV i iv -> t o i H Q ->
  wpAny (model X.prog X.w) X.A (getItem ov iv) (EP X pins σ Q) X.xe s
theorem ps_augS {o i e: Expr} {to ti te: TE} {tget: V -> V -> Hp -> VK -> Prop} {tip: TIp} {tset: TSet} {op: Operator} {tpos: Pos} (ho: PE X o to) (hi: PE X i ti) (hg: PGet X tget) (he: PE X e te) (hp: PIp X op tip) (hs: PSet X tset)
  (ha: ∀ ov iv new,augStore i ov iv new = (do holding [new,ov,iv] (setItem ov iv new); release [new,ov,iv] []; pure .next):=by intros; rfl): PS X (.AugAssign (.Subscript o i tpos) op e pos) (tAugS to ti te tget tip tset):=by
 intro pins s σ H D I h
 refine wpAny_AugAssign_SubscriptAny (thn (ho pins s σ H _ I h) fun ov s1 ⟨x1,H1,I1,r1,q1⟩ => ?_) ha
 refine thn (hi pins s1 σ H1 _ I1 q1) fun iv s2 ⟨x2,H2,I2,r2,q2⟩ => ?_
 refine thn (hg pins s2 σ H2 x1 x2 ov iv _ I2 r1 r2 q2) fun old s3 ⟨x3,H3,I3,r3,q3⟩ => ?_
 refine thn (he pins s3 σ H3 _ I3 q3) fun v s4 ⟨x4,H4,I4,r4,q4⟩ => ?_
 refine thn (hp pins s4 σ H4 x3 x4 old v _ I4 r3 r4 q4) fun new s5 ⟨x5,H5,I5,r5,q5⟩ => ?_
 exact thn (hs pins s5 σ H5 x1 x2 x5 ov iv new _ I5 r1 r2 r5 q5) fun _ s6 ⟨H6,I6,q6⟩ => ⟨σ,H6,I6,q6⟩
def ipI (f: Int -> Int -> Int): TIp:=fun x y H Q => ∃ i j,x = .int i /\ y = .int j /\ Q (.int (f i j)) H
theorem ip_add: PIp X .Add (ipI fun i j => i + j):=by
 intro pins s σ H x y v u Q I r1 r2 h
 obtain ⟨i,j,e1,e2,q⟩:=h
 subst e1; subst e2
 obtain ⟨t,rfl⟩:=r1
 obtain ⟨t',rfl⟩:=r2
 exact iadd_int ⟨.int _,H,I.tok _,⟨_,rfl⟩,q⟩
end
section
variable {X: Cx} {pos: Pos}
def tWhile (c: TT) (tb: TS): TS:=fun D σ H => ∃ W: Nat -> St -> Hp -> Prop,(∃ m,W m σ H) /\ ∀ m σ H,W m σ H ->
 c σ H fun b H1 => if b = true then ∃ N: St -> Hp -> Prop,(∀ σ' H',N σ' H' -> ∃ m',m' < m /\ W m' σ' H') /\ tb { D with nx:=N,ct:=N,bk:=D.nx } σ H1 else D.nx σ H1
theorem ps_while {c: Expr} {body: List Stmt} {tc: TT} {tb: TS} (hp: PassesOwn (model X.prog X.w) X.A X.env X.xe) (hc: PT X c tc) (hb: PSs X body tb): PS X (.While c body [] pos) (tWhile tc tb):=by
 intro pins s σ H D I h
 obtain ⟨W,⟨m0,w0⟩,turn⟩:=h
 refine wpAny_While (codeAny_whileLoop (fun n s' => ∃ σ' H',Inv X pins σ' H' s' /\ W n σ' H') ?_ m0 ⟨σ,H,I,w0⟩)
 rintro n s1 ⟨σ1,H1,I1,w1⟩
 refine wpAny_passesOwn hp (thn (hc pins s1 σ1 H1 _ I1 (turn n σ1 H1 w1)) fun b s2 ⟨H2,I2,q2⟩ => ?_)
 cases b with
 | true =>
  obtain ⟨N,hN,q2⟩:=q2
  rw [if_pos rfl]
  refine wpAny_passesOwn hp (thn (hb pins s2 σ1 H2 _ I2 q2) fun f s3 q3 => ?_)
  cases f with
  | next =>
   obtain ⟨σ3,H3,I3,n3⟩:=q3
   obtain ⟨m',hm,w3⟩:=hN σ3 H3 n3
   exact ⟨m',hm,σ3,H3,I3,w3⟩
  | cont =>
   obtain ⟨σ3,H3,I3,n3⟩:=q3
   obtain ⟨m',hm,w3⟩:=hN σ3 H3 n3
   exact ⟨m',hm,σ3,H3,I3,w3⟩
  | brk => exact q3
  | ret v => exact q3
 | false =>
  rw [if_neg Bool.false_ne_true]
  exact wpAny_execs_nil ⟨σ1,H2,I2,q2⟩
end
structure It where
 go: Nat -> Hp -> Prop
 yld: Nat -> Hp -> V -> Hp -> Prop
 stop: Nat -> Hp -> Prop
def FpOk (X: Cx) (pins: List (Addr × Obj)) (H: Hp) (b: Addr): Prop :=
 H b = none /\ b ≠ X.env.locals /\ b ∉ X.fs /\ (b ∈ X.ex \/ X.s_0.heap.objs.size <= b) /\ (∀ x c,X.env.cells.lookup x = some c -> c ≠ b) /\ ∀ p ∈ X.pn ++ pins,p.1 ≠ b
theorem Inv.fpOk {X: Cx} {pins: List (Addr × Obj)} {σ: St} {H H': Hp} {s: Shared} {b: Addr} (I: Inv X pins σ H s) (hb: s.heap.objs.size <= b) (hn: H' b = none): FpOk X pins H' b:=by
 refine ⟨hn,Nat.ne_of_gt (Nat.lt_of_lt_of_le I.lt hb),I.nofs hb,.inr (Nat.le_trans I.sz hb),fun x c e z => ?_,fun p hp z => ?_⟩
 ·obtain ⟨v,q⟩:=I.cell x c e
  exact absurd (Nat.lt_of_lt_of_le q.lt (by rw [z]; exact hb)) (Nat.lt_irrefl _)
 ·exact absurd (Nat.lt_of_lt_of_le (Heap.lt_size (I.pin p hp).1) (by rw [z]; exact hb)) (Nat.lt_irrefl _)
structure Turn (P: Program) (w: World) (K: PySem.W.Frag) (tg: Expr) (J: It) (fp: List Addr) (it: Addr) (tn: Nat -> Heap -> Prop): Prop where
 mem: it ∈ fp
 obj: ∀ i h,tn i h -> ∀ b ∈ fp,∃ o,h.get? b = some o /\ ∀ v,o.data ≠ .cell v
 keep: ∀ i h h',tn i h -> (∀ b ∈ fp,∀ o,h.get? b = some o -> h'.get? b = some o) -> tn i h'
 item: ∀ (X: Cx),X.prog = P -> X.w = w -> X.K = K -> X.calm = true -> ∀ (i: Nat) (pins: List (Addr × Obj)) (s: Shared) (σ: St) (H: Hp) (E: Value -> Shared -> Prop),Inv X pins σ H s -> (∀ b ∈ fp,FpOk X pins H b) -> tn i s.heap -> J.go i H ->
  wpAny (model P w) X.A (pyNext (.ref it)) (fun r s1 => ∃ u,r = some u /\
   wpAny (model P w) X.A (letOwnedTupleGo tg (.ref it) u) (fun _ s2 => ∃ x H',Inv X pins σ H' s2 /\ RelV x u /\ J.yld i H x H' /\ tn (i + 1) s2.heap /\ ∀ b ∈ fp,H' b = none) E s1) E s
 done: ∀ (X: Cx),X.prog = P -> X.w = w -> X.K = K -> X.calm = true -> ∀ (i: Nat) (pins: List (Addr × Obj)) (s: Shared) (σ: St) (H: Hp) (E: Value -> Shared -> Prop),Inv X pins σ H s -> (∀ b ∈ fp,FpOk X pins H b) -> tn i s.heap -> J.stop i H ->
  wpAny (model P w) X.A (pyNext (.ref it)) (fun r s1 => r = none /\ Inv X pins σ H s1) E s
 self: ∀ (A: Around) (i: Nat) (s: Shared) (Q: Value -> Shared -> Prop) (E: Value -> Shared -> Prop),tn i s.heap -> Q (.ref it) s -> wpAny (model P w) A (pyIter (.ref it)) Q E s
abbrev TI:=St -> Hp -> (It -> Hp -> Prop) -> Prop
def PIE (X: Cx) (pins: List (Addr × Obj)) (σ: St) (tg: Expr) (R: It -> Hp -> Prop) (itv: Value) (s2: Shared): Prop :=
 ∃ (it: Addr) (fp: List Addr) (tn: Nat -> Heap -> Prop) (J: It) (H': Hp),itv = .ref it /\ Inv X pins σ H' s2 /\ Turn X.prog X.w X.K tg J fp it tn /\ tn 0 s2.heap /\ (∀ b ∈ fp,FpOk X pins H' b) /\ R J H'
def PI (X: Cx) (tg iter: Expr) (wi: TI): Prop :=
 ∀ (pins: List (Addr × Obj)) (s: Shared) (σ: St) (H: Hp) (R: It -> Hp -> Prop),Inv X pins σ H s -> wi σ H R ->
  wpAny (model X.prog X.w) X.A (eval iter X.env) (fun v s1 => wpAny (model X.prog X.w) X.A (pyIter v) (PIE X pins σ tg R) X.xe s1) X.xe s
theorem go_of {M: Model} {A: Around} {E: Value -> Shared -> Prop} {s: Shared} {tg: Expr} {it: Addr} {u: Value} {o: Obj} {n: String} {vs: Array Value} {Q: Unit -> Shared -> Prop} (ho: s.heap.get? it = some o) (hc: o.cls = .type n) (hd: o.data = .fields vs)
    (hn: ["enumerate","zip","dict_itemiterator","dict_reverseitemiterator","odict_iterator","itertools.zip_longest","itertools.pairwise"].contains n = false) (hQ: Q () s): wpAny M A (letOwnedTupleGo tg (.ref it) u) Q E s:=by
  unfold letOwnedTupleGo
  cases tg <;> first
    | exact wpAny_pure hQ
    | (cases u <;> first
        | exact wpAny_pure hQ
        | (refine wpAny_bind (wpAny_load ho ?_)
           rw [hc,hd]
           show wpAny M A (if (["enumerate","zip","dict_itemiterator","dict_reverseitemiterator","odict_iterator","itertools.zip_longest","itertools.pairwise"].contains n && vs[0]? == some (rawInt _)) = true then _ else _) Q E s
           rw [if_neg (by intro h; rw [hn,Bool.false_and] at h; cases h)]
           exact wpAny_pure hQ))
def Itl (K: PySem.W.Frag) (a: Addr): It :=
 ⟨fun i H => ∃ xs x,SqL K H a xs /\ xs[i]? = some x,fun i H x H' => H' = H /\ ∀ xs,SqL K H a xs -> xs[i]? = some x,fun i H => ∃ xs,SqL K H a xs /\ xs.length <= i⟩
theorem turn_list {P: Program} {w: World} {K: PySem.W.Frag} {tg: Expr} (a it: Addr): Turn P w K tg (Itl K a) [it] it (fun i h => h.IsListIter it a i) where
 mem:=by simp
 obj:=fun i h st b hb => by
  have e: b = it:=by simpa using hb
  subst e
  obtain ⟨o,e,c,d⟩:=st
  exact ⟨o,e,fun v z => by rw [d] at z; cases z⟩
 keep:=fun i h h' st k => st.at fun o e => k it (by simp) o e
 item:=by
  intro X hP hw hK hc i pins s σ H E I hf st hg
  subst hP hw hK
  obtain ⟨xs,x,hq,hx⟩:=hg
  obtain ⟨its,rv,p,hz⟩:=I.list hq
  obtain ⟨u,hu,ru⟩:=rv.get hx
  obtain ⟨f0,f1,f2,f3,f4,f5⟩:=hf it (by simp)
  refine wpAny_pyNext_list_item st p.isList (x:=u) (by simpa using hu) fun h' st' sb => ?_
  have I1: Inv X pins σ H { s with heap:=h' }:=I.turned (t':=s.toks) (fun b o hb e => (sb.2 b hb).trans e) f0 f1 f3 f4 f5
  obtain ⟨o,e,c,d⟩:=id st'
  exact ⟨u,rfl,go_of (s:={ s with heap:=h' }) e c d (by decide) ⟨x,H,I1,ru,⟨rfl,fun ys hy => by rw [I.list_inj hy hq]; exact hx⟩,st',fun b hb => (hf b hb).1⟩⟩
 done:=by
  intro X hP hw hK hc i pins s σ H E I hf st hg
  subst hP hw hK
  obtain ⟨xs,hq,hx⟩:=hg
  obtain ⟨its,rv,p,hz⟩:=I.list hq
  obtain ⟨f0,f1,f2,f3,f4,f5⟩:=hf it (by simp)
  have hl:=rv.length
  exact wpAny_pyNext_list_end (I.ok.hd hc) st p.isList (by simp; omega) fun h' eb => ⟨rfl,I.turned (t':=s.toks) (fun b o hb e => eb b o hb e) f0 f1 f3 f4 f5⟩
 self:=fun _ _ _ _ _ st h => wpAny_pyIter_listiter st h
end L2
namespace L2
open PySem PySem.Spec PyProof.Rows
section
variable {X: Cx} {tg: Expr}
def iList (K: PySem.W.Frag) (tl: TE): TI:=fun σ H R => tl σ H fun x H1 => ∃ a,x = .ref a /\ (∃ xs,SqL K H1 a xs) /\ R (Itl K a) H1
theorem pi_list {l: Expr} {tl: TE} (hl: PE X l tl): PI X tg l (iList X.K tl):=by
 intro pins s σ H R I h
 refine thn (hl pins s σ H _ I h) fun v s1 ⟨x,H1,I1,r1,q1⟩ => ?_
 obtain ⟨a,e,⟨xs,hq⟩,q⟩:=q1
 subst e
 cases r1
 obtain ⟨its,rv,p,hz⟩:=I1.list hq
 refine wpAny_pyIter_list p.isList ?_
 refine ⟨s1.heap.objs.size,[s1.heap.objs.size],_,_,H1,rfl,I1.kept (t':=s1.toks) fun b o e => Heap.get?_push_of_some _ e,turn_list a _,⟨_,Heap.get?_push_size _ rfl,rfl,rfl⟩,fun b hb => ?_,q⟩
 have e: b = s1.heap.objs.size:=by simpa using hb
 subst e
 exact I1.fpOk (Nat.le_refl _) (I1.hok.fresh (Nat.le_refl _))
def tFor (wi: TI) (g: TG) (tb: TS): TS:=fun D σ H => wi σ H fun J H1 => ∃ W: Nat -> Nat -> St -> Hp -> Prop,(∃ m,W 0 m σ H1) /\ ∀ i m σ H,W i m σ H ->
 (J.stop i H /\ D.nx σ H) \/ (J.go i H /\ ∃ N: St -> Hp -> Prop,(∀ σ' H',N σ' H' -> ∃ m',m' < m /\ W (i + 1) m' σ' H') /\ ∀ x H',J.yld i H x H' -> g x σ H' fun σ2 H2 => tb { D with nx:=N,ct:=N,bk:=D.nx } σ2 H2)
def pinsAt (fp: List Addr) (h: Heap): List (Addr × Obj):=fp.filterMap fun b => (h.get? b).map fun o => (b,o)
theorem mem_pinsAt {fp: List Addr} {h: Heap} {b: Addr} {o: Obj} (hb: b ∈ fp) (e: h.get? b = some o): (b,o) ∈ pinsAt fp h:=List.mem_filterMap.mpr ⟨b,hb,by rw [e]; rfl⟩
theorem of_pinsAt {fp: List Addr} {h: Heap} {p: Addr × Obj} (hp: p ∈ pinsAt fp h): p.1 ∈ fp /\ h.get? p.1 = some p.2:=by
 obtain ⟨b,hb,e⟩:=List.mem_filterMap.mp hp
 cases q: h.get? b with
 | none => rw [q] at e; cases e
 | some o =>
  rw [q] at e
  have e': (b,o) = p:=Option.some.inj e
  subst e'
  exact ⟨hb,q⟩
theorem Inv.pinned {pins: List (Addr × Obj)} {σ: St} {H: Hp} {s: Shared} {fp: List Addr} (I: Inv X pins σ H s) (hf: ∀ b ∈ fp,FpOk X pins H b) (ho: ∀ b ∈ fp,∃ o,s.heap.get? b = some o /\ ∀ v,o.data ≠ .cell v): Inv X (pins ++ pinsAt fp s.heap) σ H s :=
 I.pins_of fun p hp => (List.mem_append.mp hp).elim (fun z => I.pin p (List.mem_append_right _ z)) fun z => by
  obtain ⟨hb,e⟩:=of_pinsAt z
  obtain ⟨f0,f1,f2,_⟩:=hf p.1 hb
  obtain ⟨o,e',d⟩:=ho p.1 hb
  rw [e] at e'; cases e'
  exact ⟨e,f0,f1,f2,d⟩
theorem Inv.unpinned {pins pl: List (Addr × Obj)} {σ: St} {H: Hp} {s: Shared} (I: Inv X (pins ++ pl) σ H s): Inv X pins σ H s:=I.pins_of fun p hp => I.pin p (List.mem_append_right _ (List.mem_append_left _ hp))
theorem ps_for {iter: Expr} {body: List Stmt} {wi: TI} {g: TG} {tb: TS} {pos: Pos} (hp: PassesOwn (model X.prog X.w) X.A X.env X.xe) (hc: X.calm = true) (hi: PI X tg iter wi) (hg: PG X tg g) (hb: PSs X body tb)
  (hs: ∀ x,foldedSetIterable iter X.env x = pure x:=by intro _; rfl): PS X (.For tg iter body [] pos) (tFor wi g tb):=by
 intro pins s σ H D I h
 refine wpAny_For (thn (hi pins s σ H _ I h) fun v s1 h1 => thn h1 fun itv s2 h2 => ?_) hs
 obtain ⟨it,fp,tn,J,H2,e,I2,T,st2,f2,W,⟨m0,w0⟩,turn⟩:=h2
 subst e
 have stat: ∀ {H': Hp},(∀ b ∈ fp,H' b = none) -> ∀ b ∈ fp,FpOk X pins H' b:=fun hn b hb => ⟨hn b hb,(f2 b hb).2⟩
 refine codeAny_forLoop_any (fun n s' => ∃ i σ' H',Inv X pins σ' H' s' /\ tn i s'.heap /\ (∀ b ∈ fp,H' b = none) /\ W i n σ' H') ?_ m0 ⟨0,σ,H2,I2,st2,fun b hb => (f2 b hb).1,w0⟩
 rintro n s3 ⟨i,σ3,H3,I3,st3,fr3,w3⟩
 rcases turn i n σ3 H3 w3 with ⟨stop,qn⟩ | ⟨go,N,hN,step⟩
 ·refine wpAny_passesOwn hp (thn (T.done X rfl rfl rfl hc i pins s3 σ3 H3 X.xe I3 (stat fr3) st3 stop) fun r s4 ⟨hr,I4⟩ => ?_)
  subst hr
  exact wpAny_execs_nil ⟨σ3,H3,I4,qn⟩
 ·refine wpAny_passesOwn hp (thn (T.item X rfl rfl rfl hc i pins s3 σ3 H3 X.xe I3 (stat fr3) st3 go) fun r s4 ⟨u,hr,h4⟩ => ?_)
  subst hr
  refine wpAny_passesOwn hp (thn h4 fun _ s5 ⟨x,H5,I5,r5,y5,st5,fr5⟩ => ?_)
  have I5':=I5.pinned (stat fr5) (T.obj _ _ st5)
  refine wpAny_passesOwn hp (thn (hg _ s5 σ3 H5 x u _ I5' r5 (step x H5 y5)) fun _ s6 ⟨σ6,H6,I6,q6⟩ => ?_)
  refine wpAny_passesOwn hp (thn (hb _ s6 σ6 H6 _ I6 q6) fun f s7 q7 => ?_)
  have again: ∀ {σ7: St} {H7: Hp},Inv X (pins ++ pinsAt fp s5.heap) σ7 H7 s7 -> N σ7 H7 -> ∃ m,m < n /\ ∃ i σ' H',Inv X pins σ' H' s7 /\ tn i s7.heap /\ (∀ b ∈ fp,H' b = none) /\ W i m σ' H':=fun {σ7 H7} I7 n7 => by
   obtain ⟨m',hm,w7⟩:=hN σ7 H7 n7
   refine ⟨m',hm,i + 1,σ7,H7,I7.unpinned,T.keep _ _ _ st5 fun b hb o e => (I7.pin (b,o) (List.mem_append_right _ (List.mem_append_right _ (mem_pinsAt hb e)))).1,fun b hb => ?_,w7⟩
   obtain ⟨o,e,d⟩:=T.obj _ _ st5 b hb
   exact (I7.pin (b,o) (List.mem_append_right _ (List.mem_append_right _ (mem_pinsAt hb e)))).2.1
  cases f with
  | next => obtain ⟨σ7,H7,I7,n7⟩:=q7; exact again I7 n7
  | cont => obtain ⟨σ7,H7,I7,n7⟩:=q7; exact again I7 n7
  | brk => obtain ⟨σ7,H7,I7,q7⟩:=q7; exact ⟨σ7,H7,I7.unpinned,q7⟩
  | ret v => obtain ⟨x7,σ7,H7,I7,r7,q7⟩:=q7; exact ⟨x7,σ7,H7,I7.unpinned,r7,q7⟩
end
theorem for_list {K: PySem.W.Frag} {a: Addr} {xs: List V} {g: TG} {tb: TS} {D: Ends} {σ: St} {H: Hp} (Pv: Nat -> St -> Hp -> Prop) (h0: Pv 0 σ H) (hl: ∀ i σ H,i <= xs.length -> Pv i σ H -> SqL K H a xs)
  (hs: ∀ i x σ H,xs[i]? = some x -> Pv i σ H -> g x σ H fun σ2 H2 => tb { D with nx:=Pv (i + 1),ct:=Pv (i + 1),bk:=D.nx } σ2 H2) (hd: ∀ σ H,Pv xs.length σ H -> D.nx σ H) :
  ∃ W: Nat -> Nat -> St -> Hp -> Prop,(∃ m,W 0 m σ H) /\ ∀ i m σ H,W i m σ H ->
   ((Itl K a).stop i H /\ D.nx σ H) \/ ((Itl K a).go i H /\ ∃ N: St -> Hp -> Prop,(∀ σ' H',N σ' H' -> ∃ m',m' < m /\ W (i + 1) m' σ' H') /\ ∀ x H',(Itl K a).yld i H x H' -> g x σ H' fun σ2 H2 => tb { D with nx:=N,ct:=N,bk:=D.nx } σ2 H2):=by
 refine ⟨fun i m σ H => m = xs.length - i /\ i <= xs.length /\ Pv i σ H,⟨xs.length,by simp,Nat.zero_le _,h0⟩,?_⟩
 rintro i m σ H ⟨rfl,hi,p⟩
 have q:=hl i σ H hi p
 by_cases hlt: i < xs.length
 ·refine .inr ⟨⟨xs,xs[i],q,by simp [hlt]⟩,Pv (i + 1),fun σ' H' p' => ⟨xs.length - (i + 1),by omega,rfl,hlt,p'⟩,fun x H' y => ?_⟩
  obtain ⟨e,y⟩:=y
  subst e
  exact hs i x σ _ (y xs q) p
 ·have e: i = xs.length:=by omega
  subst e
  exact .inl ⟨⟨xs,q,Nat.le_refl _⟩,hd σ H p⟩
end L2
namespace L2
open PySem PySem.Spec PyProof.Rows
abbrev R2:=V -> V -> Hp -> VK -> Prop
def OpR (X: Cx) (f: Value -> Value -> Sem Value) (r: R2): Prop :=
 ∀ (pins: List (Addr × Obj)) (s: Shared) (σ: St) (H: Hp) (x y: V) (v u: Value) (Q: VK),Inv X pins σ H s -> RelV x v -> RelV y u -> r x y H Q ->
  wpAny (model X.prog X.w) X.A (f v u) (EP X pins σ Q) X.xe s
def UnR (X: Cx) (f: Value -> Sem Value) (r: V -> Hp -> VK -> Prop): Prop :=
 ∀ (pins: List (Addr × Obj)) (s: Shared) (σ: St) (H: Hp) (x: V) (v: Value) (Q: VK),Inv X pins σ H s -> RelV x v -> r x H Q ->
  wpAny (model X.prog X.w) X.A (f v) (EP X pins σ Q) X.xe s
def CallR (X: Cx) (f: Value) (r: List V -> Hp -> VK -> Prop): Prop :=
 ∀ (pins: List (Addr × Obj)) (s: Shared) (σ: St) (H: Hp) (xs: List V) (us: List Value) (Q: VK),Inv X pins σ H s -> Vals xs us -> r xs H Q ->
  wpAny (model X.prog X.w) X.A (call f us) (EP X pins σ Q) X.xe s
def tOp (r: R2) (ta tb: TE): TE:=fun σ H Q => ta σ H fun x H1 => tb σ H1 fun y H2 => r x y H2 Q
def tUn (r: V -> Hp -> VK -> Prop) (ta: TE): TE:=fun σ H Q => ta σ H fun x H1 => r x H1 Q
def rI (C: Int -> Int -> Prop) (g: Int -> Int -> V): R2:=fun x y H Q => ∃ i j,x = .int i /\ y = .int j /\ C i j /\ Q (g i j) H
def rI0 (g: Int -> Int -> V): R2:=fun x y H Q => ∃ i j,x = .int i /\ y = .int j /\ Q (g i j) H
def rU (g: Int -> V): V -> Hp -> VK -> Prop:=fun x H Q => ∃ i,x = .int i /\ Q (g i) H
section
variable {X: Cx} {a b c: Expr} {ta tb tc: TE} {pos: Pos}
theorem binT (ha: PE X a ta) (hb: PE X b tb) {pins: List (Addr × Obj)} {s: Shared} {σ: St} {H: Hp} {R: V -> V -> Hp -> Prop} (I: Inv X pins σ H s)
  (h: ta σ H fun x H1 => tb σ H1 fun y H2 => R x y H2) {Q: Value -> Shared -> Prop} {f: Value -> Value -> Sem Value}
  (hf: ∀ v u s2 x y H2,Inv X pins σ H2 s2 -> RelV x v -> RelV y u -> R x y H2 -> wpAny (model X.prog X.w) X.A (f v u) Q X.xe s2) :
  wpAny (model X.prog X.w) X.A (eval a X.env) (fun v s₁ => wpAny (model X.prog X.w) X.A (eval b X.env) (fun u s₂ => wpAny (model X.prog X.w) X.A (f v u) Q X.xe s₂) X.xe s₁) X.xe s:=by
 refine thn (ha pins s σ H _ I h) fun v s1 ⟨x,H1,I1,r1,q1⟩ => ?_
 refine thn (hb pins s1 σ H1 _ I1 q1) fun u s2 ⟨y,H2,I2,r2,q2⟩ => ?_
 exact hf v u s2 x y H2 I2 r1 r2 q2
theorem pe_op {op: Operator} {r: R2} (ho: OpR X (binaryOp op) r) (ha: PE X a ta) (hb: PE X b tb): PE X (.BinOp a op b pos) (tOp r ta tb):=by
 intro pins s σ H Q I h
 exact wpAny_BinOp (binT ha hb I h fun v u s2 x y H2 I2 rx ry q => ho pins s2 σ H2 x y v u Q I2 rx ry q)
theorem pe_un {op: UnaryOp} {r: V -> Hp -> VK -> Prop} (ho: UnR X (unaryOp op) r) (ha: PE X a ta): PE X (.UnaryOp op a pos) (tUn r ta):=by
 intro pins s σ H Q I h
 exact UnaryOp_ (thn (ha pins s σ H _ I h) fun v s1 ⟨x,H1,I1,r1,q1⟩ => ho pins s1 σ H1 x v Q I1 r1 q1)
theorem opI {f: Value -> Value -> Sem Value} {C: Int -> Int -> Prop} {g: Int -> Int -> Int}
  (rule: ∀ (i j: Int) (t u: Tok) (s: Shared) (Q: Value -> Shared -> Prop) (E: Value -> Shared -> Prop),C i j -> Q (.int (g i j) s.toks) { s with toks:=s.toks + 1 } -> wpAny (model X.prog X.w) X.A (f (.int i t) (.int j u)) Q E s) :
  OpR X f (rI C fun i j => .int (g i j)):=by
 intro pins s σ H x y v u Q I rx ry h
 obtain ⟨i,j,rfl,rfl,hc,q⟩:=h
 obtain ⟨t,rfl⟩:=rx
 obtain ⟨t',rfl⟩:=ry
 exact rule i j t t' s _ _ hc ⟨.int (g i j),H,I.tok _,⟨_,rfl⟩,q⟩
theorem opI0 {f: Value -> Value -> Sem Value} {g: Int -> Int -> Int}
  (rule: ∀ (i j: Int) (t u: Tok) (s: Shared) (Q: Value -> Shared -> Prop) (E: Value -> Shared -> Prop),Q (.int (g i j) s.toks) { s with toks:=s.toks + 1 } -> wpAny (model X.prog X.w) X.A (f (.int i t) (.int j u)) Q E s) :
  OpR X f (rI0 fun i j => .int (g i j)):=by
 intro pins s σ H x y v u Q I rx ry h
 obtain ⟨i,j,rfl,rfl,q⟩:=h
 obtain ⟨t,rfl⟩:=rx
 obtain ⟨t',rfl⟩:=ry
 exact rule i j t t' s _ _ ⟨.int (g i j),H,I.tok _,⟨_,rfl⟩,q⟩
theorem opB0 {f: Value -> Value -> Sem Value} {g: Int -> Int -> Bool}
  (rule: ∀ (i j: Int) (t u: Tok) (s: Shared) (Q: Value -> Shared -> Prop) (E: Value -> Shared -> Prop),Q (.bool (g i j)) s -> wpAny (model X.prog X.w) X.A (f (.int i t) (.int j u)) Q E s) :
  OpR X f (rI0 fun i j => .bl (g i j)):=by
 intro pins s σ H x y v u Q I rx ry h
 obtain ⟨i,j,rfl,rfl,q⟩:=h
 obtain ⟨t,rfl⟩:=rx
 obtain ⟨t',rfl⟩:=ry
 exact rule i j t t' s _ _ ⟨.bl (g i j),H,I,rfl,q⟩
def CDiv (i j: Int): Prop:=0 < j /\ j < 1073741824
def CMul (i j: Int): Prop:=(-(2 ^ 64) < i /\ i < 2 ^ 64) \/ (-(2 ^ 64) < j /\ j < 2 ^ 64)
theorem CMul.ok {i j: Int} (h: CMul i j): IntMulOk i j:=by
 rcases h with ⟨h1,h2⟩ | ⟨h1,h2⟩
 ·exact .of_left (intBits_le_64 h1 h2)
 ·exact .of_right (intBits_le_64 h1 h2)
theorem op_add: OpR X (binaryOp .Add) (rI0 fun i j => .int (i + j)):=opI0 fun _ _ _ _ _ _ _ q => add_int q
theorem op_sub: OpR X (binaryOp .Sub) (rI0 fun i j => .int (i - j)):=opI0 fun _ _ _ _ _ _ _ q => sub_int q
theorem op_mul: OpR X (binaryOp .Mult) (rI CMul fun i j => .int (i * j)):=opI fun _ _ _ _ _ _ _ hc q => mul_int q hc.ok
theorem op_fdiv: OpR X (binaryOp .FloorDiv) (rI CDiv fun i j => .int (i / j)):=opI fun i j _ _ _ _ _ hc q => by
 have h1: (0: Int) < j:=hc.1
 have h2: j < 1073741824:=hc.2
 exact floordiv_int (by omega) (by rw [Int.fdiv_eq_ediv_of_nonneg i (by omega)]; exact q) (.inl (PyProof.noPylong_small (by omega)))
theorem op_mod: OpR X (binaryOp .Mod) (rI (fun _ j => 0 < j) fun i j => .int (i % j)):=opI fun i j _ _ _ _ _ hc q => by
 have h1: (0: Int) < j:=hc
 exact mod_int' (by omega) (by rw [Int.fmod_eq_emod_of_nonneg i (by omega)]; exact q)
theorem unI {f: Value -> Sem Value} {g: Int -> Int}
  (rule: ∀ (i: Int) (t: Tok) (s: Shared) (Q: Value -> Shared -> Prop) (E: Value -> Shared -> Prop),Q (.int (g i) s.toks) { s with toks:=s.toks + 1 } -> wpAny (model X.prog X.w) X.A (f (.int i t)) Q E s) :
  UnR X f (rU fun i => .int (g i)):=by
 intro pins s σ H x v Q I rx h
 obtain ⟨i,rfl,q⟩:=h
 obtain ⟨t,rfl⟩:=rx
 exact rule i t s _ _ ⟨.int (g i),H,I.tok _,⟨_,rfl⟩,q⟩
theorem un_neg: UnR X (unaryOp .USub) (rU fun i => .int (-i)):=unI fun _ _ _ _ _ q => neg_int q
end
def scal: V -> V -> Bool
 | .non,.non => true | .non,.int _ => true | .int _,.non => true | .non,.bl _ => true | .bl _,.non => true | .non,.str _ => true | .str _,.non => true
 | .int _,.int _ => true | .bl _,.bl _ => true | .str _,.str _ => true | .byt _,.byt _ => true
 | .int _,.str _ => true | .str _,.int _ => true | .bl _,.str _ => true | .str _,.bl _ => true
 | _,_ => false
def rEq: R2:=fun x y H Q => scal x y = true /\ Q (.bl (decide (x = y))) H
def rNe: R2:=fun x y H Q => scal x y = true /\ Q (.bl (!decide (x = y))) H
theorem dec_int {i j: Int}: decide (V.int i = V.int j) = (i == j):=by
 rw [Bool.eq_iff_iff]
 simp
theorem dec_bl {i j: Bool}: decide (V.bl i = V.bl j) = (i == j):=by
 rw [Bool.eq_iff_iff]
 simp
theorem dec_str {i j: Str}: decide (V.str i = V.str j) = (i == j):=by
 rw [Bool.eq_iff_iff]
 simp
theorem dec_byt {i j: Array UInt8}: decide (V.byt i = V.byt j) = (i.toList == j.toList):=by
 rw [Bool.eq_iff_iff]
 cases i
 cases j
 simp
section
variable {X: Cx} {a b c: Expr} {ta tb tc: TE} {pos: Pos}
theorem fin_bl {pins: List (Addr × Obj)} {σ: St} {H: Hp} {s: Shared} {Q: VK} {k k': Bool} (I: Inv X pins σ H s) (q: Q (.bl k) H) (e: k = k'): EP X pins σ Q (.bool k') s:=by
 subst e
 exact ⟨.bl k,H,I,rfl,q⟩
theorem op_eq: OpR X (compareOp .Eq) rEq:=by
 intro pins s σ H x y v u Q I rx ry h
 obtain ⟨hs,q⟩:=h
 cases x with
 | non =>
  cases rx
  cases y with
  | non => cases ry; exact PySem.EqNone.eq_none_none (fin_bl I q (by simp))
  | bl j => cases ry; exact PySem.EqNone.eq_none_bool (fin_bl I q (by simp))
  | int j => obtain ⟨t',rfl⟩:=ry; exact PySem.EqNone.eq_none_int (fin_bl I q (by simp))
  | str j => obtain ⟨t',rfl⟩:=ry; exact PySem.EqNone.eq_none_str (fin_bl I q (by simp))
  | _ => exact absurd (show false = true from hs) Bool.false_ne_true
 | bl i =>
  cases rx
  cases y with
  | non => cases ry; exact PySem.EqNone.eq_bool_none (fin_bl I q (by simp))
  | bl j => cases ry; exact eq_bool (fin_bl I q dec_bl)
  | str j => obtain ⟨t',rfl⟩:=ry; exact PySem.EqMixed.eq_bool_str (fin_bl I q (by simp))
  | _ => exact absurd (show false = true from hs) Bool.false_ne_true
 | int i =>
  obtain ⟨t,rfl⟩:=rx
  cases y with
  | non => cases ry; exact PySem.EqNone.eq_int_none (fin_bl I q (by simp))
  | int j => obtain ⟨t',rfl⟩:=ry; exact eq_int (fin_bl I q dec_int)
  | str j => obtain ⟨t',rfl⟩:=ry; exact PySem.EqMixed.eq_int_str (fin_bl I q (by simp))
  | _ => exact absurd (show false = true from hs) Bool.false_ne_true
 | str i =>
  obtain ⟨t,rfl⟩:=rx
  cases y with
  | non => cases ry; exact PySem.EqNone.eq_str_none (fin_bl I q (by simp))
  | bl j => cases ry; exact PySem.EqMixed.eq_str_bool (fin_bl I q (by simp))
  | int j => obtain ⟨t',rfl⟩:=ry; exact PySem.EqMixed.eq_str_int (fin_bl I q (by simp))
  | str j => obtain ⟨t',rfl⟩:=ry; exact eq_str (fin_bl I q dec_str)
  | _ => exact absurd (show false = true from hs) Bool.false_ne_true
 | byt i =>
  obtain ⟨t,rfl⟩:=rx
  cases y with
  | byt j => obtain ⟨t',rfl⟩:=ry; exact PySem.W.eq_bytes (fin_bl I q dec_byt)
  | _ => exact absurd (show false = true from hs) Bool.false_ne_true
 | _ => cases y <;> exact absurd (show false = true from hs) Bool.false_ne_true
theorem op_ne: OpR X (compareOp .NotEq) rNe:=by
 intro pins s σ H x y v u Q I rx ry h
 obtain ⟨hs,q⟩:=h
 cases x with
 | non =>
  cases rx
  cases y with
  | non => cases ry; exact PySem.EqNone.ne_none_none (fin_bl I q (by simp))
  | bl j => cases ry; exact PySem.EqNone.ne_none_bool (fin_bl I q (by simp))
  | int j => obtain ⟨t',rfl⟩:=ry; exact PySem.EqNone.ne_none_int (fin_bl I q (by simp))
  | str j => obtain ⟨t',rfl⟩:=ry; exact PySem.EqNone.ne_none_str (fin_bl I q (by simp))
  | _ => exact absurd (show false = true from hs) Bool.false_ne_true
 | bl i =>
  cases rx
  cases y with
  | non => cases ry; exact PySem.EqNone.ne_bool_none (fin_bl I q (by simp))
  | bl j => cases ry; exact ne_bool (fin_bl I q (congrArg not dec_bl))
  | str j => obtain ⟨t',rfl⟩:=ry; exact PySem.EqMixed.ne_bool_str (fin_bl I q (by simp))
  | _ => exact absurd (show false = true from hs) Bool.false_ne_true
 | int i =>
  obtain ⟨t,rfl⟩:=rx
  cases y with
  | non => cases ry; exact PySem.EqNone.ne_int_none (fin_bl I q (by simp))
  | int j => obtain ⟨t',rfl⟩:=ry; exact ne_int (fin_bl I q (congrArg not dec_int))
  | str j => obtain ⟨t',rfl⟩:=ry; exact PySem.EqMixed.ne_int_str (fin_bl I q (by simp))
  | _ => exact absurd (show false = true from hs) Bool.false_ne_true
 | str i =>
  obtain ⟨t,rfl⟩:=rx
  cases y with
  | non => cases ry; exact PySem.EqNone.ne_str_none (fin_bl I q (by simp))
  | bl j => cases ry; exact PySem.EqMixed.ne_str_bool (fin_bl I q (by simp))
  | int j => obtain ⟨t',rfl⟩:=ry; exact PySem.EqMixed.ne_str_int (fin_bl I q (by simp))
  | str j => obtain ⟨t',rfl⟩:=ry; exact ne_str (fin_bl I q (congrArg not dec_str))
  | _ => exact absurd (show false = true from hs) Bool.false_ne_true
 | byt i =>
  obtain ⟨t,rfl⟩:=rx
  cases y with
  | byt j => obtain ⟨t',rfl⟩:=ry; exact PySem.W.ne_bytes (fin_bl I q (congrArg not dec_byt))
  | _ => exact absurd (show false = true from hs) Bool.false_ne_true
 | _ => cases y <;> exact absurd (show false = true from hs) Bool.false_ne_true
theorem op_lt: OpR X (compareOp .Lt) (rI0 fun i j => .bl (decide (i < j))):=opB0 fun _ _ _ _ _ _ _ q => lt_int q
theorem op_le: OpR X (compareOp .LtE) (rI0 fun i j => .bl (decide (i <= j))):=opB0 fun _ _ _ _ _ _ _ q => le_int q
theorem op_ge: OpR X (compareOp .GtE) (rI0 fun i j => .bl (decide (j <= i))):=opB0 fun _ _ _ _ _ _ _ q => ge_int q
theorem op_isN: OpR X (compareOp .Is) (fun x y H Q => y = .non /\ Q (.bl (decide (x = .non))) H):=by
 intro pins s σ H x y v u Q I rx ry h
 obtain ⟨rfl,q⟩:=h
 cases ry
 refine is_none_gen (fin_bl I q ?_)
 cases x <;> first
  | (cases rx; rfl)
  | (obtain ⟨t,rfl⟩:=rx; rfl)
theorem nomark (b: Expr) {op: CmpOp} (h: op ≠ .In:=by decide) (h2: op ≠ .NotIn:=by decide): behindInMarks op b = false:=by
 have e1: (op == CmpOp.In) = false:=by cases op <;> first | rfl | exact absurd rfl h
 have e2: (op == CmpOp.NotIn) = false:=by cases op <;> first | rfl | exact absurd rfl h2
 cases b <;> simp [behindInMarks,e1,e2]
theorem pe_cmpR {op: CmpOp} {r: R2} (ho: OpR X (compareOp op) r) (ha: PE X a ta) (hb: PE X b tb) (hm: behindInMarks op b = false): PE X (.Compare a [op] [b] pos) (tOp r ta tb):=by
 intro pins s σ H Q I h
 exact wpAny_Compare1 (binT ha hb I h fun v u s2 x y H2 I2 rx ry q => ho pins s2 σ H2 x y v u Q I2 rx ry q) hm
def tTest (t: TE): TT:=fun σ H Q => t σ H fun x H' => ∃ k,x = .bl k /\ Q k H'
theorem pt_cmpR {op: CmpOp} {r: R2} (ho: OpR X (compareOp op) r) (ha: PE X a ta) (hb: PE X b tb) (hm: behindInMarks op b = false): PT X (.Compare a [op] [b] pos) (tTest (tOp r ta tb)):=by
 intro pins s σ H Q I h
 refine wpAny_isTrue_Compare1 (thn (ha pins s σ H _ I h) fun v s1 ⟨x,H1,I1,r1,q1⟩ => thn (hb pins s1 σ H1 _ I1 q1) fun u s2 ⟨y,H2,I2,r2,q2⟩ =>
  thn (ho pins s2 σ H2 x y v u _ I2 r1 r2 q2) fun c s3 ⟨z,H3,I3,r3,k,e,q3⟩ => ?_) hm
 subst e
 cases r3
 exact wpAny_truthy_bool ⟨H3,I3,q3⟩
def tChain (r r': R2) (ta tb tc: TE): TE:=fun σ H Q => ta σ H fun x H1 => tb σ H1 fun y H2 => r x y H2 fun z H3 => ∃ k,z = .bl k /\
 (if k = true then tc σ H3 fun w' H4 => r' y w' H4 Q else Q (.bl false) H3)
theorem pe_chain {op op': CmpOp} {r r': R2} (ho: OpR X (compareOp op) r) (ho': OpR X (compareOp op') r') (ha: PE X a ta) (hb: PE X b tb) (hc: PE X c tc)
  (hm: lastMarks [op,op'] [b,c] = false:=by with_unfolding_all rfl): PE X (.Compare a [op,op'] [b,c] pos) (tChain r r' ta tb tc):=by
 intro pins s σ H Q I h
 refine Compare_chain (thn (ha pins s σ H _ I h) fun v s1 ⟨x,H1,I1,r1,q1⟩ => chain_link (thn (hb pins s1 σ H1 _ I1 q1) fun u s2 ⟨y,H2,I2,r2,q2⟩ =>
  thn (ho pins s2 σ H2 x y v u _ I2 r1 r2 q2) fun d s3 ⟨z,H3,I3,r3,k,e,q3⟩ => ?_)) hm
 subst e
 cases r3
 refine wpAny_truthy_bool ?_
 cases k with
 | false => exact ite_ff ⟨.bl false,H3,I3,rfl,q3⟩
 | true => exact ite_tt (chain_last (thn (hc pins s3 σ H3 _ I3 q3) fun w' s4 ⟨z',H4,I4,r4,q4⟩ => ho' pins s4 σ H4 y z' u w' Q I4 r2 r4 q4))
theorem line63: (sizeLine: Nat) < 2 ^ 63:=by rw [sizeLine_eq]; decide
theorem op_add_str: OpR X (binaryOp .Add) (fun x y H Q => ∃ i j,x = .str i /\ y = .str j /\ i.length + j.length <= sizeLine /\ Q (.str (i ++ j)) H):=by
 intro pins s σ H x y v u Q I rx ry h
 obtain ⟨i,j,rfl,rfl,hz,q⟩:=h
 obtain ⟨t,rfl⟩:=rx
 obtain ⟨t',rfl⟩:=ry
 exact add_str (fun t' tk => ⟨.str (i ++ j),H,I.tok _,⟨_,rfl⟩,q⟩) hz
theorem vals1 {x: V} {us: List Value} (r: Vals [x] us): ∃ u,us = [u] /\ RelV x u:=by
 cases r with
 | cons r1 r2 => cases r2; exact ⟨_,rfl,r1⟩
theorem vals2 {x y: V} {us: List Value} (r: Vals [x,y] us): ∃ u w',us = [u,w'] /\ RelV x u /\ RelV y w':=by
 cases r with
 | cons r1 r2 =>
  cases r2 with
  | cons r3 r4 => cases r4; exact ⟨_,_,rfl,r1,r3⟩
theorem call_abs: CallR X (.builtin "abs") (fun xs H Q => ∃ i,xs = [.int i] /\ Q (.int (if i < 0 then -i else i)) H):=by
 intro pins s σ H xs us Q I r h
 obtain ⟨i,rfl,q⟩:=h
 obtain ⟨u,rfl,t,rfl⟩:=vals1 r
 exact call_abs_int fun u tk => ⟨.int (if i < 0 then -i else i),H,I.tok _,⟨_,rfl⟩,q⟩
theorem call_str_int: CallR X (.type "str") (fun xs H Q => ∃ i,xs = [.int i] /\ i.natAbs.log2 < 1920 /\ Q (.str (toString i)) H):=by
 intro pins s σ H xs us Q I r h
 obtain ⟨i,rfl,hz,q⟩:=h
 obtain ⟨u,rfl,t,rfl⟩:=vals1 r
 exact PySem.P.str_of_int hz ⟨.str _,H,I.tok _,⟨_,rfl⟩,q⟩
theorem call_ord: CallR X (.builtin "ord") (fun xs H Q => ∃ x,xs = [.str x] /\ x.length = 1 /\ Q (.int (x.cps.getD 0 0: Nat)) H):=by
 intro pins s σ H xs us Q I r h
 obtain ⟨x,rfl,hz,q⟩:=h
 obtain ⟨u,rfl,t,rfl⟩:=vals1 r
 exact ord_of_one hz ⟨.int _,H,I.tok _,⟨_,rfl⟩,q⟩
end
end L2
namespace L2
open PySem PySem.Spec PyProof.Rows
structure ObjM (h: Heap) (x dx C: Addr) (mA: Str -> Option Value): Prop where
 obj: h.get? x = some (PySem.W.instObj C dx)
 ns: h.Ns1 dx mA
 ne: dx ≠ x
theorem lookIn_ns {h: Heap} {dx: Addr} {mA: Str -> Option Value} (n: h.Ns1 dx mA): ∃ od,h.get? dx = some od /\ ∀ name,PySem.W.lookIn name od = some (mA name):=by
 obtain ⟨o,es,ep,ho,hd,hk,_,hm⟩:=n
 refine ⟨o,ho,fun name => ?_⟩
 have e:=hm name
 unfold nsFind findBy at e
 rw [<- Array.find?_toList] at e
 unfold PySem.W.lookIn
 rw [hd]
 dsimp only
 split
 ·rename_i y q
  rw [q] at e
  exact congrArg some e
 ·rename_i q
  rw [q] at e
  have a: es.toList.any (·.refKey) = false:=by
   rw [List.any_eq_false]
   intro y hy
   obtain ⟨z,t,hkey⟩:=hk y (Array.mem_toList_iff.mp hy)
   simp [DictEntry.refKey,hkey]
  have a': ¬ es.toList.any (·.refKey) = true:=by rw [a]; exact Bool.false_ne_true
  rw [if_neg a']
  exact congrArg some e
theorem ObjM.look {h: Heap} {x dx C: Addr} {mA: Str -> Option Value} (I: ObjM h x dx C mA): ∃ od,PySem.W.InstAt h x (PySem.W.instObj C dx) C (some od) /\ ∀ name,PySem.W.lookIn name od = some (mA name) :=
 let ⟨od,ho,hl⟩:=lookIn_ns I.ns
 ⟨od,⟨I.obj,rfl,rfl,ho⟩,hl⟩
section
variable {prog: Program} {w: World} {A: Around} {E: Value -> Shared -> Prop} {s: Shared} {K: PySem.W.Frag} {x dx C f: Addr} {mA: Str -> Option Value} {name: Str} {v: Value}
theorem get_map {expr: Bool} {Q: Value -> Shared -> Prop} (X: K.In s.heap) (I: ObjM s.heap x dx C mA) (hg: PySem.W.plainGet K C name = true) (hh: PySem.W.hasDictIn K C = true)
  (ha: PySem.W.findIn K (.ref C) name = some none) (hv: mA name = some v) (hv': PySem.W.handedIn v = true) (h: Q v { s with toks:=s.toks + 1 }) :
  wpAny (model prog w) A (getAttr (.ref x) name expr) Q E s:=by
 obtain ⟨od,J,hl⟩:=I.look
 exact PySem.W.get_value X J (PySem.W.plainGet_of hg).1 (PySem.W.findObj_own hh ha rfl (by rw [hl,hv])) hv' h
theorem get_meth {pl: Sem Bool} {Q: Value × List Value -> Shared -> Prop} (X: K.In s.heap) (I: ObjM s.heap x dx C mA) (hg: PySem.W.plainGet K C name = true)
  (hf: PySem.W.findIn K (.ref C) name = some (some (.ref f))) (ht: PySem.W.isFn K (.ref f) = true) (hv: mA name = none) (h: Q (.ref f,[.ref x]) s) :
  wpAny (model prog w) A (getMethod (.ref x) name pl) Q E s:=by
 obtain ⟨od,J,hl⟩:=I.look
 exact PySem.W.method_fn X J (PySem.W.plainGet_of hg).1 (PySem.W.plainGet_of hg).2 hf (beq_iff_eq.mp ht) (by show (PySem.W.lookIn name od).map (·.isSome) = some false; rw [hl,hv]; rfl) h
theorem set_map {ns: List Str} {Q: Unit -> Shared -> Prop} (X: K.In s.heap) (I: ObjM s.heap x dx C mA)
  (hs: PySem.W.findIn K (.ref C) "__setattr__" = some (some (.builtin "object.__setattr__"))) (hp: PySem.W.plainOver K C = true) (ht: PySem.W.takerIn K C name = some none) (hh: PySem.W.hasDictIn K C = true)
  (hw: PySem.Within mA ns) (hsz: ns.length <= sizeLine)
  (h: ∀ h',ObjM h' x dx C (fun y => if y = name then some v else mA y) -> Heap.SameBut dx s.heap h' -> Q () { s with heap:=h',toks:=s.toks + 2 }) :
  wpAny (model prog w) A (setAttr (.ref x) name v) Q E s:=by
 obtain ⟨od,J,hl⟩:=I.look
 refine PySem.W.set_plain X J hs (PySem.W.osa_open (s:={ s with toks:=s.toks + 1 }) (r:=none) X J hp ht fun b => ?_)
 obtain ⟨cd,hc,hd'⟩:=PySem.W.any_some hh
 have hx: s.heap.get? x = some ⟨.ref C,some dx,.plain,#[]⟩:=I.obj
 refine wpAny_bind (wpAny_pure (wpAny_bind (wpAny_bind (wpAny_loadPart hx (wpAny_bind (PySem.W.Looks.here (s:={ s with toks:=s.toks + 1 }) (PySem.W.looks_clsIn X hc) ?_))))))
 rw [hd']
 refine wpAny_pure (a:=some dx) (wpAny_bind (wpAny_pure (wpAny_bind ?_)))
 refine wpAny_nsSet1 (s:={ s with toks:=s.toks + 1 }) I.ns fun h' hn2 hs2 => ?_
 obtain ⟨oD,esD,epD,hoD,hdD,hcD⟩:=hn2.count (PySem.Within.cons name v hw)
 refine wpAny_bind (wpAny_lookBehind hoD (by rw [hdD]; exact pastItsLine_dict (Nat.le_trans hcD (by rw [List.length_cons]; omega))) ?_)
 exact wpAny_pure (h _ ⟨(hs2.2 _ (Ne.symm I.ne)).trans I.obj,hn2,I.ne⟩ hs2)
theorem make_map {R: Result -> Shared -> Prop} {vs: List Value} {kw: List (Str × Value)} (X: K.In s.heap) (hm: PySem.W.makesIn K C = true)
  (hi: PySem.W.findIn K (.ref C) "__init__" = some (some (.ref f))) (hf: PySem.W.typeIn K (.ref f) = some (.type "function"))
  (h: codeAny (model prog w) (A.under (.builtin "type.__call__" ⟨.ref C :: vs,kw⟩)) (.call (.ref f) ⟨.ref (s.heap.objs.size + 1) :: vs,kw⟩) (PySem.W.InitBack (s.heap.objs.size + 1) R)
   { s with heap:=(s.heap.push PySem.W.emptyDict).push (PySem.W.instObj C s.heap.objs.size) }) :
  codeAny (model prog w) A (.call (.ref C) ⟨vs,kw⟩) R s:=by
 obtain ⟨hh,g,d,t,os⟩:=s
 exact PySem.W.make_core (PySem.W.makes_of X hm) (PySem.W.looks_findIn X hi) (fun self => PySem.W.bind_fn X self hf) (.inl rfl) h
end
def putF (f: Str) (v: V): List (Str × V) -> List (Str × V)
 | [] => [(f,v)]
 | (g,x) :: r => if g = f then (g,v) :: r else (g,x) :: putF f v r
theorem lookup_putF (f g: Str) (v: V): ∀ fs: List (Str × V),(putF f v fs).lookup g = if g = f then some v else fs.lookup g
 | [] => by
  show List.lookup g [(f,v)] = _
  by_cases h: g = f
  ·have hb: (g == f) = true:=beq_iff_eq.mpr h
   simp only [List.lookup,hb,if_pos h]
  ·have hb: (g == f) = false:=beq_eq_false_iff_ne.mpr h
   simp only [List.lookup,hb,if_neg h]
 | (k,x) :: r => by
  have ih:=lookup_putF f g v r
  rw [show putF f v ((k,x) :: r) = (if k = f then (k,v) :: r else (k,x) :: putF f v r) from rfl]
  by_cases hk: k = f
  ·rw [if_pos hk]
   by_cases h: g = k
   ·have hb: (g == k) = true:=beq_iff_eq.mpr h
    simp only [List.lookup,hb,if_pos (h.trans hk)]
   ·have hb: (g == k) = false:=beq_eq_false_iff_ne.mpr h
    simp only [List.lookup,hb,if_neg (fun e: g = f => h (e.trans hk.symm))]
  ·rw [if_neg hk]
   by_cases h: g = k
   ·have hb: (g == k) = true:=beq_iff_eq.mpr h
    simp only [List.lookup,hb,if_neg (fun e: g = f => hk (h.symm.trans e))]
   ·have hb: (g == k) = false:=beq_eq_false_iff_ne.mpr h
    simp only [List.lookup,hb]
    exact ih
theorem keys_putF (f: Str) (v: V): ∀ fs: List (Str × V),f ∈ (putF f v fs).map (·.1) /\ ∀ g,g ∈ fs.map (·.1) -> g ∈ (putF f v fs).map (·.1)
 | [] => ⟨by simp [putF],fun g h => by simp at h⟩
 | (k,x) :: r => by
  obtain ⟨i1,i2⟩:=keys_putF f v r
  rw [show putF f v ((k,x) :: r) = (if k = f then (k,v) :: r else (k,x) :: putF f v r) from rfl]
  by_cases hk: k = f
  ·rw [if_pos hk]
   subst hk
   exact ⟨by simp,fun g h => by simpa using h⟩
  ·rw [if_neg hk]
   refine ⟨?_,fun g h => ?_⟩
   ·rw [List.map_cons]
    exact List.mem_cons_of_mem _ i1
   ·rw [List.map_cons] at h ⊢
    rcases List.mem_cons.mp h with e | e
    ·exact List.mem_cons.mpr (.inl e)
    ·exact List.mem_cons_of_mem _ (i2 g e)
theorem length_putF (f: Str) (v: V): ∀ fs: List (Str × V),(putF f v fs).length <= fs.length + 1
 | [] => by simp [putF]
 | (k,x) :: r => by
  have ih:=length_putF f v r
  rw [show putF f v ((k,x) :: r) = (if k = f then (k,v) :: r else (k,x) :: putF f v r) from rfl]
  by_cases hk: k = f
  ·rw [if_pos hk,List.length_cons,List.length_cons]; omega
  ·rw [if_neg hk,List.length_cons,List.length_cons]; omega
theorem RelO.some_of {v: V} {o: Option Value} (r: RelO (some v) o): ∃ u,o = some u /\ RelV v u:=by
 cases o with
 | none => exact (show False from r).elim
 | some u => exact ⟨u,rfl,r⟩
theorem RelO.none_of {o: Option Value} (r: RelO none o): o = none:=by
 cases o with
 | none => rfl
 | some u => exact (show False from r).elim
theorem handed_of {v: V} {u: Value} (r: RelV v u): PySem.W.handedIn u = true:=by
 cases v with
 | non => cases (show u = Value.none from r); rfl
 | bl b => cases (show u = Value.bool b from r); rfl
 | int i => obtain ⟨t,e⟩:=(show ∃ t,u = Value.int i t from r); cases e; rfl
 | str x => obtain ⟨t,e⟩:=(show ∃ t,u = Value.str x t from r); cases e; rfl
 | byt b => obtain ⟨t,e⟩:=(show ∃ t,u = Value.bytes b t from r); cases e; rfl
 | flt b => obtain ⟨t,e⟩:=(show ∃ t,u = Value.float b t from r); cases e; rfl
 | ref a => cases (show u = Value.ref a from r); rfl
 | ty n => cases (show u = Value.type n from r); rfl
section
variable {P: Program} {w: World} {H H': Hp} {h h': Heap} {a C dx: Addr} {fs fs': List (Str × V)}
theorem ins_get (hok: HOk P w H h) (e: H a = some (.ins C dx fs)): ∃ mA,ObjM h a dx C mA /\ (∀ f,RelO (fs.lookup f) (mA f)) /\ PySem.Within mA (fs.map (·.1)) /\ fs.length <= 1000 /\ H dx = some (.own a):=by
 obtain ⟨d,z,ne,ob,mA,n,r,q⟩:=(show ObjOk P w H h a (.ins C dx fs) from hok a _ e)
 exact ⟨mA,⟨ob,n,ne⟩,r,q,z,d⟩
end
structure Cls (K: PySem.W.Frag) (C: Addr): Prop where
 pg: PySem.W.plainGet K C Str.empty = true
 hd: PySem.W.hasDictIn K C = true
 po: PySem.W.plainOver K C = true
 sa: PySem.W.findIn K (.ref C) "__setattr__" = some (some (.builtin "object.__setattr__"))
theorem Cls.get {K: PySem.W.Frag} {C: Addr} (c: Cls K C) (f: Str): PySem.W.plainGet K C f = true:=c.pg
def NoAttr (K: PySem.W.Frag) (C: Addr) (f: Str): Prop:=PySem.W.findIn K (.ref C) f = some none
theorem NoAttr.taker {K: PySem.W.Frag} {C: Addr} {f: Str} (n: NoAttr K C f): PySem.W.takerIn K C f = some none:=by
 unfold PySem.W.takerIn
 rw [show PySem.W.findIn K (.ref C) f = some none from n]
 rfl
structure Meth (K: PySem.W.Frag) (C: Addr) (m: Str) (f: Addr): Prop where
 at_: PySem.W.findIn K (.ref C) m = some (some (.ref f))
 fn: PySem.W.isFn K (.ref f) = true
 kp: PySem.W.keepIn K (.ref f) = true
section
variable {X: Cx} {pins: List (Addr × Obj)} {σ: St} {H: Hp} {s: Shared} {a C dx: Addr} {fs: List (Str × V)} {f: Str} {v: V} {A: Around} {E: Value -> Shared -> Prop}
theorem getattr_ok {b: Bool} {Q: Value -> Shared -> Prop} (I: Inv X pins σ H s) (e: H a = some (.ins C dx fs)) (c: Cls X.K C) (n: NoAttr X.K C f) (l: fs.lookup f = some v)
  (h: ∀ u s',Inv X pins σ H s' -> RelV v u -> Q u s'): wpAny (model X.prog X.w) A (getAttr (.ref a) f b) Q E s:=by
 obtain ⟨mA,O,r,_,_,_⟩:=ins_get I.hok e
 obtain ⟨u,hu,ru⟩:=RelO.some_of (v:=v) (o:=mA f) (by rw [<- l]; exact r f)
 exact get_map I.kIn O (c.get f) c.hd n hu (handed_of ru) (h u _ (I.tok _) ru)
theorem getmeth_ok {m: Str} {g: Addr} {pl: Sem Bool} {Q: Value × List Value -> Shared -> Prop} (I: Inv X pins σ H s) (e: H a = some (.ins C dx fs)) (c: Cls X.K C) (k: Meth X.K C m g) (l: fs.lookup m = none)
  (h: Q (.ref g,[.ref a]) s): wpAny (model X.prog X.w) A (getMethod (.ref a) m pl) Q E s:=by
 obtain ⟨mA,O,r,_,_,_⟩:=ins_get I.hok e
 have hn: mA m = none:=RelO.none_of (by rw [<- l]; exact r m)
 exact get_meth I.kIn O (c.get m) k.at_ k.fn hn h
theorem setattr_ok {y: V} {u: Value} {Q: Unit -> Shared -> Prop} (I: Inv X pins σ H s) (e: H a = some (.ins C dx fs)) (c: Cls X.K C) (n: NoAttr X.K C f) (hl: fs.length < 1000) (ry: RelV y u)
  (h: ∀ s',Inv X pins σ (upd H a (.ins C dx (putF f y fs))) s' -> Q () s'): wpAny (model X.prog X.w) A (setAttr (.ref a) f u) Q E s:=by
 obtain ⟨mA,O,r,wi,_,ho⟩:=ins_get I.hok e
 have hz: (fs.map (·.1)).length <= sizeLine:=by rw [List.length_map,sizeLine_eq]; omega
 refine set_map I.kIn O c.sa c.po n.taker c.hd wi hz fun h' O' sb => h _ ?_
 have hd: ∃ o,h'.get? dx = some o:=let ⟨o,_,_,e',_⟩:=O'.ns; ⟨o,e'⟩
 refine I.write (x:=a) (e:=dx) (by rw [e]; exact True.intro) (.inr ho) (fun b q hb z => (sb.2 b hb).trans z) hd ?_
 refine ⟨by rw [upd_ne O.ne]; exact ho,?_,O.ne,O'.obj,_,O'.ns,fun g => ?_,fun g hg => ?_⟩
 ·have:=length_putF f y fs; omega
 ·show RelO ((putF f y fs).lookup g) (if g = f then some u else mA g)
  rw [lookup_putF]
  by_cases q: g = f
  ·rw [if_pos q,if_pos q]; exact ry
  ·rw [if_neg q,if_neg q]; exact r g
 ·by_cases q: g = f
  ·rw [q]; exact (keys_putF f y fs).1
  ·refine (keys_putF f y fs).2 g (wi g fun z => hg ?_)
   show (if g = f then some u else mA g) = none
   rw [if_neg q]; exact z
theorem Inv.made (I: Inv X pins σ H s): Inv X pins σ (upd (upd H s.heap.objs.size (.own (s.heap.objs.size + 1))) (s.heap.objs.size + 1) (.ins C s.heap.objs.size []))
  { s with heap:=(s.heap.push PySem.W.emptyDict).push (PySem.W.instObj C s.heap.objs.size) }:=by
 have e1: (s.heap.push PySem.W.emptyDict).get? s.heap.objs.size = some PySem.W.emptyDict:=Heap.get?_push_size s.heap rfl
 have e2: ((s.heap.push PySem.W.emptyDict).push (PySem.W.instObj C s.heap.objs.size)).get? (s.heap.objs.size + 1) = some (PySem.W.instObj C s.heap.objs.size):=by
  have:=Heap.get?_push_size (s.heap.push PySem.W.emptyDict) (o:=PySem.W.instObj C s.heap.objs.size) rfl
  rwa [Heap.size_push] at this
 have e3: (s.heap.push PySem.W.emptyDict).Ns s.heap.objs.size (fun _ => none):=⟨PySem.W.emptyDict,#[],_,e1,rfl,(fun e he => absurd he (by simp)),fun _ => rfl⟩
 have I1:=I.laid (a:=s.heap.objs.size) (o:=.own (s.heap.objs.size + 1)) (h':=s.heap.push PySem.W.emptyDict) (t':=s.toks) (fun b u q => Heap.get?_push_of_some _ q) (Nat.le_refl _) ⟨_,e1⟩
 refine I1.laid (a:=s.heap.objs.size + 1) (o:=.ins C s.heap.objs.size []) (t':=s.toks) (fun b u q => Heap.get?_push_of_some _ q) (Nat.le_of_eq (Heap.size_push _ _)) ?_
 have ne: s.heap.objs.size ≠ s.heap.objs.size + 1:=Nat.ne_of_lt (Nat.lt_succ_self _)
 refine ⟨by rw [upd_ne ne,upd_same],Nat.zero_le _,ne,e2,fun _ => none,(Heap.Ns1.of_empty e3).at fun o q => Heap.get?_push_of_some _ q,fun _ => True.intro,fun y hy => absurd rfl hy⟩
theorem attr_of {prog: Program} {w: World} {env: Env} {e: Expr} {f: Str} {pos: Pos} {s: Shared} {Q: Value -> Shared -> Prop} (hb: attributeBase e f env (eval e env) = eval e env)
  (h: wpAny (model prog w) A (eval e env) (fun o s₁ => wpAny (model prog w) A (getAttr o f true) Q E s₁) E s): wpAny (model prog w) A (eval (.Attribute e f pos) env) Q E s :=
 Attribute_any_ h (by rw [arm_eval_Attribute,hb])
end
def tFld (K: PySem.W.Frag) (ta: TE) (f: Str): TE:=fun σ H Q => ta σ H fun x H1 => ∃ a C dx fs v,x = .ref a /\ H1 a = some (.ins C dx fs) /\ Cls K C /\ NoAttr K C f /\ fs.lookup f = some v /\ Q v H1
def sFld (K: PySem.W.Frag) (ta tv: TE) (f: Str): TS:=fun D σ H => tv σ H fun y H1 => ta σ H1 fun x H2 => ∃ a C dx fs,x = .ref a /\ H2 a = some (.ins C dx fs) /\ Cls K C /\ NoAttr K C f /\ fs.length < 1000 /\
 D.nx σ (upd H2 a (.ins C dx (putF f y fs)))
def InOp (X: Cx) (op: Operator) (rd: V -> V -> Hp -> VK -> Prop): Prop :=
 ∀ (pins: List (Addr × Obj)) (s: Shared) (σ: St) (H: Hp) (x y: V) (u v: Value) (Q: VK),Inv X pins σ H s -> RelV x u -> RelV y v -> rd x y H Q -> wpAny (model X.prog X.w) X.A (inplaceOp op u v) (EP X pins σ Q) X.xe s
def sFldAug (K: PySem.W.Frag) (ta tv: TE) (rd: V -> V -> Hp -> VK -> Prop) (f: Str): TS:=fun D σ H => ta σ H fun x H1 => ∃ a C dx fs v,x = .ref a /\ H1 a = some (.ins C dx fs) /\ Cls K C /\ NoAttr K C f /\ fs.lookup f = some v /\
 tv σ H1 fun y H2 => rd v y H2 fun z H3 => ∃ dx' fs',H3 a = some (.ins C dx' fs') /\ fs'.length < 1000 /\ D.nx σ (upd H3 a (.ins C dx' (putF f z fs')))
section
variable {X: Cx} {o e value: Expr} {f: Str} {pos pos' tpos: Pos} {ta tv: TE}
theorem pe_fld (he: PE X e ta) (hb: attributeBase e f X.env (eval e X.env) = eval e X.env): PE X (.Attribute e f pos) (tFld X.K ta f):=by
 intro pins s σ H Q I h
 refine attr_of hb (thn (he pins s σ H _ I h) fun u s1 ⟨x,H1,I1,rx,a,C,dx,fs,v,ex,ea,c,n,l,q⟩ => ?_)
 subst ex
 obtain rfl: u = Value.ref a:=rx
 exact getattr_ok I1 ea c n l fun u' s2 I2 ru => ⟨v,H1,I2,ru,q⟩
theorem ps_fld (ha: PE X o ta) (hv: PE X value tv) (hs: swapsWith value (some (.Attribute o f pos')) pos.line X.env = pure false): PS X (.Assign [.Attribute o f pos'] value pos) (sFld X.K ta tv f):=by
 intro pins s σ H D I h
 refine plainObj_wpAny_Assign_Attribute (thn (hv pins s σ H _ I h) fun u s1 ⟨y,H1,I1,ry,q⟩ => thn (ha pins s1 σ H1 _ I1 q) fun ov s2 ⟨x,H2,I2,rx,a,C,dx,fs,ex,ea,c,n,l,q2⟩ => ?_) hs
 subst ex
 obtain rfl: ov = Value.ref a:=rx
 exact setattr_ok I2 ea c n l ry fun s3 I3 => ⟨σ,_,I3,q2⟩
theorem ps_fldaug {op: Operator} {rd: V -> V -> Hp -> VK -> Prop} (ha: PE X o ta) (hv: PE X value tv) (hop: InOp X op rd): PS X (.AugAssign (.Attribute o f tpos) op value pos) (sFldAug X.K ta tv rd f):=by
 intro pins s σ H D I h
 refine wpAny_AugAssign_AttributeAny (thn (ha pins s σ H _ I h) fun ov s1 ⟨x,H1,I1,rx,a,C,dx,fs,v,ex,ea,c,n,l,q⟩ => ?_)
 subst ex
 obtain rfl: ov = Value.ref a:=rx
 refine getattr_ok I1 ea c n l fun u s2 I2 ru => thn (hv pins s2 σ H1 _ I2 q) fun w3 s3 ⟨y,H2,I3,ry,q3⟩ => thn (hop pins s3 σ H2 v y u w3 _ I3 ru ry q3) fun w4 s4 ⟨z,H3,I4,rz,dx',fs',ea',l',q4⟩ => ?_
 exact setattr_ok I4 ea' c n l' rz fun s5 I5 => ⟨σ,_,I5,q4⟩
def rAdd: V -> V -> Hp -> VK -> Prop:=fun x y H Q => ∃ i j,x = .int i /\ y = .int j /\ Q (.int (i + j)) H
theorem in_add: InOp X .Add rAdd:=by
 rintro pins s σ H x y u v Q I rx ry ⟨i,j,rfl,rfl,q⟩
 obtain ⟨t,rfl⟩:=(show ∃ t,u = Value.int i t from rx)
 obtain ⟨t',rfl⟩:=(show ∃ t',v = Value.int j t' from ry)
 exact PyProof.Rows.iadd_int ⟨.int (i + j),H,I.tok _,⟨_,rfl⟩,q⟩
theorem methcall_of {pl: Sem Bool} {m: Str} {apos: Pos} {args: List Expr} {pins: List (Addr × Obj)} {s: Shared} {σ: St} {H: Hp} {Q: Value -> Shared -> Prop} {te: TE} (he: PE X e te) (I: Inv X pins σ H s)
  (h: te σ H fun x H1 => ∃ a C dx fs g,x = .ref a /\ H1 a = some (.ins C dx fs) /\ Cls X.K C /\ Meth X.K C m g /\ fs.lookup m = none /\
   ∀ s1,Inv X pins σ H1 s1 -> wpAny (model X.prog X.w) X.A (callWith pos (.ref g) [.ref a] (backTo pos (starEach args X.env)) (backToKw pos (keywordEach [] X.env))) Q X.xe s1)
  (ht: eval (.Call (.Attribute e m apos) args [] pos) X.env = (do
   let ov <- eval e X.env
   standAt apos.atName
   let (f,first) <- holding [ov] (getMethod ov m pl)
   callWith pos f first (backTo pos (starEach args X.env)) (backToKw pos (keywordEach [] X.env)))) :
  wpAny (model X.prog X.w) X.A (eval (.Call (.Attribute e m apos) args [] pos) X.env) Q X.xe s:=by
 refine PySem.W.methodCall_KW (pl:=pl) (thn (he pins s σ H _ I h) fun u s1 ⟨x,H1,I1,rx,a,C,dx,fs,g,ex,ea,c,k,l,q⟩ => ?_) ht
 subst ex
 obtain rfl: u = Value.ref a:=rx
 exact getmeth_ok I1 ea c k l (q s1 I1)
end
section
variable {X: Cx} {pins: List (Addr × Obj)} {σ: St} {H: Hp} {s: Shared} {A: Around} {E: Value -> Shared -> Prop} {Q: Value -> Shared -> Prop} {c: Value} {b: Bool}
inductive TyOf (K: PySem.W.Frag) (H: Hp): V -> Value -> Prop where
 | non: TyOf K H .non (.type "NoneType")
 | bl (x: Bool): TyOf K H (.bl x) (.type "bool")
 | int (i: Int): TyOf K H (.int i) (.type "int")
 | str (x: Str): TyOf K H (.str x) (.type "str")
 | flt (x: UInt64): TyOf K H (.flt x) (.type "float")
 | lst {a: Addr} {xs: List V} (e: H a = some (.lst xs)): TyOf K H (.ref a) (.type "list")
 | frz {a: Addr} {o: Obj} {xs: List V} (e: H a = some (.frz o (.lst xs))): TyOf K H (.ref a) (.type "list")
 | tup {a: Addr} {xs: List V} (e: H a = some (.tup xs)): TyOf K H (.ref a) (.type "tuple")
 | dK {a: Addr} {kvs: List (Key × V)} (e: H a = some (.dK kvs)): TyOf K H (.ref a) (.type "dict")
 | dT {a: Addr} {kvs: List (List Key × V)} (e: H a = some (.dT kvs)): TyOf K H (.ref a) (.type "dict")
 | ins {a C dx: Addr} {fs: List (Str × V)} (e: H a = some (.ins C dx fs)) (cl: Cls K C) (ha: PySem.W.findIn K (.ref C) "__class__" = some (some (.builtin "object.__class__")))
   (hn: PySem.W.specialIn K (.builtin "object.__class__") "__get__" = some (some (.builtin "getset_descriptor.__get__"))) (htk: PySem.W.takesIn K (.builtin "object.__class__") = some true)
   (hm: PySem.W.mroIn K C (.type "object") = some true): TyOf K H (.ref a) (.ref C)
theorem isinst_ok {x: V} {u t: Value} (I: Inv X pins σ H s) (rx: RelV x u) (ty: TyOf X.K H x t) (e: PySem.W.kitOne X.K t c = some b) (h: ∀ tk,Q (.bool b) { s with toks:=tk }) :
  wpAny (model X.prog X.w) A (call (.builtin "isinstance") [u,c]) Q E s:=by
 cases ty with
 | non => cases (show u = Value.none from rx); exact PySem.W.kia_one PySem.W.kitx_none I.kIn True.intro e (fun z => nomatch z) h
 | bl y => cases (show u = Value.bool y from rx); exact PySem.W.kia_one PySem.W.kitx_bool I.kIn True.intro e (fun z => nomatch z) h
 | int i => obtain ⟨t,q⟩:=(show ∃ t,u = Value.int i t from rx); cases q; exact PySem.W.kia_one PySem.W.kitx_int I.kIn True.intro e (fun z => nomatch z) h
 | str y => obtain ⟨t,q⟩:=(show ∃ t,u = Value.str y t from rx); cases q; exact PySem.W.kia_one PySem.W.kitx_str I.kIn True.intro e (fun z => nomatch z) h
 | flt y => obtain ⟨t,q⟩:=(show ∃ t,u = Value.float y t from rx); cases q; exact PySem.W.kia_one PySem.W.kitx_float I.kIn True.intro e (fun z => nomatch z) h
 | @lst a xs ea =>
  cases (show u = Value.ref a from rx)
  obtain ⟨_,_,n,_,h1⟩:=(show ObjOk X.prog X.w H s.heap a (.lst xs) from I.hok a _ ea)
  exact PySem.W.kia_one PySem.W.kitx_list I.kIn ⟨_,h1,rfl⟩ e (fun z => nomatch z) h
 | @frz a ob xs ea =>
  cases (show u = Value.ref a from rx)
  obtain ⟨_,_,_,n,_,h1⟩:=(show ObjOk X.prog X.w H s.heap a (.frz ob (.lst xs)) from I.hok a _ ea)
  exact PySem.W.kia_one PySem.W.kitx_list I.kIn ⟨_,h1,rfl⟩ e (fun z => nomatch z) h
 | @tup a xs ea =>
  cases (show u = Value.ref a from rx)
  obtain ⟨_,_,_,p⟩:=(show ObjOk X.prog X.w H s.heap a (.tup xs) from I.hok a _ ea)
  obtain ⟨o,h1,h2,_⟩:=p
  exact PySem.W.kia_one PySem.W.kitx_tuple I.kIn ⟨o,h1,h2⟩ e (fun z => nomatch z) h
 | @dK a kvs ea =>
  cases (show u = Value.ref a from rx)
  obtain ⟨_,_,vs,_,p⟩:=(show ObjOk X.prog X.w H s.heap a (.dK kvs) from I.hok a _ ea)
  obtain ⟨o,es,ep,h1,h2,_⟩:=p
  exact PySem.W.kia_one PySem.W.kitx_dict I.kIn ⟨o,h1,h2.1⟩ e (fun z => nomatch z) h
 | @dT a kvs ea =>
  cases (show u = Value.ref a from rx)
  obtain ⟨_,_,xs,_,o,es,ep,h1,h2,_⟩:=(show ObjOk X.prog X.w H s.heap a (.dT kvs) from I.hok a _ ea)
  exact PySem.W.kia_one PySem.W.kitx_dict I.kIn ⟨o,h1,h2.1⟩ e (fun z => nomatch z) h
 | @ins a C dx fs ea cl ha hn htk hm =>
  cases (show u = Value.ref a from rx)
  obtain ⟨mA,O,_⟩:=ins_get I.hok ea
  obtain ⟨od,J,_⟩:=O.look
  exact PySem.W.kia_one (PySem.W.kitx_own (cl.get _) cl.hd ha hn htk hm) I.kIn J e (fun z => nomatch z) h
end
end L2
namespace L2
open PySem PySem.Spec PyProof.Rows
structure Room (k: Nat) (A: Around): Prop where
 hd: A.handled = none
 dp: A.depth + 3 * k + 5 < recursionLimit
 un: A.units + 16 * k + 200 < cLine
theorem Room.mono {j k: Nat} {A: Around} (r: Room k A) (h: j <= k): Room j A:=⟨r.hd,by have:=r.dp; omega,by have:=r.un; omega⟩
theorem Room.deeper {k: Nat} {A: Around} (r: Room (k + 1) A) (env: Env): Room k (A.deeper env) :=
 ⟨r.hd,by have:=r.dp; show A.depth + 1 + 3 * k + 5 < _; omega,by have:=r.un; show A.units + 3 + 16 * k + 200 < _; omega⟩
theorem make_depth {A: Around} {C: Addr} {us: List Value} {kw: List (Str × Value)}: (A.under (.builtin "type.__call__" ⟨.ref C :: us,kw⟩)).depth = A.depth + 1:=by
 first | rfl | simp [Around.under,Code.weight,Code.isCreation,Code.isGuard,Code.isCaller,Code.frames,Code.isFrame,guardIds]
theorem make_units {A: Around} {C: Addr} {us: List Value} {kw: List (Str × Value)}: (A.under (.builtin "type.__call__" ⟨.ref C :: us,kw⟩)).units = A.units + 1:=by
 first | rfl | simp [Around.under,Code.cUnits,Code.frames,Code.isFrame]
theorem Room.make {k: Nat} {A: Around} (r: Room (k + 1) A) (C: Addr) (us: List Value) (kw: List (Str × Value)): Room k (A.under (.builtin "type.__call__" ⟨.ref C :: us,kw⟩)) :=
 ⟨r.hd,by have:=r.dp; rw [make_depth]; omega,by have:=r.un; rw [make_units]; omega⟩
theorem Room.depth {k: Nat} {A: Around} (r: Room k A): A.depth < recursionLimit:=by have:=r.dp; omega
theorem Room.units {k: Nat} {A: Around} (r: Room k A): A.units + 64 < cLine:=by have:=r.un; omega
def tNil: TA:=fun _ H Q => Q [] H
def tCons (ta: TE) (tr: TA): TA:=fun σ H Q => ta σ H fun x H1 => tr σ H1 fun xs H2 => Q (x :: xs) H2
section
variable {X: Cx} {e: Expr} {es: List Expr} {te: TE} {t: TA} {pos: Pos}
theorem pa_nil: PA X [] tNil:=fun _ _ _ _ H Q I h => Calls.spliced_nil ⟨[],H,I,.nil,h⟩
theorem pa_cons (ha: PE X e te) (hr: PA X es t) (hs: starEach (e :: es) X.env = (false,eval e X.env) :: starEach es X.env:=by rfl): PA X (e :: es) (tCons te t):=by
 intro pos pins s σ H Q I h
 rw [hs]
 show wpAny _ _ (spliced ((false,eval e X.env) :: backTo pos (starEach es X.env))) _ _ s
 refine Calls.spliced_cons (thn (ha pins s σ H _ I h) fun u s1 ⟨x,H1,I1,r1,q1⟩ => ?_)
 exact thn (hr pos pins s1 σ H1 _ I1 q1) fun us s2 ⟨xs,H2,I2,r2,q2⟩ => ⟨x :: xs,H2,I2,.cons r1 r2,q2⟩
def tTup (t: TA): TE:=fun σ H Q => t σ H fun xs H1 => xs.length <= sizeLine /\ ∀ p,H1 p = none -> Q (.ref p) (upd H1 p (.tup xs))
def tLst (t: TA): TE:=fun σ H Q => t σ H fun xs H1 => xs.length <= sizeLine /\ ∀ p,H1 p = none -> Q (.ref p) (upd H1 p (.lst xs))
theorem pe_tup {x1} (h: PA X es t): PE X (.Tuple es x1 pos) (tTup t):=by
 intro pins s σ H Q I hq
 refine wpAny_Tuple_spliced (thn (h pos pins s σ H _ I hq) fun us s1 ⟨xs,H1,I1,r,z,q⟩ => ⟨by rw [<- r.length]; exact z,?_⟩)
 have hf: H1 s1.heap.objs.size = none:=I1.hok.fresh (Nat.le_refl _)
 refine ⟨.ref s1.heap.objs.size,upd H1 s1.heap.objs.size (.tup xs),I1.laid (t':=s1.toks) (fun b u e => Heap.get?_push_of_some _ e) (Nat.le_refl _) ?_,rfl,q _ hf⟩
 exact ⟨z,us,r,⟨_,Heap.get?_push_size _ rfl,rfl,_,rfl⟩⟩
theorem pe_lst (h: PA X es t): PE X (.List es pos) (tLst t):=by
 intro pins s σ H Q I hq
 refine wpAny_List_spliced (thn (h pos pins s σ H _ I hq) fun us s1 ⟨xs,H1,I1,r,z,q⟩ => ⟨by rw [<- r.length]; exact z,?_⟩)
 have hf: H1 s1.heap.objs.size = none:=I1.hok.fresh (Nat.le_refl _)
 refine ⟨.ref s1.heap.objs.size,upd H1 s1.heap.objs.size (.lst xs),I1.laid (t':=s1.toks) (fun b u e => Heap.get?_push_of_some _ e) (Nat.le_refl _) ?_,rfl,q _ hf⟩
 exact ⟨z,us,0,r,Heap.get?_push_size _ rfl⟩
end
abbrev Sp:=List V -> Hp -> VK -> XK -> Prop
abbrev CXT:=List Env -> Hp -> Shared -> XK -> Value -> Shared -> Prop
structure Env0 (P: Program) (w: World) (K: PySem.W.Frag) (mg: Str -> Option Value) (base: Heap) (A: Around) (outer: List Env) (s: Shared) (H: Hp): Prop where
 frames: A.frames = some outer
 mod: Mod K mg base
 bs: ∀ b o,base.get? b = some o -> s.heap.get? b = some o /\ H b = none
 bsz: base.objs.size <= s.heap.objs.size
 funs: s.heap.FunFrames base outer
 frf: ∀ b ∈ frs outer,H b = none
 hok: HOk P w H s.heap
 bare: AllBare s.gens
def CE (outer: List Env) (P: Program) (w: World) (H: Hp) (s: Shared) (Q: VK) (u: Value) (s': Shared): Prop :=
 ∃ v H',s'.os = s.os /\ AllBare s'.gens /\ Un (frs outer) [] H H' s.heap s'.heap /\ HOk P w H' s'.heap /\ RelV v u /\ Q v H'
def CR (CX: CXT) (outer: List Env) (P: Program) (w: World) (H: Hp) (s: Shared) (Q: VK) (E: XK) (r: Result) (s': Shared): Prop :=
 match r with
 | .ok (.ret u) => CE outer P w H s Q u s'
 | .ok _ => False
 | .error e => CX outer H s E e s'
structure FnOk (P: Program) (w: World) (K: PySem.W.Frag) (mg: Str -> Option Value) (base: Heap) (CX: CXT) (k: Nat) (f: Addr) (fd: FuncData) (ps: List Str) (sp: Sp): Prop where
 len: ∀ vs H Q E,sp vs H Q E -> vs.length = ps.length
 run: ∀ (A: Around) (outer: List Env) (s: Shared) (H: Hp) (args: Args) (us: List Value) (vs: List V) (Q: VK) (E: XK),Room k A -> Env0 P w K mg base A outer s H -> BindsTo s fd args (ps.zip us) -> Vals vs us -> sp vs H Q E ->
  codeAny (model P w) A (.call (.ref f) args) (CR CX outer P w H s Q E) s
theorem Env0.make {P: Program} {w: World} {K: PySem.W.Frag} {mg: Str -> Option Value} {base: Heap} {A: Around} {outer: List Env} {s: Shared} {H: Hp} (e: Env0 P w K mg base A outer s H) (C: Addr) (us: List Value) (kw: List (Str × Value)) :
  Env0 P w K mg base (A.under (.builtin "type.__call__" ⟨.ref C :: us,kw⟩)) outer s H:=⟨by first | exact e.frames | (simpa [Around.under,Code.envs,Code.isFrame,pushEnvs] using e.frames),e.mod,e.bs,e.bsz,e.funs,e.frf,e.hok,e.bare⟩
section
variable {X: Cx} {pins: List (Addr × Obj)} {σ: St} {H: Hp} {s s': Shared}
theorem Inv.env0 (I: Inv X pins σ H s): Env0 X.prog X.w X.K X.mg X.base X.A X.stack s H :=
 ⟨I.ok.frames,I.ok.mod,I.bs,Nat.le_trans I.ok.bsz I.sz,I.stack,I.stkFree,I.hok,I.bare⟩
theorem Inv.after {Q: VK} {u: Value} (I: Inv X pins σ H s) (h: CE X.stack X.prog X.w H s Q u s'): EP X pins σ Q u s':=by
 obtain ⟨v,H',os,bare,un,hok,r,q⟩:=h
 obtain ⟨hh,g,d,t,os'⟩:=s'
 obtain rfl: os' = s.os:=os
 exact ⟨v,H',I.call (h':=hh) (g':=g) (d':=d) (t':=t) (ch:=[]) un hok bare (fun b z => absurd z (by simp)),r,q⟩
end
def tCall (sp: Sp) (dvs: List V) (E: XK) (t: TA): TE:=fun σ H Q => t σ H fun vs H1 => sp (vs ++ dvs) H1 Q E
def tMeth (C: Addr) (m: Str) (sp: Sp) (dvs: List V) (E: XK) (ta: TE) (t: TA): TE:=fun σ H Q => ta σ H fun x H1 => ∃ a dx fs,x = .ref a /\ H1 a = some (.ins C dx fs) /\ fs.lookup m = none /\
 t σ H1 fun vs H2 => sp (x :: (vs ++ dvs)) H2 Q E
def tMake (C: Addr) (sp: Sp) (dvs: List V) (E: XK) (t: TA): TE:=fun σ H Q => t σ H fun vs H1 => ∀ x dx,H1 x = none -> H1 dx = none -> dx ≠ x ->
 sp (.ref x :: (vs ++ dvs)) (upd (upd H1 dx (.own x)) x (.ins C dx [])) (fun v H2 => v = .non /\ Q (.ref x) H2) E
def Binds (K: PySem.W.Frag) (fd: FuncData) (ps: List Str) (ds: List Value): Prop :=
 ∀ (s: Shared) (us: List Value),K.In s.heap -> (us ++ ds).length = ps.length -> BindsTo s fd ⟨us,[]⟩ (ps.zip (us ++ ds))
theorem Binds.all {K: PySem.W.Frag} {fd: FuncData} {ps: List Str} (h: ∀ us: List Value,us.length = ps.length -> bindArgs fd ⟨us,[]⟩ = pure (ps.zip us)): Binds K fd ps []:=fun s us _ hl => by
 rw [List.append_nil] at hl ⊢
 exact .of_eq (h us hl)
def Passes (CX: CXT) (X: Cx) (E: XK): Prop:=∀ (pins: List (Addr × Obj)) (σ: St) (H: Hp) (s: Shared) (e: Value) (s': Shared),Inv X pins σ H s -> CX X.stack H s E e s' -> X.xe e s'
section
variable {X: Cx} {CX: CXT} {k: Nat} {f C: Addr} {fd: FuncData} {ps: List Str} {sp: Sp} {dvs: List V} {ds: List Value} {E: XK} {x m: Str} {p pos apos: Pos} {e o: Expr} {es: List Expr} {ta: TE} {t: TA}
theorem run_fn {pins: List (Addr × Obj)} {σ: St} {H: Hp} {s: Shared} {Q: VK} {us: List Value} {vs: List V} (F: FnOk X.prog X.w X.K X.mg X.base CX k f fd ps sp) (hr: Room k X.A) (hb: Binds X.K fd ps ds) (hd: Vals dvs ds) (hx: Passes CX X E)
  (I: Inv X pins σ H s) (r: Vals vs us) (h: sp (vs ++ dvs) H Q E): wpAny (model X.prog X.w) X.A (call (.ref f) us) (EP X pins σ Q) X.xe s:=by
 have r2: Vals (vs ++ dvs) (us ++ ds):=r.append hd
 have hl: (us ++ ds).length = ps.length:=by rw [<- r2.length]; exact F.len _ _ _ _ h
 refine wpAny_call (codeAny_mono (F.run X.A X.stack s H ⟨us,[]⟩ (us ++ ds) (vs ++ dvs) Q E hr I.env0 (hb s us I.kIn hl) r2 h) fun r s' hq => ?_)
 cases r with
 | error e => exact hx pins σ H s e s' I hq
 | ok fl =>
  cases fl with
  | ret u => exact I.after hq
  | next => exact False.elim hq
  | brk => exact False.elim hq
  | cont => exact False.elim hq
theorem pe_call (F: FnOk X.prog X.w X.K X.mg X.base CX k f fd ps sp) (hr: Room k X.A) (hg: Gl X x) (hm: X.mg x = some (.ref f)) (hk: PySem.W.keepIn X.K (.ref f) = true) (hb: Binds X.K fd ps ds) (hd: Vals dvs ds) (hx: Passes CX X E)
  (ha: PA X (e :: es) t) (hdb: (x == ("__debug__": Str)) = false:=by decide) (he: starEach (e :: es) X.env = (false,eval e X.env) :: starEach es X.env:=by rfl) (hpl: (backTo pos (starEach es X.env)).any (·.1) = false:=by rfl) :
  PE X (.Call (.Name x p) (e :: es) [] pos) (tCall sp dvs E t):=by
 intro pins s σ H Q I h
 refine wpAny_Call_Name_kw (ld_glob I hg hm ?_ hdb)
 refine PySem.W.callWith_K (h₀:=X.base) I.ok.mod.kin hk (thn (ha pos pins s σ H _ I h) fun us s1 ⟨vs,H1,I1,r,q⟩ => ⟨I1.kIn,?_⟩) he hpl
 exact run_fn F hr hb hd hx I1 r q
theorem pe_meth {pl: Sem Bool} (he: PE X o ta) (c: Cls X.K C) (hm: Meth X.K C m f) (F: FnOk X.prog X.w X.K X.mg X.base CX k f fd ps sp) (hr: Room k X.A) (hb: Binds X.K fd ps ds) (hd: Vals dvs ds) (hx: Passes CX X E) (ha: PA X (e :: es) t)
  (hst: starEach (e :: es) X.env = (false,eval e X.env) :: starEach es X.env:=by rfl) (hpl: (backTo pos (starEach es X.env)).any (·.1) = false:=by rfl)
  (ht: eval (.Call (.Attribute o m apos) (e :: es) [] pos) X.env = (do
   let ov <- eval o X.env
   standAt apos.atName
   let (f,first) <- holding [ov] (getMethod ov m pl)
   callWith pos f first (backTo pos (starEach (e :: es) X.env)) (backToKw pos (keywordEach [] X.env))):=by rfl) :
  PE X (.Call (.Attribute o m apos) (e :: es) [] pos) (tMeth C m sp dvs E ta t):=by
 intro pins s σ H Q I h
 refine PySem.W.methodCall_KW (pl:=pl) (thn (he pins s σ H _ I h) fun u s1 ⟨x,H1,I1,rx,a,dx,fs,ex,ea,l,q⟩ => ?_) ht
 subst ex
 obtain rfl: u = Value.ref a:=rx
 refine getmeth_ok I1 ea c hm l ?_
 refine PySem.W.callWith_K (first:=[.ref a]) (h₀:=X.base) I.ok.mod.kin hm.kp (thn (ha pos pins s1 σ H1 _ I1 q) fun us s2 ⟨vs,H2,I2,r,q2⟩ => ⟨I2.kIn,?_⟩) hst hpl
 exact run_fn (us:=.ref a :: us) (vs:=.ref a :: vs) F hr hb hd hx I2 (.cons rfl r) q2
theorem pe_meth0 {pl: Sem Bool} (he: PE X o ta) (c: Cls X.K C) (hm: Meth X.K C m f) (F: FnOk X.prog X.w X.K X.mg X.base CX k f fd ps sp) (hr: Room k X.A) (hb: Binds X.K fd ps ds) (hd: Vals dvs ds) (hx: Passes CX X E)
  (ht: eval (.Call (.Attribute o m apos) [] [] pos) X.env = (do
   let ov <- eval o X.env
   standAt apos.atName
   let (f,first) <- holding [ov] (getMethod ov m pl)
   callWith pos f first (backTo pos (starEach [] X.env)) (backToKw pos (keywordEach [] X.env))):=by rfl) :
  PE X (.Call (.Attribute o m apos) [] [] pos) (tMeth C m sp dvs E ta tNil):=by
 intro pins s σ H Q I h
 refine PySem.W.methodCall_KW (pl:=pl) (thn (he pins s σ H _ I h) fun u s1 ⟨x,H1,I1,rx,a,dx,fs,ex,ea,l,q⟩ => ?_) ht
 subst ex
 obtain rfl: u = Value.ref a:=rx
 refine getmeth_ok I1 ea c hm l ?_
 exact PySem.W.callWith_K0 (first:=[.ref a]) I1.kIn hm.kp (run_fn (us:=[.ref a]) (vs:=[.ref a]) F hr hb hd hx I1 (.cons rfl .nil) q)
structure Mk (K: PySem.W.Frag) (C f: Addr): Prop where
 makes: PySem.W.makesIn K C = true
 init: PySem.W.findIn K (.ref C) "__init__" = some (some (.ref f))
 fn: PySem.W.isFn K (.ref f) = true
 kp: PySem.W.keepIn K (.ref C) = true
theorem run_make {pins: List (Addr × Obj)} {σ: St} {H: Hp} {s: Shared} {Q: VK} {us: List Value} {vs: List V} (M: Mk X.K C f) (F: FnOk X.prog X.w X.K X.mg X.base CX k f fd ps sp) (hr: Room (k + 1) X.A) (hb: Binds X.K fd ps ds) (hd: Vals dvs ds)
  (hx: Passes CX X E) (I: Inv X pins σ H s) (r: Vals vs us)
  (h: ∀ x dx,H x = none -> H dx = none -> dx ≠ x -> sp (.ref x :: (vs ++ dvs)) (upd (upd H dx (.own x)) x (.ins C dx [])) (fun v H2 => v = .non /\ Q (.ref x) H2) E) :
  wpAny (model X.prog X.w) X.A (call (.ref C) us) (EP X pins σ Q) X.xe s:=by
 have hq:=h (s.heap.objs.size + 1) s.heap.objs.size (I.hok.fresh (Nat.le_succ _)) (I.hok.fresh (Nat.le_refl _)) (Nat.ne_of_lt (Nat.lt_succ_self _))
 have I2:=Inv.made (C:=C) I
 have r2: Vals (V.ref (s.heap.objs.size + 1) :: (vs ++ dvs)) (Value.ref (s.heap.objs.size + 1) :: (us ++ ds)):=.cons rfl (r.append hd)
 have hl: (Value.ref (s.heap.objs.size + 1) :: us ++ ds).length = ps.length:=by
  have e:=r2.length
  rw [F.len _ _ _ _ hq] at e
  exact e.symm
 refine wpAny_call (make_map (f:=f) I.kIn M.makes M.init (beq_iff_eq.mp M.fn) (codeAny_mono (F.run _ X.stack _ _ ⟨Value.ref (s.heap.objs.size + 1) :: us,[]⟩ (Value.ref (s.heap.objs.size + 1) :: (us ++ ds)) _ _ E (hr.make C us [])
  (I2.env0.make C us []) (hb _ (Value.ref (s.heap.objs.size + 1) :: us) I2.kIn hl) r2 hq) fun r s' hq' => ?_))
 cases r with
 | error e => exact hx pins σ _ _ e s' I2 hq'
 | ok fl =>
  cases fl with
  | ret u =>
   obtain ⟨v,H',I3,rv,ev,q3⟩:=I2.after hq'
   subst ev
   exact ⟨rv,⟨V.ref (s.heap.objs.size + 1),H',I3,rfl,q3⟩⟩
  | next => exact False.elim hq'
  | brk => exact False.elim hq'
  | cont => exact False.elim hq'
theorem pe_make (M: Mk X.K C f) (F: FnOk X.prog X.w X.K X.mg X.base CX k f fd ps sp) (hr: Room (k + 1) X.A) (hg: Gl X x) (hm: X.mg x = some (.ref C)) (hb: Binds X.K fd ps ds) (hd: Vals dvs ds) (hx: Passes CX X E)
  (ha: PA X (e :: es) t) (hdb: (x == ("__debug__": Str)) = false:=by decide) (he: starEach (e :: es) X.env = (false,eval e X.env) :: starEach es X.env:=by rfl) (hpl: (backTo pos (starEach es X.env)).any (·.1) = false:=by rfl) :
  PE X (.Call (.Name x p) (e :: es) [] pos) (tMake C sp dvs E t):=by
 intro pins s σ H Q I h
 refine wpAny_Call_Name_kw (ld_glob I hg hm ?_ hdb)
 refine PySem.W.callWith_K (h₀:=X.base) I.ok.mod.kin M.kp (thn (ha pos pins s σ H _ I h) fun us s1 ⟨vs,H1,I1,r,q⟩ => ⟨I1.kIn,?_⟩) he hpl
 exact run_make M F hr hb hd hx I1 r q
theorem pe_make0 (M: Mk X.K C f) (F: FnOk X.prog X.w X.K X.mg X.base CX k f fd ps sp) (hr: Room (k + 1) X.A) (hg: Gl X x) (hm: X.mg x = some (.ref C)) (hb: Binds X.K fd ps ds) (hd: Vals dvs ds) (hx: Passes CX X E)
  (hdb: (x == ("__debug__": Str)) = false:=by decide): PE X (.Call (.Name x p) [] [] pos) (tMake C sp dvs E tNil):=by
 intro pins s σ H Q I h
 refine wpAny_Call_Name_kw (ld_glob I hg hm ?_ hdb)
 exact PySem.W.callWith_K0 I.kIn M.kp (run_make (us:=[]) M F hr hb hd hx I .nil h)
end
section
variable {X: Cx} {CX: CXT} {k: Nat} {f C: Addr} {fd: FuncData} {ps ks: List Str} {sp: Sp} {E: XK} {x m: Str} {p pos apos kpos: Pos} {e o: Expr} {es: List Expr} {kws: List Keyword} {te ta: TE} {t tk: TA} {nm: Option Str}
variable {g: List Value -> List Value -> List Value} {gV: List V -> List V -> List V}
end
structure FnScope (N P: List Str) (sc: Scope): Prop where
 kind: sc.kind = .function
 co: sc.isCoroutine = false
 gen: sc.isGenerator = false
 nd: N.Nodup
 pre: N.take P.length = P
 par: ∀ x ∈ P,sc.names.lookup x = some .local \/ sc.names.lookup x = some .cell
 nofree: ∀ y ∈ sc.names,y.2 ≠ .free
theorem bindL_out {kindOf: Str -> Option NameKind} {x: Str}: ∀ {binds: List (Str × Value)} {m: Str -> Option Value},(∀ v,(x,v) ∉ binds) -> bindL kindOf binds m x = m x
 | [],_,_ => rfl
 | (n,v) :: r,m,h => by
  unfold bindL
  rw [bindL_out fun w hw => h w (List.mem_cons_of_mem _ hw)]
  split
  ·have: x ≠ n:=by rintro rfl; exact h v List.mem_cons_self
   simp [this]
  ·rfl
theorem bindC_out {kindOf: Str -> Option NameKind} {x: Str}: ∀ {binds: List (Str × Value)} {m: Str -> Option Value},(∀ v,(x,v) ∉ binds) -> bindC kindOf binds m x = m x
 | [],_,_ => rfl
 | (n,v) :: r,m,h => by
  unfold bindC
  rw [bindC_out fun w hw => h w (List.mem_cons_of_mem _ hw)]
  split
  ·rfl
  ·have: x ≠ n:=by rintro rfl; exact h v List.mem_cons_self
   simp [this]
theorem bindL_get {kindOf: Str -> Option NameKind} {x: Str} {v: Value}: ∀ {P: List Str} {vs: List Value} {i: Nat} {m: Str -> Option Value},P.Nodup -> P[i]? = some x -> vs[i]? = some v -> kindOf x = some .local ->
  bindL kindOf (P.zip vs) m x = some v
 | [],_,_,_,_,h,_,_ => by simp at h
 | _ :: _,[],_,_,_,_,h,_ => by simp at h
 | p :: P,w :: vs,0,m,nd,h1,h2,hk => by
  simp at h1 h2; subst h1; subst h2
  show bindL kindOf ((p,w) :: P.zip vs) m p = _
  unfold bindL
  rw [bindL_out fun v hv => (List.nodup_cons.mp nd).1 (List.of_mem_zip hv).1,if_pos hk]
  simp
 | p :: P,w :: vs,i + 1,m,nd,h1,h2,hk => by
  show bindL kindOf ((p,w) :: P.zip vs) m x = _
  unfold bindL
  exact bindL_get (i:=i) (List.nodup_cons.mp nd).2 (by simpa using h1) (by simpa using h2) hk
theorem bindC_get {kindOf: Str -> Option NameKind} {x: Str} {v: Value}: ∀ {P: List Str} {vs: List Value} {i: Nat} {m: Str -> Option Value},P.Nodup -> P[i]? = some x -> vs[i]? = some v -> kindOf x ≠ some .local ->
  bindC kindOf (P.zip vs) m x = some v
 | [],_,_,_,_,h,_,_ => by simp at h
 | _ :: _,[],_,_,_,_,h,_ => by simp at h
 | p :: P,w :: vs,0,m,nd,h1,h2,hk => by
  simp at h1 h2; subst h1; subst h2
  show bindC kindOf ((p,w) :: P.zip vs) m p = _
  unfold bindC
  rw [bindC_out fun v hv => (List.nodup_cons.mp nd).1 (List.of_mem_zip hv).1,if_neg hk]
  simp
 | p :: P,w :: vs,i + 1,m,nd,h1,h2,hk => by
  show bindC kindOf ((p,w) :: P.zip vs) m x = _
  unfold bindC
  exact bindC_get (i:=i) (List.nodup_cons.mp nd).2 (by simpa using h1) (by simpa using h2) hk
def start (N: List Str) (vs: List V): St:=vs.map some ++ List.replicate (N.length - vs.length) none
def cxOf (CX: CXT) (P: Program) (w: World) (K: PySem.W.Frag) (mg: Str -> Option Value) (base: Heap) (N: List Str) (qual: Str) (scope: Scope) (f: Addr) (cd: Value) (A: Around) (outer: List Env) (s: Shared) (H: Hp) (E: XK): Cx where
 prog:=P
 w:=w
 K:=K
 mg:=mg
 base:=base
 A:=A.deeper (envOfC qual scope s.heap.objs.size f cd)
 N:=N
 s_0:=s
 H_0:=H
 env:=envOfC qual scope s.heap.objs.size f cd
 outer:=outer
 stack:=envOfC qual scope s.heap.objs.size f cd :: outer
 ex:=[]
 calm:=true
 fn:=fun _ => true
 pn:=[]
 xe:=fun e s' => wpAny (model P w) (A.deeper (envOfC qual scope s.heap.objs.size f cd)) (leaving (envOfC qual scope s.heap.objs.size f cd) e) (fun _ s'' => CX outer H s E e s'') (fun e' s'' => CX outer H s E e' s'') s'
theorem cell_has {sc: Scope} {n: Nat} {x: Str} (h: sc.names.lookup x = some .cell): ∃ c,(cellsFrom n sc.names []).lookup x = some c:=by
 have q:=PySem.W.cellsFrom_some sc.names n [] (.inl h)
 exact Option.isSome_iff_exists.mp q
theorem inv_start {CX: CXT} {P: Program} {w: World} {K: PySem.W.Frag} {mg: Str -> Option Value} {base: Heap} {N ps: List Str} {qual: Str} {scope: Scope} {f: Addr} {cd: Value} {A: Around} {outer: List Env} {s s1: Shared} {H: Hp} {E: XK} {us: List Value} {vs: List V}
  (S: FnScope N ps scope) (hd: A.handled = none) (e0: Env0 P w K mg base A outer s H) (hl: vs.length = ps.length) (r: Vals vs us)
  (x: InCallC s s.heap.objs.size (bindL (envOfC qual scope s.heap.objs.size f cd).kindOf (ps.zip us) fun _ => none) (cellsFrom (s.heap.objs.size + 1) scope.names []) (bindC (envOfC qual scope s.heap.objs.size f cd).kindOf (ps.zip us) fun _ => none) s1) :
  Inv (cxOf CX P w K mg base N qual scope f cd A outer s H E) [] (start N vs) H s1:=by
 have hpl: ps.length <= N.length:=by have:=congrArg List.length S.pre; rw [List.length_take] at this; omega
 obtain ⟨h1,tk,rfl,hk⟩:=x.done
 have noA: ∀ b: Addr,b ∉ (cxOf CX P w K mg base N qual scope f cd A outer s H E).ex:=fun b z => absurd (show b ∈ ([]: List Addr) from z) (by simp)
 refine ⟨⟨e0.mod,S.kind,rfl,rfl,Nat.le_refl _,fun y z c h1 h2 => ?_,fun y hy => ?_,fun y c _ h => ?_,fun _ => hd,Around.frames_deeper e0.frames,.inr ⟨rfl,rfl⟩,fun b z => absurd z (noA b),e0.bs,e0.bsz,fun b _ _ => noA b,fun b z => absurd z (noA b),e0.funs,e0.frf⟩,
  rfl,e0.bare,Un.kept hk,⟨_,x.toInCall.ns,fun i y v h1 h2 h3 => ?_⟩,fun y c h => ⟨_,x.cell y c h⟩,e0.hok.fresh (Nat.le_refl _),fun y c h => ?_,fun p hp => absurd (show p ∈ ([]: List (Addr × Obj)) from hp) (by simp),e0.hok.kept hk,?_⟩
 ·exact name_of_addr x.apart (PySem.mem_of_lookup h1) (PySem.mem_of_lookup h2)
 ·have hy: scope.names.lookup y = some .cell \/ scope.names.lookup y = some .free:=hy
  rcases hy with hy | hy
  ·exact cell_has hy
  ·exact absurd rfl (S.nofree _ (PySem.mem_of_lookup hy))
 ·exact Nat.le_of_lt (x.above y c (PySem.mem_of_lookup h))
 ·have hi: i < vs.length:=by
   unfold start at h2
   by_cases hi: i < vs.length
   ·exact hi
   ·rw [List.getElem?_append_right (by simpa using hi)] at h2
    rw [List.getElem?_replicate] at h2
    split at h2 <;> cases h2
  have ha: vs[i]? = some v:=by
   unfold start at h2
   rw [List.getElem?_append_left (by simpa using hi),List.getElem?_map] at h2
   cases e: vs[i]? with
   | none => rw [e] at h2; cases h2
   | some a => rw [e] at h2; cases h2; rfl
  obtain ⟨u,hu,rv⟩:=r.get ha
  have hp: ps[i]? = some y:=by
   rw [<- S.pre,List.getElem?_take_of_lt (by omega)]; exact h1
  have ndP: ps.Nodup:=by rw [<- S.pre]; exact S.nd.sublist (List.take_sublist _ _)
  refine ⟨u,rv,?_⟩
  rcases S.par y (List.mem_of_getElem? hp) with k | k
  ·exact .inl ⟨k,bindL_get ndP hp hu k⟩
  ·obtain ⟨c,e⟩:=cell_has (n:=s.heap.objs.size + 1) k
   refine .inr ⟨.inl k,c,e,?_⟩
   have q:=x.cell y c e
   rw [bindC_get ndP hp hu (by show scope.names.lookup y ≠ _; rw [k]; decide)] at q
   exact q
 ·exact e0.hok.fresh (Nat.le_of_lt (x.above y c (PySem.mem_of_lookup h)))
 ·unfold start
  show _ = N.length
  rw [List.length_append,List.length_map,List.length_replicate]
  omega
theorem fn_of {CX: CXT} {P: Program} {w: World} {K: PySem.W.Frag} {mg: Str -> Option Value} {base: Heap} {k: Nat} {f: Addr} {name qual: Str} {params: Arguments} {body: List Stmt} {scope: Scope} {dV kV doc pm cdv ct oc: Value} {an od: Option Addr}
  {osl: Array (Option Value)} {N ps: List Str} {sp: Sp} (lk: K.lookup f = some ⟨oc,od,.func (PySem.W.fnOf name qual params body scope dV kV doc pm an cdv ct),osl⟩) (hcd: PySem.W.codeIn K cdv qual = true) (S: FnScope N ps scope)
  (len: ∀ vs H Q E,sp vs H Q E -> vs.length = ps.length)
  (hbody: ∀ (A: Around) (outer: List Env) (s: Shared) (H: Hp) (vs: List V) (Q: VK) (E: XK),Room k (A.deeper (envOfC qual scope s.heap.objs.size f cdv)) -> sp vs H Q E ->
   ∃ t,PSs (cxOf CX P w K mg base N qual scope f cdv A outer s H E) body t /\ t { nx:=fun _ H' => Q .non H',rt:=Q } (start N vs) H) :
  FnOk P w K mg base CX (k + 1) f (PySem.W.fnOf name qual params body scope dV kV doc pm an cdv ct) ps sp:=by
 refine ⟨len,fun A outer s H args us vs Q E hr e0 hb r hsp => ?_⟩
 have hl:=len _ _ _ _ hsp
 have KX: K.In s.heap:=e0.mod.kin.keeps fun b o e => (e0.bs b o e).1
 have lim: s.heap.NoLimit:=e0.mod.nolimit.keeps fun b o e => (e0.bs b o e).1
 have hkind: ∀ y ∈ ps.zip us,scope.names.lookup y.1 = some .local \/ (scope.names.lookup y.1 = some .cell /\ ((cellsFrom (s.heap.objs.size + 1) scope.names []).lookup y.1).isSome = true):=fun ⟨n,v⟩ hy => by
  rcases S.par n (List.of_mem_zip hy).1 with q | q
  ·exact .inl q
  ·exact .inr ⟨q,PySem.W.cellsFrom_some _ _ _ (.inl q)⟩
 refine codeAny_call_function hr.depth (KX _ _ lk) rfl S.co S.gen rfl (PySem.W.codeRec_of KX hcd) (hb _ _ _ _ ?_)
 refine wpAny_newFunctionEnv_cells S.kind hkind fun env he s1 x => ?_
 subst he
 refine ⟨lim.keeps x.toInCall.keep,codeAny_func ?_⟩
 obtain ⟨t,ht,hq⟩:=hbody A outer s H vs Q E (hr.deeper _) hsp
 have I: Inv (cxOf CX P w K mg base N qual scope f cdv A outer s H E) [] (start N vs) H s1:=inv_start S hr.hd e0 hl r x
 refine wpAny_mono (ht [] s1 (start N vs) H _ I hq) (fun fl s' hs => ?_) fun e s' hs => hs
 have fin: ∀ {σ': St} {H': Hp} {v: V} {u: Value},Inv (cxOf CX P w K mg base N qual scope f cdv A outer s H E) [] σ' H' s' -> RelV v u -> Q v H' -> CE outer P w H s Q u s' :=
  fun {σ' H' v u} J rv q => ⟨v,H',J.os,J.bare,J.base,J.hok,rv,q⟩
 cases fl with
 | ret u =>
  obtain ⟨v,σ',H',J,rv,q⟩:=hs
  exact fin J rv q
 | next =>
  obtain ⟨σ',H',J,q⟩:=hs
  exact fin (v:=V.non) (u:=Value.none) J rfl q
 | brk =>
  obtain ⟨_,_,_,q⟩:=hs
  exact False.elim q
 | cont =>
  obtain ⟨_,_,_,q⟩:=hs
  exact False.elim q
end L2
namespace L2
open PySem PySem.Spec PyProof.Rows
section
variable {X: Cx} {x: Str} {p pos: Pos} {e: Expr} {es: List Expr} {t: TA} {id T: String} {r: List V -> Hp -> VK -> Prop}
def tCB (r: List V -> Hp -> VK -> Prop) (t: TA): TE:=fun σ H Q => t σ H fun vs H1 => r vs H1 Q
theorem pe_callB (hc: CallR X (.builtin id) r) (hg: Gl X x) (hm: X.mg x = none) (hv: bootBuiltins x = some (.builtin id)) (ha: PA X (e :: es) t) (hn: x ≠ "__name__":=by decide) (hdb: (x == ("__debug__": Str)) = false:=by decide)
  (he: starEach (e :: es) X.env = (false,eval e X.env) :: starEach es X.env:=by rfl) (hpl: (backTo pos (starEach es X.env)).any (·.1) = false:=by rfl): PE X (.Call (.Name x p) (e :: es) [] pos) (tCB r t):=by
 intro pins s σ H Q I h
 refine wpAny_Call_Name_kw (ld_blt I hg hm hv ?_ hn hdb)
 exact PyProof.Rows.callWith_builtin1 (thn (ha pos pins s σ H _ I h) fun us s1 ⟨vs,H1,I1,r1,q1⟩ => hc pins s1 σ H1 vs us Q I1 r1 q1) he hpl
theorem pe_callTy (hc: CallR X (.type T) r) (hg: Gl X x) (hm: X.mg x = none) (hv: bootBuiltins x = some (.type T)) (ha: PA X (e :: es) t) (hn: x ≠ "__name__":=by decide) (hdb: (x == ("__debug__": Str)) = false:=by decide)
  (he: starEach (e :: es) X.env = (false,eval e X.env) :: starEach es X.env:=by rfl) (hpl: (backTo pos (starEach es X.env)).any (·.1) = false:=by rfl): PE X (.Call (.Name x p) (e :: es) [] pos) (tCB r t):=by
 intro pins s σ H Q I h
 refine wpAny_Call_Name_kw (ld_blt I hg hm hv ?_ hn hdb)
 exact PyProof.Rows.callWith_type1 (thn (ha pos pins s σ H _ I h) fun us s1 ⟨vs,H1,I1,r1,q1⟩ => hc pins s1 σ H1 vs us Q I1 r1 q1) he hpl
end
end L2
namespace HT
open PySem PyProof.Rows
section
open PySem.SeqAt
open PySem.AutoSeq1 (wpAny_loadPart')
open PySem.MeetsSeq PySem.MeetsSeq2 PySem.MeetsSeq3
end
section
variable {prog: Program} {w: World} {A: Around} {E: Value -> Shared -> Prop} {s: Shared}
def sIx (n d: Nat): Option Int -> Nat
 | none => d
 | some v => if v < 0 then (v + (n: Int)).toNat else min v.toNat n
theorem sIx_nat (n d k: Nat): sIx n d (some (k: Int)) = min k n:=by
 show (if (k: Int) < 0 then ((k: Int) + (n: Int)).toNat else min (k: Int).toNat n) = min k n
 rw [if_neg (by omega),Int.toNat_natCast]
end
end HT
namespace L2
open PySem PySem.Spec PyProof.Rows
abbrev TO:=St -> Hp -> (Option Int -> Hp -> Prop) -> Prop
def PO (X: Cx) (e: Option Expr) (t: TO): Prop :=
 ∀ (pins: List (Addr × Obj)) (s: Shared) (σ: St) (H: Hp) (Q: Option Int -> Hp -> Prop),Inv X pins σ H s -> t σ H Q ->
  wpAny (model X.prog X.w) X.A (evalPart e X.env) (fun u s' => ∃ o H',Inv X pins σ H' s' /\ IsPart u o /\ Q o H') X.xe s
def tNoPart: TO:=fun _ H Q => Q none H
def tPart (t: TE): TO:=fun σ H Q => t σ H fun x H1 => ∃ i,x = .int i /\ Q (some i) H1
section
variable {X: Cx} {e: Expr} {te: TE} {lo hi: Option Expr} {tl th: TO} {pos p2: Pos}
theorem po_none: PO X none tNoPart:=by
 intro pins s σ H Q I h
 rw [evalPart_none]
 exact wpAny_pure ⟨none,H,I,.none,h⟩
theorem po_some (h: PE X e te): PO X (some e) (tPart te):=by
 intro pins s σ H Q I hw
 rw [evalPart_some]
 refine thn (h pins s σ H _ I hw) fun u s1 ⟨x,H1,I1,r1,q1⟩ => ?_
 obtain ⟨i,rfl,q⟩:=q1
 obtain ⟨t,rfl⟩:=r1
 exact ⟨some i,H1,I1,.int i t,q⟩
def SlR (X: Cx) (r: V -> Option Int -> Option Int -> Hp -> VK -> Prop): Prop :=
 ∀ (pins: List (Addr × Obj)) (s: Shared) (σ: St) (H: Hp) (x: V) (v vl vu: Value) (lo hi: Option Int) (sl: Addr) (Q: VK),Inv X pins σ H s -> RelV x v -> s.heap.IsSliceOf sl vl vu .none -> IsPart vl lo -> IsPart vu hi -> r x lo hi H Q ->
  ∃ T id,typeLookup (.type T) "__getitem__" = pure (some (.builtin id)) /\ s.TypeIs v T /\ wpAny (model X.prog X.w) X.A (getItem v (.ref sl)) (EP X pins σ Q) X.xe s
def tSl (r: V -> Option Int -> Option Int -> Hp -> VK -> Prop) (te: TE) (tl th: TO): TE:=fun σ H Q => te σ H fun x H1 => tl σ H1 fun l H2 => th σ H2 fun u H3 => r x l u H3 Q
theorem pe_slice {r: V -> Option Int -> Option Int -> Hp -> VK -> Prop} (hr: SlR X r) (he: PE X e te) (hl: PO X lo tl) (hu: PO X hi th): PE X (.Subscript e (.Slice lo hi none p2) pos) (tSl r te tl th):=by
 intro pins s σ H Q I h
 refine Subscript_ (thn (he pins s σ H _ I h) fun v s1 ⟨x,H1,I1,r1,q1⟩ => ?_)
 refine wpAny_Slice (thn (hl pins s1 σ H1 _ I1 q1) fun vl s2 ⟨l,H2,I2,pl,q2⟩ => thn (hu pins s2 σ H2 _ I2 q2) fun vu s3 ⟨u,H3,I3,pu,q3⟩ => ?_)
 rw [evalPart_none]
 refine wpAny_pure ?_
 have I4: Inv X pins σ H3 { s3 with heap:=s3.heap.push { cls:=.type "slice",data:=.fields #[vl,vu,.none] } }:=I3.kept (t':=s3.toks) fun b ob q => Heap.get?_push_of_some _ q
 obtain ⟨T,id,hT,ht,hg⟩:=hr pins { s3 with heap:=s3.heap.push { cls:=.type "slice",data:=.fields #[vl,vu,.none] } } σ H3 x v vl vu l u s3.heap.objs.size Q I4 r1 (Heap.IsSliceOf.new ..) pl pu q3
 show wpAny (model X.prog X.w) X.A (subscriptTail e (.Slice lo hi none p2) v (.ref s3.heap.objs.size)) (EP X pins σ Q) X.xe { s3 with heap:=s3.heap.push { cls:=.type "slice",data:=.fields #[vl,vu,.none] } }
 exact tail_any (ops:=[.ref s3.heap.objs.size,v]) ht hT hg (by with_unfolding_all rfl)
def cutV (xs: List V) (lo hi: Option Int): List V:=(xs.drop (HT.sIx xs.length 0 lo)).take (HT.sIx xs.length xs.length hi - HT.sIx xs.length 0 lo)
theorem cutV_length (xs: List V) (lo hi: Option Int): (cutV xs lo hi).length <= xs.length:=by
 unfold cutV
 rw [List.length_take,List.length_drop]
 omega
end
end L2
namespace L2
open PySem PySem.Spec PyProof.Rows
def ixN (n: Nat) (i: Int): Option Nat:=if 0 <= i then (if i < n then some i.toNat else none) else if -(n: Int) <= i then some (i + n).toNat else none
def atI {α: Type} (xs: List α) (i: Int): Option α:=(ixN xs.length i).bind fun j => xs[j]?
theorem ixN_seq {n: Nat} {i: Int} {j: Nat} (h: ixN n i = some j): seqIndex? i n = some j /\ j < n /\ -(n: Int) <= i /\ i < n:=by
 unfold ixN at h
 by_cases h0: 0 <= i
 ·rw [if_pos h0] at h
  by_cases h1: i < n
  ·rw [if_pos h1] at h
   have e: i.toNat = j:=Option.some.inj h
   exact ⟨by rw [seqIndex_of h0 h1,e],by omega,by omega,h1⟩
  ·rw [if_neg h1] at h; cases h
 ·rw [if_neg h0] at h
  by_cases h1: -(n: Int) <= i
  ·rw [if_pos h1] at h
   have e: (i + n).toNat = j:=Option.some.inj h
   exact ⟨by rw [seqIndex_neg (by omega) h1,e],by omega,h1,by omega⟩
  ·rw [if_neg h1] at h; cases h
theorem atI_get {α: Type} {xs: List α} {i: Int} {v: α} (h: atI xs i = some v): ∃ j,seqIndex? i xs.length = some j /\ xs[j]? = some v /\ j < xs.length /\ -(xs.length: Int) <= i /\ i < xs.length:=by
 unfold atI at h
 cases e: ixN xs.length i with
 | none => rw [e] at h; cases h
 | some j =>
  rw [e] at h
  obtain ⟨h1,h2,h3,h4⟩:=ixN_seq e
  exact ⟨j,h1,h,h2,h3,h4⟩
theorem atI_nat {α: Type} {xs: List α} {j: Nat} {v: α} (h: xs[j]? = some v): atI xs (j: Int) = some v:=by
 have hj: j < xs.length:=(List.getElem?_eq_some_iff.mp h).1
 have e: ixN xs.length (j: Int) = some j:=by
  unfold ixN
  rw [if_pos (by omega),if_pos (by omega)]; simp
 unfold atI; rw [e]; exact h
def PlainIx (b: Expr): Prop:=∀ o i,subscripted b false o i = operate [o,i] (getItem o i)
def IxR (X: Cx) (r: R2): Prop :=
 ∀ (value slice: Expr) (pins: List (Addr × Obj)) (s: Shared) (σ: St) (H: Hp) (x y: V) (v u: Value) (Q: VK),Inv X pins σ H s -> RelV x v -> RelV y u -> r x y H Q ->
  subscripted slice false v u = operate [v,u] (getItem v u) -> wpAny (model X.prog X.w) X.A (subscriptTail value slice v u) (EP X pins σ Q) X.xe s
def MtR (X: Cx) (id: String) (r: V -> List V -> Hp -> VK -> Prop): Prop :=
 ∀ (pins: List (Addr × Obj)) (s: Shared) (σ: St) (H: Hp) (x: V) (xs: List V) (v: Value) (us: List Value) (Q: VK),Inv X pins σ H s -> RelV x v -> Vals xs us -> r x xs H Q ->
  wpAny (model X.prog X.w) X.A (call (.builtin id) (v :: us)) (EP X pins σ Q) X.xe s
section
variable {X: Cx} {a b: Expr} {ta tb: TE} {pos: Pos}
theorem pe_ix {r: R2} (hr: IxR X r) (ha: PE X a ta) (hb: PE X b tb) (hs: PlainIx b): PE X (.Subscript a b pos) (tOp r ta tb):=by
 intro pins s σ H Q I h
 exact Subscript_ (binT ha hb I h fun v u s2 x y H2 I2 rx ry q => hr a b pins s2 σ H2 x y v u Q I2 rx ry q (hs _ _))
def rIxL (K: PySem.W.Frag): R2:=fun x y H Q => ∃ p xs i v,x = .ref p /\ y = .int i /\ SqL K H p xs /\ atI xs i = some v /\ Q v H
def rIxT (K: PySem.W.Frag): R2:=fun x y H Q => ∃ p xs i v,x = .ref p /\ y = .int i /\ SqT K H p xs /\ atI xs i = some v /\ Q v H
theorem ix_list: IxR X (rIxL X.K):=by
 intro value slice pins s σ H x y v u Q I rx ry h hs
 obtain ⟨p,xs,i,z,rfl,rfl,hq,he,q⟩:=h
 cases rx
 obtain ⟨t,rfl⟩:=ry
 obtain ⟨its,r,pl,hz⟩:=I.list hq
 obtain ⟨j,h1,h2,h3,h4,h5⟩:=atI_get he
 obtain ⟨w,ew,rw'⟩:=r.get h2
 have hl:=r.length
 have hn:=line63
 have fin: EP X pins σ Q w s:=⟨z,H,I,rw',q⟩
 by_cases h0: 0 <= i
 ·have hj: i.toNat = j:=by
   rw [seqIndex_of h0 h5] at h1
   exact Option.some.inj h1
  exact item_listR pl.isList h0 (by omega) (by rw [hj]; simpa using ew) fin hs
 ·have hj: (i + (its.toArray.size: Int)).toNat = j:=by
   rw [seqIndex_neg (by omega) h4] at h1
   rw [List.size_toArray,<- hl]
   exact Option.some.inj h1
  exact subscriptTail_builtinR (x:=w) pl.isList.typeIs slot_list_getitem.lookup
   (wpAny_getItem_list_neg (Q:=fun r s' => r = w /\ EP X pins σ Q r s') pl.isList (by omega) (by rw [List.size_toArray] <;> omega) (by omega) (by rw [hj]; simpa using ew) ⟨rfl,fin⟩) hs
theorem ix_tup: IxR X (rIxT X.K):=by
 intro value slice pins s σ H x y v u Q I rx ry h hs
 obtain ⟨p,xs,i,z,rfl,rfl,hq,he,q⟩:=h
 cases rx
 obtain ⟨t,rfl⟩:=ry
 obtain ⟨its,r,pl,hz⟩:=I.tuple hq
 obtain ⟨j,h1,h2,h3,h4,h5⟩:=atI_get he
 obtain ⟨w,ew,rw'⟩:=r.get h2
 have hl:=r.length
 have hn:=line63
 have fin: EP X pins σ Q w s:=⟨z,H,I,rw',q⟩
 exact subscriptTail_builtinR (x:=w) pl.typeIs slot_tuple_getitem.lookup
  (getItem_tuple (j:=j) (Q:=fun r s' => r = w /\ EP X pins σ Q r s') pl (by omega) (by omega) (by rw [List.size_toArray,<- hl]; exact h1) (by simpa using ew) ⟨rfl,fin⟩) hs
theorem mapSeq_set (its: List Value) (n j: Nat) (u: Value): Obj.mapSeq (·.setIfInBounds j u) { cls:=.type "list",data:=.seq its.toArray n } = { cls:=.type "list",data:=.seq (its.set j u).toArray n }:=by
 simp [Obj.mapSeq]
theorem Inv.lst {pins: List (Addr × Obj)} {σ: St} {H: Hp} {s: Shared} {p: Addr} {xs: List V} (I: Inv X pins σ H s) (h: H p = some (.lst xs)) :
  ∃ (its: List Value) (n: Nat),Vals xs its /\ s.heap.get? p = some { cls:=.type "list",data:=.seq its.toArray n } /\ xs.length <= sizeLine:=by
 obtain ⟨z,its,n,r,e⟩:=I.hok p _ h
 exact ⟨its,n,r,e,z⟩
theorem Inv.lstUpd {pins: List (Addr × Obj)} {σ: St} {H: Hp} {s: Shared} {p: Addr} {xs ys: List V} {its its': List Value} {n n': Nat} {f: Obj -> Obj} (I: Inv X pins σ H s) (h: H p = some (.lst xs))
  (ho: s.heap.get? p = some { cls:=.type "list",data:=.seq its.toArray n }) (hf: f { cls:=.type "list",data:=.seq its.toArray n } = { cls:=.type "list",data:=.seq its'.toArray n' }) (r: Vals ys its') (hz: ys.length <= sizeLine) (t: Nat) :
  Inv X pins σ (upd H p (.lst ys)) { s with heap:=s.heap.update p f,toks:=t }:=by
 have e: (s.heap.update p f).get? p = some { cls:=.type "list",data:=.seq its'.toArray n' }:=by
  rw [Heap.get?_update_self f ho (by rw [hf] <;> rfl),hf]
 refine I.write (x:=p) (e:=p) (by rw [h]; trivial) (.inl rfl) (fun b u hb q => (Heap.get?_update_other _ _ (Ne.symm hb)).trans q) ⟨_,e⟩ ?_
 exact ⟨hz,its',n',r,e⟩
def rSetL: V -> V -> V -> Hp -> (Hp -> Prop) -> Prop:=fun o i v H Q => ∃ p xs k j,o = .ref p /\ i = .int k /\ H p = some (.lst xs) /\ ixN xs.length k = some j /\ Q (upd H p (.lst (xs.set j v)))
theorem set_list: PSet X rSetL:=by
 intro pins s σ H o i v ov iv u Q I ro ri rv h
 obtain ⟨p,xs,k,j,rfl,rfl,hp,hj,q⟩:=h
 cases ro
 obtain ⟨t,rfl⟩:=ri
 obtain ⟨its,n,r,ho,hz⟩:=I.lst hp
 obtain ⟨h1,h2,h3,h4⟩:=ixN_seq hj
 have hl:=r.length
 have hn:=line63
 have I': Inv X pins σ (upd H p (.lst (xs.set j v))) { s with heap:=s.heap.update p (Obj.mapSeq (·.setIfInBounds j u)) } :=
  I.lstUpd hp ho (mapSeq_set its n j u) (r.set rv j) (by rw [List.length_set]; exact hz) s.toks
 by_cases h0: 0 <= k
 ·have hk: k.toNat = j:=by
   rw [seqIndex_of h0 h4] at h1
   exact Option.some.inj h1
  exact PySem.W.ki_setAt ho h0 (by omega) (by rw [List.size_toArray,<- hl]; exact h4) (by rw [hk]; exact ⟨_,I',q⟩)
 ·have hk: (k + (its.toArray.size: Int)).toNat = j:=by
   rw [seqIndex_neg (by omega) h3] at h1
   rw [List.size_toArray,<- hl]
   exact Option.some.inj h1
  exact PySem.W.ki_setBack ho (by omega) (by rw [List.size_toArray,<- hl]; exact h3) (by omega) (by rw [hk]; exact ⟨_,I',q⟩)
theorem slice_bounds (lo hi: Option Int) (n: Nat): (sliceBounds lo hi none n).1 = ((HT.sIx n 0 lo: Nat): Int) /\ (sliceBounds lo hi none n).2.1 = ((HT.sIx n n hi: Nat): Int) /\ (sliceBounds lo hi none n).2.2 = 1:=by
 refine ⟨?_,?_,rfl⟩
 ·cases lo with
  | none => simp [sliceBounds,HT.sIx]
  | some i =>
   simp only [sliceBounds,HT.sIx,Option.getD_none,show (1: Int) > 0 by decide,if_true]
   by_cases h: i < 0
   ·simp only [h,if_true] <;> omega
   ·simp only [h,if_false] <;> omega
 ·cases hi with
  | none => simp [sliceBounds,HT.sIx]
  | some i =>
   simp only [sliceBounds,HT.sIx,Option.getD_none,show (1: Int) > 0 by decide,if_true]
   by_cases h: i < 0
   ·simp only [h,if_true] <;> omega
   ·simp only [h,if_false] <;> omega
theorem slicePick_cut (its: List Value) (lo hi: Option Int): slicePick its.toArray lo hi none = ((its.drop (HT.sIx its.length 0 lo)).take (HT.sIx its.length its.length hi - HT.sIx its.length 0 lo)).toArray:=by
 obtain ⟨h1,h2,h3⟩:=slice_bounds lo hi its.toArray.size
 unfold slicePick
 rw [h1,h2,h3]
 simp only [sliceRange_one,pick_run,List.size_toArray] <;> rfl
def rSlL (K: PySem.W.Frag): V -> Option Int -> Option Int -> Hp -> VK -> Prop:=fun x lo hi H Q => ∃ a xs,x = .ref a /\ SqL K H a xs /\ ∀ p,H p = none -> Q (.ref p) (upd H p (.lst (cutV xs lo hi)))
theorem sl_list: SlR X (rSlL X.K):=by
 intro pins s σ H x v vl vu lo hi sl Q I rx hs pl pu h
 obtain ⟨a,xs,rfl,hx,q⟩:=h
 cases rx
 obtain ⟨its,r,ht,hz⟩:=I.list hx
 have hlen:=r.length
 refine ⟨"list",_,slot_list_getitem.lookup,ht.isList.typeIs,?_⟩
 refine wpAny_getItem_list_slice ht.isList hs pl pu .none (by simp) ?_ (by rw [List.size_toArray] <;> omega)
 rw [slicePick_cut,<- hlen]
 refine ⟨.ref s.heap.objs.size,_,I.laid (t':=s.toks) (o:=.lst (cutV xs lo hi)) (fun b ob q => Heap.get?_push_of_some _ q) (Nat.le_refl _) ?_,rfl,q _ (I.hok.fresh (Nat.le_refl _))⟩
 exact ⟨Nat.le_trans (cutV_length xs lo hi) hz,_,0,(r.drop (HT.sIx xs.length 0 lo)).take (HT.sIx xs.length xs.length hi - HT.sIx xs.length 0 lo),Heap.get?_push_size _ rfl⟩
def flatV: V -> Bool
 | .non => true
 | .bl _ => true
 | .int _ => true
 | .str _ => true
 | _ => false
def eqV: V -> V -> Bool
 | .non,.non => true
 | .bl a,.bl b => a == b
 | .bl a,.int b => (if a then 1 else 0) == b
 | .int a,.bl b => a == (if b then 1 else 0)
 | .int a,.int b => a == b
 | .str a,.str b => a == b
 | _,_ => false
theorem eqAt_V {A: Around} {s: Shared} {y x: V} {u v: Value} (ry: RelV y u) (rx: RelV x v) (fy: flatV y = true) (fx: flatV x = true): SeqAt.EqAt A s u v (eqV y x):=by
 cases y with
 | non =>
  cases ry
  cases x with
  | non => cases rx; exact SeqAt.EqAt.same _
  | bl b => cases rx; exact SeqAt.EqAt.none_bool b
  | int b => obtain ⟨t,rfl⟩:=rx; exact SeqAt.EqAt.none_int b t
  | str b => obtain ⟨t,rfl⟩:=rx; exact SeqAt.EqAt.none_str b t
  | _ => exact absurd (show false = true from fx) Bool.false_ne_true
 | bl a =>
  cases ry
  cases x with
  | non => cases rx; exact SeqAt.EqAt.bool_none a
  | bl b => cases rx; exact SeqAt.EqAt.bool_bool a b
  | int b => obtain ⟨t,rfl⟩:=rx; exact SeqAt.EqAt.bool_int a b t
  | str b => obtain ⟨t,rfl⟩:=rx; exact SeqAt.EqAt.bool_str a b t
  | _ => exact absurd (show false = true from fx) Bool.false_ne_true
 | int a =>
  obtain ⟨t',rfl⟩:=ry
  cases x with
  | non => cases rx; exact SeqAt.EqAt.int_none a t'
  | bl b => cases rx; exact SeqAt.EqAt.int_bool a t' b
  | int b => obtain ⟨t,rfl⟩:=rx; exact SeqAt.EqAt.int_int a t' b t
  | str b => obtain ⟨t,rfl⟩:=rx; exact SeqAt.EqAt.int_str a t' b t
  | _ => exact absurd (show false = true from fx) Bool.false_ne_true
 | str a =>
  obtain ⟨t',rfl⟩:=ry
  cases x with
  | non => cases rx; exact SeqAt.EqAt.str_none a t'
  | bl b => cases rx; exact SeqAt.EqAt.str_bool a t' b
  | int b => obtain ⟨t,rfl⟩:=rx; exact SeqAt.EqAt.str_int a t' b t
  | str b => obtain ⟨t,rfl⟩:=rx; exact SeqAt.EqAt.str_str a t' b t
  | _ => exact absurd (show false = true from fx) Bool.false_ne_true
 | _ => exact absurd (show false = true from fy) Bool.false_ne_true
def eqU (x: V) (u: Value): Bool:=match u with
 | .none => eqV .non x
 | .bool b => eqV (.bl b) x
 | .int i _ => eqV (.int i) x
 | .str z _ => eqV (.str z) x
 | _ => false
theorem eqU_of {x y: V} {u: Value} (r: RelV y u) (f: flatV y = true): eqU x u = eqV y x:=by
 cases y with
 | non => cases r; rfl
 | bl b => cases r; rfl
 | int i => obtain ⟨t,rfl⟩:=r; rfl
 | str z => obtain ⟨t,rfl⟩:=r; rfl
 | _ => exact absurd (show false = true from f) Bool.false_ne_true
theorem any_eqU {x: V}: ∀ {xs: List V} {us: List Value},Vals xs us -> xs.all flatV = true -> us.any (eqU x) = xs.any fun y => eqV y x
 | _,_,.nil,_ => rfl
 | y :: xs,u :: us,.cons r t,f => by
  rw [List.all_cons,Bool.and_eq_true] at f
  rw [List.any_cons,List.any_cons,eqU_of r f.1,any_eqU t f.2]
theorem mem_eqAt {A: Around} {s: Shared} {x: V} {v: Value} (rx: RelV x v) (fx: flatV x = true): ∀ {xs: List V} {us: List Value},Vals xs us -> xs.all flatV = true -> ∀ u ∈ us,SeqAt.EqAt A s u v (eqU x u)
 | _,_,.nil,_ => fun u hu => by cases hu
 | y :: xs,u :: us,.cons r t,f => fun u' hu => by
  rw [List.all_cons,Bool.and_eq_true] at f
  rcases List.mem_cons.mp hu with rfl | hu
  ·rw [eqU_of r f.1]; exact eqAt_V r rx f.1 fx
  ·exact mem_eqAt rx fx t f.2 u' hu
def inV (x: V) (xs: List V): Bool:=xs.any fun y => eqV y x
def rIn (K: PySem.W.Frag) (neg: Bool): R2:=fun x y H Q => ∃ p xs,y = .ref p /\ (SqL K H p xs \/ SqT K H p xs) /\ flatV x = true /\ xs.all flatV = true /\ Q (.bl (if neg then !inV x xs else inV x xs)) H
theorem op_in_seq: OpR X (compareOp .In) (rIn X.K false):=by
 intro pins s σ H x y v u Q I rx ry h
 obtain ⟨p,xs,rfl,hq,fx,fs,q⟩:=h
 cases ry
 rcases hq with hq | hq
 ·obtain ⟨its,r,pl,hz⟩:=I.list hq
  refine SeqAt.in_listAt (eqU x) pl.isList (fun w hw => mem_eqAt rx fx r fs w (by simpa using hw)) ⟨.bl _,H,I,rfl,?_⟩
  rw [show its.toArray.any (eqU x) = its.any (eqU x) by simp,any_eqU r fs]
  exact q
 ·obtain ⟨its,r,pl,hz⟩:=I.tuple hq
  refine SeqAt.in_tupleAt (eqU x) pl (fun w hw => mem_eqAt rx fx r fs w (by simpa using hw)) ⟨.bl _,H,I,rfl,?_⟩
  rw [show its.toArray.any (eqU x) = its.any (eqU x) by simp,any_eqU r fs]
  exact q
theorem call_len_seq: CallR X (.builtin "len") (fun xs H Q => ∃ p ys,xs = [.ref p] /\ (SqL X.K H p ys \/ SqT X.K H p ys) /\ Q (.int ys.length) H):=by
 intro pins s σ H xs us Q I r h
 obtain ⟨p,ys,rfl,hq,q⟩:=h
 obtain ⟨u,rfl,rx⟩:=vals1 r
 cases rx
 have hn:=line63
 rcases hq with hq | hq
 ·obtain ⟨its,r',pl,hz⟩:=I.list hq
  have hlen:=r'.length
  exact Calls.call_len_list pl.isList (by simp only [List.size_toArray] <;> omega) ⟨.int ys.length,H,I.tok _,⟨s.toks + 1,by rw [List.size_toArray,hlen]⟩,q⟩
 ·obtain ⟨its,r',pl,hz⟩:=I.tuple hq
  have hlen:=r'.length
  exact len_tuple pl (by simp only [List.size_toArray] <;> omega) ⟨.int ys.length,H,I.tok _,⟨s.toks + 1,by rw [List.size_toArray,hlen]⟩,q⟩
theorem call_list_of: CallR X (.type "list") (fun xs H Q => ∃ p ys,xs = [.ref p] /\ (SqL X.K H p ys \/ SqT X.K H p ys) /\ ∀ l,H l = none -> Q (.ref l) (upd H l (.lst ys))):=by
 intro pins s σ H xs us Q I r h
 obtain ⟨p,ys,rfl,hq,q⟩:=h
 obtain ⟨u,rfl,rx⟩:=vals1 r
 cases rx
 have fin: ∀ (its: List Value),Vals ys its -> ys.length <= sizeLine -> ∀ (h': Heap) (c': Nat),(∀ b o',s.heap.get? b = some o' -> h'.get? b = some o') ->
   h'.get? s.heap.objs.size = some { cls:=.type "list",dict:=none,data:=.seq its.toArray c',slots:=#[] } -> EP X pins σ Q (.ref s.heap.objs.size) { s with heap:=h' }:=fun its r' hz h' c' kp e =>
  ⟨.ref s.heap.objs.size,_,I.laid (t':=s.toks) kp (Nat.le_refl _) (show ObjOk X.prog X.w _ h' _ (.lst ys) from ⟨hz,its,c',r',e⟩),rfl,q _ (I.hok.fresh (Nat.le_refl _))⟩
 rcases hq with hq | hq
 ·obtain ⟨its,r',pl,hz⟩:=I.list hq
  have hlen:=r'.length
  obtain ⟨o,ho,hc,n,hd⟩:=pl.isList
  exact call_list_seq p (.inl rfl) ho hc hd (fun h' c' kp e => fin its r' hz h' c' kp e) (by simp only [List.size_toArray] <;> omega)
 ·obtain ⟨its,r',pl,hz⟩:=I.tuple hq
  have hlen:=r'.length
  obtain ⟨o,ho,hc,n,hd⟩:=pl
  exact call_list_seq p (.inr rfl) ho hc hd (fun h' c' kp e => fin its r' hz h' c' kp e) (by simp only [List.size_toArray] <;> omega)
theorem call_tuple_of: CallR X (.type "tuple") (fun xs H Q => ∃ p ys,xs = [.ref p] /\ ((SqL X.K H p ys /\ ∀ l,H l = none -> Q (.ref l) (upd H l (.tup ys))) \/ (SqT X.K H p ys /\ Q (.ref p) H))):=by
 intro pins s σ H xs us Q I r h
 obtain ⟨p,ys,rfl,h⟩:=h
 obtain ⟨u,rfl,rx⟩:=vals1 r
 cases rx
 rcases h with ⟨hq,q⟩ | ⟨hq,q⟩
 ·obtain ⟨its,r',pl,hz⟩:=I.list hq
  have hlen:=r'.length
  refine call_tuple_list pl.isList (fun h' kp => ?_) (by simp only [List.size_toArray] <;> omega)
  have I1: Inv X pins σ H { s with heap:=h' }:=I.kept (t':=s.toks) kp
  have I2: Inv X pins σ (upd H h'.objs.size (.tup ys)) { s with heap:=h'.push { cls:=.type "tuple",data:=.seq its.toArray } } :=
   I1.laid (t':=s.toks) (fun b o e => Heap.get?_push_of_some _ e) (Nat.le_refl _) (show ObjOk X.prog X.w _ _ _ (.tup ys) from ⟨hz,its,r',IsTup.new _ _⟩)
  exact ⟨.ref h'.objs.size,_,I2,rfl,q _ (I1.hok.fresh (Nat.le_refl _))⟩
 ·obtain ⟨its,r',pl,hz⟩:=I.tuple hq
  exact call_tuple_same pl ⟨.ref p,H,I,rfl,q⟩
def tyV (K: PySem.W.Frag) (T: String) (x: V) (H: Hp): Prop:=match x with
 | .str _ => T = "str"
 | .int _ => T = "int"
 | .ref p => (T = "list" /\ ∃ xs,SqL K H p xs) \/ (T = "tuple" /\ ∃ o,K.lookup p = some o /\ o.cls = .type "tuple" /\ o.dict = none) \/
   (T = "dict" /\ ((∃ kvs,H p = some (.dK kvs)) \/ ∃ kvs,H p = some (.dT kvs))) \/ (T = "set" /\ ∃ S n,H p = some (.set S n))
 | _ => False
theorem tyV_is {pins: List (Addr × Obj)} {σ: St} {H: Hp} {s: Shared} {T: String} {x: V} {v: Value} (I: Inv X pins σ H s) (r: RelV x v) (ty: tyV X.K T x H) :
  s.TypeIs v T /\ ∀ a,v = .ref a -> ∃ ob,s.heap.get? a = some ob /\ ob.dict = none:=by
 cases x with
 | str z =>
  obtain ⟨t,rfl⟩:=r
  cases (show T = "str" from ty)
  exact ⟨typeIs_str s z t,fun _ e => nomatch e⟩
 | int i =>
  obtain ⟨t,rfl⟩:=r
  cases (show T = "int" from ty)
  exact ⟨typeIs_int s i t,fun _ e => nomatch e⟩
 | ref p =>
  cases r
  rcases ty with ⟨rfl,xs,hq⟩ | ⟨rfl,o,hk,hc,hd⟩ | ⟨rfl,hk⟩ | ⟨rfl,S,n,hk⟩
  ·obtain ⟨its,_,pl,_⟩:=I.list hq
   refine ⟨pl.isList.typeIs,fun a e => ?_⟩
   cases e
   obtain ⟨o,n,e,c,hd,_⟩:=pl
   exact ⟨o,e,hd⟩
  ·refine ⟨⟨o,I.kIn p o hk,hc⟩,fun a e => ?_⟩
   cases e
   exact ⟨o,I.kIn _ o hk,hd⟩
  ·have z: ∃ o,s.heap.get? p = some o /\ o.ExactDict:=by
    rcases hk with ⟨kvs,hk⟩ | ⟨kvs,hk⟩
    ·obtain ⟨_,_,_,_,o,_,_,e,ex,_⟩:=I.hok p _ hk
     exact ⟨o,e,ex⟩
    ·obtain ⟨_,_,_,_,o,_,_,e,ex,_⟩:=I.hok p _ hk
     exact ⟨o,e,ex⟩
   obtain ⟨o,e,ex⟩:=z
   refine ⟨⟨o,e,ex.1⟩,fun a e2 => ?_⟩
   cases e2
   exact ⟨o,e,ex.2.1⟩
  ·obtain ⟨o,_,_,_,e,ex,_⟩:=I.hok p _ hk
   refine ⟨⟨o,e,ex.1⟩,fun a e2 => ?_⟩
   cases e2
   exact ⟨o,e,ex.2.1⟩
 | _ => exact False.elim ty
def tBM (K: PySem.W.Frag) (T: String) (r: V -> List V -> Hp -> VK -> Prop) (to: TE) (t: TA): TE:=fun σ H Q => to σ H fun x H1 => tyV K T x H1 /\ t σ H1 fun xs H2 => r x xs H2 Q
variable {o e: Expr} {es: List Expr} {to: TE} {t: TA} {name: Str} {apos cpos: Pos} {T id: String} {r: V -> List V -> Hp -> VK -> Prop}
theorem pe_bm (pa: PlainAttrs T) (slot: Slot T name id) (hty: typeOf (.builtin id) = pure (.type "method_descriptor")) (hm: MtR X id r) (ho: PE X o to) (ha: PA X (e :: es) t)
  (hbase: attributeBase o name X.env (eval o X.env) = eval o X.env:=by rfl)
  (hfew: ((backTo cpos (starEach (e :: es) X.env)).all (fun x => !x.1) && (backToKw cpos (keywordEach [] X.env)).all (fun x => x.1.isSome)
   && decide ((e :: es).length + ([]: List Keyword).length + (if ([]: List Keyword).isEmpty then 0 else 1) < 30)) = true:=by rfl)
  (hline: (apos.endLine == cpos.line) = true:=by rfl) (hs: starEach (e :: es) X.env = (false,eval e X.env) :: starEach es X.env:=by rfl) (hplain: (backTo cpos (starEach es X.env)).any (·.1) = false:=by rfl) :
  PE X (.Call (.Attribute o name apos) (e :: es) [] cpos) (tBM X.K T r to t):=by
 intro pins s σ H Q I h
 refine wpAny_Call_method_late hbase hfew hline rfl (thn (ho pins s σ H _ I h) fun v s1 ⟨x,H1,I1,r1,ty,q1⟩ => ?_)
 obtain ⟨h1,h2⟩:=tyV_is I1 r1 ty
 refine ⟨T,id,pa,slot,hty,h1,h2,?_⟩
 have hA:=ha cpos pins s1 σ H1 _ I1 q1
 rw [hs] at hA ⊢
 refine Calls.callWith_builtin (by show (false || (backTo cpos (starEach es X.env)).any (·.1)) = false; rw [hplain] <;> rfl) (Calls.evalArgs_plain ?_)
 exact thn hA fun us s2 ⟨vs,H2,I2,r2,q2⟩ => hm pins s2 σ H2 x vs v us Q I2 r1 r2 q2
end
end L2
namespace L2
open PySem PySem.Spec PyProof.Rows
def MtM (X: Cx) (id: String) (r: V -> List V -> Hp -> VK -> Prop): Prop :=
 ∀ (pins: List (Addr × Obj)) (s: Shared) (σ: St) (H: Hp) (x: V) (xs: List V) (v: Value) (us: List Value) (Q: VK),Inv X pins σ H s -> RelV x v -> Vals xs us -> r x xs H Q ->
  wpAny (model X.prog X.w) X.A (call (.builtin id) (v :: us)) (EP X pins σ Q) X.xe s
theorem Vals.one: ∀ {x: V} {us: List Value},Vals [x] us -> ∃ u,us = [u] /\ RelV x u
 | _,_,.cons r .nil => ⟨_,rfl,r⟩
theorem Vals.rep {xs: List V} {us: List Value} (h: Vals xs us): ∀ k: Nat,Vals (List.replicate k xs).flatten (List.replicate k us).flatten
 | 0 => .nil
 | k + 1 => by
  rw [List.replicate_succ,List.replicate_succ,List.flatten_cons,List.flatten_cons]
  exact Vals.append h (Vals.rep h k)
theorem foldl_rep (its: List Value): ∀ (k: Nat) (acc: List Value),
  List.foldl (fun x1 x2 => x1 ++ x2) acc.toArray (List.replicate k its.toArray) = (acc ++ (List.replicate k its).flatten).toArray
 | 0,acc => by simp
 | k + 1,acc => by
  have e: acc.toArray ++ its.toArray = (acc ++ its).toArray:=by simp
  have e2: (acc ++ its) ++ (List.replicate k its).flatten = acc ++ (List.replicate (k + 1) its).flatten:=by
   rw [List.replicate_succ,List.flatten_cons,List.append_assoc]
  rw [<- e2,<- foldl_rep its k (acc ++ its),<- e,List.replicate_succ,List.foldl_cons]
section
variable {X: Cx} {pins: List (Addr × Obj)} {σ: St} {H: Hp} {s: Shared} {l b: Addr} {xs ys zs: List V}
theorem Inv.lset {its its': List Value} {n: Nat} {f: Array Value -> Array Value} {t': Nat} (I: Inv X pins σ H s) (hH: H l = some (.lst xs))
  (e: s.heap.get? l = some { cls:=.type "list",data:=.seq its.toArray n }) (hf: f its.toArray = its'.toArray) (hv: Vals ys its') (hz: ys.length <= sizeLine) :
  Inv X pins σ (upd H l (.lst ys)) { s with heap:=s.heap.update l (Obj.mapSeq f),toks:=t' }:=by
 have q:=PySem.IsL.update e f
 rw [hf] at q
 refine I.write (x:=l) (e:=l) (by rw [hH]; exact trivial) (.inl rfl) (fun b' u hb hu => (Heap.get?_update_other s.heap (Obj.mapSeq f) (Ne.symm hb)).trans hu) ⟨_,q⟩ ?_
 exact ⟨hz,its',_,hv,q⟩
theorem Inv.lnew {its: List Value} {t': Nat} (I: Inv X pins σ H s) (hv: Vals ys its) (hz: ys.length <= sizeLine) :
  Inv X pins σ (upd H s.heap.objs.size (.lst ys)) { s with heap:=s.heap.push { cls:=.type "list",data:=.seq its.toArray },toks:=t' } :=
 I.laid (fun _ _ q => Heap.get?_push_of_some _ q) (Nat.le_refl _) ⟨hz,its,0,hv,Heap.get?_push_size _ rfl⟩
theorem Inv.fresh (I: Inv X pins σ H s): H s.heap.objs.size = none:=I.hok.fresh (Nat.le_refl _)
theorem Inv.lstM (I: Inv X pins σ H s) (hH: H l = some (.lst xs)): xs.length <= sizeLine /\ ∃ (its: List Value) (n: Nat),Vals xs its /\ xs.length = its.length /\ s.heap.get? l = some { cls:=.type "list",data:=.seq its.toArray n }:=by
 obtain ⟨z,its,n,r,e⟩:=I.hok l _ hH
 exact ⟨z,its,n,r,r.length,e⟩
theorem notLongL {n: Nat} (h: n <= sizeLine): Builtin.List.listTooLong n = false:=by
 unfold Builtin.List.listTooLong
 exact decide_eq_false (by omega)
end
section
variable {X: Cx}
def rAppend: V -> List V -> Hp -> VK -> Prop:=fun x vs H Q => ∃ l xs y,x = .ref l /\ vs = [y] /\ H l = some (.lst xs) /\ xs.length < sizeLine /\ Q .non (upd H l (.lst (xs ++ [y])))
theorem mt_append: MtM X "list.append" rAppend:=by
 intro pins s σ H x vs v us Q I rx rv h
 obtain ⟨l,xs,y,rfl,rfl,hH,hz,q⟩:=h
 cases rx
 obtain ⟨u,rfl,ru⟩:=rv.one
 obtain ⟨z,its,n,r,hl,e⟩:=I.lstM hH
 refine call_meets F.slot_list_append ⟨_,e,rfl⟩ F.entry_list_append (F.args_list_append_2 _ _) (PySem.list_append l its.toArray n u (by rw [List.size_toArray]; omega)) ⟨e,?_⟩
 refine ⟨.non,_,I.lset (its':=its ++ [u]) hH e (by simp) (r.append (.cons ru .nil)) ?_,rfl,q⟩
 rw [List.length_append,List.length_singleton]
 omega
def rExtend: V -> List V -> Hp -> VK -> Prop:=fun x vs H Q => ∃ l b xs zs,x = .ref l /\ vs = [.ref b] /\ H l = some (.lst xs) /\ H b = some (.lst zs) /\ xs.length + zs.length <= sizeLine /\ Q .non (upd H l (.lst (xs ++ zs)))
theorem mt_extend: MtM X "list.extend" rExtend:=by
 intro pins s σ H x vs v us Q I rx rv h
 obtain ⟨l,b,xs,zs,rfl,rfl,hH,hB,hz,q⟩:=h
 cases rx
 obtain ⟨u,rfl,ru⟩:=rv.one
 cases ru
 obtain ⟨z,its,n,r,hl,e⟩:=I.lstM hH
 obtain ⟨z2,its2,n2,r2,hl2,e2⟩:=I.lstM hB
 have hsz: its.toArray.size + its2.toArray.size <= sizeLine:=by rw [List.size_toArray,List.size_toArray]; omega
 have hlong: ¬ (!its.toArray.isEmpty && Builtin.List.listTooLong (its.toArray.size + its2.toArray.size)) = true:=by
  rw [notLongL hsz,Bool.and_false]
  exact Bool.false_ne_true
 refine call_meets F.slot_list_extend ⟨_,e,rfl⟩ F.entry_list_extend (F.args_list_extend_2 _ _)
  (AutoSeq1.list_extend_list_list_0 l its.toArray n b its2.toArray n2 hlong (by rw [List.size_toArray]; omega) (by omega)) ⟨e,e2,?_⟩
 refine ⟨.non,_,I.lset (its':=its ++ its2) hH e (by simp) (r.append r2) ?_,rfl,q⟩
 rw [List.length_append]
 omega
def rCat: R2:=fun x y H Q => ∃ l b xs zs,x = .ref l /\ y = .ref b /\ H l = some (.lst xs) /\ H b = some (.lst zs) /\ xs.length + zs.length <= sizeLine /\ ∀ p,H p = none -> Q (.ref p) (upd H p (.lst (xs ++ zs)))
theorem op_cat: OpR X (binaryOp .Add) rCat:=by
 intro pins s σ H x y v u Q I rx ry h
 obtain ⟨l,b,xs,zs,rfl,rfl,hH,hB,hz,q⟩:=h
 cases rx
 cases ry
 obtain ⟨z,its,n,r,hl,e⟩:=I.lstM hH
 obtain ⟨z2,its2,n2,r2,hl2,e2⟩:=I.lstM hB
 refine PySem.P.add_list e e2 ?_ (by rw [List.size_toArray,List.size_toArray]; omega)
 have ea: its.toArray ++ its2.toArray = (its ++ its2).toArray:=by simp
 rw [ea]
 exact ⟨.ref _,_,I.lnew (t':=s.toks) (r.append r2) (by rw [List.length_append]; omega),rfl,q _ I.fresh⟩
def rRep: R2:=fun x y H Q => ∃ l k xs,x = .ref l /\ y = .int k /\ H l = some (.lst xs) /\ -(2 ^ 63) <= k /\ k < 2 ^ 63 /\ xs.length * k.toNat <= sizeLine /\
 ∀ p,H p = none -> Q (.ref p) (upd H p (.lst (List.replicate k.toNat xs).flatten))
theorem len_rep {α: Type} (xs: List α) (k: Nat): (List.replicate k xs).flatten.length = k * xs.length:=by
 induction k with
 | zero => simp
 | succ k ih => rw [List.replicate_succ,List.flatten_cons,List.length_append,ih,Nat.succ_mul,Nat.add_comm]
theorem op_rep: OpR X (binaryOp .Mult) rRep:=by
 intro pins s σ H x y v u Q I rx ry h
 obtain ⟨l,k,xs,rfl,rfl,hH,h1,h2,hz,q⟩:=h
 cases rx
 obtain ⟨t,rfl⟩:=ry
 obtain ⟨z,its,n,r,hl,e⟩:=I.lstM hH
 have hlen: its.toArray.size * k.toNat <= sizeLine:=by rw [List.size_toArray,<- hl]; exact hz
 have hcap: ¬ its.toArray.size * k.toNat > (2 ^ 63 - 1) / 8:=by
  have: (sizeLine: Nat) <= (2 ^ 63 - 1) / 8:=by decide
  omega
 have hfit: ¬ (!Builtin.List.listFitsIndex k) = true:=by
  rw [fitsIndex_both h1 h2]
  exact Bool.false_ne_true
 have hlong: ¬ Builtin.List.listTooLong (its.toArray.size * k.toNat) = true:=by
  rw [notLongL hlen]
  exact Bool.false_ne_true
 have hnew: List.foldl (fun x1 x2 => x1 ++ x2) #[] (List.replicate (if its.toArray.isEmpty = true then 0 else k.toNat) its.toArray) = (List.replicate k.toNat its).flatten.toArray:=by
  have f0: ∀ m: Nat,List.foldl (fun x1 x2 => x1 ++ x2) #[] (List.replicate m its.toArray) = (List.replicate m its).flatten.toArray:=fun m => by
   have:=foldl_rep its m []
   rw [List.nil_append] at this
   exact this
  rw [f0]
  cases its with
  | nil => simp
  | cons a r' => rw [if_neg (by simp)]
 refine wpAny_binaryOp_repeat_ref (T:="list") (U:="int") (by decide) ⟨_,e,rfl⟩ (fun s' => typeIs_int s' k t) noFill_list_mul F.fills_int_mul F.slot_int_rmul repeat_list F.slot_int_index.lookup
  (call_meets F.slot_int_rmul (typeIs_int s k t) F.entry_int_rmul (F.args_int_rmul_2 _ _) (int___rmul___int_list k t l its.toArray n)
   ⟨e,rfl,⟨_,e,rfl⟩,call_meets F.slot_list_mul ⟨_,e,rfl⟩ F.entry_list_mul (F.args_list_mul_2 _ _) (AutoListH.list___mul___list_int_3 l its.toArray n k t hfit hcap hlong) ⟨e,?_⟩⟩)
 rw [hnew]
 exact ⟨.ref _,_,I.lnew (t':=s.toks) (r.rep k.toNat) (by rw [len_rep,Nat.mul_comm]; exact hz),rfl,q _ I.fresh⟩
end
section
variable {prog: Program} {w: World} {A: Around} {E: Value -> Shared -> Prop} {s: Shared}
set_option maxRecDepth 100000 in
end
section
variable {X: Cx}
end
end L2
namespace L2
open PySem PySem.Spec PyProof.Rows
theorem vals_of_ints: ∀ {us: List Value} {ns: List Int},IntsAre us ns -> Vals (ns.map V.int) us
 | _,_,.nil => by rw [List.map_nil]; exact Paired.nil
 | _,_,.cons n t h => by rw [List.map_cons]; exact Paired.cons (show RelV (V.int n) (Value.int n t) from ⟨t,rfl⟩) (vals_of_ints h)
theorem Vals.ref1 {a: Addr} {us: List Value} (r: Vals [V.ref a] us): us = [Value.ref a]:=by
 cases r with
 | cons r t =>
  cases t
  cases r
  rfl
theorem Vals.int2 {i j: Int} {us: List Value} (r: Vals [V.int i,V.int j] us): ∃ t u,us = [Value.int i t,Value.int j u]:=by
 cases r with
 | cons r t =>
  cases t with
  | cons r2 t2 =>
   cases t2
   obtain ⟨t,rfl⟩:=r
   obtain ⟨u,rfl⟩:=r2
   exact ⟨t,u,rfl⟩
section
variable {prog: Program} {w: World} {A: Around} {E: Value -> Shared -> Prop} {s: Shared} {l: Addr} {its: List Value} {ns: List Int} {Q: Value -> Shared -> Prop}
end
section
variable {X: Cx}
end
section
variable {X: Cx}
def rIndex (K: PySem.W.Frag): V -> List V -> Hp -> VK -> Prop:=fun x xs H Q => ∃ (a: Addr) (ys: List V) (y: V) (j: Nat) (z: V),x = V.ref a /\ xs = [y] /\ SqL K H a ys /\ flatV y = true /\ ys.all flatV = true /\ ys[j]? = some z /\ eqV z y = true /\
 (∀ (m: Nat) (z': V),m < j -> ys[m]? = some z' -> eqV z' y = false) /\ Q (.int (j: Nat)) H
theorem flat_at {ys: List V} (f: ys.all flatV = true) {j: Nat} {z: V} (h: ys[j]? = some z): flatV z = true:=List.all_eq_true.mp f z (List.mem_of_getElem? h)
theorem mt_index: MtR X "list.index" (rIndex X.K):=by
 intro pins s σ H x xs v us Q I rx rxs h
 obtain ⟨a,ys,y,j,z,rfl,rfl,hs,fy,fys,hz,hzj,hno,q⟩:=h
 cases rx
 cases rxs with
 | cons ry rt =>
  rename_i uy ut
  cases rt
  obtain ⟨its,rv,⟨⟨cls,dd,data,sl⟩,n,ho,hc,hdn,hd⟩,hlen⟩:=I.list hs
  simp only at hc hd
  subst hc hd
  obtain ⟨u,hu,ru⟩:=rv.get hz
  obtain ⟨hjl,hje⟩:=List.getElem?_eq_some_iff.mp hu
  have hvl:=rv.length
  have hj: j < its.toArray.size:=by simpa using hjl
  have hsl:=sizeLine_eq
  refine call_meets PySem.F.slot_list_index ⟨_,ho,rfl⟩ PySem.F.entry_list_index (PySem.F.args_list_index_2 _ _)
   (SeqAt.list_indexAt a its.toArray n dd sl uy (eqU y) j hj (by omega) ?_ ?_) ⟨ho,fun u' hu' => mem_eqAt ry fy rv fys u' (by simpa using hu'),?_⟩
  ·have e1: its.toArray[j] = u:=by simpa using hje
   rw [e1,eqU_of ru (flat_at fys hz)]
   exact hzj
  ·intro m hm hmj
   have hml: m < its.length:=by simpa using hm
   have hmy: m < ys.length:=by omega
   have hy': ys[m]? = some ys[m]:=List.getElem?_eq_getElem hmy
   obtain ⟨u2,hu2,ru2⟩:=rv.get hy'
   obtain ⟨_,hme⟩:=List.getElem?_eq_some_iff.mp hu2
   have e1: its.toArray[m] = u2:=by simpa using hme
   rw [e1,eqU_of ru2 (flat_at fys hy')]
   exact hno m _ hmj hy'
  ·exact ⟨.int (j: Nat),H,I.tok _,⟨_,rfl⟩,q⟩
end
section
variable {X: Cx}
end
section
variable {X: Cx}
end
section
variable {X: Cx} {pins: List (Addr × Obj)} {σ: St} {H: Hp} {s: Shared}
end
section
variable {X: Cx}
end
end L2
namespace L2
open PySem PySem.Spec PyProof.Rows
abbrev CellAt (h: Heap) (c: Addr) (v: Option Value): Prop:=h.IsCell c v
def relS (scope sc: Scope): Scope :=
 { scope with names:=scope.names.map fun (n,k) => if (k == .free && sc.kind == .function && sc.names.lookup n == some .cell) then (n,.cell) else (n,k) }
def cloFrom (cells: List (Str × Addr)): List (Str × NameKind) -> List (Str × Addr) -> List (Str × Addr)
 | [],acc => acc
 | (n,k) :: r,acc => if k == .free then cloFrom cells r ((n,(cells.lookup n).getD 0) :: acc) else cloFrom cells r acc
theorem closure_loop (env: Env) (f: Str × NameKind -> List (Str × Addr) -> Sem (ForInStep (List (Str × Addr))))
  (hf: ∀ n k c,f (n,k) c = if k == .free then (do let a <- cellOf env n; pure (.yield ((n,a) :: c))) else pure (.yield c)) :
  ∀ (names: List (Str × NameKind)) (acc: List (Str × Addr)),(∀ y ∈ names,y.2 = .free -> ∃ c,env.cells.lookup y.1 = some c) -> forIn names acc f = pure (cloFrom env.cells names acc)
 | [],acc,_ => by rw [List.forIn_nil]; rfl
 | (n,k) :: r,acc,h => by
  rw [List.forIn_cons,hf]
  have ih:=fun acc => closure_loop env f hf r acc fun y hy => h y (List.mem_cons_of_mem _ hy)
  unfold cloFrom
  by_cases hk: (k == NameKind.free) = true
  ·rw [if_pos hk,if_pos hk]
   obtain ⟨c,hc⟩:=h (n,k) List.mem_cons_self (by simpa using hk)
   have e: cellOf env n = pure c:=by unfold cellOf; rw [hc]
   rw [e]
   have e2: (env.cells.lookup n).getD 0 = c:=by rw [hc]; rfl
   rw [e2]
   exact ih _
  ·rw [if_neg hk,if_neg hk]
   exact ih _
theorem closure_ok {scope: Scope} {env: Env} (h: ∀ y ∈ scope.names,y.2 = .free -> ∃ c,env.cells.lookup y.1 = some c): closureFor scope env = pure (cloFrom env.cells scope.names []):=by
 simp only [closureFor]
 rw [closure_loop env _ (fun n k c => rfl) scope.names [] h]
 rfl
theorem mem_lookup {α: Type}: ∀ {l: List (Str × α)} {n: Str} {c: α},(n,c) ∈ l -> ∃ c',l.lookup n = some c'
 | (k,v) :: r,n,c,h => by
  rw [List.lookup_cons]
  cases hb: n == k with
  | true => exact ⟨_,rfl⟩
  | false =>
   rcases List.mem_cons.mp h with e | h
   ·cases e; simp at hb
   ·exact mem_lookup h
theorem cloFrom_mem {cells: List (Str × Addr)}: ∀ {names: List (Str × NameKind)} {acc: List (Str × Addr)} {n: Str} {c: Addr},(n,c) ∈ cloFrom cells names acc -> (n,c) ∈ acc \/ ((n,.free) ∈ names /\ c = (cells.lookup n).getD 0)
 | [],_,_,_,h => .inl h
 | (m,k) :: r,acc,n,c,h => by
  unfold cloFrom at h
  split at h
  ·rename_i hk
   have hk: k = .free:=by simpa using hk
   rcases cloFrom_mem h with h | ⟨h1,h2⟩
   ·rcases List.mem_cons.mp h with e | h
    ·cases e; exact .inr ⟨hk ▸ List.mem_cons_self,rfl⟩
    ·exact .inl h
   ·exact .inr ⟨List.mem_cons_of_mem _ h1,h2⟩
  ·rcases cloFrom_mem h with h | ⟨h1,h2⟩
   ·exact .inl h
   ·exact .inr ⟨List.mem_cons_of_mem _ h1,h2⟩
theorem cloFrom_acc {cells: List (Str × Addr)}: ∀ {names: List (Str × NameKind)} {acc: List (Str × Addr)} {p: Str × Addr},p ∈ acc -> p ∈ cloFrom cells names acc
 | [],_,_,h => h
 | (m,k) :: r,acc,p,h => by
  unfold cloFrom
  split
  ·exact cloFrom_acc (List.mem_cons_of_mem _ h)
  ·exact cloFrom_acc h
theorem cloFrom_has {cells: List (Str × Addr)}: ∀ {names: List (Str × NameKind)} {acc: List (Str × Addr)} {n: Str},(n,.free) ∈ names -> (n,(cells.lookup n).getD 0) ∈ cloFrom cells names acc
 | (m,k) :: r,acc,n,h => by
  unfold cloFrom
  rcases List.mem_cons.mp h with e | h
  ·cases e
   exact cloFrom_acc List.mem_cons_self
  ·split
   ·exact cloFrom_has h
   ·exact cloFrom_has h
theorem cells_mem: ∀ {names: List (Str × NameKind)} {h: Heap} {acc: List (Str × Addr)} {x: Str} {c: Addr},(x,c) ∈ cellsFrom h.objs.size names acc ->
  (x,c) ∈ acc \/ ((x,.cell) ∈ names /\ h.objs.size <= c /\ CellAt (pushCells h names) c none)
 | [],_,_,_,_,h => .inl h
 | (n,k) :: r,h,acc,x,c,hm => by
  unfold cellsFrom at hm
  unfold pushCells
  split at hm
  ·rename_i hk
   rw [if_pos hk]
   have hk: k = .cell:=by simpa using hk
   rw [<- Heap.size_push h { cls:=.type "cell",data:=.cell none }] at hm
   rcases cells_mem hm with hm | ⟨h1,h2,h3⟩
   ·rcases List.mem_cons.mp hm with e | hm
    ·cases e
     exact .inr ⟨hk ▸ List.mem_cons_self,Nat.le_refl _,_,pushCells_keeps r _ _ _ (Heap.get?_push_size _ rfl),rfl⟩
    ·exact .inl hm
   ·rw [Heap.size_push] at h2
    exact .inr ⟨List.mem_cons_of_mem _ h1,Nat.le_of_succ_le h2,h3⟩
  ·rename_i hk
   rw [if_neg hk]
   rcases cells_mem hm with hm | ⟨h1,h2,h3⟩
   ·exact .inl hm
   ·exact .inr ⟨List.mem_cons_of_mem _ h1,h2,h3⟩
theorem cells_acc: ∀ {names: List (Str × NameKind)} {n: Nat} {acc: List (Str × Addr)} {p: Str × Addr},p ∈ acc -> p ∈ cellsFrom n names acc
 | [],_,_,_,h => h
 | (m,k) :: r,n,acc,p,h => by
  unfold cellsFrom
  split
  ·exact cells_acc (List.mem_cons_of_mem _ h)
  ·exact cells_acc h
theorem cells_has: ∀ {names: List (Str × NameKind)} {n: Nat} {acc: List (Str × Addr)} {x: Str},(x,.cell) ∈ names -> ∃ c,(x,c) ∈ cellsFrom n names acc
 | (m,k) :: r,n,acc,x,h => by
  unfold cellsFrom
  rcases List.mem_cons.mp h with e | h
  ·cases e
   exact ⟨n,cells_acc List.mem_cons_self⟩
  ·split
   ·exact cells_has h
   ·exact cells_has h
theorem cells_inj: ∀ {names: List (Str × NameKind)} {h: Heap} {acc: List (Str × Addr)} {x y: Str} {c: Addr},(∀ p ∈ acc,p.2 < h.objs.size) -> (∀ x y c,(x,c) ∈ acc -> (y,c) ∈ acc -> x = y) ->
  (x,c) ∈ cellsFrom h.objs.size names acc -> (y,c) ∈ cellsFrom h.objs.size names acc -> x = y
 | [],_,_,_,_,_,_,hi,h1,h2 => hi _ _ _ h1 h2
 | (n,k) :: r,h,acc,x,y,c,hl,hi,h1,h2 => by
  unfold cellsFrom at h1 h2
  split at h1
  ·rename_i hk
   rw [if_pos hk] at h2
   rw [<- Heap.size_push h { cls:=.type "cell",data:=.cell none }] at h1 h2
   refine cells_inj (h:=h.push _) (fun p hp => ?_) (fun x y c a b => ?_) h1 h2
   ·rw [Heap.size_push]
    rcases List.mem_cons.mp hp with rfl | hp
    ·exact Nat.lt_succ_self _
    ·exact Nat.lt_succ_of_lt (hl p hp)
   ·rcases List.mem_cons.mp a with e | a <;> rcases List.mem_cons.mp b with e' | b
    ·cases e; cases e'; rfl
    ·cases e; exact absurd (hl _ b) (Nat.lt_irrefl _)
    ·cases e'; exact absurd (hl _ a) (Nat.lt_irrefl _)
    ·exact hi _ _ _ a b
  ·rename_i hk
   rw [if_neg hk] at h2
   exact cells_inj hl hi h1 h2
theorem newEnv_comp {M: Model} {A: Around} {E: Value -> Shared -> Prop} {s: Shared} {scope: Scope} {globals: Addr} {closure: List (Str × Addr)} {qual: Str} {func: Option Addr} {code: Value} {around: Env} {builtins: Addr} {Q: Env -> Shared -> Prop}
  (h: Q (newEnv scope s.heap.objs.size globals (cellsFrom (s.heap.objs.size + 1) scope.names closure) qual func code (some around) builtins)
   { s with heap:=pushCells (s.heap.push { cls:=.type "dict",data:=.dict #[] }) scope.names }) :
  wpAny M A (newFunctionEnv scope globals closure [] qual func code (some around) builtins) Q E s:=by
 simp only [newFunctionEnv,Option.isSome_some,if_true]
 refine wpAny_bind (wpAny_alloc ?_)
 refine wpAny_bind (wpAny_layCells _ (fun n k c => rfl) scope.names closure _ _ ?_)
 rw [show ({ s with heap:=s.heap.push { cls:=.type "dict",data:=.dict #[] } }: Shared).heap.objs.size = s.heap.objs.size + 1 from Heap.size_push ..]
 rw [List.forIn_nil]
 exact wpAny_bind (wpAny_pure (wpAny_pure h))
theorem lookup_relS {sc: Scope}: ∀ {names: List (Str × NameKind)} {x: Str} {k: NameKind},
  (names.map fun (n,k) => if (k == NameKind.free && sc.kind == .function && sc.names.lookup n == some .cell) then (n,NameKind.cell) else (n,k)).lookup x = some k ->
  ∃ k',names.lookup x = some k' /\ (k = k' \/ (k' = .free /\ k = .cell))
 | [],_,_,h => by simp at h
 | (n,k₀) :: r,x,k,h => by
  have ih:=@lookup_relS sc r x k
  have h': List.lookup x ((if (k₀ == NameKind.free && sc.kind == .function && sc.names.lookup n == some .cell) = true then (n,NameKind.cell) else (n,k₀)) :: (r.map _)) = some k:=h
  cases hx: x == n with
  | true =>
   simp only [List.lookup_cons,hx]
   by_cases hc: (k₀ == NameKind.free && sc.kind == .function && sc.names.lookup n == some .cell) = true
   ·rw [if_pos hc] at h'
    simp only [List.lookup_cons,hx] at h'
    cases h'
    simp only [Bool.and_eq_true,beq_iff_eq] at hc
    exact ⟨k₀,rfl,.inr ⟨hc.1.1,rfl⟩⟩
   ·rw [if_neg hc] at h'
    simp only [List.lookup_cons,hx] at h'
    cases h'
    exact ⟨_,rfl,.inl rfl⟩
  | false =>
   simp only [List.lookup_cons,hx]
   by_cases hc: (k₀ == NameKind.free && sc.kind == .function && sc.names.lookup n == some .cell) = true
   ·rw [if_pos hc] at h'
    simp only [List.lookup_cons,hx] at h'
    exact ih h'
   ·rw [if_neg hc] at h'
    simp only [List.lookup_cons,hx] at h'
    exact ih h'
structure BlkOk (N: List Str) (sc scope: Scope) (own: List (Str × Nat)): Prop where
 kind: scope.kind = .function
 uniq: ∀ y ∈ scope.names,scope.names.lookup y.1 = some y.2
 ix: ∀ p ∈ own,N[p.2]? = some p.1
 free: ∀ y ∈ scope.names,y.2 = .free -> sc.names.lookup y.1 = some .cell \/ sc.names.lookup y.1 = some .free
 own: ∀ y ∈ scope.names,y.2 = .local \/ y.2 = .cell -> y.1 ∈ own.map (·.1) \/ y.1 ∉ N
def wipe (σ: St): List Nat -> St
 | [] => σ
 | v :: vs => (wipe σ vs).set v none
theorem wipe_length (σ: St): ∀ vs: List Nat,(wipe σ vs).length = σ.length
 | [] => rfl
 | v :: vs => by unfold wipe; rw [List.length_set,wipe_length σ vs]
theorem wipe_some {σ: St} {i: Nat} {x: V}: ∀ {vs: List Nat},(wipe σ vs)[i]? = some (some x) -> σ[i]? = some (some x) /\ i ∉ vs
 | [],h => ⟨h,by simp⟩
 | v :: vs,h => by
  unfold wipe at h
  by_cases hi: v = i
  ·subst hi
   by_cases hv: v < (wipe σ vs).length
   ·rw [List.getElem?_set_self hv] at h; cases h
   ·rw [List.getElem?_eq_none (by simpa using hv)] at h; cases h
  ·rw [List.getElem?_set_ne hi] at h
   obtain ⟨h1,h2⟩:=wipe_some h
   exact ⟨h1,by simp only [List.mem_cons,not_or]; exact ⟨fun e => hi e.symm,h2⟩⟩
abbrev Cx.blk (X: Cx) (s: Shared) (H: Hp) (scope: Scope) (cenv: Env) (fp: List Addr): Cx:={ X with s_0:=s,H_0:=H,env:=cenv,outer:=X.stack,ex:=fp,fn:=fun x => scope.names.lookup x == some .cell,pn:=[],xe:=fun _ _ => False }
section
variable {X: Cx} {pins: List (Addr × Obj)} {σ: St} {H: Hp} {s: Shared}
theorem block_start {scope: Scope} {own: List (Str × Nat)} {fp: List Addr} (I: Inv X pins σ H s) (ok: BlkOk X.N X.env.scope scope own) (hN: X.N.Nodup) (hfp: ∀ b ∈ fp,FpOk X pins H b /\ b < s.heap.objs.size) :
  Inv (X.blk s H scope (compEnvC scope (cellsFrom (s.heap.objs.size + 1) scope.names (cloFrom X.env.cells scope.names [])) s.heap.objs.size X.env) fp) [] (wipe σ (own.map (·.2))) H { s with heap:=pushCells (s.heap.push { cls:=.type "dict",data:=.dict #[] }) scope.names }:=by
 have hfree: ∀ y ∈ scope.names,y.2 = .free -> ∃ c,X.env.cells.lookup y.1 = some c:=fun y hy e => by
  rcases ok.free y hy e with k | k
  ·exact I.ok.has _ (.inl k)
  ·exact I.ok.has _ (.inr k)
 generalize hcenv: compEnvC scope (cellsFrom (s.heap.objs.size + 1) scope.names (cloFrom X.env.cells scope.names [])) s.heap.objs.size X.env = cenv
 have kp: ∀ b o,s.heap.get? b = some o -> (pushCells (s.heap.push { cls:=.type "dict",data:=.dict #[] }) scope.names).get? b = some o:=fun b o e => pushCells_keeps _ _ _ _ (Heap.get?_push_of_some _ e)
 have hL: cenv.locals = s.heap.objs.size:=by rw [<- hcenv]; rfl
 have hcl: cenv.cells = cellsFrom (s.heap.objs.size + 1) scope.names (cloFrom X.env.cells scope.names []):=by rw [<- hcenv]; rfl
 have hsc: cenv.scope = relS scope X.env.scope:=by rw [<- hcenv]; rfl
 rw [<- Heap.size_push s.heap { cls:=.type "dict",data:=.dict #[] }] at hcl
 have cm: ∀ {y c},(y,c) ∈ cloFrom X.env.cells scope.names [] -> X.env.cells.lookup y = some c /\ c < s.heap.objs.size:=fun {y c} hm => by
  rcases cloFrom_mem hm with hm | ⟨h1,rfl⟩
  ·cases hm
  ·obtain ⟨c,hc⟩:=hfree _ h1 rfl
   rw [hc]
   obtain ⟨w,z⟩:=I.cell _ _ hc
   exact ⟨rfl,z.lt⟩
 have mem: ∀ {y c},cenv.cells.lookup y = some c -> (X.env.cells.lookup y = some c /\ c < s.heap.objs.size) \/ (s.heap.objs.size + 1 <= c /\ CellAt (pushCells (s.heap.push { cls:=.type "dict",data:=.dict #[] }) scope.names) c none):=fun {y c} e => by
  rw [hcl] at e
  rcases cells_mem (PySem.mem_of_lookup e) with hm | ⟨_,h2,h3⟩
  ·exact .inl (cm hm)
  ·rw [Heap.size_push] at h2; exact .inr ⟨h2,h3⟩
 have look: ∀ {y},scope.names.lookup y = some .free -> ∃ c,cenv.cells.lookup y = some c /\ X.env.cells.lookup y = some c:=fun {y} hl => by
  have hy: (y,NameKind.free) ∈ scope.names:=PySem.mem_of_lookup hl
  obtain ⟨c',e'⟩:=mem_lookup (cells_acc (names:=scope.names) (n:=(s.heap.push { cls:=.type "dict",data:=.dict #[] }).objs.size) (cloFrom_has (cells:=X.env.cells) (acc:=[]) hy))
  rw [<- hcl] at e'
  refine ⟨c',e',?_⟩
  rw [hcl] at e'
  rcases cells_mem (PySem.mem_of_lookup e') with hm | ⟨h1,_,_⟩
  ·exact (cm hm).1
  ·have:=ok.uniq _ h1
   rw [hl] at this; cases this
 have okB: (X.blk s H scope cenv fp).Ok:=by
  refine ⟨I.ok.mod,by show cenv.scope.kind = _; rw [hsc]; exact ok.kind,by show cenv.globals = _; rw [<- hcenv]; exact I.ok.glob,by show cenv.builtins = _; rw [<- hcenv]; exact I.ok.blt,by show s.heap.objs.size <= cenv.locals; rw [hL]; exact Nat.le_refl _,
   fun y z c e1 e2 => ?_,fun y hy => ?_,fun y c z e => ?_,I.ok.hd,I.ok.frames,.inl rfl,fun b hb => ⟨?_,fun y c e z => ?_⟩,I.bs,Nat.le_trans I.ok.bsz I.sz,fun b o e hb => ?_,fun b hb z => ?_,I.stack,I.stkFree⟩
  ·have e1: cenv.cells.lookup y = some c:=e1
   have e2: cenv.cells.lookup z = some c:=e2
   rw [hcl] at e1 e2
   refine cells_inj (fun p hp => ?_) (fun y z c a b => I.ok.inj y z c (cm a).1 (cm b).1) (PySem.mem_of_lookup e1) (PySem.mem_of_lookup e2)
   rw [Heap.size_push]
   exact Nat.lt_succ_of_lt (cm (y:=p.1) (c:=p.2) hp).2
  ·show ∃ c,cenv.cells.lookup y = some c
   have key: ∀ k,cenv.kindOf y = some k -> (k = .cell \/ k = .free) -> ∃ c,cenv.cells.lookup y = some c:=fun k hk hk' => by
    unfold Env.kindOf at hk
    rw [hsc] at hk
    obtain ⟨k',e,r⟩:=lookup_relS hk
    have: k' = .cell \/ k' = .free:=by
     rcases r with rfl | ⟨rfl,_⟩
     ·exact hk'
     ·exact .inr rfl
    rcases this with rfl | rfl
    ·obtain ⟨c,hm⟩:=cells_has (n:=(s.heap.push { cls:=.type "dict",data:=.dict #[] }).objs.size) (acc:=cloFrom X.env.cells scope.names []) (PySem.mem_of_lookup e)
     obtain ⟨c',e'⟩:=mem_lookup hm
     exact ⟨c',by rw [hcl]; exact e'⟩
    ·obtain ⟨c,h1,_⟩:=look e
     exact ⟨c,h1⟩
   rcases hy with hy | hy
   ·exact key _ hy (.inl rfl)
   ·exact key _ hy (.inr rfl)
  ·have z: (scope.names.lookup y == some NameKind.cell) = true:=z
   have z: scope.names.lookup y = some .cell:=by simpa using z
   have e: cenv.cells.lookup y = some c:=e
   rw [hcl] at e
   rcases cells_mem (PySem.mem_of_lookup e) with hm | ⟨_,h2,_⟩
   ·rcases cloFrom_mem hm with hm | ⟨h1,_⟩
    ·cases hm
    ·have q:=ok.uniq _ h1
     rw [z] at q; cases q
   ·rw [Heap.size_push] at h2
    exact Nat.le_of_succ_le h2
  ·show b ≠ cenv.locals
   rw [hL]; exact Nat.ne_of_lt (hfp b hb).2
  ·have e: cenv.cells.lookup y = some c:=e
   rcases mem e with ⟨h1,_⟩ | ⟨h1,_⟩
   ·exact (hfp b hb).1.2.2.2.2.1 y c h1 z
   ·have h2: s.heap.objs.size + 1 <= b:=by rw [<- z]; exact h1
    exact absurd (Nat.lt_of_lt_of_le (hfp b hb).2 (Nat.le_of_succ_le h2)) (Nat.lt_irrefl _)
  ·rcases (hfp b hb).1.2.2.2.1 with z | z
   ·exact I.ok.noex b o e z
   ·exact absurd (Nat.lt_of_lt_of_le (Heap.lt_size e) (Nat.le_trans I.ok.bsz z)) (Nat.lt_irrefl _)
  ·rcases List.mem_cons.mp (I.stkSub b z) with z | z
   ·exact (hfp b hb).1.2.1 z
   ·exact (hfp b hb).1.2.2.1 z
 refine ⟨okB,rfl,I.bare,Un.kept kp,⟨fun _ => none,?_,fun i y av e1 e2 e3 => ?_⟩,fun y c e => ?_,?_,fun y c e => ?_,fun p hp => ?_,I.hok.kept kp,by rw [wipe_length]; exact I.len⟩
 ·show Heap.Ns _ cenv.locals _
  rw [hL]
  exact Heap.Ns.keeps (Heap.Ns.new ..) fun b o e => pushCells_keeps _ _ _ _ e
 ·obtain ⟨e2,hne⟩:=wipe_some e2
  have hfr: scope.names.lookup y = some .free /\ (cenv.kindOf y = some .cell \/ cenv.kindOf y = some .free):=by
   have key: ∀ k,cenv.scope.names.lookup y = some k -> k = .local \/ k = .cell \/ k = .free -> scope.names.lookup y = some .free /\ (cenv.kindOf y = some .cell \/ cenv.kindOf y = some .free):=fun k hk hk' => by
    have hk0:=hk
    rw [hsc] at hk
    obtain ⟨k',e,r⟩:=lookup_relS hk
    have no: ¬ (k' = .local \/ k' = .cell):=fun hh => by
     rcases ok.own _ (PySem.mem_of_lookup e) hh with e' | e'
     ·obtain ⟨p,hp,hpy⟩:=List.mem_map.mp e'
      have e3:=ok.ix p hp
      have: p.1 = y:=hpy
      rw [this] at e3
      exact hne (List.mem_map.mpr ⟨p,hp,nodup_ix hN e3 e1⟩)
     ·exact e' (List.mem_of_getElem? e1)
    rcases r with rfl | ⟨rfl,rfl⟩
    ·rcases hk' with rfl | rfl | rfl
     ·exact absurd (.inl rfl) no
     ·exact absurd (.inr rfl) no
     ·exact ⟨e,.inr hk0⟩
    ·exact ⟨e,.inl hk0⟩
   have e3: Vis cenv.scope y:=e3
   rcases e3 with e3 | e3 | e3
   ·exact key _ e3 (.inl rfl)
   ·exact key _ e3 (.inr (.inl rfl))
   ·exact key _ e3 (.inr (.inr rfl))
  obtain ⟨m,hn,hl⟩:=I.loc
  have hvis: Vis X.env.scope y:=(ok.free _ (PySem.mem_of_lookup hfr.1) rfl).elim (fun k => .inr (.inl k)) (fun k => .inr (.inr k))
  obtain ⟨w,r,q⟩:=hl i y av e1 e2 hvis
  refine ⟨w,r,.inr ⟨hfr.2,?_⟩⟩
  obtain ⟨c,h1,h2⟩:=look hfr.1
  rcases q with ⟨k,_⟩ | ⟨_,c',e',z⟩
  ·have k: X.env.scope.names.lookup y = some .local:=k
   rcases ok.free _ (PySem.mem_of_lookup hfr.1) rfl with k' | k' <;> rw [show X.env.scope.names.lookup y = _ from k'] at k <;> cases k
  ·rw [h2] at e'; cases e'
   exact ⟨c,h1,z.keeps kp⟩
 ·have e: cenv.cells.lookup y = some c:=e
  rcases mem e with ⟨h1,_⟩ | ⟨_,z⟩
  ·obtain ⟨w,z⟩:=I.cell y c h1
   exact ⟨w,z.keeps kp⟩
  ·exact ⟨_,z⟩
 ·show H cenv.locals = none
  rw [hL]; exact I.hok.fresh (Nat.le_refl _)
 ·have e: cenv.cells.lookup y = some c:=e
  rcases mem e with ⟨h1,_⟩ | ⟨h1,_⟩
  ·exact I.freeC y c h1
  ·exact I.hok.fresh (Nat.le_of_succ_le h1)
 ·exact absurd (show p ∈ ([]: List (Addr × Obj)) ++ [] from hp) (by simp)
theorem app_ok {E: Value -> Shared -> Prop} {D: Addr} {xs: List V} {y: V} {v: Value} {Q: Value -> Shared -> Prop} (I: Inv X pins σ H s) (hD: H D = some (.lst xs)) (hz: xs.length < sizeLine) (r: RelV y v)
  (h: ∀ s',Inv X pins σ (upd H D (.lst (xs ++ [y]))) s' -> Q .none s'): wpAny (model X.prog X.w) X.A (call (.builtin "list.append") [.ref D,v]) Q E s:=by
 obtain ⟨hz',its,n,ri,e⟩:=I.hok D _ hD
 have hl:=ri.length
 refine append_at (hsz:=by rw [List.size_toArray]; omega) e fun h' sb ho' => ?_
 refine h { s with heap:=h' } (I.write (t':=s.toks) (by rw [hD]; trivial) (.inl rfl) (fun b u hb q => (sb.2 b hb).trans q) ⟨_,ho'⟩ ⟨by rw [List.length_append]; exact hz,its ++ [v],n + 1,ri.append (.cons r .nil),?_⟩)
 rw [ho']
 simp
def PTs (X: Cx) (ifs: List Expr) (t: TT): Prop :=
 ∀ (pins: List (Addr × Obj)) (s: Shared) (σ: St) (H: Hp) (Q: Bool -> Hp -> Prop),Inv X pins σ H s -> t σ H Q ->
  wpAny (model X.prog X.w) X.A (forIn ifs true fun c r => if r = true then do let ok <- isTrue c X.env (eval c X.env); pure (ForInStep.yield ok) else pure (ForInStep.yield r)) (TP X pins σ Q) X.xe s
def tYes: TT:=fun _ H Q => Q true H
theorem pts_nil: PTs X [] tYes:=fun _ _ _ H _ I h => wpAny_tests_nil ⟨H,I,h⟩
end
theorem thnF {α: Type} {t: Sem α} {Q Q': α -> Shared -> Prop} {M: Model} {A: Around} {E: Value -> Shared -> Prop} {s: Shared} (h: wpAny M A t Q (fun _ _ => False) s) (hQ: ∀ a s,Q a s -> Q' a s): wpAny M A t Q' E s:=wpAny_mono h hQ fun _ _ z => False.elim z
theorem compLoop_any {prog: Program} {w: World} {A: Around} {R: Result -> Shared -> Prop} {s: Shared} {elt target iter: Expr} {ifs: List Expr} {scope: Scope} {pos: Pos} {it acc: Value} {env: Env} (I: Nat -> Shared -> Prop)
  (turn: ∀ n s,I n s -> wpAny (model prog w) A (pyNext it) (fun r s₁ => match r with
   | none => R (.ok .next) s₁
   | some v => wpAny (model prog w) A (letOwnedTupleGo target it v) (fun _ s₁' => wpAny (model prog w) A (assign target env v) (fun _ s₂ =>
     wpAny (model prog w) A (forIn ifs true fun c r => if r = true then do let ok <- isTrue c env (eval c env); pure (ForInStep.yield ok) else pure (ForInStep.yield r)) (fun ok s₃ =>
      if ok = true then wpAny (model prog w) A (eval elt env) (fun x s₄ =>
       wpAny (model prog w) A (call (.builtin "list.append") [acc,x]) (fun _ s₅ => ∃ m,m < n /\ I m s₅) (notedBy (model prog w) A env fun e s' => R (.error e) s') s₄) (notedBy (model prog w) A env fun e s' => R (.error e) s') s₃
      else ∃ m,m < n /\ I m s₃) (notedBy (model prog w) A env fun e s' => R (.error e) s') s₂) (notedBy (model prog w) A env fun e s' => R (.error e) s') s₁') (notedBy (model prog w) A env fun e s' => R (.error e) s') s₁) (notedBy (model prog w) A env fun e s' => R (.error e) s') s)
  (n: Nat) (h: I n s) :
  codeAny (model prog w) A (.compLoop (.ListComp elt [⟨target,iter,ifs,0⟩] scope pos) 0 it acc env) R s:=by
 refine codeAny_loop rfl I (fun n s hI => ?_) n h
 show wpAny _ A ((compTurn (.ListComp elt [⟨target,iter,ifs,0⟩] scope pos) 0 it acc env).onRaise (fun x => do noteFrame x env; theTreesLotGoes x)) _ _ s
 refine wpAny_noted ?_
 rw [compTurn_list]
 refine wpAny_bind (wpAny_standAt (wpAny_bind (wpAny_mono (turn n s hI) (fun r s₁ h₁ => ?_) fun _ _ h' => h')))
 cases r with
 | none => exact wpAny_pure h₁
 | some v =>
  refine wpAny_bind (wpAny_mono h₁ (fun _ s₁' h₁' => ?_) fun _ _ h' => h')
  refine wpAny_bind (wpAny_mono h₁' (fun _ s₂ h₂ => wpAny_bind (wpAny_mono h₂ (fun ok s₃ h₃ => ?_) fun _ _ h' => h')) fun _ _ h' => h')
  cases ok with
  | false => exact wpAny_pure ⟨rfl,h₃⟩
  | true =>
   exact wpAny_bind (wpAny_bind (wpAny_mono h₃ (fun x s₄ h₄ => wpAny_bind (wpAny_mono h₄ (fun _ s₅ h₅ => wpAny_pure (wpAny_pure ⟨rfl,h₅⟩)) fun _ _ h' => h')) fun _ _ h' => h'))
section
variable {X: Cx}
def tLc (wi: TI) (g: TG) (tt: TT) (te: TE) (vs: List Nat): TE:=fun σ H Q => wi σ H fun J H1 => ∀ D,H1 D = none -> ∃ W: Nat -> Nat -> Hp -> Prop,(∃ m,W 0 m (upd H1 D (.lst []))) /\ ∀ i m H,W i m H ->
 (J.stop i H /\ Q (.ref D) H) \/ (J.go i H /\ ∃ Nx: Hp -> Prop,(∀ H',Nx H' -> ∃ m',m' < m /\ W (i + 1) m' H') /\ ∀ x H',J.yld i H x H' -> g x (wipe σ vs) H' fun σ2 H2 => wipe σ2 vs = wipe σ vs /\ tt σ2 H2 fun b H3 =>
  if b = true then te σ2 H3 fun y H4 => ∃ acc,H4 D = some (.lst acc) /\ acc.length < sizeLine /\ Nx (upd H4 D (.lst (acc ++ [y]))) else Nx H3)
theorem lc_core {pins: List (Addr × Obj)} {s: Shared} {σ: St} {H: Hp} {Q: VK} {elt tg iter: Expr} {ifs: List Expr} {scope: Scope} {own: List (Str × Nat)} {pos pos': Pos} {wi: TI} {g: TG} {tt: TT} {te: TE} {use: Option (Value -> Sem Unit)} {Qf: Value -> Shared -> Prop}
  (hc: X.calm = true) (hN: X.N.Nodup) (I: Inv X pins σ H s) (hi: PI X tg iter wi) (ok: BlkOk X.N X.env.scope scope own)
  (hg: ∀ (s: Shared) (H: Hp) (C: Addr) (cl: List (Str × Addr)) (fp: List Addr),PG (X.blk s H scope (compEnvC scope cl C X.env) fp) tg g) (ht: ∀ (s: Shared) (H: Hp) (C: Addr) (cl: List (Str × Addr)) (fp: List Addr),PTs (X.blk s H scope (compEnvC scope cl C X.env) fp) ifs tt)
  (he: ∀ (s: Shared) (H: Hp) (C: Addr) (cl: List (Str × Addr)) (fp: List Addr),PE (X.blk s H scope (compEnvC scope cl C X.env) fp) elt te) (hs: ∀ x,foldedSetIterable iter X.env x = pure x)
  (h: tLc wi g tt te (own.map (·.2)) σ H Q)
  (hRR: ∀ D C s' m H',Inv X pins σ H' s' -> Q (.ref D) H' -> s'.heap.Ns C m -> FpOk X pins H' C -> compPost (model X.prog X.w) X.A X.xe use Qf (.ref D) C (.ok .next) s') :
  wpAny (model X.prog X.w) X.A (comprehension (.ListComp elt [⟨tg,iter,ifs,0⟩] scope pos) scope X.env pos' (newList []) false (eval iter X.env) use) Qf X.xe s:=by
 have hfree: ∀ y ∈ scope.names,y.2 = .free -> ∃ c,X.env.cells.lookup y.1 = some c:=fun y hy e => by
  rcases ok.free y hy e with k | k
  ·exact I.ok.has _ (.inl k)
  ·exact I.ok.has _ (.inr k)
 refine wpAny_comprehension_free (use:=use) rfl hs (closure_ok hfree) ok.kind (fun y hy e => by rw [ok.uniq y hy,e])
  (thn (hi pins s σ H _ I h) fun xv s1 hx => thn hx fun itv s2 h2 => ?_)
 obtain ⟨it,fp,tn,J,H2,e,I2,T,st2,f2,q⟩:=h2
 subst e
 refine wpAny_newObj_type (newEnv_comp ?_) (by show 0 <= sizeLine; decide)
 generalize hD: s2.heap.objs.size = D
 have hDn: H2 D = none:=I2.hok.fresh (Nat.le_of_eq hD)
 obtain ⟨W,⟨m0,w0⟩,turn⟩:=q D hDn
 generalize hs3: ({ s2 with heap:=s2.heap.push { cls:=.type "list",data:=.seq ([]: List Value).toArray } }: Shared) = s3
 have I3: Inv X pins σ (upd H2 D (.lst [])) s3:=by
  rw [<- hs3]
  refine I2.laid (t':=s2.toks) (fun b o e => Heap.get?_push_of_some _ e) (Nat.le_of_eq hD) ⟨Nat.zero_le _,[],0,.nil,?_⟩
  rw [<- hD]
  exact Heap.get?_push_size _ rfl
 have h3: s3.heap = s2.heap.push { cls:=.type "list",data:=.seq ([]: List Value).toArray }:=by rw [<- hs3]
 have sz: ∀ b ∈ fp,b < s2.heap.objs.size:=fun b hb => by
  obtain ⟨o,e,_⟩:=T.obj _ _ st2 b hb
  exact Heap.lt_size e
 have f3: ∀ b ∈ fp,FpOk X pins (upd H2 D (.lst [])) b /\ b < s3.heap.objs.size:=fun b hb => by
  have hlt:=sz b hb
  refine ⟨⟨?_,(f2 b hb).2⟩,by rw [h3,Heap.size_push]; exact Nat.lt_succ_of_lt hlt⟩
  rw [upd_ne (by rw [<- hD]; exact Nat.ne_of_lt hlt)]
  exact (f2 b hb).1
 have st3: tn 0 s3.heap:=T.keep _ _ _ st2 fun b _ o e => by rw [h3]; exact Heap.get?_push_of_some _ e
 have I4:=block_start I3 ok hN f3
 have pg:=hg s3 (upd H2 D (.lst [])) s3.heap.objs.size (cellsFrom (s3.heap.objs.size + 1) scope.names (cloFrom X.env.cells scope.names [])) fp
 have pt:=ht s3 (upd H2 D (.lst [])) s3.heap.objs.size (cellsFrom (s3.heap.objs.size + 1) scope.names (cloFrom X.env.cells scope.names [])) fp
 have pe:=he s3 (upd H2 D (.lst [])) s3.heap.objs.size (cellsFrom (s3.heap.objs.size + 1) scope.names (cloFrom X.env.cells scope.names [])) fp
 show codeAny _ _ (.compStart (.ListComp elt [⟨tg,iter,ifs,0⟩] scope pos) 0 (.ref it) (.ref D) (compEnvC scope (cellsFrom (s3.heap.objs.size + 1) scope.names (cloFrom X.env.cells scope.names [])) s3.heap.objs.size X.env)) (compPost (model X.prog X.w) X.A X.xe use Qf (.ref D) s3.heap.objs.size) { s3 with heap:=pushCells (s3.heap.push { cls:=.type "dict",data:=.dict #[] }) scope.names }
 have nfp: ∀ b ∈ fp,(upd H2 D (.lst [])) b = none:=fun b hb => (f3 b hb).1.1
 generalize hce: compEnvC scope (cellsFrom (s3.heap.objs.size + 1) scope.names (cloFrom X.env.cells scope.names [])) s3.heap.objs.size X.env = ce at I4 pg pt pe ⊢
 have cL: ce.locals = s3.heap.objs.size:=by subst hce; rfl
 generalize hH3: upd H2 D (.lst []) = H3 at I3 I4 pg pt pe w0 nfp f3
 generalize hs4: ({ s3 with heap:=pushCells (s3.heap.push { cls:=.type "dict",data:=.dict #[] }) scope.names }: Shared) = s4 at I4 ⊢
 have st4: tn 0 s4.heap:=T.keep _ _ _ st3 fun b _ o e => by rw [<- hs4]; exact pushCells_keeps _ _ _ _ (Heap.get?_push_of_some _ e)
 have stat: ∀ {σ': St} {H': Hp} {s': Shared},Inv (X.blk s3 H3 scope ce fp) [] σ' H' s' -> (∀ b ∈ fp,H' b = none) -> ∀ b ∈ fp,FpOk (X.blk s3 H3 scope ce fp) [] H' b:=fun {σ' H' s'} I' hn b hb =>
  ⟨hn b hb,(I'.ok.exf b hb).1,I'.ok.exfs b hb,.inl hb,fun x c e => (I'.ok.exf b hb).2 x c e,fun p hp => absurd (show p ∈ ([]: List (Addr × Obj)) ++ [] from hp) (by simp)⟩
 have loop: codeAny (model X.prog X.w) X.A (.compLoop (.ListComp elt [⟨tg,iter,ifs,0⟩] scope pos) 0 (.ref it) (.ref D) ce) (compPost (model X.prog X.w) X.A X.xe use Qf (.ref D) s3.heap.objs.size) s4:=by
  refine compLoop_any (fun n s' => ∃ i H',Inv (X.blk s3 H3 scope ce fp) [] (wipe σ (own.map (·.2))) H' s' /\ tn i s'.heap /\ (∀ b ∈ fp,H' b = none) /\ W i n H') ?_ m0 ⟨0,H3,I4,st4,nfp,w0⟩
  rintro n s5 ⟨i,H5,I5,st5,n5,w5⟩
  rcases turn i n H5 w5 with ⟨stop,qq⟩ | ⟨go,Nx,hNx,step⟩
  ·have td:=T.done (X.blk s3 H3 scope ce fp) rfl rfl rfl hc i [] s5 _ H5 (fun _ _ => False) I5 (stat I5 n5) st5 stop
   refine thnF td fun r s6 ⟨hr,I6⟩ => ?_
   subst hr
   have I7: Inv X pins σ H5 s6:=I3.call' (ch:=fp) I6.os I6.base I6.hok I6.bare fun b hb => ⟨(f3 b hb).1.2.2.2.1,(f3 b hb).1.2.1,(f3 b hb).1.2.2.2.2.1,(f3 b hb).1.2.2.2.2.2⟩
   have nC: H5 s3.heap.objs.size = none:=by
    have z: H5 ce.locals = none:=I6.free
    rw [cL] at z
    exact z
   obtain ⟨m,hn,_⟩:=I6.loc
   have hn: s6.heap.Ns ce.locals m:=hn
   rw [cL] at hn
   exact hRR D s3.heap.objs.size s6 m H5 I7 qq hn (I3.fpOk (Nat.le_refl _) nC)
  ·have ti:=T.item (X.blk s3 H3 scope ce fp) rfl rfl rfl hc i [] s5 _ H5 (fun _ _ => False) I5 (stat I5 n5) st5 go
   refine thnF ti fun r s6 ⟨u,hr,h6⟩ => ?_
   subst hr
   refine thnF h6 fun _ s7 ⟨x,H7,I7,r7,y7,st7,n7⟩ => ?_
   have I7':=I7.pinned (stat I7 n7) (T.obj _ _ st7)
   refine thnF (pg _ s7 _ H7 x u _ I7' r7 (step x H7 y7)) fun _ s8 ⟨σ8,H8,I8,hw8,q8⟩ => ?_
   refine thnF (pt _ s8 σ8 H8 _ I8 q8) fun b s9 ⟨H9,I9,q9⟩ => ?_
   have fin: ∀ {s': Shared} {H': Hp},Inv (X.blk s3 H3 scope ce fp) ([] ++ pinsAt fp s7.heap) σ8 H' s' -> Nx H' -> ∃ m,m < n /\ ∃ i H',Inv (X.blk s3 H3 scope ce fp) [] (wipe σ (own.map (·.2))) H' s' /\ tn i s'.heap /\ (∀ b ∈ fp,H' b = none) /\ W i m H':=fun {s' H'} I' nx => by
    obtain ⟨m',hm,w'⟩:=hNx H' nx
    have pin': ∀ b ∈ fp,∀ o,s7.heap.get? b = some o -> s'.heap.get? b = some o /\ H' b = none:=fun b hb o e =>
     let z:=I'.pin (b,o) (List.mem_append_right _ (List.mem_append_right _ (mem_pinsAt hb e)))
     ⟨z.1,z.2.1⟩
    have hl: (wipe σ (own.map (·.2))).length = σ8.length:=by rw [<- hw8,wipe_length]
    refine ⟨m',hm,i + 1,H',(I'.unpinned (pins:=[])).weak hl (fun j v e => ?_),T.keep _ _ _ st7 fun b hb o e => (pin' b hb o e).1,fun b hb => ?_,w'⟩
    ·rw [<- hw8] at e
     exact (wipe_some e).1
    ·obtain ⟨o,e,_⟩:=T.obj _ _ st7 b hb
     exact (pin' b hb o e).2
   cases b with
   | false =>
    simp only [Bool.false_eq_true,if_false] at q9 ⊢
    exact fin I9 q9
   | true =>
    simp only [if_true] at q9 ⊢
    refine thnF (pe _ s9 σ8 H9 _ I9 q9) fun z s10 ⟨yv,H10,I10,r10,acc,hD10,hz10,nx⟩ => ?_
    exact app_ok (X:=X.blk s3 H3 scope ce fp) I10 hD10 hz10 r10 fun s11 I11 => fin I11 nx
 exact codeAny_compStart_list loop (T.self X.A 0 _ _ _ st4 loop)
theorem pe_lc {elt tg iter: Expr} {ifs: List Expr} {scope: Scope} {own: List (Str × Nat)} {pos: Pos} {wi: TI} {g: TG} {tt: TT} {te: TE} (hc: X.calm = true) (hN: X.N.Nodup) (hi: PI X tg iter wi) (ok: BlkOk X.N X.env.scope scope own)
  (hg: ∀ (s: Shared) (H: Hp) (C: Addr) (cl: List (Str × Addr)) (fp: List Addr),PG (X.blk s H scope (compEnvC scope cl C X.env) fp) tg g) (ht: ∀ (s: Shared) (H: Hp) (C: Addr) (cl: List (Str × Addr)) (fp: List Addr),PTs (X.blk s H scope (compEnvC scope cl C X.env) fp) ifs tt)
  (he: ∀ (s: Shared) (H: Hp) (C: Addr) (cl: List (Str × Addr)) (fp: List Addr),PE (X.blk s H scope (compEnvC scope cl C X.env) fp) elt te) (hs: ∀ x,foldedSetIterable iter X.env x = pure x:=by intro _; rfl) :
  PE X (.ListComp elt [⟨tg,iter,ifs,0⟩] scope pos) (tLc wi g tt te (own.map (·.2))):=by
 intro pins s σ H Q I h
 rw [eval_ListComp]
 refine lc_core hc hN I hi ok hg ht he hs h fun D C s' m H' I' q hn f => ⟨m,hn,fun h'' sb => ?_⟩
 obtain ⟨f0,f1,f2,f3,f4,f5⟩:=f
 exact ⟨.ref D,H',I'.turned (t':=s'.toks) (fun b o hb e => (sb.2 b hb).trans e) f0 f1 f3 f4 f5,rfl,q⟩
end
theorem lc_list {K: PySem.W.Frag} {a: Addr} {xs: List V} {g: TG} {tt: TT} {te: TE} {vs: List Nat} {σ: St} {H1: Hp} {D: Addr} {Qd: Hp -> Prop} (Pv: Nat -> Hp -> Prop) (h0: Pv 0 (upd H1 D (.lst []))) (hl: ∀ i H,i <= xs.length -> Pv i H -> SqL K H a xs)
  (hs: ∀ i x H,xs[i]? = some x -> Pv i H -> g x (wipe σ vs) H fun σ2 H2 => wipe σ2 vs = wipe σ vs /\ tt σ2 H2 fun b H3 =>
   if b = true then te σ2 H3 fun y H4 => ∃ acc,H4 D = some (.lst acc) /\ acc.length < sizeLine /\ Pv (i + 1) (upd H4 D (.lst (acc ++ [y]))) else Pv (i + 1) H3) (hd: ∀ H,Pv xs.length H -> Qd H) :
  ∃ W: Nat -> Nat -> Hp -> Prop,(∃ m,W 0 m (upd H1 D (.lst []))) /\ ∀ i m H,W i m H ->
   ((Itl K a).stop i H /\ Qd H) \/ ((Itl K a).go i H /\ ∃ Nx: Hp -> Prop,(∀ H',Nx H' -> ∃ m',m' < m /\ W (i + 1) m' H') /\ ∀ x H',(Itl K a).yld i H x H' -> g x (wipe σ vs) H' fun σ2 H2 => wipe σ2 vs = wipe σ vs /\ tt σ2 H2 fun b H3 =>
    if b = true then te σ2 H3 fun y H4 => ∃ acc,H4 D = some (.lst acc) /\ acc.length < sizeLine /\ Nx (upd H4 D (.lst (acc ++ [y]))) else Nx H3):=by
 refine ⟨fun i m H => m = xs.length - i /\ i <= xs.length /\ Pv i H,⟨xs.length,by simp,Nat.zero_le _,h0⟩,?_⟩
 rintro i m H ⟨rfl,hi,p⟩
 have q:=hl i H hi p
 by_cases hlt: i < xs.length
 ·refine .inr ⟨⟨xs,xs[i],q,by simp [hlt]⟩,Pv (i + 1),fun H' p' => ⟨xs.length - (i + 1),by omega,rfl,hlt,p'⟩,fun x H' y => ?_⟩
  obtain ⟨e,y⟩:=y
  subst e
  exact hs i x _ (y xs q) p
 ·have e: i = xs.length:=by omega
  subst e
  exact .inl ⟨⟨xs,q,Nat.le_refl _⟩,hd H p⟩
end L2
namespace L2
open PySem PySem.Spec PyProof.Rows
section
variable {prog: Program} {w: World} {A: Around} {R: Result -> Shared -> Prop} {s: Shared} {elt t0 i0 t1 i1: Expr} {ifs0 ifs1: List Expr} {scope: Scope} {pos: Pos} {it acc: Value} {env: Env}
end
section
variable {X: Cx}
end
end L2
namespace L2
open PySem PySem.Spec PyProof.Rows
section
variable {κ: Type} [DecidableEq κ]
def valV (kvs: List (κ × V)) (k: κ): Option V:=(kvs.find? fun kv => decide (kv.1 = k)).map (·.2)
def putK (kvs: List (κ × V)) (k: κ) (v: V): List (κ × V) :=
 if (kvs.any fun kv => decide (kv.1 = k)) = true then kvs.map (fun kv => if kv.1 = k then (kv.1,v) else kv) else kvs ++ [(k,v)]
def dropK (kvs: List (κ × V)) (k: κ): List (κ × V):=kvs.filter fun kv => decide (kv.1 ≠ k)
theorem valV_pos {p: κ × V} {r: List (κ × V)} {k: κ} (e: p.1 = k): valV (p :: r) k = some p.2:=by simp [valV,List.find?_cons,e]
theorem valV_neg {p: κ × V} {r: List (κ × V)} {k: κ} (e: ¬ p.1 = k): valV (p :: r) k = valV r k:=by simp [valV,List.find?_cons,e]
theorem valV_any (k: κ): ∀ kvs: List (κ × V),(kvs.any fun kv => decide (kv.1 = k)) = (valV kvs k).isSome
 | [] => rfl
 | p :: r => by
  rw [List.any_cons]
  by_cases e: p.1 = k
  ·simp only [valV_pos e,decide_eq_true e,Bool.true_or,Option.isSome_some]
  ·rw [valV_neg e,decide_eq_false e,Bool.false_or]; exact valV_any k r
theorem valV_map (k j: κ) (y: V): ∀ kvs: List (κ × V),valV (kvs.map fun kv => if kv.1 = k then (kv.1,y) else kv) j = (valV kvs j).map fun x => if j = k then y else x
 | [] => rfl
 | p :: r => by
  have ih:=valV_map k j y r
  rw [List.map_cons]
  by_cases h: p.1 = k
  ·rw [if_pos h]
   by_cases e: p.1 = j
   ·rw [valV_pos (p:=(p.1,y)) e,valV_pos e,Option.map_some,if_pos (e.symm.trans h)]
   ·rw [valV_neg (p:=(p.1,y)) e,valV_neg e,ih]
  ·rw [if_neg h]
   by_cases e: p.1 = j
   ·rw [valV_pos (p:=p) e,valV_pos e,Option.map_some,if_neg (fun z => h (e.trans z))]
   ·rw [valV_neg (p:=p) e,valV_neg e,ih]
theorem valV_snoc (k j: κ) (y: V): ∀ kvs: List (κ × V),valV kvs k = none -> valV (kvs ++ [(k,y)]) j = if j = k then some y else valV kvs j
 | [],_ => by
  by_cases e: k = j
  ·rw [if_pos e.symm]; exact valV_pos (p:=(k,y)) e
  ·rw [if_neg (fun z => e z.symm)]; exact valV_neg (p:=(k,y)) e
 | p :: r,hn => by
  rw [List.cons_append]
  have hk: ¬ p.1 = k:=fun z => by rw [valV_pos z] at hn; cases hn
  rw [valV_neg hk] at hn
  have ih:=valV_snoc k j y r hn
  by_cases e: p.1 = j
  ·rw [valV_pos e,valV_pos e,if_neg (fun z => hk (e.trans z))]
  ·rw [valV_neg e,valV_neg e,ih]
theorem valV_put (kvs: List (κ × V)) (k j: κ) (y: V): valV (putK kvs k y) j = if j = k then some y else valV kvs j:=by
 unfold putK
 by_cases a: (kvs.any fun kv => decide (kv.1 = k)) = true
 ·rw [if_pos a,valV_map]
  rw [valV_any] at a
  by_cases e: j = k
  ·obtain ⟨x,hx⟩:=Option.isSome_iff_exists.mp a
   rw [if_pos e,e,hx,Option.map_some,if_pos rfl]
  ·rw [if_neg e]
   cases valV kvs j with
   | none => rfl
   | some x => rw [Option.map_some,if_neg e]
 ·rw [if_neg a]
  refine valV_snoc k j y kvs ?_
  rw [valV_any] at a
  cases q: valV kvs k with
  | none => rfl
  | some x => rw [q] at a; exact (a rfl).elim
theorem length_putK (kvs: List (κ × V)) (k: κ) (v: V): (putK kvs k v).length <= kvs.length + 1:=by
 unfold putK
 split
 ·rw [List.length_map]; omega
 ·rw [List.length_append,List.length_cons,List.length_nil]; omega
theorem putK_new {kvs: List (κ × V)} {k: κ} (v: V) (h: valV kvs k = none): putK kvs k v = kvs ++ [(k,v)]:=by
 unfold putK
 rw [valV_any,h]
 exact if_neg (by decide)
theorem RelO.isSome_eq {o: Option V} {u: Option Value} (r: RelO o u): o.isSome = u.isSome:=by
 cases o with
 | none => cases u with
  | none => rfl
  | some _ => exact (show False from r).elim
 | some _ => cases u with
  | none => exact (show False from r).elim
  | some _ => rfl
theorem KV.val {kvs: List (κ × V)} {vs: List (κ × Value)} (r: KV kvs vs) (k: κ): RelO (valV kvs k) (valueAt vs k):=by
 unfold KV at r
 induction r with
 | nil => exact True.intro
 | @cons p q ps qs h t ih =>
  obtain ⟨h1,h2⟩:=h
  by_cases e: p.1 = k
  ·have e': q.1 = k:=h1.symm.trans e
   have b: valueAt (q :: qs) k = some q.2:=by simp [valueAt,List.find?_cons,e']
   rw [valV_pos e,b]; exact h2
  ·have e': ¬ q.1 = k:=fun z => e (h1.trans z)
   have b: valueAt (q :: qs) k = valueAt qs k:=by simp [valueAt,List.find?_cons,e']
   rw [valV_neg e,b]; exact ih
theorem KV.any {kvs: List (κ × V)} {vs: List (κ × Value)} (r: KV kvs vs) (k: κ): (kvs.any fun kv => decide (kv.1 = k)) = vs.any fun kv => decide (kv.1 = k):=by
 unfold KV at r
 induction r with
 | nil => rfl
 | cons h t ih => rw [List.any_cons,List.any_cons,ih,h.1]
theorem KV.repl {kvs: List (κ × V)} {vs: List (κ × Value)} (r: KV kvs vs) (k: κ) {y: V} {u: Value} (ry: RelV y u) :
  KV (kvs.map fun kv => if kv.1 = k then (kv.1,y) else kv) (vs.map fun kv => if kv.1 = k then (kv.1,u) else kv):=by
 unfold KV at r ⊢
 induction r with
 | nil => exact .nil
 | @cons p q ps qs h t ih =>
  rw [List.map_cons,List.map_cons]
  refine .cons ?_ ih
  obtain ⟨h1,h2⟩:=h
  by_cases e: p.1 = k
  ·rw [if_pos e,if_pos (h1.symm.trans e)]; exact ⟨h1,ry⟩
  ·rw [if_neg e,if_neg (fun z => e (h1.trans z))]; exact ⟨h1,h2⟩
theorem KV.put {kvs: List (κ × V)} {vs: List (κ × Value)} (r: KV kvs vs) (k: κ) {y: V} {u: Value} (ry: RelV y u): KV (putK kvs k y) (stored vs k u):=by
 unfold putK stored
 rw [r.any k]
 by_cases e: (vs.any fun kv => decide (kv.1 = k)) = true
 ·rw [if_pos e,if_pos e]; exact r.repl k ry
 ·rw [if_neg e,if_neg e]; exact Paired.snoc r ⟨rfl,ry⟩
theorem KV.drop {kvs: List (κ × V)} {vs: List (κ × Value)} (r: KV kvs vs) (k: κ): KV (dropK kvs k) (without vs k):=by
 unfold KV at r ⊢
 unfold dropK without
 induction r with
 | nil => exact .nil
 | @cons p q ps qs h t ih =>
  obtain ⟨h1,h2⟩:=h
  rw [List.filter_cons,List.filter_cons]
  by_cases e: p.1 = k
  ·have a: ¬ decide (p.1 ≠ k) = true:=by simp [e]
   have b: ¬ decide (q.1 ≠ k) = true:=by simp [h1.symm.trans e]
   rw [if_neg a,if_neg b]; exact ih
  ·have e': ¬ q.1 = k:=fun z => e (h1.trans z)
   have a: decide (p.1 ≠ k) = true:=by simp [e]
   have b: decide (q.1 ≠ k) = true:=by simp [e']
   rw [if_pos a,if_pos b]; exact .cons ⟨h1,h2⟩ ih
theorem KV.length {kvs: List (κ × V)} {vs: List (κ × Value)} (r: KV kvs vs): kvs.length = vs.length:=Paired.length r
theorem dropK_le (kvs: List (κ × V)) (k: κ): (dropK kvs k).length <= kvs.length:=List.length_filter_le _ _
end
theorem kV_is {P: Program} {w: World} {k: Key} {u: Value} (r: RelV (kV k) u): (mixKind P w).is k u = true:=by
 cases k with
 | inl i => obtain ⟨t,e⟩:=(show ∃ t,u = Value.int i t from r); subst e; exact mixKind_int P w i t
 | inr x => obtain ⟨t,e⟩:=(show ∃ t,u = Value.str x t from r); subst e; exact mixKind_str P w x t
theorem items_are {P: Program} {w: World}: ∀ {ks: List Key} {us: List Value},Vals (ks.map kV) us -> ItemsAre (mixKind P w) ks us
 | [],_,r => by rw [List.map_nil] at r; cases r; exact .nil
 | k :: ks,_,r => by
  rw [List.map_cons] at r
  cases r with
  | cons h t => exact .cons (kV_is h) (items_are t)
abbrev KT (H: Hp): List (List Key × V) -> List (List Key × Addr × Value) -> Prop:=Paired fun p q => p.1 = q.1 /\ H q.2.1 = some (.tup (p.1.map kV)) /\ RelV p.2 q.2.2
theorem KT.val {H: Hp} {kvs: List (List Key × V)} {xs: List (List Key × Addr × Value)} (r: KT H kvs xs) (k: List Key): RelO (valV kvs k) ((atKey xs k).map (·.2)):=by
 induction r with
 | nil => exact True.intro
 | @cons p q ps qs h t ih =>
  obtain ⟨h1,_,h2⟩:=h
  by_cases e: p.1 = k
  ·have e': q.1 = k:=h1.symm.trans e
   have b: atKey (q :: qs) k = some q.2:=by simp [atKey,List.find?_cons,e']
   rw [valV_pos e,b]; exact h2
  ·have e': ¬ q.1 = k:=fun z => e (h1.trans z)
   have b: atKey (q :: qs) k = atKey qs k:=by simp [atKey,List.find?_cons,e']
   rw [valV_neg e,b]; exact ih
theorem KT.repl {H: Hp} {kvs: List (List Key × V)} {xs: List (List Key × Addr × Value)} (r: KT H kvs xs) (k: List Key) {y: V} {u: Value} (ry: RelV y u) :
  KT H (kvs.map fun kv => if kv.1 = k then (kv.1,y) else kv) (xs.map (putAt k u)):=by
 induction r with
 | nil => exact .nil
 | @cons p q ps qs h t ih =>
  rw [List.map_cons,List.map_cons]
  refine .cons ?_ ih
  obtain ⟨h1,h2,h3⟩:=h
  unfold putAt
  by_cases e: p.1 = k
  ·rw [if_pos e,if_pos (h1.symm.trans e)]; exact ⟨h1,h2,ry⟩
  ·rw [if_neg e,if_neg (fun z => e (h1.trans z))]; exact ⟨h1,h2,h3⟩
theorem KT.put {H: Hp} {kvs: List (List Key × V)} {xs: List (List Key × Addr × Value)} (r: KT H kvs xs) (k: List Key) {b: Addr} {y: V} {u: Value} (hb: H b = some (.tup (k.map kV))) (ry: RelV y u) :
  KT H (putK kvs k y) (storedH xs k b u):=by
 have e: (kvs.any fun kv => decide (kv.1 = k)) = (atKey xs k).isSome:=by
  rw [valV_any,(r.val k).isSome_eq,Option.isSome_map]
 unfold putK storedH
 rw [e]
 by_cases q: (atKey xs k).isSome = true
 ·rw [if_pos q,if_pos q]; exact r.repl k ry
 ·rw [if_neg q,if_neg q]; exact Paired.snoc r ⟨rfl,hb,ry⟩
theorem KT.keeps {H H': Hp} {kvs: List (List Key × V)} {xs: List (List Key × Addr × Value)} (r: KT H kvs xs) (ht: ∀ b ys,H b = some (.tup ys) -> H' b = some (.tup ys)): KT H' kvs xs :=
 Paired.mapP r fun _ _ z => ⟨z.1,ht _ _ z.2.1,z.2.2⟩
section
variable {P: Program} {w: World} {H: Hp} {h: Heap} {a: Addr}
theorem rd_of {u: HO} (ok: HOk P w H h) (e: Rd H a u): ObjOk P w H h a u:=e.ok ok
theorem dk_rd {kvs: List (Key × V)} (ok: HOk P w H h) (e: Rd H a (.dK kvs)): kvs.length <= sizeLine /\ (a == sysModules) = false /\ ∃ vs,KV kvs vs /\ h.DictOf (mixKind P w) a vs :=
 show ObjOk P w H h a (.dK kvs) from rd_of ok e
theorem dk_of {kvs: List (Key × V)} (ok: HOk P w H h) (e: H a = some (.dK kvs)): kvs.length <= sizeLine /\ (a == sysModules) = false /\ ∃ vs,KV kvs vs /\ h.DictOf (mixKind P w) a vs:=dk_rd ok (.inl e)
theorem key_of {ks: List Key} (ok: HOk P w H h) (e: H a = some (.tup (ks.map kV))): (tupleKind (mixKind P w)).is h ks a:=by
 obtain ⟨_,its,r,o,h1,h2,n,h3⟩:=(show ObjOk P w H h a (.tup (ks.map kV)) from ok a _ e)
 exact ⟨o,its.toArray,n,h1,h2,h3,by simpa using items_are r⟩
theorem dt_rd {kvs: List (List Key × V)} (ok: HOk P w H h) (e: Rd H a (.dT kvs)): kvs.length <= sizeLine /\ (a == sysModules) = false /\
  ∃ xs,KT H kvs xs /\ h.DictOfH (tupleKind (mixKind P w)) a xs:=by
 obtain ⟨z,y,xs,r,o,es,ep,h1,h2,h3,h4,h5⟩:=(show ObjOk P w H h a (.dT kvs) from rd_of ok e)
 refine ⟨z,y,xs,r,o,es,ep,h1,h2,h3,h4,fun x hx => ?_,h5⟩
 have all: ∀ {l: List (List Key × V)} {m: List (List Key × Addr × Value)},KT H l m -> ∀ x ∈ m,(tupleKind (mixKind P w)).is h x.1 x.2.1:=by
  intro l m q
  induction q with
  | nil => intro x hx; exact nomatch hx
  | @cons p q ps qs hq t ih =>
   intro x hx
   rcases List.mem_cons.mp hx with e | hx
   ·subst e
    exact key_of ok (by rw [<- hq.1]; exact hq.2.1)
   ·exact ih x hx
 exact all r x hx
theorem dt_of {kvs: List (List Key × V)} (ok: HOk P w H h) (e: H a = some (.dT kvs)): kvs.length <= sizeLine /\ (a == sysModules) = false /\
  ∃ xs,KT H kvs xs /\ h.DictOfH (tupleKind (mixKind P w)) a xs:=dt_rd ok (.inl e)
end
def DGet (H: Hp) (a: Addr) (y: V) (r: Option V): Prop :=
 (∃ kvs k,Rd H a (.dK kvs) /\ y = kV k /\ r = valV kvs k) \/ ∃ kvs k b,Rd H a (.dT kvs) /\ y = .ref b /\ H b = some (.tup (k.map kV)) /\ r = valV kvs k
def DPut (H: Hp) (a: Addr) (y v: V) (H': Hp): Prop :=
 (∃ kvs k,H a = some (.dK kvs) /\ y = kV k /\ kvs.length < sizeLine /\ H' = upd H a (.dK (putK kvs k v))) \/
 ∃ kvs k b,H a = some (.dT kvs) /\ y = .ref b /\ H b = some (.tup (k.map kV)) /\ kvs.length < sizeLine /\ H' = upd H a (.dT (putK kvs k v))
theorem DGet.k {H: Hp} {a: Addr} {kvs: List (Key × V)} {k: Key} (e: H a = some (.dK kvs)): DGet H a (kV k) (valV kvs k):=.inl ⟨kvs,k,.inl e,rfl,rfl⟩
theorem DGet.t {H: Hp} {a b: Addr} {kvs: List (List Key × V)} {k: List Key} (e: H a = some (.dT kvs)) (eb: H b = some (.tup (k.map kV))): DGet H a (.ref b) (valV kvs k):=.inr ⟨kvs,k,b,.inl e,rfl,eb,rfl⟩
theorem DPut.k {H: Hp} {a: Addr} {kvs: List (Key × V)} {k: Key} {v: V} (e: H a = some (.dK kvs)) (hl: kvs.length < sizeLine): DPut H a (kV k) v (upd H a (.dK (putK kvs k v))):=.inl ⟨kvs,k,e,rfl,hl,rfl⟩
theorem DPut.t {H: Hp} {a b: Addr} {kvs: List (List Key × V)} {k: List Key} {v: V} (e: H a = some (.dT kvs)) (eb: H b = some (.tup (k.map kV))) (hl: kvs.length < sizeLine) :
  DPut H a (.ref b) v (upd H a (.dT (putK kvs k v))):=.inr ⟨kvs,k,b,e,rfl,eb,hl,rfl⟩
section
variable {X: Cx} {pins: List (Addr × Obj)} {σ: St} {H: Hp} {s: Shared} {a: Addr} {y v: V} {u r: Value} {o: Option V} {A: Around} {E: Value -> Shared -> Prop}
theorem Inv.big (I: Inv X pins σ H s): sysModules < s.heap.objs.size:=by
 have h: mainGlobals < s.heap.objs.size:=(I.mod.glob.keeps I.bk).lt
 exact Nat.lt_trans (by decide) h
theorem d_getItem {Q: Value -> Shared -> Prop} (hu: A.units + 1 < cLine) (I: Inv X pins σ H s) (g: DGet H a y (some v)) (ry: RelV y u) (h: ∀ w' s',Inv X pins σ H s' -> RelV v w' -> Q w' s') :
  wpAny (model X.prog X.w) A (getItem (.ref a) u) Q E s:=by
 rcases g with ⟨kvs,k,e,ey,l⟩ | ⟨kvs,k,b,e,ey,eb,l⟩
 ·subst ey
  obtain ⟨z,hd,vs,rel,dd⟩:=dk_rd I.hok e
  obtain ⟨w',hw,rw'⟩:=RelO.some_of (v:=v) (o:=valueAt vs k) (by rw [l]; exact rel.val k)
  exact wpAny_getItem_of (kV_is ry) dd.mapOf hw (h w' _ (I.tok _) rw')
 ·subst ey
  cases (show u = Value.ref b from ry)
  obtain ⟨z,hd,xs,rel,dd⟩:=dt_rd I.hok e
  obtain ⟨w',hw,rw'⟩:=RelO.some_of (v:=v) (o:=(atKey xs k).map (·.2)) (by rw [l]; exact rel.val k)
  obtain ⟨p,hp,hp2⟩:=Option.map_eq_some_iff.mp hw
  refine wpAny_getItem_heap (tupleKind_room_in1 hu) (key_of I.hok eb) dd hp ?_
  rw [hp2]
  exact h w' _ (I.tok _) rw'
theorem d_in {Q: Value -> Shared -> Prop} (hu: A.units + 1 < cLine) (I: Inv X pins σ H s) (g: DGet H a y o) (ry: RelV y u) (h: ∀ s',Inv X pins σ H s' -> Q (.bool o.isSome) s') :
  wpAny (model X.prog X.w) A (compareOp .In u (.ref a)) Q E s:=by
 rcases g with ⟨kvs,k,e,ey,l⟩ | ⟨kvs,k,b,e,ey,eb,l⟩
 ·subst ey
  obtain ⟨z,hd,vs,rel,dd⟩:=dk_rd I.hok e
  refine wpAny_in_of (kV_is ry) hd dd.mapOf ?_
  rw [<- (rel.val k).isSome_eq,<- l]
  exact h _ (I.tok _)
 ·subst ey
  cases (show u = Value.ref b from ry)
  obtain ⟨z,hd,xs,rel,dd⟩:=dt_rd I.hok e
  refine wpAny_in_heap (tupleKind_room_in1 hu) (key_of I.hok eb) hd dd ?_
  have q:=(rel.val k).isSome_eq
  rw [Option.isSome_map] at q
  rw [<- q,<- l]
  exact h _ (I.tok _)
theorem d_notIn {Q: Value -> Shared -> Prop} (hu: A.units + 1 < cLine) (I: Inv X pins σ H s) (g: DGet H a y o) (ry: RelV y u) (h: ∀ s',Inv X pins σ H s' -> Q (.bool (!o.isSome)) s') :
  wpAny (model X.prog X.w) A (compareOp .NotIn u (.ref a)) Q E s:=by
 rcases g with ⟨kvs,k,e,ey,l⟩ | ⟨kvs,k,b,e,ey,eb,l⟩
 ·subst ey
  obtain ⟨z,hd,vs,rel,dd⟩:=dk_rd I.hok e
  refine wpAny_notIn_of (kV_is ry) hd dd.mapOf ?_
  rw [<- (rel.val k).isSome_eq,<- l]
  exact h _ (I.tok _)
 ·subst ey
  cases (show u = Value.ref b from ry)
  obtain ⟨z,hd,xs,rel,dd⟩:=dt_rd I.hok e
  refine wpAny_notIn_heap (tupleKind_room_in1 hu) (key_of I.hok eb) hd dd ?_
  have q:=(rel.val k).isSome_eq
  rw [Option.isSome_map] at q
  rw [<- q,<- l]
  exact h _ (I.tok _)
theorem d_write {h': Heap} {t': Nat} {ob: HO} (I: Inv X pins σ H s) (mu: Mut (H a)) (hs: Heap.SameBut a s.heap h') (he: ∃ q,h'.get? a = some q) (new: ObjOk X.prog X.w (upd H a ob) h' a ob) :
  Inv X pins σ (upd H a ob) { s with heap:=h',toks:=t' } :=
 I.write (x:=a) (e:=a) mu (.inl rfl) (fun b q hb z => (hs.2 b hb).trans z) he new
theorem dk_new {P: Program} {w: World} {H': Hp} {h': Heap} {kvs: List (Key × V)} {vs: List (Key × Value)} (z: kvs.length <= sizeLine) (hd: (a == sysModules) = false) (rel: KV kvs vs) (dd: h'.DictOf (mixKind P w) a vs) :
  ObjOk P w H' h' a (.dK kvs):=⟨z,hd,vs,rel,dd⟩
theorem d_setItem {H': Hp} {Q: Unit -> Shared -> Prop} (hu: A.units + 1 < cLine) (I: Inv X pins σ H s) (g: DPut H a y v H') (ry: RelV y u) (rv: RelV v r) (h: ∀ s',Inv X pins σ H' s' -> Q () s') :
  wpAny (model X.prog X.w) A (setItem (.ref a) u r) Q E s:=by
 rcases g with ⟨kvs,k,e,ey,l,eH⟩ | ⟨kvs,k,b,e,ey,eb,l,eH⟩
 ·subst ey eH
  obtain ⟨z,hd,vs,rel,dd⟩:=dk_of I.hok e
  have hz: vs.length <= sizeLine:=by rw [<- rel.length]; exact z
  have hl: (putK kvs k v).length <= sizeLine:=by have:=length_putK kvs k v; omega
  refine wpAny_setItem_pairs (hsz:=hz) (kV_is ry) dd fun h' dd' hs => h _ ?_
  have he: ∃ q,h'.get? a = some q:=let ⟨q,_,_,hq,_⟩:=dd'; ⟨q,hq⟩
  exact d_write I (by rw [e]; exact True.intro) hs he (dk_new hl hd (rel.put k rv) dd')
 ·subst ey eH
  cases (show u = Value.ref b from ry)
  obtain ⟨z,hd,xs,rel,dd⟩:=dt_of I.hok e
  have hz: xs.length <= sizeLine:=by rw [<- Paired.length rel]; exact z
  have hl: (putK kvs k v).length <= sizeLine:=by have:=length_putK kvs k v; omega
  refine wpAny_setItem_heap (hsz:=hz) (tupleKind_room_in1 hu) (key_of I.hok eb) dd fun h' dd' hs => h _ ?_
  obtain ⟨q,es,ep,hq,h2,h3,h4,_,h5⟩:=dd'
  refine d_write I (by rw [e]; exact True.intro) hs ⟨q,hq⟩ ⟨hl,hd,_,(rel.put k eb rv).keeps fun c ys ec => ?_,q,es,ep,hq,h2,h3,h4,h5⟩
  rw [upd_ne (ne_of ec e (fun z => nomatch z))]
  exact ec
end
section
variable {X: Cx} {pins: List (Addr × Obj)} {σ: St} {H: Hp} {s: Shared} {a: Addr} {kvs: List (Key × V)} {k: Key} {u: Value} {A: Around} {E: Value -> Shared -> Prop}
theorem d_delItem {Q: Unit -> Shared -> Prop} (I: Inv X pins σ H s) (e: H a = some (.dK kvs)) (ry: RelV (kV k) u) (l: (valV kvs k).isSome = true) (h: ∀ s',Inv X pins σ (upd H a (.dK (dropK kvs k))) s' -> Q () s') :
  wpAny (model X.prog X.w) A (delItem (.ref a) u) Q E s:=by
 obtain ⟨z,hd,vs,rel,dd⟩:=dk_of I.hok e
 refine wpAny_delItem_slot dd.typeIs (by decide) PySem.F.slot_dict_delitem
  (call_meetsIn PySem.F.slot_dict_delitem dd.typeIs PySem.F.entry_dict_delitem (PySem.F.args_dict_delitem_2 _ _) (meets_dict_delitem_pairs (mixKind X.prog X.w) a (kV_is ry)) ⟨vs,dd,by rw [<- rel.length]; exact z,by rw [<- (rel.val k).isSome_eq]; exact l,fun h' dd' hs => h _ ?_⟩)
 have he: ∃ q,h'.get? a = some q:=let ⟨q,_,_,hq,_⟩:=dd'; ⟨q,hq⟩
 exact d_write I (by rw [e]; exact True.intro) hs he (dk_new (Nat.le_trans (dropK_le kvs k) z) hd (rel.drop k) dd')
theorem d_pop {v: V} {more: List Value} {Q: Value -> Shared -> Prop} (I: Inv X pins σ H s) (e: H a = some (.dK kvs)) (ry: RelV (kV k) u) (l: valV kvs k = some v) (hm: more = [] \/ ∃ x,more = [x])
  (h: ∀ w' s',Inv X pins σ (upd H a (.dK (dropK kvs k))) s' -> RelV v w' -> Q w' s'): wpAny (model X.prog X.w) A (call (.builtin "dict.pop") (.ref a :: u :: more)) Q E s:=by
 obtain ⟨z,hd,vs,rel,dd⟩:=dk_of I.hok e
 obtain ⟨w',hw,rw'⟩:=RelO.some_of (v:=v) (o:=valueAt vs k) (by rw [<- l]; exact rel.val k)
 have hp: (keyPart u).isSome = true:=by
  cases k with
  | inl i => obtain ⟨t,q⟩:=(show ∃ t,u = Value.int i t from ry); subst q; rfl
  | inr x => obtain ⟨t,q⟩:=(show ∃ t,u = Value.str x t from ry); subst q; rfl
 have ha: argsOk "dict.pop" ⟨.ref a :: u :: more,[]⟩:=by
  rcases hm with q | ⟨x,q⟩
  ·subst q; exact PySem.F.args_dict_pop_2 _ _
  ·subst q; exact PySem.F.args_dict_pop_3 _ _ _
 refine call_meetsIn PySem.F.slot_dict_pop dd.typeIs PySem.F.entry_dict_pop ha (meets_dict_pop_there (mixKind X.prog X.w) a (kV_is ry) more hm hp)
  ⟨vs,w',dd,by rw [<- rel.length]; exact z,hw,fun h' dd' hs => h w' _ ?_ rw'⟩
 have he: ∃ q,h'.get? a = some q:=let ⟨q,_,_,hq,_⟩:=dd'; ⟨q,hq⟩
 exact d_write I (by rw [e]; exact True.intro) hs he (dk_new (Nat.le_trans (dropK_le kvs k) z) hd (rel.drop k) dd')
theorem d_len {Q: Value -> Shared -> Prop} (I: Inv X pins σ H s) (e: Rd H a (.dK kvs)) (h: ∀ t s',Inv X pins σ H s' -> Q (.int kvs.length t) s'): wpAny (model X.prog X.w) A (call (.builtin "len") [.ref a]) Q E s:=by
 obtain ⟨z,hd,vs,rel,dd⟩:=dk_rd I.hok e
 refine call_len_dict hd dd (by rw [<- rel.length]; rw [sizeLine_eq] at z; omega) ?_
 rw [<- rel.length]
 exact h _ _ (I.tok _)
end
def NoSl (i: Expr): Prop:=∀ ov iv,subscripted i false ov iv = operate [ov,iv] (getItem ov iv)
theorem subD_of {prog: Program} {w: World} {A: Around} {E: Value -> Shared -> Prop} {s: Shared} {env: Env} {value slice: Expr} {pos: Pos} {T id: String} {Q: Value -> Shared -> Prop}
  (hl: typeLookup (.type T) "__getitem__" = pure (some (.builtin id))) (hs: NoSl slice)
  (h: wpAny (model prog w) A (eval value env) (fun o s₁ => wpAny (model prog w) A (eval slice env) (fun i s₂ => s₂.TypeIs o T /\ wpAny (model prog w) A (getItem o i) Q E s₂) E s₁) E s) :
  wpAny (model prog w) A (eval (.Subscript value slice pos) env) Q E s:=by
 refine Subscript_ (wpAny_mono h (fun o s₁ h₁ => wpAny_mono h₁ (fun i s₂ h₂ => ?_) fun _ _ x => x) fun _ _ x => x)
 obtain ⟨hT,h₂⟩:=h₂
 unfold subscriptTail
 refine wpAny_bind ?_
 rw [getitemInPython_of_ne hT.not_modules]
 refine wpAny_bind (wpAny_specialOf hT hl ?_)
 have fin: wpAny (model prog w) A (subscripted slice false o i) (fun r s₃ => wpAny (model prog w) A (letTemporaryGo value o r >>= fun _ => pure r) Q E s₃) E s₂:=by
  rw [hs o i]
  exact wpAny_operating (wpAny_mono h₂ (fun r s₃ h₃ => wpAny_bind (wpAny_letTemporaryGo (wpAny_pure h₃))) fun _ _ x => x)
 first
  | exact wpAny_pure (wpAny_bind fin)
  | exact wpAny_bind (wpAny_pure (wpAny_bind fin))
  | exact wpAny_bind fin
theorem dict_typeIs {X: Cx} {pins: List (Addr × Obj)} {σ: St} {H: Hp} {s: Shared} {a: Addr} {y: V} {o: Option V} (I: Inv X pins σ H s) (g: DGet H a y o): s.TypeIs (.ref a) "dict":=by
 rcases g with ⟨kvs,k,e,_,_⟩ | ⟨kvs,k,b,e,_,_,_⟩
 ·obtain ⟨_,_,vs,_,dd⟩:=dk_rd I.hok e
  exact dd.typeIs
 ·obtain ⟨_,_,xs,_,dd⟩:=dt_rd I.hok e
  exact dd.typeIs
def tDGet (td ty: TE): TE:=fun σ H Q => td σ H fun x H1 => ty σ H1 fun y H2 => ∃ a v,x = .ref a /\ DGet H2 a y (some v) /\ Q v H2
def tDIn (ty td: TE): TE:=fun σ H Q => ty σ H fun y H1 => td σ H1 fun x H2 => ∃ a o,x = .ref a /\ DGet H2 a y o /\ Q (.bl o.isSome) H2
def tDNotIn (ty td: TE): TE:=fun σ H Q => ty σ H fun y H1 => td σ H1 fun x H2 => ∃ a o,x = .ref a /\ DGet H2 a y o /\ Q (.bl (!o.isSome)) H2
def sDPut (td ty tv: TE): TS:=fun D σ H => tv σ H fun v H1 => td σ H1 fun x H2 => ty σ H2 fun y H3 => ∃ a H4,x = .ref a /\ DPut H3 a y v H4 /\ D.nx σ H4
section
variable {X: Cx} {o i e value: Expr} {pos pos' tpos: Pos} {td ty tv: TE}
theorem pe_dget (hu: X.A.units + 1 < cLine) (ho: PE X o td) (hi: PE X i ty) (hs: NoSl i): PE X (.Subscript o i pos) (tDGet td ty):=by
 intro pins s σ H Q I h
 refine subD_of PySem.F.slot_dict_getitem.lookup hs (thn (ho pins s σ H _ I h) fun u s1 ⟨x,H1,I1,rx,q1⟩ => thn (hi pins s1 σ H1 _ I1 q1) fun iv s2 ⟨y,H2,I2,ry,a,v,ex,g,q2⟩ => ?_)
 subst ex
 obtain rfl: u = Value.ref a:=rx
 exact ⟨dict_typeIs I2 g,d_getItem hu I2 g ry fun w' s3 I3 rw' => ⟨v,H2,I3,rw',q2⟩⟩
theorem pc_din (hu: X.A.units + 1 < cLine) (hi: PE X i ty) (ho: PE X o td): PC X .In i o (tDIn ty td):=by
 intro pins s σ H Q I h
 refine thn (hi pins s σ H _ I h) fun iv s1 ⟨y,H1,I1,ry,q1⟩ => thn (ho pins s1 σ H1 _ I1 q1) fun u s2 ⟨x,H2,I2,rx,a,ov,ex,g,q2⟩ => ?_
 subst ex
 obtain rfl: u = Value.ref a:=rx
 exact d_in hu I2 g ry fun s3 I3 => ⟨.bl ov.isSome,H2,I3,rfl,q2⟩
theorem pc_dnotin (hu: X.A.units + 1 < cLine) (hi: PE X i ty) (ho: PE X o td): PC X .NotIn i o (tDNotIn ty td):=by
 intro pins s σ H Q I h
 refine thn (hi pins s σ H _ I h) fun iv s1 ⟨y,H1,I1,ry,q1⟩ => thn (ho pins s1 σ H1 _ I1 q1) fun u s2 ⟨x,H2,I2,rx,a,ov,ex,g,q2⟩ => ?_
 subst ex
 obtain rfl: u = Value.ref a:=rx
 exact d_notIn hu I2 g ry fun s3 I3 => ⟨.bl (!ov.isSome),H2,I3,rfl,q2⟩
theorem ps_dput (hu: X.A.units + 1 < cLine) (ho: PE X o td) (hi: PE X i ty) (hv: PE X value tv) (hs: swapsWith value (some (.Subscript o i pos')) pos.line X.env = pure false) :
  PS X (.Assign [.Subscript o i pos'] value pos) (sDPut td ty tv):=by
 intro pins s σ H D I h
 refine wpAny_Assign_Subscript (thn (hv pins s σ H _ I h) fun r s1 ⟨v,H1,I1,rv,q1⟩ => thn (ho pins s1 σ H1 _ I1 q1) fun u s2 ⟨x,H2,I2,rx,q2⟩ => thn (hi pins s2 σ H2 _ I2 q2) fun iv s3 ⟨y,H3,I3,ry,a,H4,ex,g,q3⟩ => ?_) hs
 subst ex
 obtain rfl: u = Value.ref a:=rx
 exact d_setItem hu I3 g ry rv fun s4 I4 => ⟨σ,H4,I4,q3⟩
end
theorem dk_empty {P: Program} {w: World} {H: Hp} (h: Heap) (hb: sysModules < h.objs.size): ObjOk P w H (h.push { cls:=.type "dict",data:=.dict #[] }) h.objs.size (.dK []) :=
 ⟨Nat.zero_le _,beq_eq_false_iff_ne.mpr (Ne.symm (Nat.ne_of_lt hb)),[],.nil,Heap.DictOf.new h⟩
theorem dt_empty {P: Program} {w: World} {H: Hp} (h: Heap) (hb: sysModules < h.objs.size): ObjOk P w H (h.push { cls:=.type "dict",data:=.dict #[] }) h.objs.size (.dT []) :=
 ⟨Nat.zero_le _,beq_eq_false_iff_ne.mpr (Ne.symm (Nat.ne_of_lt hb)),[],.nil,_,#[],0,Heap.get?_push_size _ rfl,⟨rfl,rfl,rfl⟩,rfl,rfl,List.nodup_nil⟩
def tDNewK: TE:=fun _ H Q => ∀ p,H p = none -> Q (.ref p) (upd H p (.dK []))
def tDNewT: TE:=fun _ H Q => ∀ p,H p = none -> Q (.ref p) (upd H p (.dT []))
section
variable {X: Cx} {pos: Pos}
theorem pe_dnewK: PE X (.Dict [] [] pos) tDNewK:=fun pins s σ H Q I h =>
 wpAny_Dict_empty ⟨.ref s.heap.objs.size,_,I.laid (a:=s.heap.objs.size) (o:=.dK []) (t':=s.toks) (fun _ _ q => Heap.get?_push_of_some _ q) (Nat.le_refl _) (dk_empty s.heap I.big),rfl,h _ (I.hok.fresh (Nat.le_refl _))⟩
theorem pe_dnewT: PE X (.Dict [] [] pos) tDNewT:=fun pins s σ H Q I h =>
 wpAny_Dict_empty ⟨.ref s.heap.objs.size,_,I.laid (a:=s.heap.objs.size) (o:=.dT []) (t':=s.toks) (fun _ _ q => Heap.get?_push_of_some _ q) (Nat.le_refl _) (dt_empty s.heap I.big),rfl,h _ (I.hok.fresh (Nat.le_refl _))⟩
end
structure M1 (X: Cx) (o: Expr) (m: Str) (apos: Pos) (e: Expr) (cpos: Pos): Prop where
 base: attributeBase o m X.env (eval o X.env) = eval o X.env
 few: ((backTo cpos (starEach [e] X.env)).all (fun x => !x.1) && (backToKw cpos (keywordEach [] X.env)).all (fun x => x.1.isSome)
  && decide (([e]: List Expr).length + ([]: List Keyword).length + (if ([]: List Keyword).isEmpty then 0 else 1) < 30)) = true
 line: (apos.endLine == cpos.line) = true
 trees: backTo cpos (starEach [e] X.env) = [(false,eval e X.env)]
def IsD (H: Hp) (a: Addr): Prop:=(∃ kvs,Rd H a (.dK kvs)) \/ ∃ kvs,Rd H a (.dT kvs)
theorem isD_at {X: Cx} {pins: List (Addr × Obj)} {σ: St} {H: Hp} {s: Shared} {a: Addr} (I: Inv X pins σ H s) (d: IsD H a) :
  s.TypeIs (.ref a) "dict" /\ (∀ b,Value.ref a = .ref b -> ∃ ob,s.heap.get? b = some ob /\ ob.dict = none) /\ (a == sysModules) = false:=by
 rcases d with ⟨kvs,e⟩ | ⟨kvs,e⟩
 ·obtain ⟨_,hd,vs,_,dd⟩:=dk_rd I.hok e
  refine ⟨dd.typeIs,fun b q => ?_,hd⟩
  cases q
  obtain ⟨ob,_,_,h1,h2,_⟩:=dd
  exact ⟨ob,h1,h2.2.1⟩
 ·obtain ⟨_,hd,xs,_,dd⟩:=dt_rd I.hok e
  refine ⟨dd.typeIs,fun b q => ?_,hd⟩
  cases q
  obtain ⟨ob,_,_,h1,h2,_⟩:=dd
  exact ⟨ob,h1,h2.2.1⟩
section
variable {X: Cx} {pins: List (Addr × Obj)} {σ: St} {H: Hp} {s: Shared} {a: Addr} {y d: V} {u r: Value} {o: Option V} {A: Around} {E: Value -> Shared -> Prop}
end
def tDPop1 (td ty: TE): TE:=fun σ H Q => td σ H fun x H1 => ∃ a,x = .ref a /\ IsD H1 a /\ ty σ H1 fun y H2 => ∃ kvs k v,H2 a = some (.dK kvs) /\ y = kV k /\ valV kvs k = some v /\ Q v (upd H2 a (.dK (dropK kvs k)))
section
variable {X: Cx} {o e f: Expr} {apos cpos: Pos} {td ty tx: TE}
theorem pe_dpop1 (ho: PE X o td) (he: PE X e ty) (m: M1 X o "pop" apos e cpos): PE X (.Call (.Attribute o "pop" apos) [e] [] cpos) (tDPop1 td ty):=by
 intro pins s σ H Q I h
 refine wpAny_Call_method m.base m.few m.line PySem.F.plainAttrs_dict PySem.F.slot_dict_pop PySem.F.type_dict_pop (thn (ho pins s σ H _ I h) fun u s1 ⟨x,H1,I1,rx,a,ex,d,q1⟩ => ?_)
 subst ex
 obtain rfl: u = Value.ref a:=rx
 obtain ⟨t1,t2,_⟩:=isD_at I1 d
 refine ⟨t1,t2,?_⟩
 rw [m.trees]
 refine Calls.callWith_builtin rfl (Calls.evalArgs_plain (Calls.spliced_cons (thn (he pins s1 σ H1 _ I1 q1) fun iv s2 ⟨y,H2,I2,ry,kvs,k,v,ea,ey,l,q2⟩ => Calls.spliced_nil ?_)))
 subst ey
 exact d_pop I2 ea ry l (.inl rfl) fun w' s3 I3 rw' => ⟨v,_,I3,rw',q2⟩
end
section
variable {X: Cx} {pins: List (Addr × Obj)} {σ: St} {H: Hp} {s: Shared} {a: Addr} {kvs: List (Key × V)} {A: Around} {E: Value -> Shared -> Prop}
end
section
variable {X: Cx} {pins: List (Addr × Obj)} {σ: St} {H: Hp} {s: Shared} {a: Addr} {y: V} {u: Value} {A: Around} {E: Value -> Shared -> Prop}
end
end L2
namespace L2
open PySem PySem.Spec PyProof.Rows
section
variable {prog: Program} {w: World} {A: Around} {E: Value -> Shared -> Prop}
end
section
variable {X: Cx}
end
end L2
namespace L2
open PySem PySem.Spec PyProof.Rows
section
variable {X: Cx} {pins: List (Addr × Obj)} {σ: St} {H: Hp} {s: Shared} {h': Heap}
end
section
variable {X: Cx}
theorem pi_one {tg: Expr} {pins: List (Addr × Obj)} {σ: St} {H: Hp} {s: Shared} {R: It -> Hp -> Prop} {J: It} {tn: Nat -> Heap -> Prop} {tk: Nat} (I: Inv X pins σ H s) (o: Obj)
  (T: Turn X.prog X.w X.K tg J [s.heap.objs.size] s.heap.objs.size tn) (st: tn 0 (s.heap.push o)) (q: R J H): PIE X pins σ tg R (.ref s.heap.objs.size) { s with heap:=s.heap.push o,toks:=tk }:=by
 refine ⟨s.heap.objs.size,[s.heap.objs.size],tn,J,H,rfl,I.kept fun b ob e => Heap.get?_push_of_some _ e,T,st,fun b hb => ?_,q⟩
 have e: b = s.heap.objs.size:=by simpa using hb
 subst e
 exact I.fpOk (Nat.le_refl _) (I.hok.fresh (Nat.le_refl _))
end
section
variable {X: Cx} {tg: Expr}
end
section
variable {X: Cx} {tg: Expr}
end
def Its (x: Str): It:=⟨fun i _ => i < x.cps.size,fun i H v H' => H' = H /\ ∃ c,x.cps[i]? = some c /\ v = .str ⟨#[c]⟩,fun i _ => x.cps.size <= i⟩
theorem turn_str {P: Program} {w: World} {K: PySem.W.Frag} {tg: Expr} (it: Addr) (x: Str) (t: Tok) (ty: String) (hty: ty = "str_ascii_iterator" \/ ty = "str_iterator") :
  Turn P w K tg (Its x) [it] it (fun i h => h.IsStrIter it ty x t i) where
 mem:=by simp
 obj:=fun i h st b hb => by
  have e: b = it:=by simpa using hb
  subst e
  obtain ⟨o,e,c,d⟩:=st
  exact ⟨o,e,fun v z => by rw [d] at z; cases z⟩
 keep:=fun i h h' st k => let ⟨o,ho,r⟩:=st; ⟨o,k it (by simp) o ho,r⟩
 item:=by
  intro X hP hw hK hc i pins s σ H E I hf st hg
  subst hP hw hK
  obtain ⟨f0,f1,f2,f3,f4,f5⟩:=hf it (by simp)
  have W: Walks X.prog X.w X.A it [it] [it] x.cps.size (SignAt x) (fun i h => h.IsStrIter it ty x t i):=by
   rcases hty with e | e
   ·rw [e]; exact Walks.strAscii (I.ok.hd hc) it x t
   ·rw [e]; exact Walks.strWide (I.ok.hd hc) it x t
  have hno: ["enumerate","zip","dict_itemiterator","dict_reverseitemiterator","odict_iterator","itertools.zip_longest","itertools.pairwise"].contains ty = false:=by
   rcases hty with e | e
   ·rw [e]; decide
   ·rw [e]; decide
  refine W.item i s _ _ hg st fun v h' tk hv st' kk => ?_
  obtain ⟨c,u,hcx,rfl⟩:=hv
  have I1: Inv X pins σ H { s with heap:=h',toks:=tk }:=I.turned (fun b o hb e => kk b o (by simpa using hb) e) f0 f1 f3 f4 f5
  obtain ⟨oi,e,cc,dd⟩:=id st'
  exact ⟨_,rfl,go_of (s:={ s with heap:=h',toks:=tk }) e cc dd hno ⟨.str ⟨#[c]⟩,H,I1,⟨u,rfl⟩,⟨rfl,c,hcx,rfl⟩,st',fun b hb => (hf b hb).1⟩⟩
 done:=by
  intro X hP hw hK hc i pins s σ H E I hf st hg
  subst hP hw hK
  obtain ⟨f0,f1,f2,f3,f4,f5⟩:=hf it (by simp)
  have hx: x.cps[i]? = none:=Array.getElem?_eq_none hg
  rcases hty with e | e
  ·rw [e] at st
   exact wpAny_pyNext_ascii_end (I.ok.hd hc) st hx fun h' eb => ⟨rfl,I.turned (t':=s.toks) (fun b o hb e => eb b o hb e) f0 f1 f3 f4 f5⟩
  ·rw [e] at st
   exact wpAny_pyNext_wide_end (I.ok.hd hc) st hx fun h' eb => ⟨rfl,I.turned (t':=s.toks) (fun b o hb e => eb b o hb e) f0 f1 f3 f4 f5⟩
 self:=fun A i s Q E st h => by
  rcases hty with e | e
  ·rw [e] at st; exact wpAny_pyIter_striter_ascii st h
  ·rw [e] at st; exact wpAny_pyIter_striter_wide st h
def iStr (te: TE): TI:=fun σ H R => te σ H fun v H1 => ∃ x,v = .str x /\ R (Its x) H1
theorem pi_str {X: Cx} {tg e: Expr} {te: TE} (he: PE X e te): PI X tg e (iStr te):=by
 intro pins s σ H R I h
 refine thn (he pins s σ H _ I h) fun v s1 ⟨y,H1,I1,r1,x,ex,q⟩ => ?_
 subst ex
 obtain ⟨t,rfl⟩:=r1
 cases ha: x.cps.all (· < 128)
 ·exact wpAny_pyIter_wide ha (pi_one (tk:=s1.toks) I1 _ (turn_str _ x t "str_iterator" (.inr rfl)) ⟨_,Heap.get?_push_size _ rfl,rfl,rfl⟩ q)
 ·exact wpAny_pyIter_ascii ha (pi_one (tk:=s1.toks) I1 _ (turn_str _ x t "str_ascii_iterator" (.inl rfl)) ⟨_,Heap.get?_push_size _ rfl,rfl,rfl⟩ q)
section
variable {prog: Program} {w: World} {A: Around} {E: Value -> Shared -> Prop} {s: Shared}
end
section
variable {X: Cx} {pins: List (Addr × Obj)} {σ: St} {H: Hp} {s: Shared} {d: Addr} {o: Obj}
end
section
variable {P: Program} {w: World} {K: PySem.W.Frag} {tg: Expr} {d: Addr} {o: Obj} {es: Array DictEntry} {ep: Nat}
end
section
variable {X: Cx} {tg e: Expr} {td: TE} {apos cpos: Pos}
end
end L2
section
namespace Bits
open PySem PyProof.Rows
end Bits
end
section
namespace TL
open PySem PySem.Builtin PySem.Builtin.Str PySem.StrLaws
end TL
end
namespace L2
open PySem PySem.Spec PyProof.Rows
section
variable {X: Cx} {pins: List (Addr × Obj)} {σ: St} {H: Hp} {s: Shared} {Q: VK}
end
section
variable {X: Cx}
end
section
variable {X: Cx} {o e: Expr} {to te: TE}
def tM1 (r: V -> List V -> Hp -> VK -> Prop) (to te: TE): TE:=fun σ H Q => to σ H fun x H1 => (∃ a,x = .str a) /\ te σ H1 fun y H2 => r x [y] H2 Q
theorem pe_m1 {id: String} {name: Str} {apos pos: Pos} {r: V -> List V -> Hp -> VK -> Prop} (slot: Slot "str" name id) (ty: typeOf (.builtin id) = pure (.type "method_descriptor")) (rule: MtR X id r) (ho: PE X o to) (he: PE X e te)
  (hs: starEach [e] X.env = [(false,eval e X.env)]:=by rfl) (hbase: attributeBase o name X.env (eval o X.env) = eval o X.env:=by rfl) (hline: (apos.endLine == pos.line) = true:=by rfl) :
  PE X (.Call (.Attribute o name apos) [e] [] pos) (tM1 r to te):=by
 intro pins s σ H Q I h
 refine PySem.Call_method1 hbase hs hline (thn (ho pins s σ H _ I h) fun v s1 ⟨x,H1,I1,r1,q1⟩ => ?_)
 obtain ⟨⟨a,rfl⟩,q1⟩:=q1
 obtain ⟨t,rfl⟩:=_root_.id r1
 refine ⟨"str",_,F.plainAttrs_str,slot,ty,typeIs_str _ _ _,(fun _ e => nomatch e),Calls.callWith_builtin rfl (Calls.evalArgs_plain (Calls.spliced_cons ?_))⟩
 exact thn (he pins s1 σ H1 _ I1 q1) fun u s2 ⟨y,H2,I2,r2,q2⟩ => Calls.spliced_nil (rule pins s2 σ H2 _ [y] _ [u] Q I2 r1 (.cons r2 .nil) q2)
end
end L2
namespace L2
open PySem PySem.Spec PyProof.Rows
section
variable {X: Cx}
end
end L2
namespace Att
open PySem PySem.W PySem.Calls PyProof.Rows
section
variable {prog: Program} {w: World} {A: Around} {E: Value -> Shared -> Prop} {s: Shared} {K: Frag}
end
end Att
namespace L2
open PySem PySem.Spec PyProof.Rows
theorem vals_ints: ∀ {vs: List Value} {ns: List Int},IntsAre vs ns -> Vals (ns.map V.int) vs
 | _,_,.nil => .nil
 | _,_,.cons n t h => .cons ⟨t,rfl⟩ (vals_ints h)
def Only (H: Hp): Prop:=∀ b,H b = none \/ ∃ o xs,H b = some (.frz o (.lst xs))
theorem law_call {P: Program} {w: World} {K: PySem.W.Frag} {mg mb: Str -> Option Value} {CX: CXT} {k: Nat} {fa a: Addr} {fd: FuncData} {x: Str} {sp: Sp} {s₁: Shared} {vs: List Value} {ns: List Int}
  (KX: K.In s₁.heap) (hns: s₁.heap.Ns mainGlobals mg) (hb: s₁.heap.Ns builtinsNs mb) (hbb: ∀ x: Str,x ≠ "__name__" -> mb x = bootBuiltins x) (hlim: s₁.heap.NoLimit) (hg: s₁.gens = #[])
  (ha: s₁.heap.get? a = some { cls:=.type "list",data:=.seq vs.toArray }) (hi: IntsAre vs ns) (hl: ns.length <= sizeLine) (hr: Room k callerA)
  (F: ∀ base: Heap,K.In base -> base.Ns mainGlobals mg -> FnOk P w K mg base CX k fa fd [x] sp) (hbind: ∀ (s: Shared) (u: Value),BindsTo s fd ⟨[u],[]⟩ [(x,u)])
  (hsp: ∀ H: Hp,Only H -> SqL K H a (ns.map V.int) -> sp [.ref a] H (fun v _ => v = .bl true) fun _ _ _ => False)
  (hCX: ∀ H e s',CX [] H s₁ (fun _ _ _ => False) e s' -> False) :
  codeAny (model P w) callerA (.call (.ref fa) ⟨[.ref a],[]⟩) (fun r s' => r = .ok (.ret (.bool true)) /\ OldK s₁.heap s'.heap /\ s'.os = s₁.os /\ AllBare s'.gens) s₁:=by
 have rv:=vals_ints hi
 have lenV:=hi.length
 have core: ∀ H: Hp,Only H -> SqL K H a (ns.map V.int) -> HOk P w H s₁.heap -> (∀ b,H b ≠ none -> b = a) -> (H a ≠ none -> K.lookup a = none) ->
   codeAny (model P w) callerA (.call (.ref fa) ⟨[.ref a],[]⟩) (fun r s' => r = .ok (.ret (.bool true)) /\ OldK s₁.heap s'.heap /\ s'.os = s₁.os /\ AllBare s'.gens) s₁:=by
  intro H hO hS hok hA hK
  have base_of: ∀ {b: Addr} {o: Obj},s₁.heap.get? b = some o -> H b = none -> (hidT s₁.heap H).get? b = some o:=fun e n => hidT_get e n
  have noA: ∀ {b: Addr} {o: Obj} {es: Array DictEntry} {ep: Nat},s₁.heap.get? b = some o -> o.data = .dict es ep -> H b = none:=fun {b o es ep} e d => by
   cases q: H b with
   | none => rfl
   | some u =>
    have e': b = a:=hA b (by rw [q]; simp)
    subst e'
    rw [ha] at e; cases e
    have d': Data.seq vs.toArray _ = Data.dict es ep:=d
    cases d'
  have nsK: ∀ {b: Addr} {m: Str -> Option Value},s₁.heap.Ns b m -> (hidT s₁.heap H).Ns b m:=fun {b m} ⟨o,es,ep,e,d,r⟩ => ⟨o,es,ep,base_of e (noA e d),d,r⟩
  have hKb: K.In (hidT s₁.heap H):=fun b o e => base_of (KX b o e) (by
   cases q: H b with
   | none => rfl
   | some u =>
    have e': b = a:=hA b (by rw [q]; simp)
    subst e'
    rw [hK (by rw [q]; simp)] at e; cases e)
  have hM: Mod K mg (hidT s₁.heap H):=⟨hKb,nsK hns,⟨mb,nsK hb,hbb⟩,let ⟨mc,h1,h2⟩:=hlim; ⟨mc,nsK h1,h2⟩⟩
  have e0: Env0 P w K mg (hidT s₁.heap H) callerA [] s₁ H:=⟨rfl,hM,fun b o e => of_hidT e,Nat.le_of_eq (hidT_size _ _),trivial,fun b hb => absurd (show b ∈ ([]: List Addr) from hb) (by simp),hok,.of_eq hg⟩
  refine codeAny_mono ((F _ hKb (nsK hns)).run callerA [] s₁ H ⟨[.ref a],[]⟩ [.ref a] [.ref a] _ _ hr e0 (hbind s₁ (.ref a)) (.cons rfl .nil) (hsp H hO hS)) fun r s' h => ?_
  cases r with
  | error e => exact (hCX H e s' h).elim
  | ok fl =>
   cases fl with
   | next => exact False.elim h
   | brk => exact False.elim h
   | cont => exact False.elim h
   | ret u =>
    obtain ⟨v,H',os,bare,un,hok',r',q⟩:=h
    have q': v = .bl true:=q
    subst q'
    obtain rfl: u = Value.bool true:=r'
    refine ⟨rfl,OldK.of_keep fun b o e => ?_,os,bare⟩
    cases q: H b with
    | none => exact un.keep b o e q (by intro z; exact absurd (show b ∈ ([]: List Addr) from z) (by simp)) (by simp)
    | some u =>
     rcases hO b with z | ⟨ob,xs,z⟩
     ·rw [q] at z; cases z
     ·have z2:=un.frzs b ob _ z
      obtain ⟨e1,_⟩:=hok b _ z
      obtain ⟨e2,_⟩:=hok' b _ z2
      rw [e] at e1; cases e1
      exact e2
 cases hk: K.lookup a with
 | some o =>
  have e:=KX a o hk
  rw [ha] at e
  cases e
  refine core (fun _ => none) (fun _ => .inl rfl) (.inr ⟨_,vs.toArray,_,hk,rfl,rfl,rfl,by rw [List.size_toArray,lenV]; exact hl,by simpa using rv⟩) (fun b u z => by have z': (none: Option HO) = some u:=z; cases z') (fun b z => absurd rfl z) fun z => absurd rfl z
 | none =>
  refine core (fun b => if b = a then some (.frz { cls:=.type "list",data:=.seq vs.toArray } (.lst (ns.map V.int))) else none) (fun b => ?_) (.inl (.inr ⟨{ cls:=.type "list",data:=.seq vs.toArray },if_pos rfl⟩)) (fun b u z => ?_) (fun b z => ?_) fun _ => hk
  ·by_cases hb: b = a
   ·exact .inr ⟨_,_,if_pos hb⟩
   ·exact .inl (if_neg hb)
  ·by_cases hb: b = a
   ·have z':=(if_pos hb).symm.trans z
    cases z'
    subst hb
    exact ⟨ha,by rw [List.length_map]; exact hl,vs,_,rv,ha⟩
   ·have z':=(if_neg hb).symm.trans z
    cases z'
  ·by_cases hb: b = a
   ·exact hb
   ·exact absurd (if_neg hb) z
end L2
namespace L2
open PySem PySem.Spec PyProof.Rows
end L2
namespace L2
open PySem PySem.Spec PyProof.Rows
def inClass (s: Stmt) (j: Nat): Stmt:=match s with
 | .ClassDef _ _ _ body _ _ _ _ _ _ _ => body.getD j (.Pass ⟨0,0,0,0⟩)
 | _ => .Pass ⟨0,0,0,0⟩
def defArgs (s: Stmt): Arguments:=match s with
 | .FunctionDef _ a _ _ _ _ _ _ _ _ => a
 | _ => { posonlyargs:=[],args:=[],vararg:=none,kwonlyargs:=[],kw_defaults:=[],kwarg:=none,defaults:=[] }
def defBody (s: Stmt): List Stmt:=match s with
 | .FunctionDef _ _ b _ _ _ _ _ _ _ => b
 | _ => []
def defScope (s: Stmt): Scope:=match s with
 | .FunctionDef _ _ _ _ _ _ sc _ _ _ => sc
 | _ => { kind:=.function,names:=[],isGenerator:=false,isCoroutine:=false }
structure Fun (K: PySem.W.Frag) (x qual: Str) (st: Stmt) (f: Addr) (fd: FuncData): Prop where
 ex: ∃ (oc: Value) (od: Option Addr) (kV doc pm: Value) (an: Option Addr) (cdv ct: Value) (osl: Array (Option Value)),
  fd = PySem.W.fnOf x qual (defArgs st) (defBody st) (defScope st) .none kV doc pm an cdv ct /\ K.lookup f = some ⟨oc,od,.func fd,osl⟩ /\ PySem.W.codeIn K cdv qual = true
 kp: PySem.W.keepIn K (.ref f) = true
section
variable {P: Program} {w: World} {K: PySem.W.Frag} {mg: Str -> Option Value} {base: Heap}
theorem Fun.binds {x qual: Str} {st: Stmt} {f: Addr} {fd: FuncData} {ps: List Str} (F: Fun K x qual st f fd)
  (h: ∀ (kV doc pm: Value) (an: Option Addr) (cdv ct: Value) (us: List Value),us.length = ps.length -> bindArgs (PySem.W.fnOf x qual (defArgs st) (defBody st) (defScope st) .none kV doc pm an cdv ct) ⟨us,[]⟩ = pure (ps.zip us)): Binds K fd ps []:=by
 obtain ⟨oc,od,kV,doc,pm,an,cdv,ct,osl,rfl,lk,hcd⟩:=F.ex
 exact .all (h kV doc pm an cdv ct)
theorem fun_mk {x qual: Str} {st: Stmt} {f: Addr} {oc: Value} {od an: Option Addr} {osl: Array (Option Value)} {kV doc pm cdv ct: Value} (l: K.lookup f = some ⟨oc,od,.func (PySem.W.fnOf x qual (defArgs st) (defBody st) (defScope st) .none kV doc pm an cdv ct),osl⟩)
  (c: PySem.W.codeIn K cdv qual = true) (k: PySem.W.keepIn K (.ref f) = true): Fun K x qual st f (PySem.W.fnOf x qual (defArgs st) (defBody st) (defScope st) .none kV doc pm an cdv ct):=⟨⟨oc,od,kV,doc,pm,an,cdv,ct,osl,rfl,l,c⟩,k⟩
end
theorem hu_of {A: Around} {k: Nat} (hr: Room k A): A.units + 1 < cLine:=Nat.lt_of_le_of_lt (Nat.add_le_add_left (by decide: 1 <= 64) _) hr.units
theorem small1000 {n: Nat} (h: n <= 1000): n < sizeLine:=Nat.lt_of_le_of_lt h (by decide)
section
variable {X: Cx}
theorem pv (i: Nat) {x: Str} {pos: Pos} (hN: X.N[i]? = some x:=by rfl) (hv: Vis X.env.scope x:=by first | exact Or.inl rfl | exact Or.inr (Or.inl rfl) | exact Or.inr (Or.inr rfl)) (hd: (x == ("__debug__": Str)) = false:=by decide)
  (hcd: (x == ("__classdict__": Str)) = false:=by decide): PE X (.Name x pos) (tVar i):=pe_var hN hv hd hcd
theorem call_lenD: CallR X (.builtin "len") (fun xs H Q => ∃ a kvs,xs = [V.ref a] /\ H a = some (.dK kvs) /\ Q (.int kvs.length) H):=by
 intro pins s σ H xs us Q I r h
 obtain ⟨a,kvs,rfl,ha,q⟩:=h
 obtain ⟨u,rfl,ru⟩:=vals1 r
 cases ru
 exact d_len I (.inl ha) fun t s' I' => ⟨.int kvs.length,H,I',⟨t,rfl⟩,q⟩
end
def Same (H H': Hp): Prop:=∀ b o,H b = some o -> H' b = some o
theorem Same.free {H H': Hp} (e: Same H H') {l: Addr} (h: H' l = Option.none): H l = Option.none:=by
 cases q: H l with
 | none => rfl
 | some o =>
  rw [e l o q] at h
  cases h
section
variable {κ: Type} [DecidableEq κ]
theorem valV_not {kvs: List (κ × V)} {k: κ} (h: valV kvs k = none): ¬ k ∈ kvs.map (·.1):=by
 intro m
 obtain ⟨p,hp,e⟩:=List.mem_map.mp m
 have q: (kvs.any fun kv => decide (kv.1 = k)) = true:=List.any_eq_true.mpr ⟨p,hp,decide_eq_true e⟩
 rw [valV_any,h] at q
 exact absurd q (by simp)
theorem valV_in {kvs: List (κ × V)} {k: κ} {v: V} (h: valV kvs k = some v): k ∈ kvs.map (·.1):=by
 have q: (kvs.any fun kv => decide (kv.1 = k)) = true:=by
  rw [valV_any,h]
  all_goals rfl
 obtain ⟨p,hp,e⟩:=List.any_eq_true.mp q
 exact List.mem_map.mpr ⟨p,hp,of_decide_eq_true e⟩
theorem nd_snoc: ∀ {l: List κ} {k: κ},l.Nodup -> ¬ k ∈ l -> (l ++ [k]).Nodup
 | [],k,_,_ => by simp
 | a :: r,k,h,hk => by
  obtain ⟨h1,h2⟩:=List.nodup_cons.mp h
  show (a :: (r ++ [k])).Nodup
  refine List.nodup_cons.mpr ⟨fun m => ?_,nd_snoc h2 fun m => hk (List.mem_cons.mpr (Or.inr m))⟩
  rcases List.mem_append.mp m with q | q
  ·exact h1 q
  ·exact hk (List.mem_cons.mpr (Or.inl (List.mem_singleton.mp q).symm))
theorem nd_putK {kvs: List (κ × V)} {k: κ} (v: V) (hn: (kvs.map (·.1)).Nodup) (h: valV kvs k = none): ((putK kvs k v).map (·.1)).Nodup:=by
 rw [putK_new v h,List.map_append]
 exact nd_snoc hn (valV_not h)
theorem dropK_pos {p: κ × V} {r: List (κ × V)} {k: κ} (e: p.1 = k): dropK (p :: r) k = dropK r k:=by
 unfold dropK
 rw [List.filter_cons,if_neg (by simp [e])]
theorem dropK_neg {p: κ × V} {r: List (κ × V)} {k: κ} (e: ¬ p.1 = k): dropK (p :: r) k = p :: dropK r k:=by
 unfold dropK
 rw [List.filter_cons,if_pos (by simp [e])]
theorem dropK_no: ∀ {kvs: List (κ × V)} {k: κ},¬ k ∈ kvs.map (·.1) -> dropK kvs k = kvs
 | [],_,_ => rfl
 | p :: r,k,h => by
  have h': ¬ k ∈ r.map (·.1):=fun m => by
   obtain ⟨q,hq,e⟩:=List.mem_map.mp m
   exact h (List.mem_map.mpr ⟨q,List.mem_cons.mpr (Or.inr hq),e⟩)
  rw [dropK_neg fun e => h (List.mem_map.mpr ⟨p,List.mem_cons.mpr (Or.inl rfl),e⟩),dropK_no h']
theorem dropK_mem {kvs: List (κ × V)} {k: κ} {p: κ × V} (h: p ∈ dropK kvs k): p ∈ kvs:=(List.mem_filter.mp h).1
theorem nd_dropK: ∀ {kvs: List (κ × V)} {k: κ},(kvs.map (·.1)).Nodup -> ((dropK kvs k).map (·.1)).Nodup
 | [],_,_ => List.nodup_nil
 | p :: r,k,h => by
  have h: (p.1 :: r.map (·.1)).Nodup:=h
  obtain ⟨h1,h2⟩:=List.nodup_cons.mp h
  by_cases e: p.1 = k
  ·rw [dropK_pos e]
   exact nd_dropK h2
  ·rw [dropK_neg e]
   show (p.1 :: (dropK r k).map (·.1)).Nodup
   refine List.nodup_cons.mpr ⟨fun m => h1 ?_,nd_dropK h2⟩
   obtain ⟨q,hq,eq⟩:=List.mem_map.mp m
   exact List.mem_map.mpr ⟨q,dropK_mem hq,eq⟩
theorem dropK_len: ∀ {kvs: List (κ × V)} {k: κ},(kvs.map (·.1)).Nodup -> k ∈ kvs.map (·.1) -> (dropK kvs k).length + 1 = kvs.length
 | [],_,_,m => by simp at m
 | p :: r,k,h,m => by
  have h: (p.1 :: r.map (·.1)).Nodup:=h
  have m: k = p.1 \/ k ∈ r.map (·.1):=List.mem_cons.mp m
  obtain ⟨h1,h2⟩:=List.nodup_cons.mp h
  by_cases e: p.1 = k
  ·subst e
   rw [dropK_pos rfl,dropK_no h1]
   all_goals rfl
  ·have m': k ∈ r.map (·.1):=m.resolve_left fun z => e z.symm
   have q:=dropK_len h2 m'
   rw [dropK_neg e,List.length_cons,List.length_cons]
   omega
end
theorem at_of {xs: List V} {z: Int} {j: Nat} {v: V} (e: z = (j: Int)) (h: xs[j]? = some v): atI xs z = some v:=by
 rw [e]
 exact atI_nat h
theorem nd_ix {α: Type} {l: List α} (hN: l.Nodup) {i j: Nat} {x: α} (a: l[i]? = some x) (b: l[j]? = some x): i = j:=by
 obtain ⟨h1,e1⟩:=List.getElem?_eq_some_iff.mp a
 obtain ⟨h2,e2⟩:=List.getElem?_eq_some_iff.mp b
 exact (List.getElem_inj hN).mp (e1.trans e2.symm)
end L2
namespace L2
open PySem PySem.Spec PyProof.Rows
open PySem.W (WData Codec OpenSpec Well WellAll ReadsW ReadsAllW)
mutual
inductive Dw (K: PySem.W.Frag) (H: Hp): V -> WData -> Prop
 | non: Dw K H .non .none
 | bl (b: Bool): Dw K H (.bl b) (.bool b)
 | int (i: Int): Dw K H (.int i) (.int i)
 | str (x: Str): Dw K H (.str x) (.str x)
 | byt (b: Array UInt8): Dw K H (.byt b) (.bytes b.toList)
 | lst {a: Addr} {xs: List V} {ds: List WData}: SqL K H a xs -> DwAll K H xs ds -> Dw K H (.ref a) (.list ds)
 | tup {a: Addr} {xs: List V} {ds: List WData}: SqT K H a xs -> DwAll K H xs ds -> Dw K H (.ref a) (.tuple ds)
inductive DwAll (K: PySem.W.Frag) (H: Hp): List V -> List WData -> Prop
 | nil: DwAll K H [] []
 | cons {v: V} {vs: List V} {d: WData} {ds: List WData}: Dw K H v d -> DwAll K H vs ds -> DwAll K H (v :: vs) (d :: ds)
end
theorem dw_ints {K: PySem.W.Frag} {H: Hp}: ∀ ns: List Int,DwAll K H (ns.map V.int) (ns.map WData.int)
 | [] => .nil
 | n :: r => .cons (.int n) (dw_ints r)
theorem ints_dw {K: PySem.W.Frag} {H: Hp}: ∀ (ns: List Int) (xs: List V),DwAll K H xs (ns.map WData.int) -> xs = ns.map V.int
 | [],xs,h => by
  cases h
  rfl
 | n :: r,xs,h => by
  cases h with
  | cons h1 h2 =>
   cases h1
   rw [ints_dw r _ h2] <;> rfl
section
variable {P: Program} {w: World} {K: PySem.W.Frag} {H: Hp} {h: Heap} {R: PySem.W.WRecords} {cl: Str -> Option Addr}
theorem sqL_at {a: Addr} {xs: List V} (hok: HOk P w H h) (KX: K.In h) (q: SqL K H a xs): ∃ (its: List Value) (o: Obj) (n: Nat),Vals xs its /\ h.get? a = some o /\ o.cls = .type "list" /\ o.data = .seq its.toArray n:=by
 rcases q with q | ⟨o,its,n,e,hc,_,hd,_,hv⟩
 ·obtain ⟨_,its,n,hv,e⟩:=(show ObjOk P w H h a (.lst xs) from q.ok hok)
  exact ⟨its,_,n,hv,e,rfl,rfl⟩
 ·exact ⟨its.toList,o,n,hv,KX _ _ e,hc,by simp [hd]⟩
theorem sqT_at {a: Addr} {xs: List V} (hok: HOk P w H h) (KX: K.In h) (q: SqT K H a xs): ∃ (its: List Value) (o: Obj) (n: Nat),Vals xs its /\ h.get? a = some o /\ o.cls = .type "tuple" /\ o.data = .seq its.toArray n:=by
 rcases q with q | ⟨o,its,n,e,hc,hd,_,hv⟩
 ·obtain ⟨_,its,hv,o,e,hc,n,hd⟩:=(show ObjOk P w H h a (.tup xs) from q.ok hok)
  exact ⟨its,o,n,hv,e,hc,hd⟩
 ·exact ⟨its.toList,o,n,hv,KX _ _ e,hc,by simp [hd]⟩
mutual
theorem Dw.reads (hok: HOk P w H h) (KX: K.In h): ∀ (d: WData) (v: V) (u: Value),Dw K H v d -> RelV v u -> ∃ as,ReadsW R cl h u d as
 | .none,_,_,x,r => by
  cases x
  cases r
  exact ⟨_,ReadsW.none⟩
 | .bool b,_,_,x,r => by
  cases x
  cases r
  exact ⟨_,ReadsW.bool b⟩
 | .int i,_,_,x,r => by
  cases x
  obtain ⟨t,rfl⟩:=r
  exact ⟨_,ReadsW.int i t⟩
 | .str s,_,_,x,r => by
  cases x
  obtain ⟨t,rfl⟩:=r
  exact ⟨_,ReadsW.str s t⟩
 | .bytes b,_,_,x,r => by
  cases x
  obtain ⟨t,rfl⟩:=r
  exact ⟨_,ReadsW.bytes _ t⟩
 | .list ds,_,_,x,r => by
  cases x with
  | lst hs ha =>
   cases r
   obtain ⟨its,o,n,rv,ho,hc,hd⟩:=sqL_at hok KX hs
   obtain ⟨as,hr⟩:=Dw.readsAll hok KX ds _ its ha rv
   exact ⟨_,ReadsW.list ho hc hd hr⟩
 | .tuple ds,_,_,x,r => by
  cases x with
  | tup hs ha =>
   cases r
   obtain ⟨its,o,n,rv,ho,hc,hd⟩:=sqT_at hok KX hs
   obtain ⟨as,hr⟩:=Dw.readsAll hok KX ds _ its ha rv
   exact ⟨_,ReadsW.tuple ho hc hd hr⟩
 | .float _,_,_,x,_ => by cases x
 | .dict _,_,_,x,_ => by cases x
 | .bytearray _,_,_,x,_ => by cases x
 | .set _,_,_,x,_ => by cases x
 | .frozenset _,_,_,x,_ => by cases x
 | .obj _ _,_,_,x,_ => by cases x
theorem Dw.readsAll (hok: HOk P w H h) (KX: K.In h): ∀ (ds: List WData) (vs: List V) (us: List Value),DwAll K H vs ds -> Vals vs us -> ∃ as,ReadsAllW R cl h us ds as
 | [],_,_,x,r => by
  cases x
  cases r
  exact ⟨_,ReadsAllW.nil⟩
 | d :: ds,_,_,x,r => by
  cases x with
  | cons h1 h2 =>
   cases r with
   | cons r1 r2 =>
    obtain ⟨as,q1⟩:=Dw.reads hok KX d _ _ h1 r1
    obtain ⟨bs,q2⟩:=Dw.readsAll hok KX ds _ _ h2 r2
    exact ⟨_,ReadsAllW.cons q1 q2⟩
end
end
mutual
def plW: WData -> Bool
 | .none => true
 | .bool _ => true
 | .int _ => true
 | .str _ => true
 | .bytes _ => true
 | .list xs => plWs xs
 | .tuple xs => plWs xs
 | _ => false
def plWs: List WData -> Bool
 | [] => true
 | x :: r => plW x && plWs r
end
theorem plWs_map {α: Type} {f: α -> WData} (h: ∀ a,plW (f a) = true): ∀ l: List α,plWs (l.map f) = true
 | [] => rfl
 | x :: r => by
  show (plW (f x) && plWs (r.map f)) = true
  rw [h x,plWs_map h r] <;> rfl
theorem pl_enc: ∀ (c: Codec) (a: c.denote),plW (c.enc a) = true
 | .unit,_ => rfl
 | .bool,_ => rfl
 | .int _ _,_ => rfl
 | .nat _ _,_ => rfl
 | .u8,_ => rfl
 | .bytes _ _,_ => rfl
 | .text _ _ _ _,_ => rfl
 | .list _ _ c,a => plWs_map (fun x => pl_enc c x) a
 | .pair c d,a => by
  show (plW (c.enc a.1) && (plW (d.enc a.2) && true)) = true
  rw [pl_enc c a.1,pl_enc d a.2] <;> rfl
 | .triple c d e,a => by
  show (plW (c.enc a.1) && (plW (d.enc a.2.1) && (plW (e.enc a.2.2) && true))) = true
  rw [pl_enc c a.1,pl_enc d a.2.1,pl_enc e a.2.2] <;> rfl
 | .option c,none => rfl
 | .option c,some x => pl_enc c x
theorem pl_encAll: ∀ (cs: List Codec) (a: Codec.denoteAll cs),plWs (Codec.encAll cs a) = true
 | [],_ => rfl
 | c :: cs,a => by
  show (plW (c.enc a.1) && plWs (Codec.encAll cs a.2)) = true
  rw [pl_enc c a.1,pl_encAll cs a.2] <;> rfl
theorem weight_mem: ∀ {xs: List WData} {d: WData},d ∈ xs -> d.weight <= WData.weightAll xs
 | [],d,h => absurd h (by simp)
 | x :: r,d,h => by
  show d.weight <= x.weight + 1 + WData.weightAll r
  rcases List.mem_cons.mp h with e | m
  ·rw [e]
   omega
  ·have z:=weight_mem m
   omega
def toV: Value -> V
 | .none => .non
 | .bool b => .bl b
 | .int i _ => .int i
 | .str x _ => .str x
 | .bytes b _ => .byt b
 | .ref a => .ref a
 | _ => .non
def OkU (A: List Addr): Value -> Prop
 | .none => True
 | .bool _ => True
 | .int _ _ => True
 | .str _ _ => True
 | .bytes _ _ => True
 | .ref a => a ∈ A
 | _ => False
theorem OkU.mono {A B: List Addr} (h: ∀ a ∈ A,a ∈ B): ∀ {u: Value},OkU A u -> OkU B u:=fun {u} x => by
 cases u with
 | ref a => exact h a x
 | none => trivial
 | bool b => trivial
 | int i t => trivial
 | str s t => trivial
 | bytes b t => trivial
 | _ => exact False.elim x
theorem relV_toV {A: List Addr} {u: Value} (x: OkU A u): RelV (toV u) u:=by
 cases u with
 | ref a => rfl
 | none => rfl
 | bool b => rfl
 | int i t => exact ⟨t,rfl⟩
 | str s t => exact ⟨t,rfl⟩
 | bytes b t => exact ⟨t,rfl⟩
 | _ => exact False.elim x
theorem vals_toV {A: List Addr}: ∀ {vs: List Value},(∀ u ∈ vs,OkU A u) -> Vals (vs.map toV) vs
 | [],_ => .nil
 | u :: r,h => .cons (relV_toV (h u (List.mem_cons_self ..))) (vals_toV fun x hx => h x (List.mem_cons_of_mem _ hx))
def ArgOb (h: Heap) (A: List Addr) (a: Addr): Prop:=∃ vs: List Value,vs.length <= sizeLine /\ (∀ u ∈ vs,OkU A u) /\
 (h.get? a = some { cls:=.type "list",data:=.seq vs.toArray } \/ h.get? a = some { cls:=.type "tuple",data:=.seq vs.toArray })
theorem ArgOb.mono {h: Heap} {A B: List Addr} {a: Addr} (k: ∀ a ∈ A,a ∈ B) (x: ArgOb h A a): ArgOb h B a:=by
 obtain ⟨vs,h1,h2,h3⟩:=x
 exact ⟨vs,h1,fun u hu => (h2 u hu).mono k,h3⟩
theorem wellAll_len {P: Params} {h: Heap}: ∀ {vs: List Value} {ds: List WData},WellAll P h vs ds -> vs.length = ds.length
 | _,_,.nil => rfl
 | _,_,.cons _ b => by
  show _ + 1 = _ + 1
  rw [wellAll_len b]
theorem well_list {P: Params} {h: Heap} {v: Value} {ds: List WData} (x: Well P h v (.list ds)): ∃ (a: Addr) (vs: List Value),v = .ref a /\ h.get? a = some { cls:=.type "list",data:=.seq vs.toArray } /\ WellAll P h vs ds:=by
 cases x with
 | list ho hall => exact ⟨_,_,rfl,ho,hall⟩
theorem well_tuple {P: Params} {h: Heap} {v: Value} {ds: List WData} (x: Well P h v (.tuple ds)): ∃ (a: Addr) (vs: List Value),v = .ref a /\ h.get? a = some { cls:=.type "tuple",data:=.seq vs.toArray } /\ WellAll P h vs ds:=by
 cases x with
 | tuple ho hall => exact ⟨_,_,rfl,ho,hall⟩
theorem well_cons {P: Params} {h: Heap} {us: List Value} {d: WData} {ds: List WData} (x: WellAll P h us (d :: ds)): ∃ (v: Value) (vs: List Value),us = v :: vs /\ Well P h v d /\ WellAll P h vs ds:=by
 cases x with
 | cons a b => exact ⟨_,_,rfl,a,b⟩
theorem line_of {n: Nat} (h: n <= 1048576): n <= sizeLine:=Nat.le_trans h (by decide)
section
variable {P: Params} {h: Heap}
mutual
theorem area_one: ∀ (d: WData) (v: Value),Well P h v d -> plW d = true -> d.weight <= 1048576 -> ∃ A: List Addr,OkU A v /\ ∀ a ∈ A,ArgOb h A a
 | .none,_,x,_,_ => by
  cases x
  exact ⟨[],trivial,fun a m => absurd m (by simp)⟩
 | .bool b,_,x,_,_ => by
  cases x
  exact ⟨[],trivial,fun a m => absurd m (by simp)⟩
 | .int i,_,x,_,_ => by
  cases x
  exact ⟨[],trivial,fun a m => absurd m (by simp)⟩
 | .str s,_,x,_,_ => by
  cases x
  exact ⟨[],trivial,fun a m => absurd m (by simp)⟩
 | .bytes b,_,x,_,_ => by
  cases x
  exact ⟨[],trivial,fun a m => absurd m (by simp)⟩
 | .list ds,_,x,p,z => by
  obtain ⟨a,vs,rfl,ho,hall⟩:=well_list x
  have z2: WData.weightAll ds <= 1048576:=z
  obtain ⟨A,h1,h2⟩:=area_all ds _ hall p fun d hd => Nat.le_trans (weight_mem hd) z2
  have k: ∀ b ∈ A,b ∈ a :: A:=fun b hb => List.mem_cons_of_mem _ hb
  refine ⟨a :: A,List.mem_cons_self ..,fun b hb => ?_⟩
  rcases List.mem_cons.mp hb with e | m
  ·rw [e]
   exact ⟨vs,line_of (by rw [wellAll_len hall]; exact Nat.le_trans (PySem.W.length_le_weightAllW ds) z2),fun u hu => (h1 u hu).mono k,.inl ho⟩
  ·exact (h2 b m).mono k
 | .tuple ds,_,x,p,z => by
  obtain ⟨a,vs,rfl,ho,hall⟩:=well_tuple x
  have z2: WData.weightAll ds <= 1048576:=z
  obtain ⟨A,h1,h2⟩:=area_all ds _ hall p fun d hd => Nat.le_trans (weight_mem hd) z2
  have k: ∀ b ∈ A,b ∈ a :: A:=fun b hb => List.mem_cons_of_mem _ hb
  refine ⟨a :: A,List.mem_cons_self ..,fun b hb => ?_⟩
  rcases List.mem_cons.mp hb with e | m
  ·rw [e]
   exact ⟨vs,line_of (by rw [wellAll_len hall]; exact Nat.le_trans (PySem.W.length_le_weightAllW ds) z2),fun u hu => (h1 u hu).mono k,.inr ho⟩
  ·exact (h2 b m).mono k
 | .float _,_,_,p,_ => Bool.noConfusion (show false = true from p)
 | .dict _,_,_,p,_ => Bool.noConfusion (show false = true from p)
 | .bytearray _,_,_,p,_ => Bool.noConfusion (show false = true from p)
 | .set _,_,_,p,_ => Bool.noConfusion (show false = true from p)
 | .frozenset _,_,_,p,_ => Bool.noConfusion (show false = true from p)
 | .obj _ _,_,_,p,_ => Bool.noConfusion (show false = true from p)
theorem area_all: ∀ (ds: List WData) (vs: List Value),WellAll P h vs ds -> plWs ds = true -> (∀ d ∈ ds,d.weight <= 1048576) -> ∃ A: List Addr,(∀ u ∈ vs,OkU A u) /\ ∀ a ∈ A,ArgOb h A a
 | [],_,x,_,_ => by
  cases x
  exact ⟨[],fun u m => absurd m (by simp),fun a m => absurd m (by simp)⟩
 | d :: ds,_,x,p,z => by
  obtain ⟨v,vs,rfl,x1,x2⟩:=well_cons x
  have q: plW d = true /\ plWs ds = true:=Bool.and_eq_true_iff.mp p
  obtain ⟨A,a1,a2⟩:=area_one d v x1 q.1 (z d (List.mem_cons_self ..))
  obtain ⟨B,b1,b2⟩:=area_all ds vs x2 q.2 fun e he => z e (List.mem_cons_of_mem _ he)
  have kA: ∀ b ∈ A,b ∈ A ++ B:=fun b hb => List.mem_append.mpr (.inl hb)
  have kB: ∀ b ∈ B,b ∈ A ++ B:=fun b hb => List.mem_append.mpr (.inr hb)
  refine ⟨A ++ B,fun u hu => ?_,fun b hb => ?_⟩
  ·rcases List.mem_cons.mp hu with e | m
   ·rw [e]
    exact a1.mono kA
   ·exact (b1 u m).mono kB
  ·rcases List.mem_append.mp hb with m | m
   ·exact (a2 b m).mono kA
   ·exact (b2 b m).mono kB
end
end
def hoOf (o: Obj): Option HO:=match o.data with
 | .seq vs _ => if (o.cls == Value.type "list") = true then some (.frz o (.lst (vs.toList.map toV))) else some (.frz o (.tup (vs.toList.map toV)))
 | _ => none
def argH (K: PySem.W.Frag) (h: Heap) (A: List Addr): Hp:=fun b => if b ∈ A then (if (K.lookup b).isNone = true then (h.get? b).bind hoOf else none) else none
def OnlyF (H: Hp): Prop:=∀ b,H b = none \/ ∃ o u,H b = some (.frz o u)
theorem hoOf_lst (vs: List Value): hoOf { cls:=.type "list",data:=.seq vs.toArray } = some (.frz { cls:=.type "list",data:=.seq vs.toArray } (.lst (vs.map toV))):=by
 show (if (Value.type "list" == Value.type "list") = true then some (HO.frz { cls:=.type "list",data:=.seq vs.toArray } (.lst (vs.toArray.toList.map toV))) else some (HO.frz { cls:=.type "list",data:=.seq vs.toArray } (.tup (vs.toArray.toList.map toV)))) = _
 rw [if_pos (beq_self_eq_true _)]
theorem hoOf_tup (vs: List Value): hoOf { cls:=.type "tuple",data:=.seq vs.toArray } = some (.frz { cls:=.type "tuple",data:=.seq vs.toArray } (.tup (vs.map toV))):=by
 show (if (Value.type "tuple" == Value.type "list") = true then some (HO.frz { cls:=.type "tuple",data:=.seq vs.toArray } (.lst (vs.toArray.toList.map toV))) else some (HO.frz { cls:=.type "tuple",data:=.seq vs.toArray } (.tup (vs.toArray.toList.map toV)))) = _
 rw [if_neg (by decide)]
section
variable {P: Program} {w: World} {K: PySem.W.Frag} {h: Heap} {A: List Addr}
theorem argH_at {b: Addr} {o: Obj} (hb: b ∈ A) (hk: K.lookup b = none) (e: h.get? b = some o): argH K h A b = hoOf o:=by
 unfold argH
 rw [if_pos hb,hk,if_pos (show (none: Option Obj).isNone = true from rfl),e] <;> rfl
theorem of_argH {b: Addr} {u: HO} (q: argH K h A b = some u): b ∈ A /\ K.lookup b = none:=by
 unfold argH at q
 by_cases hb: b ∈ A
 ·rw [if_pos hb] at q
  cases hk: K.lookup b with
  | none => exact ⟨hb,rfl⟩
  | some o =>
   rw [hk,if_neg (by simp)] at q
   cases q
 ·rw [if_neg hb] at q
  cases q
theorem argH_is (ar: ∀ a ∈ A,ArgOb h A a) {b: Addr} {u: HO} (q: argH K h A b = some u): K.lookup b = none /\ ∃ vs: List Value,vs.length <= sizeLine /\ (∀ u ∈ vs,OkU A u) /\
  ((h.get? b = some { cls:=.type "list",data:=.seq vs.toArray } /\ u = .frz { cls:=.type "list",data:=.seq vs.toArray } (.lst (vs.map toV))) \/
   (h.get? b = some { cls:=.type "tuple",data:=.seq vs.toArray } /\ u = .frz { cls:=.type "tuple",data:=.seq vs.toArray } (.tup (vs.map toV)))):=by
 obtain ⟨hb,hk⟩:=of_argH q
 obtain ⟨vs,h1,h2,h3⟩:=ar b hb
 refine ⟨hk,vs,h1,h2,?_⟩
 rcases h3 with e | e
 ·rw [argH_at hb hk e,hoOf_lst] at q
  exact .inl ⟨e,(Option.some.inj q).symm⟩
 ·rw [argH_at hb hk e,hoOf_tup] at q
  exact .inr ⟨e,(Option.some.inj q).symm⟩
theorem argH_only (ar: ∀ a ∈ A,ArgOb h A a): OnlyF (argH K h A):=fun b => by
 cases q: argH K h A b with
 | none => exact .inl rfl
 | some u =>
  obtain ⟨_,vs,_,_,⟨_,e⟩ | ⟨_,e⟩⟩:=argH_is ar q
  ·exact .inr ⟨_,_,by rw [e]⟩
  ·exact .inr ⟨_,_,by rw [e]⟩
theorem argH_ok (ar: ∀ a ∈ A,ArgOb h A a): HOk P w (argH K h A) h:=fun b u q => by
 obtain ⟨_,vs,h1,h2,⟨e,rfl⟩ | ⟨e,rfl⟩⟩:=argH_is ar q
 ·exact ⟨e,by rw [List.length_map]; exact h1,vs,_,vals_toV h2,e⟩
 ·exact ⟨e,by rw [List.length_map]; exact h1,vs,vals_toV h2,_,e,rfl,_,rfl⟩
theorem seq_inj {c c': Value} {vs us: List Value} (e: (some { cls:=c,data:=.seq vs.toArray }: Option Obj) = some { cls:=c',data:=.seq us.toArray }): c = c' /\ vs = us:=by
 have e1:=Option.some.inj e
 have e2: c = c':=congrArg Obj.cls e1
 have e3: Data.seq vs.toArray = Data.seq us.toArray:=congrArg Obj.data e1
 injection e3 with e4
 refine ⟨e2,?_⟩
 have e5:=congrArg Array.toList e4
 simpa using e5
theorem argL (KX: K.In h) (ar: ∀ a ∈ A,ArgOb h A a) {a: Addr} {vs: List Value} (ha: a ∈ A) (e: h.get? a = some { cls:=.type "list",data:=.seq vs.toArray }): (∀ u ∈ vs,OkU A u) /\ SqL K (argH K h A) a (vs.map toV):=by
 obtain ⟨us,h1,h2,h3⟩:=ar a ha
 have hu: us = vs:=by
  rcases h3 with q | q
  ·rw [e] at q
   exact (seq_inj q).2.symm
  ·rw [e] at q
   exact absurd (Value.type.inj (seq_inj q).1) (by decide)
 subst hu
 refine ⟨h2,?_⟩
 cases hk: K.lookup a with
 | none => exact .inl (.inr ⟨_,by rw [argH_at ha hk e,hoOf_lst]⟩)
 | some o =>
  have e2:=KX a o hk
  rw [e] at e2
  obtain rfl:=Option.some.inj e2
  exact .inr ⟨_,us.toArray,_,hk,rfl,rfl,rfl,by rw [List.size_toArray]; exact h1,by simpa using vals_toV h2⟩
theorem argT (KX: K.In h) (ar: ∀ a ∈ A,ArgOb h A a) {a: Addr} {vs: List Value} (ha: a ∈ A) (e: h.get? a = some { cls:=.type "tuple",data:=.seq vs.toArray }): (∀ u ∈ vs,OkU A u) /\ SqT K (argH K h A) a (vs.map toV):=by
 obtain ⟨us,h1,h2,h3⟩:=ar a ha
 have hu: us = vs:=by
  rcases h3 with q | q
  ·rw [e] at q
   exact absurd (Value.type.inj (seq_inj q).1) (by decide)
  ·rw [e] at q
   exact (seq_inj q).2.symm
 subst hu
 refine ⟨h2,?_⟩
 cases hk: K.lookup a with
 | none => exact .inl (.inr ⟨_,by rw [argH_at ha hk e,hoOf_tup]⟩)
 | some o =>
  have e2:=KX a o hk
  rw [e] at e2
  obtain rfl:=Option.some.inj e2
  exact .inr ⟨_,us.toArray,_,hk,rfl,rfl,by rw [List.size_toArray]; exact h1,by simpa using vals_toV h2⟩
mutual
theorem dw_one {Pm: Params} (KX: K.In h) (ar: ∀ a ∈ A,ArgOb h A a): ∀ (d: WData) (v: Value),Well Pm h v d -> plW d = true -> OkU A v -> Dw K (argH K h A) (toV v) d
 | .none,_,x,_,_ => by
  cases x
  exact .non
 | .bool b,_,x,_,_ => by
  cases x
  exact .bl b
 | .int i,_,x,_,_ => by
  cases x
  exact .int i
 | .str s,_,x,_,_ => by
  cases x
  exact .str s
 | .bytes b,_,x,_,_ => by
  cases x
  have z:=Dw.byt (K:=K) (H:=argH K h A) b.toArray
  exact z
 | .list ds,_,x,p,hu => by
  obtain ⟨a,vs,rfl,ho,hall⟩:=well_list x
  obtain ⟨h2,hs⟩:=argL KX ar hu ho
  exact .lst hs (dw_all KX ar ds _ hall p h2)
 | .tuple ds,_,x,p,hu => by
  obtain ⟨a,vs,rfl,ho,hall⟩:=well_tuple x
  obtain ⟨h2,hs⟩:=argT KX ar hu ho
  exact .tup hs (dw_all KX ar ds _ hall p h2)
 | .float _,_,_,p,_ => Bool.noConfusion (show false = true from p)
 | .dict _,_,_,p,_ => Bool.noConfusion (show false = true from p)
 | .bytearray _,_,_,p,_ => Bool.noConfusion (show false = true from p)
 | .set _,_,_,p,_ => Bool.noConfusion (show false = true from p)
 | .frozenset _,_,_,p,_ => Bool.noConfusion (show false = true from p)
 | .obj _ _,_,_,p,_ => Bool.noConfusion (show false = true from p)
theorem dw_all {Pm: Params} (KX: K.In h) (ar: ∀ a ∈ A,ArgOb h A a): ∀ (ds: List WData) (vs: List Value),WellAll Pm h vs ds -> plWs ds = true -> (∀ u ∈ vs,OkU A u) -> DwAll K (argH K h A) (vs.map toV) ds
 | [],_,x,_,_ => by
  cases x
  exact .nil
 | d :: ds,_,x,p,hu => by
  obtain ⟨v,vs,rfl,x1,x2⟩:=well_cons x
  have q: plW d = true /\ plWs ds = true:=Bool.and_eq_true_iff.mp p
  exact .cons (dw_one KX ar d v x1 q.1 (hu _ (List.mem_cons_self ..))) (dw_all KX ar ds vs x2 q.2 fun u m => hu u (List.mem_cons_of_mem _ m))
end
end
theorem spec_call {P: Program} {w: World} {K: PySem.W.Frag} {mg mb: Str -> Option Value} {CX: CXT} {k: Nat} {fa: Addr} {fd: FuncData} {ps: List Str} {sp: Sp} {s₁: Shared} {vals: List Value} {ds: List WData} {R: PySem.W.WRecords} {cl: Str -> Option Addr} {d0: WData}
  (KX: K.In s₁.heap) (hns: s₁.heap.Ns mainGlobals mg) (hb: s₁.heap.Ns builtinsNs mb) (hbb: ∀ x: Str,x ≠ "__name__" -> mb x = bootBuiltins x) (hlim: s₁.heap.NoLimit) (hg: s₁.gens = #[])
  (hwl: WellAll w.params s₁.heap vals ds) (hpl: plWs ds = true) (hwt: ∀ d ∈ ds,d.weight <= 1048576) (hr: Room k callerA)
  (F: ∀ base: Heap,K.In base -> base.Ns mainGlobals mg -> FnOk P w K mg base CX k fa fd ps sp) (hbind: ∀ (s: Shared) (us: List Value),us.length = ps.length -> BindsTo s fd ⟨us,[]⟩ (ps.zip us)) (hlen: ds.length = ps.length)
  (hsp: ∀ (H: Hp) (xs: List V),OnlyF H -> DwAll K H xs ds -> sp xs H (fun v H' => Dw K H' v d0) fun _ _ _ => False)
  (hCX: ∀ H e s',CX [] H s₁ (fun _ _ _ => False) e s' -> False) :
  codeAny (model P w) callerA (.call (.ref fa) ⟨vals,[]⟩) (fun r s' => ∃ u as,r = .ok (.ret u) /\ ReadsW R cl s'.heap u d0 as /\ OldK s₁.heap s'.heap /\ s'.os = s₁.os /\ AllBare s'.gens) s₁:=by
 obtain ⟨A,ho,ar⟩:=area_all ds vals hwl hpl hwt
 have hO: OnlyF (argH K s₁.heap A):=argH_only ar
 have hok: HOk P w (argH K s₁.heap A) s₁.heap:=argH_ok ar
 have hS:=dw_all KX ar ds vals hwl hpl ho
 have hV:=vals_toV ho
 have hK: ∀ b u,argH K s₁.heap A b = some u -> K.lookup b = none:=fun b u q => (argH_is ar q).1
 have noA: ∀ {b: Addr} {o: Obj} {es: Array DictEntry} {ep: Nat},s₁.heap.get? b = some o -> o.data = .dict es ep -> argH K s₁.heap A b = none:=fun {b o es ep} e d => by
  cases q: argH K s₁.heap A b with
  | none => rfl
  | some u =>
   obtain ⟨_,vs,_,_,⟨e2,_⟩ | ⟨e2,_⟩⟩:=argH_is ar q
   ·rw [e2] at e
    cases e
    have d': Data.seq vs.toArray _ = Data.dict es ep:=d
    cases d'
   ·rw [e2] at e
    cases e
    have d': Data.seq vs.toArray _ = Data.dict es ep:=d
    cases d'
 generalize argH K s₁.heap A = H at hO hok hS hK noA
 have base_of: ∀ {b: Addr} {o: Obj},s₁.heap.get? b = some o -> H b = none -> (hidT s₁.heap H).get? b = some o:=fun e n => hidT_get e n
 have nsK: ∀ {b: Addr} {m: Str -> Option Value},s₁.heap.Ns b m -> (hidT s₁.heap H).Ns b m:=fun {b m} ⟨o,es,ep,e,d,r⟩ => ⟨o,es,ep,base_of e (noA e d),d,r⟩
 have nK: ∀ b o,K.lookup b = some o -> H b = none:=fun b o e => by
  cases q: H b with
  | none => rfl
  | some u =>
   rw [hK b u q] at e
   cases e
 have hKb: K.In (hidT s₁.heap H):=fun b o e => base_of (KX b o e) (nK b o e)
 have hM: Mod K mg (hidT s₁.heap H):=⟨hKb,nsK hns,⟨mb,nsK hb,hbb⟩,let ⟨mc,h1,h2⟩:=hlim; ⟨mc,nsK h1,h2⟩⟩
 have e0: Env0 P w K mg (hidT s₁.heap H) callerA [] s₁ H:=⟨rfl,hM,fun b o e => of_hidT e,Nat.le_of_eq (hidT_size _ _),trivial,fun b hb => absurd (show b ∈ ([]: List Addr) from hb) (by simp),hok,.of_eq hg⟩
 have hl: vals.length = ps.length:=by rw [wellAll_len hwl]; exact hlen
 refine codeAny_mono ((F _ hKb (nsK hns)).run callerA [] s₁ H ⟨vals,[]⟩ vals (vals.map toV) _ _ hr e0 (hbind s₁ vals hl) hV (hsp H _ hO hS)) fun r s' x => ?_
 cases r with
 | error e => exact (hCX H e s' x).elim
 | ok fl =>
  cases fl with
  | next => exact False.elim x
  | brk => exact False.elim x
  | cont => exact False.elim x
  | ret u =>
   obtain ⟨v,H',os,bare,un,hok',r',q⟩:=x
   have kept: ∀ b o,s₁.heap.get? b = some o -> s'.heap.get? b = some o:=fun b o e => by
    cases q2: H b with
    | none => exact un.keep b o e q2 (by intro z; exact absurd (show b ∈ ([]: List Addr) from z) (by simp)) (by simp)
    | some u2 =>
     rcases hO b with z | ⟨ob,u3,z⟩
     ·rw [q2] at z
      cases z
     ·have z2:=un.frzs b ob _ z
      obtain ⟨e1,_⟩:=hok b _ z
      obtain ⟨e2,_⟩:=hok' b _ z2
      rw [e] at e1
      cases e1
      exact e2
   have KX': K.In s'.heap:=fun b o e => kept b o (KX b o e)
   obtain ⟨as,hrd⟩:=Dw.reads (R:=R) (cl:=cl) hok' KX' d0 v u q r'
   exact ⟨u,as,rfl,hrd,OldK.of_keep kept,os,bare⟩
theorem layable_weight {ds: List WData} (h: WData.layableAll ds = true): ∀ d ∈ ds,d.weight <= 1048576:=fun d hd =>
 (PySem.W.layableW_iff.mp (List.all_eq_true.mp h d hd)).2.2
theorem encAll_len: ∀ (cs: List Codec) (a: Codec.denoteAll cs),(Codec.encAll cs a).length = cs.length
 | [],_ => rfl
 | c :: cs,a => by
  show (Codec.encAll cs a.2).length + 1 = cs.length + 1
  rw [encAll_len cs a.2]
theorem walk_spec {r: OpenSpec} {k: Nat} {q: Program} {loose: List Str} {XP: (Str -> Option Value) -> Heap -> Prop} {YP: World -> Heap -> Prop} {d: DefRec} {K: Params -> PySem.W.Frag} {CX: World -> CXT} {ps: List Str} {sp: World -> Sp}
  (hwell: r.wellSaid = true) (hdf: d.params.defaults = []) (hlen: r.args.length = ps.length) (hr: Room k callerA)
  (hY: ∀ (w: World) (h: Heap),YP w h -> (K w.params).In h)
  (F: ∀ (w: World) (mg: Str -> Option Value) (fa: Addr) (h: Heap),YP w h -> (K w.params).In h -> h.Ns mainGlobals mg -> mg d.name = some (.ref fa) ->
   ∃ fd: FuncData,(∀ (s: Shared) (us: List Value),us.length = ps.length -> BindsTo s fd ⟨us,[]⟩ (ps.zip us)) /\
    ∀ base: Heap,(K w.params).In base -> base.Ns mainGlobals mg -> FnOk r.prog w (K w.params) mg base (CX w) k fa fd ps (sp w))
  (hsp: ∀ (w: World) (H: Hp) (xs: List V) (a: Codec.denoteAll r.args),OnlyF H -> Codec.withinAll r.args a = true -> Codec.app r.args r.asked a = true -> DwAll (K w.params) H xs (Codec.encAll r.args a) ->
   sp w xs H (fun v H' => Dw (K w.params) H' v (r.ret.enc (Codec.app r.args r.f a))) fun _ _ _ => False)
  (hCX: ∀ (w: World) (H: Hp) (s: Shared) (e: Value) (s': Shared),CX w [] H s (fun _ _ _ => False) e s' -> False) :
  PySem.W.WalkOS q loose XP YP r d [] (fun f vs => PySem.call f vs):=by
 intro w s_0 s₁ mg mb G Y fa o pm cd doc dV kV ho hd hcd hD hmg hg args vals as hpre hlay hrd hwl hlo
 obtain ⟨a,e1,e2⟩:=PySem.W.os_pre_some hpre
 obtain ⟨e3,hwi⟩:=Codec.encAll_of_decAll r.args args a e1
 subst e3
 have KX:=hY w _ Y
 obtain ⟨fd,hb,hF⟩:=F w mg fa _ Y KX G.T.g hmg
 refine PySem.W.enter_call (codeAny_mono (spec_call (R:=[]) (cl:=classAt s_0.heap) (d0:=r.ret.enc (Codec.app r.args r.f a)) KX G.T.g G.T.b G.T.builtins G.T.nolimit hg hwl (pl_encAll _ _) (layable_weight hlay) hr hF hb (by rw [encAll_len]; exact hlen)
  (fun H xs hO hS => hsp w H xs a hO hwi e2 hS) fun H e s' => hCX w H s₁ e s') fun r' s' hq => ?_)
 obtain ⟨u,as',rfl,h1,h2,h3,h4⟩:=hq
 exact ⟨.inl ⟨u,_,as',rfl,fun _ => rfl,h1,(OpenSpec.post_iff hwell hwi _ _).mpr rfl,fun z => Bool.noConfusion (show false = true from z)⟩,h2,h3,h4⟩
end L2
section
namespace Xc
open PySem PySem.Spec PyProof.Rows L2
section
variable {M: Model} {A: Around} {E: Value -> Shared -> Prop} {s: Shared}
def Tb (h: Heap) (vs: Array Value) (T: Option Addr): Prop:=match T with
 | none => vs[1]? = some .none
 | some t => vs[1]? = some (.ref t) /\ ∃ o ts,h.get? t = some o /\ o.data = .fields ts /\ ts[3]? = some .none
structure Gone (l: List Addr) (a: Addr) (oe: Obj) (h h': Heap) (T: Addr): Prop where
 keep: ∀ b o,b ≠ a -> b ∉ l -> h.get? b = some o -> h'.get? b = some o
 slot: ∀ b o,b ≠ a -> h.get? b = some o -> ∃ sl,h'.get? b = some { o with slots:=sl }
 new: h.get? T = none
 exc: h'.get? a = some (oe.mapFields (·.setIfInBounds 1 (.ref T)))
 tb: ∃ o ts,h'.get? T = some o /\ o.data = .fields ts /\ ts[3]? = some .none /\ o.cls = .type "traceback"
theorem entry_ok {base: Heap} {env: Env} {outer: List Env} {L a: Addr} {oe: Obj} {vs: Array Value} {head: Value} {had: Bool} {Q: Unit -> Shared -> Prop}
  (fr: A.frames = some (env :: outer)) (ff: s.heap.FunFrames base (env :: outer)) (fL: env.frame = some L) (ea: s.heap.get? a = some oe) (da: oe.data = .fields vs) (sz: 1 < vs.size)
  (q: ∀ h' T,Gone (frs (env :: outer)) a oe s.heap h' T -> Q () { s with heap:=h' }) :
  wpAny M A (do let f <- frameOf env; let pl <- entryPlaceOf L had; let n <- EntryCells.newEntry head f .none (rawInt L) .none pl; setField (.ref a) 1 n) (fun _ s' => wpAny M A (setFlight (.ref a) none) Q E s') E s:=by
 have na: a ∉ frs (env :: outer):=fun hm => by
  obtain ⟨_,o,ho,nf⟩:=ff.mem hm
  rw [ea] at ho
  cases ho
  exact nf vs da
 refine wpAny_bind (wpAny_frameOf_fun fr ff fL fun g1 w1 => ?_)
 refine wpAny_bind (wpAny_entryPlaceOf fun pl ipl => ?_)
 unfold EntryCells.newEntry newFields
 refine wpAny_bind (wpAny_newObj_type ?_ (ipl.sizeOk5 _ _ _ _ _))
 generalize hR: ({ cls:=Value.type "traceback",dict:=none,data:=Data.fields ([head,Value.ref L,Value.none,rawInt L,Value.none] ++ (if pl.isEmpty then List.replicate 6 Value.none else pl)).toArray }: Obj) = R
 have ea1: g1.get? a = some oe:=(w1.2.1 a na).trans ea
 have dR: R.data = .fields ([head,Value.ref L,Value.none,rawInt L,Value.none] ++ (if pl.isEmpty then List.replicate 6 Value.none else pl)).toArray:=by rw [<- hR]
 have fR: R.isFreed = false:=Obj.isFreed_of_fields dR
 have ea2: (g1.push R).get? a = some oe:=Heap.get?_push_of_some _ ea1
 have eT2: (g1.push R).get? g1.objs.size = some R:=Heap.get?_push_size g1 fR
 have neT: g1.objs.size ≠ a:=Nat.ne_of_gt (Heap.lt_size ea1)
 have da3:=Obj.data_mapFields da (·.setIfInBounds 1 (Value.ref g1.objs.size))
 refine wpAny_setField ea2 da sz ?_
 have ea3:=Heap.get?_update_self (Obj.mapFields (·.setIfInBounds 1 (Value.ref g1.objs.size))) ea2 (Obj.isFreed_of_fields da3)
 have eT3:=(Heap.get?_update_other (g1.push R) (Obj.mapFields (·.setIfInBounds 1 (Value.ref g1.objs.size))) (Ne.symm neT)).trans eT2
 unfold setFlight
 refine wpAny_bind (wpAny_field ea3 da3 (x:=.ref g1.objs.size) (by simp [sz]) ?_)
 rw [if_pos (by simp)]
 have s3: 3 < (([head,Value.ref L,Value.none,rawInt L,Value.none] ++ (if pl.isEmpty then List.replicate 6 Value.none else pl)).toArray).size:=by
  simp only [List.size_toArray,List.length_append,List.length_cons,List.length_nil]; omega
 refine wpAny_setField eT3 dR s3 (q _ g1.objs.size ?_)
 have others: ∀ b o,b ≠ a -> g1.get? b = some o -> (((g1.push R).update a (Obj.mapFields (·.setIfInBounds 1 (Value.ref g1.objs.size)))).update g1.objs.size (Obj.mapFields (·.setIfInBounds 3 ((none: Option Addr).elim Value.none fun f => rawInt f)))).get? b = some o:=by
  intro b o ba eb
  rw [Heap.get?_update_other _ _ (Nat.ne_of_gt (Heap.lt_size eb)),Heap.get?_update_other _ _ (Ne.symm ba)]
  exact Heap.get?_push_of_some _ eb
 refine ⟨fun b o ba bl eb => others b o ba ((w1.2.1 b bl).trans eb),fun b o ba eb => ?_,?_,?_,?_⟩
 ·obtain ⟨sl,e1⟩:=w1.2.2 b o eb
  exact ⟨sl,others b _ ba e1⟩
 ·refine Heap.get?_none_of_le ?_
  cases z: s.heap.get? g1.objs.size with
  | none =>
   rcases Nat.lt_or_ge g1.objs.size s.heap.objs.size with lt | ge
   ·rw [w1.1] at lt
    exact absurd lt (Nat.lt_irrefl _)
   ·exact ge
  | some o =>
   obtain ⟨sl,e1⟩:=w1.2.2 _ o z
   exact absurd (Heap.lt_size e1) (Nat.lt_irrefl _)
 ·rw [Heap.get?_update_other _ _ neT]
  exact ea3
 ·have e:=Heap.get?_update_self (Obj.mapFields (·.setIfInBounds 3 ((none: Option Addr).elim Value.none fun f => rawInt f))) eT3 (Obj.isFreed_of_fields (Obj.data_mapFields dR _))
  refine ⟨_,_,e,Obj.data_mapFields dR _,?_,?_⟩
  ·rw [Array.getElem?_setIfInBounds_self_of_lt s3]; rfl
  ·rw [Obj.cls_mapFields,<- hR]
end
end Xc
namespace Xc
open PySem PySem.Spec PyProof.Rows L2
section
variable {M: Model} {A: Around} {E: Value -> Shared -> Prop} {s: Shared}
theorem noted_ok {base: Heap} {env: Env} {outer: List Env} {L a: Addr} {oe: Obj} {vs: Array Value} {T: Option Addr} {Q: Unit -> Shared -> Prop}
  (fr: A.frames = some (env :: outer)) (ff: s.heap.FunFrames base (env :: outer)) (fL: env.frame = some L) (ea: s.heap.get? a = some oe) (da: oe.data = .fields vs) (tb: Tb s.heap vs T)
  (q: ∀ h' T',Gone (frs (env :: outer)) a oe s.heap h' T' -> Q () { s with heap:=h' }): wpAny M A (noteFrame (.ref a) env) (fun _ s' => wpAny M A (setFlight (.ref a) none) Q E s') E s:=by
 unfold noteFrame
 simp only [fL]
 cases T with
 | none =>
  refine wpAny_bind (wpAny_field ea da tb ?_)
  rw [if_neg (by decide)]
  exact entry_ok fr ff fL ea da (Array.getElem?_eq_some_iff.mp tb).1 q
 | some t =>
  obtain ⟨h1,oT,ts,eT,dT,h3⟩:=tb
  refine wpAny_bind (wpAny_field ea da h1 ?_)
  rw [if_pos (by simp)]
  refine wpAny_bind (wpAny_field eT dT h3 ?_)
  rw [if_neg (by simp [rawInt])]
  refine wpAny_bind (wpAny_setField eT dT (Array.getElem?_eq_some_iff.mp h3).1 ?_)
  rw [Heap.update_setField_same s.heap t oT ts 3 .none eT dT h3]
  exact entry_ok fr ff fL ea da (Array.getElem?_eq_some_iff.mp h1).1 q
end
def ExcAt (a C: Addr) (d: Option Addr) (h: Heap): Prop:=∃ vs,h.get? a = some { cls:=.ref C,dict:=d,data:=.fields vs } /\ vs.size = 6
abbrev exc (a C: Addr) (d: Option Addr): HO:=.ext (ExcAt a C d)
theorem ExcAt.ok {P: Program} {w: World} {H: Hp} {h: Heap} {a C: Addr} {d: Option Addr} (x: ExcAt a C d h): ObjOk P w H h a (exc a C d):=by
 refine ⟨x,?_,fun h1 h2 ⟨vs,e,z⟩ k => ⟨vs,k _ e,z⟩⟩
 obtain ⟨vs,e,_⟩:=x
 exact ⟨_,e⟩
def TbIs (h: Heap) (a: Addr) (T: Option Addr): Prop:=∃ o vs,h.get? a = some o /\ o.data = .fields vs /\ Tb h vs T
def XC (P: Program) (w: World): CXT:=fun outer H s E e s' => ∃ (a: Addr) (H': Hp) (T C: Addr) (d: Option Addr),e = .ref a /\ s'.os = s.os /\ AllBare s'.gens /\ Un (frs outer) [] H H' s.heap s'.heap /\ HOk P w H' s'.heap /\
 H' a = some (exc a C d) /\ TbIs s'.heap a (some T) /\ E e none H'
section
variable {X: Cx} {pins: List (Addr × Obj)} {σ: L2.St} {H: Hp} {s: Shared} {a C: Addr} {d T: Option Addr}
theorem Inv.noted {E: Value -> Shared -> Prop} {Q: Unit -> Shared -> Prop} (I: Inv X pins σ H s) (st: X.stack = X.env :: X.outer /\ X.env.frame = some X.env.locals) (ha: H a = some (exc a C d)) (tb: TbIs s.heap a T)
  (q: ∀ s' T',Inv X pins σ H s' -> TbIs s'.heap a (some T') -> Q () s'): wpAny (model X.prog X.w) X.A (noteFrame (.ref a) X.env) (fun _ s' => wpAny (model X.prog X.w) X.A (setFlight (.ref a) none) Q E s') E s:=by
 obtain ⟨oe,vs,ea,da,tb⟩:=tb
 obtain ⟨⟨vs',ea',sz⟩,_,stay⟩:=I.hok a _ ha
 have fr:=I.ok.frames
 have ff:=I.stack
 rw [st.1] at fr ff
 have e1: oe = { cls:=.ref C,dict:=d,data:=.fields vs' }:=Option.some.inj (ea.symm.trans ea')
 subst e1
 have e2: vs = vs':=by injection da with z; exact z.symm
 subst e2
 refine noted_ok fr ff st.2 ea da tb fun h' T' G => ?_
 have nfr: ∀ b o,H b = some o -> b ∉ frs X.stack:=fun b o hb hm => by
  have:=I.stkFree b hm
  rw [hb] at this; cases this
 have ne: ∀ b,H b = none -> b ≠ a:=fun b hb z => by rw [z,ha] at hb; cases hb
 have newA: ExcAt a C d h':=⟨_,G.exc,by simpa using sz⟩
 have un: Un (frs X.stack) [] H H s.heap h':=by
  rw [st.1]
  refine ⟨fun b o e n hb _ => G.keep b o (ne b n) hb e,fun b o e n hb _ => G.slot b o (ne b n) e,fun b o e n _ => n,fun b o e _ => ?_,fun _ _ e => e,fun _ _ _ e => e,fun b ps e => ⟨#[],by rw [e]; simp⟩⟩
  by_cases z: b = a
  ·subst z; exact ⟨_,G.exc⟩
  ·obtain ⟨sl,e1⟩:=G.slot b o z e
   exact ⟨_,e1⟩
 have hok: HOk X.prog X.w H h':=fun b o e => by
  by_cases z: b = a
  ·subst z
   rw [ha] at e
   cases e
   exact newA.ok
  ·refine (I.hok b o e).stay (fun c u hc ec => ?_) (fun _ q => q) fun _ _ q => q
   have nc: c ≠ a /\ c ∉ frs (X.env :: X.outer):=by
    rcases hc with rfl | hc
    ·exact ⟨z,by rw [<- st.1]; exact nfr _ _ e⟩
    ·refine ⟨fun y => ?_,by rw [<- st.1]; exact nfr _ _ hc⟩
     subst y
     rw [ha] at hc; cases hc
   exact G.keep c u nc.1 nc.2 ec
 refine q _ T' (I.call (h':=h') (g':=s.gens) (t':=s.toks) (d':=s.drawn) (ch:=[]) un hok I.bare (fun b z => absurd z (by simp))) ?_
 obtain ⟨o,ts,k1,k2,k3,_⟩:=G.tb
 refine ⟨_,_,G.exc,rfl,?_,o,ts,k1,k2,k3⟩
 rw [Array.getElem?_setIfInBounds_self_of_lt (by omega)]
end
section
variable {P: Program} {w: World} {K: PySem.W.Frag} {mg: Str -> Option Value} {base: Heap} {N: List Str} {qual: Str} {scope: Scope} {f: Addr} {cd: Value} {A: Around} {outer: List Env} {s0: Shared} {H0: Hp} {E: XK}
 {pins: List (Addr × Obj)} {σ: L2.St} {H: Hp} {s: Shared} {a C: Addr} {d T: Option Addr}
theorem leaves (I: Inv (cxOf (XC P w) P w K mg base N qual scope f cd A outer s0 H0 E) pins σ H s) (ha: H a = some (exc a C d)) (tb: TbIs s.heap a T) (hE: E (.ref a) none H) :
  (cxOf (XC P w) P w K mg base N qual scope f cd A outer s0 H0 E).xe (.ref a) s:=by
 show wpAny _ _ (leaving _ _) _ _ _
 unfold leaving
 refine wpAny_bind (Inv.noted I ⟨rfl,rfl⟩ ha tb fun s' T' I' tb' => ?_)
 exact ⟨a,H,T',C,d,rfl,I'.os,I'.bare,I'.base,I'.hok,ha,tb',hE⟩
theorem passX: Passes (XC P w) (cxOf (XC P w) P w K mg base N qual scope f cd A outer s0 H0 E) E:=by
 intro pins σ H s e s' I h
 obtain ⟨a,H',T,C,d,rfl,os,bare,un,hok,ha,tb,hE⟩:=h
 have I': Inv (cxOf (XC P w) P w K mg base N qual scope f cd A outer s0 H0 E) pins σ H' s':=Inv.call' I os un hok bare (fun b z => absurd z (by simp))
 exact leaves I' ha tb hE
end
end Xc
namespace Xc
open PySem PySem.Spec PyProof.Rows L2
abbrev excTail: List Value:=[.type "Exception",.type "BaseException",.type "object"]
structure XCls (K: PySem.W.Frag) (C: Addr) (own: List Addr): Prop where
 lk: ∃ (nm q: Str) (N: Addr) (bs: List Value) (sn: List Str) (sub: List Value) (ab: Bool) (col: Option Bool) (dd: Option Addr) (k0 k1 k2 k3 k5: Option Value),
  K.lookup C = some (excClassObj nm q C N bs (own.map Value.ref ++ excTail) true sn sub ab col dd k0 k1 k2 k3 k5 "Exception.__new__")
 sa: PySem.W.findIn K (.ref C) "__setattr__" = some (some (.builtin "object.__setattr__"))
 ga: PySem.W.findIn K (.ref C) "__getattribute__" = some (some (.builtin "BaseException.__getattribute__"))
 gh: PySem.W.findIn K (.ref C) "__getattr__" = some none
theorem XCls.cd {K: PySem.W.Frag} {C: Addr} {own: List Addr} (c: XCls K C own): ∃ cd,PySem.W.clsIn K C = some cd /\ cd.hasDict = true /\ cd.mro = .ref C :: (own.map Value.ref ++ excTail):=by
 obtain ⟨nm,q,N,bs,sn,sub,ab,col,dd,k0,k1,k2,k3,k5,e⟩:=c.lk
 refine ⟨{ name:=nm,bases:=bs,mro:=.ref C :: (own.map Value.ref ++ excTail),ns:=N,qualname:=q,hasDict:=true,slotNames:=sn,subclasses:=sub,abstract:=ab,collection:=col,hasDel:=false },?_,rfl,rfl⟩
 unfold PySem.W.clsIn
 rw [e]
theorem refuse_own (self: Value): ∀ own: List Addr,refuseLoop self "__setattr__" (own.map Value.ref ++ excTail) = pure ()
 | [] => PySem.F.store_Exception.passes self
 | a :: l => by
  show refuseLoop self "__setattr__" (.ref a :: (l.map Value.ref ++ excTail)) = pure ()
  rw [refuseLoop_ref]
  exact refuse_own self l
theorem own_has (own: List Addr) (C: Addr) (n: String): (Value.ref C :: (own.map Value.ref ++ excTail)).contains (.type n) = excTail.contains (.type n):=by
 induction own with
 | nil => rw [List.contains_cons]; rfl
 | cons a l ih =>
  rw [List.contains_cons,List.map_cons,List.cons_append,List.contains_cons]
  rw [List.contains_cons] at ih
  exact ih
theorem XCls.sub {K: PySem.W.Frag} {C: Addr} {own: List Addr} (c: XCls K C own) {n: String} {b: Bool} (h: excTail.contains (.type n) = b): PySem.W.mroIn K C (.type n) = some b:=by
 obtain ⟨cd,e,_,m⟩:=c.cd
 unfold PySem.W.mroIn
 rw [e,Option.bind_some,m,if_neg (by simp),own_has,h]
section
variable {prog: Program} {w: World} {A: Around} {E: Value -> Shared -> Prop} {s: Shared} {K: PySem.W.Frag} {x C: Addr} {own: List Addr} {vs: Array Value} {name: Str} {v: Value}
set_option maxHeartbeats 4000000 in
theorem xset {Q: Unit -> Shared -> Prop} (KX: K.In s.heap) (c: XCls K C own) (na: PySem.W.findIn K (.ref C) name = some none) (ex: s.heap.get? x = some { cls:=.ref C,dict:=none,data:=.fields vs })
  (q: ∀ h',(∀ b o,b ≠ x -> s.heap.get? b = some o -> h'.get? b = some o) -> h'.get? x = some { cls:=.ref C,dict:=some s.heap.objs.size,data:=.fields vs } ->
   h'.Ns1 s.heap.objs.size (fun y => if y = name then some v else none) -> Q () { s with heap:=h',toks:=s.toks + 2 }) :
  wpAny (model prog w) A (setAttr (.ref x) name v) Q E s:=by
 have J: PySem.W.InstAt s.heap x { cls:=.ref C,dict:=none,data:=.fields vs } C none:=⟨ex,rfl,rfl,trivial⟩
 refine PySem.W.set_plain KX J c.sa ?_
 have SF:=PySem.F.store_object
 have isO: PySem.W.Looks (model prog w) s.heap (isInstance (.ref x) (.type "object")) true:=J.type.andThen (PySem.W.looks_mroIn KX (c.sub (by decide)))
 refine codeAny_call_builtin SF.slot.plain SF.entry (@PySem.W.check_slot (model prog w) _ _ { s with toks:=s.toks + 1 } "object.__setattr__" "object" "__setattr__" (.ref x) [.str name s.toks,v] [] _ SF.kind SF.split isO (SF.args (.ref x) (.str name s.toks) v) ?_)
 obtain ⟨cd,ec,hd,em⟩:=c.cd
 have lm: PySem.W.Looks (model prog w) s.heap (mroOf (.ref C)) cd.mro:=(PySem.W.looks_clsIn KX ec).andThen .now
 rw [PySem.W.osa_eq,refuse_eq]
 refine wpAny_bind (wpAny_bind (J.type.here (s:={ s with toks:=s.toks + 1 }) (wpAny_bind (lm.here (s:={ s with toks:=s.toks + 1 }) ?_))))
 rw [em,refuseLoop_ref,refuse_own]
 refine wpAny_pure (wpAny_bind (J.type.here (s:={ s with toks:=s.toks + 1 }) (wpAny_bind ((PySem.W.looks_findIn KX na).here (s:={ s with toks:=s.toks + 1 }) (wpAny_bind (wpAny_pure ?_))))))
 have ex1: (s.heap.push { cls:=.type "dict",data:=.dict #[] }).get? x = some { cls:=.ref C,dict:=none,data:=.fields vs }:=Heap.get?_push_of_some _ ex
 have xs: x ≠ s.heap.objs.size:=Nat.ne_of_lt (Heap.lt_size ex)
 refine wpAny_bind (wpAny_pure (wpAny_bind (wpAny_bind (wpAny_loadPart (s:={ s with toks:=s.toks + 1 }) ex (wpAny_bind ((PySem.W.looks_clsIn KX ec).here (s:={ s with toks:=s.toks + 1 }) ?_))))))
 rw [hd]
 refine wpAny_bind (wpAny_alloc' ?_)
 refine wpAny_bind (wpAny_update' ex1 ?_)
 refine wpAny_pure ?_
 generalize hg: (s.heap.push { cls:=.type "dict",data:=.dict #[] }).update x (fun o => { o with dict:=some s.heap.objs.size }) = g1
 have g1d: g1.get? s.heap.objs.size = some { cls:=.type "dict",data:=.dict #[] }:=by
  rw [<- hg,Heap.get?_update_ne _ _ _ _ (Ne.symm xs)]
  exact Heap.get?_push_size _ rfl
 have g1x: g1.get? x = some { cls:=.ref C,dict:=some s.heap.objs.size,data:=.fields vs }:=by
  rw [<- hg]
  exact Heap.get?_update_self _ ex1 rfl
 have g1o: ∀ b o,b ≠ x -> s.heap.get? b = some o -> g1.get? b = some o:=fun b o bx eb => by
  rw [<- hg,Heap.get?_update_ne _ _ _ _ bx]
  exact Heap.get?_push_of_some _ eb
 have n0: g1.Ns s.heap.objs.size (fun _ => none):=⟨_,#[],_,g1d,rfl,fun e he => absurd he (by simp),fun _ => rfl⟩
 show wpAny _ _ (Builtin.ObjectAttr.storeInDict s.heap.objs.size _ name v) _ _ _
 unfold Builtin.ObjectAttr.storeInDict Builtin.ObjectAttr.newKeyGuard
 refine wpAny_bind (wpAny_pure (wpAny_bind (wpAny_nsSet1 (s:={ s with heap:=g1,toks:=s.toks + 1 }) (Heap.Ns1.of_empty n0) fun g2 n2 sb => ?_)))
 obtain ⟨oD,es,ep,e1,e2,e3⟩:=n2.count (Within.cons name v Within.nil)
 refine wpAny_bind (wpAny_lookBehind e1 (by rw [e2]; exact pastItsLine_dict (Nat.le_trans e3 (by rw [List.length_cons,List.length_nil,sizeLine_eq]; omega))) ?_)
 refine wpAny_pure (q g2 (fun b o bx eb => (sb.2 b (Nat.ne_of_lt (Heap.lt_size eb))).trans (g1o b o bx eb)) ((sb.2 x xs).trans g1x) ?_)
 exact n2
end
end Xc
namespace Xc
open PySem PySem.Spec PyProof.Rows L2
theorem bega_kind: builtinKind "BaseException.__getattribute__" = some .slot:=by decide +kernel
theorem bega_split: splitId "BaseException.__getattribute__" = some ("BaseException","__getattribute__"):=by decide +kernel
section
variable {prog: Program} {w: World} {A: Around} {E: Value -> Shared -> Prop} {s: Shared} {K: PySem.W.Frag} {x C d: Addr} {own: List Addr} {vs: Array Value} {name: Str} {v: Value} {mA: Str -> Option Value}
set_option maxHeartbeats 4000000 in
theorem xget {b: Bool} {Q: Value -> Shared -> Prop} (KX: K.In s.heap) (c: XCls K C own) (na: PySem.W.findIn K (.ref C) name = some none) (ex: s.heap.get? x = some { cls:=.ref C,dict:=some d,data:=.fields vs })
  (n: s.heap.Ns1 d mA) (hv: mA name = some v) (hv': PySem.W.handedIn v = true) (q: Q v { s with toks:=s.toks + 1 }): wpAny (model prog w) A (getAttr (.ref x) name b) Q E s:=by
 obtain ⟨od,eo,lo⟩:=lookIn_ns n
 have J: PySem.W.InstAt s.heap x { cls:=.ref C,dict:=some d,data:=.fields vs } C (some od):=⟨ex,rfl,rfl,eo⟩
 obtain ⟨cd,ec,hd,em⟩:=c.cd
 have hh: PySem.W.hasDictIn K C = true:=by
  unfold PySem.W.hasDictIn
  rw [ec]
  exact hd
 have hf:=PySem.W.findObj_own (od:=od) (v:=v) hh na rfl (by rw [lo name,hv])
 have L0:=J.type (M:=model prog w)
 have L1:=PySem.W.looks_findIn (M:=model prog w) KX c.ga
 have L2:=PySem.W.looks_findIn (M:=model prog w) KX c.gh
 have L3:=PySem.W.looks_find (M:=model prog w) KX J hf
 have isB: PySem.W.Looks (model prog w) s.heap (isInstance (.ref x) (.type "BaseException")) true:=L0.andThen (PySem.W.looks_mroIn KX (c.sub (by decide)))
 unfold getAttr getAttrBy
 refine wpAny_bind (wpAny_mkText (wpAny_holding (wpAny_bind (L0.here (s:={ s with toks:=s.toks + 1 }) (wpAny_bind (L1.here (s:={ s with toks:=s.toks + 1 }) ?_))))))
 dsimp only
 rw [if_neg (show ¬ ((onTheHeap (Value.ref C) && (Value.builtin "BaseException.__getattribute__" == Value.builtin "object.__getattribute__")) = true) by intro z; exact absurd z (by simp [onTheHeap]))]
 unfold getAttrByItsOwn hookBefore
 rw [if_pos (by rfl)]
 refine wpAny_bind (L2.here (s:={ s with toks:=s.toks + 1 }) (wpAny_bind ?_))
 refine wpAny_attempt (wpAny_holding ?_)
 have e0: callGetattribute (Value.ref x) (Value.str name s.toks) (Value.builtin "BaseException.__getattribute__") b = boundAndCalled (Value.builtin "BaseException.__getattribute__") (Value.ref x) (Value.str name s.toks):=by
  unfold callGetattribute
  cases b <;> rfl
 rw [e0]
 unfold boundAndCalled
 rw [PySem.F.attr_Exception.ga.bind (.ref x)]
 refine wpAny_bind (wpAny_pure (wpAny_call (codeAny_call_builtin PySem.F.attr_Exception.ga.plain PySem.F.entry_bexc_ga (@PySem.W.check_slot (model prog w) _ _ { s with toks:=s.toks + 1 } "BaseException.__getattribute__" "BaseException" "__getattribute__" (.ref x) [.str name s.toks] [] _ bega_kind bega_split isB (PySem.F.args_bexc_ga (.ref x) (.str name s.toks)) ?_))))
 unfold Builtin.«object.__getattribute__»
 refine wpAny_bind (wpAny_pure (a:=(Value.ref x,[Value.str name s.toks])) (wpAny_bind (wpAny_pure (a:=name) (wpAny_bind (L0.here (s:={ s with toks:=s.toks + 1 }) (wpAny_bind (L3.here (s:={ s with toks:=s.toks + 1 }) ?_)))))))
 refine wpAny_pure ?_
 show wpAny _ _ (handedOut v) _ _ _
 rw [PySem.W.handedOut_of hv']
 exact wpAny_pure q
end
end Xc
namespace Xc
open PySem PySem.Spec L2
section
variable {M: Model} {prog: Program} {w: World} {A: Around} {E: Value -> Shared -> Prop} {h: Heap} {g: Array GenState} {d: Drawn} {t: Nat} {os: OsState} {R: Result -> Shared -> Prop}
variable {nm q: Str} {C N: Addr} {bs: List Value} {own: List Addr} {sn: List Str} {sub: List Value} {ab: Bool} {col: Option Bool} {dd: Option Addr} {k0 k1 k2 k3 k5: Option Value}
abbrev xObj (nm q: Str) (C N: Addr) (bs: List Value) (own: List Addr) (sn: List Str) (sub: List Value) (ab: Bool) (col: Option Bool) (dd: Option Addr) (k0 k1 k2 k3 k5: Option Value): Obj :=
 excClassObj nm q C N bs (own.map Value.ref ++ excTail) true sn sub ab col dd k0 k1 k2 k3 k5 "Exception.__new__"
set_option maxHeartbeats 4000000 in
theorem xnew_check {rest: List Value} {Q: Unit -> Shared -> Prop} (eC: h.get? C = some (xObj nm q C N bs own sn sub ab col dd k0 k1 k2 k3 k5)) (k: Q () ⟨h,g,d,t,os⟩) :
  wpAny M A (checkBuiltinCall "Exception.__new__" ⟨.ref C :: rest,[]⟩) Q E ⟨h,g,d,t,os⟩:=by
 have B:=PySem.F.excBase_Exception
 have hasE: (Value.ref C :: (own.map Value.ref ++ excTail)).contains (.type "Exception") = true:=by rw [own_has]; rfl
 have star:=B.noStar
 simp only [checkBuiltinCall,B.newKind,B.newSplit,B.newRow]
 repeat (first | refine wpAny_loadPart_at eC ?_ | (refine wpAny_isSubtype_exc eC ?_; rw [hasE]) | refine wpAny_staticBase_exc eC ?_ | refine wpAny_madeBy_exc eC ?_ | simp only [bne_self_eq_false,Bool.false_eq_true,if_false] | wp_step)
 exact k
set_option maxHeartbeats 4000000 in
theorem xnew_run {rest: List Value} (eC: h.get? C = some (xObj nm q C N bs own sn sub ab col dd k0 k1 k2 k3 k5)) (hl: rest.length <= sizeLine)
  (k: R (.ok (.ret (.ref (h.objs.size + 1)))) ⟨(h.push { cls:=.type "tuple",data:=.seq rest.toArray }).push { cls:=.ref C,data:=.fields #[.ref h.objs.size,.none,.none,.none,.bool false,.none] },g,d,t,os⟩) :
  codeAny (model prog w) A (.builtin "Exception.__new__" ⟨.ref C :: rest,[]⟩) R ⟨h,g,d,t,os⟩:=by
 have B:=PySem.F.excBase_Exception
 have ends:=B.ends
 have hasE: (Value.ref C :: (own.map Value.ref ++ excTail)).contains (.type "Exception") = true:=by rw [own_has]; rfl
 have hasA: (Value.ref C :: (own.map Value.ref ++ excTail)).contains (.type "AttributeError") = false:=by rw [own_has]; rfl
 have hasN: (Value.ref C :: (own.map Value.ref ++ excTail)).contains (.type "NameError") = false:=by rw [own_has]; rfl
 refine codeAny_builtinAt B.entry ?_
 unfold Builtin.«BaseException.__new__»
 refine wpAt_bind ?_
 show wpAt _ _ _ (stack >>= _) _ _ _
 refine wpAt_bind (wpAt_stack fun p below => wpAt_of_wpAny ?_)
 wp_walk
 refine wpAt_of_wpAny ?_
 rw [B.owner]
 repeat (first | with_reducible refine wpAny_madeHere_exc B.canon eC ?_ | with_reducible refine wpAny_loadPart_at eC ?_ | (with_reducible refine wpAny_isSubtype_exc eC ?_; first | rw [hasE] | rw [hasA] | rw [hasN]) | wp_step)
 show R _ _
 rw [Heap.size_push]
 exact k
set_option maxHeartbeats 8000000 in
theorem xcall {K: PySem.W.Frag} {fI: Addr} {rest: List Value} {s: Shared} (KX: K.In s.heap) (c: XCls K C own) (hi: PySem.W.findIn K (.ref C) "__init__" = some (some (.ref fI))) (hf: PySem.W.typeIn K (.ref fI) = some (.type "function")) (hl: rest.length <= sizeLine)
  (k: ∀ h',(∀ b o,s.heap.get? b = some o -> h'.get? b = some o) -> h'.get? (s.heap.objs.size + 1) = some { cls:=.ref C,data:=.fields #[.ref s.heap.objs.size,.none,.none,.none,.bool false,.none] } ->
   codeAny (model prog w) (A.under (.builtin "type.__call__" ⟨.ref C :: rest,[]⟩)) (.call (.ref fI) ⟨.ref (s.heap.objs.size + 1) :: rest,[]⟩) (PySem.W.InitBack (s.heap.objs.size + 1) R) { s with heap:=h' }) :
  codeAny (model prog w) A (.call (.ref C) ⟨rest,[]⟩) R s:=by
 obtain ⟨h,g,d,t,os⟩:=s
 obtain ⟨nm,q,N,bs,sn,sub,ab,col,dd,k0,k1,k2,k3,k5,el⟩:=c.lk
 have eC: h.get? C = some (xObj nm q C N bs own sn sub ab col dd k0 k1 k2 k3 k5):=KX _ _ el
 have f1:=tc_lookup
 have f2:=tc_bind (.ref C)
 have isT: (⟨h,g,d,t,os⟩: Shared).TypeIs (.ref C) "type":=⟨_,eC,rfl⟩
 refine codeAny_of_tree ?_
 show wpAny _ _ (callAny (.ref C) _) _ _ _
 repeat (any_goals (first | assumption | with_reducible refine wpAny_loadPart_at eC ?_ | wp_step))
 refine ⟨rfl,?_⟩
 refine codeAny_call_builtin_at (Code.quiet_builtin _ (by decide +kernel)) entry_typeCall (wpAny_check_type_call_sub eC ?_)
 repeat (first | with_reducible refine wpAny_loadPart_at eC ?_ | with_reducible refine wpAny_madeBy_exc eC ?_ | wp_step)
 refine codeAny_call_builtin_code (Code.quiet_builtin _ PySem.F.excBase_Exception.quiet) (xnew_check eC ?_)
 refine xnew_run eC hl ?_
 have kept: ∀ b o,h.get? b = some o -> ((h.push { cls:=.type "tuple",data:=.seq rest.toArray }).push { cls:=.ref C,data:=.fields #[.ref h.objs.size,.none,.none,.none,.bool false,.none] }).get? b = some o :=
  fun b o e => Heap.get?_push_of_some _ (Heap.get?_push_of_some _ e)
 have ex: ((h.push { cls:=.type "tuple",data:=.seq rest.toArray }).push { cls:=.ref C,data:=.fields #[.ref h.objs.size,.none,.none,.none,.bool false,.none] }).get? (h.objs.size + 1) = some
   { cls:=.ref C,data:=.fields #[.ref h.objs.size,.none,.none,.none,.bool false,.none] }:=by heap_get
 have kk:=k _ kept ex
 show wpAny _ _ _ _ _ ⟨(h.push { cls:=.type "tuple",data:=.seq rest.toArray }).push { cls:=.ref C,data:=.fields #[.ref h.objs.size,.none,.none,.none,.bool false,.none] },g,d,t,os⟩
 generalize ((h.push { cls:=.type "tuple",data:=.seq rest.toArray }).push { cls:=.ref C,data:=.fields #[.ref h.objs.size,.none,.none,.none,.bool false,.none] }) = h1 at kept ex kk ⊢
 have KX1: K.In h1:=KX.keeps kept
 have J: PySem.W.InstAt h1 (h.objs.size + 1) { cls:=.ref C,data:=.fields #[.ref h.objs.size,.none,.none,.none,.bool false,.none] } C none:=⟨ex,rfl,rfl,trivial⟩
 have self: PySem.W.mroIn K C (.ref C) = some true:=by
  obtain ⟨cd,e,_,m⟩:=c.cd
  unfold PySem.W.mroIn
  rw [e,Option.bind_some,m,if_neg (by simp),List.contains_cons,beq_self_eq_true,Bool.true_or]
 have isC: PySem.W.Looks (model prog w) h1 (isInstance (.ref (h.objs.size + 1)) (.ref C)) true:=J.type.andThen (PySem.W.looks_mroIn KX1 self)
 refine wpAny_bind (isC.here (s:=⟨h1,g,d,t,os⟩) ?_)
 rw [if_neg (by decide)]
 refine wpAny_bind (wpAny_holding (PySem.W.special_fn (s:=⟨h1,g,d,t,os⟩) KX1 J hi hf (wpAny_call (codeAny_mono kk fun r s' z => ?_))))
 rcases r with e | (u | _ | _ | _)
 ·exact z
 ·exact z.elim
 ·exact z.elim
 ·exact z.elim
 ·obtain ⟨rfl,z⟩:=z
  exact wpAny_pure z
end
end Xc
namespace Xc
open PySem PySem.Spec L2
section
variable {prog: Program} {w: World} {A: Around} {E: Value -> Shared -> Prop} {s: Shared} {env: Env} {K: PySem.W.Frag} {C: Addr} {own: List Addr}
def CanRaise (K: PySem.W.Frag) (E: Value -> Shared -> Prop) (v: Value) (s1: Shared): Prop :=
 ∃ a C own d vs,v = .ref a /\ K.In s1.heap /\ XCls K C own /\ s1.heap.get? a = some { cls:=.ref C,dict:=d,data:=.fields vs } /\ vs[1]? = some .none /\ E (.ref a) s1
set_option maxHeartbeats 8000000 in
theorem xraise {e: Expr} {pos: Pos} {Q: Flow -> Shared -> Prop} (hh: A.handled = none) (h: wpAny (model prog w) A (eval e env) (CanRaise K E) E s) :
  wpAny (model prog w) A (exec (.Raise (some e) none pos) env) Q E s:=by
 show wpAny _ A (do standAt pos; raiseStmt env (some (do let v <- eval e env; standAt pos; pure v)) none) Q E s
 refine wpAny_bind (wpAny_standAt ?_)
 unfold raiseStmt
 dsimp only
 refine wpAny_bind (wpAny_bind (wpAny_mono h (fun v s1 z => wpAny_bind (wpAny_standAt (wpAny_pure ?_))) fun _ _ y => y))
 obtain ⟨a,C,own,d,vs,rfl,KX,c,ea,tb,hE⟩:=z
 obtain ⟨g1,g,dr,t,os⟩:=s1
 obtain ⟨nm,q,N,bs,sn,sub,ab,col,dd,k0,k1,k2,k3,k5,el⟩:=c.lk
 have eC: g1.get? C = some (xObj nm q C N bs own sn sub ab col dd k0 k1 k2 k3 k5):=KX _ _ el
 have LT: PySem.W.Looks (model prog w) g1 (typeOf (.ref a)) (.ref C):=(PySem.W.Looks.ld ea).andThen .now
 have LB: PySem.W.Looks (model prog w) g1 (isInstance (.ref a) (.type "BaseException")) true:=LT.andThen (PySem.W.looks_mroIn KX (c.sub (by decide)))
 have LN: PySem.W.Looks (model prog w) g1 (isType (.ref a)) false:=(PySem.W.Looks.ld ea).andThen .now
 have LC: PySem.W.Looks (model prog w) g1 (typeOf (.ref C)) (.type "type"):=(PySem.W.Looks.ld eC).andThen .now
 refine wpAny_bind (wpAny_pure ?_)
 dsimp only
 refine wpAny_bind (wpAny_holding ?_)
 unfold excFromValue isExcClass
 refine wpAny_bind (wpAny_bind (LN.at ?_))
 simp only [Bool.false_eq_true,if_false]
 refine wpAny_pure ?_
 simp only [Bool.false_eq_true,if_false]
 refine wpAny_bind (LB.at ?_)
 simp only [if_true]
 refine wpAny_pure ?_
 refine wpAny_bind (LN.at ?_)
 simp only [Bool.false_eq_true,if_false]
 unfold raisedInstance
 refine wpAny_bind (wpAny_bind (LT.at (wpAny_bind (LC.at ?_))))
 rw [if_pos (beq_self_eq_true _)]
 refine wpAny_pure ?_
 unfold setFlight raiseNew
 refine wpAny_bind (wpAny_bind (wpAny_field (s:=⟨g1,g,dr,t,os⟩) ea rfl tb ?_))
 rw [if_neg (by decide)]
 refine wpAny_pure (wpAny_bind (wpAny_handled ?_))
 rw [hh]
 first
  | exact wpAny_throw hE
  | exact wpAny_bind (wpAny_pure (wpAny_throw hE))
end
end Xc
namespace Xc
open PySem PySem.Spec PyProof.Rows L2
def NewAt (a C: Addr) (d: Option Addr) (h: Heap): Prop:=∃ vs,h.get? a = some { cls:=.ref C,dict:=d,data:=.fields vs } /\ vs.size = 6 /\ vs[1]? = some .none
abbrev xnew (a C: Addr) (d: Option Addr): HO:=.ext (NewAt a C d)
theorem NewAt.ok {P: Program} {w: World} {H: Hp} {h: Heap} {a C: Addr} {d: Option Addr} (x: NewAt a C d h): ObjOk P w H h a (xnew a C d):=by
 refine ⟨x,?_,fun h1 h2 ⟨vs,e,z⟩ k => ⟨vs,k _ e,z⟩⟩
 obtain ⟨vs,e,_⟩:=x
 exact ⟨_,e⟩
theorem NewAt.exc {h: Heap} {a C: Addr} {d: Option Addr} (x: NewAt a C d h): ExcAt a C d h:=let ⟨vs,e,z,_⟩:=x; ⟨vs,e,z⟩
structure XMk (K: PySem.W.Frag) (C: Addr) (own: List Addr) (f: Addr): Prop extends XCls K C own where
 init: PySem.W.findIn K (.ref C) "__init__" = some (some (.ref f))
 fn: PySem.W.isFn K (.ref f) = true
 kp: PySem.W.keepIn K (.ref C) = true
section
variable {X: Cx} {CX: CXT} {k: Nat} {f C: Addr} {own: List Addr} {fd: FuncData} {ps: List Str} {sp: Sp} {E: XK} {x m: Str} {p pos apos: Pos} {e o: Expr} {es: List Expr} {ta tv te: TE} {t: TA}
def tXMake (C: Addr) (sp: Sp) (E: XK) (t: TA): TE:=fun σ H Q => t σ H fun vs H1 => vs.length <= 1000 /\ ∀ x,H1 x = none -> sp (.ref x :: vs) (upd H1 x (xnew x C none)) (fun v H2 => v = .non /\ Q (.ref x) H2) E
theorem run_xmake {pins: List (Addr × Obj)} {σ: L2.St} {H: Hp} {s: Shared} {Q: VK} {us: List Value} {vs: List V} (M: XMk X.K C own f) (F: FnOk X.prog X.w X.K X.mg X.base CX k f fd ps sp) (hr: Room (k + 1) X.A) (hb: Binds X.K fd ps [])
  (hx: Passes CX X E) (I: Inv X pins σ H s) (r: Vals vs us) (hl: vs.length <= 1000) (h: ∀ x,H x = none -> sp (.ref x :: vs) (upd H x (xnew x C none)) (fun v H2 => v = .non /\ Q (.ref x) H2) E) :
  wpAny (model X.prog X.w) X.A (call (.ref C) us) (EP X pins σ Q) X.xe s:=by
 have hq:=h (s.heap.objs.size + 1) (I.hok.fresh (Nat.le_succ _))
 have hus: us.length <= sizeLine:=by rw [<- r.length]; exact Nat.le_trans hl (by decide)
 refine wpAny_call (xcall I.kIn M.toXCls M.init (beq_iff_eq.mp M.fn) hus fun h' kept ex => ?_)
 have I2: Inv X pins σ (upd H (s.heap.objs.size + 1) (xnew (s.heap.objs.size + 1) C none)) { s with heap:=h',toks:=s.toks }:=I.laid kept (Nat.le_succ _) (NewAt.ok ⟨_,ex,rfl,rfl⟩)
 have r2: Vals (V.ref (s.heap.objs.size + 1) :: vs) (Value.ref (s.heap.objs.size + 1) :: us):=.cons rfl r
 have hlen: (Value.ref (s.heap.objs.size + 1) :: us ++ []).length = ps.length:=by
  rw [List.append_nil,<- r2.length]
  exact F.len _ _ _ _ hq
 refine codeAny_mono (F.run _ X.stack _ _ ⟨Value.ref (s.heap.objs.size + 1) :: us,[]⟩ (Value.ref (s.heap.objs.size + 1) :: us) _ _ E (hr.make C us []) (I2.env0.make C us [])
  (by have:=hb _ (Value.ref (s.heap.objs.size + 1) :: us) I2.kIn hlen; rwa [List.append_nil] at this) r2 hq) fun rr s' hq' => ?_
 cases rr with
 | error e => exact hx pins σ _ _ e s' I2 hq'
 | ok fl =>
  cases fl with
  | ret u =>
   obtain ⟨v,H',I3,rv,ev,q3⟩:=I2.after hq'
   subst ev
   exact ⟨rv,⟨V.ref (s.heap.objs.size + 1),H',I3,rfl,q3⟩⟩
  | next => exact False.elim hq'
  | brk => exact False.elim hq'
  | cont => exact False.elim hq'
theorem pe_xmake (M: XMk X.K C own f) (F: FnOk X.prog X.w X.K X.mg X.base CX k f fd ps sp) (hr: Room (k + 1) X.A) (hg: Gl X x) (hm: X.mg x = some (.ref C)) (hb: Binds X.K fd ps []) (hx: Passes CX X E)
  (ha: PA X (e :: es) t) (hdb: (x == ("__debug__": Str)) = false:=by decide) (he: starEach (e :: es) X.env = (false,eval e X.env) :: starEach es X.env:=by rfl) (hpl: (backTo pos (starEach es X.env)).any (·.1) = false:=by rfl) :
  PE X (.Call (.Name x p) (e :: es) [] pos) (tXMake C sp E t):=by
 intro pins s σ H Q I h
 refine wpAny_Call_Name_kw (ld_glob I hg hm ?_ hdb)
 exact PySem.W.callWith_K (h₀:=X.base) I.ok.mod.kin M.kp (thn (ha pos pins s σ H _ I h) fun us s1 ⟨vs,H1,I1,r,hl,q⟩ => ⟨I1.kIn,run_xmake M F hr hb hx I1 r hl q⟩) he hpl
theorem pe_xmake0 (M: XMk X.K C own f) (F: FnOk X.prog X.w X.K X.mg X.base CX k f fd ps sp) (hr: Room (k + 1) X.A) (hg: Gl X x) (hm: X.mg x = some (.ref C)) (hb: Binds X.K fd ps []) (hx: Passes CX X E)
  (hdb: (x == ("__debug__": Str)) = false:=by decide): PE X (.Call (.Name x p) [] [] pos) (tXMake C sp E tNil):=by
 intro pins s σ H Q I h
 refine wpAny_Call_Name_kw (ld_glob I hg hm ?_ hdb)
 exact PySem.W.callWith_K0 I.kIn M.kp (run_xmake (us:=[]) M F hr hb hx I .nil h.1 h.2)
def Raises (X: Cx) (E: XK): Prop:=∀ (pins: List (Addr × Obj)) (σ: L2.St) (H: Hp) (s: Shared) (a C: Addr) (d T: Option Addr),Inv X pins σ H s -> H a = some (exc a C d) -> TbIs s.heap a T -> E (.ref a) none H -> X.xe (.ref a) s
def tRaise (K: PySem.W.Frag) (E: XK) (te: TE): TS:=fun _ σ H => te σ H fun v H1 => ∃ a C own d,v = .ref a /\ XCls K C own /\ H1 a = some (xnew a C d) /\ E (.ref a) none (upd H1 a (exc a C d))
theorem ps_raise (hc: X.calm = true) (hx: Raises X E) (he: PE X e te): PS X (.Raise (some e) none pos) (tRaise X.K E te):=by
 intro pins s σ H D I h
 refine xraise (K:=X.K) (I.ok.hd hc) (thn (he pins s σ H _ I h) fun u s1 ⟨v,H1,I1,rv,a,C,own,d,ev,c,ha,hE⟩ => ?_)
 subst ev
 obtain rfl: u = Value.ref a:=rv
 obtain ⟨n,_,_⟩:=id (I1.hok a _ ha)
 obtain ⟨vs,ea,sz,tb⟩:=id n
 have I2: Inv X pins σ (upd H1 a (exc a C d)) { s1 with heap:=s1.heap,toks:=s1.toks }:=I1.write (e:=a) (by rw [ha]; trivial) (.inl rfl) (fun _ _ _ q => q) ⟨_,ea⟩ (ExcAt.ok n.exc)
 exact ⟨a,C,own,d,vs,rfl,I1.kIn,c,ea,tb,hx pins σ _ s1 a C d none I2 upd_same ⟨_,vs,ea,rfl,tb⟩ hE⟩
def sXFld (K: PySem.W.Frag) (ta tv: TE) (f: Str): TS:=fun D σ H => tv σ H fun y H1 => ta σ H1 fun x H2 => ∃ a C own,x = .ref a /\ H2 a = some (xnew a C none) /\ XCls K C own /\ NoAttr K C f /\
 ∀ d,H2 d = none -> d ≠ a -> D.nx σ (upd (upd H2 a (xnew a C (some d))) d (.xd [(f,y)]))
theorem ps_xfld {f: Str} {pos': Pos} {value: Expr} (ha: PE X o ta) (hv: PE X value tv) (hs: swapsWith value (some (.Attribute o f pos')) pos.line X.env = pure false): PS X (.Assign [.Attribute o f pos'] value pos) (sXFld X.K ta tv f):=by
 intro pins s σ H D I h
 refine plainObj_wpAny_Assign_Attribute (thn (hv pins s σ H _ I h) fun u s1 ⟨y,H1,I1,ry,q⟩ => thn (ha pins s1 σ H1 _ I1 q) fun ov s2 ⟨x,H2,I2,rx,a,C,own,ex,ea,c,n,q2⟩ => ?_) hs
 subst ex
 obtain rfl: ov = Value.ref a:=rx
 obtain ⟨⟨vs,eo,sz,tb⟩,_,_⟩:=I2.hok a _ ea
 refine xset I2.kIn c n eo fun h' kept ex ns => ?_
 have fr: H2 s2.heap.objs.size = none:=I2.hok.fresh (Nat.le_refl _)
 have ne: s2.heap.objs.size ≠ a:=Nat.ne_of_gt (Heap.lt_size eo)
 have un: Un X.fs [] H2 (upd (upd H2 a (xnew a C (some s2.heap.objs.size))) s2.heap.objs.size (.xd [(f,y)])) s2.heap h':=by
  have big: ∀ b o,s2.heap.get? b = some o -> b ≠ s2.heap.objs.size:=fun b o e => Nat.ne_of_lt (Heap.lt_size e)
  refine ⟨fun b o e n _ _ => kept b o (fun z => by rw [z,ea] at n; cases n) e,fun b o e n _ _ => ⟨o.slots,kept b o (fun z => by rw [z,ea] at n; cases n) e⟩,fun b o e n _ => ?_,fun b o e _ => ?_,fun b xs e => ?_,fun b o u e => ?_,fun b ps e => ⟨#[],?_⟩⟩
  ·rw [upd_ne (big b o e),upd_ne (fun z => by rw [z,ea] at n; cases n)]; exact n
  ·by_cases z: b = a
   ·subst z; exact ⟨_,ex⟩
   ·exact ⟨o,kept b o z e⟩
  ·rw [upd_ne (ne_of_none e fr),upd_ne (ne_of e ea (by intro z; cases z))]; exact e
  ·rw [upd_ne (ne_of_none e fr),upd_ne (ne_of e ea (by intro z; cases z))]; exact e
  ·rw [upd_ne (ne_of_none e fr),upd_ne (ne_of e ea (by intro z; cases z)),e]; simp
 have hok: HOk X.prog X.w (upd (upd H2 a (xnew a C (some s2.heap.objs.size))) s2.heap.objs.size (.xd [(f,y)])) h':=fun b u e => by
  by_cases z1: b = s2.heap.objs.size
  ·subst z1
   rw [upd_same] at e
   cases e
   refine ⟨_,ns,fun g => ?_⟩
   by_cases gf: g = f
   ·subst gf
    simp only [List.lookup_cons,beq_self_eq_true,if_true]
    exact ry
   ·have: (g == f) = false:=beq_eq_false_iff_ne.mpr gf
    simp only [List.lookup_cons,this,if_neg gf,List.lookup_nil]
    trivial
  ·rw [upd_ne z1] at e
   by_cases z2: b = a
   ·subst z2
    rw [upd_same] at e
    cases e
    exact NewAt.ok ⟨vs,ex,sz,tb⟩
   ·rw [upd_ne z2] at e
    refine (I2.hok b u e).stay (fun c v hc q => kept c v ?_ q) (fun c q => ?_) fun c xs q => ?_
    ·rcases hc with r | r
     ·rw [r]; exact z2
     ·exact ne_of r ea (by intro z; cases z)
    ·rw [upd_ne (ne_of_none q fr),upd_ne (ne_of q ea (by intro z; cases z))]; exact q
    ·rw [upd_ne (ne_of_none q fr),upd_ne (ne_of q ea (by intro z; cases z))]; exact q
 exact ⟨σ,_,I2.un (t':=s2.toks + 2) un hok,q2 _ fr ne⟩
def tXFld (K: PySem.W.Frag) (ta: TE) (f: Str): TE:=fun σ H Q => ta σ H fun x H1 => ∃ a C own d fs v,x = .ref a /\ H1 a = some (exc a C (some d)) /\ H1 d = some (.xd fs) /\ XCls K C own /\ NoAttr K C f /\ fs.lookup f = some v /\ Q v H1
theorem pe_xfld {f: Str} (he: PE X e ta) (hb: attributeBase e f X.env (eval e X.env) = eval e X.env): PE X (.Attribute e f pos) (tXFld X.K ta f):=by
 intro pins s σ H Q I h
 refine attr_of hb (thn (he pins s σ H _ I h) fun u s1 ⟨x,H1,I1,rx,a,C,own,d,fs,v,ex,ea,ed,c,n,l,q⟩ => ?_)
 subst ex
 obtain rfl: u = Value.ref a:=rx
 obtain ⟨⟨vs,eo,_⟩,_,_⟩:=I1.hok a _ ea
 obtain ⟨mA,ns,rel⟩:=I1.hok d _ ed
 obtain ⟨u',hu,ru⟩:=RelO.some_of (v:=v) (o:=mA f) (by rw [<- l]; exact rel f)
 exact xget I1.kIn c n eo ns hu (handed_of ru) ⟨v,H1,I1.tok _,ru,q⟩
end
end Xc
namespace Xc
open PySem PySem.Spec PyProof.Rows L2
abbrev tryCx (X: Cx) (pins: List (Addr × Obj)) (E: Value -> Shared -> Prop): Cx:={ X with pn:=X.pn ++ pins,xe:=E }
abbrev hndCx (X: Cx) (e: Value): Cx:={ X with A:=X.A.mark (some e),calm:=false,xe:=fun _ _ => False }
section
variable {X: Cx} {pins: List (Addr × Obj)} {σ: L2.St} {H: Hp} {s: Shared}
theorem okTry {E: Value -> Shared -> Prop} (ok: X.Ok): (tryCx X pins E).Ok:=⟨ok.mod,ok.kind,ok.glob,ok.blt,ok.above,ok.inj,ok.has,ok.cab,ok.hd,ok.frames,ok.stk,ok.exf,ok.bs,ok.bsz,ok.noex,ok.exfs,ok.funs,ok.frf⟩
theorem unTry {E: Value -> Shared -> Prop} (ok: (tryCx X pins E).Ok): X.Ok:=⟨ok.mod,ok.kind,ok.glob,ok.blt,ok.above,ok.inj,ok.has,ok.cab,ok.hd,ok.frames,ok.stk,ok.exf,ok.bs,ok.bsz,ok.noex,ok.exfs,ok.funs,ok.frf⟩
theorem toTry {E: Value -> Shared -> Prop} (I: Inv X pins σ H s): Inv (tryCx X pins E) [] σ H s :=
 ⟨okTry I.ok,I.os,I.bare,I.base,I.loc,I.cell,I.free,I.freeC,fun p hp => I.pin p (by rw [List.append_nil] at hp; exact hp),I.hok,I.len⟩
theorem ofTry {E: Value -> Shared -> Prop} {pins': List (Addr × Obj)} (I: Inv (tryCx X pins E) pins' σ H s): Inv X pins σ H s :=
 ⟨unTry I.ok,I.os,I.bare,I.base,I.loc,I.cell,I.free,I.freeC,fun p hp => I.pin p (List.mem_append_left _ hp),I.hok,I.len⟩
theorem toHnd {e: Value} (I: Inv X pins σ H s): Inv (hndCx X e) pins σ H s :=
 ⟨⟨I.ok.mod,I.ok.kind,I.ok.glob,I.ok.blt,I.ok.above,I.ok.inj,I.ok.has,I.ok.cab,(fun z => by cases z),I.ok.frames,I.ok.stk,I.ok.exf,I.ok.bs,I.ok.bsz,I.ok.noex,I.ok.exfs,I.ok.funs,I.ok.frf⟩,
  I.os,I.bare,I.base,I.loc,I.cell,I.free,I.freeC,I.pin,I.hok,I.len⟩
theorem ofHnd {e: Value} (hd: X.calm = true -> X.A.handled = none) (I: Inv (hndCx X e) pins σ H s): Inv X pins σ H s :=
 ⟨⟨I.ok.mod,I.ok.kind,I.ok.glob,I.ok.blt,I.ok.above,I.ok.inj,I.ok.has,I.ok.cab,hd,I.ok.frames,I.ok.stk,I.ok.exf,I.ok.bs,I.ok.bsz,I.ok.noex,I.ok.exfs,I.ok.funs,I.ok.frf⟩,
  I.os,I.bare,I.base,I.loc,I.cell,I.free,I.freeC,I.pin,I.hok,I.len⟩
theorem forget {h': Heap} {m': Str -> Option Value} {t': Nat} (I: Inv X pins σ H s) (n: h'.Ns X.env.locals m') (sb: Heap.SameBut X.env.locals s.heap h'): Inv X pins (σ.map fun _ => none) H { s with heap:=h',toks:=t' }:=by
 have old: ∀ b o,X.s_0.heap.get? b = some o -> b ≠ X.env.locals:=fun b o e => Nat.ne_of_lt (Nat.lt_of_lt_of_le (Heap.lt_size e) I.ok.above)
 have kp: ∀ b o,b ≠ X.env.locals -> s.heap.get? b = some o -> h'.get? b = some o:=fun b o ne e => (sb.2 b ne).trans e
 have nt: ∀ b u,H b = some u -> b ≠ X.env.locals:=fun b u e z => by rw [z,I.free] at e; cases e
 refine ⟨I.ok,I.os,I.bare,⟨fun b o e nn hb hx => kp b o (old b o e) (I.base.keep b o e nn hb hx),fun b o e nn hb hx => ?_,I.base.free,fun b o e hx => ?_,I.base.tups,I.base.frzs,I.base.tbls⟩,⟨m',n,fun i x v h1 h2 => ?_⟩,fun x c e => ?_,I.free,I.freeC,fun p hp => ?_,fun b u e => ?_,by rw [List.length_map]; exact I.len⟩
 ·obtain ⟨sl,z⟩:=I.base.slot b o e nn hb hx
  exact ⟨sl,kp b _ (old b o e) z⟩
 ·obtain ⟨o',z⟩:=I.base.there b o e hx
  exact ⟨o',kp b _ (old b o e) z⟩
 ·rw [List.getElem?_map] at h2
  cases q: σ[i]? <;> rw [q] at h2 <;> cases h2
 ·obtain ⟨v,o,ho,hd⟩:=I.cell x c e
  exact ⟨v,o,kp c o (I.cne x c e) ho,hd⟩
 ·obtain ⟨e,n1,n2,n3,n4⟩:=I.pin p hp
  exact ⟨kp _ _ n2 e,n1,n2,n3,n4⟩
 ·refine (I.hok b u e).stay (fun c v hc q => kp c v ?_ q) (fun _ q => q) fun _ _ q => q
  rcases hc with r | r
  ·rw [r]; exact nt b u e
  ·exact nt c _ r
theorem landed {M: Model} {A: Around} {E: Value -> Shared -> Prop} {a T: Addr} {Q: Unit -> Shared -> Prop} (tb: TbIs s.heap a (some T)) (q: Q () s): wpAny M A (setFlight (.ref a) none) Q E s:=by
 obtain ⟨o,vs,ea,da,h1,oT,ts,eT,dT,h3⟩:=tb
 unfold setFlight
 refine wpAny_bind (wpAny_field ea da h1 ?_)
 rw [if_pos (by simp)]
 refine wpAny_setField eT dT (Array.getElem?_eq_some_iff.mp h3).1 ?_
 show Q () { s with heap:=s.heap.update T (Obj.mapFields (·.setIfInBounds 3 .none)) }
 rw [Heap.update_setField_same s.heap T oT ts 3 .none eT dT h3]
 exact q
end
section
variable {prog: Program} {w: World} {A: Around} {E: Value -> Shared -> Prop} {s: Shared} {K: PySem.W.Frag} {a C R: Addr} {own ownR: List Addr} {d: Option Addr}
set_option maxHeartbeats 4000000 in
theorem xmatch {Q: Bool -> Shared -> Prop} (KX: K.In s.heap) (c: XCls K C own) (cR: XCls K R ownR) (isR: C = R \/ R ∈ own) (ea: ExcAt a C d s.heap) (q: Q true s): wpAny (model prog w) A (excMatches (.ref a) (.ref R)) Q E s:=by
 obtain ⟨vs,ea,_⟩:=ea
 obtain ⟨h,g,dr,t,os⟩:=s
 obtain ⟨nm,qn,N,bs,sn,sub,ab,col,dd,k0,k1,k2,k3,k5,el⟩:=cR.lk
 have eR: h.get? R = some (xObj nm qn R N bs ownR sn sub ab col dd k0 k1 k2 k3 k5):=KX _ _ el
 have sup: PySem.W.mroIn K C (.ref R) = some true:=by
  obtain ⟨cd,e,_,m⟩:=c.cd
  unfold PySem.W.mroIn
  rw [e,Option.bind_some,m,if_neg (by simp)]
  refine congrArg some (List.contains_iff_mem.mpr ?_)
  rcases isR with rfl | hr
  ·exact List.mem_cons_self
  ·exact List.mem_cons_of_mem _ (List.mem_append_left _ (List.mem_map.mpr ⟨R,hr,rfl⟩))
 have L1: PySem.W.Looks (model prog w) h (isInstance (.ref R) (.type "tuple")) false:=((PySem.W.Looks.ld eR).andThen .now).andThen (PySem.W.Looks.of_pure tc_notTuple)
 have L2: PySem.W.Looks (model prog w) h (isExcClass (.ref R)) true:=((PySem.W.Looks.ld eR).andThen .now).andThen (PySem.W.looks_mroIn KX (cR.sub (by decide)))
 have L3: PySem.W.Looks (model prog w) h (typeOf (.ref a)) (.ref C):=(PySem.W.Looks.ld ea).andThen .now
 have L4: PySem.W.Looks (model prog w) h (isSubtype (.ref C) (.ref R)) true:=PySem.W.looks_mroIn KX sup
 unfold excMatches
 refine wpAny_bind (L1.at ?_)
 simp only [Bool.false_eq_true,if_false,pure_bind,List.forIn_cons,List.forIn_nil]
 repeat (first | refine L2.at ?_ | refine L3.at ?_ | refine L4.at ?_ | refine wpAny_bind ?_ | simp only [Bool.not_true,Bool.false_eq_true,if_false,if_true] | refine wpAny_pure ?_)
 exact q
end
section
variable {X: Cx} {E: XK} {body: List Stmt} {b0: Stmt} {suite: List Stmt} {x n: Str} {i: Nat} {p hpos pos: Pos} {R: Addr} {tb: XK -> TS} {ts: TS}
def tTry (K: PySem.W.Frag) (len i: Nat) (R: Addr) (tb: XK -> TS) (ts: TS): TS:=fun D σ H =>
 tb (fun e _ H' => ∃ a C own d,e = .ref a /\ XCls K C own /\ (C = R \/ R ∈ own) /\ H' a = some (exc a C d) /\ ∀ σ': L2.St,σ'.length = len -> ts { nx:=fun _ _ => False,rt:=D.rt } (σ'.set i (some (.ref a))) H') D σ H
set_option maxHeartbeats 4000000 in
theorem ps_try {P: Program} {w: World} (eP: X.prog = P) (ew: X.w = w) (hc: X.calm = true) (hst: X.stack = X.env :: X.outer /\ X.env.frame = some X.env.locals) (hN: X.N.Nodup) (hi: X.N[i]? = some n) (hl: X.env.scope.names.lookup n = some .local)
  (hg: Gl X x) (hm: X.mg x = some (.ref R)) {ownR: List Addr} (cR: XCls X.K R ownR)
  (hb: ∀ pins E1 E',Passes (XC P w) (tryCx X pins E1) E' -> PSs (tryCx X pins E1) body (tb E')) (hs: ∀ e,PSs (hndCx X e) (b0 :: suite) ts) (hdb: (x == ("__debug__": Str)) = false:=by decide) :
  PS X (.Try body [.ExceptHandler (some (.Name x p)) (some n) (b0 :: suite) hpos] [] [] pos) (tTry X.K X.N.length i R tb ts):=by
 intro pins s σ H D I h
 subst eP ew
 refine wpAny_Try_except ?_
 refine wpAny_mono (hb pins _ _ ?_ [] s σ H D (toTry I) h) (fun f s1 z => ?_) (fun e s1 z => z)
 ·-- an exception lands
  intro pins' σ' H1 s1 e s' I1 z
  obtain ⟨a,H',T,C0,d0,rfl,os,bare,un,hok,ha0,tbT,b,C,own,d,eab,c,isR,ha,hts⟩:=z
  injection eab with eab
  subst eab
  have I2: Inv X pins σ' H' s':=ofTry (Inv.call' I1 os un hok bare (fun b z => absurd z (by simp)))
  refine Inv.noted I2 hst ha tbT fun s2 T2 I3 tb2 => ?_
  have lt: i < σ'.length:=by rw [I2.len]; exact (List.getElem?_eq_some_iff.mp hi).1
  refine wpAny_handleBy_cons ?_ (by intro z; cases z)
  refine codeAny_handlers_test ?_
  have I4: Inv (hndCx X (.ref a)) pins σ' H' s2:=toHnd I3
  refine ld_glob I4 hg hm ?_ hdb
  refine xmatch I3.kIn c cR isR (I3.hok a _ ha).1 ?_
  refine codeAny_handlers_suite_as ?_
  refine landed tb2 ?_
  refine store_ok I3 hN hi (.inl hl) (v:=.ref a) rfl (fun s3 I5 => ?_) (.inr hl)
  have nosuch:=hs (.ref a) pins s3 _ H' _ (toHnd I5) (hts σ' I2.len)
  refine wpAny_mono nosuch (fun f s4 z => ?_) (fun e s4 z => z.elim)
  cases f with
  | next => obtain ⟨_,_,_,z⟩:=z; exact z.elim
  | brk => obtain ⟨_,_,_,z⟩:=z; exact z.elim
  | cont => obtain ⟨_,_,_,z⟩:=z; exact z.elim
  | ret u =>
   obtain ⟨v,σ4,H4,I6,rv,hrt⟩:=z
   have I7: Inv X pins σ4 H4 s4:=ofHnd I.ok.hd I6
   obtain ⟨m,nm,_⟩:=id I7.loc
   refine wpAny_nameGoes hl nm (by rw [I.ok.kind]; rfl) fun h' m' n' sb => ?_
   exact ⟨v,_,H4,forget I7 n' sb,rv,hrt⟩
 ·cases f with
  | next =>
   obtain ⟨σ',H',I',z⟩:=z
   exact wpAny_execs_nil ⟨σ',H',ofTry I',z⟩
  | brk => obtain ⟨σ',H',I',z⟩:=z; exact ⟨σ',H',ofTry I',z⟩
  | cont => obtain ⟨σ',H',I',z⟩:=z; exact ⟨σ',H',ofTry I',z⟩
  | ret u => obtain ⟨v,σ',H',I',rv,z⟩:=z; exact ⟨v,σ',H',ofTry I',rv,z⟩
end
end Xc
namespace Xc
open PySem PySem.Spec PyProof.Rows L2
structure CMeth (K: PySem.W.Frag) (C: Addr) (m: Str) (f: Addr): Prop where
 ga: PySem.W.specialIn K (.ref C) "__getattribute__" = some (some (.builtin "type.__getattribute__"))
 rd: PySem.W.readsIn K C (.type "type") = true
 fc: PySem.W.findCls K (.ref C) (.type "type") m = some (.val (.ref f))
 kp: PySem.W.keepIn K (.ref f) = true
section
variable {X: Cx} {CX: CXT} {k: Nat} {f C: Addr} {fd: FuncData} {ps: List Str} {sp: Sp} {E: XK} {x m: Str} {np pos apos: Pos} {e: Expr} {es: List Expr} {t: TA}
theorem pe_cmeth {pl: Sem Bool} (hg: Gl X x) (hm: X.mg x = some (.ref C)) (M: CMeth X.K C m f) (F: FnOk X.prog X.w X.K X.mg X.base CX k f fd ps sp) (hr: Room k X.A) (hb: Binds X.K fd ps []) (hx: Passes CX X E) (ha: PA X (e :: es) t)
  (hdb: (x == ("__debug__": Str)) = false:=by decide) (hst: starEach (e :: es) X.env = (false,eval e X.env) :: starEach es X.env:=by rfl) (hpl: (backTo pos (starEach es X.env)).any (·.1) = false:=by rfl)
  (ht: eval (.Call (.Attribute (.Name x np) m apos) (e :: es) [] pos) X.env = (do
   let ov <- eval (.Name x np) X.env
   standAt apos.atName
   let (f,first) <- holding [ov] (getMethod ov m pl)
   callWith pos f first (backTo pos (starEach (e :: es) X.env)) (backToKw pos (keywordEach [] X.env))):=by rfl) :
  PE X (.Call (.Attribute (.Name x np) m apos) (e :: es) [] pos) (tCall sp [] E t):=by
 intro pins s σ H Q I h
 refine PySem.W.methodCall_KW (pl:=pl) (ld_glob I hg hm ?_ hdb) ht
 refine PySem.W.method_cls I.kIn M.ga (PySem.W.cls_value I.kIn M.rd M.fc rfl ?_)
 have I1: Inv X pins σ H { s with toks:=s.toks + 1 }:=I.tok _
 exact PySem.W.callWith_K (first:=[]) (h₀:=X.base) I.ok.mod.kin M.kp (thn (ha pos pins _ σ H _ I1 h) fun us s2 ⟨vs,H2,I2,r,q2⟩ => ⟨I2.kIn,run_fn (us:=us) (vs:=vs) F hr hb .nil hx I2 r q2⟩) hst hpl
end
end Xc
end
section
namespace Mh
set_option linter.unusedVariables false
open Tide
def Step (o: Over) (i k: Nat): Prop:=(o.a = i /\ o.b = k) \/ (o.b = i /\ o.a = k)
theorem Step.symm {o: Over} {i k: Nat} (h: Step o i k): Step o k i:=by
 rcases h with ⟨a,b⟩ | ⟨a,b⟩
 ·exact .inr ⟨b,a⟩
 ·exact .inl ⟨b,a⟩
inductive Trail (F: List Over): Nat -> Nat -> List Nat -> Prop
 | nil (i: Nat): Trail F i i []
 | cons {o: Over} {i k j: Nat} {ls: List Nat} (h: o ∈ F) (s: Step o i k) (t: Trail F k j ls): Trail F i j (o.line :: ls)
theorem Trail.append {F: List Over} {i k j: Nat} {p q: List Nat} (h: Trail F i k p) (g: Trail F k j q): Trail F i j (p ++ q):=by
 induction h with
 | nil i => exact g
 | cons h s t ih => exact .cons h s (ih g)
theorem Trail.rev {F: List Over} {i j: Nat} {p: List Nat} (h: Trail F i j p): Trail F j i p.reverse:=by
 induction h with
 | nil i => exact .nil i
 | cons h s t ih =>
  rw [List.reverse_cons]
  exact ih.append (.cons h s.symm (.nil _))
theorem Trail.mono {F G: List Over} (hs: ∀ o ∈ F,o ∈ G) {i j: Nat} {p: List Nat} (h: Trail F i j p): Trail G i j p:=by
 induction h with
 | nil i => exact .nil i
 | cons h s t ih => exact .cons (hs _ h) s ih
def Conn (F: List Over) (i j: Nat): Prop:=∃ p,Trail F i j p
theorem Conn.refl {F: List Over} (i: Nat): Conn F i i:=⟨[],.nil i⟩
theorem Conn.symm {F: List Over} {i j: Nat} (h: Conn F i j): Conn F j i:=let ⟨p,t⟩:=h; ⟨_,t.rev⟩
theorem Conn.trans {F: List Over} {i j k: Nat} (h: Conn F i j) (g: Conn F j k): Conn F i k:=let ⟨_,t⟩:=h; let ⟨_,u⟩:=g; ⟨_,t.append u⟩
def NB: List Nat -> Prop
 | a :: b :: r => a ≠ b /\ NB (b :: r)
 | _ => True
theorem NB.tail {a: Nat} {l: List Nat} (h: NB (a :: l)): NB l:=by
 cases l with
 | nil => trivial
 | cons b r => exact h.2
theorem NB.right: ∀ {p q: List Nat},NB (p ++ q) -> NB q
 | [],_,h => h
 | _ :: p,q,h => NB.right (p:=p) (NB.tail h)
theorem NB.left: ∀ {p q: List Nat},NB (p ++ q) -> NB p
 | [],_,_ => trivial
 | [_],_,_ => trivial
 | _ :: b :: p,q,h => ⟨h.1,NB.left (p:=b :: p) (q:=q) h.2⟩
inductive Acyc: List Over -> Prop
 | nil: Acyc []
 | snoc {F: List Over} {o: Over} (h: Acyc F) (c: ¬ Conn F o.a o.b) (l: ∀ e ∈ F,e.line ≠ o.line): Acyc (F ++ [o])
theorem Acyc.one {F: List Over} (h: Acyc F): ∀ e ∈ F,∀ g ∈ F,e.line = g.line -> e = g:=by
 induction h with
 | nil => intro e he; cases he
 | snoc h c l ih =>
  intro e he g hg q
  rcases List.mem_append.mp he with h1 | h1 <;> rcases List.mem_append.mp hg with h2 | h2
  ·exact ih e h1 g h2 q
  ·rw [List.mem_singleton.mp h2] at q
   exact absurd q (l e h1)
  ·rw [List.mem_singleton.mp h1] at q
   exact absurd q.symm (l g h2)
  ·rw [List.mem_singleton.mp h1,List.mem_singleton.mp h2]
theorem Acyc.apart {F: List Over} (h: Acyc F): ∀ e ∈ F,e.a ≠ e.b:=by
 induction h with
 | nil => intro e he; cases he
 | snoc h c l ih =>
  intro e he q
  rcases List.mem_append.mp he with he | he
  ·exact ih e he q
  ·rw [List.mem_singleton.mp he] at q
   exact c (q ▸ Conn.refl _)
def Uniq (F: List Over): Prop:=∀ i j p q,Trail F i j p -> Trail F i j q -> NB p -> NB q -> p = q
theorem cross {F: List Over} {o: Over} (u: Uniq F) (c: ¬ Conn F o.a o.b) (l: ∀ e ∈ F,e.line ≠ o.line) {i j: Nat} {p: List Nat} (t: Trail (F ++ [o]) i j p) (n: NB p) :
  (Trail F i j p /\ o.line ∉ p) \/ ∃ p1 p2 x y,p = p1 ++ o.line :: p2 /\ o.line ∉ p1 /\ o.line ∉ p2 /\ Step o x y /\ Trail F i x p1 /\ Trail F y j p2:=by
 induction t with
 | nil i => exact .inl ⟨.nil i,by simp⟩
 | @cons e i k j ls he s t ih =>
  have ih:=ih (NB.tail n)
  rcases List.mem_append.mp he with heF | heO
  ·have ne: e.line ≠ o.line:=l e heF
   rcases ih with ⟨t',nn⟩ | ⟨p1,p2,x,y,e1,n1,n2,st,t1,t2⟩
   ·exact .inl ⟨.cons heF s t',by simp [Ne.symm ne,nn]⟩
   ·subst e1
    exact .inr ⟨e.line :: p1,p2,x,y,rfl,by simp [Ne.symm ne,n1],n2,st,.cons heF s t1,t2⟩
  ·have eo: e = o:=List.mem_singleton.mp heO
   subst eo
   rcases ih with ⟨t',nn⟩ | ⟨p1,p2,x,y,e1,n1,n2,st,t1,t2⟩
   ·exact .inr ⟨[],ls,i,k,rfl,by simp,nn,s,.nil i,t'⟩
   ·subst e1
    exfalso
    have kx: Conn F k x:=⟨_,t1⟩
    have hk: k = x:=by
     rcases s with ⟨s1,s2⟩ | ⟨s1,s2⟩ <;> rcases st with ⟨q1,q2⟩ | ⟨q1,q2⟩
     ·exact absurd (by rw [<- s2,<- q1] at kx; exact kx.symm) c
     ·rw [<- s2,<- q1]
     ·rw [<- s2,<- q1]
     ·exact absurd (by rw [<- s2,<- q1] at kx; exact kx) c
    subst hk
    have np1: NB p1:=NB.left (NB.tail n)
    have z: p1 = []:=u _ _ _ _ t1 (.nil k) np1 trivial
    subst z
    exact n.1 rfl
theorem Acyc.uniq {F: List Over} (h: Acyc F): Uniq F:=by
 induction h with
 | nil =>
  intro i j p q hp hq _ _
  cases hp with
  | nil => cases hq with
   | nil => rfl
   | cons h _ _ => cases h
  | cons h _ _ => cases h
 | @snoc F o h c l ih =>
  intro i j p q hp hq np nq
  rcases cross ih c l hp np with ⟨tp,_⟩ | ⟨p1,p2,x,y,e1,a1,a2,st,t1,t2⟩ <;> rcases cross ih c l hq nq with ⟨tq,_⟩ | ⟨q1,q2,x',y',e1',a1',a2',st',t1',t2'⟩
  ·exact ih i j p q tp tq np nq
  ·exfalso
   have: Conn F x' y':=(Conn.symm ⟨_,t1'⟩).trans (Conn.trans ⟨_,tp⟩ (Conn.symm ⟨_,t2'⟩))
   rcases st' with ⟨s1,s2⟩ | ⟨s1,s2⟩
   ·exact c (by rw [s1,s2]; exact this)
   ·exact c (by rw [s1,s2]; exact this.symm)
  ·exfalso
   have: Conn F x y:=(Conn.symm ⟨_,t1⟩).trans (Conn.trans ⟨_,tq⟩ (Conn.symm ⟨_,t2⟩))
   rcases st with ⟨s1,s2⟩ | ⟨s1,s2⟩
   ·exact c (by rw [s1,s2]; exact this)
   ·exact c (by rw [s1,s2]; exact this.symm)
  ·have xx: Conn F x x':=(Conn.symm ⟨_,t1⟩).trans ⟨_,t1'⟩
   have hx: x = x' /\ y = y':=by
    rcases st with ⟨s1,s2⟩ | ⟨s1,s2⟩ <;> rcases st' with ⟨s1',s2'⟩ | ⟨s1',s2'⟩
    ·exact ⟨by rw [<- s1,<- s1'],by rw [<- s2,<- s2']⟩
    ·exact absurd (by rw [<- s1,<- s1'] at xx; exact xx) c
    ·exact absurd (by rw [<- s1,<- s1'] at xx; exact xx.symm) c
    ·exact ⟨by rw [<- s1,<- s1'],by rw [<- s2,<- s2']⟩
   obtain ⟨h1,h2⟩:=hx
   subst h1 h2
   subst e1 e1'
   rw [ih _ _ _ _ t1 t1' np.left nq.left,ih _ _ _ _ t2 t2' (NB.tail (NB.right np)) (NB.tail (NB.right nq))]
theorem Trail.mem {F: List Over} {i j: Nat} {p: List Nat} (h: Trail F i j p): ∀ l ∈ p,∃ e ∈ F,e.line = l /\ Conn F i e.a:=by
 induction h with
 | nil i => intro l hl; cases hl
 | @cons o i k j ls ho s t ih =>
  intro l hl
  rcases List.mem_cons.mp hl with e | hl
  ·refine ⟨o,ho,e.symm,?_⟩
   rcases s with ⟨s1,_⟩ | ⟨s1,s2⟩
   ·rw [s1]; exact Conn.refl _
   ·exact ⟨_,.cons ho (.inr ⟨s1,rfl⟩) (.nil _)⟩
  ·obtain ⟨e,he,q,cn⟩:=ih l hl
   exact ⟨e,he,q,Conn.trans ⟨_,.cons ho s (.nil _)⟩ cn⟩
theorem Acyc.nodup {F: List Over} (h: Acyc F): ∀ i j p,Trail F i j p -> NB p -> p.Nodup:=by
 induction h with
 | nil =>
  intro i j p hp _
  cases hp with
  | nil => exact List.nodup_nil
  | cons h _ _ => cases h
 | @snoc F o h c l ih =>
  intro i j p hp np
  rcases cross h.uniq c l hp np with ⟨tp,_⟩ | ⟨p1,p2,x,y,e1,a1,a2,st,t1,t2⟩
  ·exact ih i j p tp np
  ·subst e1
   have n1:=ih _ _ _ t1 np.left
   have n2:=ih _ _ _ t2 (NB.tail (NB.right np))
   rw [List.nodup_append]
   refine ⟨n1,List.nodup_cons.mpr ⟨a2,n2⟩,fun u hu v hv q => ?_⟩
   subst q
   rcases List.mem_cons.mp hv with e | hv
   ·subst e; exact a1 hu
   ·obtain ⟨e,he,q1,c1⟩:=t1.rev.mem u (by simp [hu])
    obtain ⟨g,hg,q2,c2⟩:=t2.mem u hv
    have: e = g:=h.one e he g hg (q1.trans q2.symm)
    subst this
    have xy: Conn F x y:=c1.trans c2.symm
    rcases st with ⟨s1,s2⟩ | ⟨s1,s2⟩
    ·exact c (by rw [s1,s2]; exact xy)
    ·exact c (by rw [s1,s2]; exact xy.symm)
theorem nodup_le: ∀ {l m: List Nat},l.Nodup -> (∀ x ∈ l,x ∈ m) -> l.length <= m.length
 | [],_,_,_ => Nat.zero_le _
 | a :: l,m,n,s => by
  have ha: a ∈ m:=s a List.mem_cons_self
  have h1:=nodup_le (l:=l) (m:=m.erase a) (List.nodup_cons.mp n).2 fun x hx => by
   have ne: x ≠ a:=fun e => (List.nodup_cons.mp n).1 (e ▸ hx)
   exact (List.mem_erase_of_ne ne).mpr (s x (List.mem_cons_of_mem _ hx))
  have h2:=List.length_erase_of_mem ha
  have h3: 0 < m.length:=List.length_pos_of_mem ha
  simp only [List.length_cons]
  omega
theorem Acyc.short {F: List Over} (h: Acyc F) {i j: Nat} {p: List Nat} (t: Trail F i j p) (n: NB p): p.length <= F.length:=by
 have:=nodup_le (m:=F.map (·.line)) (h.nodup i j p t n) fun x hx => by
  obtain ⟨e,he,q,_⟩:=t.mem x hx
  exact List.mem_map.mpr ⟨e,he,q⟩
 simpa using this
end Mh
end
section
namespace Mh
open Tide
def HeadNe (came: Option Nat): List Nat -> Prop
 | [] => True
 | l :: _ => some l ≠ came
theorem NB.cons {l: Nat} {p: List Nat} (h: HeadNe (some l) p) (n: NB p): NB (l :: p):=by
 cases p with
 | nil => trivial
 | cons b r => exact ⟨fun e => h (by rw [e]),n⟩
theorem findSome_some {α β: Type} {f: α -> Option β}: ∀ {l: List α} {b: β},l.findSome? f = some b -> ∃ a ∈ l,f a = some b
 | [],b,h => by simp at h
 | a :: l,b,h => by
  rw [List.findSome?_cons] at h
  cases e: f a with
  | none => rw [e] at h; obtain ⟨x,hx,q⟩:=findSome_some h; exact ⟨x,List.mem_cons_of_mem _ hx,q⟩
  | some c => rw [e] at h; exact ⟨a,List.mem_cons_self,by rw [e,<- h]⟩
theorem findSome_isSome {α β: Type} {f: α -> Option β}: ∀ {l: List α} {a: α},a ∈ l -> (f a).isSome = true -> (l.findSome? f).isSome = true
 | b :: l,a,h,q => by
  rw [List.findSome?_cons]
  cases e: f b with
  | some c => rfl
  | none =>
   rcases List.mem_cons.mp h with r | h
   ·subst r
    rw [e] at q; cases q
   ·exact findSome_isSome h q
theorem wayIn_sound (F: List Over): ∀ (f i j: Nat) (came: Option Nat) (r: List (Nat × Bool)),wayIn F f i j came = some r -> Trail F i j (r.map (·.1)) /\ NB (r.map (·.1)) /\ HeadNe came (r.map (·.1))
 | 0,i,j,came,r,h => by
  unfold wayIn at h
  by_cases e: i = j
  ·rw [if_pos e] at h; cases h; subst e; exact ⟨.nil i,trivial,trivial⟩
  ·rw [if_neg e] at h; cases h
 | f + 1,i,j,came,r,h => by
  unfold wayIn at h
  by_cases e: i = j
  ·rw [if_pos e] at h; cases h; subst e; exact ⟨.nil i,trivial,trivial⟩
  ·rw [if_neg e] at h
   obtain ⟨o,ho,q⟩:=findSome_some h
   obtain ⟨ho,hc⟩:=List.mem_filter.mp ho
   have hc: some o.line ≠ came:=of_decide_eq_true hc
   by_cases ea: o.a = i
   ·rw [if_pos ea] at q
    cases w: wayIn F f o.b j (some o.line) with
    | none => rw [w] at q; cases q
    | some r' =>
     rw [w] at q
     cases q
     obtain ⟨t,n,hn⟩:=wayIn_sound F f _ _ _ _ w
     exact ⟨.cons ho (.inl ⟨ea,rfl⟩) t,NB.cons hn n,hc⟩
   ·rw [if_neg ea] at q
    by_cases eb: o.b = i
    ·rw [if_pos eb] at q
     cases w: wayIn F f o.a j (some o.line) with
     | none => rw [w] at q; cases q
     | some r' =>
      rw [w] at q
      cases q
      obtain ⟨t,n,hn⟩:=wayIn_sound F f _ _ _ _ w
      exact ⟨.cons ho (.inr ⟨eb,rfl⟩) t,NB.cons hn n,hc⟩
    ·rw [if_neg eb] at q; cases q
theorem wayIn_all {F: List Over} (ap: ∀ e ∈ F,e.a ≠ e.b) {i j: Nat} {p: List Nat} (t: Trail F i j p): ∀ (f: Nat) (came: Option Nat),NB p -> HeadNe came p -> p.length <= f -> (wayIn F f i j came).isSome = true:=by
 induction t with
 | nil i => intro f came _ _ _; cases f <;> (unfold wayIn; rw [if_pos rfl]; rfl)
 | @cons o i k j ls ho s t ih =>
  intro f came n hn hl
  cases f with
  | zero => simp at hl
  | succ f =>
   unfold wayIn
   by_cases e: i = j
   ·rw [if_pos e]; rfl
   ·rw [if_neg e]
    refine findSome_isSome (a:=o) (List.mem_filter.mpr ⟨ho,decide_eq_true hn⟩) ?_
    have hd: HeadNe (some o.line) ls:=by
     cases ls with
     | nil => trivial
     | cons b r => exact fun e => n.1 (Option.some.inj e).symm
    have:=ih f (some o.line) (NB.tail n) hd (by simpa using hl)
    rcases s with ⟨s1,s2⟩ | ⟨s1,s2⟩
    ·rw [if_pos s1,s2]
     simpa using this
    ·rw [if_neg (fun z => ap o ho (by rw [z,s1])),if_pos s1,s2]
     simpa using this
theorem wayIn_eq {F: List Over} (ac: Acyc F) {i j: Nat} {p: List Nat} (t: Trail F i j p) (n: NB p) {f: Nat} (hf: F.length <= f): ∃ r,wayIn F f i j none = some r /\ r.map (·.1) = p:=by
 have h:=wayIn_all ac.apart t f none n (by cases p <;> simp [HeadNe]) (Nat.le_trans (ac.short t n) hf)
 obtain ⟨r,hr⟩:=Option.isSome_iff_exists.mp h
 obtain ⟨t',n',_⟩:=wayIn_sound F f i j none r hr
 exact ⟨r,hr,ac.uniq _ _ _ _ t' t n' n⟩
theorem wayIn_none {F: List Over} {i j f: Nat} (c: ¬ Conn F i j): wayIn F f i j none = none:=by
 cases h: wayIn F f i j none with
 | none => rfl
 | some r => exact absurd ⟨_,(wayIn_sound F f i j none r h).1⟩ c
end Mh
end
section
namespace Mh
open Tide
theorem nodup_dups: ∀ (n: Nat) (l: List Nat),l.length <= n -> l.eraseDups.Nodup
 | _,[],_ => by simp
 | 0,a :: l,h => by simp at h
 | n + 1,a :: l,h => by
  rw [List.eraseDups_cons]
  refine List.nodup_cons.mpr ⟨fun hm => ?_,nodup_dups n _ (Nat.le_trans (List.length_filter_le _ _) (by simpa using h))⟩
  have:=(List.mem_filter.mp (List.mem_eraseDups.mp hm)).2
  simp at this
theorem len_same {l m: List Nat} (hl: l.Nodup) (hm: m.Nodup) (h: ∀ a,a ∈ l ↔ a ∈ m): l.length = m.length:=((List.perm_ext_iff_of_nodup hl hm).mpr h).length_eq
theorem dups_len {l m: List Nat} (hm: m.Nodup) (h: ∀ a,a ∈ l ↔ a ∈ m): l.eraseDups.length = m.length :=
 len_same (nodup_dups _ l (Nat.le_refl _)) hm fun a => by rw [List.mem_eraseDups]; exact h a
theorem dups_merge {l: List Nat} {x y: Nat} (hx: x ∈ l) (hy: y ∈ l) (ne: x ≠ y): (l.map fun z => if z = x then y else z).eraseDups.length + 1 = l.eraseDups.length:=by
 have nd:=nodup_dups _ l (Nat.le_refl _)
 have hm: x ∈ l.eraseDups:=List.mem_eraseDups.mpr hx
 have e: (l.map fun z => if z = x then y else z).eraseDups.length = (l.eraseDups.erase x).length:=by
  refine dups_len (nd.erase x) fun a => ?_
  rw [nd.mem_erase_iff,List.mem_eraseDups,List.mem_map]
  constructor
  ·rintro ⟨z,hz,q⟩
   by_cases zx: z = x
   ·rw [if_pos zx] at q; subst q; exact ⟨Ne.symm ne,hy⟩
   ·rw [if_neg zx] at q; subst q; exact ⟨zx,hz⟩
  ·rintro ⟨h1,h2⟩
   exact ⟨a,h2,by rw [if_neg h1]⟩
 have h2:=List.length_erase_of_mem hm
 have h3: 0 < l.eraseDups.length:=List.length_pos_of_mem hm
 omega
theorem conn_snoc {F: List Over} {o: Over} {i j: Nat}: Conn (F ++ [o]) i j ↔ Conn F i j \/ (Conn F i o.a /\ Conn F o.b j) \/ (Conn F i o.b /\ Conn F o.a j):=by
 constructor
 ·rintro ⟨p,t⟩
  induction t with
  | nil i => exact .inl (Conn.refl i)
  | @cons e i k j ls he s t ih =>
   rcases List.mem_append.mp he with h1 | h1
   ·have ik: Conn F i k:=⟨_,.cons h1 s (.nil _)⟩
    rcases ih with h | ⟨h,g⟩ | ⟨h,g⟩
    ·exact .inl (ik.trans h)
    ·exact .inr (.inl ⟨ik.trans h,g⟩)
    ·exact .inr (.inr ⟨ik.trans h,g⟩)
   ·rw [List.mem_singleton.mp h1] at s
    rcases s with ⟨s1,s2⟩ | ⟨s1,s2⟩
    ·subst s1 s2
     rcases ih with h | ⟨h,g⟩ | ⟨h,g⟩
     ·exact .inr (.inl ⟨Conn.refl _,h⟩)
     ·exact .inl (h.symm.trans g)
     ·exact .inl g
    ·subst s1 s2
     rcases ih with h | ⟨h,g⟩ | ⟨h,g⟩
     ·exact .inr (.inr ⟨Conn.refl _,h⟩)
     ·exact .inl g
     ·exact .inl (h.symm.trans g)
 ·have up: ∀ {i j},Conn F i j -> Conn (F ++ [o]) i j:=fun ⟨p,t⟩ => ⟨p,t.mono fun x hx => List.mem_append_left _ hx⟩
  have mid: Conn (F ++ [o]) o.a o.b:=⟨_,.cons (List.mem_append_right _ List.mem_cons_self) (.inl ⟨rfl,rfl⟩) (.nil _)⟩
  rintro (h | ⟨h,g⟩ | ⟨h,g⟩)
  ·exact up h
  ·exact (up h).trans (mid.trans (up g))
  ·exact (up h).trans (mid.symm.trans (up g))
theorem placeOf_lt {p: Places} {i: Nat} (h: i < p.length): p[i]? = some (placeOf p i):=by
 unfold placeOf
 rw [List.getD_eq_getElem?_getD,List.getElem?_eq_getElem h]; rfl
structure WF (t: Taken): Prop where
 acyc: Acyc t.forest
 ends: ∀ e ∈ t.forest,e.a < t.places.length /\ e.b < t.places.length
 lines: ∀ e ∈ t.forest,e.line < t.overs
 ids: ∀ i,i < t.places.length -> (placeOf t.places i).1 < t.places.length
 conn: ∀ i j,i < t.places.length -> j < t.places.length -> (Conn t.forest i j ↔ (placeOf t.places i).1 = (placeOf t.places j).1)
 count: groups t + t.forest.length = t.places.length
theorem WF.zero: WF nothingTaken where
 acyc:=.nil
 ends:=by intro e he; cases he
 lines:=by intro e he; cases he
 ids:=by intro i h; simp [nothingTaken] at h
 conn:=by intro i j h; simp [nothingTaken] at h
 count:=by simp [groups,nothingTaken]
theorem conn_in {F: List Over} {n: Nat} (he: ∀ e ∈ F,e.a < n /\ e.b < n) {i j: Nat} (h: Conn F i j): i = j \/ (i < n /\ j < n):=by
 obtain ⟨p,t⟩:=h
 induction t with
 | nil i => exact .inl rfl
 | @cons o i k j ls ho s t ih =>
  have hik: i < n /\ k < n:=by
   have:=he o ho
   rcases s with ⟨s1,s2⟩ | ⟨s1,s2⟩ <;> omega
  rcases ih with h | h
  ·subst h; exact .inr hik
  ·exact .inr ⟨hik.1,h.2⟩
def withMark (t: Taken): Taken:={ t with places:=t.places ++ [(t.places.length,0)] }
theorem placeOf_snoc_lt {p: Places} {y: Nat × Int} {i: Nat} (h: i < p.length): placeOf (p ++ [y]) i = placeOf p i:=by
 unfold placeOf
 rw [List.getD_eq_getElem?_getD,List.getD_eq_getElem?_getD,List.getElem?_append_left h]
theorem placeOf_snoc_eq {p: Places} {y: Nat × Int}: placeOf (p ++ [y]) p.length = y:=by
 unfold placeOf
 rw [List.getD_eq_getElem?_getD]; simp
theorem WF.mark {t: Taken} (w: WF t): WF (withMark t) where
 acyc:=w.acyc
 ends:=fun e he => by
  have:=w.ends e he
  simp [withMark]; omega
 lines:=w.lines
 ids:=fun i h => by
  simp [withMark] at h ⊢
  by_cases e: i = t.places.length
  ·subst e; rw [placeOf_snoc_eq]; simp
  ·have hi: i < t.places.length:=by omega
   rw [placeOf_snoc_lt hi]
   have:=w.ids i hi; omega
 conn:=fun i j hi hj => by
  simp only [withMark,List.length_append,List.length_cons,List.length_nil] at hi hj ⊢
  by_cases ei: i = t.places.length <;> by_cases ej: j = t.places.length
  ·subst ei ej; exact ⟨fun _ => rfl,fun _ => Conn.refl _⟩
  ·have hj': j < t.places.length:=by omega
   subst ei
   rw [placeOf_snoc_eq,placeOf_snoc_lt hj']
   have:=w.ids j hj'
   constructor
   ·intro c; rcases conn_in w.ends c with h | h <;> omega
   ·intro c; simp at c; omega
  ·have hi': i < t.places.length:=by omega
   subst ej
   rw [placeOf_snoc_eq,placeOf_snoc_lt hi']
   have:=w.ids i hi'
   constructor
   ·intro c; rcases conn_in w.ends c with h | h <;> omega
   ·intro c; simp at c; omega
  ·have hi': i < t.places.length:=by omega
   have hj': j < t.places.length:=by omega
   rw [placeOf_snoc_lt hi',placeOf_snoc_lt hj']
   exact w.conn i j hi' hj'
 count:=by
  have h:=w.count
  have e: groups (withMark t) = groups t + 1:=by
   unfold groups withMark
   simp only [List.map_append,List.map_cons,List.map_nil]
   have nd:=nodup_dups _ (t.places.map fun y => y.1) (Nat.le_refl _)
   have nin: t.places.length ∉ (t.places.map fun y => y.1):=fun hm => by
    obtain ⟨y,hy,q⟩:=List.mem_map.mp hm
    obtain ⟨i,hi,e⟩:=List.mem_iff_getElem.mp hy
    have:=w.ids i hi
    have z:=placeOf_lt hi
    rw [List.getElem?_eq_getElem hi,e] at z
    rw [<- Option.some.inj z] at this
    omega
   have:=dups_len (l:=(t.places.map fun y => y.1) ++ [t.places.length]) (m:=(t.places.map fun y => y.1).eraseDups ++ [t.places.length])
    (by
     rw [List.nodup_append]
     refine ⟨nd,by simp,fun a ha b hb q => ?_⟩
     subst q
     rw [List.mem_singleton.mp hb] at ha
     exact nin (List.mem_eraseDups.mp ha)) (fun a => by simp only [List.mem_append,List.mem_eraseDups])
   rw [this]; simp
  show groups (withMark t) + t.forest.length = (t.places ++ [_]).length
  rw [e]; simp; omega
def mergeId (A B z: Nat): Nat:=if A < B then (if z = B then A else z) else (if z = A then B else z)
theorem mergeId_eq {A B z y: Nat} (ne: A ≠ B): mergeId A B z = mergeId A B y ↔ z = y \/ (z = A /\ y = B) \/ (z = B /\ y = A):=by
 unfold mergeId
 repeat' split
 all_goals omega
theorem joined_length (p: Places) (x: Over): (joined p x).length = p.length:=by simp [joined]
theorem placeOf_map {p: Places} {f: Nat × Int -> Nat × Int} {i: Nat} (h: i < p.length): placeOf (p.map f) i = f (placeOf p i):=by
 have h1: i < (p.map f).length:=by simpa using h
 have:=placeOf_lt h1
 rw [List.getElem?_map,placeOf_lt h] at this
 exact (Option.some.inj this).symm
theorem joined_place {p: Places} {x: Over} {i: Nat} (h: i < p.length): placeOf (joined p x) i =
  (let ga:=placeOf p x.a; let gb:=placeOf p x.b; let d:=ga.2 + x.h - gb.2; let y:=placeOf p i
   if ga.1 < gb.1 then (if y.1 = gb.1 then (ga.1,y.2 + d) else y) else if y.1 = ga.1 then (gb.1,y.2 - d) else y):=by
 unfold joined
 exact placeOf_map h
theorem joined_id {p: Places} {x: Over} {i: Nat} (h: i < p.length): (placeOf (joined p x) i).1 = mergeId (placeOf p x.a).1 (placeOf p x.b).1 (placeOf p i).1:=by
 rw [joined_place h]
 dsimp only
 unfold mergeId
 split
 ·split <;> rfl
 ·split <;> rfl
def withJoin (t: Taken) (o: Over): Taken:={ t with places:=joined t.places o,forest:=t.forest ++ [o],overs:=t.overs + 1 }
theorem WF.join {t: Taken} (w: WF t) {o: Over} (ha: o.a < t.places.length) (hb: o.b < t.places.length) (hl: o.line = t.overs) (ne: (placeOf t.places o.a).1 ≠ (placeOf t.places o.b).1): WF (withJoin t o) where
 acyc:=.snoc w.acyc (fun c => ne ((w.conn _ _ ha hb).mp c)) fun e he => by
  have:=w.lines e he; omega
 ends:=fun e he => by
  simp only [withJoin,joined_length]
  rcases List.mem_append.mp he with h | h
  ·exact w.ends e h
  ·rw [List.mem_singleton.mp h]; exact ⟨ha,hb⟩
 lines:=fun e he => by
  simp only [withJoin]
  rcases List.mem_append.mp he with h | h
  ·have:=w.lines e h; omega
  ·rw [List.mem_singleton.mp h]; omega
 ids:=fun i hi => by
  simp only [withJoin,joined_length] at hi ⊢
  rw [joined_id hi]
  have h1:=w.ids i hi
  have h2:=w.ids _ ha
  have h3:=w.ids _ hb
  unfold mergeId
  repeat' split
  all_goals omega
 conn:=fun i j hi hj => by
  simp only [withJoin,joined_length] at hi hj ⊢
  rw [joined_id hi,joined_id hj,mergeId_eq ne,conn_snoc,w.conn i j hi hj,w.conn i _ hi ha,w.conn _ j hb hj,w.conn i _ hi hb,w.conn _ j ha hj]
  constructor
  ·rintro (h | ⟨h,g⟩ | ⟨h,g⟩)
   ·exact .inl h
   ·exact .inr (.inl ⟨h,g.symm⟩)
   ·exact .inr (.inr ⟨h,g.symm⟩)
  ·rintro (h | ⟨h,g⟩ | ⟨h,g⟩)
   ·exact .inl h
   ·exact .inr (.inl ⟨h,g.symm⟩)
   ·exact .inr (.inr ⟨h,g.symm⟩)
 count:=by
  have h:=w.count
  have ma: (placeOf t.places o.a).1 ∈ t.places.map fun y => y.1:=List.mem_map.mpr ⟨_,List.mem_of_getElem? (placeOf_lt ha),rfl⟩
  have mb: (placeOf t.places o.b).1 ∈ t.places.map fun y => y.1:=List.mem_map.mpr ⟨_,List.mem_of_getElem? (placeOf_lt hb),rfl⟩
  have e: groups (withJoin t o) + 1 = groups t:=by
   unfold groups withJoin joined
   simp only [List.map_map]
   by_cases lt: (placeOf t.places o.a).1 < (placeOf t.places o.b).1
   ·rw [<- dups_merge mb ma (Ne.symm ne),List.map_map]
    refine congrArg (· + 1) (congrArg (fun l: List Nat => l.eraseDups.length) (List.map_congr_left fun y _ => ?_))
    simp only [Function.comp,if_pos lt]
    split <;> rfl
   ·rw [<- dups_merge ma mb ne,List.map_map]
    refine congrArg (· + 1) (congrArg (fun l: List Nat => l.eraseDups.length) (List.map_congr_left fun y _ => ?_))
    simp only [Function.comp,if_neg lt]
    split <;> rfl
  show groups (withJoin t o) + (t.forest ++ [o]).length = (joined t.places o).length
  rw [joined_length]; simp; omega
theorem WF.agree {t: Taken} (w: WF t): WF { t with overs:=t.overs + 1 } :=
 ⟨w.acyc,w.ends,fun e he => Nat.lt_succ_of_lt (w.lines e he),w.ids,w.conn,w.count⟩
end Mh
end
section
namespace Mh
open Tide
structure Took (c: Cur) (x: Bytes) (c': Cur): Prop where
 rest: c.rest = x ++ c'.rest
 at_: c'.at_ = c.at_ + x.length
theorem Took.nil (c: Cur): Took c [] c:=⟨rfl,rfl⟩
theorem Took.trans {c d e: Cur} {x y: Bytes} (h: Took c x d) (g: Took d y e): Took c (x ++ y) e :=
 ⟨by rw [h.rest,g.rest,List.append_assoc],by rw [g.at_,h.at_,List.length_append]; omega⟩
theorem Took.on {c: Cur} {x: UInt8} (h: c.next = some x): Took c [x] c.on:=by
 obtain ⟨r,a⟩:=c
 cases r with
 | nil => cases h
 | cons y r => cases h; exact ⟨rfl,rfl⟩
theorem lit_ok: ∀ {s: Bytes} {c c': Cur},lit s c = .ok c' -> Took c s c'
 | [],c,c',h => by
  cases h; exact .nil c
 | x :: r,c,c',h => by
  unfold lit at h
  by_cases e: c.next = some x
  ·rw [if_pos e] at h
   exact (Took.on e).trans (lit_ok h)
  ·rw [if_neg e] at h; cases h
theorem some_ok (p: UInt8 -> Bool): ∀ (n: Nat) (c: Cur),Took c (some_ p n c).1 (some_ p n c).2 /\ (some_ p n c).1.length <= n /\ (∀ x ∈ (some_ p n c).1,p x = true)
 | 0,c => ⟨.nil c,Nat.le_refl _,by simp [some_]⟩
 | n + 1,c => by
  unfold some_
  cases e: c.next with
  | none => exact ⟨.nil c,Nat.zero_le _,by simp⟩
  | some x =>
   by_cases h: p x = true
   ·simp only [if_pos h]
    obtain ⟨i1,i2,i3⟩:=some_ok p n c.on
    refine ⟨(Took.on e).trans i1,by simpa using i2,fun y hy => ?_⟩
    rcases List.mem_cons.mp hy with q | q
    ·rw [q]; exact h
    ·exact i3 y q
   ·simp only [if_neg h]
    exact ⟨.nil c,Nat.zero_le _,by simp⟩
theorem longName_ok {c c': Cur} {n: Bytes} (h: longName c = .ok (n,c')): Took c n c' /\ 1 <= n.length:=by
 unfold longName at h
 by_cases e: nextIs isLetter c = true
 ·rw [if_pos e] at h
  have h:=Except.ok.inj h
  have e1: n = (some_ (fun x => isLetter x || isDigit x) 16 c).1:=by rw [h]
  have e2: c' = (some_ (fun x => isLetter x || isDigit x) 16 c).2:=by rw [h]
  subst e1 e2
  refine ⟨(some_ok _ 16 c).1,?_⟩
  unfold nextIs at e
  unfold some_
  cases q: c.next with
  | none => rw [q] at e; cases e
  | some x =>
   rw [q] at e
   simp only at e
   simp [e]
 ·rw [if_neg e] at h; cases h
theorem someDigits_ok {m: Nat} {c c': Cur} {n: Bytes} (h: someDigits m c = .ok (n,c')): Took c n c':=by
 unfold someDigits at h
 by_cases e: nextIs isDigit c = true
 ·rw [if_pos e] at h
  have h:=Except.ok.inj h
  have e1: n = (some_ isDigit m c).1:=by rw [h]
  have e2: c' = (some_ isDigit m c).2:=by rw [h]
  subst e1 e2
  exact (some_ok _ m c).1
 ·rw [if_neg e] at h; cases h
theorem bind_ok {ε α β: Type} {m: Except ε α} {f: α -> Except ε β} {b: β} (h: (m >>= f) = .ok b): ∃ a,m = .ok a /\ f a = .ok b:=by
 cases m with
 | error e => cases h
 | ok a => exact ⟨a,rfl,h⟩
theorem pointed_ok {w b: Nat} {c c': Cur} {h: Nat} (e: pointed w b c = .ok (h,c')): ∃ x,Took c x c':=by
 unfold pointed at e
 obtain ⟨⟨d,c1⟩,h1,e⟩:=bind_ok e
 obtain ⟨⟨f,c2⟩,h2,e⟩:=bind_ok e
 cases e
 have t1:=someDigits_ok h1
 by_cases q: nextIs (fun x => x == 46) c1 = true
 ·rw [if_pos q] at h2
  have t2:=someDigits_ok h2
  cases z: c1.next with
  | none => unfold nextIs at q; rw [z] at q; cases q
  | some y => exact ⟨_,t1.trans ((Took.on z).trans t2)⟩
 ·rw [if_neg q] at h2
  cases h2
  exact ⟨_,t1⟩
def PlacesOf (k e: Nat): Level -> Prop
 | .mark _ p => k <= p /\ p < e
 | .over _ _ _ p q r => k <= p /\ p < q /\ q < r /\ r < e
theorem levelIn_ok {c c': Cur} {x: Level} (h: levelIn c = .ok (x,c')): (∃ s,Took c s c' /\ 1 <= s.length) /\ PlacesOf c.at_ c'.at_ x:=by
 unfold levelIn at h
 by_cases e: c.next = some 109
 ·rw [if_pos e] at h
  obtain ⟨c1,h1,h⟩:=bind_ok h
  obtain ⟨⟨n,c2⟩,h2,h⟩:=bind_ok h
  obtain ⟨c3,h3,h⟩:=bind_ok h
  cases h
  have t1:=lit_ok h1
  have t2:=longName_ok h2
  have t3:=lit_ok h3
  refine ⟨⟨_,t1.trans (t2.1.trans t3),?_⟩,?_⟩
  ·simp only [List.length_append]; have:=t2.2; omega
  ·have a1:=t1.at_; have a2:=t2.1.at_; have a3:=t3.at_; have:=t2.2
   simp only [PlacesOf]
   simp only [List.length_cons,List.length_nil] at a3
   omega
 ·rw [if_neg e] at h
  by_cases e2: c.next = some 111
  ·rw [if_pos e2] at h
   obtain ⟨c1,h1,h⟩:=bind_ok h
   obtain ⟨⟨n,c2⟩,h2,h⟩:=bind_ok h
   obtain ⟨c3,h3,h⟩:=bind_ok h
   obtain ⟨⟨m,c4⟩,h4,h⟩:=bind_ok h
   obtain ⟨c5,h5,h⟩:=bind_ok h
   obtain ⟨⟨hh,c6⟩,h6,h⟩:=bind_ok h
   obtain ⟨c7,h7,h⟩:=bind_ok h
   cases h
   have t1:=lit_ok h1
   have t2:=longName_ok h2
   have t3:=lit_ok h3
   have t4:=longName_ok h4
   have t5:=lit_ok h5
   have t6: ∃ x,Took c5 x c6:=by
    obtain ⟨x,tx⟩:=pointed_ok h6
    by_cases q: nextIs (fun x => x == 45) c5 = true
    ·simp only [q] at tx
     cases z: c5.next with
     | none => unfold nextIs at q; rw [z] at q; cases q
     | some y => exact ⟨_,(Took.on z).trans tx⟩
    ·simp only [q] at tx
     exact ⟨_,tx⟩
   obtain ⟨y,t6⟩:=t6
   have t7:=lit_ok h7
   refine ⟨⟨_,t1.trans (t2.1.trans (t3.trans (t4.1.trans (t5.trans (t6.trans t7))))),?_⟩,?_⟩
   ·simp only [List.length_append]; have:=t2.2; omega
   ·have a1:=t1.at_; have a2:=t2.1.at_; have a3:=t3.at_; have a4:=t4.1.at_; have a5:=t5.at_; have a6:=t6.at_; have a7:=t7.at_; have:=t2.2; have:=t4.2
    simp only [PlacesOf]
    simp only [List.length_cons,List.length_nil] at a3 a5 a7
    omega
  ·rw [if_neg e2] at h; cases h
def Ord: Nat -> List Level -> Prop
 | _,[] => True
 | k,x :: r => ∃ e,PlacesOf k e x /\ Ord e r
theorem levelsIn_ord: ∀ {f: Nat} {c: Cur} {l: List Level},levelsIn f c = .ok l -> Ord c.at_ l
 | 0,c,l,h => by cases h; trivial
 | f + 1,c,l,h => by
  unfold levelsIn at h
  by_cases e: c.rest = []
  ·rw [if_pos e] at h; cases h; trivial
  ·rw [if_neg e] at h
   obtain ⟨⟨x,c1⟩,h1,h⟩:=bind_ok h
   obtain ⟨r,h2,h⟩:=bind_ok h
   cases h
   exact ⟨_,(levelIn_ok h1).2,levelsIn_ord h2⟩
theorem grammar_ord {b: Bytes} {l: List Level} (h: levelGrammar b = .ok l): Ord 0 l:=levelsIn_ord h
theorem Ord.split: ∀ {k: Nat} {u v: List Level},Ord k (u ++ v) -> ∃ e,k <= e /\ Ord e v /\ (∀ x ∈ u,PlacesOf k e x)
 | k,[],v,h => ⟨k,Nat.le_refl _,h,by simp⟩
 | k,x :: u,v,⟨e,pl,o⟩ => by
  obtain ⟨e',h1,h2,h3⟩:=Ord.split o
  have ke: k <= e:=by cases x <;> (simp only [PlacesOf] at pl; omega)
  refine ⟨e',Nat.le_trans ke h1,h2,fun y hy => ?_⟩
  rcases List.mem_cons.mp hy with q | q
  ·subst q; cases y <;> (simp only [PlacesOf] at pl ⊢; omega)
  ·have:=h3 y q
   cases y <;> (simp only [PlacesOf] at this ⊢; omega)
end Mh
end
section
namespace Mh
open Tide
def pick (k: Option (Nat × Nat)) (x: Nat × Nat): Option (Nat × Nat):=match k with
 | some y => if sooner y x = true then some y else some x
 | none => some x
theorem pick_keep {y: Nat × Nat}: ∀ {l: List (Nat × Nat)},(∀ x ∈ l,sooner y x = true) -> l.foldl pick (some y) = some y
 | [],_ => rfl
 | x :: l,h => by
  rw [List.foldl_cons]
  have: pick (some y) x = some y:=by unfold pick; simp only [h x List.mem_cons_self,if_true]
  rw [this]
  exact pick_keep fun z hz => h z (List.mem_cons_of_mem _ hz)
def First (l: List (Nat × Nat)): Prop:=∀ y r,l = y :: r -> ∀ x ∈ r,sooner y x = true
theorem pick_first {l: List (Nat × Nat)} (h: First l): l.foldl pick none = l.head?:=by
 cases l with
 | nil => rfl
 | cons y r => exact pick_keep (h y r rfl)
theorem sooner_lt {a b: Nat × Nat} (h: a.2 < b.2): sooner a b = true:=by simp [sooner,h]
theorem sooner_eq {a b: Nat × Nat} (h: a.2 = b.2) (k: a.1 <= b.1): sooner a b = true:=by simp [sooner,h,k]
theorem line_wrongs {ns: List Bytes} {t: Taken} {x: Level} {k e: Nat} (pl: PlacesOf k e x): First (levelWrongs ns t x) /\ ∀ f ∈ levelWrongs ns t x,k <= f.2 /\ f.2 < e:=by
 cases x with
 | mark n p =>
  simp only [PlacesOf] at pl
  unfold levelWrongs
  simp only
  constructor
  ·intro y r h z hz
   split at h <;> split at h <;> simp at h
   ·obtain ⟨rfl,rfl⟩:=h
    have: z = (4,p):=by simpa using hz
    subst this; exact sooner_eq rfl (by show 2 <= 4; decide)
   ·obtain ⟨rfl,rfl⟩:=h; cases hz
   ·obtain ⟨rfl,rfl⟩:=h; cases hz
  ·intro f hf
   have: f.2 = p:=by
    rcases List.mem_append.mp hf with h | h <;> split at h <;> simp at h <;> rw [h]
   omega
 | over a b hh p q r =>
  simp only [PlacesOf] at pl
  have mem: ∀ f ∈ levelWrongs ns t (.over a b hh p q r),f = (3,p) \/ f = (3,q) \/ f = (5,q) \/ f = (6,r):=by
   intro f hf
   unfold levelWrongs at hf
   simp only at hf
   rcases List.mem_append.mp hf with h | h
   ·split at h <;> simp at h; exact .inl h
   ·rcases List.mem_append.mp h with h | h
    ·split at h <;> simp at h; exact .inr (.inl h)
    ·rcases List.mem_append.mp h with h | h
     ·split at h <;> simp at h; exact .inr (.inr (.inl h))
     ·split at h <;> simp at h; exact .inr (.inr (.inr h))
  constructor
  ·intro y rr h z hz
   have hz':=mem z (by rw [h]; exact List.mem_cons_of_mem _ hz)
   unfold levelWrongs at h
   simp only at h
   by_cases c1: numberIn ns a = none
   ·rw [if_pos c1] at h
    simp only [List.cons_append,List.nil_append] at h
    have hy:=(List.cons.inj h).1
    subst hy
    rcases hz' with e | e | e | e <;> subst e
    ·exact sooner_eq rfl (Nat.le_refl _)
    ·exact sooner_lt (by simp only; omega)
    ·exact sooner_lt (by simp only; omega)
    ·exact sooner_lt (by simp only; omega)
   ·rw [if_neg c1] at h
    simp only [List.nil_append] at h
    have z0: z ≠ (3,p) \/ (3,p) = (3,q):=by
     by_cases e: z = (3,p)
     ·exfalso
      have hm: z ∈ y :: rr:=List.mem_cons_of_mem _ hz
      rw [<- h] at hm
      rcases List.mem_append.mp hm with h | h
      ·split at h <;> simp at h; rw [e] at h; injection h with _ h; omega
      ·rcases List.mem_append.mp h with h | h
       ·split at h <;> simp at h; rw [e] at h; injection h with h _; omega
       ·split at h <;> simp at h; rw [e] at h; injection h with h _; omega
     ·exact .inl e
    have hz2: z = (3,q) \/ z = (5,q) \/ z = (6,r):=by
     rcases hz' with e | e | e | e
     ·rcases z0 with n | n
      ·exact absurd e n
      ·exact .inl (e.trans n)
     ·exact .inl e
     ·exact .inr (.inl e)
     ·exact .inr (.inr e)
    by_cases c2: numberIn ns b = none
    ·rw [if_pos c2] at h
     simp only [List.cons_append,List.nil_append] at h
     have hy:=(List.cons.inj h).1
     subst hy
     rcases hz2 with e | e | e <;> subst e
     ·exact sooner_eq rfl (Nat.le_refl _)
     ·exact sooner_eq rfl (by show 3 <= 5; decide)
     ·exact sooner_lt (by simp only; omega)
    ·rw [if_neg c2] at h
     simp only [List.nil_append] at h
     by_cases c3: a = b
     ·rw [if_pos c3] at h
      simp only [List.cons_append,List.nil_append] at h
      obtain ⟨hy,hr⟩:=List.cons.inj h
      subst hy
      rw [<- hr] at hz
      split at hz <;> simp at hz
      subst hz
      exact sooner_lt (by simp only; omega)
     ·rw [if_neg c3] at h
      simp only [List.nil_append] at h
      split at h
      ·obtain ⟨hy,hr⟩:=List.cons.inj h
       rw [<- hr] at hz; cases hz
      ·cases h
  ·intro f hf
   rcases mem f hf with h | h | h | h <;> subst h <;> simp only <;> omega
theorem wrongs_from: ∀ {l: List Level} {ns: List Bytes} {t: Taken} {k: Nat},Ord k l -> First (wrongsFrom ns t l) /\ ∀ f ∈ wrongsFrom ns t l,k <= f.2
 | [],ns,t,k,_ => ⟨fun y r h => by simp [wrongsFrom] at h,by simp [wrongsFrom]⟩
 | x :: l,ns,t,k,⟨e,pl,o⟩ => by
  obtain ⟨i1,i2⟩:=wrongs_from (ns:=namesOn ns x) (t:=take ns t x) o
  obtain ⟨l1,l2⟩:=line_wrongs (ns:=ns) (t:=t) pl
  have ke: k <= e:=by cases x <;> (simp only [PlacesOf] at pl; omega)
  constructor
  ·intro y r h z hz
   unfold wrongsFrom at h
   cases q: levelWrongs ns t x with
   | nil =>
    rw [q,List.nil_append] at h
    exact i1 y r h z hz
   | cons y' r' =>
    rw [q,List.cons_append] at h
    obtain ⟨h1,h2⟩:=List.cons.inj h
    subst h1
    rw [<- h2] at hz
    rcases List.mem_append.mp hz with m | m
    ·exact l1 y' r' q z m
    ·have a:=(l2 y' (by rw [q]; exact List.mem_cons_self)).2
     have b:=i2 z m
     exact sooner_lt (by omega)
  ·intro f hf
   unfold wrongsFrom at hf
   rcases List.mem_append.mp hf with m | m
   ·exact (l2 f m).1
   ·exact Nat.le_trans ke (i2 f m)
theorem judge_eq {b: Bytes} {l: List Level} (h: levelGrammar b = .ok l): judgeLevels b = match (allLevelWrongs l).head? with
  | some f => .error f
  | none => .ok l:=by
 unfold judgeLevels
 rw [h]
 have e:=pick_first (wrongs_from (ns:=[]) (t:=nothingTaken) (grammar_ord h)).1
 show (match (wrongsFrom [] nothingTaken l).foldl pick none with
  | some f => Except.error f
  | none => Except.ok l) = _
 rw [e]; rfl
theorem marks_snoc (u: List Level) (x: Level): marks (u ++ [x]) = namesOn (marks u) x:=by
 unfold marks namesOn
 rw [List.filterMap_append]
 cases x <;> simp
theorem marks_cons (ns: List Bytes) (x: Level) (u: List Level): ns ++ marks (x :: u) = namesOn ns x ++ marks u:=by
 unfold marks namesOn
 cases x <;> simp
theorem takeFrom_app: ∀ (u v: List Level) (ns: List Bytes) (t: Taken),takeFrom ns t (u ++ v) = takeFrom (ns ++ marks u) (takeFrom ns t u) v
 | [],v,ns,t => by simp [takeFrom,marks]
 | x :: u,v,ns,t => by
  rw [marks_cons]
  exact takeFrom_app u v (namesOn ns x) (take ns t x)
theorem wrongsFrom_app: ∀ (u v: List Level) (ns: List Bytes) (t: Taken),wrongsFrom ns t (u ++ v) = wrongsFrom ns t u ++ wrongsFrom (ns ++ marks u) (takeFrom ns t u) v
 | [],v,ns,t => by simp [wrongsFrom,takeFrom,marks]
 | x :: u,v,ns,t => by
  rw [marks_cons]
  show levelWrongs ns t x ++ wrongsFrom (namesOn ns x) (take ns t x) (u ++ v) = (levelWrongs ns t x ++ wrongsFrom (namesOn ns x) (take ns t x) u) ++ wrongsFrom (namesOn ns x ++ marks u) (takeFrom (namesOn ns x) (take ns t x) u) v
  rw [wrongsFrom_app u v (namesOn ns x) (take ns t x),List.append_assoc]
theorem takeAll_snoc (u: List Level) (x: Level): takeAll (u ++ [x]) = take (marks u) (takeAll u) x:=by
 unfold takeAll
 rw [takeFrom_app]
 simp [takeFrom]
theorem allWrongs_snoc (u: List Level) (x: Level): allLevelWrongs (u ++ [x]) = allLevelWrongs u ++ levelWrongs (marks u) (takeAll u) x:=by
 unfold allLevelWrongs takeAll
 rw [wrongsFrom_app]
 simp [wrongsFrom]
theorem allWrongs_mid (u r: List Level) (x: Level): ∃ m,allLevelWrongs (u ++ x :: r) = allLevelWrongs u ++ (levelWrongs (marks u) (takeAll u) x ++ m):=by
 refine ⟨wrongsFrom (namesOn (marks u) x) (take (marks u) (takeAll u) x) r,?_⟩
 unfold allLevelWrongs takeAll
 rw [wrongsFrom_app]
 simp only [List.nil_append,wrongsFrom]
theorem book_gram {s: TideDatums.State} {b: Bytes} {p: Nat} (h: levelGrammar b = .error p): TideDatums.step s (.book b) = (s,fault (-6) 1 p):=by
 have j: judgeLevels b = .error (1,p):=by unfold judgeLevels; rw [h]
 simp only [TideDatums.step,j]
theorem book_ok {s: TideDatums.State} {b: Bytes} {l: List Level} (h: levelGrammar b = .ok l) (w: allLevelWrongs l = []): TideDatums.step s (.book b) = (some l,says 0):=by
 have j: judgeLevels b = .ok l:=by rw [judge_eq h,w]; rfl
 simp only [TideDatums.step,j]
theorem judge_bad {b: Bytes} {u r: List Level} {x: Level} {f: Nat × Nat} {fs: List (Nat × Nat)} (h: levelGrammar b = .ok (u ++ x :: r)) (w: allLevelWrongs u = [])
  (q: levelWrongs (marks u) (takeAll u) x = f :: fs): judgeLevels b = .error f:=by
 obtain ⟨m,e⟩:=allWrongs_mid u r x
 rw [judge_eq h,e,w,q]; rfl
theorem book_bad {s: TideDatums.State} {b: Bytes} {u r: List Level} {x: Level} {k p: Nat} {fs: List (Nat × Nat)} (h: levelGrammar b = .ok (u ++ x :: r)) (w: allLevelWrongs u = [])
  (q: levelWrongs (marks u) (takeAll u) x = (k,p) :: fs) (hk: k ≠ 6): TideDatums.step s (.book b) = (s,fault (-6) k p):=by
 have j:=judge_bad h w q
 simp only [TideDatums.step,j]
 congr 1
 split
 ·exact absurd rfl hk
 ·rfl
theorem ringAt_eq {b: Bytes} {u r: List Level} {A B: Bytes} {hh: Int} {aP bP p: Nat} (h: levelGrammar b = .ok (u ++ .over A B hh aP bP p :: r)) :
  TideDatums.ringAt b p = ((take (marks u) (takeAll u) (.over A B hh aP bP p)).odd).map fun (o: Over) => ringOf (takeAll u) o:=by
 obtain ⟨e,_,⟨e',pl,_⟩,hu⟩:=Ord.split (grammar_ord h)
 have hb: TideDatums.beforeAt (u ++ .over A B hh aP bP p :: r) p = u:=by
  unfold TideDatums.beforeAt
  rw [List.takeWhile_append_of_pos]
  ·simp
  ·intro x hx
   have:=hu x hx
   simp only [PlacesOf] at pl
   cases x with
   | mark => rfl
   | over a b h p1 p2 p3 => simp only [PlacesOf] at this; simp; omega
 unfold TideDatums.ringAt
 rw [h]
 simp only [hb]
 simp
theorem book_ring {s: TideDatums.State} {b: Bytes} {u r: List Level} {A B: Bytes} {hh: Int} {aP bP p: Nat} {fs: List (Nat × Nat)} {o: Over} (h: levelGrammar b = .ok (u ++ .over A B hh aP bP p :: r)) (w: allLevelWrongs u = [])
  (q: levelWrongs (marks u) (takeAll u) (.over A B hh aP bP p) = (6,p) :: fs) (ho: (take (marks u) (takeAll u) (.over A B hh aP bP p)).odd = some o) :
  TideDatums.step s (.book b) = (s,tells (-6) [.num 6,.num p,.list (ringOf (takeAll u) o).1,.num (ringOf (takeAll u) o).2]):=by
 have j:=judge_bad h w q
 have g:=ringAt_eq h
 rw [ho] at g
 simp only [TideDatums.step,j,g,Option.map_some]
end Mh
end
section
namespace Mh
open Tide
theorem numberIn_none {ns: List Bytes} {n: Bytes}: numberIn ns n = none ↔ n ∉ ns:=by
 unfold numberIn
 rw [List.findIdx?_eq_none_iff]
 constructor
 ·intro h hm
  have:=h n hm
  simp at this
 ·intro h x hx
  simp only [beq_eq_false_iff_ne]
  intro e; subst e; exact h hx
theorem numberIn_some {ns: List Bytes} {n: Bytes} {i: Nat} (h: numberIn ns n = some i): ns[i]? = some n /\ i < ns.length:=by
 unfold numberIn at h
 rw [List.findIdx?_eq_some_iff_getElem] at h
 obtain ⟨hi,e,_⟩:=h
 rw [List.getElem?_eq_getElem hi]
 exact ⟨by rw [beq_iff_eq.mp e],hi⟩
structure Right (u: List Level): Prop where
 wf: WF (takeAll u)
 odd: (takeAll u).odd = none
 len: (takeAll u).places.length = (marks u).length
 nodup: (marks u).Nodup
 few: (marks u).length <= 1024
 frst: (takeAll u).forest.length <= (takeAll u).overs
theorem Right.nil: Right []:=⟨WF.zero,rfl,rfl,List.nodup_nil,Nat.zero_le _,Nat.le_refl _⟩
section
variable {u: List Level} {n: Bytes} {p: Nat}
theorem mark_taken (hn: n ∈ marks u): ∃ fs,levelWrongs (marks u) (takeAll u) (.mark n p) = (2,p) :: fs:=by
 unfold levelWrongs
 simp only [List.contains_iff_mem,hn,if_true]
 exact ⟨_,rfl⟩
theorem mark_many (hn: n ∉ marks u) (hl: 1024 <= (marks u).length): levelWrongs (marks u) (takeAll u) (.mark n p) = [(4,p)]:=by
 unfold levelWrongs
 have: MARKS <= (marks u).length:=hl
 simp [List.contains_iff_mem,hn,this]
theorem mark_good (hn: n ∉ marks u) (hl: ¬ 1024 <= (marks u).length): levelWrongs (marks u) (takeAll u) (.mark n p) = []:=by
 unfold levelWrongs
 have: ¬ MARKS <= (marks u).length:=hl
 simp only [List.contains_iff_mem,hn,this,if_false,List.append_nil]
theorem mark_take: takeAll (u ++ [.mark n p]) = withMark (takeAll u):=by
 rw [takeAll_snoc]; rfl
theorem mark_names: marks (u ++ [.mark n p]) = marks u ++ [n]:=marks_snoc u _
theorem Right.mark (r: Right u) (hn: n ∉ marks u) (hl: ¬ 1024 <= (marks u).length): Right (u ++ [.mark n p]):=by
 refine ⟨?_,?_,?_,?_,?_,?_⟩
 ·rw [mark_take]; exact r.wf.mark
 ·rw [mark_take]; exact r.odd
 ·rw [mark_take,mark_names]
  have:=r.len
  simp [withMark,this]
 ·rw [mark_names,List.nodup_append]
  refine ⟨r.nodup,by simp,fun a ha b hb q => ?_⟩
  subst q
  rw [List.mem_singleton.mp hb] at ha
  exact hn ha
 ·rw [mark_names]; simp; omega
 ·rw [mark_take]; exact r.frst
end
section
variable {u: List Level} {a b: Bytes} {h: Int} {p q r i j: Nat}
theorem over_no1 (ha: numberIn (marks u) a = none): ∃ fs,levelWrongs (marks u) (takeAll u) (.over a b h p q r) = (3,p) :: fs:=by
 unfold levelWrongs
 simp only [ha,if_true]
 exact ⟨_,rfl⟩
theorem over_no2 (ha: numberIn (marks u) a = some i) (hb: numberIn (marks u) b = none): ∃ fs,levelWrongs (marks u) (takeAll u) (.over a b h p q r) = (3,q) :: fs:=by
 unfold levelWrongs
 simp only [ha,hb,if_true]
 exact ⟨_,rfl⟩
theorem same_no (ha: numberIn (marks u) a = some i) (hb: numberIn (marks u) b = some i): a = b:=by
 have h1:=(numberIn_some ha).1
 have h2:=(numberIn_some hb).1
 rw [h1] at h2
 exact Option.some.inj h2
theorem over_same (ha: numberIn (marks u) a = some i) (hb: numberIn (marks u) b = some i): ∃ fs,levelWrongs (marks u) (takeAll u) (.over a b h p q r) = (5,q) :: fs:=by
 have e:=same_no ha hb
 unfold levelWrongs
 subst e
 simp only [ha,if_true]
 exact ⟨_,rfl⟩
theorem ne_names (ha: numberIn (marks u) a = some i) (hb: numberIn (marks u) b = some j) (ij: i ≠ j): a ≠ b:=by
 intro e; subst e; rw [ha] at hb; exact ij (Option.some.inj hb)
theorem take_join (ha: numberIn (marks u) a = some i) (hb: numberIn (marks u) b = some j) (ij: i ≠ j) (g: (placeOf (takeAll u).places i).1 ≠ (placeOf (takeAll u).places j).1) :
  take (marks u) (takeAll u) (.over a b h p q r) = withJoin (takeAll u) ⟨(takeAll u).overs,i,j,h⟩:=by
 unfold take
 simp only [ha,hb,if_neg ij,if_pos g]
 rfl
theorem take_agree (ha: numberIn (marks u) a = some i) (hb: numberIn (marks u) b = some j) (ij: i ≠ j) (g: (placeOf (takeAll u).places i).1 = (placeOf (takeAll u).places j).1)
  (e: (placeOf (takeAll u).places j).2 - (placeOf (takeAll u).places i).2 = h): take (marks u) (takeAll u) (.over a b h p q r) = { takeAll u with overs:=(takeAll u).overs + 1 }:=by
 unfold take
 simp only [ha,hb,if_neg ij,g,ne_eq,not_true_eq_false,if_false,if_pos e]
theorem take_odd (ha: numberIn (marks u) a = some i) (hb: numberIn (marks u) b = some j) (ij: i ≠ j) (g: (placeOf (takeAll u).places i).1 = (placeOf (takeAll u).places j).1)
  (e: (placeOf (takeAll u).places j).2 - (placeOf (takeAll u).places i).2 ≠ h) (o: (takeAll u).odd = none): (take (marks u) (takeAll u) (.over a b h p q r)).odd = some ⟨(takeAll u).overs,i,j,h⟩:=by
 unfold take
 simp only [ha,hb,if_neg ij,g,ne_eq,not_true_eq_false,if_false,if_neg e,o]
 rfl
theorem over_good (ha: numberIn (marks u) a = some i) (hb: numberIn (marks u) b = some j) (ij: i ≠ j) (o: (take (marks u) (takeAll u) (.over a b h p q r)).odd = none) :
  levelWrongs (marks u) (takeAll u) (.over a b h p q r) = []:=by
 unfold levelWrongs
 simp [ha,hb,ne_names ha hb ij,o]
theorem over_bad (ha: numberIn (marks u) a = some i) (hb: numberIn (marks u) b = some j) (ij: i ≠ j) {x: Over} (ho: (takeAll u).odd = none) (o: (take (marks u) (takeAll u) (.over a b h p q r)).odd = some x) :
  levelWrongs (marks u) (takeAll u) (.over a b h p q r) = [(6,r)]:=by
 unfold levelWrongs
 simp [ha,hb,ne_names ha hb ij,o,ho]
theorem over_names: marks (u ++ [.over a b h p q r]) = marks u:=marks_snoc u _
theorem Right.join (R: Right u) (ha: numberIn (marks u) a = some i) (hb: numberIn (marks u) b = some j) (ij: i ≠ j) (g: (placeOf (takeAll u).places i).1 ≠ (placeOf (takeAll u).places j).1) :
  levelWrongs (marks u) (takeAll u) (.over a b h p q r) = [] /\ Right (u ++ [.over a b h p q r]):=by
 have tj:=take_join (h:=h) (p:=p) (q:=q) (r:=r) ha hb ij g
 refine ⟨over_good ha hb ij (by rw [tj]; exact R.odd),?_,?_,?_,?_,?_,?_⟩
 ·rw [takeAll_snoc,tj]
  exact R.wf.join (by rw [R.len]; exact (numberIn_some ha).2) (by rw [R.len]; exact (numberIn_some hb).2) rfl g
 ·rw [takeAll_snoc,tj]; exact R.odd
 ·rw [takeAll_snoc,tj,over_names]; simp only [withJoin,joined_length]; exact R.len
 ·rw [over_names]; exact R.nodup
 ·rw [over_names]; exact R.few
 ·rw [takeAll_snoc,tj]; have:=R.frst; simp [withJoin]; omega
theorem Right.agree (R: Right u) (ha: numberIn (marks u) a = some i) (hb: numberIn (marks u) b = some j) (ij: i ≠ j) (g: (placeOf (takeAll u).places i).1 = (placeOf (takeAll u).places j).1)
  (e: (placeOf (takeAll u).places j).2 - (placeOf (takeAll u).places i).2 = h): levelWrongs (marks u) (takeAll u) (.over a b h p q r) = [] /\ Right (u ++ [.over a b h p q r]):=by
 have tj:=take_agree (p:=p) (q:=q) (r:=r) ha hb ij g e
 refine ⟨over_good ha hb ij (by rw [tj]; exact R.odd),?_,?_,?_,?_,?_,?_⟩
 ·rw [takeAll_snoc,tj]; exact R.wf.agree
 ·rw [takeAll_snoc,tj]; exact R.odd
 ·rw [takeAll_snoc,tj,over_names]; exact R.len
 ·rw [over_names]; exact R.nodup
 ·rw [over_names]; exact R.few
 ·rw [takeAll_snoc,tj]; have:=R.frst; simp only; omega
end
theorem way_eq {u: List Level} (R: Right u) {i j: Nat} {p: List Nat} (t: Trail (takeAll u).forest i j p) (n: NB p): ∃ r,way (takeAll u) i j = some r /\ r.map (·.1) = p:=by
 have:=R.wf.count
 exact wayIn_eq R.wf.acyc t n (by omega)
theorem way_none {u: List Level} (R: Right u) {i j: Nat} (hi: i < (marks u).length) (hj: j < (marks u).length) (g: (placeOf (takeAll u).places i).1 ≠ (placeOf (takeAll u).places j).1): way (takeAll u) i j = none:=by
 refine wayIn_none fun c => g ((R.wf.conn i j ?_ ?_).mp c)
 ·rw [R.len]; exact hi
 ·rw [R.len]; exact hj
end Mh
end
section
namespace Mh
open Tide
theorem size_list (b: ByteArray): b.data.toList.length = b.size:=Array.length_toList
theorem toList_loop (b: ByteArray): ∀ (k i: Nat) (acc: List UInt8),b.size - i = k -> ByteArray.toList.loop b i acc = acc.reverse ++ b.data.toList.drop i
 | 0,i,acc,h => by
  unfold ByteArray.toList.loop
  have hs:=size_list b
  rw [if_neg (by omega),List.drop_eq_nil_of_le (by omega),List.append_nil]
 | k + 1,i,acc,h => by
  unfold ByteArray.toList.loop
  have hs:=size_list b
  have hi: i < b.size:=by omega
  have hl: i < b.data.toList.length:=by omega
  rw [if_pos hi,toList_loop b k (i + 1) _ (by omega),List.drop_eq_getElem_cons hl,List.reverse_cons,List.append_assoc]
  congr 2
  have: b.get! i = b.data.toList[i]:=by
   show b.data[i]! = _
   rw [getElem!_pos b.data i hi]; rfl
  rw [this]; rfl
theorem toList_data (b: ByteArray): b.toList = b.data.toList:=by
 show ByteArray.toList.loop b 0 [] = _
 rw [toList_loop b _ 0 [] rfl]; simp
theorem encode_char {c: Char} (h: c.toNat < 128): String.utf8EncodeChar c = [UInt8.ofNat c.toNat]:=by
 have: c.val.toNat <= 127:=by have: c.val.toNat = c.toNat:=rfl; omega
 unfold String.utf8EncodeChar
 simp only [if_pos this]
 rfl
theorem ascii_list: ∀ (l: List Char),(∀ c ∈ l,c.toNat < 128) -> ascii (String.ofList l) = l.map fun c => UInt8.ofNat c.toNat:=by
 intro l h
 unfold ascii
 show (String.ofList l).toByteArray.toList = _
 rw [String.toByteArray_ofList,toList_data]
 induction l with
 | nil => simp [List.utf8Encode_nil]
 | cons c l ih =>
  have ih:=ih fun x hx => h x (List.mem_cons_of_mem _ hx)
  rw [List.utf8Encode_cons,List.utf8Encode_singleton,encode_char (h c List.mem_cons_self)]
  simp [ih]
theorem ascii_mark: ascii "mark " = [109,97,114,107,32]:=by
 have: ("mark ": String) = String.ofList ['m','a','r','k',' ']:=by rfl
 rw [this,ascii_list _ (by decide)]; decide
theorem ascii_over: ascii "over " = [111,118,101,114,32]:=by
 have: ("over ": String) = String.ofList ['o','v','e','r',' ']:=by rfl
 rw [this,ascii_list _ (by decide)]; decide
def numN (n: Nat): List Nat:=(Nat.toDigits 10 n).map Char.toNat
theorem digit_lt (d: Nat) (h: d < 10): (Nat.digitChar d).toNat = 48 + d:=by
 have: ∀ d: Fin 10,(Nat.digitChar d.val).toNat = 48 + d.val:=by decide
 exact this ⟨d,h⟩
theorem numN_lt {n: Nat} (h: n < 10): numN n = [48 + n]:=by
 unfold numN
 rw [Nat.toDigits_of_lt_base h]; simp [digit_lt n h]
theorem numN_step {n: Nat} (h: 10 <= n): numN n = numN (n / 10) ++ [48 + n % 10]:=by
 unfold numN
 rw [Nat.toDigits_of_base_le (by decide) h]
 simp [digit_lt _ (Nat.mod_lt n (by decide))]
theorem numN_digit: ∀ (n: Nat),∀ c ∈ numN n,48 <= c /\ c <= 57:=by
 intro n
 induction n using Nat.strongRecOn with
 | ind n ih =>
  intro c hc
  by_cases h: n < 10
  ·rw [numN_lt h] at hc; have: c = 48 + n:=by simpa using hc
   omega
  ·rw [numN_step (by omega)] at hc
   rcases List.mem_append.mp hc with q | q
   ·exact ih (n / 10) (by omega) c q
   ·have: c = 48 + n % 10:=by simpa using q
    omega
theorem digits_chars (n: Nat): ∀ c ∈ Nat.toDigits 10 n,c.toNat < 128:=by
 intro c hc
 have:=numN_digit n c.toNat (List.mem_map.mpr ⟨c,hc,rfl⟩)
 omega
theorem digitsOf_eq (n: Nat): digitsOf n = (numN n).map UInt8.ofNat:=by
 unfold digitsOf numN
 show ascii (String.ofList (Nat.toDigits 10 n)) = _
 rw [ascii_list _ (digits_chars n),List.map_map]; rfl
theorem numN_len: ∀ (k n: Nat),n < 10 ^ (k + 1) -> (numN n).length <= k + 1
 | 0,n,h => by rw [numN_lt (by simpa using h)]; simp
 | k + 1,n,h => by
  by_cases q: n < 10
  ·rw [numN_lt q]; simp
  ·rw [numN_step (by omega)]
   have:=numN_len k (n / 10) (by rw [Nat.pow_succ] at h; omega)
   simp; omega
end Mh
end
section
namespace Mh
open Tide
def codes (b: Bytes): List Int:=b.map fun (c: UInt8) => (c.toNat: Int)
theorem codes_append (a b: Bytes): codes (a ++ b) = codes a ++ codes b:=List.map_append
theorem codes_length (a: Bytes): (codes a).length = a.length:=List.length_map _
def nats (b: Bytes): List Nat:=b.map UInt8.toNat
def DigN (l: List Nat): Prop:=∀ c ∈ l,48 <= c /\ c <= 57
def valN (l: List Nat): Nat:=l.foldl (fun (n c: Nat) => 10 * n + (c - 48)) 0
theorem valN_snoc (l: List Nat) (c: Nat): valN (l ++ [c]) = 10 * valN l + (c - 48):=by simp [valN]
theorem fold_acc: ∀ (l: List Nat) (a: Nat),l.foldl (fun (n c: Nat) => 10 * n + (c - 48)) a = a * 10 ^ l.length + valN l
 | [],a => by simp [valN]
 | c :: l,a => by
  have h1:=fold_acc l (10 * a + (c - 48))
  have h2:=fold_acc l (10 * 0 + (c - 48))
  rw [List.foldl_cons,h1]
  show _ = a * 10 ^ (l.length + 1) + (c :: l).foldl _ 0
  rw [List.foldl_cons,h2,Nat.pow_succ,Nat.add_mul,Nat.add_mul]
  have: 10 * a * 10 ^ l.length = a * (10 ^ l.length * 10):=by
   rw [Nat.mul_comm 10 a,Nat.mul_assoc,Nat.mul_comm 10]
  omega
theorem valN_append (l m: List Nat): valN (l ++ m) = valN l * 10 ^ m.length + valN m:=by
 unfold valN
 rw [List.foldl_append]
 exact fold_acc m _
theorem valN_zeros: ∀ k,valN (List.replicate k 48) = 0
 | 0 => rfl
 | k + 1 => by rw [List.replicate_succ',valN_snoc,valN_zeros k]
theorem valN_lt: ∀ (k: Nat) (l: List Nat),DigN l -> l.length = k -> valN l < 10 ^ k
 | 0,l,_,h => by
  have: l = []:=List.length_eq_zero_iff.mp h
  subst this; simp [valN]
 | k + 1,l,d,h => by
  have ne: l ≠ []:=by intro e; subst e; simp at h
  obtain ⟨m,c,e⟩: ∃ m c,l = m ++ [c]:=⟨l.dropLast,l.getLast ne,(List.dropLast_concat_getLast ne).symm⟩
  subst e
  have hc:=d c (by simp)
  have:=valN_lt k m (fun x hx => d x (by simp [hx])) (by simpa using h)
  rw [valN_snoc,Nat.pow_succ]; omega
theorem decimal_eq (b: Bytes): decimal b = valN (nats b):=by
 unfold decimal valN nats
 rw [List.foldl_map]
def padN: Nat -> Nat -> List Nat
 | 0,_ => []
 | k + 1,v => padN k (v / 10) ++ [48 + v % 10]
theorem padN_zero: ∀ k,padN k 0 = List.replicate k 48
 | 0 => rfl
 | k + 1 => by
  show padN k (0 / 10) ++ [48 + 0 % 10] = _
  rw [List.replicate_succ',show 0 / 10 = 0 from rfl,padN_zero k]
theorem pad_num: ∀ (k v: Nat),v < 10 ^ (k + 1) -> List.replicate (k + 1 - (numN v).length) 48 ++ numN v = padN (k + 1) v
 | 0,v,h => by
  have h: v < 10:=by simpa using h
  rw [numN_lt h]
  simp [padN]; omega
 | k + 1,v,h => by
  show _ = padN (k + 1) (v / 10) ++ [48 + v % 10]
  by_cases q: v < 10
  ·rw [numN_lt q,show v / 10 = 0 by omega,padN_zero,show v % 10 = v by omega]
   rfl
  ·rw [numN_step (by omega),<- pad_num k (v / 10) (by rw [Nat.pow_succ] at h; omega)]
   have e: k + 1 + 1 - (numN (v / 10) ++ [48 + v % 10]).length = k + 1 - (numN (v / 10)).length:=by simp
   rw [e,List.append_assoc]
theorem pad_val: ∀ (k: Nat) (l: List Nat),DigN l -> l.length = k -> padN k (valN l) = l
 | 0,l,_,h => (List.length_eq_zero_iff.mp h).symm
 | k + 1,l,d,h => by
  have ne: l ≠ []:=by intro e; subst e; simp at h
  obtain ⟨m,c,e⟩: ∃ m c,l = m ++ [c]:=⟨l.dropLast,l.getLast ne,(List.dropLast_concat_getLast ne).symm⟩
  subst e
  have hc:=d c (by simp)
  have ih:=pad_val k m (fun x hx => d x (by simp [hx])) (by simpa using h)
  rw [valN_snoc]
  show padN k ((10 * valN m + (c - 48)) / 10) ++ [48 + (10 * valN m + (c - 48)) % 10] = m ++ [c]
  rw [show (10 * valN m + (c - 48)) / 10 = valN m by omega,ih,show 48 + (10 * valN m + (c - 48)) % 10 = c by omega]
def shornN (l: List Nat): List Nat:=(l.reverse.dropWhile fun x => x == 48).reverse
theorem shornN_zeros (l: List Nat) (k: Nat): shornN (l ++ List.replicate k 48) = shornN l:=by
 unfold shornN
 rw [List.reverse_append,List.reverse_replicate]
 congr 1
 induction k with
 | zero => rfl
 | succ k ih => rw [List.replicate_succ,List.cons_append,List.dropWhile_cons]; simpa using ih
theorem dropWhile_len {α: Type} (p: α -> Bool): ∀ l: List α,(l.dropWhile p).length <= l.length
 | [] => Nat.le_refl _
 | x :: l => by
  rw [List.dropWhile_cons]
  split
  ·have:=dropWhile_len p l; simp; omega
  ·exact Nat.le_refl _
theorem shornN_len (l: List Nat): (shornN l).length <= l.length:=by
 unfold shornN
 have:=dropWhile_len (fun x => x == 48) l.reverse
 simpa using this
theorem dropWhile_nil {α: Type} (p: α -> Bool): ∀ l: List α,l.dropWhile p = [] -> ∀ x ∈ l,p x = true
 | [],_,_,h => by cases h
 | y :: l,h,x,hx => by
  rw [List.dropWhile_cons] at h
  split at h
  ·rcases List.mem_cons.mp hx with e | e
   ·subst e; assumption
   ·exact dropWhile_nil p l h x e
  ·cases h
theorem valN_noughts: ∀ (k: Nat) (l: List Nat),l.length = k -> (∀ x ∈ l,x = 48) -> valN l = 0:=by
 intro k l hl h
 have: l = List.replicate k 48:=List.eq_replicate_iff.mpr ⟨hl,h⟩
 rw [this,valN_zeros]
theorem shornN_nil {l: List Nat} (h: shornN l = []): valN l = 0:=by
 have h: l.reverse.dropWhile (fun x => x == 48) = []:=List.reverse_eq_nil_iff.mp h
 refine valN_noughts _ l rfl fun x hx => ?_
 have:=dropWhile_nil _ _ h x (List.mem_reverse.mpr hx)
 simpa using this
theorem valN_numN: ∀ n,valN (numN n) = n:=by
 intro n
 induction n using Nat.strongRecOn with
 | ind n ih =>
  by_cases h: n < 10
  ·rw [numN_lt h]; simp [valN]
  ·rw [numN_step (by omega),valN_snoc,ih (n / 10) (by omega)]; omega
def printedN (h: Int): List Nat :=
 (if h < 0 then [45] else []) ++ (numN (h.natAbs / 10000) ++
  (let f:=shornN (List.replicate (4 - (numN (h.natAbs % 10000)).length) 48 ++ numN (h.natAbs % 10000))
   if f = [] then [] else 46 :: f))
theorem map_shorn (l: List Nat) (hl: ∀ c ∈ l,c < 256): shorn (l.map UInt8.ofNat) = (shornN l).map UInt8.ofNat:=by
 unfold shorn shornN
 rw [<- List.map_reverse]
 have: ∀ m: List Nat,(∀ c ∈ m,c < 256) -> (m.map UInt8.ofNat).dropWhile (fun x => x == 48) = (m.dropWhile fun x => x == 48).map UInt8.ofNat:=by
  intro m
  induction m with
  | nil => intro _; rfl
  | cons c m ih =>
   intro hm
   have hc:=hm c List.mem_cons_self
   have e: (UInt8.ofNat c == 48) = (c == 48):=by
    by_cases q: c = 48
    ·subst q; rfl
    ·have: UInt8.ofNat c ≠ 48:=fun z => q (by
      have:=congrArg UInt8.toNat z
      simp at this; omega)
     rw [beq_eq_false_iff_ne.mpr this,beq_eq_false_iff_ne.mpr q]
   rw [List.map_cons,List.dropWhile_cons,List.dropWhile_cons,e]
   split
   ·exact ih fun x hx => hm x (List.mem_cons_of_mem _ hx)
   ·rfl
 rw [this _ fun c hc => hl c (List.mem_reverse.mp hc),List.map_reverse]
theorem printPointed_eq (n: Nat): printPointed 4 n = (numN (n / 10000) ++
  (let f:=shornN (List.replicate (4 - (numN (n % 10000)).length) 48 ++ numN (n % 10000))
   if f = [] then [] else 46 :: f)).map UInt8.ofNat:=by
 unfold printPointed
 have p4: (10 ^ 4: Nat) = 10000:=rfl
 simp only [p4,digitsOf_eq,List.length_map,List.map_append]
 congr 1
 have m: List.replicate (4 - (numN (n % 10000)).length) (48: UInt8) ++ (numN (n % 10000)).map UInt8.ofNat = (List.replicate (4 - (numN (n % 10000)).length) 48 ++ numN (n % 10000)).map UInt8.ofNat:=by
  simp
 rw [m,map_shorn]
 ·by_cases z: n % 10000 = 0
  ·rw [if_pos z,z]
   have: shornN (List.replicate (4 - (numN 0).length) 48 ++ numN 0) = []:=by
    rw [pad_num 3 0 (by decide),padN_zero]; decide
   rw [this]; rfl
  ·rw [if_neg z]
   have: shornN (List.replicate (4 - (numN (n % 10000)).length) 48 ++ numN (n % 10000)) ≠ []:=fun e => by
    have:=shornN_nil e
    rw [valN_append,valN_zeros,valN_numN] at this
    omega
   rw [if_neg this]; rfl
 ·intro c hc
  rcases List.mem_append.mp hc with q | q
  ·have:=(List.mem_replicate.mp q).2; omega
  ·have:=numN_digit _ c q; omega
end Mh
end
section
namespace Mh
open Tide
def numberI (l: List Int): Int:=l.foldl (fun (n d: Int) => n * 10 + d - 48) 0
theorem number_acc: ∀ (l: List Nat) (a: Nat),DigN l -> (l.map fun (c: Nat) => (c: Int)).foldl (fun (n d: Int) => n * 10 + d - 48) (a: Int) = ((l.foldl (fun (n c: Nat) => 10 * n + (c - 48)) a: Nat): Int)
 | [],a,_ => rfl
 | c :: l,a,d => by
  rw [List.map_cons,List.foldl_cons,List.foldl_cons]
  have hc:=d c List.mem_cons_self
  have e: (a: Int) * 10 + (c: Int) - 48 = ((10 * a + (c - 48): Nat): Int):=by omega
  rw [e]
  exact number_acc l _ fun x hx => d x (List.mem_cons_of_mem _ hx)
theorem numberI_val {l: List Nat} (d: DigN l): numberI (l.map fun (c: Nat) => (c: Int)) = (valN l: Int):=number_acc l 0 d
def heightI (signs: List Int): Int :=
 let below:=decide (signs.headD 0 = 45)
 let ds:=if below = true then signs.drop 1 else signs
 let point:=ds.findIdx (fun c => c == 46)
 let behind:=ds.drop (point + 1)
 let amount:=numberI (ds.take point ++ (behind ++ List.replicate (4 - behind.length) 48))
 if below = true then -amount else amount
structure Parts (neg: Bool) (d: Bytes) (dot: Bool) (f: Bytes): Prop where
 dd: ∀ c ∈ d,isDigit c = true
 df: ∀ c ∈ f,isDigit c = true
 d1: 1 <= d.length
 d4: d.length <= 4
 f4: f.length <= 4
 f0: dot = false -> f = []
def signsOf (neg: Bool) (d: Bytes) (dot: Bool) (f: Bytes): Bytes:=(if neg = true then [45] else []) ++ (d ++ (if dot = true then 46 :: f else []))
def worth (neg: Bool) (d f: Bytes): Int:=if neg = true then -((decimal d * 10 ^ 4 + decimal f * 10 ^ (4 - f.length): Nat): Int) else ((decimal d * 10 ^ 4 + decimal f * 10 ^ (4 - f.length): Nat): Int)
theorem dig_nats {b: Bytes} (h: ∀ c ∈ b,isDigit c = true): DigN (nats b):=by
 intro c hc
 obtain ⟨x,hx,e⟩:=List.mem_map.mp hc
 have:=h x hx
 unfold isDigit at this
 simp at this
 omega
theorem codes_nats (b: Bytes): codes b = (nats b).map fun (c: Nat) => (c: Int):=by
 unfold codes nats
 rw [List.map_map]; rfl
theorem findIdx_skip {p: Int -> Bool}: ∀ (l m: List Int),(∀ x ∈ l,p x = false) -> (l ++ m).findIdx p = l.length + m.findIdx p
 | [],m,_ => by simp
 | x :: l,m,h => by
  rw [List.cons_append,List.findIdx_cons,h x List.mem_cons_self,findIdx_skip l m fun y hy => h y (List.mem_cons_of_mem _ hy)]
  simp; omega
theorem heightI_eq {neg dot: Bool} {d f: Bytes} (P: Parts neg d dot f): heightI (codes (signsOf neg d dot f)) = worth neg d f:=by
 have nd:=dig_nats P.dd
 have nf:=dig_nats P.df
 have hd0: ∀ x ∈ codes d,((x == 46) = false):=by
  intro x hx
  rw [codes_nats] at hx
  obtain ⟨c,hc,e⟩:=List.mem_map.mp hx
  have:=nd c hc
  rw [beq_eq_false_iff_ne]; omega
 have hhead: ∀ y,(codes d ++ y).headD 0 ≠ 45:=by
  intro y
  cases q: d with
  | nil => have:=P.d1; rw [q] at this; simp at this
  | cons c r =>
   have:=nd c.toNat (by rw [q]; simp [nats])
   simp [codes]; omega
 have core: ∀ (ds: List Int),ds = codes d ++ codes (if dot = true then 46 :: f else []) ->
   numberI (ds.take (ds.findIdx (fun c => c == 46)) ++ (ds.drop (ds.findIdx (fun c => c == 46) + 1) ++ List.replicate (4 - (ds.drop (ds.findIdx (fun c => c == 46) + 1)).length) 48)) = ((decimal d * 10 ^ 4 + decimal f * 10 ^ (4 - f.length): Nat): Int):=by
  intro ds e
  have hp: ds.findIdx (fun c => c == 46) = (codes d).length:=by
   rw [e,findIdx_skip _ _ hd0]
   cases dot <;> simp [codes,List.findIdx_cons]
  have ht: ds.take (codes d).length = codes d:=by rw [e]; simp
  have hb: ds.drop ((codes d).length + 1) = codes f:=by
   rw [e]
   cases q: dot with
   | true => simp [codes,List.drop_append]
   | false => rw [P.f0 q]; simp [codes]
  rw [hp,ht,hb,codes_length,codes_nats,codes_nats]
  have r: List.replicate (4 - f.length) (48: Int) = (List.replicate (4 - f.length) 48).map fun (c: Nat) => (c: Int):=by simp
  rw [r,<- List.map_append,<- List.map_append,numberI_val,valN_append,valN_append,valN_zeros,decimal_eq,decimal_eq]
  ·congr 1
   simp only [List.length_append,List.length_replicate]
   have: (nats f).length = f.length:=List.length_map _
   have f4:=P.f4
   rw [this,show f.length + (4 - f.length) = 4 by omega]; rfl
  ·intro c hc
   rcases List.mem_append.mp hc with h | h
   ·exact nd c h
   ·rcases List.mem_append.mp h with h | h
    ·exact nf c h
    ·have:=(List.mem_replicate.mp h).2; omega
 unfold heightI signsOf worth
 cases neg with
 | true =>
  simp only [codes_append,if_true]
  have e1: ((codes [45] ++ (codes d ++ codes (if dot = true then 46 :: f else []))).headD 0) = 45:=rfl
  have e2: (codes [45] ++ (codes d ++ codes (if dot = true then 46 :: f else []))).drop 1 = codes d ++ codes (if dot = true then 46 :: f else []):=rfl
  simp only [e1,decide_true,if_true,e2]
  rw [core _ rfl]
 | false =>
  simp only [codes_append]
  have e0: (if (false = true) then ([45]: Bytes) else []) = []:=rfl
  have e3: codes ([]: Bytes) = []:=rfl
  simp only [e0,e3,List.nil_append]
  have:=hhead (codes (if dot = true then 46 :: f else []))
  simp only [this,decide_false,Bool.false_eq_true,if_false]
  rw [core _ rfl]
theorem printed_short {neg dot: Bool} {d f: Bytes} (P: Parts neg d dot f): (printedN (worth neg d f)).length <= (signsOf neg d dot f).length:=by
 have nd:=dig_nats P.dd
 have nf:=dig_nats P.df
 have ln: ∀ b: Bytes,(nats b).length = b.length:=fun b => List.length_map _
 have f4:=P.f4
 have vf: decimal f * 10 ^ (4 - f.length) = valN (nats f ++ List.replicate (4 - f.length) 48):=by
  rw [valN_append,valN_zeros,List.length_replicate,decimal_eq]; rfl
 have dz: DigN (nats f ++ List.replicate (4 - f.length) 48):=by
  intro c hc
  rcases List.mem_append.mp hc with h | h
  ·exact nf c h
  ·have:=(List.mem_replicate.mp h).2; omega
 have lz: (nats f ++ List.replicate (4 - f.length) 48).length = 4:=by
  rw [List.length_append,ln,List.length_replicate]; omega
 have lt:=valN_lt 4 _ dz lz
 have p4: (10 ^ 4: Nat) = 10000:=rfl
 rw [p4] at lt
 have abs: (worth neg d f).natAbs = valN (nats d) * 10000 + valN (nats f ++ List.replicate (4 - f.length) 48):=by
  unfold worth
  rw [vf,decimal_eq,p4]
  split
  ·rw [Int.natAbs_neg,Int.natAbs_natCast]
  ·rw [Int.natAbs_natCast]
 have q1: (worth neg d f).natAbs / 10000 = valN (nats d):=by rw [abs]; omega
 have q2: (worth neg d f).natAbs % 10000 = valN (nats f ++ List.replicate (4 - f.length) 48):=by rw [abs]; omega
 have w1: (numN (valN (nats d))).length <= d.length:=by
  have h1:=valN_lt d.length _ nd (ln d)
  have:=P.d1
  obtain ⟨k,hk⟩: ∃ k,d.length = k + 1:=⟨d.length - 1,by omega⟩
  rw [hk] at h1 ⊢
  exact numN_len k _ h1
 have w2: List.replicate (4 - (numN (valN (nats f ++ List.replicate (4 - f.length) 48))).length) 48 ++ numN (valN (nats f ++ List.replicate (4 - f.length) 48)) = nats f ++ List.replicate (4 - f.length) 48:=by
  rw [pad_num 3 _ lt]
  exact pad_val 4 _ dz lz
 unfold printedN signsOf
 rw [q1,q2]
 simp only [w2,shornN_zeros]
 have s1: ((if worth neg d f < 0 then [45] else []): List Nat).length <= ((if neg = true then [45] else []): Bytes).length:=by
  cases neg with
  | true => split <;> simp
  | false =>
   rw [if_neg]
   ·simp
   ·unfold worth; simp only [Bool.false_eq_true,if_false]; omega
 have s2: (if shornN (nats f) = [] then [] else 46 :: shornN (nats f): List Nat).length <= ((if dot = true then 46 :: f else []): Bytes).length:=by
  cases q: dot with
  | true =>
   have:=shornN_len (nats f)
   rw [ln] at this
   split
   ·simp
   ·simp; omega
  | false => rw [P.f0 q]; simp [nats,shornN]
 simp only [List.length_append]
 omega
theorem pointed_parts {c c': Cur} {h: Nat} (e: pointed 4 4 c = .ok (h,c')): ∃ d dot f,Parts false d dot f /\ Took c (d ++ (if dot = true then 46 :: f else [])) c' /\ h = decimal d * 10 ^ 4 + decimal f * 10 ^ (4 - f.length):=by
 unfold pointed at e
 obtain ⟨⟨d,c1⟩,h1,e⟩:=bind_ok e
 obtain ⟨⟨f,c2⟩,h2,e⟩:=bind_ok e
 cases e
 have sd: ∀ {m: Nat} {c c': Cur} {n: Bytes},someDigits (m + 1) c = .ok (n,c') -> Took c n c' /\ n.length <= m + 1 /\ 1 <= n.length /\ ∀ x ∈ n,isDigit x = true:=by
  intro m c c' n h
  unfold someDigits at h
  by_cases e: nextIs isDigit c = true
  ·rw [if_pos e] at h
   have h:=Except.ok.inj h
   have e1: n = (some_ isDigit (m + 1) c).1:=by rw [h]
   have e2: c' = (some_ isDigit (m + 1) c).2:=by rw [h]
   obtain ⟨a,b,d⟩:=some_ok isDigit (m + 1) c
   subst e1 e2
   refine ⟨a,b,?_,d⟩
   unfold nextIs at e
   unfold some_
   cases q: c.next with
   | none => rw [q] at e; cases e
   | some x =>
    rw [q] at e
    simp only at e
    simp [e]
  ·rw [if_neg e] at h; cases h
 obtain ⟨t1,l1,p1,g1⟩:=sd h1
 by_cases q: nextIs (fun x => x == 46) c1 = true
 ·rw [if_pos q] at h2
  obtain ⟨t2,l2,p2,g2⟩:=sd h2
  refine ⟨d,true,f,⟨g1,g2,p1,l1,l2,by simp⟩,?_,rfl⟩
  unfold nextIs at q
  cases z: c1.next with
  | none => rw [z] at q; cases q
  | some y =>
   rw [z] at q
   have: y = 46:=by simpa using q
   subst this
   exact t1.trans ((Took.on z).trans t2)
 ·rw [if_neg q] at h2
  cases h2
  exact ⟨d,false,[],⟨g1,by simp,p1,l1,by simp,fun _ => rfl⟩,by simpa using t1,rfl⟩
end Mh
end
section
namespace Mh
open Tide
structure Lev (n: Nat) (G L: Nat -> Int) (p: Places): Prop where
 same: ∀ i j,i < n -> j < n -> (G i = G j ↔ (placeOf p i).1 = (placeOf p j).1)
 lev: ∀ i j,i < n -> j < n -> G i = G j -> L j - L i = (placeOf p j).2 - (placeOf p i).2
theorem Lev.mark {n: Nat} {G L G' L': Nat -> Int} {p: Places} (r: Lev n G L p) (hn: p.length = n) (hp: ∀ i,i < n -> (placeOf p i).1 < n) (h: ∀ i,i < n -> G' i = G i /\ L' i = L i) (new: ∀ i,i < n -> G' n ≠ G i) (y: Int): Lev (n + 1) G' L' (p ++ [(n,y)]):=by
 have pl: ∀ i,i < n -> placeOf (p ++ [(n,y)]) i = placeOf p i:=fun i hi => placeOf_snoc_lt (by omega)
 have pn: placeOf (p ++ [(n,y)]) n = (n,y):=by subst hn; exact placeOf_snoc_eq
 constructor
 ·intro i j hi hj
  by_cases ei: i = n <;> by_cases ej: j = n
  ·subst ei ej; simp
  ·subst ei
   have hj: j < i:=by omega
   rw [(h j hj).1,pn,pl j hj]
   have:=hp j hj
   exact ⟨fun e => absurd e (new j hj),fun e => by simp at e; omega⟩
  ·subst ej
   have hi: i < j:=by omega
   rw [(h i hi).1,pn,pl i hi]
   have:=hp i hi
   exact ⟨fun e => absurd e.symm (new i hi),fun e => by simp at e; omega⟩
  ·have hi: i < n:=by omega
   have hj: j < n:=by omega
   rw [(h i hi).1,(h j hj).1,pl i hi,pl j hj]
   exact r.same i j hi hj
 ·intro i j hi hj e
  by_cases ei: i = n <;> by_cases ej: j = n
  ·subst ei ej; omega
  ·subst ei
   have hj: j < i:=by omega
   rw [(h j hj).1] at e
   exact absurd e (new j hj)
  ·subst ej
   have hi: i < j:=by omega
   rw [(h i hi).1] at e
   exact absurd e.symm (new i hi)
  ·have hi: i < n:=by omega
   have hj: j < n:=by omega
   rw [(h i hi).1,(h j hj).1] at e
   rw [(h i hi).2,(h j hj).2,pl i hi,pl j hj]
   exact r.lev i j hi hj e
theorem merged_of {a b i j: Int} (e: (if i = b then a else i) = if j = b then a else j): ((i = a \/ i = b) /\ (j = a \/ j = b)) \/ (i = j /\ i ≠ a /\ i ≠ b):=by
 by_cases h1: i = b
 ·rw [if_pos h1] at e
  by_cases h2: j = b
  ·exact .inl ⟨.inr h1,.inr h2⟩
  ·rw [if_neg h2] at e; exact .inl ⟨.inr h1,.inl e.symm⟩
 ·rw [if_neg h1] at e
  by_cases h2: j = b
  ·rw [if_pos h2] at e; exact .inl ⟨.inl e,.inr h2⟩
  ·rw [if_neg h2] at e
   by_cases h3: i = a
   ·exact .inl ⟨.inl h3,.inl (e ▸ h3)⟩
   ·exact .inr ⟨e,h3,h1⟩
theorem merged_iff {a b i j: Int} (ne: a ≠ b): ((if i = b then a else i) = if j = b then a else j) ↔ (i = j \/ (i = a /\ j = b) \/ (i = b /\ j = a)):=by
 constructor
 ·intro e
  rcases merged_of e with ⟨h1 | h1,h2 | h2⟩ | h
  ·exact .inl (h1.trans h2.symm)
  ·exact .inr (.inl ⟨h1,h2⟩)
  ·exact .inr (.inr ⟨h1,h2⟩)
  ·exact .inl (h1.trans h2.symm)
  ·exact .inl h.1
 ·rintro (h | ⟨h1,h2⟩ | ⟨h1,h2⟩)
  ·rw [h]
  ·rw [h1,h2,if_neg ne,if_pos rfl]
  ·rw [h1,h2,if_neg ne,if_pos rfl]
theorem Lev.join {n: Nat} {G L G' L': Nat -> Int} {p: Places} (r: Lev n G L p) (hn: p.length = n) {x: Over} (ha: x.a < n) (hb: x.b < n) (ne: (placeOf p x.a).1 ≠ (placeOf p x.b).1)
  (new: (∀ k,k < n -> G' k = (if G k = G x.b then G x.a else G k) /\ L' k = (if G k = G x.b then L k + (x.h - (L x.b - L x.a)) else L k)) \/
   (∀ k,k < n -> G' k = (if G k = G x.a then G x.b else G k) /\ L' k = (if G k = G x.a then L k + -(x.h - (L x.b - L x.a)) else L k))): Lev n G' L' (joined p x):=by
 have gne: G x.a ≠ G x.b:=fun e => ne ((r.same _ _ ha hb).mp e)
 have up: ∀ k,k < n -> k < p.length:=fun k hk => by rw [hn]; exact hk
 have J: ∀ k,k < n -> (placeOf (joined p x) k).2 = if (placeOf p x.a).1 < (placeOf p x.b).1 then (if G k = G x.b then (placeOf p k).2 + ((placeOf p x.a).2 + x.h - (placeOf p x.b).2) else (placeOf p k).2) else if G k = G x.a then (placeOf p k).2 - ((placeOf p x.a).2 + x.h - (placeOf p x.b).2) else (placeOf p k).2:=fun k hk => by
  rw [joined_place (up k hk)]
  dsimp only
  simp only [<- r.same k _ hk hb,<- r.same k _ hk ha]
  split <;> split <;> rfl
 have key: ∀ k,k < n -> (G k = G x.a -> L' k - L' x.a = (placeOf (joined p x) k).2 - (placeOf (joined p x) x.a).2) /\ (G k = G x.b -> L' k - L' x.a = (placeOf (joined p x) k).2 - (placeOf (joined p x) x.a).2):=fun k hk => by
  constructor
  ·intro e
   have l:=r.lev x.a k ha hk e.symm
   have nb: G k ≠ G x.b:=fun z => gne (e.symm.trans z)
   have j1: (placeOf (joined p x) k).2 - (placeOf (joined p x) x.a).2 = (placeOf p k).2 - (placeOf p x.a).2:=by
    rw [J k hk,J x.a ha,if_neg nb,if_neg gne,if_pos e,if_pos rfl]
    split
    ·rfl
    ·clear l J new r
     omega
   rw [j1,<- l]
   rcases new with w | w
   ·rw [(w k hk).2,(w x.a ha).2,if_neg nb,if_neg gne]
   ·rw [(w k hk).2,(w x.a ha).2,if_pos e,if_pos rfl]
    exact Int.add_sub_add_right _ _ _
  ·intro e
   have l:=r.lev x.b k hb hk e.symm
   have nb: G k ≠ G x.a:=fun z => gne (z.symm.trans e)
   have j1: (placeOf (joined p x) k).2 - (placeOf (joined p x) x.a).2 = x.h + ((placeOf p k).2 - (placeOf p x.b).2):=by
    rw [J k hk,J x.a ha,if_neg nb,if_neg gne,if_pos e,if_pos rfl]
    clear l J new r
    generalize (placeOf p k).2 = u
    generalize (placeOf p x.a).2 = v
    generalize (placeOf p x.b).2 = t
    split <;> omega
   rw [j1,<- l]
   clear l J j1 r
   rcases new with w | w
   ·rw [(w k hk).2,(w x.a ha).2,if_neg gne,if_pos e]
    omega
   ·rw [(w k hk).2,(w x.a ha).2,if_neg nb,if_pos rfl]
    omega
 constructor
 ·intro i j hi hj
  rw [joined_id (up i hi),joined_id (up j hj),mergeId_eq ne,<- r.same i j hi hj,<- r.same i _ hi ha,<- r.same j _ hj hb,<- r.same i _ hi hb,<- r.same j _ hj ha]
  rcases new with w | w
  ·rw [(w i hi).1,(w j hj).1,merged_iff gne]
  ·rw [(w i hi).1,(w j hj).1,merged_iff (Ne.symm gne)]
   constructor
   ·exact fun h => h.imp_right Or.symm
   ·exact fun h => h.imp_right Or.symm
 ·intro i j hi hj e
  have m: ((G i = G x.a \/ G i = G x.b) /\ (G j = G x.a \/ G j = G x.b)) \/ (G i = G j /\ G i ≠ G x.a /\ G i ≠ G x.b):=by
   rcases new with w | w
   ·rw [(w i hi).1,(w j hj).1] at e
    exact merged_of e
   ·rw [(w i hi).1,(w j hj).1] at e
    rcases merged_of e with ⟨h1,h2⟩ | ⟨h1,h2,h3⟩
    ·exact .inl ⟨h1.symm,h2.symm⟩
    ·exact .inr ⟨h1,h3,h2⟩
  rcases m with ⟨h1,h2⟩ | ⟨h1,h2,h3⟩
  ·have ki: L' i - L' x.a = (placeOf (joined p x) i).2 - (placeOf (joined p x) x.a).2:=h1.elim (key i hi).1 (key i hi).2
   have kj: L' j - L' x.a = (placeOf (joined p x) j).2 - (placeOf (joined p x) x.a).2:=h2.elim (key j hj).1 (key j hj).2
   clear key J new r e h1 h2
   omega
  ·have l:=r.lev i j hi hj h1
   have h4: G j ≠ G x.a:=h1 ▸ h2
   have h5: G j ≠ G x.b:=h1 ▸ h3
   rw [J i hi,J j hj,if_neg h2,if_neg h3,if_neg h4,if_neg h5,ite_self,ite_self,<- l]
   rcases new with w | w
   ·rw [(w i hi).2,(w j hj).2,if_neg h3,if_neg h5]
   ·rw [(w i hi).2,(w j hj).2,if_neg h2,if_neg h4]
def adj (F: List Over) (i: Nat): List (Nat × Nat):=F.filterMap fun o => if o.a = i then some (o.line,o.b) else if o.b = i then some (o.line,o.a) else none
theorem adj_snoc (F: List Over) (o: Over) (i: Nat): adj (F ++ [o]) i = adj F i ++ (if o.a = i then [(o.line,o.b)] else if o.b = i then [(o.line,o.a)] else []):=by
 unfold adj
 rw [List.filterMap_append]
 congr 1
 simp only [List.filterMap_cons,List.filterMap_nil]
 split <;> rename_i h <;> split at h <;> simp_all
theorem mem_adj {F: List Over} {i l k: Nat} (h: (l,k) ∈ adj F i): ∃ o ∈ F,o.line = l /\ Step o i k:=by
 obtain ⟨o,ho,e⟩:=List.mem_filterMap.mp h
 split at e
 ·cases e; exact ⟨o,ho,rfl,.inl ⟨by assumption,rfl⟩⟩
 ·split at e
  ·cases e; exact ⟨o,ho,rfl,.inr ⟨by assumption,rfl⟩⟩
  ·cases e
theorem adj_mem {F: List Over} (ap: ∀ e ∈ F,e.a ≠ e.b) {i k: Nat} {o: Over} (ho: o ∈ F) (s: Step o i k): (o.line,k) ∈ adj F i:=by
 refine List.mem_filterMap.mpr ⟨o,ho,?_⟩
 rcases s with ⟨s1,s2⟩ | ⟨s1,s2⟩
 ·rw [if_pos s1,s2]
 ·rw [if_neg (fun z => ap o ho (by rw [z,s1])),if_pos s1,s2]
inductive Walk (onw: Nat -> Option (Nat × Nat)) (goal: Nat): Nat -> List Nat -> Prop
 | nil: Walk onw goal goal []
 | cons {m l q: Nat} {ls: List Nat} (ne: m ≠ goal) (h: onw m = some (l,q)) (w: Walk onw goal q ls): Walk onw goal m (l :: ls)
structure Onw (F: List Over) (goal: Nat) (onw: Nat -> Option (Nat × Nat)) (rk: Nat -> Nat): Prop where
 edge: ∀ m l q,onw m = some (l,q) -> ∃ o ∈ F,o.line = l /\ Step o m q
 less: ∀ m l q,onw m = some (l,q) -> rk q < rk m
 next: ∀ m l q,onw m = some (l,q) -> q = goal \/ (onw q).isSome = true
theorem Walk.trail {F: List Over} {goal: Nat} {onw: Nat -> Option (Nat × Nat)} {rk: Nat -> Nat} (ac: Acyc F) (O: Onw F goal onw rk) {m: Nat} {p: List Nat} (w: Walk onw goal m p): Trail F m goal p /\ NB p:=by
 induction w with
 | nil => exact ⟨.nil _,trivial⟩
 | @cons m l q ls ne h w ih =>
  obtain ⟨o,ho,e,s⟩:=O.edge m l q h
  subst e
  refine ⟨.cons ho s ih.1,?_⟩
  cases w with
  | nil => trivial
  | @cons _ l' q' ls' ne' h' w' =>
   refine ⟨fun e => ?_,ih.2⟩
   obtain ⟨o',ho',e',s'⟩:=O.edge q l' q' h'
   have: o = o':=ac.one o ho o' ho' (e.trans e'.symm)
   subst this
   have ab:=ac.apart o ho
   have r1:=O.less _ _ _ h
   have r2:=O.less _ _ _ h'
   have: q' = m:=by
    rcases s with ⟨s1,s2⟩ | ⟨s1,s2⟩ <;> rcases s' with ⟨t1,t2⟩ | ⟨t1,t2⟩ <;> omega
   subst this; omega
theorem closed_conn {F: List Over} {S: Nat -> Prop} (cl: ∀ i k,S i -> (∃ o ∈ F,Step o i k) -> S k) {i j: Nat} (c: Conn F i j) (hi: S i): S j:=by
 obtain ⟨p,t⟩:=c
 induction t with
 | nil i => exact hi
 | cons ho s t ih => exact ih (cl _ _ hi ⟨_,ho,s⟩)
end Mh
end
section
namespace Mh
open Tide
inductive View: Int -> List Int -> List (List Int) -> List Int -> Prop
 | row {p m: Int} {r: List Int} (hp: p = 0 \/ p = 4) (h0: 0 <= m) (hl: m.toNat <= r.length): View p (m :: r) [[p],r.take m.toNat] (r.drop m.toNat)
 | bare {p: Int} {r: List Int} (hp: p = 1 \/ p = 2): View p r [[p]] r
 | one {p i: Int} {r: List Int} (hp: p = 3 \/ p = 7): View p (i :: r) [[p,i]] r
 | two {p i j: Int} {r: List Int} (hp: p = 5 \/ p = 6): View p (i :: j :: r) [[p,i,j]] r
theorem rows_one {r: List Int} {xs: List (List Int)} {t: List Int} (h: PyFlat.rows 1 r = some (xs,t)): ∃ m r',r = m :: r' /\ 0 <= m /\ m.toNat <= r'.length /\ xs = [r'.take m.toNat] /\ t = r'.drop m.toNat:=by
 unfold PyFlat.rows at h
 cases r with
 | nil => simp [PyFlat.row] at h
 | cons m r' =>
  unfold PyFlat.row at h
  dsimp only at h
  by_cases c: 0 <= m /\ m.toNat <= r'.length
  ·rw [if_pos c] at h
   simp [PyFlat.rows] at h
   exact ⟨m,r',rfl,c.1,c.2,h.1.symm,h.2.symm⟩
  ·rw [if_neg c] at h
   simp at h
theorem call_view {p: Int} {r: List Int} {c: List (List Int)} {t: List Int} (h: PyFlat.call PyWqacct.shape (p :: r) = some (c,t)): View p r c t:=by
 unfold PyFlat.call at h
 have cases8: PyWqacct.shape p = some (0,1) /\ (p = 0 \/ p = 4) \/ PyWqacct.shape p = some (0,0) /\ (p = 1 \/ p = 2) \/ PyWqacct.shape p = some (1,0) /\ (p = 3 \/ p = 7) \/ PyWqacct.shape p = some (2,0) /\ (p = 5 \/ p = 6) \/ PyWqacct.shape p = none:=by
  unfold PyWqacct.shape
  by_cases h0: p = 0
  ·simp [h0]
  by_cases h1: p = 1
  ·simp [h1]
  by_cases h2: p = 2
  ·simp [h2]
  by_cases h3: p = 3
  ·simp [h3]
  by_cases h4: p = 4
  ·simp [h4]
  by_cases h5: p = 5
  ·simp [h5]
  by_cases h6: p = 6
  ·simp [h6]
  by_cases h7: p = 7
  ·simp [h7]
  ·simp [h0,h1,h2,h3,h4,h5,h6,h7]
 rcases cases8 with ⟨e,hp⟩ | ⟨e,hp⟩ | ⟨e,hp⟩ | ⟨e,hp⟩ | e <;> simp only [e] at h
 ·simp only [Nat.not_lt_zero,if_false,List.drop_zero,List.take_zero] at h
  cases q: PyFlat.rows 1 r with
  | none => rw [q] at h; simp at h
  | some z =>
   obtain ⟨xs,t'⟩:=z
   rw [q] at h
   obtain ⟨m,r',rfl,h0,hl,rfl,rfl⟩:=rows_one q
   simp at h
   obtain ⟨rfl,rfl⟩:=h
   exact .row hp h0 hl
 ·simp only [Nat.not_lt_zero,if_false,List.drop_zero,List.take_zero,PyFlat.rows] at h
  simp at h
  obtain ⟨rfl,rfl⟩:=h
  exact .bare hp
 ·cases r with
  | nil => simp at h
  | cons i r =>
   simp [PyFlat.rows] at h
   obtain ⟨rfl,rfl⟩:=h
   exact .one hp
 ·cases r with
  | nil => simp at h
  | cons i r =>
   cases r with
   | nil => simp at h
   | cons j r =>
    simp [PyFlat.rows] at h
    obtain ⟨rfl,rfl⟩:=h
    exact .two hp
 ·simp at h
inductive Reads: List Int -> List (List (List Int)) -> Prop
 | nil: Reads [] []
 | cons {p: Int} {r: List Int} {c: List (List Int)} {t: List Int} {cs: List (List (List Int))} (v: View p r c t) (h: Reads t cs): Reads (p :: r) (c :: cs)
theorem reads_of: ∀ {f: Nat} {l: List Int} {cs: List (List (List Int))},PyFlat.calls PyWqacct.shape f l = some cs -> Reads l cs
 | f,[],cs,h => by
  cases f <;> (simp [PyFlat.calls] at h; subst h; exact .nil)
 | 0,_ :: _,cs,h => by simp [PyFlat.calls] at h
 | f + 1,p :: r,cs,h => by
  unfold PyFlat.calls at h
  cases q: PyFlat.call PyWqacct.shape (p :: r) with
  | none => rw [q] at h; simp at h
  | some z =>
   obtain ⟨c,t⟩:=z
   rw [q] at h
   simp only at h
   cases q2: PyFlat.calls PyWqacct.shape f t with
   | none => rw [q2] at h; simp at h
   | some cs' =>
    rw [q2] at h
    simp at h
    subst h
    exact .cons (call_view q) (reads_of q2)
theorem View.whole {p: Int} {r: List Int} {c: List (List Int)} {t: List Int} (v: View p r c t): PyWqacct.whole c = c:=by
 cases v with
 | row hp _ _ => rcases hp with rfl | rfl <;> rfl
 | bare hp => rcases hp with rfl | rfl <;> rfl
 | one hp => rcases hp with rfl | rfl <;> rfl
 | two hp => rcases hp with rfl | rfl <;> rfl
theorem Reads.whole {l: List Int} {cs: List (List (List Int))} (h: Reads l cs): cs.map PyWqacct.whole = cs:=by
 induction h with
 | nil => rfl
 | cons v h ih => rw [List.map_cons,ih,v.whole]
theorem View.len {p: Int} {r: List Int} {c: List (List Int)} {t: List Int} (v: View p r c t): t.length <= r.length:=by
 cases v <;> simp <;> omega
theorem asked_calls {l: List Int} (h: PyWqacct.answers_asked l = true): ∃ cs,Reads l cs /\ cs.length <= 400 /\ cs ≠ [] /\ (∀ c ∈ cs,TideDatumsNeutral.asked1 c = true) /\
  PyWqacct.answers l = PyFlat.told (PyFlat.played TideDatumsNeutral.step TideDatumsNeutral.start cs):=by
 unfold PyWqacct.answers_asked at h
 cases q: PyWqacct.calls l with
 | none => rw [q] at h; cases h
 | some cs =>
  rw [q] at h
  have q':=q
  unfold PyWqacct.calls at q'
  cases z: PyFlat.calls PyWqacct.shape l.length l with
  | none => rw [z] at q'; cases q'
  | some cs' =>
   rw [z] at q'
   have R:=reads_of z
   have e:=Option.some.inj q'
   rw [R.whole] at e
   subst e
   simp only [Bool.and_eq_true,PyFlat.atMost,decide_eq_true_eq,TideDatumsNeutral.asked,Bool.not_eq_true',List.all_eq_true] at h
   refine ⟨cs',R,h.1,?_,h.2.2,?_⟩
   ·intro n
    rw [n] at h
    simp at h
   ·unfold PyWqacct.answers; rw [q]
def bytesOf (t: List Int): Bytes:=t.map fun (n: Int) => UInt8.ofNat n.toNat
theorem codes_bytes {t: List Int} (h: ∀ z ∈ t,0 <= z /\ z <= 255): codes (bytesOf t) = t:=by
 unfold codes bytesOf
 rw [List.map_map]
 induction t with
 | nil => rfl
 | cons z t ih =>
  rw [List.map_cons,ih fun x hx => h x (List.mem_cons_of_mem _ hx)]
  have:=h z List.mem_cons_self
  simp only [Function.comp]
  congr 1
  simp
  omega
theorem all_bytes {t: List Int} (h: t.all (fun (z: Int) => decide (0 <= z) && decide (z <= 255)) = true): ∀ z ∈ t,0 <= z /\ z <= 255:=by
 intro z hz
 have:=List.all_eq_true.mp h z hz
 simpa using this
theorem text_bytes {t: List Int} (h: t.all (fun (z: Int) => decide (0 <= z) && decide (z <= 255)) = true): text? t = some (bytesOf t):=by
 unfold text?
 rw [if_pos]
 ·rfl
 ·exact h
section
variable {s: TideDatumsNeutral.State}
theorem st_book {t: List Int} (h: TideDatumsNeutral.asked1 [[0],t] = true): TideDatumsNeutral.step s [[0],t] = ((TideDatums.step s (.book (bytesOf t))).1,(TideDatums.step s (.book (bytesOf t))).2.nums) /\ ∀ z ∈ t,0 <= z /\ z <= 255:=by
 refine ⟨?_,all_bytes h⟩
 unfold TideDatumsNeutral.step TideDatumsNeutral.callOf
 simp only [text_bytes h,Option.map_some]
theorem st_find {t: List Int} (h: TideDatumsNeutral.asked1 [[4],t] = true): TideDatumsNeutral.step s [[4],t] = ((TideDatums.step s (.find (bytesOf t))).1,(TideDatums.step s (.find (bytesOf t))).2.nums) /\ ∀ z ∈ t,0 <= z /\ z <= 255:=by
 refine ⟨?_,all_bytes h⟩
 unfold TideDatumsNeutral.step TideDatumsNeutral.callOf
 simp only [text_bytes h,Option.map_some]
theorem st_print: TideDatumsNeutral.step s [[1]] = ((TideDatums.step s .print).1,(TideDatums.step s .print).2.nums):=rfl
theorem st_size: TideDatumsNeutral.step s [[2]] = ((TideDatums.step s .size).1,(TideDatums.step s .size).2.nums):=rfl
theorem nat_of {i: Int} (h: 0 <= i): nat? i = some i.toNat:=by unfold nat?; rw [if_pos h]
theorem st_name {i: Int} (h: TideDatumsNeutral.asked1 [[3,i]] = true): TideDatumsNeutral.step s [[3,i]] = ((TideDatums.step s (.name i.toNat)).1,(TideDatums.step s (.name i.toNat)).2.nums) /\ 0 <= i:=by
 have h: 0 <= i:=of_decide_eq_true h
 refine ⟨?_,h⟩
 unfold TideDatumsNeutral.step TideDatumsNeutral.callOf
 simp only [nat_of h,Option.map_some]
theorem st_ends {i: Int} (h: TideDatumsNeutral.asked1 [[7,i]] = true): TideDatumsNeutral.step s [[7,i]] = ((TideDatums.step s (.ends i.toNat)).1,(TideDatums.step s (.ends i.toNat)).2.nums) /\ 0 <= i:=by
 have h: 0 <= i:=of_decide_eq_true h
 refine ⟨?_,h⟩
 unfold TideDatumsNeutral.step TideDatumsNeutral.callOf
 simp only [nat_of h,Option.map_some]
theorem st_over {i j: Int} (h: TideDatumsNeutral.asked1 [[5,i,j]] = true): TideDatumsNeutral.step s [[5,i,j]] = ((TideDatums.step s (.over i.toNat j.toNat)).1,(TideDatums.step s (.over i.toNat j.toNat)).2.nums) /\ 0 <= i /\ 0 <= j:=by
 have h: 0 <= i /\ 0 <= j:=by simpa [TideDatumsNeutral.asked1] using h
 refine ⟨?_,h⟩
 unfold TideDatumsNeutral.step TideDatumsNeutral.callOf
 simp only [nat_of h.1,nat_of h.2]
 rfl
theorem st_way {i j: Int} (h: TideDatumsNeutral.asked1 [[6,i,j]] = true): TideDatumsNeutral.step s [[6,i,j]] = ((TideDatums.step s (.way i.toNat j.toNat)).1,(TideDatums.step s (.way i.toNat j.toNat)).2.nums) /\ 0 <= i /\ 0 <= j:=by
 have h: 0 <= i /\ 0 <= j:=by simpa [TideDatumsNeutral.asked1] using h
 refine ⟨?_,h⟩
 unfold TideDatumsNeutral.step TideDatumsNeutral.callOf
 simp only [nat_of h.1,nat_of h.2]
 rfl
end
end Mh
end
section
namespace Mh
open Tide
def heightIn (c: Cur): Except Nat (Int × Cur):=do
 let neg:=nextIs (fun (x: UInt8) => x == 45) c
 let (h,c) <- pointed 4 4 (if neg = true then c.on else c)
 return (if neg = true then -(h: Int) else (h: Int),c)
theorem heightIn_ok {c c': Cur} {h: Int} (e: heightIn c = .ok (h,c')): ∃ hs,Took c hs c' /\ heightI (codes hs) = h /\ (printedN h).length <= hs.length:=by
 unfold heightIn at e
 obtain ⟨⟨v,c1⟩,h1,e⟩:=bind_ok e
 cases e
 obtain ⟨d,dot,f,P,t,rfl⟩:=pointed_parts h1
 by_cases q: nextIs (fun x => x == 45) c = true
 ·simp only [q,if_true] at t h1 ⊢
  have P': Parts true d dot f:=⟨P.dd,P.df,P.d1,P.d4,P.f4,P.f0⟩
  refine ⟨signsOf true d dot f,?_,heightI_eq P',printed_short P'⟩
  unfold nextIs at q
  cases z: c.next with
  | none => rw [z] at q; cases q
  | some y =>
   rw [z] at q
   have: y = 45:=by simpa using q
   subst this
   exact (Took.on z).trans t
 ·simp only [q] at t h1 ⊢
  exact ⟨signsOf false d dot f,t,heightI_eq P,printed_short P⟩
theorem levelIn_eq (c: Cur): levelIn c = if c.next = some 109 then (do
  let c <- lit (ascii "mark ") c
  let (n,c1) <- longName c
  let c2 <- lit [LF] c1
  return (.mark n c.at_,c2)) else if c.next = some 111 then (do
  let c <- lit (ascii "over ") c
  let (a,c1) <- longName c
  let c2 <- blank c1
  let (b,c3) <- longName c2
  let c4 <- blank c3
  let (h,c5) <- heightIn c4
  let c6 <- lit [LF] c5
  return (.over a b h c.at_ c2.at_ c4.at_,c6)) else .error c.at_:=by
 unfold levelIn
 split
 ·rfl
 ·split
  ·refine congrArg (fun f => lit (ascii "over ") c >>= f) (funext fun c0 => ?_)
   refine congrArg (fun f => longName c0 >>= f) (funext fun ⟨a,c1⟩ => ?_)
   refine congrArg (fun f => blank c1 >>= f) (funext fun c2 => ?_)
   refine congrArg (fun f => longName c2 >>= f) (funext fun ⟨b,c3⟩ => ?_)
   refine congrArg (fun f => blank c3 >>= f) (funext fun c4 => ?_)
   simp only [heightIn]
   cases pointed 4 4 (if nextIs (fun x => x == 45) c4 = true then c4.on else c4) with
   | error e => rfl
   | ok z => rfl
  ·rfl
theorem print_mark (n: Bytes) (p: Nat): codes (printLevel (.mark n p)) = [109,97,114,107,32] ++ (codes n ++ [10]):=by
 unfold printLevel
 rw [codes_append,codes_append,ascii_mark]; rfl
theorem codes_printed (h: Int): codes ((if h < 0 then [45] else []) ++ printPointed 4 h.natAbs) = (printedN h).map fun (c: Nat) => (c: Int):=by
 have lt: ∀ c ∈ printedN h,c < 256:=by
  intro c hc
  unfold printedN at hc
  have sh: ∀ (l: List Nat),(∀ x ∈ l,x < 256) -> ∀ x ∈ shornN l,x < 256:=by
   intro l hl x hx
   unfold shornN at hx
   exact hl x (List.mem_reverse.mp ((List.dropWhile_suffix _).subset (List.mem_reverse.mp hx)))
  rcases List.mem_append.mp hc with q | q
  ·split at q
   ·have: c = 45:=by simpa using q
    omega
   ·cases q
  ·rcases List.mem_append.mp q with q | q
   ·have:=numN_digit _ c q; omega
   ·simp only at q
    split at q
    ·cases q
    ·rcases List.mem_cons.mp q with e | e
     ·omega
     ·refine sh _ (fun x hx => ?_) c e
      rcases List.mem_append.mp hx with z | z
      ·have:=(List.mem_replicate.mp z).2; omega
      ·have:=numN_digit _ x z; omega
 have e: (if h < 0 then [45] else []) ++ printPointed 4 h.natAbs = (printedN h).map UInt8.ofNat:=by
  rw [printPointed_eq]
  unfold printedN
  by_cases q: h < 0
  ·simp only [q,if_true,List.map_append,List.map_cons,List.map_nil]
   rfl
  ·simp only [q,if_false,List.map_append,List.map_nil]
 rw [e]
 unfold codes
 rw [List.map_map]
 refine List.map_congr_left fun c hc => ?_
 have:=lt c hc
 simp only [Function.comp]
 simp
 omega
theorem print_over (a b: Bytes) (h: Int) (p q r: Nat): codes (printLevel (.over a b h p q r)) = [111,118,101,114,32] ++ (codes a ++ ([32] ++ (codes b ++ ([32] ++ ((printedN h).map (fun (c: Nat) => (c: Int)) ++ [10]))))):=by
 unfold printLevel
 have e: ∀ x: Bytes,codes (32 :: x) = [32] ++ codes x:=fun x => rfl
 rw [codes_append,codes_append,e,codes_append,e,<- List.append_assoc (if h < 0 then [45] else []),codes_append,codes_printed,ascii_over]
 rfl
theorem levelIn_short {c c': Cur} {x: Level} (h: levelIn c = .ok (x,c')): c.at_ + (printLevel x).length <= c'.at_:=by
 rw [levelIn_eq] at h
 split at h
 ·obtain ⟨c1,h1,h⟩:=bind_ok h
  obtain ⟨⟨n,c2⟩,h2,h⟩:=bind_ok h
  obtain ⟨c3,h3,h⟩:=bind_ok h
  cases h
  have a1:=(lit_ok h1).at_
  have a2:=(longName_ok h2).1.at_
  have a3:=(lit_ok h3).at_
  rw [<- codes_length,print_mark]
  rw [ascii_mark] at a1
  simp only [List.length_append,List.length_cons,List.length_nil,codes_length] at a1 a3 ⊢
  omega
 ·split at h
  ·obtain ⟨c1,h1,h⟩:=bind_ok h
   obtain ⟨⟨a,c2⟩,h2,h⟩:=bind_ok h
   obtain ⟨c3,h3,h⟩:=bind_ok h
   obtain ⟨⟨b,c4⟩,h4,h⟩:=bind_ok h
   obtain ⟨c5,h5,h⟩:=bind_ok h
   obtain ⟨⟨hh,c6⟩,h6,h⟩:=bind_ok h
   obtain ⟨c7,h7,h⟩:=bind_ok h
   cases h
   have a1:=(lit_ok h1).at_
   have a2:=(longName_ok h2).1.at_
   have a3:=(lit_ok h3).at_
   have a4:=(longName_ok h4).1.at_
   have a5:=(lit_ok h5).at_
   obtain ⟨hs,t6,_,le⟩:=heightIn_ok h6
   have a6:=t6.at_
   have a7:=(lit_ok h7).at_
   rw [<- codes_length,print_over]
   rw [ascii_over] at a1
   simp only [List.length_append,List.length_cons,List.length_nil,codes_length,List.length_map] at a1 a3 a5 a7 ⊢
   omega
  ·cases h
theorem levelsIn_short: ∀ {f: Nat} {c: Cur} {l: List Level},levelsIn f c = .ok l -> (printedLevels l).length <= c.rest.length
 | 0,c,l,h => by cases h; simp [printedLevels]
 | f + 1,c,l,h => by
  unfold levelsIn at h
  by_cases e: c.rest = []
  ·rw [if_pos e] at h; cases h; simp [printedLevels]
  ·rw [if_neg e] at h
   obtain ⟨⟨x,c1⟩,h1,h⟩:=bind_ok h
   obtain ⟨r,h2,h⟩:=bind_ok h
   cases h
   have a:=levelIn_short h1
   obtain ⟨s,t,_⟩:=(levelIn_ok h1).1
   have b:=levelsIn_short h2
   have e1:=t.at_
   have e2:=congrArg List.length t.rest
   rw [List.length_append] at e2
   unfold printedLevels at b ⊢
   rw [List.flatMap_cons,List.length_append]
   omega
theorem printed_le {b: Bytes} {l: List Level} (h: levelGrammar b = .ok l): (printedLevels l).length <= b.length:=levelsIn_short h
theorem Took.cur {b: Bytes} {k: Nat} {s: Bytes} {c: Cur} (t: Took ⟨b.drop k,k⟩ s c): c = ⟨b.drop c.at_,c.at_⟩:=by
 obtain ⟨r,a⟩:=c
 have h1: b.drop k = s ++ r:=t.rest
 have h2: a = k + s.length:=t.at_
 congr 1
 rw [h2,<- List.drop_drop,h1]; simp
end Mh
end
section
namespace Mh
open Tide
def cur (b: Bytes) (k: Nat): Cur:=⟨b.drop k,k⟩
def sgn (b: Bytes) (k: Nat): Int:=match b[k]? with
 | some c => (c.toNat: Int)
 | none => -1
theorem cur_next (b: Bytes) (k: Nat): (cur b k).next = b[k]?:=by
 show (b.drop k).head? = _
 rw [List.head?_drop]
theorem cur_on (b: Bytes) (k: Nat): (cur b k).on = cur b (k + 1):=by
 show (⟨(b.drop k).drop 1,k + 1⟩: Cur) = ⟨b.drop (k + 1),k + 1⟩
 rw [List.drop_drop]
theorem lit_zero (b: Bytes) (k: Nat): lit [] (cur b k) = .ok (cur b k):=rfl
theorem lit_succ (b: Bytes) (k: Nat) (x: UInt8) (r: Bytes): lit (x :: r) (cur b k) = if b[k]? = some x then lit r (cur b (k + 1)) else .error k:=by
 show (if (cur b k).next = some x then lit r (cur b k).on else .error k) = _
 rw [cur_next,cur_on]
theorem sgn_eq {b: Bytes} {k: Nat} {x: UInt8}: b[k]? = some x ↔ sgn b k = (x.toNat: Int):=by
 unfold sgn
 cases h: b[k]? with
 | none =>
  constructor
  ·intro z; cases z
  ·intro z; have z: (-1: Int) = (x.toNat: Int):=z; omega
 | some c =>
  constructor
  ·intro z; cases z; rfl
  ·intro z
   have z: (c.toNat: Int) = (x.toNat: Int):=z
   have: c.toNat = x.toNat:=by omega
   rw [UInt8.toNat_inj.mp this]
theorem sgn_codes {b: Bytes} {k: Nat} (h: k < b.length): (codes b)[k]? = some (sgn b k):=by
 unfold codes sgn
 rw [List.getElem?_map,List.getElem?_eq_getElem h]; rfl
theorem sgn_end {b: Bytes} {k: Nat} (h: k = b.length): sgn b k = -1:=by
 unfold sgn
 rw [List.getElem?_eq_none (by omega)]
def runEnd (p: UInt8 -> Bool) (b: Bytes): Nat -> Nat -> Nat
 | 0,k => k
 | n + 1,k => match b[k]? with
  | some x => if p x = true then runEnd p b n (k + 1) else k
  | none => k
theorem runEnd_bounds (p: UInt8 -> Bool) (b: Bytes): ∀ (n k: Nat),k <= runEnd p b n k /\ runEnd p b n k <= k + n /\ (k <= b.length -> runEnd p b n k <= b.length)
 | 0,k => by simp [runEnd]
 | n + 1,k => by
  unfold runEnd
  cases h: b[k]? with
  | none => simp
  | some x =>
   have lt: k < b.length:=(List.getElem?_eq_some_iff.mp h).1
   simp only
   split
   ·have:=runEnd_bounds p b n (k + 1)
    omega
   ·simp
theorem some_run (p: UInt8 -> Bool) (b: Bytes): ∀ (n k: Nat),some_ p n (cur b k) = ((b.drop k).take (runEnd p b n k - k),cur b (runEnd p b n k))
 | 0,k => by simp [some_,runEnd]
 | n + 1,k => by
  unfold some_ runEnd
  rw [cur_next]
  cases h: b[k]? with
  | none => simp
  | some x =>
   simp only
   split
   ·rw [cur_on,some_run p b n (k + 1)]
    have lt: k < b.length:=(List.getElem?_eq_some_iff.mp h).1
    have e:=List.drop_eq_getElem_cons lt
    have ex: b[k] = x:=(List.getElem?_eq_some_iff.mp h).2
    have le:=(runEnd_bounds p b n (k + 1)).1
    rw [e,ex,show runEnd p b n (k + 1) - k = (runEnd p b n (k + 1) - (k + 1)) + 1 by omega,List.take_succ_cons]
   ·simp
def isLD (x: UInt8): Bool:=isLetter x || isDigit x
def piece (b: Bytes) (k e: Nat): Bytes:=(b.drop k).take (e - k)
theorem longName_cur (b: Bytes) (k: Nat): longName (cur b k) = if nextIs isLetter (cur b k) = true then .ok (piece b k (runEnd isLD b 16 k),cur b (runEnd isLD b 16 k)) else .error k:=by
 unfold longName
 have: (fun x => isLetter x || isDigit x) = isLD:=rfl
 rw [this,some_run]
 rfl
theorem someDigits_cur (b: Bytes) (n k: Nat): someDigits n (cur b k) = if nextIs isDigit (cur b k) = true then .ok (piece b k (runEnd isDigit b n k),cur b (runEnd isDigit b n k)) else .error k:=by
 unfold someDigits
 rw [some_run]
 rfl
def isLI (z: Int): Bool:=(decide (65 <= z) && decide (z <= 90)) || (decide (97 <= z) && decide (z <= 122))
def isDI (z: Int): Bool:=decide (48 <= z) && decide (z <= 57)
theorem isL_byte (x: UInt8): isLI (x.toNat: Int) = isLetter x:=by
 unfold isLI isLetter
 rw [Bool.eq_iff_iff]
 simp only [Bool.or_eq_true,Bool.and_eq_true,decide_eq_true_eq]
 omega
theorem isD_byte (x: UInt8): isDI (x.toNat: Int) = isDigit x:=by
 unfold isDI isDigit
 rw [Bool.eq_iff_iff]
 simp only [Bool.and_eq_true,decide_eq_true_eq]
 omega
theorem nextIs_cur (p: UInt8 -> Bool) (q: Int -> Bool) (h: ∀ x: UInt8,q (x.toNat: Int) = p x) (h0: q (-1) = false) (b: Bytes) (k: Nat): nextIs p (cur b k) = q (sgn b k):=by
 unfold nextIs sgn
 rw [cur_next]
 cases b[k]? with
 | none => exact h0.symm
 | some x => exact (h x).symm
theorem next_letter (b: Bytes) (k: Nat): nextIs isLetter (cur b k) = isLI (sgn b k):=nextIs_cur _ _ isL_byte (by decide) b k
theorem next_digit (b: Bytes) (k: Nat): nextIs isDigit (cur b k) = isDI (sgn b k):=nextIs_cur _ _ isD_byte (by decide) b k
theorem runEnd_go {p: UInt8 -> Bool} {q: Int -> Bool} (h: ∀ x: UInt8,q (x.toNat: Int) = p x) {b: Bytes} {n k: Nat} (hq: q (sgn b k) = true) (h0: q (-1) = false): runEnd p b (n + 1) k = runEnd p b n (k + 1):=by
 unfold sgn at hq
 cases e: b[k]? with
 | none => rw [e] at hq; simp only at hq; rw [h0] at hq; cases hq
 | some x =>
  rw [e] at hq
  simp only at hq
  rw [h] at hq
  conv => lhs; unfold runEnd
  rw [e]; simp only [hq,if_true]
theorem runEnd_stop {p: UInt8 -> Bool} {q: Int -> Bool} (h: ∀ x: UInt8,q (x.toNat: Int) = p x) {b: Bytes} {n k: Nat} (hq: q (sgn b k) = false): runEnd p b n k = k:=by
 cases n with
 | zero => rfl
 | succ n =>
  unfold sgn at hq
  unfold runEnd
  cases e: b[k]? with
  | none => rfl
  | some x =>
   rw [e] at hq
   simp only at hq
   rw [h] at hq
   simp [hq]
def isLDI (z: Int): Bool:=isLI z || isDI z
theorem isLD_byte (x: UInt8): isLDI (x.toNat: Int) = isLD x:=by unfold isLDI isLD; rw [isL_byte,isD_byte]
end Mh
end
section
namespace Mh
open Tide
def heightEnd (b: Bytes) (k: Nat): Except Nat Nat :=
 let d:=if sgn b k = 45 then k + 1 else k
 if isDI (sgn b d) = true then
  let e:=runEnd isDigit b 4 d
  if sgn b e = 46 then (if isDI (sgn b (e + 1)) = true then .ok (runEnd isDigit b 4 (e + 1)) else .error (e + 1)) else .ok e
 else .error d
theorem next_is (n: Nat) (hn: n < 256) (b: Bytes) (k: Nat): nextIs (fun (x: UInt8) => x == UInt8.ofNat n) (cur b k) = decide (sgn b k = (n: Int)):=by
 refine nextIs_cur _ (fun z => decide (z = (n: Int))) (fun x => ?_) ?_ b k
 ·have e: (UInt8.ofNat n).toNat = n:=by simp; omega
  by_cases q: x = UInt8.ofNat n
  ·subst q; simp; omega
  ·have: ¬ ((x.toNat: Int) = (n: Int)):=fun z => q (UInt8.toNat_inj.mp (by omega))
   rw [decide_eq_false this,beq_eq_false_iff_ne.mpr q]
 ·exact decide_eq_false (by omega)
theorem pointed_cur (b: Bytes) (d: Nat): (∀ p: Nat,isDI (sgn b d) = false -> pointed 4 4 (cur b d) = .error d) /\
  (isDI (sgn b d) = true -> sgn b (runEnd isDigit b 4 d) ≠ 46 -> ∃ h,pointed 4 4 (cur b d) = .ok (h,cur b (runEnd isDigit b 4 d))) /\
  (isDI (sgn b d) = true -> sgn b (runEnd isDigit b 4 d) = 46 -> isDI (sgn b (runEnd isDigit b 4 d + 1)) = false -> pointed 4 4 (cur b d) = .error (runEnd isDigit b 4 d + 1)) /\
  (isDI (sgn b d) = true -> sgn b (runEnd isDigit b 4 d) = 46 -> isDI (sgn b (runEnd isDigit b 4 d + 1)) = true -> ∃ h,pointed 4 4 (cur b d) = .ok (h,cur b (runEnd isDigit b 4 (runEnd isDigit b 4 d + 1)))):=by
 have sd:=someDigits_cur b 4 d
 rw [next_digit] at sd
 have n46:=next_is 46 (by decide) b (runEnd isDigit b 4 d)
 have e46: (fun (x: UInt8) => x == UInt8.ofNat 46) = fun x => x == 46:=rfl
 rw [e46] at n46
 have sd2:=someDigits_cur b 4 (runEnd isDigit b 4 d + 1)
 rw [next_digit] at sd2
 unfold pointed
 refine ⟨fun p h => ?_,fun h h2 => ?_,fun h h2 h3 => ?_,fun h h2 h3 => ?_⟩
 ·rw [sd,h]; rfl
 ·rw [sd,h]
  simp only [if_true]
  refine ⟨decimal (piece b d (runEnd isDigit b 4 d)) * 10 ^ 4 + decimal [] * 10 ^ (4 - ([]: Bytes).length),?_⟩
  show (do
   let (f,c) <- (if nextIs (fun (x: UInt8) => x == 46) (cur b (runEnd isDigit b 4 d)) = true then someDigits 4 (cur b (runEnd isDigit b 4 d)).on else .ok ([],cur b (runEnd isDigit b 4 d)))
   return (decimal (piece b d (runEnd isDigit b 4 d)) * 10 ^ 4 + decimal f * 10 ^ (4 - f.length),c)) = _
  rw [n46,decide_eq_false (by exact_mod_cast h2)]
  rfl
 ·rw [sd,h]
  simp only [if_true]
  show (do
   let (f,c) <- (if nextIs (fun (x: UInt8) => x == 46) (cur b (runEnd isDigit b 4 d)) = true then someDigits 4 (cur b (runEnd isDigit b 4 d)).on else .ok ([],cur b (runEnd isDigit b 4 d)))
   return (decimal (piece b d (runEnd isDigit b 4 d)) * 10 ^ 4 + decimal f * 10 ^ (4 - f.length),c)) = _
  rw [n46,decide_eq_true (by exact_mod_cast h2),if_pos rfl,cur_on,sd2,h3]
  rfl
 ·rw [sd,h]
  simp only [if_true]
  refine ⟨decimal (piece b d (runEnd isDigit b 4 d)) * 10 ^ 4 + decimal (piece b (runEnd isDigit b 4 d + 1) (runEnd isDigit b 4 (runEnd isDigit b 4 d + 1))) * 10 ^ (4 - (piece b (runEnd isDigit b 4 d + 1) (runEnd isDigit b 4 (runEnd isDigit b 4 d + 1))).length),?_⟩
  show (do
   let (f,c) <- (if nextIs (fun (x: UInt8) => x == 46) (cur b (runEnd isDigit b 4 d)) = true then someDigits 4 (cur b (runEnd isDigit b 4 d)).on else .ok ([],cur b (runEnd isDigit b 4 d)))
   return (decimal (piece b d (runEnd isDigit b 4 d)) * 10 ^ 4 + decimal f * 10 ^ (4 - f.length),c)) = _
  rw [n46,decide_eq_true (by exact_mod_cast h2),if_pos rfl,cur_on,sd2,h3]
  rfl
theorem heightIn_cur (b: Bytes) (k: Nat): (∀ p,heightEnd b k = .error p -> heightIn (cur b k) = .error p) /\ (∀ j,heightEnd b k = .ok j -> ∃ h,heightIn (cur b k) = .ok (h,cur b j)):=by
 have n45:=next_is 45 (by decide) b k
 have e45: (fun (x: UInt8) => x == UInt8.ofNat 45) = fun x => x == 45:=rfl
 rw [e45] at n45
 have key: ∀ d,d = (if sgn b k = 45 then k + 1 else k) -> (if nextIs (fun (x: UInt8) => x == 45) (cur b k) = true then (cur b k).on else cur b k) = cur b d:=by
  intro d hd
  rw [n45]
  by_cases q: sgn b k = 45
  ·rw [if_pos q] at hd
   rw [decide_eq_true (by exact_mod_cast q),if_pos rfl,cur_on,hd]
  ·rw [if_neg q] at hd
   rw [decide_eq_false (by exact_mod_cast q),if_neg (by decide),hd]
 generalize hd: (if sgn b k = 45 then k + 1 else k) = d at *
 have kd:=key d rfl
 obtain ⟨p1,p2,p3,p4⟩:=pointed_cur b d
 have he: heightEnd b k = if isDI (sgn b d) = true then (if sgn b (runEnd isDigit b 4 d) = 46 then (if isDI (sgn b (runEnd isDigit b 4 d + 1)) = true then .ok (runEnd isDigit b 4 (runEnd isDigit b 4 d + 1)) else .error (runEnd isDigit b 4 d + 1)) else .ok (runEnd isDigit b 4 d)) else .error d:=by
  unfold heightEnd
  rw [hd]
 have hi: heightIn (cur b k) = (pointed 4 4 (cur b d) >>= fun z => Except.ok (if nextIs (fun (x: UInt8) => x == 45) (cur b k) = true then -(z.1: Int) else (z.1: Int),z.2)):=by
  unfold heightIn
  rw [<- kd]
  rfl
 rw [he,hi]
 by_cases q1: isDI (sgn b d) = true
 ·rw [if_pos q1]
  by_cases q2: sgn b (runEnd isDigit b 4 d) = 46
  ·rw [if_pos q2]
   by_cases q3: isDI (sgn b (runEnd isDigit b 4 d + 1)) = true
   ·rw [if_pos q3]
    obtain ⟨h,e⟩:=p4 q1 q2 q3
    exact ⟨(fun p z => by cases z),(fun j z => by cases z; rw [e]; exact ⟨_,rfl⟩)⟩
   ·rw [if_neg q3]
    have e:=p3 q1 q2 (by simpa using q3)
    exact ⟨(fun p z => by cases z; rw [e]; rfl),(fun j z => by cases z)⟩
  ·rw [if_neg q2]
   obtain ⟨h,e⟩:=p2 q1 q2
   exact ⟨(fun p z => by cases z),(fun j z => by cases z; rw [e]; exact ⟨_,rfl⟩)⟩
 ·rw [if_neg q1]
  have e:=p1 0 (by simpa using q1)
  exact ⟨(fun p z => by cases z; rw [e]; rfl),(fun j z => by cases z)⟩
theorem took_piece {b s: Bytes} {k j: Nat} (t: Took (cur b k) s (cur b j)): s = piece b k j /\ j = k + s.length:=by
 have h1: b.drop k = s ++ b.drop j:=t.rest
 have h2: j = k + s.length:=t.at_
 refine ⟨?_,h2⟩
 unfold piece
 rw [h1,show j - k = s.length by omega]; simp
end Mh
end
section
namespace Mh
open Tide
def markIn (c: Cur): Except Nat (Level × Cur):=do
 let c <- lit (ascii "mark ") c
 let (n,c1) <- longName c
 let c2 <- lit [LF] c1
 return (.mark n c.at_,c2)
def overIn (c: Cur): Except Nat (Level × Cur):=do
 let c <- lit (ascii "over ") c
 let (a,c1) <- longName c
 let c2 <- blank c1
 let (b,c3) <- longName c2
 let c4 <- blank c3
 let (h,c5) <- heightIn c4
 let c6 <- lit [LF] c5
 return (.over a b h c.at_ c2.at_ c4.at_,c6)
theorem levelIn_cur (b: Bytes) (k: Nat): levelIn (cur b k) = if sgn b k = 109 then markIn (cur b k) else overIn (cur b k):=by
 rw [levelIn_eq,cur_next]
 by_cases h: sgn b k = 109
 ·rw [if_pos h,if_pos (sgn_eq.mpr (by rw [h]; rfl))]; rfl
 ·rw [if_neg h,if_neg (fun z => h (by rw [sgn_eq.mp z]; rfl))]
  by_cases h2: b[k]? = some 111
  ·rw [if_pos h2]; rfl
  ·rw [if_neg h2]
   unfold overIn
   rw [ascii_over,lit_succ,if_neg h2]; rfl
theorem markIn_ok {b: Bytes} {k j1 j2 j3: Nat} {n: Bytes} (e1: lit (ascii "mark ") (cur b k) = .ok (cur b j1)) (e2: longName (cur b j1) = .ok (n,cur b j2)) (e3: lit [LF] (cur b j2) = .ok (cur b j3)) :
  markIn (cur b k) = .ok (.mark n j1,cur b j3):=by
 unfold markIn
 rw [e1]
 show (longName (cur b j1) >>= fun z => lit [LF] z.2 >>= fun c2 => Except.ok (Level.mark z.1 j1,c2)) = _
 rw [e2]
 show (lit [LF] (cur b j2) >>= fun c2 => Except.ok (Level.mark n j1,c2)) = _
 rw [e3]; rfl
theorem markIn_e1 {b: Bytes} {k p: Nat} (e1: lit (ascii "mark ") (cur b k) = .error p): markIn (cur b k) = .error p:=by unfold markIn; rw [e1]; rfl
theorem markIn_e2 {b: Bytes} {k j1 p: Nat} (e1: lit (ascii "mark ") (cur b k) = .ok (cur b j1)) (e2: longName (cur b j1) = .error p): markIn (cur b k) = .error p:=by
 unfold markIn
 rw [e1]
 show (longName (cur b j1) >>= fun z => lit [LF] z.2 >>= fun c2 => Except.ok (Level.mark z.1 j1,c2)) = _
 rw [e2]; rfl
theorem markIn_e3 {b: Bytes} {k j1 j2 p: Nat} {n: Bytes} (e1: lit (ascii "mark ") (cur b k) = .ok (cur b j1)) (e2: longName (cur b j1) = .ok (n,cur b j2)) (e3: lit [LF] (cur b j2) = .error p): markIn (cur b k) = .error p:=by
 unfold markIn
 rw [e1]
 show (longName (cur b j1) >>= fun z => lit [LF] z.2 >>= fun c2 => Except.ok (Level.mark z.1 j1,c2)) = _
 rw [e2]
 show (lit [LF] (cur b j2) >>= fun c2 => Except.ok (Level.mark n j1,c2)) = _
 rw [e3]; rfl
section
variable {b: Bytes} {k j1 j2 j3 j4 j5 j6 j7 p: Nat} {a n: Bytes} {h: Int}
theorem over_1 (e1: lit (ascii "over ") (cur b k) = .ok (cur b j1)): overIn (cur b k) = (do
  let (a,c1) <- longName (cur b j1)
  let c2 <- blank c1
  let (b,c3) <- longName c2
  let c4 <- blank c3
  let (h,c5) <- heightIn c4
  let c6 <- lit [LF] c5
  return (.over a b h j1 c2.at_ c4.at_,c6)):=by unfold overIn; rw [e1]; rfl
theorem over_2 (e1: lit (ascii "over ") (cur b k) = .ok (cur b j1)) (e2: longName (cur b j1) = .ok (a,cur b j2)): overIn (cur b k) = (do
  let c2 <- blank (cur b j2)
  let (b,c3) <- longName c2
  let c4 <- blank c3
  let (h,c5) <- heightIn c4
  let c6 <- lit [LF] c5
  return (.over a b h j1 c2.at_ c4.at_,c6)):=by rw [over_1 e1,e2]; rfl
theorem over_3 (e1: lit (ascii "over ") (cur b k) = .ok (cur b j1)) (e2: longName (cur b j1) = .ok (a,cur b j2)) (e3: lit [32] (cur b j2) = .ok (cur b j3)): overIn (cur b k) = (do
  let (b,c3) <- longName (cur b j3)
  let c4 <- blank c3
  let (h,c5) <- heightIn c4
  let c6 <- lit [LF] c5
  return (.over a b h j1 j3 c4.at_,c6)):=by rw [over_2 e1 e2]; unfold blank; rw [e3]; rfl
theorem over_4 (e1: lit (ascii "over ") (cur b k) = .ok (cur b j1)) (e2: longName (cur b j1) = .ok (a,cur b j2)) (e3: lit [32] (cur b j2) = .ok (cur b j3)) (e4: longName (cur b j3) = .ok (n,cur b j4)): overIn (cur b k) = (do
  let c4 <- blank (cur b j4)
  let (h,c5) <- heightIn c4
  let c6 <- lit [LF] c5
  return (.over a n h j1 j3 c4.at_,c6)):=by rw [over_3 e1 e2 e3,e4]; rfl
theorem over_5 (e1: lit (ascii "over ") (cur b k) = .ok (cur b j1)) (e2: longName (cur b j1) = .ok (a,cur b j2)) (e3: lit [32] (cur b j2) = .ok (cur b j3)) (e4: longName (cur b j3) = .ok (n,cur b j4)) (e5: lit [32] (cur b j4) = .ok (cur b j5)): overIn (cur b k) = (do
  let (h,c5) <- heightIn (cur b j5)
  let c6 <- lit [LF] c5
  return (.over a n h j1 j3 j5,c6)):=by rw [over_4 e1 e2 e3 e4]; unfold blank; rw [e5]; rfl
theorem over_6 (e1: lit (ascii "over ") (cur b k) = .ok (cur b j1)) (e2: longName (cur b j1) = .ok (a,cur b j2)) (e3: lit [32] (cur b j2) = .ok (cur b j3)) (e4: longName (cur b j3) = .ok (n,cur b j4)) (e5: lit [32] (cur b j4) = .ok (cur b j5)) (e6: heightIn (cur b j5) = .ok (h,cur b j6)): overIn (cur b k) = (do
  let c6 <- lit [LF] (cur b j6)
  return (.over a n h j1 j3 j5,c6)):=by rw [over_5 e1 e2 e3 e4 e5,e6]; rfl
end
theorem except_bind_error {α β: Type} {m: Except Nat α} {f: α -> Except Nat β} {p: Nat} (h: m = .error p): (m >>= f) = .error p:=by rw [h]; rfl
def linesFrom (b: Bytes) (k: Nat): Except Nat (List Level):=levelsIn (b.length + 1 - k) (cur b k)
theorem levelIn_on {b: Bytes} {k: Nat} {x: Level} {c: Cur} (h: levelIn (cur b k) = .ok (x,c)): c = cur b c.at_ /\ k < c.at_ /\ c.at_ <= b.length:=by
 obtain ⟨⟨s,t,l⟩,_⟩:=levelIn_ok h
 have e:=t.cur
 have a:=t.at_
 have r:=congrArg List.length t.rest
 simp only [cur,List.length_append,List.length_drop] at a r
 refine ⟨e,by omega,?_⟩
 have: c.at_ = k + s.length:=a
 omega
theorem levelsIn_fuel (b: Bytes): ∀ (n k f: Nat),b.length - k <= n -> k <= b.length -> b.length + 1 - k <= f -> levelsIn f (cur b k) = linesFrom b k:=by
 intro n
 induction n with
 | zero =>
  intro k f hn hk hf
  have e: k = b.length:=by omega
  subst e
  unfold linesFrom
  have r: (cur b b.length).rest = []:=by simp [cur]
  obtain ⟨f',rfl⟩: ∃ f',f = f' + 1:=⟨f - 1,by omega⟩
  rw [show b.length + 1 - b.length = 0 + 1 by omega]
  unfold levelsIn
  rw [if_pos r,if_pos r]
 | succ n ih =>
  intro k f hn hk hf
  by_cases e: k = b.length
  ·exact ih k f (by omega) hk hf
  ·unfold linesFrom
   obtain ⟨f',rfl⟩: ∃ f',f = f' + 1:=⟨f - 1,by omega⟩
   rw [show b.length + 1 - k = (b.length - k) + 1 by omega]
   have r: ¬ (cur b k).rest = []:=by
    intro z
    have:=congrArg List.length z
    simp [cur] at this
    omega
   unfold levelsIn
   rw [if_neg r,if_neg r]
   cases q: levelIn (cur b k) with
   | error p => rfl
   | ok z =>
    obtain ⟨x,c⟩:=z
    obtain ⟨e1,e2,e3⟩:=levelIn_on q
    show (levelsIn f' c >>= _) = (levelsIn (b.length - k) c >>= _)
    rw [e1,ih c.at_ f' (by omega) e3 (by omega),ih c.at_ (b.length - k) (by omega) e3 (by omega)]
theorem grammar_from (b: Bytes): levelGrammar b = linesFrom b 0:=rfl
theorem linesFrom_end (b: Bytes): linesFrom b b.length = .ok []:=by
 unfold linesFrom
 rw [show b.length + 1 - b.length = 0 + 1 by omega]
 unfold levelsIn
 rw [if_pos (by simp [cur])]
theorem linesFrom_bad {b: Bytes} {k p: Nat} (hk: k < b.length) (h: levelIn (cur b k) = .error p): linesFrom b k = .error p:=by
 unfold linesFrom
 rw [show b.length + 1 - k = (b.length - k) + 1 by omega]
 unfold levelsIn
 rw [if_neg (by intro z; have:=congrArg List.length z; simp [cur] at this; omega),h]; rfl
theorem linesFrom_step {b: Bytes} {k j: Nat} {x: Level} (hk: k < b.length) (h: levelIn (cur b k) = .ok (x,cur b j)): linesFrom b k = (linesFrom b j >>= fun r => .ok (x :: r)):=by
 obtain ⟨_,e2,e3⟩:=levelIn_on h
 have e2: k < j:=e2
 have e3: j <= b.length:=e3
 conv => lhs; unfold linesFrom
 rw [show b.length + 1 - k = (b.length - k) + 1 by omega]
 unfold levelsIn
 rw [if_neg (by intro z; have:=congrArg List.length z; simp [cur] at this; omega),h]
 show (levelsIn (b.length - k) (cur b j) >>= _) = _
 rw [levelsIn_fuel b _ j _ (Nat.le_refl _) e3 (by omega)]; rfl
end Mh
end
section
namespace Mh
open Tide
def HSigns (hs: Bytes) (h: Int): Prop:=∃ neg d dot f,Parts neg d dot f /\ hs = signsOf neg d dot f /\ h = worth neg d f
theorem heightIn_signs {c c': Cur} {h: Int} (e: heightIn c = .ok (h,c')): ∃ hs,Took c hs c' /\ HSigns hs h:=by
 unfold heightIn at e
 obtain ⟨⟨v,c1⟩,h1,e⟩:=bind_ok e
 cases e
 obtain ⟨d,dot,f,P,t,rfl⟩:=pointed_parts h1
 by_cases q: nextIs (fun x => x == 45) c = true
 ·simp only [q,if_true] at t h1 ⊢
  have P': Parts true d dot f:=⟨P.dd,P.df,P.d1,P.d4,P.f4,P.f0⟩
  refine ⟨signsOf true d dot f,?_,true,d,dot,f,P',rfl,rfl⟩
  unfold nextIs at q
  cases z: c.next with
  | none => rw [z] at q; cases q
  | some y =>
   rw [z] at q
   have: y = 45:=by simpa using q
   subst this
   exact (Took.on z).trans t
 ·simp only [q] at t h1 ⊢
  exact ⟨signsOf false d dot f,t,false,d,dot,f,P,rfl,rfl⟩
theorem height_signs {b: Bytes} {k j: Nat} {h: Int} (e: heightIn (cur b k) = .ok (h,cur b j)): HSigns (piece b k j) h:=by
 obtain ⟨hs,t,g⟩:=heightIn_signs e
 rw [<- (took_piece t).1]; exact g
theorem HSigns.read {hs: Bytes} {h: Int} (g: HSigns hs h): heightI (codes hs) = h:=by
 obtain ⟨neg,d,dot,f,P,rfl,rfl⟩:=g
 exact heightI_eq P
section
variable {b: Bytes} {k j1 j2 j3 j4 j5 j6 j7 p: Nat} {a n: Bytes} {h: Int}
theorem over_e1 (e1: lit (ascii "over ") (cur b k) = .error p): overIn (cur b k) = .error p:=by unfold overIn; rw [e1]; rfl
theorem over_e2 (e1: lit (ascii "over ") (cur b k) = .ok (cur b j1)) (e2: longName (cur b j1) = .error p): overIn (cur b k) = .error p:=by rw [over_1 e1]; exact except_bind_error e2
theorem over_e3 (e1: lit (ascii "over ") (cur b k) = .ok (cur b j1)) (e2: longName (cur b j1) = .ok (a,cur b j2)) (e3: lit [32] (cur b j2) = .error p): overIn (cur b k) = .error p:=by
 rw [over_2 e1 e2]; exact except_bind_error e3
theorem over_e4 (e1: lit (ascii "over ") (cur b k) = .ok (cur b j1)) (e2: longName (cur b j1) = .ok (a,cur b j2)) (e3: lit [32] (cur b j2) = .ok (cur b j3)) (e4: longName (cur b j3) = .error p): overIn (cur b k) = .error p:=by
 rw [over_3 e1 e2 e3]; exact except_bind_error e4
theorem over_e5 (e1: lit (ascii "over ") (cur b k) = .ok (cur b j1)) (e2: longName (cur b j1) = .ok (a,cur b j2)) (e3: lit [32] (cur b j2) = .ok (cur b j3)) (e4: longName (cur b j3) = .ok (n,cur b j4)) (e5: lit [32] (cur b j4) = .error p): overIn (cur b k) = .error p:=by
 rw [over_4 e1 e2 e3 e4]; exact except_bind_error e5
theorem over_e6 (e1: lit (ascii "over ") (cur b k) = .ok (cur b j1)) (e2: longName (cur b j1) = .ok (a,cur b j2)) (e3: lit [32] (cur b j2) = .ok (cur b j3)) (e4: longName (cur b j3) = .ok (n,cur b j4)) (e5: lit [32] (cur b j4) = .ok (cur b j5)) (e6: heightIn (cur b j5) = .error p): overIn (cur b k) = .error p:=by
 rw [over_5 e1 e2 e3 e4 e5]; exact except_bind_error e6
theorem over_e7 (e1: lit (ascii "over ") (cur b k) = .ok (cur b j1)) (e2: longName (cur b j1) = .ok (a,cur b j2)) (e3: lit [32] (cur b j2) = .ok (cur b j3)) (e4: longName (cur b j3) = .ok (n,cur b j4)) (e5: lit [32] (cur b j4) = .ok (cur b j5)) (e6: heightIn (cur b j5) = .ok (h,cur b j6)) (e7: lit [LF] (cur b j6) = .error p): overIn (cur b k) = .error p:=by
 rw [over_6 e1 e2 e3 e4 e5 e6]; exact except_bind_error e7
theorem over_ok (e1: lit (ascii "over ") (cur b k) = .ok (cur b j1)) (e2: longName (cur b j1) = .ok (a,cur b j2)) (e3: lit [32] (cur b j2) = .ok (cur b j3)) (e4: longName (cur b j3) = .ok (n,cur b j4)) (e5: lit [32] (cur b j4) = .ok (cur b j5)) (e6: heightIn (cur b j5) = .ok (h,cur b j6)) (e7: lit [LF] (cur b j6) = .ok (cur b j7)): overIn (cur b k) = .ok (.over a n h j1 j3 j5,cur b j7):=by
 rw [over_6 e1 e2 e3 e4 e5 e6,e7]; rfl
end
end Mh
end
section
namespace Mh
open Tide
theorem HSigns.len {hs: Bytes} {h: Int} (g: HSigns hs h): 1 <= hs.length /\ hs.length <= 10:=by
 obtain ⟨neg,d,dot,f,P,rfl,rfl⟩:=g
 have d1:=P.d1
 have d4:=P.d4
 have f4:=P.f4
 unfold signsOf
 cases neg <;> cases dot <;> simp <;> omega
theorem HSigns.bound {hs: Bytes} {h: Int} (g: HSigns hs h): h.natAbs < 100000000:=by
 obtain ⟨neg,d,dot,f,P,rfl,rfl⟩:=g
 have ln: ∀ b: Bytes,(nats b).length = b.length:=fun b => List.length_map _
 have nd:=dig_nats P.dd
 have nf:=dig_nats P.df
 have d4:=P.d4
 have f4:=P.f4
 have h1:=valN_lt d.length _ nd (ln d)
 have h2:=valN_lt f.length _ nf (ln f)
 rw [<- decimal_eq] at h1 h2
 have p1: (10 ^ d.length: Nat) <= 10 ^ 4:=Nat.pow_le_pow_right (by decide) d4
 have p2: decimal f * 10 ^ (4 - f.length) < 10 ^ f.length * 10 ^ (4 - f.length):=Nat.mul_lt_mul_of_pos_right h2 (Nat.pow_pos (by decide))
 rw [<- Nat.pow_add,show f.length + (4 - f.length) = 4 by omega] at p2
 have e4: (10 ^ 4: Nat) = 10000:=rfl
 rw [e4] at p1 p2
 have abs: (worth neg d f).natAbs = decimal d * 10000 + decimal f * 10 ^ (4 - f.length):=by
  unfold worth
  split
  ·rw [Int.natAbs_neg,Int.natAbs_natCast]
  ·rw [Int.natAbs_natCast]
 rw [abs]
 omega
theorem numberI_take {ns: List Int} {i: Nat} {z: Int} (h: ns[i]? = some z): numberI (ns.take (i + 1)) = numberI (ns.take i) * 10 + z - 48:=by
 unfold numberI
 rw [List.take_add_one,h,List.foldl_append]
 rfl
theorem take_drop_while {α: Type} (p: α -> Bool) (l: List α): l.take (l.length - (l.reverse.takeWhile p).length) = (l.reverse.dropWhile p).reverse:=by
 have h: l.reverse.takeWhile p ++ l.reverse.dropWhile p = l.reverse:=List.takeWhile_append_dropWhile
 have h2:=congrArg List.reverse h
 rw [List.reverse_append,List.reverse_reverse] at h2
 have h3:=congrArg List.length h
 rw [List.length_append,List.length_reverse] at h3
 conv => lhs; arg 2; rw [<- h2]
 have e: l.length - (l.reverse.takeWhile p).length = (l.reverse.dropWhile p).reverse.length:=by rw [List.length_reverse]; omega
 rw [e,List.take_left']
 rfl
theorem findIdx_any (ds: List Int): (ds.any fun c => c == 46) = true -> ∃ z,ds[ds.findIdx (fun c => c == 46)]? = some z /\ z = 46:=by
 intro h
 have lt: ds.findIdx (fun c => c == 46) < ds.length:=List.findIdx_lt_length.mpr (by simpa using h)
 exact ⟨_,List.getElem?_eq_getElem lt,by simpa using List.findIdx_getElem (w:=lt)⟩
theorem findIdx_none (ds: List Int) (h: (ds.any fun c => c == 46) = false): ds.findIdx (fun c => c == 46) = ds.length:=by
 rw [List.findIdx_eq_length]
 intro x hx
 cases q: (x == 46) with
 | false => rfl
 | true => rw [List.any_eq_true.mpr ⟨x,hx,q⟩] at h; cases h
theorem findIdx_before (ds: List Int) {m: Nat} {z: Int} (hm: m < ds.findIdx (fun c => c == 46)) (h: ds[m]? = some z): z ≠ 46:=by
 have:=List.not_of_lt_findIdx hm
 obtain ⟨hl,e⟩:=List.getElem?_eq_some_iff.mp h
 rw [e] at this
 simpa using this
end Mh
end
section
namespace Mh
def setAll {α: Type} (xs: List α) (ms: List Nat) (v: α): List α:=ms.foldl (fun l i => l.set i v) xs
def addAll (xs: List Int) (ms: List Nat) (d: Int): List Int:=ms.foldl (fun l i => l.set i (l.getD i 0 + d)) xs
theorem setAll_len {α: Type} {v: α}: ∀ {ms: List Nat} {xs: List α},(setAll xs ms v).length = xs.length
 | [],_ => rfl
 | m :: ms,xs => by
  show (setAll (xs.set m v) ms v).length = _
  rw [setAll_len,List.length_set]
theorem addAll_len {d: Int}: ∀ {ms: List Nat} {xs: List Int},(addAll xs ms d).length = xs.length
 | [],_ => rfl
 | m :: ms,xs => by
  show (addAll (xs.set m (xs.getD m 0 + d)) ms d).length = _
  rw [addAll_len,List.length_set]
theorem setAll_take {α: Type} {xs: List α} {ms: List Nat} {v: α} {j m: Nat} (h: ms[j]? = some m): setAll xs (ms.take (j + 1)) v = (setAll xs (ms.take j) v).set m v:=by
 unfold setAll
 rw [List.take_add_one,h,List.foldl_append]; rfl
theorem addAll_take {xs: List Int} {ms: List Nat} {d: Int} {j m: Nat} (h: ms[j]? = some m): addAll xs (ms.take (j + 1)) d = (addAll xs (ms.take j) d).set m ((addAll xs (ms.take j) d).getD m 0 + d):=by
 unfold addAll
 rw [List.take_add_one,h,List.foldl_append]; rfl
theorem setAll_at {α: Type} {v: α}: ∀ {ms: List Nat} {xs: List α} {i: Nat},(setAll xs ms v)[i]? = if i ∈ ms then (if i < xs.length then some v else none) else xs[i]?
 | [],xs,i => by simp [setAll]
 | m :: ms,xs,i => by
  show (setAll (xs.set m v) ms v)[i]? = _
  rw [setAll_at]
  by_cases h1: i ∈ ms
  ·rw [if_pos h1,if_pos (List.mem_cons_of_mem _ h1),List.length_set]
  ·rw [if_neg h1]
   by_cases h2: i = m
   ·subst h2
    rw [if_pos List.mem_cons_self,List.getElem?_set]
    simp
   ·rw [if_neg (by simp [h1,h2]),List.getElem?_set_ne (Ne.symm h2)]
theorem addAll_at {d: Int}: ∀ {ms: List Nat} {xs: List Int} {i: Nat},ms.Nodup -> (addAll xs ms d)[i]? = if i ∈ ms then (xs[i]?).map (· + d) else xs[i]?
 | [],xs,i,_ => by simp [addAll]
 | m :: ms,xs,i,nd => by
  show (addAll (xs.set m (xs.getD m 0 + d)) ms d)[i]? = _
  obtain ⟨n1,n2⟩:=List.nodup_cons.mp nd
  rw [addAll_at n2]
  by_cases h1: i ∈ ms
  ·have hne: m ≠ i:=fun z => n1 (z ▸ h1)
   rw [if_pos h1,if_pos (List.mem_cons_of_mem _ h1),List.getElem?_set_ne hne]
  ·rw [if_neg h1]
   by_cases h2: i = m
   ·subst h2
    rw [if_pos List.mem_cons_self,List.getElem?_set]
    by_cases h3: i < xs.length
    ·simp [h3]
    ·simp [h3]
   ·rw [if_neg (by simp [h1,h2]),List.getElem?_set_ne (Ne.symm h2)]
end Mh
end
section
namespace Mh
open Tide
structure Bfs (F: List Over) (n goal: Nat) (rs: List Nat) (onw: Nat -> Option (Nat × Nat)): Prop where
 g0: rs[0]? = some goal
 nd: rs.Nodup
 lt: ∀ m ∈ rs,m < n
 dom: ∀ m,(onw m).isSome = true ↔ (m ∈ rs /\ m ≠ goal)
 edge: ∀ m l q,onw m = some (l,q) -> ∃ o ∈ F,o.line = l /\ Step o m q
 less: ∀ m l q,onw m = some (l,q) -> rs.idxOf q < rs.idxOf m
 inn: ∀ m l q,onw m = some (l,q) -> q ∈ rs
theorem Bfs.start {F: List Over} {n goal: Nat} (h: goal < n): Bfs F n goal [goal] (fun _ => none) :=
 ⟨rfl,by simp,by simp [h],by simp,by simp,by simp,by simp⟩
theorem idx_left {l: List Nat} {x a: Nat} (h: a ∈ l): (l ++ [x]).idxOf a = l.idxOf a:=by
 rw [List.idxOf_append,if_pos h]
theorem idx_new {l: List Nat} {x: Nat} (h: x ∉ l): (l ++ [x]).idxOf x = l.length:=by
 rw [List.idxOf_append,if_neg h]; simp
theorem Bfs.add {F: List Over} {n goal: Nat} {rs: List Nat} {onw: Nat -> Option (Nat × Nat)} (b: Bfs F n goal rs onw) {m l x: Nat} (hm: m ∈ rs) (hl: (l,x) ∈ adj F m) (xg: x ≠ goal) (hx: onw x = none) (xn: x < n) :
  Bfs F n goal (rs ++ [x]) (fun y => if y = x then some (l,m) else onw y):=by
 have nx: x ∉ rs:=fun z => by
  have:=(b.dom x).mpr ⟨z,xg⟩
  rw [hx] at this; cases this
 have r0: 0 < rs.length:=List.length_pos_of_mem hm
 refine ⟨by rw [List.getElem?_append_left r0]; exact b.g0,?_,?_,?_,?_,?_,?_⟩
 ·rw [List.nodup_append]
  refine ⟨b.nd,by simp,fun a ha y hy z => nx ?_⟩
  have: y = x:=by simpa using hy
  rw [<- this,<- z]; exact ha
 ·intro y hy
  rcases List.mem_append.mp hy with q | q
  ·exact b.lt y q
  ·have: y = x:=by simpa using q
   rw [this]; exact xn
 ·intro y
  by_cases q: y = x
  ·subst q; simp [xg]
  ·simp only [if_neg q]
   rw [b.dom,List.mem_append]; simp [q]
 ·intro y l' q e
  by_cases z: y = x
  ·simp only [if_pos z] at e
   cases e
   obtain ⟨o,ho,e1,e2⟩:=mem_adj hl
   exact ⟨o,ho,e1,by rw [z]; exact e2.symm⟩
  ·simp only [if_neg z] at e
   exact b.edge y l' q e
 ·intro y l' q e
  by_cases z: y = x
  ·simp only [if_pos z] at e
   cases e
   rw [z,idx_left hm,idx_new nx]
   exact List.idxOf_lt_length_of_mem hm
  ·simp only [if_neg z] at e
   have hy: y ∈ rs:=((b.dom y).mp (by rw [e]; rfl)).1
   rw [idx_left (b.inn y l' q e),idx_left hy]
   exact b.less y l' q e
 ·intro y l' q e
  by_cases z: y = x
  ·simp only [if_pos z] at e
   cases e
   exact List.mem_append_left _ hm
  ·simp only [if_neg z] at e
   exact List.mem_append_left _ (b.inn y l' q e)
theorem Bfs.onw {F: List Over} {n goal: Nat} {rs: List Nat} {onw: Nat -> Option (Nat × Nat)} (b: Bfs F n goal rs onw): Onw F goal onw (fun m => rs.idxOf m):=by
 refine ⟨b.edge,b.less,fun m l q e => ?_⟩
 by_cases z: q = goal
 ·exact .inl z
 ·exact .inr ((b.dom q).mpr ⟨b.inn m l q e,z⟩)
theorem Bfs.len {F: List Over} {n goal: Nat} {rs: List Nat} {onw: Nat -> Option (Nat × Nat)} (b: Bfs F n goal rs onw): rs.length <= n:=by
 have:=nodup_le (m:=List.range n) b.nd fun x hx => List.mem_range.mpr (b.lt x hx)
 rwa [List.length_range] at this
def Given (F: List Over) (rs: List Nat) (k: Nat): Prop:=∀ i m l x,i < k -> rs[i]? = some m -> (l,x) ∈ adj F m -> x ∈ rs
theorem Given.more {F: List Over} {rs: List Nat} {k x: Nat} (g: Given F rs k) (hk: k <= rs.length): Given F (rs ++ [x]) k:=by
 intro i m l y hi hm hl
 rw [List.getElem?_append_left (by omega)] at hm
 exact List.mem_append_left _ (g i m l y hi hm hl)
theorem Bfs.all {F: List Over} (ap: ∀ e ∈ F,e.a ≠ e.b) {n goal: Nat} {rs: List Nat} {onw: Nat -> Option (Nat × Nat)} (b: Bfs F n goal rs onw) (g: Given F rs rs.length) {m: Nat} (c: Conn F goal m): m = goal \/ (onw m).isSome = true:=by
 have: m ∈ rs:=closed_conn (S:=fun x => x ∈ rs) (fun i k hi ⟨o,ho,s⟩ => by
  obtain ⟨j,hj⟩:=List.getElem?_of_mem hi
  exact g j i o.line k (List.getElem?_eq_some_iff.mp hj).1 hj (adj_mem ap ho s)) c (List.mem_of_getElem? b.g0)
 by_cases z: m = goal
 ·exact .inl z
 ·exact .inr ((b.dom m).mpr ⟨this,z⟩)
theorem adj_lt {F: List Over} {n: Nat} (h: ∀ e ∈ F,e.a < n /\ e.b < n) {m l x: Nat} (hl: (l,x) ∈ adj F m): x < n:=by
 obtain ⟨o,ho,_,s⟩:=mem_adj hl
 have:=h o ho
 rcases s with ⟨_,s2⟩ | ⟨_,s2⟩ <;> omega
end Mh
end
section
namespace Mh
open Tide
inductive Wrong (u: List Level): Level -> List Int -> Prop
 | taken {n: Bytes} {p: Nat} (h: n ∈ marks u): Wrong u (.mark n p) [-6,2,p]
 | many {n: Bytes} {p: Nat} (h: n ∉ marks u) (l: 1024 <= (marks u).length): Wrong u (.mark n p) [-6,4,p]
 | no1 {a b: Bytes} {h: Int} {p q r: Nat} (ha: numberIn (marks u) a = none): Wrong u (.over a b h p q r) [-6,3,p]
 | no2 {a b: Bytes} {h: Int} {p q r i: Nat} (ha: numberIn (marks u) a = some i) (hb: numberIn (marks u) b = none): Wrong u (.over a b h p q r) [-6,3,q]
 | same {a b: Bytes} {h: Int} {p q r i: Nat} (ha: numberIn (marks u) a = some i) (hb: numberIn (marks u) b = some i): Wrong u (.over a b h p q r) [-6,5,q]
 | ring {a b: Bytes} {h: Int} {p q r i j: Nat} {w: List Nat} (ha: numberIn (marks u) a = some i) (hb: numberIn (marks u) b = some j) (ij: i ≠ j) (g: (placeOf (takeAll u).places i).1 = (placeOf (takeAll u).places j).1)
   (e: (placeOf (takeAll u).places j).2 - (placeOf (takeAll u).places i).2 ≠ h) (t: Trail (takeAll u).forest j i w) (n: NB w) :
   Wrong u (.over a b h p q r) (-6 :: 6 :: (r: Int) :: ((w.length + 1: Nat): Int) :: ((takeAll u).overs: Int) :: (asInts w ++ [h + (placeOf (takeAll u).places i).2 - (placeOf (takeAll u).places j).2]))
theorem Wrong.book {u r: List Level} {x: Level} {ns: List Int} {b: Bytes} {s: TideDatums.State} (w: Wrong u x ns) (R: Right u) (hw: allLevelWrongs u = []) (h: levelGrammar b = .ok (u ++ x :: r)): ∃ a,TideDatums.step s (.book b) = (s,a) /\ a.nums = ns:=by
 cases w with
 | taken hn =>
  obtain ⟨fs,e⟩:=mark_taken (u:=u) hn
  exact ⟨_,book_bad h hw e (by decide),rfl⟩
 | many hn l => exact ⟨_,book_bad h hw (mark_many hn l) (by decide),rfl⟩
 | no1 ha =>
  obtain ⟨fs,e⟩:=over_no1 (u:=u) ha
  exact ⟨_,book_bad h hw (e) (by decide),rfl⟩
 | no2 ha hb =>
  obtain ⟨fs,e⟩:=over_no2 (u:=u) ha hb
  exact ⟨_,book_bad h hw (e) (by decide),rfl⟩
 | same ha hb =>
  obtain ⟨fs,e⟩:=over_same (u:=u) ha hb
  exact ⟨_,book_bad h hw (e) (by decide),rfl⟩
 | @ring A B hh p q r0 i j w ha hb ij g e t n =>
  have od:=take_odd (p:=p) (q:=q) (r:=r0) ha hb ij g e R.odd
  have ob:=over_bad ha hb ij R.odd od
  refine ⟨_,book_ring h hw ob od,?_⟩
  obtain ⟨r',h1,h2⟩:=way_eq R t n
  simp only [tells,Answer.nums,List.flatMap_cons,List.flatMap_nil,Item.nums,ringOf,h1,Option.getD_some,h2,List.append_nil]
  simp [asInts]
theorem numberIn_snoc {ns: List Bytes} {n m: Bytes} (h: n ∉ ns): numberIn (ns ++ [n]) m = if m = n then some ns.length else numberIn ns m:=by
 by_cases e: m = n
 ·subst e
  rw [if_pos rfl]
  have h0:=numberIn_none.mpr h
  unfold numberIn at h0 ⊢
  rw [List.findIdx?_append,h0]
  simp
 ·rw [if_neg e]
  unfold numberIn
  rw [List.findIdx?_append]
  have: ([n]: List Bytes).findIdx? (fun y => y == m) = none:=by
   rw [List.findIdx?_eq_none_iff]
   intro y hy
   have: y = n:=by simpa using hy
   subst this
   exact beq_eq_false_iff_ne.mpr (fun z => e z.symm)
  cases q: ns.findIdx? (fun y => y == m) with
  | none => simp [this]
  | some i => simp
theorem printed_snoc (u: List Level) (x: Level): printedLevels (u ++ [x]) = printedLevels u ++ printLevel x:=by
 unfold printedLevels
 simp
theorem codes_inj {a b: Bytes} (h: codes a = codes b): a = b:=by
 induction a generalizing b with
 | nil => cases b with | nil => rfl | cons _ _ => cases h
 | cons x a ih =>
  cases b with
  | nil => cases h
  | cons y b =>
   unfold codes at h
   rw [List.map_cons,List.map_cons] at h
   injection h with h1 h2
   have: x.toNat = y.toNat:=by omega
   rw [UInt8.toNat_inj.mp this,ih h2]
end Mh
end
section
namespace Mh
open Tide
def after (s: TideDatumsNeutral.State) (cs: List (List (List Int))): TideDatumsNeutral.State:=cs.foldl (fun s c => (TideDatumsNeutral.step s c).1) s
theorem played_snoc (c: List (List Int)): ∀ (cs: List (List (List Int))) (s: TideDatumsNeutral.State),PyFlat.played TideDatumsNeutral.step s (cs ++ [c]) = PyFlat.played TideDatumsNeutral.step s cs ++ [(TideDatumsNeutral.step (after s cs) c).2]
 | [],s => rfl
 | d :: cs,s => by
  show (TideDatumsNeutral.step s d).2 :: PyFlat.played _ (TideDatumsNeutral.step s d).1 (cs ++ [c]) = _
  rw [played_snoc c cs]
  rfl
theorem after_snoc (c: List (List Int)) (cs: List (List (List Int))) (s: TideDatumsNeutral.State): after s (cs ++ [c]) = (TideDatumsNeutral.step (after s cs) c).1:=by
 unfold after
 rw [List.foldl_append]; rfl
theorem told_snoc (l: List (List Int)) (a: List Int): PyFlat.told (l ++ [a]) = PyFlat.told l ++ ((a.length: Int) :: a):=by
 unfold PyFlat.told
 rw [List.flatMap_append]; simp
theorem name_le {ls: List Level} {nm: Bytes} (h: nm ∈ marks ls): nm.length <= (printedLevels ls).length:=by
 unfold marks at h
 obtain ⟨x,hx,e⟩:=List.mem_filterMap.mp h
 cases x with
 | over => cases e
 | mark n p =>
  have e: n = nm:=Option.some.inj e
  subst e
  have h1: (printLevel (.mark n p)).length <= (printedLevels ls).length:=by
   unfold printedLevels
   obtain ⟨a,b,rfl⟩:=List.append_of_mem hx
   rw [List.flatMap_append,List.flatMap_cons]
   simp only [List.length_append]
   omega
  have h2:=congrArg List.length (print_mark n p)
  rw [codes_length] at h2
  simp only [List.length_append,List.length_cons,List.length_nil,codes_length] at h2
  omega
theorem Wrong.len {u: List Level} {x: Level} {ns: List Int} (w: Wrong u x ns) (R: Right u): ns.length <= 2000:=by
 cases w with
 | ring ha hb ij g e t n =>
  have h1:=R.wf.acyc.short t n
  have h2:=R.wf.count
  have h3:=R.len
  have h4:=R.few
  simp [asInts]
  omega
 | _ => simp
end Mh
end
section
namespace Mh
open Tide
section
variable {ls: List Level}
theorem ans_none {c: List (List Int)} (h: TideDatumsNeutral.asked1 c = true) (nb: ∀ t,c ≠ [[0],t]): TideDatumsNeutral.step none c = (none,[-3]):=by
 unfold TideDatumsNeutral.asked1 at h
 split at h
 ·exact absurd rfl (nb _)
 ·rfl
 ·rfl
 ·rw [(st_name (s:=none) h).1]; rfl
 ·rw [(st_find (s:=none) h).1]; rfl
 ·rw [(st_over (s:=none) (by unfold TideDatumsNeutral.asked1; exact h)).1]; rfl
 ·rw [(st_way (s:=none) (by unfold TideDatumsNeutral.asked1; exact h)).1]; rfl
 ·rw [(st_ends (s:=none) h).1]; rfl
 ·cases h
theorem ans_print: TideDatumsNeutral.step (some ls) [[1]] = (some ls,0 :: ((printedLevels ls).length: Int) :: codes (printedLevels ls)):=by
 rw [st_print]
 simp [TideDatums.step,TideDatums.ofBook,tells,Answer.nums,Item.nums,codes]
theorem ans_size: TideDatumsNeutral.step (some ls) [[2]] = (some ls,[0,((marks ls).length: Int),((takeAll ls).overs: Int),(groups (takeAll ls): Int)]):=by
 rw [st_size]
 simp [TideDatums.step,TideDatums.ofBook,tells,Answer.nums,Item.nums]
theorem ans_name {i: Int} (h: TideDatumsNeutral.asked1 [[3,i]] = true): TideDatumsNeutral.step (some ls) [[3,i]] = (some ls,match (marks ls)[i.toNat]? with
  | none => [-4]
  | some nm => 0 :: (nm.length: Int) :: codes nm):=by
 rw [(st_name (s:=some ls) h).1]
 simp only [TideDatums.step,TideDatums.ofMark,TideDatums.ofBook]
 by_cases q: (marks ls).length <= i.toNat
 ·rw [if_pos q,List.getElem?_eq_none q]; rfl
 ·rw [if_neg q,List.getElem?_eq_getElem (by omega)]
  simp [tells,Answer.nums,Item.nums,codes,List.getD_eq_getElem?_getD,List.getElem?_eq_getElem (show i.toNat < (marks ls).length by omega)]
theorem ans_find {t: List Int} (h: TideDatumsNeutral.asked1 [[4],t] = true): TideDatumsNeutral.step (some ls) [[4],t] = (some ls,match numberIn (marks ls) (bytesOf t) with
  | none => [-4]
  | some i => [0,(i: Int)]):=by
 rw [(st_find (s:=some ls) h).1]
 simp only [TideDatums.step,TideDatums.ofBook,markNo]
 cases numberIn (marks ls) (bytesOf t) with
 | none => rfl
 | some i => rfl
theorem ans_over {i j: Int} (h: TideDatumsNeutral.asked1 [[5,i,j]] = true): TideDatumsNeutral.step (some ls) [[5,i,j]] = (some ls,
  if (marks ls).length <= i.toNat \/ (marks ls).length <= j.toNat then [-4] else
  if (placeOf (takeAll ls).places i.toNat).1 = (placeOf (takeAll ls).places j.toNat).1 then [1,(placeOf (takeAll ls).places j.toNat).2 - (placeOf (takeAll ls).places i.toNat).2] else [0]):=by
 rw [(st_over (s:=some ls) h).1]
 simp only [TideDatums.step,TideDatums.ofMark,TideDatums.ofBook]
 by_cases q1: (marks ls).length <= i.toNat
 ·rw [if_pos q1,if_pos (.inl q1)]; rfl
 ·rw [if_neg q1]
  by_cases q2: (marks ls).length <= j.toNat
  ·rw [if_pos q2,if_pos (.inr q2)]; rfl
  ·rw [if_neg q2,if_neg (by simp [q1,q2])]
   unfold overOf
   by_cases g: (placeOf (takeAll ls).places i.toNat).1 = (placeOf (takeAll ls).places j.toNat).1
   ·rw [if_pos g,if_pos g]; rfl
   ·rw [if_neg g,if_neg g]; rfl
theorem ans_way {i j: Int} (h: TideDatumsNeutral.asked1 [[6,i,j]] = true): TideDatumsNeutral.step (some ls) [[6,i,j]] = (some ls,
  if (marks ls).length <= i.toNat \/ (marks ls).length <= j.toNat then [-4] else
  match way (takeAll ls) i.toNat j.toNat with
  | none => [0]
  | some r => 1 :: (r.length: Int) :: asInts (r.map (·.1))):=by
 rw [(st_way (s:=some ls) h).1]
 simp only [TideDatums.step,TideDatums.ofMark,TideDatums.ofBook]
 by_cases q1: (marks ls).length <= i.toNat
 ·rw [if_pos q1,if_pos (.inl q1)]; rfl
 ·rw [if_neg q1]
  by_cases q2: (marks ls).length <= j.toNat
  ·rw [if_pos q2,if_pos (.inr q2)]; rfl
  ·rw [if_neg q2,if_neg (by simp [q1,q2])]
   cases way (takeAll ls) i.toNat j.toNat with
   | none => rfl
   | some r => simp [tells,Answer.nums,Item.nums]
theorem ans_ends {i: Int} (h: TideDatumsNeutral.asked1 [[7,i]] = true): TideDatumsNeutral.step (some ls) [[7,i]] = (some ls,
  if (marks ls).length <= i.toNat then [-4] else [0,((groupOf (takeAll ls) i.toNat).length: Int),(endOf (takeAll ls) 1 (groupOf (takeAll ls) i.toNat): Int),(endOf (takeAll ls) (-1) (groupOf (takeAll ls) i.toNat): Int)]):=by
 rw [(st_ends (s:=some ls) h).1]
 simp only [TideDatums.step,TideDatums.ofMark,TideDatums.ofBook]
 by_cases q1: (marks ls).length <= i.toNat
 ·rw [if_pos q1,if_pos q1]; rfl
 ·rw [if_neg q1,if_neg q1]; rfl
end
end Mh
end
section
namespace Mh
open Tide
theorem fold_least (v: Nat -> Int): ∀ (l: List Nat) (m: Nat),(∀ j ∈ l,m <= j) -> l.Pairwise (· < ·) ->
  let r:=l.foldl (fun (m j: Nat) => if v j < v m then j else m) m
  (r = m \/ r ∈ l) /\ v r <= v m /\ (∀ j ∈ l,v r <= v j) /\ (v r = v m -> r = m) /\ (∀ j ∈ l,v j = v r -> r <= j)
 | [],m,_,_ => ⟨.inl rfl,Int.le_refl _,by simp,fun _ => rfl,by simp⟩
 | x :: l,m,hm,hp => by
  obtain ⟨h1,h2⟩:=List.pairwise_cons.mp hp
  simp only [List.foldl_cons]
  by_cases q: v x < v m
  ·rw [if_pos q]
   obtain ⟨a,b,c,d,e⟩:=fold_least v l x (fun j hj => Nat.le_of_lt (h1 j hj)) h2
   refine ⟨?_,by omega,?_,?_,?_⟩
   ·rcases a with a | a
    ·exact .inr (by rw [a]; exact List.mem_cons_self)
    ·exact .inr (List.mem_cons_of_mem _ a)
   ·intro j hj
    rcases List.mem_cons.mp hj with rfl | hj
    ·exact b
    ·exact c j hj
   ·intro z; omega
   ·intro j hj z
    rcases List.mem_cons.mp hj with rfl | hj
    ·rw [d z.symm]; exact Nat.le_refl _
    ·exact e j hj z
  ·rw [if_neg q]
   obtain ⟨a,b,c,d,e⟩:=fold_least v l m (fun j hj => hm j (List.mem_cons_of_mem _ hj)) h2
   refine ⟨?_,b,?_,d,?_⟩
   ·rcases a with a | a
    ·exact .inl a
    ·exact .inr (List.mem_cons_of_mem _ a)
   ·intro j hj
    rcases List.mem_cons.mp hj with rfl | hj
    ·omega
    ·exact c j hj
   ·intro j hj z
    rcases List.mem_cons.mp hj with rfl | hj
    ·have: v (l.foldl (fun (m j: Nat) => if v j < v m then j else m) m) = v m:=by omega
     rw [d this]; exact hm _ List.mem_cons_self
    ·exact e j hj z
theorem endOf_is {t: Taken} {s: Int} {l: List Nat} (hl: l ≠ []) (hp: l.Pairwise (· < ·)) {m: Nat} (hm: m ∈ l) (least: ∀ j ∈ l,s * (placeOf t.places m).2 <= s * (placeOf t.places j).2) (first: ∀ j ∈ l,s * (placeOf t.places j).2 = s * (placeOf t.places m).2 -> m <= j): endOf t s l = m:=by
 cases l with
 | nil => exact absurd rfl hl
 | cons x l =>
  obtain ⟨h1,h2⟩:=List.pairwise_cons.mp hp
  have e: endOf t s (x :: l) = l.foldl (fun (m j: Nat) => if (fun (k: Nat) => s * (placeOf t.places k).2) j < (fun (k: Nat) => s * (placeOf t.places k).2) m then j else m) x:=by
   unfold endOf
   simp only [List.headD_cons,List.foldl_cons,Int.lt_irrefl,if_false]
  obtain ⟨a,b,c,d,f⟩:=fold_least (fun (k: Nat) => s * (placeOf t.places k).2) l x (fun j hj => Nat.le_of_lt (h1 j hj)) h2
  rw [<- e] at a b c d f
  have mem: endOf t s (x :: l) ∈ x :: l:=by
   rcases a with a | a
   ·rw [a]; exact List.mem_cons_self
   ·exact List.mem_cons_of_mem _ a
  have le1:=least _ mem
  have le2: s * (placeOf t.places (endOf t s (x :: l))).2 <= s * (placeOf t.places m).2:=by
   rcases List.mem_cons.mp hm with q | q
   ·rw [q]; exact b
   ·exact c m q
  have same: s * (placeOf t.places (endOf t s (x :: l))).2 = s * (placeOf t.places m).2:=by omega
  have o1:=first _ mem same
  have o2: endOf t s (x :: l) <= m:=by
   rcases List.mem_cons.mp hm with q | q
   ·rw [q]
    rw [d (by rw [same,q])]
    exact Nat.le_refl _
   ·exact f m q same.symm
  omega
theorem group_sorted (t: Taken) (i: Nat): (groupOf t i).Pairwise (· < ·):=by
 unfold groupOf
 exact List.Pairwise.filter _ List.pairwise_lt_range
theorem group_mem {t: Taken} {i j: Nat}: j ∈ groupOf t i ↔ j < t.places.length /\ (placeOf t.places j).1 = (placeOf t.places i).1:=by
 unfold groupOf
 rw [List.mem_filter,List.mem_range]
 simp
theorem group_len {t: Taken} {i: Nat} {ms: List Nat} (nd: ms.Nodup) (h: ∀ j,j ∈ ms ↔ j < t.places.length /\ (placeOf t.places j).1 = (placeOf t.places i).1): (groupOf t i).length = ms.length:=by
 refine len_same ?_ nd fun j => by rw [group_mem,h]
 have:=group_sorted t i
 exact this.imp fun h => Nat.ne_of_lt h
end Mh
end
section
namespace Mp
open PySem PySem.Spec PyProof.Rows L2 Xc
def lt2 (p q: Int × Int): Bool:=decide (p.1 < q.1) || (p.1 == q.1 && decide (p.2 < q.2))
section
variable {prog: Program} {w: World} {A: Around} {E: Value -> Shared -> Prop} {s: Shared}
def Two (h: Heap) (a: Addr) (p: Int × Int): Prop:=∃ t u,IsTup h a #[.int p.1 t,.int p.2 u]
theorem two_lt_tree {a b: Addr} {p q: Int × Int} {Pq: Fin -> Shared -> Prop} (ha: Two s.heap a p) (hb: Two s.heap b q) (k: Pq (.done (.ret (.bool (lt2 p q)))) s) :
  wpAny (model prog w) A (Builtin.«tuple.__lt__» ⟨[.ref a,.ref b],[]⟩) Pq E s:=by
 obtain ⟨t1,t2,oa,ea,ca,na,da⟩:=ha
 obtain ⟨u1,u2,ob,eb,cb,nb,db⟩:=hb
 have ty: s.TypeIs (.ref b) "tuple":=⟨ob,eb,cb⟩
 show wpAny _ _ (isInstance (.ref b) (.type "tuple") >>= _) _ _ s
 refine wpAny_bind (wpAny_isInstance ty isSubtype_tuple_tuple ?_)
 simp only [Bool.not_true,Bool.false_eq_true,if_false]
 refine wpAny_bind (wpAny_tupleItemsOf ea da (wpAny_bind (wpAny_tupleItemsOf eb db (wpAny_bind ?_))))
 refine wpAny_forIn_list _
  (fun rest r s' => r.1 = none /\ s' = s /\ ((rest = [(.int p.1 t1,.int q.1 u1),(.int p.2 t2,.int q.2 u2)]) \/ (rest = [(.int p.2 t2,.int q.2 u2)] /\ p.1 = q.1) \/ (rest = [] /\ p.1 = q.1 /\ p.2 = q.2)))
  _ ?_ ?_ _ _ ⟨rfl,rfl,.inl rfl⟩
 ·rintro ⟨x,y⟩ rest r s' ⟨hr,rfl,h⟩
  rcases h with h | ⟨h,e1⟩ | ⟨h,_⟩
  ·injection h with h0 h1
   injection h0 with hx hy
   subst hx hy h1
   refine wpAny_bind (wpAny_eqBool_int ?_)
   by_cases e: p.1 = q.1
   ·rw [show (p.1 == q.1) = true by simp [e]]
    simp only [Bool.not_true,Bool.false_eq_true,if_false]
    exact wpAny_pure ⟨rfl,rfl,.inr (.inl ⟨trivial,e⟩)⟩
   ·have eb: (p.1 == q.1) = false:=by simp [e]
    rw [eb]
    simp only [Bool.not_false,if_true]
    have: lt2 p q = decide (p.1 < q.1):=by unfold lt2; rw [eb]; simp
    rw [this] at k
    refine wpAny_bind (wpAny_rule (wpAny_bind ?_))
    refine (P.lt_int ?_: wpAny _ _ (richCompare .Lt (.int p.1 t1) (.int q.1 u1)) _ _ _)
    exact wpAny_bind (wpAny_pure (wpAny_pure (wpAny_pure k)))
  ·injection h with h0 h1
   injection h0 with hx hy
   subst hx hy h1
   refine wpAny_bind (wpAny_eqBool_int ?_)
   by_cases e: p.2 = q.2
   ·rw [show (p.2 == q.2) = true by simp [e]]
    simp only [Bool.not_true,Bool.false_eq_true,if_false]
    exact wpAny_pure ⟨rfl,rfl,.inr (.inr ⟨trivial,e1,e⟩)⟩
   ·have eb: (p.2 == q.2) = false:=by simp [e]
    rw [eb]
    simp only [Bool.not_false,if_true]
    have: lt2 p q = decide (p.2 < q.2):=by unfold lt2; simp [e1]
    rw [this] at k
    refine wpAny_bind (wpAny_rule (wpAny_bind ?_))
    refine (P.lt_int ?_: wpAny _ _ (richCompare .Lt (.int p.2 t2) (.int q.2 u2)) _ _ _)
    exact wpAny_bind (wpAny_pure (wpAny_pure (wpAny_pure k)))
  ·cases h
 ·rintro ⟨r1,r2⟩ s' ⟨hr,rfl,h⟩
  simp only at hr
  subst hr
  rcases h with h | ⟨h,_⟩ | ⟨_,e1,e2⟩
  ·cases h
  ·cases h
  ·refine wpAny_pure ?_
   have: lt2 p q = false:=by unfold lt2; simp [e1,e2]
   rw [this] at k
   exact k
theorem two_lt {a b: Addr} {p q: Int × Int} {Q: Value -> Shared -> Prop} (hu: A.units < cLine) (ha: Two s.heap a p) (hb: Two s.heap b q) (k: Q (.bool (lt2 p q)) s): wpAny (model prog w) A (richCompare .Lt (.ref a) (.ref b)) Q E s:=by
 have ta: s.TypeIs (.ref a) "tuple":=by obtain ⟨_,_,o,e,c,_⟩:=ha; exact ⟨o,e,c⟩
 have tb: s.TypeIs (.ref b) "tuple":=by obtain ⟨_,_,o,e,c,_⟩:=hb; exact ⟨o,e,c⟩
 exact wpAny_richCompare_same_room (op:=.Lt) ta tb F.slot_tuple_lt (wpAny_call_entry F.slot_tuple_lt ta F.entry_tuple_lt (two_lt_tree ha hb ⟨_,rfl,(fun e => nomatch e),k⟩) (F.args_tuple_lt_2 _ _)) hu
theorem Two.keeps {h h': Heap} {a: Addr} {p: Int × Int} (x: Two h a p) (k: ∀ o,h.get? a = some o -> h'.get? a = some o): Two h' a p:=by
 obtain ⟨t,u,o,e,r⟩:=x
 exact ⟨t,u,o,k o e,r⟩
end
def CmpIn (prog: Program) (w: World) (A: Around) (J: Heap -> Prop) (Pw: Nat -> Value -> Prop) (bt: Nat -> Nat -> Bool): Prop :=
 ∀ i j u v (s: Shared) (Q: Value -> Shared -> Prop) (E: Value -> Shared -> Prop),J s.heap -> Pw i u -> Pw j v -> Q (.bool (bt i j)) s -> wpAny (model prog w) A (richCompare .Lt u v) Q E s
section
variable {prog: Program} {w: World} {A: Around} {R: Result -> Shared -> Prop} {it sc: Addr} {fp wr: List Addr} {n: Nat} {Pw: Nat -> Value -> Prop} {St: Nat -> Heap -> Prop} {J: Heap -> Prop} {bt: Nat -> Nat -> Bool}
theorem minIn_loop (W: Walks prog w A.in1 it fp wr n Pw St) (cmp: CmpIn prog w A.in1 J Pw bt) (off: sc ∉ fp) (stay: ∀ h h',J h -> (∀ b o,b ∉ wr -> b ≠ sc -> h.get? b = some o -> h'.get? b = some o) -> J h') :
  ∀ (m i: Nat) (s: Shared) (v: Value) (c: Nat),n - (i + 1) = m -> i + 1 <= n -> J s.heap -> St (i + 1) s.heap -> Pw (argBest bt i) v -> s.heap.get? sc = some { cls:=.type "list",dict:=none,data:=.seq #[v,v] c,slots:=#[] } ->
  (∀ u h' tk,Pw (argBest bt (n - 1)) u -> (∀ b o,b ∉ wr -> b ≠ sc -> s.heap.get? b = some o -> h'.get? b = some o) -> R (.ok (.ret u)) { s with heap:=h',toks:=tk }) -> codeAny (model prog w) A (.builtin "min.loop" ⟨[.ref it,.none,.ref sc],[]⟩) R s:=by
 have offW: sc ∉ wr:=fun z => off (W.sub _ z)
 have nm: (toString "min" ++ toString ".loop": String) = "min.loop":=by decide
 intro m
 induction m with
 | zero =>
  intro i s v c hm hi j0 st0 pv0 e0 kR
  have last: i + 1 = n:=by omega
  refine codeAny_builtin F.entry_min_loop ?_
  rw [Around.under_plainId F.plain_min_loop _]; show wpAny _ A.in1 (seqItems? (.ref sc) >>= _) _ _ s
  refine wpAny_bind (wpAny_seqItems e0 rfl ?_); show wpAny _ A.in1 (tryCatch (pyNext (.ref it)) _ >>= _) _ _ s
  refine wpAny_bind (wpAny_tryCatch (W.done s _ _ (last ▸ st0) fun h' tk kp => ?_))
  have e1:=kp sc _ offW e0
  show wpAny _ A.in1 (updateSeq sc (fun _ => #[]) >>= _) _ _ _
  refine wpAny_bind (wpAny_updateSeq e1 rfl (wpAny_bind (wpAny_letGo (wpAny_pure ?_))))
  exact kR v _ tk (by rw [<- last]; exact pv0) fun b o n1 n2 e => (Heap.get?_update_other _ _ (Ne.symm n2)).trans (kp b o n1 e)
 | succ m ih =>
  intro i s v c hm hi j0 st0 pv0 e0 kR
  have more: i + 1 < n:=by omega
  refine codeAny_builtin F.entry_min_loop ?_
  rw [Around.under_plainId F.plain_min_loop _]; show wpAny _ A.in1 (seqItems? (.ref sc) >>= _) _ _ s
  refine wpAny_bind (wpAny_seqItems e0 rfl ?_); show wpAny _ A.in1 (tryCatch (pyNext (.ref it)) _ >>= _) _ _ s
  refine wpAny_bind (wpAny_tryCatch (W.item (i + 1) s _ _ more st0 fun u h' tk pu st1 kp => ?_))
  have e1:=kp sc _ offW e0
  have j1: J h':=stay _ _ j0 fun b o n1 _ e => kp b o n1 e
  show wpAny _ A.in1 (tryCatch (holding [u,u] (richCompare .Lt u v >>= _)) _ >>= _) _ _ _
  refine wpAny_bind (wpAny_tryCatch (wpAny_holding (wpAny_bind (cmp (i + 1) (argBest bt i) u v _ _ _ j1 pu pv0 (wpAny_bind (wpAny_holding (wpAny_truthy_bool (wpAny_bind (wpAny_letGo (wpAny_pure ?_))))))))))
  cases hb: bt (i + 1) (argBest bt i) with
  | true =>
   simp only [if_true]
   refine wpAny_bind (wpAny_updateSeq e1 rfl (wpAny_bind (wpAny_letGo ?_)))
   rw [nm]
   refine wpAny_pure ⟨plainId_quiet F.plain_min_loop _,ih (i + 1) _ u _ (by omega) more (stay _ _ j1 fun b o _ n2 e => (Heap.get?_update_other _ _ (Ne.symm n2)).trans e) (W.frame _ _ _ st1 fun b hbf o e => (Heap.get?_update_other _ _ (fun z: sc = b => off (by rw [z]; exact hbf))).trans e) (by simp only [argBest,hb,if_true]; exact pu) (Heap.get?_update_self _ e1 rfl)
    fun u' h2 tk2 pu' kp2 => kR u' h2 tk2 pu' fun b o n1 n2 e => kp2 b o n1 n2 ((Heap.get?_update_other _ _ (Ne.symm n2)).trans (kp b o n1 e))⟩
  | false =>
   simp only [Bool.false_eq_true,if_false]
   refine wpAny_bind (wpAny_letGo ?_)
   rw [nm]
   exact wpAny_pure ⟨plainId_quiet F.plain_min_loop _,ih (i + 1) _ v c (by omega) more j1 st1 (by simp only [argBest,hb,Bool.false_eq_true,if_false]; exact pv0) e1 fun u' h2 tk2 pu' kp2 => kR u' h2 tk2 pu' fun b o n1 n2 e => kp2 b o n1 n2 (kp b o n1 e)⟩
theorem minIn_first (W: Walks prog w A.in1 it fp wr n Pw St) (cmp: CmpIn prog w A.in1 J Pw bt) (off: sc ∉ fp) (stay: ∀ h h',J h -> (∀ b o,b ∉ wr -> b ≠ sc -> h.get? b = some o -> h'.get? b = some o) -> J h') (some1: 0 < n) {s: Shared} {c: Nat} (j0: J s.heap) (st0: St 0 s.heap)
  (e0: s.heap.get? sc = some { cls:=.type "list",dict:=none,data:=.seq #[] c,slots:=#[] })
  (kR: ∀ u h' tk,Pw (argBest bt (n - 1)) u -> (∀ b o,b ∉ wr -> b ≠ sc -> s.heap.get? b = some o -> h'.get? b = some o) -> R (.ok (.ret u)) { s with heap:=h',toks:=tk }): codeAny (model prog w) A (.builtin "min.loop" ⟨[.ref it,.none,.ref sc],[]⟩) R s:=by
 have offW: sc ∉ wr:=fun z => off (W.sub _ z)
 have nm: (toString "min" ++ toString ".loop": String) = "min.loop":=by decide
 refine codeAny_builtin F.entry_min_loop ?_
 rw [Around.under_plainId F.plain_min_loop _]; show wpAny _ A.in1 (seqItems? (.ref sc) >>= _) _ _ s
 refine wpAny_bind (wpAny_seqItems e0 rfl ?_); show wpAny _ A.in1 (tryCatch (pyNext (.ref it)) _ >>= _) _ _ s
 refine wpAny_bind (wpAny_tryCatch (W.item 0 s _ _ some1 st0 fun u h' tk pu st1 kp => ?_))
 have e1:=kp sc _ offW e0
 have j1: J h':=stay _ _ j0 fun b o n1 _ e => kp b o n1 e
 show wpAny _ A.in1 (updateSeq sc (fun _ => #[u,u]) >>= _) _ _ _
 refine wpAny_bind (wpAny_updateSeq e1 rfl ?_)
 rw [nm]
 exact wpAny_pure ⟨plainId_quiet F.plain_min_loop _,minIn_loop W cmp off stay _ 0 _ u _ rfl some1 (stay _ _ j1 fun b o _ n2 e => (Heap.get?_update_other _ _ (Ne.symm n2)).trans e) (W.frame _ _ _ st1 fun b hbf o e => (Heap.get?_update_other _ _ (fun z: sc = b => off (by rw [z]; exact hbf))).trans e) pu (Heap.get?_update_self _ e1 rfl)
  fun u' h2 tk2 pu' kp2 => kR u' h2 tk2 pu' fun b o n1 n2 e => kp2 b o n1 n2 ((Heap.get?_update_other _ _ (Ne.symm n2)).trans (kp b o n1 e))⟩
end
section
variable {prog: Program} {w: World} {A: Around} {E: Value -> Shared -> Prop} {s: Shared}
theorem min_pairs {l: Addr} {its: Array Value} {ps: Nat -> Int × Int} {Q: Value -> Shared -> Prop} (hh: A.handled = none) (hu: A.units + 1 < cLine) (hl: s.heap.IsList l its) (some1: 0 < its.size) (hp: ∀ (i: Nat) v,its[i]? = some v -> ∃ a,v = .ref a /\ Two s.heap a (ps i))
  (k: ∀ (i: Nat) v h' tk,i = argBest (fun a b => lt2 (ps a) (ps b)) (its.size - 1) -> its[i]? = some v -> (∀ b o,s.heap.get? b = some o -> h'.get? b = some o) -> Q v { s with heap:=h',toks:=tk }): wpAny (model prog w) A (call (.builtin "min") [.ref l]) Q E s:=by
 have nm: (toString "min" ++ toString ".loop": String) = "min.loop":=by decide
 have lt: l < s.heap.objs.size:=by obtain ⟨_,e,_⟩:=hl; exact Heap.lt_size e
 refine call_function_tree F.kind_min F.plain_min F.entry_min (F.args_min1 _) ?_
 show wpAny _ A.in1 (Builtin.Builtins.bindParams "min" ["key","default"] 0 ⟨[],[]⟩ >>= _) _ _ s
 refine wpAny_bind (wpAny_of_eq (show Builtin.Builtins.bindParams "min" ["key","default"] 0 ⟨[],[]⟩ = pure [none,none] from rfl) (wpAny_bind (wpAny_pure (wpAny_bind (wpAny_pyIter_list hl ?_)))))
 generalize h2: s.heap.push { cls:=.type "list_iterator",data:=.fields #[.ref l,.int 0 0] } = hp2
 have k2: ∀ b o,s.heap.get? b = some o -> hp2.get? b = some o:=fun b o e => by rw [<- h2]; exact Heap.get?_push_of_some _ e
 have z2: hp2.objs.size = s.heap.objs.size + 1:=by rw [<- h2,Heap.size_push]
 have it2: hp2.IsListIter s.heap.objs.size l 0:=by rw [<- h2]; exact ⟨_,Heap.get?_push_size _ rfl,rfl,rfl⟩
 have l2: hp2.IsList l its:=by rw [<- h2]; exact hl.push _
 refine wpAny_bind (wpAny_newObj_type ?_)
 have W:=Walks.list (prog:=prog) (w:=w) (A:=A.in1) hh s.heap.objs.size l (Nat.ne_of_lt lt) its
 rw [nm]
 have kp3: ∀ (o': Obj) b o,hp2.get? b = some o -> (hp2.push o').get? b = some o:=fun o' b o e => Heap.get?_push_of_some _ e
 refine wpAny_pure ⟨plainId_quiet F.plain_min_loop _,minIn_first (J:=fun h => ∀ (i: Nat) a,its[i]? = some (.ref a) -> Two h a (ps i) /\ a < s.heap.objs.size) (bt:=fun a b => lt2 (ps a) (ps b)) (sc:=hp2.objs.size) W ?_ ?_ ?_ some1 ?_ ?_ (Heap.get?_push_size _ rfl) fun u h' tk pu kp => ?_⟩
 ·intro i j u v s' Q' E' j' pu pv' q
  obtain ⟨a,rfl,_⟩:=hp i u pu
  obtain ⟨b,rfl,_⟩:=hp j v pv'
  exact two_lt hu (j' i a pu).1 (j' j b pv').1 q
 ·intro z
  have z: hp2.objs.size = s.heap.objs.size \/ hp2.objs.size = l:=by simpa using z
  rw [z2] at z
  rcases z with z | z
  ·exact Nat.succ_ne_self _ z
  ·exact Nat.lt_irrefl _ (Nat.lt_trans (Nat.lt_of_lt_of_eq (Nat.lt_succ_self _) z) lt)
 ·intro h h' jh kp i a e
  obtain ⟨t,lt'⟩:=jh i a e
  refine ⟨t.keeps fun o e' => kp a o (fun z => ?_) (fun z => ?_) e',lt'⟩
  ·have z: a = s.heap.objs.size:=by simpa using z
   exact Nat.lt_irrefl _ (z ▸ lt')
  ·rw [z,z2] at lt'
   exact Nat.lt_irrefl _ (Nat.lt_trans (Nat.lt_succ_self _) lt')
 ·intro i a e
  obtain ⟨a',z,t⟩:=hp i _ e
  injection z with z
  subst z
  refine ⟨t.keeps fun o e' => kp3 _ _ _ (k2 _ _ e'),?_⟩
  obtain ⟨_,_,o,e',_⟩:=t
  exact Heap.lt_size e'
 ·exact W.frame _ _ _ ⟨it2,l2⟩ fun b _ o e => kp3 _ _ _ e
 ·refine k _ u h' tk rfl pu fun b o e => kp b o (fun z => ?_) ?_ (kp3 _ _ _ (k2 _ _ e))
  ·have z: b = s.heap.objs.size:=by simpa using z
   exact Nat.lt_irrefl _ (z ▸ Heap.lt_size e)
  ·intro z
   have lt3:=Heap.lt_size e
   rw [z,z2] at lt3
   exact Nat.lt_irrefl _ (Nat.lt_trans (Nat.lt_succ_self _) lt3)
theorem argBest_pairs (f: Nat -> Int × Int): ∀ n: Nat,argBest (fun a b => lt2 (f a) (f b)) n <= n /\ ∀ i: Nat,i <= n -> lt2 (f i) (f (argBest (fun a b => lt2 (f a) (f b)) n)) = false:=by
 intro n
 induction n with
 | zero =>
  refine ⟨Nat.le_refl _,fun i hi => ?_⟩
  obtain rfl: i = 0:=by omega
  show lt2 (f 0) (f 0) = false
  unfold lt2; simp
 | succ n ih =>
  obtain ⟨h1,h2⟩:=ih
  unfold argBest
  generalize argBest (fun a b => lt2 (f a) (f b)) n = m at *
  have tr: ∀ p q r: Int × Int,lt2 p q = true -> lt2 r q = false -> lt2 r p = false:=fun p q r a b => by
   unfold lt2 at *
   simp only [Bool.or_eq_true,Bool.and_eq_true,decide_eq_true_eq,beq_iff_eq,Bool.or_eq_false_iff,Bool.and_eq_false_iff,decide_eq_false_iff_not,beq_eq_false_iff_ne] at *
   omega
  cases hb: lt2 (f (n + 1)) (f m) with
  | true =>
   rw [if_pos rfl]
   refine ⟨Nat.le_refl _,fun i hi => ?_⟩
   by_cases q: i = n + 1
   ·subst q; unfold lt2; simp
   ·exact tr _ _ _ hb (h2 i (by omega))
  | false =>
   rw [if_neg (by decide)]
   refine ⟨by omega,fun i hi => ?_⟩
   by_cases q: i = n + 1
   ·subst q; exact hb
   ·exact h2 i (by omega)
end
section
variable {X: Cx}
def rMin2 (K: PySem.W.Frag): List V -> Hp -> VK -> Prop:=fun vs H Q => ∃ (a: Addr) (ts: List Addr) (ps: List (Int × Int)),vs = [V.ref a] /\ SqL K H a (ts.map V.ref) /\ 0 < ts.length /\ ts.length = ps.length /\ (∀ (i: Nat) t p,ts[i]? = some t -> ps[i]? = some p -> SqT K H t [.int p.1,.int p.2]) /\
 ∀ (i: Nat) t p,ts[i]? = some t -> ps[i]? = some p -> (∀ q ∈ ps,lt2 q p = false) -> Q (.ref t) H
theorem cr_min2 (hc: X.calm = true) (hu: X.A.units + 1 < cLine): CallR X (.builtin "min") (rMin2 X.K):=by
 intro pins s σ H vs us Q I r h
 obtain ⟨a,ts,ps,rfl,hs,hne,hlen,tup,q⟩:=h
 obtain ⟨its,rv,hl,_⟩:=I.list hs
 have el: its.length = ts.length:=by have:=rv.length; rw [List.length_map] at this; exact this.symm
 have item: ∀ (i: Nat) v,its[i]? = some v -> ∃ t p,ts[i]? = some t /\ ps[i]? = some p /\ v = .ref t /\ Two s.heap t p:=fun i v e => by
  have lt: i < ts.length:=by rw [<- el]; exact (List.getElem?_eq_some_iff.mp e).1
  obtain ⟨t,ht⟩: ∃ t,ts[i]? = some t:=⟨_,List.getElem?_eq_getElem lt⟩
  obtain ⟨p,hp⟩: ∃ p,ps[i]? = some p:=⟨_,List.getElem?_eq_getElem (by rw [<- hlen]; exact lt)⟩
  refine ⟨t,p,ht,hp,?_,?_⟩
  ·obtain ⟨u,hu1,r1⟩:=rv.get (i:=i) (x:=V.ref t) (by rw [List.getElem?_map,ht]; rfl)
   rw [e] at hu1
   exact (Option.some.inj hu1).trans r1
  ·obtain ⟨us',r2,tu,_⟩:=I.tuple (tup i t p ht hp)
   obtain ⟨t1,t2,rfl⟩:=Vals.int2 r2
   exact ⟨t1,t2,tu⟩
 rw [Vals.ref1 r]
 refine min_pairs (ps:=fun i => ps.getD i (0,0)) (I.ok.hd hc) hu hl.isList (by rw [List.size_toArray,el]; exact hne) (fun i v e => ?_) fun i v h' tk hi e kp => ?_
 ·rw [List.getElem?_toArray] at e
  obtain ⟨t,p,h1,h2,rfl,h3⟩:=item i v e
  exact ⟨t,rfl,by rw [List.getD_eq_getElem?_getD,h2]; exact h3⟩
 ·rw [List.getElem?_toArray] at e
  obtain ⟨t,p,h1,h2,rfl,h3⟩:=item i v e
  refine ⟨.ref t,H,I.kept kp,rfl,q i t p h1 h2 fun y hy => ?_⟩
  obtain ⟨j,hj⟩:=List.getElem?_of_mem hy
  have:=(argBest_pairs (fun i => ps.getD i (0,0)) (its.toArray.size - 1)).2 j (by have:=(List.getElem?_eq_some_iff.mp hj).1; rw [List.size_toArray]; omega)
  rw [<- hi] at this
  simp only [List.getD_eq_getElem?_getD,hj,h2] at this
  exact this
end
end Mp
end
section
namespace Mp
open PySem PySem.Spec PyProof.Rows L2 Xc
def top (i: Nat): Stmt:=PySem.Challenge.pw_markheights_s01_answers.main.body.getD i (.Pass ⟨0,0,0,0⟩)
structure Fd (K: PySem.W.Frag) (x qual: Str) (st: Stmt) (ps: List Str) where
 f: Addr
 fd: FuncData
 ok: Fun K x qual st f fd
 b: Binds K fd ps []
section
variable {P: Program} {w: World} {K: PySem.W.Frag} {mg: Str -> Option Value} {base: Heap}
theorem Fd.prove {x qual: Str} {st: Stmt} {N ps: List Str} {k: Nat} {sp: Sp} (F: Fd K x qual st ps) (S: FnScope N ps (defScope st)) (len: ∀ vs H Q E,sp vs H Q E -> vs.length = ps.length)
  (hbody: ∀ (cdv: Value) (A: Around) (outer: List Env) (s: Shared) (H: Hp) (vs: List V) (Q: VK) (E: XK),Room k (A.deeper (envOfC qual (defScope st) s.heap.objs.size F.f cdv)) -> sp vs H Q E ->
   ∃ t,PSs (cxOf (XC P w) P w K mg base N qual (defScope st) F.f cdv A outer s H E) (defBody st) t /\ t { nx:=fun _ H' => Q .non H',rt:=Q } (start N vs) H): FnOk P w K mg base (XC P w) (k + 1) F.f F.fd ps sp:=by
 obtain ⟨f,fd,ok,b⟩:=F
 obtain ⟨oc,od,kV,doc,pm,an,cdv,ct,osl,rfl,lk,hcd⟩:=ok.ex
 exact fn_of lk hcd S len fun A outer s H vs Q E hr hsp => hbody cdv A outer s H vs Q E hr hsp
end
theorem iteB {c: Bool} {A B: Prop} (h1: c = true -> A) (h2: c = false -> B): if c = true then A else B:=by
 cases c with
 | true => rw [if_pos rfl]; exact h1 rfl
 | false => rw [if_neg (by decide)]; exact h2 rfl
theorem chain_le {a b z: Int} {i: Nat} {σ: L2.St} {H: Hp} {Q: VK} (hv: σ[i]? = some (some (.int z))) (h: Q (.bl (decide (a <= z) && decide (z <= b))) H) :
  tChain (rI0 fun i j => .bl (decide (i <= j))) (rI0 fun i j => .bl (decide (i <= j))) (tC (.int a)) (tVar i) (tC (.int b)) σ H Q:=by
 refine ⟨_,hv,_,_,rfl,rfl,_,rfl,iteB (fun e => ?_) (fun e => ?_)⟩
 ·refine ⟨_,_,rfl,rfl,?_⟩
  rw [e] at h
  exact h
 ·rw [e] at h
  exact h
abbrev sLetter: Stmt:=top 39
abbrev sDigit: Stmt:=top 40
abbrev isL:=Mh.isLI
abbrev isD:=Mh.isDI
def spI1 (g: Int -> V): Sp:=fun vs H Q _ => ∃ z: Int,vs = [.int z] /\ Q (g z) H
section
variable {P: Program} {w: World} {K: PySem.W.Frag} {mg: Str -> Option Value} {base: Heap}
theorem sc_letter: FnScope ["sign"] ["sign"] (defScope sLetter):=⟨rfl,rfl,rfl,by decide +kernel,rfl,by decide +kernel,by decide +kernel⟩
theorem ok_letter (F: Fd K "is_letter" "is_letter" sLetter ["sign"]): FnOk P w K mg base (XC P w) 1 F.f F.fd ["sign"] (spI1 fun z => .bl (isL z)):=by
 refine F.prove sc_letter (fun vs H Q E h => ?_) (fun cdv A outer s H vs Q E hr h => ?_)
 ·obtain ⟨z,rfl,_⟩:=h
  rfl
 ·obtain ⟨z,rfl,k⟩:=h
  refine ⟨_,pss_one (ps_ret (pe_or (pe_chain op_le op_le pe_int (pv 0) pe_int) (pe_one (pe_chain op_le op_le pe_int (pv 0) pe_int)))),?_⟩
  refine chain_le rfl ⟨_,rfl,iteB (fun e => ?_) (fun e => chain_le rfl ?_)⟩
  ·have: isL z = true:=by unfold isL Mh.isLI; rw [e]; rfl
   rw [<- this]; exact k
  ·have: isL z = (decide (97 <= z) && decide (z <= 122)):=by unfold isL Mh.isLI; rw [e]; rfl
   rw [<- this]; exact k
theorem sc_digit: FnScope ["sign"] ["sign"] (defScope sDigit):=⟨rfl,rfl,rfl,by decide +kernel,rfl,by decide +kernel,by decide +kernel⟩
theorem ok_digit (F: Fd K "is_digit" "is_digit" sDigit ["sign"]): FnOk P w K mg base (XC P w) 1 F.f F.fd ["sign"] (spI1 fun z => .bl (isD z)):=by
 refine F.prove sc_digit (fun vs H Q E h => ?_) (fun cdv A outer s H vs Q E hr h => ?_)
 ·obtain ⟨z,rfl,_⟩:=h
  rfl
 ·obtain ⟨z,rfl,k⟩:=h
  exact ⟨_,pss_one (ps_ret (pe_chain op_le op_le pe_int (pv 0) pe_int)),chain_le rfl k⟩
end
abbrev sRefI: Stmt:=inClass (top 13) 0
abbrev sNoBI: Stmt:=inClass (top 14) 0
abbrev sNoMI: Stmt:=inClass (top 15) 0
abbrev sFltI: Stmt:=inClass (top 16) 0
def But (l: List Addr) (H H': Hp): Prop:=∀ b o,H b = some o -> b ∉ l -> H' b = some o
theorem But.refl (l: List Addr) (H: Hp): But l H H:=fun _ _ e _ => e
theorem But.trans {l: List Addr} {H H1 H2: Hp} (a: But l H H1) (b: But l H1 H2): But l H H2:=fun c o e n => b c o (a c o e n) n
theorem But.mono {l m: List Addr} {H H': Hp} (h: But l H H') (s: ∀ a ∈ l,a ∈ m): But m H H':=fun b o e n => h b o e fun z => n (s b z)
def ToldNew (K: PySem.W.Frag) (R: Addr) (H: Hp) (a: Addr) (ns: List Int): Prop:=∃ C own d l,H a = some (xnew a C (some d)) /\ XCls K C own /\ (C = R \/ R ∈ own) /\ NoAttr K C "told" /\ H d = some (.xd [("told",.ref l)]) /\ H l = some (.lst (ns.map V.int))
def Told (K: PySem.W.Frag) (R: Addr) (H: Hp) (a: Addr) (ns: List Int): Prop:=∃ C own d l,H a = some (exc a C (some d)) /\ XCls K C own /\ (C = R \/ R ∈ own) /\ NoAttr K C "told" /\ H d = some (.xd [("told",.ref l)]) /\ H l = some (.lst (ns.map V.int))
theorem upd_new {H: Hp} {a: Addr} {o: HO} (h: H a = none): ∀ b u,H b = some u -> upd H a o b = some u:=fun b u e => by rw [upd_ne (ne_of_none e h)]; exact e
def spRefI (K: PySem.W.Frag): Sp:=fun vs H Q _ => ∃ (a C: Addr) (own: List Addr) (y: V),vs = [.ref a,y] /\ H a = some (xnew a C none) /\ XCls K C own /\ NoAttr K C "told" /\
 ∀ (d: Addr) (H': Hp),H' a = some (xnew a C (some d)) -> H' d = some (.xd [("told",y)]) -> But [a] H H' -> Q .non H'
section
variable {P: Program} {w: World} {K: PySem.W.Frag} {mg: Str -> Option Value} {base: Heap}
theorem sc_refI: FnScope ["self","told"] ["self","told"] (defScope sRefI):=⟨rfl,rfl,rfl,by decide +kernel,rfl,by decide +kernel,by decide +kernel⟩
theorem ok_refI (F: Fd K "__init__" "Refusal.__init__" sRefI ["self","told"]): FnOk P w K mg base (XC P w) 1 F.f F.fd ["self","told"] (spRefI K):=by
 refine F.prove sc_refI (fun vs H Q E h => ?_) (fun cdv A outer s H vs Q E hr h => ?_)
 ·obtain ⟨a,C,own,y,rfl,_⟩:=h
  rfl
 ·obtain ⟨a,C,own,y,rfl,ha,c,n,k⟩:=h
  refine ⟨_,pss_one (ps_xfld (pv 0) (pv 1) rfl),?_⟩
  refine ⟨_,rfl,_,rfl,a,C,own,rfl,ha,c,n,fun d hd ne => k d _ (by rw [upd_ne (Ne.symm ne)]; exact upd_same) upd_same fun b o e nb => ?_⟩
  rw [upd_ne (ne_of_none e hd),upd_ne (by simpa using nb)]
  exact e
end
end Mp
end
section
namespace Mp
open PySem PySem.Spec PyProof.Rows L2 Xc
structure XC1 (K: PySem.W.Frag) (mg: Str -> Option Value) (R: Addr) (x: Str) (st: Stmt) (qual: Str) (ps: List Str) where
 C: Addr
 init: Fd K "__init__" qual st ps
 made: XMk K C [R] init.f
 mgC: mg x = some (.ref C)
 noT: NoAttr K C "told"
structure TxR (K: PySem.W.Frag) (mg: Str -> Option Value) where
 R: Addr
 refI: Fd K "__init__" "Refusal.__init__" sRefI ["self","told"]
 mgR: mg "Refusal" = some (.ref R)
 cm: CMeth K R "__init__" refI.f
 cR: XCls K R []
 noBook: XC1 K mg R "NoBook" sNoBI "NoBook.__init__" ["self"]
 noMark: XC1 K mg R "NoMark" sNoMI "NoMark.__init__" ["self"]
 fault: XC1 K mg R "AtFault" sFltI "AtFault.__init__" ["self","kind","place","more"]
section
variable {P: Program} {w: World} {K: PySem.W.Frag} {mg: Str -> Option Value} {base: Heap}
def spFltI (K: PySem.W.Frag) (R: Addr): Sp:=fun vs H Q _ => ∃ (a C m: Addr) (own: List Addr) (k p: Int) (ms: List Int),vs = [.ref a,.int k,.int p,.ref m] /\ H a = some (xnew a C none) /\ XCls K C own /\ (C = R \/ R ∈ own) /\ NoAttr K C "told" /\
 H m = some (.lst (ms.map V.int)) /\ ms.length <= 5000 /\ ∀ H': Hp,ToldNew K R H' a (-6 :: k :: p :: ms) -> But [a] H H' -> Q .non H'
theorem sc_fltI: FnScope ["self","kind","place","more"] ["self","kind","place","more"] (defScope sFltI):=⟨rfl,rfl,rfl,by decide +kernel,rfl,by decide +kernel,by decide +kernel⟩
theorem ok_fltI (T: TxR K mg): FnOk P w K mg base (XC P w) 2 T.fault.init.f T.fault.init.fd ["self","kind","place","more"] (spFltI K T.R):=by
 have G: FnOk P w K mg base (XC P w) 1 T.refI.f T.refI.fd ["self","told"] (spRefI K):=ok_refI T.refI
 refine T.fault.init.prove sc_fltI (fun vs H Q E h => ?_) (fun cdv A outer s H vs Q E hr h => ?_)
 ·obtain ⟨a,C,m,own,k,p,ms,rfl,_⟩:=h
  rfl
 ·obtain ⟨a,C,m,own,k,p,ms,rfl,ha,c,isR,nT,hm,hl,kk⟩:=h
  refine ⟨_,pss_one (ps_expr (pe_cmeth rfl T.mgR T.cm G hr T.refI.b passX (pa_cons (pv 0) (pa_cons (pe_op op_cat (pe_lst (pa_cons (pe_un un_neg pe_int) (pa_cons (pv 1) (pa_cons (pv 2) pa_nil)))) (pv 3)) pa_nil)))),?_⟩
  refine ⟨_,rfl,_,rfl,_,rfl,_,rfl,(by show 3 <= sizeLine; decide),fun l hl0 => ?_⟩
  have hm1:=upd_new (o:=HO.lst [V.int (-6),V.int k,V.int p]) hl0 m _ hm
  refine ⟨_,rfl,l,m,_,_,rfl,rfl,upd_same,hm1,(by rw [List.length_map]; show 3 + ms.length <= sizeLine; exact Nat.le_trans (Nat.add_le_add_left hl 3) (by decide)),fun q hq => ?_⟩
  have ha1:=upd_new (o:=HO.lst [V.int (-6),V.int k,V.int p]) hl0 a _ ha
  have ha2:=upd_new (o:=HO.lst ([V.int (-6),V.int k,V.int p] ++ ms.map V.int)) hq a _ ha1
  refine ⟨a,C,own,.ref q,rfl,ha2,c,nT,fun d H' e1 e2 b => ?_⟩
  have qa: q ≠ a:=fun z => by rw [z,ha1] at hq; cases hq
  refine kk H' ⟨C,own,d,q,e1,c,isR,nT,e2,b q _ upd_same (by simpa using qa)⟩ fun b' o e nb => b b' o (upd_new hq _ _ (upd_new hl0 _ _ e)) nb
end
end Mp
end
section
namespace Mp
open PySem PySem.Spec PyProof.Rows L2 Xc
open Mh (codes sgn cur)
theorem bo_len: bootBuiltins "len" = some (.builtin "len"):=by decide +kernel
theorem bo_ord: bootBuiltins "ord" = some (.builtin "ord"):=by decide +kernel
theorem bo_tuple: bootBuiltins "tuple" = some (.type "tuple"):=by decide +kernel
theorem bo_list: bootBuiltins "list" = some (.type "list"):=by decide +kernel
theorem pe_gi {X: Cx} {x: Str} {z: Int} {pos: Pos} (hg: Gl X x) (h: ∃ t,X.mg x = some (.int z t)) (hd: (x == ("__debug__": Str)) = false:=by decide): PE X (.Name x pos) (tC (.int z)) :=
 let ⟨t,e⟩:=h
 pe_glob (v:=.int z) hg e ⟨t,rfl⟩ hd
abbrev sWordI: Stmt:=inClass (top 36) 0
abbrev sMarkI: Stmt:=inClass (top 37) 0
abbrev sOverI: Stmt:=inClass (top 38) 0
abbrev sRd (j: Nat): Stmt:=inClass (top 41) j
structure Md (K: PySem.W.Frag) (C: Addr) (x qual: Str) (st: Stmt) (ps: List Str) extends Fd K x qual st ps where
 m: Meth K C x f
structure TxG (K: PySem.W.Frag) (mg: Str -> Option Value) extends TxR K mg where
 letter: Fd K "is_letter" "is_letter" sLetter ["sign"]
 mgLetter: mg "is_letter" = some (.ref letter.f)
 kpLetter: PySem.W.keepIn K (.ref letter.f) = true
 digit: Fd K "is_digit" "is_digit" sDigit ["sign"]
 mgDigit: mg "is_digit" = some (.ref digit.f)
 kpDigit: PySem.W.keepIn K (.ref digit.f) = true
 kindG: ∃ t,mg "KIND_GRAMMAR" = some (.int 1 t)
 longest: ∃ t,mg "LONGEST_NAME" = some (.int 16 t)
 most: ∃ t,mg "MOST_DIGITS" = some (.int 4 t)
 minus: ∃ t,mg "MINUS" = some (.int 45 t)
 point: ∃ t,mg "POINT" = some (.int 46 t)
 behind: ∃ t,mg "BEHIND_THE_END" = some (.int (-1) t)
 lenN: mg "len" = none
 ordN: mg "ord" = none
 tupleN: mg "tuple" = none
 wordC: Addr
 wordI: Fd K "__init__" "Word.__init__" sWordI ["self","place","signs"]
 wordMk: Mk K wordC wordI.f
 mgWord: mg "Word" = some (.ref wordC)
 wordCl: Cls K wordC
 wordP: NoAttr K wordC "place"
 wordS: NoAttr K wordC "signs"
 rd: Addr
 rdI: Fd K "__init__" "Reader.__init__" (sRd 0) ["self","text"]
 rdMk: Mk K rd rdI.f
 mgRd: mg "Reader" = some (.ref rd)
 rdCl: Cls K rd
 rdT: NoAttr K rd "text"
 rdA: NoAttr K rd "at"
 atEnd: Md K rd "at_end" "Reader.at_end" (sRd 1) ["self"]
 signM: Md K rd "sign" "Reader.sign" (sRd 2) ["self"]
 stepM: Md K rd "step" "Reader.step" (sRd 3) ["self","fits"]
 wordFrom: Md K rd "word_from" "Reader.word_from" (sRd 4) ["self","place"]
 written: Md K rd "take_written" "Reader.take_written" (sRd 5) ["self","written"]
 takeName: Md K rd "take_name" "Reader.take_name" (sRd 6) ["self"]
 takeDigits: Md K rd "take_digits" "Reader.take_digits" (sRd 7) ["self"]
 takeHeight: Md K rd "take_height" "Reader.take_height" (sRd 8) ["self"]
def rf (tx: Addr) (k: Nat): List (Str × V):=[("text",.ref tx),("at",.int k)]
structure RdAt (C: Addr) (H: Hp) (r tx: Addr) (b: Tide.Bytes) (k: Nat): Prop where
 ins: ∃ dx,H r = some (.ins C dx (rf tx k))
 txt: H tx = some (.lst ((codes b).map V.int))
 le: k <= b.length
def WordAt (C: Addr) (H: Hp) (w: Addr) (p: Nat) (n: Tide.Bytes): Prop:=∃ dx t,H w = some (.ins C dx [("place",.int p),("signs",.ref t)]) /\ H t = some (.tup ((codes n).map V.int))
theorem RdAt.ne {C: Addr} {H: Hp} {r tx: Addr} {b: Tide.Bytes} {k: Nat} (R: RdAt C H r tx b k): tx ≠ r:=by
 obtain ⟨dx,e⟩:=R.ins
 exact ne_of R.txt e (by intro z; cases z)
section
variable {P: Program} {w: World} {K: PySem.W.Frag} {mg: Str -> Option Value} {base: Heap}
def spRdI (C: Addr): Sp:=fun vs H Q _ => ∃ (r dx tx: Addr),vs = [.ref r,.ref tx] /\ H r = some (.ins C dx []) /\ ∀ H': Hp,H' r = some (.ins C dx (rf tx 0)) -> But [r] H H' -> Q .non H'
theorem sc_rdI: FnScope ["self","text"] ["self","text"] (defScope (sRd 0)):=⟨rfl,rfl,rfl,by decide +kernel,rfl,by decide +kernel,by decide +kernel⟩
theorem ok_rdI (T: TxG K mg): FnOk P w K mg base (XC P w) 1 T.rdI.f T.rdI.fd ["self","text"] (spRdI T.rd):=by
 refine T.rdI.prove sc_rdI (fun vs H Q E h => ?_) (fun cdv A outer s H vs Q E hr h => ?_)
 ·obtain ⟨r,dx,tx,rfl,_⟩:=h
  rfl
 ·obtain ⟨r,dx,tx,rfl,hr0,k⟩:=h
  refine ⟨_,pss_cons (ps_fld (pv 0) (pv 1) rfl) (pss_one (ps_fld (pv 0) pe_int rfl)),?_⟩
  refine ⟨_,rfl,_,rfl,r,T.rd,dx,_,rfl,hr0,T.rdCl,T.rdT,(by show 0 < 1000; decide),?_⟩
  refine ⟨_,rfl,r,T.rd,dx,_,rfl,upd_same,T.rdCl,T.rdA,(by show 1 < 1000; decide),?_⟩
  refine k _ (by rw [upd_same]; rfl) fun b o e n => ?_
  have n: b ≠ r:=by simpa using n
  rw [upd_ne n,upd_ne n]
  exact e
def spEnd (C: Addr): Sp:=fun vs H Q _ => ∃ (r tx: Addr) (b: Tide.Bytes) (k: Nat),vs = [.ref r] /\ RdAt C H r tx b k /\ Q (.bl (decide (k = b.length))) H
theorem sc_end: FnScope ["self"] ["self"] (defScope (sRd 1)):=⟨rfl,rfl,rfl,by decide +kernel,rfl,by decide +kernel,by decide +kernel⟩
theorem dec_nat {k n: Nat}: decide (V.int (k: Int) = V.int (n: Int)) = decide (k = n):=by
 by_cases h: k = n
 ·subst h; simp
 ·have: ¬ V.int (k: Int) = V.int (n: Int):=fun z => h (by injection z with z; omega)
  rw [decide_eq_false this,decide_eq_false h]
theorem ok_end (T: TxG K mg): FnOk P w K mg base (XC P w) 1 T.atEnd.f T.atEnd.fd ["self"] (spEnd T.rd):=by
 refine T.atEnd.prove sc_end (fun vs H Q E h => ?_) (fun cdv A outer s H vs Q E hr h => ?_)
 ·obtain ⟨r,tx,b,k,rfl,_⟩:=h
  rfl
 ·obtain ⟨r,tx,b,k,rfl,R,kk⟩:=h
  obtain ⟨dx,e⟩:=R.ins
  refine ⟨_,pss_one (ps_ret (pe_cmpR op_eq (pe_fld (pv 0) rfl) (pe_callB call_len_seq (by rfl) T.lenN bo_len (pa_cons (pe_fld (pv 0) rfl) pa_nil)) (nomark _))),?_⟩
  refine ⟨_,rfl,r,T.rd,dx,_,_,rfl,e,T.rdCl,T.rdA,rfl,_,rfl,r,T.rd,dx,_,_,rfl,e,T.rdCl,T.rdT,rfl,tx,_,rfl,.inl (SqL.of R.txt),rfl,?_⟩
  rw [List.length_map,Mh.codes_length,dec_nat]
  exact kk
def spSign (C: Addr): Sp:=fun vs H Q _ => ∃ (r tx: Addr) (b: Tide.Bytes) (k: Nat),vs = [.ref r] /\ RdAt C H r tx b k /\ Q (.int (sgn b k)) H
theorem sc_sign: FnScope ["self"] ["self"] (defScope (sRd 2)):=⟨rfl,rfl,rfl,by decide +kernel,rfl,by decide +kernel,by decide +kernel⟩
theorem ok_sign (T: TxG K mg): FnOk P w K mg base (XC P w) 2 T.signM.f T.signM.fd ["self"] (spSign T.rd):=by
 have G: FnOk P w K mg base (XC P w) 1 T.atEnd.f T.atEnd.fd ["self"] (spEnd T.rd):=ok_end T
 refine T.signM.prove sc_sign (fun vs H Q E h => ?_) (fun cdv A outer s H vs Q E hr h => ?_)
 ·obtain ⟨r,tx,b,k,rfl,_⟩:=h
  rfl
 ·obtain ⟨r,tx,b,k,rfl,R,kk⟩:=h
  obtain ⟨dx,e⟩:=R.ins
  refine ⟨_,pss_one (ps_ret (pe_ifExp (pt_val (pe_meth0 (pv 0) T.rdCl T.atEnd.m G hr T.atEnd.b .nil passX)) (pe_gi rfl T.behind) (pe_ix ix_list (pe_fld (pv 0) rfl) (pe_fld (pv 0) rfl) (fun _ _ => rfl)))),?_⟩
  refine ⟨_,rfl,r,dx,_,rfl,e,rfl,r,tx,b,k,rfl,R,_,rfl,iteB (fun q => ?_) (fun q => ?_)⟩
  ·rw [Mh.sgn_end (of_decide_eq_true q)] at kk
   exact kk
  ·have lt: k < b.length:=Nat.lt_of_le_of_ne R.le (of_decide_eq_false q)
   refine ⟨_,rfl,r,T.rd,dx,_,_,rfl,e,T.rdCl,T.rdT,rfl,_,rfl,r,T.rd,dx,_,_,rfl,e,T.rdCl,T.rdA,rfl,tx,_,_,_,rfl,rfl,SqL.of R.txt,atI_nat (j:=k) (v:=V.int (sgn b k)) (by rw [List.getElem?_map,Mh.sgn_codes lt]; rfl),kk⟩
theorem raisesX {N: List Str} {qual: Str} {scope: Scope} {f: Addr} {cd: Value} {A: Around} {outer: List Env} {s0: Shared} {H0: Hp} {E: XK}: Raises (cxOf (XC P w) P w K mg base N qual scope f cd A outer s0 H0 E) E :=
 fun _ _ _ _ _ _ _ _ I ha tb hE => leaves I ha tb hE
theorem ToldNew.raise {R: Addr} {H: Hp} {a: Addr} {ns: List Int} (h: ToldNew K R H a ns): ∃ C own d,XCls K C own /\ H a = some (xnew a C d) /\ Told K R (upd H a (exc a C d)) a ns /\ But [a] H (upd H a (exc a C d)):=by
 obtain ⟨C,own,d,l,h1,c,isR,nT,h2,h3⟩:=h
 have n1: d ≠ a:=ne_of h2 h1 (by intro z; cases z)
 have n2: l ≠ a:=ne_of h3 h1 (by intro z; cases z)
 exact ⟨C,own,some d,c,h1,⟨C,own,d,l,upd_same,c,isR,nT,by rw [upd_ne n1]; exact h2,by rw [upd_ne n2]; exact h3⟩,fun b o e n => by rw [upd_ne (by simpa using n)]; exact e⟩
theorem flt_end (T: TxR K mg) {H: Hp} {E: XK} {k p: Int} {m: Addr} {ms: List Int} (hm: H m = some (.lst (ms.map V.int))) (hl: ms.length <= 5000)
  (hE: ∀ a H',Told K T.R H' a (-6 :: k :: p :: ms) -> But [] H H' -> E (.ref a) none H') :
  ([V.int k,.int p,.ref m]: List V).length <= 1000 /\ ∀ x,H x = none -> spFltI K T.R (.ref x :: [V.int k,.int p,.ref m]) (upd H x (xnew x T.fault.C none))
   (fun v H2 => v = .non /\ ∃ a C own d,V.ref x = .ref a /\ XCls K C own /\ H2 a = some (xnew a C d) /\ E (.ref a) none (upd H2 a (exc a C d))) E:=by
 refine ⟨by show 3 <= 1000; decide,fun x hx => ?_⟩
 refine ⟨x,T.fault.C,m,[T.R],k,p,ms,rfl,upd_same,T.fault.made.toXCls,.inr (by simp),T.fault.noT,upd_new hx _ _ hm,hl,fun H' t b => ⟨rfl,?_⟩⟩
 obtain ⟨C,own,d,c,h1,t2,b2⟩:=t.raise
 refine ⟨x,C,own,d,rfl,c,h1,hE x _ t2 fun b' o e _ => ?_⟩
 have nx: b' ≠ x:=ne_of_none e hx
 exact b2 _ _ (b _ _ (upd_new hx _ _ e) (by simpa using nx)) (by simpa using nx)
def spStep (K: PySem.W.Frag) (R C: Addr): Sp:=fun vs H Q E => ∃ (r tx: Addr) (b: Tide.Bytes) (k: Nat) (f: Bool),vs = [.ref r,.bl f] /\ RdAt C H r tx b k /\ (f = true -> k < b.length) /\
 (f = true -> ∀ H',RdAt C H' r tx b (k + 1) -> But [r] H H' -> Q .non H') /\ (f = false -> ∀ a H',Told K R H' a [-6,1,k] -> But [] H H' -> E (.ref a) none H')
theorem sc_step: FnScope ["self","fits"] ["self","fits"] (defScope (sRd 3)):=⟨rfl,rfl,rfl,by decide +kernel,rfl,by decide +kernel,by decide +kernel⟩
theorem RdAt.on {C: Addr} {H H': Hp} {r tx: Addr} {b: Tide.Bytes} {k j: Nat} (R: RdAt C H r tx b k) (hj: j <= b.length) (h1: ∃ dx,H' r = some (.ins C dx (rf tx j))) (h2: But [r] H H'): RdAt C H' r tx b j :=
 ⟨h1,h2 _ _ R.txt (by simpa using R.ne),hj⟩
theorem ok_step (T: TxG K mg): FnOk P w K mg base (XC P w) 4 T.stepM.f T.stepM.fd ["self","fits"] (spStep K T.R T.rd):=by
 have G: FnOk P w K mg base (XC P w) 2 T.fault.init.f T.fault.init.fd ["self","kind","place","more"] (spFltI K T.R):=ok_fltI T.toTxR
 refine T.stepM.prove sc_step (fun vs H Q E h => ?_) (fun cdv A outer s H vs Q E hr h => ?_)
 ·obtain ⟨r,tx,b,k,f,rfl,_⟩:=h
  rfl
 ·obtain ⟨r,tx,b,k,f,rfl,R,lt,k1,k2⟩:=h
  obtain ⟨dx,e⟩:=R.ins
  refine ⟨_,pss_cons (ps_if (pt_not (pt_val (pv 1))) (pss_one (ps_raise rfl raisesX (pe_xmake T.fault.made G hr rfl T.fault.mgC T.fault.init.b passX (pa_cons (pe_gi rfl T.kindG) (pa_cons (pe_fld (pv 0) rfl) (pa_cons (pe_lst pa_nil) pa_nil)))))) pss_nil)
   (pss_one (ps_fldaug (pv 0) pe_int in_add)),?_⟩
  refine ⟨_,rfl,f,rfl,iteB (fun q => ?_) (fun q => ?_)⟩
  ·have q: f = false:=by simpa using q
   refine ⟨_,rfl,r,T.rd,dx,_,_,rfl,e,T.rdCl,T.rdA,rfl,Nat.zero_le _,fun l hl => ?_⟩
   exact flt_end T.toTxR (ms:=[]) upd_same (Nat.zero_le _) fun a H' t b => k2 q a H' t fun b' o e' _ => b _ _ (upd_new hl _ _ e') (by simp)
  ·have q: f = true:=by simpa using q
   refine ⟨_,rfl,r,T.rd,dx,_,_,rfl,e,T.rdCl,T.rdA,rfl,_,_,rfl,rfl,dx,_,e,(by show 2 < 1000; decide),?_⟩
   have b1: But [r] H (upd H r (.ins T.rd dx (putF "at" (V.int ((k: Int) + 1)) (rf tx k)))):=fun b' o e' n => by rw [upd_ne (by simpa using n)]; exact e'
   exact k1 q _ (R.on (lt q) ⟨dx,by rw [upd_same]; rfl⟩ b1) b1
end
end Mp
end
section
namespace Mp
open PySem PySem.Spec PyProof.Rows L2 Xc
open Mh (codes sgn cur piece)
theorem cut_nat {xs: List V} {p k: Nat} (hp: p <= k) (hk: k <= xs.length): cutV xs (some (p: Int)) (some (k: Int)) = (xs.drop p).take (k - p):=by
 unfold cutV
 rw [HT.sIx_nat,HT.sIx_nat,Nat.min_eq_left hk,Nat.min_eq_left (Nat.le_trans hp hk)]
theorem cut_piece {b: Tide.Bytes} {p k: Nat} (hp: p <= k) (hk: k <= b.length): cutV ((codes b).map V.int) (some (p: Int)) (some (k: Int)) = (codes (piece b p k)).map V.int:=by
 rw [cut_nat hp (by rw [List.length_map,Mh.codes_length]; exact hk)]
 unfold piece codes
 simp only [List.map_take,List.map_drop]
theorem for_str {x: Str} {g: TG} {tb: TS} {D: Ends} {σ: L2.St} {H: Hp} (Pv: Nat -> L2.St -> Hp -> Prop) (h0: Pv 0 σ H)
  (hs: ∀ i c σ H,x.cps[i]? = some c -> Pv i σ H -> g (.str ⟨#[c]⟩) σ H fun σ2 H2 => tb { D with nx:=Pv (i + 1),ct:=Pv (i + 1),bk:=D.nx } σ2 H2) (hd: ∀ σ H,Pv x.cps.size σ H -> D.nx σ H) :
  ∃ W: Nat -> Nat -> L2.St -> Hp -> Prop,(∃ m,W 0 m σ H) /\ ∀ i m σ H,W i m σ H ->
   ((Its x).stop i H /\ D.nx σ H) \/ ((Its x).go i H /\ ∃ N: L2.St -> Hp -> Prop,(∀ σ' H',N σ' H' -> ∃ m',m' < m /\ W (i + 1) m' σ' H') /\ ∀ v H',(Its x).yld i H v H' -> g v σ H' fun σ2 H2 => tb { D with nx:=N,ct:=N,bk:=D.nx } σ2 H2):=by
 refine ⟨fun i m σ H => m = x.cps.size - i /\ i <= x.cps.size /\ Pv i σ H,⟨_,rfl,Nat.zero_le _,h0⟩,?_⟩
 rintro i m σ H ⟨rfl,hi,p⟩
 by_cases lt: i < x.cps.size
 ·refine .inr ⟨lt,Pv (i + 1),fun σ' H' p' => ⟨x.cps.size - (i + 1),by omega,rfl,lt,p'⟩,fun v H' y => ?_⟩
  obtain ⟨rfl,c,hc,rfl⟩:=y
  exact hs i c σ _ hc p
 ·have e: i = x.cps.size:=by omega
  subst e
  exact .inl ⟨Nat.le_refl _,hd σ H p⟩
section
variable {P: Program} {w: World} {K: PySem.W.Frag} {mg: Str -> Option Value} {base: Heap}
def spWordI (C: Addr): Sp:=fun vs H Q _ => ∃ (p dx: Addr) (y1 y2: V),vs = [.ref p,y1,y2] /\ H p = some (.ins C dx []) /\ ∀ H': Hp,H' p = some (.ins C dx [("place",y1),("signs",y2)]) -> But [p] H H' -> Q .non H'
theorem sc_wordI: FnScope ["self","place","signs"] ["self","place","signs"] (defScope sWordI):=⟨rfl,rfl,rfl,by decide +kernel,rfl,by decide +kernel,by decide +kernel⟩
theorem ok_wordI (T: TxG K mg): FnOk P w K mg base (XC P w) 1 T.wordI.f T.wordI.fd ["self","place","signs"] (spWordI T.wordC):=by
 refine T.wordI.prove sc_wordI (fun vs H Q E h => ?_) (fun cdv A outer s H vs Q E hr h => ?_)
 ·obtain ⟨r,dx,y1,y2,rfl,_⟩:=h
  rfl
 ·obtain ⟨r,dx,y1,y2,rfl,hr0,k⟩:=h
  refine ⟨_,pss_cons (ps_fld (pv 0) (pv 1) rfl) (pss_one (ps_fld (pv 0) (pv 2) rfl)),?_⟩
  refine ⟨_,rfl,_,rfl,r,T.wordC,dx,_,rfl,hr0,T.wordCl,T.wordP,(by show 0 < 1000; decide),?_⟩
  refine ⟨_,rfl,_,rfl,r,T.wordC,dx,_,rfl,upd_same,T.wordCl,T.wordS,(by show 1 < 1000; decide),?_⟩
  refine k _ (by rw [upd_same]; rfl) fun b o e n => ?_
  have n: b ≠ r:=by simpa using n
  rw [upd_ne n,upd_ne n]
  exact e
def spWF (C Cw: Addr): Sp:=fun vs H Q _ => ∃ (r tx: Addr) (b: Tide.Bytes) (k p: Nat),vs = [.ref r,.int p] /\ RdAt C H r tx b k /\ p <= k /\ ∀ w' H',WordAt Cw H' w' p (piece b p k) -> H w' = none -> But [] H H' -> Q (.ref w') H'
theorem sc_wf: FnScope ["self","place"] ["self","place"] (defScope (sRd 4)):=⟨rfl,rfl,rfl,by decide +kernel,rfl,by decide +kernel,by decide +kernel⟩
theorem ok_wf (T: TxG K mg): FnOk P w K mg base (XC P w) 3 T.wordFrom.f T.wordFrom.fd ["self","place"] (spWF T.rd T.wordC):=by
 have G: FnOk P w K mg base (XC P w) 1 T.wordI.f T.wordI.fd ["self","place","signs"] (spWordI T.wordC):=ok_wordI T
 refine T.wordFrom.prove sc_wf (fun vs H Q E h => ?_) (fun cdv A outer s H vs Q E hr h => ?_)
 ·obtain ⟨r,tx,b,k,p,rfl,_⟩:=h
  rfl
 ·obtain ⟨r,tx,b,k,p,rfl,R,hp,kk⟩:=h
  obtain ⟨dx,e⟩:=R.ins
  refine ⟨_,pss_one (ps_ret (pe_make T.wordMk G hr rfl T.mgWord T.wordI.b .nil passX (pa_cons (pv 1) (pa_cons (pe_callTy call_tuple_of (by rfl) T.tupleN bo_tuple (pa_cons (pe_slice sl_list (pe_fld (pv 0) rfl) (po_some (pv 1)) (po_some (pe_fld (pv 0) rfl))) pa_nil)) pa_nil)))),?_⟩
  refine ⟨_,rfl,_,rfl,r,T.rd,dx,_,_,rfl,e,T.rdCl,T.rdT,rfl,_,rfl,_,rfl,_,rfl,r,T.rd,dx,_,_,rfl,e,T.rdCl,T.rdA,rfl,_,rfl,tx,_,rfl,SqL.of R.txt,fun l hl => ?_⟩
  refine ⟨l,_,rfl,.inl ⟨SqL.of upd_same,fun t ht => ?_⟩⟩
  intro x d1 hx hd1 ne
  refine ⟨x,d1,_,_,rfl,upd_same,fun H' e1 b1 => ⟨rfl,?_⟩⟩
  have gS: Same H (upd (upd H l (.lst (cutV ((codes b).map V.int) (some (p: Int)) (some (k: Int))))) t (.tup (cutV ((codes b).map V.int) (some (p: Int)) (some (k: Int))))):=fun b' o e' => upd_new ht _ _ (upd_new hl _ _ e')
  have hx0: H x = Option.none:=gS.free hx
  refine kk x H' ⟨d1,t,e1,?_⟩ hx0 fun b' o e' _ => ?_
  ·have nt: t ≠ x:=fun z => by rw [<- z,upd_same] at hx; cases hx
   have nd: t ≠ d1:=fun z => by rw [<- z,upd_same] at hd1; cases hd1
   rw [<- cut_piece hp R.le]
   exact b1 t _ (by rw [upd_ne nt,upd_ne nd]; exact upd_same) (by simpa using nt)
  ·have g1:=gS _ _ e'
   have n1:=ne_of_none g1 hx
   exact b1 b' o (by rw [upd_ne n1,upd_ne (ne_of_none g1 hd1)]; exact g1) (by simpa using n1)
def spWr (K: PySem.W.Frag) (R C: Addr): Sp:=fun vs H Q E => ∃ (r tx: Addr) (b: Tide.Bytes) (k: Nat) (x: Str) (cs: Tide.Bytes),vs = [.ref r,.str x] /\ x.cps.toList = cs.map UInt8.toNat /\ RdAt C H r tx b k /\
 (∀ j,Tide.lit cs (cur b k) = .ok (cur b j) -> ∀ H',RdAt C H' r tx b j -> But [r] H H' -> Q .non H') /\ (∀ p,Tide.lit cs (cur b k) = .error p -> ∀ a H',Told K R H' a [-6,1,p] -> But [r] H H' -> E (.ref a) none H')
theorem sc_wr: FnScope ["self","written","letter"] ["self","written"] (defScope (sRd 5)):=⟨rfl,rfl,rfl,by decide +kernel,rfl,by decide +kernel,by decide +kernel⟩
theorem ok_wr (T: TxG K mg): FnOk P w K mg base (XC P w) 5 T.written.f T.written.fd ["self","written"] (spWr K T.R T.rd):=by
 have GS: FnOk P w K mg base (XC P w) 2 T.signM.f T.signM.fd ["self"] (spSign T.rd):=ok_sign T
 have GT: FnOk P w K mg base (XC P w) 4 T.stepM.f T.stepM.fd ["self","fits"] (spStep K T.R T.rd):=ok_step T
 refine T.written.prove sc_wr (fun vs H Q E h => ?_) (fun cdv A outer s H vs Q E hr h => ?_)
 ·obtain ⟨r,tx,b,k,x,cs,rfl,_⟩:=h
  rfl
 ·obtain ⟨r,tx,b,k,x,cs,rfl,hx,R,k1,k2⟩:=h
  have hr2: Room 2 _:=hr.mono (by decide)
  refine ⟨_,pss_one (ps_for PassesOwn.leaving rfl (pi_str (pv 1)) (pg_name (i:=2) sc_wr.nd rfl (Or.inl rfl))
   (pss_one (ps_expr (pe_meth (pv 0) T.rdCl T.stepM.m GT hr T.stepM.b .nil passX (pa_cons (pe_cmpR op_eq (pe_meth0 (pv 0) T.rdCl T.signM.m GS hr2 T.signM.b .nil passX) (pe_callB call_ord (by rfl) T.ordN bo_ord (pa_cons (pv 2) pa_nil)) (nomark _)) pa_nil))))),?_⟩
  have sz: x.cps.size = cs.length:=by rw [<- Array.length_toList,hx,List.length_map]
  refine ⟨_,rfl,x,rfl,for_str (fun i σ H' => ∃ v,σ = [some (.ref r),some (.str x),v] /\ i <= cs.length /\ RdAt T.rd H' r tx b (k + i) /\ But [r] H H' /\ Tide.lit cs (cur b k) = Tide.lit (cs.drop i) (cur b (k + i)))
   ⟨none,rfl,Nat.zero_le _,R,But.refl _ _,rfl⟩ ?_ ?_⟩
  ·rintro i c σ H1 hc ⟨v,rfl,hi,R1,b1,el⟩
   obtain ⟨dx,e⟩:=R1.ins
   obtain ⟨y,hy,ec⟩: ∃ y,cs[i]? = some y /\ c = y.toNat:=by
    rw [<- Array.getElem?_toList,hx,List.getElem?_map] at hc
    cases q: cs[i]? with
    | none => rw [q] at hc; cases hc
    | some y => rw [q] at hc; exact ⟨y,rfl,(Option.some.inj hc).symm⟩
   have li: i < cs.length:=(List.getElem?_eq_some_iff.mp hy).1
   have dr: cs.drop i = y :: cs.drop (i + 1):=by
    rw [List.drop_eq_getElem_cons li]
    rw [(List.getElem?_eq_some_iff.mp hy).2]
   rw [dr,Mh.lit_succ] at el
   refine ⟨_,rfl,r,dx,_,rfl,e,rfl,_,rfl,r,dx,_,rfl,e,rfl,r,tx,b,k + i,rfl,R1,_,rfl,_,rfl,rfl,rfl,?_⟩
   subst ec
   have ew: decide (V.int (sgn b (k + i)) = V.int ((y.toNat: Nat): Int)) = decide (b[k + i]? = some y):=by
    by_cases z: b[k + i]? = some y
    ·rw [decide_eq_true z,decide_eq_true (by rw [Mh.sgn_eq.mp z])]
    ·rw [decide_eq_false z,decide_eq_false fun q => z (Mh.sgn_eq.mpr (by injection q))]
   refine ⟨r,tx,b,k + i,decide (b[k + i]? = some y),(by rw [<- ew]; rfl),R1,fun z => (List.getElem?_eq_some_iff.mp (of_decide_eq_true z)).1,fun z H2 R2 b2 => ?_,fun z a H2 t b2 => ?_⟩
   ·rw [if_pos (of_decide_eq_true z)] at el
    exact ⟨_,rfl,li,R2,b1.trans b2,el⟩
   ·rw [if_neg (of_decide_eq_false z)] at el
    exact k2 _ el a H2 t (b1.trans (b2.mono (by simp)))
  ·rintro σ H1 ⟨v,rfl,hi,R1,b1,el⟩
   rw [sz] at el R1
   rw [List.drop_eq_nil_of_le (Nat.le_refl _),Mh.lit_zero] at el
   exact k1 _ el _ R1 b1
end
end Mp
end
section
namespace Mp
open PySem PySem.Spec PyProof.Rows L2 Xc
open Mh (codes sgn cur piece runEnd isLD)
section
variable {P: Program} {w: World} {K: PySem.W.Frag} {mg: Str -> Option Value} {base: Heap}
theorem isL_end {b: Tide.Bytes} {k: Nat} (le: k <= b.length) (h: isL (sgn b k) = true): k < b.length:=by
 refine Nat.lt_of_le_of_ne le fun e => ?_
 rw [Mh.sgn_end e] at h
 exact absurd h (by decide)
theorem isD_end {b: Tide.Bytes} {k: Nat} (le: k <= b.length) (h: isD (sgn b k) = true): k < b.length:=by
 refine Nat.lt_of_le_of_ne le fun e => ?_
 rw [Mh.sgn_end e] at h
 exact absurd h (by decide)
def spNm (K: PySem.W.Frag) (R C Cw: Addr): Sp:=fun vs H Q E => ∃ (r tx: Addr) (b: Tide.Bytes) (k: Nat),vs = [.ref r] /\ RdAt C H r tx b k /\
 (∀ n j,Tide.longName (cur b k) = .ok (n,cur b j) -> ∀ w' H',WordAt Cw H' w' k n -> RdAt C H' r tx b j -> H w' = none -> But [r] H H' -> Q (.ref w') H') /\
 (∀ p,Tide.longName (cur b k) = .error p -> ∀ a H',Told K R H' a [-6,1,p] -> But [r] H H' -> E (.ref a) none H')
theorem sc_nm: FnScope ["self","place"] ["self"] (defScope (sRd 6)):=⟨rfl,rfl,rfl,by decide +kernel,rfl,by decide +kernel,by decide +kernel⟩
theorem ok_nm (T: TxG K mg): FnOk P w K mg base (XC P w) 5 T.takeName.f T.takeName.fd ["self"] (spNm K T.R T.rd T.wordC):=by
 have GS: FnOk P w K mg base (XC P w) 2 T.signM.f T.signM.fd ["self"] (spSign T.rd):=ok_sign T
 have GT: FnOk P w K mg base (XC P w) 4 T.stepM.f T.stepM.fd ["self","fits"] (spStep K T.R T.rd):=ok_step T
 have GL: FnOk P w K mg base (XC P w) 1 T.letter.f T.letter.fd ["sign"] (spI1 fun z => .bl (isL z)):=ok_letter T.letter
 have GD: FnOk P w K mg base (XC P w) 1 T.digit.f T.digit.fd ["sign"] (spI1 fun z => .bl (isD z)):=ok_digit T.digit
 have GW: FnOk P w K mg base (XC P w) 3 T.wordFrom.f T.wordFrom.fd ["self","place"] (spWF T.rd T.wordC):=ok_wf T
 refine T.takeName.prove sc_nm (fun vs H Q E h => ?_) (fun cdv A outer s H vs Q E hr h => ?_)
 ·obtain ⟨r,tx,b,k,rfl,_⟩:=h
  rfl
 ·obtain ⟨r,tx,b,k,rfl,R,k1,k2⟩:=h
  obtain ⟨dx,e⟩:=R.ins
  have hr1: Room 1 _:=hr.mono (by decide)
  have hr2: Room 2 _:=hr.mono (by decide)
  have hr3: Room 3 _:=hr.mono (by decide)
  have ln:=Mh.longName_cur b k
  rw [Mh.next_letter] at ln
  refine ⟨_,pss_cons (ps_set (i:=1) sc_nm.nd rfl (Or.inl rfl) (pe_fld (pv 0) rfl))
   (pss_cons (ps_expr (pe_meth (pv 0) T.rdCl T.stepM.m GT hr T.stepM.b .nil passX (pa_cons (pe_call GL hr1 rfl T.mgLetter T.kpLetter T.letter.b .nil passX (pa_cons (pe_meth0 (pv 0) T.rdCl T.signM.m GS hr2 T.signM.b .nil passX) pa_nil)) pa_nil)))
   (pss_cons (ps_while PassesOwn.leaving (PW.pt (pw_and (pt_cmpR op_lt (pe_op op_sub (pe_fld (pv 0) rfl) (pv 1)) (pe_gi rfl T.longest) (nomark _))
     (pw_and1 (PW.pt (pw_or (pt_val (pe_call GL hr1 rfl T.mgLetter T.kpLetter T.letter.b .nil passX (pa_cons (pe_meth0 (pv 0) T.rdCl T.signM.m GS hr2 T.signM.b .nil passX) pa_nil)))
      (pw_or1 (pt_val (pe_call GD hr1 rfl T.mgDigit T.kpDigit T.digit.b .nil passX (pa_cons (pe_meth0 (pv 0) T.rdCl T.signM.m GS hr2 T.signM.b .nil passX) pa_nil))))))))) (pss_one (ps_fldaug (pv 0) pe_int in_add)))
   (pss_one (ps_ret (pe_meth (pv 0) T.rdCl T.wordFrom.m GW hr3 T.wordFrom.b .nil passX (pa_cons (pv 1) pa_nil)))))),?_⟩
  refine ⟨_,rfl,r,T.rd,dx,_,_,rfl,e,T.rdCl,T.rdA,rfl,?_⟩
  refine ⟨_,rfl,r,dx,_,rfl,e,rfl,_,rfl,r,dx,_,rfl,e,rfl,r,tx,b,k,rfl,R,_,rfl,?_⟩
  refine ⟨r,tx,b,k,isL (sgn b k),rfl,R,isL_end R.le,fun q H1 R1 b1 => ?good,fun q a H1 t b1 => ?bad⟩
  case bad =>
   have q: Mh.isLI (sgn b k) = false:=q
   rw [q,if_neg (by decide)] at ln
   exact k2 k ln a H1 t (b1.mono (by simp))
  case good =>
  have q: Mh.isLI (sgn b k) = true:=q
  rw [if_pos q] at ln
  have go1: runEnd isLD b 16 k = runEnd isLD b 15 (k + 1):=Mh.runEnd_go (q:=Mh.isLDI) Mh.isLD_byte (by unfold Mh.isLDI; rw [q]; rfl) (by decide)
  refine ⟨fun m σ H2 => ∃ j,σ = [some (.ref r),some (.int (k: Int))] /\ k + 1 <= j /\ j <= k + 16 /\ m = k + 16 - j /\ RdAt T.rd H2 r tx b j /\ But [r] H H2 /\ runEnd isLD b 16 k = runEnd isLD b (k + 16 - j) j,
   ⟨_,k + 1,rfl,Nat.le_refl _,by omega,rfl,R1,b1,by rw [go1,show k + 16 - (k + 1) = 15 by omega]⟩,?_⟩
  rintro m σ H2 ⟨j,rfl,h1,h2,rfl,R2,b2,er⟩
  obtain ⟨dx2,e2⟩:=R2.ins
  have fin: runEnd isLD b 16 k = j -> spWF T.rd T.wordC [.ref r,.int (k: Int)] H2 Q E:=fun z => by
   refine ⟨r,tx,b,j,k,rfl,R2,by omega,fun w' H3 wa hn b3 => ?_⟩
   rw [z] at ln
   have hn0: H w' = Option.none:=by
    cases q0: H w' with
    | none => rfl
    | some o =>
     by_cases wr: w' = r
     ·subst wr; rw [e2] at hn; cases hn
     ·rw [b2 _ _ q0 (by simpa using wr)] at hn; cases hn
   exact k1 _ j ln w' H3 wa ⟨⟨dx2,b3 _ _ e2 (by simp)⟩,b3 _ _ R2.txt (by simp),R2.le⟩ hn0 (b2.trans (b3.mono (by simp)))
  refine ⟨_,rfl,r,T.rd,dx2,_,_,rfl,e2,T.rdCl,T.rdA,rfl,_,rfl,_,_,rfl,rfl,_,_,rfl,rfl,_,rfl,iteB (fun q1 => ?_) (fun q1 => ?_)⟩
  ·have q1: (j: Int) - (k: Int) < 16:=of_decide_eq_true q1
   have next: isL (sgn b j) = true \/ isD (sgn b j) = true -> ∃ N: L2.St -> Hp -> Prop,(∀ σ' H',N σ' H' -> ∃ m',m' < k + 16 - j /\ ∃ j',σ' = [some (.ref r),some (.int (k: Int))] /\ k + 1 <= j' /\ j' <= k + 16 /\ m' = k + 16 - j' /\ RdAt T.rd H' r tx b j' /\ But [r] H H' /\ runEnd isLD b 16 k = runEnd isLD b (k + 16 - j') j') /\ N [some (.ref r),some (.int (k: Int))] (upd H2 r (.ins T.rd dx2 (putF "at" (V.int ((j: Int) + 1)) (rf tx j)))):=by
    intro hld
    have lt: j < b.length:=hld.elim (isL_end R2.le) (isD_end R2.le)
    have ld: Mh.isLDI (sgn b j) = true:=by
     unfold Mh.isLDI
     rcases hld with z | z
     ·rw [show Mh.isLI (sgn b j) = true from z]; rfl
     ·rw [show Mh.isDI (sgn b j) = true from z,Bool.or_true]
    have b3: But [r] H2 (upd H2 r (.ins T.rd dx2 (putF "at" (V.int ((j: Int) + 1)) (rf tx j)))):=fun b' o e' n => by rw [upd_ne (by simpa using n)]; exact e'
    refine ⟨_,fun σ' H' z => z,k + 16 - (j + 1),by omega,j + 1,rfl,by omega,by omega,rfl,R2.on lt ⟨dx2,by rw [upd_same]; rfl⟩ b3,b2.trans b3,?_⟩
    rw [er,show k + 16 - j = (k + 16 - (j + 1)) + 1 by omega]
    exact Mh.runEnd_go (q:=Mh.isLDI) Mh.isLD_byte ld (by decide)
   refine ⟨_,rfl,r,dx2,_,rfl,e2,rfl,r,tx,b,j,rfl,R2,_,rfl,_,rfl,iteB (fun q2 => iteB (fun _ => ?_) (fun z => by cases z)) (fun q2 => ?_)⟩
   ·obtain ⟨N,hN,n1⟩:=next (.inl q2)
    exact ⟨N,hN,_,rfl,r,T.rd,dx2,_,_,rfl,e2,T.rdCl,T.rdA,rfl,_,_,rfl,rfl,dx2,_,e2,(by show 2 < 1000; decide),n1⟩
   ·refine ⟨_,rfl,r,dx2,_,rfl,e2,rfl,r,tx,b,j,rfl,R2,_,rfl,_,rfl,iteB (fun q3 => ?_) (fun q3 => ?_)⟩
    ·obtain ⟨N,hN,n1⟩:=next (.inr q3)
     exact ⟨N,hN,_,rfl,r,T.rd,dx2,_,_,rfl,e2,T.rdCl,T.rdA,rfl,_,_,rfl,rfl,dx2,_,e2,(by show 2 < 1000; decide),n1⟩
    ·refine ⟨_,rfl,r,dx2,_,rfl,e2,rfl,_,rfl,fin ?_⟩
     rw [er]
     exact Mh.runEnd_stop (q:=Mh.isLDI) Mh.isLD_byte (by unfold Mh.isLDI; rw [show Mh.isLI (sgn b j) = false from q2,show Mh.isDI (sgn b j) = false from q3]; rfl)
  ·have q1: ¬ (j: Int) - (k: Int) < 16:=of_decide_eq_false q1
   refine iteB (fun z => by cases z) (fun _ => ⟨_,rfl,r,dx2,_,rfl,e2,rfl,_,rfl,fin ?_⟩)
   rw [er,show k + 16 - j = 0 by omega]
   rfl
end
end Mp
end
section
namespace Mp
open PySem PySem.Spec PyProof.Rows L2 Xc
open Mh (codes sgn cur piece runEnd isLD)
section
variable {P: Program} {w: World} {K: PySem.W.Frag} {mg: Str -> Option Value} {base: Heap}
theorem But.none {l: List Addr} {H H': Hp} {x: Addr} (b: But l H H') (hx: H' x = Option.none) (hl: ∀ a ∈ l,H' a ≠ Option.none): H x = Option.none:=by
 cases q: H x with
 | none => rfl
 | some o =>
  by_cases z: x ∈ l
  ·exact absurd hx (hl x z)
  ·rw [b _ _ q z] at hx; cases hx
theorem RdAt.there {C: Addr} {H: Hp} {r tx: Addr} {b: Tide.Bytes} {k: Nat} (R: RdAt C H r tx b k): ∀ a ∈ [r],H a ≠ Option.none:=by
 obtain ⟨dx,e⟩:=R.ins
 intro a ha
 have: a = r:=by simpa using ha
 subst this
 rw [e]; exact fun z => by cases z
def spDg (K: PySem.W.Frag) (R C: Addr): Sp:=fun vs H Q E => ∃ (r tx: Addr) (b: Tide.Bytes) (k: Nat),vs = [.ref r] /\ RdAt C H r tx b k /\
 (isD (sgn b k) = true -> ∀ H',RdAt C H' r tx b (runEnd Tide.isDigit b 4 k) -> But [r] H H' -> Q .non H') /\
 (isD (sgn b k) = false -> ∀ a H',Told K R H' a [-6,1,k] -> But [r] H H' -> E (.ref a) none H')
theorem sc_dg: FnScope ["self","place"] ["self"] (defScope (sRd 7)):=⟨rfl,rfl,rfl,by decide +kernel,rfl,by decide +kernel,by decide +kernel⟩
theorem ok_dg (T: TxG K mg): FnOk P w K mg base (XC P w) 5 T.takeDigits.f T.takeDigits.fd ["self"] (spDg K T.R T.rd):=by
 have GS: FnOk P w K mg base (XC P w) 2 T.signM.f T.signM.fd ["self"] (spSign T.rd):=ok_sign T
 have GT: FnOk P w K mg base (XC P w) 4 T.stepM.f T.stepM.fd ["self","fits"] (spStep K T.R T.rd):=ok_step T
 have GD: FnOk P w K mg base (XC P w) 1 T.digit.f T.digit.fd ["sign"] (spI1 fun z => .bl (isD z)):=ok_digit T.digit
 refine T.takeDigits.prove sc_dg (fun vs H Q E h => ?_) (fun cdv A outer s H vs Q E hr h => ?_)
 ·obtain ⟨r,tx,b,k,rfl,_⟩:=h
  rfl
 ·obtain ⟨r,tx,b,k,rfl,R,k1,k2⟩:=h
  obtain ⟨dx,e⟩:=R.ins
  have hr1: Room 1 _:=hr.mono (by decide)
  have hr2: Room 2 _:=hr.mono (by decide)
  refine ⟨_,pss_cons (ps_set (i:=1) sc_dg.nd rfl (Or.inl rfl) (pe_fld (pv 0) rfl))
   (pss_cons (ps_expr (pe_meth (pv 0) T.rdCl T.stepM.m GT hr T.stepM.b .nil passX (pa_cons (pe_call GD hr1 rfl T.mgDigit T.kpDigit T.digit.b .nil passX (pa_cons (pe_meth0 (pv 0) T.rdCl T.signM.m GS hr2 T.signM.b .nil passX) pa_nil)) pa_nil)))
   (pss_one (ps_while PassesOwn.leaving (PW.pt (pw_and (pt_cmpR op_lt (pe_op op_sub (pe_fld (pv 0) rfl) (pv 1)) (pe_gi rfl T.most) (nomark _))
     (pw_and1 (pt_val (pe_call GD hr1 rfl T.mgDigit T.kpDigit T.digit.b .nil passX (pa_cons (pe_meth0 (pv 0) T.rdCl T.signM.m GS hr2 T.signM.b .nil passX) pa_nil)))))) (pss_one (ps_fldaug (pv 0) pe_int in_add))))),?_⟩
  refine ⟨_,rfl,r,T.rd,dx,_,_,rfl,e,T.rdCl,T.rdA,rfl,?_⟩
  refine ⟨_,rfl,r,dx,_,rfl,e,rfl,_,rfl,r,dx,_,rfl,e,rfl,r,tx,b,k,rfl,R,_,rfl,?_⟩
  refine ⟨r,tx,b,k,isD (sgn b k),rfl,R,isD_end R.le,fun q H1 R1 b1 => ?good,fun q a H1 t b1 => k2 q a H1 t (b1.mono (by simp))⟩
  case good =>
  have go1: runEnd Tide.isDigit b 4 k = runEnd Tide.isDigit b 3 (k + 1):=Mh.runEnd_go (q:=Mh.isDI) Mh.isD_byte q (by decide)
  refine ⟨fun m σ H2 => ∃ j,σ = [some (.ref r),some (.int (k: Int))] /\ k + 1 <= j /\ j <= k + 4 /\ m = k + 4 - j /\ RdAt T.rd H2 r tx b j /\ But [r] H H2 /\ runEnd Tide.isDigit b 4 k = runEnd Tide.isDigit b (k + 4 - j) j,
   ⟨_,k + 1,rfl,Nat.le_refl _,by omega,rfl,R1,b1,by rw [go1,show k + 4 - (k + 1) = 3 by omega]⟩,?_⟩
  rintro m σ H2 ⟨j,rfl,h1,h2,rfl,R2,b2,er⟩
  obtain ⟨dx2,e2⟩:=R2.ins
  refine ⟨_,rfl,r,T.rd,dx2,_,_,rfl,e2,T.rdCl,T.rdA,rfl,_,rfl,_,_,rfl,rfl,_,_,rfl,rfl,_,rfl,iteB (fun q1 => ?_) (fun q1 => ?_)⟩
  ·have q1: (j: Int) - (k: Int) < 4:=of_decide_eq_true q1
   refine ⟨_,rfl,r,dx2,_,rfl,e2,rfl,r,tx,b,j,rfl,R2,_,rfl,_,rfl,iteB (fun q2 => ?_) (fun q2 => ?_)⟩
   ·have lt: j < b.length:=isD_end R2.le q2
    have b3: But [r] H2 (upd H2 r (.ins T.rd dx2 (putF "at" (V.int ((j: Int) + 1)) (rf tx j)))):=fun b' o e' n => by rw [upd_ne (by simpa using n)]; exact e'
    refine ⟨fun σ' H' => ∃ m',m' < k + 4 - j /\ ∃ j',σ' = [some (.ref r),some (.int (k: Int))] /\ k + 1 <= j' /\ j' <= k + 4 /\ m' = k + 4 - j' /\ RdAt T.rd H' r tx b j' /\ But [r] H H' /\ runEnd Tide.isDigit b 4 k = runEnd Tide.isDigit b (k + 4 - j') j',fun _ _ z => z,
     _,rfl,r,T.rd,dx2,_,_,rfl,e2,T.rdCl,T.rdA,rfl,_,_,rfl,rfl,dx2,_,e2,(by show 2 < 1000; decide),k + 4 - (j + 1),by omega,j + 1,rfl,by omega,by omega,rfl,R2.on lt ⟨dx2,by rw [upd_same]; rfl⟩ b3,b2.trans b3,?_⟩
    rw [er,show k + 4 - j = (k + 4 - (j + 1)) + 1 by omega]
    exact Mh.runEnd_go (q:=Mh.isDI) Mh.isD_byte q2 (by decide)
   ·have z: runEnd Tide.isDigit b 4 k = j:=by rw [er]; exact Mh.runEnd_stop (q:=Mh.isDI) Mh.isD_byte q2
    exact k1 q H2 (by rw [z]; exact R2) b2
  ·have q1: ¬ (j: Int) - (k: Int) < 4:=of_decide_eq_false q1
   have z: runEnd Tide.isDigit b 4 k = j:=by rw [er,show k + 4 - j = 0 by omega]; rfl
   exact iteB (fun z => by cases z) (fun _ => k1 q H2 (by rw [z]; exact R2) b2)
def spHt (K: PySem.W.Frag) (R C Cw: Addr): Sp:=fun vs H Q E => ∃ (r tx: Addr) (b: Tide.Bytes) (k: Nat),vs = [.ref r] /\ RdAt C H r tx b k /\
 (∀ j,Mh.heightEnd b k = .ok j -> ∀ w' H',WordAt Cw H' w' k (piece b k j) -> RdAt C H' r tx b j -> H w' = none -> But [r] H H' -> Q (.ref w') H') /\
 (∀ p,Mh.heightEnd b k = .error p -> ∀ a H',Told K R H' a [-6,1,p] -> But [r] H H' -> E (.ref a) none H')
theorem sc_ht: FnScope ["self","place"] ["self"] (defScope (sRd 8)):=⟨rfl,rfl,rfl,by decide +kernel,rfl,by decide +kernel,by decide +kernel⟩
theorem dec_i {a b: Int}: decide (V.int a = V.int b) = decide (a = b):=by
 by_cases h: a = b
 ·subst h; simp
 ·have: ¬ V.int a = V.int b:=fun z => h (by injection z)
  rw [decide_eq_false this,decide_eq_false h]
theorem ok_ht (T: TxG K mg): FnOk P w K mg base (XC P w) 6 T.takeHeight.f T.takeHeight.fd ["self"] (spHt K T.R T.rd T.wordC):=by
 have GS: FnOk P w K mg base (XC P w) 2 T.signM.f T.signM.fd ["self"] (spSign T.rd):=ok_sign T
 have GD: FnOk P w K mg base (XC P w) 5 T.takeDigits.f T.takeDigits.fd ["self"] (spDg K T.R T.rd):=ok_dg T
 have GW: FnOk P w K mg base (XC P w) 3 T.wordFrom.f T.wordFrom.fd ["self","place"] (spWF T.rd T.wordC):=ok_wf T
 refine T.takeHeight.prove sc_ht (fun vs H Q E h => ?_) (fun cdv A outer s H vs Q E hr h => ?_)
 ·obtain ⟨r,tx,b,k,rfl,_⟩:=h
  rfl
 ·obtain ⟨r,tx,b,k,rfl,R,k1,k2⟩:=h
  obtain ⟨dx,e⟩:=R.ins
  have hr2: Room 2 _:=hr.mono (by decide)
  have hr3: Room 3 _:=hr.mono (by decide)
  have fin: ∀ j H2,Mh.heightEnd b k = .ok j -> k <= j -> RdAt T.rd H2 r tx b j -> But [r] H H2 -> spWF T.rd T.wordC [.ref r,.int (k: Int)] H2 Q E:=by
   intro j H2 z hkj R2 b2
   obtain ⟨dx2,e2⟩:=R2.ins
   refine ⟨r,tx,b,j,k,rfl,R2,hkj,fun w' H3 wa hn b3 => ?_⟩
   exact k1 j z w' H3 wa ⟨⟨dx2,b3 _ _ e2 (by simp)⟩,b3 _ _ R2.txt (by simp),R2.le⟩ (b2.none hn R2.there) (b2.trans (b3.mono (by simp)))
  have tail: ∃ u,PSs (cxOf (XC P w) P w K mg base ["self","place"] "Reader.take_height" (defScope (sRd 8)) T.takeHeight.f cdv A outer s H E) ((defBody (sRd 8)).drop 2) u /\
    ∀ d H1,d = (if sgn b k = 45 then k + 1 else k) -> k <= d -> RdAt T.rd H1 r tx b d -> But [r] H H1 -> u { nx:=fun _ H' => Q .non H',rt:=Q } [some (.ref r),some (.int (k: Int))] H1:=by
   refine ⟨_,pss_cons (ps_expr (pe_meth0 (pv 0) T.rdCl T.takeDigits.m GD hr T.takeDigits.b .nil passX))
    (pss_cons (ps_if (pt_cmpR op_eq (pe_meth0 (pv 0) T.rdCl T.signM.m GS hr2 T.signM.b .nil passX) (pe_gi rfl T.point) (nomark _))
     (pss_cons (ps_fldaug (pv 0) pe_int in_add) (pss_one (ps_expr (pe_meth0 (pv 0) T.rdCl T.takeDigits.m GD hr T.takeDigits.b .nil passX)))) pss_nil)
    (pss_one (ps_ret (pe_meth (pv 0) T.rdCl T.wordFrom.m GW hr3 T.wordFrom.b .nil passX (pa_cons (pv 1) pa_nil))))),?_⟩
   intro d H1 hd hkd R1 b1
   have he: Mh.heightEnd b k = if Mh.isDI (sgn b d) = true then (if sgn b (runEnd Tide.isDigit b 4 d) = 46 then (if Mh.isDI (sgn b (runEnd Tide.isDigit b 4 d + 1)) = true then .ok (runEnd Tide.isDigit b 4 (runEnd Tide.isDigit b 4 d + 1)) else .error (runEnd Tide.isDigit b 4 d + 1)) else .ok (runEnd Tide.isDigit b 4 d)) else .error d:=by
    unfold Mh.heightEnd
    rw [<- hd]
   obtain ⟨dx1,e1⟩:=R1.ins
   refine ⟨_,rfl,r,dx1,_,rfl,e1,rfl,r,tx,b,d,rfl,R1,fun q H2 R2 b2 => ?_,fun q a H2 t b2 => k2 d (by rw [he,if_neg (by rw [show Mh.isDI (sgn b d) = false from q]; decide)]) a H2 t (b1.trans b2)⟩
   have q: Mh.isDI (sgn b d) = true:=q
   rw [if_pos q] at he
   have le2:=(Mh.runEnd_bounds Tide.isDigit b 4 d).1
   obtain ⟨dx2,e2⟩:=R2.ins
   have b12:=b1.trans b2
   refine ⟨_,rfl,r,dx2,_,rfl,e2,rfl,r,tx,b,_,rfl,R2,rfl,_,rfl,?_⟩
   rw [dec_i]
   refine iteB (fun q2 => ?_) (fun q2 => ?_)
   ·have q2: sgn b (runEnd Tide.isDigit b 4 d) = 46:=of_decide_eq_true q2
    rw [if_pos q2] at he
    have lt: runEnd Tide.isDigit b 4 d < b.length:=Nat.lt_of_le_of_ne R2.le fun z => by rw [Mh.sgn_end z] at q2; cases q2
    refine ⟨_,rfl,r,T.rd,dx2,_,_,rfl,e2,T.rdCl,T.rdA,rfl,_,_,rfl,rfl,dx2,_,e2,(by show 2 < 1000; decide),?_⟩
    have b3: But [r] H2 (upd H2 r (.ins T.rd dx2 (putF "at" (V.int (((runEnd Tide.isDigit b 4 d: Nat): Int) + 1)) (rf tx (runEnd Tide.isDigit b 4 d))))):=fun b' o e' n => by rw [upd_ne (by simpa using n)]; exact e'
    have R3:=R2.on (j:=runEnd Tide.isDigit b 4 d + 1) lt ⟨dx2,by rw [upd_same]; rfl⟩ b3
    obtain ⟨dx3,e3⟩:=R3.ins
    refine ⟨_,rfl,r,dx3,_,rfl,e3,rfl,r,tx,b,_,rfl,R3,fun q3 H4 R4 b4 => ?_,fun q3 a H4 t b4 => k2 _ (by rw [he,if_neg (by rw [show Mh.isDI _ = false from q3]; decide)]) a H4 t ((b12.trans b3).trans b4)⟩
    have q3: Mh.isDI (sgn b (runEnd Tide.isDigit b 4 d + 1)) = true:=q3
    rw [if_pos q3] at he
    obtain ⟨dx4,e4⟩:=R4.ins
    have le4:=(Mh.runEnd_bounds Tide.isDigit b 4 (runEnd Tide.isDigit b 4 d + 1)).1
    exact ⟨_,rfl,r,dx4,_,rfl,e4,rfl,_,rfl,fin _ _ he (by omega) R4 ((b12.trans b3).trans b4)⟩
   ·have q2: ¬ sgn b (runEnd Tide.isDigit b 4 d) = 46:=of_decide_eq_false q2
    rw [if_neg q2] at he
    exact ⟨_,rfl,r,dx2,_,rfl,e2,rfl,_,rfl,fin _ _ he (by omega) R2 b12⟩
  obtain ⟨u,hu,hu2⟩:=tail
  refine ⟨_,pss_cons (ps_set (i:=1) sc_ht.nd rfl (Or.inl rfl) (pe_fld (pv 0) rfl))
   (pss_cons (ps_if (pt_cmpR op_eq (pe_meth0 (pv 0) T.rdCl T.signM.m GS hr2 T.signM.b .nil passX) (pe_gi rfl T.minus) (nomark _)) (pss_one (ps_fldaug (pv 0) pe_int in_add)) pss_nil) hu),?_⟩
  refine ⟨_,rfl,r,T.rd,dx,_,_,rfl,e,T.rdCl,T.rdA,rfl,?_⟩
  refine ⟨_,rfl,r,dx,_,rfl,e,rfl,r,tx,b,k,rfl,R,rfl,_,rfl,?_⟩
  rw [dec_i]
  refine iteB (fun q => ?_) (fun q => ?_)
  ·have q: sgn b k = 45:=of_decide_eq_true q
   have lt: k < b.length:=Nat.lt_of_le_of_ne R.le fun z => by rw [Mh.sgn_end z] at q; cases q
   refine ⟨_,rfl,r,T.rd,dx,_,_,rfl,e,T.rdCl,T.rdA,rfl,_,_,rfl,rfl,dx,_,e,(by show 2 < 1000; decide),?_⟩
   have b3: But [r] H (upd H r (.ins T.rd dx (putF "at" (V.int ((k: Int) + 1)) (rf tx k)))):=fun b' o e' n => by rw [upd_ne (by simpa using n)]; exact e'
   exact hu2 (k + 1) _ (by rw [if_pos q]) (by omega) (R.on lt ⟨dx,by rw [upd_same]; rfl⟩ b3) b3
  ·have q: ¬ sgn b k = 45:=of_decide_eq_false q
   exact hu2 k H (by rw [if_neg q]) (Nat.le_refl _) R (But.refl _ _)
end
end Mp
end
section
namespace Mp
open PySem PySem.Spec PyProof.Rows L2 Xc
open Mh (codes sgn cur piece)
structure TxL (K: PySem.W.Frag) (mg: Str -> Option Value) extends TxG K mg where
 markC: Addr
 markI: Fd K "__init__" "MarkLine.__init__" sMarkI ["self","name"]
 markMk: Mk K markC markI.f
 mgMark: mg "MarkLine" = some (.ref markC)
 markCl: Cls K markC
 markN: NoAttr K markC "name"
 overC: Addr
 overI: Fd K "__init__" "OverLine.__init__" sOverI ["self","first","second","height"]
 overMk: Mk K overC overI.f
 mgOver: mg "OverLine" = some (.ref overC)
 overCl: Cls K overC
 overF: NoAttr K overC "first"
 overS: NoAttr K overC "second"
 overH: NoAttr K overC "height"
 takeMark: Md K rd "take_mark_line" "Reader.take_mark_line" (sRd 9) ["self"]
 takeOver: Md K rd "take_over_line" "Reader.take_over_line" (sRd 10) ["self"]
 takeLine: Md K rd "take_line" "Reader.take_line" (sRd 11) ["self"]
 linesOf: Fd K "lines_of" "lines_of" (top 42) ["text"]
 mgLines: mg "lines_of" = some (.ref linesOf.f)
 kpLines: PySem.W.keepIn K (.ref linesOf.f) = true
 isiN: mg "isinstance" = none
 tyM: ∀ (H: Hp) (a dx: Addr) (fs: List (Str × V)),H a = some (.ins markC dx fs) -> TyOf K H (.ref a) (.ref markC)
 tyO: ∀ (H: Hp) (a dx: Addr) (fs: List (Str × V)),H a = some (.ins overC dx fs) -> TyOf K H (.ref a) (.ref overC)
 kMM: PySem.W.kitOne K (.ref markC) (.ref markC) = some true
 kOM: PySem.W.kitOne K (.ref overC) (.ref markC) = some false
def LineAt (Cm Co Cw: Addr) (H: Hp) (l: Addr): Tide.Level -> Prop
 | .mark n p => ∃ dx w,H l = some (.ins Cm dx [("name",.ref w)]) /\ WordAt Cw H w p n
 | .over a b h pa pb ph => ∃ dx w1 w2 w3 hs,H l = some (.ins Co dx [("first",.ref w1),("second",.ref w2),("height",.ref w3)]) /\ WordAt Cw H w1 pa a /\ WordAt Cw H w2 pb b /\ WordAt Cw H w3 ph hs /\ Mh.HSigns hs h
theorem rf_ne {C D d e: Addr} {tx: Addr} {k: Nat} {x: Str} {v: V} {r: List (Str × V)} (h: x ≠ "text"): HO.ins C d ((x,v) :: r) ≠ HO.ins D e (rf tx k):=by
 intro z
 injection z with _ _ z
 injection z with z _
 injection z with z _
 exact h z
theorem WordAt.keep {C Cr: Addr} {H H': Hp} {w': Addr} {p: Nat} {n: Tide.Bytes} {r tx: Addr} {b: Tide.Bytes} {k: Nat} (W: WordAt C H w' p n) (R: RdAt Cr H r tx b k) (bb: But [r] H H'): WordAt C H' w' p n:=by
 obtain ⟨dx,t,e1,e2⟩:=W
 obtain ⟨dr,e⟩:=R.ins
 exact ⟨dx,t,bb _ _ e1 (by simpa using ne_of e1 e (rf_ne (by decide))),bb _ _ e2 (by simpa using ne_of e2 e (by intro z; cases z))⟩
theorem WordAt.same {C: Addr} {H H': Hp} {w': Addr} {p: Nat} {n: Tide.Bytes} (W: WordAt C H w' p n) (bb: But [] H H'): WordAt C H' w' p n:=by
 obtain ⟨dx,t,e1,e2⟩:=W
 exact ⟨dx,t,bb _ _ e1 (by simp),bb _ _ e2 (by simp)⟩
theorem RdAt.same {C: Addr} {H H': Hp} {r tx: Addr} {b: Tide.Bytes} {k: Nat} (R: RdAt C H r tx b k) (bb: But [] H H'): RdAt C H' r tx b k:=by
 obtain ⟨dx,e⟩:=R.ins
 exact ⟨⟨dx,bb _ _ e (by simp)⟩,bb _ _ R.txt (by simp),R.le⟩
theorem but_make {H H': Hp} {x d: Addr} {o u: HO} (hx: H x = none) (hd: H d = none) (b: But [x] (upd (upd H d o) x u) H'): But [] H H':=fun a v e _ =>
 b a v (by rw [upd_ne (ne_of_none e hx),upd_ne (ne_of_none e hd)]; exact e) (by simpa using ne_of_none e hx)
section
variable {P: Program} {w: World} {K: PySem.W.Frag} {mg: Str -> Option Value} {base: Heap}
def spMlI (C: Addr): Sp:=fun vs H Q _ => ∃ (p dx: Addr) (y: V),vs = [.ref p,y] /\ H p = some (.ins C dx []) /\ ∀ H': Hp,H' p = some (.ins C dx [("name",y)]) -> But [p] H H' -> Q .non H'
theorem sc_mlI: FnScope ["self","name"] ["self","name"] (defScope sMarkI):=⟨rfl,rfl,rfl,by decide +kernel,rfl,by decide +kernel,by decide +kernel⟩
theorem ok_mlI (T: TxL K mg): FnOk P w K mg base (XC P w) 1 T.markI.f T.markI.fd ["self","name"] (spMlI T.markC):=by
 refine T.markI.prove sc_mlI (fun vs H Q E h => ?_) (fun cdv A outer s H vs Q E hr h => ?_)
 ·obtain ⟨r,dx,y,rfl,_⟩:=h
  rfl
 ·obtain ⟨r,dx,y,rfl,hr0,k⟩:=h
  refine ⟨_,pss_one (ps_fld (pv 0) (pv 1) rfl),?_⟩
  refine ⟨_,rfl,_,rfl,r,T.markC,dx,_,rfl,hr0,T.markCl,T.markN,(by show 0 < 1000; decide),?_⟩
  refine k _ (by rw [upd_same]; rfl) fun b o e n => ?_
  rw [upd_ne (by simpa using n)]
  exact e
def spOlI (C: Addr): Sp:=fun vs H Q _ => ∃ (p dx: Addr) (y1 y2 y3: V),vs = [.ref p,y1,y2,y3] /\ H p = some (.ins C dx []) /\ ∀ H': Hp,H' p = some (.ins C dx [("first",y1),("second",y2),("height",y3)]) -> But [p] H H' -> Q .non H'
theorem sc_olI: FnScope ["self","first","second","height"] ["self","first","second","height"] (defScope sOverI):=⟨rfl,rfl,rfl,by decide +kernel,rfl,by decide +kernel,by decide +kernel⟩
theorem ok_olI (T: TxL K mg): FnOk P w K mg base (XC P w) 1 T.overI.f T.overI.fd ["self","first","second","height"] (spOlI T.overC):=by
 refine T.overI.prove sc_olI (fun vs H Q E h => ?_) (fun cdv A outer s H vs Q E hr h => ?_)
 ·obtain ⟨r,dx,y1,y2,y3,rfl,_⟩:=h
  rfl
 ·obtain ⟨r,dx,y1,y2,y3,rfl,hr0,k⟩:=h
  refine ⟨_,pss_cons (ps_fld (pv 0) (pv 1) rfl) (pss_cons (ps_fld (pv 0) (pv 2) rfl) (pss_one (ps_fld (pv 0) (pv 3) rfl))),?_⟩
  refine ⟨_,rfl,_,rfl,r,T.overC,dx,_,rfl,hr0,T.overCl,T.overF,(by show 0 < 1000; decide),?_⟩
  refine ⟨_,rfl,_,rfl,r,T.overC,dx,_,rfl,upd_same,T.overCl,T.overS,(by show 1 < 1000; decide),?_⟩
  refine ⟨_,rfl,_,rfl,r,T.overC,dx,_,rfl,upd_same,T.overCl,T.overH,(by show 2 < 1000; decide),?_⟩
  refine k _ (by rw [upd_same]; rfl) fun b o e n => ?_
  have n: b ≠ r:=by simpa using n
  rw [upd_ne n,upd_ne n,upd_ne n]
  exact e
def spLn (T: TxL K mg) (f: Tide.Cur -> Except Nat (Tide.Level × Tide.Cur)): Sp:=fun vs H Q E => ∃ (r tx: Addr) (b: Tide.Bytes) (k: Nat),vs = [.ref r] /\ RdAt T.rd H r tx b k /\
 (∀ lv j,f (cur b k) = .ok (lv,cur b j) -> ∀ l H',LineAt T.markC T.overC T.wordC H' l lv -> RdAt T.rd H' r tx b j -> But [r] H H' -> Q (.ref l) H') /\
 (∀ p,f (cur b k) = .error p -> ∀ a H',Told K T.R H' a [-6,1,p] -> But [r] H H' -> E (.ref a) none H')
theorem sc_ml: FnScope ["self","name"] ["self"] (defScope (sRd 9)):=⟨rfl,rfl,rfl,by decide +kernel,rfl,by decide +kernel,by decide +kernel⟩
theorem ok_ml (T: TxL K mg): FnOk P w K mg base (XC P w) 6 T.takeMark.f T.takeMark.fd ["self"] (spLn T Mh.markIn):=by
 have GR: FnOk P w K mg base (XC P w) 5 T.written.f T.written.fd ["self","written"] (spWr K T.R T.rd):=ok_wr T.toTxG
 have GN: FnOk P w K mg base (XC P w) 5 T.takeName.f T.takeName.fd ["self"] (spNm K T.R T.rd T.wordC):=ok_nm T.toTxG
 have GI: FnOk P w K mg base (XC P w) 1 T.markI.f T.markI.fd ["self","name"] (spMlI T.markC):=ok_mlI T
 refine T.takeMark.prove sc_ml (fun vs H Q E h => ?_) (fun cdv A outer s H vs Q E hr h => ?_)
 ·obtain ⟨r,tx,b,k,rfl,_⟩:=h
  rfl
 ·obtain ⟨r,tx,b,k,rfl,R,k1,k2⟩:=h
  obtain ⟨dx,e⟩:=R.ins
  have hr2: Room 2 _:=hr.mono (by decide)
  refine ⟨_,pss_cons (ps_expr (pe_meth (pv 0) T.rdCl T.written.m GR hr T.written.b .nil passX (pa_cons pe_str pa_nil)))
   (pss_cons (ps_set (i:=1) sc_ml.nd rfl (Or.inl rfl) (pe_meth0 (pv 0) T.rdCl T.takeName.m GN hr T.takeName.b .nil passX))
   (pss_cons (ps_expr (pe_meth (pv 0) T.rdCl T.written.m GR hr T.written.b .nil passX (pa_cons pe_str pa_nil)))
   (pss_one (ps_ret (pe_make T.markMk GI hr2 rfl T.mgMark T.markI.b .nil passX (pa_cons (pv 1) pa_nil)))))),?_⟩
  refine ⟨_,rfl,r,dx,_,rfl,e,rfl,r,tx,b,k,_,Tide.ascii "mark ",rfl,(by rw [Mh.ascii_mark]; decide +kernel),R,fun j1 q1 H1 R1 b1 => ?_,fun p q1 a H1 t b1 => k2 p (Mh.markIn_e1 q1) a H1 t b1⟩
  obtain ⟨dx1,e1⟩:=R1.ins
  refine ⟨_,rfl,r,dx1,_,rfl,e1,rfl,r,tx,b,j1,rfl,R1,fun n j2 q2 w2 H2 W2 R2 n2 b2 => ?_,fun p q2 a H2 t b2 => k2 p (Mh.markIn_e2 q1 q2) a H2 t (b1.trans b2)⟩
  obtain ⟨dx2,e2⟩:=R2.ins
  refine ⟨_,rfl,r,dx2,_,rfl,e2,rfl,r,tx,b,j2,_,[Tide.LF],rfl,(by decide +kernel),R2,fun j3 q3 H3 R3 b3 => ?_,fun p q3 a H3 t b3 => k2 p (Mh.markIn_e3 q1 q2 q3) a H3 t ((b1.trans b2).trans b3)⟩
  have W3:=W2.keep R2 b3
  refine ⟨_,rfl,?_⟩
  intro x d hx hd ne
  refine ⟨x,d,_,rfl,upd_same,fun H' e4 b4 => ⟨rfl,?_⟩⟩
  have b5:=but_make hx hd b4
  exact k1 _ j3 (Mh.markIn_ok q1 q2 q3) x H' ⟨d,w2,e4,W3.same b5⟩ (R3.same b5) (((b1.trans b2).trans b3).trans (b5.mono (by simp)))
end
end Mp
end
section
namespace Mp
open PySem PySem.Spec PyProof.Rows L2 Xc
open Mh (codes sgn cur piece)
section
variable {P: Program} {w: World} {K: PySem.W.Frag} {mg: Str -> Option Value} {base: Heap}
theorem sc_ol: FnScope ["self","first","second","height"] ["self"] (defScope (sRd 10)):=⟨rfl,rfl,rfl,by decide +kernel,rfl,by decide +kernel,by decide +kernel⟩
theorem ok_ol (T: TxL K mg): FnOk P w K mg base (XC P w) 7 T.takeOver.f T.takeOver.fd ["self"] (spLn T Mh.overIn):=by
 have GR: FnOk P w K mg base (XC P w) 5 T.written.f T.written.fd ["self","written"] (spWr K T.R T.rd):=ok_wr T.toTxG
 have GN: FnOk P w K mg base (XC P w) 5 T.takeName.f T.takeName.fd ["self"] (spNm K T.R T.rd T.wordC):=ok_nm T.toTxG
 have GH: FnOk P w K mg base (XC P w) 6 T.takeHeight.f T.takeHeight.fd ["self"] (spHt K T.R T.rd T.wordC):=ok_ht T.toTxG
 have GI: FnOk P w K mg base (XC P w) 1 T.overI.f T.overI.fd ["self","first","second","height"] (spOlI T.overC):=ok_olI T
 refine T.takeOver.prove sc_ol (fun vs H Q E h => ?_) (fun cdv A outer s H vs Q E hr h => ?_)
 ·obtain ⟨r,tx,b,k,rfl,_⟩:=h
  rfl
 ·obtain ⟨r,tx,b,k,rfl,R,k1,k2⟩:=h
  obtain ⟨dx,e⟩:=R.ins
  have hr2: Room 2 _:=hr.mono (by decide)
  have hr5: Room 5 _:=hr.mono (by decide)
  have tail: ∃ u,PSs (cxOf (XC P w) P w K mg base ["self","first","second","height"] "Reader.take_over_line" (defScope (sRd 10)) T.takeOver.f cdv A outer s H E) ((defBody (sRd 10)).drop 4) u /\
    ∀ (a n: Tide.Bytes) (j1 j2 j3 j4: Nat) (w1 w2: Addr) (v: Option V) (H1: Hp),Tide.lit (Tide.ascii "over ") (cur b k) = .ok (cur b j1) -> Tide.longName (cur b j1) = .ok (a,cur b j2) -> Tide.lit [32] (cur b j2) = .ok (cur b j3) -> Tide.longName (cur b j3) = .ok (n,cur b j4) ->
     WordAt T.wordC H1 w1 j1 a -> WordAt T.wordC H1 w2 j3 n -> RdAt T.rd H1 r tx b j4 -> But [r] H H1 -> u { nx:=fun _ H' => Q .non H',rt:=Q } [some (.ref r),some (.ref w1),some (.ref w2),v] H1:=by
   refine ⟨_,pss_cons (ps_expr (pe_meth (pv 0) T.rdCl T.written.m GR hr5 T.written.b .nil passX (pa_cons pe_str pa_nil)))
    (pss_cons (ps_set (i:=3) sc_ol.nd rfl (Or.inl rfl) (pe_meth0 (pv 0) T.rdCl T.takeHeight.m GH hr T.takeHeight.b .nil passX))
    (pss_cons (ps_expr (pe_meth (pv 0) T.rdCl T.written.m GR hr5 T.written.b .nil passX (pa_cons pe_str pa_nil)))
    (pss_one (ps_ret (pe_make T.overMk GI hr2 rfl T.mgOver T.overI.b .nil passX (pa_cons (pv 1) (pa_cons (pv 2) (pa_cons (pv 3) pa_nil)))))))),?_⟩
   intro a n j1 j2 j3 j4 w1 w2 v H1 q1 q2 q3 q4 W1 W2 R1 b1
   obtain ⟨dx1,e1⟩:=R1.ins
   refine ⟨_,rfl,r,dx1,_,rfl,e1,rfl,r,tx,b,j4,_,[32],rfl,(by decide +kernel),R1,fun j5 q5 H2 R2 b2 => ?_,fun p q5 x H2 t b2 => k2 p (Mh.over_e5 q1 q2 q3 q4 q5) x H2 t (b1.trans b2)⟩
   obtain ⟨dx2,e2⟩:=R2.ins
   have W1b:=W1.keep R1 b2
   have W2b:=W2.keep R1 b2
   refine ⟨_,rfl,r,dx2,_,rfl,e2,rfl,r,tx,b,j5,rfl,R2,fun j6 q6 w3 H3 W3 R3 n3 b3 => ?_,fun p q6 x H3 t b3 => k2 p (Mh.over_e6 q1 q2 q3 q4 q5 ((Mh.heightIn_cur b j5).1 p q6)) x H3 t ((b1.trans b2).trans b3)⟩
   obtain ⟨h,q6⟩:=(Mh.heightIn_cur b j5).2 j6 q6
   obtain ⟨dx3,e3⟩:=R3.ins
   have W1c:=W1b.keep R2 b3
   have W2c:=W2b.keep R2 b3
   refine ⟨_,rfl,r,dx3,_,rfl,e3,rfl,r,tx,b,j6,_,[Tide.LF],rfl,(by decide +kernel),R3,fun j7 q7 H4 R4 b4 => ?_,fun p q7 x H4 t b4 => k2 p (Mh.over_e7 q1 q2 q3 q4 q5 q6 q7) x H4 t (((b1.trans b2).trans b3).trans b4)⟩
   have W1d:=W1c.keep R3 b4
   have W2d:=W2c.keep R3 b4
   have W3d:=W3.keep R3 b4
   refine ⟨_,rfl,_,rfl,_,rfl,?_⟩
   intro x d hx hd ne
   refine ⟨x,d,_,_,_,rfl,upd_same,fun H' e4 b5 => ⟨rfl,?_⟩⟩
   have b6:=but_make hx hd b5
   exact k1 _ j7 (Mh.over_ok q1 q2 q3 q4 q5 q6 q7) x H' ⟨d,w1,w2,w3,_,e4,W1d.same b6,W2d.same b6,W3d.same b6,Mh.height_signs q6⟩ (R4.same b6) ((((b1.trans b2).trans b3).trans b4).trans (b6.mono (by simp)))
  obtain ⟨u,hu,hu2⟩:=tail
  refine ⟨_,pss_cons (ps_expr (pe_meth (pv 0) T.rdCl T.written.m GR hr5 T.written.b .nil passX (pa_cons pe_str pa_nil)))
   (pss_cons (ps_set (i:=1) sc_ol.nd rfl (Or.inl rfl) (pe_meth0 (pv 0) T.rdCl T.takeName.m GN hr5 T.takeName.b .nil passX))
   (pss_cons (ps_expr (pe_meth (pv 0) T.rdCl T.written.m GR hr5 T.written.b .nil passX (pa_cons pe_str pa_nil)))
   (pss_cons (ps_set (i:=2) sc_ol.nd rfl (Or.inl rfl) (pe_meth0 (pv 0) T.rdCl T.takeName.m GN hr5 T.takeName.b .nil passX)) hu))),?_⟩
  refine ⟨_,rfl,r,dx,_,rfl,e,rfl,r,tx,b,k,_,Tide.ascii "over ",rfl,(by rw [Mh.ascii_over]; decide +kernel),R,fun j1 q1 H1 R1 b1 => ?_,fun p q1 a H1 t b1 => k2 p (Mh.over_e1 q1) a H1 t b1⟩
  obtain ⟨dx1,e1⟩:=R1.ins
  refine ⟨_,rfl,r,dx1,_,rfl,e1,rfl,r,tx,b,j1,rfl,R1,fun a j2 q2 w1 H2 W1 R2 n2 b2 => ?_,fun p q2 a H2 t b2 => k2 p (Mh.over_e2 q1 q2) a H2 t (b1.trans b2)⟩
  obtain ⟨dx2,e2⟩:=R2.ins
  refine ⟨_,rfl,r,dx2,_,rfl,e2,rfl,r,tx,b,j2,_,[32],rfl,(by decide +kernel),R2,fun j3 q3 H3 R3 b3 => ?_,fun p q3 a H3 t b3 => k2 p (Mh.over_e3 q1 q2 q3) a H3 t ((b1.trans b2).trans b3)⟩
  obtain ⟨dx3,e3⟩:=R3.ins
  have W1b:=W1.keep R2 b3
  refine ⟨_,rfl,r,dx3,_,rfl,e3,rfl,r,tx,b,j3,rfl,R3,fun n j4 q4 w2 H4 W2 R4 n4 b4 => ?_,fun p q4 a H4 t b4 => k2 p (Mh.over_e4 q1 q2 q3 q4) a H4 t (((b1.trans b2).trans b3).trans b4)⟩
  exact hu2 a n j1 j2 j3 j4 w1 w2 _ H4 q1 q2 q3 q4 (W1b.keep R3 b4) W2 R4 (((b1.trans b2).trans b3).trans b4)
theorem sc_ln: FnScope ["self"] ["self"] (defScope (sRd 11)):=⟨rfl,rfl,rfl,by decide +kernel,rfl,by decide +kernel,by decide +kernel⟩
theorem ok_ln (T: TxL K mg): FnOk P w K mg base (XC P w) 8 T.takeLine.f T.takeLine.fd ["self"] (spLn T Tide.levelIn):=by
 have GS: FnOk P w K mg base (XC P w) 2 T.signM.f T.signM.fd ["self"] (spSign T.rd):=ok_sign T.toTxG
 have GM: FnOk P w K mg base (XC P w) 6 T.takeMark.f T.takeMark.fd ["self"] (spLn T Mh.markIn):=ok_ml T
 have GO: FnOk P w K mg base (XC P w) 7 T.takeOver.f T.takeOver.fd ["self"] (spLn T Mh.overIn):=ok_ol T
 refine T.takeLine.prove sc_ln (fun vs H Q E h => ?_) (fun cdv A outer s H vs Q E hr h => ?_)
 ·obtain ⟨r,tx,b,k,rfl,_⟩:=h
  rfl
 ·obtain ⟨r,tx,b,k,rfl,R,k1,k2⟩:=h
  obtain ⟨dx,e⟩:=R.ins
  have hr2: Room 2 _:=hr.mono (by decide)
  have hr6: Room 6 _:=hr.mono (by decide)
  refine ⟨_,pss_cons (ps_if (pt_cmpR op_eq (pe_meth0 (pv 0) T.rdCl T.signM.m GS hr2 T.signM.b .nil passX) (pe_callB call_ord (by rfl) T.ordN bo_ord (pa_cons pe_str pa_nil)) (nomark _))
    (pss_one (ps_ret (pe_meth0 (pv 0) T.rdCl T.takeMark.m GM hr6 T.takeMark.b .nil passX))) pss_nil)
   (pss_one (ps_ret (pe_meth0 (pv 0) T.rdCl T.takeOver.m GO hr T.takeOver.b .nil passX))),?_⟩
  refine ⟨_,rfl,r,dx,_,rfl,e,rfl,r,tx,b,k,rfl,R,_,rfl,rfl,rfl,_,rfl,?_⟩
  have lc:=Mh.levelIn_cur b k
  refine iteB (fun q => ?_) (fun q => ?_)
  ·have q: V.int (sgn b k) = V.int 109:=of_decide_eq_true q
   have q: sgn b k = 109:=by injection q
   rw [if_pos q] at lc
   rw [lc] at k1 k2
   exact ⟨_,rfl,r,dx,_,rfl,e,rfl,r,tx,b,k,rfl,R,k1,k2⟩
  ·have q: ¬ V.int (sgn b k) = V.int 109:=of_decide_eq_false q
   have q: ¬ sgn b k = 109:=fun z => q (by rw [z])
   rw [if_neg q] at lc
   rw [lc] at k1 k2
   exact ⟨_,rfl,r,dx,_,rfl,e,rfl,r,tx,b,k,rfl,R,k1,k2⟩
end
end Mp
end
section
namespace Mp
open PySem PySem.Spec PyProof.Rows L2 Xc
open Mh (codes sgn cur piece linesFrom)
def calm: HO -> Prop
 | .tup _ => True
 | .ins _ _ ((x,_) :: _) => x = "name" \/ x = "place" \/ x = "first"
 | _ => False
def Stay (H H': Hp): Prop:=∀ b o,H b = some o -> calm o -> H' b = some o
theorem Stay.trans {H H1 H2: Hp} (a: Stay H H1) (b: Stay H1 H2): Stay H H2:=fun c o e n => b c o (a c o e n) n
theorem Stay.but {l: List Addr} {H H': Hp} (b: But l H H') (h: ∀ a ∈ l,∀ o,H a = some o -> ¬ calm o): Stay H H':=fun c o e n => b c o e fun z => h c z o e n
theorem Stay.but0 {H H': Hp} (b: But [] H H'): Stay H H':=Stay.but b (by simp)
theorem Stay.but1 {a: Addr} {o: HO} {H H': Hp} (b: But [a] H H') (h: H a = some o) (n: ¬ calm o): Stay H H':=Stay.but b fun c hc u e => by
 have: c = a:=by simpa using hc
 subst this
 rw [h] at e
 cases e
 exact n
theorem Stay.wr {H: Hp} {a: Addr} {o u: HO} (h: H a = some o) (n: ¬ calm o): Stay H (upd H a u):=fun b v e c => by
 have: b ≠ a:=fun z => by rw [z,h] at e; cases e; exact n c
 rw [upd_ne this]; exact e
theorem calm_lst {xs: List V}: ¬ calm (.lst xs):=fun z => z
theorem WordAt.stay {C: Addr} {H H': Hp} {w': Addr} {p: Nat} {n: Tide.Bytes} (W: WordAt C H w' p n) (s: Stay H H'): WordAt C H' w' p n:=by
 obtain ⟨dx,t,e1,e2⟩:=W
 exact ⟨dx,t,s _ _ e1 (.inr (.inl rfl)),s _ _ e2 trivial⟩
theorem LineAt.stay {Cm Co Cw: Addr} {H H': Hp} {l: Addr} {lv: Tide.Level} (L: LineAt Cm Co Cw H l lv) (s: Stay H H'): LineAt Cm Co Cw H' l lv:=by
 cases lv with
 | mark n p =>
  obtain ⟨dx,w,h1,h2⟩:=L
  exact ⟨dx,w,s _ _ h1 (.inl rfl),h2.stay s⟩
 | over a c h pa pb ph =>
  obtain ⟨dx,w1,w2,w3,hs,h1,h2,h3,h4,h5⟩:=L
  exact ⟨dx,w1,w2,w3,hs,s _ _ h1 (.inr (.inr rfl)),h2.stay s,h3.stay s,h4.stay s,h5⟩
structure LinesAt (Cm Co Cw: Addr) (H: Hp) (as: List Addr) (ls: List Tide.Level): Prop where
 len: as.length = ls.length
 at_: ∀ (i: Nat) l lv,as[i]? = some l -> ls[i]? = some lv -> LineAt Cm Co Cw H l lv
theorem LinesAt.stay {Cm Co Cw: Addr} {H H': Hp} {as: List Addr} {ls: List Tide.Level} (L: LinesAt Cm Co Cw H as ls) (s: Stay H H'): LinesAt Cm Co Cw H' as ls:=⟨L.len,fun i l lv h1 h2 => (L.at_ i l lv h1 h2).stay s⟩
theorem LinesAt.snoc {Cm Co Cw: Addr} {H: Hp} {as: List Addr} {ls: List Tide.Level} {l: Addr} {lv: Tide.Level} (L: LinesAt Cm Co Cw H as ls) (h: LineAt Cm Co Cw H l lv): LinesAt Cm Co Cw H (as ++ [l]) (ls ++ [lv]):=by
 refine ⟨by rw [List.length_append,List.length_append,L.len]; rfl,fun i a v h1 h2 => ?_⟩
 by_cases q: i < as.length
 ·rw [List.getElem?_append_left q] at h1
  rw [List.getElem?_append_left (by rw [<- L.len]; exact q)] at h2
  exact L.at_ i a v h1 h2
 ·rw [List.getElem?_append_right (by omega)] at h1
  rw [List.getElem?_append_right (by rw [<- L.len]; omega),<- L.len] at h2
  cases z: i - as.length with
  | zero =>
   rw [z] at h1 h2
   cases h1; cases h2
   exact h
  | succ m =>
   rw [z] at h1
   cases h1
theorem But.drop {r: Addr} {H0 H H': Hp} (b: But [] H0 H) (b': But [r] H H') (hr: H0 r = Option.none): But [] H0 H':=fun a o e _ => b' a o (b a o e (by simp)) (by simpa using ne_of_none e hr)
section
variable {P: Program} {w: World} {K: PySem.W.Frag} {mg: Str -> Option Value} {base: Heap}
abbrev TxL.lns (T: TxL K mg):=LinesAt T.markC T.overC T.wordC
def spLines (T: TxL K mg): Sp:=fun vs H Q E => ∃ (tx: Addr) (b: Tide.Bytes),vs = [.ref tx] /\ H tx = some (.lst ((codes b).map V.int)) /\ b.length < sizeLine /\
 (∀ ls,linesFrom b 0 = .ok ls -> ∀ l as H',H' l = some (.lst (as.map V.ref)) -> H l = none -> T.lns H' as ls -> But [] H H' -> Q (.ref l) H') /\
 (∀ p,linesFrom b 0 = .error p -> ∀ a H',Told K T.R H' a [-6,1,p] -> But [] H H' -> E (.ref a) none H')
theorem sc_lines: FnScope ["text","reader","lines"] ["text"] (defScope (top 42)):=⟨rfl,rfl,rfl,by decide +kernel,rfl,by decide +kernel,by decide +kernel⟩
theorem ok_lines (T: TxL K mg): FnOk P w K mg base (XC P w) 9 T.linesOf.f T.linesOf.fd ["text"] (spLines T):=by
 have GI: FnOk P w K mg base (XC P w) 1 T.rdI.f T.rdI.fd ["self","text"] (spRdI T.rd):=ok_rdI T.toTxG
 have GE: FnOk P w K mg base (XC P w) 1 T.atEnd.f T.atEnd.fd ["self"] (spEnd T.rd):=ok_end T.toTxG
 have GL: FnOk P w K mg base (XC P w) 8 T.takeLine.f T.takeLine.fd ["self"] (spLn T Tide.levelIn):=ok_ln T
 refine T.linesOf.prove sc_lines (fun vs H Q E h => ?_) (fun cdv A outer s H vs Q E hr h => ?_)
 ·obtain ⟨tx,b,rfl,_⟩:=h
  rfl
 ·obtain ⟨tx,b,rfl,htx,hb,k1,k2⟩:=h
  have hr1: Room 1 _:=hr.mono (by decide)
  have hr2: Room 2 _:=hr.mono (by decide)
  refine ⟨_,pss_cons (ps_set (i:=1) sc_lines.nd rfl (Or.inl rfl) (pe_make T.rdMk GI hr2 rfl T.mgRd T.rdI.b .nil passX (pa_cons (pv 0) pa_nil)))
   (pss_cons (ps_set (i:=2) sc_lines.nd rfl (Or.inl rfl) (pe_lst pa_nil))
   (pss_cons (ps_while PassesOwn.leaving (pt_not (pt_val (pe_meth0 (pv 1) T.rdCl T.atEnd.m GE hr1 T.atEnd.b .nil passX)))
    (pss_one (ps_expr (pe_bm PySem.F.plainAttrs_list PySem.F.slot_list_append PySem.F.type_list_append mt_append (pv 2) (pa_cons (pe_meth0 (pv 1) T.rdCl T.takeLine.m GL hr T.takeLine.b .nil passX) pa_nil)))))
   (pss_one (ps_ret (pv 2))))),?_⟩
  refine ⟨_,rfl,?_⟩
  intro r dx hr0 hd0 ne
  refine ⟨r,dx,tx,rfl,upd_same,fun H1 e1 b1 => ⟨rfl,?_⟩⟩
  have bb1:=but_make hr0 hd0 b1
  have tx1:=bb1 _ _ htx (by simp)
  refine ⟨Nat.zero_le _,fun l hl => ?_⟩
  have nlr: l ≠ r:=fun z => by rw [z,e1] at hl; cases hl
  have hl0: H l = none:=bb1.none hl (by simp)
  have bb2: But [] H (upd H1 l (.lst [])):=fun a o e _ => upd_new hl _ _ (bb1 a o e (by simp))
  have R0: RdAt T.rd (upd H1 l (.lst [])) r tx b 0:=⟨⟨dx,upd_new hl _ _ e1⟩,upd_new hl _ _ tx1,Nat.zero_le _⟩
  refine ⟨fun m σ H2 => ∃ k as ls,σ = [some (.ref tx),some (.ref r),some (.ref l)] /\ m = b.length - k /\ RdAt T.rd H2 r tx b k /\ H2 l = some (.lst (as.map V.ref)) /\ T.lns H2 as ls /\ But [] H H2 /\ as.length <= k /\ linesFrom b 0 = (linesFrom b k >>= fun rest => .ok (ls ++ rest)),
   ⟨_,0,[],[],rfl,rfl,R0,upd_same,⟨rfl,fun i l' lv z => by cases z⟩,bb2,Nat.le_refl _,by cases linesFrom b 0 <;> rfl⟩,?_⟩
  rintro m σ H2 ⟨k,as,ls,rfl,rfl,R2,h2,L2',b2,le2,el⟩
  obtain ⟨dx2,e2⟩:=R2.ins
  refine ⟨_,rfl,r,dx2,_,rfl,e2,rfl,r,tx,b,k,rfl,R2,_,rfl,iteB (fun q => ?_) (fun q => ?_)⟩
  ·have q: ¬ k = b.length:=by simpa using q
   have lt: k < b.length:=Nat.lt_of_le_of_ne R2.le q
   refine ⟨fun σ' H' => ∃ m',m' < b.length - k /\ ∃ k as ls,σ' = [some (.ref tx),some (.ref r),some (.ref l)] /\ m' = b.length - k /\ RdAt T.rd H' r tx b k /\ H' l = some (.lst (as.map V.ref)) /\ T.lns H' as ls /\ But [] H H' /\ as.length <= k /\ linesFrom b 0 = (linesFrom b k >>= fun rest => .ok (ls ++ rest)),fun _ _ z => z,
    _,rfl,.inl ⟨rfl,_,SqL.of h2⟩,_,rfl,r,dx2,_,rfl,e2,rfl,r,tx,b,k,rfl,R2,fun lv j qj x H3 L3 R3 b3 => ?_,fun p qp a H3 t b3 => ?_⟩
   ·have n2: l ≠ r:=ne_of h2 e2 (by intro z; cases z)
    have h3:=b3 _ _ h2 (by simpa using n2)
    have s3: Stay H2 H3:=Stay.but1 b3 e2 (by rintro (z | z | z) <;> exact absurd z (by decide))
    refine ⟨l,_,_,rfl,rfl,h3,(by rw [List.length_map]; omega),?_⟩
    obtain ⟨_,l1,l2⟩:=Mh.levelIn_on qj
    have l1: k < j:=l1
    have l2: j <= b.length:=l2
    have s4: Stay H3 (upd H3 l (.lst (as.map V.ref ++ [V.ref x]))):=Stay.wr h3 calm_lst
    obtain ⟨dx3,e3⟩:=R3.ins
    refine ⟨b.length - j,by omega,j,as ++ [x],ls ++ [lv],rfl,rfl,⟨⟨dx3,by rw [upd_ne (Ne.symm n2)]; exact e3⟩,?_,l2⟩,by rw [upd_same,List.map_append]; rfl,((L2'.stay s3).snoc L3).stay s4,?_,by rw [List.length_append]; show as.length + 1 <= j; omega,?_⟩
    ·rw [upd_ne]
     ·exact R3.txt
     ·intro z
      have:=b2 _ _ htx (by simp)
      rw [z] at htx
      rw [hl0] at htx
      cases htx
    ·have b23:=b2.drop b3 hr0
     intro a o e _
     rw [upd_ne (ne_of_none e hl0)]
     exact b23 a o e (by simp)
    ·rw [el,Mh.linesFrom_step lt qj]
     cases linesFrom b j with
     | error p => rfl
     | ok rr => show Except.ok (ls ++ (lv :: rr)) = Except.ok (ls ++ [lv] ++ rr); rw [List.append_assoc]; rfl
   ·rw [Mh.linesFrom_bad lt qp] at el
    exact k2 p el a H3 t (b2.drop b3 hr0)
  ·have q: k = b.length:=by simpa using q
   subst q
   rw [Mh.linesFrom_end] at el
   refine ⟨_,rfl,k1 _ el l as H2 h2 hl0 ?_ b2⟩
   rw [List.append_nil]
   exact L2'
end
end Mp
end
section
namespace Mp
open PySem PySem.Spec PyProof.Rows L2 Xc
open Mh (codes sgn cur piece linesFrom)
abbrev sNum: Stmt:=top 47
abbrev sHgt: Stmt:=top 48
abbrev sPrt: Stmt:=top 49
theorem bo_abs: bootBuiltins "abs" = some (.builtin "abs"):=by decide +kernel
theorem bo_str: bootBuiltins "str" = some (.type "str"):=by decide +kernel
structure TxH (K: PySem.W.Frag) (mg: Str -> Option Value) extends TxL K mg where
 zero: ∃ t,mg "ZERO" = some (.int 48 t)
 metre: ∃ t,mg "METRE" = some (.int 10000 t)
 places: ∃ t,mg "PLACES" = some (.int 4 t)
 absN: mg "abs" = none
 strN: mg "str" = none
 listN: mg "list" = none
 num: Fd K "number_of" "number_of" sNum ["digits"]
 mgNum: mg "number_of" = some (.ref num.f)
 kpNum: PySem.W.keepIn K (.ref num.f) = true
 hgt: Fd K "height_of" "height_of" sHgt ["signs"]
 mgHgt: mg "height_of" = some (.ref hgt.f)
 kpHgt: PySem.W.keepIn K (.ref hgt.f) = true
 prt: Fd K "printed_height" "printed_height" sPrt ["height"]
 mgPrt: mg "printed_height" = some (.ref prt.f)
 kpPrt: PySem.W.keepIn K (.ref prt.f) = true
theorem cut_from {xs: List V} {p: Nat}: cutV xs (some (p: Int)) none = xs.drop p:=by
 unfold cutV
 rw [HT.sIx_nat]
 have e: HT.sIx xs.length xs.length none = xs.length:=rfl
 rw [e]
 by_cases h: p <= xs.length
 ·rw [Nat.min_eq_left h,List.take_of_length_le]
  rw [List.length_drop]; exact Nat.le_refl _
 ·have h: xs.length <= p:=by omega
  rw [Nat.min_eq_right h,List.drop_eq_nil_of_le (Nat.le_refl _),List.drop_eq_nil_of_le h]; simp
theorem cut_to {xs: List V} {p: Nat}: cutV xs none (some (p: Int)) = xs.take p:=by
 unfold cutV
 rw [HT.sIx_nat]
 have e: HT.sIx xs.length 0 none = 0:=rfl
 rw [e,List.drop_zero,Nat.sub_zero]
 by_cases h: p <= xs.length
 ·rw [Nat.min_eq_left h]
 ·have h: xs.length <= p:=by omega
  rw [Nat.min_eq_right h,List.take_of_length_le (Nat.le_refl _),List.take_of_length_le h]
theorem flat_ints (ns: List Int): (ns.map V.int).all flatV = true:=by
 rw [List.all_map]
 exact List.all_eq_true.mpr fun _ _ => rfl
theorem in_ints (z: Int) (ns: List Int): inV (.int z) (ns.map V.int) = ns.any fun c => c == z:=by
 unfold inV
 rw [List.any_map]; rfl
section
variable {P: Program} {w: World} {K: PySem.W.Frag} {mg: Str -> Option Value} {base: Heap}
def spNum: Sp:=fun vs H Q _ => ∃ (a: Addr) (ns: List Int),vs = [.ref a] /\ H a = some (.lst (ns.map V.int)) /\ Q (.int (Mh.numberI ns)) H
theorem sc_num: FnScope ["digits","number","digit"] ["digits"] (defScope sNum):=⟨rfl,rfl,rfl,by decide +kernel,rfl,by decide +kernel,by decide +kernel⟩
theorem ok_num (T: TxH K mg): FnOk P w K mg base (XC P w) 1 T.num.f T.num.fd ["digits"] spNum:=by
 refine T.num.prove sc_num (fun vs H Q E h => ?_) (fun cdv A outer s H vs Q E hr h => ?_)
 ·obtain ⟨a,ns,rfl,_⟩:=h
  rfl
 ·obtain ⟨a,ns,rfl,ha,k⟩:=h
  refine ⟨_,pss_cons (ps_set (i:=1) sc_num.nd rfl (Or.inl rfl) pe_int)
   (pss_cons (ps_for PassesOwn.leaving rfl (pi_list (pv 0)) (pg_name (i:=2) sc_num.nd rfl (Or.inl rfl))
    (pss_one (ps_set (i:=1) sc_num.nd rfl (Or.inl rfl) (pe_op op_sub (pe_op op_add (pe_op op_mul (pv 1) pe_int) (pv 2)) (pe_gi rfl T.zero)))))
   (pss_one (ps_ret (pv 1)))),?_⟩
  refine ⟨_,rfl,a,rfl,⟨_,SqL.of ha⟩,for_list (xs:=ns.map V.int) (fun i σ H' => H' = H /\ ∃ v,σ = [some (.ref a),some (.int (Mh.numberI (ns.take i))),v]) ⟨rfl,_,rfl⟩ ?_ ?_ ?_⟩
  ·rintro i σ H1 _ ⟨rfl,v,rfl⟩
   exact SqL.of ha
  ·rintro i x σ H1 hx ⟨rfl,v,rfl⟩
   rw [List.getElem?_map] at hx
   cases q: ns[i]? with
   | none => rw [q] at hx; cases hx
   | some z =>
    rw [q] at hx
    have hx: V.int z = x:=Option.some.inj hx
    subst hx
    refine ⟨_,rfl,_,_,rfl,rfl,.inr ⟨by decide,by decide⟩,_,rfl,_,_,rfl,rfl,_,_,rfl,rfl,rfl,some (.int z),?_⟩
    rw [Mh.numberI_take q]
    rfl
  ·rintro σ H1 ⟨rfl,v,rfl⟩
   rw [List.length_map,List.take_length]
   exact ⟨_,rfl,k⟩
def spHgt: Sp:=fun vs H Q _ => ∃ (t: Addr) (hs: Tide.Bytes) (h: Int),vs = [.ref t] /\ H t = some (.tup ((codes hs).map V.int)) /\ Mh.HSigns hs h /\ ∀ H',But [] H H' -> Q (.int h) H'
theorem sc_hgt: FnScope ["signs","digits","below","point","behind","filled","amount"] ["signs"] (defScope sHgt):=⟨rfl,rfl,rfl,by decide +kernel,rfl,by decide +kernel,by decide +kernel⟩
theorem ok_hgt (T: TxH K mg): FnOk P w K mg base (XC P w) 2 T.hgt.f T.hgt.fd ["signs"] spHgt:=by
 have GN: FnOk P w K mg base (XC P w) 1 T.num.f T.num.fd ["digits"] spNum:=ok_num T
 refine T.hgt.prove sc_hgt (fun vs H Q E h => ?_) (fun cdv A outer s H vs Q E hr h => ?_)
 ·obtain ⟨t,hs,z,rfl,_⟩:=h
  rfl
 ·obtain ⟨t,hs,h,rfl,ht,hg,k⟩:=h
  have hread:=hg.read
  obtain ⟨l1,l2⟩:=hg.len
  have lc: (codes hs).length = hs.length:=Mh.codes_length hs
  have small: ∀ n: Nat,n <= 1000 -> n <= sizeLine:=fun n hn => Nat.le_trans hn (by decide)
  have cx: True:=trivial
  have tail2: ∃ u,PSs (cxOf (XC P w) P w K mg base ["signs","digits","below","point","behind","filled","amount"] "height_of" (defScope sHgt) T.hgt.f cdv A outer s H E) ((defBody sHgt).drop 4) u /\
    ∀ (below: Bool) (ds: List Int) (d: Addr) (p: Nat) (v4 v5 v6: Option V) (H1: Hp),below = decide ((codes hs).headD 0 = 45) -> ds = (if below = true then (codes hs).drop 1 else codes hs) -> ds.length <= 10 -> p = ds.findIdx (fun c => c == 46) -> H1 d = some (.lst (ds.map V.int)) -> But [] H H1 ->
     u { nx:=fun _ H' => Q .non H',rt:=Q } [some (.ref t),some (.ref d),some (.bl below),some (.int (p: Int)),v4,v5,v6] H1:=by
   refine ⟨_,pss_cons (ps_set (i:=4) sc_hgt.nd rfl (Or.inl rfl) (pe_slice sl_list (pv 1) (po_some (pe_op op_add (pv 3) pe_int)) po_none))
    (pss_cons (ps_set (i:=5) sc_hgt.nd rfl (Or.inl rfl) (pe_op op_cat (pv 4) (pe_op op_rep (pe_lst (pa_cons (pe_gi rfl T.zero) pa_nil)) (pe_op op_sub (pe_gi rfl T.places) (pe_callB call_len_seq (by rfl) T.lenN bo_len (pa_cons (pv 4) pa_nil))))))
    (pss_cons (ps_set (i:=6) sc_hgt.nd rfl (Or.inl rfl) (pe_call GN hr rfl T.mgNum T.kpNum T.num.b .nil passX (pa_cons (pe_op op_cat (pe_slice sl_list (pv 1) po_none (po_some (pv 3))) (pv 5)) pa_nil)))
    (pss_one (ps_ret (pe_ifExp (pt_val (pv 2)) (pe_un un_neg (pv 6)) (pv 6)))))),?_⟩
   intro below ds d p v4 v5 v6 H1 hb hds ld hp hd b1
   have worth: (if below = true then -Mh.numberI (ds.take p ++ (ds.drop (p + 1) ++ List.replicate (4 - (ds.drop (p + 1)).length) 48)) else Mh.numberI (ds.take p ++ (ds.drop (p + 1) ++ List.replicate (4 - (ds.drop (p + 1)).length) 48))) = h:=by
    rw [<- hread]
    unfold Mh.heightI
    rw [hp,hds,hb]
   refine ⟨_,rfl,_,rfl,_,_,rfl,rfl,_,rfl,d,_,rfl,SqL.of hd,fun a4 h4 => ?_⟩
   have e4: cutV (ds.map V.int) (some ((p: Int) + 1)) none = (ds.drop (p + 1)).map V.int:=by
    rw [show ((p: Int) + 1) = ((p + 1: Nat): Int) by omega,cut_from,List.map_drop]
   rw [e4]
   have hd4:=upd_new (o:=HO.lst ((ds.drop (p + 1)).map V.int)) h4 d _ hd
   refine ⟨_,rfl,(by show 1 <= sizeLine; decide),fun a5 h5 => ?_⟩
   have n54: a4 ≠ a5:=fun z => by rw [<- z,upd_same] at h5; cases h5
   have h45:=upd_new (o:=HO.lst [V.int 48]) h5 a4 _ upd_same
   have hd5:=upd_new (o:=HO.lst [V.int 48]) h5 d _ hd4
   refine ⟨_,rfl,a4,_,rfl,.inl (SqL.of h45),_,_,rfl,rfl,a5,_,_,rfl,rfl,upd_same,?_,?_,?_,fun a6 h6 => ?_⟩
   ·rw [List.length_map,List.length_drop]; omega
   ·rw [List.length_map,List.length_drop]; omega
   ·show 1 * _ <= sizeLine
    refine small _ ?_
    rw [List.length_map,List.length_drop]; omega
   have e6: (List.replicate ((4: Int) - (((ds.drop (p + 1)).map V.int).length: Nat)).toNat [V.int 48]).flatten = (List.replicate (4 - (ds.drop (p + 1)).length) 48).map V.int:=by
    rw [List.length_map,show ((4: Int) - ((ds.drop (p + 1)).length: Nat)).toNat = 4 - (ds.drop (p + 1)).length by omega]
    generalize 4 - (ds.drop (p + 1)).length = m
    induction m with
    | zero => rfl
    | succ m ih => rw [List.replicate_succ,List.flatten_cons,ih,List.replicate_succ]; rfl
   rw [e6]
   have h46:=upd_new (o:=HO.lst ((List.replicate (4 - (ds.drop (p + 1)).length) 48).map V.int)) h6 a4 _ h45
   have hd6:=upd_new (o:=HO.lst ((List.replicate (4 - (ds.drop (p + 1)).length) 48).map V.int)) h6 d _ hd5
   refine ⟨a4,a6,_,_,rfl,rfl,h46,upd_same,?_,fun a7 h7 => ?_⟩
   ·refine small _ ?_
    rw [List.length_map,List.length_map,List.length_drop,List.length_replicate]; omega
   have hd7:=upd_new (o:=HO.lst ((ds.drop (p + 1)).map V.int ++ (List.replicate (4 - (ds.drop (p + 1)).length) 48).map V.int)) h7 d _ hd6
   refine ⟨_,rfl,_,rfl,_,rfl,d,_,rfl,SqL.of hd7,fun a8 h8 => ?_⟩
   rw [cut_to]
   have h78:=upd_new (o:=HO.lst ((ds.map V.int).take p)) h8 a7 _ upd_same
   refine ⟨_,rfl,a8,a7,_,_,rfl,rfl,upd_same,h78,?_,fun a9 h9 => ?_⟩
   ·refine small _ ?_
    rw [List.length_take,List.length_append,List.length_map,List.length_map,List.length_map,List.length_drop,List.length_replicate]; omega
   refine ⟨a9,ds.take p ++ (ds.drop (p + 1) ++ List.replicate (4 - (ds.drop (p + 1)).length) 48),rfl,?_,?_⟩
   ·rw [upd_same,List.map_append,List.map_append,List.map_take]
   have bb: ∀ o7 o8 o9,But [] H (upd (upd (upd (upd (upd (upd H1 a4 (.lst ((ds.drop (p + 1)).map V.int))) a5 (.lst [V.int 48])) a6 (.lst ((List.replicate (4 - (ds.drop (p + 1)).length) 48).map V.int))) a7 o7) a8 o8) a9 o9):=fun o7 o8 o9 a o e _ => by
    have e1:=b1 a o e (by simp)
    have e2:=upd_new (o:=HO.lst ((ds.drop (p + 1)).map V.int)) h4 a _ e1
    have e3:=upd_new (o:=HO.lst [V.int 48]) h5 a _ e2
    have e4:=upd_new (o:=HO.lst ((List.replicate (4 - (ds.drop (p + 1)).length) 48).map V.int)) h6 a _ e3
    have n7:=ne_of_none e4 h7
    have n8: a ≠ a8:=fun z => by
     have:=upd_new (o:=HO.lst ((ds.drop (p + 1)).map V.int ++ (List.replicate (4 - (ds.drop (p + 1)).length) 48).map V.int)) h7 a _ e4
     rw [z,h8] at this
     cases this
    have n9: a ≠ a9:=fun z => by
     have:=upd_new (o:=HO.lst ((ds.map V.int).take p)) h8 a _ (upd_new (o:=HO.lst ((ds.drop (p + 1)).map V.int ++ (List.replicate (4 - (ds.drop (p + 1)).length) 48).map V.int)) h7 a _ e4)
     rw [z,h9] at this
     cases this
    rw [upd_ne n9,upd_ne n8,upd_ne n7]
    exact e4
   refine ⟨_,rfl,_,rfl,iteB (fun q => ?_) (fun q => ?_)⟩
   ·rw [if_pos q] at worth
    refine ⟨_,rfl,_,rfl,?_⟩
    rw [<- worth] at k
    exact k _ (bb _ _ _)
   ·rw [if_neg (by rw [q]; decide)] at worth
    refine ⟨_,rfl,?_⟩
    rw [<- worth] at k
    exact k _ (bb _ _ _)
  obtain ⟨u2,hu2,hw2⟩:=tail2
  have tail: ∃ u,PSs (cxOf (XC P w) P w K mg base ["signs","digits","below","point","behind","filled","amount"] "height_of" (defScope sHgt) T.hgt.f cdv A outer s H E) ((defBody sHgt).drop 3) u /\
    ∀ (below: Bool) (ds: List Int) (d: Addr) (v3 v4 v5 v6: Option V) (H1: Hp),below = decide ((codes hs).headD 0 = 45) -> ds = (if below = true then (codes hs).drop 1 else codes hs) -> H1 d = some (.lst (ds.map V.int)) -> But [] H H1 ->
     u { nx:=fun _ H' => Q .non H',rt:=Q } [some (.ref t),some (.ref d),some (.bl below),v3,v4,v5,v6] H1:=by
   refine ⟨_,pss_cons (ps_set (i:=3) sc_hgt.nd rfl (Or.inl rfl) (pe_ifExp (pt_cmpR op_in_seq (pe_gi rfl T.point) (pv 1) (by rfl))
     (pe_bm PySem.F.plainAttrs_list PySem.F.slot_list_index PySem.F.type_list_index mt_index (pv 1) (pa_cons (pe_gi rfl T.point) pa_nil))
     (pe_callB call_len_seq (by rfl) T.lenN bo_len (pa_cons (pv 1) pa_nil)))) hu2,?_⟩
   intro below ds d v3 v4 v5 v6 H1 hb hds hd b1
   have ld: ds.length <= 10:=by
    rw [hds]
    split
    ·rw [List.length_drop]; omega
    ·omega
   refine ⟨_,rfl,d,_,rfl,.inl (SqL.of hd),rfl,flat_ints ds,_,rfl,?_⟩
   show if inV (.int 46) (ds.map V.int) = true then _ else _
   rw [in_ints]
   refine iteB (fun q => ?_) (fun q => ?_)
   ·obtain ⟨z,hz,rfl⟩:=Mh.findIdx_any ds q
    refine ⟨_,rfl,.inl ⟨rfl,_,SqL.of hd⟩,d,_,_,ds.findIdx (fun c => c == 46),.int 46,rfl,rfl,SqL.of hd,rfl,flat_ints ds,by rw [List.getElem?_map,hz]; rfl,rfl,fun m z' hm hz' => ?_,?_⟩
    ·rw [List.getElem?_map] at hz'
     cases q2: ds[m]? with
     | none => rw [q2] at hz'; cases hz'
     | some y =>
      rw [q2] at hz'
      have hz': V.int y = z':=Option.some.inj hz'
      subst hz'
      exact beq_eq_false_iff_ne.mpr (Mh.findIdx_before ds hm q2)
    ·exact hw2 below ds d _ v4 v5 v6 H1 hb hds ld rfl hd b1
   ·refine ⟨_,rfl,d,_,rfl,.inl (SqL.of hd),?_⟩
    rw [List.length_map]
    exact hw2 below ds d _ v4 v5 v6 H1 hb hds ld (Mh.findIdx_none ds q).symm hd b1
  obtain ⟨u,hu,hw⟩:=tail
  refine ⟨_,pss_cons (ps_set (i:=1) sc_hgt.nd rfl (Or.inl rfl) (pe_callTy call_list_of (by rfl) T.listN bo_list (pa_cons (pv 0) pa_nil)))
   (pss_cons (ps_set (i:=2) sc_hgt.nd rfl (Or.inl rfl) (pe_cmpR op_eq (pe_ix ix_list (pv 1) pe_int (fun _ _ => rfl)) (pe_gi rfl T.minus) (nomark _)))
   (pss_cons (ps_if (pt_val (pv 2)) (pss_one (ps_set (i:=1) sc_hgt.nd rfl (Or.inl rfl) (pe_slice sl_list (pv 1) (po_some pe_int) po_none))) pss_nil) hu)),?_⟩
  refine ⟨_,rfl,t,_,rfl,.inr (SqT.of ht),fun d hd => ?_⟩
  have b1: But [] H (upd H d (.lst ((codes hs).map V.int))):=fun a o e _ => upd_new hd _ _ e
  obtain ⟨c0,hc0⟩: ∃ c0,(codes hs)[0]? = some c0:=by
   cases q: (codes hs)[0]? with
   | none => rw [List.getElem?_eq_none_iff] at q; omega
   | some c0 => exact ⟨c0,rfl⟩
  have hh: (codes hs).headD 0 = c0:=by
   cases q: codes hs with
   | nil => rw [q] at hc0; cases hc0
   | cons y r => rw [q] at hc0; exact Option.some.inj hc0
  refine ⟨_,rfl,d,_,_,.int c0,rfl,rfl,SqL.of upd_same,atI_nat (j:=0) (by rw [List.getElem?_map,hc0]; rfl),rfl,?_⟩
  rw [dec_i,<- hh]
  refine ⟨_,rfl,_,rfl,iteB (fun q => ?_) (fun q => ?_)⟩
  ·refine ⟨_,rfl,_,rfl,d,_,rfl,SqL.of upd_same,fun d2 hd2 => ?_⟩
   have e2: cutV ((codes hs).map V.int) (some 1) none = ((codes hs).drop 1).map V.int:=by
    rw [show (1: Int) = ((1: Nat): Int) by rfl,cut_from,List.map_drop]
   rw [e2]
   refine hw _ ((codes hs).drop 1) d2 _ _ _ _ _ rfl (by rw [if_pos q]) upd_same fun a o e _ => upd_new hd2 _ _ (b1 a o e (by simp))
  ·exact hw _ (codes hs) d _ _ _ _ _ rfl (by rw [if_neg (by rw [q]; decide)]) upd_same b1
end
end Mp
end
section
namespace Mp
open PySem PySem.Spec PyProof.Rows L2 Xc
open PySem.Builtin PySem.Builtin.Str
theorem cps_num (n: Nat): (PySem.Str.ofString (toString (n: Int))).cps.toList = Mh.numN n:=by
 rw [PySem.Str.ofString_eq_toList]
 show (String.ofList (Nat.toDigits 10 n)).toList.map Char.toNat = _
 rw [String.toList_ofList]; rfl
theorem size_of {x: Str} {l: List Nat} (h: x.cps.toList = l): x.length = l.length:=by
 rw [<- h,Array.length_toList]; rfl
theorem zfill4 {x: Str} {l: List Nat} (h: x.cps.toList = l) (d: ∀ c ∈ l,48 <= c /\ c <= 57): (Txt.zfill x 4).cps.toList = List.replicate (4 - l.length) 48 ++ l:=by
 have hl:=size_of h
 unfold Txt.zfill
 by_cases q: (4: Int) <= (x.length: Int)
 ·rw [if_pos q,h,show 4 - l.length = 0 by omega]; rfl
 ·rw [if_neg q]
  have e0: zfilled x ((4: Int).toNat - x.length) = padded x (4 - x.length) 0 48:=by
   unfold zfilled
   have hc: ∀ c,x.cps[0]? = some c -> c ≠ 43 /\ c ≠ 45:=fun c hc => by
    rw [<- Array.getElem?_toList,h] at hc
    have:=d c (List.mem_of_getElem? hc)
    omega
   split
   ·rename_i e
    exact absurd rfl (hc _ e).1
   ·rename_i e
    exact absurd rfl (hc _ e).2
   ·rfl
  rw [e0,hl]
  unfold padded
  simp [h]
theorem strip0 {x: Str} {l: List Nat} (h: x.cps.toList = l): (Txt.rstripChars x "0").cps.toList = Mh.shornN l:=by
 have hl:=size_of h
 have hp: (fun c => ("0": Str).cps.contains c) = fun c => c == 48:=by
  funext c
  have: ("0": Str).cps = #[48]:=by decide +kernel
  rw [this]
  simp
  rfl
 have key: Txt.rstripChars x "0" = strSub x 0 (x.length - (x.cps.toList.reverse.takeWhile fun c => c == 48).length):=by
  unfold Txt.rstripChars Txt.stripBy
  have hi: stripHi ("0": Str).cps.contains true x 0 = x.length - (x.cps.toList.reverse.takeWhile fun c => c == 48).length:=by
   unfold stripHi
   rw [if_pos rfl,List.drop_zero]
   have: (("0": Str).cps.contains) = fun c => c == 48:=hp
   rw [this]
  have lo: stripLo ("0": Str).cps.contains false x = 0:=rfl
  split
  ·rename_i e
   unfold stripSame at e
   rw [lo,hi,Bool.and_eq_true] at e
   have e2:=e.2
   rw [beq_iff_eq] at e2
   rw [e2]
   exact (strSub_whole x).symm
  ·unfold stripped
   rw [lo,hi]
 rw [key,StrLaws.strSub_toList,List.drop_zero,Nat.sub_zero,h,hl]
 unfold Mh.shornN
 exact Mh.take_drop_while _ l
theorem cat_cps (x y: Str): (x ++ y).cps.toList = x.cps.toList ++ y.cps.toList:=by
 show (x.cps ++ y.cps).toList = _
 rw [Array.toList_append]
theorem mt_rstripC {X: Cx}: MtR X "str.rstrip" (fun x xs H Q => ∃ a b,x = .str a /\ xs = [.str b] /\ a.length <= sizeLine /\ Q (.str (Txt.rstripChars a b)) H):=by
 intro pins s σ H x xs v us Q I rx rs h
 obtain ⟨a,b,rfl,rfl,hl,h⟩:=h
 obtain ⟨t,rfl⟩:=rx
 cases rs with
 | cons r1 rs =>
  cases rs
  obtain ⟨u,rfl⟩:=r1
  exact PySem.SC.rstripChars (fun t' k => ⟨.str (Txt.rstripChars a b),H,I.tok k,⟨t',rfl⟩,h⟩) hl
theorem mt_zfill {X: Cx}: MtR X "str.zfill" (fun x xs H Q => ∃ a i,x = .str a /\ xs = [.int i] /\ PadOk i = true /\ Q (.str (Txt.zfill a i)) H):=by
 intro pins s σ H x xs v us Q I rx rs h
 obtain ⟨a,i,rfl,rfl,hp,h⟩:=h
 obtain ⟨t,rfl⟩:=rx
 cases rs with
 | cons r1 rs =>
  cases rs
  obtain ⟨u,rfl⟩:=r1
  exact PySem.SC.zfill hp (fun t' k => ⟨.str (Txt.zfill a i),H,I.tok k,⟨t',rfl⟩,h⟩)
theorem lc_str {x: Str} {g: TG} {tt: TT} {te: TE} {vs: List Nat} {σ: L2.St} {H1: Hp} {D: Addr} {Qd: Hp -> Prop} (Pv: Nat -> Hp -> Prop) (h0: Pv 0 (upd H1 D (.lst [])))
  (hs: ∀ i c H,x.cps[i]? = some c -> Pv i H -> g (.str ⟨#[c]⟩) (wipe σ vs) H fun σ2 H2 => wipe σ2 vs = wipe σ vs /\ tt σ2 H2 fun b H3 =>
   if b = true then te σ2 H3 fun y H4 => ∃ acc,H4 D = some (.lst acc) /\ acc.length < sizeLine /\ Pv (i + 1) (upd H4 D (.lst (acc ++ [y]))) else Pv (i + 1) H3) (hd: ∀ H,Pv x.cps.size H -> Qd H) :
  ∃ W: Nat -> Nat -> Hp -> Prop,(∃ m,W 0 m (upd H1 D (.lst []))) /\ ∀ i m H,W i m H ->
   ((Its x).stop i H /\ Qd H) \/ ((Its x).go i H /\ ∃ Nx: Hp -> Prop,(∀ H',Nx H' -> ∃ m',m' < m /\ W (i + 1) m' H') /\ ∀ y H',(Its x).yld i H y H' -> g y (wipe σ vs) H' fun σ2 H2 => wipe σ2 vs = wipe σ vs /\ tt σ2 H2 fun b H3 =>
    if b = true then te σ2 H3 fun y H4 => ∃ acc,H4 D = some (.lst acc) /\ acc.length < sizeLine /\ Nx (upd H4 D (.lst (acc ++ [y]))) else Nx H3):=by
 refine ⟨fun i m H => m = x.cps.size - i /\ i <= x.cps.size /\ Pv i H,⟨_,rfl,Nat.zero_le _,h0⟩,?_⟩
 rintro i m H ⟨rfl,hi,p⟩
 by_cases lt: i < x.cps.size
 ·refine .inr ⟨lt,Pv (i + 1),fun H' p' => ⟨x.cps.size - (i + 1),by omega,rfl,lt,p'⟩,fun v H' y => ?_⟩
  obtain ⟨rfl,c,hc,rfl⟩:=y
  exact hs i c _ hc p
 ·have e: i = x.cps.size:=by omega
  subst e
  exact .inl ⟨Nat.le_refl _,hd H p⟩
theorem blk_ok {X: Cx} {N: List Str} {sc scope: Scope} {own: List (Str × Nat)} (hN: X.N = N) (hs: X.env.scope = sc) (h: BlkOk N sc scope own): BlkOk X.N X.env.scope scope own:=by
 rw [hN,hs]; exact h
section
variable {P: Program} {w: World} {K: PySem.W.Frag} {mg: Str -> Option Value} {base: Heap}
def tOrd (i: Nat): TE:=fun σ H Q => (tCons (tVar i) tNil) σ H fun vs H1 => ∃ x,vs = [.str x] /\ x.length = 1 /\ Q (.int (x.cps.getD 0 0: Nat)) H1
theorem ords {i: Nat} {x: Str} {l: List Nat} {σ: L2.St} {H: Hp} {Q: VK} {tl: TE} (hx: x.cps.toList = l) (hl: l.length <= 1000) (hi: i < σ.length) (htl: ∀ R: VK,R (.str x) H -> tl σ H R) (k: ∀ D,H D = none -> Q (.ref D) (upd H D (.lst (l.map fun (c: Nat) => V.int (c: Int))))) :
  tLc (iStr tl) (gName i) tYes (tOrd i) [i] σ H Q:=by
 refine htl _ ⟨x,rfl,fun D hD => ?_⟩
 have sz: x.cps.size = l.length:=size_of hx
 refine lc_str (x:=x) (g:=gName i) (tt:=tYes) (te:=tOrd i) (vs:=[i]) (σ:=σ) (Qd:=fun H => Q (.ref D) H) (fun j H' => H' = upd H D (.lst ((l.take j).map fun (c: Nat) => V.int (c: Int)))) rfl ?_ ?_
 ·rintro j c H1 hc rfl
  rw [<- Array.getElem?_toList,hx] at hc
  have jl: j < l.length:=(List.getElem?_eq_some_iff.mp hc).1
  show _ /\ _
  refine ⟨?_,?_⟩
  ·show (((wipe σ []).set i none).set i (some (.str ⟨#[c]⟩))).set i none = (wipe σ []).set i none
   rw [List.set_set,List.set_set]
  ·suffices go: tOrd i (List.set (wipe σ [i]) i (some (V.str ⟨#[c]⟩))) (upd H D (.lst ((l.take j).map fun (c: Nat) => V.int (c: Int)))) fun y H4 => ∃ acc,H4 D = some (.lst acc) /\ acc.length < sizeLine /\ upd H4 D (.lst (acc ++ [y])) = upd H D (.lst ((l.take (j + 1)).map fun (c: Nat) => V.int (c: Int))) from go
   refine ⟨.str ⟨#[c]⟩,?_,_,rfl,rfl,_,upd_same,?_,?_⟩
   ·show (((wipe σ []).set i none).set i (some (.str ⟨#[c]⟩)))[i]? = _
    rw [List.getElem?_set_self]
    rw [List.length_set]; exact hi
   ·rw [List.length_map,List.length_take]
    exact Nat.lt_of_le_of_lt (Nat.le_trans (Nat.min_le_right _ _) hl) (by decide)
   ·rw [upd_upd,List.take_add_one,hc,List.map_append]; rfl
 ·rintro H1 rfl
  rw [sz,List.take_length]
  exact k D hD
def spPrt: Sp:=fun vs H Q _ => ∃ h: Int,vs = [.int h] /\ h.natAbs < 100000000 /\ ∀ l,H l = none -> Q (.ref l) (upd H l (.lst ((Mh.printedN h).map fun (c: Nat) => V.int (c: Int))))
theorem sc_prt: FnScope ["height","amount","written","behind","sign"] ["height"] (defScope sPrt):=⟨rfl,rfl,rfl,by decide +kernel,rfl,by decide +kernel,by decide +kernel⟩
theorem printed_len {h: Int} (hb: h.natAbs < 100000000): (Mh.printedN h).length <= 1000:=by
 unfold Mh.printedN
 have h1:=Mh.numN_len 3 (h.natAbs / 10000) (by omega)
 have h2:=Mh.numN_len 3 (h.natAbs % 10000) (by omega)
 have h3:=Mh.shornN_len (List.replicate (4 - (Mh.numN (h.natAbs % 10000)).length) 48 ++ Mh.numN (h.natAbs % 10000))
 rw [List.length_append,List.length_replicate] at h3
 simp only [List.length_append]
 split <;> split <;> simp <;> omega
theorem log_small {n: Nat} (h: n < 100000000): n.log2 < 1920:=by
 by_cases z: n = 0
 ·subst z; decide
 ·rw [Nat.log2_lt z]
  exact Nat.lt_of_lt_of_le h (Nat.le_trans (by decide: 100000000 <= 2 ^ 27) (Nat.pow_le_pow_right (by decide) (by decide)))
theorem ok_prt (T: TxH K mg): FnOk P w K mg base (XC P w) 1 T.prt.f T.prt.fd ["height"] spPrt:=by
 refine T.prt.prove sc_prt (fun vs H Q E h => ?_) (fun cdv A outer s H vs Q E hr h => ?_)
 ·obtain ⟨h,rfl,_⟩:=h
  rfl
 ·obtain ⟨h,rfl,hb,k⟩:=h
  have small: ∀ n: Nat,n <= 1000 -> n <= sizeLine:=fun n hn => Nat.le_trans hn (by decide)
  have tail3: ∃ u,PSs (cxOf (XC P w) P w K mg base ["height","amount","written","behind","sign"] "printed_height" (defScope sPrt) T.prt.f cdv A outer s H E) ((defBody sPrt).drop 5) u /\
    ∀ (x: Str) (v0 v1 v3 v4: Option V),x.cps.toList = Mh.printedN h -> u { nx:=fun _ H' => Q .non H',rt:=Q } [v0,v1,some (.str x),v3,v4] H:=by
   refine ⟨_,pss_one (ps_ret (pe_lc rfl sc_prt.nd (pi_str (pv 2)) (own:=[("sign",4)]) (blk_ok (N:=["height","amount","written","behind","sign"]) (sc:=defScope sPrt) rfl rfl ⟨rfl,by decide +kernel,by decide +kernel,by decide +kernel,by decide +kernel⟩) (fun _ _ _ _ _ => pg_name (i:=4) sc_prt.nd rfl (Or.inl rfl)) (fun _ _ _ _ _ => pts_nil)
    (fun _ _ _ _ _ => pe_callB call_ord (by rfl) T.ordN bo_ord (pa_cons (pv 4) pa_nil)))),?_⟩
   intro x v0 v1 v3 v4 hx
   exact ords hx (printed_len hb) (by show 4 < 5; decide) (fun R r => ⟨_,rfl,r⟩) k
  obtain ⟨u3,hu3,hw3⟩:=tail3
  have tail2: ∃ u,PSs (cxOf (XC P w) P w K mg base ["height","amount","written","behind","sign"] "printed_height" (defScope sPrt) T.prt.f cdv A outer s H E) ((defBody sPrt).drop 4) u /\
    ∀ (x: Str) (v1 v3 v4: Option V),(if h < 0 then [45] else []) ++ x.cps.toList = Mh.printedN h -> u { nx:=fun _ H' => Q .non H',rt:=Q } [some (.int h),v1,some (.str x),v3,v4] H:=by
   refine ⟨_,pss_cons (ps_if (pt_cmpR op_lt (pv 0) pe_int (nomark _)) (pss_one (ps_set (i:=2) sc_prt.nd rfl (Or.inl rfl) (pe_op op_add_str pe_str (pv 2)))) pss_nil) hu3,?_⟩
   intro x v1 v3 v4 hx
   refine ⟨_,rfl,_,_,rfl,rfl,_,rfl,iteB (fun q => ?_) (fun q => ?_)⟩
   ·have q: h < 0:=of_decide_eq_true q
    rw [if_pos q] at hx
    have pl:=printed_len hb
    have xl:=size_of (x:=x) rfl
    rw [<- hx,List.length_append] at pl
    refine ⟨_,rfl,_,_,rfl,rfl,small _ (by show 1 + x.length <= 1000; rw [xl]; simp at pl; omega),?_⟩
    exact hw3 _ _ _ _ _ (by rw [cat_cps,<- hx]; rfl)
   ·have q: ¬ h < 0:=of_decide_eq_false q
    rw [if_neg q] at hx
    exact hw3 _ _ _ _ _ hx
  obtain ⟨u2,hu2,hw2⟩:=tail2
  refine ⟨_,pss_cons (ps_set (i:=1) sc_prt.nd rfl (Or.inl rfl) (pe_callB call_abs (by rfl) T.absN bo_abs (pa_cons (pv 0) pa_nil)))
   (pss_cons (ps_set (i:=2) sc_prt.nd rfl (Or.inl rfl) (pe_callTy call_str_int (by rfl) T.strN bo_str (pa_cons (pe_op op_fdiv (pv 1) (pe_gi rfl T.metre)) pa_nil)))
   (pss_cons (ps_set (i:=3) sc_prt.nd rfl (Or.inl rfl) (pe_m1 F.slot_str_rstrip F.type_str_rstrip mt_rstripC (pe_m1 F.slot_str_zfill F.type_str_zfill mt_zfill (pe_callTy call_str_int (by rfl) T.strN bo_str (pa_cons (pe_op op_mod (pv 1) (pe_gi rfl T.metre)) pa_nil)) (pe_gi rfl T.places)) pe_str))
   (pss_cons (ps_if (pt_cmpR op_ne (pv 3) pe_str (nomark _)) (pss_one (ps_set (i:=2) sc_prt.nd rfl (Or.inl rfl) (pe_op op_add_str (pe_op op_add_str (pv 2) pe_str) (pv 3)))) pss_nil) hu2))),?_⟩
  have ea: (if h < 0 then -h else h) = ((h.natAbs: Nat): Int):=by split <;> omega
  refine ⟨_,rfl,_,rfl,?_⟩
  rw [ea]
  generalize hn: h.natAbs = n at *
  have e1: (n: Int) / 10000 = ((n / 10000: Nat): Int):=by omega
  have e2: (n: Int) % 10000 = ((n % 10000: Nat): Int):=by omega
  refine ⟨_,rfl,_,_,rfl,rfl,⟨by decide,by decide⟩,_,rfl,?_,?_⟩
  ·rw [e1,Int.natAbs_natCast]
   exact log_small (by omega)
  refine ⟨_,rfl,_,_,rfl,rfl,(by show (0: Int) < 10000; decide),_,rfl,?_,?_⟩
  ·rw [e2,Int.natAbs_natCast]
   exact log_small (by omega)
  rw [e1,e2]
  have c1:=cps_num (n / 10000)
  have c2:=zfill4 (cps_num (n % 10000)) (Mh.numN_digit (n % 10000))
  have c3:=strip0 c2
  generalize hx1: (PySem.Str.ofString (toString ((n / 10000: Nat): Int))) = x1 at c1
  generalize hx2: (Txt.zfill (PySem.Str.ofString (toString ((n % 10000: Nat): Int))) 4) = x2 at c2 c3
  generalize hx3: Txt.rstripChars x2 "0" = x3 at c3
  have n1:=Mh.numN_len 3 (n / 10000) (by omega)
  have n2:=Mh.numN_len 3 (n % 10000) (by omega)
  have n3:=Mh.shornN_len (List.replicate (4 - (Mh.numN (n % 10000)).length) 48 ++ Mh.numN (n % 10000))
  have l1:=size_of c1
  have l2:=size_of c2
  have l3:=size_of c3
  rw [List.length_append,List.length_replicate] at l2 n3
  refine ⟨⟨_,rfl⟩,_,_,rfl,rfl,(by decide +kernel),?_⟩
  refine ⟨⟨_,rfl⟩,_,_,rfl,rfl,?_,?_⟩
  ·show (Txt.zfill (PySem.Str.ofString (toString ((n % 10000: Nat): Int))) 4).length <= sizeLine
   rw [hx2]
   exact small _ (by omega)
  rw [hx2,hx3]
  generalize hsh: Mh.shornN (List.replicate (4 - (Mh.numN (n % 10000)).length) 48 ++ Mh.numN (n % 10000)) = sh at *
  have key: ∀ x: Str,x.cps.toList = Mh.numN (n / 10000) ++ (if sh = [] then [] else 46 :: sh) -> (if h < 0 then [45] else []) ++ x.cps.toList = Mh.printedN h:=by
   intro x hx
   rw [hx]
   unfold Mh.printedN
   rw [hn,<- hsh]
  refine ⟨_,rfl,rfl,_,rfl,?_⟩
  by_cases z: sh = []
  ·have e3: x3 = "":=by
    have: x3.length = 0:=by rw [l3,z]; rfl
    exact empty_of_len this
   rw [decide_eq_true (by rw [e3])]
   refine iteB (fun q => by cases q) (fun _ => hw2 _ _ _ _ (key _ ?_))
   rw [if_pos z,List.append_nil]
   exact c1
  ·have e3: x3 ≠ "":=fun q => z (by rw [<- c3,q]; rfl)
   rw [decide_eq_false (fun q => e3 (by injection q))]
   refine iteB (fun _ => ?_) (fun q => by cases q)
   have p1: (".": Str).length = 1:=by decide +kernel
   refine ⟨_,rfl,_,_,rfl,rfl,small _ (by rw [p1]; omega),_,rfl,_,_,rfl,rfl,small _ ?_,hw2 _ _ _ _ (key _ ?_)⟩
   ·rw [size_of (cat_cps _ _),List.length_append,Array.length_toList,Array.length_toList]
    show x1.length + (".": Str).length + x3.length <= 1000
    rw [p1]; omega
   ·rw [cat_cps,cat_cps,c1,c3,if_neg z,List.append_assoc]
    have: (".": Str).cps.toList = [46]:=by decide +kernel
    rw [this]; rfl
end
end Mp
end
section
namespace Mp
open PySem PySem.Spec PyProof.Rows L2 Xc
abbrev sCallI: Stmt:=inClass (top 9) 0
abbrev sCr (j: Nat): Stmt:=inClass (top 10) j
def shapeV (i: Nat): Nat × Nat:=match i with
 | 0 => (0,1) | 1 => (0,0) | 2 => (0,0) | 3 => (1,0) | 4 => (0,1) | 5 => (2,0) | 6 => (2,0) | _ => (1,0)
structure TxC (K: PySem.W.Frag) (mg: Str -> Option Value) extends TxH K mg where
 shA: Addr
 shs: List Addr
 mgSh: mg "SHAPES" = some (.ref shA)
 shT: ∀ H,SqT K H shA (shs.map V.ref)
 shL: shs.length = 8
 shI: ∀ i a,shs[i]? = some a -> ∀ H,SqT K H a [.int ((shapeV i).1: Nat),.int ((shapeV i).2: Nat)]
 callC: Addr
 callI: Fd K "__init__" "Call.__init__" sCallI ["self","number","given"]
 callMk: Mk K callC callI.f
 mgCall: mg "Call" = some (.ref callC)
 callCl: Cls K callC
 callN: NoAttr K callC "number"
 callG: NoAttr K callC "given"
 crC: Addr
 crI: Fd K "__init__" "CallReader.__init__" (sCr 0) ["self","handed_in"]
 crMk: Mk K crC crI.f
 mgCr: mg "CallReader" = some (.ref crC)
 crCl: Cls K crC
 crH: NoAttr K crC "handed_in"
 crA: NoAttr K crC "at"
 hasMore: Md K crC "has_more" "CallReader.has_more" (sCr 1) ["self"]
 takeNumber: Md K crC "take_number" "CallReader.take_number" (sCr 2) ["self"]
 takeRow: Md K crC "take_row" "CallReader.take_row" (sCr 3) ["self"]
 takeCall: Md K crC "take_call" "CallReader.take_call" (sCr 4) ["self"]
 callsOf: Fd K "calls_of" "calls_of" (top 11) ["handed_in"]
 mgCalls: mg "calls_of" = some (.ref callsOf.f)
 kpCalls: PySem.W.keepIn K (.ref callsOf.f) = true
def cf (tx: Addr) (k: Nat): List (Str × V):=[("handed_in",.ref tx),("at",.int k)]
structure CrAt (K: PySem.W.Frag) (C: Addr) (H: Hp) (r tx: Addr) (ns: List Int) (k: Nat): Prop where
 ins: ∃ dx,H r = some (.ins C dx (cf tx k))
 txt: SqL K H tx (ns.map V.int)
 le: k <= ns.length
theorem sq_but {K: PySem.W.Frag} {H H': Hp} {a: Addr} {xs: List V} {l: List Addr} (h: SqL K H a xs) (b: But l H H') (n: Rd H a (.lst xs) -> a ∉ l): SqL K H' a xs:=by
 rcases h with h | h
 ·have n:=n h
  rcases h with h | ⟨o,h⟩
  ·exact .inl (.inl (b _ _ h n))
  ·exact .inl (.inr ⟨o,b _ _ h n⟩)
 ·exact .inr h
theorem rd_ne {H: Hp} {a r C dx: Addr} {fs: List (Str × V)} {xs: List V} (h: Rd H a (.lst xs)) (e: H r = some (.ins C dx fs)): a ≠ r:=by
 intro z
 subst z
 rcases h with h | ⟨u,h⟩ <;> (rw [e] at h; cases h)
theorem CrAt.on {K: PySem.W.Frag} {C: Addr} {H H': Hp} {r tx: Addr} {ns: List Int} {k j: Nat} (R: CrAt K C H r tx ns k) (hj: j <= ns.length) (h1: ∃ dx,H' r = some (.ins C dx (cf tx j))) (b: But [r] H H'): CrAt K C H' r tx ns j:=by
 obtain ⟨dx,e⟩:=R.ins
 exact ⟨h1,sq_but R.txt b (fun h => by simpa using rd_ne h e),hj⟩
theorem CrAt.same {K: PySem.W.Frag} {C: Addr} {H H': Hp} {r tx: Addr} {ns: List Int} {k: Nat} (R: CrAt K C H r tx ns k) (b: But [] H H'): CrAt K C H' r tx ns k:=by
 obtain ⟨dx,e⟩:=R.ins
 exact ⟨⟨dx,b _ _ e (by simp)⟩,sq_but R.txt b (fun _ => by simp),R.le⟩
theorem CrAt.there {K: PySem.W.Frag} {C: Addr} {H: Hp} {r tx: Addr} {ns: List Int} {k: Nat} (R: CrAt K C H r tx ns k): ∀ a ∈ [r],H a ≠ Option.none:=by
 obtain ⟨dx,e⟩:=R.ins
 intro a ha
 have: a = r:=by simpa using ha
 subst this
 rw [e]; exact fun z => by cases z
def CallAt (C: Addr) (H: Hp) (c: Addr) (cl: List (List Int)) (F: List Addr): Prop:=∃ dx g p,H c = some (.ins C dx [("number",.int p),("given",.ref g)]) /\
 ((∃ row r,F = [c,g,r] /\ cl = [[p],row] /\ (p = 0 \/ p = 4) /\ H g = some (.lst [.ref r]) /\ H r = some (.lst (row.map V.int))) \/ (F = [c,g] /\ cl = [[p]] /\ (p = 1 \/ p = 2) /\ H g = some (.lst [])) \/
  (∃ i,F = [c,g] /\ cl = [[p,i]] /\ (p = 3 \/ p = 7) /\ H g = some (.lst [.int i])) \/ (∃ i j,F = [c,g] /\ cl = [[p,i,j]] /\ (p = 5 \/ p = 6) /\ H g = some (.lst [.int i,.int j])))
theorem CallAt.but {C: Addr} {H H': Hp} {c: Addr} {cl: List (List Int)} {F l: List Addr} (h: CallAt C H c cl F) (b: But l H H') (n: ∀ a ∈ F,a ∉ l): CallAt C H' c cl F:=by
 obtain ⟨dx,g,p,h1,h2⟩:=h
 refine ⟨dx,g,p,b _ _ h1 (n c ?_),?_⟩
 ·rcases h2 with ⟨row,r,rfl,_⟩ | ⟨rfl,_⟩ | ⟨i,rfl,_⟩ | ⟨i,j,rfl,_⟩ <;> simp
 ·rcases h2 with ⟨row,r,rfl,e,hp,h3,h4⟩ | ⟨rfl,e,hp,h3⟩ | ⟨i,rfl,e,hp,h3⟩ | ⟨i,j,rfl,e,hp,h3⟩
  ·exact .inl ⟨row,r,rfl,e,hp,b _ _ h3 (n g (by simp)),b _ _ h4 (n r (by simp))⟩
  ·exact .inr (.inl ⟨rfl,e,hp,b _ _ h3 (n g (by simp))⟩)
  ·exact .inr (.inr (.inl ⟨i,rfl,e,hp,b _ _ h3 (n g (by simp))⟩))
  ·exact .inr (.inr (.inr ⟨i,j,rfl,e,hp,b _ _ h3 (n g (by simp))⟩))
section
variable {P: Program} {w: World} {K: PySem.W.Frag} {mg: Str -> Option Value} {base: Heap}
def spCallI (C: Addr): Sp:=fun vs H Q _ => ∃ (p dx: Addr) (y1 y2: V),vs = [.ref p,y1,y2] /\ H p = some (.ins C dx []) /\ ∀ H': Hp,H' p = some (.ins C dx [("number",y1),("given",y2)]) -> But [p] H H' -> Q .non H'
theorem sc_callI: FnScope ["self","number","given"] ["self","number","given"] (defScope sCallI):=⟨rfl,rfl,rfl,by decide +kernel,rfl,by decide +kernel,by decide +kernel⟩
theorem ok_callI (T: TxC K mg): FnOk P w K mg base (XC P w) 1 T.callI.f T.callI.fd ["self","number","given"] (spCallI T.callC):=by
 refine T.callI.prove sc_callI (fun vs H Q E h => ?_) (fun cdv A outer s H vs Q E hr h => ?_)
 ·obtain ⟨r,dx,y1,y2,rfl,_⟩:=h
  rfl
 ·obtain ⟨r,dx,y1,y2,rfl,hr0,k⟩:=h
  refine ⟨_,pss_cons (ps_fld (pv 0) (pv 1) rfl) (pss_one (ps_fld (pv 0) (pv 2) rfl)),?_⟩
  refine ⟨_,rfl,_,rfl,r,T.callC,dx,_,rfl,hr0,T.callCl,T.callN,(by show 0 < 1000; decide),?_⟩
  refine ⟨_,rfl,_,rfl,r,T.callC,dx,_,rfl,upd_same,T.callCl,T.callG,(by show 1 < 1000; decide),?_⟩
  refine k _ (by rw [upd_same]; rfl) fun b o e n => ?_
  have n: b ≠ r:=by simpa using n
  rw [upd_ne n,upd_ne n]
  exact e
def spCrI (C: Addr): Sp:=fun vs H Q _ => ∃ (r dx tx: Addr),vs = [.ref r,.ref tx] /\ H r = some (.ins C dx []) /\ ∀ H': Hp,H' r = some (.ins C dx (cf tx 0)) -> But [r] H H' -> Q .non H'
theorem sc_crI: FnScope ["self","handed_in"] ["self","handed_in"] (defScope (sCr 0)):=⟨rfl,rfl,rfl,by decide +kernel,rfl,by decide +kernel,by decide +kernel⟩
theorem ok_crI (T: TxC K mg): FnOk P w K mg base (XC P w) 1 T.crI.f T.crI.fd ["self","handed_in"] (spCrI T.crC):=by
 refine T.crI.prove sc_crI (fun vs H Q E h => ?_) (fun cdv A outer s H vs Q E hr h => ?_)
 ·obtain ⟨r,dx,tx,rfl,_⟩:=h
  rfl
 ·obtain ⟨r,dx,tx,rfl,hr0,k⟩:=h
  refine ⟨_,pss_cons (ps_fld (pv 0) (pv 1) rfl) (pss_one (ps_fld (pv 0) pe_int rfl)),?_⟩
  refine ⟨_,rfl,_,rfl,r,T.crC,dx,_,rfl,hr0,T.crCl,T.crH,(by show 0 < 1000; decide),?_⟩
  refine ⟨_,rfl,r,T.crC,dx,_,rfl,upd_same,T.crCl,T.crA,(by show 1 < 1000; decide),?_⟩
  refine k _ (by rw [upd_same]; rfl) fun b o e n => ?_
  have n: b ≠ r:=by simpa using n
  rw [upd_ne n,upd_ne n]
  exact e
def spMore (K: PySem.W.Frag) (C: Addr): Sp:=fun vs H Q _ => ∃ (r tx: Addr) (ns: List Int) (k: Nat),vs = [.ref r] /\ CrAt K C H r tx ns k /\ Q (.bl (decide (k < ns.length))) H
theorem sc_more: FnScope ["self"] ["self"] (defScope (sCr 1)):=⟨rfl,rfl,rfl,by decide +kernel,rfl,by decide +kernel,by decide +kernel⟩
theorem ok_more (T: TxC K mg): FnOk P w K mg base (XC P w) 1 T.hasMore.f T.hasMore.fd ["self"] (spMore K T.crC):=by
 refine T.hasMore.prove sc_more (fun vs H Q E h => ?_) (fun cdv A outer s H vs Q E hr h => ?_)
 ·obtain ⟨r,tx,b,k,rfl,_⟩:=h
  rfl
 ·obtain ⟨r,tx,ns,k,rfl,R,kk⟩:=h
  obtain ⟨dx,e⟩:=R.ins
  refine ⟨_,pss_one (ps_ret (pe_cmpR op_lt (pe_fld (pv 0) rfl) (pe_callB call_len_seq (by rfl) T.lenN bo_len (pa_cons (pe_fld (pv 0) rfl) pa_nil)) (nomark _))),?_⟩
  refine ⟨_,rfl,r,T.crC,dx,_,_,rfl,e,T.crCl,T.crA,rfl,_,rfl,r,T.crC,dx,_,_,rfl,e,T.crCl,T.crH,rfl,tx,_,rfl,.inl R.txt,_,_,rfl,rfl,?_⟩
  rw [List.length_map]
  have: decide ((k: Int) < (ns.length: Int)) = decide (k < ns.length):=by
   by_cases q: k < ns.length
   ·rw [decide_eq_true q,decide_eq_true (by omega)]
   ·rw [decide_eq_false q,decide_eq_false (by omega)]
  rw [<- this] at kk
  exact kk
def spTn (K: PySem.W.Frag) (C: Addr): Sp:=fun vs H Q _ => ∃ (r tx: Addr) (ns: List Int) (k: Nat) (z: Int),vs = [.ref r] /\ CrAt K C H r tx ns k /\ ns[k]? = some z /\ ∀ H',CrAt K C H' r tx ns (k + 1) -> But [r] H H' -> Q (.int z) H'
theorem sc_tn: FnScope ["self","number"] ["self"] (defScope (sCr 2)):=⟨rfl,rfl,rfl,by decide +kernel,rfl,by decide +kernel,by decide +kernel⟩
theorem ok_tn (T: TxC K mg): FnOk P w K mg base (XC P w) 1 T.takeNumber.f T.takeNumber.fd ["self"] (spTn K T.crC):=by
 refine T.takeNumber.prove sc_tn (fun vs H Q E h => ?_) (fun cdv A outer s H vs Q E hr h => ?_)
 ·obtain ⟨r,tx,b,k,z,rfl,_⟩:=h
  rfl
 ·obtain ⟨r,tx,ns,k,z,rfl,R,hz,kk⟩:=h
  obtain ⟨dx,e⟩:=R.ins
  have lt: k < ns.length:=(List.getElem?_eq_some_iff.mp hz).1
  refine ⟨_,pss_cons (ps_set (i:=1) sc_tn.nd rfl (Or.inl rfl) (pe_ix ix_list (pe_fld (pv 0) rfl) (pe_fld (pv 0) rfl) (fun _ _ => rfl)))
   (pss_cons (ps_fldaug (pv 0) pe_int in_add) (pss_one (ps_ret (pv 1)))),?_⟩
  refine ⟨_,rfl,r,T.crC,dx,_,_,rfl,e,T.crCl,T.crH,rfl,_,rfl,r,T.crC,dx,_,_,rfl,e,T.crCl,T.crA,rfl,tx,_,_,.int z,rfl,rfl,R.txt,atI_nat (j:=k) (by rw [List.getElem?_map,hz]; rfl),?_⟩
  refine ⟨_,rfl,r,T.crC,dx,_,_,rfl,e,T.crCl,T.crA,rfl,_,_,rfl,rfl,dx,_,e,(by show 2 < 1000; decide),?_⟩
  have b1: But [r] H (upd H r (.ins T.crC dx (putF "at" (V.int ((k: Int) + 1)) (cf tx k)))):=fun b' o e' n => by rw [upd_ne (by simpa using n)]; exact e'
  exact ⟨_,rfl,kk _ (R.on (j:=k + 1) lt ⟨dx,by rw [upd_same]; rfl⟩ b1) b1⟩
def spTr (K: PySem.W.Frag) (C: Addr): Sp:=fun vs H Q _ => ∃ (r tx: Addr) (ns: List Int) (k m: Nat),vs = [.ref r] /\ CrAt K C H r tx ns k /\ ns[k]? = some (m: Int) /\ k + 1 + m <= ns.length /\
 ∀ l H',H' l = some (.lst (((ns.drop (k + 1)).take m).map V.int)) -> H l = none -> CrAt K C H' r tx ns (k + 1 + m) -> But [r] H H' -> Q (.ref l) H'
theorem sc_tr: FnScope ["self","length","row"] ["self"] (defScope (sCr 3)):=⟨rfl,rfl,rfl,by decide +kernel,rfl,by decide +kernel,by decide +kernel⟩
theorem ok_tr (T: TxC K mg): FnOk P w K mg base (XC P w) 2 T.takeRow.f T.takeRow.fd ["self"] (spTr K T.crC):=by
 have GN: FnOk P w K mg base (XC P w) 1 T.takeNumber.f T.takeNumber.fd ["self"] (spTn K T.crC):=ok_tn T
 refine T.takeRow.prove sc_tr (fun vs H Q E h => ?_) (fun cdv A outer s H vs Q E hr h => ?_)
 ·obtain ⟨r,tx,b,k,m,rfl,_⟩:=h
  rfl
 ·obtain ⟨r,tx,ns,k,m,rfl,R,hz,hle,kk⟩:=h
  obtain ⟨dx,e⟩:=R.ins
  refine ⟨_,pss_cons (ps_set (i:=1) sc_tr.nd rfl (Or.inl rfl) (pe_meth0 (pv 0) T.crCl T.takeNumber.m GN hr T.takeNumber.b .nil passX))
   (pss_cons (ps_set (i:=2) sc_tr.nd rfl (Or.inl rfl) (pe_slice sl_list (pe_fld (pv 0) rfl) (po_some (pe_fld (pv 0) rfl)) (po_some (pe_op op_add (pe_fld (pv 0) rfl) (pv 1)))))
   (pss_cons (ps_fldaug (pv 0) (pv 1) in_add) (pss_one (ps_ret (pv 2))))),?_⟩
  refine ⟨_,rfl,r,dx,_,rfl,e,rfl,r,tx,ns,k,_,rfl,R,hz,fun H1 R1 b1 => ?_⟩
  obtain ⟨dx1,e1⟩:=R1.ins
  refine ⟨_,rfl,r,T.crC,dx1,_,_,rfl,e1,T.crCl,T.crH,rfl,_,rfl,r,T.crC,dx1,_,_,rfl,e1,T.crCl,T.crA,rfl,_,rfl,_,rfl,r,T.crC,dx1,_,_,rfl,e1,T.crCl,T.crA,rfl,_,rfl,_,_,rfl,rfl,_,rfl,tx,_,rfl,R1.txt,fun l hl => ?_⟩
  have ec: cutV (ns.map V.int) (some ((k + 1: Nat): Int)) (some (((k + 1: Nat): Int) + (m: Int))) = ((ns.drop (k + 1)).take m).map V.int:=by
   rw [show (((k + 1: Nat): Int) + (m: Int)) = ((k + 1 + m: Nat): Int) by omega,cut_nat (by omega) (by rw [List.length_map]; exact hle),show k + 1 + m - (k + 1) = m by omega,List.map_take,List.map_drop]
  rw [ec]
  have e2:=upd_new (o:=HO.lst (((ns.drop (k + 1)).take m).map V.int)) hl r _ e1
  have lr: l ≠ r:=fun z => by rw [z,e1] at hl; cases hl
  refine ⟨_,rfl,r,T.crC,dx1,_,_,rfl,e2,T.crCl,T.crA,rfl,_,rfl,_,_,rfl,rfl,dx1,_,e2,(by show 2 < 1000; decide),?_⟩
  have b2: But [] H1 (upd H1 l (.lst (((ns.drop (k + 1)).take m).map V.int))):=fun a o e _ => upd_new hl _ _ e
  have R2:=R1.same b2
  have b3: But [r] (upd H1 l (.lst (((ns.drop (k + 1)).take m).map V.int))) (upd (upd H1 l (.lst (((ns.drop (k + 1)).take m).map V.int))) r (.ins T.crC dx1 (putF "at" (V.int (((k + 1: Nat): Int) + (m: Int))) (cf tx (k + 1))))):=fun b' o e' n => by rw [upd_ne (by simpa using n)]; exact e'
  refine ⟨_,rfl,kk l _ (by rw [upd_ne lr]; exact upd_same) (b1.none hl R1.there) (R2.on (j:=k + 1 + m) hle ⟨dx1,by rw [upd_same]; rfl⟩ b3) ((b1.trans (b2.mono (by simp))).trans b3)⟩
end
end Mp
end
section
namespace Mp
open PySem PySem.Spec PyProof.Rows L2 Xc
theorem view_shape {p: Int} {r: List Int} {c: List (List Int)} {t: List Int} (v: Mh.View p r c t): ∃ i a b: Nat,p = (i: Int) /\ i < 8 /\ shapeV i = (a,b) /\ a <= r.length /\
  ((b = 0 /\ c = [p :: r.take a] /\ t = r.drop a) \/ (b = 1 /\ a = 0 /\ ∃ (m: Nat) (r': List Int),r = (m: Int) :: r' /\ m <= r'.length /\ c = [[p],r'.take m] /\ t = r'.drop m)):=by
 cases v with
 | @row m r' hp h0 hl =>
  refine ⟨p.toNat,0,1,by omega,by omega,?_,Nat.zero_le _,.inr ⟨rfl,rfl,m.toNat,r',by rw [Int.toNat_of_nonneg h0],hl,rfl,rfl⟩⟩
  rcases hp with rfl | rfl <;> rfl
 | bare hp =>
  refine ⟨p.toNat,0,0,by omega,by omega,?_,Nat.zero_le _,.inl ⟨rfl,rfl,rfl⟩⟩
  rcases hp with rfl | rfl <;> rfl
 | one hp =>
  refine ⟨p.toNat,1,0,by omega,by omega,?_,by simp,.inl ⟨rfl,rfl,rfl⟩⟩
  rcases hp with rfl | rfl <;> rfl
 | two hp =>
  refine ⟨p.toNat,2,0,by omega,by omega,?_,by simp,.inl ⟨rfl,rfl,rfl⟩⟩
  rcases hp with rfl | rfl <;> rfl
theorem call_of {C: Addr} {H: Hp} {x d g: Addr} {p: Int} {r: List Int} {c: List (List Int)} {t: List Int} (v: Mh.View p r c t) {i a b: Nat} (hp: p = (i: Int)) (hs: shapeV i = (a,b)) (hx: H x = some (.ins C d [("number",.int p),("given",.ref g)]))
  (h: (b = 0 /\ H g = some (.lst ((r.take a).map V.int))) \/ (b = 1 /\ ∃ (m: Nat) (r': List Int) (l: Addr),r = (m: Int) :: r' /\ H g = some (.lst [.ref l]) /\ H l = some (.lst ((r'.take m).map V.int)))) :
  ∃ F,CallAt C H x c F /\ (∀ y ∈ F,y = x \/ y = g \/ ∃ l,H g = some (.lst [.ref l]) /\ b = 1 /\ y = l):=by
 cases v with
 | @row m r' hp' h0 hl =>
  have hb: b = 1 /\ a = 0:=by
   rcases hp' with rfl | rfl
   ·have: i = 0:=by omega
    subst this; cases hs; exact ⟨rfl,rfl⟩
   ·have: i = 4:=by omega
    subst this; cases hs; exact ⟨rfl,rfl⟩
  rcases h with ⟨z,_⟩ | ⟨_,m',r'',l,e,h1,h2⟩
  ·omega
  ·injection e with e1 e2
   subst e2
   have: m' = m.toNat:=by omega
   subst this
   refine ⟨[x,g,l],⟨d,g,p,hx,.inl ⟨_,l,rfl,rfl,hp',h1,h2⟩⟩,fun y hy => ?_⟩
   rcases (by simpa using hy: y = x \/ y = g \/ y = l) with q | q | q
   ·exact .inl q
   ·exact .inr (.inl q)
   ·exact .inr (.inr ⟨l,h1,hb.1,q⟩)
 | bare hp' =>
  have hb: b = 0 /\ a = 0:=by
   rcases hp' with rfl | rfl
   ·have: i = 1:=by omega
    subst this; cases hs; exact ⟨rfl,rfl⟩
   ·have: i = 2:=by omega
    subst this; cases hs; exact ⟨rfl,rfl⟩
  rcases h with ⟨_,h1⟩ | ⟨z,_⟩
  ·rw [hb.2] at h1
   exact ⟨[x,g],⟨d,g,p,hx,.inr (.inl ⟨rfl,rfl,hp',h1⟩)⟩,fun y hy => by rcases (by simpa using hy: y = x \/ y = g) with q | q; exact .inl q; exact .inr (.inl q)⟩
  ·omega
 | one hp' =>
  have hb: b = 0 /\ a = 1:=by
   rcases hp' with rfl | rfl
   ·have: i = 3:=by omega
    subst this; cases hs; exact ⟨rfl,rfl⟩
   ·have: i = 7:=by omega
    subst this; cases hs; exact ⟨rfl,rfl⟩
  rcases h with ⟨_,h1⟩ | ⟨z,_⟩
  ·rw [hb.2] at h1
   exact ⟨[x,g],⟨d,g,p,hx,.inr (.inr (.inl ⟨_,rfl,rfl,hp',h1⟩))⟩,fun y hy => by rcases (by simpa using hy: y = x \/ y = g) with q | q; exact .inl q; exact .inr (.inl q)⟩
  ·omega
 | two hp' =>
  have hb: b = 0 /\ a = 2:=by
   rcases hp' with rfl | rfl
   ·have: i = 5:=by omega
    subst this; cases hs; exact ⟨rfl,rfl⟩
   ·have: i = 6:=by omega
    subst this; cases hs; exact ⟨rfl,rfl⟩
  rcases h with ⟨_,h1⟩ | ⟨z,_⟩
  ·rw [hb.2] at h1
   exact ⟨[x,g],⟨d,g,p,hx,.inr (.inr (.inr ⟨_,_,rfl,rfl,hp',h1⟩))⟩,fun y hy => by rcases (by simpa using hy: y = x \/ y = g) with q | q; exact .inl q; exact .inr (.inl q)⟩
  ·omega
section
variable {P: Program} {w: World} {K: PySem.W.Frag} {mg: Str -> Option Value} {base: Heap}
def spTc (K: PySem.W.Frag) (C Cc: Addr): Sp:=fun vs H Q _ => ∃ (r tx: Addr) (ns: List Int) (k: Nat) (p: Int) (rest: List Int) (c: List (List Int)) (t: List Int),vs = [.ref r] /\ CrAt K C H r tx ns k /\ ns.drop k = p :: rest /\ Mh.View p rest c t /\
 ∀ x F k' H',CallAt Cc H' x c F -> (∀ y ∈ F,H y = none) -> ns.drop k' = t -> k < k' -> CrAt K C H' r tx ns k' -> But [r] H H' -> Q (.ref x) H'
theorem sc_tc: FnScope ["self","number","shape","given"] ["self"] (defScope (sCr 4)):=⟨rfl,rfl,rfl,by decide +kernel,rfl,by decide +kernel,by decide +kernel⟩
theorem ok_tc (T: TxC K mg): FnOk P w K mg base (XC P w) 3 T.takeCall.f T.takeCall.fd ["self"] (spTc K T.crC T.callC):=by
 have GN: FnOk P w K mg base (XC P w) 1 T.takeNumber.f T.takeNumber.fd ["self"] (spTn K T.crC):=ok_tn T
 have GR: FnOk P w K mg base (XC P w) 2 T.takeRow.f T.takeRow.fd ["self"] (spTr K T.crC):=ok_tr T
 have GI: FnOk P w K mg base (XC P w) 1 T.callI.f T.callI.fd ["self","number","given"] (spCallI T.callC):=ok_callI T
 refine T.takeCall.prove sc_tc (fun vs H Q E h => ?_) (fun cdv A outer s H vs Q E hr h => ?_)
 ·obtain ⟨r,tx,ns,k,p,rest,c,t,rfl,_⟩:=h
  rfl
 ·obtain ⟨r,tx,ns,k,p,rest,c,t,rfl,R,hd,v,kk⟩:=h
  obtain ⟨dx,e⟩:=R.ins
  have hr1: Room 1 _:=hr.mono (by decide)
  obtain ⟨i8,a,b,hp,hi,hs,ha,hab⟩:=view_shape v
  have klt: k < ns.length:=by
   have:=congrArg List.length hd
   rw [List.length_drop,List.length_cons] at this
   omega
  have hnk: ns[k]? = some p:=by
   have:=congrArg (fun l: List Int => l[0]?) hd
   simpa [List.getElem?_drop] using this
  have hrest: ns.drop (k + 1) = rest:=by
   have:=congrArg (List.drop 1) hd
   rw [List.drop_drop] at this
   simpa using this
  have hat: ∀ j,ns[k + 1 + j]? = rest[j]?:=fun j => by rw [<- hrest,List.getElem?_drop]
  have hlen: ns.length = k + 1 + rest.length:=by rw [<- hrest,List.length_drop]; omega
  obtain ⟨sh,hsh⟩: ∃ sh,T.shs[i8]? = some sh:=⟨_,List.getElem?_eq_getElem (by rw [T.shL]; exact hi)⟩
  have hsT:=T.shI i8 sh hsh
  rw [hs] at hsT
  have tail: ∃ u,PSs (cxOf (XC P w) P w K mg base ["self","number","shape","given"] "CallReader.take_call" (defScope (sCr 4)) T.takeCall.f cdv A outer s H E) ((defBody (sCr 4)).drop 5) u /\
    ∀ (g: Addr) (v2: Option V) (H1: Hp),(∀ x d H',H' x = some (.ins T.callC d [("number",.int p),("given",.ref g)]) -> H1 x = none -> But [] H1 H' -> Q (.ref x) H') ->
     u { nx:=fun _ H' => Q .non H',rt:=Q } [some (.ref r),some (.int p),v2,some (.ref g)] H1:=by
   refine ⟨_,pss_one (ps_ret (pe_make T.callMk GI (hr.mono (by decide)) rfl T.mgCall T.callI.b .nil passX (pa_cons (pv 1) (pa_cons (pv 3) pa_nil)))),?_⟩
   intro g v2 H1 fin
   refine ⟨_,rfl,_,rfl,?_⟩
   intro x d hx hd ne
   refine ⟨x,d,_,_,rfl,upd_same,fun H' e4 b5 => ⟨rfl,?_⟩⟩
   exact fin x d H' e4 hx (but_make hx hd b5)
  obtain ⟨u,hu,hw⟩:=tail
  refine ⟨_,pss_cons (ps_set (i:=1) sc_tc.nd rfl (Or.inl rfl) (pe_meth0 (pv 0) T.crCl T.takeNumber.m GN hr1 T.takeNumber.b .nil passX))
   (pss_cons (ps_set (i:=2) sc_tc.nd rfl (Or.inl rfl) (pe_ix ix_tup (pe_glob (v:=.ref T.shA) rfl T.mgSh rfl) (pv 1) (fun _ _ => rfl)))
   (pss_cons (ps_set (i:=3) sc_tc.nd rfl (Or.inl rfl) (pe_lst pa_nil))
   (pss_cons (ps_while PassesOwn.leaving (pt_cmpR op_lt (pe_callB call_len_seq (by rfl) T.lenN bo_len (pa_cons (pv 3) pa_nil)) (pe_ix ix_tup (pv 2) pe_int (fun _ _ => rfl)) (nomark _))
    (pss_one (ps_expr (pe_bm PySem.F.plainAttrs_list PySem.F.slot_list_append PySem.F.type_list_append mt_append (pv 3) (pa_cons (pe_meth0 (pv 0) T.crCl T.takeNumber.m GN hr1 T.takeNumber.b .nil passX) pa_nil)))))
   (pss_cons (ps_while PassesOwn.leaving (pt_cmpR op_lt (pe_callB call_len_seq (by rfl) T.lenN bo_len (pa_cons (pv 3) pa_nil)) (pe_op op_add (pe_ix ix_tup (pv 2) pe_int (fun _ _ => rfl)) (pe_ix ix_tup (pv 2) pe_int (fun _ _ => rfl))) (nomark _))
    (pss_one (ps_expr (pe_bm PySem.F.plainAttrs_list PySem.F.slot_list_append PySem.F.type_list_append mt_append (pv 3) (pa_cons (pe_meth0 (pv 0) T.crCl T.takeRow.m GR hr T.takeRow.b .nil passX) pa_nil)))))
   hu)))),?_⟩
  refine ⟨_,rfl,r,dx,_,rfl,e,rfl,r,tx,ns,k,p,rfl,R,hnk,fun H1 R1 b1 => ?_⟩
  refine ⟨_,rfl,T.shA,_,_,.ref sh,rfl,rfl,T.shT _,at_of hp (by rw [List.getElem?_map,hsh]; rfl),?_⟩
  refine ⟨Nat.zero_le _,fun g hg => ?_⟩
  have hgr: g ≠ r:=fun z => by
   obtain ⟨_,e1⟩:=R1.ins
   rw [z,e1] at hg
   cases hg
  have hg0: H g = none:=b1.none hg R1.there
  have b2: But [] H1 (upd H1 g (.lst [])):=fun a o e _ => upd_new hg _ _ e
  have b12: But [r] H (upd H1 g (.lst [])):=b1.trans (b2.mono (by simp))
  have R2:=R1.same b2
  refine ⟨fun m σ H2 => ∃ i,σ = [some (.ref r),some (.int p),some (.ref sh),some (.ref g)] /\ i <= a /\ m = a - i /\ CrAt K T.crC H2 r tx ns (k + 1 + i) /\ H2 g = some (.lst ((rest.take i).map V.int)) /\ But [r] H H2,
   ⟨_,0,rfl,Nat.zero_le _,rfl,R2,upd_same,b12⟩,?_⟩
  rintro m σ H2 ⟨i,rfl,ia,rfl,R3,hg3,b3⟩
  have li: ((rest.take i).map V.int).length = i:=by rw [List.length_map,List.length_take]; omega
  refine ⟨_,rfl,g,_,rfl,.inl (SqL.of hg3),_,rfl,sh,_,_,.int (a: Nat),rfl,rfl,hsT _,atI_nat (j:=0) rfl,_,_,rfl,rfl,_,rfl,?_⟩
  rw [li]
  refine iteB (fun q => ?_) (fun q => ?_)
  ·have q: (i: Int) < (a: Int):=of_decide_eq_true q
   obtain ⟨dx3,e3⟩:=R3.ins
   obtain ⟨z,hz⟩: ∃ z,rest[i]? = some z:=⟨_,List.getElem?_eq_getElem (by omega)⟩
   refine ⟨fun σ' H' => ∃ m',m' < a - i /\ ∃ i,σ' = [some (.ref r),some (.int p),some (.ref sh),some (.ref g)] /\ i <= a /\ m' = a - i /\ CrAt K T.crC H' r tx ns (k + 1 + i) /\ H' g = some (.lst ((rest.take i).map V.int)) /\ But [r] H H',fun _ _ z => z,
    _,rfl,.inl ⟨rfl,_,SqL.of hg3⟩,_,rfl,r,dx3,_,rfl,e3,rfl,r,tx,ns,k + 1 + i,z,rfl,R3,by rw [hat]; exact hz,fun H4 R4 b4 => ?_⟩
   have hg4:=b4 _ _ hg3 (by simpa using hgr)
   refine ⟨g,_,_,rfl,rfl,hg4,(by rw [li]; exact small1000 (by have: a <= 2:=by { have:=hs; unfold shapeV at this; split at this <;> (injection this with h1 h2; omega) }; omega)),?_⟩
   have b5: But [g] H4 (upd H4 g (.lst ((rest.take i).map V.int ++ [V.int z]))):=fun a' o e' n => by rw [upd_ne (by simpa using n)]; exact e'
   obtain ⟨dx4,e4⟩:=R4.ins
   have nbb: But [r] H (upd H4 g (.lst ((rest.take i).map V.int ++ [V.int z]))):=by
    intro a' o e' n
    rw [upd_ne (ne_of_none e' hg0)]
    exact (b3.trans b4) a' o e' n
   exact ⟨a - (i + 1),by omega,i + 1,rfl,by omega,rfl,⟨⟨dx4,by rw [upd_ne (Ne.symm hgr)]; exact e4⟩,sq_but R.txt nbb (fun h => by simpa using rd_ne h e),R4.le⟩,by rw [upd_same,List.take_add_one,hz,List.map_append]; rfl,nbb⟩
  ·have q: ¬ (i: Int) < (a: Int):=of_decide_eq_false q
   have ei: i = a:=by omega
   subst ei
   have sum: ∀ c: Nat,((i: Nat): Int) + ((c: Nat): Int) = ((i + c: Nat): Int):=fun c => by omega
   rcases hab with ⟨rfl,hc,ht⟩ | ⟨rfl,ha0,mm,r',hrr,hm,hc,ht⟩
   ·refine ⟨fun m σ H5 => m = 0 /\ σ = [some (.ref r),some (.int p),some (.ref sh),some (.ref g)] /\ H5 = H2,⟨_,rfl,rfl,rfl⟩,?_⟩
    rintro m σ H5 ⟨rfl,rfl,rfl⟩
    refine ⟨_,rfl,g,_,rfl,.inl (SqL.of hg3),_,rfl,sh,_,_,.int (i: Nat),rfl,rfl,hsT _,atI_nat (j:=0) rfl,_,rfl,sh,_,_,.int ((0: Nat): Int),rfl,rfl,hsT _,atI_nat (j:=1) rfl,_,_,rfl,rfl,_,_,rfl,rfl,_,rfl,?_⟩
    rw [li]
    refine iteB (fun q2 => ?_) (fun q2 => ?_)
    ·have q2: ((i: Nat): Int) < (i: Int) + ((0: Nat): Int):=of_decide_eq_true q2
     omega
    ·refine hw g _ _ fun x d H' e6 hx b6 => ?_
     obtain ⟨F,cF,nF⟩:=call_of (H:=H') v hp hs e6 (.inl ⟨rfl,b6 _ _ hg3 (by simp)⟩)
     refine kk x F (k + 1 + i) H' cF (fun y hy => ?_) (by rw [ht,<- hrest,List.drop_drop]) (by omega) (R3.same b6) (b3.trans (b6.mono (by simp)))
     rcases nF y hy with rfl | rfl | ⟨l,_,z,_⟩
     ·exact b3.none hx R3.there
     ·exact hg0
     ·cases z
   ·subst ha0
    have hdr: ns.drop (k + 1 + 0 + 1) = r':=by
     have:=congrArg (List.drop 1) hrest
     rw [List.drop_drop,hrr] at this
     simpa using this
    have hg3': H2 g = some (.lst []):=hg3
    refine ⟨fun m σ H5 => σ = [some (.ref r),some (.int p),some (.ref sh),some (.ref g)] /\ ((m = 1 /\ H5 = H2) \/ (m = 0 /\ ∃ l,H5 g = some (.lst [.ref l]) /\ H5 l = some (.lst ((r'.take mm).map V.int)) /\ H l = none /\ CrAt K T.crC H5 r tx ns (k + 1 + 0 + 1 + mm) /\ But [r] H H5)),
     ⟨_,rfl,.inl ⟨rfl,rfl⟩⟩,?_⟩
    rintro m σ H5 ⟨rfl,⟨rfl,rfl⟩ | ⟨rfl,l,h5,h6,h7,R5,b5⟩⟩
    ·refine ⟨_,rfl,g,_,rfl,.inl (SqL.of hg3'),_,rfl,sh,_,_,.int ((0: Nat): Int),rfl,rfl,hsT _,atI_nat (j:=0) rfl,_,rfl,sh,_,_,.int ((1: Nat): Int),rfl,rfl,hsT _,atI_nat (j:=1) rfl,_,_,rfl,rfl,_,_,rfl,rfl,_,rfl,?_⟩
     refine iteB (fun _ => ?_) (fun q2 => by cases q2)
     obtain ⟨dx3,e3⟩:=R3.ins
     refine ⟨fun σ' H' => ∃ m',m' < 1 /\ σ' = [some (.ref r),some (.int p),some (.ref sh),some (.ref g)] /\ ((m' = 1 /\ H' = H5) \/ (m' = 0 /\ ∃ l,H' g = some (.lst [.ref l]) /\ H' l = some (.lst ((r'.take mm).map V.int)) /\ H l = none /\ CrAt K T.crC H' r tx ns (k + 1 + 0 + 1 + mm) /\ But [r] H H')),fun _ _ z => z,
      _,rfl,.inl ⟨rfl,_,SqL.of hg3'⟩,_,rfl,r,dx3,_,rfl,e3,rfl,r,tx,ns,k + 1 + 0,mm,rfl,R3,by rw [hat,hrr]; rfl,by rw [hlen,hrr,List.length_cons]; omega,fun l H4 h4 hl R4 b4 => ?_⟩
     have hg4:=b4 _ _ hg3' (by simpa using hgr)
     have lg: l ≠ g:=fun z => by rw [z,hg3'] at hl; cases hl
     have nbb: But [r] H (upd H4 g (.lst ([] ++ [V.ref l]))):=by
      intro a' o e' n
      rw [upd_ne (ne_of_none e' hg0)]
      exact (b3.trans b4) a' o e' n
     refine ⟨g,_,_,rfl,rfl,hg4,(by show 0 < sizeLine; decide),0,by decide,rfl,.inr ⟨rfl,l,upd_same,?_,b3.none hl R3.there,?_,nbb⟩⟩
     ·rw [upd_ne lg,h4,hdr]
     ·obtain ⟨dx4,e4⟩:=R4.ins
      exact ⟨⟨dx4,by rw [upd_ne (Ne.symm hgr)]; exact e4⟩,sq_but R.txt nbb (fun h => by simpa using rd_ne h e),R4.le⟩
    ·refine ⟨_,rfl,g,_,rfl,.inl (SqL.of h5),_,rfl,sh,_,_,.int ((0: Nat): Int),rfl,rfl,hsT _,atI_nat (j:=0) rfl,_,rfl,sh,_,_,.int ((1: Nat): Int),rfl,rfl,hsT _,atI_nat (j:=1) rfl,_,_,rfl,rfl,_,_,rfl,rfl,_,rfl,?_⟩
     refine iteB (fun q2 => by cases q2) (fun _ => ?_)
     refine hw g _ _ fun x d H' e6 hx b6 => ?_
     obtain ⟨F,cF,nF⟩:=call_of (H:=H') v hp hs e6 (.inr ⟨rfl,mm,r',l,hrr,b6 _ _ h5 (by simp),b6 _ _ h6 (by simp)⟩)
     refine kk x F (k + 1 + 0 + 1 + mm) H' cF (fun y hy => ?_) (by rw [ht,<- hdr,List.drop_drop]) (by omega) (R5.same b6) (b5.trans (b6.mono (by simp)))
     rcases nF y hy with rfl | rfl | ⟨l',hl',_,rfl⟩
     ·exact b5.none hx R5.there
     ·exact hg0
     ·rw [b6 _ _ h5 (by simp)] at hl'
      injection hl' with hl'
      injection hl' with hl'
      injection hl' with hl' _
      injection hl' with hl'
      rw [<- hl']
      exact h7
structure CallsAt (C: Addr) (H0 H: Hp) (as: List Addr) (cs: List (List (List Int))): Prop where
 len: as.length = cs.length
 at_: ∀ (i: Nat) x c,as[i]? = some x -> cs[i]? = some c -> ∃ F,CallAt C H x c F /\ ∀ y ∈ F,H0 y = none
theorem CallsAt.but {C: Addr} {H0 H H': Hp} {as: List Addr} {cs: List (List (List Int))} {l: List Addr} (h: CallsAt C H0 H as cs) (b: But l H H') (n: ∀ a ∈ l,H0 a ≠ none): CallsAt C H0 H' as cs :=
 ⟨h.len,fun i x c h1 h2 => let ⟨F,c1,c2⟩:=h.at_ i x c h1 h2; ⟨F,c1.but b fun a ha z => n a z (c2 a ha),c2⟩⟩
theorem CallsAt.snoc {C: Addr} {H0 H: Hp} {as: List Addr} {cs: List (List (List Int))} {x: Addr} {c: List (List Int)} {F: List Addr} (h: CallsAt C H0 H as cs) (h1: CallAt C H x c F) (h2: ∀ y ∈ F,H0 y = none): CallsAt C H0 H (as ++ [x]) (cs ++ [c]):=by
 refine ⟨by rw [List.length_append,List.length_append,h.len]; rfl,fun i a v e1 e2 => ?_⟩
 by_cases q: i < as.length
 ·rw [List.getElem?_append_left q] at e1
  rw [List.getElem?_append_left (by rw [<- h.len]; exact q)] at e2
  exact h.at_ i a v e1 e2
 ·rw [List.getElem?_append_right (by omega)] at e1
  rw [List.getElem?_append_right (by rw [<- h.len]; omega),<- h.len] at e2
  cases z: i - as.length with
  | zero =>
   rw [z] at e1 e2
   cases e1; cases e2
   exact ⟨F,h1,h2⟩
  | succ m =>
   rw [z] at e1
   cases e1
def spCalls (K: PySem.W.Frag) (Cc: Addr): Sp:=fun vs H Q _ => ∃ (tx: Addr) (ns: List Int) (cs: List (List (List Int))),vs = [.ref tx] /\ SqL K H tx (ns.map V.int) /\ Mh.Reads ns cs /\ ns.length < sizeLine /\
 ∀ l as H',H' l = some (.lst (as.map V.ref)) -> H l = none -> CallsAt Cc H H' as cs -> But [] H H' -> Q (.ref l) H'
theorem sc_calls: FnScope ["handed_in","reader","calls"] ["handed_in"] (defScope (top 11)):=⟨rfl,rfl,rfl,by decide +kernel,rfl,by decide +kernel,by decide +kernel⟩
theorem ok_calls (T: TxC K mg): FnOk P w K mg base (XC P w) 4 T.callsOf.f T.callsOf.fd ["handed_in"] (spCalls K T.callC):=by
 have GI: FnOk P w K mg base (XC P w) 1 T.crI.f T.crI.fd ["self","handed_in"] (spCrI T.crC):=ok_crI T
 have GM: FnOk P w K mg base (XC P w) 1 T.hasMore.f T.hasMore.fd ["self"] (spMore K T.crC):=ok_more T
 have GC: FnOk P w K mg base (XC P w) 3 T.takeCall.f T.takeCall.fd ["self"] (spTc K T.crC T.callC):=ok_tc T
 refine T.callsOf.prove sc_calls (fun vs H Q E h => ?_) (fun cdv A outer s H vs Q E hr h => ?_)
 ·obtain ⟨tx,ns,cs,rfl,_⟩:=h
  rfl
 ·obtain ⟨tx,ns,cs,rfl,htx,hR,hb,k1⟩:=h
  have hr1: Room 1 _:=hr.mono (by decide)
  have hr2: Room 2 _:=hr.mono (by decide)
  refine ⟨_,pss_cons (ps_set (i:=1) sc_calls.nd rfl (Or.inl rfl) (pe_make T.crMk GI hr2 rfl T.mgCr T.crI.b .nil passX (pa_cons (pv 0) pa_nil)))
   (pss_cons (ps_set (i:=2) sc_calls.nd rfl (Or.inl rfl) (pe_lst pa_nil))
   (pss_cons (ps_while PassesOwn.leaving (pt_val (pe_meth0 (pv 1) T.crCl T.hasMore.m GM hr1 T.hasMore.b .nil passX))
    (pss_one (ps_expr (pe_bm PySem.F.plainAttrs_list PySem.F.slot_list_append PySem.F.type_list_append mt_append (pv 2) (pa_cons (pe_meth0 (pv 1) T.crCl T.takeCall.m GC hr T.takeCall.b .nil passX) pa_nil)))))
   (pss_one (ps_ret (pv 2))))),?_⟩
  refine ⟨_,rfl,?_⟩
  intro r dx hr0 hd0 ne
  refine ⟨r,dx,tx,rfl,upd_same,fun H1 e1 b1 => ⟨rfl,?_⟩⟩
  have bb1:=but_make hr0 hd0 b1
  refine ⟨Nat.zero_le _,fun l hl => ?_⟩
  have nlr: l ≠ r:=fun z => by rw [z,e1] at hl; cases hl
  have hl0: H l = none:=bb1.none hl (by simp)
  have bb2: But [] H (upd H1 l (.lst [])):=fun a o e _ => upd_new hl _ _ (bb1 a o e (by simp))
  have R0: CrAt K T.crC (upd H1 l (.lst [])) r tx ns 0:=⟨⟨dx,upd_new hl _ _ e1⟩,sq_but htx bb2 (fun _ => by simp),Nat.zero_le _⟩
  refine ⟨fun m σ H2 => ∃ k as c1 c2,σ = [some (.ref tx),some (.ref r),some (.ref l)] /\ m = ns.length - k /\ CrAt K T.crC H2 r tx ns k /\ H2 l = some (.lst (as.map V.ref)) /\ CallsAt T.callC (upd H1 l (.lst [])) H2 as c1 /\ But [r,l] (upd H1 l (.lst [])) H2 /\ as.length <= k /\ cs = c1 ++ c2 /\ Mh.Reads (ns.drop k) c2,
   ⟨_,0,[],[],cs,rfl,rfl,R0,upd_same,⟨rfl,fun i l' lv z => by cases z⟩,But.refl _ _,Nat.le_refl _,rfl,hR⟩,?_⟩
  rintro m σ H2 ⟨k,as,c1,c2,rfl,rfl,R2,h2,C2,bl2,le2,ec,hrd⟩
  obtain ⟨dx2,e2⟩:=R2.ins
  have b2: But [] H H2:=fun a o e _ => bl2 a o (bb2 a o e (by simp)) (by
   have n1:=ne_of_none e hr0
   have n2:=ne_of_none e hl0
   simp [n1,n2])
  refine ⟨_,rfl,r,dx2,_,rfl,e2,rfl,r,tx,ns,k,rfl,R2,_,rfl,iteB (fun q => ?_) (fun q => ?_)⟩
  ·have lt: k < ns.length:=of_decide_eq_true q
   obtain ⟨p,rest,c,t,cs',hdk,v,rfl,hrt⟩: ∃ p rest c t cs',ns.drop k = p :: rest /\ Mh.View p rest c t /\ c2 = c :: cs' /\ Mh.Reads t cs':=by
    generalize hq: ns.drop k = dk at hrd
    cases hrd with
    | nil =>
     have:=congrArg List.length hq
     rw [List.length_drop] at this
     simp at this
     omega
    | cons v h => exact ⟨_,_,_,_,_,rfl,v,rfl,h⟩
   refine ⟨fun σ' H' => ∃ m',m' < ns.length - k /\ ∃ k as c1 c2,σ' = [some (.ref tx),some (.ref r),some (.ref l)] /\ m' = ns.length - k /\ CrAt K T.crC H' r tx ns k /\ H' l = some (.lst (as.map V.ref)) /\ CallsAt T.callC (upd H1 l (.lst [])) H' as c1 /\ But [r,l] (upd H1 l (.lst [])) H' /\ as.length <= k /\ cs = c1 ++ c2 /\ Mh.Reads (ns.drop k) c2,fun _ _ z => z,
    _,rfl,.inl ⟨rfl,_,SqL.of h2⟩,_,rfl,r,dx2,_,rfl,e2,rfl,r,tx,ns,k,p,rest,c,t,rfl,R2,hdk,v,fun x F k' H3 c3 n3 hk' kk' R3 b3 => ?_⟩
   have h3:=b3 _ _ h2 (by simpa using nlr)
   refine ⟨l,_,_,rfl,rfl,h3,(by rw [List.length_map]; omega),?_⟩
   have b4: But [l] H3 (upd H3 l (.lst (as.map V.ref ++ [V.ref x]))):=fun a' o e' n => by rw [upd_ne (by simpa using n)]; exact e'
   have nF: ∀ y ∈ F,(upd H1 l (.lst [])) y = none:=fun y hy => by
    have z:=n3 y hy
    cases q0: (upd H1 l (.lst [])) y with
    | none => rfl
    | some o =>
     by_cases q1: y ∈ [r,l]
     ·rcases (by simpa using q1: y = r \/ y = l) with rfl | rfl
      ·rw [e2] at z; cases z
      ·rw [h2] at z; cases z
     ·rw [bl2 y o q0 q1] at z; cases z
   obtain ⟨dx3,e3⟩:=R3.ins
   have le3:=R3.le
   have nbb: But [] H (upd H3 l (.lst (as.map V.ref ++ [V.ref x]))):=fun a o e _ => by
    rw [upd_ne (ne_of_none e hl0)]
    exact (b2.drop b3 hr0) a o e (by simp)
   refine ⟨ns.length - k',by omega,k',as ++ [x],c1 ++ [c],cs',rfl,rfl,⟨⟨dx3,by rw [upd_ne (Ne.symm nlr)]; exact e3⟩,sq_but htx nbb (fun _ => by simp),le3⟩,by rw [upd_same,List.map_append]; rfl,?_,?_,by rw [List.length_append]; show as.length + 1 <= k'; omega,by rw [ec,List.append_assoc]; rfl,by rw [hk']; exact hrt⟩
   ·exact ((C2.but b3 (fun a ha => by
      have: a = r:=by simpa using ha
      subst this
      rw [upd_ne (Ne.symm nlr),e1]; exact fun z => by cases z)).snoc c3 nF).but b4 (fun a ha => by
      have: a = l:=by simpa using ha
      subst this
      rw [upd_same]; exact fun z => by cases z)
   ·exact (bl2.trans (b3.mono (by simp))).trans (b4.mono (by simp))
  ·have nlt: ¬ k < ns.length:=of_decide_eq_false q
   have ek: k = ns.length:=by have:=R2.le; omega
   subst ek
   rw [List.drop_length] at hrd
   cases hrd
   rw [List.append_nil] at ec
   subst ec
   refine ⟨_,rfl,k1 l as H2 h2 hl0 ⟨C2.len,fun i x c h1 h3 => ?_⟩ b2⟩
   obtain ⟨F,c3,c4⟩:=C2.at_ i x c h1 h3
   refine ⟨F,c3,fun y hy => ?_⟩
   have:=c4 y hy
   cases q0: H y with
   | none => rfl
   | some o => rw [bb2 _ _ q0 (by simp)] at this; cases this
end
end Mp
end
section
namespace Mp
open PySem PySem.Spec PyProof.Rows L2 Xc
abbrev sFo (j: Nat): Stmt:=inClass (top 28) j
structure TxF (K: PySem.W.Frag) (mg: Str -> Option Value) extends TxC K mg where
 foC: Addr
 foI: Fd K "__init__" "Forest.__init__" (sFo 0) ["self"]
 foMk: Mk K foC foI.f
 mgFo: mg "Forest" = some (.ref foC)
 minN: mg "min" = none
 foCl: Cls K foC
 foG: NoAttr K foC "group_of"
 foL: NoAttr K foC "levels"
 foK: NoAttr K foC "links"
 foE: NoAttr K foC "members"
 addMark: Md K foC "add_mark" "Forest.add_mark" (sFo 1) ["self"]
 countGr: Md K foC "count_groups" "Forest.count_groups" (sFo 2) ["self"]
 together: Md K foC "together" "Forest.together" (sFo 3) ["self","one","other"]
 rise: Md K foC "rise" "Forest.rise" (sFo 4) ["self","lower","upper"]
 membersW: Md K foC "members_with" "Forest.members_with" (sFo 5) ["self","mark"]
 countT: Md K foC "count_together" "Forest.count_together" (sFo 6) ["self","mark"]
 lowest: Md K foC "lowest" "Forest.lowest" (sFo 7) ["self","mark"]
 highest: Md K foC "highest" "Forest.highest" (sFo 8) ["self","mark"]
 addLine: Md K foC "add_line" "Forest.add_line" (sFo 9) ["self","number","first","second","height"]
 moveGr: Md K foC "move_group" "Forest.move_group" (sFo 10) ["self","mark","into","shift"]
 wayM: Md K foC "way" "Forest.way" (sFo 11) ["self","start","goal"]
 onward: Md K foC "onward_to" "Forest.onward_to" (sFo 12) ["self","goal"]
def nV (n: Nat): V:=.int (n: Int)
structure FoD where
 gs: List Nat
 ls: List Int
 F: List Tide.Over
 c: Nat
structure FoA where
 gA: Addr
 lA: Addr
 kA: Addr
 eA: Addr
 kAs: List Addr
 kvs: List (Key × V)
def Tups (H: Hp) (ts: List Addr) (l: List (Nat × Nat)): Prop:=ts.length = l.length /\ ∀ (j: Nat) (t: Addr) (p: Nat × Nat),ts[j]? = some t -> l[j]? = some p -> H t = some (.tup [nV p.1,nV p.2])
theorem Tups.stay {H H': Hp} {ts: List Addr} {l: List (Nat × Nat)} (h: Tups H ts l) (s: Stay H H'): Tups H' ts l:=⟨h.1,fun j t p h1 h2 => s _ _ (h.2 j t p h1 h2) trivial⟩
theorem Tups.snoc {H: Hp} {ts: List Addr} {l: List (Nat × Nat)} {t: Addr} {p: Nat × Nat} (h: Tups H ts l) (ht: H t = some (.tup [nV p.1,nV p.2])): Tups H (ts ++ [t]) (l ++ [p]):=by
 refine ⟨by rw [List.length_append,List.length_append,h.1]; rfl,fun i a v e1 e2 => ?_⟩
 by_cases q: i < ts.length
 ·rw [List.getElem?_append_left q] at e1
  rw [List.getElem?_append_left (by rw [<- h.1]; exact q)] at e2
  exact h.2 i a v e1 e2
 ·rw [List.getElem?_append_right (by omega)] at e1
  rw [List.getElem?_append_right (by rw [<- h.1]; omega),<- h.1] at e2
  cases z: i - ts.length with
  | zero =>
   rw [z] at e1 e2
   cases e1; cases e2
   exact ht
  | succ m =>
   rw [z] at e1
   cases e1
def fof (A: FoA): List (Str × V):=[("group_of",.ref A.gA),("levels",.ref A.lA),("links",.ref A.kA),("members",.ref A.eA)]
structure FoIn (C: Addr) (H: Hp) (f: Addr) (D: FoD) (A: FoA) (X: Addr -> Prop): Prop where
 ins: ∃ dx,H f = some (.ins C dx (fof A))
 g: H A.gA = some (.lst (D.gs.map nV))
 l: H A.lA = some (.lst (D.ls.map V.int))
 k: H A.kA = some (.lst (A.kAs.map V.ref))
 e: H A.eA = some (.dK A.kvs)
 lenL: D.ls.length = D.gs.length
 lenK: A.kAs.length = D.gs.length
 links: ∀ (i: Nat) a,A.kAs[i]? = some a -> ∃ ts,H a = some (.lst (ts.map V.ref)) /\ Tups H ts (Mh.adj D.F i)
 mem: ∀ k v,valV A.kvs k = some v -> ∃ (n: Nat) (a: Addr) (ms: List Nat),k = Sum.inl ((n: Nat): Int) /\ v = .ref a /\ H a = some (.lst (ms.map nV)) /\ ms.Nodup /\ ms ≠ [] /\ ∀ i: Nat,i ∈ ms ↔ D.gs[i]? = some n
 has: ∀ (i n: Nat),D.gs[i]? = some n -> ∃ v,valV A.kvs (Sum.inl ((n: Nat): Int)) = some v
 idlt: ∀ (i n: Nat),D.gs[i]? = some n -> n < D.gs.length
 cnt: A.kvs.length + D.c = D.gs.length
 nd: (A.kvs.map (·.1)).Nodup
 s1: [A.gA,A.lA,A.kA].Nodup
 s2: A.kAs.Nodup
 s3: ∀ a ∈ A.kAs,a ∉ [A.gA,A.lA,A.kA]
 s4: ∀ k a,valV A.kvs k = some (.ref a) -> a ∉ [A.gA,A.lA,A.kA] /\ a ∉ A.kAs
 s5: ∀ k1 k2 a,valV A.kvs k1 = some (.ref a) -> valV A.kvs k2 = some (.ref a) -> k1 = k2
 own: X f /\ X A.gA /\ X A.lA /\ X A.kA /\ X A.eA
 ownK: ∀ a ∈ A.kAs,X a
 ownM: ∀ k a,valV A.kvs k = some (.ref a) -> X a
def FoAt (C: Addr) (H: Hp) (f: Addr) (D: FoD) (X: Addr -> Prop): Prop:=∃ A,FoIn C H f D A X
def ButX (X: Addr -> Prop) (H H': Hp): Prop:=∀ b o,H b = some o -> ¬ X b \/ calm o -> H' b = some o
theorem ButX.stay {X: Addr -> Prop} {H H': Hp} (h: ButX X H H'): Stay H H':=fun b o e c => h b o e (.inr c)
theorem FoIn.off {C: Addr} {H: Hp} {f: Addr} {D: FoD} {A: FoA} {X: Addr -> Prop} (h: FoIn C H f D A X) {b: Addr} {o: HO} (e: H b = some o) (n: ¬ X b \/ calm o) :
  b ≠ A.gA /\ b ≠ A.lA /\ b ≠ A.kA /\ b ≠ A.eA /\ (∀ (i: Nat) a,A.kAs[i]? = some a -> b ≠ a) /\ ∀ k a,valV A.kvs k = some (.ref a) -> b ≠ a:=by
 have key: ∀ a u,H a = some u -> ¬ calm u -> X a -> b ≠ a:=fun a u ha hc hx z => by
  subst z
  rcases n with n | n
  ·exact n hx
  ·rw [ha] at e; cases e; exact hc n
 refine ⟨key _ _ h.g calm_lst h.own.2.1,key _ _ h.l calm_lst h.own.2.2.1,key _ _ h.k calm_lst h.own.2.2.2.1,key _ _ h.e (fun z => z) h.own.2.2.2.2,fun i a ha => ?_,fun k a ha => ?_⟩
 ·obtain ⟨ts,h1,_⟩:=h.links i a ha
  exact key _ _ h1 calm_lst (h.ownK a (List.mem_of_getElem? ha))
 ·obtain ⟨n',a',ms,_,h2,h3,_⟩:=h.mem k _ ha
  injection h2 with h2
  subst h2
  exact key _ _ h3 calm_lst (h.ownM k _ ha)
theorem FoIn.frame {C: Addr} {H H': Hp} {f: Addr} {D: FoD} {A: FoA} {X: Addr -> Prop} (h: FoIn C H f D A X) (k: ∀ b o,H b = some o -> X b \/ calm o -> H' b = some o): FoIn C H' f D A X:=by
 obtain ⟨o1,o2,o3,o4,o5⟩:=h.own
 have st: Stay H H':=fun b o e c => k b o e (.inr c)
 refine ⟨let ⟨dx,e⟩:=h.ins; ⟨dx,k _ _ e (.inl o1)⟩,k _ _ h.g (.inl o2),k _ _ h.l (.inl o3),k _ _ h.k (.inl o4),k _ _ h.e (.inl o5),h.lenL,h.lenK,fun i a e => ?_,fun kk v e => ?_,h.has,h.idlt,h.cnt,h.nd,h.s1,h.s2,h.s3,h.s4,h.s5,h.own,h.ownK,h.ownM⟩
 ·obtain ⟨ts,h1,h2⟩:=h.links i a e
  exact ⟨ts,k _ _ h1 (.inl (h.ownK a (List.mem_of_getElem? e))),h2.stay st⟩
 ·obtain ⟨n,a,ms,h1,h2,h3,h4⟩:=h.mem kk v e
  subst h2
  exact ⟨n,a,ms,h1,rfl,k _ _ h3 (.inl (h.ownM kk a e)),h4⟩
theorem FoIn.wide {C: Addr} {H: Hp} {f: Addr} {D: FoD} {A: FoA} {X Y: Addr -> Prop} (h: FoIn C H f D A X) (k: ∀ a,X a -> Y a): FoIn C H f D A Y :=
 ⟨h.ins,h.g,h.l,h.k,h.e,h.lenL,h.lenK,h.links,h.mem,h.has,h.idlt,h.cnt,h.nd,h.s1,h.s2,h.s3,h.s4,h.s5,⟨k _ h.own.1,k _ h.own.2.1,k _ h.own.2.2.1,k _ h.own.2.2.2.1,k _ h.own.2.2.2.2⟩,fun a ha => k a (h.ownK a ha),fun kk a e => k a (h.ownM kk a e)⟩
def noMarks: FoD:=⟨[],[],[],0⟩
section
variable {P: Program} {w: World} {K: PySem.W.Frag} {mg: Str -> Option Value} {base: Heap}
def spFoI (C: Addr): Sp:=fun vs H Q _ => ∃ (f dx: Addr),vs = [.ref f] /\ H f = some (.ins C dx []) /\ ∀ H': Hp,FoAt C H' f noMarks (fun a => a = f \/ H a = none) -> But [f] H H' -> Q .non H'
theorem sc_foI: FnScope ["self"] ["self"] (defScope (sFo 0)):=⟨rfl,rfl,rfl,by decide +kernel,rfl,by decide +kernel,by decide +kernel⟩
theorem ok_foI (T: TxF K mg): FnOk P w K mg base (XC P w) 1 T.foI.f T.foI.fd ["self"] (spFoI T.foC):=by
 refine T.foI.prove sc_foI (fun vs H Q E h => ?_) (fun cdv A outer s H vs Q E hr h => ?_)
 ·obtain ⟨f,dx,rfl,_⟩:=h
  rfl
 ·obtain ⟨f,dx,rfl,hf,k⟩:=h
  refine ⟨_,pss_cons (ps_fld (pv 0) (pe_lst pa_nil) rfl) (pss_cons (ps_fld (pv 0) (pe_lst pa_nil) rfl) (pss_cons (ps_fld (pv 0) (pe_lst pa_nil) rfl) (pss_one (ps_fld (pv 0) pe_dnewK rfl)))),?_⟩
  refine ⟨Nat.zero_le _,fun a1 h1 => ?_⟩
  have n1: f ≠ a1:=ne_of_none hf h1
  refine ⟨_,rfl,f,T.foC,dx,_,rfl,upd_new h1 _ _ hf,T.foCl,T.foG,(by show 0 < 1000; decide),?_⟩
  refine ⟨Nat.zero_le _,fun a2 h2 => ?_⟩
  have n2: f ≠ a2:=ne_of_none upd_same h2
  have n21: a1 ≠ a2:=fun z => by rw [<- z,upd_ne (Ne.symm n1),upd_same] at h2; cases h2
  refine ⟨_,rfl,f,T.foC,dx,_,rfl,upd_new h2 _ _ upd_same,T.foCl,T.foL,(by show 1 < 1000; decide),?_⟩
  refine ⟨Nat.zero_le _,fun a3 h3 => ?_⟩
  have n3: f ≠ a3:=ne_of_none upd_same h3
  have n31: a1 ≠ a3:=fun z => by rw [<- z,upd_ne (Ne.symm n1),upd_ne n21,upd_ne (Ne.symm n1),upd_same] at h3; cases h3
  have n32: a2 ≠ a3:=fun z => by rw [<- z,upd_ne (Ne.symm n2),upd_same] at h3; cases h3
  refine ⟨_,rfl,f,T.foC,dx,_,rfl,upd_new h3 _ _ upd_same,T.foCl,T.foK,(by show 2 < 1000; decide),?_⟩
  intro a4 h4
  have n4: f ≠ a4:=ne_of_none upd_same h4
  have n41: a1 ≠ a4:=fun z => by rw [<- z,upd_ne (Ne.symm n1),upd_ne n31,upd_ne (Ne.symm n1),upd_ne n21,upd_ne (Ne.symm n1),upd_same] at h4; cases h4
  have n42: a2 ≠ a4:=fun z => by rw [<- z,upd_ne (Ne.symm n2),upd_ne n32,upd_ne (Ne.symm n2),upd_same] at h4; cases h4
  have n43: a3 ≠ a4:=fun z => by rw [<- z,upd_ne (Ne.symm n3),upd_same] at h4; cases h4
  refine ⟨_,rfl,f,T.foC,dx,_,rfl,upd_new h4 _ _ upd_same,T.foCl,T.foE,(by show 3 < 1000; decide),?_⟩
  have b: ∀ (x y: Addr) (o: HO),x ≠ f -> x ≠ a1 -> x ≠ a2 -> x ≠ a3 -> x ≠ a4 -> True:=fun _ _ _ _ _ _ _ _ => trivial
  have e1: H a1 = none:=h1
  have e2: H a2 = none:=by rw [upd_ne (Ne.symm n2),upd_ne (Ne.symm n21)] at h2; exact h2
  have e3: H a3 = none:=by rw [upd_ne (Ne.symm n3),upd_ne (Ne.symm n32),upd_ne (Ne.symm n3),upd_ne (Ne.symm n31)] at h3; exact h3
  have e4: H a4 = none:=by rw [upd_ne (Ne.symm n4),upd_ne (Ne.symm n43),upd_ne (Ne.symm n4),upd_ne (Ne.symm n42),upd_ne (Ne.symm n4),upd_ne (Ne.symm n41)] at h4; exact h4
  refine k _ ⟨⟨a1,a2,a3,a4,[],[]⟩,?_⟩ fun x o e n => ?_
  ·refine ⟨⟨dx,by rw [upd_same]; rfl⟩,?_,?_,?_,?_,rfl,rfl,(fun i a z => by cases z),(fun k v z => by cases z),(fun i n z => by cases z),(fun i n z => by cases z),rfl,List.nodup_nil,?_,List.nodup_nil,(fun a z => by cases z),(fun k a z => by cases z),(fun k k2 a z => by cases z),⟨.inl rfl,.inr e1,.inr e2,.inr e3,.inr e4⟩,(fun a z => by cases z),fun k a z => by cases z⟩
   ·show _ = some (HO.lst [])
    rw [upd_ne (Ne.symm n1),upd_ne n41,upd_ne (Ne.symm n1),upd_ne n31,upd_ne (Ne.symm n1),upd_ne n21,upd_ne (Ne.symm n1),upd_same]
   ·show _ = some (HO.lst [])
    rw [upd_ne (Ne.symm n2),upd_ne n42,upd_ne (Ne.symm n2),upd_ne n32,upd_ne (Ne.symm n2),upd_same]
   ·show _ = some (HO.lst [])
    rw [upd_ne (Ne.symm n3),upd_ne n43,upd_ne (Ne.symm n3),upd_same]
   ·show _ = some (HO.dK [])
    rw [upd_ne (Ne.symm n4),upd_same]
   ·simp [n21,n31,n32]
  ·have nf: x ≠ f:=by simpa using n
   rw [upd_ne nf,upd_ne (ne_of_none e e4),upd_ne nf,upd_ne (ne_of_none e e3),upd_ne nf,upd_ne (ne_of_none e e2),upd_ne nf,upd_ne (ne_of_none e e1)]
   exact e
def spCnt (C: Addr): Sp:=fun vs H Q _ => ∃ (f: Addr) (D: FoD) (X: Addr -> Prop),vs = [.ref f] /\ FoAt C H f D X /\ Q (.int ((D.gs.length - D.c: Nat): Int)) H
theorem sc_cnt: FnScope ["self"] ["self"] (defScope (sFo 2)):=⟨rfl,rfl,rfl,by decide +kernel,rfl,by decide +kernel,by decide +kernel⟩
theorem ok_cnt (T: TxF K mg): FnOk P w K mg base (XC P w) 1 T.countGr.f T.countGr.fd ["self"] (spCnt T.foC):=by
 refine T.countGr.prove sc_cnt (fun vs H Q E h => ?_) (fun cdv A outer s H vs Q E hr h => ?_)
 ·obtain ⟨f,D,X,rfl,_⟩:=h
  rfl
 ·obtain ⟨f,D,X,rfl,⟨a,I⟩,k⟩:=h
  obtain ⟨dx,e⟩:=I.ins
  refine ⟨_,pss_one (ps_ret (pe_callB call_lenD (by rfl) T.lenN bo_len (pa_cons (pe_fld (pv 0) rfl) pa_nil))),?_⟩
  refine ⟨_,rfl,f,T.foC,dx,_,_,rfl,e,T.foCl,T.foE,rfl,a.eA,a.kvs,rfl,I.e,?_⟩
  have:=I.cnt
  rw [show D.gs.length - D.c = a.kvs.length by omega] at k
  exact k
theorem dec_n {a b: Nat}: decide (nV a = nV b) = decide (a = b):=by
 unfold nV
 rw [dec_i]
 by_cases h: a = b
 ·subst h; simp
 ·rw [decide_eq_false h,decide_eq_false (by omega)]
def spTog (C: Addr): Sp:=fun vs H Q _ => ∃ (f: Addr) (D: FoD) (X: Addr -> Prop) (i j gi gj: Nat),vs = [.ref f,nV i,nV j] /\ FoAt C H f D X /\ D.gs[i]? = some gi /\ D.gs[j]? = some gj /\ Q (.bl (decide (gi = gj))) H
theorem sc_tog: FnScope ["self","one","other"] ["self","one","other"] (defScope (sFo 3)):=⟨rfl,rfl,rfl,by decide +kernel,rfl,by decide +kernel,by decide +kernel⟩
theorem ok_tog (T: TxF K mg): FnOk P w K mg base (XC P w) 1 T.together.f T.together.fd ["self","one","other"] (spTog T.foC):=by
 refine T.together.prove sc_tog (fun vs H Q E h => ?_) (fun cdv A outer s H vs Q E hr h => ?_)
 ·obtain ⟨f,D,X,i,j,gi,gj,rfl,_⟩:=h
  rfl
 ·obtain ⟨f,D,X,i,j,gi,gj,rfl,⟨a,I⟩,hi,hj,k⟩:=h
  obtain ⟨dx,e⟩:=I.ins
  refine ⟨_,pss_one (ps_ret (pe_cmpR op_eq (pe_ix ix_list (pe_fld (pv 0) rfl) (pv 1) (fun _ _ => rfl)) (pe_ix ix_list (pe_fld (pv 0) rfl) (pv 2) (fun _ _ => rfl)) (nomark _))),?_⟩
  refine ⟨_,rfl,f,T.foC,dx,_,_,rfl,e,T.foCl,T.foG,rfl,_,rfl,a.gA,_,_,nV gi,rfl,rfl,SqL.of I.g,atI_nat (j:=i) (by rw [List.getElem?_map,hi]; rfl),
   _,rfl,f,T.foC,dx,_,_,rfl,e,T.foCl,T.foG,rfl,_,rfl,a.gA,_,_,nV gj,rfl,rfl,SqL.of I.g,atI_nat (j:=j) (by rw [List.getElem?_map,hj]; rfl),rfl,?_⟩
  rw [dec_n]
  exact k
def spRise (C: Addr): Sp:=fun vs H Q _ => ∃ (f: Addr) (D: FoD) (X: Addr -> Prop) (i j: Nat) (li lj: Int),vs = [.ref f,nV i,nV j] /\ FoAt C H f D X /\ D.ls[i]? = some li /\ D.ls[j]? = some lj /\ Q (.int (lj - li)) H
theorem sc_rise: FnScope ["self","lower","upper"] ["self","lower","upper"] (defScope (sFo 4)):=⟨rfl,rfl,rfl,by decide +kernel,rfl,by decide +kernel,by decide +kernel⟩
theorem ok_rise (T: TxF K mg): FnOk P w K mg base (XC P w) 1 T.rise.f T.rise.fd ["self","lower","upper"] (spRise T.foC):=by
 refine T.rise.prove sc_rise (fun vs H Q E h => ?_) (fun cdv A outer s H vs Q E hr h => ?_)
 ·obtain ⟨f,D,X,i,j,gi,gj,rfl,_⟩:=h
  rfl
 ·obtain ⟨f,D,X,i,j,li,lj,rfl,⟨a,I⟩,hi,hj,k⟩:=h
  obtain ⟨dx,e⟩:=I.ins
  refine ⟨_,pss_one (ps_ret (pe_op op_sub (pe_ix ix_list (pe_fld (pv 0) rfl) (pv 2) (fun _ _ => rfl)) (pe_ix ix_list (pe_fld (pv 0) rfl) (pv 1) (fun _ _ => rfl)))),?_⟩
  refine ⟨_,rfl,f,T.foC,dx,_,_,rfl,e,T.foCl,T.foL,rfl,_,rfl,a.lA,_,_,.int lj,rfl,rfl,SqL.of I.l,atI_nat (j:=j) (by rw [List.getElem?_map,hj]; rfl),
   _,rfl,f,T.foC,dx,_,_,rfl,e,T.foCl,T.foL,rfl,_,rfl,a.lA,_,_,.int li,rfl,rfl,SqL.of I.l,atI_nat (j:=i) (by rw [List.getElem?_map,hi]; rfl),_,_,rfl,rfl,k⟩
def spMw (C: Addr): Sp:=fun vs H Q _ => ∃ (f: Addr) (D: FoD) (X: Addr -> Prop) (i g: Nat),vs = [.ref f,nV i] /\ FoAt C H f D X /\ D.gs[i]? = some g /\
 ∀ (a: Addr) (ms: List Nat),H a = some (.lst (ms.map nV)) -> ms.Nodup -> ms ≠ [] -> (∀ j: Nat,j ∈ ms ↔ D.gs[j]? = some g) -> Q (.ref a) H
theorem sc_mw: FnScope ["self","mark"] ["self","mark"] (defScope (sFo 5)):=⟨rfl,rfl,rfl,by decide +kernel,rfl,by decide +kernel,by decide +kernel⟩
theorem ok_mw (T: TxF K mg): FnOk P w K mg base (XC P w) 1 T.membersW.f T.membersW.fd ["self","mark"] (spMw T.foC):=by
 refine T.membersW.prove sc_mw (fun vs H Q E h => ?_) (fun cdv A outer s H vs Q E hr h => ?_)
 ·obtain ⟨f,D,X,i,g,rfl,_⟩:=h
  rfl
 ·obtain ⟨f,D,X,i,g,rfl,⟨a,I⟩,hi,k⟩:=h
  obtain ⟨dx,e⟩:=I.ins
  have hu:=hu_of hr
  obtain ⟨v1,hv1⟩:=I.has _ _ hi
  obtain ⟨n1,a1,ms1,k1,rfl,m1,m2,m3,m4⟩:=I.mem _ _ hv1
  have dg1: DGet H a.eA (nV g) (some (.ref a1)):=by
   have:=DGet.k (k:=Sum.inl ((g: Nat): Int)) I.e
   rw [hv1] at this
   exact this
  have gn: n1 = g:=by injection k1 with k1; omega
  subst gn
  refine ⟨_,pss_one (ps_ret (pe_dget hu (pe_fld (pv 0) rfl) (pe_ix ix_list (pe_fld (pv 0) rfl) (pv 1) (fun _ _ => rfl)) (fun _ _ => rfl))),?_⟩
  exact ⟨_,rfl,f,T.foC,dx,_,_,rfl,e,T.foCl,T.foE,rfl,_,rfl,f,T.foC,dx,_,_,rfl,e,T.foCl,T.foG,rfl,_,rfl,a.gA,_,_,nV n1,rfl,rfl,SqL.of I.g,atI_nat (j:=i) (by rw [List.getElem?_map,hi]; rfl),a.eA,_,rfl,dg1,k a1 ms1 m1 m2 m3 m4⟩
def spCt (C: Addr): Sp:=fun vs H Q _ => ∃ (f: Addr) (D: FoD) (X: Addr -> Prop) (i g: Nat),vs = [.ref f,nV i] /\ FoAt C H f D X /\ D.gs[i]? = some g /\
 ∀ ms: List Nat,ms.Nodup -> (∀ j: Nat,j ∈ ms ↔ D.gs[j]? = some g) -> Q (nV ms.length) H
theorem sc_ct: FnScope ["self","mark"] ["self","mark"] (defScope (sFo 6)):=⟨rfl,rfl,rfl,by decide +kernel,rfl,by decide +kernel,by decide +kernel⟩
theorem ok_ct (T: TxF K mg): FnOk P w K mg base (XC P w) 2 T.countT.f T.countT.fd ["self","mark"] (spCt T.foC):=by
 have GM: FnOk P w K mg base (XC P w) 1 T.membersW.f T.membersW.fd ["self","mark"] (spMw T.foC):=ok_mw T
 refine T.countT.prove sc_ct (fun vs H Q E h => ?_) (fun cdv A outer s H vs Q E hr h => ?_)
 ·obtain ⟨f,D,X,i,g,rfl,_⟩:=h
  rfl
 ·obtain ⟨f,D,X,i,g,rfl,⟨a,I⟩,hi,k⟩:=h
  obtain ⟨dx,e⟩:=I.ins
  refine ⟨_,pss_one (ps_ret (pe_callB call_len_seq (by rfl) T.lenN bo_len (pa_cons (pe_meth (pv 0) T.foCl T.membersW.m GM hr T.membersW.b .nil passX (pa_cons (pv 1) pa_nil)) pa_nil))),?_⟩
  refine ⟨_,rfl,f,dx,_,rfl,e,rfl,_,rfl,f,D,X,i,g,rfl,⟨a,I⟩,hi,fun a1 ms1 m1 m2 m3 m4 => ⟨a1,_,rfl,.inl (SqL.of m1),?_⟩⟩
  have:=k ms1 m2 m4
  rw [List.length_map]
  exact this
end
end Mp
end
section
namespace Mp
open PySem PySem.Spec PyProof.Rows L2 Xc
open Mh (setAll addAll)
theorem valV_drop {κ: Type} [DecidableEq κ] (k j: κ): ∀ kvs: List (κ × V),valV (dropK kvs k) j = if j = k then none else valV kvs j
 | [] => by
  show none = _
  split <;> rfl
 | p :: r => by
  by_cases e: p.1 = k
  ·rw [dropK_pos e,valV_drop k j r]
   by_cases q: j = k
   ·rw [if_pos q,if_pos q]
   ·rw [if_neg q,if_neg q,valV_neg (fun z => q (z.symm.trans e))]
  ·rw [dropK_neg e]
   by_cases q: p.1 = j
   ·rw [valV_pos q,valV_pos q,if_neg (fun z => e (q.trans z))]
   ·rw [valV_neg q,valV_neg q,valV_drop k j r]
theorem ixN_nat {n j: Nat} (h: j < n): ixN n (j: Int) = some j:=by
 unfold ixN
 rw [if_pos (by omega),if_pos (by omega)]; rfl
theorem pget_list {X: Cx}: PGet X (rIxL X.K):=by
 intro pins s σ H x y v u Q I rx ry h
 obtain ⟨p,xs,i,z,rfl,rfl,hq,he,q⟩:=h
 cases rx
 obtain ⟨t,rfl⟩:=ry
 obtain ⟨its,r,pl,hz⟩:=I.list hq
 obtain ⟨j,h1,h2,h3,h4,h5⟩:=atI_get he
 obtain ⟨w,ew,rw'⟩:=r.get h2
 have hl:=r.length
 have hn:=line63
 have fin: EP X pins σ Q w s:=⟨z,H,I,rw',q⟩
 by_cases h0: 0 <= i
 ·have hj: i.toNat = j:=by
   rw [seqIndex_of h0 h5] at h1
   exact Option.some.inj h1
  exact wpAny_getItem_list pl.isList h0 (by omega) (by rw [hj]; simpa using ew) fin
 ·have hj: (i + (its.toArray.size: Int)).toNat = j:=by
   rw [seqIndex_neg (by omega) h4] at h1
   rw [List.size_toArray,<- hl]
   exact Option.some.inj h1
  exact wpAny_getItem_list_neg pl.isList (by omega) (by rw [List.size_toArray] <;> omega) (by omega) (by rw [hj]; simpa using ew) fin
theorem adj_out {F: List Tide.Over} {n: Nat} (h: ∀ e ∈ F,e.a < n /\ e.b < n): Mh.adj F n = []:=by
 unfold Mh.adj
 rw [List.filterMap_eq_nil_iff]
 intro o ho
 have:=h o ho
 rw [if_neg (by omega),if_neg (by omega)]
def addM (D: FoD): FoD:=⟨D.gs ++ [D.gs.length],D.ls ++ [0],D.F,D.c⟩
theorem FoIn.noKey {C: Addr} {H: Hp} {f: Addr} {D: FoD} {A: FoA} {X: Addr -> Prop} (h: FoIn C H f D A X): valV A.kvs (Sum.inl ((D.gs.length: Nat): Int)) = none:=by
 cases q: valV A.kvs (Sum.inl ((D.gs.length: Nat): Int)) with
 | none => rfl
 | some v =>
  obtain ⟨n,a,ms,h1,h2,h3,h4,h5,h6⟩:=h.mem _ _ q
  injection h1 with h1
  have: D.gs.length = n:=by omega
  obtain ⟨i,hi⟩:=List.exists_mem_of_ne_nil ms h5
  have:=h.idlt i n ((h6 i).mp hi)
  omega
theorem FoIn.mark {C: Addr} {H H': Hp} {f: Addr} {D: FoD} {A: FoA} {X: Addr -> Prop} (h: FoIn C H f D A X) (ends: ∀ e ∈ D.F,e.a < D.gs.length /\ e.b < D.gs.length) {k' m': Addr} (hk: H k' = none) (hm: H m' = none) (km: k' ≠ m')
  (kp: ∀ b o,H b = some o -> b ≠ A.gA -> b ≠ A.lA -> b ≠ A.kA -> b ≠ A.eA -> H' b = some o)
  (e1: H' A.gA = some (.lst ((addM D).gs.map nV))) (e2: H' A.lA = some (.lst ((addM D).ls.map V.int))) (e3: H' A.kA = some (.lst ((A.kAs ++ [k']).map V.ref))) (e4: H' A.eA = some (.dK (putK A.kvs (Sum.inl ((D.gs.length: Nat): Int)) (.ref m'))))
  (e5: H' k' = some (.lst [])) (e6: H' m' = some (.lst [nV D.gs.length])) :
  FoIn C H' f (addM D) { A with kAs:=A.kAs ++ [k'],kvs:=putK A.kvs (Sum.inl ((D.gs.length: Nat): Int)) (.ref m') } (fun a => X a \/ H a = none):=by
 have nk:=h.noKey
 have vp: ∀ j,valV (putK A.kvs (Sum.inl ((D.gs.length: Nat): Int)) (.ref m')) j = if j = Sum.inl ((D.gs.length: Nat): Int) then some (.ref m') else valV A.kvs j:=fun j => valV_put _ _ _ _
 have pn:=putK_new (V.ref m') nk
 have st: ∀ b o,H b = some o -> calm o -> H' b = some o:=fun b o e c => kp b o e (fun z => by rw [z,h.g] at e; cases e; exact c) (fun z => by rw [z,h.l] at e; cases e; exact c) (fun z => by rw [z,h.k] at e; cases e; exact c) (fun z => by rw [z,h.e] at e; cases e; exact c)
 have gs_old: ∀ i n,(addM D).gs[i]? = some n -> (i < D.gs.length /\ D.gs[i]? = some n) \/ (i = D.gs.length /\ n = D.gs.length):=fun i n e => by
  have e: (D.gs ++ [D.gs.length])[i]? = some n:=e
  by_cases q: i < D.gs.length
  ·rw [List.getElem?_append_left q] at e
   exact .inl ⟨q,e⟩
  ·rw [List.getElem?_append_right (by omega)] at e
   cases z: i - D.gs.length with
   | zero =>
    rw [z] at e
    have: D.gs.length = n:=Option.some.inj e
    exact .inr ⟨by omega,this.symm⟩
   | succ m => rw [z] at e; cases e
 have gs_new: ∀ (i n: Nat),D.gs[i]? = some n -> (addM D).gs[i]? = some n:=fun i n e => by
  show (D.gs ++ [D.gs.length])[i]? = some n
  rw [List.getElem?_append_left (List.getElem?_eq_some_iff.mp e).1]
  exact e
 have gs_last: (addM D).gs[D.gs.length]? = some D.gs.length:=by
  show (D.gs ++ [D.gs.length])[D.gs.length]? = _
  rw [List.getElem?_append_right (Nat.le_refl _),Nat.sub_self]; rfl
 have glen: (addM D).gs.length = D.gs.length + 1:=by show (D.gs ++ [D.gs.length]).length = _; simp
 have ge: A.gA ≠ A.eA:=ne_of h.g h.e (by intro z; cases z)
 refine ⟨?_,e1,e2,e3,e4,?_,?_,?_,?_,?_,?_,?_,?_,h.s1,?_,?_,?_,?_,⟨.inl h.own.1,.inl h.own.2.1,.inl h.own.2.2.1,.inl h.own.2.2.2.1,.inl h.own.2.2.2.2⟩,?_,?_⟩
 ·obtain ⟨dx,e⟩:=h.ins
  exact ⟨dx,kp _ _ e (ne_of e h.g (by intro z; cases z)) (ne_of e h.l (by intro z; cases z)) (ne_of e h.k (by intro z; cases z)) (ne_of e h.e (by intro z; cases z))⟩
 ·show (D.ls ++ [0]).length = _
  rw [glen,List.length_append,h.lenL]; rfl
 ·show (A.kAs ++ [k']).length = _
  rw [glen,List.length_append,h.lenK]; rfl
 ·intro i a e
  have e: (A.kAs ++ [k'])[i]? = some a:=e
  show ∃ ts,H' a = some (.lst (ts.map V.ref)) /\ Tups H' ts (Mh.adj D.F i)
  by_cases q: i < A.kAs.length
  ·rw [List.getElem?_append_left q] at e
   obtain ⟨ts,h1,h2⟩:=h.links i a e
   have:=h.s3 a (List.mem_of_getElem? e)
   simp only [List.mem_cons,List.not_mem_nil,not_or,or_false] at this
   exact ⟨ts,kp _ _ h1 this.1 this.2.1 this.2.2 (ne_of h1 h.e (by intro z; cases z)),h2.stay st⟩
  ·rw [List.getElem?_append_right (by omega)] at e
   cases z: i - A.kAs.length with
   | zero =>
    rw [z] at e
    have: k' = a:=Option.some.inj e
    subst this
    have: i = D.gs.length:=by have:=h.lenK; omega
    subst this
    rw [adj_out ends]
    exact ⟨[],e5,rfl,fun j t p z => by cases z⟩
   | succ m => rw [z] at e; cases e
 ·intro k v e
  have e: valV (putK A.kvs (Sum.inl ((D.gs.length: Nat): Int)) (.ref m')) k = some v:=e
  rw [vp] at e
  by_cases q: k = Sum.inl ((D.gs.length: Nat): Int)
  ·rw [if_pos q] at e
   have: V.ref m' = v:=Option.some.inj e
   refine ⟨D.gs.length,m',[D.gs.length],q,this.symm,e6,by simp,by simp,fun i => ?_⟩
   constructor
   ·intro hi
    have: i = D.gs.length:=by simpa using hi
    subst this
    exact gs_last
   ·intro hi
    rcases gs_old _ _ hi with ⟨h1,h2⟩ | ⟨h1,_⟩
    ·have:=h.idlt _ _ h2
     omega
    ·simp [h1]
  ·rw [if_neg q] at e
   obtain ⟨n,a,ms,h1,h2,h3,h4,h5,h6⟩:=h.mem k v e
   subst h2
   have sa:=(h.s4 k a e).1
   simp only [List.mem_cons,List.not_mem_nil,not_or,or_false] at sa
   refine ⟨n,a,ms,h1,rfl,kp _ _ h3 sa.1 sa.2.1 sa.2.2 (ne_of h3 h.e (by intro z; cases z)),h4,h5,fun i => ?_⟩
   rw [h6]
   constructor
   ·exact gs_new i n
   ·intro hi
    rcases gs_old _ _ hi with ⟨_,h2⟩ | ⟨_,h2⟩
    ·exact h2
    ·subst h2; exact absurd h1 q
 ·intro i n e
  show ∃ v,valV (putK A.kvs (Sum.inl ((D.gs.length: Nat): Int)) (.ref m')) (Sum.inl ((n: Nat): Int)) = some v
  rw [vp]
  rcases gs_old _ _ e with ⟨_,h2⟩ | ⟨_,rfl⟩
  ·by_cases q: (Sum.inl ((n: Nat): Int): Key) = Sum.inl ((D.gs.length: Nat): Int)
   ·rw [if_pos q]; exact ⟨_,rfl⟩
   ·rw [if_neg q]; exact h.has i n h2
  ·rw [if_pos rfl]; exact ⟨_,rfl⟩
 ·intro i n e
  rw [glen]
  rcases gs_old _ _ e with ⟨_,h2⟩ | ⟨_,rfl⟩
  ·have:=h.idlt i n h2
   omega
  ·omega
 ·show (putK A.kvs _ _).length + D.c = _
  rw [glen,pn,List.length_append]
  have:=h.cnt
  show A.kvs.length + 1 + D.c = _
  omega
 ·exact nd_putK _ h.nd nk
 ·show (A.kAs ++ [k']).Nodup
  exact nd_snoc h.s2 fun z => by
   obtain ⟨i,hi⟩:=List.getElem?_of_mem z
   obtain ⟨ts,h1,_⟩:=h.links i k' hi
   rw [hk] at h1; cases h1
 ·intro a ha
  rcases List.mem_append.mp ha with q | q
  ·exact h.s3 a q
  ·have: a = k':=by simpa using q
   subst this
   intro z
   simp only [List.mem_cons,List.not_mem_nil,or_false] at z
   rcases z with z | z | z
   ·rw [z,h.g] at hk; cases hk
   ·rw [z,h.l] at hk; cases hk
   ·rw [z,h.k] at hk; cases hk
 ·intro k a e
  have e: valV (putK A.kvs (Sum.inl ((D.gs.length: Nat): Int)) (.ref m')) k = some (.ref a):=e
  rw [vp] at e
  show a ∉ [A.gA,A.lA,A.kA] /\ a ∉ A.kAs ++ [k']
  by_cases q: k = Sum.inl ((D.gs.length: Nat): Int)
  ·rw [if_pos q] at e
   injection e with e
   injection e with e
   subst e
   constructor
   ·intro z
    simp only [List.mem_cons,List.not_mem_nil,or_false] at z
    rcases z with z | z | z
    ·rw [z,h.g] at hm; cases hm
    ·rw [z,h.l] at hm; cases hm
    ·rw [z,h.k] at hm; cases hm
   ·intro z
    rcases List.mem_append.mp z with z | z
    ·obtain ⟨i,hi⟩:=List.getElem?_of_mem z
     obtain ⟨ts,h1,_⟩:=h.links i _ hi
     rw [hm] at h1; cases h1
    ·exact km (by simpa using z: m' = k').symm
  ·rw [if_neg q] at e
   refine ⟨(h.s4 k a e).1,fun z => ?_⟩
   rcases List.mem_append.mp z with z | z
   ·exact (h.s4 k a e).2 z
   ·have z2: a = k':=by simpa using z
    obtain ⟨n,a',ms,h1,h2,h3,_⟩:=h.mem k _ e
    injection h2 with h2
    rw [<- h2,z2,hk] at h3; cases h3
 ·intro k1 k2 a z1 z2
  have z1: valV (putK A.kvs (Sum.inl ((D.gs.length: Nat): Int)) (.ref m')) k1 = some (.ref a):=z1
  have z2: valV (putK A.kvs (Sum.inl ((D.gs.length: Nat): Int)) (.ref m')) k2 = some (.ref a):=z2
  have nom: ∀ k,valV A.kvs k = some (.ref m') -> False:=fun k e => by
   obtain ⟨n,a',ms,h1,h2,h3,_⟩:=h.mem k _ e
   injection h2 with h2
   rw [<- h2,hm] at h3; cases h3
  rw [vp] at z1 z2
  by_cases q1: k1 = Sum.inl ((D.gs.length: Nat): Int) <;> by_cases q2: k2 = Sum.inl ((D.gs.length: Nat): Int)
  ·rw [q1,q2]
  ·rw [if_pos q1] at z1
   rw [if_neg q2] at z2
   injection z1 with z1
   rw [<- z1] at z2
   exact (nom _ z2).elim
  ·rw [if_neg q1] at z1
   rw [if_pos q2] at z2
   injection z2 with z2
   rw [<- z2] at z1
   exact (nom _ z1).elim
  ·rw [if_neg q1] at z1
   rw [if_neg q2] at z2
   exact h.s5 k1 k2 a z1 z2
 ·intro a ha
  rcases List.mem_append.mp ha with q | q
  ·exact .inl (h.ownK a q)
  ·have: a = k':=by simpa using q
   exact .inr (this ▸ hk)
 ·intro k a e
  have e: valV (putK A.kvs (Sum.inl ((D.gs.length: Nat): Int)) (.ref m')) k = some (.ref a):=e
  rw [vp] at e
  by_cases q: k = Sum.inl ((D.gs.length: Nat): Int)
  ·rw [if_pos q] at e
   injection e with e
   injection e with e
   exact .inr (e ▸ hm)
  ·rw [if_neg q] at e
   exact .inl (h.ownM k a e)
def moveD (D: FoD) (ms: List Nat) (g2: Nat) (d: Int): FoD:=⟨setAll D.gs ms g2,addAll D.ls ms d,D.F,D.c + 1⟩
theorem FoIn.move {C: Addr} {H H': Hp} {f: Addr} {D: FoD} {A: FoA} {X: Addr -> Prop} (h: FoIn C H f D A X) {g1 g2: Nat} {a1 a2: Addr} {ms1 ms2: List Nat} {d: Int} (ne: g1 ≠ g2)
  (v1: valV A.kvs (Sum.inl ((g1: Nat): Int)) = some (.ref a1)) (v2: valV A.kvs (Sum.inl ((g2: Nat): Int)) = some (.ref a2)) (m1: H a1 = some (.lst (ms1.map nV))) (m2: H a2 = some (.lst (ms2.map nV)))
  (kp: ∀ b o,H b = some o -> b ≠ A.gA -> b ≠ A.lA -> b ≠ A.eA -> b ≠ a2 -> H' b = some o)
  (e1: H' A.gA = some (.lst ((setAll D.gs ms1 g2).map nV))) (e2: H' A.lA = some (.lst ((addAll D.ls ms1 d).map V.int))) (e4: H' A.eA = some (.dK (dropK A.kvs (Sum.inl ((g1: Nat): Int))))) (e5: H' a2 = some (.lst ((ms2 ++ ms1).map nV))) :
  FoIn C H' f (moveD D ms1 g2 d) { A with kvs:=dropK A.kvs (Sum.inl ((g1: Nat): Int)) } X:=by
 have nVi: ∀ x y: List Nat,x.map nV = y.map nV -> x = y:=fun x => by
  induction x with
  | nil => intro y e; cases y with | nil => rfl | cons _ _ => cases e
  | cons p x ih =>
   intro y e
   cases y with
   | nil => cases e
   | cons q y =>
    rw [List.map_cons,List.map_cons] at e
    injection e with e0 e
    unfold nV at e0
    injection e0 with e0
    rw [ih y e,show p = q by omega]
 have mm: ∀ (g: Nat) (a: Addr) (ms: List Nat),valV A.kvs (Sum.inl ((g: Nat): Int)) = some (.ref a) -> H a = some (.lst (ms.map nV)) -> ms.Nodup /\ ms ≠ [] /\ ∀ i: Nat,i ∈ ms ↔ D.gs[i]? = some g:=fun g a ms e1 e2 => by
  obtain ⟨n,a',ms',h1,h2,h3,h4⟩:=h.mem _ _ e1
  injection h2 with h2
  subst h2
  rw [e2] at h3
  injection h3 with h3
  injection h3 with h3
  have:=nVi _ _ h3
  subst this
  injection h1 with h1
  have: g = n:=by omega
  subst this
  exact h4
 obtain ⟨nd1,ne1,i1⟩:=mm g1 a1 ms1 v1 m1
 obtain ⟨nd2,ne2,i2⟩:=mm g2 a2 ms2 v2 m2
 have vd: ∀ j,valV (dropK A.kvs (Sum.inl ((g1: Nat): Int))) j = if j = Sum.inl ((g1: Nat): Int) then none else valV A.kvs j:=fun j => valV_drop _ _ _
 have st: ∀ b o,H b = some o -> calm o -> H' b = some o:=fun b o e c => kp b o e (fun z => by rw [z,h.g] at e; cases e; exact c) (fun z => by rw [z,h.l] at e; cases e; exact c) (fun z => by rw [z,h.e] at e; cases e; exact c) (fun z => by rw [z,m2] at e; cases e; exact c)
 have s2:=h.s4 _ _ v2
 simp only [List.mem_cons,List.not_mem_nil,not_or,or_false] at s2
 have gat: ∀ i: Nat,(setAll D.gs ms1 g2)[i]? = if i ∈ ms1 then some g2 else D.gs[i]?:=fun i => by
  rw [Mh.setAll_at]
  by_cases q: i ∈ ms1
  ·rw [if_pos q,if_pos q,if_pos (List.getElem?_eq_some_iff.mp ((i1 i).mp q)).1]
  ·rw [if_neg q,if_neg q]
 have lt2: g2 < D.gs.length:=by
  obtain ⟨i,hi⟩:=List.exists_mem_of_ne_nil ms2 ne2
  exact h.idlt i g2 ((i2 i).mp hi)
 have h11: (Sum.inl ((g2: Nat): Int): Key) ≠ Sum.inl ((g1: Nat): Int):=fun z => by
  injection z with z
  omega
 refine ⟨?_,e1,e2,?_,e4,?_,?_,?_,?_,?_,?_,?_,?_,h.s1,h.s2,h.s3,?_,?_,h.own,h.ownK,?_⟩
 ·obtain ⟨dx,e⟩:=h.ins
  exact ⟨dx,kp _ _ e (ne_of e h.g (by intro z; cases z)) (ne_of e h.l (by intro z; cases z)) (ne_of e h.e (by intro z; cases z)) (ne_of e m2 (by intro z; cases z))⟩
 ·have:=h.s1
  simp only [List.nodup_cons,List.mem_cons,List.not_mem_nil,not_or,or_false] at this
  exact kp _ _ h.k (fun z => this.1.2 z.symm) (fun z => this.2.1 z.symm) (ne_of h.k h.e (by intro z; cases z)) (fun z => s2.1.2.2 z.symm)
 ·show (addAll D.ls ms1 d).length = (setAll D.gs ms1 g2).length
  rw [Mh.addAll_len,Mh.setAll_len]; exact h.lenL
 ·show A.kAs.length = (setAll D.gs ms1 g2).length
  rw [Mh.setAll_len]; exact h.lenK
 ·intro i a e
  obtain ⟨ts,h1,h2⟩:=h.links i a e
  have:=h.s3 a (List.mem_of_getElem? e)
  simp only [List.mem_cons,List.not_mem_nil,not_or,or_false] at this
  exact ⟨ts,kp _ _ h1 this.1 this.2.1 (ne_of h1 h.e (by intro z; cases z)) (fun z => s2.2 (z ▸ List.mem_of_getElem? e)),h2.stay st⟩
 ·intro k v e
  have e: valV (dropK A.kvs (Sum.inl ((g1: Nat): Int))) k = some v:=e
  rw [vd] at e
  by_cases q: k = Sum.inl ((g1: Nat): Int)
  ·rw [if_pos q] at e; cases e
  ·rw [if_neg q] at e
   show ∃ (n: Nat) (a: Addr) (ms: List Nat),k = Sum.inl ((n: Nat): Int) /\ v = .ref a /\ H' a = some (.lst (ms.map nV)) /\ ms.Nodup /\ ms ≠ [] /\ ∀ i: Nat,i ∈ ms ↔ (setAll D.gs ms1 g2)[i]? = some n
   by_cases q2: k = Sum.inl ((g2: Nat): Int)
   ·subst q2
    rw [v2] at e
    refine ⟨g2,a2,ms2 ++ ms1,rfl,(Option.some.inj e).symm,e5,?_,by simp [ne2],fun i => ?_⟩
    ·rw [List.nodup_append]
     refine ⟨nd2,nd1,fun x hx y hy z => ?_⟩
     subst z
     have z1:=(i1 x).mp hy
     rw [(i2 x).mp hx] at z1
     exact ne (Option.some.inj z1).symm
    ·rw [gat,List.mem_append]
     by_cases q3: i ∈ ms1
     ·simp [q3]
     ·rw [if_neg q3,<- i2]; simp [q3]
   ·obtain ⟨n,a,ms,h1,h2,h3,h4,h5,h6⟩:=h.mem k v e
    subst h2
    have sa:=(h.s4 k a e).1
    simp only [List.mem_cons,List.not_mem_nil,not_or,or_false] at sa
    refine ⟨n,a,ms,h1,rfl,kp _ _ h3 sa.1 sa.2.1 (ne_of h3 h.e (by intro z; cases z)) (fun z => q2 (h.s5 _ _ a2 (z ▸ e) v2)),h4,h5,fun i => ?_⟩
    rw [gat,h6]
    have n1: n ≠ g1:=fun z => q (by rw [h1,z])
    have n2: n ≠ g2:=fun z => q2 (by rw [h1,z])
    by_cases q3: i ∈ ms1
    ·rw [if_pos q3,(i1 i).mp q3]
     constructor
     ·intro z; exact absurd (Option.some.inj z).symm n1
     ·intro z; exact absurd (Option.some.inj z).symm n2
    ·rw [if_neg q3]
 ·intro i n e
  have e: (setAll D.gs ms1 g2)[i]? = some n:=e
  show ∃ v,valV (dropK A.kvs (Sum.inl ((g1: Nat): Int))) (Sum.inl ((n: Nat): Int)) = some v
  rw [gat] at e
  rw [vd]
  by_cases q: i ∈ ms1
  ·rw [if_pos q] at e
   have: g2 = n:=Option.some.inj e
   subst this
   rw [if_neg h11]
   exact ⟨_,v2⟩
  ·rw [if_neg q] at e
   rw [if_neg (fun z => q ((i1 i).mpr (by injection z with z; rw [e,show n = g1 by omega])))]
   exact h.has i n e
 ·intro i n e
  have e: (setAll D.gs ms1 g2)[i]? = some n:=e
  show n < (setAll D.gs ms1 g2).length
  rw [Mh.setAll_len]
  rw [gat] at e
  by_cases q: i ∈ ms1
  ·rw [if_pos q] at e
   have: g2 = n:=Option.some.inj e
   omega
  ·rw [if_neg q] at e
   exact h.idlt i n e
 ·show (dropK A.kvs _).length + (D.c + 1) = (setAll D.gs ms1 g2).length
  rw [Mh.setAll_len]
  have:=dropK_len h.nd (valV_in v1)
  have:=h.cnt
  omega
 ·exact nd_dropK h.nd
 ·intro k a e
  have e: valV (dropK A.kvs (Sum.inl ((g1: Nat): Int))) k = some (.ref a):=e
  rw [vd] at e
  by_cases q: k = Sum.inl ((g1: Nat): Int)
  ·rw [if_pos q] at e; cases e
  ·rw [if_neg q] at e
   exact h.s4 k a e
 ·intro k1 k2 a z1 z2
  have z1: valV (dropK A.kvs (Sum.inl ((g1: Nat): Int))) k1 = some (.ref a):=z1
  have z2: valV (dropK A.kvs (Sum.inl ((g1: Nat): Int))) k2 = some (.ref a):=z2
  rw [vd] at z1 z2
  by_cases q1: k1 = Sum.inl ((g1: Nat): Int)
  ·rw [if_pos q1] at z1; cases z1
  ·by_cases q2: k2 = Sum.inl ((g1: Nat): Int)
   ·rw [if_pos q2] at z2; cases z2
   ·rw [if_neg q1] at z1
    rw [if_neg q2] at z2
    exact h.s5 k1 k2 a z1 z2
 ·intro k a e
  have e: valV (dropK A.kvs (Sum.inl ((g1: Nat): Int))) k = some (.ref a):=e
  rw [vd] at e
  by_cases q: k = Sum.inl ((g1: Nat): Int)
  ·rw [if_pos q] at e; cases e
  ·rw [if_neg q] at e
   exact h.ownM k a e
end Mp
end
section
namespace Mp
open PySem PySem.Spec PyProof.Rows L2 Xc
open Mh (setAll addAll)
section
variable {P: Program} {w: World} {K: PySem.W.Frag} {mg: Str -> Option Value} {base: Heap}
theorem small1024 {n: Nat} (h: n <= 1024): n < sizeLine:=Nat.lt_of_le_of_lt h (by decide)
theorem FoIn.nes {C: Addr} {H: Hp} {f: Addr} {D: FoD} {A: FoA} {X: Addr -> Prop} (h: FoIn C H f D A X): f ≠ A.gA /\ f ≠ A.lA /\ f ≠ A.kA /\ f ≠ A.eA /\ A.gA ≠ A.lA /\ A.gA ≠ A.kA /\ A.gA ≠ A.eA /\ A.lA ≠ A.kA /\ A.lA ≠ A.eA /\ A.kA ≠ A.eA:=by
 obtain ⟨dx,e⟩:=h.ins
 have:=h.s1
 simp only [List.nodup_cons,List.mem_cons,List.not_mem_nil,not_or,or_false] at this
 exact ⟨ne_of e h.g (by intro z; cases z),ne_of e h.l (by intro z; cases z),ne_of e h.k (by intro z; cases z),ne_of e h.e (by intro z; cases z),this.1.1,this.1.2,ne_of h.g h.e (by intro z; cases z),this.2.1,ne_of h.l h.e (by intro z; cases z),ne_of h.k h.e (by intro z; cases z)⟩
def spAm (C: Addr): Sp:=fun vs H Q _ => ∃ (f: Addr) (D: FoD) (X: Addr -> Prop),vs = [.ref f] /\ FoAt C H f D X /\ (∀ e ∈ D.F,e.a < D.gs.length /\ e.b < D.gs.length) /\ D.gs.length <= 1024 /\
 ∀ H',FoAt C H' f (addM D) (fun a => X a \/ H a = none) -> ButX X H H' -> Q .non H'
theorem sc_am: FnScope ["self","mark"] ["self"] (defScope (sFo 1)):=⟨rfl,rfl,rfl,by decide +kernel,rfl,by decide +kernel,by decide +kernel⟩
theorem ok_am (T: TxF K mg): FnOk P w K mg base (XC P w) 1 T.addMark.f T.addMark.fd ["self"] (spAm T.foC):=by
 refine T.addMark.prove sc_am (fun vs H Q E h => ?_) (fun cdv A outer s H vs Q E hr h => ?_)
 ·obtain ⟨f,D,X,rfl,_⟩:=h
  rfl
 ·obtain ⟨f,D,X,rfl,⟨a,I⟩,ends,hn,kk⟩:=h
  obtain ⟨dx,e⟩:=I.ins
  obtain ⟨fg,fl,fk,fe,gl,gk,ge,lk,le,ke⟩:=I.nes
  have hu:=hu_of hr
  have lL:=I.lenL
  have lK:=I.lenK
  have cn:=I.cnt
  refine ⟨_,pss_cons (ps_set (i:=1) sc_am.nd rfl (Or.inl rfl) (pe_callB call_len_seq (by rfl) T.lenN bo_len (pa_cons (pe_fld (pv 0) rfl) pa_nil)))
   (pss_cons (ps_expr (pe_bm PySem.F.plainAttrs_list PySem.F.slot_list_append PySem.F.type_list_append mt_append (pe_fld (pv 0) rfl) (pa_cons (pv 1) pa_nil)))
   (pss_cons (ps_expr (pe_bm PySem.F.plainAttrs_list PySem.F.slot_list_append PySem.F.type_list_append mt_append (pe_fld (pv 0) rfl) (pa_cons pe_int pa_nil)))
   (pss_cons (ps_expr (pe_bm PySem.F.plainAttrs_list PySem.F.slot_list_append PySem.F.type_list_append mt_append (pe_fld (pv 0) rfl) (pa_cons (pe_lst pa_nil) pa_nil)))
   (pss_one (ps_dput hu (pe_fld (pv 0) rfl) (pv 1) (pe_lst (pa_cons (pv 1) pa_nil)) rfl))))),?_⟩
  refine ⟨_,rfl,f,T.foC,dx,_,_,rfl,e,T.foCl,T.foL,rfl,a.lA,_,rfl,.inl (SqL.of I.l),?_⟩
  rw [List.length_map,lL]
  refine ⟨_,rfl,f,T.foC,dx,_,_,rfl,e,T.foCl,T.foG,rfl,.inl ⟨rfl,_,SqL.of I.g⟩,_,rfl,a.gA,_,_,rfl,rfl,I.g,(by rw [List.length_map]; exact small1024 hn),?_⟩
  have e1: upd H a.gA (.lst (D.gs.map nV ++ [V.int ((D.gs.length: Nat): Int)])) f = some (.ins T.foC dx (fof a)):=by rw [upd_ne fg]; exact e
  have l1: upd H a.gA (.lst (D.gs.map nV ++ [V.int ((D.gs.length: Nat): Int)])) a.lA = some (.lst (D.ls.map V.int)):=by rw [upd_ne (Ne.symm gl)]; exact I.l
  refine ⟨_,rfl,f,T.foC,dx,_,_,rfl,e1,T.foCl,T.foL,rfl,.inl ⟨rfl,_,SqL.of l1⟩,a.lA,_,_,rfl,rfl,l1,(by rw [List.length_map,lL]; exact small1024 hn),?_⟩
  generalize hH1: upd H a.gA (.lst (D.gs.map nV ++ [V.int ((D.gs.length: Nat): Int)])) = H1 at *
  have e2: upd H1 a.lA (.lst (D.ls.map V.int ++ [V.int 0])) f = some (.ins T.foC dx (fof a)):=by rw [upd_ne fl]; exact e1
  have k2: upd H1 a.lA (.lst (D.ls.map V.int ++ [V.int 0])) a.kA = some (.lst (a.kAs.map V.ref)):=by rw [upd_ne (Ne.symm lk),<- hH1,upd_ne (Ne.symm gk)]; exact I.k
  have d2: upd H1 a.lA (.lst (D.ls.map V.int ++ [V.int 0])) a.eA = some (.dK a.kvs):=by rw [upd_ne (Ne.symm le),<- hH1,upd_ne (Ne.symm ge)]; exact I.e
  have g2: upd H1 a.lA (.lst (D.ls.map V.int ++ [V.int 0])) a.gA = some (.lst (D.gs.map nV ++ [V.int ((D.gs.length: Nat): Int)])):=by rw [upd_ne gl,<- hH1]; exact upd_same
  have l2: upd H1 a.lA (.lst (D.ls.map V.int ++ [V.int 0])) a.lA = some (.lst (D.ls.map V.int ++ [V.int 0])):=upd_same
  have o2: ∀ b,b ≠ a.gA -> b ≠ a.lA -> upd H1 a.lA (.lst (D.ls.map V.int ++ [V.int 0])) b = H b:=fun b n1 n2 => by rw [upd_ne n2,<- hH1,upd_ne n1]
  generalize hH2: upd H1 a.lA (.lst (D.ls.map V.int ++ [V.int 0])) = H2 at *
  refine ⟨_,rfl,f,T.foC,dx,_,_,rfl,e2,T.foCl,T.foK,rfl,.inl ⟨rfl,_,SqL.of k2⟩,Nat.zero_le _,fun k' hk' => ?_⟩
  have k3: upd H2 k' (.lst []) a.kA = some (.lst (a.kAs.map V.ref)):=upd_new hk' _ _ k2
  refine ⟨a.kA,_,_,rfl,rfl,k3,(by rw [List.length_map,lK]; exact small1024 hn),?_⟩
  have nk: ∀ b o,H2 b = some o -> b ≠ k':=fun b o z => ne_of_none z hk'
  have o4: ∀ b,b ≠ k' -> b ≠ a.kA -> upd (upd H2 k' (.lst [])) a.kA (.lst (a.kAs.map V.ref ++ [V.ref k'])) b = H2 b:=fun b n1 n2 => by rw [upd_ne n2,upd_ne n1]
  have k4: upd (upd H2 k' (.lst [])) a.kA (.lst (a.kAs.map V.ref ++ [V.ref k'])) a.kA = some (.lst (a.kAs.map V.ref ++ [V.ref k'])):=upd_same
  have k5: upd (upd H2 k' (.lst [])) a.kA (.lst (a.kAs.map V.ref ++ [V.ref k'])) k' = some (.lst []):=by rw [upd_ne (Ne.symm (nk _ _ k2))]; exact upd_same
  generalize hH4: upd (upd H2 k' (.lst [])) a.kA (.lst (a.kAs.map V.ref ++ [V.ref k'])) = H4 at *
  refine ⟨_,rfl,(by show 1 <= sizeLine; decide),fun m' hm' => ?_⟩
  have e4: H4 f = some (.ins T.foC dx (fof a)):=by rw [o4 f (nk _ _ e2) fk]; exact e2
  have d4: H4 a.eA = some (.dK a.kvs):=by rw [o4 _ (nk _ _ d2) (Ne.symm ke)]; exact d2
  have g4: H4 a.gA = some (.lst (D.gs.map nV ++ [V.int ((D.gs.length: Nat): Int)])):=by rw [o4 _ (nk _ _ g2) gk]; exact g2
  have l4: H4 a.lA = some (.lst (D.ls.map V.int ++ [V.int 0])):=by rw [o4 _ (nk _ _ l2) lk]; exact l2
  refine ⟨_,rfl,f,T.foC,dx,_,_,rfl,upd_new hm' _ _ e4,T.foCl,T.foE,rfl,_,rfl,a.eA,_,rfl,DPut.k (k:=Sum.inl ((D.gs.length: Nat): Int)) (upd_new hm' _ _ d4) (small1024 (by omega)),?_⟩
  have km: k' ≠ m':=ne_of_none k5 hm'
  have hk0: H k' = none:=by rw [<- o2 k' (Ne.symm (nk _ _ g2)) (Ne.symm (nk _ _ l2))]; exact hk'
  have nm: ∀ b o,H4 b = some o -> b ≠ m':=fun b o z => ne_of_none z hm'
  have hm0: H m' = none:=by rw [<- o2 m' (Ne.symm (nm _ _ g4)) (Ne.symm (nm _ _ l4)),<- o4 m' (Ne.symm (nm _ _ k5)) (Ne.symm (nm _ _ k4))]; exact hm'
  have me: m' ≠ a.eA:=Ne.symm (nm _ _ d4)
  have all: ∀ b o,H b = some o -> b ≠ a.gA -> b ≠ a.lA -> b ≠ a.kA -> b ≠ a.eA -> upd (upd H4 m' (.lst [V.int ((D.gs.length: Nat): Int)])) a.eA (.dK (putK a.kvs (Sum.inl ((D.gs.length: Nat): Int)) (.ref m'))) b = some o:=fun b o z n1 n2 n3 n4 => by
   rw [upd_ne n4,upd_ne (ne_of_none z hm0),o4 b (ne_of_none z hk0) n3,o2 b n1 n2]; exact z
  refine kk _ ⟨_,I.mark ends hk0 hm0 km all ?_ ?_ ?_ upd_same ?_ ?_⟩ fun b o z n => let ⟨q1,q2,q3,q4,_⟩:=I.off z n; all b o z q1 q2 q3 q4
  ·rw [upd_ne ge,upd_ne (nm _ _ g4),g4]; show _ = some (HO.lst ((D.gs ++ [D.gs.length]).map nV)); rw [List.map_append]; rfl
  ·rw [upd_ne le,upd_ne (nm _ _ l4),l4]; show _ = some (HO.lst ((D.ls ++ [0]).map V.int)); rw [List.map_append]; rfl
  ·rw [upd_ne ke,upd_ne (nm _ _ k4),k4,List.map_append]; rfl
  ·rw [upd_ne (fun z => by rw [z,d4] at k5; cases k5),upd_ne km]; exact k5
  ·rw [upd_ne me]; exact upd_same
def spMv (C: Addr): Sp:=fun vs H Q _ => ∃ (f: Addr) (D: FoD) (X: Addr -> Prop) (i j g1 g2: Nat) (d: Int),vs = [.ref f,nV i,nV j,.int d] /\ FoAt C H f D X /\ D.gs[i]? = some g1 /\ D.gs[j]? = some g2 /\ g1 ≠ g2 /\ D.gs.length <= 1024 /\
 ∀ H' ms,(∀ x,x ∈ ms ↔ D.gs[x]? = some g1) -> ms.Nodup -> FoAt C H' f (moveD D ms g2 d) X -> ButX X H H' -> Q .non H'
theorem sc_mv: FnScope ["self","mark","into","shift","group","moved","each"] ["self","mark","into","shift"] (defScope (sFo 10)):=⟨rfl,rfl,rfl,by decide +kernel,rfl,by decide +kernel,by decide +kernel⟩
theorem nd_len {ms: List Nat} {n: Nat} (nd: ms.Nodup) (h: ∀ x ∈ ms,x < n): ms.length <= n:=by
 have:=Mh.nodup_le (m:=List.range n) nd fun x hx => List.mem_range.mpr (h x hx)
 rwa [List.length_range] at this
theorem ok_mv (T: TxF K mg): FnOk P w K mg base (XC P w) 1 T.moveGr.f T.moveGr.fd ["self","mark","into","shift"] (spMv T.foC):=by
 refine T.moveGr.prove sc_mv (fun vs H Q E h => ?_) (fun cdv A outer s H vs Q E hr h => ?_)
 ·obtain ⟨f,D,X,i,j,g1,g2,d,rfl,_⟩:=h
  rfl
 ·obtain ⟨f,D,X,i,j,g1,g2,d,rfl,⟨a,I⟩,hi,hj,ne,hn,kk⟩:=h
  obtain ⟨dx,e⟩:=I.ins
  obtain ⟨fg,fl,fk,fe,gl,gk,ge,lk,le,ke⟩:=I.nes
  have hu:=hu_of hr
  refine ⟨_,pss_cons (ps_set (i:=4) sc_mv.nd rfl (Or.inl rfl) (pe_ix ix_list (pe_fld (pv 0) rfl) (pv 2) (fun _ _ => rfl)))
   (pss_cons (ps_set (i:=5) sc_mv.nd rfl (Or.inl rfl) (pe_dpop1 (pe_fld (pv 0) rfl) (pe_ix ix_list (pe_fld (pv 0) rfl) (pv 1) (fun _ _ => rfl)) ⟨rfl,rfl,rfl,rfl⟩))
   (pss_cons (ps_for PassesOwn.leaving rfl (pi_list (pv 5)) (pg_name (i:=6) sc_mv.nd rfl (Or.inl rfl))
    (pss_cons (ps_asg (pv 4) (pg_sub (pe_fld (pv 0) rfl) (pv 6) set_list)) (pss_one (ps_augS (pe_fld (pv 0) rfl) (pv 6) pget_list (pv 3) ip_add set_list))))
   (pss_one (ps_expr (pe_bm PySem.F.plainAttrs_list PySem.F.slot_list_extend PySem.F.type_list_extend mt_extend (pe_dget hu (pe_fld (pv 0) rfl) (pv 4) (fun _ _ => rfl)) (pa_cons (pv 5) pa_nil)))))),?_⟩
  obtain ⟨v1,hv1⟩:=I.has i g1 hi
  obtain ⟨v2,hv2⟩:=I.has j g2 hj
  obtain ⟨n1,a1,ms1,k1,rfl,m1,nd1,ne1,i1⟩:=I.mem _ _ hv1
  obtain ⟨n2,a2,ms2,k2,rfl,m2,nd2,ne2,i2⟩:=I.mem _ _ hv2
  have: n1 = g1:=by injection k1 with k1; omega
  subst this
  have: n2 = g2:=by injection k2 with k2; omega
  subst this
  have s1:=(I.s4 _ _ hv1).1
  have s2:=(I.s4 _ _ hv2).1
  simp only [List.mem_cons,List.not_mem_nil,not_or,or_false] at s1 s2
  have a12: a1 ≠ a2:=fun z => by
   have:=I.s5 _ _ a2 (z ▸ hv1) hv2
   injection this with this
   omega
  have e1a: a1 ≠ a.eA:=ne_of m1 I.e (by intro z; cases z)
  have e2a: a2 ≠ a.eA:=ne_of m2 I.e (by intro z; cases z)
  refine ⟨_,rfl,f,T.foC,dx,_,_,rfl,e,T.foCl,T.foG,rfl,_,rfl,a.gA,_,_,nV n2,rfl,rfl,SqL.of I.g,atI_nat (j:=j) (by rw [List.getElem?_map,hj]; rfl),?_⟩
  refine ⟨_,rfl,f,T.foC,dx,_,_,rfl,e,T.foCl,T.foE,rfl,a.eA,rfl,.inl ⟨_,.inl I.e⟩,_,rfl,f,T.foC,dx,_,_,rfl,e,T.foCl,T.foG,rfl,_,rfl,a.gA,_,_,nV n1,rfl,rfl,SqL.of I.g,atI_nat (j:=i) (by rw [List.getElem?_map,hi]; rfl),
   a.kvs,Sum.inl ((n1: Nat): Int),.ref a1,I.e,rfl,hv1,?_⟩
  have oP: ∀ b,b ≠ a.eA -> upd H a.eA (.dK (dropK a.kvs (Sum.inl ((n1: Nat): Int)))) b = H b:=fun b n => upd_ne n
  have dP: upd H a.eA (.dK (dropK a.kvs (Sum.inl ((n1: Nat): Int)))) a.eA = some (.dK (dropK a.kvs (Sum.inl ((n1: Nat): Int)))):=upd_same
  generalize hHP: upd H a.eA (.dK (dropK a.kvs (Sum.inl ((n1: Nat): Int)))) = HP at *
  have lens: ∀ ms: List Nat,ms.Nodup -> (∀ x ∈ ms,∃ g,D.gs[x]? = some g) -> ms.length <= D.gs.length:=fun ms nd h => nd_len nd fun x hx => let ⟨g,q⟩:=h x hx; (List.getElem?_eq_some_iff.mp q).1
  have ln1:=lens ms1 nd1 fun x hx => ⟨_,(i1 x).mp hx⟩
  have ln2:=lens ms2 nd2 fun x hx => ⟨_,(i2 x).mp hx⟩
  refine ⟨_,rfl,a1,rfl,⟨_,SqL.of (by rw [oP a1 e1a]; exact m1)⟩,for_list (xs:=ms1.map nV) (fun q σ Hx => (∃ v,σ = [some (.ref f),some (nV i),some (nV j),some (.int d),some (nV n2),some (.ref a1),v]) /\ Hx a.gA = some (.lst ((setAll D.gs (ms1.take q) n2).map nV)) /\ Hx a.lA = some (.lst ((addAll D.ls (ms1.take q) d).map V.int)) /\ ∀ b,b ≠ a.gA -> b ≠ a.lA -> Hx b = HP b)
   ⟨⟨_,rfl⟩,by rw [oP _ ge]; exact I.g,by rw [oP _ le]; exact I.l,fun b _ _ => rfl⟩ ?_ ?_ ?_⟩
  ·rintro q σ Hx _ ⟨_,_,_,ob⟩
   exact SqL.of (by rw [ob a1 s1.1 s1.2.1,oP a1 e1a]; exact m1)
  ·rintro q x σ Hx hx ⟨⟨v,rfl⟩,hg,hl,ob⟩
   rw [List.getElem?_map] at hx
   cases hq: ms1[q]? with
   | none => rw [hq] at hx; cases hx
   | some m =>
    rw [hq] at hx
    have hx: nV m = x:=Option.some.inj hx
    subst hx
    have mg:=(i1 m).mp (List.mem_of_getElem? hq)
    have ml: m < D.gs.length:=(List.getElem?_eq_some_iff.mp mg).1
    have ef: Hx f = some (.ins T.foC dx (fof a)):=by rw [ob f fg fl,oP f fe]; exact e
    refine ⟨_,rfl,_,rfl,f,T.foC,dx,_,_,rfl,ef,T.foCl,T.foG,rfl,_,rfl,a.gA,_,_,m,rfl,rfl,hg,ixN_nat (by rw [List.length_map,Mh.setAll_len]; exact ml),?_⟩
    have ef2: ∀ o,upd Hx a.gA o f = some (.ins T.foC dx (fof a)):=fun o => by rw [upd_ne fg]; exact ef
    have hl2: ∀ o,upd Hx a.gA o a.lA = some (.lst ((addAll D.ls (ms1.take q) d).map V.int)):=fun o => by rw [upd_ne (Ne.symm gl)]; exact hl
    obtain ⟨z,hz⟩: ∃ z,(addAll D.ls (ms1.take q) d)[m]? = some z:=⟨_,List.getElem?_eq_getElem (by rw [Mh.addAll_len,I.lenL]; exact ml)⟩
    refine ⟨_,rfl,f,T.foC,dx,_,_,rfl,ef2 _,T.foCl,T.foL,rfl,_,rfl,a.lA,_,_,.int z,rfl,rfl,SqL.of (hl2 _),atI_nat (j:=m) (by rw [List.getElem?_map,hz]; rfl),_,rfl,_,_,rfl,rfl,a.lA,_,_,m,rfl,rfl,hl2 _,ixN_nat (by rw [List.length_map,Mh.addAll_len,I.lenL]; exact ml),?_⟩
    refine ⟨⟨some (nV m),rfl⟩,?_,?_,fun b n1 n2 => by rw [upd_ne n2,upd_ne n1]; exact ob b n1 n2⟩
    ·rw [upd_ne gl,upd_same,Mh.setAll_take hq,List.map_set]
    ·rw [upd_same,Mh.addAll_take hq,List.map_set,List.getD_eq_getElem?_getD,hz]; rfl
  ·rintro σ Hx ⟨⟨v,rfl⟩,hg,hl,ob⟩
   rw [List.length_map,List.take_length] at hg hl
   have ef: Hx f = some (.ins T.foC dx (fof a)):=by rw [ob f fg fl,oP f fe]; exact e
   have de: Hx a.eA = some (.dK (dropK a.kvs (Sum.inl ((n1: Nat): Int)))):=by rw [ob _ (Ne.symm ge) (Ne.symm le)]; exact dP
   have x1: Hx a1 = some (.lst (ms1.map nV)):=by rw [ob a1 s1.1 s1.2.1,oP a1 e1a]; exact m1
   have x2: Hx a2 = some (.lst (ms2.map nV)):=by rw [ob a2 s2.1 s2.2.1,oP a2 e2a]; exact m2
   have dg: DGet Hx a.eA (nV n2) (some (.ref a2)):=by
    have:=DGet.k (k:=Sum.inl ((n2: Nat): Int)) de
    rw [valV_drop,if_neg (fun z => by injection z with z; omega),hv2] at this
    exact this
   refine ⟨_,rfl,f,T.foC,dx,_,_,rfl,ef,T.foCl,T.foE,rfl,_,rfl,a.eA,_,rfl,dg,.inl ⟨rfl,_,SqL.of x2⟩,_,rfl,a2,a1,_,_,rfl,rfl,x2,x1,(by rw [List.length_map,List.length_map]; exact Nat.le_trans (Nat.add_le_add ln2 ln1) (Nat.le_trans (Nat.add_le_add hn hn) (by decide))),?_⟩
   have kp: ∀ b o,H b = some o -> b ≠ a.gA -> b ≠ a.lA -> b ≠ a.eA -> b ≠ a2 -> upd Hx a2 (.lst (ms2.map nV ++ ms1.map nV)) b = some o:=fun b o z q1 q2 q3 q4 => by rw [upd_ne q4,ob b q1 q2,oP b q3]; exact z
   refine kk _ ms1 i1 nd1 ⟨_,I.move ne hv1 hv2 m1 m2 kp ?_ ?_ ?_ ?_⟩ fun b o z n => let ⟨q1,q2,_,q4,_,q6⟩:=I.off z n; kp b o z q1 q2 q4 (q6 _ _ hv2)
   ·rw [upd_ne (Ne.symm s2.1)]; exact hg
   ·rw [upd_ne (Ne.symm s2.2.1)]; exact hl
   ·rw [upd_ne (Ne.symm e2a)]; exact de
   ·rw [upd_same,List.map_append]
end
end Mp
end
section
namespace Mp
open PySem PySem.Spec PyProof.Rows L2 Xc
open Mh (setAll addAll)
theorem moved_g {gs: List Nat} {ms: List Nat} {g1 g2: Nat} (h: ∀ x,x ∈ ms ↔ gs[x]? = some g1) {k: Nat} (hk: k < gs.length): (setAll gs ms g2).getD k 0 = if gs.getD k 0 = g1 then g2 else gs.getD k 0:=by
 rw [List.getD_eq_getElem?_getD,List.getD_eq_getElem?_getD,Mh.setAll_at,if_pos hk]
 have e:=List.getElem?_eq_getElem hk
 by_cases q: k ∈ ms
 ·have:=(h k).mp q
  rw [if_pos q,this]; simp
 ·rw [if_neg q,e]
  have: gs[k] ≠ g1:=fun z => q ((h k).mpr (by rw [e,z]))
  simp [this]
theorem moved_l {gs: List Nat} {ls: List Int} {ms: List Nat} {g1: Nat} {d: Int} (h: ∀ x,x ∈ ms ↔ gs[x]? = some g1) (nd: ms.Nodup) (hl: ls.length = gs.length) {k: Nat} (hk: k < gs.length): (addAll ls ms d).getD k 0 = if gs.getD k 0 = g1 then ls.getD k 0 + d else ls.getD k 0:=by
 rw [List.getD_eq_getElem?_getD,List.getD_eq_getElem?_getD,List.getD_eq_getElem?_getD,Mh.addAll_at nd]
 have e:=List.getElem?_eq_getElem hk
 have e2:=List.getElem?_eq_getElem (show k < ls.length by omega)
 by_cases q: k ∈ ms
 ·have:=(h k).mp q
  rw [if_pos q,this,e2]; simp
 ·rw [if_neg q,e,e2]
  have: gs[k] ≠ g1:=fun z => q ((h k).mpr (by rw [e,z]))
  simp [this]
def gF (gs: List Nat) (k: Nat): Int:=((gs.getD k 0: Nat): Int)
def lF (ls: List Int) (k: Nat): Int:=ls.getD k 0
def Joins (D: FoD) (gs': List Nat) (ls': List Int) (a b: Nat) (h: Int): Prop:=gs'.length = D.gs.length /\
 ((∀ k,k < D.gs.length -> gF gs' k = (if gF D.gs k = gF D.gs b then gF D.gs a else gF D.gs k) /\ lF ls' k = (if gF D.gs k = gF D.gs b then lF D.ls k + (h - (lF D.ls b - lF D.ls a)) else lF D.ls k)) \/
  (∀ k,k < D.gs.length -> gF gs' k = (if gF D.gs k = gF D.gs a then gF D.gs b else gF D.gs k) /\ lF ls' k = (if gF D.gs k = gF D.gs a then lF D.ls k + -(h - (lF D.ls b - lF D.ls a)) else lF D.ls k)))
theorem gF_at {gs: List Nat} {k g: Nat} (h: gs[k]? = some g): gF gs k = (g: Int):=by
 unfold gF
 rw [List.getD_eq_getElem?_getD,h]; rfl
theorem lF_at {ls: List Int} {k: Nat} {z: Int} (h: ls[k]? = some z): lF ls k = z:=by
 unfold lF
 rw [List.getD_eq_getElem?_getD,h]; rfl
theorem moved_gF {gs: List Nat} {ms: List Nat} {g1 g2: Nat} (h: ∀ x,x ∈ ms ↔ gs[x]? = some g1) {k: Nat} (hk: k < gs.length): gF (setAll gs ms g2) k = if gF gs k = (g1: Int) then (g2: Int) else gF gs k:=by
 unfold gF
 rw [moved_g h hk]
 by_cases q: gs.getD k 0 = g1
 ·rw [if_pos q,if_pos (by omega)]
 ·rw [if_neg q,if_neg (by omega)]
theorem moved_lF {gs: List Nat} {ls: List Int} {ms: List Nat} {g1: Nat} {d: Int} (h: ∀ x,x ∈ ms ↔ gs[x]? = some g1) (nd: ms.Nodup) (hl: ls.length = gs.length) {k: Nat} (hk: k < gs.length): lF (addAll ls ms d) k = if gF gs k = (g1: Int) then lF ls k + d else lF ls k:=by
 unfold gF lF
 rw [moved_l h nd hl hk]
 by_cases q: gs.getD k 0 = g1
 ·rw [if_pos q,if_pos (by omega)]
 ·rw [if_neg q,if_neg (by omega)]
theorem adj_len (F: List Tide.Over) (i: Nat): (Mh.adj F i).length <= F.length:=List.length_filterMap_le _ _
theorem FoIn.link {C: Addr} {H H': Hp} {f: Addr} {D: FoD} {A: FoA} {X: Addr -> Prop} (h: FoIn C H f D A X) {o: Tide.Over} (ne: o.a ≠ o.b) {ka kb t1 t2: Addr} {tsa tsb: List Addr} (hi: A.kAs[o.a]? = some ka) (hj: A.kAs[o.b]? = some kb)
  (ha: H ka = some (.lst (tsa.map V.ref))) (hta: Tups H tsa (Mh.adj D.F o.a)) (hb: H kb = some (.lst (tsb.map V.ref))) (htb: Tups H tsb (Mh.adj D.F o.b))
  (kp: ∀ b u,H b = some u -> b ≠ ka -> b ≠ kb -> H' b = some u) (e1: H' ka = some (.lst ((tsa ++ [t1]).map V.ref))) (e2: H' kb = some (.lst ((tsb ++ [t2]).map V.ref))) (h1: H' t1 = some (.tup [nV o.line,nV o.b])) (h2: H' t2 = some (.tup [nV o.line,nV o.a])) :
  FoIn C H' f ⟨D.gs,D.ls,D.F ++ [o],D.c⟩ A X:=by
 have ma:=List.mem_of_getElem? hi
 have mb:=List.mem_of_getElem? hj
 have sa:=h.s3 ka ma
 have sb:=h.s3 kb mb
 simp only [List.mem_cons,List.not_mem_nil,not_or,or_false] at sa sb
 have st: Stay H H':=fun b u e c => kp b u e (fun z => by rw [z,ha] at e; cases e; exact c) (fun z => by rw [z,hb] at e; cases e; exact c)
 refine ⟨?_,kp _ _ h.g (Ne.symm sa.1) (Ne.symm sb.1),kp _ _ h.l (Ne.symm sa.2.1) (Ne.symm sb.2.1),kp _ _ h.k (Ne.symm sa.2.2) (Ne.symm sb.2.2),kp _ _ h.e (ne_of h.e ha (by intro z; cases z)) (ne_of h.e hb (by intro z; cases z)),h.lenL,h.lenK,?_,?_,h.has,h.idlt,h.cnt,h.nd,h.s1,h.s2,h.s3,h.s4,h.s5,h.own,h.ownK,h.ownM⟩
 ·obtain ⟨dx,e⟩:=h.ins
  exact ⟨dx,kp _ _ e (ne_of e ha (by intro z; cases z)) (ne_of e hb (by intro z; cases z))⟩
 ·intro i a e
  show ∃ ts,H' a = some (.lst (ts.map V.ref)) /\ Tups H' ts (Mh.adj (D.F ++ [o]) i)
  rw [Mh.adj_snoc]
  by_cases q1: o.a = i
  ·subst q1
   rw [hi] at e
   have: ka = a:=Option.some.inj e
   subst this
   rw [if_pos rfl]
   exact ⟨_,e1,(hta.stay st).snoc h1⟩
  ·rw [if_neg q1]
   by_cases q2: o.b = i
   ·subst q2
    rw [hj] at e
    have: kb = a:=Option.some.inj e
    subst this
    rw [if_pos rfl]
    exact ⟨_,e2,(htb.stay st).snoc h2⟩
   ·rw [if_neg q2,List.append_nil]
    obtain ⟨ts,g1,g2⟩:=h.links i a e
    exact ⟨ts,kp _ _ g1 (fun z => q1 (nd_ix h.s2 hi (z ▸ e))) (fun z => q2 (nd_ix h.s2 hj (z ▸ e))),g2.stay st⟩
 ·intro k v e
  obtain ⟨n,a,ms,h1,h2,h3,h4⟩:=h.mem k v e
  subst h2
  have s4:=(h.s4 k a e).2
  exact ⟨n,a,ms,h1,rfl,kp _ _ h3 (fun z => s4 (z ▸ ma)) (fun z => s4 (z ▸ mb)),h4⟩
section
variable {P: Program} {w: World} {K: PySem.W.Frag} {mg: Str -> Option Value} {base: Heap}
def spAl (C: Addr): Sp:=fun vs H Q _ => ∃ (f: Addr) (D: FoD) (X: Addr -> Prop) (o: Tide.Over) (g1 g2: Nat),vs = [.ref f,nV o.line,nV o.a,nV o.b,.int o.h] /\ FoAt C H f D X /\ D.gs[o.a]? = some g1 /\ D.gs[o.b]? = some g2 /\ g1 ≠ g2 /\ D.gs.length <= 1024 /\ D.F.length <= 1024 /\
 ∀ H' gs' ls',Joins D gs' ls' o.a o.b o.h -> FoAt C H' f ⟨gs',ls',D.F ++ [o],D.c + 1⟩ X -> ButX X H H' -> Q .non H'
theorem sc_al: FnScope ["self","number","first","second","height","off"] ["self","number","first","second","height"] (defScope (sFo 9)):=⟨rfl,rfl,rfl,by decide +kernel,rfl,by decide +kernel,by decide +kernel⟩
theorem ok_al (T: TxF K mg): FnOk P w K mg base (XC P w) 3 T.addLine.f T.addLine.fd ["self","number","first","second","height"] (spAl T.foC):=by
 have GR: FnOk P w K mg base (XC P w) 1 T.rise.f T.rise.fd ["self","lower","upper"] (spRise T.foC):=ok_rise T
 have GC: FnOk P w K mg base (XC P w) 2 T.countT.f T.countT.fd ["self","mark"] (spCt T.foC):=ok_ct T
 have GM: FnOk P w K mg base (XC P w) 1 T.moveGr.f T.moveGr.fd ["self","mark","into","shift"] (spMv T.foC):=ok_mv T
 refine T.addLine.prove sc_al (fun vs H Q E h => ?_) (fun cdv A outer s H vs Q E hr h => ?_)
 ·obtain ⟨f,D,X,o,g1,g2,rfl,_⟩:=h
  rfl
 ·obtain ⟨f,D,X,o,g1,g2,rfl,⟨a,I⟩,hi,hj,ne,hn,hF,kk⟩:=h
  obtain ⟨dx,e⟩:=I.ins
  have hu:=hu_of hr
  have la: o.a < D.gs.length:=(List.getElem?_eq_some_iff.mp hi).1
  have lb: o.b < D.gs.length:=(List.getElem?_eq_some_iff.mp hj).1
  have nab: o.a ≠ o.b:=fun z => ne (by rw [z,hj] at hi; exact (Option.some.inj hi).symm)
  have tail: ∃ u,PSs (cxOf (XC P w) P w K mg base ["self","number","first","second","height","off"] "Forest.add_line" (defScope (sFo 9)) T.addLine.f cdv A outer s H E) ((defBody (sFo 9)).drop 2) u /\
    ∀ (H1: Hp) (gs': List Nat) (ls': List Int) (v5: Option V),Joins D gs' ls' o.a o.b o.h -> FoAt T.foC H1 f ⟨gs',ls',D.F,D.c + 1⟩ X -> ButX X H H1 -> u { nx:=fun _ H' => Q .non H',rt:=Q } [some (.ref f),some (nV o.line),some (nV o.a),some (nV o.b),some (.int o.h),v5] H1:=by
   refine ⟨_,pss_cons (ps_expr (pe_bm PySem.F.plainAttrs_list PySem.F.slot_list_append PySem.F.type_list_append mt_append (pe_ix ix_list (pe_fld (pv 0) rfl) (pv 2) (fun _ _ => rfl)) (pa_cons (pe_tup (pa_cons (pv 1) (pa_cons (pv 3) pa_nil))) pa_nil)))
    (pss_one (ps_expr (pe_bm PySem.F.plainAttrs_list PySem.F.slot_list_append PySem.F.type_list_append mt_append (pe_ix ix_list (pe_fld (pv 0) rfl) (pv 3) (fun _ _ => rfl)) (pa_cons (pe_tup (pa_cons (pv 1) (pa_cons (pv 2) pa_nil))) pa_nil)))),?_⟩
   intro H1 gs' ls' v5 J ⟨a',I'⟩ b1
   obtain ⟨dx',e'⟩:=I'.ins
   have lK:=I'.lenK
   have lg: gs'.length = D.gs.length:=J.1
   have lK: a'.kAs.length = D.gs.length:=by rw [<- lg]; exact lK
   obtain ⟨ka,hka⟩: ∃ ka,a'.kAs[o.a]? = some ka:=⟨_,List.getElem?_eq_getElem (by omega)⟩
   obtain ⟨kb,hkb⟩: ∃ kb,a'.kAs[o.b]? = some kb:=⟨_,List.getElem?_eq_getElem (by omega)⟩
   obtain ⟨tsa,xa,ta⟩:=I'.links _ _ hka
   obtain ⟨tsb,xb,tb⟩:=I'.links _ _ hkb
   have kab: ka ≠ kb:=fun z => nab (nd_ix I'.s2 hka (z ▸ hkb))
   have sa:=I'.s3 ka (List.mem_of_getElem? hka)
   have sb:=I'.s3 kb (List.mem_of_getElem? hkb)
   simp only [List.mem_cons,List.not_mem_nil,not_or,or_false] at sa sb
   have bl: ∀ i,(Mh.adj D.F i).length <= 1024:=fun i => Nat.le_trans (adj_len _ _) hF
   refine ⟨_,rfl,f,T.foC,dx',_,_,rfl,e',T.foCl,T.foK,rfl,_,rfl,a'.kA,_,_,.ref ka,rfl,rfl,SqL.of I'.k,atI_nat (j:=o.a) (by rw [List.getElem?_map,hka]; rfl),.inl ⟨rfl,_,SqL.of xa⟩,_,rfl,_,rfl,(by show 2 <= sizeLine; decide),fun t1 ht1 => ?_⟩
   have xa1:=upd_new (o:=HO.tup [nV o.line,nV o.b]) ht1 ka _ xa
   refine ⟨ka,_,_,rfl,rfl,xa1,(by rw [List.length_map,ta.1]; exact small1024 (bl _)),?_⟩
   have n1: ∀ b u,H1 b = some u -> b ≠ t1:=fun b u z => ne_of_none z ht1
   have o2: ∀ b,b ≠ t1 -> b ≠ ka -> upd (upd H1 t1 (.tup [nV o.line,nV o.b])) ka (.lst (tsa.map V.ref ++ [V.ref t1])) b = H1 b:=fun b q1 q2 => by rw [upd_ne q2,upd_ne q1]
   have h2t: upd (upd H1 t1 (.tup [nV o.line,nV o.b])) ka (.lst (tsa.map V.ref ++ [V.ref t1])) t1 = some (.tup [nV o.line,nV o.b]):=by rw [upd_ne (Ne.symm (n1 _ _ xa))]; exact upd_same
   have h2k: upd (upd H1 t1 (.tup [nV o.line,nV o.b])) ka (.lst (tsa.map V.ref ++ [V.ref t1])) ka = some (.lst (tsa.map V.ref ++ [V.ref t1])):=upd_same
   generalize hH2: upd (upd H1 t1 (.tup [nV o.line,nV o.b])) ka (.lst (tsa.map V.ref ++ [V.ref t1])) = H2 at *
   have e2: H2 f = some (.ins T.foC dx' (fof a')):=by rw [o2 f (n1 _ _ e') (ne_of e' xa (by intro z; cases z))]; exact e'
   have k2: H2 a'.kA = some (.lst (a'.kAs.map V.ref)):=by rw [o2 _ (n1 _ _ I'.k) (Ne.symm sa.2.2)]; exact I'.k
   have xb2: H2 kb = some (.lst (tsb.map V.ref)):=by rw [o2 _ (n1 _ _ xb) (Ne.symm kab)]; exact xb
   refine ⟨_,rfl,f,T.foC,dx',_,_,rfl,e2,T.foCl,T.foK,rfl,_,rfl,a'.kA,_,_,.ref kb,rfl,rfl,SqL.of k2,atI_nat (j:=o.b) (by rw [List.getElem?_map,hkb]; rfl),.inl ⟨rfl,_,SqL.of xb2⟩,_,rfl,_,rfl,(by show 2 <= sizeLine; decide),fun t2 ht2 => ?_⟩
   have xb3:=upd_new (o:=HO.tup [nV o.line,nV o.a]) ht2 kb _ xb2
   refine ⟨kb,_,_,rfl,rfl,xb3,(by rw [List.length_map,tb.1]; exact small1024 (bl _)),?_⟩
   have n2: ∀ b u,H2 b = some u -> b ≠ t2:=fun b u z => ne_of_none z ht2
   have t20: H1 t2 = none:=by
    rw [<- o2 t2 (Ne.symm (n2 _ _ h2t)) (Ne.symm (n2 _ _ h2k))]; exact ht2
   have kp: ∀ b u,H1 b = some u -> b ≠ ka -> b ≠ kb -> upd (upd H2 t2 (.tup [nV o.line,nV o.a])) kb (.lst (tsb.map V.ref ++ [V.ref t2])) b = some u:=fun b u z q1 q2 => by
    rw [upd_ne q2,upd_ne (ne_of_none z t20),o2 b (n1 _ _ z) q1]; exact z
   refine kk _ gs' ls' J ⟨a',I'.link nab hka hkb xa ta xb tb kp (t1:=t1) (t2:=t2) ?_ ?_ ?_ ?_⟩ ?_
   ·rw [upd_ne kab,upd_ne (n2 _ _ h2k),h2k,List.map_append]; rfl
   ·rw [upd_same,List.map_append]; rfl
   ·rw [upd_ne (ne_of h2t xb2 (by intro z; cases z)),upd_ne (n2 _ _ h2t)]; exact h2t
   ·rw [upd_ne (Ne.symm (n2 _ _ xb2))]; exact upd_same
   ·intro b u z n
    have z1:=b1 b u z n
    obtain ⟨_,_,_,_,q5,_⟩:=I'.off z1 n
    exact kp b u z1 (q5 _ _ hka) (q5 _ _ hkb)
  obtain ⟨u,hu1,hw⟩:=tail
  have hr1: Room 1 _:=hr.mono (by decide)
  refine ⟨_,pss_cons (ps_set (i:=5) sc_al.nd rfl (Or.inl rfl) (pe_op op_sub (pv 4) (pe_meth (pv 0) T.foCl T.rise.m GR hr1 T.rise.b .nil passX (pa_cons (pv 2) (pa_cons (pv 3) pa_nil)))))
   (pss_cons (ps_if (pt_cmpR op_lt (pe_meth (pv 0) T.foCl T.countT.m GC hr T.countT.b .nil passX (pa_cons (pv 2) pa_nil)) (pe_meth (pv 0) T.foCl T.countT.m GC hr T.countT.b .nil passX (pa_cons (pv 3) pa_nil)) (nomark _))
    (pss_one (ps_expr (pe_meth (pv 0) T.foCl T.moveGr.m GM hr1 T.moveGr.b .nil passX (pa_cons (pv 2) (pa_cons (pv 3) (pa_cons (pe_un un_neg (pv 5)) pa_nil))))))
    (pss_one (ps_expr (pe_meth (pv 0) T.foCl T.moveGr.m GM hr1 T.moveGr.b .nil passX (pa_cons (pv 3) (pa_cons (pv 2) (pa_cons (pv 5) pa_nil))))))) hu1),?_⟩
  obtain ⟨li,hli⟩: ∃ li,D.ls[o.a]? = some li:=⟨_,List.getElem?_eq_getElem (by rw [I.lenL]; exact la)⟩
  obtain ⟨lj,hlj⟩: ∃ lj,D.ls[o.b]? = some lj:=⟨_,List.getElem?_eq_getElem (by rw [I.lenL]; exact lb)⟩
  refine ⟨_,rfl,_,rfl,f,dx,_,rfl,e,rfl,_,rfl,_,rfl,f,D,X,o.a,o.b,li,lj,rfl,⟨a,I⟩,hli,hlj,_,_,rfl,rfl,?_⟩
  refine ⟨_,rfl,f,dx,_,rfl,e,rfl,_,rfl,f,D,X,o.a,g1,rfl,⟨a,I⟩,hi,fun ms1 _ _ => ⟨_,rfl,f,dx,_,rfl,e,rfl,_,rfl,f,D,X,o.b,g2,rfl,⟨a,I⟩,hj,fun ms2 _ _ => ⟨_,_,rfl,rfl,_,rfl,?_⟩⟩⟩
  refine iteB (fun _ => ?_) (fun _ => ?_)
  ·refine ⟨_,rfl,f,dx,_,rfl,e,rfl,_,rfl,_,rfl,_,rfl,_,rfl,f,D,X,o.a,o.b,g1,g2,_,rfl,⟨a,I⟩,hi,hj,ne,hn,fun H1 ms hms nd F1 b1 => ?_⟩
   refine hw H1 _ _ _ ⟨Mh.setAll_len,.inr fun k hk => ⟨?_,?_⟩⟩ F1 b1
   ·rw [moved_gF hms hk,gF_at hi,gF_at hj]
   ·rw [moved_lF hms nd I.lenL hk,gF_at hi,lF_at hli,lF_at hlj]
  ·refine ⟨_,rfl,f,dx,_,rfl,e,rfl,_,rfl,_,rfl,_,rfl,f,D,X,o.b,o.a,g2,g1,_,rfl,⟨a,I⟩,hj,hi,Ne.symm ne,hn,fun H1 ms hms nd F1 b1 => ?_⟩
   refine hw H1 _ _ _ ⟨Mh.setAll_len,.inl fun k hk => ⟨?_,?_⟩⟩ F1 b1
   ·rw [moved_gF hms hk,gF_at hi,gF_at hj]
   ·rw [moved_lF hms nd I.lenL hk,gF_at hj,lF_at hli,lF_at hlj]
end
end Mp
end
section
namespace Mp
open PySem PySem.Spec PyProof.Rows L2 Xc
structure OnwAt (H: Hp) (d: Addr) (onw: Nat -> Option (Nat × Nat)) (kvs: List (Key × V)): Prop where
 dic: H d = some (.dK kvs)
 no: ∀ m: Nat,onw m = none -> valV kvs (Sum.inl ((m: Nat): Int)) = none
 yes: ∀ (m: Nat) p,onw m = some p -> ∃ t,valV kvs (Sum.inl ((m: Nat): Int)) = some (.ref t) /\ H t = some (.tup [nV p.1,nV p.2])
section
variable {P: Program} {w: World} {K: PySem.W.Frag} {mg: Str -> Option Value} {base: Heap}
def spOn (C: Addr): Sp:=fun vs H Q _ => ∃ (f: Addr) (D: FoD) (X: Addr -> Prop) (goal: Nat),vs = [.ref f,nV goal] /\ FoAt C H f D X /\ goal < D.gs.length /\ D.gs.length <= 1024 /\ (∀ e ∈ D.F,e.a < D.gs.length /\ e.b < D.gs.length) /\ (∀ e ∈ D.F,e.a ≠ e.b) /\
 ∀ d H' onw rs kvs,OnwAt H' d onw kvs -> Mh.Bfs D.F D.gs.length goal rs onw -> Mh.Given D.F rs rs.length -> But [] H H' -> Q (.ref d) H'
theorem sc_on: FnScope ["self","goal","onward","reached","at","mark","link"] ["self","goal"] (defScope (sFo 12)):=⟨rfl,rfl,rfl,by decide +kernel,rfl,by decide +kernel,by decide +kernel⟩
theorem ok_on (T: TxF K mg): FnOk P w K mg base (XC P w) 1 T.onward.f T.onward.fd ["self","goal"] (spOn T.foC):=by
 refine T.onward.prove sc_on (fun vs H Q E h => ?_) (fun cdv A outer s H vs Q E hr h => ?_)
 ·obtain ⟨f,D,X,goal,rfl,_⟩:=h
  rfl
 ·obtain ⟨f,D,X,goal,rfl,⟨a,I⟩,hg,hn,ends,ap,kk⟩:=h
  obtain ⟨dx,e⟩:=I.ins
  have hu:=hu_of hr
  refine ⟨_,pss_cons (ps_set (i:=2) sc_on.nd rfl (Or.inl rfl) pe_dnewK)
   (pss_cons (ps_set (i:=3) sc_on.nd rfl (Or.inl rfl) (pe_lst (pa_cons (pv 1) pa_nil)))
   (pss_cons (ps_set (i:=4) sc_on.nd rfl (Or.inl rfl) pe_int)
   (pss_cons (ps_while PassesOwn.leaving (pt_cmpR op_lt (pv 4) (pe_callB call_len_seq (by rfl) T.lenN bo_len (pa_cons (pv 3) pa_nil)) (nomark _))
    (pss_cons (ps_set (i:=5) sc_on.nd rfl (Or.inl rfl) (pe_ix ix_list (pv 3) (pv 4) (fun _ _ => rfl)))
    (pss_cons (ps_aug (i:=4) sc_on.nd rfl (Or.inl rfl) pe_int ip_add)
    (pss_one (ps_for PassesOwn.leaving rfl (pi_list (pe_ix ix_list (pe_fld (pv 0) rfl) (pv 5) (fun _ _ => rfl))) (pg_name (i:=6) sc_on.nd rfl (Or.inl rfl))
     (pss_one (ps_if (PW.pt (pw_and (pt_cmpR op_ne (pe_ix ix_tup (pv 6) pe_int (fun _ _ => rfl)) (pv 1) (nomark _)) (pw_and1 (pt_cmp (pc_dnotin hu (pe_ix ix_tup (pv 6) pe_int (fun _ _ => rfl)) (pv 2))))))
      (pss_cons (ps_dput hu (pv 2) (pe_ix ix_tup (pv 6) pe_int (fun _ _ => rfl)) (pe_tup (pa_cons (pe_ix ix_tup (pv 6) pe_int (fun _ _ => rfl)) (pa_cons (pv 5) pa_nil))) rfl)
       (pss_one (ps_expr (pe_bm PySem.F.plainAttrs_list PySem.F.slot_list_append PySem.F.type_list_append mt_append (pv 3) (pa_cons (pe_ix ix_tup (pv 6) pe_int (fun _ _ => rfl)) pa_nil)))))
      pss_nil)))))))
   (pss_one (ps_ret (pv 2)))))),?_⟩
  intro d hd
  refine ⟨_,rfl,(by show 1 <= sizeLine; decide),fun r hr0 => ?_⟩
  have dr: d ≠ r:=fun z => by rw [<- z,upd_same] at hr0; cases hr0
  have hr1: H r = none:=by rw [upd_ne (Ne.symm dr)] at hr0; exact hr0
  have b0: But [] H (upd (upd H d (.dK [])) r (.lst [nV goal])):=fun x o z _ => by rw [upd_ne (ne_of_none z hr1),upd_ne (ne_of_none z hd)]; exact z
  have frame: ∀ H2,But [] H H2 -> FoIn T.foC H2 f D a X:=fun H2 b => I.frame fun x o z _ => b x o z (by simp)
  refine ⟨fun m σ H2 => ∃ (at_: Nat) (rs: List Nat) (onw: Nat -> Option (Nat × Nat)) (kvs: List (Key × V)) (v5 v6: Option V),σ = [some (.ref f),some (nV goal),some (.ref d),some (.ref r),some (nV at_),v5,v6] /\ m = D.gs.length - at_ /\ at_ <= rs.length /\ Mh.Bfs D.F D.gs.length goal rs onw /\ Mh.Given D.F rs at_ /\ OnwAt H2 d onw kvs /\ kvs.length + 1 = rs.length /\ H2 r = some (.lst (rs.map nV)) /\ But [] H H2,
   ⟨_,0,[goal],fun _ => none,[],_,_,rfl,rfl,Nat.zero_le _,Mh.Bfs.start hg,(fun i m l x hi => by omega),⟨by rw [upd_ne dr]; exact upd_same,fun _ _ => rfl,fun m p z => by cases z⟩,rfl,upd_same,b0⟩,?_⟩
  rintro m σ H2 ⟨at_,rs,onw,kvs,v5,v6,rfl,rfl,hat,bf,gv,oa,hkv,hrs,b2⟩
  have rl:=bf.len
  refine ⟨_,rfl,_,rfl,r,_,rfl,.inl (SqL.of hrs),_,_,rfl,rfl,_,rfl,?_⟩
  rw [List.length_map]
  refine iteB (fun q => ?_) (fun q => ?_)
  ·have q: (at_: Int) < (rs.length: Int):=of_decide_eq_true q
   obtain ⟨mk,hmk⟩: ∃ mk,rs[at_]? = some mk:=⟨_,List.getElem?_eq_getElem (by omega)⟩
   have mkn: mk < D.gs.length:=bf.lt mk (List.mem_of_getElem? hmk)
   refine ⟨fun σ' H' => ∃ m',m' < D.gs.length - at_ /\ ∃ (at_: Nat) (rs: List Nat) (onw: Nat -> Option (Nat × Nat)) (kvs: List (Key × V)) (v5 v6: Option V),σ' = [some (.ref f),some (nV goal),some (.ref d),some (.ref r),some (nV at_),v5,v6] /\ m' = D.gs.length - at_ /\ at_ <= rs.length /\ Mh.Bfs D.F D.gs.length goal rs onw /\ Mh.Given D.F rs at_ /\ OnwAt H' d onw kvs /\ kvs.length + 1 = rs.length /\ H' r = some (.lst (rs.map nV)) /\ But [] H H',fun _ _ z => z,?_⟩
   refine ⟨_,rfl,_,rfl,r,_,_,nV mk,rfl,rfl,SqL.of hrs,atI_nat (j:=at_) (by rw [List.getElem?_map,hmk]; rfl),_,rfl,_,_,rfl,rfl,?_⟩
   have I2:=frame H2 b2
   obtain ⟨dx2,e2⟩:=I2.ins
   obtain ⟨ka,hka⟩: ∃ ka,a.kAs[mk]? = some ka:=⟨_,List.getElem?_eq_getElem (by rw [I.lenK]; exact mkn)⟩
   obtain ⟨ts,xa,ta⟩:=I.links mk ka hka
   have xa2:=b2 _ _ xa (by simp)
   refine ⟨_,rfl,f,T.foC,dx2,_,_,rfl,e2,T.foCl,T.foK,rfl,_,rfl,a.kA,_,_,.ref ka,rfl,rfl,SqL.of I2.k,atI_nat (j:=mk) (by rw [List.getElem?_map,hka]; rfl),ka,rfl,⟨_,SqL.of xa2⟩,
    for_list (xs:=ts.map V.ref) (fun i σ Hx => ∃ (rs: List Nat) (onw: Nat -> Option (Nat × Nat)) (kvs: List (Key × V)) (v6: Option V),σ = [some (.ref f),some (nV goal),some (.ref d),some (.ref r),some (.int ((at_: Int) + 1)),some (nV mk),v6] /\ at_ < rs.length /\ rs[at_]? = some mk /\ Mh.Bfs D.F D.gs.length goal rs onw /\ Mh.Given D.F rs at_ /\ (∀ p ∈ (Mh.adj D.F mk).take i,p.2 ∈ rs) /\ OnwAt Hx d onw kvs /\ kvs.length + 1 = rs.length /\ Hx r = some (.lst (rs.map nV)) /\ But [] H Hx)
     ⟨rs,onw,kvs,_,rfl,by omega,hmk,bf,gv,by simp,oa,hkv,hrs,b2⟩ ?_ ?_ ?_⟩
   ·rintro i σ Hx _ ⟨_,_,_,_,_,_,_,_,_,_,_,_,_,bx⟩
    exact SqL.of (bx _ _ xa (by simp))
   ·rintro i x σ Hx hx ⟨rs,onw,kvs,v6,rfl,hat,hmk,bf,gv,pre,oa,hkv,hrs,bx⟩
    have rl:=bf.len
    rw [List.getElem?_map] at hx
    cases hq: ts[i]? with
    | none => rw [hq] at hx; cases hx
    | some t =>
     rw [hq] at hx
     have hx: V.ref t = x:=Option.some.inj hx
     subst hx
     obtain ⟨p,hp⟩: ∃ p,(Mh.adj D.F mk)[i]? = some p:=⟨_,List.getElem?_eq_getElem (by rw [<- ta.1]; exact (List.getElem?_eq_some_iff.mp hq).1)⟩
     obtain ⟨l,y⟩:=p
     have ht:=bx _ _ (ta.2 i t _ hq hp) (by simp)
     have hl:=List.mem_of_getElem? hp
     have tk: (Mh.adj D.F mk).take (i + 1) = (Mh.adj D.F mk).take i ++ [(l,y)]:=by rw [List.take_add_one,hp]; rfl
     have skip: y ∈ rs -> ∃ (rs: List Nat) (onw: Nat -> Option (Nat × Nat)) (kvs: List (Key × V)) (v6: Option V),[some (.ref f),some (nV goal),some (.ref d),some (.ref r),some (.int ((at_: Int) + 1)),some (nV mk),some (.ref t)] = [some (.ref f),some (nV goal),some (.ref d),some (.ref r),some (.int ((at_: Int) + 1)),some (nV mk),v6] /\ at_ < rs.length /\ rs[at_]? = some mk /\ Mh.Bfs D.F D.gs.length goal rs onw /\ Mh.Given D.F rs at_ /\ (∀ p ∈ (Mh.adj D.F mk).take (i + 1),p.2 ∈ rs) /\ OnwAt Hx d onw kvs /\ kvs.length + 1 = rs.length /\ Hx r = some (.lst (rs.map nV)) /\ But [] H Hx:=fun hy =>
      ⟨rs,onw,kvs,_,rfl,hat,hmk,bf,gv,fun p hp => by
       rw [tk] at hp
       rcases List.mem_append.mp hp with z | z
       ·exact pre p z
       ·have: p = (l,y):=by simpa using z
        rw [this]; exact hy,oa,hkv,hrs,bx⟩
     refine ⟨_,rfl,t,_,_,nV y,rfl,rfl,SqT.of ht,atI_nat (j:=1) rfl,_,rfl,rfl,_,rfl,?_⟩
     rw [dec_n]
     refine iteB (fun q1 => ?_) (fun q1 => ?_)
     ·have q1: y ≠ goal:=by simpa using q1
      refine ⟨_,rfl,t,_,_,nV y,rfl,rfl,SqT.of ht,atI_nat (j:=1) rfl,_,rfl,d,_,rfl,DGet.k (k:=Sum.inl ((y: Nat): Int)) oa.dic,_,rfl,?_⟩
      cases ho: onw y with
      | some p =>
       obtain ⟨t',h1,_⟩:=oa.yes y p ho
       rw [h1]
       refine iteB (fun z => by cases z) (fun _ => skip ?_)
       exact ((bf.dom y).mp (by rw [ho]; rfl)).1
      | none =>
       rw [oa.no y ho]
       refine iteB (fun _ => ?_) (fun z => by cases z)
       refine ⟨_,rfl,t,_,_,nV l,rfl,rfl,SqT.of ht,atI_nat (j:=0) rfl,_,rfl,(by show 2 <= sizeLine; decide),fun t' ht' => ?_⟩
       have nt: ∀ b u,Hx b = some u -> b ≠ t':=fun b u z => ne_of_none z ht'
       refine ⟨_,rfl,_,rfl,t,_,_,nV y,rfl,rfl,SqT.of (upd_new ht' _ _ ht),atI_nat (j:=1) rfl,d,_,rfl,DPut.k (k:=Sum.inl ((y: Nat): Int)) (upd_new ht' _ _ oa.dic) (small1024 (by omega)),?_⟩
       have pn:=putK_new (V.ref t') (oa.no y ho)
       have td: t ≠ d:=ne_of ht oa.dic (by intro z; cases z)
       have rd: r ≠ d:=ne_of hrs oa.dic (by intro z; cases z)
       have h3t: upd (upd Hx t' (.tup [nV l,nV mk])) d (.dK (putK kvs (Sum.inl ((y: Nat): Int)) (.ref t'))) t = some (.tup [nV l,nV y]):=by rw [upd_ne td]; exact upd_new ht' _ _ ht
       have h3r: upd (upd Hx t' (.tup [nV l,nV mk])) d (.dK (putK kvs (Sum.inl ((y: Nat): Int)) (.ref t'))) r = some (.lst (rs.map nV)):=by rw [upd_ne rd]; exact upd_new ht' _ _ hrs
       refine ⟨_,rfl,.inl ⟨rfl,_,SqL.of h3r⟩,_,rfl,t,_,_,nV y,rfl,rfl,SqT.of h3t,atI_nat (j:=1) rfl,r,_,_,rfl,rfl,h3r,(by rw [List.length_map]; exact small1024 (by omega)),?_⟩
       have nb: ∀ b u,Hx b = some u -> b ≠ d -> b ≠ r -> upd (upd (upd Hx t' (.tup [nV l,nV mk])) d (.dK (putK kvs (Sum.inl ((y: Nat): Int)) (.ref t')))) r (.lst (rs.map nV ++ [nV y])) b = some u:=fun b u z n1 n2 => by rw [upd_ne n2,upd_ne n1,upd_ne (nt _ _ z)]; exact z
       have htr: t' ≠ r:=Ne.symm (nt _ _ hrs)
       have htd: t' ≠ d:=Ne.symm (nt _ _ oa.dic)
       refine ⟨rs ++ [y],fun z => if z = y then some (l,mk) else onw z,putK kvs (Sum.inl ((y: Nat): Int)) (.ref t'),_,rfl,by rw [List.length_append]; omega,by rw [List.getElem?_append_left hat]; exact hmk,bf.add (List.mem_of_getElem? hmk) hl q1 ho (Mh.adj_lt ends hl),gv.more (by omega),fun p hp => ?_,⟨?_,fun z hz => ?_,fun z p hz => ?_⟩,?_,?_,?_⟩
       ·rw [tk] at hp
        rcases List.mem_append.mp hp with z | z
        ·exact List.mem_append_left _ (pre p z)
        ·have: p = (l,y):=by simpa using z
         rw [this]; simp
       ·rw [upd_ne (Ne.symm rd)]; exact upd_same
       ·rw [valV_put]
        by_cases zy: z = y
        ·simp only [if_pos zy] at hz; cases hz
        ·simp only [if_neg zy] at hz
         rw [if_neg (fun q => zy (by injection q with q; omega))]
         exact oa.no z hz
       ·rw [valV_put]
        by_cases zy: z = y
        ·simp only [if_pos zy] at hz
         cases hz
         rw [if_pos (by rw [zy])]
         exact ⟨t',rfl,by rw [upd_ne htr,upd_ne htd]; exact upd_same⟩
        ·simp only [if_neg zy] at hz
         rw [if_neg (fun q => zy (by injection q with q; omega))]
         obtain ⟨t2,h1,h2⟩:=oa.yes z p hz
         exact ⟨t2,h1,nb _ _ h2 (ne_of h2 oa.dic (by intro z; cases z)) (ne_of h2 hrs (by intro z; cases z))⟩
       ·rw [pn,List.length_append,List.length_append]
        show kvs.length + 1 + 1 = rs.length + 1
        omega
       ·rw [upd_same,List.map_append]; rfl
       ·intro b u z _
        exact nb b u (bx b u z (by simp)) (ne_of_none z hd) (ne_of_none z hr1)
     ·have q1: y = goal:=by simpa using q1
      refine iteB (fun z => by cases z) (fun _ => skip ?_)
      rw [q1]
      exact List.mem_of_getElem? bf.g0
   ·rintro σ Hx ⟨rs,onw,kvs,v6,rfl,hat,hmk,bf,gv,pre,oa,hkv,hrs,bx⟩
    rw [List.length_map,ta.1,List.take_length] at pre
    refine ⟨D.gs.length - (at_ + 1),?_,at_ + 1,rs,onw,kvs,_,_,rfl,rfl,hat,bf,?_,oa,hkv,hrs,bx⟩
    ·have:=bf.len
     omega
    ·intro i m l x hi hm hl
     by_cases z: i = at_
     ·subst z
      rw [hmk] at hm
      have: mk = m:=Option.some.inj hm
      subst this
      exact pre _ hl
     ·exact gv i m l x (by omega) hm hl
  ·have q: ¬ (at_: Int) < (rs.length: Int):=of_decide_eq_false q
   have ea: at_ = rs.length:=by omega
   subst ea
   exact ⟨_,rfl,kk d H2 onw rs kvs oa bf gv b2⟩
def spWay (C: Addr): Sp:=fun vs H Q _ => ∃ (f: Addr) (D: FoD) (X: Addr -> Prop) (start goal: Nat),vs = [.ref f,nV start,nV goal] /\ FoAt C H f D X /\ goal < D.gs.length /\ D.gs.length <= 1024 /\ (∀ e ∈ D.F,e.a < D.gs.length /\ e.b < D.gs.length) /\ Mh.Acyc D.F /\ Mh.Conn D.F start goal /\
 ∀ l H' p,H' l = some (.lst (p.map nV)) -> H l = none -> Mh.Trail D.F start goal p -> Mh.NB p -> But [] H H' -> Q (.ref l) H'
theorem sc_way: FnScope ["self","start","goal","onward","numbers","mark"] ["self","start","goal"] (defScope (sFo 11)):=⟨rfl,rfl,rfl,by decide +kernel,rfl,by decide +kernel,by decide +kernel⟩
theorem ok_way (T: TxF K mg): FnOk P w K mg base (XC P w) 2 T.wayM.f T.wayM.fd ["self","start","goal"] (spWay T.foC):=by
 have GO: FnOk P w K mg base (XC P w) 1 T.onward.f T.onward.fd ["self","goal"] (spOn T.foC):=ok_on T
 refine T.wayM.prove sc_way (fun vs H Q E h => ?_) (fun cdv A outer s H vs Q E hr h => ?_)
 ·obtain ⟨f,D,X,start,goal,rfl,_⟩:=h
  rfl
 ·obtain ⟨f,D,X,start,goal,rfl,Fo,hg,hn,ends,ac,conn,kk⟩:=h
  obtain ⟨a,I⟩:=id Fo
  obtain ⟨dx,e⟩:=I.ins
  have hu:=hu_of hr
  refine ⟨_,pss_cons (ps_set (i:=3) sc_way.nd rfl (Or.inl rfl) (pe_meth (pv 0) T.foCl T.onward.m GO hr T.onward.b .nil passX (pa_cons (pv 2) pa_nil)))
   (pss_cons (ps_set (i:=4) sc_way.nd rfl (Or.inl rfl) (pe_lst pa_nil))
   (pss_cons (ps_set (i:=5) sc_way.nd rfl (Or.inl rfl) (pv 1))
   (pss_cons (ps_while PassesOwn.leaving (pt_cmpR op_ne (pv 5) (pv 2) (nomark _))
    (pss_cons (ps_expr (pe_bm PySem.F.plainAttrs_list PySem.F.slot_list_append PySem.F.type_list_append mt_append (pv 4) (pa_cons (pe_ix ix_tup (pe_dget hu (pv 3) (pv 5) (fun _ _ => rfl)) pe_int (fun _ _ => rfl)) pa_nil)))
    (pss_one (ps_set (i:=5) sc_way.nd rfl (Or.inl rfl) (pe_ix ix_tup (pe_dget hu (pv 3) (pv 5) (fun _ _ => rfl)) pe_int (fun _ _ => rfl))))))
   (pss_one (ps_ret (pv 4)))))),?_⟩
  refine ⟨_,rfl,f,dx,_,rfl,e,rfl,_,rfl,f,D,X,goal,rfl,Fo,hg,hn,ends,ac.apart,fun d H1 onw rs kvs oa bf gv b1 => ?_⟩
  refine ⟨Nat.zero_le _,fun l hl => ?_⟩
  have ld: l ≠ d:=fun z => by rw [z,oa.dic] at hl; cases hl
  have hl0: H l = none:=b1.none hl (by simp)
  have O:=bf.onw
  have rl:=bf.len
  refine ⟨_,rfl,?_⟩
  have rk: ∀ m,(∃ p,onw m = some p) \/ m = goal -> rs.idxOf m < rs.length:=fun m h => by
   rcases h with ⟨p,h⟩ | rfl
   ·exact List.idxOf_lt_length_of_mem ((bf.dom m).mp (by rw [h]; rfl)).1
   ·exact List.idxOf_lt_length_of_mem (List.mem_of_getElem? bf.g0)
  have all: start = goal \/ ∃ p,onw start = some p:=by
   rcases bf.all ac.apart gv conn.symm with h | h
   ·exact .inl h
   ·exact .inr (Option.isSome_iff_exists.mp h)
  refine ⟨fun m σ H2 => ∃ (mk: Nat) (p: List Nat),σ = [some (.ref f),some (nV start),some (nV goal),some (.ref d),some (.ref l),some (nV mk)] /\ m = rs.idxOf mk /\ (mk = goal \/ ∃ q,onw mk = some q) /\ p.length + rs.idxOf mk <= rs.length /\ (∀ q,Mh.Walk onw goal mk q -> Mh.Walk onw goal start (p ++ q)) /\ H2 l = some (.lst (p.map nV)) /\ ∀ b,b ≠ l -> H2 b = H1 b,
   ⟨_,start,[],rfl,rfl,all,?_,fun q h => h,upd_same,fun b n => upd_ne n⟩,?_⟩
  ·have:=rk start (all.symm)
   show 0 + _ <= _
   omega
  rintro m σ H2 ⟨mk,p,rfl,rfl,hmk,hlen,hw,hp,ob⟩
  refine ⟨_,rfl,_,rfl,rfl,_,rfl,?_⟩
  rw [dec_n]
  refine iteB (fun q => ?_) (fun q => ?_)
  ·have q: mk ≠ goal:=by simpa using q
   obtain ⟨⟨ln,nx⟩,ho⟩: ∃ q,onw mk = some q:=hmk.resolve_left q
   obtain ⟨t,h1,h2⟩:=oa.yes mk _ ho
   have h2': H2 t = some (.tup [nV ln,nV nx]):=by rw [ob t (fun z => by rw [z,hl] at h2; cases h2)]; exact h2
   have hd2: H2 d = some (.dK kvs):=by rw [ob d (Ne.symm ld)]; exact oa.dic
   have dg: ∀ Hx: Hp,Hx d = some (.dK kvs) -> DGet Hx d (nV mk) (some (.ref t)):=fun Hx hx => by
    have:=DGet.k (k:=Sum.inl ((mk: Nat): Int)) hx
    rw [h1] at this
    exact this
   have less:=O.less mk ln nx ho
   have idm:=rk mk (.inl ⟨_,ho⟩)
   refine ⟨fun σ' H' => ∃ m',m' < rs.idxOf mk /\ ∃ (mk: Nat) (p: List Nat),σ' = [some (.ref f),some (nV start),some (nV goal),some (.ref d),some (.ref l),some (nV mk)] /\ m' = rs.idxOf mk /\ (mk = goal \/ ∃ q,onw mk = some q) /\ p.length + rs.idxOf mk <= rs.length /\ (∀ q,Mh.Walk onw goal mk q -> Mh.Walk onw goal start (p ++ q)) /\ H' l = some (.lst (p.map nV)) /\ ∀ b,b ≠ l -> H' b = H1 b,fun _ _ z => z,
    _,rfl,.inl ⟨rfl,_,SqL.of hp⟩,_,rfl,_,rfl,d,_,rfl,dg H2 hd2,t,_,_,nV ln,rfl,rfl,SqT.of h2',atI_nat (j:=0) rfl,l,_,_,rfl,rfl,hp,(by rw [List.length_map]; exact small1024 (by omega)),?_⟩
   have h3: upd H2 l (.lst (p.map nV ++ [nV ln])) t = some (.tup [nV ln,nV nx]):=by rw [upd_ne (ne_of h2' hp (by intro z; cases z))]; exact h2'
   have hd3: upd H2 l (.lst (p.map nV ++ [nV ln])) d = some (.dK kvs):=by rw [upd_ne (Ne.symm ld)]; exact hd2
   refine ⟨_,rfl,_,rfl,d,_,rfl,dg _ hd3,t,_,_,nV nx,rfl,rfl,SqT.of h3,atI_nat (j:=1) rfl,?_⟩
   have less: rs.idxOf nx < rs.idxOf mk:=less
   refine ⟨rs.idxOf nx,less,nx,p ++ [ln],rfl,rfl,?_,?_,fun q' hq' => ?_,by rw [upd_same,List.map_append]; rfl,fun b n => by rw [upd_ne n]; exact ob b n⟩
   ·rcases O.next mk ln nx ho with h | h
    ·exact .inl h
    ·exact .inr (Option.isSome_iff_exists.mp h)
   ·rw [List.length_append]
    show p.length + 1 + _ <= _
    omega
   ·rw [List.append_assoc]
    exact hw _ (.cons q ho hq')
  ·have q: mk = goal:=by simpa using q
   subst q
   have wk:=hw [] .nil
   rw [List.append_nil] at wk
   obtain ⟨tr,nb⟩:=wk.trail ac O
   refine ⟨_,rfl,kk l H2 p hp hl0 tr nb fun b o z _ => ?_⟩
   rw [ob b (ne_of_none z hl0)]
   exact b1 b o z (by simp)
end
end Mp
end
section
namespace Mp
open PySem PySem.Spec PyProof.Rows L2 Xc
section
open PySem.AutoSeq1
theorem extend_tup (l: Addr) (its: Array Value) (n: Nat) (b: Addr) (js: Array Value) (m: Nat) (dd: Option Addr) (sl: Array (Option Value)) (h0: ¬(!its.isEmpty && Builtin.List.listTooLong (its.size + js.size)) = true) (h1: its.size <= sizeLine) (h2: its.size + js.size <= sizeLine + 1) :
  Meets (Builtin.«list.extend» ⟨[.ref l,.ref b],[]⟩) (fun _ R s => s.heap.get? l = some ⟨.type "list",none,.seq its n,#[]⟩ /\ s.heap.get? b = some ⟨.type "tuple",dd,.seq js m,sl⟩ /\
   R (.ok (.ret Value.none)) { s with heap:=s.heap.update l (Obj.mapSeq fun x => x ++ js),toks:=s.toks }) :=
 .of_wp fun prog w A R s h => by
  obtain ⟨hp,g,d,tk,os⟩:=s
  obtain ⟨hl,hb,h⟩:=h
  have f1:=idx_int
  have f2:=AutoSeq1.sub_tuple_tuple
  have f3:=AutoSeq1.sub_list_list
  have f4:=AutoSeq1.sub_tuple_list
  have f5:=AutoSeq1.sub_list_tuple
  have hz: (its ++ js).size <= sizeLine + 1:=by rw [Array.size_append]; exact h2
  wp_walk using (wpAny_updateSeq hl rfl (hz:=h1) (_hz':=hz)),wpAny_loadPart' hl,wpAny_loadPart' hb
  exact ⟨_,rfl,h⟩
end
def rExtS: V -> List V -> Hp -> VK -> Prop:=fun x vs H Q => ∃ l b xs zs,x = .ref l /\ vs = [.ref b] /\ H l = some (.lst xs) /\ (H b = some (.lst zs) \/ H b = some (.tup zs)) /\ xs.length + zs.length <= sizeLine /\ Q .non (upd H l (.lst (xs ++ zs)))
theorem mt_extS {X: Cx}: MtR X "list.extend" rExtS:=by
 intro pins s σ H x vs v us Q I rx rv h
 obtain ⟨l,b,xs,zs,rfl,rfl,hH,hB | hB,hz,q⟩:=h
 ·exact mt_extend pins s σ H _ _ v us Q I rx rv ⟨l,b,xs,zs,rfl,rfl,hH,hB,hz,q⟩
 ·cases rx
  obtain ⟨u,rfl,ru⟩:=rv.one
  cases ru
  obtain ⟨z,its,n,r,hl,e⟩:=I.lstM hH
  obtain ⟨js,r2,⟨⟨cls,dd,data,sl⟩,e2,hc,m,hd⟩,z2⟩:=I.tuple (SqT.of hB)
  simp only at hc hd
  subst hc hd
  have hl2:=r2.length
  have hsz: its.toArray.size + js.toArray.size <= sizeLine:=by rw [List.size_toArray,List.size_toArray]; omega
  have hlong: ¬ (!its.toArray.isEmpty && Builtin.List.listTooLong (its.toArray.size + js.toArray.size)) = true:=by
   rw [notLongL hsz,Bool.and_false]
   exact Bool.false_ne_true
  refine call_meets F.slot_list_extend ⟨_,e,rfl⟩ F.entry_list_extend (F.args_list_extend_2 _ _) (extend_tup l its.toArray n b js.toArray m dd sl hlong (by rw [List.size_toArray]; omega) (by omega)) ⟨e,e2,?_⟩
  refine ⟨.non,_,I.lset (its':=its ++ js) hH e (by simp) (r.append r2) ?_,rfl,q⟩
  rw [List.length_append]
  omega
end Mp
end
section
namespace Mp
open PySem PySem.Spec PyProof.Rows L2 Xc
abbrev sBk (j: Nat): Stmt:=inClass (top 57) j
theorem bo_isinstance: bootBuiltins "isinstance" = some (.builtin "isinstance"):=by decide +kernel
structure TxB (K: PySem.W.Frag) (mg: Str -> Option Value) extends TxF K mg where
 bkC: Addr
 bkI: Fd K "__init__" "Book.__init__" (sBk 0) ["self"]
 bkMk: Mk K bkC bkI.f
 mgBk: mg "Book" = some (.ref bkC)
 bkCl: Cls K bkC
 bkN: NoAttr K bkC "names"
 bkM: NoAttr K bkC "mark_numbers"
 bkO: NoAttr K bkC "over_lines"
 bkF: NoAttr K bkC "forest"
 bkP: NoAttr K bkC "printed"
 addMl: Md K bkC "add_mark_line" "Book.add_mark_line" (sBk 1) ["self","line"]
 addOl: Md K bkC "add_over_line" "Book.add_over_line" (sBk 2) ["self","line"]
 toldM: Md K bkC "told_mark" "Book.told_mark" (sBk 3) ["self","name"]
 ringT: Md K bkC "ring_told" "Book.ring_told" (sBk 4) ["self","first","second","height"]
 noteP: Md K bkC "note_printed" "Book.note_printed" (sBk 5) ["self","opening","words"]
 kTaken: ∃ t,mg "KIND_NAME_TAKEN" = some (.int 2 t)
 kUntold: ∃ t,mg "KIND_NAME_UNTOLD" = some (.int 3 t)
 kMany: ∃ t,mg "KIND_TOO_MANY_MARKS" = some (.int 4 t)
 kSame: ∃ t,mg "KIND_SAME_NAMES" = some (.int 5 t)
 kDis: ∃ t,mg "KIND_DISAGREES" = some (.int 6 t)
 mostM: ∃ t,mg "MOST_MARKS" = some (.int 1024 t)
 readB: Fd K "read_book" "read_book" (top 58) ["text"]
 mgRead: mg "read_book" = some (.ref readB.f)
 kpRead: PySem.W.keepIn K (.ref readB.f) = true
def noted (ops: List Nat): List (List Int) -> List Int
 | [] => []
 | w0 :: ws => ops.map (fun (c: Nat) => (c: Int)) ++ (w0 ++ ((ws.map fun w => 32 :: w).flatten ++ [10]))
structure WordsAt (H: Hp) (pA: Addr) (was: List Addr) (wcs: List (List Int)): Prop where
 len: was.length = wcs.length
 at_: ∀ (i: Nat) (a: Addr) (cs: List Int),was[i]? = some a -> wcs[i]? = some cs -> a ≠ pA /\ (H a = some (.lst (cs.map V.int)) \/ H a = some (.tup (cs.map V.int)))
theorem take_flat {ws: List (List Int)} {i: Nat} {w0: List Int} (h: ws[i]? = some w0): ((ws.take (i + 1)).map fun w => 32 :: w).flatten = ((ws.take i).map fun w => 32 :: w).flatten ++ (32 :: w0):=by
 rw [List.take_add_one,h,List.map_append,List.flatten_append]
 simp
theorem flat_take_le {ws: List (List Int)} (i: Nat): ((ws.take i).map fun w => 32 :: w).flatten.length <= (ws.map fun w => 32 :: w).flatten.length:=by
 have h: ((ws.take i ++ ws.drop i).map fun w => 32 :: w).flatten.length = ((ws.take i).map fun w => 32 :: w).flatten.length + ((ws.drop i).map fun w => 32 :: w).flatten.length:=by
  rw [List.map_append,List.flatten_append,List.length_append]
 rw [List.take_append_drop] at h
 omega
section
variable {P: Program} {w: World} {K: PySem.W.Frag} {mg: Str -> Option Value} {base: Heap}
def spNote (C: Addr): Sp:=fun vs H Q _ => ∃ (b dx pA wl: Addr) (fs: List (Str × V)) (xs: List Int) (op: Str) (ops: List Nat) (was: List Addr) (w0: List Int) (ws: List (List Int)),vs = [.ref b,.str op,.ref wl] /\ H b = some (.ins C dx fs) /\ fs.lookup ("printed": Str) = some (V.ref pA) /\
 H pA = some (.lst (xs.map V.int)) /\ op.cps.toList = ops /\ ops.length <= 1000 /\ H wl = some (.lst (was.map V.ref)) /\ wl ≠ pA /\ WordsAt H pA was (w0 :: ws) /\ (xs ++ noted ops (w0 :: ws)).length <= sizeLine /\
 ∀ H',H' pA = some (.lst ((xs ++ noted ops (w0 :: ws)).map V.int)) -> But [pA] H H' -> Q .non H'
theorem sc_note: FnScope ["self","opening","words","word","sign"] ["self","opening","words"] (defScope (sBk 5)):=⟨rfl,rfl,rfl,by decide +kernel,rfl,by decide +kernel,by decide +kernel⟩
theorem ok_note (T: TxB K mg): FnOk P w K mg base (XC P w) 1 T.noteP.f T.noteP.fd ["self","opening","words"] (spNote T.bkC):=by
 refine T.noteP.prove sc_note (fun vs H Q E h => ?_) (fun cdv A outer s H vs Q E hr h => ?_)
 ·obtain ⟨b,dx,pA,wl,fs,xs,op,ops,was,w0,ws,rfl,_⟩:=h
  rfl
 ·obtain ⟨b,dx,pA,wl,fs,xs,op,ops,was,w0,ws,rfl,hb,lp,hp,hop,hol,hwl,nwl,W,hsz,kk⟩:=h
  have sz: xs.length + (ops.length + (w0.length + ((ws.map fun w => 32 :: w).flatten.length + 1))) <= sizeLine:=by
   unfold noted at hsz
   simp only [List.length_append,List.length_map,List.length_cons,List.length_nil] at hsz
   omega
  have bp: b ≠ pA:=ne_of hb hp (by intro z; cases z)
  refine ⟨_,pss_cons (ps_expr (pe_bm PySem.F.plainAttrs_list PySem.F.slot_list_extend PySem.F.type_list_extend mt_extS (pe_fld (pv 0) rfl) (pa_cons (pe_lc rfl sc_note.nd (pi_str (pv 1)) (own:=[("sign",4)]) (blk_ok (N:=["self","opening","words","word","sign"]) (sc:=defScope (sBk 5)) rfl rfl ⟨rfl,by decide +kernel,by decide +kernel,by decide +kernel,by decide +kernel⟩) (fun _ _ _ _ _ => pg_name (i:=4) sc_note.nd rfl (Or.inl rfl)) (fun _ _ _ _ _ => pts_nil)
    (fun _ _ _ _ _ => pe_callB call_ord (by rfl) T.ordN bo_ord (pa_cons (pv 4) pa_nil))) pa_nil)))
   (pss_cons (ps_expr (pe_bm PySem.F.plainAttrs_list PySem.F.slot_list_extend PySem.F.type_list_extend mt_extS (pe_fld (pv 0) rfl) (pa_cons (pe_ix ix_list (pv 2) pe_int (fun _ _ => rfl)) pa_nil)))
   (pss_cons (ps_for PassesOwn.leaving rfl (pi_list (pe_slice sl_list (pv 2) (po_some pe_int) po_none)) (pg_name (i:=3) sc_note.nd rfl (Or.inl rfl))
    (pss_cons (ps_expr (pe_bm PySem.F.plainAttrs_list PySem.F.slot_list_append PySem.F.type_list_append mt_append (pe_fld (pv 0) rfl) (pa_cons (pe_callB call_ord (by rfl) T.ordN bo_ord (pa_cons pe_str pa_nil)) pa_nil)))
    (pss_one (ps_expr (pe_bm PySem.F.plainAttrs_list PySem.F.slot_list_extend PySem.F.type_list_extend mt_extS (pe_fld (pv 0) rfl) (pa_cons (pv 3) pa_nil))))))
   (pss_one (ps_expr (pe_bm PySem.F.plainAttrs_list PySem.F.slot_list_append PySem.F.type_list_append mt_append (pe_fld (pv 0) rfl) (pa_cons (pe_callB call_ord (by rfl) T.ordN bo_ord (pa_cons pe_str pa_nil)) pa_nil)))))),?_⟩
  refine ⟨_,rfl,b,T.bkC,dx,_,_,rfl,hb,T.bkCl,T.bkP,lp,.inl ⟨rfl,_,SqL.of hp⟩,?_⟩
  refine ords hop hol (by show 4 < 5; decide) (fun R r => ⟨_,rfl,r⟩) fun D hD => ?_
  have hp1:=upd_new (o:=HO.lst (ops.map fun (c: Nat) => V.int (c: Int))) hD pA _ hp
  refine ⟨pA,D,_,_,rfl,rfl,hp1,.inl upd_same,(by rw [List.length_map,List.length_map]; omega),?_⟩
  have b1: But [pA] H (upd (upd H D (.lst (ops.map fun (c: Nat) => V.int (c: Int)))) pA (.lst (xs.map V.int ++ ops.map fun (c: Nat) => V.int (c: Int)))):=fun a o e n => by
   rw [upd_ne (by simpa using n),upd_ne (ne_of_none e hD)]; exact e
  have p1: upd (upd H D (.lst (ops.map fun (c: Nat) => V.int (c: Int)))) pA (.lst (xs.map V.int ++ ops.map fun (c: Nat) => V.int (c: Int))) pA = some (.lst ((xs ++ ops.map (fun (c: Nat) => (c: Int))).map V.int)):=by
   rw [upd_same,List.map_append,List.map_map]; rfl
  generalize hH1: upd (upd H D (.lst (ops.map fun (c: Nat) => V.int (c: Int)))) pA (.lst (xs.map V.int ++ ops.map fun (c: Nat) => V.int (c: Int))) = H1 at *
  have hb1:=b1 _ _ hb (by simpa using bp)
  have hwl1:=b1 _ _ hwl (by simpa using nwl)
  obtain ⟨a0,ha0⟩: ∃ a0,was[0]? = some a0:=⟨_,List.getElem?_eq_getElem (by rw [W.len]; simp)⟩
  obtain ⟨na0,hw0⟩:=W.at_ 0 a0 w0 ha0 rfl
  have keep: ∀ Hx,But [pA] H Hx -> ∀ (i: Nat) (a: Addr) (cs: List Int),was[i]? = some a -> (w0 :: ws)[i]? = some cs -> Hx a = some (.lst (cs.map V.int)) \/ Hx a = some (.tup (cs.map V.int)):=fun Hx bx i a cs e1 e2 => by
   obtain ⟨na,h⟩:=W.at_ i a cs e1 e2
   rcases h with h | h
   ·exact .inl (bx _ _ h (by simpa using na))
   ·exact .inr (bx _ _ h (by simpa using na))
  refine ⟨_,rfl,b,T.bkC,dx,_,_,rfl,hb1,T.bkCl,T.bkP,lp,.inl ⟨rfl,_,SqL.of p1⟩,_,rfl,wl,_,_,.ref a0,rfl,rfl,SqL.of hwl1,atI_nat (j:=0) (by rw [List.getElem?_map,ha0]; rfl),pA,a0,_,_,rfl,rfl,p1,keep H1 b1 0 a0 w0 ha0 rfl,(by simp only [List.length_append,List.length_map]; omega),?_⟩
  have b2: But [pA] H (upd H1 pA (.lst ((xs ++ ops.map (fun (c: Nat) => (c: Int))).map V.int ++ w0.map V.int))):=fun a o e n => by
   rw [upd_ne (by simpa using n)]; exact b1 a o e n
  have p2: upd H1 pA (.lst ((xs ++ ops.map (fun (c: Nat) => (c: Int))).map V.int ++ w0.map V.int)) pA = some (.lst ((xs ++ ops.map (fun (c: Nat) => (c: Int)) ++ w0).map V.int)):=by
   rw [upd_same,List.map_append (l₁:=xs ++ _)]
  generalize hH2: upd H1 pA (.lst ((xs ++ ops.map (fun (c: Nat) => (c: Int))).map V.int ++ w0.map V.int)) = H2 at *
  have hwl2:=b2 _ _ hwl (by simpa using nwl)
  refine ⟨_,rfl,_,rfl,wl,_,rfl,SqL.of hwl2,fun sl hsl => ?_⟩
  have e3: cutV (was.map V.ref) (some 1) none = (was.drop 1).map V.ref:=by
   rw [show (1: Int) = ((1: Nat): Int) by rfl,cut_from,List.map_drop]
  rw [e3]
  have nsl: sl ≠ pA:=fun z => by rw [z,p2] at hsl; cases hsl
  have b3: But [pA] H (upd H2 sl (.lst ((was.drop 1).map V.ref))):=fun a o e n => upd_new hsl _ _ (b2 a o e n)
  refine ⟨sl,rfl,⟨_,SqL.of upd_same⟩,for_list (xs:=(was.drop 1).map V.ref) (fun i σ Hx => (∃ v3 v4,σ = [some (.ref b),some (.str op),some (.ref wl),v3,v4]) /\ Hx sl = some (.lst ((was.drop 1).map V.ref)) /\ Hx pA = some (.lst ((xs ++ ops.map (fun (c: Nat) => (c: Int)) ++ w0 ++ ((ws.take i).map fun w => 32 :: w).flatten).map V.int)) /\ But [pA] H Hx)
   ⟨⟨_,_,rfl⟩,upd_same,by rw [upd_ne (Ne.symm nsl),p2]; simp,b3⟩ ?_ ?_ ?_⟩
  ·rintro i σ Hx _ ⟨_,h,_⟩
   exact SqL.of h
  ·rintro i x σ Hx hx ⟨⟨v3,v4,rfl⟩,hs,px,bx⟩
   rw [List.getElem?_map,List.getElem?_drop] at hx
   cases hq: was[1 + i]? with
   | none => rw [hq] at hx; cases hx
   | some a =>
    rw [hq] at hx
    have hx: V.ref a = x:=Option.some.inj hx
    subst hx
    obtain ⟨cs,hcs⟩: ∃ cs,(w0 :: ws)[1 + i]? = some cs:=⟨_,List.getElem?_eq_getElem (by rw [<- W.len]; exact (List.getElem?_eq_some_iff.mp hq).1)⟩
    have hcs': ws[i]? = some cs:=by rw [Nat.add_comm] at hcs; exact hcs
    have hbx:=bx _ _ hb (by simpa using bp)
    have fl:=flat_take_le (ws:=ws) (i + 1)
    rw [take_flat hcs',List.length_append,List.length_cons] at fl
    refine ⟨_,rfl,b,T.bkC,dx,_,_,rfl,hbx,T.bkCl,T.bkP,lp,.inl ⟨rfl,_,SqL.of px⟩,_,rfl,rfl,pA,_,_,rfl,rfl,px,(by simp only [List.length_append,List.length_map]; omega),?_⟩
    have px2: ∀ v: V,upd Hx pA (.lst ((xs ++ ops.map (fun (c: Nat) => (c: Int)) ++ w0 ++ ((ws.take i).map fun w => 32 :: w).flatten).map V.int ++ [v])) pA = some (.lst ((xs ++ ops.map (fun (c: Nat) => (c: Int)) ++ w0 ++ ((ws.take i).map fun w => 32 :: w).flatten).map V.int ++ [v])):=fun v => upd_same
    have bx2: ∀ o,But [pA] H (upd Hx pA o):=fun o a' o' e n => by rw [upd_ne (by simpa using n)]; exact bx a' o' e n
    refine ⟨_,rfl,b,T.bkC,dx,_,_,rfl,bx2 _ _ _ hb (by simpa using bp),T.bkCl,T.bkP,lp,.inl ⟨rfl,_,SqL.of (px2 _)⟩,_,rfl,pA,a,_,_,rfl,rfl,px2 _,keep _ (bx2 _) (1 + i) a cs hq hcs,(by simp only [List.length_append,List.length_map,List.length_cons,List.length_nil]; omega),?_⟩
    refine ⟨⟨_,_,rfl⟩,by rw [upd_ne nsl,upd_ne nsl]; exact hs,?_,fun a' o' e n => by rw [upd_ne (by simpa using n)]; exact bx2 _ a' o' e n⟩
    rw [upd_same,take_flat hcs']
    simp only [List.map_append,List.append_assoc,List.map_cons]
    rfl
  ·rintro σ Hx ⟨⟨v3,v4,rfl⟩,hs,px,bx⟩
   have hbx:=bx _ _ hb (by simpa using bp)
   have el: ((was.drop 1).map V.ref).length = ws.length:=by
    rw [List.length_map,List.length_drop,W.len]; simp
   rw [el,List.take_length] at px
   refine ⟨_,rfl,b,T.bkC,dx,_,_,rfl,hbx,T.bkCl,T.bkP,lp,.inl ⟨rfl,_,SqL.of px⟩,_,rfl,rfl,pA,_,_,rfl,rfl,px,(by simp only [List.length_append,List.length_map]; omega),?_⟩
   refine kk _ ?_ fun a o e n => by rw [upd_ne (by simpa using n)]; exact bx a o e n
   rw [upd_same]
   unfold noted
   simp only [List.map_append,List.append_assoc,List.map_cons,List.map_nil]
   rfl
end
end Mp
end
section
namespace Mp
open PySem PySem.Spec PyProof.Rows L2 Xc
open Mh (codes)
open Tide (marks takeAll numberIn printedLevels placeOf)
def nkey (n: Tide.Bytes): List Key:=(codes n).map Sum.inl
theorem nkey_V (n: Tide.Bytes): (nkey n).map kV = (codes n).map V.int:=by
 unfold nkey
 rw [List.map_map]; rfl
theorem nkey_inj {a b: Tide.Bytes} (h: nkey a = nkey b): a = b:=by
 refine Mh.codes_inj ?_
 have:=congrArg (List.map kV) h
 rw [nkey_V,nkey_V] at this
 generalize codes a = x at this
 generalize codes b = y at this
 induction x generalizing y with
 | nil => cases y with | nil => rfl | cons _ _ => cases this
 | cons p x ih =>
  cases y with
  | nil => cases this
  | cons q y =>
   rw [List.map_cons,List.map_cons] at this
   injection this with h1 h2
   injection h1 with h1
   rw [h1,ih y h2]
structure BkA where
 nA: Addr
 mA: Addr
 fA: Addr
 pA: Addr
 nts: List Addr
 kvs: List (List Key × V)
 D: FoD
def bkf (A: BkA) (o: Nat): List (Str × V):=[("names",.ref A.nA),("mark_numbers",.ref A.mA),("over_lines",.int (o: Int)),("forest",.ref A.fA),("printed",.ref A.pA)]
def bkX (Hs: Hp) (Z: Addr -> Prop) (b: Addr) (A: BkA) (a: Addr): Prop:=Hs a = none /\ a ≠ b /\ a ≠ A.nA /\ a ≠ A.mA /\ a ≠ A.pA /\ ¬ Z a
structure BkIn (C Cf: Addr) (Hs: Hp) (Z: Addr -> Prop) (H: Hp) (b: Addr) (u: List Tide.Level) (A: BkA): Prop where
 base: But [] Hs H
 ins: ∃ dx,H b = some (.ins C dx (bkf A (takeAll u).overs))
 n: H A.nA = some (.lst (A.nts.map V.ref))
 ntl: A.nts.length = (marks u).length
 nt: ∀ (i: Nat) (t: Addr) (nm: Tide.Bytes),A.nts[i]? = some t -> (marks u)[i]? = some nm -> H t = some (.tup ((codes nm).map V.int))
 m: H A.mA = some (.dT A.kvs)
 mv: ∀ nm: Tide.Bytes,valV A.kvs (nkey nm) = (numberIn (marks u) nm).map nV
 ml: A.kvs.length = (marks u).length
 p: H A.pA = some (.lst ((codes (printedLevels u)).map V.int))
 fo: FoAt Cf H A.fA A.D (bkX Hs Z b A)
 foF: A.D.F = (takeAll u).forest
 foC: A.D.c = A.D.F.length
 foN: A.D.gs.length = (marks u).length
 foL: A.D.ls.length = A.D.gs.length
 lev: Mh.Lev (marks u).length (gF A.D.gs) (lF A.D.ls) (takeAll u).places
 right: Mh.Right u
 np: A.nA ≠ A.pA
 own: Hs b = none /\ Hs A.nA = none /\ Hs A.mA = none /\ Hs A.pA = none
 zs: ∀ a,Z a -> H a ≠ none
 zo: ¬ Z b /\ ¬ Z A.nA /\ ¬ Z A.mA /\ ¬ Z A.pA
def BkAt (C Cf: Addr) (Hs: Hp) (Z: Addr -> Prop) (H: Hp) (b: Addr) (u: List Tide.Level): Prop:=∃ A,BkIn C Cf Hs Z H b u A
theorem BkIn.frame {C Cf: Addr} {Hs H H': Hp} {Z: Addr -> Prop} {b: Addr} {u: List Tide.Level} {A: BkA} (I: BkIn C Cf Hs Z H b u A) (bs: But [] Hs H') (k: ∀ a o,H a = some o -> Hs a = none \/ calm o \/ Z a -> H' a = some o): BkIn C Cf Hs Z H' b u A:=by
 obtain ⟨o1,o2,o3,o4⟩:=I.own
 refine ⟨bs,let ⟨dx,e⟩:=I.ins; ⟨dx,k _ _ e (.inl o1)⟩,k _ _ I.n (.inl o2),I.ntl,fun i t nm h1 h2 => k _ _ (I.nt i t nm h1 h2) (.inr (.inl trivial)),k _ _ I.m (.inl o3),I.mv,I.ml,k _ _ I.p (.inl o4),?_,I.foF,I.foC,I.foN,I.foL,I.lev,I.right,I.np,I.own,?_,I.zo⟩
 ·obtain ⟨a,F⟩:=I.fo
  exact ⟨a,F.frame fun x o e h => k x o e (h.imp (fun z => z.1) .inl)⟩
 ·intro a ha z
  cases q: H a with
  | none => exact I.zs a ha q
  | some o => rw [k a o q (.inr (.inr ha))] at z; cases z
abbrev TxB.r {K: PySem.W.Frag} {mg: Str -> Option Value} (T: TxB K mg): TxR K mg:=T.toTxF.toTxC.toTxH.toTxL.toTxG.toTxR
abbrev TxB.l {K: PySem.W.Frag} {mg: Str -> Option Value} (T: TxB K mg): TxL K mg:=T.toTxF.toTxC.toTxH.toTxL
theorem BkIn.forest {C Cf: Addr} {Hs H: Hp} {Z: Addr -> Prop} {b: Addr} {u: List Tide.Level} {A: BkA} (I: BkIn C Cf Hs Z H b u A): ∃ dx fs,H A.fA = some (.ins Cf dx fs) /\ ∃ a,fs = fof a:=by
 obtain ⟨a,F⟩:=I.fo
 obtain ⟨dx,e⟩:=F.ins
 exact ⟨dx,_,e,a,rfl⟩
theorem BkIn.at_lt {C Cf: Addr} {Hs H: Hp} {Z: Addr -> Prop} {b: Addr} {u: List Tide.Level} {A: BkA} (I: BkIn C Cf Hs Z H b u A) {i: Nat} (h: i < (marks u).length): (∃ g,A.D.gs[i]? = some g /\ gF A.D.gs i = (g: Int)) /\ ∃ z,A.D.ls[i]? = some z /\ lF A.D.ls i = z:=by
 have h1: i < A.D.gs.length:=by rw [I.foN]; exact h
 have h2: i < A.D.ls.length:=by rw [I.foL]; exact h1
 exact ⟨⟨_,List.getElem?_eq_getElem h1,gF_at (List.getElem?_eq_getElem h1)⟩,_,List.getElem?_eq_getElem h2,lF_at (List.getElem?_eq_getElem h2)⟩
section
variable {P: Program} {w: World} {K: PySem.W.Frag} {mg: Str -> Option Value} {base: Heap}
def spTm (K: PySem.W.Frag) (R C Cf Cw: Addr): Sp:=fun vs H Q E => ∃ (b w': Addr) (Hs: Hp) (Z: Addr -> Prop) (u: List Tide.Level) (n: Tide.Bytes) (p: Nat),vs = [.ref b,.ref w'] /\ BkAt C Cf Hs Z H b u /\ WordAt Cw H w' p n /\
 (∀ i,numberIn (marks u) n = some i -> Q (nV i) H) /\ (numberIn (marks u) n = none -> ∀ a H',Told K R H' a [-6,3,p] -> But [] H H' -> E (.ref a) none H')
theorem sc_tm: FnScope ["self","name"] ["self","name"] (defScope (sBk 3)):=⟨rfl,rfl,rfl,by decide +kernel,rfl,by decide +kernel,by decide +kernel⟩
theorem ok_tm (T: TxB K mg): FnOk P w K mg base (XC P w) 4 T.toldM.f T.toldM.fd ["self","name"] (spTm K T.R T.bkC T.foC T.wordC):=by
 have G: FnOk P w K mg base (XC P w) 2 T.fault.init.f T.fault.init.fd ["self","kind","place","more"] (spFltI K T.R):=ok_fltI T.r
 refine T.toldM.prove sc_tm (fun vs H Q E h => ?_) (fun cdv A outer s H vs Q E hr h => ?_)
 ·obtain ⟨b,w',Hs,Z,u,n,p,rfl,_⟩:=h
  rfl
 ·obtain ⟨b,w',Hs,Z,u,n,p,rfl,⟨a,I⟩,⟨dw,tw,hw,ht⟩,k1,k2⟩:=h
  obtain ⟨dx,e⟩:=I.ins
  have hu:=hu_of hr
  have ht':=ht
  rw [<- nkey_V] at ht'
  refine ⟨_,pss_cons (ps_if (pt_cmp (pc_dnotin hu (pe_fld (pv 1) rfl) (pe_fld (pv 0) rfl))) (pss_one (ps_raise rfl raisesX (pe_xmake T.fault.made G hr rfl T.fault.mgC T.fault.init.b passX (pa_cons (pe_gi rfl T.kUntold) (pa_cons (pe_fld (pv 1) rfl) (pa_cons (pe_lst pa_nil) pa_nil)))))) pss_nil)
   (pss_one (ps_ret (pe_dget hu (pe_fld (pv 0) rfl) (pe_fld (pv 1) rfl) (fun _ _ => rfl)))),?_⟩
  refine ⟨_,rfl,w',T.wordC,dw,_,_,rfl,hw,T.wordCl,T.wordS,rfl,_,rfl,b,T.bkC,dx,_,_,rfl,e,T.bkCl,T.bkM,rfl,a.mA,_,rfl,DGet.t (k:=nkey n) I.m ht',_,rfl,?_⟩
  rw [I.mv]
  cases q: numberIn (marks u) n with
  | none =>
   refine iteB (fun _ => ?_) (fun z => by cases z)
   refine ⟨_,rfl,w',T.wordC,dw,_,_,rfl,hw,T.wordCl,T.wordP,rfl,Nat.zero_le _,fun l hl => ?_⟩
   exact flt_end T.r (ms:=[]) upd_same (Nat.zero_le _) fun a' H' t b => k2 q a' H' t fun b' o e' _ => b _ _ (upd_new hl _ _ e') (by simp)
  | some i =>
   refine iteB (fun z => by cases z) (fun _ => ?_)
   have dg:=DGet.t (k:=nkey n) I.m ht'
   rw [I.mv,q] at dg
   exact ⟨_,rfl,b,T.bkC,dx,_,_,rfl,e,T.bkCl,T.bkM,rfl,_,rfl,w',T.wordC,dw,_,_,rfl,hw,T.wordCl,T.wordS,rfl,a.mA,_,rfl,dg,k1 i q⟩
def spRing (C Cf: Addr): Sp:=fun vs H Q _ => ∃ (b: Addr) (Hs: Hp) (Z: Addr -> Prop) (u: List Tide.Level) (i j: Nat) (h: Int),vs = [.ref b,nV i,nV j,.int h] /\ BkAt C Cf Hs Z H b u /\ i < (marks u).length /\ j < (marks u).length /\ (placeOf (takeAll u).places i).1 = (placeOf (takeAll u).places j).1 /\
 ∀ l H' p,H' l = some (.lst ((((p.length + 1: Nat): Int) :: ((takeAll u).overs: Int) :: (Tide.asInts p ++ [h + (placeOf (takeAll u).places i).2 - (placeOf (takeAll u).places j).2])).map V.int)) -> Mh.Trail (takeAll u).forest j i p -> Mh.NB p -> p.length <= 1024 -> But [] H H' -> Q (.ref l) H'
theorem sc_ring: FnScope ["self","first","second","height","ring","gap"] ["self","first","second","height"] (defScope (sBk 4)):=⟨rfl,rfl,rfl,by decide +kernel,rfl,by decide +kernel,by decide +kernel⟩
theorem ok_ring (T: TxB K mg): FnOk P w K mg base (XC P w) 3 T.ringT.f T.ringT.fd ["self","first","second","height"] (spRing T.bkC T.foC):=by
 have GW: FnOk P w K mg base (XC P w) 2 T.wayM.f T.wayM.fd ["self","start","goal"] (spWay T.foC):=ok_way T.toTxF
 have GR: FnOk P w K mg base (XC P w) 1 T.rise.f T.rise.fd ["self","lower","upper"] (spRise T.foC):=ok_rise T.toTxF
 refine T.ringT.prove sc_ring (fun vs H Q E h => ?_) (fun cdv A outer s H vs Q E hr h => ?_)
 ·obtain ⟨b,Hs,Z,u,i,j,h,rfl,_⟩:=h
  rfl
 ·obtain ⟨b,Hs,Z,u,i,j,h,rfl,⟨a,I⟩,hi,hj,hg,kk⟩:=h
  obtain ⟨dx,e⟩:=I.ins
  obtain ⟨df,ff,ef,_⟩:=I.forest
  have hr1: Room 1 _:=hr.mono (by decide)
  have R:=I.right
  have few:=R.few
  have lf: a.D.F.length <= 1024:=by
   have:=R.wf.count
   have:=R.len
   rw [I.foF]; omega
  refine ⟨_,pss_cons (ps_set (i:=4) sc_ring.nd rfl (Or.inl rfl) (pe_op op_cat (pe_lst (pa_cons (pe_fld (pv 0) rfl) pa_nil)) (pe_meth (pe_fld (pv 0) rfl) T.foCl T.wayM.m GW hr T.wayM.b .nil passX (pa_cons (pv 2) (pa_cons (pv 1) pa_nil)))))
   (pss_cons (ps_set (i:=5) sc_ring.nd rfl (Or.inl rfl) (pe_op op_add (pv 3) (pe_meth (pe_fld (pv 0) rfl) T.foCl T.rise.m GR hr1 T.rise.b .nil passX (pa_cons (pv 2) (pa_cons (pv 1) pa_nil)))))
   (pss_one (ps_ret (pe_op op_cat (pe_op op_cat (pe_lst (pa_cons (pe_callB call_len_seq (by rfl) T.lenN bo_len (pa_cons (pv 4) pa_nil)) pa_nil)) (pv 4)) (pe_lst (pa_cons (pv 5) pa_nil)))))),?_⟩
  refine ⟨_,rfl,b,T.bkC,dx,_,_,rfl,e,T.bkCl,T.bkO,rfl,(by show 1 <= sizeLine; decide),fun l1 h1 => ?_⟩
  have b1: But [] H (upd H l1 (.lst [V.int ((takeAll u).overs: Int)])):=fun x o z _ => upd_new h1 _ _ z
  have I1:=I.frame (H':=upd H l1 (.lst [V.int ((takeAll u).overs: Int)])) (fun x o z _ => upd_new h1 _ _ (I.base x o z (by simp))) (fun x o z _ => upd_new h1 _ _ z)
  have e1:=b1 _ _ e (by simp)
  have ef1:=b1 _ _ ef (by simp)
  have ends: ∀ x ∈ a.D.F,x.a < a.D.gs.length /\ x.b < a.D.gs.length:=by
   rw [I.foF,I.foN,<- R.len]; exact R.wf.ends
  have conn: Mh.Conn a.D.F j i:=by
   rw [I.foF]
   exact (R.wf.conn j i (by rw [R.len]; exact hj) (by rw [R.len]; exact hi)).mpr hg.symm
  refine ⟨_,rfl,b,T.bkC,dx,_,_,rfl,e1,T.bkCl,T.bkF,rfl,a.fA,df,_,rfl,ef1,?_,_,rfl,_,rfl,a.fA,a.D,_,j,i,rfl,I1.fo,(by rw [I.foN]; exact hi),(by rw [I.foN]; exact few),ends,(by rw [I.foF]; exact R.wf.acyc),conn,fun l2 H2 p h2 hl2 tr nb b2 => ?_⟩
  ·obtain ⟨_,_,ef',a',hff⟩:=I.forest
   rw [ef] at ef'
   cases ef'
   rw [hff]; rfl
  have pl: p.length <= 1024:=by
   have:=Mh.Acyc.short (by rw [I.foF]; exact R.wf.acyc) tr nb
   omega
  have h12:=b2 _ _ (show upd H l1 (.lst [V.int ((takeAll u).overs: Int)]) l1 = _ from upd_same) (by simp)
  refine ⟨l1,l2,_,_,rfl,rfl,h12,h2,(by rw [List.length_map]; show 1 + p.length <= sizeLine; exact Nat.le_trans (Nat.add_le_add_left pl 1) (by decide)),fun l3 h3 => ?_⟩
  have b3: But [] H (upd H2 l3 (.lst ([V.int ((takeAll u).overs: Int)] ++ p.map nV))):=fun x o z _ => upd_new h3 _ _ (b2 _ _ (b1 x o z (by simp)) (by simp))
  generalize hH3: upd H2 l3 (.lst ([V.int ((takeAll u).overs: Int)] ++ p.map nV)) = H3 at *
  have r3: H3 l3 = some (.lst ([V.int ((takeAll u).overs: Int)] ++ p.map nV)):=by rw [<- hH3]; exact upd_same
  have I3:=I.frame (H':=H3) (fun x o z _ => b3 _ _ (I.base x o z (by simp)) (by simp)) (fun x o z _ => b3 x o z (by simp))
  have e3:=b3 _ _ e (by simp)
  have ef3:=b3 _ _ ef (by simp)
  obtain ⟨⟨gi,hgi,vgi⟩,zi,hzi,vzi⟩:=I.at_lt hi
  obtain ⟨⟨gj,hgj,vgj⟩,zj,hzj,vzj⟩:=I.at_lt hj
  refine ⟨_,rfl,_,rfl,b,T.bkC,dx,_,_,rfl,e3,T.bkCl,T.bkF,rfl,a.fA,df,_,rfl,ef3,?_,_,rfl,_,rfl,a.fA,a.D,_,j,i,zj,zi,rfl,I3.fo,hzj,hzi,_,_,rfl,rfl,?_⟩
  ·obtain ⟨_,_,ef',a',hff⟩:=I.forest
   rw [ef] at ef'
   cases ef'
   rw [hff]; rfl
  refine ⟨_,rfl,l3,_,rfl,.inl (SqL.of r3),(by show 1 <= sizeLine; decide),fun l4 h4 => ?_⟩
  have r34:=upd_new (o:=HO.lst [V.int ((([V.int ((takeAll u).overs: Int)] ++ p.map nV).length: Nat): Int)]) h4 l3 _ r3
  refine ⟨_,rfl,l4,l3,_,_,rfl,rfl,upd_same,r34,(by simp only [List.length_append,List.length_map,List.length_cons,List.length_nil]; exact Nat.le_trans (by omega: 0 + 1 + (0 + 1 + p.length) <= 2048) (by decide)),fun l5 h5 => ?_⟩
  refine ⟨_,rfl,(by show 1 <= sizeLine; decide),fun l6 h6 => ?_⟩
  have n56: l5 ≠ l6:=fun z => by rw [<- z,upd_same] at h6; cases h6
  refine ⟨l5,l6,_,_,rfl,rfl,upd_new h6 _ _ upd_same,upd_same,(by simp only [List.length_append,List.length_map,List.length_cons,List.length_nil]; exact Nat.le_trans (by omega: 0 + 1 + (0 + 1 + p.length) + (0 + 1) <= 2048) (by decide)),fun l7 h7 => ?_⟩
  have gap: h + (zi - zj) = h + (placeOf (takeAll u).places i).2 - (placeOf (takeAll u).places j).2:=by
   have:=I.lev.lev j i hj hi ((I.lev.same j i hj hi).mpr hg.symm)
   rw [vzi,vzj] at this
   omega
  refine kk l7 _ p ?_ (by rw [<- I.foF]; exact tr) nb pl ?_
  ·rw [upd_same,<- gap]
   simp only [Tide.asInts,List.length_append,List.length_map,List.length_cons,List.length_nil,List.map_append,List.map_cons,List.map_nil,List.map_map,List.append_assoc,List.cons_append,List.nil_append]
   rfl
  ·intro x o z _
   have z3:=b3 x o z (by simp)
   have z4:=upd_new (o:=HO.lst [V.int ((([V.int ((takeAll u).overs: Int)] ++ p.map nV).length: Nat): Int)]) h4 x _ z3
   exact upd_new h7 _ _ (upd_new h6 _ _ (upd_new h5 _ _ z4))
end
end Mp
end
section
namespace Mp
open PySem PySem.Spec PyProof.Rows L2 Xc
open Mh (codes)
open Tide (marks takeAll numberIn printedLevels placeOf)
theorem FoIn.tight {C: Addr} {H: Hp} {f: Addr} {D: FoD} {A: FoA} {X: Addr -> Prop} (h: FoIn C H f D A X): FoIn C H f D A (fun a => X a /\ H a ≠ none):=by
 have key: ∀ a u,H a = some u -> X a -> X a /\ H a ≠ none:=fun a u e x => ⟨x,by rw [e]; exact fun z => by cases z⟩
 obtain ⟨o1,o2,o3,o4,o5⟩:=h.own
 obtain ⟨dx,e⟩:=h.ins
 exact ⟨h.ins,h.g,h.l,h.k,h.e,h.lenL,h.lenK,h.links,h.mem,h.has,h.idlt,h.cnt,h.nd,h.s1,h.s2,h.s3,h.s4,h.s5,⟨key _ _ e o1,key _ _ h.g o2,key _ _ h.l o3,key _ _ h.k o4,key _ _ h.e o5⟩,
  fun a ha => by
   obtain ⟨i,hi⟩:=List.getElem?_of_mem ha
   obtain ⟨ts,h1,_⟩:=h.links i a hi
   exact key _ _ h1 (h.ownK a ha),
  fun k a ha => by
   obtain ⟨n,a',ms,_,h2,h3,_⟩:=h.mem k _ ha
   injection h2 with h2
   subst h2
   exact key _ _ h3 (h.ownM k _ ha)⟩
section
variable {P: Program} {w: World} {K: PySem.W.Frag} {mg: Str -> Option Value} {base: Heap}
def spBkI (C Cf: Addr): Sp:=fun vs H Q _ => ∃ (b dx: Addr) (Hs: Hp),vs = [.ref b] /\ H b = some (.ins C dx []) /\ But [] Hs H /\ Hs b = none /\ ∀ H',BkAt C Cf Hs (fun _ => False) H' b [] -> Q .non H'
theorem sc_bkI: FnScope ["self"] ["self"] (defScope (sBk 0)):=⟨rfl,rfl,rfl,by decide +kernel,rfl,by decide +kernel,by decide +kernel⟩
theorem ok_bkI (T: TxB K mg): FnOk P w K mg base (XC P w) 3 T.bkI.f T.bkI.fd ["self"] (spBkI T.bkC T.foC):=by
 have GF: FnOk P w K mg base (XC P w) 1 T.foI.f T.foI.fd ["self"] (spFoI T.foC):=ok_foI T.toTxF
 refine T.bkI.prove sc_bkI (fun vs H Q E h => ?_) (fun cdv A outer s H vs Q E hr h => ?_)
 ·obtain ⟨b,dx,Hs,rfl,_⟩:=h
  rfl
 ·obtain ⟨b,dx,Hs,rfl,hb,bs,hsb,kk⟩:=h
  refine ⟨_,pss_cons (ps_fld (pv 0) (pe_lst pa_nil) rfl) (pss_cons (ps_fld (pv 0) pe_dnewT rfl) (pss_cons (ps_fld (pv 0) pe_int rfl) (pss_cons (ps_fld (pv 0) (pe_make0 T.foMk GF hr rfl T.mgFo T.foI.b .nil passX) rfl) (pss_one (ps_fld (pv 0) (pe_lst pa_nil) rfl))))),?_⟩
  refine ⟨Nat.zero_le _,fun a1 h1 => ?_⟩
  have n1: b ≠ a1:=ne_of_none hb h1
  refine ⟨_,rfl,b,T.bkC,dx,_,rfl,upd_new h1 _ _ hb,T.bkCl,T.bkN,(by show 0 < 1000; decide),?_⟩
  intro a2 h2
  have n2: b ≠ a2:=ne_of_none upd_same h2
  have n21: a1 ≠ a2:=fun z => by rw [<- z,upd_ne (Ne.symm n1),upd_same] at h2; cases h2
  refine ⟨_,rfl,b,T.bkC,dx,_,rfl,upd_new h2 _ _ upd_same,T.bkCl,T.bkM,(by show 1 < 1000; decide),?_⟩
  refine ⟨_,rfl,b,T.bkC,dx,_,rfl,upd_same,T.bkCl,T.bkO,(by show 2 < 1000; decide),?_⟩
  have q1: H a1 = none:=h1
  have q2: H a2 = none:=by rw [upd_ne (Ne.symm n2),upd_ne (Ne.symm n21)] at h2; exact h2
  generalize hH3: upd (upd (upd (upd (upd H a1 (.lst [])) b (.ins T.bkC dx (putF "names" (V.ref a1) []))) a2 (.dT [])) b (.ins T.bkC dx (putF "mark_numbers" (V.ref a2) (putF "names" (V.ref a1) [])))) b (.ins T.bkC dx (putF "over_lines" (V.int 0) (putF "mark_numbers" (V.ref a2) (putF "names" (V.ref a1) [])))) = H3 at *
  have b3: H3 b = some (.ins T.bkC dx [("names",.ref a1),("mark_numbers",.ref a2),("over_lines",.int 0)]):=by rw [<- hH3,upd_same]; rfl
  have x1: H3 a1 = some (.lst []):=by rw [<- hH3,upd_ne (Ne.symm n1),upd_ne (Ne.symm n1),upd_ne n21,upd_ne (Ne.symm n1),upd_same]
  have x2: H3 a2 = some (.dT []):=by rw [<- hH3,upd_ne (Ne.symm n2),upd_ne (Ne.symm n2),upd_same]
  have ob: ∀ x,x ≠ b -> x ≠ a1 -> x ≠ a2 -> H3 x = H x:=fun x z1 z2 z3 => by rw [<- hH3,upd_ne z1,upd_ne z1,upd_ne z3,upd_ne z1,upd_ne z2]
  intro f df hf hdf ne
  have fb: f ≠ b:=fun z => by rw [z,b3] at hf; cases hf
  have db: df ≠ b:=fun z => by rw [z,b3] at hdf; cases hdf
  refine ⟨f,df,rfl,upd_same,fun H4 F4 b4 => ⟨rfl,?_⟩⟩
  have bb4: But [] H3 H4:=but_make hf hdf b4
  refine ⟨_,rfl,b,T.bkC,dx,_,rfl,bb4 _ _ b3 (by simp),T.bkCl,T.bkF,(by show 3 < 1000; decide),?_⟩
  refine ⟨Nat.zero_le _,fun a5 h5 => ?_⟩
  have n5: b ≠ a5:=ne_of_none upd_same h5
  have h5': H4 a5 = none:=by rw [upd_ne (Ne.symm n5)] at h5; exact h5
  refine ⟨_,rfl,b,T.bkC,dx,_,rfl,upd_new h5 _ _ upd_same,T.bkCl,T.bkP,(by show 4 < 1000; decide),?_⟩
  have y1:=bb4 _ _ x1 (by simp)
  have y2:=bb4 _ _ x2 (by simp)
  have z1: a1 ≠ a5:=ne_of_none y1 h5'
  have z2: a2 ≠ a5:=ne_of_none y2 h5'
  generalize hH6: upd (upd (upd H4 b (.ins T.bkC dx (putF "forest" (V.ref f) [("names",.ref a1),("mark_numbers",.ref a2),("over_lines",.int 0)]))) a5 (.lst [])) b (.ins T.bkC dx (putF "printed" (V.ref a5) (putF "forest" (V.ref f) [("names",.ref a1),("mark_numbers",.ref a2),("over_lines",.int 0)]))) = H6 at *
  have ob6: ∀ x,x ≠ b -> x ≠ a5 -> H6 x = H4 x:=fun x q1 q2 => by rw [<- hH6,upd_ne q1,upd_ne q2,upd_ne q1]
  have hs3: ∀ x o,Hs x = some o -> H3 x = some o:=fun x o e => by
   have e1:=bs x o e (by simp)
   rw [ob x (ne_of_none e hsb) (ne_of_none e1 q1 |> fun z => z) (ne_of_none e1 q2)]
   exact e1
  have hs3n: ∀ x,H3 x = none -> Hs x = none:=fun x e => by
   cases q: Hs x with
   | none => rfl
   | some o => rw [hs3 x o q] at e; cases e
  have hs1: Hs a1 = none:=by
   cases q: Hs a1 with
   | none => rfl
   | some o => rw [bs _ _ q (by simp)] at q1; cases q1
  have hs2: Hs a2 = none:=by
   cases q: Hs a2 with
   | none => rfl
   | some o => rw [bs _ _ q (by simp)] at q2; cases q2
  have hs5: Hs a5 = none:=hs3n _ (by
   cases q: H3 a5 with
   | none => rfl
   | some o => rw [bb4 _ _ q (by simp)] at h5'; cases h5')
  refine kk H6 ⟨⟨a1,a2,f,a5,[],[],noMarks⟩,?_⟩
  refine ⟨fun x o e _ => ?_,⟨dx,by rw [<- hH6,upd_same]; rfl⟩,?_,rfl,(fun i t nm z => by cases z),?_,(fun nm => rfl),rfl,?_,?_,rfl,rfl,rfl,rfl,⟨(fun i j h => absurd h (Nat.not_lt_zero _)),(fun i j h => absurd h (Nat.not_lt_zero _))⟩,Mh.Right.nil,z1,⟨hsb,hs1,hs2,hs5⟩,(fun _ z => z.elim),id,id,id,id⟩
  ·rw [ob6 x (ne_of_none e hsb) (ne_of_none e hs5)]
   exact bb4 _ _ (hs3 x o e) (by simp)
  ·rw [ob6 _ (Ne.symm n1) z1]; exact y1
  ·rw [ob6 _ (Ne.symm n2) z2]; exact y2
  ·rw [<- hH6,upd_ne (Ne.symm n5),upd_same]; rfl
  ·obtain ⟨a,F⟩:=F4
   have nh: ∀ x,(upd (upd H3 df (.own f)) f (.ins T.foC df [])) x = none -> H3 x = none:=fun x e => by
    cases q: H3 x with
    | none => rfl
    | some o => rw [upd_ne (ne_of_none q hf),upd_ne (ne_of_none q hdf),q] at e; cases e
   refine ⟨a,(F.tight.frame (H':=H6) fun x o e h => ?_).wide fun x h => ?_⟩
   ·have nx5: x ≠ a5:=ne_of_none e h5'
    have nxb: x ≠ b:=fun z => by
     subst z
     rcases h with h | h
     ·rcases h.1 with h | h
      ·exact fb h.symm
      ·rw [nh _ h] at b3; cases b3
     ·rw [bb4 _ _ b3 (by simp)] at e
      cases e
      rcases h with h | h | h <;> exact absurd h (by decide)
    rw [ob6 x nxb nx5]
    exact e
   ·have h3: H3 x = none:=by
     rcases h.1 with h | h
     ·rw [h]; exact hf
     ·exact nh x h
    refine ⟨hs3n x h3,fun z => ?_,fun z => ?_,fun z => ?_,fun z => ?_,id⟩
    ·rw [z,b3] at h3; cases h3
    ·have z: x = a1:=z
     rw [z,x1] at h3; cases h3
    ·have z: x = a2:=z
     rw [z,x2] at h3; cases h3
    ·have z: x = a5:=z
     exact h.2 (by rw [z]; exact h5')
end
end Mp
end
section
namespace Mp
open PySem PySem.Spec PyProof.Rows L2 Xc
open Mh (codes)
open Tide (marks takeAll numberIn printedLevels placeOf)
section
variable {P: Program} {w: World} {K: PySem.W.Frag} {mg: Str -> Option Value} {base: Heap}
def spAddL (T: TxB K mg) (pr: Tide.Level -> Prop): Sp:=fun vs H Q E => ∃ (b l: Addr) (Hs: Hp) (Z: Addr -> Prop) (u: List Tide.Level) (x: Tide.Level),vs = [.ref b,.ref l] /\ BkAt T.bkC T.foC Hs Z H b u /\ LineAt T.markC T.overC T.wordC H l x /\ (printedLevels (u ++ [x])).length <= sizeLine /\ pr x /\
 (∀ H',Tide.levelWrongs (marks u) (takeAll u) x = [] -> BkAt T.bkC T.foC Hs Z H' b (u ++ [x]) -> Stay H H' -> (∀ y o,Z y -> H y = some o -> H' y = some o) -> Q .non H') /\ (∀ ns a H',Mh.Wrong u x ns -> Told K T.R H' a ns -> But [] Hs H' -> E (.ref a) none H')
def isMarkL (x: Tide.Level): Prop:=∃ n p,x = .mark n p
def isOverL (x: Tide.Level): Prop:=∃ a b h p q r,x = .over a b h p q r
theorem sc_aml: FnScope ["self","line"] ["self","line"] (defScope (sBk 1)):=⟨rfl,rfl,rfl,by decide +kernel,rfl,by decide +kernel,by decide +kernel⟩
theorem gF_old {gs: List Nat} {x i: Nat} (h: i < gs.length): gF (gs ++ [x]) i = gF gs i:=by
 unfold gF
 rw [List.getD_eq_getElem?_getD,List.getD_eq_getElem?_getD,List.getElem?_append_left h]
theorem lF_old {ls: List Int} {x: Int} {i: Nat} (h: i < ls.length): lF (ls ++ [x]) i = lF ls i:=by
 unfold lF
 rw [List.getD_eq_getElem?_getD,List.getD_eq_getElem?_getD,List.getElem?_append_left h]
theorem gF_last {gs: List Nat} {x: Nat}: gF (gs ++ [x]) gs.length = (x: Int):=by
 unfold gF
 rw [List.getD_eq_getElem?_getD,List.getElem?_append_right (Nat.le_refl _),Nat.sub_self]; rfl
theorem ok_aml (T: TxB K mg): FnOk P w K mg base (XC P w) 4 T.addMl.f T.addMl.fd ["self","line"] (spAddL T isMarkL):=by
 have G: FnOk P w K mg base (XC P w) 2 T.fault.init.f T.fault.init.fd ["self","kind","place","more"] (spFltI K T.R):=ok_fltI T.r
 have GA: FnOk P w K mg base (XC P w) 1 T.addMark.f T.addMark.fd ["self"] (spAm T.foC):=ok_am T.toTxF
 have GN: FnOk P w K mg base (XC P w) 1 T.noteP.f T.noteP.fd ["self","opening","words"] (spNote T.bkC):=ok_note T
 refine T.addMl.prove sc_aml (fun vs H Q E h => ?_) (fun cdv A outer s H vs Q E hr h => ?_)
 ·obtain ⟨b,l,Hs,Z,u,x,rfl,_⟩:=h
  rfl
 ·obtain ⟨b,l,Hs,Z,u,x,rfl,⟨a,I⟩,L,hsz,⟨n,p,rfl⟩,k1,k2⟩:=h
  obtain ⟨dl,w',hl,dw,tw,hw,ht⟩:=L
  obtain ⟨dx,e⟩:=I.ins
  obtain ⟨aF,F⟩:=I.fo
  obtain ⟨df,ef⟩:=F.ins
  have hu:=hu_of hr
  have hr1: Room 1 _:=hr.mono (by decide)
  have ht':=ht
  rw [<- nkey_V] at ht'
  have R:=I.right
  have few:=R.few
  refine ⟨_,pss_cons (ps_if (pt_cmp (pc_din hu (pe_fld (pe_fld (pv 1) rfl) rfl) (pe_fld (pv 0) rfl))) (pss_one (ps_raise rfl raisesX (pe_xmake T.fault.made G hr rfl T.fault.mgC T.fault.init.b passX (pa_cons (pe_gi rfl T.kTaken) (pa_cons (pe_fld (pe_fld (pv 1) rfl) rfl) (pa_cons (pe_lst pa_nil) pa_nil)))))) pss_nil)
   (pss_cons (ps_if (pt_cmpR op_eq (pe_callB call_len_seq (by rfl) T.lenN bo_len (pa_cons (pe_fld (pv 0) rfl) pa_nil)) (pe_gi rfl T.mostM) (nomark _)) (pss_one (ps_raise rfl raisesX (pe_xmake T.fault.made G hr rfl T.fault.mgC T.fault.init.b passX (pa_cons (pe_gi rfl T.kMany) (pa_cons (pe_fld (pe_fld (pv 1) rfl) rfl) (pa_cons (pe_lst pa_nil) pa_nil)))))) pss_nil)
   (pss_cons (ps_dput hu (pe_fld (pv 0) rfl) (pe_fld (pe_fld (pv 1) rfl) rfl) (pe_callB call_len_seq (by rfl) T.lenN bo_len (pa_cons (pe_fld (pv 0) rfl) pa_nil)) rfl)
   (pss_cons (ps_expr (pe_bm PySem.F.plainAttrs_list PySem.F.slot_list_append PySem.F.type_list_append mt_append (pe_fld (pv 0) rfl) (pa_cons (pe_fld (pe_fld (pv 1) rfl) rfl) pa_nil)))
   (pss_cons (ps_expr (pe_meth0 (pe_fld (pv 0) rfl) T.foCl T.addMark.m GA hr1 T.addMark.b .nil passX))
   (pss_one (ps_expr (pe_meth (pv 0) T.bkCl T.noteP.m GN hr1 T.noteP.b .nil passX (pa_cons pe_str (pa_cons (pe_lst (pa_cons (pe_fld (pe_fld (pv 1) rfl) rfl) pa_nil)) pa_nil))))))))),?_⟩
  refine ⟨_,rfl,l,T.markC,dl,_,_,rfl,hl,T.markCl,T.markN,rfl,w',T.wordC,dw,_,_,rfl,hw,T.wordCl,T.wordS,rfl,_,rfl,b,T.bkC,dx,_,_,rfl,e,T.bkCl,T.bkM,rfl,a.mA,_,rfl,DGet.t (k:=nkey n) I.m ht',_,rfl,?_⟩
  rw [I.mv]
  cases q: numberIn (marks u) n with
  | some i =>
   refine iteB (fun _ => ?_) (fun z => by cases z)
   have hn: n ∈ marks u:=List.mem_of_getElem? (Mh.numberIn_some q).1
   refine ⟨_,rfl,l,T.markC,dl,_,_,rfl,hl,T.markCl,T.markN,rfl,w',T.wordC,dw,_,_,rfl,hw,T.wordCl,T.wordP,rfl,Nat.zero_le _,fun x hx => ?_⟩
   exact flt_end T.r (ms:=[]) upd_same (Nat.zero_le _) fun a' H' t bb => k2 _ a' H' (.taken hn) t fun b' o e' _ => bb _ _ (upd_new hx _ _ (I.base _ _ e' (by simp))) (by simp)
  | none =>
  refine iteB (fun z => by cases z) (fun _ => ?_)
  have hn: n ∉ marks u:=Mh.numberIn_none.mp q
  refine ⟨_,rfl,b,T.bkC,dx,_,_,rfl,e,T.bkCl,T.bkN,rfl,a.nA,_,rfl,.inl (SqL.of I.n),rfl,_,rfl,?_⟩
  rw [List.length_map,I.ntl,dec_i]
  refine iteB (fun q2 => ?_) (fun q2 => ?_)
  ·have q2: (((marks u).length: Nat): Int) = 1024:=of_decide_eq_true q2
   refine ⟨_,rfl,l,T.markC,dl,_,_,rfl,hl,T.markCl,T.markN,rfl,w',T.wordC,dw,_,_,rfl,hw,T.wordCl,T.wordP,rfl,Nat.zero_le _,fun x hx => ?_⟩
   exact flt_end T.r (ms:=[]) upd_same (Nat.zero_le _) fun a' H' t bb => k2 _ a' H' (.many hn (by omega)) t fun b' o e' _ => bb _ _ (upd_new hx _ _ (I.base _ _ e' (by simp))) (by simp)
  have q2: ¬ (((marks u).length: Nat): Int) = 1024:=of_decide_eq_false q2
  have lt: ¬ 1024 <= (marks u).length:=by omega
  refine ⟨_,rfl,b,T.bkC,dx,_,_,rfl,e,T.bkCl,T.bkN,rfl,a.nA,_,rfl,.inl (SqL.of I.n),_,rfl,b,T.bkC,dx,_,_,rfl,e,T.bkCl,T.bkM,rfl,_,rfl,l,T.markC,dl,_,_,rfl,hl,T.markCl,T.markN,rfl,w',T.wordC,dw,_,_,rfl,hw,T.wordCl,T.wordS,rfl,a.mA,_,rfl,DPut.t (k:=nkey n) I.m ht' (by rw [I.ml]; exact small1024 few),?_⟩
  rw [List.length_map,I.ntl]
  have o1: ∀ x,x ≠ a.mA -> upd H a.mA (.dT (putK a.kvs (nkey n) (V.int ((marks u).length: Nat)))) x = H x:=fun x z => upd_ne z
  have m1: upd H a.mA (.dT (putK a.kvs (nkey n) (V.int ((marks u).length: Nat)))) a.mA = some (.dT (putK a.kvs (nkey n) (V.int ((marks u).length: Nat)))):=upd_same
  generalize hH1: upd H a.mA (.dT (putK a.kvs (nkey n) (V.int ((marks u).length: Nat)))) = H1 at *
  have nm: ∀ x o,H x = some o -> (∀ kv,o ≠ .dT kv) -> x ≠ a.mA:=fun x o z c y => by rw [y,I.m] at z; cases z; exact c _ rfl
  have e1: H1 b = _:=(o1 b (nm _ _ e (by intro _ z; cases z))).trans e
  have n1: H1 a.nA = _:=(o1 _ (nm _ _ I.n (by intro _ z; cases z))).trans I.n
  have hl1: H1 l = _:=(o1 _ (nm _ _ hl (by intro _ z; cases z))).trans hl
  have hw1: H1 w' = _:=(o1 _ (nm _ _ hw (by intro _ z; cases z))).trans hw
  have ht1: H1 tw = _:=(o1 _ (nm _ _ ht (by intro _ z; cases z))).trans ht
  refine ⟨_,rfl,b,T.bkC,dx,_,_,rfl,e1,T.bkCl,T.bkN,rfl,.inl ⟨rfl,_,SqL.of n1⟩,_,rfl,l,T.markC,dl,_,_,rfl,hl1,T.markCl,T.markN,rfl,w',T.wordC,dw,_,_,rfl,hw1,T.wordCl,T.wordS,rfl,a.nA,_,_,rfl,rfl,n1,(by rw [List.length_map,I.ntl]; exact small1024 few),?_⟩
  have o2: ∀ x,x ≠ a.nA -> upd H1 a.nA (.lst (a.nts.map V.ref ++ [V.ref tw])) x = H1 x:=fun x z => upd_ne z
  have nn2: upd H1 a.nA (.lst (a.nts.map V.ref ++ [V.ref tw])) a.nA = some (.lst (a.nts.map V.ref ++ [V.ref tw])):=upd_same
  generalize hH2: upd H1 a.nA (.lst (a.nts.map V.ref ++ [V.ref tw])) = H2 at *
  have e2: H2 b = _:=(o2 b (ne_of e I.n (by intro z; cases z))).trans e1
  have m2: H2 a.mA = _:=(o2 _ (ne_of I.m I.n (by intro z; cases z))).trans m1
  have hl2: H2 l = _:=(o2 _ (ne_of hl I.n (by intro z; cases z))).trans hl1
  have hw2: H2 w' = _:=(o2 _ (ne_of hw I.n (by intro z; cases z))).trans hw1
  have ht2: H2 tw = _:=(o2 _ (ne_of ht I.n (by intro z; cases z))).trans ht1
  have p2: H2 a.pA = _:=(o2 _ (Ne.symm I.np)).trans ((o1 _ (nm _ _ I.p (by intro _ z; cases z))).trans I.p)
  have o12: ∀ x,x ≠ a.mA -> x ≠ a.nA -> H2 x = H x:=fun x z1 z2 => (o2 x z2).trans (o1 x z1)
  have s2: Stay H H2:=fun x o z c => by
   rw [o12 x (nm _ _ z (fun kv q => by rw [q] at c; exact c)) (fun y => by rw [y,I.n] at z; cases z; exact c)]; exact z
  have bs2: But [] Hs H2:=fun x o z _ => by
   rw [o12 x (ne_of_none z I.own.2.2.1) (ne_of_none z I.own.2.1)]; exact I.base _ _ z (by simp)
  have F2: FoIn T.foC H2 a.fA a.D aF (bkX Hs Z b a):=F.frame fun x o z h => by
   rcases h with h | h
   ·rw [o12 x h.2.2.2.1 h.2.2.1]; exact z
   ·exact s2 x o z h
  obtain ⟨df2,ef2⟩:=F2.ins
  have ends: ∀ x ∈ a.D.F,x.a < a.D.gs.length /\ x.b < a.D.gs.length:=by
   rw [I.foF,I.foN,<- R.len]; exact R.wf.ends
  refine ⟨_,rfl,b,T.bkC,dx,_,_,rfl,e2,T.bkCl,T.bkF,rfl,a.fA,df2,_,rfl,ef2,rfl,a.fA,a.D,_,rfl,⟨aF,F2⟩,ends,(by rw [I.foN]; exact few),fun H3 F3 b3 => ?_⟩
  have nX: ∀ x,(x = b \/ x = a.nA \/ x = a.mA \/ x = a.pA) -> ¬ bkX Hs Z b a x:=fun x h z => by
   rcases h with h | h | h | h
   ·exact z.2.1 h
   ·exact z.2.2.1 h
   ·exact z.2.2.2.1 h
   ·exact z.2.2.2.2.1 h
  have e3:=b3 _ _ e2 (.inl (nX _ (.inl rfl)))
  have n3:=b3 _ _ nn2 (.inl (nX _ (.inr (.inl rfl))))
  have m3:=b3 _ _ m2 (.inl (nX _ (.inr (.inr (.inl rfl)))))
  have p3:=b3 _ _ p2 (.inl (nX _ (.inr (.inr (.inr rfl)))))
  have hl3:=b3 _ _ hl2 (.inr (.inl rfl))
  have hw3:=b3 _ _ hw2 (.inr (.inr (.inl rfl)))
  have ht3:=b3 _ _ ht2 (.inr trivial)
  have s3:=b3.stay
  have bs3: But [] Hs H3:=fun x o z _ => b3 _ _ (bs2 x o z (by simp)) (.inl fun y => by rw [y.1] at z; cases z)
  refine ⟨_,rfl,b,dx,_,rfl,e3,rfl,_,rfl,l,T.markC,dl,_,_,rfl,hl3,T.markCl,T.markN,rfl,w',T.wordC,dw,_,_,rfl,hw3,T.wordCl,T.wordS,rfl,(by show 1 <= sizeLine; decide),fun wl hwl => ?_⟩
  have wp: wl ≠ a.pA:=fun z => by rw [z,p3] at hwl; cases hwl
  have hsz': (codes (printedLevels u) ++ noted [109,97,114,107,32] [codes n]).length <= sizeLine:=by
   have: codes (printedLevels (u ++ [.mark n p])) = codes (printedLevels u) ++ noted [109,97,114,107,32] [codes n]:=by
    rw [Mh.printed_snoc,Mh.codes_append,Mh.print_mark]; rfl
   rw [<- this,Mh.codes_length]; exact hsz
  refine ⟨b,dx,a.pA,wl,_,codes (printedLevels u),_,[109,97,114,107,32],[tw],codes n,[],rfl,upd_new hwl _ _ e3,rfl,upd_new hwl _ _ p3,(by decide +kernel),(by decide),upd_same,wp,⟨rfl,fun i x cs h1 h2 => ?_⟩,hsz',fun H5 p5 b5 => ?_⟩
  ·cases i with
   | succ i => cases h1
   | zero =>
    have h1: tw = x:=Option.some.inj h1
    have h2: codes n = cs:=Option.some.inj h2
    subst h1 h2
    exact ⟨ne_of ht3 p3 (by intro z; cases z),.inr (upd_new hwl _ _ ht3)⟩
  have k35: ∀ x o,H3 x = some o -> x ≠ a.pA -> H5 x = some o:=fun x o z y => b5 _ _ (upd_new hwl _ _ z) (by simpa using y)
  have s5: Stay H3 H5:=fun x o z c => k35 x o z fun y => by rw [y,p3] at z; cases z; exact c
  have sA: Stay H H5:=(s2.trans s3).trans s5
  have bs5: But [] Hs H5:=fun x o z _ => k35 _ _ (bs3 x o z (by simp)) (ne_of_none z I.own.2.2.2)
  have zk: ∀ y o,Z y -> H y = some o -> H5 y = some o:=fun y o zy z => by
   have zn: ∀ c,¬ Z c -> y ≠ c:=fun c hc q => hc (q ▸ zy)
   refine k35 y o (b3 y o (by rw [o12 y (zn _ I.zo.2.2.1) (zn _ I.zo.2.1)]; exact z) (.inl fun q => q.2.2.2.2.2 zy)) (zn _ I.zo.2.2.2)
  have nms: marks (u ++ [.mark n p]) = marks u ++ [n]:=Mh.mark_names
  have tk: takeAll (u ++ [.mark n p]) = Mh.withMark (takeAll u):=Mh.mark_take
  refine k1 H5 (Mh.mark_good hn lt) ⟨⟨a.nA,a.mA,a.fA,a.pA,a.nts ++ [tw],putK a.kvs (nkey n) (V.int ((marks u).length: Nat)),addM a.D⟩,?_⟩ sA zk
  have vn: valV a.kvs (nkey n) = none:=by rw [I.mv,q]; rfl
  refine ⟨bs5,⟨dx,?_⟩,?_,?_,?_,?_,?_,?_,?_,?_,?_,?_,?_,?_,?_,R.mark hn lt,I.np,I.own,?_,I.zo⟩
  ·rw [tk]
   exact k35 _ _ e3 (ne_of e3 p3 (by intro z; cases z))
  ·rw [List.map_append]
   exact k35 _ _ n3 I.np
  ·rw [nms,List.length_append,List.length_append,I.ntl]; rfl
  ·intro i t nm h1 h2
   rw [nms] at h2
   have h1: (a.nts ++ [tw])[i]? = some t:=h1
   by_cases z: i < (marks u).length
   ·rw [List.getElem?_append_left z] at h2
    rw [List.getElem?_append_left (by rw [I.ntl]; exact z)] at h1
    exact sA _ _ (I.nt i t nm h1 h2) trivial
   ·rw [List.getElem?_append_right (by omega)] at h2
    rw [List.getElem?_append_right (by rw [I.ntl]; omega),I.ntl] at h1
    cases y: i - (marks u).length with
    | succ m => rw [y] at h1; cases h1
    | zero =>
     rw [y] at h1 h2
     have h1: tw = t:=Option.some.inj h1
     have h2: n = nm:=Option.some.inj h2
     subst h1 h2
     exact s5 _ _ ht3 trivial
  ·exact k35 _ _ m3 (ne_of m3 p3 (by intro z; cases z))
  ·intro m
   rw [nms,Mh.numberIn_snoc hn]
   show valV (putK a.kvs (nkey n) (V.int ((marks u).length: Nat))) (nkey m) = _
   rw [valV_put]
   by_cases z: m = n
   ·subst z; rw [if_pos rfl,if_pos rfl]; rfl
   ·rw [if_neg z,if_neg (fun y => z (nkey_inj y)),I.mv]
  ·rw [nms]
   show (putK a.kvs (nkey n) (V.int ((marks u).length: Nat))).length = _
   rw [putK_new _ vn,List.length_append,List.length_append,I.ml]; rfl
  ·rw [p5,Mh.printed_snoc,Mh.codes_append,Mh.print_mark]; rfl
  ·obtain ⟨a3,G3⟩:=F3
   refine ⟨a3,(G3.frame (H':=H5) fun x o z h => ?_).wide fun x h => ?_⟩
   ·refine k35 x o z fun y => ?_
    subst y
    rcases h with (h | h) | h
    ·exact nX _ (.inr (.inr (.inr rfl))) h
    ·rw [p2] at h; cases h
    ·rw [p3] at z; cases z; exact h
   ·rcases h with h | h
    ·exact h
    ·refine ⟨?_,fun y => ?_,fun y => ?_,fun y => ?_,fun y => ?_,fun y => ?_⟩
     ·cases y: Hs x with
      | none => rfl
      | some o => rw [bs2 _ _ y (by simp)] at h; cases h
     ·rw [y,e2] at h; cases h
     ·have y: x = a.nA:=y
      rw [y,nn2] at h; cases h
     ·have y: x = a.mA:=y
      rw [y,m2] at h; cases h
     ·have y: x = a.pA:=y
      rw [y,p2] at h; cases h
     ·cases q0: H x with
      | none => exact I.zs x y q0
      | some o => rw [o12 x (fun q => I.zo.2.2.1 (q ▸ y)) (fun q => I.zo.2.1 (q ▸ y)),q0] at h; cases h
  ·rw [tk]; exact I.foF
  ·exact I.foC
  ·rw [nms,List.length_append]
   show (a.D.gs ++ [a.D.gs.length]).length = _
   rw [List.length_append,I.foN]; rfl
  ·show (a.D.ls ++ [0]).length = (a.D.gs ++ [a.D.gs.length]).length
   rw [List.length_append,List.length_append,I.foL]; rfl
  ·rw [nms,tk,List.length_append]
   have pl: (takeAll u).places.length = (marks u).length:=R.len
   show Mh.Lev ((marks u).length + 1) (gF (a.D.gs ++ [a.D.gs.length])) (lF (a.D.ls ++ [0])) ((takeAll u).places ++ [((takeAll u).places.length,0)])
   rw [pl]
   refine I.lev.mark pl (fun i hi => ?_) (fun i hi => ⟨gF_old (by rw [I.foN]; exact hi),lF_old (by rw [I.foL,I.foN]; exact hi)⟩) (fun i hi => ?_) 0
   ·have:=R.wf.ids i (by rw [pl]; exact hi)
    rw [pl] at this
    exact this
   ·obtain ⟨⟨g,h1,h2⟩,_⟩:=I.at_lt hi
    have:=F.idlt i g h1
    rw [<- I.foN,gF_last,h2]
    omega
  ·intro y zy z
   cases q0: H y with
   | none => exact I.zs y zy q0
   | some o => rw [zk y o zy q0] at z; cases z
end
end Mp
end
section
namespace Mp
open PySem PySem.Spec PyProof.Rows L2 Xc
open Mh (codes)
open Tide (marks takeAll numberIn printedLevels placeOf)
section
variable {P: Program} {w: World} {K: PySem.W.Frag} {mg: Str -> Option Value} {base: Heap}
theorem sc_aol: FnScope ["self","line","first","second","height"] ["self","line"] (defScope (sBk 2)):=⟨rfl,rfl,rfl,by decide +kernel,rfl,by decide +kernel,by decide +kernel⟩
theorem ok_aol (T: TxB K mg): FnOk P w K mg base (XC P w) 5 T.addOl.f T.addOl.fd ["self","line"] (spAddL T isOverL):=by
 have G: FnOk P w K mg base (XC P w) 2 T.fault.init.f T.fault.init.fd ["self","kind","place","more"] (spFltI K T.R):=ok_fltI T.r
 have GT: FnOk P w K mg base (XC P w) 4 T.toldM.f T.toldM.fd ["self","name"] (spTm K T.R T.bkC T.foC T.wordC):=ok_tm T
 have GG: FnOk P w K mg base (XC P w) 3 T.ringT.f T.ringT.fd ["self","first","second","height"] (spRing T.bkC T.foC):=ok_ring T
 have GH: FnOk P w K mg base (XC P w) 2 T.hgt.f T.hgt.fd ["signs"] spHgt:=ok_hgt T.toTxF.toTxC.toTxH
 have GP: FnOk P w K mg base (XC P w) 1 T.prt.f T.prt.fd ["height"] spPrt:=ok_prt T.toTxF.toTxC.toTxH
 have GO: FnOk P w K mg base (XC P w) 1 T.together.f T.together.fd ["self","one","other"] (spTog T.foC):=ok_tog T.toTxF
 have GR: FnOk P w K mg base (XC P w) 1 T.rise.f T.rise.fd ["self","lower","upper"] (spRise T.foC):=ok_rise T.toTxF
 have GL: FnOk P w K mg base (XC P w) 3 T.addLine.f T.addLine.fd ["self","number","first","second","height"] (spAl T.foC):=ok_al T.toTxF
 have GN: FnOk P w K mg base (XC P w) 1 T.noteP.f T.noteP.fd ["self","opening","words"] (spNote T.bkC):=ok_note T
 refine T.addOl.prove sc_aol (fun vs H Q E h => ?_) (fun cdv A outer s H vs Q E hr h => ?_)
 ·obtain ⟨b,l,Hs,Z,u,x,rfl,_⟩:=h
  rfl
 ·obtain ⟨b,l,Hs,Z,u,x,rfl,⟨a,I⟩,L,hsz,⟨na,nc,h,pa,pb,ph,rfl⟩,k1,k2⟩:=h
  obtain ⟨dl,w1,w2,w3,hs,hl,W1,W2,W3,hS⟩:=L
  obtain ⟨dx,e⟩:=I.ins
  have hr1: Room 1 _:=hr.mono (by decide)
  have hr2: Room 2 _:=hr.mono (by decide)
  have hr3: Room 3 _:=hr.mono (by decide)
  have R:=I.right
  have few:=R.few
  have hbd:=hS.bound
  have nX: ∀ x,(x = b \/ x = a.nA \/ x = a.mA \/ x = a.pA) -> ¬ bkX Hs Z b a x:=fun x h z => by
   rcases h with h | h | h | h
   ·exact z.2.1 h
   ·exact z.2.2.1 h
   ·exact z.2.2.2.1 h
   ·exact z.2.2.2.2.1 h
  have tail: ∃ t,PSs (cxOf (XC P w) P w K mg base ["self","line","first","second","height"] "Book.add_over_line" (defScope (sBk 2)) T.addOl.f cdv A outer s H E) ((defBody (sBk 2)).drop 5) t /\
    ∀ (H3: Hp) (D3: FoD) (v2 v3: Option V),H3 b = some (.ins T.bkC dx (bkf a (takeAll u).overs)) -> H3 a.nA = some (.lst (a.nts.map V.ref)) -> H3 a.mA = some (.dT a.kvs) -> H3 a.pA = some (.lst ((codes (printedLevels u)).map V.int)) -> FoAt T.foC H3 a.fA D3 (bkX Hs Z b a) -> Stay H H3 -> (∀ y o,Z y -> H y = some o -> H3 y = some o) -> But [] Hs H3 ->
     D3.F = (takeAll (u ++ [.over na nc h pa pb ph])).forest -> D3.c = D3.F.length -> D3.gs.length = (marks u).length -> D3.ls.length = D3.gs.length -> Mh.Lev (marks u).length (gF D3.gs) (lF D3.ls) (takeAll (u ++ [.over na nc h pa pb ph])).places -> (takeAll (u ++ [.over na nc h pa pb ph])).overs = (takeAll u).overs + 1 ->
     Tide.levelWrongs (marks u) (takeAll u) (.over na nc h pa pb ph) = [] /\ Mh.Right (u ++ [.over na nc h pa pb ph]) ->
     t { nx:=fun _ H' => Q .non H',rt:=Q } [some (.ref b),some (.ref l),v2,v3,some (.int h)] H3:=by
   refine ⟨_,pss_cons (ps_fldaug (pv 0) pe_int in_add)
    (pss_one (ps_expr (pe_meth (pv 0) T.bkCl T.noteP.m GN hr1 T.noteP.b .nil passX (pa_cons pe_str (pa_cons (pe_lst (pa_cons (pe_fld (pe_fld (pv 1) rfl) rfl) (pa_cons (pe_fld (pe_fld (pv 1) rfl) rfl) (pa_cons (pe_call GP hr1 rfl T.mgPrt T.kpPrt T.prt.b .nil passX (pa_cons (pv 4) pa_nil)) pa_nil)))) pa_nil))))),?_⟩
   intro H3 D3 v2 v3 e3 n3 m3 p3 F3 s3 zk3 bs3 dF dC dG dL lv ov good
   have nms: marks (u ++ [.over na nc h pa pb ph]) = marks u:=Mh.over_names
   refine ⟨_,rfl,b,T.bkC,dx,_,_,rfl,e3,T.bkCl,T.bkO,rfl,_,_,rfl,rfl,dx,_,e3,(by show 5 < 1000; decide),?_⟩
   have o4: ∀ x,x ≠ b -> upd H3 b (.ins T.bkC dx (putF "over_lines" (V.int (((takeAll u).overs: Int) + 1)) (bkf a (takeAll u).overs))) x = H3 x:=fun x z => upd_ne z
   have e4: upd H3 b (.ins T.bkC dx (putF "over_lines" (V.int (((takeAll u).overs: Int) + 1)) (bkf a (takeAll u).overs))) b = some (.ins T.bkC dx (bkf a ((takeAll u).overs + 1))):=by rw [upd_same]; rfl
   generalize hH4: upd H3 b (.ins T.bkC dx (putF "over_lines" (V.int (((takeAll u).overs: Int) + 1)) (bkf a (takeAll u).overs))) = H4 at *
   have nb: ∀ x o,H3 x = some o -> (∀ d,o ≠ .ins T.bkC d (bkf a (takeAll u).overs)) -> x ≠ b:=fun x o z c y => by rw [y,e3] at z; cases z; exact c _ rfl
   have s4: Stay H3 H4:=fun x o z c => by
    rw [o4 x (fun y => by rw [y,e3] at z; cases z; rcases c with c | c | c <;> exact absurd c (by decide))]; exact z
   have bs4: But [] Hs H4:=fun x o z _ => by rw [o4 x (ne_of_none z I.own.1)]; exact bs3 x o z (by simp)
   have sA:=s3.trans s4
   have hl4:=sA _ _ hl (.inr (.inr rfl))
   obtain ⟨d1,t1,hw1,ht1⟩:=W1.stay sA
   obtain ⟨d2,t2,hw2,ht2⟩:=W2.stay sA
   have n4: H4 a.nA = _:=(o4 _ (nb _ _ n3 (by intro _ z; cases z))).trans n3
   have m4: H4 a.mA = _:=(o4 _ (nb _ _ m3 (by intro _ z; cases z))).trans m3
   have p4: H4 a.pA = _:=(o4 _ (nb _ _ p3 (by intro _ z; cases z))).trans p3
   refine ⟨_,rfl,b,dx,_,rfl,e4,rfl,_,rfl,l,T.overC,dl,_,_,rfl,hl4,T.overCl,T.overF,rfl,w1,T.wordC,d1,_,_,rfl,hw1,T.wordCl,T.wordS,rfl,
    _,rfl,l,T.overC,dl,_,_,rfl,hl4,T.overCl,T.overS,rfl,w2,T.wordC,d2,_,_,rfl,hw2,T.wordCl,T.wordS,rfl,_,rfl,h,rfl,hbd,fun l3 hl3 => ?_⟩
   refine ⟨(by show 3 <= sizeLine; decide),fun wl hwl => ?_⟩
   have k45: ∀ x o,H4 x = some o -> upd (upd H4 l3 (.lst ((Mh.printedN h).map fun (c: Nat) => V.int (c: Int)))) wl (.lst [V.ref t1,V.ref t2,V.ref l3]) x = some o:=fun x o z => upd_new hwl _ _ (upd_new hl3 _ _ z)
   have n3w: l3 ≠ wl:=fun z => by rw [<- z,upd_same] at hwl; cases hwl
   have l35: upd (upd H4 l3 (.lst ((Mh.printedN h).map fun (c: Nat) => V.int (c: Int)))) wl (.lst [V.ref t1,V.ref t2,V.ref l3]) l3 = some (.lst (((Mh.printedN h).map fun (c: Nat) => (c: Int)).map V.int)):=by
    rw [upd_ne n3w,upd_same,List.map_map]; rfl
   have wp: wl ≠ a.pA:=fun z => by rw [z,upd_new hl3 _ _ p4] at hwl; cases hwl
   have lp: l3 ≠ a.pA:=fun z => by rw [z,p4] at hl3; cases hl3
   have pr: codes (printedLevels (u ++ [.over na nc h pa pb ph])) = codes (printedLevels u) ++ noted [111,118,101,114,32] [codes na,codes nc,(Mh.printedN h).map fun (c: Nat) => (c: Int)]:=by
    rw [Mh.printed_snoc,Mh.codes_append,Mh.print_over]
    simp [noted]
   have hsz': (codes (printedLevels u) ++ noted [111,118,101,114,32] [codes na,codes nc,(Mh.printedN h).map fun (c: Nat) => (c: Int)]).length <= sizeLine:=by
    rw [<- pr,Mh.codes_length]; exact hsz
   refine ⟨b,dx,a.pA,wl,_,codes (printedLevels u),_,[111,118,101,114,32],[t1,t2,l3],codes na,[codes nc,(Mh.printedN h).map fun (c: Nat) => (c: Int)],rfl,k45 _ _ e4,rfl,k45 _ _ p4,(by decide +kernel),(by decide),upd_same,wp,⟨rfl,fun i x cs h1 h2 => ?_⟩,hsz',fun H5 p5 b5 => ?_⟩
   ·match i,h1,h2 with
    | 0,h1,h2 =>
     have h1: t1 = x:=Option.some.inj h1
     have h2: codes na = cs:=Option.some.inj h2
     subst h1 h2
     exact ⟨ne_of ht1 p4 (by intro z; cases z),.inr (k45 _ _ ht1)⟩
    | 1,h1,h2 =>
     have h1: t2 = x:=Option.some.inj h1
     have h2: codes nc = cs:=Option.some.inj h2
     subst h1 h2
     exact ⟨ne_of ht2 p4 (by intro z; cases z),.inr (k45 _ _ ht2)⟩
    | 2,h1,h2 =>
     have h1: l3 = x:=Option.some.inj h1
     have h2: (Mh.printedN h).map (fun (c: Nat) => (c: Int)) = cs:=Option.some.inj h2
     subst h1 h2
     exact ⟨lp,.inl l35⟩
    | i + 3,h1,h2 => cases h1
   have kk: ∀ x o,H4 x = some o -> x ≠ a.pA -> H5 x = some o:=fun x o z y => b5 _ _ (k45 _ _ z) (by simpa using y)
   have s5: Stay H4 H5:=fun x o z c => kk x o z fun y => by rw [y,p4] at z; cases z; exact c
   have bs5: But [] Hs H5:=fun x o z _ => kk _ _ (bs4 x o z (by simp)) (ne_of_none z I.own.2.2.2)
   have zk: ∀ y o,Z y -> H y = some o -> H5 y = some o:=fun y o zy z =>
    kk y o (by rw [o4 y (fun q => I.zo.1 (q ▸ zy))]; exact zk3 y o zy z) (fun q => I.zo.2.2.2 (q ▸ zy))
   refine k1 H5 good.1 ⟨⟨a.nA,a.mA,a.fA,a.pA,a.nts,a.kvs,D3⟩,?_⟩ (sA.trans s5) zk
   refine ⟨bs5,⟨dx,?_⟩,kk _ _ n4 I.np,by rw [nms]; exact I.ntl,fun i t nm h1 h2 => ?_,kk _ _ m4 (ne_of m4 p4 (by intro z; cases z)),fun nm => by rw [nms]; exact I.mv nm,by rw [nms]; exact I.ml,?_,?_,dF,dC,by rw [nms]; exact dG,dL,by rw [nms]; exact lv,good.2,I.np,I.own,(fun y zy z => by
    cases q0: H y with
    | none => exact I.zs y zy q0
    | some o => rw [zk y o zy q0] at z; cases z),I.zo⟩
   ·rw [ov]
    exact kk _ _ e4 (ne_of e4 p4 (by intro z; cases z))
   ·rw [nms] at h2
    exact (sA.trans s5) _ _ (I.nt i t nm h1 h2) trivial
   ·rw [p5,pr]
   ·obtain ⟨a3,G3⟩:=F3
    refine ⟨a3,G3.frame (H':=H5) fun x o z y => ?_⟩
    have xb: x ≠ b:=fun q => by
     subst q
     rcases y with y | y
     ·exact nX _ (.inl rfl) y
     ·rw [e3] at z; cases z; rcases y with c | c | c <;> exact absurd c (by decide)
    refine kk x o (by rw [o4 x xb]; exact z) fun q => ?_
    subst q
    rcases y with y | y
    ·exact nX _ (.inr (.inr (.inr rfl))) y
    ·rw [p3] at z; cases z; exact y
  obtain ⟨t,hu,hw⟩:=tail
  refine ⟨_,pss_cons (ps_set (i:=2) sc_aol.nd rfl (Or.inl rfl) (pe_meth (pv 0) T.bkCl T.toldM.m GT hr T.toldM.b .nil passX (pa_cons (pe_fld (pv 1) rfl) pa_nil)))
   (pss_cons (ps_set (i:=3) sc_aol.nd rfl (Or.inl rfl) (pe_meth (pv 0) T.bkCl T.toldM.m GT hr T.toldM.b .nil passX (pa_cons (pe_fld (pv 1) rfl) pa_nil)))
   (pss_cons (ps_if (pt_cmpR op_eq (pv 2) (pv 3) (nomark _)) (pss_one (ps_raise rfl raisesX (pe_xmake T.fault.made G hr3 rfl T.fault.mgC T.fault.init.b passX (pa_cons (pe_gi rfl T.kSame) (pa_cons (pe_fld (pe_fld (pv 1) rfl) rfl) (pa_cons (pe_lst pa_nil) pa_nil)))))) pss_nil)
   (pss_cons (ps_set (i:=4) sc_aol.nd rfl (Or.inl rfl) (pe_call GH hr2 rfl T.mgHgt T.kpHgt T.hgt.b .nil passX (pa_cons (pe_fld (pe_fld (pv 1) rfl) rfl) pa_nil)))
   (pss_cons (ps_if (pt_not (pt_val (pe_meth (pe_fld (pv 0) rfl) T.foCl T.together.m GO hr1 T.together.b .nil passX (pa_cons (pv 2) (pa_cons (pv 3) pa_nil)))))
    (pss_one (ps_expr (pe_meth (pe_fld (pv 0) rfl) T.foCl T.addLine.m GL hr3 T.addLine.b .nil passX (pa_cons (pe_fld (pv 0) rfl) (pa_cons (pv 2) (pa_cons (pv 3) (pa_cons (pv 4) pa_nil)))))))
    (pss_one (ps_if (pt_cmpR op_ne (pe_meth (pe_fld (pv 0) rfl) T.foCl T.rise.m GR hr1 T.rise.b .nil passX (pa_cons (pv 2) (pa_cons (pv 3) pa_nil))) (pv 4) (nomark _))
     (pss_one (ps_raise rfl raisesX (pe_xmake T.fault.made G hr3 rfl T.fault.mgC T.fault.init.b passX (pa_cons (pe_gi rfl T.kDis) (pa_cons (pe_fld (pe_fld (pv 1) rfl) rfl) (pa_cons (pe_meth (pv 0) T.bkCl T.ringT.m GG hr3 T.ringT.b .nil passX (pa_cons (pv 2) (pa_cons (pv 3) (pa_cons (pv 4) pa_nil)))) pa_nil)))))) pss_nil))) hu)))),?_⟩
  refine ⟨_,rfl,b,dx,_,rfl,e,rfl,_,rfl,l,T.overC,dl,_,_,rfl,hl,T.overCl,T.overF,rfl,b,w1,Hs,Z,u,na,pa,rfl,⟨a,I⟩,W1,fun i hi => ?_,fun q a' H' t' bb => k2 _ a' H' (.no1 q) t' fun x o z _ => bb _ _ (I.base _ _ z (by simp)) (by simp)⟩
  refine ⟨_,rfl,b,dx,_,rfl,e,rfl,_,rfl,l,T.overC,dl,_,_,rfl,hl,T.overCl,T.overS,rfl,b,w2,Hs,Z,u,nc,pb,rfl,⟨a,I⟩,W2,fun j hj => ?_,fun q a' H' t' bb => k2 _ a' H' (.no2 hi q) t' fun x o z _ => bb _ _ (I.base _ _ z (by simp)) (by simp)⟩
  have li:=(Mh.numberIn_some hi).2
  have lj:=(Mh.numberIn_some hj).2
  refine ⟨_,rfl,_,rfl,rfl,_,rfl,?_⟩
  rw [dec_n]
  refine iteB (fun q => ?_) (fun q => ?_)
  ·have q: i = j:=of_decide_eq_true q
   subst q
   obtain ⟨d2,t2,hw2,ht2⟩:=W2
   refine ⟨_,rfl,l,T.overC,dl,_,_,rfl,hl,T.overCl,T.overS,rfl,w2,T.wordC,d2,_,_,rfl,hw2,T.wordCl,T.wordP,rfl,Nat.zero_le _,fun x hx => ?_⟩
   exact flt_end T.r (ms:=[]) upd_same (Nat.zero_le _) fun a' H' t' bb => k2 _ a' H' (.same hi hj) t' fun b' o e' _ => bb _ _ (upd_new hx _ _ (I.base _ _ e' (by simp))) (by simp)
  have ij: i ≠ j:=of_decide_eq_false q
  obtain ⟨d3,t3,hw3,ht3⟩:=id W3
  refine ⟨_,rfl,l,T.overC,dl,_,_,rfl,hl,T.overCl,T.overH,rfl,w3,T.wordC,d3,_,_,rfl,hw3,T.wordCl,T.wordS,rfl,t3,hs,h,rfl,ht3,hS,fun H1 b1 => ?_⟩
  have I1: BkIn T.bkC T.foC Hs Z H1 b u a:=I.frame (fun x o z _ => b1 _ _ (I.base x o z (by simp)) (by simp)) (fun x o z _ => b1 x o z (by simp))
  have s1: Stay H H1:=Stay.but0 b1
  have e1:=b1 _ _ e (by simp)
  have hl1:=b1 _ _ hl (by simp)
  obtain ⟨aF,F1⟩:=I1.fo
  obtain ⟨df,ef⟩:=F1.ins
  obtain ⟨⟨gi,hgi,vgi⟩,zi,hzi,vzi⟩:=I1.at_lt li
  obtain ⟨⟨gj,hgj,vgj⟩,zj,hzj,vzj⟩:=I1.at_lt lj
  have gsame: gi = gj ↔ (placeOf (takeAll u).places i).1 = (placeOf (takeAll u).places j).1:=by
   rw [<- I1.lev.same i j li lj,vgi,vgj]; omega
  have tks: takeAll (u ++ [.over na nc h pa pb ph]) = Tide.take (marks u) (takeAll u) (.over na nc h pa pb ph):=Mh.takeAll_snoc _ _
  refine ⟨_,rfl,b,T.bkC,dx,_,_,rfl,e1,T.bkCl,T.bkF,rfl,a.fA,df,_,rfl,ef,rfl,_,rfl,_,rfl,a.fA,a.D,_,i,j,gi,gj,rfl,⟨aF,F1⟩,hgi,hgj,_,rfl,iteB (fun q2 => ?_) (fun q2 => ?_)⟩
  ·-- two groups are joined
   have q2: ¬ gi = gj:=by simpa using q2
   have gp: (placeOf (takeAll u).places i).1 ≠ (placeOf (takeAll u).places j).1:=fun z => q2 (gsame.mpr z)
   have lF1: a.D.F.length <= 1024:=by
    have:=R.wf.count
    have:=R.len
    rw [I.foF]; omega
   refine ⟨_,rfl,b,T.bkC,dx,_,_,rfl,e1,T.bkCl,T.bkF,rfl,a.fA,df,_,rfl,ef,rfl,_,rfl,b,T.bkC,dx,_,_,rfl,e1,T.bkCl,T.bkO,rfl,_,rfl,_,rfl,_,rfl,a.fA,a.D,_,⟨(takeAll u).overs,i,j,h⟩,gi,gj,rfl,⟨aF,F1⟩,hgi,hgj,q2,(by rw [I.foN]; exact few),lF1,fun H2 gs' ls' J F2 b2 => ?_⟩
   have tj:=Mh.take_join (h:=h) (p:=pa) (q:=pb) (r:=ph) hi hj ij gp
   have lK: a.D.ls.length = a.D.gs.length:=I.foL
   refine hw H2 _ _ _ (b2 _ _ e1 (.inl (nX _ (.inl rfl)))) (b2 _ _ I1.n (.inl (nX _ (.inr (.inl rfl))))) (b2 _ _ I1.m (.inl (nX _ (.inr (.inr (.inl rfl)))))) (b2 _ _ I1.p (.inl (nX _ (.inr (.inr (.inr rfl)))))) F2 (s1.trans b2.stay) (fun y o zy z => b2 y o (b1 y o z (by simp)) (.inl fun q => q.2.2.2.2.2 zy))
    (fun x o z _ => b2 _ _ (I1.base x o z (by simp)) (.inl fun y => by rw [y.1] at z; cases z)) ?_ ?_ ?_ ?_ ?_ ?_ (R.join hi hj ij gp)
   ·rw [tks,tj,I.foF]; rfl
   ·show a.D.c + 1 = (a.D.F ++ [_]).length
    rw [List.length_append,I.foC]; rfl
   ·show gs'.length = _
    rw [J.1,I.foN]
   ·obtain ⟨a2,G2⟩:=F2
    exact G2.lenL
   ·rw [tks,tj]
    show Mh.Lev _ (gF gs') (lF ls') (Tide.joined (takeAll u).places ⟨(takeAll u).overs,i,j,h⟩)
    refine I1.lev.join R.len (x:=⟨(takeAll u).overs,i,j,h⟩) li lj gp ?_
    have:=J.2
    rw [I.foN] at this
    exact this
   ·rw [tks,tj]; rfl
  ·have q2: gi = gj:=by simpa using q2
   have gp:=gsame.mp q2
   have lv:=I1.lev.lev i j li lj ((I1.lev.same i j li lj).mpr gp)
   rw [vzi,vzj] at lv
   refine ⟨_,rfl,b,T.bkC,dx,_,_,rfl,e1,T.bkCl,T.bkF,rfl,a.fA,df,_,rfl,ef,rfl,_,rfl,_,rfl,a.fA,a.D,_,i,j,zi,zj,rfl,⟨aF,F1⟩,hzi,hzj,_,rfl,rfl,_,rfl,?_⟩
   rw [dec_i]
   refine iteB (fun q3 => ?_) (fun q3 => ?_)
   ·-- it disagrees
    have q3: zj - zi ≠ h:=by simpa using q3
    rw [lv] at q3
    obtain ⟨d3',t3',hw3',_⟩:=W3.stay s1
    refine ⟨_,rfl,l,T.overC,dl,_,_,rfl,hl1,T.overCl,T.overH,rfl,w3,T.wordC,d3',_,_,rfl,hw3',T.wordCl,T.wordP,rfl,_,rfl,b,dx,_,rfl,e1,rfl,_,rfl,_,rfl,_,rfl,b,Hs,Z,u,i,j,h,rfl,⟨a,I1⟩,li,lj,gp,fun m H2 p hm tr nb pl b2 => ?_⟩
    refine flt_end T.r hm (by simp [Tide.asInts]; omega) fun a' H' t' bb => k2 _ a' H' (.ring hi hj ij gp q3 tr nb) t' fun x o z _ => bb _ _ (b2 _ _ (I1.base x o z (by simp)) (by simp)) (by simp)
   ·-- it agrees
    have q3: zj - zi = h:=by simpa using q3
    rw [lv] at q3
    have tj:=Mh.take_agree (p:=pa) (q:=pb) (r:=ph) hi hj ij gp q3
    exact hw H1 a.D _ _ e1 I1.n I1.m I1.p I1.fo s1 (fun y o _ z => b1 y o z (by simp)) I1.base (by rw [tks,tj]; exact I.foF) I.foC I.foN I.foL (by rw [tks,tj]; exact I.lev) (by rw [tks,tj]) (R.agree hi hj ij gp q3)
end
end Mp
end
section
namespace Mp
open PySem PySem.Spec PyProof.Rows L2 Xc
open Mh (codes linesFrom)
open Tide (marks takeAll numberIn printedLevels placeOf)
theorem call_isinst {X: Cx}: CallR X (.builtin "isinstance") (fun xs H Q => ∃ x C t b,xs = [x,V.ref C] /\ TyOf X.K H x t /\ PySem.W.kitOne X.K t (.ref C) = some b /\ Q (.bl b) H):=by
 intro pins s σ H xs us Q I r h
 obtain ⟨x,C,t,b,rfl,ty,hk,q⟩:=h
 obtain ⟨u,u2,rfl,r1,r2⟩:=vals2 r
 obtain rfl: u2 = Value.ref C:=r2
 exact isinst_ok I r1 ty hk fun tk => ⟨.bl b,H,I.tok tk,rfl,q⟩
structure TxK (K: PySem.W.Frag) (mg: Str -> Option Value) extends TxB K mg
theorem BkIn.shift {C Cf: Addr} {Hs H H': Hp} {b: Addr} {u: List Tide.Level} {A: BkA} (I: BkIn C Cf Hs (fun _ => False) H b u A) (bb: But [] H H') {la: Addr} (h0: H la = none) {o: HO} (h1: H' la = some o): BkIn C Cf Hs (fun a => a = la) H' b u A:=by
 have J: BkIn C Cf Hs (fun _ => False) H' b u A:=I.frame (fun x o z _ => bb _ _ (I.base x o z (by simp)) (by simp)) (fun x o z _ => bb x o z (by simp))
 have ne: ∀ x o,H x = some o -> ¬ x = la:=fun x o z q => by rw [q,h0] at z; cases z
 obtain ⟨dx,e⟩:=I.ins
 refine ⟨J.base,J.ins,J.n,J.ntl,J.nt,J.m,J.mv,J.ml,J.p,?_,J.foF,J.foC,J.foN,J.foL,J.lev,J.right,J.np,J.own,(fun a ha => by rw [ha,h1]; exact fun z => by cases z),ne _ _ e,ne _ _ I.n,ne _ _ I.m,ne _ _ I.p⟩
 obtain ⟨a,F⟩:=I.fo
 refine ⟨a,(F.tight.frame (H':=H') fun x o z _ => bb x o z (by simp)).wide fun x h => ?_⟩
 obtain ⟨h2,h3⟩:=h
 exact ⟨h2.1,h2.2.1,h2.2.2.1,h2.2.2.2.1,h2.2.2.2.2.1,fun z => h3 (by rw [z]; exact h0)⟩
theorem printed_take {ls: List Tide.Level} (i: Nat): (printedLevels (ls.take i)).length <= (printedLevels ls).length:=by
 have h: printedLevels (ls.take i ++ ls.drop i) = printedLevels (ls.take i) ++ printedLevels (ls.drop i):=by
  unfold printedLevels
  rw [List.flatMap_append]
 rw [List.take_append_drop] at h
 rw [h,List.length_append]
 omega
section
variable {P: Program} {w: World} {K: PySem.W.Frag} {mg: Str -> Option Value} {base: Heap}
def spRead (T: TxK K mg): Sp:=fun vs H Q E => ∃ (tx: Addr) (b: Tide.Bytes),vs = [.ref tx] /\ H tx = some (.lst ((codes b).map V.int)) /\ b.length < sizeLine /\
 (∀ ls,linesFrom b 0 = .ok ls -> Tide.allLevelWrongs ls = [] -> ∀ bk Z H',BkAt T.bkC T.foC H Z H' bk ls -> Q (.ref bk) H') /\
 (∀ p,linesFrom b 0 = .error p -> ∀ a H',Told K T.R H' a [-6,1,p] -> But [] H H' -> E (.ref a) none H') /\
 (∀ u x r ns,linesFrom b 0 = .ok (u ++ x :: r) -> Tide.allLevelWrongs u = [] -> Mh.Right u -> Mh.Wrong u x ns -> ∀ a H',Told K T.R H' a ns -> But [] H H' -> E (.ref a) none H')
theorem sc_read: FnScope ["text","book","line"] ["text"] (defScope (top 58)):=⟨rfl,rfl,rfl,by decide +kernel,rfl,by decide +kernel,by decide +kernel⟩
theorem ok_read (T: TxK K mg): FnOk P w K mg base (XC P w) 10 T.readB.f T.readB.fd ["text"] (spRead T):=by
 have GB: FnOk P w K mg base (XC P w) 3 T.bkI.f T.bkI.fd ["self"] (spBkI T.bkC T.foC):=ok_bkI T.toTxB
 have GL: FnOk P w K mg base (XC P w) 9 T.linesOf.f T.linesOf.fd ["text"] (spLines T.l):=ok_lines T.l
 have GM: FnOk P w K mg base (XC P w) 4 T.addMl.f T.addMl.fd ["self","line"] (spAddL T.toTxB isMarkL):=ok_aml T.toTxB
 have GO: FnOk P w K mg base (XC P w) 5 T.addOl.f T.addOl.fd ["self","line"] (spAddL T.toTxB isOverL):=ok_aol T.toTxB
 refine T.readB.prove sc_read (fun vs H Q E h => ?_) (fun cdv A outer s H vs Q E hr h => ?_)
 ·obtain ⟨tx,b,rfl,_⟩:=h
  rfl
 ·obtain ⟨tx,b,rfl,htx,hbl,k1,k2,k3⟩:=h
  have hr4: Room 4 _:=hr.mono (by decide)
  have hr5: Room 5 _:=hr.mono (by decide)
  refine ⟨_,pss_cons (ps_set (i:=1) sc_read.nd rfl (Or.inl rfl) (pe_make0 T.bkMk GB hr4 rfl T.mgBk T.bkI.b .nil passX))
   (pss_cons (ps_for PassesOwn.leaving rfl (pi_list (pe_call GL hr rfl T.mgLines T.kpLines T.linesOf.b .nil passX (pa_cons (pv 0) pa_nil))) (pg_name (i:=2) sc_read.nd rfl (Or.inl rfl))
    (pss_one (ps_if (pt_val (pe_callB call_isinst (by rfl) T.isiN bo_isinstance (pa_cons (pv 2) (pa_cons (pe_glob (v:=.ref T.markC) rfl T.mgMark rfl) pa_nil))))
     (pss_one (ps_expr (pe_meth (pv 1) T.bkCl T.addMl.m GM hr4 T.addMl.b .nil passX (pa_cons (pv 2) pa_nil))))
     (pss_one (ps_expr (pe_meth (pv 1) T.bkCl T.addOl.m GO hr5 T.addOl.b .nil passX (pa_cons (pv 2) pa_nil)))))))
   (pss_one (ps_ret (pv 1)))),?_⟩
  intro bk dx hb0 hd0 ne
  refine ⟨bk,dx,H,rfl,upd_same,fun x o z _ => by rw [upd_ne (ne_of_none z hb0),upd_ne (ne_of_none z hd0)]; exact z,hb0,fun H1 ⟨a1,I1⟩ => ⟨rfl,?_⟩⟩
  refine ⟨_,rfl,tx,b,rfl,I1.base _ _ htx (by simp),hbl,fun ls hls la as H2 h2 hla L2' b2 => ?_,fun p hp a H2 t b2 => k2 p hp a H2 t fun x o z _ => b2 _ _ (I1.base x o z (by simp)) (by simp)⟩
  have J2:=I1.shift b2 hla h2
  have pl: (printedLevels ls).length <= sizeLine:=Nat.le_trans (Mh.printed_le (b:=b) (by rw [Mh.grammar_from]; exact hls)) (Nat.le_of_lt hbl)
  refine ⟨la,rfl,⟨_,SqL.of h2⟩,for_list (xs:=as.map V.ref) (fun i σ Hx => (∃ v,σ = [some (.ref tx),some (.ref bk),v]) /\ BkAt T.bkC T.foC H (fun a => a = la) Hx bk (ls.take i) /\ Tide.allLevelWrongs (ls.take i) = [] /\ T.l.lns Hx as ls /\ Hx la = some (.lst (as.map V.ref)))
   ⟨⟨_,rfl⟩,⟨a1,J2⟩,rfl,L2',h2⟩ ?_ ?_ ?_⟩
  ·rintro i σ Hx _ ⟨_,_,_,_,h⟩
   exact SqL.of h
  ·rintro i x σ Hx hx ⟨⟨v,rfl⟩,Bx,wx,Lx,hx2⟩
   rw [List.getElem?_map] at hx
   cases hq: as[i]? with
   | none => rw [hq] at hx; cases hx
   | some l =>
    rw [hq] at hx
    have hx: V.ref l = x:=Option.some.inj hx
    subst hx
    obtain ⟨lv,hlv⟩: ∃ lv,ls[i]? = some lv:=⟨_,List.getElem?_eq_getElem (by rw [<- Lx.len]; exact (List.getElem?_eq_some_iff.mp hq).1)⟩
    have tk: ls.take (i + 1) = ls.take i ++ [lv]:=by rw [List.take_add_one,hlv]; rfl
    have LA:=Lx.at_ i l lv hq hlv
    have szx: (printedLevels (ls.take i ++ [lv])).length <= sizeLine:=by
     rw [<- tk]; exact Nat.le_trans (printed_take _) pl
    have split: ls = ls.take i ++ lv :: ls.drop (i + 1):=by
     have:=(List.take_append_drop (i + 1) ls).symm
     rw [tk,List.append_assoc] at this
     exact this
    obtain ⟨ax,Ix⟩:=id Bx
    obtain ⟨dbx,ebx⟩:=Ix.ins
    have good: ∀ H',Tide.levelWrongs (marks (ls.take i)) (takeAll (ls.take i)) lv = [] -> BkAt T.bkC T.foC H (fun a => a = la) H' bk (ls.take i ++ [lv]) -> Stay Hx H' -> (∀ y o,y = la -> Hx y = some o -> H' y = some o) ->
      (∃ v,([some (.ref tx),some (.ref bk),some (.ref l)]: L2.St) = [some (.ref tx),some (.ref bk),v]) /\ BkAt T.bkC T.foC H (fun a => a = la) H' bk (ls.take (i + 1)) /\ Tide.allLevelWrongs (ls.take (i + 1)) = [] /\ T.l.lns H' as ls /\ H' la = some (.lst (as.map V.ref)):=fun H' hw hB hS hZ =>
     ⟨⟨_,rfl⟩,by rw [tk]; exact hB,by rw [tk,Mh.allWrongs_snoc,wx,hw]; rfl,Lx.stay hS,hZ la _ rfl hx2⟩
    have bad: ∀ ns a H',Mh.Wrong (ls.take i) lv ns -> Told K T.R H' a ns -> But [] H H' -> E (.ref a) none H':=fun ns a H' hw ht hb =>
     k3 (ls.take i) lv (ls.drop (i + 1)) ns (by rw [hls,<- split]) wx Ix.right hw a H' ht hb
    cases lv with
    | mark n p =>
     obtain ⟨dl,w',hl,_⟩:=id LA
     refine ⟨_,rfl,_,T.markC,_,true,rfl,T.tyM Hx l dl _ hl,T.kMM,_,rfl,iteB (fun _ => ?_) (fun z => by cases z)⟩
     exact ⟨_,rfl,bk,dbx,_,rfl,ebx,rfl,_,rfl,bk,l,H,_,ls.take i,_,rfl,Bx,LA,szx,⟨n,p,rfl⟩,good,bad⟩
    | over na nc h pa pb ph =>
     obtain ⟨dl,w1,w2,w3,hs,hl,_⟩:=id LA
     refine ⟨_,rfl,_,T.markC,_,false,rfl,T.tyO Hx l dl _ hl,T.kOM,_,rfl,iteB (fun z => by cases z) (fun _ => ?_)⟩
     exact ⟨_,rfl,bk,dbx,_,rfl,ebx,rfl,_,rfl,bk,l,H,_,ls.take i,_,rfl,Bx,LA,szx,⟨na,nc,h,pa,pb,ph,rfl⟩,good,bad⟩
  ·rintro σ Hx ⟨⟨v,rfl⟩,Bx,wx,Lx,_⟩
   rw [List.length_map,Lx.len,List.take_length] at Bx wx
   exact ⟨_,rfl,k1 ls hls wx bk _ Hx Bx⟩
end
end Mp
end
section
namespace Mp
open PySem PySem.Spec PyProof.Rows L2 Xc
theorem bo_min: bootBuiltins "min" = some (.builtin "min"):=by decide +kernel
section
variable {X: Cx} {K: PySem.W.Frag}
theorem pe_fldK {e: Expr} {f: Str} {pos: Pos} {ta: TE} (hK: X.K = K) (he: PE X e ta) (hb: attributeBase e f X.env (eval e X.env) = eval e X.env): PE X (.Attribute e f pos) (tFld K ta f):=by
 subst hK
 exact pe_fld he hb
theorem ix_listK (hK: X.K = K): IxR X (rIxL K):=by
 subst hK
 exact ix_list
end
section
variable {P: Program} {w: World} {K: PySem.W.Frag} {mg: Str -> Option Value} {base: Heap}
def spExt (C: Addr) (z: Int): Sp:=fun vs H Q _ => ∃ (f: Addr) (D: FoD) (X: Addr -> Prop) (i g: Nat),vs = [.ref f,nV i] /\ FoAt C H f D X /\ D.gs[i]? = some g /\ D.gs.length <= 1024 /\
 ∀ (m: Nat) (H': Hp),D.gs[m]? = some g -> (∀ j: Nat,D.gs[j]? = some g -> lt2 (z * lF D.ls j,(j: Int)) (z * lF D.ls m,(m: Int)) = false) -> But [] H H' -> Q (nV m) H'
def Ends (D: FoD) (z: Int) (H: Hp) (L: Addr) (ms: List Nat) (k: Nat) (H': Hp): Prop:=But [] H H' /\ ∃ ts: List Addr,H' L = some (.lst (ts.map V.ref)) /\ ts.length = k /\ ∀ (j: Nat) (t: Addr) (m: Nat),ts[j]? = some t -> ms[j]? = some m -> H' t = some (.tup [.int (z * lF D.ls m),nV m])
theorem Ends.snoc {D: FoD} {z: Int} {H H': Hp} {L: Addr} {ms: List Nat} {k m: Nat} (e: Ends D z H L ms k H') (hL: H L = none) (hm: ms[k]? = some m) (hk: k < sizeLine) {t: Addr} (ht: H' t = none) :
  ∃ acc,upd H' t (.tup [.int (z * lF D.ls m),nV m]) L = some (.lst acc) /\ acc.length < sizeLine /\ Ends D z H L ms (k + 1) (upd (upd H' t (.tup [.int (z * lF D.ls m),nV m])) L (.lst (acc ++ [.ref t]))):=by
 obtain ⟨b,ts,h1,h2,h3⟩:=e
 have tL: L ≠ t:=ne_of_none h1 ht
 refine ⟨ts.map V.ref,upd_new ht _ _ h1,by rw [List.length_map,h2]; exact hk,fun a o e n => ?_,ts ++ [t],by rw [upd_same,List.map_append]; rfl,by rw [List.length_append,h2]; rfl,fun j t' m' e1 e2 => ?_⟩
 ·rw [upd_ne (ne_of_none e hL)]; exact upd_new ht _ _ (b a o e n)
 ·by_cases q: j < ts.length
  ·rw [List.getElem?_append_left q] at e1
   have:=h3 j t' m' e1 e2
   rw [upd_ne (ne_of this h1 (by intro z; cases z))]
   exact upd_new ht _ _ this
  ·rw [List.getElem?_append_right (by omega)] at e1
   cases q2: j - ts.length with
   | zero =>
    rw [q2] at e1
    obtain rfl: t = t':=Option.some.inj e1
    obtain rfl: j = k:=by omega
    rw [hm] at e2
    obtain rfl: m = m':=Option.some.inj e2
    rw [upd_ne (Ne.symm tL)]; exact upd_same
   | succ r => rw [q2] at e1; cases e1
theorem Ends.least {D: FoD} {z: Int} {H H': Hp} {L: Addr} {ms: List Nat} (e: Ends D z H L ms ms.length H') (ne: ms ≠ []) {R: VK}
  (k: ∀ (t: Addr) (m: Nat),m ∈ ms -> H' t = some (.tup [.int (z * lF D.ls m),nV m]) -> (∀ j ∈ ms,lt2 (z * lF D.ls j,(j: Int)) (z * lF D.ls m,(m: Int)) = false) -> R (.ref t) H'): rMin2 K [.ref L] H' R:=by
 obtain ⟨b,ts,h1,h2,h3⟩:=e
 have at': ∀ (i: Nat) p,(ms.map fun m => (z * lF D.ls m,(m: Int)))[i]? = some p -> ∃ m,ms[i]? = some m /\ p = (z * lF D.ls m,(m: Int)):=fun i p hp => by
  rw [List.getElem?_map] at hp
  cases q: ms[i]? with
  | none => rw [q] at hp; cases hp
  | some m => rw [q] at hp; exact ⟨m,rfl,(Option.some.inj hp).symm⟩
 refine ⟨L,ts,ms.map fun m => (z * lF D.ls m,(m: Int)),rfl,SqL.of h1,by rw [h2]; exact List.length_pos_iff.mpr ne,by rw [h2,List.length_map],fun i t p ht hp => ?_,fun i t p ht hp hl => ?_⟩
 ·obtain ⟨m,hm,rfl⟩:=at' i p hp
  exact SqT.of (h3 i t m ht hm)
 ·obtain ⟨m,hm,rfl⟩:=at' i p hp
  exact k t m (List.mem_of_getElem? hm) (h3 i t m ht hm) fun j hj => hl _ (List.mem_map.mpr ⟨j,hj,rfl⟩)
theorem sc_lo: FnScope ["self","mark","each"] ["self","mark"] (defScope (sFo 7)):=⟨rfl,rfl,rfl,by decide +kernel,rfl,by decide +kernel,by decide +kernel⟩
theorem ok_lo (T: TxF K mg): FnOk P w K mg base (XC P w) 2 T.lowest.f T.lowest.fd ["self","mark"] (spExt T.foC 1):=by
 have GM: FnOk P w K mg base (XC P w) 1 T.membersW.f T.membersW.fd ["self","mark"] (spMw T.foC):=ok_mw T
 refine T.lowest.prove sc_lo (fun vs H Q E h => ?_) (fun cdv A outer s H vs Q E hr h => ?_)
 ·obtain ⟨f,D,X,i,g,rfl,_⟩:=h
  rfl
 ·obtain ⟨f,D,X,i,g,rfl,⟨a,I⟩,hi,hn,k⟩:=h
  obtain ⟨dx,e⟩:=I.ins
  have hu:=hu_of hr
  refine ⟨_,pss_one (ps_ret (pe_ix ix_tup (pe_callB (cr_min2 rfl hu) (by rfl) T.minN bo_min (pa_cons (pe_lc rfl sc_lo.nd (pi_list (pe_meth (pv 0) T.foCl T.membersW.m GM hr T.membersW.b .nil passX (pa_cons (pv 1) pa_nil))) (own:=[("each",2)])
   (blk_ok (N:=["self","mark","each"]) (sc:=defScope (sFo 7)) rfl rfl ⟨rfl,by decide +kernel,by decide +kernel,by decide +kernel,by decide +kernel⟩) (fun _ _ _ _ _ => pg_name (i:=2) sc_lo.nd rfl (Or.inl rfl)) (fun _ _ _ _ _ => pts_nil)
   (fun _ _ _ _ _ => pe_tup (pa_cons (pe_ix (ix_listK (K:=K) rfl) (pe_fldK (K:=K) rfl (pv 0) rfl) (pv 2) (fun _ _ => rfl)) (pa_cons (pv 2) pa_nil)))) pa_nil)) pe_int (fun _ _ => rfl))),?_⟩
  refine ⟨_,rfl,f,dx,_,rfl,e,rfl,_,rfl,f,D,X,i,g,rfl,⟨a,I⟩,hi,fun a1 ms m1 m2 m3 m4 => ⟨a1,rfl,⟨_,SqL.of m1⟩,fun L hL => ?_⟩⟩
  have len: ms.length <= 1024:=Nat.le_trans (nd_len m2 fun x hx => (List.getElem?_eq_some_iff.mp ((m4 x).mp hx)).1) hn
  refine lc_list (xs:=ms.map nV) (Ends D 1 H L ms) ⟨fun b o e _ => upd_new hL _ _ e,[],upd_same,rfl,fun j t m z => by cases z⟩ ?_ ?_ ?_
  ·rintro j H' _ ⟨b,_⟩
   exact SqL.of (b _ _ m1 (by simp))
  ·intro j x H' hx ev
   rw [List.getElem?_map] at hx
   obtain ⟨m,hm,rfl⟩: ∃ m,ms[j]? = some m /\ nV m = x:=by
    cases q: ms[j]? with
    | none => rw [q] at hx; cases hx
    | some m => rw [q] at hx; exact ⟨m,rfl,Option.some.inj hx⟩
   have gm:=(m4 m).mp (List.mem_of_getElem? hm)
   have lm: m < D.ls.length:=by rw [I.lenL]; exact (List.getElem?_eq_some_iff.mp gm).1
   have hl:=List.getElem?_eq_getElem lm
   have b:=ev.1
   refine ⟨rfl,?_⟩
   suffices go: tTup (tCons (tOp (rIxL K) (tFld K (tVar 0) "levels") (tVar 2)) (tCons (tVar 2) tNil)) [some (.ref f),some (nV i),some (nV m)] H' fun y H4 =>
     ∃ acc,H4 L = some (.lst acc) /\ acc.length < sizeLine /\ Ends D 1 H L ms (j + 1) (upd H4 L (.lst (acc ++ [y]))) from go
   refine ⟨_,rfl,f,T.foC,dx,_,_,rfl,b _ _ e (by simp),T.foCl,T.foL,rfl,_,rfl,a.lA,_,_,.int (1 * lF D.ls m),rfl,rfl,SqL.of (b _ _ I.l (by simp)),atI_nat (j:=m) (by rw [List.getElem?_map,hl,Int.one_mul,lF_at hl]; rfl),_,rfl,(by show 2 <= sizeLine; decide),fun t ht => ?_⟩
   exact ev.snoc hL hm (small1024 (by have:=(List.getElem?_eq_some_iff.mp hm).1; omega)) ht
  ·intro H' ev
   rw [List.length_map] at ev
   show rMin2 K [.ref L] H' (fun x H1 => rIxT K x (.int 1) H1 Q)
   refine ev.least m3 fun t m hm ht hl => ⟨t,_,1,nV m,rfl,rfl,SqT.of ht,rfl,?_⟩
   exact k m H' ((m4 m).mp hm) (fun j hj => hl j ((m4 j).mpr hj)) ev.1
theorem sc_hi: FnScope ["self","mark","each"] ["self","mark"] (defScope (sFo 8)):=⟨rfl,rfl,rfl,by decide +kernel,rfl,by decide +kernel,by decide +kernel⟩
theorem ok_hi (T: TxF K mg): FnOk P w K mg base (XC P w) 2 T.highest.f T.highest.fd ["self","mark"] (spExt T.foC (-1)):=by
 have GM: FnOk P w K mg base (XC P w) 1 T.membersW.f T.membersW.fd ["self","mark"] (spMw T.foC):=ok_mw T
 refine T.highest.prove sc_hi (fun vs H Q E h => ?_) (fun cdv A outer s H vs Q E hr h => ?_)
 ·obtain ⟨f,D,X,i,g,rfl,_⟩:=h
  rfl
 ·obtain ⟨f,D,X,i,g,rfl,⟨a,I⟩,hi,hn,k⟩:=h
  obtain ⟨dx,e⟩:=I.ins
  have hu:=hu_of hr
  refine ⟨_,pss_one (ps_ret (pe_ix ix_tup (pe_callB (cr_min2 rfl hu) (by rfl) T.minN bo_min (pa_cons (pe_lc rfl sc_hi.nd (pi_list (pe_meth (pv 0) T.foCl T.membersW.m GM hr T.membersW.b .nil passX (pa_cons (pv 1) pa_nil))) (own:=[("each",2)])
   (blk_ok (N:=["self","mark","each"]) (sc:=defScope (sFo 8)) rfl rfl ⟨rfl,by decide +kernel,by decide +kernel,by decide +kernel,by decide +kernel⟩) (fun _ _ _ _ _ => pg_name (i:=2) sc_hi.nd rfl (Or.inl rfl)) (fun _ _ _ _ _ => pts_nil)
   (fun _ _ _ _ _ => pe_tup (pa_cons (pe_un un_neg (pe_ix (ix_listK (K:=K) rfl) (pe_fldK (K:=K) rfl (pv 0) rfl) (pv 2) (fun _ _ => rfl))) (pa_cons (pv 2) pa_nil)))) pa_nil)) pe_int (fun _ _ => rfl))),?_⟩
  refine ⟨_,rfl,f,dx,_,rfl,e,rfl,_,rfl,f,D,X,i,g,rfl,⟨a,I⟩,hi,fun a1 ms m1 m2 m3 m4 => ⟨a1,rfl,⟨_,SqL.of m1⟩,fun L hL => ?_⟩⟩
  have len: ms.length <= 1024:=Nat.le_trans (nd_len m2 fun x hx => (List.getElem?_eq_some_iff.mp ((m4 x).mp hx)).1) hn
  refine lc_list (xs:=ms.map nV) (Ends D (-1) H L ms) ⟨fun b o e _ => upd_new hL _ _ e,[],upd_same,rfl,fun j t m z => by cases z⟩ ?_ ?_ ?_
  ·rintro j H' _ ⟨b,_⟩
   exact SqL.of (b _ _ m1 (by simp))
  ·intro j x H' hx ev
   rw [List.getElem?_map] at hx
   obtain ⟨m,hm,rfl⟩: ∃ m,ms[j]? = some m /\ nV m = x:=by
    cases q: ms[j]? with
    | none => rw [q] at hx; cases hx
    | some m => rw [q] at hx; exact ⟨m,rfl,Option.some.inj hx⟩
   have gm:=(m4 m).mp (List.mem_of_getElem? hm)
   have lm: m < D.ls.length:=by rw [I.lenL]; exact (List.getElem?_eq_some_iff.mp gm).1
   have hl:=List.getElem?_eq_getElem lm
   have b:=ev.1
   refine ⟨rfl,?_⟩
   suffices go: ∀ t,H' t = none -> ∃ acc,upd H' t (.tup [.int (-lF D.ls m),nV m]) L = some (.lst acc) /\ acc.length < sizeLine /\ Ends D (-1) H L ms (j + 1) (upd (upd H' t (.tup [.int (-lF D.ls m),nV m])) L (.lst (acc ++ [.ref t]))) from
    ⟨_,rfl,f,T.foC,dx,_,_,rfl,b _ _ e (by simp),T.foCl,T.foL,rfl,_,rfl,a.lA,_,_,.int (lF D.ls m),rfl,rfl,SqL.of (b _ _ I.l (by simp)),atI_nat (j:=m) (by rw [List.getElem?_map,hl,lF_at hl]; rfl),_,rfl,_,rfl,(by show 2 <= sizeLine; decide),go⟩
   intro t ht
   have:=ev.snoc hL hm (small1024 (by have:=(List.getElem?_eq_some_iff.mp hm).1; omega)) ht
   rw [Int.neg_one_mul] at this
   exact this
  ·intro H' ev
   rw [List.length_map] at ev
   show rMin2 K [.ref L] H' (fun x H1 => rIxT K x (.int 1) H1 Q)
   refine ev.least m3 fun t m hm ht hl => ⟨t,_,1,nV m,rfl,rfl,SqT.of ht,rfl,?_⟩
   exact k m H' ((m4 m).mp hm) (fun j hj => hl j ((m4 j).mpr hj)) ev.1
end
end Mp
end
section
namespace Mp
open PySem PySem.Spec PyProof.Rows L2 Xc
open Mh (codes linesFrom)
open Tide (marks takeAll numberIn printedLevels placeOf)
abbrev sDt (j: Nat): Stmt:=inClass (top 60) j
abbrev sTold: Stmt:=top 18
abbrev sAor: Stmt:=top 61
abbrev sAns: Stmt:=top 62
structure TxD (K: PySem.W.Frag) (mg: Str -> Option Value) extends TxK K mg where
 dtC: Addr
 dtI: Fd K "__init__" "Datums.__init__" (sDt 0) ["self"]
 dtMk: Mk K dtC dtI.f
 mgDt: mg "Datums" = some (.ref dtC)
 dtCl: Cls K dtC
 dtB: NoAttr K dtC "book"
 answer: Md K dtC "answer" "Datums.answer" (sDt 1) ["self","call"]
 told: Fd K "row_told" "row_told" sTold ["row"]
 mgTold: mg "row_told" = some (.ref told.f)
 kpTold: PySem.W.keepIn K (.ref told.f) = true
 aor: Fd K "answer_or_refusal" "answer_or_refusal" sAor ["datums","call"]
 mgAor: mg "answer_or_refusal" = some (.ref aor.f)
 kpAor: PySem.W.keepIn K (.ref aor.f) = true
 ans: Fd K "answers" "answers" sAns ["calls"]
 mgAns: mg "answers" = some (.ref ans.f)
 bAns: ∀ (s: Shared) (us: List Value),us.length = (["calls"]: List Str).length -> BindsTo s ans.fd ⟨us,[]⟩ ((["calls"]: List Str).zip us)
section
variable {P: Program} {w: World} {K: PySem.W.Frag} {mg: Str -> Option Value} {base: Heap}
def spNoI (K: PySem.W.Frag) (R: Addr) (z: Int): Sp:=fun vs H Q _ => ∃ (a C: Addr) (own: List Addr),vs = [.ref a] /\ H a = some (xnew a C none) /\ XCls K C own /\ (C = R \/ R ∈ own) /\ NoAttr K C "told" /\
 ∀ H': Hp,ToldNew K R H' a [z] -> But [a] H H' -> Q .non H'
theorem sc_nbI: FnScope ["self"] ["self"] (defScope sNoBI):=⟨rfl,rfl,rfl,by decide +kernel,rfl,by decide +kernel,by decide +kernel⟩
theorem ok_nbI (T: TxR K mg): FnOk P w K mg base (XC P w) 2 T.noBook.init.f T.noBook.init.fd ["self"] (spNoI K T.R (-3)):=by
 have G: FnOk P w K mg base (XC P w) 1 T.refI.f T.refI.fd ["self","told"] (spRefI K):=ok_refI T.refI
 refine T.noBook.init.prove sc_nbI (fun vs H Q E h => ?_) (fun cdv A outer s H vs Q E hr h => ?_)
 ·obtain ⟨a,C,own,rfl,_⟩:=h
  rfl
 ·obtain ⟨a,C,own,rfl,ha,c,isR,nT,kk⟩:=h
  refine ⟨_,pss_one (ps_expr (pe_cmeth rfl T.mgR T.cm G hr T.refI.b passX (pa_cons (pv 0) (pa_cons (pe_lst (pa_cons (pe_un un_neg pe_int) pa_nil)) pa_nil)))),?_⟩
  refine ⟨_,rfl,_,rfl,(by show 1 <= sizeLine; decide),fun l hl => ?_⟩
  refine ⟨a,C,own,.ref l,rfl,upd_new hl _ _ ha,c,nT,fun d H' e1 e2 b => ?_⟩
  have la: l ≠ a:=fun z => by rw [z,ha] at hl; cases hl
  exact kk H' ⟨C,own,d,l,e1,c,isR,nT,e2,b l _ upd_same (by simpa using la)⟩ fun b' o e nb => b b' o (upd_new hl _ _ e) nb
theorem sc_nmI: FnScope ["self"] ["self"] (defScope sNoMI):=⟨rfl,rfl,rfl,by decide +kernel,rfl,by decide +kernel,by decide +kernel⟩
theorem ok_nmI (T: TxR K mg): FnOk P w K mg base (XC P w) 2 T.noMark.init.f T.noMark.init.fd ["self"] (spNoI K T.R (-4)):=by
 have G: FnOk P w K mg base (XC P w) 1 T.refI.f T.refI.fd ["self","told"] (spRefI K):=ok_refI T.refI
 refine T.noMark.init.prove sc_nmI (fun vs H Q E h => ?_) (fun cdv A outer s H vs Q E hr h => ?_)
 ·obtain ⟨a,C,own,rfl,_⟩:=h
  rfl
 ·obtain ⟨a,C,own,rfl,ha,c,isR,nT,kk⟩:=h
  refine ⟨_,pss_one (ps_expr (pe_cmeth rfl T.mgR T.cm G hr T.refI.b passX (pa_cons (pv 0) (pa_cons (pe_lst (pa_cons (pe_un un_neg pe_int) pa_nil)) pa_nil)))),?_⟩
  refine ⟨_,rfl,_,rfl,(by show 1 <= sizeLine; decide),fun l hl => ?_⟩
  refine ⟨a,C,own,.ref l,rfl,upd_new hl _ _ ha,c,nT,fun d H' e1 e2 b => ?_⟩
  have la: l ≠ a:=fun z => by rw [z,ha] at hl; cases hl
  exact kk H' ⟨C,own,d,l,e1,c,isR,nT,e2,b l _ upd_same (by simpa using la)⟩ fun b' o e nb => b b' o (upd_new hl _ _ e) nb
theorem no_end {R C: Addr} {f: Addr} {z: Int} {H: Hp} {E: XK} (M: XMk K C [R] f) (nT: NoAttr K C "told") (hE: ∀ a H',Told K R H' a [z] -> But [] H H' -> E (.ref a) none H') :
  ([]: List V).length <= 1000 /\ ∀ x,H x = none -> spNoI K R z (.ref x :: []) (upd H x (xnew x C none))
   (fun v H2 => v = .non /\ ∃ a C own d,V.ref x = .ref a /\ XCls K C own /\ H2 a = some (xnew a C d) /\ E (.ref a) none (upd H2 a (exc a C d))) E:=by
 refine ⟨Nat.zero_le _,fun x hx => ?_⟩
 refine ⟨x,C,[R],rfl,upd_same,M.toXCls,.inr (by simp),nT,fun H' t b => ⟨rfl,?_⟩⟩
 obtain ⟨C,own,d,c,h1,t2,b2⟩:=t.raise
 refine ⟨x,C,own,d,rfl,c,h1,hE x _ t2 fun b' o e _ => ?_⟩
 have nx: b' ≠ x:=ne_of_none e hx
 exact b2 _ _ (b _ _ (upd_new hx _ _ e) (by simpa using nx)) (by simpa using nx)
def spTold: Sp:=fun vs H Q _ => ∃ (a: Addr) (ns: List Int),vs = [.ref a] /\ (H a = some (.lst (ns.map V.int)) \/ H a = some (.tup (ns.map V.int))) /\ ns.length + 1 <= sizeLine /\
 ∀ l H',H' l = some (.lst (((ns.length: Int) :: ns).map V.int)) -> H l = none -> But [] H H' -> Q (.ref l) H'
theorem sc_told: FnScope ["row"] ["row"] (defScope sTold):=⟨rfl,rfl,rfl,by decide +kernel,rfl,by decide +kernel,by decide +kernel⟩
theorem ok_told (T: TxD K mg): FnOk P w K mg base (XC P w) 1 T.told.f T.told.fd ["row"] spTold:=by
 refine T.told.prove sc_told (fun vs H Q E h => ?_) (fun cdv A outer s H vs Q E hr h => ?_)
 ·obtain ⟨a,ns,rfl,_⟩:=h
  rfl
 ·obtain ⟨a,ns,rfl,ha,hl,kk⟩:=h
  refine ⟨_,pss_one (ps_ret (pe_op op_cat (pe_lst (pa_cons (pe_callB call_len_seq (by rfl) T.lenN bo_len (pa_cons (pv 0) pa_nil)) pa_nil)) (pe_callTy call_list_of (by rfl) T.listN bo_list (pa_cons (pv 0) pa_nil)))),?_⟩
  have sq: ∀ Hx,(∀ b o,H b = some o -> Hx b = some o) -> SqL K Hx a (ns.map V.int) \/ SqT K Hx a (ns.map V.int):=fun Hx k => by
   rcases ha with h | h
   ·exact .inl (SqL.of (k _ _ h))
   ·exact .inr (SqT.of (k _ _ h))
  refine ⟨_,rfl,a,_,rfl,sq H (fun _ _ e => e),(by show 1 <= sizeLine; decide),fun l1 h1 => ?_⟩
  refine ⟨_,rfl,a,_,rfl,sq _ (fun b o e => upd_new h1 _ _ e),fun l2 h2 => ?_⟩
  have n12: l1 ≠ l2:=fun z => by rw [<- z,upd_same] at h2; cases h2
  refine ⟨l1,l2,_,_,rfl,rfl,upd_new h2 _ _ upd_same,upd_same,(by rw [List.length_map]; show 1 + ns.length <= sizeLine; omega),fun l3 h3 => ?_⟩
  have n3: ∀ b o,H b = some o -> b ≠ l3:=fun b o e => ne_of_none (upd_new h2 _ _ (upd_new h1 _ _ e)) h3
  refine kk l3 _ ?_ ?_ fun b o e _ => upd_new h3 _ _ (upd_new h2 _ _ (upd_new h1 _ _ e))
  ·rw [upd_same,List.length_map]; rfl
  ·cases q: H l3 with
   | none => rfl
   | some o => exact absurd rfl (n3 _ _ q)
end
structure BvIn (C Cf: Addr) (X: Addr -> Prop) (H: Hp) (b: Addr) (u: List Tide.Level) (A: BkA): Prop where
 ins: ∃ dx,H b = some (.ins C dx (bkf A (takeAll u).overs))
 n: H A.nA = some (.lst (A.nts.map V.ref))
 ntl: A.nts.length = (marks u).length
 nt: ∀ (i: Nat) (t: Addr) (nm: Tide.Bytes),A.nts[i]? = some t -> (marks u)[i]? = some nm -> H t = some (.tup ((codes nm).map V.int))
 m: H A.mA = some (.dT A.kvs)
 mv: ∀ nm: Tide.Bytes,valV A.kvs (nkey nm) = (numberIn (marks u) nm).map nV
 p: H A.pA = some (.lst ((codes (printedLevels u)).map V.int))
 fo: FoAt Cf H A.fA A.D X
 foF: A.D.F = (takeAll u).forest
 foC: A.D.c = A.D.F.length
 foN: A.D.gs.length = (marks u).length
 foL: A.D.ls.length = A.D.gs.length
 lev: Mh.Lev (marks u).length (gF A.D.gs) (lF A.D.ls) (takeAll u).places
 right: Mh.Right u
 own: X b /\ X A.nA /\ X A.mA /\ X A.pA
theorem BkIn.view {C Cf: Addr} {Hs H: Hp} {Z: Addr -> Prop} {b: Addr} {u: List Tide.Level} {A: BkA} (I: BkIn C Cf Hs Z H b u A): BvIn C Cf (fun a => Hs a = none) H b u A :=
 ⟨I.ins,I.n,I.ntl,I.nt,I.m,I.mv,I.p,let ⟨a,F⟩:=I.fo; ⟨a,F.wide fun _ h => h.1⟩,I.foF,I.foC,I.foN,I.foL,I.lev,I.right,I.own⟩
theorem BvIn.frame {C Cf: Addr} {X: Addr -> Prop} {H H': Hp} {b: Addr} {u: List Tide.Level} {A: BkA} (I: BvIn C Cf X H b u A) (k: ∀ a o,H a = some o -> X a \/ calm o -> H' a = some o): BvIn C Cf X H' b u A:=by
 obtain ⟨o1,o2,o3,o4⟩:=I.own
 refine ⟨let ⟨dx,e⟩:=I.ins; ⟨dx,k _ _ e (.inl o1)⟩,k _ _ I.n (.inl o2),I.ntl,fun i t nm h1 h2 => k _ _ (I.nt i t nm h1 h2) (.inr trivial),k _ _ I.m (.inl o3),I.mv,k _ _ I.p (.inl o4),?_,I.foF,I.foC,I.foN,I.foL,I.lev,I.right,I.own⟩
 obtain ⟨a,F⟩:=I.fo
 exact ⟨a,F.frame k⟩
def DtAt (Cd C Cf: Addr) (X: Addr -> Prop) (H: Hp) (d: Addr) (st: TideDatums.State): Prop:=∃ dx,
 (st = none /\ H d = some (.ins Cd dx [("book",.non)])) \/ ∃ ls bk A,st = some ls /\ H d = some (.ins Cd dx [("book",.ref bk)]) /\ BvIn C Cf X H bk ls A /\ (printedLevels ls).length <= 30000
theorem DtAt.frame {Cd C Cf: Addr} {X: Addr -> Prop} {H H': Hp} {d: Addr} {st: TideDatums.State} (h: DtAt Cd C Cf X H d st) (hd: ∀ o,H d = some o -> H' d = some o) (k: ∀ a o,H a = some o -> X a \/ calm o -> H' a = some o): DtAt Cd C Cf X H' d st:=by
 obtain ⟨dx,⟨h1,h2⟩ | ⟨ls,bk,A,h1,h2,h3,h4⟩⟩:=h
 ·exact ⟨dx,.inl ⟨h1,hd _ h2⟩⟩
 ·exact ⟨dx,.inr ⟨ls,bk,A,h1,hd _ h2,h3.frame k,h4⟩⟩
theorem DtAt.ins {Cd C Cf: Addr} {X: Addr -> Prop} {H: Hp} {d: Addr} {st: TideDatums.State} (h: DtAt Cd C Cf X H d st): ∃ dx v,H d = some (.ins Cd dx [("book",v)]):=by
 obtain ⟨dx,⟨_,h2⟩ | ⟨ls,bk,A,_,h2,_⟩⟩:=h
 ·exact ⟨dx,_,h2⟩
 ·exact ⟨dx,_,h2⟩
section
variable {P: Program} {w: World} {K: PySem.W.Frag} {mg: Str -> Option Value} {base: Heap}
def spAns (T: TxD K mg): Sp:=fun vs H Q E => ∃ (d c: Addr) (X: Addr -> Prop) (st: TideDatumsNeutral.State) (cl: List (List Int)) (F: List Addr),vs = [.ref d,.ref c] /\ DtAt T.dtC T.bkC T.foC X H d st /\ CallAt T.callC H c cl F /\ (∀ a,X a -> a ≠ d) /\ TideDatumsNeutral.asked1 cl = true /\ (∀ r ∈ cl,r.length <= 30000) /\
 (∀ l H' X',H' l = some (.lst ((TideDatumsNeutral.step st cl).2.map V.int)) -> H l = none -> (TideDatumsNeutral.step st cl).2.length <= 40000 -> DtAt T.dtC T.bkC T.foC X' H' d (TideDatumsNeutral.step st cl).1 -> (∀ a,X' a -> X a \/ H a = none) -> But [d] H H' -> Q (.ref l) H') /\
 (∀ a H' X',Told K T.R H' a (TideDatumsNeutral.step st cl).2 -> (∃ z r,(TideDatumsNeutral.step st cl).2 = z :: r /\ z < 0) -> (TideDatumsNeutral.step st cl).2.length <= 40000 -> DtAt T.dtC T.bkC T.foC X' H' d (TideDatumsNeutral.step st cl).1 -> (∀ a,X' a -> X a \/ H a = none) -> But [d] H H' -> E (.ref a) none H')
def spAor (T: TxD K mg): Sp:=fun vs H Q E => ∃ (d c: Addr) (X: Addr -> Prop) (st: TideDatumsNeutral.State) (cl: List (List Int)) (F: List Addr),vs = [.ref d,.ref c] /\ DtAt T.dtC T.bkC T.foC X H d st /\ CallAt T.callC H c cl F /\ (∀ a,X a -> a ≠ d) /\ TideDatumsNeutral.asked1 cl = true /\ (∀ r ∈ cl,r.length <= 30000) /\
 (∀ l H' X',H' l = some (.lst ((TideDatumsNeutral.step st cl).2.map V.int)) -> (H l = none \/ ∃ z r,(TideDatumsNeutral.step st cl).2 = z :: r /\ z < 0) -> (TideDatumsNeutral.step st cl).2.length <= 40000 -> DtAt T.dtC T.bkC T.foC X' H' d (TideDatumsNeutral.step st cl).1 -> (∀ a,X' a -> X a \/ H a = none) -> But [d] H H' -> Q (.ref l) H')
def hBody (l: List Stmt): List Stmt:=match l with
 | [.Try _ [.ExceptHandler _ _ b _] _ _ _] => b
 | _ => []
theorem sc_aor: FnScope ["datums","call","refusal"] ["datums","call"] (defScope sAor):=⟨rfl,rfl,rfl,by decide +kernel,rfl,by decide +kernel,by decide +kernel⟩
theorem ok_aor (T: TxD K mg) {k: Nat} (G: FnOk P w K mg base (XC P w) k T.answer.f T.answer.fd ["self","call"] (spAns T)): FnOk P w K mg base (XC P w) (k + 1) T.aor.f T.aor.fd ["datums","call"] (spAor T):=by
 refine T.aor.prove sc_aor (fun vs H Q E h => ?_) (fun cdv A outer s H vs Q E hr h => ?_)
 ·obtain ⟨d,c,X,st,cl,F,rfl,_⟩:=h
  rfl
 ·obtain ⟨d,c,X,st,cl,F,rfl,D,C,nd,ask,rl,kk⟩:=h
  obtain ⟨dx,v,hd⟩:=D.ins
  have hs: ∀ e,PSs (hndCx (cxOf (XC P w) P w K mg base ["datums","call","refusal"] "answer_or_refusal" (defScope sAor) T.aor.f cdv A outer s H E) e) (hBody (defBody sAor)) (tRet (tXFld K (tVar 2) "told")):=fun e => pss_one (ps_ret (pe_xfld (pv 2) rfl))
  refine ⟨_,pss_one (ps_try (P:=P) (w:=w) rfl rfl rfl ⟨rfl,rfl⟩ sc_aor.nd (i:=2) rfl rfl rfl T.mgR T.cR (fun pins E1 E' hp => pss_one (ps_ret (pe_meth (pv 0) T.dtCl T.answer.m G hr T.answer.b .nil hp (pa_cons (pv 1) pa_nil)))) hs),?_⟩
  refine ⟨_,rfl,d,dx,_,rfl,hd,rfl,_,rfl,d,c,X,st,cl,F,rfl,D,C,nd,ask,rl,(fun l H' X' h1 h2 => kk l H' X' h1 (.inl h2)),fun a H' X' t neg len D' hX b => ?_⟩
  obtain ⟨C',own,dd,l,h1,xc,isR,nT,h2,h3⟩:=t
  refine ⟨a,C',own,some dd,rfl,xc,isR,h1,fun σ' hσ => ?_⟩
  refine ⟨.ref a,?_,a,C',own,dd,_,.ref l,rfl,h1,h2,xc,nT,rfl,kk l H' X' h3 (.inr neg) len D' hX b⟩
  rw [List.getElem?_set_self]
  rw [hσ]; show 2 < 3; decide
def spDtI (C: Addr): Sp:=fun vs H Q _ => ∃ (d dx: Addr),vs = [.ref d] /\ H d = some (.ins C dx []) /\ ∀ H': Hp,H' d = some (.ins C dx [("book",.non)]) -> But [d] H H' -> Q .non H'
theorem sc_dtI: FnScope ["self"] ["self"] (defScope (sDt 0)):=⟨rfl,rfl,rfl,by decide +kernel,rfl,by decide +kernel,by decide +kernel⟩
theorem ok_dtI (T: TxD K mg): FnOk P w K mg base (XC P w) 1 T.dtI.f T.dtI.fd ["self"] (spDtI T.dtC):=by
 refine T.dtI.prove sc_dtI (fun vs H Q E h => ?_) (fun cdv A outer s H vs Q E hr h => ?_)
 ·obtain ⟨d,dx,rfl,_⟩:=h
  rfl
 ·obtain ⟨d,dx,rfl,hd,k⟩:=h
  refine ⟨_,pss_one (ps_fld (pv 0) pe_non rfl),?_⟩
  refine ⟨_,rfl,d,T.dtC,dx,_,rfl,hd,T.dtCl,T.dtB,(by show 0 < 1000; decide),?_⟩
  refine k _ (by rw [upd_same]; rfl) fun b o e n => ?_
  rw [upd_ne (by simpa using n)]
  exact e
def spAnswers (K: PySem.W.Frag): Sp:=fun vs H Q _ => ∃ (tx: Addr) (ns: List Int),vs = [.ref tx] /\ SqL K H tx (ns.map V.int) /\ ns.length <= 30000 /\ PyWqacct.answers_asked ns = true /\ ∀ l H',H' l = some (.lst ((PyWqacct.answers ns).map V.int)) -> Q (.ref l) H'
theorem reads_row {ns: List Int} {cs: List (List (List Int))} (h: Mh.Reads ns cs): ∀ c ∈ cs,∀ r ∈ c,r.length <= ns.length:=by
 induction h with
 | nil => intro c hc; cases hc
 | @cons p r c t cs v h ih =>
  intro c' hc' r' hr'
  have vl:=v.len
  rcases List.mem_cons.mp hc' with e | hc'
  ·subst e
   cases v with
   | row hp h0 hl =>
    rcases List.mem_cons.mp hr' with e | hr'
    ·rw [e]; simp
    ·rw [List.mem_singleton.mp hr',List.length_take]; simp; omega
   | bare hp => rw [List.mem_singleton.mp hr']; simp
   | one hp => rw [List.mem_singleton.mp hr']; simp
   | two hp => rw [List.mem_singleton.mp hr']; simp
  ·have:=ih c' hc' r' hr'
   simp; omega
theorem told_head (L: List (List Int)): PyFlat.told L = [] \/ ∃ (n: Nat) (r: List Int),PyFlat.told L = (n: Int) :: r:=by
 cases L with
 | nil => exact .inl rfl
 | cons a L => exact .inr ⟨a.length,_,rfl⟩
theorem ints_inj {a b: List Int} (h: a.map V.int = b.map V.int): a = b:=by
 induction a generalizing b with
 | nil => cases b with | nil => rfl | cons _ _ => cases h
 | cons x a ih =>
  cases b with
  | nil => cases h
  | cons y b =>
   rw [List.map_cons,List.map_cons] at h
   injection h with h1 h2
   injection h1 with h1
   rw [h1,ih h2]
theorem sc_ans: FnScope ["calls","datums","told","call","answer"] ["calls"] (defScope sAns):=⟨rfl,rfl,rfl,by decide +kernel,rfl,by decide +kernel,by decide +kernel⟩
theorem ok_ans (T: TxD K mg) {k: Nat} (hk: 4 <= k) (G: FnOk P w K mg base (XC P w) k T.aor.f T.aor.fd ["datums","call"] (spAor T)): FnOk P w K mg base (XC P w) (k + 1) T.ans.f T.ans.fd ["calls"] (spAnswers K):=by
 have GI: FnOk P w K mg base (XC P w) 1 T.dtI.f T.dtI.fd ["self"] (spDtI T.dtC):=ok_dtI T
 have GC: FnOk P w K mg base (XC P w) 4 T.callsOf.f T.callsOf.fd ["handed_in"] (spCalls K T.callC):=ok_calls T.toTxB.toTxF.toTxC
 refine T.ans.prove sc_ans (fun vs H Q E h => ?_) (fun cdv A outer s H vs Q E hr h => ?_)
 ·obtain ⟨tx,ns,rfl,_⟩:=h
  rfl
 ·obtain ⟨tx,ns,rfl,htx,hns,ask,kk⟩:=h
  obtain ⟨cs,hR,h400,hne,hask,hans⟩:=Mh.asked_calls ask
  have hr2: Room 2 _:=hr.mono (by omega)
  have hr4: Room 4 _:=hr.mono hk
  refine ⟨_,pss_cons (ps_set (i:=1) sc_ans.nd rfl (Or.inl rfl) (pe_make0 T.dtMk GI hr2 rfl T.mgDt T.dtI.b .nil passX))
   (pss_cons (ps_set (i:=2) sc_ans.nd rfl (Or.inl rfl) (pe_lst pa_nil))
   (pss_cons (ps_for PassesOwn.leaving rfl (pi_list (pe_call GC hr4 rfl T.mgCalls T.kpCalls T.callsOf.b .nil passX (pa_cons (pv 0) pa_nil))) (pg_name (i:=3) sc_ans.nd rfl (Or.inl rfl))
    (pss_cons (ps_set (i:=4) sc_ans.nd rfl (Or.inl rfl) (pe_call G hr rfl T.mgAor T.kpAor T.aor.b .nil passX (pa_cons (pv 1) (pa_cons (pv 3) pa_nil))))
    (pss_cons (ps_expr (pe_bm PySem.F.plainAttrs_list PySem.F.slot_list_append PySem.F.type_list_append mt_append (pv 2) (pa_cons (pe_callB call_len_seq (by rfl) T.lenN bo_len (pa_cons (pv 4) pa_nil)) pa_nil)))
    (pss_one (ps_expr (pe_bm PySem.F.plainAttrs_list PySem.F.slot_list_extend PySem.F.type_list_extend mt_extend (pv 2) (pa_cons (pv 4) pa_nil)))))))
   (pss_one (ps_ret (pv 2))))),?_⟩
  intro d dx hd0 hdx0 ne
  refine ⟨d,dx,rfl,upd_same,fun H1 e1 b1 => ⟨rfl,?_⟩⟩
  have bb1:=but_make hd0 hdx0 b1
  refine ⟨Nat.zero_le _,fun tl htl => ?_⟩
  have dt: d ≠ tl:=ne_of_none e1 htl
  have e2:=upd_new (o:=HO.lst []) htl d _ e1
  have b2: But [] H (upd H1 tl (.lst [])):=fun a o e _ => upd_new htl _ _ (bb1 a o e (by simp))
  have t2: upd H1 tl (.lst []) tl = some (.lst []):=upd_same
  generalize hH2: upd H1 tl (.lst []) = H2 at *
  refine ⟨_,rfl,tx,ns,cs,rfl,sq_but htx b2 (fun _ => by simp),hR,Nat.lt_of_le_of_lt hns (by decide),fun la as H3 h3 hla C3 b3 => ?_⟩
  have e3:=b3 _ _ e2 (by simp)
  have t3:=b3 _ _ t2 (by simp)
  have lad: la ≠ d:=fun z => by rw [z,e2] at hla; cases hla
  have lat: la ≠ tl:=fun z => by rw [z,t2] at hla; cases hla
  refine ⟨la,rfl,⟨_,SqL.of h3⟩,for_list (xs:=as.map V.ref) (fun i σ Hx => (∃ v3 v4,σ = [some (.ref tx),some (.ref d),some (.ref tl),v3,v4]) /\ But [d,tl] H3 Hx /\
    (∃ X,DtAt T.dtC T.bkC T.foC X Hx d (Mh.after TideDatumsNeutral.start (cs.take i)) /\ ∀ a,X a -> H3 a = none) /\
    Hx tl = some (.lst ((PyFlat.told (PyFlat.played TideDatumsNeutral.step TideDatumsNeutral.start (cs.take i))).map V.int)) /\ (PyFlat.told (PyFlat.played TideDatumsNeutral.step TideDatumsNeutral.start (cs.take i))).length <= 40001 * i)
   ⟨⟨_,_,rfl⟩,But.refl _ _,⟨fun _ => False,⟨dx,.inl ⟨rfl,e3⟩⟩,fun _ z => z.elim⟩,t3,Nat.zero_le _⟩ ?_ ?_ ?_⟩
  ·rintro i σ Hx _ ⟨_,bx,_⟩
   exact SqL.of (bx _ _ h3 (by simp [lad,lat]))
  ·rintro i x σ Hx hx ⟨⟨v3,v4,rfl⟩,bx,⟨X,D,hX⟩,tlx,lenx⟩
   rw [List.getElem?_map] at hx
   cases hq: as[i]? with
   | none => rw [hq] at hx; cases hx
   | some c =>
    rw [hq] at hx
    have hx: V.ref c = x:=Option.some.inj hx
    subst hx
    have il: i < cs.length:=by rw [<- C3.len]; exact (List.getElem?_eq_some_iff.mp hq).1
    obtain ⟨cl,hcl⟩: ∃ cl,cs[i]? = some cl:=⟨_,List.getElem?_eq_getElem il⟩
    have tk: cs.take (i + 1) = cs.take i ++ [cl]:=by rw [List.take_add_one,hcl]; rfl
    obtain ⟨F,CF,nF⟩:=C3.at_ i c cl hq hcl
    have CF': CallAt T.callC Hx c cl F:=CF.but bx fun a ha z => by
     have hn:=nF a ha
     rcases (by simpa using z: a = d \/ a = tl) with rfl | rfl
     ·rw [e2] at hn; cases hn
     ·rw [t2] at hn; cases hn
    have mc:=List.mem_of_getElem? hcl
    obtain ⟨dxx,vx,hdx⟩:=D.ins
    have here: ∀ a ∈ [d,tl],Hx a ≠ none:=fun a ha z => by
     rcases (by simpa using ha: a = d \/ a = tl) with rfl | rfl
     ·rw [hdx] at z; cases z
     ·rw [tlx] at z; cases z
    refine ⟨_,rfl,_,rfl,d,c,X,_,cl,F,rfl,D,CF',(fun a ha z => by rw [z] at ha; have:=hX _ ha; rw [e3] at this; cases this),hask cl mc,(fun r hr' => Nat.le_trans (reads_row hR cl mc r hr') hns),fun l H4 X' hl hnew len D' hX' b4 => ?_⟩
    have t4:=b4 _ _ tlx (by simpa using Ne.symm dt)
    have lt: l ≠ tl:=fun z => by
     rcases hnew with h | ⟨z0,r0,e0,neg⟩
     ·rw [z,tlx] at h; cases h
     ·rw [z,t4] at hl
      injection hl with hl
      injection hl with hl
      have:=ints_inj hl
      rw [e0] at this
      rcases told_head (PyFlat.played TideDatumsNeutral.step TideDatumsNeutral.start (cs.take i)) with q | ⟨n,r,q⟩
      ·rw [q] at this; cases this
      ·rw [q] at this
       injection this with h1 _
       omega
    have i400: i < 400:=by omega
    generalize hold: PyFlat.told (PyFlat.played TideDatumsNeutral.step TideDatumsNeutral.start (cs.take i)) = old at *
    generalize hnum: (TideDatumsNeutral.step (Mh.after TideDatumsNeutral.start (cs.take i)) cl).2 = nums at *
    have z1: sizeLine = 16777216:=sizeLine_eq
    refine ⟨_,rfl,.inl ⟨rfl,_,SqL.of t4⟩,_,rfl,l,_,rfl,.inl (SqL.of hl),tl,_,_,rfl,rfl,t4,(by rw [List.length_map]; omega),?_⟩
    have t5: ∀ v: V,upd H4 tl (.lst (old.map V.int ++ [v])) tl = some (.lst (old.map V.int ++ [v])):=fun v => upd_same
    have l5: ∀ o,upd H4 tl o l = some (.lst (nums.map V.int)):=fun o => by rw [upd_ne lt]; exact hl
    refine ⟨_,rfl,.inl ⟨rfl,_,SqL.of (t5 _)⟩,_,rfl,tl,l,_,_,rfl,rfl,t5 _,l5 _,(by simp only [List.length_append,List.length_map,List.length_cons,List.length_nil]; omega),?_⟩
    have x3: ∀ a,X' a -> H3 a = none:=fun a ha => by
     rcases hX' a ha with h | h
     ·exact hX a h
     ·exact bx.none h here
    refine ⟨⟨_,_,rfl⟩,fun a o e n => ?_,⟨X',?_,x3⟩,?_,?_⟩
    ·have n: a ≠ d /\ a ≠ tl:=by simpa using n
     rw [upd_ne n.2,upd_ne n.2]
     exact b4 _ _ (bx a o e (by simp [n.1,n.2])) (by simpa using n.1)
    ·rw [tk,Mh.after_snoc]
     refine D'.frame (fun o e => by rw [upd_ne dt,upd_ne dt]; exact e) fun a o e h => ?_
     have na: a ≠ tl:=fun z => by
      subst z
      rcases h with h | h
      ·have:=x3 _ h
       rw [t3] at this; cases this
      ·rw [t4] at e; cases e; exact h
     rw [upd_ne na,upd_ne na]; exact e
    ·rw [upd_same,tk,Mh.played_snoc,Mh.told_snoc,hold,hnum]
     simp only [List.map_append,List.map_cons,List.length_map,List.append_assoc]
     rfl
    ·rw [tk,Mh.played_snoc,Mh.told_snoc,hold,hnum,List.length_append,List.length_cons]
     omega
  ·rintro σ Hx ⟨⟨v3,v4,rfl⟩,bx,_,tlx,_⟩
   rw [List.length_map,C3.len,List.take_length] at tlx
   refine ⟨_,rfl,kk tl Hx ?_⟩
   rw [hans]
   exact tlx
end
end Mp
end
section
namespace Mp
open PySem PySem.Spec PyProof.Rows L2 Xc
open Mh (codes linesFrom)
open Tide (marks takeAll numberIn printedLevels placeOf)
section
variable {P: Program} {w: World} {K: PySem.W.Frag} {mg: Str -> Option Value} {base: Heap}
def OutQ (T: TxD K mg) (H: Hp) (d: Addr) (X: Addr -> Prop) (st: TideDatumsNeutral.State) (cl: List (List Int)) (Q: VK): Prop :=
 ∀ l H' X',H' l = some (.lst ((TideDatumsNeutral.step st cl).2.map V.int)) -> H l = none -> (TideDatumsNeutral.step st cl).2.length <= 40000 -> DtAt T.dtC T.bkC T.foC X' H' d (TideDatumsNeutral.step st cl).1 -> (∀ a,X' a -> X a \/ H a = none) -> But [d] H H' -> Q (.ref l) H'
def OutE (T: TxD K mg) (H: Hp) (d: Addr) (X: Addr -> Prop) (st: TideDatumsNeutral.State) (cl: List (List Int)) (E: XK): Prop :=
 ∀ a H' X',Told K T.R H' a (TideDatumsNeutral.step st cl).2 -> (∃ z r,(TideDatumsNeutral.step st cl).2 = z :: r /\ z < 0) -> (TideDatumsNeutral.step st cl).2.length <= 40000 -> DtAt T.dtC T.bkC T.foC X' H' d (TideDatumsNeutral.step st cl).1 -> (∀ a,X' a -> X a \/ H a = none) -> But [d] H H' -> E (.ref a) none H'
theorem DtAt.same {Cd C Cf: Addr} {X: Addr -> Prop} {H H': Hp} {d: Addr} {st: TideDatums.State} (h: DtAt Cd C Cf X H d st) (b: But [] H H'): DtAt Cd C Cf X H' d st:=h.frame (fun o e => b _ _ e (by simp)) fun a o e _ => b a o e (by simp)
theorem book_fault {st: TideDatumsNeutral.State} {row: List Int} (ask: TideDatumsNeutral.asked1 [[0],row] = true) {ns: List Int} (h: ∃ a,TideDatums.step st (.book (Mh.bytesOf row)) = (st,a) /\ a.nums = ns): TideDatumsNeutral.step st [[0],row] = (st,ns):=by
 obtain ⟨a,h1,h2⟩:=h
 rw [(Mh.st_book ask).1,h1,h2]
abbrev sTb: Stmt:=sDt 2
def spTb (T: TxD K mg): Sp:=fun vs H Q E => ∃ (d tx: Addr) (X: Addr -> Prop) (st: TideDatumsNeutral.State) (row: List Int),vs = [.ref d,.ref tx] /\ DtAt T.dtC T.bkC T.foC X H d st /\ H tx = some (.lst (row.map V.int)) /\ (∀ a,X a -> a ≠ d) /\ TideDatumsNeutral.asked1 [[0],row] = true /\ row.length <= 30000 /\ OutQ T H d X st [[0],row] Q /\ OutE T H d X st [[0],row] E
theorem sc_tb: FnScope ["self","text"] ["self","text"] (defScope sTb):=⟨rfl,rfl,rfl,by decide +kernel,rfl,by decide +kernel,by decide +kernel⟩
theorem ok_tb (T: TxD K mg) (M: Fd K "take_book" "Datums.take_book" sTb ["self","text"]): FnOk P w K mg base (XC P w) 11 M.f M.fd ["self","text"] (spTb T):=by
 have GR: FnOk P w K mg base (XC P w) 10 T.readB.f T.readB.fd ["text"] (spRead T.toTxK):=ok_read T.toTxK
 refine M.prove sc_tb (fun vs H Q E h => ?_) (fun cdv A outer s H vs Q E hr h => ?_)
 ·obtain ⟨d,tx,X,st,row,rfl,_⟩:=h
  rfl
 ·obtain ⟨d,tx,X,st,row,rfl,D,htx,nd,ask,hrow,kQ,kE⟩:=h
  have by_:=(Mh.st_book (s:=st) ask).2
  have cb:=Mh.codes_bytes by_
  have bl: (Mh.bytesOf row).length = row.length:=by unfold Mh.bytesOf; exact List.length_map _
  refine ⟨_,pss_cons (ps_fld (pv 0) (pe_call GR hr rfl T.mgRead T.kpRead T.readB.b .nil passX (pa_cons (pv 1) pa_nil)) rfl) (pss_one (ps_ret (pe_lst (pa_cons pe_int pa_nil)))),?_⟩
  refine ⟨_,rfl,tx,Mh.bytesOf row,rfl,by rw [cb]; exact htx,by rw [bl]; exact Nat.lt_of_le_of_lt hrow (by decide),fun ls hls hw bk Z H' ⟨A',I⟩ => ?_,fun p hp a H' t b => ?_,fun u x r ns hls hu R wr a H' t b => ?_⟩
  ·-- a right text
   have hst: TideDatumsNeutral.step st [[0],row] = (some ls,[0]):=by
    rw [(Mh.st_book ask).1,Mh.book_ok (by rw [Mh.grammar_from]; exact hls) hw]; rfl
   unfold OutQ at kQ
   rw [hst] at kQ
   obtain ⟨dx,v,hd⟩:=D.ins
   have hd':=I.base _ _ hd (by simp)
   refine ⟨_,rfl,d,T.dtC,dx,_,rfl,hd',T.dtCl,T.dtB,(by show 1 < 1000; decide),?_⟩
   refine ⟨(by show 1 <= sizeLine; decide),fun l hl => ?_⟩
   have dl: d ≠ l:=ne_of_none upd_same hl
   have hl': H' l = none:=by rw [upd_ne (Ne.symm dl)] at hl; exact hl
   have hl0: H l = none:=by
    cases q: H l with
    | none => rfl
    | some o => rw [I.base _ _ q (by simp)] at hl'; cases hl'
   refine kQ l _ (fun a => H a = none) upd_same hl0 (by show 1 <= 40000; decide) ⟨dx,.inr ⟨ls,bk,A',rfl,?_,?_,?_⟩⟩ (fun a h => .inr h) ?_
   ·rw [upd_ne dl,upd_same]; rfl
   ·refine I.view.frame fun a o e h => ?_
    have ad: a ≠ d:=fun z => by
     subst z
     rcases h with h | h
     ·rw [hd] at h; cases h
     ·rw [hd'] at e; cases e; rcases h with c | c | c <;> exact absurd c (by decide)
    have al: a ≠ l:=ne_of_none e hl'
    rw [upd_ne al,upd_ne ad]; exact e
   ·have:=Mh.printed_le (b:=Mh.bytesOf row) (by rw [Mh.grammar_from]; exact hls)
    omega
   ·intro a o e n
    have n: a ≠ d:=by simpa using n
    rw [upd_ne (ne_of_none e hl0),upd_ne n]; exact I.base _ _ e (by simp)
  ·-- no text of the grammar
   have hst: TideDatumsNeutral.step st [[0],row] = (st,[-6,1,(p: Int)]):=by
    rw [(Mh.st_book ask).1,Mh.book_gram (by rw [Mh.grammar_from]; exact hp)]; rfl
   unfold OutE at kE
   rw [hst] at kE
   exact kE a H' X t ⟨_,_,rfl,by decide⟩ (by show 3 <= 40000; decide) (D.same b) (fun a h => .inl h) (b.mono (by simp))
  ·-- a line's fault
   have hst:=book_fault ask (wr.book (s:=st) R hu (by rw [Mh.grammar_from]; exact hls))
   unfold OutE at kE
   rw [hst] at kE
   refine kE a H' X t ?_ (Nat.le_trans (wr.len R) (by decide)) (D.same b) (fun a h => .inl h) (b.mono (by simp))
   cases wr <;> exact ⟨_,_,rfl,by decide⟩
end
end Mp
end
section
namespace Mp
open PySem PySem.Spec PyProof.Rows L2 Xc
open Mh (codes linesFrom bytesOf)
open Tide (marks takeAll numberIn printedLevels placeOf)
structure TxA (K: PySem.W.Frag) (mg: Str -> Option Value) extends TxD K mg where
 takeB: Md K dtC "take_book" "Datums.take_book" (sDt 2) ["self","text"]
 ck: Fd K "check_mark" "check_mark" (top 19) ["book","mark"]
 mgCk: mg "check_mark" = some (.ref ck.f)
 kpCk: PySem.W.keepIn K (.ref ck.f) = true
 szT: Fd K "size_told" "size_told" (top 20) ["book"]
 mgSz: mg "size_told" = some (.ref szT.f)
 kpSz: PySem.W.keepIn K (.ref szT.f) = true
 nmT: Fd K "name_told" "name_told" (top 21) ["book","mark"]
 mgNm: mg "name_told" = some (.ref nmT.f)
 kpNm: PySem.W.keepIn K (.ref nmT.f) = true
 fnT: Fd K "find_told" "find_told" (top 22) ["book","row"]
 mgFn: mg "find_told" = some (.ref fnT.f)
 kpFn: PySem.W.keepIn K (.ref fnT.f) = true
 ovT: Fd K "over_told" "over_told" (top 23) ["book","lower","upper"]
 mgOv: mg "over_told" = some (.ref ovT.f)
 kpOv: PySem.W.keepIn K (.ref ovT.f) = true
 wyT: Fd K "way_told" "way_told" (top 24) ["book","start","goal"]
 mgWy: mg "way_told" = some (.ref wyT.f)
 kpWy: PySem.W.keepIn K (.ref wyT.f) = true
 edT: Fd K "ends_told" "ends_told" (top 25) ["book","mark"]
 mgEd: mg "ends_told" = some (.ref edT.f)
 kpEd: PySem.W.keepIn K (.ref edT.f) = true
 tdB: Fd K "told_by" "told_by" (top 26) ["book","call"]
 mgTd: mg "told_by" = some (.ref tdB.f)
 kpTd: PySem.W.keepIn K (.ref tdB.f) = true
 cBook: ∃ t,mg "CALL_BOOK" = some (.int 0 t)
 cPrint: ∃ t,mg "CALL_PRINTED" = some (.int 1 t)
 cSize: ∃ t,mg "CALL_SIZE" = some (.int 2 t)
 cName: ∃ t,mg "CALL_NAME" = some (.int 3 t)
 cFind: ∃ t,mg "CALL_FIND" = some (.int 4 t)
 cOver: ∃ t,mg "CALL_OVER" = some (.int 5 t)
 cWay: ∃ t,mg "CALL_WAY" = some (.int 6 t)
def GivesQ (H: Hp) (ns: List Int) (Q: VK): Prop:=∀ l H',H' l = some (.lst (ns.map V.int)) -> H l = none -> But [] H H' -> Q (.ref l) H'
def GivesE (K: PySem.W.Frag) (R: Addr) (H: Hp) (E: XK): Prop:=∀ a H',Told K R H' a [-4] -> But [] H H' -> E (.ref a) none H'
theorem GivesQ.from {H H1: Hp} {ns: List Int} {Q: VK} (g: GivesQ H ns Q) (b: But [] H H1): GivesQ H1 ns Q:=fun l H' h n k => g l H' h (by
 cases q: H l with
 | none => rfl
 | some o => rw [b _ _ q (by simp)] at n; cases n) (b.trans k)
theorem GivesQ.cat {H H2: Hp} {l1 l2: Addr} {z: Int} {ns: List Int} {Q: VK} (g: GivesQ H (z :: ns) Q) (hl: ns.length + 1 <= sizeLine) (b2: But [] H H2) (h1: H2 l1 = some (.lst [.int z])) (h2: H2 l2 = some (.lst (ns.map V.int))) :
  rCat (.ref l1) (.ref l2) H2 Q:=by
 refine ⟨l1,l2,_,_,rfl,rfl,h1,h2,?_,fun l3 h3 => (g.from b2) l3 _ upd_same h3 fun a o e _ => upd_new h3 _ _ e⟩
 rw [List.length_map]
 show 1 + ns.length <= sizeLine
 omega
theorem GivesQ.new {H: Hp} {l: Addr} {ns: List Int} {Q: VK} (g: GivesQ H ns Q) (hl: H l = none): Q (.ref l) (upd H l (.lst (ns.map V.int))):=g l _ upd_same hl fun a o e _ => upd_new hl _ _ e
theorem BvIn.same {C Cf: Addr} {X: Addr -> Prop} {H H': Hp} {b: Addr} {u: List Tide.Level} {A: BkA} (I: BvIn C Cf X H b u A) (k: But [] H H'): BvIn C Cf X H' b u A:=I.frame fun a o e _ => k a o e (by simp)
theorem BvIn.at_lt {C Cf: Addr} {X: Addr -> Prop} {H: Hp} {b: Addr} {u: List Tide.Level} {A: BkA} (I: BvIn C Cf X H b u A) {i: Nat} (h: i < (marks u).length): (∃ g,A.D.gs[i]? = some g /\ gF A.D.gs i = (g: Int)) /\ ∃ z,A.D.ls[i]? = some z /\ lF A.D.ls i = z:=by
 have h1: i < A.D.gs.length:=by rw [I.foN]; exact h
 have h2: i < A.D.ls.length:=by rw [I.foL]; exact h1
 exact ⟨⟨_,List.getElem?_eq_getElem h1,gF_at (List.getElem?_eq_getElem h1)⟩,_,List.getElem?_eq_getElem h2,lF_at (List.getElem?_eq_getElem h2)⟩
theorem BvIn.gsame {C Cf: Addr} {X: Addr -> Prop} {H: Hp} {b: Addr} {u: List Tide.Level} {A: BkA} (I: BvIn C Cf X H b u A) {i j gi gj: Nat} (hi: A.D.gs[i]? = some gi) (hj: A.D.gs[j]? = some gj): gi = gj ↔ (placeOf (takeAll u).places i).1 = (placeOf (takeAll u).places j).1:=by
 have li: i < (marks u).length:=by rw [<- I.foN]; exact (List.getElem?_eq_some_iff.mp hi).1
 have lj: j < (marks u).length:=by rw [<- I.foN]; exact (List.getElem?_eq_some_iff.mp hj).1
 rw [<- I.lev.same i j li lj,gF_at hi,gF_at hj]; omega
section
variable {P: Program} {w: World} {K: PySem.W.Frag} {mg: Str -> Option Value} {base: Heap}
def spCk (T: TxD K mg): Sp:=fun vs H Q E => ∃ (b: Addr) (X: Addr -> Prop) (ls: List Tide.Level) (B: BkA) (i: Nat),vs = [.ref b,nV i] /\ BvIn T.bkC T.foC X H b ls B /\ (i < (marks ls).length -> Q .non H) /\ ((marks ls).length <= i -> GivesE K T.R H E)
theorem sc_ck: FnScope ["book","mark"] ["book","mark"] (defScope (top 19)):=⟨rfl,rfl,rfl,by decide +kernel,rfl,by decide +kernel,by decide +kernel⟩
theorem ok_ck (T: TxA K mg): FnOk P w K mg base (XC P w) 4 T.ck.f T.ck.fd ["book","mark"] (spCk T.toTxD):=by
 have G: FnOk P w K mg base (XC P w) 2 T.noMark.init.f T.noMark.init.fd ["self"] (spNoI K T.R (-4)):=ok_nmI T.r
 refine T.ck.prove sc_ck (fun vs H Q E h => ?_) (fun cdv A outer s H vs Q E hr h => ?_)
 ·obtain ⟨b,X,ls,B,i,rfl,_⟩:=h
  rfl
 ·obtain ⟨b,X,ls,B,i,rfl,I,k1,k2⟩:=h
  obtain ⟨db,hb⟩:=I.ins
  refine ⟨_,pss_one (ps_if (pt_cmpR op_ge (pv 1) (pe_callB call_len_seq (by rfl) T.lenN bo_len (pa_cons (pe_fld (pv 0) rfl) pa_nil)) (nomark _)) (pss_one (ps_raise rfl raisesX (pe_xmake0 T.noMark.made G hr rfl T.noMark.mgC T.noMark.init.b passX))) pss_nil),?_⟩
  refine ⟨_,rfl,_,rfl,b,T.bkC,db,_,_,rfl,hb,T.bkCl,T.bkN,rfl,B.nA,_,rfl,.inl (SqL.of I.n),_,_,rfl,rfl,_,rfl,?_⟩
  rw [List.length_map,I.ntl]
  refine iteB (fun q => ?_) (fun q => ?_)
  ·have q: ((marks ls).length: Int) <= (i: Int):=of_decide_eq_true q
   exact no_end T.noMark.made T.noMark.noT (k2 (by omega))
  ·have q: ¬ ((marks ls).length: Int) <= (i: Int):=of_decide_eq_false q
   exact k1 (by omega)
def spSz (T: TxD K mg): Sp:=fun vs H Q _ => ∃ (b: Addr) (X: Addr -> Prop) (ls: List Tide.Level) (B: BkA),vs = [.ref b] /\ BvIn T.bkC T.foC X H b ls B /\ GivesQ H [0,((marks ls).length: Int),((takeAll ls).overs: Int),(Tide.groups (takeAll ls): Int)] Q
theorem sc_sz: FnScope ["book"] ["book"] (defScope (top 20)):=⟨rfl,rfl,rfl,by decide +kernel,rfl,by decide +kernel,by decide +kernel⟩
theorem ok_sz (T: TxA K mg): FnOk P w K mg base (XC P w) 2 T.szT.f T.szT.fd ["book"] (spSz T.toTxD):=by
 have GC: FnOk P w K mg base (XC P w) 1 T.countGr.f T.countGr.fd ["self"] (spCnt T.foC):=ok_cnt T.toTxB.toTxF
 refine T.szT.prove sc_sz (fun vs H Q E h => ?_) (fun cdv A outer s H vs Q E hr h => ?_)
 ·obtain ⟨b,X,ls,B,rfl,_⟩:=h
  rfl
 ·obtain ⟨b,X,ls,B,rfl,I,k⟩:=h
  obtain ⟨db,hb⟩:=I.ins
  obtain ⟨aF,Fo⟩:=id I.fo
  obtain ⟨df,ef⟩:=Fo.ins
  have R:=I.right
  refine ⟨_,pss_one (ps_ret (pe_lst (pa_cons pe_int (pa_cons (pe_callB call_len_seq (by rfl) T.lenN bo_len (pa_cons (pe_fld (pv 0) rfl) pa_nil)) (pa_cons (pe_fld (pv 0) rfl) (pa_cons (pe_meth0 (pe_fld (pv 0) rfl) T.foCl T.countGr.m GC hr T.countGr.b .nil passX) pa_nil)))))),?_⟩
  refine ⟨_,rfl,b,T.bkC,db,_,_,rfl,hb,T.bkCl,T.bkN,rfl,B.nA,_,rfl,.inl (SqL.of I.n),_,rfl,b,T.bkC,db,_,_,rfl,hb,T.bkCl,T.bkO,rfl,
   _,rfl,b,T.bkC,db,_,_,rfl,hb,T.bkCl,T.bkF,rfl,B.fA,df,_,rfl,ef,rfl,B.fA,B.D,X,rfl,I.fo,(by show 4 <= sizeLine; decide),fun l hl => ?_⟩
  have gr: B.D.gs.length - B.D.c = Tide.groups (takeAll ls):=by
   have:=R.wf.count
   rw [I.foN,I.foC,I.foF]
   rw [R.len] at this
   omega
  rw [gr,List.length_map,I.ntl]
  exact k.new hl
def spNt (T: TxD K mg): Sp:=fun vs H Q E => ∃ (b: Addr) (X: Addr -> Prop) (ls: List Tide.Level) (B: BkA) (i: Nat),vs = [.ref b,nV i] /\ BvIn T.bkC T.foC X H b ls B /\ (printedLevels ls).length <= 30000 /\
 (∀ nm,(marks ls)[i]? = some nm -> GivesQ H (0 :: (nm.length: Int) :: codes nm) Q) /\ ((marks ls)[i]? = none -> GivesE K T.R H E)
theorem sc_nt: FnScope ["book","mark"] ["book","mark"] (defScope (top 21)):=⟨rfl,rfl,rfl,by decide +kernel,rfl,by decide +kernel,by decide +kernel⟩
theorem ok_nt (T: TxA K mg): FnOk P w K mg base (XC P w) 5 T.nmT.f T.nmT.fd ["book","mark"] (spNt T.toTxD):=by
 have GK: FnOk P w K mg base (XC P w) 4 T.ck.f T.ck.fd ["book","mark"] (spCk T.toTxD):=ok_ck T
 have GT: FnOk P w K mg base (XC P w) 1 T.told.f T.told.fd ["row"] spTold:=ok_told T.toTxD
 refine T.nmT.prove sc_nt (fun vs H Q E h => ?_) (fun cdv A outer s H vs Q E hr h => ?_)
 ·obtain ⟨b,X,ls,B,i,rfl,_⟩:=h
  rfl
 ·obtain ⟨b,X,ls,B,i,rfl,I,small,k1,k2⟩:=h
  obtain ⟨db,hb⟩:=I.ins
  have hr1: Room 1 _:=hr.mono (by decide)
  refine ⟨_,pss_cons (ps_expr (pe_call GK hr rfl T.mgCk T.kpCk T.ck.b .nil passX (pa_cons (pv 0) (pa_cons (pv 1) pa_nil))))
   (pss_one (ps_ret (pe_op op_cat (pe_lst (pa_cons pe_int pa_nil)) (pe_call GT hr1 rfl T.mgTold T.kpTold T.told.b .nil passX (pa_cons (pe_ix ix_list (pe_fld (pv 0) rfl) (pv 1) (fun _ _ => rfl)) pa_nil))))),?_⟩
  refine ⟨_,rfl,_,rfl,b,X,ls,B,i,rfl,I,fun lt => ?_,fun ge => k2 (List.getElem?_eq_none ge)⟩
  have hn:=List.getElem?_eq_getElem lt
  obtain ⟨t,ht⟩: ∃ t,B.nts[i]? = some t:=⟨_,List.getElem?_eq_getElem (by rw [I.ntl]; exact lt)⟩
  refine ⟨(by show 1 <= sizeLine; decide),fun l1 h1 => ?_⟩
  have b1: But [] H (upd H l1 (.lst [V.int 0])):=fun a o e _ => upd_new h1 _ _ e
  have I1:=I.same b1
  have nl:=Nat.le_trans (Mh.name_le (List.mem_of_getElem? hn)) small
  refine ⟨_,rfl,b,T.bkC,db,_,_,rfl,b1 _ _ hb (by simp),T.bkCl,T.bkN,rfl,_,rfl,B.nA,_,_,.ref t,rfl,rfl,SqL.of I1.n,atI_nat (j:=i) (by rw [List.getElem?_map,ht]; rfl),t,codes _,rfl,.inr (I1.nt _ _ _ ht hn),by rw [Mh.codes_length]; exact Nat.le_trans (Nat.succ_le_succ nl) (by decide),fun l2 H2 h2 n2 b2 => ?_⟩
  refine (k1 _ hn).cat ?_ (b1.trans b2) (b2 _ _ upd_same (by simp)) (by rw [h2,Mh.codes_length])
  rw [List.length_cons,Mh.codes_length]
  exact Nat.le_trans (Nat.succ_le_succ (Nat.succ_le_succ nl)) (by decide)
def spFn (T: TxD K mg): Sp:=fun vs H Q E => ∃ (b r: Addr) (X: Addr -> Prop) (ls: List Tide.Level) (B: BkA) (row: List Int),vs = [.ref b,.ref r] /\ BvIn T.bkC T.foC X H b ls B /\ H r = some (.lst (row.map V.int)) /\ codes (bytesOf row) = row /\
 (∀ i,numberIn (marks ls) (bytesOf row) = some i -> GivesQ H [0,(i: Int)] Q) /\ (numberIn (marks ls) (bytesOf row) = none -> GivesE K T.R H E)
theorem sc_fn: FnScope ["book","row","name"] ["book","row"] (defScope (top 22)):=⟨rfl,rfl,rfl,by decide +kernel,rfl,by decide +kernel,by decide +kernel⟩
theorem ok_fn (T: TxA K mg): FnOk P w K mg base (XC P w) 4 T.fnT.f T.fnT.fd ["book","row"] (spFn T.toTxD):=by
 have G: FnOk P w K mg base (XC P w) 2 T.noMark.init.f T.noMark.init.fd ["self"] (spNoI K T.R (-4)):=ok_nmI T.r
 refine T.fnT.prove sc_fn (fun vs H Q E h => ?_) (fun cdv A outer s H vs Q E hr h => ?_)
 ·obtain ⟨b,r,X,ls,B,row,rfl,_⟩:=h
  rfl
 ·obtain ⟨b,r,X,ls,B,row,rfl,I,hrw,cb,k1,k2⟩:=h
  obtain ⟨db,hb⟩:=I.ins
  have hu:=hu_of hr
  refine ⟨_,pss_cons (ps_set (i:=2) sc_fn.nd rfl (Or.inl rfl) (pe_callTy call_tuple_of (by rfl) T.tupleN bo_tuple (pa_cons (pv 1) pa_nil)))
   (pss_cons (ps_if (pt_cmp (pc_dnotin hu (pv 2) (pe_fld (pv 0) rfl))) (pss_one (ps_raise rfl raisesX (pe_xmake0 T.noMark.made G hr rfl T.noMark.mgC T.noMark.init.b passX))) pss_nil)
   (pss_one (ps_ret (pe_lst (pa_cons pe_int (pa_cons (pe_dget hu (pe_fld (pv 0) rfl) (pv 2) (fun _ _ => rfl)) pa_nil)))))),?_⟩
  refine ⟨_,rfl,r,_,rfl,.inl ⟨SqL.of hrw,fun t ht => ?_⟩⟩
  have b1: But [] H (upd H t (.tup (row.map V.int))):=fun a o e _ => upd_new ht _ _ e
  have t1: upd H t (.tup (row.map V.int)) t = some (.tup (row.map V.int)):=upd_same
  generalize upd H t (.tup (row.map V.int)) = H1 at *
  have I1:=I.same b1
  have hb1:=b1 _ _ hb (by simp)
  have t2:=t1
  rw [<- cb,<- nkey_V] at t2
  refine ⟨_,rfl,_,rfl,b,T.bkC,db,_,_,rfl,hb1,T.bkCl,T.bkM,rfl,B.mA,_,rfl,DGet.t (k:=nkey (bytesOf row)) I1.m t2,_,rfl,?_⟩
  rw [I.mv]
  cases q: numberIn (marks ls) (bytesOf row) with
  | none =>
   refine iteB (fun _ => ?_) (fun z => by cases z)
   exact no_end T.noMark.made T.noMark.noT fun a H' t b => k2 q a H' t (b1.trans b)
  | some i =>
   refine iteB (fun z => by cases z) (fun _ => ?_)
   have dg:=DGet.t (k:=nkey (bytesOf row)) I1.m t2
   rw [I.mv,q] at dg
   exact ⟨_,rfl,b,T.bkC,db,_,_,rfl,hb1,T.bkCl,T.bkM,rfl,_,rfl,B.mA,_,rfl,dg,(by show 2 <= sizeLine; decide),fun l hl => ((k1 i q).from b1).new hl⟩
def spOv (T: TxD K mg): Sp:=fun vs H Q E => ∃ (b: Addr) (X: Addr -> Prop) (ls: List Tide.Level) (B: BkA) (i j: Nat),vs = [.ref b,nV i,nV j] /\ BvIn T.bkC T.foC X H b ls B /\
 (i < (marks ls).length -> j < (marks ls).length -> GivesQ H (if (placeOf (takeAll ls).places i).1 = (placeOf (takeAll ls).places j).1 then [1,(placeOf (takeAll ls).places j).2 - (placeOf (takeAll ls).places i).2] else [0]) Q) /\ ((marks ls).length <= i \/ (marks ls).length <= j -> GivesE K T.R H E)
theorem sc_ov: FnScope ["book","lower","upper"] ["book","lower","upper"] (defScope (top 23)):=⟨rfl,rfl,rfl,by decide +kernel,rfl,by decide +kernel,by decide +kernel⟩
theorem ok_ov (T: TxA K mg): FnOk P w K mg base (XC P w) 5 T.ovT.f T.ovT.fd ["book","lower","upper"] (spOv T.toTxD):=by
 have GK: FnOk P w K mg base (XC P w) 4 T.ck.f T.ck.fd ["book","mark"] (spCk T.toTxD):=ok_ck T
 have GO: FnOk P w K mg base (XC P w) 1 T.together.f T.together.fd ["self","one","other"] (spTog T.foC):=ok_tog T.toTxB.toTxF
 have GR: FnOk P w K mg base (XC P w) 1 T.rise.f T.rise.fd ["self","lower","upper"] (spRise T.foC):=ok_rise T.toTxB.toTxF
 refine T.ovT.prove sc_ov (fun vs H Q E h => ?_) (fun cdv A outer s H vs Q E hr h => ?_)
 ·obtain ⟨b,X,ls,B,i,j,rfl,_⟩:=h
  rfl
 ·obtain ⟨b,X,ls,B,i,j,rfl,I,k1,k2⟩:=h
  obtain ⟨db,hb⟩:=I.ins
  obtain ⟨aF,Fo⟩:=id I.fo
  obtain ⟨df,ef⟩:=Fo.ins
  have hr1: Room 1 _:=hr.mono (by decide)
  refine ⟨_,pss_cons (ps_expr (pe_call GK hr rfl T.mgCk T.kpCk T.ck.b .nil passX (pa_cons (pv 0) (pa_cons (pv 1) pa_nil))))
   (pss_cons (ps_expr (pe_call GK hr rfl T.mgCk T.kpCk T.ck.b .nil passX (pa_cons (pv 0) (pa_cons (pv 2) pa_nil))))
   (pss_cons (ps_if (pt_not (pt_val (pe_meth (pe_fld (pv 0) rfl) T.foCl T.together.m GO hr1 T.together.b .nil passX (pa_cons (pv 1) (pa_cons (pv 2) pa_nil))))) (pss_one (ps_ret (pe_lst (pa_cons pe_int pa_nil)))) pss_nil)
   (pss_one (ps_ret (pe_lst (pa_cons pe_int (pa_cons (pe_meth (pe_fld (pv 0) rfl) T.foCl T.rise.m GR hr1 T.rise.b .nil passX (pa_cons (pv 1) (pa_cons (pv 2) pa_nil))) pa_nil))))))),?_⟩
  refine ⟨_,rfl,_,rfl,b,X,ls,B,i,rfl,I,fun li => ?_,fun ge => k2 (.inl ge)⟩
  refine ⟨_,rfl,_,rfl,b,X,ls,B,j,rfl,I,fun lj => ?_,fun ge => k2 (.inr ge)⟩
  have k:=k1 li lj
  obtain ⟨⟨gi,hgi,vgi⟩,zi,hzi,vzi⟩:=I.at_lt li
  obtain ⟨⟨gj,hgj,vgj⟩,zj,hzj,vzj⟩:=I.at_lt lj
  have gs:=I.gsame hgi hgj
  refine ⟨_,rfl,b,T.bkC,db,_,_,rfl,hb,T.bkCl,T.bkF,rfl,B.fA,df,_,rfl,ef,rfl,_,rfl,_,rfl,B.fA,B.D,X,i,j,gi,gj,rfl,I.fo,hgi,hgj,_,rfl,iteB (fun q => ?_) (fun q => ?_)⟩
  ·have q: ¬ gi = gj:=by simpa using q
   rw [if_neg fun z => q (gs.mpr z)] at k
   exact ⟨(by show 1 <= sizeLine; decide),fun l hl => k.new hl⟩
  ·have q: gi = gj:=by simpa using q
   have gp:=gs.mp q
   have lv:=I.lev.lev i j li lj ((I.lev.same i j li lj).mpr gp)
   rw [vzi,vzj] at lv
   rw [if_pos gp,<- lv] at k
   exact ⟨_,rfl,b,T.bkC,db,_,_,rfl,hb,T.bkCl,T.bkF,rfl,B.fA,df,_,rfl,ef,rfl,_,rfl,_,rfl,B.fA,B.D,X,i,j,zi,zj,rfl,I.fo,hzi,hzj,(by show 2 <= sizeLine; decide),fun l hl => k.new hl⟩
def spWy (T: TxD K mg): Sp:=fun vs H Q E => ∃ (b: Addr) (X: Addr -> Prop) (ls: List Tide.Level) (B: BkA) (i j: Nat),vs = [.ref b,nV i,nV j] /\ BvIn T.bkC T.foC X H b ls B /\
 (i < (marks ls).length -> j < (marks ls).length -> ∀ ns: List Int,ns.length <= 2000 -> ns = (match Tide.way (takeAll ls) i j with | none => [0] | some r => 1 :: (r.length: Int) :: Tide.asInts (r.map (·.1))) -> GivesQ H ns Q) /\ ((marks ls).length <= i \/ (marks ls).length <= j -> GivesE K T.R H E)
theorem sc_wy: FnScope ["book","start","goal"] ["book","start","goal"] (defScope (top 24)):=⟨rfl,rfl,rfl,by decide +kernel,rfl,by decide +kernel,by decide +kernel⟩
theorem ok_wy (T: TxA K mg): FnOk P w K mg base (XC P w) 5 T.wyT.f T.wyT.fd ["book","start","goal"] (spWy T.toTxD):=by
 have GK: FnOk P w K mg base (XC P w) 4 T.ck.f T.ck.fd ["book","mark"] (spCk T.toTxD):=ok_ck T
 have GO: FnOk P w K mg base (XC P w) 1 T.together.f T.together.fd ["self","one","other"] (spTog T.foC):=ok_tog T.toTxB.toTxF
 have GW: FnOk P w K mg base (XC P w) 2 T.wayM.f T.wayM.fd ["self","start","goal"] (spWay T.foC):=ok_way T.toTxB.toTxF
 have GT: FnOk P w K mg base (XC P w) 1 T.told.f T.told.fd ["row"] spTold:=ok_told T.toTxD
 refine T.wyT.prove sc_wy (fun vs H Q E h => ?_) (fun cdv A outer s H vs Q E hr h => ?_)
 ·obtain ⟨b,X,ls,B,i,j,rfl,_⟩:=h
  rfl
 ·obtain ⟨b,X,ls,B,i,j,rfl,I,k1,k2⟩:=h
  obtain ⟨db,hb⟩:=I.ins
  obtain ⟨aF,Fo⟩:=id I.fo
  obtain ⟨df,ef⟩:=Fo.ins
  have hr1: Room 1 _:=hr.mono (by decide)
  have hr2: Room 2 _:=hr.mono (by decide)
  refine ⟨_,pss_cons (ps_expr (pe_call GK hr rfl T.mgCk T.kpCk T.ck.b .nil passX (pa_cons (pv 0) (pa_cons (pv 1) pa_nil))))
   (pss_cons (ps_expr (pe_call GK hr rfl T.mgCk T.kpCk T.ck.b .nil passX (pa_cons (pv 0) (pa_cons (pv 2) pa_nil))))
   (pss_cons (ps_if (pt_not (pt_val (pe_meth (pe_fld (pv 0) rfl) T.foCl T.together.m GO hr1 T.together.b .nil passX (pa_cons (pv 1) (pa_cons (pv 2) pa_nil))))) (pss_one (ps_ret (pe_lst (pa_cons pe_int pa_nil)))) pss_nil)
   (pss_one (ps_ret (pe_op op_cat (pe_lst (pa_cons pe_int pa_nil)) (pe_call GT hr1 rfl T.mgTold T.kpTold T.told.b .nil passX (pa_cons (pe_meth (pe_fld (pv 0) rfl) T.foCl T.wayM.m GW hr2 T.wayM.b .nil passX (pa_cons (pv 1) (pa_cons (pv 2) pa_nil))) pa_nil))))))),?_⟩
  refine ⟨_,rfl,_,rfl,b,X,ls,B,i,rfl,I,fun li => ?_,fun ge => k2 (.inl ge)⟩
  refine ⟨_,rfl,_,rfl,b,X,ls,B,j,rfl,I,fun lj => ?_,fun ge => k2 (.inr ge)⟩
  have k:=k1 li lj
  have R:=I.right
  obtain ⟨⟨gi,hgi,vgi⟩,zi,hzi,vzi⟩:=I.at_lt li
  obtain ⟨⟨gj,hgj,vgj⟩,zj,hzj,vzj⟩:=I.at_lt lj
  have gs:=I.gsame hgi hgj
  refine ⟨_,rfl,b,T.bkC,db,_,_,rfl,hb,T.bkCl,T.bkF,rfl,B.fA,df,_,rfl,ef,rfl,_,rfl,_,rfl,B.fA,B.D,X,i,j,gi,gj,rfl,I.fo,hgi,hgj,_,rfl,iteB (fun q => ?_) (fun q => ?_)⟩
  ·have q: ¬ gi = gj:=by simpa using q
   rw [Mh.way_none R li lj fun z => q (gs.mpr z)] at k
   exact ⟨(by show 1 <= sizeLine; decide),fun l hl => (k [0] (by show 1 <= 2000; decide) rfl).new hl⟩
  ·have q: gi = gj:=by simpa using q
   have gp:=gs.mp q
   refine ⟨(by show 1 <= sizeLine; decide),fun l1 h1 => ?_⟩
   have b1: But [] H (upd H l1 (.lst [V.int 1])):=fun a o e _ => upd_new h1 _ _ e
   have I1:=I.same b1
   have ends: ∀ x ∈ B.D.F,x.a < B.D.gs.length /\ x.b < B.D.gs.length:=by
    rw [I.foF,I.foN,<- R.len]; exact R.wf.ends
   have conn: Mh.Conn B.D.F i j:=by
    rw [I.foF]
    exact (R.wf.conn i j (by rw [R.len]; exact li) (by rw [R.len]; exact lj)).mpr gp
   have lf: B.D.F.length <= 1024:=by
    have:=R.wf.count
    have:=R.len
    have:=R.few
    rw [I.foF]; omega
   refine ⟨_,rfl,b,T.bkC,db,_,_,rfl,b1 _ _ hb (by simp),T.bkCl,T.bkF,rfl,B.fA,df,_,rfl,b1 _ _ ef (by simp),rfl,_,rfl,_,rfl,B.fA,B.D,X,i,j,rfl,I1.fo,(by rw [I.foN]; exact lj),(by rw [I.foN]; exact R.few),ends,(by rw [I.foF]; exact R.wf.acyc),conn,fun l2 H2 p h2 hl2 tr nb b2 => ?_⟩
   have pl: p.length <= 1024:=by
    have:=Mh.Acyc.short (by rw [I.foF]; exact R.wf.acyc) tr nb
    omega
   have tr2:=tr
   rw [I.foF] at tr2
   obtain ⟨r,hr,hrp⟩:=Mh.way_eq R tr2 nb
   have rl: r.length = p.length:=by rw [<- hrp,List.length_map]
   have pi: (Tide.asInts p).map V.int = p.map nV:=by unfold Tide.asInts; rw [List.map_map]; rfl
   have al: (Tide.asInts p).length = p.length:=by unfold Tide.asInts; exact List.length_map _
   rw [<- pi] at h2
   have g:=k (1 :: (p.length: Int) :: Tide.asInts p) (by rw [List.length_cons,List.length_cons,al]; omega) (by rw [hr]; show _ = 1 :: (r.length: Int) :: Tide.asInts (r.map (·.1)); rw [rl,hrp])
   refine ⟨l2,Tide.asInts p,rfl,.inl h2,by rw [al]; exact Nat.le_trans (Nat.succ_le_succ pl) (by decide),fun l3 H3 h3 n3 b3 => ?_⟩
   refine g.cat ?_ (b1.trans (b2.trans b3)) (b3 _ _ (b2 _ _ upd_same (by simp)) (by simp)) (by rw [h3,al])
   rw [List.length_cons,al]
   exact Nat.le_trans (Nat.succ_le_succ (Nat.succ_le_succ pl)) (by decide)
theorem BvIn.group {C Cf: Addr} {X: Addr -> Prop} {H: Hp} {b: Addr} {u: List Tide.Level} {B: BkA} (I: BvIn C Cf X H b u B) {i g: Nat} (hi: B.D.gs[i]? = some g) (j: Nat): B.D.gs[j]? = some g ↔ j ∈ Tide.groupOf (takeAll u) i:=by
 rw [Mh.group_mem,I.right.len,<- I.foN]
 constructor
 ·intro h
  exact ⟨(List.getElem?_eq_some_iff.mp h).1,(I.gsame h hi).mp rfl⟩
 ·rintro ⟨h1,h2⟩
  have h:=List.getElem?_eq_getElem h1
  rw [h,(I.gsame h hi).mpr h2]
theorem BvIn.endOf {C Cf: Addr} {X: Addr -> Prop} {H: Hp} {b: Addr} {u: List Tide.Level} {B: BkA} (I: BvIn C Cf X H b u B) {i g m: Nat} {z: Int} (hz: z = 1 \/ z = -1) (hi: B.D.gs[i]? = some g) (hm: B.D.gs[m]? = some g)
  (hl: ∀ j: Nat,B.D.gs[j]? = some g -> lt2 (z * lF B.D.ls j,(j: Int)) (z * lF B.D.ls m,(m: Int)) = false): Tide.endOf (takeAll u) z (Tide.groupOf (takeAll u) i) = m:=by
 have mem:=(I.group hi m).mp hm
 have key: ∀ j ∈ Tide.groupOf (takeAll u) i,lF B.D.ls j - lF B.D.ls m = (placeOf (takeAll u).places j).2 - (placeOf (takeAll u).places m).2 /\ lt2 (z * lF B.D.ls j,(j: Int)) (z * lF B.D.ls m,(m: Int)) = false:=fun j hj => by
  have h:=(I.group hi j).mpr hj
  have lj: j < (marks u).length:=by rw [<- I.foN]; exact (List.getElem?_eq_some_iff.mp h).1
  have lm: m < (marks u).length:=by rw [<- I.foN]; exact (List.getElem?_eq_some_iff.mp hm).1
  exact ⟨I.lev.lev m j lm lj (by rw [gF_at hm,gF_at h]),hl j h⟩
 have un: ∀ p q: Int × Int,lt2 p q = false -> ¬ p.1 < q.1 /\ (p.1 = q.1 -> ¬ p.2 < q.2):=fun p q h => by
  unfold lt2 at h
  simp only [Bool.or_eq_false_iff,Bool.and_eq_false_iff,decide_eq_false_iff_not,beq_eq_false_iff_ne] at h
  omega
 refine Mh.endOf_is (fun e => by rw [e] at mem; cases mem) (Mh.group_sorted _ _) mem (fun j hj => ?_) fun j hj e => ?_
 ·obtain ⟨h1,h2⟩:=key j hj
  have h3:=(un _ _ h2).1
  simp only at h3
  rcases hz with rfl | rfl <;> omega
 ·obtain ⟨h1,h2⟩:=key j hj
  have h3:=(un _ _ h2).2
  simp only at h3
  rcases hz with rfl | rfl <;> omega
def spEd (T: TxD K mg): Sp:=fun vs H Q E => ∃ (b: Addr) (X: Addr -> Prop) (ls: List Tide.Level) (B: BkA) (i: Nat),vs = [.ref b,nV i] /\ BvIn T.bkC T.foC X H b ls B /\
 (i < (marks ls).length -> GivesQ H [0,((Tide.groupOf (takeAll ls) i).length: Int),(Tide.endOf (takeAll ls) 1 (Tide.groupOf (takeAll ls) i): Int),(Tide.endOf (takeAll ls) (-1) (Tide.groupOf (takeAll ls) i): Int)] Q) /\ ((marks ls).length <= i -> GivesE K T.R H E)
theorem sc_ed: FnScope ["book","mark","forest"] ["book","mark"] (defScope (top 25)):=⟨rfl,rfl,rfl,by decide +kernel,rfl,by decide +kernel,by decide +kernel⟩
theorem ok_ed (T: TxA K mg): FnOk P w K mg base (XC P w) 5 T.edT.f T.edT.fd ["book","mark"] (spEd T.toTxD):=by
 have GK: FnOk P w K mg base (XC P w) 4 T.ck.f T.ck.fd ["book","mark"] (spCk T.toTxD):=ok_ck T
 have GC: FnOk P w K mg base (XC P w) 2 T.countT.f T.countT.fd ["self","mark"] (spCt T.foC):=ok_ct T.toTxB.toTxF
 have GL: FnOk P w K mg base (XC P w) 2 T.lowest.f T.lowest.fd ["self","mark"] (spExt T.foC 1):=ok_lo T.toTxB.toTxF
 have GH: FnOk P w K mg base (XC P w) 2 T.highest.f T.highest.fd ["self","mark"] (spExt T.foC (-1)):=ok_hi T.toTxB.toTxF
 refine T.edT.prove sc_ed (fun vs H Q E h => ?_) (fun cdv A outer s H vs Q E hr h => ?_)
 ·obtain ⟨b,X,ls,B,i,rfl,_⟩:=h
  rfl
 ·obtain ⟨b,X,ls,B,i,rfl,I,k1,k2⟩:=h
  obtain ⟨db,hb⟩:=I.ins
  obtain ⟨aF,Fo⟩:=id I.fo
  obtain ⟨df,ef⟩:=Fo.ins
  have hr2: Room 2 _:=hr.mono (by decide)
  refine ⟨_,pss_cons (ps_expr (pe_call GK hr rfl T.mgCk T.kpCk T.ck.b .nil passX (pa_cons (pv 0) (pa_cons (pv 1) pa_nil))))
   (pss_cons (ps_set (i:=2) sc_ed.nd rfl (Or.inl rfl) (pe_fld (pv 0) rfl))
   (pss_one (ps_ret (pe_lst (pa_cons pe_int (pa_cons (pe_meth (pv 2) T.foCl T.countT.m GC hr2 T.countT.b .nil passX (pa_cons (pv 1) pa_nil)) (pa_cons (pe_meth (pv 2) T.foCl T.lowest.m GL hr2 T.lowest.b .nil passX (pa_cons (pv 1) pa_nil)) (pa_cons (pe_meth (pv 2) T.foCl T.highest.m GH hr2 T.highest.b .nil passX (pa_cons (pv 1) pa_nil)) pa_nil)))))))),?_⟩
  refine ⟨_,rfl,_,rfl,b,X,ls,B,i,rfl,I,fun li => ?_,fun ge => k2 ge⟩
  have k:=k1 li
  have R:=I.right
  have few: B.D.gs.length <= 1024:=by rw [I.foN]; exact R.few
  obtain ⟨⟨g,hg,_⟩,_⟩:=I.at_lt li
  refine ⟨_,rfl,b,T.bkC,db,_,_,rfl,hb,T.bkCl,T.bkF,rfl,_,rfl,B.fA,df,_,rfl,ef,rfl,_,rfl,B.fA,B.D,X,i,g,rfl,I.fo,hg,fun ms nd hm => ?_⟩
  refine ⟨_,rfl,B.fA,df,_,rfl,ef,rfl,_,rfl,B.fA,B.D,X,i,g,rfl,I.fo,hg,few,fun m1 H1 g1 e1 b1 => ?_⟩
  refine ⟨_,rfl,B.fA,df,_,rfl,b1 _ _ ef (by simp),rfl,_,rfl,B.fA,B.D,X,i,g,rfl,(I.same b1).fo,hg,few,fun m2 H2 g2 e2 b2 => ⟨(by show 4 <= sizeLine; decide),fun l hl => ?_⟩⟩
  rw [I.endOf (.inl rfl) hg g1 e1,I.endOf (.inr rfl) hg g2 e2,Mh.group_len nd (i:=i) fun j => by rw [hm,I.group hg,Mh.group_mem]] at k
  exact (k.from (b1.trans b2)).new hl
end
end Mp
end
section
namespace Mp
open PySem PySem.Spec PyProof.Rows L2 Xc
open Mh (codes linesFrom bytesOf)
open Tide (marks takeAll numberIn printedLevels placeOf)
section
variable {P: Program} {w: World} {K: PySem.W.Frag} {mg: Str -> Option Value} {base: Heap}
def spTd (T: TxD K mg): Sp:=fun vs H Q E => ∃ (b c: Addr) (X: Addr -> Prop) (ls: List Tide.Level) (B: BkA) (cl: List (List Int)) (F: List Addr),vs = [.ref b,.ref c] /\ BvIn T.bkC T.foC X H b ls B /\ (printedLevels ls).length <= 30000 /\ CallAt T.callC H c cl F /\ TideDatumsNeutral.asked1 cl = true /\ (∀ t,cl ≠ [[0],t]) /\
 (∀ ns,TideDatumsNeutral.step (some ls) cl = (some ls,ns) -> ns.length <= 40000 -> GivesQ H ns Q) /\ (TideDatumsNeutral.step (some ls) cl = (some ls,[-4]) -> GivesE K T.R H E)
theorem sc_td: FnScope ["book","call","given"] ["book","call"] (defScope (top 26)):=⟨rfl,rfl,rfl,by decide +kernel,rfl,by decide +kernel,by decide +kernel⟩
theorem ok_td (T: TxA K mg): FnOk P w K mg base (XC P w) 6 T.tdB.f T.tdB.fd ["book","call"] (spTd T.toTxD):=by
 have GT: FnOk P w K mg base (XC P w) 1 T.told.f T.told.fd ["row"] spTold:=ok_told T.toTxD
 have GS: FnOk P w K mg base (XC P w) 2 T.szT.f T.szT.fd ["book"] (spSz T.toTxD):=ok_sz T
 have GN: FnOk P w K mg base (XC P w) 5 T.nmT.f T.nmT.fd ["book","mark"] (spNt T.toTxD):=ok_nt T
 have GF: FnOk P w K mg base (XC P w) 4 T.fnT.f T.fnT.fd ["book","row"] (spFn T.toTxD):=ok_fn T
 have GO: FnOk P w K mg base (XC P w) 5 T.ovT.f T.ovT.fd ["book","lower","upper"] (spOv T.toTxD):=ok_ov T
 have GW: FnOk P w K mg base (XC P w) 5 T.wyT.f T.wyT.fd ["book","start","goal"] (spWy T.toTxD):=ok_wy T
 have GE: FnOk P w K mg base (XC P w) 5 T.edT.f T.edT.fd ["book","mark"] (spEd T.toTxD):=ok_ed T
 refine T.tdB.prove sc_td (fun vs H Q E h => ?_) (fun cdv A outer s H vs Q E hr h => ?_)
 ·obtain ⟨b,c,X,ls,B,cl,F,rfl,_⟩:=h
  rfl
 ·obtain ⟨b,c,X,ls,B,cl,F,rfl,I,small,C,ask,nb,kQ,kE⟩:=h
  have hr1: Room 1 _:=hr.mono (by decide)
  have hr2: Room 2 _:=hr.mono (by decide)
  have hr4: Room 4 _:=hr.mono (by decide)
  obtain ⟨dc,g,p,hc,C⟩:=C
  obtain ⟨db,hb⟩:=I.ins
  refine ⟨_,pss_cons (ps_set (i:=2) sc_td.nd rfl (Or.inl rfl) (pe_fld (pv 1) rfl))
   (pss_cons (ps_if (pt_cmpR op_eq (pe_fld (pv 1) rfl) (pe_gi rfl T.cPrint) (nomark _)) (pss_one (ps_ret (pe_op op_cat (pe_lst (pa_cons pe_int pa_nil)) (pe_call GT hr1 rfl T.mgTold T.kpTold T.told.b .nil passX (pa_cons (pe_fld (pv 0) rfl) pa_nil))))) pss_nil)
   (pss_cons (ps_if (pt_cmpR op_eq (pe_fld (pv 1) rfl) (pe_gi rfl T.cSize) (nomark _)) (pss_one (ps_ret (pe_call GS hr2 rfl T.mgSz T.kpSz T.szT.b .nil passX (pa_cons (pv 0) pa_nil)))) pss_nil)
   (pss_cons (ps_if (pt_cmpR op_eq (pe_fld (pv 1) rfl) (pe_gi rfl T.cName) (nomark _)) (pss_one (ps_ret (pe_call GN hr rfl T.mgNm T.kpNm T.nmT.b .nil passX (pa_cons (pv 0) (pa_cons (pe_ix ix_list (pv 2) pe_int (fun _ _ => rfl)) pa_nil))))) pss_nil)
   (pss_cons (ps_if (pt_cmpR op_eq (pe_fld (pv 1) rfl) (pe_gi rfl T.cFind) (nomark _)) (pss_one (ps_ret (pe_call GF hr4 rfl T.mgFn T.kpFn T.fnT.b .nil passX (pa_cons (pv 0) (pa_cons (pe_ix ix_list (pv 2) pe_int (fun _ _ => rfl)) pa_nil))))) pss_nil)
   (pss_cons (ps_if (pt_cmpR op_eq (pe_fld (pv 1) rfl) (pe_gi rfl T.cOver) (nomark _)) (pss_one (ps_ret (pe_call GO hr rfl T.mgOv T.kpOv T.ovT.b .nil passX (pa_cons (pv 0) (pa_cons (pe_ix ix_list (pv 2) pe_int (fun _ _ => rfl)) (pa_cons (pe_ix ix_list (pv 2) pe_int (fun _ _ => rfl)) pa_nil)))))) pss_nil)
   (pss_cons (ps_if (pt_cmpR op_eq (pe_fld (pv 1) rfl) (pe_gi rfl T.cWay) (nomark _)) (pss_one (ps_ret (pe_call GW hr rfl T.mgWy T.kpWy T.wyT.b .nil passX (pa_cons (pv 0) (pa_cons (pe_ix ix_list (pv 2) pe_int (fun _ _ => rfl)) (pa_cons (pe_ix ix_list (pv 2) pe_int (fun _ _ => rfl)) pa_nil)))))) pss_nil)
   (pss_one (ps_ret (pe_call GE hr rfl T.mgEd T.kpEd T.edT.b .nil passX (pa_cons (pv 0) (pa_cons (pe_ix ix_list (pv 2) pe_int (fun _ _ => rfl)) pa_nil))))))))))),?_⟩
  refine ⟨_,rfl,c,T.callC,dc,_,_,rfl,hc,T.callCl,T.callG,rfl,?_⟩
  refine ⟨_,rfl,c,T.callC,dc,_,_,rfl,hc,T.callCl,T.callN,rfl,rfl,_,rfl,?_⟩
  rw [dec_i]
  refine iteB (fun q => ?_) (fun q => ?_)
  ·have q: p = 1:=of_decide_eq_true q
   subst q
   obtain rfl: cl = [[(1: Int)]]:=by
    rcases C with ⟨_,_,_,_,h,_⟩ | ⟨_,h,_⟩ | ⟨_,_,_,h,_⟩ | ⟨_,_,_,_,h,_⟩
    ·omega
    ·exact h
    all_goals omega
   have k:=kQ _ Mh.ans_print (by simp only [List.length_cons,Mh.codes_length]; omega)
   refine ⟨(by show 1 <= sizeLine; decide),fun l1 h1 => ?_⟩
   have b1: But [] H (upd H l1 (.lst [V.int 0])):=fun a o e _ => upd_new h1 _ _ e
   refine ⟨_,rfl,b,T.bkC,db,_,_,rfl,b1 _ _ hb (by simp),T.bkCl,T.bkP,rfl,B.pA,codes (printedLevels ls),rfl,.inl (b1 _ _ I.p (by simp)),by rw [Mh.codes_length]; exact Nat.le_trans (Nat.succ_le_succ small) (by decide),fun l2 H2 h2 n2 b2 => ?_⟩
   refine k.cat ?_ (b1.trans b2) (b2 _ _ upd_same (by simp)) (by rw [h2,Mh.codes_length])
   rw [List.length_cons,Mh.codes_length]
   exact Nat.le_trans (Nat.succ_le_succ (Nat.succ_le_succ small)) (by decide)
  have p1: p ≠ 1:=of_decide_eq_false q
  refine ⟨_,rfl,c,T.callC,dc,_,_,rfl,hc,T.callCl,T.callN,rfl,rfl,_,rfl,?_⟩
  rw [dec_i]
  refine iteB (fun q => ?_) (fun q => ?_)
  ·have q: p = 2:=of_decide_eq_true q
   subst q
   obtain rfl: cl = [[(2: Int)]]:=by
    rcases C with ⟨_,_,_,_,h,_⟩ | ⟨_,h,_⟩ | ⟨_,_,_,h,_⟩ | ⟨_,_,_,_,h,_⟩
    ·omega
    ·exact h
    all_goals omega
   exact ⟨_,rfl,b,X,ls,B,rfl,I,kQ _ Mh.ans_size (by show 4 <= 40000; decide)⟩
  have p2: p ≠ 2:=of_decide_eq_false q
  refine ⟨_,rfl,c,T.callC,dc,_,_,rfl,hc,T.callCl,T.callN,rfl,rfl,_,rfl,?_⟩
  rw [dec_i]
  refine iteB (fun q => ?_) (fun q => ?_)
  ·have q: p = 3:=of_decide_eq_true q
   subst q
   obtain ⟨i,rfl,hg⟩: ∃ i,cl = [[(3: Int),i]] /\ H g = some (.lst [.int i]):=by
    rcases C with ⟨_,_,_,_,h,_⟩ | ⟨_,_,h,_⟩ | ⟨i,_,h,_,hg⟩ | ⟨_,_,_,_,h,_⟩
    ·omega
    ·omega
    ·exact ⟨i,h,hg⟩
    ·omega
   have hi: 0 <= i:=(Mh.st_name (s:=none) ask).2
   have an:=Mh.ans_name (ls:=ls) ask
   obtain ⟨n,rfl⟩:=Int.eq_ofNat_of_zero_le hi
   rw [Int.toNat_natCast] at an
   refine ⟨_,rfl,_,rfl,g,_,_,nV n,rfl,rfl,SqL.of hg,atI_nat (j:=0) rfl,b,X,ls,B,n,rfl,I,small,fun nm hnm => ?_,fun hnm => ?_⟩
   ·rw [hnm] at an
    have nl:=Nat.le_trans (Mh.name_le (List.mem_of_getElem? hnm)) small
    exact kQ _ an (by simp only [List.length_cons,Mh.codes_length]; omega)
   ·rw [hnm] at an
    exact kE an
  have p3: p ≠ 3:=of_decide_eq_false q
  refine ⟨_,rfl,c,T.callC,dc,_,_,rfl,hc,T.callCl,T.callN,rfl,rfl,_,rfl,?_⟩
  rw [dec_i]
  refine iteB (fun q => ?_) (fun q => ?_)
  ·have q: p = 4:=of_decide_eq_true q
   subst q
   obtain ⟨row,r,rfl,hg,hrw⟩: ∃ row r,cl = [[(4: Int)],row] /\ H g = some (.lst [.ref r]) /\ H r = some (.lst (row.map V.int)):=by
    rcases C with ⟨row,r,_,h,_,h1,h2⟩ | ⟨_,_,h,_⟩ | ⟨_,_,_,h,_⟩ | ⟨_,_,_,_,h,_⟩
    ·exact ⟨row,r,h,h1,h2⟩
    all_goals omega
   have by_:=(Mh.st_find (s:=none) ask).2
   have cb:=Mh.codes_bytes by_
   have an:=Mh.ans_find (ls:=ls) ask
   refine ⟨_,rfl,_,rfl,g,_,_,.ref r,rfl,rfl,SqL.of hg,atI_nat (j:=0) rfl,b,r,X,ls,B,row,rfl,I,hrw,cb,fun i hq => ?_,fun hq => ?_⟩
   ·rw [hq] at an
    exact kQ _ an (by show 2 <= 40000; decide)
   ·rw [hq] at an
    exact kE an
  have p4: p ≠ 4:=of_decide_eq_false q
  refine ⟨_,rfl,c,T.callC,dc,_,_,rfl,hc,T.callCl,T.callN,rfl,rfl,_,rfl,?_⟩
  rw [dec_i]
  refine iteB (fun q => ?_) (fun q => ?_)
  ·have q: p = 5:=of_decide_eq_true q
   subst q
   obtain ⟨i,j,rfl,hg⟩: ∃ i j,cl = [[(5: Int),i,j]] /\ H g = some (.lst [.int i,.int j]):=by
    rcases C with ⟨_,_,_,_,h,_⟩ | ⟨_,_,h,_⟩ | ⟨_,_,_,h,_⟩ | ⟨i,j,_,h,_,hg⟩
    ·omega
    ·omega
    ·omega
    ·exact ⟨i,j,h,hg⟩
   obtain ⟨hi,hj⟩:=(Mh.st_over (s:=none) ask).2
   have an:=Mh.ans_over (ls:=ls) ask
   obtain ⟨n,rfl⟩:=Int.eq_ofNat_of_zero_le hi
   obtain ⟨m,rfl⟩:=Int.eq_ofNat_of_zero_le hj
   rw [Int.toNat_natCast,Int.toNat_natCast] at an
   refine ⟨_,rfl,_,rfl,g,_,_,nV n,rfl,rfl,SqL.of hg,atI_nat (j:=0) rfl,_,rfl,g,_,_,nV m,rfl,rfl,SqL.of hg,atI_nat (j:=1) rfl,b,X,ls,B,n,m,rfl,I,fun l1 l2 => ?_,fun ge => ?_⟩
   ·rw [if_neg (by omega)] at an
    refine kQ _ an ?_
    split
    ·show 2 <= 40000; decide
    ·show 1 <= 40000; decide
   ·rw [if_pos ge] at an
    exact kE an
  have p5: p ≠ 5:=of_decide_eq_false q
  refine ⟨_,rfl,c,T.callC,dc,_,_,rfl,hc,T.callCl,T.callN,rfl,rfl,_,rfl,?_⟩
  rw [dec_i]
  refine iteB (fun q => ?_) (fun q => ?_)
  ·have q: p = 6:=of_decide_eq_true q
   subst q
   obtain ⟨i,j,rfl,hg⟩: ∃ i j,cl = [[(6: Int),i,j]] /\ H g = some (.lst [.int i,.int j]):=by
    rcases C with ⟨_,_,_,_,h,_⟩ | ⟨_,_,h,_⟩ | ⟨_,_,_,h,_⟩ | ⟨i,j,_,h,_,hg⟩
    ·omega
    ·omega
    ·omega
    ·exact ⟨i,j,h,hg⟩
   obtain ⟨hi,hj⟩:=(Mh.st_way (s:=none) ask).2
   have an:=Mh.ans_way (ls:=ls) ask
   obtain ⟨n,rfl⟩:=Int.eq_ofNat_of_zero_le hi
   obtain ⟨m,rfl⟩:=Int.eq_ofNat_of_zero_le hj
   rw [Int.toNat_natCast,Int.toNat_natCast] at an
   refine ⟨_,rfl,_,rfl,g,_,_,nV n,rfl,rfl,SqL.of hg,atI_nat (j:=0) rfl,_,rfl,g,_,_,nV m,rfl,rfl,SqL.of hg,atI_nat (j:=1) rfl,b,X,ls,B,n,m,rfl,I,fun l1 l2 ns hn e => ?_,fun ge => ?_⟩
   ·rw [if_neg (by omega)] at an
    subst e
    exact kQ _ an (Nat.le_trans hn (by decide))
   ·rw [if_pos ge] at an
    exact kE an
  have p6: p ≠ 6:=of_decide_eq_false q
  obtain ⟨i,rfl,hg⟩: ∃ i,cl = [[(7: Int),i]] /\ H g = some (.lst [.int i]):=by
   rcases C with ⟨row,_,_,e,h,_⟩ | ⟨_,_,h,_⟩ | ⟨i,_,e,h,hg⟩ | ⟨_,_,_,_,h,_⟩
   ·rcases h with h | h
    ·rw [h] at e; exact absurd e (nb _)
    ·exact absurd h p4
   ·omega
   ·have: p = 7:=by omega
    subst this
    exact ⟨i,e,hg⟩
   ·omega
  have hi: 0 <= i:=(Mh.st_ends (s:=none) ask).2
  have an:=Mh.ans_ends (ls:=ls) ask
  obtain ⟨n,rfl⟩:=Int.eq_ofNat_of_zero_le hi
  rw [Int.toNat_natCast] at an
  refine ⟨_,rfl,_,rfl,g,_,_,nV n,rfl,rfl,SqL.of hg,atI_nat (j:=0) rfl,b,X,ls,B,n,rfl,I,fun lt => ?_,fun ge => ?_⟩
  ·rw [if_neg (by omega)] at an
   exact kQ _ an (by show 4 <= 40000; decide)
  ·rw [if_pos ge] at an
   exact kE an
theorem sc_an: FnScope ["self","call"] ["self","call"] (defScope (sDt 1)):=⟨rfl,rfl,rfl,by decide +kernel,rfl,by decide +kernel,by decide +kernel⟩
theorem ok_an (T: TxA K mg): FnOk P w K mg base (XC P w) 12 T.answer.f T.answer.fd ["self","call"] (spAns T.toTxD):=by
 have GB: FnOk P w K mg base (XC P w) 11 T.takeB.f T.takeB.fd ["self","text"] (spTb T.toTxD):=ok_tb T.toTxD T.takeB.toFd
 have GT: FnOk P w K mg base (XC P w) 6 T.tdB.f T.tdB.fd ["book","call"] (spTd T.toTxD):=ok_td T
 have GE: FnOk P w K mg base (XC P w) 2 T.noBook.init.f T.noBook.init.fd ["self"] (spNoI K T.R (-3)):=ok_nbI T.r
 refine T.answer.prove sc_an (fun vs H Q E h => ?_) (fun cdv A outer s H vs Q E hr h => ?_)
 ·obtain ⟨d,c,X,st,cl,F,rfl,_⟩:=h
  rfl
 ·obtain ⟨d,c,X,st,cl,F,rfl,D,C,nd,ask,rl,kQ,kE⟩:=h
  have hr3: Room 3 _:=hr.mono (by decide)
  have hr6: Room 6 _:=hr.mono (by decide)
  have C0:=C
  obtain ⟨dc,g,p,hc,C⟩:=C
  refine ⟨_,pss_cons (ps_if (pt_cmpR op_eq (pe_fld (pv 1) rfl) (pe_gi rfl T.cBook) (nomark _)) (pss_one (ps_ret (pe_meth (pv 0) T.dtCl T.takeB.m GB hr T.takeB.b .nil passX (pa_cons (pe_ix ix_list (pe_fld (pv 1) rfl) pe_int (fun _ _ => rfl)) pa_nil)))) pss_nil)
   (pss_cons (ps_if (pt_cmpR op_isN (pe_fld (pv 0) rfl) pe_non (nomark _)) (pss_one (ps_raise rfl raisesX (pe_xmake0 T.noBook.made GE hr3 rfl T.noBook.mgC T.noBook.init.b passX))) pss_nil)
   (pss_one (ps_ret (pe_call GT hr6 rfl T.mgTd T.kpTd T.tdB.b .nil passX (pa_cons (pe_fld (pv 0) rfl) (pa_cons (pv 1) pa_nil)))))),?_⟩
  obtain ⟨dx,v,hd⟩:=D.ins
  refine ⟨_,rfl,c,T.callC,dc,_,_,rfl,hc,T.callCl,T.callN,rfl,rfl,_,rfl,?_⟩
  rw [dec_i]
  refine iteB (fun q => ?_) (fun q => ?_)
  ·have q: p = 0:=of_decide_eq_true q
   subst q
   obtain ⟨row,r,_,rfl,_,hg,hrw⟩: ∃ row r,F = [c,g,r] /\ cl = [[(0: Int)],row] /\ ((0: Int) = 0 \/ (0: Int) = 4) /\ H g = some (.lst [.ref r]) /\ H r = some (.lst (row.map V.int)):=by
    rcases C with h | ⟨_,_,h,_⟩ | ⟨_,_,_,h,_⟩ | ⟨_,_,_,_,h,_⟩
    ·exact h
    all_goals omega
   exact ⟨_,rfl,d,dx,_,rfl,hd,rfl,_,rfl,c,T.callC,dc,_,_,rfl,hc,T.callCl,T.callG,rfl,g,_,_,.ref r,rfl,rfl,SqL.of hg,atI_nat (j:=0) rfl,d,r,X,st,row,rfl,D,hrw,nd,ask,rl row (by simp),kQ,kE⟩
  have p0: p ≠ 0:=of_decide_eq_false q
  have nb: ∀ t,cl ≠ [[0],t]:=fun t z => by
   rcases C with ⟨_,_,_,e,h,_⟩ | ⟨_,e,h,_⟩ | ⟨_,_,e,h,_⟩ | ⟨_,_,_,e,h,_⟩
   ·rw [e] at z; injection z with z _; injection z with z _; exact p0 z
   all_goals rw [e] at z; cases z
  refine ⟨_,rfl,d,T.dtC,dx,_,_,rfl,hd,T.dtCl,T.dtB,rfl,rfl,_,rfl,?_⟩
  obtain ⟨dx',⟨hst,hd2⟩ | ⟨ls,bk,A',hst,hd2,I,small⟩⟩:=id D
  ·rw [hd] at hd2
   cases hd2
   refine iteB (fun _ => ?_) (fun z => by cases z)
   subst hst
   rw [Mh.ans_none ask nb] at kE
   exact no_end T.noBook.made T.noBook.noT fun a H' t b => kE a H' X t ⟨_,_,rfl,by decide⟩ (by show 1 <= 40000; decide) (D.same b) (fun a h => .inl h) (b.mono (by simp))
  rw [hd] at hd2
  cases hd2
  refine iteB (fun z => by cases z) (fun _ => ?_)
  subst hst
  refine ⟨_,rfl,d,T.dtC,dx,_,_,rfl,hd,T.dtCl,T.dtB,rfl,_,rfl,bk,c,X,ls,A',cl,F,rfl,I,small,C0,ask,nb,fun ns e hl l H' h1 h2 b => ?_,fun e a H' t b => ?_⟩
  ·rw [e] at kQ
   exact kQ l H' X h1 h2 hl (D.same b) (fun a h => .inl h) (b.mono (by simp))
  ·rw [e] at kE
   exact kE a H' X t ⟨_,_,rfl,by decide⟩ (by show 1 <= 40000; decide) (D.same b) (fun a h => .inl h) (b.mono (by simp))
end
end Mp
end
section
namespace Mp
open PySem PySem.Spec PyProof.Rows L2 Xc
theorem kit_same (K: PySem.W.Frag) (t: Value): PySem.W.kitOne K t t = some true:=by
 unfold PySem.W.kitOne
 rw [if_pos (by simp)]
def KiP (K: PySem.W.Frag) (O C: Addr): Prop:=(Value.ref O == Value.ref C) = false /\ (∃ cd,PySem.W.clsIn K C = some cd) /\ PySem.W.typeIn K (.ref C) = some (.type "type") /\ PySem.W.mroIn K O (.ref C) = some false
theorem KiP.other {K: PySem.W.Frag} {O C: Addr} (h: KiP K O C): PySem.W.kitOne K (.ref O) (.ref C) = some false:=by
 obtain ⟨h,⟨cd,h1⟩,h2,h3⟩:=h
 unfold PySem.W.kitOne PySem.W.kitCls
 rw [h,if_neg (by decide)]
 simp only [h1,h2,Option.isSome_some,Bool.true_and,beq_self_eq_true,if_true]
 exact h3
section
variable {K: PySem.W.Frag} {h: Heap} {mg: Str -> Option Value} {f C: Addr} {x qual: Str} {st: Stmt} {ps: List Str}
def FnP (K: PySem.W.Frag) (f: Addr) (x qual: Str) (st: Stmt): Prop:=∃ (oc kV dc pm cd ct: Value) (od an: Option Addr) (sl: Array (Option Value)),
 K.lookup f = some ⟨oc,od,.func (PySem.W.fnOf x qual (defArgs st) (defBody st) (defScope st) .none kV dc pm an cd ct),sl⟩ /\ PySem.W.codeIn K cd qual = true /\ PySem.W.keepIn K (.ref f) = true
abbrev Bd (x qual: Str) (st: Stmt) (ps: List Str): Prop:=∀ (kV doc pm: Value) (an: Option Addr) (cdv ct: Value) (us: List Value),us.length = ps.length -> bindArgs (PySem.W.fnOf x qual (defArgs st) (defBody st) (defScope st) .none kV doc pm an cdv ct) ⟨us,[]⟩ = pure (ps.zip us)
theorem FnP.fd (p: FnP K f x qual st) (b: Bd x qual st ps:=by intro _ _ _ _ _ _ us hl; rcases us with _ | ⟨_,_ | ⟨_,_ | ⟨_,_ | ⟨_,_ | ⟨_,_ | ⟨_,us⟩⟩⟩⟩⟩⟩ <;> first | (exfalso; revert hl; simp; done) | rfl): ∃ F: Fd K x qual st ps,F.f = f /\ PySem.W.keepIn K (.ref f) = true:=by
 obtain ⟨oc,kV,dc,pm,cd,ct,od,an,sl,l,c,k⟩:=p
 exact ⟨⟨f,_,fun_mk l c k,(fun_mk l c k).binds b⟩,rfl,k⟩
def TopP (K: PySem.W.Frag) (x: Str) (st: Stmt): Prop:=∃ f,PySem.W.nsIn K mainGlobals x = some (some (.ref f)) /\ FnP K f x x st
theorem TopP.fd (p: TopP K x st) (X: K.In h) (G: h.Ns mainGlobals mg) (b: Bd x x st ps:=by intro _ _ _ _ _ _ us hl; rcases us with _ | ⟨_,_ | ⟨_,_ | ⟨_,_ | ⟨_,_ | ⟨_,_ | ⟨_,us⟩⟩⟩⟩⟩⟩ <;> first | (exfalso; revert hl; simp; done) | rfl): ∃ F: Fd K x x st ps,mg x = some (.ref F.f) /\ PySem.W.keepIn K (.ref F.f) = true:=by
 obtain ⟨f,a,p⟩:=p
 obtain ⟨F,rfl,k⟩:=p.fd b
 exact ⟨F,PySem.W.mg_of X G a,k⟩
theorem TopP.fdB (p: TopP K x st) (X: K.In h) (G: h.Ns mainGlobals mg) (b: Bd x x st ps:=by intro _ _ _ _ _ _ us hl; rcases us with _ | ⟨_,_ | ⟨_,_ | ⟨_,_ | ⟨_,_ | ⟨_,_ | ⟨_,us⟩⟩⟩⟩⟩⟩ <;> first | (exfalso; revert hl; simp; done) | rfl)
  (b2: ∀ (kV doc pm: Value) (an: Option Addr) (cdv ct: Value) (s: Shared) (us: List Value),us.length = ps.length -> BindsTo s (PySem.W.fnOf x x (defArgs st) (defBody st) (defScope st) .none kV doc pm an cdv ct) ⟨us,[]⟩ (ps.zip us)) :
  ∃ F: Fd K x x st ps,mg x = some (.ref F.f) /\ ∀ (s: Shared) (us: List Value),us.length = ps.length -> BindsTo s F.fd ⟨us,[]⟩ (ps.zip us):=by
 obtain ⟨f,a,oc,kV,dc,pm,cd,ct,od,an,sl,l,c,k⟩:=p
 exact ⟨⟨f,_,fun_mk l c k,(fun_mk l c k).binds b⟩,PySem.W.mg_of X G a,b2 _ _ _ _ _ _⟩
def MdP (K: PySem.W.Frag) (C: Addr) (x qual: Str) (st: Stmt): Prop:=∃ f,Meth K C x f /\ FnP K f x qual st
theorem MdP.md (p: MdP K C x qual st) (b: Bd x qual st ps:=by intro _ _ _ _ _ _ us hl; rcases us with _ | ⟨_,_ | ⟨_,_ | ⟨_,_ | ⟨_,_ | ⟨_,_ | ⟨_,us⟩⟩⟩⟩⟩⟩ <;> first | (exfalso; revert hl; simp; done) | rfl): Nonempty (Md K C x qual st ps):=by
 obtain ⟨f,m,p⟩:=p
 obtain ⟨F,rfl,k⟩:=p.fd b
 exact ⟨{ toFd:=F,m:=m }⟩
def InitP (K: PySem.W.Frag) (C: Addr) (qual: Str) (st: Stmt): Prop:=∃ f,Mk K C f /\ FnP K f "__init__" qual st
theorem InitP.fd (p: InitP K C qual st) (b: Bd "__init__" qual st ps:=by intro _ _ _ _ _ _ us hl; rcases us with _ | ⟨_,_ | ⟨_,_ | ⟨_,_ | ⟨_,_ | ⟨_,_ | ⟨_,us⟩⟩⟩⟩⟩⟩ <;> first | (exfalso; revert hl; simp; done) | rfl): ∃ F: Fd K "__init__" qual st ps,Mk K C F.f:=by
 obtain ⟨f,m,p⟩:=p
 obtain ⟨F,rfl,k⟩:=p.fd b
 exact ⟨F,m⟩
def CmP (K: PySem.W.Frag) (C: Addr): Prop:=∃ f,PySem.W.findIn K (.ref C) "__init__" = some (some (.ref f)) /\ CMeth K C "__init__" f /\ FnP K f "__init__" "Refusal.__init__" sRefI
theorem CmP.fd (p: CmP K C) (b: Bd "__init__" "Refusal.__init__" sRefI ps:=by intro _ _ _ _ _ _ us hl; rcases us with _ | ⟨_,_ | ⟨_,_ | ⟨_,_ | ⟨_,_ | ⟨_,_ | ⟨_,us⟩⟩⟩⟩⟩⟩ <;> first | (exfalso; revert hl; simp; done) | rfl): ∃ F: Fd K "__init__" "Refusal.__init__" sRefI ps,CMeth K C "__init__" F.f:=by
 obtain ⟨f,_,m,p⟩:=p
 obtain ⟨F,rfl,k⟩:=p.fd b
 exact ⟨F,m⟩
def XInP (K: PySem.W.Frag) (C: Addr) (qual: Str) (st: Stmt): Prop:=∃ f,PySem.W.findIn K (.ref C) "__init__" = some (some (.ref f)) /\ PySem.W.isFn K (.ref f) = true /\ PySem.W.keepIn K (.ref C) = true /\ FnP K f "__init__" qual st
theorem XInP.fd (p: XInP K C qual st) (b: Bd "__init__" qual st ps:=by intro _ _ _ _ _ _ us hl; rcases us with _ | ⟨_,_ | ⟨_,_ | ⟨_,_ | ⟨_,_ | ⟨_,_ | ⟨_,us⟩⟩⟩⟩⟩⟩ <;> first | (exfalso; revert hl; simp; done) | rfl): ∃ F: Fd K "__init__" qual st ps,PySem.W.findIn K (.ref C) "__init__" = some (some (.ref F.f)) /\ PySem.W.isFn K (.ref F.f) = true /\ PySem.W.keepIn K (.ref C) = true:=by
 obtain ⟨f,a,i,k,p⟩:=p
 obtain ⟨F,rfl,_⟩:=p.fd b
 exact ⟨F,a,i,k⟩
def CoP (K: PySem.W.Frag) (x: Str) (v: Int): Prop:=∃ t,PySem.W.nsIn K mainGlobals x = some (some (.int v t))
theorem CoP.get {v: Int} (p: CoP K x v) (X: K.In h) (G: h.Ns mainGlobals mg): ∃ t,mg x = some (.int v t):=let ⟨t,e⟩:=p; ⟨t,PySem.W.mg_of X G e⟩
def TyP (K: PySem.W.Frag) (C: Addr): Prop:=PySem.W.findIn K (.ref C) "__class__" = some (some (.builtin "object.__class__")) /\ PySem.W.specialIn K (.builtin "object.__class__") "__get__" = some (some (.builtin "getset_descriptor.__get__")) /\ PySem.W.takesIn K (.builtin "object.__class__") = some true /\ PySem.W.mroIn K C (.type "object") = some true
def TuP (K: PySem.W.Frag) (a: Addr) (l: List Value): Prop:=∃ d n sl,K.lookup a = some ⟨.type "tuple",d,.seq l.toArray n,sl⟩
theorem TuP.sq {a: Addr} {l: List Value} {xs: List V} (p: TuP K a l) (hl: l.length <= 1000) (v: Vals xs l) (H: Hp): SqT K H a xs:=by
 obtain ⟨d,n,sl,e⟩:=p
 exact .inr ⟨_,_,_,e,rfl,rfl,by rw [List.size_toArray]; exact Nat.le_trans hl (by decide),v⟩
def Tu2 (K: PySem.W.Frag) (a: Addr) (i j: Int): Prop:=∃ t u,TuP K a [.int i t,.int j u]
theorem Tu2.sq {a: Addr} {i j: Int} (p: Tu2 K a i j) (H: Hp): SqT K H a [.int i,.int j]:=by
 obtain ⟨t,u,p⟩:=p
 exact p.sq (xs:=[.int i,.int j]) (show 2 <= 1000 by decide) (.cons ⟨_,rfl⟩ (.cons ⟨_,rfl⟩ .nil)) H
end
theorem mkTxR {K: PySem.W.Frag} {h: Heap} {mg: Str -> Option Value} (X: K.In h) (G: h.Ns mainGlobals mg) {CR CnoBook CnoMark Cfault: Addr}
 (h1: PySem.W.nsIn K mainGlobals "Refusal" = some (some (.ref CR)))
 (h2: XCls K CR [])
 (h3: CmP K CR)
 (h4: PySem.W.nsIn K mainGlobals "NoBook" = some (some (.ref CnoBook)))
 (h5: XCls K CnoBook [CR])
 (h6: XInP K CnoBook "NoBook.__init__" sNoBI)
 (h7: NoAttr K CnoBook "told")
 (h8: PySem.W.nsIn K mainGlobals "NoMark" = some (some (.ref CnoMark)))
 (h9: XCls K CnoMark [CR])
 (h10: XInP K CnoMark "NoMark.__init__" sNoMI)
 (h11: NoAttr K CnoMark "told")
 (h12: PySem.W.nsIn K mainGlobals "AtFault" = some (some (.ref Cfault)))
 (h13: XCls K Cfault [CR])
 (h14: XInP K Cfault "AtFault.__init__" sFltI)
 (h15: NoAttr K Cfault "told")
: Nonempty (TxR K mg):=by
 obtain ⟨refI,mh3⟩:=h3.fd (ps:=["self","told"])
 obtain ⟨inoBook,ah6,bh6,ch6⟩:=h6.fd (ps:=["self"])
 obtain ⟨inoMark,ah10,bh10,ch10⟩:=h10.fd (ps:=["self"])
 obtain ⟨ifault,ah14,bh14,ch14⟩:=h14.fd (ps:=["self","kind","place","more"])
 exact ⟨{ R:=CR,refI:=refI,mgR:=PySem.W.mg_of X G h1,cm:=mh3,cR:=h2,noBook:=⟨CnoBook,inoBook,⟨h5,ah6,bh6,ch6⟩,PySem.W.mg_of X G h4,h7⟩,noMark:=⟨CnoMark,inoMark,⟨h9,ah10,bh10,ch10⟩,PySem.W.mg_of X G h8,h11⟩,fault:=⟨Cfault,ifault,⟨h13,ah14,bh14,ch14⟩,PySem.W.mg_of X G h12,h15⟩ }⟩
theorem mkTxG {K: PySem.W.Frag} {h: Heap} {mg: Str -> Option Value} (X: K.In h) (G: h.Ns mainGlobals mg) (T: TxR K mg) {Cword Crd: Addr}
 (h1: TopP K "is_letter" sLetter)
 (h2: TopP K "is_digit" sDigit)
 (h3: CoP K "KIND_GRAMMAR" 1)
 (h4: CoP K "LONGEST_NAME" 16)
 (h5: CoP K "MOST_DIGITS" 4)
 (h6: CoP K "MINUS" 45)
 (h7: CoP K "POINT" 46)
 (h8: CoP K "BEHIND_THE_END" (-1))
 (h9: PySem.W.nsIn K mainGlobals "len" = some none)
 (h10: PySem.W.nsIn K mainGlobals "ord" = some none)
 (h11: PySem.W.nsIn K mainGlobals "tuple" = some none)
 (h12: PySem.W.nsIn K mainGlobals "Word" = some (some (.ref Cword)))
 (h13: InitP K Cword "Word.__init__" sWordI)
 (h14: Cls K Cword)
 (h15: NoAttr K Cword "place")
 (h16: NoAttr K Cword "signs")
 (h17: PySem.W.nsIn K mainGlobals "Reader" = some (some (.ref Crd)))
 (h18: InitP K Crd "Reader.__init__" (sRd 0))
 (h19: Cls K Crd)
 (h20: NoAttr K Crd "text")
 (h21: NoAttr K Crd "at")
 (h22: MdP K Crd "at_end" "Reader.at_end" (sRd 1))
 (h23: MdP K Crd "sign" "Reader.sign" (sRd 2))
 (h24: MdP K Crd "step" "Reader.step" (sRd 3))
 (h25: MdP K Crd "word_from" "Reader.word_from" (sRd 4))
 (h26: MdP K Crd "take_written" "Reader.take_written" (sRd 5))
 (h27: MdP K Crd "take_name" "Reader.take_name" (sRd 6))
 (h28: MdP K Crd "take_digits" "Reader.take_digits" (sRd 7))
 (h29: MdP K Crd "take_height" "Reader.take_height" (sRd 8))
: Nonempty (TxG K mg):=by
 obtain ⟨letter,mh1,kh1⟩:=h1.fd X G (ps:=["sign"])
 obtain ⟨digit,mh2,kh2⟩:=h2.fd X G (ps:=["sign"])
 obtain ⟨wordI,mh13⟩:=h13.fd (ps:=["self","place","signs"])
 obtain ⟨rdI,mh18⟩:=h18.fd (ps:=["self","text"])
 obtain ⟨atEnd⟩:=h22.md (ps:=["self"])
 obtain ⟨signM⟩:=h23.md (ps:=["self"])
 obtain ⟨stepM⟩:=h24.md (ps:=["self","fits"])
 obtain ⟨wordFrom⟩:=h25.md (ps:=["self","place"])
 obtain ⟨written⟩:=h26.md (ps:=["self","written"])
 obtain ⟨takeName⟩:=h27.md (ps:=["self"])
 obtain ⟨takeDigits⟩:=h28.md (ps:=["self"])
 obtain ⟨takeHeight⟩:=h29.md (ps:=["self"])
 exact ⟨{ toTxR:=T,letter:=letter,mgLetter:=mh1,kpLetter:=kh1,digit:=digit,mgDigit:=mh2,kpDigit:=kh2,kindG:=h3.get X G,longest:=h4.get X G,most:=h5.get X G,minus:=h6.get X G,point:=h7.get X G,behind:=h8.get X G,lenN:=PySem.W.mg_none_of X G h9,ordN:=PySem.W.mg_none_of X G h10,tupleN:=PySem.W.mg_none_of X G h11,wordC:=Cword,wordI:=wordI,wordMk:=mh13,mgWord:=PySem.W.mg_of X G h12,wordCl:=h14,wordP:=h15,wordS:=h16,rd:=Crd,rdI:=rdI,rdMk:=mh18,mgRd:=PySem.W.mg_of X G h17,rdCl:=h19,rdT:=h20,rdA:=h21,atEnd:=atEnd,signM:=signM,stepM:=stepM,wordFrom:=wordFrom,written:=written,takeName:=takeName,takeDigits:=takeDigits,takeHeight:=takeHeight }⟩
theorem mkTxL {K: PySem.W.Frag} {h: Heap} {mg: Str -> Option Value} (X: K.In h) (G: h.Ns mainGlobals mg) (T: TxG K mg) {Cmark Cover CT: Addr}
 (h1: PySem.W.nsIn K mainGlobals "MarkLine" = some (some (.ref Cmark)))
 (h2: InitP K Cmark "MarkLine.__init__" sMarkI)
 (h3: Cls K Cmark)
 (h4: NoAttr K Cmark "name")
 (h5: PySem.W.nsIn K mainGlobals "OverLine" = some (some (.ref Cover)))
 (h6: InitP K Cover "OverLine.__init__" sOverI)
 (h7: Cls K Cover)
 (h8: NoAttr K Cover "first")
 (h9: NoAttr K Cover "second")
 (h10: NoAttr K Cover "height")
 (h11: PySem.W.nsIn K mainGlobals "Reader" = some (some (.ref CT)))
 (h12: MdP K CT "take_mark_line" "Reader.take_mark_line" (sRd 9))
 (h13: MdP K CT "take_over_line" "Reader.take_over_line" (sRd 10))
 (h14: MdP K CT "take_line" "Reader.take_line" (sRd 11))
 (h15: TopP K "lines_of" (top 42))
 (h16: PySem.W.nsIn K mainGlobals "isinstance" = some none)
 (h17: TyP K Cmark)
 (h18: TyP K Cover)
 (h19: KiP K Cover Cmark)
: Nonempty (TxL K mg):=by
 obtain ⟨markI,mh2⟩:=h2.fd (ps:=["self","name"])
 obtain ⟨overI,mh6⟩:=h6.fd (ps:=["self","first","second","height"])
 obtain rfl: CT = T.rd:=by
  have e:=(PySem.W.mg_of X G h11).symm.trans T.mgRd
  injection e with e
  injection e
 obtain ⟨takeMark⟩:=h12.md (ps:=["self"])
 obtain ⟨takeOver⟩:=h13.md (ps:=["self"])
 obtain ⟨takeLine⟩:=h14.md (ps:=["self"])
 obtain ⟨linesOf,mh15,kh15⟩:=h15.fd X G (ps:=["text"])
 exact ⟨{ toTxG:=T,markC:=Cmark,markI:=markI,markMk:=mh2,mgMark:=PySem.W.mg_of X G h1,markCl:=h3,markN:=h4,overC:=Cover,overI:=overI,overMk:=mh6,mgOver:=PySem.W.mg_of X G h5,overCl:=h7,overF:=h8,overS:=h9,overH:=h10,takeMark:=takeMark,takeOver:=takeOver,takeLine:=takeLine,linesOf:=linesOf,mgLines:=mh15,kpLines:=kh15,isiN:=PySem.W.mg_none_of X G h16,tyM:=fun H a dx fs e => .ins e h3 h17.1 h17.2.1 h17.2.2.1 h17.2.2.2,tyO:=fun H a dx fs e => .ins e h7 h18.1 h18.2.1 h18.2.2.1 h18.2.2.2,kMM:=kit_same _ _,kOM:=h19.other }⟩
theorem mkTxH {K: PySem.W.Frag} {h: Heap} {mg: Str -> Option Value} (X: K.In h) (G: h.Ns mainGlobals mg) (T: TxL K mg)
 (h1: CoP K "ZERO" 48)
 (h2: CoP K "METRE" 10000)
 (h3: CoP K "PLACES" 4)
 (h4: PySem.W.nsIn K mainGlobals "abs" = some none)
 (h5: PySem.W.nsIn K mainGlobals "str" = some none)
 (h6: PySem.W.nsIn K mainGlobals "list" = some none)
 (h7: TopP K "number_of" sNum)
 (h8: TopP K "height_of" sHgt)
 (h9: TopP K "printed_height" sPrt)
: Nonempty (TxH K mg):=by
 obtain ⟨num,mh7,kh7⟩:=h7.fd X G (ps:=["digits"])
 obtain ⟨hgt,mh8,kh8⟩:=h8.fd X G (ps:=["signs"])
 obtain ⟨prt,mh9,kh9⟩:=h9.fd X G (ps:=["height"])
 exact ⟨{ toTxL:=T,zero:=h1.get X G,metre:=h2.get X G,places:=h3.get X G,absN:=PySem.W.mg_none_of X G h4,strN:=PySem.W.mg_none_of X G h5,listN:=PySem.W.mg_none_of X G h6,num:=num,mgNum:=mh7,kpNum:=kh7,hgt:=hgt,mgHgt:=mh8,kpHgt:=kh8,prt:=prt,mgPrt:=mh9,kpPrt:=kh9 }⟩
theorem mkTxC {K: PySem.W.Frag} {h: Heap} {mg: Str -> Option Value} (X: K.In h) (G: h.Ns mainGlobals mg) (T: TxH K mg) {sA s0 s1 s2 s3 s4 s5 s6 s7 Ccall Ccr: Addr}
 (h1: PySem.W.nsIn K mainGlobals "SHAPES" = some (some (.ref sA)))
 (h2: TuP K sA [.ref s0,.ref s1,.ref s2,.ref s3,.ref s4,.ref s5,.ref s6,.ref s7])
 (h3: Tu2 K s0 0 1)
 (h4: Tu2 K s1 0 0)
 (h5: Tu2 K s2 0 0)
 (h6: Tu2 K s3 1 0)
 (h7: Tu2 K s4 0 1)
 (h8: Tu2 K s5 2 0)
 (h9: Tu2 K s6 2 0)
 (h10: Tu2 K s7 1 0)
 (h11: PySem.W.nsIn K mainGlobals "Call" = some (some (.ref Ccall)))
 (h12: InitP K Ccall "Call.__init__" sCallI)
 (h13: Cls K Ccall)
 (h14: NoAttr K Ccall "number")
 (h15: NoAttr K Ccall "given")
 (h16: PySem.W.nsIn K mainGlobals "CallReader" = some (some (.ref Ccr)))
 (h17: InitP K Ccr "CallReader.__init__" (sCr 0))
 (h18: Cls K Ccr)
 (h19: NoAttr K Ccr "handed_in")
 (h20: NoAttr K Ccr "at")
 (h21: MdP K Ccr "has_more" "CallReader.has_more" (sCr 1))
 (h22: MdP K Ccr "take_number" "CallReader.take_number" (sCr 2))
 (h23: MdP K Ccr "take_row" "CallReader.take_row" (sCr 3))
 (h24: MdP K Ccr "take_call" "CallReader.take_call" (sCr 4))
 (h25: TopP K "calls_of" (top 11))
: Nonempty (TxC K mg):=by
 obtain ⟨callI,mh12⟩:=h12.fd (ps:=["self","number","given"])
 obtain ⟨crI,mh17⟩:=h17.fd (ps:=["self","handed_in"])
 obtain ⟨hasMore⟩:=h21.md (ps:=["self"])
 obtain ⟨takeNumber⟩:=h22.md (ps:=["self"])
 obtain ⟨takeRow⟩:=h23.md (ps:=["self"])
 obtain ⟨takeCall⟩:=h24.md (ps:=["self"])
 obtain ⟨callsOf,mh25,kh25⟩:=h25.fd X G (ps:=["handed_in"])
 exact ⟨{ toTxH:=T,shA:=sA,shs:=[s0,s1,s2,s3,s4,s5,s6,s7],mgSh:=PySem.W.mg_of X G h1,shT:=h2.sq (show 8 <= 1000 by decide) (.cons rfl (.cons rfl (.cons rfl (.cons rfl (.cons rfl (.cons rfl (.cons rfl (.cons rfl (.nil))))))))),shL:=rfl,shI:=(fun i a e => match i,e with | 0,e => by cases e; exact h3.sq | 1,e => by cases e; exact h4.sq | 2,e => by cases e; exact h5.sq | 3,e => by cases e; exact h6.sq | 4,e => by cases e; exact h7.sq | 5,e => by cases e; exact h8.sq | 6,e => by cases e; exact h9.sq | 7,e => by cases e; exact h10.sq | i + 8,e => by cases e),callC:=Ccall,callI:=callI,callMk:=mh12,mgCall:=PySem.W.mg_of X G h11,callCl:=h13,callN:=h14,callG:=h15,crC:=Ccr,crI:=crI,crMk:=mh17,mgCr:=PySem.W.mg_of X G h16,crCl:=h18,crH:=h19,crA:=h20,hasMore:=hasMore,takeNumber:=takeNumber,takeRow:=takeRow,takeCall:=takeCall,callsOf:=callsOf,mgCalls:=mh25,kpCalls:=kh25 }⟩
theorem mkTxF {K: PySem.W.Frag} {h: Heap} {mg: Str -> Option Value} (X: K.In h) (G: h.Ns mainGlobals mg) (T: TxC K mg) {Cfo: Addr}
 (h1: PySem.W.nsIn K mainGlobals "Forest" = some (some (.ref Cfo)))
 (h2: InitP K Cfo "Forest.__init__" (sFo 0))
 (h3: Cls K Cfo)
 (h4: NoAttr K Cfo "group_of")
 (h5: NoAttr K Cfo "levels")
 (h6: NoAttr K Cfo "links")
 (h7: NoAttr K Cfo "members")
 (h8: MdP K Cfo "add_mark" "Forest.add_mark" (sFo 1))
 (h9: MdP K Cfo "count_groups" "Forest.count_groups" (sFo 2))
 (h10: MdP K Cfo "together" "Forest.together" (sFo 3))
 (h11: MdP K Cfo "rise" "Forest.rise" (sFo 4))
 (h12: MdP K Cfo "members_with" "Forest.members_with" (sFo 5))
 (h13: MdP K Cfo "count_together" "Forest.count_together" (sFo 6))
 (h14: MdP K Cfo "lowest" "Forest.lowest" (sFo 7))
 (h15: MdP K Cfo "highest" "Forest.highest" (sFo 8))
 (h16: MdP K Cfo "add_line" "Forest.add_line" (sFo 9))
 (h17: MdP K Cfo "move_group" "Forest.move_group" (sFo 10))
 (h18: MdP K Cfo "way" "Forest.way" (sFo 11))
 (h19: MdP K Cfo "onward_to" "Forest.onward_to" (sFo 12))
 (h20: PySem.W.nsIn K mainGlobals "min" = some none)
: Nonempty (TxF K mg):=by
 obtain ⟨foI,mh2⟩:=h2.fd (ps:=["self"])
 obtain ⟨addMark⟩:=h8.md (ps:=["self"])
 obtain ⟨countGr⟩:=h9.md (ps:=["self"])
 obtain ⟨together⟩:=h10.md (ps:=["self","one","other"])
 obtain ⟨rise⟩:=h11.md (ps:=["self","lower","upper"])
 obtain ⟨membersW⟩:=h12.md (ps:=["self","mark"])
 obtain ⟨countT⟩:=h13.md (ps:=["self","mark"])
 obtain ⟨lowest⟩:=h14.md (ps:=["self","mark"])
 obtain ⟨highest⟩:=h15.md (ps:=["self","mark"])
 obtain ⟨addLine⟩:=h16.md (ps:=["self","number","first","second","height"])
 obtain ⟨moveGr⟩:=h17.md (ps:=["self","mark","into","shift"])
 obtain ⟨wayM⟩:=h18.md (ps:=["self","start","goal"])
 obtain ⟨onward⟩:=h19.md (ps:=["self","goal"])
 exact ⟨{ toTxC:=T,foC:=Cfo,foI:=foI,foMk:=mh2,mgFo:=PySem.W.mg_of X G h1,foCl:=h3,foG:=h4,foL:=h5,foK:=h6,foE:=h7,addMark:=addMark,countGr:=countGr,together:=together,rise:=rise,membersW:=membersW,countT:=countT,lowest:=lowest,highest:=highest,addLine:=addLine,moveGr:=moveGr,wayM:=wayM,onward:=onward,minN:=PySem.W.mg_none_of X G h20 }⟩
theorem mkTxB {K: PySem.W.Frag} {h: Heap} {mg: Str -> Option Value} (X: K.In h) (G: h.Ns mainGlobals mg) (T: TxF K mg) {Cbk: Addr}
 (h1: PySem.W.nsIn K mainGlobals "Book" = some (some (.ref Cbk)))
 (h2: InitP K Cbk "Book.__init__" (sBk 0))
 (h3: Cls K Cbk)
 (h4: NoAttr K Cbk "names")
 (h5: NoAttr K Cbk "mark_numbers")
 (h6: NoAttr K Cbk "over_lines")
 (h7: NoAttr K Cbk "forest")
 (h8: NoAttr K Cbk "printed")
 (h9: MdP K Cbk "add_mark_line" "Book.add_mark_line" (sBk 1))
 (h10: MdP K Cbk "add_over_line" "Book.add_over_line" (sBk 2))
 (h11: MdP K Cbk "told_mark" "Book.told_mark" (sBk 3))
 (h12: MdP K Cbk "ring_told" "Book.ring_told" (sBk 4))
 (h13: MdP K Cbk "note_printed" "Book.note_printed" (sBk 5))
 (h14: CoP K "KIND_NAME_TAKEN" 2)
 (h15: CoP K "KIND_NAME_UNTOLD" 3)
 (h16: CoP K "KIND_TOO_MANY_MARKS" 4)
 (h17: CoP K "KIND_SAME_NAMES" 5)
 (h18: CoP K "KIND_DISAGREES" 6)
 (h19: CoP K "MOST_MARKS" 1024)
 (h20: TopP K "read_book" (top 58))
: Nonempty (TxB K mg):=by
 obtain ⟨bkI,mh2⟩:=h2.fd (ps:=["self"])
 obtain ⟨addMl⟩:=h9.md (ps:=["self","line"])
 obtain ⟨addOl⟩:=h10.md (ps:=["self","line"])
 obtain ⟨toldM⟩:=h11.md (ps:=["self","name"])
 obtain ⟨ringT⟩:=h12.md (ps:=["self","first","second","height"])
 obtain ⟨noteP⟩:=h13.md (ps:=["self","opening","words"])
 obtain ⟨readB,mh20,kh20⟩:=h20.fd X G (ps:=["text"])
 exact ⟨{ toTxF:=T,bkC:=Cbk,bkI:=bkI,bkMk:=mh2,mgBk:=PySem.W.mg_of X G h1,bkCl:=h3,bkN:=h4,bkM:=h5,bkO:=h6,bkF:=h7,bkP:=h8,addMl:=addMl,addOl:=addOl,toldM:=toldM,ringT:=ringT,noteP:=noteP,kTaken:=h14.get X G,kUntold:=h15.get X G,kMany:=h16.get X G,kSame:=h17.get X G,kDis:=h18.get X G,mostM:=h19.get X G,readB:=readB,mgRead:=mh20,kpRead:=kh20 }⟩
theorem mkTxK {K: PySem.W.Frag} {mg: Str -> Option Value} (T: TxB K mg): Nonempty (TxK K mg):=⟨{ toTxB:=T }⟩
theorem mkTxD {K: PySem.W.Frag} {h: Heap} {mg: Str -> Option Value} (X: K.In h) (G: h.Ns mainGlobals mg) (T: TxK K mg) {Cdt: Addr}
 (h1: PySem.W.nsIn K mainGlobals "Datums" = some (some (.ref Cdt)))
 (h2: InitP K Cdt "Datums.__init__" (sDt 0))
 (h3: Cls K Cdt)
 (h4: NoAttr K Cdt "book")
 (h5: MdP K Cdt "answer" "Datums.answer" (sDt 1))
 (h6: TopP K "row_told" sTold)
 (h7: TopP K "answer_or_refusal" sAor)
 (h8: TopP K "answers" sAns)
: Nonempty (TxD K mg):=by
 obtain ⟨dtI,mh2⟩:=h2.fd (ps:=["self"])
 obtain ⟨answer⟩:=h5.md (ps:=["self","call"])
 obtain ⟨told,mh6,kh6⟩:=h6.fd X G (ps:=["row"])
 obtain ⟨aor,mh7,kh7⟩:=h7.fd X G (ps:=["datums","call"])
 obtain ⟨ans,mh8,bh8⟩:=h8.fdB X G (ps:=["calls"]) (b2:=fun _ _ _ _ _ _ s us hu => match us,hu with | [_],_ => .of_eq rfl)
 exact ⟨{ toTxK:=T,dtC:=Cdt,dtI:=dtI,dtMk:=mh2,mgDt:=PySem.W.mg_of X G h1,dtCl:=h3,dtB:=h4,answer:=answer,told:=told,mgTold:=mh6,kpTold:=kh6,aor:=aor,mgAor:=mh7,kpAor:=kh7,ans:=ans,mgAns:=mh8,bAns:=bh8 }⟩
theorem mkTxA {K: PySem.W.Frag} {h: Heap} {mg: Str -> Option Value} (X: K.In h) (G: h.Ns mainGlobals mg) (T: TxD K mg) {CT: Addr}
 (h1: PySem.W.nsIn K mainGlobals "Datums" = some (some (.ref CT)))
 (h2: MdP K CT "take_book" "Datums.take_book" (sDt 2))
 (h3: TopP K "check_mark" (top 19))
 (h4: TopP K "size_told" (top 20))
 (h5: TopP K "name_told" (top 21))
 (h6: TopP K "find_told" (top 22))
 (h7: TopP K "over_told" (top 23))
 (h8: TopP K "way_told" (top 24))
 (h9: TopP K "ends_told" (top 25))
 (h10: TopP K "told_by" (top 26))
 (h11: CoP K "CALL_BOOK" 0)
 (h12: CoP K "CALL_PRINTED" 1)
 (h13: CoP K "CALL_SIZE" 2)
 (h14: CoP K "CALL_NAME" 3)
 (h15: CoP K "CALL_FIND" 4)
 (h16: CoP K "CALL_OVER" 5)
 (h17: CoP K "CALL_WAY" 6)
: Nonempty (TxA K mg):=by
 obtain rfl: CT = T.dtC:=by
  have e:=(PySem.W.mg_of X G h1).symm.trans T.mgDt
  injection e with e
  injection e
 obtain ⟨takeB⟩:=h2.md (ps:=["self","text"])
 obtain ⟨ck,mh3,kh3⟩:=h3.fd X G (ps:=["book","mark"])
 obtain ⟨szT,mh4,kh4⟩:=h4.fd X G (ps:=["book"])
 obtain ⟨nmT,mh5,kh5⟩:=h5.fd X G (ps:=["book","mark"])
 obtain ⟨fnT,mh6,kh6⟩:=h6.fd X G (ps:=["book","row"])
 obtain ⟨ovT,mh7,kh7⟩:=h7.fd X G (ps:=["book","lower","upper"])
 obtain ⟨wyT,mh8,kh8⟩:=h8.fd X G (ps:=["book","start","goal"])
 obtain ⟨edT,mh9,kh9⟩:=h9.fd X G (ps:=["book","mark"])
 obtain ⟨tdB,mh10,kh10⟩:=h10.fd X G (ps:=["book","call"])
 exact ⟨{ toTxD:=T,takeB:=takeB,ck:=ck,mgCk:=mh3,kpCk:=kh3,szT:=szT,mgSz:=mh4,kpSz:=kh4,nmT:=nmT,mgNm:=mh5,kpNm:=kh5,fnT:=fnT,mgFn:=mh6,kpFn:=kh6,ovT:=ovT,mgOv:=mh7,kpOv:=kh7,wyT:=wyT,mgWy:=mh8,kpWy:=kh8,edT:=edT,mgEd:=mh9,kpEd:=kh9,tdB:=tdB,mgTd:=mh10,kpTd:=kh10,cBook:=h11.get X G,cPrint:=h12.get X G,cSize:=h13.get X G,cName:=h14.get X G,cFind:=h15.get X G,cOver:=h16.get X G,cWay:=h17.get X G }⟩
section
open PySem.W (WData Codec OpenSpec)
theorem walk_specX {r: OpenSpec} {k: Nat} {q: Program} {loose: List Str} {XP: (Str -> Option Value) -> Heap -> Prop} {YP: World -> Heap -> Prop} {d: DefRec} {K: Params -> PySem.W.Frag} {CX: World -> CXT} {ps: List Str} {sp: PySem.W.Frag -> Sp}
  (hwell: r.wellSaid = true) (hdf: d.params.defaults = []) (hlen: r.args.length = ps.length) (hr: Room k callerA) (hY: ∀ (w: World) (h: Heap),YP w h -> (K w.params).In h)
  (F: ∀ (w: World) (mg: Str -> Option Value) (fa: Addr) (h: Heap),YP w h -> (K w.params).In h -> h.Ns mainGlobals mg -> mg d.name = some (.ref fa) -> ∃ fd: FuncData,(∀ (s: Shared) (us: List Value),us.length = ps.length -> BindsTo s fd ⟨us,[]⟩ (ps.zip us)) /\
   ∀ base: Heap,(K w.params).In base -> base.Ns mainGlobals mg -> FnOk r.prog w (K w.params) mg base (CX w) k fa fd ps (sp (K w.params)))
  (hsp: ∀ (K: PySem.W.Frag) (H: Hp) (xs: List V) (a: Codec.denoteAll r.args),OnlyF H -> Codec.withinAll r.args a = true -> Codec.app r.args r.asked a = true -> DwAll K H xs (Codec.encAll r.args a) -> sp K xs H (fun v H' => Dw K H' v (r.ret.enc (Codec.app r.args r.f a))) fun _ _ _ => False)
  (hCX: ∀ (w: World) (H: Hp) (s: Shared) (e: Value) (s': Shared),CX w [] H s (fun _ _ _ => False) e s' -> False): PySem.W.WalkOS q loose XP YP r d [] (fun f vs => PySem.call f vs) :=
 walk_spec (K:=K) (CX:=CX) (sp:=fun w => sp (K w.params)) hwell hdf hlen hr hY F (fun w H xs a h1 h2 h3 h4 => hsp (K w.params) H xs a h1 h2 h3 h4) hCX
end
end Mp
end
namespace PySem.W.Fast
def tw10016472252725666771:=0 def tw10048978811554229879:=0 def tw10090576805767198049:=0 def tw10104084912382830077:=0
def tw10188593107543281513:=0 def tw10201439495431253566:=0 def tw10207679779004092657:=0 def tw10267345369492082277:=0
def tw10306581258647014664:=0 def tw10336484911336823802:=0 def tw10363103883809765038:=0 def tw10391945445047285796:=0
def tw10396433420559299188:=0 def tw10464762305165892042:=0 def tw10521045817825573796:=0 def tw10539254470768067727:=0
def tw10558575185955594409:=0 def tw10598478069538960303:=0 def tw10619482103887808580:=0 def tw10630167404564471221:=0
def tw10640659692876560309:=0 def tw10644027630392457086:=0 def tw1065304673097914357:=0 def tw10673534536161780442:=0
def tw10688949680250838165:=0 def tw1070789396651043922:=0 def tw10744197945077411931:=0 def tw10856199383526884844:=0
def tw10866991019727004621:=0 def tw10867129370831338080:=0 def tw1093052344892435147:=0 def tw10938721245222887845:=0
def tw10988151724936920986:=0 def tw11029387416946425962:=0 def tw11036117209706287929:=0 def tw11050234746787873517:=0
def tw11084048591268682197:=0 def tw11111895580639886915:=0 def tw1113736434970511452:=0 def tw11165517656134842630:=0
def tw11180188306018882407:=0 def tw11237295262308733427:=0 def tw11263711211839666920:=0 def tw11302514125798094378:=0
def tw11306350868474207740:=0 def tw11330762588347919223:=0 def tw11336880952180689302:=0 def tw11345164050594819425:=0
def tw11366418449472385482:=0 def tw11386847784706775888:=0 def tw1139000497250480671:=0 def tw11438356181111353433:=0
def tw11464161778285391165:=0 def tw11516063894417346476:=0 def tw11563523350233214886:=0 def tw11565835438662388200:=0
def tw11587834049532191882:=0 def tw11619107836056518967:=0 def tw1164883625730459455:=0 def tw11710346152886208898:=0
def tw11716092385854025211:=0 def tw11804089995057150870:=0 def tw11823514037472732100:=0 def tw11837024841645879377:=0
def tw11860686779062733844:=0 def tw11862564052179663040:=0 def tw11873208755467339176:=0 def tw11888789111536411566:=0
def tw11888887828069968715:=0 def tw11943893987436240217:=0 def tw11946990464213403831:=0 def tw11950278392422066087:=0
def tw11976040186729526128:=0 def tw11992731861215836271:=0 def tw12002338270789587996:=0 def tw12046788522362568604:=0
def tw12059690320203469875:=0 def tw12075363964988108120:=0 def tw12090001984400525461:=0 def tw12113198477294672720:=0
def tw12183974940826126319:=0 def tw12220331191688033459:=0 def tw12255104699870391812:=0 def tw12290449380337825607:=0
def tw12294696146574845588:=0 def tw12348561727562808698:=0 def tw12367524992430365865:=0 def tw12375561861846405190:=0
def tw12410315572369952819:=0 def tw12415430138239132569:=0 def tw12431061083213050231:=0 def tw12440610610972520022:=0
def tw12451406350248394279:=0 def tw12481308871737640468:=0 def tw12483098331062401088:=0 def tw12502333382280147360:=0
def tw12628371548463966024:=0 def tw1265688581920074355:=0 def tw12659034780792652463:=0 def tw12688065504285759434:=0
def tw12752845521913740940:=0 def tw12780007562966497646:=0 def tw12798919104914867566:=0 def tw12833466311493003552:=0
def tw12837923860945104288:=0 def tw1286931122134327524:=0 def tw12887658407438989469:=0 def tw12892688746054664704:=0
def tw1289942799903459239:=0 def tw12925761783277532501:=0 def tw12926960430565217505:=0 def tw12935032659236151275:=0
def tw12938993013424655293:=0 def tw12943360979255072795:=0 def tw12951851005261370711:=0 def tw12981292135983284392:=0
def tw13022535325157778782:=0 def tw13078095208022918632:=0 def tw13143808324128890563:=0 def tw13177654305377782373:=0
def tw13208594979325546000:=0 def tw13210219842101077744:=0 def tw13263808994075505706:=0 def tw13312663290099446499:=0
def tw13322923395149862703:=0 def tw13372081759658249404:=0 def tw13421698775974677680:=0 def tw13467846509572732676:=0
def tw13504862296849814705:=0 def tw13536159260759674944:=0 def tw13550346013408197544:=0 def tw1357077094172058851:=0
def tw13641835002510206214:=0 def tw13672686227557988623:=0 def tw13730996498788293038:=0 def tw13755660985809194418:=0
def tw13761348685414518848:=0 def tw13781972165295435416:=0 def tw13798770984413445617:=0 def tw13850486380429608844:=0
def tw13859896484869217427:=0 def tw13879208806248659138:=0 def tw13910766015143190916:=0 def tw13926764593622165861:=0
def tw13933161749878049225:=0 def tw14011489249136776644:=0 def tw14016261116967412894:=0 def tw14059038369854289783:=0
def tw14075488321394608764:=0 def tw14159101244691348277:=0 def tw14177714058275710764:=0 def tw14209721160474020085:=0
def tw14227474905017506551:=0 def tw14231239315626486190:=0 def tw14240987962184979161:=0 def tw1428949188923724583:=0
def tw14322755566992129125:=0 def tw14323242779045366772:=0 def tw14334365847711598304:=0 def tw14403191159501834901:=0
def tw14404231229991761165:=0 def tw14407147833760934058:=0 def tw14415468835488440771:=0 def tw14419418679857408337:=0
def tw1442592388768884999:=0 def tw1446712221020257014:=0 def tw14498644012569227994:=0 def tw14500883042615210679:=0
def tw14505035418552000785:=0 def tw14507224911391022574:=0 def tw14513716429503695087:=0 def tw14515525699837955465:=0
def tw14540987343574904321:=0 def tw14562760175083921442:=0 def tw14574665296882058364:=0 def tw14577587332363993318:=0
def tw1464942534020730769:=0 def tw1465499730162379264:=0 def tw14665475177575619636:=0 def tw14678161522892031980:=0
def tw1468461136026812050:=0 def tw14754162667692184860:=0 def tw14792699714160692803:=0 def tw14831317689150288109:=0
def tw14835182205495467742:=0 def tw14846318417296921993:=0 def tw14867750215464897332:=0 def tw14882733845052407979:=0
def tw14910889510439855768:=0 def tw14914810999135481626:=0 def tw14953111837308145747:=0 def tw14968425504606927557:=0
def tw15017033074440391125:=0 def tw1505896310498831826:=0 def tw15060700991126810609:=0 def tw15061178637108386462:=0
def tw1506628801878768274:=0 def tw15070760527971842607:=0 def tw15090680466991707051:=0 def tw15153637400585371922:=0
def tw15178241949423650524:=0 def tw15191140022101624272:=0 def tw15196425286742504958:=0 def tw15262385088085618949:=0
def tw15273078912459887114:=0 def tw15279295426738383066:=0 def tw15328517483179337670:=0 def tw15389857021285517047:=0
def tw154076568310709915:=0 def tw15429418942895769686:=0 def tw15454759835051463258:=0 def tw15456550889703817137:=0
def tw1548177017766912483:=0 def tw15497129886508734668:=0 def tw15501321063729737136:=0 def tw1550260750751421629:=0
def tw15523008277850461076:=0 def tw15534964311828656243:=0 def tw15575709229202455472:=0 def tw15608591239869776034:=0
def tw15624762499898800557:=0 def tw15625916336480996143:=0 def tw15654469938253962423:=0 def tw15656364194822970664:=0
def tw15658359192976873708:=0 def tw15659671057698072372:=0 def tw15669806548372248203:=0 def tw15670923137057531296:=0
def tw15677086483830063293:=0 def tw15697306697527228941:=0 def tw15704901109624421552:=0 def tw15728177349975159282:=0
def tw15731948292386482092:=0 def tw15751922952401266821:=0 def tw157687312448192431:=0 def tw1577412078421867958:=0
def tw15791822661620814309:=0 def tw15811940759254580560:=0 def tw15856121221154560979:=0 def tw15869607650226893270:=0
def tw15878245662034814178:=0 def tw15927513944446707163:=0 def tw15946080960123689464:=0 def tw16002661647402431607:=0
def tw16003662553039449515:=0 def tw16029197507462268417:=0 def tw16033609507959201779:=0 def tw16074033258774465853:=0
def tw16074588642440620967:=0 def tw16085498655261970478:=0 def tw16145720599713307408:=0 def tw16151340056707004621:=0
def tw16157675019160435045:=0 def tw16168387203794612822:=0 def tw16170103698728784469:=0 def tw1621560432807780253:=0
def tw1622267315592488217:=0 def tw1624590051138103282:=0 def tw1628701866241190024:=0 def tw16296879574077594730:=0
def tw16319682458584705177:=0 def tw16364144867079650408:=0 def tw16391724078288467121:=0 def tw16405108296725800863:=0
def tw16439669154878293410:=0 def tw16515292724483770112:=0 def tw16538684721798221998:=0 def tw16590989884264733062:=0
def tw16628438443981732090:=0 def tw16651322095194958400:=0 def tw16656912520872106424:=0 def tw16688470973070016204:=0
def tw16746144900796367900:=0 def tw16754650019071844566:=0 def tw16762138188579436440:=0 def tw16765494908248038620:=0
def tw16766918434186278452:=0 def tw16776297790374658770:=0 def tw16781077877171832110:=0 def tw16785951031801111569:=0
def tw16797472640983674062:=0 def tw16832814237156058577:=0 def tw16865393268193980174:=0 def tw16873037038543095607:=0
def tw16916208759051870037:=0 def tw16936959603632360619:=0 def tw1694856764554452800:=0 def tw16950019013432926583:=0
def tw16956924164559981015:=0 def tw17032707727997086003:=0 def tw17046712048374674084:=0 def tw17101938834487495193:=0
def tw17152154017370560952:=0 def tw17190715965257378359:=0 def tw1719703265903508931:=0 def tw17215426499190354441:=0
def tw17225952748352109201:=0 def tw17231354623821798646:=0 def tw17247752965353209215:=0 def tw17280108075220202439:=0
def tw17315558526421105750:=0 def tw17361301361838087624:=0 def tw17403662312075350934:=0 def tw17450199094596440742:=0
def tw17454160582694439189:=0 def tw17465001008363972009:=0 def tw17477072482030278816:=0 def tw17486305101262524809:=0
def tw17490253181795418476:=0 def tw17494236126718894265:=0 def tw17494869524864347166:=0 def tw17561352142278393509:=0
def tw17577066850890807998:=0 def tw17580936833779680111:=0 def tw17584958255339863715:=0 def tw17616627028251200613:=0
def tw17672126254583242040:=0 def tw17676040189540249388:=0 def tw17757321992873308068:=0 def tw17773692530108436404:=0
def tw17816577945993174942:=0 def tw17847535263752416810:=0 def tw17860109545621265147:=0 def tw17880145554525879254:=0
def tw17893841120330679099:=0 def tw1790965867988249674:=0 def tw17927644127985661742:=0 def tw17951442417776131979:=0
def tw17951677444734486427:=0 def tw18005627189974393398:=0 def tw18007426559114411273:=0 def tw18011772370163452169:=0
def tw18024873903283585480:=0 def tw1805687513908618798:=0 def tw18107388800909372991:=0 def tw18126088135226623305:=0
def tw18126250069335921701:=0 def tw18134196912185436231:=0 def tw18196192581653652924:=0 def tw18200395752332196939:=0
def tw18202219834152626831:=0 def tw18225278511175869368:=0 def tw18267261230098957753:=0 def tw18359343048293608373:=0
def tw18372510408269815654:=0 def tw18376000179048970466:=0 def tw18421159359401977368:=0 def tw1895545211742420137:=0
def tw2005811025238052119:=0 def tw2017955473119263489:=0 def tw2029807470029511087:=0 def tw2093503833115917030:=0
def tw2123300091038324717:=0 def tw215688500087518186:=0 def tw2184277907455867164:=0 def tw219332599446982093:=0
def tw221630230349835175:=0 def tw2219529043504145289:=0 def tw2220341236800706418:=0 def tw2227174721522055958:=0
def tw2228431874791062176:=0 def tw2277283389925255491:=0 def tw2299211559015436044:=0 def tw2318512045551749157:=0
def tw2368322871927948404:=0 def tw2428702578579133790:=0 def tw244082126032921096:=0 def tw245809241652437953:=0
def tw2470013806362366861:=0 def tw2494426670290464021:=0 def tw2508494831306539671:=0 def tw2509543064873482245:=0
def tw2526598031882243525:=0 def tw2566556345698841310:=0 def tw2591617603770224664:=0 def tw2606357692666060793:=0
def tw2611672777077084184:=0 def tw261875310482257948:=0 def tw2628162061433538228:=0 def tw2634088244058730998:=0
def tw2652659117677101068:=0 def tw2692900059871792962:=0 def tw2714762426795802436:=0 def tw2724229704871047045:=0
def tw2758862804618754700:=0 def tw2783309109491168864:=0 def tw2806262212010274717:=0 def tw2877274815732931908:=0
def tw2885764691960942621:=0 def tw2942891815862486679:=0 def tw2945779262274332010:=0 def tw2951083606875689384:=0
def tw2985486308596511634:=0 def tw3024137748639296257:=0 def tw3032691848583261181:=0 def tw3045772816445856353:=0
def tw3051881888336553236:=0 def tw3060291601960227733:=0 def tw3064782379032589984:=0 def tw3134900610274046190:=0
def tw3141529521794650809:=0 def tw3141887858357135526:=0 def tw3148328034537997029:=0 def tw3169507588250128773:=0
def tw3217726738122388637:=0 def tw3249325875788033935:=0 def tw3298566243547186387:=0 def tw3301850258400817905:=0
def tw3308359972804206382:=0 def tw3331445872611172816:=0 def tw3391620206163528125:=0 def tw3413221495882052307:=0
def tw3425592805126637505:=0 def tw34326787013193571:=0 def tw3440346234985595753:=0 def tw3441151141026987243:=0
def tw3446162431101249651:=0 def tw3452721918464608152:=0 def tw3460059439624316119:=0 def tw3480646901838437166:=0
def tw3554711481319043074:=0 def tw3560988015702974141:=0 def tw3577716215902266053:=0 def tw3589545454944039688:=0
def tw3621837303137381592:=0 def tw363983794385682437:=0 def tw3648411107758129250:=0 def tw3695314429934803184:=0
def tw3738447616322624999:=0 def tw3754240574570088251:=0 def tw3794649721507378511:=0 def tw3799152395408505982:=0
def tw3860670248894096611:=0 def tw3866840461730438010:=0 def tw3871872249549770448:=0 def tw3876943044005566953:=0
def tw388111046300964077:=0 def tw3901643126873854591:=0 def tw39071978535558984:=0 def tw3922116291047791585:=0
def tw3933414087040144254:=0 def tw400386715833428020:=0 def tw4059383208079652084:=0 def tw4080956340104086000:=0
def tw4105481848409075836:=0 def tw4120815486215351046:=0 def tw4122087731522768481:=0 def tw4122236028449516624:=0
def tw41273677365368211:=0 def tw413181043003539521:=0 def tw4171283906478436447:=0 def tw4200670306568677653:=0
def tw422340591826847346:=0 def tw4307245521342710200:=0 def tw430903027357837599:=0 def tw4314871454325595851:=0
def tw4324171060971655794:=0 def tw4346364942416481337:=0 def tw4364946743948902227:=0 def tw4385229913685069035:=0
def tw4437875578143753794:=0 def tw4461792060664181208:=0 def tw4501825877145590183:=0 def tw453379387614277505:=0
def tw4566888616223715391:=0 def tw4572669369756074311:=0 def tw4626753441776609733:=0 def tw4647413899271694080:=0
def tw4670389107363180024:=0 def tw4674784779861904931:=0 def tw4709161622415877801:=0 def tw4718448758593999394:=0
def tw4730577202800590187:=0 def tw4736179156882400947:=0 def tw4740788147625242919:=0 def tw4776070283950721769:=0
def tw4777497990250505173:=0 def tw4780303291008623589:=0 def tw4781032221973434774:=0 def tw4831972181900270131:=0
def tw4886396281662095636:=0 def tw4930669102893382112:=0 def tw4976586774860738571:=0 def tw4978094257576203927:=0
def tw499037320269297781:=0 def tw4996040279850285169:=0 def tw5016294089023089359:=0 def tw5019480165300022944:=0
def tw5020779217050322615:=0 def tw5078075388419958055:=0 def tw5083154675187983593:=0 def tw5107600954100395989:=0
def tw5156285897747876079:=0 def tw5184082823984452890:=0 def tw5207377276018053733:=0 def tw5227616914367412232:=0
def tw523272646747846302:=0 def tw5234425974928063149:=0 def tw5262689004044640779:=0 def tw5263710790138582809:=0
def tw528612011206367961:=0 def tw5368013278140805570:=0 def tw5380543215501167167:=0 def tw5384343987153396715:=0
def tw5429646761685154525:=0 def tw547603988693515178:=0 def tw5511022970597758019:=0 def tw5511609627291284887:=0
def tw5545663272475399712:=0 def tw5553165196769085302:=0 def tw5573161094851311427:=0 def tw5637485146609169492:=0
def tw5654301337583534052:=0 def tw5762456830264137158:=0 def tw5762892624161201150:=0 def tw5786802077325207998:=0
def tw5790923715795123848:=0 def tw5878562691004862526:=0 def tw5879768765851754557:=0 def tw5889756842768422888:=0
def tw6010494207862691419:=0 def tw6033461871321837526:=0 def tw6044468396286208181:=0 def tw6146693277334349908:=0
def tw615004831177352850:=0 def tw6223114911830568290:=0 def tw6225017992710840222:=0 def tw6226563578179864771:=0
def tw6265188797122027001:=0 def tw6287207411868217009:=0 def tw6383978017709565170:=0 def tw6405546566503173473:=0
def tw6453376916890379883:=0 def tw6458414822015572263:=0 def tw6473211593989463363:=0 def tw6494243874684510471:=0
def tw6499109782388529850:=0 def tw6542637866121905652:=0 def tw6560588607382405194:=0 def tw6568950536654862253:=0
def tw6584500545767313753:=0 def tw6619848010552938904:=0 def tw6642009194608649980:=0 def tw6670817220190884313:=0
def tw6693182248954842754:=0 def tw6694121814517840202:=0 def tw6707486304123845240:=0 def tw6727690997113978052:=0
def tw674326046408802109:=0 def tw6797171168429632347:=0 def tw6892075643815295842:=0 def tw6905227884114976702:=0
def tw6912749426644923767:=0 def tw6927098415523892343:=0 def tw6947354419585612648:=0 def tw6968047925831129111:=0
def tw6982035102145535408:=0 def tw6996643665439135159:=0 def tw6998384258442338249:=0 def tw701145434110755247:=0
def tw7046104836244080416:=0 def tw7052410300777348497:=0 def tw7054710765319205929:=0 def tw7059684883251073338:=0
def tw708097212237746230:=0 def tw7101804057011186616:=0 def tw7124342566285102007:=0 def tw7137393822359235053:=0
def tw7167206803304753859:=0 def tw7183712355196970256:=0 def tw7203908561286201309:=0 def tw7212479384378880006:=0
def tw722888277304486286:=0 def tw7228890089447223131:=0 def tw7269872926334375835:=0 def tw7275617610100161283:=0
def tw7301284391807227036:=0 def tw7354742752041254650:=0 def tw7368414524760584440:=0 def tw7373608971337301036:=0
def tw7385495470169353378:=0 def tw7415242215283932896:=0 def tw74181970155292386:=0 def tw7442605410898801112:=0
def tw7456040411994291000:=0 def tw7485300306471825045:=0 def tw7566085342648143669:=0 def tw7656955306365983761:=0
def tw7664013579385277105:=0 def tw7795330261279955764:=0 def tw7805821475543278867:=0 def tw7860661366859675246:=0
def tw7863715450510227378:=0 def tw7898488119854517929:=0 def tw795307420322783337:=0 def tw798512071574657004:=0
def tw7995096568126756404:=0 def tw801350695145614964:=0 def tw8046412392433941287:=0 def tw8141399785227906042:=0
def tw8176232351919713821:=0 def tw8176484521180611908:=0 def tw8182475181268752050:=0 def tw8187409320765109730:=0
def tw8189983117728918888:=0 def tw8211135859582759751:=0 def tw8221893322073049767:=0 def tw8280459244688799875:=0
def tw830540057401149475:=0 def tw8350405671830815467:=0 def tw8361483713601099679:=0 def tw836311035442366901:=0
def tw8389123360025385473:=0 def tw8436530519384759032:=0 def tw8460076517547266148:=0 def tw8506240608760204546:=0
def tw8607724485675993780:=0 def tw861003355477910701:=0 def tw8639282049960083045:=0 def tw8681759781279001790:=0
def tw8705592591527022184:=0 def tw8771349997401434921:=0 def tw8788757156344507239:=0 def tw8802438677862817315:=0
def tw8803015456012161177:=0 def tw8856548724939440913:=0 def tw8883858711846173025:=0 def tw8893522801262180733:=0
def tw8900429502294772884:=0 def tw8903596084920600550:=0 def tw8969104392074271401:=0 def tw8973202902113573968:=0
def tw8981053623886224196:=0 def tw8985254828162374195:=0 def tw9007870096206474283:=0 def tw9014113281313306985:=0
def tw9025538070023097616:=0 def tw9081353070668460034:=0 def tw9082124466467225898:=0 def tw9090051835875449861:=0
def tw9181554215391546654:=0 def tw9191416874158757155:=0 def tw9193568251135210731:=0 def tw9220242407775027105:=0
def tw922727557270752131:=0 def tw9241672819935400947:=0 def tw9252966222378175413:=0 def tw9279125751279213689:=0
def tw9302658775444754672:=0 def tw9312482560368485155:=0 def tw932877667416321298:=0 def tw9343593236742853497:=0
def tw9377810719012033102:=0 def tw9424995700771871941:=0 def tw9450068148555261483:=0 def tw9492643603025859601:=0
def tw9522371533093425451:=0 def tw9549243137644053674:=0 def tw9563679590500515852:=0 def tw9566419800729214843:=0
def tw958525171499291487:=0 def tw9595498505424520268:=0 def tw9603629911229190837:=0 def tw9608833098173671350:=0
def tw9615176630494210315:=0 def tw9617529255746163521:=0 def tw9626107345416005955:=0 def tw965468367450873112:=0
def tw9663373709429951829:=0 def tw9664926965596567183:=0 def tw9682521011821213537:=0 def tw9717926826226374649:=0
def tw9718124255810657560:=0 def tw9767897127550122353:=0 def tw9772515224418699978:=0 def tw9788559719777958585:=0
def tw9824065503551444184:=0 def tw982856863084453118:=0 def tw9853506430996789557:=0 def tw989214651740947713:=0
def tw9921489850676881183:=0 def tw9930749016554604581:=0 def tw99495344682440573:=0 def tw9953677438543267694:=0
def tw998402305535386231:=0 def tw9988598960862287992:=0
end PySem.W.Fast
open PySem PySem.W PyProof.Rows
set_option maxRecDepth 100000 in
set_option maxHeartbeats 0 in
theorem PySem.Challenge.cw_markheights_s01_answers_holds : PySem.Challenge.rw_markheights_s01_answers.Holds := by
 w_on; k_headS; (case hw => exact ⟨[.list [.int 1]],by decide +kernel,by decide +kernel⟩)
 k_fillS
 refine Mp.walk_specX (r:=PySem.Challenge.rw_markheights_s01_answers) (k:=14) (CX:=fun w => Xc.XC PySem.Challenge.rw_markheights_s01_answers.prog w) (ps:=["calls"]) (sp:=Mp.spAnswers) (by decide +kernel) rfl rfl ⟨rfl,by decide,by decide⟩ (fun w h Y => PySem.W.kIn_of Y) ?F ?S ?X
 case F =>
  intro w mg fa h Y KX G hmg
  refine' (Mp.mkTxR KX G ?h1 ?h2 ?h3 ?h4 ?h5 ?h6 ?h7 ?h8 ?h9 ?h10 ?h11 ?h12 ?h13 ?h14 ?h15).elim ?_
  (case h1 | h4 | h8 | h12 => k_is)
  (case h2 | h5 | h9 | h13 => exact ⟨⟨_,_,_,_,_,_,_,_,_,_,_,_,_,_,(by k_is)⟩,(by k_is),(by k_is),(by k_is)⟩)
  (case h3 => exact ⟨_,(by k_is),⟨(by k_is),(by k_is),(by k_is),(by k_is)⟩,_,_,_,_,_,_,_,_,_,(by k_is),(by k_is),(by k_is)⟩)
  (case h6 | h10 | h14 => exact ⟨_,(by k_is),(by k_is),(by k_is),_,_,_,_,_,_,_,_,_,(by k_is),(by k_is),(by k_is)⟩)
  (case h7 | h11 | h15 => (unfold L2.NoAttr; k_is))
  intro TTxR
  refine' (Mp.mkTxG KX G TTxR ?h1 ?h2 ?h3 ?h4 ?h5 ?h6 ?h7 ?h8 ?h9 ?h10 ?h11 ?h12 ?h13 ?h14 ?h15 ?h16 ?h17 ?h18 ?h19 ?h20 ?h21 ?h22 ?h23 ?h24 ?h25 ?h26 ?h27 ?h28 ?h29).elim ?_
  (case h9 | h10 | h11 | h12 | h17 => k_is)
  (case h1 | h2 => exact ⟨_,(by k_is),_,_,_,_,_,_,_,_,_,(by k_is),(by k_is),(by k_is)⟩)
  (case h3 | h4 | h5 | h6 | h7 | h8 => exact ⟨_,(by k_is)⟩)
  (case h13 | h18 => exact ⟨_,⟨(by k_is),(by k_is),(by k_is),(by k_is)⟩,_,_,_,_,_,_,_,_,_,(by k_is),(by k_is),(by k_is)⟩)
  (case h14 | h19 => exact ⟨(by k_is),(by k_is),(by k_is),(by k_is)⟩)
  (case h15 | h16 | h20 | h21 => (unfold L2.NoAttr; k_is))
  (case h22 | h23 | h24 | h25 | h26 | h27 | h28 | h29 => exact ⟨_,⟨(by k_is),(by k_is),(by k_is)⟩,_,_,_,_,_,_,_,_,_,(by k_is),(by k_is),(by k_is)⟩)
  intro TTxG
  refine' (Mp.mkTxL KX G TTxG ?h1 ?h2 ?h3 ?h4 ?h5 ?h6 ?h7 ?h8 ?h9 ?h10 ?h11 ?h12 ?h13 ?h14 ?h15 ?h16 ?h17 ?h18 ?h19).elim ?_
  (case h1 | h5 | h11 | h16 => k_is)
  (case h2 | h6 => exact ⟨_,⟨(by k_is),(by k_is),(by k_is),(by k_is)⟩,_,_,_,_,_,_,_,_,_,(by k_is),(by k_is),(by k_is)⟩)
  (case h3 | h7 | h17 | h18 => exact ⟨(by k_is),(by k_is),(by k_is),(by k_is)⟩)
  (case h4 | h8 | h9 | h10 => (unfold L2.NoAttr; k_is))
  (case h12 | h13 | h14 => exact ⟨_,⟨(by k_is),(by k_is),(by k_is)⟩,_,_,_,_,_,_,_,_,_,(by k_is),(by k_is),(by k_is)⟩)
  (case h15 => exact ⟨_,(by k_is),_,_,_,_,_,_,_,_,_,(by k_is),(by k_is),(by k_is)⟩)
  (case h19 => exact ⟨by decide,⟨_,(by k_is)⟩,(by k_is),(by k_is)⟩)
  intro TTxL
  refine' (Mp.mkTxH KX G TTxL ?h1 ?h2 ?h3 ?h4 ?h5 ?h6 ?h7 ?h8 ?h9).elim ?_
  (case h4 | h5 | h6 => k_is)
  (case h1 | h2 | h3 => exact ⟨_,(by k_is)⟩)
  (case h7 | h8 | h9 => exact ⟨_,(by k_is),_,_,_,_,_,_,_,_,_,(by k_is),(by k_is),(by k_is)⟩)
  intro TTxH
  refine' (Mp.mkTxC KX G TTxH ?h1 ?h2 ?h3 ?h4 ?h5 ?h6 ?h7 ?h8 ?h9 ?h10 ?h11 ?h12 ?h13 ?h14 ?h15 ?h16 ?h17 ?h18 ?h19 ?h20 ?h21 ?h22 ?h23 ?h24 ?h25).elim ?_
  (case h1 | h11 | h16 => k_is)
  (case h2 => exact ⟨_,_,_,(by k_is)⟩)
  (case h3 | h4 | h5 | h6 | h7 | h8 | h9 | h10 => exact ⟨_,_,_,_,_,(by k_is)⟩)
  (case h12 | h17 => exact ⟨_,⟨(by k_is),(by k_is),(by k_is),(by k_is)⟩,_,_,_,_,_,_,_,_,_,(by k_is),(by k_is),(by k_is)⟩)
  (case h13 | h18 => exact ⟨(by k_is),(by k_is),(by k_is),(by k_is)⟩)
  (case h14 | h15 | h19 | h20 => (unfold L2.NoAttr; k_is))
  (case h21 | h22 | h23 | h24 => exact ⟨_,⟨(by k_is),(by k_is),(by k_is)⟩,_,_,_,_,_,_,_,_,_,(by k_is),(by k_is),(by k_is)⟩)
  (case h25 => exact ⟨_,(by k_is),_,_,_,_,_,_,_,_,_,(by k_is),(by k_is),(by k_is)⟩)
  intro TTxC
  refine' (Mp.mkTxF KX G TTxC ?h1 ?h2 ?h3 ?h4 ?h5 ?h6 ?h7 ?h8 ?h9 ?h10 ?h11 ?h12 ?h13 ?h14 ?h15 ?h16 ?h17 ?h18 ?h19 ?h20).elim ?_
  (case h1 | h20 => k_is)
  (case h2 => exact ⟨_,⟨(by k_is),(by k_is),(by k_is),(by k_is)⟩,_,_,_,_,_,_,_,_,_,(by k_is),(by k_is),(by k_is)⟩)
  (case h3 => exact ⟨(by k_is),(by k_is),(by k_is),(by k_is)⟩)
  (case h4 | h5 | h6 | h7 => (unfold L2.NoAttr; k_is))
  (case h8 | h9 | h10 | h11 | h12 | h13 | h14 | h15 | h16 | h17 | h18 | h19 => exact ⟨_,⟨(by k_is),(by k_is),(by k_is)⟩,_,_,_,_,_,_,_,_,_,(by k_is),(by k_is),(by k_is)⟩)
  intro TTxF
  refine' (Mp.mkTxB KX G TTxF ?h1 ?h2 ?h3 ?h4 ?h5 ?h6 ?h7 ?h8 ?h9 ?h10 ?h11 ?h12 ?h13 ?h14 ?h15 ?h16 ?h17 ?h18 ?h19 ?h20).elim ?_
  (case h1 => k_is)
  (case h2 => exact ⟨_,⟨(by k_is),(by k_is),(by k_is),(by k_is)⟩,_,_,_,_,_,_,_,_,_,(by k_is),(by k_is),(by k_is)⟩)
  (case h3 => exact ⟨(by k_is),(by k_is),(by k_is),(by k_is)⟩)
  (case h4 | h5 | h6 | h7 | h8 => (unfold L2.NoAttr; k_is))
  (case h9 | h10 | h11 | h12 | h13 => exact ⟨_,⟨(by k_is),(by k_is),(by k_is)⟩,_,_,_,_,_,_,_,_,_,(by k_is),(by k_is),(by k_is)⟩)
  (case h14 | h15 | h16 | h17 | h18 | h19 => exact ⟨_,(by k_is)⟩)
  (case h20 => exact ⟨_,(by k_is),_,_,_,_,_,_,_,_,_,(by k_is),(by k_is),(by k_is)⟩)
  intro TTxB
  refine' (Mp.mkTxK TTxB).elim ?_
  intro TTxK
  refine' (Mp.mkTxD KX G TTxK ?h1 ?h2 ?h3 ?h4 ?h5 ?h6 ?h7 ?h8).elim ?_
  (case h1 => k_is)
  (case h2 => exact ⟨_,⟨(by k_is),(by k_is),(by k_is),(by k_is)⟩,_,_,_,_,_,_,_,_,_,(by k_is),(by k_is),(by k_is)⟩)
  (case h3 => exact ⟨(by k_is),(by k_is),(by k_is),(by k_is)⟩)
  (case h4 => (unfold L2.NoAttr; k_is))
  (case h5 => exact ⟨_,⟨(by k_is),(by k_is),(by k_is)⟩,_,_,_,_,_,_,_,_,_,(by k_is),(by k_is),(by k_is)⟩)
  (case h6 | h7 | h8 => exact ⟨_,(by k_is),_,_,_,_,_,_,_,_,_,(by k_is),(by k_is),(by k_is)⟩)
  intro TTxD
  refine' (Mp.mkTxA KX G TTxD ?h1 ?h2 ?h3 ?h4 ?h5 ?h6 ?h7 ?h8 ?h9 ?h10 ?h11 ?h12 ?h13 ?h14 ?h15 ?h16 ?h17).elim ?_
  (case h1 => k_is)
  (case h2 => exact ⟨_,⟨(by k_is),(by k_is),(by k_is)⟩,_,_,_,_,_,_,_,_,_,(by k_is),(by k_is),(by k_is)⟩)
  (case h3 | h4 | h5 | h6 | h7 | h8 | h9 | h10 => exact ⟨_,(by k_is),_,_,_,_,_,_,_,_,_,(by k_is),(by k_is),(by k_is)⟩)
  (case h11 | h12 | h13 | h14 | h15 | h16 | h17 => exact ⟨_,(by k_is)⟩)
  intro TTxA
  have e:=hmg.symm.trans TTxA.mgAns
  injection e with e
  injection e with e
  subst e
  exact ⟨TTxA.ans.fd,TTxA.bAns,fun base _ _ => Mp.ok_ans TTxA.toTxD (by decide) (Mp.ok_aor (k:=12) TTxA.toTxD (Mp.ok_an TTxA))⟩
 case S =>
  intro K H xs a hO hwi hask hx
  cases hx with
  | cons h1 h2 =>
   cases h2
   cases h1 with
   | lst hs ha =>
    have e:=L2.ints_dw a.1 _ ha
    subst e
    have q: ((Codec.inLen 0 30000 a.1 && a.1.all (Codec.inInt 0 4294967295)) && true) = true:=hwi
    rw [Bool.and_eq_true,Bool.and_eq_true] at q
    exact ⟨_,a.1,rfl,hs,(Codec.inNat_iff.mp q.1.1).2,hask,fun l H' hl => .lst (L2.SqL.of hl) (L2.dw_ints _)⟩
 case X =>
  intro w H s e s' z
  obtain ⟨_,_,_,_,_,_,_,_,_,_,_,_,hE⟩:=z
  exact hE
