import PyProof.Rows.All
import Wide.All
import OpenK.AllK
import Wide.FinOn
import PyProof.EqAt
import PyProof.EqKinds
import PyProof.TupleCall
import KE.BitLaws
import Open.SpecLaws
import KE.OsHead
import KE.OsGo
import PySem.Challenge.RW_writtenways_s01_answers
import KE.KRevSl
import PyProof.ListRange
import KE.KSortTupG
import DrText
import WrdirsSpec
import PyWrdirs
set_option Elab.async false
set_option linter.all false
set_option maxRecDepth 100000
set_option maxHeartbeats 4000000
set_option compiler.extract_closed false
set_option genSizeOf false
noncomputable section
theorem ZA {α:Type} {l:List α} {i:Nat} (h:i<l.length):l[i]?=some l[i]:=List.getElem?_eq_getElem h
theorem ZB {α:Type} {l:List α} {i:Nat} {a:α}:l[i]?=some a↔∃ h:i<l.length,l[i]=a:=List.getElem?_eq_some_iff
theorem ZC {α:Type} {a b:α} (h:some a=some b):a=b:=Option.some.inj h
theorem ZD {α:Type} {l:List α} {i:Nat} {a:α} (h:l[i]?=some a):a∈l:=List.mem_of_getElem? h
theorem ZE {α β:Type} {l:List α} (f:α->β):(l.map f).length=l.length:=List.length_map f
section
namespace L2
open PySem PySem.Spec PyProof.Rows
abbrev C5:=Sum Int Str
noncomputable def KN:C5->Value->Bool
 | .inl k,v=>Value.isInt k v
 | .inr x,v=>Value.isStrOf x v
noncomputable def V3 (w:World):C5->Int
 | .inl k=>hashInt k
 | .inr x=>hashStr w x
theorem BS:∀ {k:C5} {v:Value},KN k v=true->(∃ i t,k=Sum.inl i/\v=Value.int i t)\/(∃ x t,k=Sum.inr x/\v=Value.str x t)
 | .inl i,v,h=>by
  obtain ⟨t,e⟩:=Value.isInt_shape (k:=i) (v:=v) h
  exact .inl ⟨i,t,rfl,e⟩
 | .inr x,v,h=>by
  obtain ⟨t,e⟩:=Value.isStrOf_shape (x:=x) (v:=v) h
  exact .inr ⟨x,t,rfl,e⟩
theorem P0 (i:Int) (t:Tok):KN (.inl i) (.int i t)=true:=by simp [KN,Value.isInt]
theorem Py (x:Str) (t:Tok):KN (.inr x) (.str x t)=true:=by simp [KN,Value.isStrOf]
theorem T9 (a b:Int):decide ((Sum.inl a:C5)=Sum.inl b)=(a==b):=by
 by_cases e:a=b
 .subst e;simp
 .have h:¬(Sum.inl a:C5)=Sum.inl b:=fun q=>e (Sum.inl.inj q)
  rw [decide_eq_false h]
  exact (beq_eq_false_iff_ne.mpr e).symm
theorem TW (a b:Str):decide ((Sum.inr a:C5)=Sum.inr b)=decide (a=b):=by
 by_cases e:a=b
 .subst e;simp
 .have h:¬(Sum.inr a:C5)=Sum.inr b:=fun q=>e (Sum.inr.inj q)
  rw [decide_eq_false h,decide_eq_false e]
theorem TM (a:Int) (b:Str):decide ((Sum.inl a:C5)=Sum.inr b)=false:=decide_eq_false (fun q=>nomatch q)
theorem Tl (a:Str) (b:Int):decide ((Sum.inr a:C5)=Sum.inl b)=false:=decide_eq_false (fun q=>nomatch q)
noncomputable def BK (prog:Program) (w:World):PySem.KeyKind prog w C5 where
 is:=KN
 hash:=V3 w
 inj:=fun v a b ha hb=>by
  rcases BS ha with ⟨i,t,rfl,rfl⟩ | ⟨x,t,rfl,rfl⟩
  .rcases BS hb with ⟨j,u,rfl,e⟩ | ⟨y,u,rfl,e⟩
   .injection e with e1 _;rw [e1]
   .exact nomatch e
  .rcases BS hb with ⟨j,u,rfl,e⟩ | ⟨y,u,rfl,e⟩
   .exact nomatch e
   .injection e with e1 _;rw [e1]
 byValue:=fun k v h=>by
  rcases BS h with ⟨i,t,rfl,rfl⟩ | ⟨x,t,rfl,rfl⟩ <;> rfl
 pyHash:=fun hv h=>by
  rcases BS hv with ⟨i,t,rfl,rfl⟩ | ⟨x,t,rfl,rfl⟩
  .exact wpAny_pyHash_int h
  .exact wpAny_pyHash_str h
 eqBool:=fun hu hv h=>by
  rcases BS hu with ⟨i,t,rfl,rfl⟩ | ⟨x,t,rfl,rfl⟩
  .rcases BS hv with ⟨j,u,rfl,rfl⟩ | ⟨y,u,rfl,rfl⟩
   .rw [T9] at h;exact wpAny_eqBool_int h
   .rw [TM] at h;exact SeqAt.EqAt.int_str i t y u _ _ _ _ h
  .rcases BS hv with ⟨j,u,rfl,rfl⟩ | ⟨y,u,rfl,rfl⟩
   .rw [Tl] at h;exact SeqAt.EqAt.str_int x t j u _ _ _ _ h
   .rw [TW] at h;exact wpAny_eqBool_str h
 «strs»:=fun k x t v h=>by
  rcases BS h with ⟨i,u,rfl,e⟩ | ⟨y,u,rfl,e⟩
  .exact nomatch e
  .injection e with e1 _
   subst e1
   cases v <;> rfl
theorem MJ (prog:Program) (w:World) (i:Int) (t:Tok):(BK prog w).is (.inl i) (.int i t)=true:=P0 i t
theorem MP (prog:Program) (w:World) (x:Str) (t:Tok):(BK prog w).is (.inr x) (.str x t)=true:=Py x t
end L2
namespace L2
open PySem PySem.Spec PyProof.Rows
inductive V where
 | non | bl (b:Bool) | int (i:Int) | str (x:Str) | byt (b:Array UInt8) | flt (b:UInt64) | ref (a:Addr) | ty (n:String)
 deriving DecidableEq
noncomputable def RelV:V->Value->Prop
 | .non,u=>u=Value.none
 | .bl b,u=>u=Value.bool b
 | .int i,u=>∃ t,u=Value.int i t
 | .str x,u=>∃ t,u=Value.str x t
 | .byt b,u=>∃ t,u=Value.bytes b t
 | .flt b,u=>∃ t,u=Value.float b t
 | .ref a,u=>u=Value.ref a
 | .ty n,u=>u=Value.type n
abbrev Vals:List V->List Value->Prop:=Paired RelV
theorem Vals.length {xs:List V} {us:List Value} (r:Vals xs us):xs.length=us.length:=Paired.length r
theorem Vals.get:∀ {xs:List V} {us:List Value} {i:Nat} {x:V},Vals xs us->xs[i]?=some x->∃ u,us[i]?=some u/\RelV x u
 | _,_,_,_,.nil,e=>by simp at e
 | _,_,0,_,.cons r _,e=>by simp at e;subst e;exact ⟨_,rfl,r⟩
 | _,_,i+1,x,.cons _ t,e=>by
  obtain ⟨u,h1,h2⟩:=Vals.get (i:=i) (x:=x) t (by simpa using e)
  exact ⟨u,by simpa using h1,h2⟩
theorem Vals.set {x:V} {u:Value} (r:RelV x u):∀ {xs:List V} {us:List Value} (i:Nat),Vals xs us->Vals (xs.set i x) (us.set i u)
 | _,_,_,.nil=>.nil
 | _,_,0,.cons _ t=>.cons r t
 | _,_,i+1,.cons q t=>.cons q (Vals.set r i t)
theorem Vals.append:∀ {xs ys:List V} {us ws:List Value},Vals xs us->Vals ys ws->Vals (xs++ys) (us++ws)
 | _,_,_,_,.nil,s=>s
 | _,_,_,_,.cons r t,s=>.cons r (Vals.append t s)
theorem Vals.take:∀ {xs:List V} {us:List Value} (n:Nat),Vals xs us->Vals (xs.take n) (us.take n)
 | _,_,0,_=>.nil
 | _,_,_+1,.nil=>.nil
 | _,_,n+1,.cons r t=>.cons r (Vals.take n t)
theorem Vals.drop:∀ {xs:List V} {us:List Value} (n:Nat),Vals xs us->Vals (xs.drop n) (us.drop n)
 | _,_,0,r=>r
 | _,_,_+1,.nil=>.nil
 | _,_,n+1,.cons _ t=>Vals.drop n t
noncomputable def RelO:Option V->Option Value->Prop
 | some v,some u=>RelV v u
 | none,none=>True
 | _,_=>False
noncomputable def KV {κ:Type}:List (κ×V)->List (κ×Value)->Prop:=Paired fun (p:κ×V) (q:κ×Value)=>p.1=q.1/\RelV p.2 q.2
noncomputable def kV:C5->V
 | .inl i=>.int i
 | .inr x=>.str x
inductive HO where
 /-- a list -/
 | lst (xs:List V)
 /-- a tuple (never changes) -/
 | tup (xs:List V)
 /-- a dict whose keys are ints and texts;one whose keys are tuples of ints and texts (the empty one is both) -/
 | dK (kvs:List (C5×V)) | dT (kvs:List (List C5×V))
 /-- a set of ints: its members,its size -/
 | set (S:Int->Bool) (n:Nat)
 /-- an instance of the class at C,its dict at dx,its attributes -/
 | ins (C dx:Addr) (fs:List (Str×V))
 /-- the dict of the instance at x -/
 | own (x:Addr)
 /-- the dict of an exception -/
 | xd (fs:List (Str×V))
 /-- a bound method,f of x -/
 | met (f x:Addr)
 /-- a range object lo,lo+1,.. below hi -/
 | rng (lo hi:Int)
 /-- a thing that is known to the object (the script;a dict while a loop walks it): read,never written while it is so -/
 | frz (o:Obj) (u:HO)
 /-- a code object's table -/
 | tbl (ps:Array Value)
 /-- any other thing,by what is true of its one object (a def of one's own: SetO a S n:=HO.ext fun h=>..) -/
 | ext (φ:Heap->Prop)
abbrev Hp:=Addr->Option HO
noncomputable def upd (H:Hp) (a:Addr) (o:HO):Hp:=fun b=>if b=a then some o else H b
theorem A2 {H:Hp} {a:Addr} {o:HO}:upd H a o a=some o:=by unfold upd;rw [if_pos rfl]
theorem AQ {H:Hp} {a b:Addr} {o:HO} (h:b≠a):upd H a o b=H b:=by unfold upd;rw [if_neg h]
theorem AW {H:Hp} {a b:Addr} {o u:HO} (h:H a=some o) (h':H b=some u) (d:o≠u):a≠b:=by
 intro e;subst e;rw [h] at h';exact d (ZC h')
theorem A1 {H:Hp} {a b:Addr} {o:HO} (h:H a=some o) (h':H b=none):a≠b:=by
 intro e;subst e;rw [h] at h';cases h'
section
variable (P:Program) (w:World)
noncomputable def ObjOk (H:Hp) (h:Heap) (a:Addr):HO->Prop
 | .lst xs=>xs.length<=sizeLine/\∃ (its:List Value) (n:Nat),Vals xs its/\h.get? a=some { cls:=.type "list",data:=.seq its.toArray n }
 | .tup xs=>xs.length<=sizeLine/\∃ its:List Value,Vals xs its/\IsTup h a its.toArray
 | .dK kvs=>kvs.length<=sizeLine/\(a==sysModules)=false/\∃ vs,KV kvs vs/\h.DictOf (BK P w) a vs
 | .dT kvs=>kvs.length<=sizeLine/\(a==sysModules)=false/\∃ xs:List (List C5×Addr×Value),
   Paired (fun (p:List C5×V) (q:List C5×Addr×Value)=>p.1=q.1/\H q.2.1=some (.tup (p.1.map kV))/\RelV p.2 q.2.2) kvs xs /\
   ∃ o es ep,h.get? a=some o/\o.ExactDict/\o.data=.dict es ep/\es.toList=xs.map (entryOfKey (tupleKind (BK P w)))/\(xs.map (·.1)).Nodup
 | .set S n=>h.SetOf (intKind P w) a S n
 | .ins C dx fs=>H dx=some (.own a)/\fs.length<=1000/\dx≠a/\h.get? a=some (PySem.W.instObj C dx) /\
   ∃ mA,h.Ns1 dx mA/\(∀ f,RelO (fs.lookup f) (mA f))/\PySem.Within mA (fs.map (·.1))
 | .own _=>∃ o,h.get? a=some o
 | .xd fs=>∃ mA,h.Ns1 a mA/\∀ f,RelO (fs.lookup f) (mA f)
 | .rng lo hi=>∃ t u v,h.get? a=some { cls:=.type "range",data:=.fields #[.int lo t,.int hi u,.int 1 v] }
 | .frz o u=>h.get? a=some o/\ObjOk H h a u
 | .tbl ps=>h.get? a=some { cls:=.none,data:=.fields ps }
 | .met f x=>h.get? a=some (PySem.W.methodObj (.ref f) (.ref x))
 | .ext φ=>φ h/\(∃ o,h.get? a=some o)/\∀ h1 h2:Heap,φ h1->(∀ o,h1.get? a=some o->h2.get? a=some o)->φ h2
noncomputable def HOk (H:Hp) (h:Heap):Prop:=∀ a o,H a=some o->ObjOk P w H h a o
end
section
variable {P:Program} {w:World} {H H':Hp} {h h':Heap} {a:Addr} {o:HO}
theorem ObjOk.lt (x:ObjOk P w H h a o):a<h.objs.size:=by
 cases o with
 | lst xs=>obtain ⟨_,_,_,_,e⟩:=x;exact Heap.lt_size e
 | tup xs=>obtain ⟨_,_,_,p⟩:=x;exact p.lt
 | dK kvs=>obtain ⟨_,_,_,_,o,_,_,e,_⟩:=x;exact Heap.lt_size e
 | dT kvs=>obtain ⟨_,_,_,_,o,_,_,e,_⟩:=x;exact Heap.lt_size e
 | set S n=>obtain ⟨o,_,_,_,e,_⟩:=x;exact Heap.lt_size e
 | ins C dx fs=>obtain ⟨_,_,_,e,_⟩:=x;exact Heap.lt_size e
 | own y=>obtain ⟨_,e⟩:=x;exact Heap.lt_size e
 | xd fs=>obtain ⟨_,⟨_,_,_,e,_⟩,_⟩:=x;exact Heap.lt_size e
 | rng lo hi=>obtain ⟨_,_,_,e⟩:=x;exact Heap.lt_size e
 | frz ob u=>obtain ⟨e,_⟩:=x;exact Heap.lt_size e
 | tbl ps=>exact Heap.lt_size (show h.get? a=some _ from x)
 | met f y=>exact Heap.lt_size (show h.get? a=some _ from x)
 | ext φ=>obtain ⟨_,⟨_,e⟩,_⟩:=x;exact Heap.lt_size e
theorem Paired.mapP {α β:Type} {F G:α->β->Prop}:∀ {l₁:List α} {l₂:List β},Paired F l₁ l₂->(∀ a b,F a b->G a b)->Paired G l₁ l₂
 | _,_,.nil,_=>.nil
 | _,_,.cons r t,f=>.cons (f _ _ r) (Paired.mapP t f)
theorem ObjOk.stay (x:ObjOk P w H h a o) (k:∀ b u,(b=a\/H b=some (.own a))->h.get? b=some u->h'.get? b=some u)
  (ho:∀ b,H b=some (.own a)->H' b=some (.own a)) (ht:∀ b xs,H b=some (.tup xs)->H' b=some (.tup xs)):ObjOk P w H' h' a o:=by
 induction o with
 | lst xs=>obtain ⟨z,its,n,r,e⟩:=x;exact ⟨z,its,n,r,k _ _ (.inl rfl) e⟩
 | tup xs=>obtain ⟨z,its,r,ob,e,c⟩:=x;exact ⟨z,its,r,ob,k _ _ (.inl rfl) e,c⟩
 | dK kvs=>obtain ⟨z,y,vs,r,ob,es,ep,e,c⟩:=x;exact ⟨z,y,vs,r,ob,es,ep,k _ _ (.inl rfl) e,c⟩
 | dT kvs =>
  obtain ⟨z,y,xs,r,ob,es,ep,e,c⟩:=x
  exact ⟨z,y,xs,Paired.mapP r fun p q z=>⟨z.1,ht _ _ z.2.1,z.2.2⟩,ob,es,ep,k _ _ (.inl rfl) e,c⟩
 | set S n=>obtain ⟨ob,es,ep,t,e,c⟩:=x;exact ⟨ob,es,ep,t,k _ _ (.inl rfl) e,c⟩
 | ins C dx fs =>
  obtain ⟨d,z,ne,e,mA,⟨od,es,ep,e2,c⟩,r⟩:=x
  exact ⟨ho _ d,z,ne,k _ _ (.inl rfl) e,mA,⟨od,es,ep,k _ _ (.inr d) e2,c⟩,r⟩
 | own y=>obtain ⟨ob,e⟩:=x;exact ⟨ob,k _ _ (.inl rfl) e⟩
 | xd fs=>obtain ⟨mA,⟨od,es,ep,e,c⟩,r⟩:=x;exact ⟨mA,⟨od,es,ep,k _ _ (.inl rfl) e,c⟩,r⟩
 | rng lo hi=>obtain ⟨t,u,v,e⟩:=x;exact ⟨t,u,v,k _ _ (.inl rfl) e⟩
 | frz ob u ih=>obtain ⟨e,q⟩:=x;exact ⟨k _ _ (.inl rfl) e,ih q⟩
 | tbl ps =>
  have e:h.get? a=some { cls:=.none,data:=.fields ps }:=x
  show h'.get? a=some { cls:=.none,data:=.fields ps }
  exact k a _ (.inl rfl) e
 | met f y =>
  have e:h.get? a=some (PySem.W.methodObj (.ref f) (.ref y)):=x
  show h'.get? a=some (PySem.W.methodObj (.ref f) (.ref y))
  exact k a _ (.inl rfl) e
 | ext φ=>obtain ⟨p,⟨o,e⟩,st⟩:=x;exact ⟨st _ _ p fun o q=>k _ _ (.inl rfl) q,⟨o,k _ _ (.inl rfl) e⟩,st⟩
theorem HOk.lt (x:HOk P w H h) (e:H a=some o):a<h.objs.size:=(x a o e).lt
theorem HOk.fresh (x:HOk P w H h) (e:h.objs.size<=a):H a=none:=by
 cases q:H a with
 | none=>rfl
 | some u=>exact absurd (Nat.lt_of_lt_of_le (x.lt q) e) (Nat.lt_irrefl _)
theorem HOk.kept (x:HOk P w H h) (k:∀ b u,h.get? b=some u->h'.get? b=some u):HOk P w H h':=fun a o e =>
 (x a o e).stay (fun b u _ q=>k b u q) (fun _ q=>q) fun _ _ q=>q
theorem HOk.laid (x:HOk P w H h) (k:∀ b u,h.get? b=some u->h'.get? b=some u) (hp:h.objs.size<=a) (new:ObjOk P w (upd H a o) h' a o):HOk P w (upd H a o) h':=fun b u e=>by
 have hn:=x.fresh hp
 by_cases hb:b=a
 .subst hb;rw [A2] at e;cases e;exact new
 .rw [AQ hb] at e
  exact (x b u e).stay (fun c v _ q=>k c v q) (fun c q=>by rw [AQ (A1 q hn)];exact q) fun c xs q=>by rw [AQ (A1 q hn)];exact q
end
noncomputable def Rd (H:Hp) (a:Addr) (u:HO):Prop:=H a=some u\/∃ o,H a=some (.frz o u)
theorem Rd.ok {P:Program} {w:World} {H:Hp} {h:Heap} {a:Addr} {u:HO} (r:Rd H a u) (x:HOk P w H h):ObjOk P w H h a u:=by
 rcases r with r | ⟨o,r⟩
 .exact x a u r
 .obtain ⟨_,q⟩:=x a _ r
  exact q
noncomputable def U1:Option HO->Prop
 | some (.lst _)=>True
 | some (.dK _)=>True
 | some (.dT _)=>True
 | some (.set _ _)=>True
 | some (.ins _ _ _)=>True
 | some (.ext _)=>True
 | _=>False
section
variable {P:Program} {w:World} {H:Hp} {h h':Heap} {x e:Addr} {o':HO}
theorem HOk.write (ok:HOk P w H h) (mu:U1 (H x)) (he:e=x\/H e=some (.own x)) (k:∀ b u,b≠e->h.get? b=some u->h'.get? b=some u) (heo:∃ u,h'.get? e=some u)
  (new:ObjOk P w (upd H x o') h' x o'):HOk P w (upd H x o') h':=fun b u q=>by
 have nown:∀ c y,H c=some (.own y)->c≠x:=fun c y r z=>by subst z;rw [r] at mu;exact mu
 have ntup:∀ c xs,H c=some (.tup xs)->c≠x:=fun c xs r z=>by subst z;rw [r] at mu;exact mu
 by_cases hb:b=x
 .subst hb;rw [A2] at q;cases q;exact new
 .rw [AQ hb] at q
  by_cases hbe:b=e
  .have q':H b=some (.own x):=by
    rcases he with z | z
    .exact absurd (hbe.trans z) hb
    .rw [hbe];exact z
   rw [q] at q';cases q'
   obtain ⟨v,hv⟩:=heo
   exact ⟨v,by rw [hbe];exact hv⟩
  .refine (ok b u q).stay (fun c v hc r=>k c v ?_ r) (fun c r=>by rw [AQ (nown c b r)];exact r) fun c xs r=>by rw [AQ (ntup c xs r)];exact r
   rcases hc with rfl | hc
   .exact hbe
   .rintro rfl
    rcases he with z | z
    .exact nown c b hc z
    .rw [hc] at z;cases z;exact hb rfl
end
structure Un (fs ex:List Addr) (H H':Hp) (h h':Heap):Prop where
 keep:∀ b o,h.get? b=some o->H b=none->b∉fs->b∉ex->h'.get? b=some o
 slot:∀ b o,h.get? b=some o->H b=none->b∈fs->b∉ex->∃ sl,h'.get? b=some { o with slots:=sl }
 free:∀ b o,h.get? b=some o->H b=none->b∉ex->H' b=none
 there:∀ b o,h.get? b=some o->b∉ex->∃ o',h'.get? b=some o'
 tups:∀ b xs,H b=some (.tup xs)->H' b=some (.tup xs)
 frzs:∀ b o u,H b=some (.frz o u)->H' b=some (.frz o u)
 tbls:∀ b ps,H b=some (.tbl ps)->∃ more,H' b=some (.tbl (ps++more))
section
variable {fs fs' ex ex':List Addr} {H H1 H2:Hp} {h h1 h2 h':Heap} {a x e:Addr} {o:HO}
theorem Un.any (u:Un fs ex H H1 h h1) {b:Addr} {ob:Obj} (q:h.get? b=some ob) (n:H b=none) (hx:b∉ex):∃ sl,h1.get? b=some { ob with slots:=sl }:=by
 by_cases hb:b∈fs
 .exact u.slot b ob q n hb hx
 .exact ⟨ob.slots,u.keep b ob q n hb hx⟩
theorem Un.kept (k:∀ b u,h.get? b=some u->h'.get? b=some u):Un fs ex H H h h' :=
 ⟨fun b ob q _ _ _=>k b ob q,fun b ob q _ _ _=>⟨ob.slots,k b ob q⟩,fun _ _ _ n _=>n,fun b ob q _=>⟨ob,k b ob q⟩,fun _ _ q=>q,fun _ _ _ q=>q,fun _ ps q=>⟨#[],by rw [q];simp⟩⟩
theorem Un.refl:Un fs ex H H h h:=Un.kept fun _ _ q=>q
theorem Un.laid (k:∀ b u,h.get? b=some u->h'.get? b=some u) (hp:h.objs.size<=a) (hn:H a=none):Un fs ex H (upd H a o) h h' where
 keep:=fun b u q _ _ _=>k b u q
 slot:=fun b u q _ _ _=>⟨u.slots,k b u q⟩
 free:=fun b u q n _=>by rw [AQ (Nat.ne_of_lt (Nat.lt_of_lt_of_le (Heap.lt_size q) hp))];exact n
 there:=fun b u q _=>⟨u,k b u q⟩
 tups:=fun b xs q=>by rw [AQ (A1 q hn)];exact q
 frzs:=fun b u xs q=>by rw [AQ (A1 q hn)];exact q
 tbls:=fun b ps q=>⟨#[],by rw [AQ (A1 q hn),q];simp⟩
theorem Un.write (mu:U1 (H x)) (he:e=x\/H e=some (.own x)) (k:∀ b u,b≠e->h.get? b=some u->h'.get? b=some u) (heo:∃ u,h'.get? e=some u):Un fs ex H (upd H x o) h h':=by
 have hx:∀ b,H b=none->b≠x:=fun b n z=>by subst z;rw [n] at mu;exact mu
 have hb:∀ b,H b=none->b≠e:=fun b n z=>by
  subst z
  rcases he with r | r
  .exact hx b n r
  .rw [n] at r;cases r
 have hm:∀ b u,H b=some u->¬U1 (some u)->b≠x:=fun b u q nm z=>by subst z;rw [q] at mu;exact nm mu
 refine ⟨fun b u q n _ _=>k b u (hb b n) q,fun b u q n _ _=>⟨u.slots,k b u (hb b n) q⟩,fun b u q n _=>by rw [AQ (hx b n)];exact n,fun b u q _=>?_,
  fun b xs q=>by rw [AQ (hm b _ q fun z=>z)];exact q,fun b u xs q=>by rw [AQ (hm b _ q fun z=>z)];exact q,fun b ps q=>⟨#[],by rw [AQ (hm b _ q fun z=>z),q];simp⟩⟩
 by_cases hbe:b=e
 .subst hbe;exact heo
 .exact ⟨u,k b u hbe q⟩
end
noncomputable def Ua (h:Heap) (H:Hp):List Addr:=(List.range h.objs.size).filter fun a=>(H a).isSome
noncomputable def Li (h:Heap) (H:Hp):Heap:=PySem.W.hideAll h (Ua h H)
theorem Po (h:Heap) (H:Hp):(Li h H).objs.size=h.objs.size:=PySem.W.hideAll_size _ _
theorem Qs {h:Heap} {H:Hp} {b:Addr} {o:Obj} (e:h.get? b=some o) (n:H b=none):(Li h H).get? b=some o :=
 PySem.W.hideAll_get _ e fun hm=>by
  have q:(H b).isSome=true:=(List.mem_filter.mp hm).2
  rw [n] at q;simp at q
theorem SA {h:Heap} {H:Hp} {b:Addr} {o:Obj} (e:(Li h H).get? b=some o):h.get? b=some o/\H b=none:=by
 have e':h.get? b=some o:=PySem.W.of_hideAll (Ua h H) e
 refine ⟨e',?_⟩
 cases q:H b with
 | none=>rfl
 | some x =>
  have hm:b∈Ua h H:=List.mem_filter.mpr ⟨List.mem_range.mpr (Heap.lt_size e'),by simp [q]⟩
  have z:(Li h H).get? b=none:=PySem.W.hideAll_none (Ua h H) hm
  rw [z] at e;cases e
end L2
namespace L2
open PySem PySem.Spec PyProof.Rows
structure Mod (K:PySem.W.Frag) (mg:Str->Option Value) (base:Heap):Prop where
 kin:K.In base
 glob:base.Ns mainGlobals mg
 blt:∃ mb,base.Ns builtinsNs mb/\∀ x:Str,x ≠ "__name__" -> mb x=bootBuiltins x
 nolimit:base.NoLimit
structure Cx where
 prog:Program
 w:World
 K:PySem.W.Frag
 mg:Str->Option Value
 base:Heap
 A:Around
 N:List Str
 s_0:Shared
 H_0:Hp
 env:Env
 outer:List Env
 stack:List Env
 ex:List Addr
 fn:Str->Bool
 calm:Bool
 pn:List (Addr×Obj)
 xe:Value->Shared->Prop
noncomputable def frs (l:List Env):List Addr:=l.filterMap (·.frame)
abbrev Cx.fs (X:Cx):List Addr:=frs X.outer
noncomputable def Tm (sc:Scope) (x:Str):Prop:=sc.names.lookup x=some .local\/sc.names.lookup x=some .cell\/sc.names.lookup x=some .free
noncomputable def Tt (sc:Scope) (x:Str):Prop:=sc.names.lookup x=some .local\/sc.names.lookup x=some .cell
noncomputable def Look (env:Env) (h:Heap) (m:Str->Option Value) (x:Str) (u:Value):Prop :=
 (env.kindOf x=some .local/\m x=some u)\/((env.kindOf x=some .cell\/env.kindOf x=some .free)/\∃ c,env.cells.lookup x=some c/\h.IsCell c (some u))
structure Cx.Ok (X:Cx):Prop where
 mod:Mod X.K X.mg X.base
 kind:X.env.scope.kind=.function
 glob:X.env.globals=mainGlobals
 blt:X.env.builtins=builtinsNs
 above:X.s_0.heap.objs.size<=X.env.locals
 inj:∀ x y c,X.env.cells.lookup x=some c->X.env.cells.lookup y=some c->x=y
 has:∀ x,(X.env.kindOf x=some .cell\/X.env.kindOf x=some .free)->∃ c,X.env.cells.lookup x=some c
 cab:∀ x c,X.fn x=true->X.env.cells.lookup x=some c->X.s_0.heap.objs.size<=c
 hd:X.calm=true->X.A.handled=none
 frames:X.A.frames=some X.stack
 stk:X.stack=X.outer\/(X.stack=X.env::X.outer/\X.env.frame=some X.env.locals)
 exf:∀ b∈X.ex,b≠X.env.locals/\∀ x c,X.env.cells.lookup x=some c->c≠b
 bs:∀ b o,X.base.get? b=some o->X.s_0.heap.get? b=some o/\X.H_0 b=none
 bsz:X.base.objs.size<=X.s_0.heap.objs.size
 noex:∀ b o,X.base.get? b=some o->b∉X.ex
 exfs:∀ b∈X.ex,b∉X.fs
 funs:X.s_0.heap.FunFrames X.base X.outer
 frf:∀ b∈X.fs,X.H_0 b=none
structure Inv (X:Cx) (pins:List (Addr×Obj)) (σ:List (Option V)) (H:Hp) (s:Shared):Prop where
 ok:X.Ok
 os:s.os=X.s_0.os
 bare:AllBare s.gens
 base:Un X.fs X.ex X.H_0 H X.s_0.heap s.heap
 loc:∃ m,s.heap.Ns X.env.locals m/\∀ (i:Nat) (x:Str) (v:V),X.N[i]?=some x->σ[i]?=some (some v)->Tm X.env.scope x->∃ u,RelV v u/\Look X.env s.heap m x u
 cell:∀ x c,X.env.cells.lookup x=some c->∃ v,s.heap.IsCell c v
 free:H X.env.locals=none
 freeC:∀ x c,X.env.cells.lookup x=some c->H c=none
 pin:∀ p∈X.pn++pins,s.heap.get? p.1=some p.2/\H p.1=none/\p.1≠X.env.locals/\p.1∉X.fs/\∀ v,p.2.data≠.cell v
 hok:HOk X.prog X.w H s.heap
 len:σ.length=X.N.length
section
variable {X:Cx} {pins:List (Addr×Obj)} {σ:List (Option V)} {H H':Hp} {s:Shared} {h':Heap}
theorem Cx.Ok.nofr (ok:X.Ok) {b:Addr} {o:Obj} (e:X.base.get? b=some o):b∉X.fs:=fun hb=>by
 have:=(ok.funs.mem hb).1
 rw [e] at this;cases this
theorem Inv.bs (I:Inv X pins σ H s):∀ b o,X.base.get? b=some o->s.heap.get? b=some o/\H b=none:=fun b o e =>
 ⟨I.base.keep b o (I.ok.bs b o e).1 (I.ok.bs b o e).2 (I.ok.nofr e) (I.ok.noex b o e),I.base.free b o (I.ok.bs b o e).1 (I.ok.bs b o e).2 (I.ok.noex b o e)⟩
theorem Inv.bk (I:Inv X pins σ H s):∀ b o,X.base.get? b=some o->s.heap.get? b=some o:=fun b o e=>(I.bs b o e).1
theorem Inv.mod (I:Inv X pins σ H s):Mod X.K X.mg X.base:=I.ok.mod
theorem Inv.kIn (I:Inv X pins σ H s):X.K.In s.heap:=I.ok.mod.kin.keeps I.bk
theorem Inv.fr (I:Inv X pins σ H s):∃ m,Fr X.base X.env.locals s.heap m :=
 let ⟨m,hn,_⟩:=I.loc
 ⟨m,hn,I.bk,Nat.le_trans I.ok.bsz I.ok.above⟩
theorem Inv.lt (I:Inv X pins σ H s):X.env.locals<s.heap.objs.size:=let ⟨_,hn,_⟩:=I.loc;hn.lt
theorem Inv.sz (I:Inv X pins σ H s):X.s_0.heap.objs.size<=s.heap.objs.size:=Nat.le_trans I.ok.above (Nat.le_of_lt I.lt)
theorem Inv.nofs (I:Inv X pins σ H s) {a:Addr} (h:s.heap.objs.size<=a):a∉X.fs:=fun hb=>by
 obtain ⟨_,o,ho,_⟩:=I.ok.funs.mem hb
 exact absurd (Nat.lt_of_lt_of_le (Heap.lt_size ho) (Nat.le_trans I.sz h)) (Nat.lt_irrefl _)
theorem Inv.cne (I:Inv X pins σ H s):∀ x c,X.env.cells.lookup x=some c->c≠X.env.locals:=fun x c e z=>by
 obtain ⟨v,o,ho,hd⟩:=I.cell x c e
 obtain ⟨m,⟨o',es,ep,ho',hd',_⟩,_⟩:=I.loc
 rw [z,ho'] at ho;cases ho;rw [hd'] at hd;cases hd
theorem Inv.funs (I:Inv X pins σ H s):s.heap.FunFrames X.base X.outer:=by
 have all:∀ (l:List Env),(∀ b∈frs l,b∈X.fs)->X.s_0.heap.FunFrames X.base l->s.heap.FunFrames X.base l:=by
  intro l
  induction l with
  | nil=>intro _ _;trivial
  | cons env r ih =>
   intro hs hl
   obtain ⟨hk,⟨L,o,hf,hn,ho,hd⟩,hr⟩:=hl
   have hL:L∈X.fs:=hs L (by unfold frs;rw [List.filterMap_cons,hf];exact List.mem_cons_self)
   obtain ⟨sl,e⟩:=I.base.slot L o ho (I.ok.frf L hL) hL fun z=>I.ok.exfs L z hL
   exact ⟨hk,⟨L,_,hf,hn,e,hd⟩,ih (fun b hb=>hs b (by unfold frs;rw [List.filterMap_cons,hf];exact List.mem_cons_of_mem _ hb)) hr⟩
 exact all X.outer (fun _ hb=>hb) I.ok.funs
theorem Inv.stack (I:Inv X pins σ H s):s.heap.FunFrames X.base X.stack:=by
 rcases I.ok.stk with e | ⟨e,hf⟩
 .rw [e];exact I.funs
 .rw [e]
  obtain ⟨m,hn,_⟩:=I.loc
  refine .cons (by rw [I.ok.kind];decide) hf hn ?_ I.funs
  exact Heap.get?_none_of_le (Nat.le_trans I.ok.bsz I.ok.above)
theorem Inv.stkSub (I:Inv X pins σ H s):∀ b∈frs X.stack,b∈X.env.locals::X.fs:=fun b hb=>by
 rcases I.ok.stk with e | ⟨e,hf⟩
 .rw [e] at hb;exact List.mem_cons_of_mem _ hb
 .rw [e] at hb
  unfold frs at hb
  rw [List.filterMap_cons,hf] at hb
  exact hb
theorem Inv.stkFree (I:Inv X pins σ H s):∀ b∈frs X.stack,H b=none:=fun b hb=>by
 rcases List.mem_cons.mp (I.stkSub b hb) with e | hb
 .rw [e];exact I.free
 .obtain ⟨_,o,ho,_⟩:=I.ok.funs.mem hb
  exact I.base.free b o ho (I.ok.frf b hb) fun z=>I.ok.exfs b z hb
theorem Inv.step {g':Array GenState} {t':Nat} {d':Drawn} {ch:List Addr} (I:Inv X pins σ H s)
  (hch:∀ b∈ch,(b∈X.ex\/X.s_0.heap.objs.size<=b)/\b≠X.env.locals/\(∀ x c,X.env.cells.lookup x=some c->c≠b)/\∀ p∈X.pn++pins,p.1≠b)
  (keep:∀ b o,b≠X.env.locals->b∉X.fs->b∉ch->s.heap.get? b=some o->H b=none->h'.get? b=some o)
  (slot:∀ b o,b≠X.env.locals->b∈X.fs->b∉ch->s.heap.get? b=some o->H b=none->∃ sl,h'.get? b=some { o with slots:=sl }) (free:∀ b o,b∉ch->s.heap.get? b=some o->H b=none->H' b=none)
  (there:∀ b o,b∉ch->s.heap.get? b=some o->∃ o',h'.get? b=some o')
  (tups:∀ b xs,H b=some (.tup xs)->H' b=some (.tup xs)) (frzs:∀ b o u,H b=some (.frz o u)->H' b=some (.frz o u)) (tbls:∀ b ps,H b=some (.tbl ps)->∃ more,H' b=some (.tbl (ps++more)))
  (ns:∀ m,s.heap.Ns X.env.locals m->h'.Ns X.env.locals m) (hok:HOk X.prog X.w H' h') (hg:AllBare g') :
  Inv X pins σ H' { s with heap:=h',gens:=g',drawn:=d',toks:=t' }:=by
 have neL:∀ b o,X.s_0.heap.get? b=some o->b≠X.env.locals:=fun b o e=>Nat.ne_of_lt (Nat.lt_of_lt_of_le (Heap.lt_size e) I.ok.above)
 have neC:∀ b o,X.s_0.heap.get? b=some o->b∉X.ex->b∉ch:=fun b o e hx hb=>by
  rcases (hch b hb).1 with z | z
  .exact hx z
  .exact absurd (Nat.lt_of_lt_of_le (Heap.lt_size e) z) (Nat.lt_irrefl _)
 have cellK:∀ x c,X.env.cells.lookup x=some c->∀ v,s.heap.IsCell c v->h'.IsCell c v:=fun x c e v ⟨o,ho,hd⟩=>by
  have nch:c∉ch:=fun z=>(hch c z).2.2.1 x c e rfl
  by_cases hc:c∈X.fs
  .obtain ⟨sl,q⟩:=slot c o (I.cne x c e) hc nch ho (I.freeC x c e)
   exact ⟨_,q,hd⟩
  .exact ⟨o,keep c o (I.cne x c e) hc nch ho (I.freeC x c e),hd⟩
 refine ⟨I.ok,I.os,hg,⟨fun b o e n hb hx=>?_,fun b o e n hb hx=>?_,fun b o e n hx=>?_,fun b o e hx=>?_,fun b xs e=>tups b xs (I.base.tups b xs e),fun b o xs e=>frzs b o xs (I.base.frzs b o xs e),fun b ps e=>?_⟩,?_,fun x c e=>?_,?_,fun x c e=>?_,fun p hp=>?_,hok,I.len⟩
 .exact keep b o (neL b o e) hb (neC b o e hx) (I.base.keep b o e n hb hx) (I.base.free b o e n hx)
 .obtain ⟨sl,e1⟩:=I.base.slot b o e n hb hx
  obtain ⟨sl',e2⟩:=slot b _ (neL b o e) hb (neC b o e hx) e1 (I.base.free b o e n hx)
  exact ⟨sl',e2⟩
 .obtain ⟨o',e1⟩:=I.base.there b o e hx
  exact free b o' (neC b o e hx) e1 (I.base.free b o e n hx)
 .obtain ⟨o',e1⟩:=I.base.there b o e hx
  exact there b o' (neC b o e hx) e1
 .obtain ⟨m1,e1⟩:=I.base.tbls b ps e
  obtain ⟨m2,e2⟩:=tbls b _ e1
  exact ⟨m1++m2,by rw [e2,Array.append_assoc]⟩
 .obtain ⟨m,hn,hl⟩:=I.loc
  refine ⟨m,ns m hn,fun i x v e1 e2 e3=>?_⟩
  obtain ⟨u,r,l⟩:=hl i x v e1 e2 e3
  refine ⟨u,r,?_⟩
  rcases l with l | ⟨k,c,e,z⟩
  .exact .inl l
  .exact .inr ⟨k,c,e,cellK x c e _ z⟩
 .obtain ⟨v,z⟩:=I.cell x c e
  exact ⟨v,cellK x c e v z⟩
 .obtain ⟨m,⟨o,_,_,ho,_⟩,_⟩:=I.loc
  exact free _ o (fun z=>(hch _ z).2.1 rfl) ho I.free
 .obtain ⟨v,o,ho,hd⟩:=I.cell x c e
  exact free c o (fun z=>(hch c z).2.2.1 x c e rfl) ho (I.freeC x c e)
 .obtain ⟨e,n,ne,nf,d⟩:=I.pin p hp
  have nch:p.1∉ch:=fun z=>(hch p.1 z).2.2.2 p hp rfl
  exact ⟨keep p.1 p.2 ne nf nch e n,free p.1 p.2 nch e n,ne,nf,d⟩
theorem Inv.un {t':Nat} (I:Inv X pins σ H s) (u:Un X.fs [] H H' s.heap h') (hok:HOk X.prog X.w H' h'):Inv X pins σ H' { s with heap:=h',toks:=t' }:=by
 obtain ⟨m,⟨o,es,ep,ho,r⟩,_⟩:=id I.loc
 obtain ⟨sl,hL⟩:=u.any ho I.free (by simp)
 exact I.step (g':=s.gens) (d':=s.drawn) (ch:=[]) (fun _ z=>nomatch z) (fun b o _ hb _ e n=>u.keep b o e n hb (by simp)) (fun b o _ hb _ e n=>u.slot b o e n hb (by simp)) (fun b o _ e n=>u.free b o e n (by simp)) (fun b o _ e=>u.there b o e (by simp)) u.tups u.frzs u.tbls (fun m' hm=>by
  obtain ⟨o',es',ep',ho',r'⟩:=hm
  rw [ho] at ho';cases ho'
  exact ⟨_,es',ep',hL,r'⟩) hok I.bare
theorem Inv.call {g':Array GenState} {t':Nat} {d':Drawn} {ch:List Addr} (I:Inv X pins σ H s) (u:Un (frs X.stack) ch H H' s.heap h') (hok:HOk X.prog X.w H' h') (hg:AllBare g')
  (hch:∀ b∈ch,(b∈X.ex\/X.s_0.heap.objs.size<=b)/\b≠X.env.locals/\(∀ x c,X.env.cells.lookup x=some c->c≠b)/\∀ p∈X.pn++pins,p.1≠b) :
  Inv X pins σ H' { s with heap:=h',gens:=g',drawn:=d',toks:=t' }:=by
 obtain ⟨m,⟨o,es,ep,ho,r⟩,_⟩:=id I.loc
 obtain ⟨sl,hL⟩:=u.any ho I.free fun z=>(hch _ z).2.1 rfl
 exact I.step (ch:=ch) hch (fun b o hL hb hc e n=>u.keep b o e n (fun z=>(List.mem_cons.mp (I.stkSub b z)).elim hL hb) hc) (fun b o _ _ hc e n=>u.any e n hc) (fun b o hc e n=>u.free b o e n hc) (fun b o hc e=>u.there b o e hc) u.tups u.frzs u.tbls (fun m' hm=>by
  obtain ⟨o',es',ep',ho',r'⟩:=hm
  rw [ho] at ho';cases ho'
  exact ⟨_,es',ep',hL,r'⟩) hok hg
theorem Inv.turned {t':Nat} {it:Addr} (I:Inv X pins σ H s) (k:∀ b o,b≠it->s.heap.get? b=some o->h'.get? b=some o) (hn:H it=none) (hL:it≠X.env.locals)
  (h1:it∈X.ex\/X.s_0.heap.objs.size<=it) (h2:∀ x c,X.env.cells.lookup x=some c->c≠it) (h3:∀ p∈X.pn++pins,p.1≠it):Inv X pins σ H { s with heap:=h',toks:=t' }:=by
 have nit:∀ b u,H b=some u->b≠it:=fun b u e z=>by rw [z,hn] at e;cases e
 refine I.step (g':=s.gens) (d':=s.drawn) (ch:=[it]) (fun b hb=>?_) (fun b o _ _ hc e _=>k b o (fun z=>hc (by simp [z])) e) (fun b o _ _ hc e _=>⟨o.slots,k b o (fun z=>hc (by simp [z])) e⟩) (fun _ _ _ _ n=>n)
  (fun b o hc e=>⟨o,k b o (fun z=>hc (by simp [z])) e⟩) (fun _ _ e=>e) (fun _ _ _ e=>e) (fun b ps e=>⟨#[],by rw [e];simp⟩) (fun m hm=>?_) (fun b u e=>?_) I.bare
 .have e:b=it:=by simpa using hb
  subst e
  exact ⟨h1,hL,h2,h3⟩
 .obtain ⟨o,es,ep,ho,r⟩:=hm
  exact ⟨o,es,ep,k _ o (Ne.symm hL) ho,r⟩
 .refine (I.hok b u e).stay (fun c v hc q=>k c v ?_ q) (fun _ q=>q) fun _ _ q=>q
  rcases hc with z | z
  .rw [z];exact nit b u e
  .exact nit c _ z
theorem Inv.tok (I:Inv X pins σ H s) (t:Nat):Inv X pins σ H { s with toks:=t }:=I.un (h':=s.heap) (t':=t) Un.refl I.hok
theorem Inv.kept {t':Nat} (I:Inv X pins σ H s) (k:∀ b u,s.heap.get? b=some u->h'.get? b=some u):Inv X pins σ H { s with heap:=h',toks:=t' }:=I.un (Un.kept k) (I.hok.kept k)
theorem Inv.laid {a:Addr} {o:HO} {t':Nat} (I:Inv X pins σ H s) (k:∀ b u,s.heap.get? b=some u->h'.get? b=some u) (hp:s.heap.objs.size<=a) (new:ObjOk X.prog X.w (upd H a o) h' a o) :
  Inv X pins σ (upd H a o) { s with heap:=h',toks:=t' }:=I.un (Un.laid k hp (I.hok.fresh hp)) (I.hok.laid k hp new)
theorem Inv.write {x e:Addr} {o:HO} {t':Nat} (I:Inv X pins σ H s) (mu:U1 (H x)) (he:e=x\/H e=some (.own x)) (k:∀ b u,b≠e->s.heap.get? b=some u->h'.get? b=some u) (heo:∃ u,h'.get? e=some u)
  (new:ObjOk X.prog X.w (upd H x o) h' x o):Inv X pins σ (upd H x o) { s with heap:=h',toks:=t' }:=I.un (Un.write mu he k heo) (I.hok.write mu he k heo new)
theorem Inv.weak {σ':List (Option V)} (I:Inv X pins σ H s) (hl:σ'.length=σ.length) (w:∀ (i:Nat) v,σ'[i]?=some (some v)->σ[i]?=some (some v)):Inv X pins σ' H s :=
 ⟨I.ok,I.os,I.bare,I.base,let ⟨m,hn,hl'⟩:=I.loc;⟨m,hn,fun i x v e1 e2 e3=>hl' i x v e1 (w i v e2) e3⟩,I.cell,I.free,I.freeC,I.pin,I.hok,hl.trans I.len⟩
theorem Inv.pins_of {pins':List (Addr×Obj)} (I:Inv X pins σ H s) (h:∀ p∈pins',s.heap.get? p.1=some p.2/\H p.1=none/\p.1≠X.env.locals/\p.1∉X.fs/\∀ v,p.2.data≠.cell v):Inv X pins' σ H s :=
 ⟨I.ok,I.os,I.bare,I.base,I.loc,I.cell,I.free,I.freeC,fun p hp=>(List.mem_append.mp hp).elim (fun z=>I.pin p (List.mem_append_left _ z)) (h p),I.hok,I.len⟩
theorem JP {N:List Str} (hN:N.Nodup) {i j:Nat} {x:Str} (a:N[i]?=some x) (b:N[j]?=some x):i=j:=by
 obtain ⟨h1,e1⟩:=ZB.mp a
 obtain ⟨h2,e2⟩:=ZB.mp b
 exact (List.getElem_inj hN).mp (e1.trans e2.symm)
theorem Kv {M:Model} {A:Around} {E:Value->Shared->Prop} {i:Nat} {x:Str} {v:V} {u:Value} {Q:Unit->Shared->Prop} (I:Inv X pins σ H s) (hN:X.N.Nodup) (hi:X.N[i]?=some x) (hx:Tt X.env.scope x) (r:RelV v u)
  (h:∀ s',Inv X pins (σ.set i (some v)) H s'->(∃ a,Heap.SameBut a s.heap s'.heap/\(a=X.env.locals\/X.env.cells.lookup x=some a))->Q () s') (hf:X.fn x=true\/X.env.scope.names.lookup x=some .local:=by first | exact .inl rfl | exact .inr rfl | assumption):wpAny M A (storeName X.env x u) Q E s:=by
 obtain ⟨m,hn,hl⟩:=id I.loc
 have hcls:(X.env.scope.kind==.class || (X.env.scope.kind==.module && X.env.locals != X.env.globals))=false:=by rw [I.ok.kind];rfl
 have hiσ:i<σ.length:=by rw [I.len];exact (ZB.mp hi).1
 have cne:=I.cne
 have tracked:∀ {a:Addr} {h':Heap},(∃ o,s.heap.get? a=some o/\H a=none)->Heap.SameBut a s.heap h'->HOk X.prog X.w H h':=fun {a h'} ha hs b ob e=>by
  obtain ⟨_,_,hfree⟩:=ha
  refine (I.hok b ob e).stay (fun c w' hc q=>(hs.2 c ?_).trans q) (fun _ q=>q) fun _ _ q=>q
  rintro rfl
  rcases hc with rfl | hc
  .rw [hfree] at e;cases e
  .rw [hfree] at hc;cases hc
 rcases hx with hk | hk
 .refine wpAny_storeName_local hk hn (fun h' hn' hs=>?_) hcls
  obtain ⟨oL,_,_,hoL,_⟩:=id hn
  refine h _ ⟨I.ok,I.os,I.bare,⟨fun b o e n hb hx=>?_,fun b o e n hb hx=>?_,I.base.free,fun b o e hx=>?_,I.base.tups,I.base.frzs,I.base.tbls⟩,⟨_,hn',fun j y v' e1 e2 e3=>?_⟩,fun y c e=>?_,I.free,I.freeC,fun p hp=>?_,tracked ⟨oL,hoL,I.free⟩ hs,by simpa using I.len⟩ ⟨_,hs,.inl rfl⟩
  .exact (hs.2 b (Nat.ne_of_lt (Nat.lt_of_lt_of_le (Heap.lt_size e) I.ok.above))).trans (I.base.keep b o e n hb hx)
  .obtain ⟨sl,e1⟩:=I.base.slot b o e n hb hx
   exact ⟨sl,(hs.2 b (Nat.ne_of_lt (Nat.lt_of_lt_of_le (Heap.lt_size e) I.ok.above))).trans e1⟩
  .obtain ⟨o',e1⟩:=I.base.there b o e hx
   exact ⟨o',(hs.2 b (Nat.ne_of_lt (Nat.lt_of_lt_of_le (Heap.lt_size e) I.ok.above))).trans e1⟩
  .by_cases hj:j=i
   .subst hj
    rw [hi] at e1;cases e1
    rw [List.getElem?_set_self hiσ] at e2
    cases e2
    exact ⟨u,r,.inl ⟨hk,by simp⟩⟩
   .rw [List.getElem?_set_ne (Ne.symm hj)] at e2
    obtain ⟨u',r',q⟩:=hl j y v' e1 e2 e3
    refine ⟨u',r',?_⟩
    rcases q with ⟨k,e⟩ | ⟨k,c,e,z⟩
    .refine .inl ⟨k,?_⟩
     have:y≠x:=fun e=>hj (JP hN e1 (e▸hi))
     simp [this,e]
    .exact .inr ⟨k,c,e,z.sameBut hs (cne y c e)⟩
  .obtain ⟨w',z⟩:=I.cell y c e
   exact ⟨w',z.sameBut hs (cne y c e)⟩
  .obtain ⟨e,n,ne,nf,d⟩:=I.pin p hp
   exact ⟨(hs.2 p.1 ne).trans e,n,ne,nf,d⟩
 .have hfn:X.fn x=true:=by
   rcases hf with z | z
   .exact z
   .rw [z] at hk;cases hk
  obtain ⟨c,hc⟩:=I.ok.has x (.inl hk)
  obtain ⟨w',z⟩:=I.cell x c hc
  refine wpAny_storeName_cell I.ok.kind hk hc z (fun h' hc' hs=>?_)
  obtain ⟨oc,hoc,hocd⟩:=id z
  refine h { s with heap:=h' } ⟨I.ok,I.os,I.bare,⟨fun b o e n hb hx=>?_,fun b o e n hb hx=>?_,I.base.free,fun b o e hx=>?_,I.base.tups,I.base.frzs,I.base.tbls⟩,⟨m,hn.sameBut hs (Ne.symm (cne x c hc)),fun j y v' e1 e2 e3=>?_⟩,fun y c' e=>?_,I.free,I.freeC,fun p hp=>?_,tracked ⟨oc,hoc,I.freeC x c hc⟩ hs,by simpa using I.len⟩ ⟨c,hs,.inr hc⟩
  .exact (hs.2 b (Nat.ne_of_lt (Nat.lt_of_lt_of_le (Heap.lt_size e) (I.ok.cab x c hfn hc)))).trans (I.base.keep b o e n hb hx)
  .obtain ⟨sl,e1⟩:=I.base.slot b o e n hb hx
   exact ⟨sl,(hs.2 b (Nat.ne_of_lt (Nat.lt_of_lt_of_le (Heap.lt_size e) (I.ok.cab x c hfn hc)))).trans e1⟩
  .obtain ⟨o',e1⟩:=I.base.there b o e hx
   exact ⟨o',(hs.2 b (Nat.ne_of_lt (Nat.lt_of_lt_of_le (Heap.lt_size e) (I.ok.cab x c hfn hc)))).trans e1⟩
  .by_cases hj:j=i
   .subst hj
    rw [hi] at e1;cases e1
    rw [List.getElem?_set_self hiσ] at e2
    cases e2
    exact ⟨u,r,.inr ⟨.inl hk,c,hc,hc'⟩⟩
   .rw [List.getElem?_set_ne (Ne.symm hj)] at e2
    obtain ⟨u',r',q⟩:=hl j y v' e1 e2 e3
    refine ⟨u',r',?_⟩
    rcases q with q | ⟨k,c',e,z'⟩
    .exact .inl q
    .refine .inr ⟨k,c',e,z'.sameBut hs ?_⟩
     rintro rfl
     exact hj (JP hN e1 (I.ok.inj _ _ _ e hc▸hi))
  .by_cases hcc:c'=c
   .subst hcc;exact ⟨_,hc'⟩
   .obtain ⟨w2,z2⟩:=I.cell y c' e
    exact ⟨w2,z2.sameBut hs hcc⟩
  .obtain ⟨e,n,ne,nf,d⟩:=I.pin p hp
   refine ⟨(hs.2 p.1 ?_).trans e,n,ne,nf,d⟩
   intro q
   rw [q,hoc] at e
   have q':oc=p.2:=ZC e
   exact d w' (by rw [<-q'];exact hocd)
theorem JK {M:Model} {A:Around} {E:Value->Shared->Prop} {i:Nat} {x:Str} {v:V} {u:Value} {Q:Unit->Shared->Prop} (I:Inv X pins σ H s) (hN:X.N.Nodup) (hi:X.N[i]?=some x) (hx:Tt X.env.scope x) (r:RelV v u)
  (h:∀ s',Inv X pins (σ.set i (some v)) H s'->Q () s') (hf:X.fn x=true\/X.env.scope.names.lookup x=some .local:=by first | exact .inl rfl | exact .inr rfl | assumption):wpAny M A (storeName X.env x u) Q E s :=
 Kv I hN hi hx r (fun s' I' _=>h s' I') hf
theorem Inv.call' {s':Shared} {ch:List Addr} (I:Inv X pins σ H s) (ho:s'.os=s.os) (u:Un (frs X.stack) ch H H' s.heap s'.heap) (hok:HOk X.prog X.w H' s'.heap) (hg:AllBare s'.gens)
  (hch:∀ b∈ch,(b∈X.ex\/X.s_0.heap.objs.size<=b)/\b≠X.env.locals/\(∀ x c,X.env.cells.lookup x=some c->c≠b)/\∀ p∈X.pn++pins,p.1≠b):Inv X pins σ H' s':=by
 obtain ⟨h',g',d',t',o'⟩:=s'
 have e:o'=s.os:=ho
 subst e
 exact I.call (g':=g') (t':=t') (d':=d') u hok hg hch
end
abbrev XK:=Value->Option Addr->Hp->Prop
abbrev St:=List (Option V)
abbrev VK:=V->Hp->Prop
abbrev TE:=St->Hp->VK->Prop
abbrev TT:=St->Hp->(Bool->Hp->Prop)->Prop
abbrev TA:=St->Hp->(List V->Hp->Prop)->Prop
structure HW where
 nx:St->Hp->Prop
 rt:VK
 bk:St->Hp->Prop:=fun _ _=>False
 ct:St->Hp->Prop:=fun _ _=>False
abbrev TS:=HW->St->Hp->Prop
noncomputable def EP (X:Cx) (pins:List (Addr×Obj)) (σ:St) (Q:VK) (u:Value) (s':Shared):Prop:=∃ v H',Inv X pins σ H' s'/\RelV v u/\Q v H'
noncomputable def TP (X:Cx) (pins:List (Addr×Obj)) (σ:St) (Q:Bool->Hp->Prop) (b:Bool) (s':Shared):Prop:=∃ H',Inv X pins σ H' s'/\Q b H'
noncomputable def AP (X:Cx) (pins:List (Addr×Obj)) (σ:St) (Q:List V->Hp->Prop) (us:List Value) (s':Shared):Prop:=∃ vs H',Inv X pins σ H' s'/\Vals vs us/\Q vs H'
noncomputable def SP (X:Cx) (pins:List (Addr×Obj)) (D:HW) (f:Flow) (s':Shared):Prop :=
 match f with
 | .next=>∃ σ' H',Inv X pins σ' H' s'/\D.nx σ' H'
 | .brk=>∃ σ' H',Inv X pins σ' H' s'/\D.bk σ' H'
 | .cont=>∃ σ' H',Inv X pins σ' H' s'/\D.ct σ' H'
 | .ret u=>∃ v σ' H',Inv X pins σ' H' s'/\RelV v u/\D.rt v H'
noncomputable def PE (X:Cx) (e:Expr) (t:TE):Prop :=
 ∀ (pins:List (Addr×Obj)) (s:Shared) (σ:St) (H:Hp) (Q:VK),Inv X pins σ H s->t σ H Q->wpAny (model X.prog X.w) X.A (eval e X.env) (EP X pins σ Q) X.xe s
noncomputable def PT (X:Cx) (e:Expr) (t:TT):Prop :=
 ∀ (pins:List (Addr×Obj)) (s:Shared) (σ:St) (H:Hp) (Q:Bool->Hp->Prop),Inv X pins σ H s->t σ H Q->wpAny (model X.prog X.w) X.A (isTrue e X.env (eval e X.env)) (TP X pins σ Q) X.xe s
noncomputable def PW (X:Cx) (e:Expr) (t:TT):Prop :=
 ∀ (whole:Sem Value) (pins:List (Addr×Obj)) (s:Shared) (σ:St) (H:Hp) (Q:Bool->Hp->Prop),Inv X pins σ H s->t σ H Q->wpAny (model X.prog X.w) X.A (isTrue e X.env whole) (TP X pins σ Q) X.xe s
theorem PW.pt {X:Cx} {e:Expr} {t:TT} (h:PW X e t):PT X e t:=h _
noncomputable def PA (X:Cx) (es:List Expr) (t:TA):Prop :=
 ∀ (pos:Pos) (pins:List (Addr×Obj)) (s:Shared) (σ:St) (H:Hp) (Q:List V->Hp->Prop),Inv X pins σ H s->t σ H Q->wpAny (model X.prog X.w) X.A (spliced (backTo pos (starEach es X.env))) (AP X pins σ Q) X.xe s
noncomputable def PS (X:Cx) (st:Stmt) (t:TS):Prop :=
 ∀ (pins:List (Addr×Obj)) (s:Shared) (σ:St) (H:Hp) (D:HW),Inv X pins σ H s->t D σ H->wpAny (model X.prog X.w) X.A (exec st X.env) (SP X pins D) X.xe s
noncomputable def PSs (X:Cx) (st:List Stmt) (t:TS):Prop :=
 ∀ (pins:List (Addr×Obj)) (s:Shared) (σ:St) (H:Hp) (D:HW),Inv X pins σ H s->t D σ H->wpAny (model X.prog X.w) X.A (execs st X.env) (SP X pins D) X.xe s
theorem B7 {α:Type} {t:Sem α} {Q Q':α->Shared->Prop} {M:Model} {A:Around} {E:Value->Shared->Prop} {s:Shared} (h:wpAny M A t Q E s) (hQ:∀ a s,Q a s->Q' a s):wpAny M A t Q' E s:=wpAny_mono h hQ fun _ _ x=>x
end L2
namespace L2
open PySem PySem.Spec PyProof.Rows
section
variable {X:Cx}
theorem Vj {a b:Expr} {ta tb:TE} (ha:PE X a ta) (hb:PE X b tb) {pins:List (Addr×Obj)} {s:Shared} {σ:St} {H:Hp} {R:V->V->Hp->Prop} (I:Inv X pins σ H s) (h:ta σ H fun x H1=>tb σ H1 fun y H2=>R x y H2)
  {α:Type} {Q:α->Shared->Prop} {f:Value->Value->Sem α}
  (hf:∀ v u s2 x y H2,Inv X pins σ H2 s2->RelV x v->RelV y u->R x y H2->wpAny (model X.prog X.w) X.A (f v u) Q X.xe s2) :
  wpAny (model X.prog X.w) X.A (eval a X.env) (fun v s₁=>wpAny (model X.prog X.w) X.A (eval b X.env) (fun u s₂=>wpAny (model X.prog X.w) X.A (f v u) Q X.xe s₂) X.xe s₁) X.xe s:=by
 refine B7 (ha pins s σ H _ I h) fun v s1 ⟨x,H1,I1,r1,q1⟩=>?_
 refine B7 (hb pins s1 σ H1 _ I1 q1) fun u s2 ⟨y,H2,I2,r2,q2⟩=>?_
 exact hf v u s2 x y H2 I2 r1 r2 q2
noncomputable def UZ (i:Nat):TE:=fun σ H Q=>∃ v,σ[i]?=some (some v)/\Q v H
noncomputable def tC (v:V):TE:=fun _ H Q=>Q v H
theorem T1 {i:Nat} {x:Str} {pos:Pos} (hN:X.N[i]?=some x) (hv:Tm X.env.scope x) (hd:(x==("__debug__" : Str))=false:=by decide) (hcd:(x==("__classdict__" : Str))=false:=by decide):PE X (.Name x pos) (UZ i):=by
 intro pins s σ H Q I h
 obtain ⟨v,e,h⟩:=h
 obtain ⟨m,hn,hl⟩:=I.loc
 obtain ⟨u,r,l⟩:=hl i x v hN e hv
 have fin:EP X pins σ Q u s:=⟨v,H,I,r,h⟩
 rcases l with ⟨hk,hm⟩ | ⟨hk,c,hc,hcell⟩
 .exact wpAny_Name (wpAny_loadName_local I.ok.kind hk hn hm fin) hd
 .rcases hk with hk | hk
  .exact wpAny_Name (wpAny_loadName_cell I.ok.kind hk hc hcell fin) hd
  .exact wpAny_Name (wpAny_loadName_free I.ok.kind hk hc hcell fin hcd) hd
theorem A7 {i j pos}:PE X (.Constant (.int i) j pos) (tC (.int i)):=fun _ _ _ H _ I h=>wpAny_Constant_int ⟨.int i,H,I.tok _,⟨_,rfl⟩,h⟩
theorem OH {b j pos}:PE X (.Constant (.bool b) j pos) (tC (.bl b)):=fun _ _ _ H _ I h=>Constant_bool ⟨.bl b,H,I,rfl,h⟩
theorem BG {j pos}:PE X (.Constant .none j pos) (tC .non):=fun _ _ _ H _ I h=>Constant_none ⟨.non,H,I,rfl,h⟩
noncomputable def Gl (X:Cx) (x:Str):Prop:=X.env.kindOf x=some .globalImplicit
theorem Ix {E:Value->Shared->Prop} {pins:List (Addr×Obj)} {s:Shared} {σ:St} {H:Hp} {x:Str} {u:Value} {pos:Pos} {Q:Value->Shared->Prop} (I:Inv X pins σ H s) (hg:Gl X x) (hm:X.mg x=some u) (h:Q u s)
  (hd:(x==("__debug__" : Str))=false:=by decide):wpAny (model X.prog X.w) X.A (eval (.Name x pos) X.env) Q E s :=
 Calls.Name_function_global I.ok.kind hg (Calls.loadGlobal_global (by rw [I.ok.glob];exact I.mod.glob.keeps I.bk) hm h) hd
theorem Ff {E:Value->Shared->Prop} {pins:List (Addr×Obj)} {s:Shared} {σ:St} {H:Hp} {x:Str} {u:Value} {pos:Pos} {Q:Value->Shared->Prop} (I:Inv X pins σ H s) (hg:Gl X x) (hm:X.mg x=none) (hv:bootBuiltins x=some u) (h:Q u s)
  (hn:x ≠ "__name__" := by decide) (hd:(x==("__debug__" : Str))=false:=by decide):wpAny (model X.prog X.w) X.A (eval (.Name x pos) X.env) Q E s:=by
 obtain ⟨mb,h1,h2⟩:=I.mod.blt
 exact Calls.Name_function_global I.ok.kind hg (Calls.loadGlobal_builtin (by rw [I.ok.glob];exact I.mod.glob.keeps I.bk) hm (by rw [I.ok.blt];exact h1.keeps I.bk) ((h2 x hn).trans hv) h) hd
theorem RI {x:Str} {v:V} {u:Value} {pos:Pos} (hg:Gl X x) (hm:X.mg x=some u) (r:RelV v u) (hd:(x==("__debug__" : Str))=false:=by decide):PE X (.Name x pos) (tC v) :=
 fun _ _ _ H _ I h=>Ix I hg hm ⟨v,H,I,r,h⟩ hd
variable {a b:Expr} {ta tb:TE} {pos:Pos}
noncomputable def PC (X:Cx) (op:CmpOp) (a b:Expr) (t:TE):Prop :=
 ∀ (pins:List (Addr×Obj)) (s:Shared) (σ:St) (H:Hp) (Q:VK),Inv X pins σ H s->t σ H Q ->
  wpAny (model X.prog X.w) X.A (eval a X.env) (fun v s₁=>wpAny (model X.prog X.w) X.A (eval b X.env) (fun u s₂=>wpAny (model X.prog X.w) X.A (compareOp op v u) (EP X pins σ Q) X.xe s₂) X.xe s₁) X.xe s
noncomputable def tB (t:TE):TT:=fun σ H Q=>t σ H fun x H1=>∃ c,x=.bl c/\Q c H1
theorem Ti {op:CmpOp} {t:TE} (h:PC X op a b t) (h1:behindInMarks op b=false:=by first | exact nobehind _ (by decide) (by decide) | rfl):PT X (.Compare a [op] [b] pos) (tB t):=by
 intro pins s σ H Q I hw
 refine wpAny_isTrue_Compare1 (B7 (h pins s σ H _ I hw) fun v s1 h1=>B7 h1 fun u s2 h2=>B7 h2 fun c s3 ⟨x,H1,I1,r1,q1⟩=>?_) h1
 obtain ⟨d,rfl,q⟩:=q1
 cases r1
 exact wpAny_truthy_bool ⟨H1,I1,q⟩
theorem As {e:Expr} {t:TE} (h:PE X e t) (he:∀ whole,isTrue e X.env whole=(do let v <-whole;standAt e.pos;holding [v] (truthy v)):=by intro _;rfl):PT X e (tB t):=by
 intro pins s σ H Q I hw
 refine isTrue_plain (B7 (h pins s σ H _ I hw) fun v s1 ⟨x,H1,I1,r1,q1⟩=>?_) (he _)
 obtain ⟨d,rfl,q⟩:=q1
 cases r1
 exact wpAny_truthy_bool ⟨H1,I1,q⟩
variable {tA tB':TT} {rest:List Expr}
noncomputable def VN (t u:TT):TT:=fun σ H Q=>t σ H fun c H1=>if c=true then u σ H1 Q else Q false H1
noncomputable def Vh (t u:TT):TT:=fun σ H Q=>t σ H fun c H1=>if c=true then Q true H1 else u σ H1 Q
noncomputable def Ut (t:TT):TT:=fun σ H Q=>t σ H fun c H1=>Q (!c) H1
theorem DC (ha:PT X a tA):PW X (.BoolOp .And [a] pos) tA:=by
 intro wh pins s σ H Q I h
 refine isTrue_and (B7 (ha pins s σ H Q I h) fun c s1 e=>?_)
 cases c with
 | true=>exact isTrue_and_nil e
 | false=>exact e
theorem GI (ha:PT X a tA):PW X (.BoolOp .Or [a] pos) tA:=by
 intro wh pins s σ H Q I h
 refine isTrue_or (B7 (ha pins s σ H Q I h) fun c s1 e=>?_)
 cases c with
 | false=>exact isTrue_or_nil e
 | true=>exact e
theorem EO (ha:PT X a tA) (hb:PW X (.BoolOp .And (b::rest) pos) tB'):PW X (.BoolOp .And (a::b::rest) pos) (VN tA tB'):=by
 intro wh pins s σ H Q I h
 refine isTrue_and (B7 (ha pins s σ H _ I h) fun c s1 ⟨H1,I1,q1⟩=>?_)
 cases c with
 | true=>exact hb wh pins s1 σ H1 Q I1 q1
 | false=>exact ⟨H1,I1,q1⟩
theorem JQ (ha:PT X a tA) (hb:PW X (.BoolOp .Or (b::rest) pos) tB'):PW X (.BoolOp .Or (a::b::rest) pos) (Vh tA tB'):=by
 intro wh pins s σ H Q I h
 refine isTrue_or (B7 (ha pins s σ H _ I h) fun c s1 ⟨H1,I1,q1⟩=>?_)
 cases c with
 | true=>exact ⟨H1,I1,q1⟩
 | false=>exact hb wh pins s1 σ H1 Q I1 q1
theorem C6 (ha:PT X a tA):PT X (.UnaryOp .Not a pos) (Ut tA):=by
 intro pins s σ H Q I h
 exact isTrue_not (ha pins s σ H (fun c H1=>Q (!c) H1) I h)
noncomputable def U4 (ta tb:TE):TE:=fun σ H Q=>ta σ H fun x H1=>∃ c,x=.bl c/\if c=true then tb σ H1 Q else Q (.bl false) H1
noncomputable def VA (ta tb:TE):TE:=fun σ H Q=>ta σ H fun x H1=>∃ c,x=.bl c/\if c=true then Q (.bl true) H1 else tb σ H1 Q
noncomputable def UX (ta:TE):TE:=fun σ H Q=>ta σ H fun x H1=>∃ c,x=.bl c/\Q (.bl (!c)) H1
theorem Cv {op} {t:TE} (h:PE X a t):PE X (.BoolOp op [a] pos) t:=fun pins s σ H Q I hw=>BoolOp_one (h pins s σ H Q I hw)
theorem FF (ha:PE X a ta) (hb:PE X (.BoolOp .And (b::rest) pos) tb):PE X (.BoolOp .And (a::b::rest) pos) (U4 ta tb):=by
 intro pins s σ H Q I h
 refine BoolOp_and (B7 (ha pins s σ H _ I h) fun v s1 ⟨x,H1,I1,r1,q1⟩=>?_)
 obtain ⟨c,rfl,q1⟩:=q1
 cases r1
 refine wpAny_truthy_bool ?_
 cases c with
 | true=>exact hb pins s1 σ H1 Q I1 q1
 | false=>exact ⟨.bl false,H1,I1,rfl,q1⟩
theorem Ka (ha:PE X a ta) (hb:PE X (.BoolOp .Or (b::rest) pos) tb):PE X (.BoolOp .Or (a::b::rest) pos) (VA ta tb):=by
 intro pins s σ H Q I h
 refine BoolOp_or (B7 (ha pins s σ H _ I h) fun v s1 ⟨x,H1,I1,r1,q1⟩=>?_)
 obtain ⟨c,rfl,q1⟩:=q1
 cases r1
 refine wpAny_truthy_bool ?_
 cases c with
 | false=>exact hb pins s1 σ H1 Q I1 q1
 | true=>exact ⟨.bl true,H1,I1,rfl,q1⟩
theorem TL (ha:PE X a ta):PE X (.UnaryOp .Not a pos) (UX ta):=by
 intro pins s σ H Q I h
 refine UnaryOp_ (B7 (ha pins s σ H _ I h) fun v s1 ⟨x,H1,I1,r1,q1⟩=>?_)
 obtain ⟨c,rfl,q1⟩:=q1
 cases r1
 exact not_of (wpAny_truthy_bool ⟨.bl (!c),H1,I1,rfl,q1⟩)
noncomputable def Vg (t:TT) (ta tb:TE):TE:=fun σ H Q=>t σ H fun c H1=>if c=true then ta σ H1 Q else tb σ H1 Q
theorem Aw {c:Expr} (hc:PT X c tA) (ha:PE X a ta) (hb:PE X b tb):PE X (.IfExp c a b pos) (Vg tA ta tb):=by
 intro pins s σ H Q I h
 refine wpAny_IfExp (B7 (hc pins s σ H _ I h) fun d s1 ⟨H1,I1,q1⟩=>?_)
 cases d with
 | true=>exact ha pins s1 σ H1 Q I1 q1
 | false=>exact hb pins s1 σ H1 Q I1 q1
end
end L2
namespace L2
open PySem PySem.Spec PyProof.Rows
noncomputable def SqL (K:PySem.W.Frag) (H:Hp) (a:Addr) (xs:List V):Prop :=
 Rd H a (.lst xs) \/
  ∃ (o:Obj) (its:Array Value) (n:Nat),K.lookup a=some o/\o.cls=.type "list" /\ o.dict=none/\o.data=.seq its n/\its.size<=sizeLine/\Vals xs its.toList
noncomputable def SqT (K:PySem.W.Frag) (H:Hp) (a:Addr) (xs:List V):Prop :=
 Rd H a (.tup xs) \/
  ∃ (o:Obj) (its:Array Value) (n:Nat),K.lookup a=some o/\o.cls=.type "tuple" /\ o.data=.seq its n/\its.size<=sizeLine/\Vals xs its.toList
noncomputable def V4:Value->Option V
 | .none=>some .non
 | .bool b=>some (.bl b)
 | .int i _=>some (.int i)
 | .str x _=>some (.str x)
 | .bytes b _=>some (.byt b)
 | .float b _=>some (.flt b)
 | .ref a=>some (.ref a)
 | .type n=>some (.ty n)
 | _=>none
theorem RelV.abs {x:V} {u:Value} (r:RelV x u):V4 u=some x:=by
 cases x with
 | non=>cases r;rfl
 | bl _=>cases r;rfl
 | int _=>obtain ⟨t,rfl⟩:=r;rfl
 | str _=>obtain ⟨t,rfl⟩:=r;rfl
 | byt _=>obtain ⟨t,rfl⟩:=r;rfl
 | flt _=>obtain ⟨t,rfl⟩:=r;rfl
 | ref _=>cases r;rfl
 | ty _=>cases r;rfl
theorem RelV.inj {x y:V} {u:Value} (r:RelV x u) (q:RelV y u):x=y:=ZC (r.abs.symm.trans q.abs)
theorem Vals.inj:∀ {xs ys:List V} {us:List Value},Vals xs us->Vals ys us->xs=ys
 | _,_,_,.nil,.nil=>rfl
 | _,_,_,.cons r t,.cons r' t'=>by rw [r.inj r',Vals.inj t t']
section
variable {X:Cx} {pins:List (Addr×Obj)} {σ:St} {H:Hp} {s:Shared} {a:Addr} {xs ys:List V}
theorem SqL.of {K:PySem.W.Frag} (h:H a=some (.lst xs)):SqL K H a xs:=.inl (.inl h)
theorem SqT.of {K:PySem.W.Frag} (h:H a=some (.tup xs)):SqT K H a xs:=.inl (.inl h)
theorem Inv.list (I:Inv X pins σ H s) (h:SqL X.K H a xs):∃ its:List Value,Vals xs its/\PlainL s.heap a its.toArray/\xs.length<=sizeLine:=by
 rcases h with h | ⟨o,its,n,hk,hc,hd,hs,hz,r⟩
 .obtain ⟨z,its,n,r,e⟩:=h.ok I.hok
  exact ⟨its,r,⟨_,n,e,rfl,rfl,rfl⟩,z⟩
 .refine ⟨its.toList,r,⟨o,n,I.kIn a o hk,hc,hd,by simpa using hs⟩,?_⟩
  have e:=r.length
  simp only [Array.length_toList] at e
  omega
theorem Inv.tuple (I:Inv X pins σ H s) (h:SqT X.K H a xs):∃ its:List Value,Vals xs its/\IsTup s.heap a its.toArray/\xs.length<=sizeLine:=by
 rcases h with h | ⟨o,its,n,hk,hc,hs,hz,r⟩
 .obtain ⟨z,its,r,p⟩:=h.ok I.hok
  exact ⟨its,r,p,z⟩
 .refine ⟨its.toList,r,⟨o,I.kIn a o hk,hc,n,by simpa using hs⟩,?_⟩
  have e:=r.length
  simp only [Array.length_toList] at e
  omega
theorem Inv.list_inj (I:Inv X pins σ H s) (h:SqL X.K H a xs) (h':SqL X.K H a ys):xs=ys:=by
 obtain ⟨its,r,⟨o,n,e,_,_,d⟩,_⟩:=I.list h
 obtain ⟨its',r',⟨o',n',e',_,_,d'⟩,_⟩:=I.list h'
 rw [e] at e';cases e'
 rw [d] at d'
 injection d' with d1 _
 have:its=its':=by simpa using congrArg Array.toList d1
 subst this
 exact r.inj r'
end
abbrev Cx.wish (X:Cx) (E:Value->Shared->Prop):Cx:={ X with xe:=E }
abbrev Cx.nox (X:Cx):Cx:=X.wish fun _ _=>False
theorem Cx.Ok.wish {X:Cx} (ok:X.Ok) (E:Value->Shared->Prop):(X.wish E).Ok :=
 ⟨ok.mod,ok.kind,ok.glob,ok.blt,ok.above,ok.inj,ok.has,ok.cab,ok.hd,ok.frames,ok.stk,ok.exf,ok.bs,ok.bsz,ok.noex,ok.exfs,ok.funs,ok.frf⟩
theorem Cx.Ok.unwish {X:Cx} {E:Value->Shared->Prop} (ok:(X.wish E).Ok):X.Ok :=
 ⟨ok.mod,ok.kind,ok.glob,ok.blt,ok.above,ok.inj,ok.has,ok.cab,ok.hd,ok.frames,ok.stk,ok.exf,ok.bs,ok.bsz,ok.noex,ok.exfs,ok.funs,ok.frf⟩
section
variable {X:Cx} {pins:List (Addr×Obj)} {σ:St} {H:Hp} {s:Shared} {E:Value->Shared->Prop}
theorem Inv.wish (I:Inv X pins σ H s) (E:Value->Shared->Prop):Inv (X.wish E) pins σ H s:=⟨I.ok.wish E,I.os,I.bare,I.base,I.loc,I.cell,I.free,I.freeC,I.pin,I.hok,I.len⟩
theorem Inv.unwish (I:Inv (X.wish E) pins σ H s):Inv X pins σ H s:=⟨I.ok.unwish,I.os,I.bare,I.base,I.loc,I.cell,I.free,I.freeC,I.pin,I.hok,I.len⟩
theorem SP.unwish {D:HW} {f:Flow} {s':Shared} (h:SP (X.wish E) pins D f s'):SP X pins D f s':=by
 cases f with
 | next=>obtain ⟨σ',H',I,q⟩:=h;exact ⟨σ',H',I.unwish,q⟩
 | brk=>obtain ⟨σ',H',I,q⟩:=h;exact ⟨σ',H',I.unwish,q⟩
 | cont=>obtain ⟨σ',H',I,q⟩:=h;exact ⟨σ',H',I.unwish,q⟩
 | ret u=>obtain ⟨v,σ',H',I,r,q⟩:=h;exact ⟨v,σ',H',I.unwish,r,q⟩
theorem PSs.nox {st:List Stmt} {t:TS} (h:PSs X.nox st t):PSs X st t:=fun pins s σ H D I hw =>
 wpAny_mono (h pins s σ H D (I.wish _) hw) (fun _ _ q=>q.unwish) fun _ _ z=>False.elim z
end
section
variable {X:Cx} {st:Stmt} {rest:List Stmt} {t u:TS} {e:Expr} {te:TE} {pos:Pos}
noncomputable def To:TS:=fun D σ H=>D.nx σ H
noncomputable def Us (t u:TS):TS:=fun D σ H=>t { D with nx:=u D } σ H
theorem AJ:PSs X [] To:=fun _ _ σ H _ I h=>wpAny_execs_nil ⟨σ,H,I,h⟩
theorem A3 (h1:PS X st t) (h2:PSs X rest u):PSs X (st::rest) (Us t u):=by
 intro pins s σ H D I h
 refine wpAny_execs_cons (B7 (h1 pins s σ H { D with nx:=u D } I h) fun f s1 q=>?_)
 cases f with
 | next =>
  obtain ⟨σ',H',I',q⟩:=q
  exact h2 pins s1 σ' H' D I' q
 | ret v=>exact q
 | brk=>exact q
 | cont=>exact q
theorem A5 (h1:PS X st t):PSs X [st] t:=by
 intro pins s σ H D I h
 refine wpAny_execs_cons (B7 (h1 pins s σ H D I h) fun f s1 q=>?_)
 cases f with
 | next=>exact wpAny_execs_nil q
 | ret v=>exact q
 | brk=>exact q
 | cont=>exact q
noncomputable def U5:TS:=fun D σ H=>D.ct σ H
theorem Ca:PS X (.Continue pos) U5:=fun _ _ σ H _ I h=>wpAny_Continue ⟨σ,H,I,h⟩
theorem Inv.quiet {pins:List (Addr×Obj)} {σ:St} {H:Hp} {s:Shared} (I:Inv X pins σ H s):interactive X.env=false:=by simp [interactive,I.ok.kind]
noncomputable def UF (te:TE):TS:=fun D σ H=>te σ H fun _ H1=>D.nx σ H1
theorem AX (he:PE X e te) (hs:swapsWith e none pos.line X.env=pure false:=by rfl):PS X (.Expr e pos) (UF te):=by
 intro pins s σ H D I h
 exact wpAny_Expr_any (B7 (he pins s σ H _ I h) fun v s1 ⟨x,H1,I1,r1,q1⟩=>⟨σ,H1,I1,q1⟩) I.quiet hs
noncomputable def Ur (te:TE):TS:=fun D σ H=>te σ H D.rt
theorem AD (he:PE X e te):PS X (.Return (some e) pos) (Ur te):=by
 intro pins s σ H D I h
 exact wpAny_Return_some (B7 (he pins s σ H _ I h) fun v s1 ⟨x,H1,I1,r1,q1⟩=>⟨x,σ,H1,I1,r1,q1⟩)
noncomputable def UJ:TS:=fun D _ H=>D.rt .non H
theorem RZ:PS X (.Return none pos) UJ:=fun _ _ σ H _ I h=>wpAny_Return_none ⟨.non,σ,H,I,rfl,h⟩
noncomputable def V8 (c:TT) (t u:TS):TS:=fun D σ H=>c σ H fun b H1=>if b=true then t D σ H1 else u D σ H1
theorem AU {c:Expr} {a b:List Stmt} {tc:TT} (hc:PT X c tc) (ha:PSs X a t) (hb:PSs X b u):PS X (.If c a b pos) (V8 tc t u):=by
 intro pins s σ H D I h
 refine wpAny_If (B7 (hc pins s σ H _ I h) fun d s1 ⟨H1,I1,q1⟩=>?_)
 cases d with
 | true=>exact ha pins s1 σ H1 D I1 q1
 | false=>exact hb pins s1 σ H1 D I1 q1
noncomputable def T4:TS:=fun _ _ _=>False
theorem Qw:PS X st T4:=fun _ _ _ _ _ _ h=>h.elim
end
abbrev TG:=V->St->Hp->(St->Hp->Prop)->Prop
abbrev SJ:=List V->St->Hp->(St->Hp->Prop)->Prop
noncomputable def PG (X:Cx) (target:Expr) (t:TG):Prop :=
 ∀ (pins:List (Addr×Obj)) (s:Shared) (σ:St) (H:Hp) (v:V) (u:Value) (Q:St->Hp->Prop),Inv X pins σ H s->RelV v u->t v σ H Q ->
  wpAny (model X.prog X.w) X.A (assign target X.env u) (fun _ s'=>∃ σ' H',Inv X pins σ' H' s'/\Q σ' H') X.xe s
noncomputable def Ts (X:Cx) (ts:List Expr) (t:SJ):Prop :=
 ∀ (pins:List (Addr×Obj)) (s:Shared) (σ:St) (H:Hp) (vs:List V) (us:List Value) (Q:St->Hp->Prop),Inv X pins σ H s->Vals vs us->t vs σ H Q ->
  wpAny (model X.prog X.w) X.A (assignInOrder ((assignEach ts X.env).map (·.2)) us) (fun _ s'=>∃ σ' H',Inv X pins σ' H' s'/\Q σ' H') X.xe s
abbrev Sy:=V->V->V->Hp->(Hp->Prop)->Prop
noncomputable def U7 (X:Cx) (t:Sy):Prop :=
 ∀ (pins:List (Addr×Obj)) (s:Shared) (σ:St) (H:Hp) (o i v:V) (ov iv u:Value) (Q:Hp->Prop),Inv X pins σ H s->RelV o ov->RelV i iv->RelV v u->t o i v H Q ->
  wpAny (model X.prog X.w) X.A (setItem ov iv u) (fun _ s'=>∃ H',Inv X pins σ H' s'/\Q H') X.xe s
abbrev Uf:=V->V->Hp->VK->Prop
noncomputable def VS (X:Cx) (op:Operator) (t:Uf):Prop :=
 ∀ (pins:List (Addr×Obj)) (s:Shared) (σ:St) (H:Hp) (x y:V) (v u:Value) (Q:VK),Inv X pins σ H s->RelV x v->RelV y u->t x y H Q ->
  wpAny (model X.prog X.w) X.A (inplaceOp op v u) (EP X pins σ Q) X.xe s
section
variable {X:Cx} {pos:Pos}
noncomputable def Ou (i:Nat):TG:=fun v σ H Q=>Q (σ.set i (some v)) H
theorem AS {i:Nat} {x:Str} (hN:X.N.Nodup) (hi:X.N[i]?=some x) (hx:Tt X.env.scope x) (hf:X.fn x=true\/X.env.scope.names.lookup x=some .local:=by first | exact .inl rfl | exact .inr rfl | assumption):PG X (.Name x pos) (Ou i):=by
 intro pins s σ H v u Q I r h
 exact wpAny_assign_Name (JK I hN hi hx r (fun s' I'=>⟨_,H,I',h⟩) hf)
noncomputable def VF:SJ:=fun vs σ H Q=>vs=[]/\Q σ H
noncomputable def Ty (t:TG) (u:SJ):SJ:=fun vs σ H Q=>∃ v r,vs=v::r/\t v σ H fun σ' H'=>u r σ' H' Q
theorem Ir:Ts X [] VF:=by
 intro pins s σ H vs us Q I r h
 obtain ⟨e,h⟩:=h
 subst e
 cases r
 exact assignInOrder_nil ⟨σ,H,I,h⟩
theorem DJ {e:Expr} {es:List Expr} {t:TG} {u:SJ} (h1:PG X e t) (h2:Ts X es u)
  (hs:(assignEach (e::es) X.env).map (·.2)=assign e X.env::(assignEach es X.env).map (·.2):=by rfl):Ts X (e::es) (Ty t u):=by
 intro pins s σ H vs us Q I r h
 obtain ⟨v,vr,e1,h⟩:=h
 subst e1
 cases r with
 | cons r rr =>
  rw [hs]
  refine assignInOrder_cons (B7 (h1 pins s σ H _ _ _ I r h) fun _ s1 ⟨σ1,H1,I1,q1⟩=>?_)
  exact h2 pins s1 σ1 H1 _ _ Q I1 rr q1
noncomputable def UR (K:PySem.W.Frag) (n:Nat) (t:SJ):TG:=fun v σ H Q=>∃ a xs,v=.ref a/\SqT K H a xs/\xs.length=n/\t xs σ H Q
theorem Sc {es:List Expr} {k:Nat} {t:SJ} {n:Nat} (hc:X.calm=true) (h:Ts X es t)
  (hn:(assignEach es X.env).length=n:=by rfl) (hst:(assignEach es X.env).findIdx? (·.1)=none:=by rfl):PG X (.Tuple es k pos) (UR X.K n t):=by
 intro pins s σ H v u Q I r hw
 obtain ⟨a,xs,e1,hq,hl,hw⟩:=hw
 subst e1
 cases r
 obtain ⟨its,rv,ht,hz⟩:=I.tuple hq
 refine assign_Tuple_tuple (I.ok.hd hc) ht (by simp [hn,<-hl,rv.length]) hst fun h' hx=>?_
 have I1:Inv X pins σ H { s with heap:=h' }:=I.kept (t':=s.toks) fun b o e=>hx b o (Nat.ne_of_lt (Heap.lt_size e)) e
 exact h pins _ σ H xs _ Q I1 (by simpa using rv) hw
noncomputable def Uq (to ti:TE) (t:Sy):TG:=fun v σ H Q=>to σ H fun o H1=>ti σ H1 fun i H2=>t o i v H2 fun H3=>Q σ H3
theorem C8 {o i:Expr} {to ti:TE} {t:Sy} (ho:PE X o to) (hi:PE X i ti) (hs:U7 X t)
  (ha:∀ v,assign (.Subscript o i pos) X.env v=(do
   let ov <-holding [v] (eval o X.env)
   let iv <-holding [v,ov] (eval i X.env)
   standAt pos
   holding [v,ov,iv] (setItem ov iv v)
   release [v,ov,iv] []):=by intro _;rfl):PG X (.Subscript o i pos) (Uq to ti t):=by
 intro pins s σ H v u Q I r h
 rw [ha]
 refine wpAny_bind (wpAny_holding (B7 (ho pins s σ H _ I h) fun ov s1 ⟨x,H1,I1,r1,q1⟩=>?_))
 refine wpAny_bind (wpAny_holding (B7 (hi pins s1 σ H1 _ I1 q1) fun iv s2 ⟨y,H2,I2,r2,q2⟩=>?_))
 refine wpAny_bind (wpAny_standAt (wpAny_bind (wpAny_holding (B7 (hs pins s2 σ H2 x y v ov iv u _ I2 r1 r2 r q2) fun _ s3 ⟨H3,I3,q3⟩=>?_))))
 exact wpAny_release ⟨σ,H3,I3,q3⟩
noncomputable def Sn (te:TE) (g:TG):TS:=fun D σ H=>te σ H fun x H1=>g x σ H1 D.nx
theorem C4 {tg e:Expr} {te:TE} {g:TG} (he:PE X e te) (hg:PG X tg g) (hs:swapsWithSole [tg] e pos.line X.env=pure false:=by rfl) (hw:swappedStores [tg] e X.env=pure none:=by rfl)
  (h1:(assignEach [tg] X.env).map (·.2)=[assign tg X.env]:=by rfl):PS X (.Assign [tg] e pos) (Sn te g):=by
 intro pins s σ H D I h
 refine wpAny_Assign_stores (B7 (he pins s σ H _ I h) fun v s1 ⟨x,H1,I1,r1,q1⟩=>?_) hs hw
 rw [h1]
 exact B7 (hg pins s1 σ H1 x v _ I1 r1 q1) fun _ s2 q=>q
theorem AF {i:Nat} {x:Str} {e:Expr} {te:TE} {pos':Pos} (hN:X.N.Nodup) (hi:X.N[i]?=some x) (hx:Tt X.env.scope x) (he:PE X e te) (hs:swapsWith e (some (.Name x pos')) pos.line X.env=pure false:=by rfl) (hf:X.fn x=true\/X.env.scope.names.lookup x=some .local:=by first | exact .inl rfl | exact .inr rfl | assumption) :
  PS X (.Assign [.Name x pos'] e pos) (Sn te (Ou i)):=by
 intro pins s σ H D I h
 refine wpAny_Assign_Name (B7 (he pins s σ H _ I h) fun v s1 ⟨y,H1,I1,r1,q1⟩=>?_) hs
 exact JK I1 hN hi hx r1 (fun s2 I2=>⟨_,H1,I2,q1⟩) hf
noncomputable def Up (i:Nat) (te:TE) (ti:Uf):TS:=fun D σ H=>∃ x,σ[i]?=some (some x)/\te σ H fun y H1=>ti x y H1 fun z H2=>D.nx (σ.set i (some z)) H2
theorem O5 {i:Nat} {x:Str} {e:Expr} {te:TE} {op:Operator} {ti:Uf} {pos':Pos} (hN:X.N.Nodup) (hi:X.N[i]?=some x) (hx:Tt X.env.scope x) (he:PE X e te) (ho:VS X op ti) (hf:X.fn x=true\/X.env.scope.names.lookup x=some .local:=by first | exact .inl rfl | exact .inr rfl | assumption) :
  PS X (.AugAssign (.Name x pos') op e pos) (Up i te ti):=by
 intro pins s σ H D I h
 obtain ⟨v,e1,h⟩:=h
 obtain ⟨m,hn,hl⟩:=I.loc
 have vis:Tm X.env.scope x:=by rcases hx with k | k;exact .inl k;exact .inr (.inl k)
 obtain ⟨u,r,l⟩:=hl i x v hi e1 vis
 refine wpAny_AugAssign_Name ?_
 have go:wpAny (model X.prog X.w) X.A (eval e X.env) (fun w s₂=>wpAny (model X.prog X.w) X.A (inplaceOp op u w) (fun r s₃=>wpAny (model X.prog X.w) X.A (storeName X.env x r) (fun _=>SP X pins D .next) X.xe s₃) X.xe s₂) X.xe s:=by
  refine B7 (he pins s σ H _ I h) fun w s1 ⟨y,H1,I1,r1,q1⟩=>?_
  refine B7 (ho pins s1 σ H1 v y u w _ I1 r r1 q1) fun z s2 ⟨zv,H2,I2,r2,q2⟩=>?_
  exact JK I2 hN hi hx r2 (fun s3 I3=>⟨_,H2,I3,q2⟩) hf
 rcases l with ⟨hk,hm⟩ | ⟨hk,c,hc,hcell⟩
 .exact wpAny_loadName_local I.ok.kind hk hn hm go
 .rcases hk with hk | hk
  .exact wpAny_loadName_cell I.ok.kind hk hc hcell go
  .rcases hx with k | k
   .have:X.env.scope.names.lookup x=some .free:=hk
    rw [k] at this;cases this
   .have:X.env.scope.names.lookup x=some .free:=hk
    rw [k] at this;cases this
noncomputable def Vd (f:Int->Int->Int):Uf:=fun x y H Q=>∃ i j,x=.int i/\y=.int j/\Q (.int (f i j)) H
theorem Nq:VS X .Add (Vd fun i j=>i+j):=by
 intro pins s σ H x y v u Q I r1 r2 h
 obtain ⟨i,j,e1,e2,q⟩:=h
 subst e1;subst e2
 obtain ⟨t,rfl⟩:=r1
 obtain ⟨t',rfl⟩:=r2
 exact iadd_int ⟨.int _,H,I.tok _,⟨_,rfl⟩,q⟩
end
section
variable {X:Cx} {pos:Pos}
noncomputable def SZ (c:TT) (tb:TS):TS:=fun D σ H=>∃ W:Nat->St->Hp->Prop,(∃ m,W m σ H)/\∀ m σ H,W m σ H ->
 c σ H fun b H1=>if b=true then ∃ N:St->Hp->Prop,(∀ σ' H',N σ' H'->∃ m',m'<m/\W m' σ' H')/\tb { D with nx:=N,ct:=N,bk:=D.nx } σ H1 else D.nx σ H1
theorem DG {c:Expr} {body:List Stmt} {tc:TT} {tb:TS} (hp:PassesOwn (model X.prog X.w) X.A X.env X.xe) (hc:PT X c tc) (hb:PSs X body tb):PS X (.While c body [] pos) (SZ tc tb):=by
 intro pins s σ H D I h
 obtain ⟨W,⟨m0,w0⟩,turn⟩:=h
 refine wpAny_While (codeAny_whileLoop (fun n s'=>∃ σ' H',Inv X pins σ' H' s'/\W n σ' H') ?_ m0 ⟨σ,H,I,w0⟩)
 rintro n s1 ⟨σ1,H1,I1,w1⟩
 refine wpAny_passesOwn hp (B7 (hc pins s1 σ1 H1 _ I1 (turn n σ1 H1 w1)) fun b s2 ⟨H2,I2,q2⟩=>?_)
 cases b with
 | true =>
  obtain ⟨N,hN,q2⟩:=q2
  rw [if_pos rfl]
  refine wpAny_passesOwn hp (B7 (hb pins s2 σ1 H2 _ I2 q2) fun f s3 q3=>?_)
  cases f with
  | next =>
   obtain ⟨σ3,H3,I3,n3⟩:=q3
   obtain ⟨m',hm,w3⟩:=hN σ3 H3 n3
   exact ⟨m',hm,σ3,H3,I3,w3⟩
  | cont =>
   obtain ⟨σ3,H3,I3,n3⟩:=q3
   obtain ⟨m',hm,w3⟩:=hN σ3 H3 n3
   exact ⟨m',hm,σ3,H3,I3,w3⟩
  | brk=>exact q3
  | ret v=>exact q3
 | false =>
  rw [if_neg Bool.false_ne_true]
  exact wpAny_execs_nil ⟨σ1,H2,I2,q2⟩
end
structure It where
 go:Nat->Hp->Prop
 yld:Nat->Hp->V->Hp->Prop
 stop:Nat->Hp->Prop
noncomputable def Il (X:Cx) (pins:List (Addr×Obj)) (H:Hp) (b:Addr):Prop :=
 H b=none/\b≠X.env.locals/\b∉X.fs/\(b∈X.ex\/X.s_0.heap.objs.size<=b)/\(∀ x c,X.env.cells.lookup x=some c->c≠b)/\∀ p∈X.pn++pins,p.1≠b
theorem Inv.fpOk {X:Cx} {pins:List (Addr×Obj)} {σ:St} {H H':Hp} {s:Shared} {b:Addr} (I:Inv X pins σ H s) (hb:s.heap.objs.size<=b) (hn:H' b=none):Il X pins H' b:=by
 refine ⟨hn,Nat.ne_of_gt (Nat.lt_of_lt_of_le I.lt hb),I.nofs hb,.inr (Nat.le_trans I.sz hb),fun x c e z=>?_,fun p hp z=>?_⟩
 .obtain ⟨v,q⟩:=I.cell x c e
  exact absurd (Nat.lt_of_lt_of_le q.lt (by rw [z];exact hb)) (Nat.lt_irrefl _)
 .exact absurd (Nat.lt_of_lt_of_le (Heap.lt_size (I.pin p hp).1) (by rw [z];exact hb)) (Nat.lt_irrefl _)
structure PQ (P:Program) (w:World) (K:PySem.W.Frag) (tg:Expr) (J:It) (fp:List Addr) (it:Addr) (tn:Nat->Heap->Prop):Prop where
 mem:it∈fp
 obj:∀ i h,tn i h->∀ b∈fp,∃ o,h.get? b=some o/\∀ v,o.data≠.cell v
 keep:∀ i h h',tn i h->(∀ b∈fp,∀ o,h.get? b=some o->h'.get? b=some o)->tn i h'
 item:∀ (X:Cx),X.prog=P->X.w=w->X.K=K->X.calm=true->∀ (i:Nat) (pins:List (Addr×Obj)) (s:Shared) (σ:St) (H:Hp) (E:Value->Shared->Prop),Inv X pins σ H s->(∀ b∈fp,Il X pins H b)->tn i s.heap->J.go i H ->
  wpAny (model P w) X.A (pyNext (.ref it)) (fun r s1=>∃ u,r=some u /\
   wpAny (model P w) X.A (letOwnedTupleGo tg (.ref it) u) (fun _ s2=>∃ x H',Inv X pins σ H' s2/\RelV x u/\J.yld i H x H'/\tn (i+1) s2.heap/\∀ b∈fp,H' b=none) E s1) E s
 done:∀ (X:Cx),X.prog=P->X.w=w->X.K=K->X.calm=true->∀ (i:Nat) (pins:List (Addr×Obj)) (s:Shared) (σ:St) (H:Hp) (E:Value->Shared->Prop),Inv X pins σ H s->(∀ b∈fp,Il X pins H b)->tn i s.heap->J.stop i H ->
  wpAny (model P w) X.A (pyNext (.ref it)) (fun r s1=>r=none/\Inv X pins σ H s1) E s
 self:∀ (A:Around) (i:Nat) (s:Shared) (Q:Value->Shared->Prop) (E:Value->Shared->Prop),tn i s.heap->Q (.ref it) s->wpAny (model P w) A (pyIter (.ref it)) Q E s
abbrev TI:=St->Hp->(It->Hp->Prop)->Prop
noncomputable def Ul (X:Cx) (pins:List (Addr×Obj)) (σ:St) (tg:Expr) (R:It->Hp->Prop) (itv:Value) (s2:Shared):Prop :=
 ∃ (it:Addr) (fp:List Addr) (tn:Nat->Heap->Prop) (J:It) (H':Hp),itv=.ref it/\Inv X pins σ H' s2/\PQ X.prog X.w X.K tg J fp it tn/\tn 0 s2.heap/\(∀ b∈fp,Il X pins H' b)/\R J H'
noncomputable def PI (X:Cx) (tg iter:Expr) (wi:TI):Prop :=
 ∀ (pins:List (Addr×Obj)) (s:Shared) (σ:St) (H:Hp) (R:It->Hp->Prop),Inv X pins σ H s->wi σ H R ->
  wpAny (model X.prog X.w) X.A (eval iter X.env) (fun v s1=>wpAny (model X.prog X.w) X.A (pyIter v) (Ul X pins σ tg R) X.xe s1) X.xe s
theorem QG {M:Model} {A:Around} {E:Value->Shared->Prop} {s:Shared} {tg:Expr} {it:Addr} {u:Value} {o:Obj} {n:String} {vs:Array Value} {Q:Unit->Shared->Prop} (ho:s.heap.get? it=some o) (hc:o.cls=.type n) (hd:o.data=.fields vs)
    (hn:["enumerate","zip","dict_itemiterator","dict_reverseitemiterator","odict_iterator","itertools.zip_longest","itertools.pairwise"].contains n=false) (hQ:Q () s):wpAny M A (letOwnedTupleGo tg (.ref it) u) Q E s:=by
  unfold letOwnedTupleGo
  cases tg <;> first
    | exact wpAny_pure hQ
    | (cases u <;> first
        | exact wpAny_pure hQ
        | (refine wpAny_bind (wpAny_load ho ?_)
           rw [hc,hd]
           show wpAny M A (if (["enumerate","zip","dict_itemiterator","dict_reverseitemiterator","odict_iterator","itertools.zip_longest","itertools.pairwise"].contains n && vs[0]?==some (rawInt _))=true then _ else _) Q E s
           rw [if_neg (by intro h;rw [hn,Bool.false_and] at h;cases h)]
           exact wpAny_pure hQ))
noncomputable def QK (K:PySem.W.Frag) (a:Addr):It :=
 ⟨fun i H=>∃ xs x,SqL K H a xs/\xs[i]?=some x,fun i H x H'=>H'=H/\∀ xs,SqL K H a xs->xs[i]?=some x,fun i H=>∃ xs,SqL K H a xs/\xs.length<=i⟩
noncomputable def NL (lo:Int) (n:Nat):It:=⟨fun i _=>i<n,fun i H x H'=>H'=H/\x=.int (lo+i),fun i _=>n<=i⟩
theorem P5 {P:Program} {w:World} {K:PySem.W.Frag} {tg:Expr} (a it:Addr):PQ P w K tg (QK K a) [it] it (fun i h=>h.IsListIter it a i) where
 mem:=by simp
 obj:=fun i h st b hb=>by
  have e:b=it:=by simpa using hb
  subst e
  obtain ⟨o,e,c,d⟩:=st
  exact ⟨o,e,fun v z=>by rw [d] at z;cases z⟩
 keep:=fun i h h' st k=>st.at fun o e=>k it (by simp) o e
 item:=by
  intro X hP hw hK hc i pins s σ H E I hf st hg
  subst hP hw hK
  obtain ⟨xs,x,hq,hx⟩:=hg
  obtain ⟨its,rv,p,hz⟩:=I.list hq
  obtain ⟨u,hu,ru⟩:=rv.get hx
  obtain ⟨f0,f1,f2,f3,f4,f5⟩:=hf it (by simp)
  refine wpAny_pyNext_list_item st p.isList (x:=u) (by simpa using hu) fun h' st' sb=>?_
  have I1:Inv X pins σ H { s with heap:=h' }:=I.turned (t':=s.toks) (fun b o hb e=>(sb.2 b hb).trans e) f0 f1 f3 f4 f5
  obtain ⟨o,e,c,d⟩:=id st'
  exact ⟨u,rfl,QG (s:={ s with heap:=h' }) e c d (by decide) ⟨x,H,I1,ru,⟨rfl,fun ys hy=>by rw [I.list_inj hy hq];exact hx⟩,st',fun b hb=>(hf b hb).1⟩⟩
 done:=by
  intro X hP hw hK hc i pins s σ H E I hf st hg
  subst hP hw hK
  obtain ⟨xs,hq,hx⟩:=hg
  obtain ⟨its,rv,p,hz⟩:=I.list hq
  obtain ⟨f0,f1,f2,f3,f4,f5⟩:=hf it (by simp)
  have hl:=rv.length
  exact wpAny_pyNext_list_end (I.ok.hd hc) st p.isList (by simp;omega) fun h' eb=>⟨rfl,I.turned (t':=s.toks) (fun b o hb e=>eb b o hb e) f0 f1 f3 f4 f5⟩
 self:=fun _ _ _ _ _ st h=>wpAny_pyIter_listiter st h
theorem OA {P:Program} {w:World} {K:PySem.W.Frag} {tg:Expr} (it:Addr) (lo:Int) (n:Nat):PQ P w K tg (NL lo n) [it] it (fun i h=>IsRangeIter h it (lo+(i:Nat)*1) ((n:Int) - (i:Nat)) 1) where
 mem:=by simp
 obj:=fun i h st b hb=>by
  have e:b=it:=by simpa using hb
  subst e
  exact ⟨_,st,fun v z=>by
   have z':Data.fields _=Data.cell v:=z
   cases z'⟩
 keep:=fun i h h' st k=>k it (by simp) _ st
 item:=by
  intro X hP hw hK hc i pins s σ H E I hf st hg
  subst hP hw hK
  obtain ⟨f0,f1,f2,f3,f4,f5⟩:=hf it (by simp)
  have W:=Walks.range (prog:=X.prog) (w:=X.w) (I.ok.hd hc) it lo 1 n
  refine W.item i s _ _ hg st fun v h' tk hv st' kk=>?_
  obtain ⟨t,rfl⟩:=hv
  have I1:Inv X pins σ H { s with heap:=h',toks:=tk }:=I.turned (fun b o hb e=>kk b o (by simpa using hb) e) f0 f1 f3 f4 f5
  refine ⟨_,rfl,QG (s:={ s with heap:=h',toks:=tk }) (n := "range_iterator") st' rfl rfl (by decide) ⟨.int (lo+i),H,I1,⟨t,?_⟩,⟨rfl,rfl⟩,st',fun b hb=>(hf b hb).1⟩⟩
  rw [Int.mul_one]
 done:=by
  intro X hP hw hK hc i pins s σ H E I hf st hg
  subst hP hw hK
  obtain ⟨f0,f1,f2,f3,f4,f5⟩:=hf it (by simp)
  exact wpAny_pyNext_range_end (I.ok.hd hc) st (by have:n<=i:=hg;omega) fun h' eb=>⟨rfl,I.turned (t':=s.toks) (fun b o hb e=>eb b o hb e) f0 f1 f3 f4 f5⟩
 self:=fun _ _ _ _ _ st h=>wpAny_pyIter_rangeiter st h
end L2
namespace L2
open PySem PySem.Spec PyProof.Rows
section
variable {X:Cx} {tg:Expr}
noncomputable def UP (K:PySem.W.Frag) (tl:TE):TI:=fun σ H R=>tl σ H fun x H1=>∃ a,x=.ref a/\(∃ xs,SqL K H1 a xs)/\R (QK K a) H1
theorem B6 {l:Expr} {tl:TE} (hl:PE X l tl):PI X tg l (UP X.K tl):=by
 intro pins s σ H R I h
 refine B7 (hl pins s σ H _ I h) fun v s1 ⟨x,H1,I1,r1,q1⟩=>?_
 obtain ⟨a,e,⟨xs,hq⟩,q⟩:=q1
 subst e
 cases r1
 obtain ⟨its,rv,p,hz⟩:=I1.list hq
 refine wpAny_pyIter_list p.isList ?_
 refine ⟨s1.heap.objs.size,[s1.heap.objs.size],_,_,H1,rfl,I1.kept (t':=s1.toks) fun b o e=>Heap.get?_push_of_some _ e,P5 a _,⟨_,Heap.get?_push_size _ rfl,rfl,rfl⟩,fun b hb=>?_,q⟩
 have e:b=s1.heap.objs.size:=by simpa using hb
 subst e
 exact I1.fpOk (Nat.le_refl _) (I1.hok.fresh (Nat.le_refl _))
theorem Ml {pins:List (Addr×Obj)} {σ:St} {H:Hp} {s:Shared} {R:It->Hp->Prop} {E:Value->Shared->Prop} {lo hi:Int} {t u v:Tok} {tk:Nat} (I:Inv X pins σ H s) (h1:-(2 ^ 62)<=lo) (h2:lo<2 ^ 62) (h3:-(2 ^ 62)<=hi) (h4:hi<2 ^ 62)
  (q:R (NL lo (hi - lo).toNat) H):wpAny (model X.prog X.w) X.A (pyIter (.ref s.heap.objs.size)) (Ul X pins σ tg R) E { s with heap:=s.heap.push { cls:=.type "range",data:=.fields #[.int lo t,.int hi u,.int 1 v] },toks:=tk }:=by
 refine wpAny_pyIter_range (IsRange.new ..) (small_one h1 h2 h3 h4) ?_
 have I1:Inv X pins σ H { s with heap:=s.heap.push { cls:=.type "range",data:=.fields #[.int lo t,.int hi u,.int 1 v] },toks:=tk }:=I.kept fun b o e=>Heap.get?_push_of_some _ e
 refine ⟨(s.heap.push { cls:=.type "range",data:=.fields #[.int lo t,.int hi u,.int 1 v] }).objs.size,[(s.heap.push { cls:=.type "range",data:=.fields #[.int lo t,.int hi u,.int 1 v] }).objs.size],_,_,H,rfl,
  I1.kept (t':=tk) fun b o e=>Heap.get?_push_of_some _ e,OA _ lo (hi - lo).toNat,?_,fun b hb=>?_,q⟩
 .have e1:lo+((0:Nat):Int)*1=lo:=by simp
  have e2:(((hi - lo).toNat:Nat):Int) - ((0:Nat):Int)=Builtin.Range.rangeSize lo hi 1:=by rw [rangeSize_one];split <;> omega
  show IsRangeIter _ _ (lo+((0:Nat):Int)*1) ((((hi - lo).toNat:Nat):Int) - ((0:Nat):Int)) 1
  rw [e1,e2]
  exact Heap.get?_push_size _ rfl
 .have e:b=(s.heap.push { cls:=.type "range",data:=.fields #[.int lo t,.int hi u,.int 1 v] }).objs.size:=by simpa using hb
  subst e
  exact I1.fpOk (Nat.le_refl _) (I1.hok.fresh (Nat.le_refl _))
noncomputable def UG (ta:TA):TI:=fun σ H R=>ta σ H fun vs H1=>∃ j:Int,vs=[.int j]/\-(2 ^ 62)<=j/\j<2 ^ 62/\R (NL 0 j.toNat) H1
noncomputable def U2 (ta:TA):TI:=fun σ H R=>ta σ H fun vs H1=>∃ i j:Int,vs=[.int i,.int j]/\(-(2 ^ 62)<=i/\i<2 ^ 62/\-(2 ^ 62)<=j/\j<2 ^ 62)/\R (NL i (j - i).toNat) H1
theorem B9 {a:Expr} {ta:TA} {p pos:Pos} (hg:Gl X "range") (hm:X.mg "range" = none) (ha:PA X [a] ta) (hs:starEach [a] X.env=[(false,eval a X.env)]:=by rfl):PI X tg (.Call (.Name "range" p) [a] [] pos) (UG ta):=by
 intro pins s σ H R I h
 refine Call_ (Ff I hg hm boot_range (PyProof.Rows.callWith_type1 (B7 (ha pos pins s σ H _ I h) fun us s1 ⟨vs,H1,I1,r1,q1⟩=>?_) hs rfl))
 obtain ⟨j,e,q1,q2,q⟩:=q1
 subst e
 cases r1 with
 | cons r rr =>
  cases rr
  obtain ⟨t,rfl⟩:=r
  exact call_range_1 (Ml I1 (by omega) (by omega) q1 q2 (by simpa using q))
theorem Fs {a b:Expr} {ta:TA} {p pos:Pos} (hg:Gl X "range") (hm:X.mg "range" = none) (ha:PA X [a,b] ta) (hs:starEach [a,b] X.env=[(false,eval a X.env),(false,eval b X.env)]:=by rfl) (hs2:starEach [b] X.env=[(false,eval b X.env)]:=by rfl) :
  PI X tg (.Call (.Name "range" p) [a,b] [] pos) (U2 ta):=by
 intro pins s σ H R I h
 refine Call_ (Ff I hg hm boot_range (PyProof.Rows.callWith_type1 (B7 (ha pos pins s σ H _ I h) fun us s1 ⟨vs,H1,I1,r1,q1⟩=>?_) (by rw [hs,hs2]) (by rw [hs2];rfl)))
 obtain ⟨i,j,e,⟨q1,q2,q3,q4⟩,q⟩:=q1
 subst e
 cases r1 with
 | cons r rr =>
  cases rr with
  | cons r' rr =>
   cases rr
   obtain ⟨t,rfl⟩:=r
   obtain ⟨t',rfl⟩:=r'
   exact call_range_2 (Ml I1 q1 q2 q3 q4 q)
noncomputable def VO (wi:TI) (g:TG) (tb:TS):TS:=fun D σ H=>wi σ H fun J H1=>∃ W:Nat->Nat->St->Hp->Prop,(∃ m,W 0 m σ H1)/\∀ i m σ H,W i m σ H ->
 (J.stop i H/\D.nx σ H)\/(J.go i H/\∃ N:St->Hp->Prop,(∀ σ' H',N σ' H'->∃ m',m'<m/\W (i+1) m' σ' H')/\∀ x H',J.yld i H x H'->g x σ H' fun σ2 H2=>tb { D with nx:=N,ct:=N,bk:=D.nx } σ2 H2)
noncomputable def Jg (fp:List Addr) (h:Heap):List (Addr×Obj):=fp.filterMap fun b=>(h.get? b).map fun o=>(b,o)
theorem GM {fp:List Addr} {h:Heap} {b:Addr} {o:Obj} (hb:b∈fp) (e:h.get? b=some o):(b,o)∈Jg fp h:=List.mem_filterMap.mpr ⟨b,hb,by rw [e];rfl⟩
theorem PM {fp:List Addr} {h:Heap} {p:Addr×Obj} (hp:p∈Jg fp h):p.1∈fp/\h.get? p.1=some p.2:=by
 obtain ⟨b,hb,e⟩:=List.mem_filterMap.mp hp
 cases q:h.get? b with
 | none=>rw [q] at e;cases e
 | some o =>
  rw [q] at e
  have e':(b,o)=p:=ZC e
  subst e'
  exact ⟨hb,q⟩
theorem Inv.pinned {pins:List (Addr×Obj)} {σ:St} {H:Hp} {s:Shared} {fp:List Addr} (I:Inv X pins σ H s) (hf:∀ b∈fp,Il X pins H b) (ho:∀ b∈fp,∃ o,s.heap.get? b=some o/\∀ v,o.data≠.cell v):Inv X (pins++Jg fp s.heap) σ H s :=
 I.pins_of fun p hp=>(List.mem_append.mp hp).elim (fun z=>I.pin p (List.mem_append_right _ z)) fun z=>by
  obtain ⟨hb,e⟩:=PM z
  obtain ⟨f0,f1,f2,_⟩:=hf p.1 hb
  obtain ⟨o,e',d⟩:=ho p.1 hb
  rw [e] at e';cases e'
  exact ⟨e,f0,f1,f2,d⟩
theorem Inv.unpinned {pins pl:List (Addr×Obj)} {σ:St} {H:Hp} {s:Shared} (I:Inv X (pins++pl) σ H s):Inv X pins σ H s:=I.pins_of fun p hp=>I.pin p (List.mem_append_right _ (List.mem_append_left _ hp))
theorem Ao {iter:Expr} {body:List Stmt} {wi:TI} {g:TG} {tb:TS} {pos:Pos} (hp:PassesOwn (model X.prog X.w) X.A X.env X.xe) (hc:X.calm=true) (hi:PI X tg iter wi) (hg:PG X tg g) (hb:PSs X body tb)
  (hs:∀ x,foldedSetIterable iter X.env x=pure x:=by intro _;rfl):PS X (.For tg iter body [] pos) (VO wi g tb):=by
 intro pins s σ H D I h
 refine wpAny_For (B7 (hi pins s σ H _ I h) fun v s1 h1=>B7 h1 fun itv s2 h2=>?_) hs
 obtain ⟨it,fp,tn,J,H2,e,I2,T,st2,f2,W,⟨m0,w0⟩,turn⟩:=h2
 subst e
 -- what stays true of the iterator's objects through the loop
 have Bu:∀ {H':Hp},(∀ b∈fp,H' b=none)->∀ b∈fp,Il X pins H' b:=fun hn b hb=>⟨hn b hb,(f2 b hb).2⟩
 refine codeAny_forLoop_any (fun n s'=>∃ i σ' H',Inv X pins σ' H' s'/\tn i s'.heap/\(∀ b∈fp,H' b=none)/\W i n σ' H') ?_ m0 ⟨0,σ,H2,I2,st2,fun b hb=>(f2 b hb).1,w0⟩
 rintro n s3 ⟨i,σ3,H3,I3,st3,fr3,w3⟩
 rcases turn i n σ3 H3 w3 with ⟨stop,qn⟩ | ⟨go,N,hN,step⟩
 .refine wpAny_passesOwn hp (B7 (T.done X rfl rfl rfl hc i pins s3 σ3 H3 X.xe I3 (Bu fr3) st3 stop) fun r s4 ⟨hr,I4⟩=>?_)
  subst hr
  exact wpAny_execs_nil ⟨σ3,H3,I4,qn⟩
 .refine wpAny_passesOwn hp (B7 (T.item X rfl rfl rfl hc i pins s3 σ3 H3 X.xe I3 (Bu fr3) st3 go) fun r s4 ⟨u,hr,h4⟩=>?_)
  subst hr
  refine wpAny_passesOwn hp (B7 h4 fun _ s5 ⟨x,H5,I5,r5,y5,st5,fr5⟩=>?_)
  have I5':=I5.pinned (Bu fr5) (T.obj _ _ st5)
  refine wpAny_passesOwn hp (B7 (hg _ s5 σ3 H5 x u _ I5' r5 (step x H5 y5)) fun _ s6 ⟨σ6,H6,I6,q6⟩=>?_)
  refine wpAny_passesOwn hp (B7 (hb _ s6 σ6 H6 _ I6 q6) fun f s7 q7=>?_)
  have again:∀ {σ7:St} {H7:Hp},Inv X (pins++Jg fp s5.heap) σ7 H7 s7->N σ7 H7->∃ m,m<n/\∃ i σ' H',Inv X pins σ' H' s7/\tn i s7.heap/\(∀ b∈fp,H' b=none)/\W i m σ' H':=fun {σ7 H7} I7 n7=>by
   obtain ⟨m',hm,w7⟩:=hN σ7 H7 n7
   refine ⟨m',hm,i+1,σ7,H7,I7.unpinned,T.keep _ _ _ st5 fun b hb o e=>(I7.pin (b,o) (List.mem_append_right _ (List.mem_append_right _ (GM hb e)))).1,fun b hb=>?_,w7⟩
   obtain ⟨o,e,d⟩:=T.obj _ _ st5 b hb
   exact (I7.pin (b,o) (List.mem_append_right _ (List.mem_append_right _ (GM hb e)))).2.1
  cases f with
  | next=>obtain ⟨σ7,H7,I7,n7⟩:=q7;exact again I7 n7
  | cont=>obtain ⟨σ7,H7,I7,n7⟩:=q7;exact again I7 n7
  | brk=>obtain ⟨σ7,H7,I7,q7⟩:=q7;exact ⟨σ7,H7,I7.unpinned,q7⟩
  | ret v=>obtain ⟨x7,σ7,H7,I7,r7,q7⟩:=q7;exact ⟨x7,σ7,H7,I7.unpinned,r7,q7⟩
end
theorem E7 {K:PySem.W.Frag} {a:Addr} {xs:List V} {g:TG} {tb:TS} {D:HW} {σ:St} {H:Hp} (Pv:Nat->St->Hp->Prop) (h0:Pv 0 σ H) (hl:∀ i σ H,i<=xs.length->Pv i σ H->SqL K H a xs)
  (hs:∀ i x σ H,xs[i]?=some x->Pv i σ H->g x σ H fun σ2 H2=>tb { D with nx:=Pv (i+1),ct:=Pv (i+1),bk:=D.nx } σ2 H2) (hd:∀ σ H,Pv xs.length σ H->D.nx σ H) :
  ∃ W:Nat->Nat->St->Hp->Prop,(∃ m,W 0 m σ H)/\∀ i m σ H,W i m σ H ->
   ((QK K a).stop i H/\D.nx σ H)\/((QK K a).go i H/\∃ N:St->Hp->Prop,(∀ σ' H',N σ' H'->∃ m',m'<m/\W (i+1) m' σ' H')/\∀ x H',(QK K a).yld i H x H'->g x σ H' fun σ2 H2=>tb { D with nx:=N,ct:=N,bk:=D.nx } σ2 H2):=by
 refine ⟨fun i m σ H=>m=xs.length - i/\i<=xs.length/\Pv i σ H,⟨xs.length,by simp,Nat.zero_le _,h0⟩,?_⟩
 rintro i m σ H ⟨rfl,hi,p⟩
 have q:=hl i σ H hi p
 by_cases hlt:i<xs.length
 .refine .inr ⟨⟨xs,xs[i],q,by simp [hlt]⟩,Pv (i+1),fun σ' H' p'=>⟨xs.length - (i+1),by omega,rfl,hlt,p'⟩,fun x H' y=>?_⟩
  obtain ⟨e,y⟩:=y
  subst e
  exact hs i x σ _ (y xs q) p
 .have e:i=xs.length:=by omega
  subst e
  exact .inl ⟨⟨xs,q,Nat.le_refl _⟩,hd σ H p⟩
theorem L0 {lo:Int} {n:Nat} {g:TG} {tb:TS} {D:HW} {σ:St} {H:Hp} (Pv:Nat->St->Hp->Prop) (h0:Pv 0 σ H)
  (hs:∀ i σ H,i<n->Pv i σ H->g (.int (lo+i)) σ H fun σ2 H2=>tb { D with nx:=Pv (i+1),ct:=Pv (i+1),bk:=D.nx } σ2 H2) (hd:∀ σ H,Pv n σ H->D.nx σ H) :
  ∃ W:Nat->Nat->St->Hp->Prop,(∃ m,W 0 m σ H)/\∀ i m σ H,W i m σ H ->
   ((NL lo n).stop i H/\D.nx σ H)\/((NL lo n).go i H/\∃ N:St->Hp->Prop,(∀ σ' H',N σ' H'->∃ m',m'<m/\W (i+1) m' σ' H')/\∀ x H',(NL lo n).yld i H x H'->g x σ H' fun σ2 H2=>tb { D with nx:=N,ct:=N,bk:=D.nx } σ2 H2):=by
 refine ⟨fun i m σ H=>m=n - i/\i<=n/\Pv i σ H,⟨n,by simp,Nat.zero_le _,h0⟩,?_⟩
 rintro i m σ H ⟨rfl,hi,p⟩
 by_cases hlt:i<n
 .refine .inr ⟨hlt,Pv (i+1),fun σ' H' p'=>⟨n - (i+1),by omega,rfl,hlt,p'⟩,fun x H' y=>?_⟩
  obtain ⟨e,y⟩:=y
  subst e y
  exact hs i σ _ hlt p
 .have e:i=n:=by omega
  subst e
  exact .inl ⟨Nat.le_refl _,hd σ H p⟩
end L2
namespace L2
open PySem PySem.Spec PyProof.Rows
abbrev R2:=V->V->Hp->VK->Prop
noncomputable def Ih (X:Cx) (f:Value->Value->Sem Value) (r:R2):Prop :=
 ∀ (pins:List (Addr×Obj)) (s:Shared) (σ:St) (H:Hp) (x y:V) (v u:Value) (Q:VK),Inv X pins σ H s->RelV x v->RelV y u->r x y H Q ->
  wpAny (model X.prog X.w) X.A (f v u) (EP X pins σ Q) X.xe s
noncomputable def V7 (X:Cx) (f:Value->Sem Value) (r:V->Hp->VK->Prop):Prop :=
 ∀ (pins:List (Addr×Obj)) (s:Shared) (σ:St) (H:Hp) (x:V) (v:Value) (Q:VK),Inv X pins σ H s->RelV x v->r x H Q ->
  wpAny (model X.prog X.w) X.A (f v) (EP X pins σ Q) X.xe s
noncomputable def CallR (X:Cx) (f:Value) (r:List V->Hp->VK->Prop):Prop :=
 ∀ (pins:List (Addr×Obj)) (s:Shared) (σ:St) (H:Hp) (xs:List V) (us:List Value) (Q:VK),Inv X pins σ H s->Vals xs us->r xs H Q ->
  wpAny (model X.prog X.w) X.A (call f us) (EP X pins σ Q) X.xe s
noncomputable def Ub (r:R2) (ta tb:TE):TE:=fun σ H Q=>ta σ H fun x H1=>tb σ H1 fun y H2=>r x y H2 Q
noncomputable def VU (r:V->Hp->VK->Prop) (ta:TE):TE:=fun σ H Q=>ta σ H fun x H1=>r x H1 Q
noncomputable def rI (C:Int->Int->Prop) (g:Int->Int->V):R2:=fun x y H Q=>∃ i j,x=.int i/\y=.int j/\C i j/\Q (g i j) H
noncomputable def SL (g:Int->Int->V):R2:=fun x y H Q=>∃ i j,x=.int i/\y=.int j/\Q (g i j) H
noncomputable def rU (g:Int->V):V->Hp->VK->Prop:=fun x H Q=>∃ i,x=.int i/\Q (g i) H
section
variable {X:Cx} {a b c:Expr} {ta tb tc:TE} {pos:Pos}
theorem T3 (ha:PE X a ta) (hb:PE X b tb) {pins:List (Addr×Obj)} {s:Shared} {σ:St} {H:Hp} {R:V->V->Hp->Prop} (I:Inv X pins σ H s)
  (h:ta σ H fun x H1=>tb σ H1 fun y H2=>R x y H2) {Q:Value->Shared->Prop} {f:Value->Value->Sem Value}
  (hf:∀ v u s2 x y H2,Inv X pins σ H2 s2->RelV x v->RelV y u->R x y H2->wpAny (model X.prog X.w) X.A (f v u) Q X.xe s2) :
  wpAny (model X.prog X.w) X.A (eval a X.env) (fun v s₁=>wpAny (model X.prog X.w) X.A (eval b X.env) (fun u s₂=>wpAny (model X.prog X.w) X.A (f v u) Q X.xe s₂) X.xe s₁) X.xe s:=by
 refine B7 (ha pins s σ H _ I h) fun v s1 ⟨x,H1,I1,r1,q1⟩=>?_
 refine B7 (hb pins s1 σ H1 _ I1 q1) fun u s2 ⟨y,H2,I2,r2,q2⟩=>?_
 exact hf v u s2 x y H2 I2 r1 r2 q2
theorem Ab {op:Operator} {r:R2} (ho:Ih X (binaryOp op) r) (ha:PE X a ta) (hb:PE X b tb):PE X (.BinOp a op b pos) (Ub r ta tb):=by
 intro pins s σ H Q I h
 exact wpAny_BinOp (T3 ha hb I h fun v u s2 x y H2 I2 rx ry q=>ho pins s2 σ H2 x y v u Q I2 rx ry q)
theorem BQ {op:UnaryOp} {r:V->Hp->VK->Prop} (ho:V7 X (unaryOp op) r) (ha:PE X a ta):PE X (.UnaryOp op a pos) (VU r ta):=by
 intro pins s σ H Q I h
 exact UnaryOp_ (B7 (ha pins s σ H _ I h) fun v s1 ⟨x,H1,I1,r1,q1⟩=>ho pins s1 σ H1 x v Q I1 r1 q1)
theorem Um {f:Value->Value->Sem Value} {C:Int->Int->Prop} {g:Int->Int->Int}
  (rule:∀ (i j:Int) (t u:Tok) (s:Shared) (Q:Value->Shared->Prop) (E:Value->Shared->Prop),C i j->Q (.int (g i j) s.toks) { s with toks:=s.toks+1 }->wpAny (model X.prog X.w) X.A (f (.int i t) (.int j u)) Q E s) :
  Ih X f (rI C fun i j=>.int (g i j)):=by
 intro pins s σ H x y v u Q I rx ry h
 obtain ⟨i,j,rfl,rfl,hc,q⟩:=h
 obtain ⟨t,rfl⟩:=rx
 obtain ⟨t',rfl⟩:=ry
 exact rule i j t t' s _ _ hc ⟨.int (g i j),H,I.tok _,⟨_,rfl⟩,q⟩
theorem UM {f:Value->Value->Sem Value} {g:Int->Int->Int}
  (rule:∀ (i j:Int) (t u:Tok) (s:Shared) (Q:Value->Shared->Prop) (E:Value->Shared->Prop),Q (.int (g i j) s.toks) { s with toks:=s.toks+1 }->wpAny (model X.prog X.w) X.A (f (.int i t) (.int j u)) Q E s) :
  Ih X f (SL fun i j=>.int (g i j)):=by
 intro pins s σ H x y v u Q I rx ry h
 obtain ⟨i,j,rfl,rfl,q⟩:=h
 obtain ⟨t,rfl⟩:=rx
 obtain ⟨t',rfl⟩:=ry
 exact rule i j t t' s _ _ ⟨.int (g i j),H,I.tok _,⟨_,rfl⟩,q⟩
theorem Rb {f:Value->Value->Sem Value} {g:Int->Int->Bool}
  (rule:∀ (i j:Int) (t u:Tok) (s:Shared) (Q:Value->Shared->Prop) (E:Value->Shared->Prop),Q (.bool (g i j)) s->wpAny (model X.prog X.w) X.A (f (.int i t) (.int j u)) Q E s) :
  Ih X f (SL fun i j=>.bl (g i j)):=by
 intro pins s σ H x y v u Q I rx ry h
 obtain ⟨i,j,rfl,rfl,q⟩:=h
 obtain ⟨t,rfl⟩:=rx
 obtain ⟨t',rfl⟩:=ry
 exact rule i j t t' s _ _ ⟨.bl (g i j),H,I,rfl,q⟩
noncomputable def V5 (i j:Int):Prop:=0<j/\j<1073741824
noncomputable def CMul (i j:Int):Prop:=(-(2 ^ 64)<i/\i<2 ^ 64)\/(-(2 ^ 64)<j/\j<2 ^ 64)
theorem CMul.ok {i j:Int} (h:CMul i j):IntMulOk i j:=by
 rcases h with ⟨h1,h2⟩ | ⟨h1,h2⟩
 .exact .of_left (intBits_le_64 h1 h2)
 .exact .of_right (intBits_le_64 h1 h2)
theorem Ag:Ih X (binaryOp .Add) (SL fun i j=>.int (i+j)):=UM fun _ _ _ _ _ _ _ q=>add_int q
theorem Dn:Ih X (binaryOp .Sub) (SL fun i j=>.int (i - j)):=UM fun _ _ _ _ _ _ _ q=>sub_int q
theorem TU:Ih X (binaryOp .Mult) (rI CMul fun i j=>.int (i*j)):=Um fun _ _ _ _ _ _ _ hc q=>mul_int q hc.ok
theorem RU:Ih X (binaryOp .FloorDiv) (rI V5 fun i j=>.int (i / j)):=Um fun i j _ _ _ _ _ hc q=>by
 have h1:(0:Int)<j:=hc.1
 have h2:j<1073741824:=hc.2
 exact floordiv_int (by omega) (by rw [Int.fdiv_eq_ediv_of_nonneg i (by omega)];exact q) (.inl (PyProof.noPylong_small (by omega)))
theorem JM:Ih X (binaryOp .Mod) (rI (fun _ j=>0<j) fun i j=>.int (i % j)):=Um fun i j _ _ _ _ _ hc q=>by
 have h1:(0:Int)<j:=hc
 exact mod_int' (by omega) (by rw [Int.fmod_eq_emod_of_nonneg i (by omega)];exact q)
theorem Ve {f:Value->Sem Value} {g:Int->Int}
  (rule:∀ (i:Int) (t:Tok) (s:Shared) (Q:Value->Shared->Prop) (E:Value->Shared->Prop),Q (.int (g i) s.toks) { s with toks:=s.toks+1 }->wpAny (model X.prog X.w) X.A (f (.int i t)) Q E s) :
  V7 X f (rU fun i=>.int (g i)):=by
 intro pins s σ H x v Q I rx h
 obtain ⟨i,rfl,q⟩:=h
 obtain ⟨t,rfl⟩:=rx
 exact rule i t s _ _ ⟨.int (g i),H,I.tok _,⟨_,rfl⟩,q⟩
theorem Av:V7 X (unaryOp .USub) (rU fun i=>.int (-i)):=Ve fun _ _ _ _ _ q=>neg_int q
end
noncomputable def TB:V->V->Bool
 | .non,.non=>true | .non,.int _=>true | .int _,.non=>true | .non,.bl _=>true | .bl _,.non=>true | .non,.str _=>true | .str _,.non=>true
 | .int _,.int _=>true | .bl _,.bl _=>true | .str _,.str _=>true | .byt _,.byt _=>true
 | .int _,.str _=>true | .str _,.int _=>true | .bl _,.str _=>true | .str _,.bl _=>true
 | _,_=>false
noncomputable def Vc:R2:=fun x y H Q=>TB x y=true/\Q (.bl (decide (x=y))) H
noncomputable def Vi:R2:=fun x y H Q=>TB x y=true/\Q (.bl (!decide (x=y))) H
theorem On {i j:Int}:decide (V.int i=V.int j)=(i==j):=by
 rw [Bool.eq_iff_iff]
 simp
theorem R5 {i j:Bool}:decide (V.bl i=V.bl j)=(i==j):=by
 rw [Bool.eq_iff_iff]
 simp
theorem OL {i j:Str}:decide (V.str i=V.str j)=(i==j):=by
 rw [Bool.eq_iff_iff]
 simp
theorem OK {i j:Array UInt8}:decide (V.byt i=V.byt j)=(i.toList==j.toList):=by
 rw [Bool.eq_iff_iff]
 cases i
 cases j
 simp
section
variable {X:Cx} {a b c:Expr} {ta tb tc:TE} {pos:Pos}
theorem Ar {pins:List (Addr×Obj)} {σ:St} {H:Hp} {s:Shared} {Q:VK} {k k':Bool} (I:Inv X pins σ H s) (q:Q (.bl k) H) (e:k=k'):EP X pins σ Q (.bool k') s:=by
 subst e
 exact ⟨.bl k,H,I,rfl,q⟩
theorem Af:Ih X (compareOp .Eq) Vc:=by
 intro pins s σ H x y v u Q I rx ry h
 obtain ⟨hs,q⟩:=h
 cases x with
 | non =>
  cases rx
  cases y with
  | non=>cases ry;exact PySem.EqNone.eq_none_none (Ar I q (by simp))
  | bl j=>cases ry;exact PySem.EqNone.eq_none_bool (Ar I q (by simp))
  | int j=>obtain ⟨t',rfl⟩:=ry;exact PySem.EqNone.eq_none_int (Ar I q (by simp))
  | str j=>obtain ⟨t',rfl⟩:=ry;exact PySem.EqNone.eq_none_str (Ar I q (by simp))
  | _=>exact absurd (show false=true from hs) Bool.false_ne_true
 | bl i =>
  cases rx
  cases y with
  | non=>cases ry;exact PySem.EqNone.eq_bool_none (Ar I q (by simp))
  | bl j=>cases ry;exact eq_bool (Ar I q R5)
  | str j=>obtain ⟨t',rfl⟩:=ry;exact PySem.EqMixed.eq_bool_str (Ar I q (by simp))
  | _=>exact absurd (show false=true from hs) Bool.false_ne_true
 | int i =>
  obtain ⟨t,rfl⟩:=rx
  cases y with
  | non=>cases ry;exact PySem.EqNone.eq_int_none (Ar I q (by simp))
  | int j=>obtain ⟨t',rfl⟩:=ry;exact eq_int (Ar I q On)
  | str j=>obtain ⟨t',rfl⟩:=ry;exact PySem.EqMixed.eq_int_str (Ar I q (by simp))
  | _=>exact absurd (show false=true from hs) Bool.false_ne_true
 | str i =>
  obtain ⟨t,rfl⟩:=rx
  cases y with
  | non=>cases ry;exact PySem.EqNone.eq_str_none (Ar I q (by simp))
  | bl j=>cases ry;exact PySem.EqMixed.eq_str_bool (Ar I q (by simp))
  | int j=>obtain ⟨t',rfl⟩:=ry;exact PySem.EqMixed.eq_str_int (Ar I q (by simp))
  | str j=>obtain ⟨t',rfl⟩:=ry;exact eq_str (Ar I q OL)
  | _=>exact absurd (show false=true from hs) Bool.false_ne_true
 | byt i =>
  obtain ⟨t,rfl⟩:=rx
  cases y with
  | byt j=>obtain ⟨t',rfl⟩:=ry;exact PySem.W.eq_bytes (Ar I q OK)
  | _=>exact absurd (show false=true from hs) Bool.false_ne_true
 | _=>cases y <;> exact absurd (show false=true from hs) Bool.false_ne_true
theorem ME:Ih X (compareOp .NotEq) Vi:=by
 intro pins s σ H x y v u Q I rx ry h
 obtain ⟨hs,q⟩:=h
 cases x with
 | non =>
  cases rx
  cases y with
  | non=>cases ry;exact PySem.EqNone.ne_none_none (Ar I q (by simp))
  | bl j=>cases ry;exact PySem.EqNone.ne_none_bool (Ar I q (by simp))
  | int j=>obtain ⟨t',rfl⟩:=ry;exact PySem.EqNone.ne_none_int (Ar I q (by simp))
  | str j=>obtain ⟨t',rfl⟩:=ry;exact PySem.EqNone.ne_none_str (Ar I q (by simp))
  | _=>exact absurd (show false=true from hs) Bool.false_ne_true
 | bl i =>
  cases rx
  cases y with
  | non=>cases ry;exact PySem.EqNone.ne_bool_none (Ar I q (by simp))
  | bl j=>cases ry;exact ne_bool (Ar I q (congrArg not R5))
  | str j=>obtain ⟨t',rfl⟩:=ry;exact PySem.EqMixed.ne_bool_str (Ar I q (by simp))
  | _=>exact absurd (show false=true from hs) Bool.false_ne_true
 | int i =>
  obtain ⟨t,rfl⟩:=rx
  cases y with
  | non=>cases ry;exact PySem.EqNone.ne_int_none (Ar I q (by simp))
  | int j=>obtain ⟨t',rfl⟩:=ry;exact ne_int (Ar I q (congrArg not On))
  | str j=>obtain ⟨t',rfl⟩:=ry;exact PySem.EqMixed.ne_int_str (Ar I q (by simp))
  | _=>exact absurd (show false=true from hs) Bool.false_ne_true
 | str i =>
  obtain ⟨t,rfl⟩:=rx
  cases y with
  | non=>cases ry;exact PySem.EqNone.ne_str_none (Ar I q (by simp))
  | bl j=>cases ry;exact PySem.EqMixed.ne_str_bool (Ar I q (by simp))
  | int j=>obtain ⟨t',rfl⟩:=ry;exact PySem.EqMixed.ne_str_int (Ar I q (by simp))
  | str j=>obtain ⟨t',rfl⟩:=ry;exact ne_str (Ar I q (congrArg not OL))
  | _=>exact absurd (show false=true from hs) Bool.false_ne_true
 | byt i =>
  obtain ⟨t,rfl⟩:=rx
  cases y with
  | byt j=>obtain ⟨t',rfl⟩:=ry;exact PySem.W.ne_bytes (Ar I q (congrArg not OK))
  | _=>exact absurd (show false=true from hs) Bool.false_ne_true
 | _=>cases y <;> exact absurd (show false=true from hs) Bool.false_ne_true
theorem Ep:Ih X (compareOp .Lt) (SL fun i j=>.bl (decide (i<j))):=Rb fun _ _ _ _ _ _ _ q=>lt_int q
theorem GE:Ih X (compareOp .LtE) (SL fun i j=>.bl (decide (i<=j))):=Rb fun _ _ _ _ _ _ _ q=>le_int q
theorem FO:Ih X (compareOp .Gt) (SL fun i j=>.bl (decide (j<i))):=Rb fun _ _ _ _ _ _ _ q=>gt_int q
theorem QF:Ih X (compareOp .GtE) (SL fun i j=>.bl (decide (j<=i))):=Rb fun _ _ _ _ _ _ _ q=>ge_int q
theorem K3:Ih X (compareOp .Is) (fun x y H Q=>y=.non/\Q (.bl (decide (x=.non))) H):=by
 intro pins s σ H x y v u Q I rx ry h
 obtain ⟨rfl,q⟩:=h
 cases ry
 refine is_none_gen (Ar I q ?_)
 cases x <;> first
  | (cases rx;rfl)
  | (obtain ⟨t,rfl⟩:=rx;rfl)
theorem Ev:Ih X (compareOp .IsNot) (fun x y H Q=>y=.non/\Q (.bl (!decide (x=.non))) H):=by
 intro pins s σ H x y v u Q I rx ry h
 obtain ⟨rfl,q⟩:=h
 cases ry
 refine isnot_none_gen (Ar I q ?_)
 cases x <;> first
  | (cases rx;rfl)
  | (obtain ⟨t,rfl⟩:=rx;rfl)
theorem AG (b:Expr) {op:CmpOp} (h:op≠.In:=by decide) (h2:op≠.NotIn:=by decide):behindInMarks op b=false:=by
 have e1:(op==CmpOp.In)=false:=by cases op <;> first | rfl | exact absurd rfl h
 have e2:(op==CmpOp.NotIn)=false:=by cases op <;> first | rfl | exact absurd rfl h2
 cases b <;> simp [behindInMarks,e1,e2]
theorem B5 {op:CmpOp} {r:R2} (ho:Ih X (compareOp op) r) (ha:PE X a ta) (hb:PE X b tb) (hm:behindInMarks op b=false):PE X (.Compare a [op] [b] pos) (Ub r ta tb):=by
 intro pins s σ H Q I h
 exact wpAny_Compare1 (T3 ha hb I h fun v u s2 x y H2 I2 rx ry q=>ho pins s2 σ H2 x y v u Q I2 rx ry q) hm
noncomputable def SN (t:TE):TT:=fun σ H Q=>t σ H fun x H'=>∃ k,x=.bl k/\Q k H'
theorem AA {op:CmpOp} {r:R2} (ho:Ih X (compareOp op) r) (ha:PE X a ta) (hb:PE X b tb) (hm:behindInMarks op b=false):PT X (.Compare a [op] [b] pos) (SN (Ub r ta tb)):=by
 intro pins s σ H Q I h
 refine wpAny_isTrue_Compare1 (B7 (ha pins s σ H _ I h) fun v s1 ⟨x,H1,I1,r1,q1⟩=>B7 (hb pins s1 σ H1 _ I1 q1) fun u s2 ⟨y,H2,I2,r2,q2⟩ =>
  B7 (ho pins s2 σ H2 x y v u _ I2 r1 r2 q2) fun c s3 ⟨z,H3,I3,r3,k,e,q3⟩=>?_) hm
 subst e
 cases r3
 exact wpAny_truthy_bool ⟨H3,I3,q3⟩
noncomputable def Qv (r r':R2) (ta tb tc:TE):TE:=fun σ H Q=>ta σ H fun x H1=>tb σ H1 fun y H2=>r x y H2 fun z H3=>∃ k,z=.bl k /\
 (if k=true then tc σ H3 fun w' H4=>r' y w' H4 Q else Q (.bl false) H3)
theorem Q5 {op op':CmpOp} {r r':R2} (ho:Ih X (compareOp op) r) (ho':Ih X (compareOp op') r') (ha:PE X a ta) (hb:PE X b tb) (hc:PE X c tc)
  (hm:lastMarks [op,op'] [b,c]=false:=by with_unfolding_all rfl):PE X (.Compare a [op,op'] [b,c] pos) (Qv r r' ta tb tc):=by
 intro pins s σ H Q I h
 refine Compare_chain (B7 (ha pins s σ H _ I h) fun v s1 ⟨x,H1,I1,r1,q1⟩=>chain_link (B7 (hb pins s1 σ H1 _ I1 q1) fun u s2 ⟨y,H2,I2,r2,q2⟩ =>
  B7 (ho pins s2 σ H2 x y v u _ I2 r1 r2 q2) fun d s3 ⟨z,H3,I3,r3,k,e,q3⟩=>?_)) hm
 subst e
 cases r3
 refine wpAny_truthy_bool ?_
 cases k with
 | false=>exact ite_ff ⟨.bl false,H3,I3,rfl,q3⟩
 | true=>exact ite_tt (chain_last (B7 (hc pins s3 σ H3 _ I3 q3) fun w' s4 ⟨z',H4,I4,r4,q4⟩=>ho' pins s4 σ H4 y z' u w' Q I4 r2 r4 q4))
theorem MZ {op op':CmpOp} {r r':R2} (ho:Ih X (compareOp op) r) (ho':Ih X (compareOp op') r') (ha:PE X a ta) (hb:PE X b tb) (hc:PE X c tc)
  (hm:lastMarks [op,op'] [b,c]=false:=by with_unfolding_all rfl):PT X (.Compare a [op,op'] [b,c] pos) (SN (Qv r r' ta tb tc)):=by
 intro pins s σ H Q I h
 refine isTrue_chain (B7 (ha pins s σ H _ I h) fun v s1 ⟨x,H1,I1,r1,q1⟩=>test_link (B7 (hb pins s1 σ H1 _ I1 q1) fun u s2 ⟨y,H2,I2,r2,q2⟩ =>
  B7 (ho pins s2 σ H2 x y v u _ I2 r1 r2 q2) fun d s3 ⟨z,H3,I3,r3,k,e,q3⟩=>?_)) hm
 subst e
 cases r3
 refine wpAny_truthy_bool ?_
 cases k with
 | false =>
  obtain ⟨k',e',q'⟩:=q3
  cases e'
  exact ite_ff ⟨H3,I3,q'⟩
 | true =>
  refine ite_tt (test_last (B7 (hc pins s3 σ H3 _ I3 q3) fun w' s4 ⟨z',H4,I4,r4,q4⟩=>B7 (ho' pins s4 σ H4 y z' u w' _ I4 r2 r4 q4) fun d' s5 ⟨z2,H5,I5,r5,k2,e2,q5⟩=>?_))
  subst e2
  cases r5
  exact wpAny_truthy_bool ⟨H5,I5,q5⟩
theorem LD:(sizeLine:Nat)<2 ^ 63:=by rw [sizeLine_eq];decide
theorem Qe {x:V} {us:List Value} (r:Vals [x] us):∃ u,us=[u]/\RelV x u:=by
 cases r with
 | cons r1 r2=>cases r2;exact ⟨_,rfl,r1⟩
theorem UU {x y:V} {us:List Value} (r:Vals [x,y] us):∃ u w',us=[u,w']/\RelV x u/\RelV y w':=by
 cases r with
 | cons r1 r2 =>
  cases r2 with
  | cons r3 r4=>cases r4;exact ⟨_,_,rfl,r1,r3⟩
theorem Pu (hc:X.calm=true):CallR X (.builtin "max") (fun xs H Q=>∃ i j,xs=[.int i,.int j]/\Q (.int (if j > i then j else i)) H):=by
 intro pins s σ H xs us Q I r h
 obtain ⟨i,j,rfl,q⟩:=h
 obtain ⟨u,w',rfl,⟨t,rfl⟩,⟨t',rfl⟩⟩:=UU r
 refine max_two_ints (I.ok.hd hc) fun h' tk k=>⟨_,H,I.kept k,?_,q⟩
 by_cases hj:j > i
 .rw [if_pos hj,if_pos hj];exact ⟨_,rfl⟩
 .rw [if_neg hj,if_neg hj];exact ⟨_,rfl⟩
end
end L2
namespace L2
open PySem PySem.Spec PyProof.Rows
structure ObjM (h:Heap) (x dx C:Addr) (mA:Str->Option Value):Prop where
 obj:h.get? x=some (PySem.W.instObj C dx)
 ns:h.Ns1 dx mA
 ne:dx≠x
theorem P7 {h:Heap} {dx:Addr} {mA:Str->Option Value} (n:h.Ns1 dx mA):∃ od,h.get? dx=some od/\∀ name,PySem.W.lookIn name od=some (mA name):=by
 obtain ⟨o,es,ep,ho,hd,hk,_,hm⟩:=n
 refine ⟨o,ho,fun name=>?_⟩
 have e:=hm name
 unfold nsFind findBy at e
 rw [<-Array.find?_toList] at e
 unfold PySem.W.lookIn
 rw [hd]
 dsimp only
 split
 .rename_i y q
  rw [q] at e
  exact congrArg some e
 .rename_i q
  rw [q] at e
  have a:es.toList.any (·.refKey)=false:=by
   rw [List.any_eq_false]
   intro y hy
   obtain ⟨z,t,hkey⟩:=hk y (Array.mem_toList_iff.mp hy)
   simp [DictEntry.refKey,hkey]
  have a':¬es.toList.any (·.refKey)=true:=by rw [a];exact Bool.false_ne_true
  rw [if_neg a']
  exact congrArg some e
theorem ObjM.look {h:Heap} {x dx C:Addr} {mA:Str->Option Value} (I:ObjM h x dx C mA):∃ od,PySem.W.InstAt h x (PySem.W.instObj C dx) C (some od)/\∀ name,PySem.W.lookIn name od=some (mA name) :=
 let ⟨od,ho,hl⟩:=P7 I.ns
 ⟨od,⟨I.obj,rfl,rfl,ho⟩,hl⟩
section
variable {prog:Program} {w:World} {A:Around} {E:Value->Shared->Prop} {s:Shared} {K:PySem.W.Frag} {x dx C f:Addr} {mA:Str->Option Value} {name:Str} {v:Value}
theorem S5 {expr:Bool} {Q:Value->Shared->Prop} (X:K.In s.heap) (I:ObjM s.heap x dx C mA) (hg:PySem.W.plainGet K C name=true) (hh:PySem.W.hasDictIn K C=true)
  (ha:PySem.W.findIn K (.ref C) name=some none) (hv:mA name=some v) (hv':PySem.W.handedIn v=true) (h:Q v { s with toks:=s.toks+1 }) :
  wpAny (model prog w) A (getAttr (.ref x) name expr) Q E s:=by
 obtain ⟨od,J,hl⟩:=I.look
 exact PySem.W.get_value X J (PySem.W.plainGet_of hg).1 (PySem.W.findObj_own hh ha rfl (by rw [hl,hv])) hv' h
theorem R9 {pl:Sem Bool} {Q:Value×List Value->Shared->Prop} (X:K.In s.heap) (I:ObjM s.heap x dx C mA) (hg:PySem.W.plainGet K C name=true)
  (hf:PySem.W.findIn K (.ref C) name=some (some (.ref f))) (ht:PySem.W.isFn K (.ref f)=true) (hv:mA name=none) (h:Q (.ref f,[.ref x]) s) :
  wpAny (model prog w) A (getMethod (.ref x) name pl) Q E s:=by
 obtain ⟨od,J,hl⟩:=I.look
 exact PySem.W.method_fn X J (PySem.W.plainGet_of hg).1 (PySem.W.plainGet_of hg).2 hf (beq_iff_eq.mp ht) (by show (PySem.W.lookIn name od).map (·.isSome)=some false;rw [hl,hv];rfl) h
theorem RS {ns:List Str} {Q:Unit->Shared->Prop} (X:K.In s.heap) (I:ObjM s.heap x dx C mA)
  (hs:PySem.W.findIn K (.ref C) "__setattr__" = some (some (.builtin "object.__setattr__"))) (hp:PySem.W.plainOver K C=true) (ht:PySem.W.takerIn K C name=some none) (hh:PySem.W.hasDictIn K C=true)
  (hw:PySem.Within mA ns) (hsz:ns.length<=sizeLine)
  (h:∀ h',ObjM h' x dx C (fun y=>if y=name then some v else mA y)->Heap.SameBut dx s.heap h'->Q () { s with heap:=h',toks:=s.toks+2 }) :
  wpAny (model prog w) A (setAttr (.ref x) name v) Q E s:=by
 obtain ⟨od,J,hl⟩:=I.look
 refine PySem.W.set_plain X J hs (PySem.W.osa_open (s:={ s with toks:=s.toks+1 }) (r:=none) X J hp ht fun b=>?_)
 obtain ⟨cd,hc,hd'⟩:=PySem.W.any_some hh
 have hx:s.heap.get? x=some ⟨.ref C,some dx,.plain,#[]⟩:=I.obj
 refine wpAny_bind (wpAny_pure (wpAny_bind (wpAny_bind (wpAny_loadPart hx (wpAny_bind (PySem.W.Looks.here (s:={ s with toks:=s.toks+1 }) (PySem.W.looks_clsIn X hc) ?_))))))
 rw [hd']
 refine wpAny_pure (a:=some dx) (wpAny_bind (wpAny_pure (wpAny_bind ?_)))
 refine wpAny_nsSet1 (s:={ s with toks:=s.toks+1 }) I.ns fun h' hn2 hs2=>?_
 obtain ⟨oD,esD,epD,hoD,hdD,hcD⟩:=hn2.count (PySem.Within.cons name v hw)
 refine wpAny_bind (wpAny_lookBehind hoD (by rw [hdD];exact pastItsLine_dict (Nat.le_trans hcD (by rw [List.length_cons];omega))) ?_)
 exact wpAny_pure (h _ ⟨(hs2.2 _ (Ne.symm I.ne)).trans I.obj,hn2,I.ne⟩ hs2)
theorem QZ {R:Result->Shared->Prop} {vs:List Value} {kw:List (Str×Value)} (X:K.In s.heap) (hm:PySem.W.makesIn K C=true)
  (hi:PySem.W.findIn K (.ref C) "__init__" = some (some (.ref f))) (hf:PySem.W.typeIn K (.ref f)=some (.type "function"))
  (h:codeAny (model prog w) (A.under (.builtin "type.__call__" ⟨.ref C::vs,kw⟩)) (.call (.ref f) ⟨.ref (s.heap.objs.size+1)::vs,kw⟩) (PySem.W.InitBack (s.heap.objs.size+1) R)
   { s with heap:=(s.heap.push PySem.W.emptyDict).push (PySem.W.instObj C s.heap.objs.size) }) :
  codeAny (model prog w) A (.call (.ref C) ⟨vs,kw⟩) R s:=by
 obtain ⟨hh,g,d,t,os⟩:=s
 exact PySem.W.make_core (PySem.W.makes_of X hm) (PySem.W.looks_findIn X hi) (fun self=>PySem.W.bind_fn X self hf) (.inl rfl) h
end
noncomputable def Cm (f:Str) (v:V):List (Str×V)->List (Str×V)
 | []=>[(f,v)]
 | (g,x)::r=>if g=f then (g,v)::r else (g,x)::Cm f v r
theorem IL (f g:Str) (v:V):∀ fs:List (Str×V),(Cm f v fs).lookup g=if g=f then some v else fs.lookup g
 | []=>by
  show List.lookup g [(f,v)]=_
  by_cases h:g=f
  .have hb:(g==f)=true:=beq_iff_eq.mpr h
   simp only [List.lookup,hb,if_pos h]
  .have hb:(g==f)=false:=beq_eq_false_iff_ne.mpr h
   simp only [List.lookup,hb,if_neg h]
 | (k,x)::r=>by
  have ih:=IL f g v r
  rw [show Cm f v ((k,x)::r)=(if k=f then (k,v)::r else (k,x)::Cm f v r) from rfl]
  by_cases hk:k=f
  .rw [if_pos hk]
   by_cases h:g=k
   .have hb:(g==k)=true:=beq_iff_eq.mpr h
    simp only [List.lookup,hb,if_pos (h.trans hk)]
   .have hb:(g==k)=false:=beq_eq_false_iff_ne.mpr h
    simp only [List.lookup,hb,if_neg (fun e:g=f=>h (e.trans hk.symm))]
  .rw [if_neg hk]
   by_cases h:g=k
   .have hb:(g==k)=true:=beq_iff_eq.mpr h
    simp only [List.lookup,hb,if_neg (fun e:g=f=>hk (h.symm.trans e))]
   .have hb:(g==k)=false:=beq_eq_false_iff_ne.mpr h
    simp only [List.lookup,hb]
    exact ih
theorem IB (f:Str) (v:V):∀ fs:List (Str×V),f∈(Cm f v fs).map (·.1)/\∀ g,g∈fs.map (·.1)->g∈(Cm f v fs).map (·.1)
 | []=>⟨by simp [Cm],fun g h=>by simp at h⟩
 | (k,x)::r=>by
  obtain ⟨i1,i2⟩:=IB f v r
  rw [show Cm f v ((k,x)::r)=(if k=f then (k,v)::r else (k,x)::Cm f v r) from rfl]
  by_cases hk:k=f
  .rw [if_pos hk]
   subst hk
   exact ⟨by simp,fun g h=>by simpa using h⟩
  .rw [if_neg hk]
   refine ⟨?_,fun g h=>?_⟩
   .rw [List.map_cons]
    exact List.mem_cons_of_mem _ i1
   .rw [List.map_cons] at h ⊢
    rcases List.mem_cons.mp h with e | e
    .exact List.mem_cons.mpr (.inl e)
    .exact List.mem_cons_of_mem _ (i2 g e)
theorem II (f:Str) (v:V):∀ fs:List (Str×V),(Cm f v fs).length<=fs.length+1
 | []=>by simp [Cm]
 | (k,x)::r=>by
  have ih:=II f v r
  rw [show Cm f v ((k,x)::r)=(if k=f then (k,v)::r else (k,x)::Cm f v r) from rfl]
  by_cases hk:k=f
  .rw [if_pos hk,List.length_cons,List.length_cons];omega
  .rw [if_neg hk,List.length_cons,List.length_cons];omega
theorem RelO.some_of {v:V} {o:Option Value} (r:RelO (some v) o):∃ u,o=some u/\RelV v u:=by
 cases o with
 | none=>exact (show False from r).elim
 | some u=>exact ⟨u,rfl,r⟩
theorem RelO.none_of {o:Option Value} (r:RelO none o):o=none:=by
 cases o with
 | none=>rfl
 | some u=>exact (show False from r).elim
theorem PU {v:V} {u:Value} (r:RelV v u):PySem.W.handedIn u=true:=by
 cases v with
 | non=>cases (show u=Value.none from r);rfl
 | bl b=>cases (show u=Value.bool b from r);rfl
 | int i=>obtain ⟨t,e⟩:=(show ∃ t,u=Value.int i t from r);cases e;rfl
 | str x=>obtain ⟨t,e⟩:=(show ∃ t,u=Value.str x t from r);cases e;rfl
 | byt b=>obtain ⟨t,e⟩:=(show ∃ t,u=Value.bytes b t from r);cases e;rfl
 | flt b=>obtain ⟨t,e⟩:=(show ∃ t,u=Value.float b t from r);cases e;rfl
 | ref a=>cases (show u=Value.ref a from r);rfl
 | ty n=>cases (show u=Value.type n from r);rfl
section
variable {P:Program} {w:World} {H H':Hp} {h h':Heap} {a C dx:Addr} {fs fs':List (Str×V)}
theorem LG (hok:HOk P w H h) (e:H a=some (.ins C dx fs)):∃ mA,ObjM h a dx C mA/\(∀ f,RelO (fs.lookup f) (mA f))/\PySem.Within mA (fs.map (·.1))/\fs.length<=1000/\H dx=some (.own a):=by
 obtain ⟨d,z,ne,ob,mA,n,r,q⟩:=(show ObjOk P w H h a (.ins C dx fs) from hok a _ e)
 exact ⟨mA,⟨ob,n,ne⟩,r,q,z,d⟩
end
structure Cls (K:PySem.W.Frag) (C:Addr):Prop where
 pg:PySem.W.plainGet K C Str.empty=true
 hd:PySem.W.hasDictIn K C=true
 po:PySem.W.plainOver K C=true
 sa:PySem.W.findIn K (.ref C) "__setattr__" = some (some (.builtin "object.__setattr__"))
theorem Cls.get {K:PySem.W.Frag} {C:Addr} (c:Cls K C) (f:Str):PySem.W.plainGet K C f=true:=c.pg
noncomputable def NoAttr (K:PySem.W.Frag) (C:Addr) (f:Str):Prop:=PySem.W.findIn K (.ref C) f=some none
theorem NoAttr.taker {K:PySem.W.Frag} {C:Addr} {f:Str} (n:NoAttr K C f):PySem.W.takerIn K C f=some none:=by
 unfold PySem.W.takerIn
 rw [show PySem.W.findIn K (.ref C) f=some none from n]
 rfl
structure P1 (K:PySem.W.Frag) (C:Addr) (m:Str) (f:Addr):Prop where
 at_:PySem.W.findIn K (.ref C) m=some (some (.ref f))
 fn:PySem.W.isFn K (.ref f)=true
 kp:PySem.W.keepIn K (.ref f)=true
section
variable {X:Cx} {pins:List (Addr×Obj)} {σ:St} {H:Hp} {s:Shared} {a C dx:Addr} {fs:List (Str×V)} {f:Str} {v:V} {A:Around} {E:Value->Shared->Prop}
theorem JJ {b:Bool} {Q:Value->Shared->Prop} (I:Inv X pins σ H s) (e:H a=some (.ins C dx fs)) (c:Cls X.K C) (n:NoAttr X.K C f) (l:fs.lookup f=some v)
  (h:∀ u s',Inv X pins σ H s'->RelV v u->Q u s'):wpAny (model X.prog X.w) A (getAttr (.ref a) f b) Q E s:=by
 obtain ⟨mA,O,r,_,_,_⟩:=LG I.hok e
 obtain ⟨u,hu,ru⟩:=RelO.some_of (v:=v) (o:=mA f) (by rw [<-l];exact r f)
 exact S5 I.kIn O (c.get f) c.hd n hu (PU ru) (h u _ (I.tok _) ru)
theorem GT {m:Str} {g:Addr} {pl:Sem Bool} {Q:Value×List Value->Shared->Prop} (I:Inv X pins σ H s) (e:H a=some (.ins C dx fs)) (c:Cls X.K C) (k:P1 X.K C m g) (l:fs.lookup m=none)
  (h:Q (.ref g,[.ref a]) s):wpAny (model X.prog X.w) A (getMethod (.ref a) m pl) Q E s:=by
 obtain ⟨mA,O,r,_,_,_⟩:=LG I.hok e
 have hn:mA m=none:=RelO.none_of (by rw [<-l];exact r m)
 exact R9 I.kIn O (c.get m) k.at_ k.fn hn h
theorem Jq {y:V} {u:Value} {Q:Unit->Shared->Prop} (I:Inv X pins σ H s) (e:H a=some (.ins C dx fs)) (c:Cls X.K C) (n:NoAttr X.K C f) (hl:fs.length<1000) (ry:RelV y u)
  (h:∀ s',Inv X pins σ (upd H a (.ins C dx (Cm f y fs))) s'->Q () s'):wpAny (model X.prog X.w) A (setAttr (.ref a) f u) Q E s:=by
 obtain ⟨mA,O,r,wi,_,ho⟩:=LG I.hok e
 have hz:(fs.map (·.1)).length<=sizeLine:=by rw [ZE,sizeLine_eq];omega
 refine RS I.kIn O c.sa c.po n.taker c.hd wi hz fun h' O' sb=>h _ ?_
 have hd:∃ o,h'.get? dx=some o:=let ⟨o,_,_,e',_⟩:=O'.ns;⟨o,e'⟩
 refine I.write (x:=a) (e:=dx) (by rw [e];exact True.intro) (.inr ho) (fun b q hb z=>(sb.2 b hb).trans z) hd ?_
 refine ⟨by rw [AQ O.ne];exact ho,?_,O.ne,O'.obj,_,O'.ns,fun g=>?_,fun g hg=>?_⟩
 .have:=II f y fs;omega
 .show RelO ((Cm f y fs).lookup g) (if g=f then some u else mA g)
  rw [IL]
  by_cases q:g=f
  .rw [if_pos q,if_pos q];exact ry
  .rw [if_neg q,if_neg q];exact r g
 .by_cases q:g=f
  .rw [q];exact (IB f y fs).1
  .refine (IB f y fs).2 g (wi g fun z=>hg ?_)
   show (if g=f then some u else mA g)=none
   rw [if_neg q];exact z
theorem Inv.made (I:Inv X pins σ H s):Inv X pins σ (upd (upd H s.heap.objs.size (.own (s.heap.objs.size+1))) (s.heap.objs.size+1) (.ins C s.heap.objs.size []))
  { s with heap:=(s.heap.push PySem.W.emptyDict).push (PySem.W.instObj C s.heap.objs.size) }:=by
 have e1:(s.heap.push PySem.W.emptyDict).get? s.heap.objs.size=some PySem.W.emptyDict:=Heap.get?_push_size s.heap rfl
 have e2:((s.heap.push PySem.W.emptyDict).push (PySem.W.instObj C s.heap.objs.size)).get? (s.heap.objs.size+1)=some (PySem.W.instObj C s.heap.objs.size):=by
  have:=Heap.get?_push_size (s.heap.push PySem.W.emptyDict) (o:=PySem.W.instObj C s.heap.objs.size) rfl
  rwa [Heap.size_push] at this
 have e3:(s.heap.push PySem.W.emptyDict).Ns s.heap.objs.size (fun _=>none):=⟨PySem.W.emptyDict,#[],_,e1,rfl,(fun e he=>absurd he (by simp)),fun _=>rfl⟩
 have I1:=I.laid (a:=s.heap.objs.size) (o:=.own (s.heap.objs.size+1)) (h':=s.heap.push PySem.W.emptyDict) (t':=s.toks) (fun b u q=>Heap.get?_push_of_some _ q) (Nat.le_refl _) ⟨_,e1⟩
 refine I1.laid (a:=s.heap.objs.size+1) (o:=.ins C s.heap.objs.size []) (t':=s.toks) (fun b u q=>Heap.get?_push_of_some _ q) (Nat.le_of_eq (Heap.size_push _ _)) ?_
 have ne:s.heap.objs.size≠s.heap.objs.size+1:=Nat.ne_of_lt (Nat.lt_succ_self _)
 refine ⟨by rw [AQ ne,A2],Nat.zero_le _,ne,e2,fun _=>none,(Heap.Ns1.of_empty e3).at fun o q=>Heap.get?_push_of_some _ q,fun _=>True.intro,fun y hy=>absurd rfl hy⟩
theorem RN {prog:Program} {w:World} {env:Env} {e:Expr} {f:Str} {pos:Pos} {s:Shared} {Q:Value->Shared->Prop} (hb:attributeBase e f env (eval e env)=eval e env)
  (h:wpAny (model prog w) A (eval e env) (fun o s₁=>wpAny (model prog w) A (getAttr o f true) Q E s₁) E s):wpAny (model prog w) A (eval (.Attribute e f pos) env) Q E s :=
 Attribute_any_ h (by rw [arm_eval_Attribute,hb])
end
noncomputable def U0 (K:PySem.W.Frag) (ta:TE) (f:Str):TE:=fun σ H Q=>ta σ H fun x H1=>∃ a C dx fs v,x=.ref a/\H1 a=some (.ins C dx fs)/\Cls K C/\NoAttr K C f/\fs.lookup f=some v/\Q v H1
noncomputable def Ux (K:PySem.W.Frag) (ta tv:TE) (f:Str):TS:=fun D σ H=>tv σ H fun y H1=>ta σ H1 fun x H2=>∃ a C dx fs,x=.ref a/\H2 a=some (.ins C dx fs)/\Cls K C/\NoAttr K C f/\fs.length<1000 /\
 D.nx σ (upd H2 a (.ins C dx (Cm f y fs)))
noncomputable def TY (X:Cx) (op:Operator) (rd:V->V->Hp->VK->Prop):Prop :=
 ∀ (pins:List (Addr×Obj)) (s:Shared) (σ:St) (H:Hp) (x y:V) (u v:Value) (Q:VK),Inv X pins σ H s->RelV x u->RelV y v->rd x y H Q->wpAny (model X.prog X.w) X.A (inplaceOp op u v) (EP X pins σ Q) X.xe s
noncomputable def Ra (K:PySem.W.Frag) (ta tv:TE) (rd:V->V->Hp->VK->Prop) (f:Str):TS:=fun D σ H=>ta σ H fun x H1=>∃ a C dx fs v,x=.ref a/\H1 a=some (.ins C dx fs)/\Cls K C/\NoAttr K C f/\fs.lookup f=some v /\
 tv σ H1 fun y H2=>rd v y H2 fun z H3=>∃ dx' fs',H3 a=some (.ins C dx' fs')/\fs'.length<1000/\D.nx σ (upd H3 a (.ins C dx' (Cm f z fs')))
section
variable {X:Cx} {o e value:Expr} {f:Str} {pos pos' tpos:Pos} {ta tv:TE}
theorem Sa (he:PE X e ta) (hb:attributeBase e f X.env (eval e X.env)=eval e X.env):PE X (.Attribute e f pos) (U0 X.K ta f):=by
 intro pins s σ H Q I h
 refine RN hb (B7 (he pins s σ H _ I h) fun u s1 ⟨x,H1,I1,rx,a,C,dx,fs,v,ex,ea,c,n,l,q⟩=>?_)
 subst ex
 obtain rfl:u=Value.ref a:=rx
 exact JJ I1 ea c n l fun u' s2 I2 ru=>⟨v,H1,I2,ru,q⟩
theorem BF (ha:PE X o ta) (hv:PE X value tv) (hs:swapsWith value (some (.Attribute o f pos')) pos.line X.env=pure false):PS X (.Assign [.Attribute o f pos'] value pos) (Ux X.K ta tv f):=by
 intro pins s σ H D I h
 refine plainObj_wpAny_Assign_Attribute (B7 (hv pins s σ H _ I h) fun u s1 ⟨y,H1,I1,ry,q⟩=>B7 (ha pins s1 σ H1 _ I1 q) fun ov s2 ⟨x,H2,I2,rx,a,C,dx,fs,ex,ea,c,n,l,q2⟩=>?_) hs
 subst ex
 obtain rfl:ov=Value.ref a:=rx
 exact Jq I2 ea c n l ry fun s3 I3=>⟨σ,_,I3,q2⟩
theorem Cc {op:Operator} {rd:V->V->Hp->VK->Prop} (ha:PE X o ta) (hv:PE X value tv) (hop:TY X op rd):PS X (.AugAssign (.Attribute o f tpos) op value pos) (Ra X.K ta tv rd f):=by
 intro pins s σ H D I h
 refine wpAny_AugAssign_AttributeAny (B7 (ha pins s σ H _ I h) fun ov s1 ⟨x,H1,I1,rx,a,C,dx,fs,v,ex,ea,c,n,l,q⟩=>?_)
 subst ex
 obtain rfl:ov=Value.ref a:=rx
 refine JJ I1 ea c n l fun u s2 I2 ru=>B7 (hv pins s2 σ H1 _ I2 q) fun w3 s3 ⟨y,H2,I3,ry,q3⟩=>B7 (hop pins s3 σ H2 v y u w3 _ I3 ru ry q3) fun w4 s4 ⟨z,H3,I4,rz,dx',fs',ea',l',q4⟩=>?_
 exact Jq I4 ea' c n l' rz fun s5 I5=>⟨σ,_,I5,q4⟩
noncomputable def V6:V->V->Hp->VK->Prop:=fun x y H Q=>∃ i j,x=.int i/\y=.int j/\Q (.int (i+j)) H
noncomputable def VE:V->V->Hp->VK->Prop:=fun x y H Q=>∃ i j,x=.int i/\y=.int j/\Q (.int (i - j)) H
theorem JB:TY X .Add V6:=by
 rintro pins s σ H x y u v Q I rx ry ⟨i,j,rfl,rfl,q⟩
 obtain ⟨t,rfl⟩:=(show ∃ t,u=Value.int i t from rx)
 obtain ⟨t',rfl⟩:=(show ∃ t',v=Value.int j t' from ry)
 exact PyProof.Rows.iadd_int ⟨.int (i+j),H,I.tok _,⟨_,rfl⟩,q⟩
theorem NP:TY X .Sub VE:=by
 rintro pins s σ H x y u v Q I rx ry ⟨i,j,rfl,rfl,q⟩
 obtain ⟨t,rfl⟩:=(show ∃ t,u=Value.int i t from rx)
 obtain ⟨t',rfl⟩:=(show ∃ t',v=Value.int j t' from ry)
 exact PyProof.Rows.isub_int ⟨.int (i - j),H,I.tok _,⟨_,rfl⟩,q⟩
theorem SR {pl:Sem Bool} {m:Str} {apos:Pos} {args:List Expr} {pins:List (Addr×Obj)} {s:Shared} {σ:St} {H:Hp} {Q:Value->Shared->Prop} {te:TE} (he:PE X e te) (I:Inv X pins σ H s)
  (h:te σ H fun x H1=>∃ a C dx fs g,x=.ref a/\H1 a=some (.ins C dx fs)/\Cls X.K C/\P1 X.K C m g/\fs.lookup m=none /\
   ∀ s1,Inv X pins σ H1 s1->wpAny (model X.prog X.w) X.A (callWith pos (.ref g) [.ref a] (backTo pos (starEach args X.env)) (backToKw pos (keywordEach [] X.env))) Q X.xe s1)
  (ht:eval (.Call (.Attribute e m apos) args [] pos) X.env=(do
   let ov <-eval e X.env
   standAt apos.atName
   let (f,first) <-holding [ov] (getMethod ov m pl)
   callWith pos f first (backTo pos (starEach args X.env)) (backToKw pos (keywordEach [] X.env)))) :
  wpAny (model X.prog X.w) X.A (eval (.Call (.Attribute e m apos) args [] pos) X.env) Q X.xe s:=by
 refine PySem.W.methodCall_KW (pl:=pl) (B7 (he pins s σ H _ I h) fun u s1 ⟨x,H1,I1,rx,a,C,dx,fs,g,ex,ea,c,k,l,q⟩=>?_) ht
 subst ex
 obtain rfl:u=Value.ref a:=rx
 exact GT I1 ea c k l (q s1 I1)
end
end L2
namespace L2
open PySem PySem.Spec PyProof.Rows
structure Room (k:Nat) (A:Around):Prop where
 hd:A.handled=none
 dp:A.depth+3*k+5<recursionLimit
 un:A.units+16*k+200<cLine
theorem Room.mono {j k:Nat} {A:Around} (r:Room k A) (h:j<=k):Room j A:=⟨r.hd,by have:=r.dp;omega,by have:=r.un;omega⟩
theorem Room.deeper {k:Nat} {A:Around} (r:Room (k+1) A) (env:Env):Room k (A.deeper env) :=
 ⟨r.hd,by have:=r.dp;show A.depth+1+3*k+5<_;omega,by have:=r.un;show A.units+3+16*k+200<_;omega⟩
theorem NO {A:Around} {C:Addr} {us:List Value} {kw:List (Str×Value)}:(A.under (.builtin "type.__call__" ⟨.ref C::us,kw⟩)).depth=A.depth+1:=by
 first | rfl | simp [Around.under,Code.weight,Code.isCreation,Code.isGuard,Code.isCaller,Code.frames,Code.isFrame,guardIds]
theorem Nl {A:Around} {C:Addr} {us:List Value} {kw:List (Str×Value)}:(A.under (.builtin "type.__call__" ⟨.ref C::us,kw⟩)).units=A.units+1:=by
 first | rfl | simp [Around.under,Code.cUnits,Code.frames,Code.isFrame]
theorem Room.make {k:Nat} {A:Around} (r:Room (k+1) A) (C:Addr) (us:List Value) (kw:List (Str×Value)):Room k (A.under (.builtin "type.__call__" ⟨.ref C::us,kw⟩)) :=
 ⟨r.hd,by have:=r.dp;rw [NO];omega,by have:=r.un;rw [Nl];omega⟩
theorem Room.depth {k:Nat} {A:Around} (r:Room k A):A.depth<recursionLimit:=by have:=r.dp;omega
theorem Room.units {k:Nat} {A:Around} (r:Room k A):A.units+64<cLine:=by have:=r.un;omega
noncomputable def Qp:TA:=fun _ H Q=>Q [] H
noncomputable def UT (ta:TE) (tr:TA):TA:=fun σ H Q=>ta σ H fun x H1=>tr σ H1 fun xs H2=>Q (x::xs) H2
section
variable {X:Cx} {e:Expr} {es:List Expr} {te:TE} {t:TA} {pos:Pos}
theorem A4:PA X [] Qp:=fun _ _ _ _ H Q I h=>Calls.spliced_nil ⟨[],H,I,.nil,h⟩
theorem A0 (ha:PE X e te) (hr:PA X es t) (hs:starEach (e::es) X.env=(false,eval e X.env)::starEach es X.env:=by rfl):PA X (e::es) (UT te t):=by
 intro pos pins s σ H Q I h
 rw [hs]
 show wpAny _ _ (spliced ((false,eval e X.env)::backTo pos (starEach es X.env))) _ _ s
 refine Calls.spliced_cons (B7 (ha pins s σ H _ I h) fun u s1 ⟨x,H1,I1,r1,q1⟩=>?_)
 exact B7 (hr pos pins s1 σ H1 _ I1 q1) fun us s2 ⟨xs,H2,I2,r2,q2⟩=>⟨x::xs,H2,I2,.cons r1 r2,q2⟩
noncomputable def VH (t:TA):TE:=fun σ H Q=>t σ H fun xs H1=>xs.length<=sizeLine/\∀ p,H1 p=none->Q (.ref p) (upd H1 p (.tup xs))
noncomputable def VD (t:TA):TE:=fun σ H Q=>t σ H fun xs H1=>xs.length<=sizeLine/\∀ p,H1 p=none->Q (.ref p) (upd H1 p (.lst xs))
theorem Bq {x1} (h:PA X es t):PE X (.Tuple es x1 pos) (VH t):=by
 intro pins s σ H Q I hq
 refine wpAny_Tuple_spliced (B7 (h pos pins s σ H _ I hq) fun us s1 ⟨xs,H1,I1,r,z,q⟩=>⟨by rw [<-r.length];exact z,?_⟩)
 have hf:H1 s1.heap.objs.size=none:=I1.hok.fresh (Nat.le_refl _)
 refine ⟨.ref s1.heap.objs.size,upd H1 s1.heap.objs.size (.tup xs),I1.laid (t':=s1.toks) (fun b u e=>Heap.get?_push_of_some _ e) (Nat.le_refl _) ?_,rfl,q _ hf⟩
 exact ⟨z,us,r,⟨_,Heap.get?_push_size _ rfl,rfl,_,rfl⟩⟩
theorem Ac (h:PA X es t):PE X (.List es pos) (VD t):=by
 intro pins s σ H Q I hq
 refine wpAny_List_spliced (B7 (h pos pins s σ H _ I hq) fun us s1 ⟨xs,H1,I1,r,z,q⟩=>⟨by rw [<-r.length];exact z,?_⟩)
 have hf:H1 s1.heap.objs.size=none:=I1.hok.fresh (Nat.le_refl _)
 refine ⟨.ref s1.heap.objs.size,upd H1 s1.heap.objs.size (.lst xs),I1.laid (t':=s1.toks) (fun b u e=>Heap.get?_push_of_some _ e) (Nat.le_refl _) ?_,rfl,q _ hf⟩
 exact ⟨z,us,0,r,Heap.get?_push_size _ rfl⟩
end
abbrev Sp:=List V->Hp->VK->XK->Prop
abbrev QP:=List Env->Hp->Shared->XK->Value->Shared->Prop
structure Env0 (P:Program) (w:World) (K:PySem.W.Frag) (mg:Str->Option Value) (base:Heap) (A:Around) (outer:List Env) (s:Shared) (H:Hp):Prop where
 frames:A.frames=some outer
 mod:Mod K mg base
 bs:∀ b o,base.get? b=some o->s.heap.get? b=some o/\H b=none
 bsz:base.objs.size<=s.heap.objs.size
 funs:s.heap.FunFrames base outer
 frf:∀ b∈frs outer,H b=none
 hok:HOk P w H s.heap
 bare:AllBare s.gens
noncomputable def CE (outer:List Env) (P:Program) (w:World) (H:Hp) (s:Shared) (Q:VK) (u:Value) (s':Shared):Prop :=
 ∃ v H',s'.os=s.os/\AllBare s'.gens/\Un (frs outer) [] H H' s.heap s'.heap/\HOk P w H' s'.heap/\RelV v u/\Q v H'
noncomputable def CR (CX:QP) (outer:List Env) (P:Program) (w:World) (H:Hp) (s:Shared) (Q:VK) (E:XK) (r:Result) (s':Shared):Prop :=
 match r with
 | .ok (.ret u)=>CE outer P w H s Q u s'
 | .ok _=>False
 | .error e=>CX outer H s E e s'
structure FL (P:Program) (w:World) (K:PySem.W.Frag) (mg:Str->Option Value) (base:Heap) (CX:QP) (k:Nat) (f:Addr) (fd:FuncData) (ps:List Str) (sp:Sp):Prop where
 len:∀ vs H Q E,sp vs H Q E->vs.length=ps.length
 run:∀ (A:Around) (outer:List Env) (s:Shared) (H:Hp) (args:Args) (us:List Value) (vs:List V) (Q:VK) (E:XK),Room k A->Env0 P w K mg base A outer s H->BindsTo s fd args (ps.zip us)->Vals vs us->sp vs H Q E ->
  codeAny (model P w) A (.call (.ref f) args) (CR CX outer P w H s Q E) s
theorem Env0.make {P:Program} {w:World} {K:PySem.W.Frag} {mg:Str->Option Value} {base:Heap} {A:Around} {outer:List Env} {s:Shared} {H:Hp} (e:Env0 P w K mg base A outer s H) (C:Addr) (us:List Value) (kw:List (Str×Value)) :
  Env0 P w K mg base (A.under (.builtin "type.__call__" ⟨.ref C::us,kw⟩)) outer s H:=⟨by first | exact e.frames | (simpa [Around.under,Code.envs,Code.isFrame,pushEnvs] using e.frames),e.mod,e.bs,e.bsz,e.funs,e.frf,e.hok,e.bare⟩
section
variable {X:Cx} {pins:List (Addr×Obj)} {σ:St} {H:Hp} {s s':Shared}
theorem Inv.env0 (I:Inv X pins σ H s):Env0 X.prog X.w X.K X.mg X.base X.A X.stack s H :=
 ⟨I.ok.frames,I.ok.mod,I.bs,Nat.le_trans I.ok.bsz I.sz,I.stack,I.stkFree,I.hok,I.bare⟩
theorem Inv.after {Q:VK} {u:Value} (I:Inv X pins σ H s) (h:CE X.stack X.prog X.w H s Q u s'):EP X pins σ Q u s':=by
 obtain ⟨v,H',os,bare,un,hok,r,q⟩:=h
 obtain ⟨hh,g,d,t,os'⟩:=s'
 obtain rfl:os'=s.os:=os
 exact ⟨v,H',I.call (h':=hh) (g':=g) (d':=d) (t':=t) (ch:=[]) un hok bare (fun b z=>absurd z (by simp)),r,q⟩
end
noncomputable def SK (sp:Sp) (dvs:List V) (E:XK) (t:TA):TE:=fun σ H Q=>t σ H fun vs H1=>sp (vs++dvs) H1 Q E
noncomputable def Oo (C:Addr) (m:Str) (sp:Sp) (dvs:List V) (E:XK) (ta:TE) (t:TA):TE:=fun σ H Q=>ta σ H fun x H1=>∃ a dx fs,x=.ref a/\H1 a=some (.ins C dx fs)/\fs.lookup m=none /\
 t σ H1 fun vs H2=>sp (x::(vs++dvs)) H2 Q E
noncomputable def Ow (C:Addr) (sp:Sp) (dvs:List V) (E:XK) (t:TA):TE:=fun σ H Q=>t σ H fun vs H1=>∀ x dx,H1 x=none->H1 dx=none->dx≠x ->
 sp (.ref x::(vs++dvs)) (upd (upd H1 dx (.own x)) x (.ins C dx [])) (fun v H2=>v=.non/\Q (.ref x) H2) E
noncomputable def Binds (K:PySem.W.Frag) (fd:FuncData) (ps:List Str) (ds:List Value):Prop :=
 ∀ (s:Shared) (us:List Value),K.In s.heap->(us++ds).length=ps.length->BindsTo s fd ⟨us,[]⟩ (ps.zip (us++ds))
theorem Binds.all {K:PySem.W.Frag} {fd:FuncData} {ps:List Str} (h:∀ us:List Value,us.length=ps.length->bindArgs fd ⟨us,[]⟩=pure (ps.zip us)):Binds K fd ps []:=fun s us _ hl=>by
 rw [List.append_nil] at hl ⊢
 exact .of_eq (h us hl)
noncomputable def Fe (CX:QP) (X:Cx) (E:XK):Prop:=∀ (pins:List (Addr×Obj)) (σ:St) (H:Hp) (s:Shared) (e:Value) (s':Shared),Inv X pins σ H s->CX X.stack H s E e s'->X.xe e s'
section
variable {X:Cx} {CX:QP} {k:Nat} {f C:Addr} {fd:FuncData} {ps:List Str} {sp:Sp} {dvs:List V} {ds:List Value} {E:XK} {x m:Str} {p pos apos:Pos} {e o:Expr} {es:List Expr} {ta:TE} {t:TA}
theorem No {pins:List (Addr×Obj)} {σ:St} {H:Hp} {s:Shared} {Q:VK} {us:List Value} {vs:List V} (F:FL X.prog X.w X.K X.mg X.base CX k f fd ps sp) (hr:Room k X.A) (hb:Binds X.K fd ps ds) (hd:Vals dvs ds) (hx:Fe CX X E)
  (I:Inv X pins σ H s) (r:Vals vs us) (h:sp (vs++dvs) H Q E):wpAny (model X.prog X.w) X.A (call (.ref f) us) (EP X pins σ Q) X.xe s:=by
 have r2:Vals (vs++dvs) (us++ds):=r.append hd
 have hl:(us++ds).length=ps.length:=by rw [<-r2.length];exact F.len _ _ _ _ h
 refine wpAny_call (codeAny_mono (F.run X.A X.stack s H ⟨us,[]⟩ (us++ds) (vs++dvs) Q E hr I.env0 (hb s us I.kIn hl) r2 h) fun r s' hq=>?_)
 cases r with
 | error e=>exact hx pins σ H s e s' I hq
 | ok fl =>
  cases fl with
  | ret u=>exact I.after hq
  | next=>exact False.elim hq
  | brk=>exact False.elim hq
  | cont=>exact False.elim hq
theorem S3 (F:FL X.prog X.w X.K X.mg X.base CX k f fd ps sp) (hr:Room k X.A) (hg:Gl X x) (hm:X.mg x=some (.ref f)) (hk:PySem.W.keepIn X.K (.ref f)=true) (hb:Binds X.K fd ps ds) (hd:Vals dvs ds) (hx:Fe CX X E)
  (ha:PA X (e::es) t) (hdb:(x==("__debug__" : Str))=false:=by decide) (he:starEach (e::es) X.env=(false,eval e X.env)::starEach es X.env:=by rfl) (hpl:(backTo pos (starEach es X.env)).any (·.1)=false:=by rfl) :
  PE X (.Call (.Name x p) (e::es) [] pos) (SK sp dvs E t):=by
 intro pins s σ H Q I h
 refine wpAny_Call_Name_kw (Ix I hg hm ?_ hdb)
 refine PySem.W.callWith_K (h₀:=X.base) I.ok.mod.kin hk (B7 (ha pos pins s σ H _ I h) fun us s1 ⟨vs,H1,I1,r,q⟩=>⟨I1.kIn,?_⟩) he hpl
 exact No F hr hb hd hx I1 r q
theorem RV {pl:Sem Bool} (he:PE X o ta) (c:Cls X.K C) (hm:P1 X.K C m f) (F:FL X.prog X.w X.K X.mg X.base CX k f fd ps sp) (hr:Room k X.A) (hb:Binds X.K fd ps ds) (hd:Vals dvs ds) (hx:Fe CX X E) (ha:PA X (e::es) t)
  (hst:starEach (e::es) X.env=(false,eval e X.env)::starEach es X.env:=by rfl) (hpl:(backTo pos (starEach es X.env)).any (·.1)=false:=by rfl)
  (ht:eval (.Call (.Attribute o m apos) (e::es) [] pos) X.env=(do
   let ov <-eval o X.env
   standAt apos.atName
   let (f,first) <-holding [ov] (getMethod ov m pl)
   callWith pos f first (backTo pos (starEach (e::es) X.env)) (backToKw pos (keywordEach [] X.env))):=by rfl) :
  PE X (.Call (.Attribute o m apos) (e::es) [] pos) (Oo C m sp dvs E ta t):=by
 intro pins s σ H Q I h
 refine PySem.W.methodCall_KW (pl:=pl) (B7 (he pins s σ H _ I h) fun u s1 ⟨x,H1,I1,rx,a,dx,fs,ex,ea,l,q⟩=>?_) ht
 subst ex
 obtain rfl:u=Value.ref a:=rx
 refine GT I1 ea c hm l ?_
 refine PySem.W.callWith_K (first:=[.ref a]) (h₀:=X.base) I.ok.mod.kin hm.kp (B7 (ha pos pins s1 σ H1 _ I1 q) fun us s2 ⟨vs,H2,I2,r,q2⟩=>⟨I2.kIn,?_⟩) hst hpl
 exact No (us:=.ref a::us) (vs:=.ref a::vs) F hr hb hd hx I2 (.cons rfl r) q2
theorem Q0 {pl:Sem Bool} (he:PE X o ta) (c:Cls X.K C) (hm:P1 X.K C m f) (F:FL X.prog X.w X.K X.mg X.base CX k f fd ps sp) (hr:Room k X.A) (hb:Binds X.K fd ps ds) (hd:Vals dvs ds) (hx:Fe CX X E)
  (ht:eval (.Call (.Attribute o m apos) [] [] pos) X.env=(do
   let ov <-eval o X.env
   standAt apos.atName
   let (f,first) <-holding [ov] (getMethod ov m pl)
   callWith pos f first (backTo pos (starEach [] X.env)) (backToKw pos (keywordEach [] X.env))):=by rfl) :
  PE X (.Call (.Attribute o m apos) [] [] pos) (Oo C m sp dvs E ta Qp):=by
 intro pins s σ H Q I h
 refine PySem.W.methodCall_KW (pl:=pl) (B7 (he pins s σ H _ I h) fun u s1 ⟨x,H1,I1,rx,a,dx,fs,ex,ea,l,q⟩=>?_) ht
 subst ex
 obtain rfl:u=Value.ref a:=rx
 refine GT I1 ea c hm l ?_
 exact PySem.W.callWith_K0 (first:=[.ref a]) I1.kIn hm.kp (No (us:=[.ref a]) (vs:=[.ref a]) F hr hb hd hx I1 (.cons rfl .nil) q)
structure Mk (K:PySem.W.Frag) (C f:Addr):Prop where
 makes:PySem.W.makesIn K C=true
 init:PySem.W.findIn K (.ref C) "__init__" = some (some (.ref f))
 fn:PySem.W.isFn K (.ref f)=true
 kp:PySem.W.keepIn K (.ref C)=true
theorem NG {pins:List (Addr×Obj)} {σ:St} {H:Hp} {s:Shared} {Q:VK} {us:List Value} {vs:List V} (M:Mk X.K C f) (F:FL X.prog X.w X.K X.mg X.base CX k f fd ps sp) (hr:Room (k+1) X.A) (hb:Binds X.K fd ps ds) (hd:Vals dvs ds)
  (hx:Fe CX X E) (I:Inv X pins σ H s) (r:Vals vs us)
  (h:∀ x dx,H x=none->H dx=none->dx≠x->sp (.ref x::(vs++dvs)) (upd (upd H dx (.own x)) x (.ins C dx [])) (fun v H2=>v=.non/\Q (.ref x) H2) E) :
  wpAny (model X.prog X.w) X.A (call (.ref C) us) (EP X pins σ Q) X.xe s:=by
 have hq:=h (s.heap.objs.size+1) s.heap.objs.size (I.hok.fresh (Nat.le_succ _)) (I.hok.fresh (Nat.le_refl _)) (Nat.ne_of_lt (Nat.lt_succ_self _))
 have I2:=Inv.made (C:=C) I
 have r2:Vals (V.ref (s.heap.objs.size+1)::(vs++dvs)) (Value.ref (s.heap.objs.size+1)::(us++ds)):=.cons rfl (r.append hd)
 have hl:(Value.ref (s.heap.objs.size+1)::us++ds).length=ps.length:=by
  have e:=r2.length
  rw [F.len _ _ _ _ hq] at e
  exact e.symm
 refine wpAny_call (QZ (f:=f) I.kIn M.makes M.init (beq_iff_eq.mp M.fn) (codeAny_mono (F.run _ X.stack _ _ ⟨Value.ref (s.heap.objs.size+1)::us,[]⟩ (Value.ref (s.heap.objs.size+1)::(us++ds)) _ _ E (hr.make C us [])
  (I2.env0.make C us []) (hb _ (Value.ref (s.heap.objs.size+1)::us) I2.kIn hl) r2 hq) fun r s' hq'=>?_))
 cases r with
 | error e=>exact hx pins σ _ _ e s' I2 hq'
 | ok fl =>
  cases fl with
  | ret u =>
   obtain ⟨v,H',I3,rv,ev,q3⟩:=I2.after hq'
   subst ev
   exact ⟨rv,⟨V.ref (s.heap.objs.size+1),H',I3,rfl,q3⟩⟩
  | next=>exact False.elim hq'
  | brk=>exact False.elim hq'
  | cont=>exact False.elim hq'
theorem Re (M:Mk X.K C f) (F:FL X.prog X.w X.K X.mg X.base CX k f fd ps sp) (hr:Room (k+1) X.A) (hg:Gl X x) (hm:X.mg x=some (.ref C)) (hb:Binds X.K fd ps ds) (hd:Vals dvs ds) (hx:Fe CX X E)
  (ha:PA X (e::es) t) (hdb:(x==("__debug__" : Str))=false:=by decide) (he:starEach (e::es) X.env=(false,eval e X.env)::starEach es X.env:=by rfl) (hpl:(backTo pos (starEach es X.env)).any (·.1)=false:=by rfl) :
  PE X (.Call (.Name x p) (e::es) [] pos) (Ow C sp dvs E t):=by
 intro pins s σ H Q I h
 refine wpAny_Call_Name_kw (Ix I hg hm ?_ hdb)
 refine PySem.W.callWith_K (h₀:=X.base) I.ok.mod.kin M.kp (B7 (ha pos pins s σ H _ I h) fun us s1 ⟨vs,H1,I1,r,q⟩=>⟨I1.kIn,?_⟩) he hpl
 exact NG M F hr hb hd hx I1 r q
theorem Qr (M:Mk X.K C f) (F:FL X.prog X.w X.K X.mg X.base CX k f fd ps sp) (hr:Room (k+1) X.A) (hg:Gl X x) (hm:X.mg x=some (.ref C)) (hb:Binds X.K fd ps ds) (hd:Vals dvs ds) (hx:Fe CX X E)
  (hdb:(x==("__debug__" : Str))=false:=by decide):PE X (.Call (.Name x p) [] [] pos) (Ow C sp dvs E Qp):=by
 intro pins s σ H Q I h
 refine wpAny_Call_Name_kw (Ix I hg hm ?_ hdb)
 exact PySem.W.callWith_K0 I.kIn M.kp (NG (us:=[]) M F hr hb hd hx I .nil h)
end
structure AB (N P:List Str) (sc:Scope):Prop where
 kind:sc.kind=.function
 co:sc.isCoroutine=false
 gen:sc.isGenerator=false
 nd:N.Nodup
 pre:N.take P.length=P
 par:∀ x∈P,sc.names.lookup x=some .local\/sc.names.lookup x=some .cell
 nofree:∀ y∈sc.names,y.2≠.free
theorem Kx {kindOf:Str->Option NameKind} {x:Str}:∀ {binds:List (Str×Value)} {m:Str->Option Value},(∀ v,(x,v)∉binds)->bindL kindOf binds m x=m x
 | [],_,_=>rfl
 | (n,v)::r,m,h=>by
  unfold bindL
  rw [Kx fun w hw=>h w (List.mem_cons_of_mem _ hw)]
  split
  .have:x≠n:=by rintro rfl;exact h v List.mem_cons_self
   simp [this]
  .rfl
theorem Ko {kindOf:Str->Option NameKind} {x:Str}:∀ {binds:List (Str×Value)} {m:Str->Option Value},(∀ v,(x,v)∉binds)->bindC kindOf binds m x=m x
 | [],_,_=>rfl
 | (n,v)::r,m,h=>by
  unfold bindC
  rw [Ko fun w hw=>h w (List.mem_cons_of_mem _ hw)]
  split
  .rfl
  .have:x≠n:=by rintro rfl;exact h v List.mem_cons_self
   simp [this]
theorem KQ {kindOf:Str->Option NameKind} {x:Str} {v:Value}:∀ {P:List Str} {vs:List Value} {i:Nat} {m:Str->Option Value},P.Nodup->P[i]?=some x->vs[i]?=some v->kindOf x=some .local ->
  bindL kindOf (P.zip vs) m x=some v
 | [],_,_,_,_,h,_,_=>by simp at h
 | _::_,[],_,_,_,_,h,_=>by simp at h
 | p::P,w::vs,0,m,nd,h1,h2,hk=>by
  simp at h1 h2;subst h1;subst h2
  show bindL kindOf ((p,w)::P.zip vs) m p=_
  unfold bindL
  rw [Kx fun v hv=>(List.nodup_cons.mp nd).1 (List.of_mem_zip hv).1,if_pos hk]
  simp
 | p::P,w::vs,i+1,m,nd,h1,h2,hk=>by
  show bindL kindOf ((p,w)::P.zip vs) m x=_
  unfold bindL
  exact KQ (i:=i) (List.nodup_cons.mp nd).2 (by simpa using h1) (by simpa using h2) hk
theorem Km {kindOf:Str->Option NameKind} {x:Str} {v:Value}:∀ {P:List Str} {vs:List Value} {i:Nat} {m:Str->Option Value},P.Nodup->P[i]?=some x->vs[i]?=some v->kindOf x≠some .local ->
  bindC kindOf (P.zip vs) m x=some v
 | [],_,_,_,_,h,_,_=>by simp at h
 | _::_,[],_,_,_,_,h,_=>by simp at h
 | p::P,w::vs,0,m,nd,h1,h2,hk=>by
  simp at h1 h2;subst h1;subst h2
  show bindC kindOf ((p,w)::P.zip vs) m p=_
  unfold bindC
  rw [Ko fun v hv=>(List.nodup_cons.mp nd).1 (List.of_mem_zip hv).1,if_neg hk]
  simp
 | p::P,w::vs,i+1,m,nd,h1,h2,hk=>by
  show bindC kindOf ((p,w)::P.zip vs) m x=_
  unfold bindC
  exact Km (i:=i) (List.nodup_cons.mp nd).2 (by simpa using h1) (by simpa using h2) hk
noncomputable def start (N:List Str) (vs:List V):St:=vs.map some++List.replicate (N.length - vs.length) none
noncomputable def Lm (CX:QP) (P:Program) (w:World) (K:PySem.W.Frag) (mg:Str->Option Value) (base:Heap) (N:List Str) (qual:Str) (scope:Scope) (f:Addr) (cd:Value) (A:Around) (outer:List Env) (s:Shared) (H:Hp) (E:XK):Cx where
 prog:=P
 w:=w
 K:=K
 mg:=mg
 base:=base
 A:=A.deeper (envOfC qual scope s.heap.objs.size f cd)
 N:=N
 s_0:=s
 H_0:=H
 env:=envOfC qual scope s.heap.objs.size f cd
 outer:=outer
 stack:=envOfC qual scope s.heap.objs.size f cd::outer
 ex:=[]
 calm:=true
 fn:=fun _=>true
 pn:=[]
 xe:=fun e s'=>wpAny (model P w) (A.deeper (envOfC qual scope s.heap.objs.size f cd)) (leaving (envOfC qual scope s.heap.objs.size f cd) e) (fun _ s''=>CX outer H s E e s'') (fun e' s''=>CX outer H s E e' s'') s'
theorem Mr {sc:Scope} {n:Nat} {x:Str} (h:sc.names.lookup x=some .cell):∃ c,(cellsFrom n sc.names []).lookup x=some c:=by
 have q:=PySem.W.cellsFrom_some sc.names n [] (.inl h)
 exact Option.isSome_iff_exists.mp q
theorem Oz {CX:QP} {P:Program} {w:World} {K:PySem.W.Frag} {mg:Str->Option Value} {base:Heap} {N ps:List Str} {qual:Str} {scope:Scope} {f:Addr} {cd:Value} {A:Around} {outer:List Env} {s s1:Shared} {H:Hp} {E:XK} {us:List Value} {vs:List V}
  (S:AB N ps scope) (hd:A.handled=none) (e0:Env0 P w K mg base A outer s H) (hl:vs.length=ps.length) (r:Vals vs us)
  (x:InCallC s s.heap.objs.size (bindL (envOfC qual scope s.heap.objs.size f cd).kindOf (ps.zip us) fun _=>none) (cellsFrom (s.heap.objs.size+1) scope.names []) (bindC (envOfC qual scope s.heap.objs.size f cd).kindOf (ps.zip us) fun _=>none) s1) :
  Inv (Lm CX P w K mg base N qual scope f cd A outer s H E) [] (start N vs) H s1:=by
 have hpl:ps.length<=N.length:=by have:=congrArg List.length S.pre;rw [List.length_take] at this;omega
 obtain ⟨h1,tk,rfl,hk⟩:=x.done
 have noA:∀ b:Addr,b∉(Lm CX P w K mg base N qual scope f cd A outer s H E).ex:=fun b z=>absurd (show b∈([]:List Addr) from z) (by simp)
 refine ⟨⟨e0.mod,S.kind,rfl,rfl,Nat.le_refl _,fun y z c h1 h2=>?_,fun y hy=>?_,fun y c _ h=>?_,fun _=>hd,Around.frames_deeper e0.frames,.inr ⟨rfl,rfl⟩,fun b z=>absurd z (noA b),e0.bs,e0.bsz,fun b _ _=>noA b,fun b z=>absurd z (noA b),e0.funs,e0.frf⟩,
  rfl,e0.bare,Un.kept hk,⟨_,x.toInCall.ns,fun i y v h1 h2 h3=>?_⟩,fun y c h=>⟨_,x.cell y c h⟩,e0.hok.fresh (Nat.le_refl _),fun y c h=>?_,fun p hp=>absurd (show p∈([]:List (Addr×Obj)) from hp) (by simp),e0.hok.kept hk,?_⟩
 .exact name_of_addr x.apart (PySem.mem_of_lookup h1) (PySem.mem_of_lookup h2)
 .have hy:scope.names.lookup y=some .cell\/scope.names.lookup y=some .free:=hy
  rcases hy with hy | hy
  .exact Mr hy
  .exact absurd rfl (S.nofree _ (PySem.mem_of_lookup hy))
 .exact Nat.le_of_lt (x.above y c (PySem.mem_of_lookup h))
 .have hi:i<vs.length:=by
   unfold start at h2
   by_cases hi:i<vs.length
   .exact hi
   .rw [List.getElem?_append_right (by simpa using hi)] at h2
    rw [List.getElem?_replicate] at h2
    split at h2 <;> cases h2
  have ha:vs[i]?=some v:=by
   unfold start at h2
   rw [List.getElem?_append_left (by simpa using hi),List.getElem?_map] at h2
   cases e:vs[i]? with
   | none=>rw [e] at h2;cases h2
   | some a=>rw [e] at h2;cases h2;rfl
  obtain ⟨u,hu,rv⟩:=r.get ha
  have hp:ps[i]?=some y:=by
   rw [<-S.pre,List.getElem?_take_of_lt (by omega)];exact h1
  have ndP:ps.Nodup:=by rw [<-S.pre];exact S.nd.sublist (List.take_sublist _ _)
  refine ⟨u,rv,?_⟩
  rcases S.par y (ZD hp) with k | k
  .exact .inl ⟨k,KQ ndP hp hu k⟩
  .obtain ⟨c,e⟩:=Mr (n:=s.heap.objs.size+1) k
   refine .inr ⟨.inl k,c,e,?_⟩
   have q:=x.cell y c e
   rw [Km ndP hp hu (by show scope.names.lookup y≠_;rw [k];decide)] at q
   exact q
 .exact e0.hok.fresh (Nat.le_of_lt (x.above y c (PySem.mem_of_lookup h)))
 .unfold start
  show _=N.length
  rw [List.length_append,ZE,List.length_replicate]
  omega
theorem Tz {CX:QP} {P:Program} {w:World} {K:PySem.W.Frag} {mg:Str->Option Value} {base:Heap} {k:Nat} {f:Addr} {name qual:Str} {params:Arguments} {body:List Stmt} {scope:Scope} {dV kV doc pm cdv ct oc:Value} {an od:Option Addr}
  {osl:Array (Option Value)} {N ps:List Str} {sp:Sp} (lk:K.lookup f=some ⟨oc,od,.func (PySem.W.fnOf name qual params body scope dV kV doc pm an cdv ct),osl⟩) (hcd:PySem.W.codeIn K cdv qual=true) (S:AB N ps scope)
  (len:∀ vs H Q E,sp vs H Q E->vs.length=ps.length)
  (hbody:∀ (A:Around) (outer:List Env) (s:Shared) (H:Hp) (vs:List V) (Q:VK) (E:XK),Room k (A.deeper (envOfC qual scope s.heap.objs.size f cdv))->sp vs H Q E ->
   ∃ t,PSs (Lm CX P w K mg base N qual scope f cdv A outer s H E) body t/\t { nx:=fun _ H'=>Q .non H',rt:=Q } (start N vs) H) :
  FL P w K mg base CX (k+1) f (PySem.W.fnOf name qual params body scope dV kV doc pm an cdv ct) ps sp:=by
 refine ⟨len,fun A outer s H args us vs Q E hr e0 hb r hsp=>?_⟩
 have hl:=len _ _ _ _ hsp
 have KX:K.In s.heap:=e0.mod.kin.keeps fun b o e=>(e0.bs b o e).1
 have lim:s.heap.NoLimit:=e0.mod.nolimit.keeps fun b o e=>(e0.bs b o e).1
 have hkind:∀ y∈ps.zip us,scope.names.lookup y.1=some .local\/(scope.names.lookup y.1=some .cell/\((cellsFrom (s.heap.objs.size+1) scope.names []).lookup y.1).isSome=true):=fun ⟨n,v⟩ hy=>by
  rcases S.par n (List.of_mem_zip hy).1 with q | q
  .exact .inl q
  .exact .inr ⟨q,PySem.W.cellsFrom_some _ _ _ (.inl q)⟩
 refine codeAny_call_function hr.depth (KX _ _ lk) rfl S.co S.gen rfl (PySem.W.codeRec_of KX hcd) (hb _ _ _ _ ?_)
 refine wpAny_newFunctionEnv_cells S.kind hkind fun env he s1 x=>?_
 subst he
 refine ⟨lim.keeps x.toInCall.keep,codeAny_func ?_⟩
 obtain ⟨t,ht,hq⟩:=hbody A outer s H vs Q E (hr.deeper _) hsp
 have I:Inv (Lm CX P w K mg base N qual scope f cdv A outer s H E) [] (start N vs) H s1:=Oz S hr.hd e0 hl r x
 refine wpAny_mono (ht [] s1 (start N vs) H _ I hq) (fun fl s' hs=>?_) fun e s' hs=>hs
 have fin:∀ {σ':St} {H':Hp} {v:V} {u:Value},Inv (Lm CX P w K mg base N qual scope f cdv A outer s H E) [] σ' H' s'->RelV v u->Q v H'->CE outer P w H s Q u s' :=
  fun {σ' H' v u} J rv q=>⟨v,H',J.os,J.bare,J.base,J.hok,rv,q⟩
 cases fl with
 | ret u =>
  obtain ⟨v,σ',H',J,rv,q⟩:=hs
  exact fin J rv q
 | next =>
  obtain ⟨σ',H',J,q⟩:=hs
  exact fin (v:=V.non) (u:=Value.none) J rfl q
 | brk =>
  obtain ⟨_,_,_,q⟩:=hs
  exact False.elim q
 | cont =>
  obtain ⟨_,_,_,q⟩:=hs
  exact False.elim q
end L2
namespace L2
open PySem PySem.Spec PyProof.Rows
section
variable {X:Cx} {x:Str} {p pos:Pos} {e:Expr} {es:List Expr} {t:TA} {id T:String} {r:List V->Hp->VK->Prop}
noncomputable def VX (r:List V->Hp->VK->Prop) (t:TA):TE:=fun σ H Q=>t σ H fun vs H1=>r vs H1 Q
theorem AM (hc:CallR X (.builtin id) r) (hg:Gl X x) (hm:X.mg x=none) (hv:bootBuiltins x=some (.builtin id)) (ha:PA X (e::es) t) (hn:x ≠ "__name__" := by decide) (hdb:(x==("__debug__" : Str))=false:=by decide)
  (he:starEach (e::es) X.env=(false,eval e X.env)::starEach es X.env:=by rfl) (hpl:(backTo pos (starEach es X.env)).any (·.1)=false:=by rfl):PE X (.Call (.Name x p) (e::es) [] pos) (VX r t):=by
 intro pins s σ H Q I h
 refine wpAny_Call_Name_kw (Ff I hg hm hv ?_ hn hdb)
 exact PyProof.Rows.callWith_builtin1 (B7 (ha pos pins s σ H _ I h) fun us s1 ⟨vs,H1,I1,r1,q1⟩=>hc pins s1 σ H1 vs us Q I1 r1 q1) he hpl
theorem Fq (hc:CallR X (.type T) r) (hg:Gl X x) (hm:X.mg x=none) (hv:bootBuiltins x=some (.type T)) (ha:PA X (e::es) t) (hn:x ≠ "__name__" := by decide) (hdb:(x==("__debug__" : Str))=false:=by decide)
  (he:starEach (e::es) X.env=(false,eval e X.env)::starEach es X.env:=by rfl) (hpl:(backTo pos (starEach es X.env)).any (·.1)=false:=by rfl):PE X (.Call (.Name x p) (e::es) [] pos) (VX r t):=by
 intro pins s σ H Q I h
 refine wpAny_Call_Name_kw (Ff I hg hm hv ?_ hn hdb)
 exact PyProof.Rows.callWith_type1 (B7 (ha pos pins s σ H _ I h) fun us s1 ⟨vs,H1,I1,r1,q1⟩=>hc pins s1 σ H1 vs us Q I1 r1 q1) he hpl
end
end L2
namespace HT
open PySem PyProof.Rows
section
open PySem.SeqAt
open PySem.AutoSeq1 (wpAny_loadPart')
open PySem.MeetsSeq PySem.MeetsSeq2 PySem.MeetsSeq3
end
section
variable {prog:Program} {w:World} {A:Around} {E:Value->Shared->Prop} {s:Shared}
noncomputable def sIx (n d:Nat):Option Int->Nat
 | none=>d
 | some v=>if v<0 then (v+(n:Int)).toNat else min v.toNat n
theorem sIx_none (n d:Nat):sIx n d none=d:=rfl
theorem sIx_nat (n d k:Nat):sIx n d (some (k:Int))=min k n:=by
 show (if (k:Int)<0 then ((k:Int)+(n:Int)).toNat else min (k:Int).toNat n)=min k n
 rw [if_neg (by omega),Int.toNat_natCast]
end
end HT
namespace L2
open PySem PySem.Spec PyProof.Rows
abbrev TO:=St->Hp->(Option Int->Hp->Prop)->Prop
noncomputable def PO (X:Cx) (e:Option Expr) (t:TO):Prop :=
 ∀ (pins:List (Addr×Obj)) (s:Shared) (σ:St) (H:Hp) (Q:Option Int->Hp->Prop),Inv X pins σ H s->t σ H Q ->
  wpAny (model X.prog X.w) X.A (evalPart e X.env) (fun u s'=>∃ o H',Inv X pins σ H' s'/\IsPart u o/\Q o H') X.xe s
noncomputable def Rn:TO:=fun _ H Q=>Q none H
noncomputable def SE (t:TE):TO:=fun σ H Q=>t σ H fun x H1=>∃ i,x=.int i/\Q (some i) H1
section
variable {X:Cx} {e:Expr} {te:TE} {lo hi:Option Expr} {tl th:TO} {pos p2:Pos}
theorem S7:PO X none Rn:=by
 intro pins s σ H Q I h
 rw [evalPart_none]
 exact wpAny_pure ⟨none,H,I,.none,h⟩
theorem CC (h:PE X e te):PO X (some e) (SE te):=by
 intro pins s σ H Q I hw
 rw [evalPart_some]
 refine B7 (h pins s σ H _ I hw) fun u s1 ⟨x,H1,I1,r1,q1⟩=>?_
 obtain ⟨i,rfl,q⟩:=q1
 obtain ⟨t,rfl⟩:=r1
 exact ⟨some i,H1,I1,.int i t,q⟩
noncomputable def VP (X:Cx) (r:V->Option Int->Option Int->Hp->VK->Prop):Prop :=
 ∀ (pins:List (Addr×Obj)) (s:Shared) (σ:St) (H:Hp) (x:V) (v vl vu:Value) (lo hi:Option Int) (sl:Addr) (Q:VK),Inv X pins σ H s->RelV x v->s.heap.IsSliceOf sl vl vu .none->IsPart vl lo->IsPart vu hi->r x lo hi H Q ->
  ∃ T id,typeLookup (.type T) "__getitem__" = pure (some (.builtin id))/\s.TypeIs v T/\wpAny (model X.prog X.w) X.A (getItem v (.ref sl)) (EP X pins σ Q) X.xe s
noncomputable def VY (r:V->Option Int->Option Int->Hp->VK->Prop) (te:TE) (tl th:TO):TE:=fun σ H Q=>te σ H fun x H1=>tl σ H1 fun l H2=>th σ H2 fun u H3=>r x l u H3 Q
theorem Ek {r:V->Option Int->Option Int->Hp->VK->Prop} (hr:VP X r) (he:PE X e te) (hl:PO X lo tl) (hu:PO X hi th):PE X (.Subscript e (.Slice lo hi none p2) pos) (VY r te tl th):=by
 intro pins s σ H Q I h
 refine Subscript_ (B7 (he pins s σ H _ I h) fun v s1 ⟨x,H1,I1,r1,q1⟩=>?_)
 refine wpAny_Slice (B7 (hl pins s1 σ H1 _ I1 q1) fun vl s2 ⟨l,H2,I2,pl,q2⟩=>B7 (hu pins s2 σ H2 _ I2 q2) fun vu s3 ⟨u,H3,I3,pu,q3⟩=>?_)
 rw [evalPart_none]
 refine wpAny_pure ?_
 have I4:Inv X pins σ H3 { s3 with heap:=s3.heap.push { cls:=.type "slice",data:=.fields #[vl,vu,.none] } }:=I3.kept (t':=s3.toks) fun b ob q=>Heap.get?_push_of_some _ q
 obtain ⟨T,id,hT,ht,hg⟩:=hr pins { s3 with heap:=s3.heap.push { cls:=.type "slice",data:=.fields #[vl,vu,.none] } } σ H3 x v vl vu l u s3.heap.objs.size Q I4 r1 (Heap.IsSliceOf.new ..) pl pu q3
 show wpAny (model X.prog X.w) X.A (subscriptTail e (.Slice lo hi none p2) v (.ref s3.heap.objs.size)) (EP X pins σ Q) X.xe { s3 with heap:=s3.heap.push { cls:=.type "slice",data:=.fields #[vl,vu,.none] } }
 exact tail_any (ops:=[.ref s3.heap.objs.size,v]) ht hT hg (by with_unfolding_all rfl)
noncomputable def Hi (xs:List V) (lo hi:Option Int):List V:=(xs.drop (HT.sIx xs.length 0 lo)).take (HT.sIx xs.length xs.length hi - HT.sIx xs.length 0 lo)
theorem M6 (xs:List V) (lo hi:Option Int):(Hi xs lo hi).length<=xs.length:=by
 unfold Hi
 rw [List.length_take,List.length_drop]
 omega
end
end L2
namespace L2
open PySem PySem.Spec PyProof.Rows
noncomputable def RB (n:Nat) (i:Int):Option Nat:=if 0<=i then (if i<n then some i.toNat else none) else if -(n:Int)<=i then some (i+n).toNat else none
noncomputable def Lw {α:Type} (xs:List α) (i:Int):Option α:=(RB xs.length i).bind fun j=>xs[j]?
theorem OY {n:Nat} {i:Int} {j:Nat} (h:RB n i=some j):seqIndex? i n=some j/\j<n/\-(n:Int)<=i/\i<n:=by
 unfold RB at h
 by_cases h0:0<=i
 .rw [if_pos h0] at h
  by_cases h1:i<n
  .rw [if_pos h1] at h
   have e:i.toNat=j:=ZC h
   exact ⟨by rw [seqIndex_of h0 h1,e],by omega,by omega,h1⟩
  .rw [if_neg h1] at h;cases h
 .rw [if_neg h0] at h
  by_cases h1:-(n:Int)<=i
  .rw [if_pos h1] at h
   have e:(i+n).toNat=j:=ZC h
   exact ⟨by rw [seqIndex_neg (by omega) h1,e],by omega,h1,by omega⟩
  .rw [if_neg h1] at h;cases h
theorem OR {α:Type} {xs:List α} {i:Int} {v:α} (h:Lw xs i=some v):∃ j,seqIndex? i xs.length=some j/\xs[j]?=some v/\j<xs.length/\-(xs.length:Int)<=i/\i<xs.length:=by
 unfold Lw at h
 cases e:RB xs.length i with
 | none=>rw [e] at h;cases h
 | some j =>
  rw [e] at h
  obtain ⟨h1,h2,h3,h4⟩:=OY e
  exact ⟨j,h1,h,h2,h3,h4⟩
theorem AH {α:Type} {xs:List α} {j:Nat} {v:α} (h:xs[j]?=some v):Lw xs (j:Int)=some v:=by
 have hj:j<xs.length:=(ZB.mp h).1
 have e:RB xs.length (j:Int)=some j:=by
  unfold RB
  rw [if_pos (by omega),if_pos (by omega)];simp
 unfold Lw;rw [e];exact h
noncomputable def RE (b:Expr):Prop:=∀ o i,subscripted b false o i=operate [o,i] (getItem o i)
noncomputable def Tr (X:Cx) (r:R2):Prop :=
 ∀ (value slice:Expr) (pins:List (Addr×Obj)) (s:Shared) (σ:St) (H:Hp) (x y:V) (v u:Value) (Q:VK),Inv X pins σ H s->RelV x v->RelV y u->r x y H Q ->
  subscripted slice false v u=operate [v,u] (getItem v u)->wpAny (model X.prog X.w) X.A (subscriptTail value slice v u) (EP X pins σ Q) X.xe s
noncomputable def V9 (X:Cx) (id:String) (r:V->List V->Hp->VK->Prop):Prop :=
 ∀ (pins:List (Addr×Obj)) (s:Shared) (σ:St) (H:Hp) (x:V) (xs:List V) (v:Value) (us:List Value) (Q:VK),Inv X pins σ H s->RelV x v->Vals xs us->r x xs H Q ->
  wpAny (model X.prog X.w) X.A (call (.builtin id) (v::us)) (EP X pins σ Q) X.xe s
section
variable {X:Cx} {a b:Expr} {ta tb:TE} {pos:Pos}
theorem AE {r:R2} (hr:Tr X r) (ha:PE X a ta) (hb:PE X b tb) (hs:RE b):PE X (.Subscript a b pos) (Ub r ta tb):=by
 intro pins s σ H Q I h
 exact Subscript_ (T3 ha hb I h fun v u s2 x y H2 I2 rx ry q=>hr a b pins s2 σ H2 x y v u Q I2 rx ry q (hs _ _))
noncomputable def Tv (K:PySem.W.Frag):R2:=fun x y H Q=>∃ p xs i v,x=.ref p/\y=.int i/\SqL K H p xs/\Lw xs i=some v/\Q v H
noncomputable def UI (K:PySem.W.Frag):R2:=fun x y H Q=>∃ p xs i v,x=.ref p/\y=.int i/\SqT K H p xs/\Lw xs i=some v/\Q v H
theorem RJ:Tr X (Tv X.K):=by
 intro value slice pins s σ H x y v u Q I rx ry h hs
 obtain ⟨p,xs,i,z,rfl,rfl,hq,he,q⟩:=h
 cases rx
 obtain ⟨t,rfl⟩:=ry
 obtain ⟨its,r,pl,hz⟩:=I.list hq
 obtain ⟨j,h1,h2,h3,h4,h5⟩:=OR he
 obtain ⟨w,ew,rw'⟩:=r.get h2
 have hl:=r.length
 have hn:=LD
 have fin:EP X pins σ Q w s:=⟨z,H,I,rw',q⟩
 by_cases h0:0<=i
 .have hj:i.toNat=j:=by
   rw [seqIndex_of h0 h5] at h1
   exact ZC h1
  exact item_listR pl.isList h0 (by omega) (by rw [hj];simpa using ew) fin hs
 .have hj:(i+(its.toArray.size:Int)).toNat=j:=by
   rw [seqIndex_neg (by omega) h4] at h1
   rw [List.size_toArray,<-hl]
   exact ZC h1
  exact subscriptTail_builtinR (x:=w) pl.isList.typeIs slot_list_getitem.lookup
   (wpAny_getItem_list_neg (Q:=fun r s'=>r=w/\EP X pins σ Q r s') pl.isList (by omega) (by rw [List.size_toArray] <;> omega) (by omega) (by rw [hj];simpa using ew) ⟨rfl,fin⟩) hs
theorem T8:Tr X (UI X.K):=by
 intro value slice pins s σ H x y v u Q I rx ry h hs
 obtain ⟨p,xs,i,z,rfl,rfl,hq,he,q⟩:=h
 cases rx
 obtain ⟨t,rfl⟩:=ry
 obtain ⟨its,r,pl,hz⟩:=I.tuple hq
 obtain ⟨j,h1,h2,h3,h4,h5⟩:=OR he
 obtain ⟨w,ew,rw'⟩:=r.get h2
 have hl:=r.length
 have hn:=LD
 have fin:EP X pins σ Q w s:=⟨z,H,I,rw',q⟩
 exact subscriptTail_builtinR (x:=w) pl.typeIs slot_tuple_getitem.lookup
  (getItem_tuple (j:=j) (Q:=fun r s'=>r=w/\EP X pins σ Q r s') pl (by omega) (by omega) (by rw [List.size_toArray,<-hl];exact h1) (by simpa using ew) ⟨rfl,fin⟩) hs
theorem Nn (its:List Value) (n j:Nat) (u:Value):Obj.mapSeq (·.setIfInBounds j u) { cls:=.type "list",data:=.seq its.toArray n }={ cls:=.type "list",data:=.seq (its.set j u).toArray n }:=by
 simp [Obj.mapSeq]
theorem Inv.lst {pins:List (Addr×Obj)} {σ:St} {H:Hp} {s:Shared} {p:Addr} {xs:List V} (I:Inv X pins σ H s) (h:H p=some (.lst xs)) :
  ∃ (its:List Value) (n:Nat),Vals xs its/\s.heap.get? p=some { cls:=.type "list",data:=.seq its.toArray n }/\xs.length<=sizeLine:=by
 obtain ⟨z,its,n,r,e⟩:=I.hok p _ h
 exact ⟨its,n,r,e,z⟩
theorem Inv.lstUpd {pins:List (Addr×Obj)} {σ:St} {H:Hp} {s:Shared} {p:Addr} {xs ys:List V} {its its':List Value} {n n':Nat} {f:Obj->Obj} (I:Inv X pins σ H s) (h:H p=some (.lst xs))
  (ho:s.heap.get? p=some { cls:=.type "list",data:=.seq its.toArray n }) (hf:f { cls:=.type "list",data:=.seq its.toArray n }={ cls:=.type "list",data:=.seq its'.toArray n' }) (r:Vals ys its') (hz:ys.length<=sizeLine) (t:Nat) :
  Inv X pins σ (upd H p (.lst ys)) { s with heap:=s.heap.update p f,toks:=t }:=by
 have e:(s.heap.update p f).get? p=some { cls:=.type "list",data:=.seq its'.toArray n' }:=by
  rw [Heap.get?_update_self f ho (by rw [hf] <;> rfl),hf]
 refine I.write (x:=p) (e:=p) (by rw [h];trivial) (.inl rfl) (fun b u hb q=>(Heap.get?_update_other _ _ (Ne.symm hb)).trans q) ⟨_,e⟩ ?_
 exact ⟨hz,its',n',r,e⟩
noncomputable def UK:V->V->V->Hp->(Hp->Prop)->Prop:=fun o i v H Q=>∃ p xs k j,o=.ref p/\i=.int k/\H p=some (.lst xs)/\RB xs.length k=some j/\Q (upd H p (.lst (xs.set j v)))
theorem BD:U7 X UK:=by
 intro pins s σ H o i v ov iv u Q I ro ri rv h
 obtain ⟨p,xs,k,j,rfl,rfl,hp,hj,q⟩:=h
 cases ro
 obtain ⟨t,rfl⟩:=ri
 obtain ⟨its,n,r,ho,hz⟩:=I.lst hp
 obtain ⟨h1,h2,h3,h4⟩:=OY hj
 have hl:=r.length
 have hn:=LD
 have I':Inv X pins σ (upd H p (.lst (xs.set j v))) { s with heap:=s.heap.update p (Obj.mapSeq (·.setIfInBounds j u)) } :=
  I.lstUpd hp ho (Nn its n j u) (r.set rv j) (by rw [List.length_set];exact hz) s.toks
 by_cases h0:0<=k
 .have hk:k.toNat=j:=by
   rw [seqIndex_of h0 h4] at h1
   exact ZC h1
  exact PySem.W.ki_setAt ho h0 (by omega) (by rw [List.size_toArray,<-hl];exact h4) (by rw [hk];exact ⟨_,I',q⟩)
 .have hk:(k+(its.toArray.size:Int)).toNat=j:=by
   rw [seqIndex_neg (by omega) h3] at h1
   rw [List.size_toArray,<-hl]
   exact ZC h1
  exact PySem.W.ki_setBack ho (by omega) (by rw [List.size_toArray,<-hl];exact h3) (by omega) (by rw [hk];exact ⟨_,I',q⟩)
theorem Lk (lo hi:Option Int) (n:Nat):(sliceBounds lo hi none n).1=((HT.sIx n 0 lo:Nat):Int)/\(sliceBounds lo hi none n).2.1=((HT.sIx n n hi:Nat):Int)/\(sliceBounds lo hi none n).2.2=1:=by
 refine ⟨?_,?_,rfl⟩
 .cases lo with
  | none=>simp [sliceBounds,HT.sIx]
  | some i =>
   simp only [sliceBounds,HT.sIx,Option.getD_none,show (1:Int) > 0 by decide,if_true]
   by_cases h:i<0
   .simp only [h,if_true] <;> omega
   .simp only [h,if_false] <;> omega
 .cases hi with
  | none=>simp [sliceBounds,HT.sIx]
  | some i =>
   simp only [sliceBounds,HT.sIx,Option.getD_none,show (1:Int) > 0 by decide,if_true]
   by_cases h:i<0
   .simp only [h,if_true] <;> omega
   .simp only [h,if_false] <;> omega
theorem KL (its:List Value) (lo hi:Option Int):slicePick its.toArray lo hi none=((its.drop (HT.sIx its.length 0 lo)).take (HT.sIx its.length its.length hi - HT.sIx its.length 0 lo)).toArray:=by
 obtain ⟨h1,h2,h3⟩:=Lk lo hi its.toArray.size
 unfold slicePick
 rw [h1,h2,h3]
 simp only [sliceRange_one,pick_run,List.size_toArray] <;> rfl
noncomputable def UH (K:PySem.W.Frag):V->Option Int->Option Int->Hp->VK->Prop:=fun x lo hi H Q=>∃ a xs,x=.ref a/\SqL K H a xs/\∀ p,H p=none->Q (.ref p) (upd H p (.lst (Hi xs lo hi)))
theorem Rr:VP X (UH X.K):=by
 intro pins s σ H x v vl vu lo hi sl Q I rx hs pl pu h
 obtain ⟨a,xs,rfl,hx,q⟩:=h
 cases rx
 obtain ⟨its,r,ht,hz⟩:=I.list hx
 have hlen:=r.length
 refine ⟨"list",_,slot_list_getitem.lookup,ht.isList.typeIs,?_⟩
 refine wpAny_getItem_list_slice ht.isList hs pl pu .none (by simp) ?_ (by rw [List.size_toArray] <;> omega)
 rw [KL,<-hlen]
 refine ⟨.ref s.heap.objs.size,_,I.laid (t':=s.toks) (o:=.lst (Hi xs lo hi)) (fun b ob q=>Heap.get?_push_of_some _ q) (Nat.le_refl _) ?_,rfl,q _ (I.hok.fresh (Nat.le_refl _))⟩
 exact ⟨Nat.le_trans (M6 xs lo hi) hz,_,0,(r.drop (HT.sIx xs.length 0 lo)).take (HT.sIx xs.length xs.length hi - HT.sIx xs.length 0 lo),Heap.get?_push_size _ rfl⟩
noncomputable def EH:V->Bool
 | .non=>true
 | .bl _=>true
 | .int _=>true
 | .str _=>true
 | _=>false
noncomputable def PL:V->V->Bool
 | .non,.non=>true
 | .bl a,.bl b=>a==b
 | .bl a,.int b=>(if a then 1 else 0)==b
 | .int a,.bl b=>a==(if b then 1 else 0)
 | .int a,.int b=>a==b
 | .str a,.str b=>a==b
 | _,_=>false
theorem TV {A:Around} {s:Shared} {y x:V} {u v:Value} (ry:RelV y u) (rx:RelV x v) (fy:EH y=true) (fx:EH x=true):SeqAt.EqAt A s u v (PL y x):=by
 cases y with
 | non =>
  cases ry
  cases x with
  | non=>cases rx;exact SeqAt.EqAt.same _
  | bl b=>cases rx;exact SeqAt.EqAt.none_bool b
  | int b=>obtain ⟨t,rfl⟩:=rx;exact SeqAt.EqAt.none_int b t
  | str b=>obtain ⟨t,rfl⟩:=rx;exact SeqAt.EqAt.none_str b t
  | _=>exact absurd (show false=true from fx) Bool.false_ne_true
 | bl a =>
  cases ry
  cases x with
  | non=>cases rx;exact SeqAt.EqAt.bool_none a
  | bl b=>cases rx;exact SeqAt.EqAt.bool_bool a b
  | int b=>obtain ⟨t,rfl⟩:=rx;exact SeqAt.EqAt.bool_int a b t
  | str b=>obtain ⟨t,rfl⟩:=rx;exact SeqAt.EqAt.bool_str a b t
  | _=>exact absurd (show false=true from fx) Bool.false_ne_true
 | int a =>
  obtain ⟨t',rfl⟩:=ry
  cases x with
  | non=>cases rx;exact SeqAt.EqAt.int_none a t'
  | bl b=>cases rx;exact SeqAt.EqAt.int_bool a t' b
  | int b=>obtain ⟨t,rfl⟩:=rx;exact SeqAt.EqAt.int_int a t' b t
  | str b=>obtain ⟨t,rfl⟩:=rx;exact SeqAt.EqAt.int_str a t' b t
  | _=>exact absurd (show false=true from fx) Bool.false_ne_true
 | str a =>
  obtain ⟨t',rfl⟩:=ry
  cases x with
  | non=>cases rx;exact SeqAt.EqAt.str_none a t'
  | bl b=>cases rx;exact SeqAt.EqAt.str_bool a t' b
  | int b=>obtain ⟨t,rfl⟩:=rx;exact SeqAt.EqAt.str_int a t' b t
  | str b=>obtain ⟨t,rfl⟩:=rx;exact SeqAt.EqAt.str_str a t' b t
  | _=>exact absurd (show false=true from fx) Bool.false_ne_true
 | _=>exact absurd (show false=true from fy) Bool.false_ne_true
noncomputable def RA (x:V) (u:Value):Bool:=match u with
 | .none=>PL .non x
 | .bool b=>PL (.bl b) x
 | .int i _=>PL (.int i) x
 | .str z _=>PL (.str z) x
 | _=>false
theorem LX {x y:V} {u:Value} (r:RelV y u) (f:EH y=true):RA x u=PL y x:=by
 cases y with
 | non=>cases r;rfl
 | bl b=>cases r;rfl
 | int i=>obtain ⟨t,rfl⟩:=r;rfl
 | str z=>obtain ⟨t,rfl⟩:=r;rfl
 | _=>exact absurd (show false=true from f) Bool.false_ne_true
theorem LJ {x:V}:∀ {xs:List V} {us:List Value},Vals xs us->xs.all EH=true->us.any (RA x)=xs.any fun y=>PL y x
 | _,_,.nil,_=>rfl
 | y::xs,u::us,.cons r t,f=>by
  rw [List.all_cons,Bool.and_eq_true] at f
  rw [List.any_cons,List.any_cons,LX r f.1,LJ t f.2]
theorem Gq {A:Around} {s:Shared} {x:V} {v:Value} (rx:RelV x v) (fx:EH x=true):∀ {xs:List V} {us:List Value},Vals xs us->xs.all EH=true->∀ u∈us,SeqAt.EqAt A s u v (RA x u)
 | _,_,.nil,_=>fun u hu=>by cases hu
 | y::xs,u::us,.cons r t,f=>fun u' hu=>by
  rw [List.all_cons,Bool.and_eq_true] at f
  rcases List.mem_cons.mp hu with rfl | hu
  .rw [LX r f.1];exact TV r rx f.1 fx
  .exact Gq rx fx t f.2 u' hu
noncomputable def NK (x:V) (xs:List V):Bool:=xs.any fun y=>PL y x
noncomputable def VZ (K:PySem.W.Frag) (neg:Bool):R2:=fun x y H Q=>∃ p xs,y=.ref p/\(SqL K H p xs\/SqT K H p xs)/\EH x=true/\xs.all EH=true/\Q (.bl (if neg then !NK x xs else NK x xs)) H
theorem B8:Ih X (compareOp .In) (VZ X.K false):=by
 intro pins s σ H x y v u Q I rx ry h
 obtain ⟨p,xs,rfl,hq,fx,fs,q⟩:=h
 cases ry
 rcases hq with hq | hq
 .obtain ⟨its,r,pl,hz⟩:=I.list hq
  refine SeqAt.in_listAt (RA x) pl.isList (fun w hw=>Gq rx fx r fs w (by simpa using hw)) ⟨.bl _,H,I,rfl,?_⟩
  rw [show its.toArray.any (RA x)=its.any (RA x) by simp,LJ r fs]
  exact q
 .obtain ⟨its,r,pl,hz⟩:=I.tuple hq
  refine SeqAt.in_tupleAt (RA x) pl (fun w hw=>Gq rx fx r fs w (by simpa using hw)) ⟨.bl _,H,I,rfl,?_⟩
  rw [show its.toArray.any (RA x)=its.any (RA x) by simp,LJ r fs]
  exact q
theorem LP:CallR X (.builtin "len") (fun xs H Q=>∃ p ys,xs=[.ref p]/\(SqL X.K H p ys\/SqT X.K H p ys)/\Q (.int ys.length) H):=by
 intro pins s σ H xs us Q I r h
 obtain ⟨p,ys,rfl,hq,q⟩:=h
 obtain ⟨u,rfl,rx⟩:=Qe r
 cases rx
 have hn:=LD
 rcases hq with hq | hq
 .obtain ⟨its,r',pl,hz⟩:=I.list hq
  have hlen:=r'.length
  exact Calls.call_len_list pl.isList (by simp only [List.size_toArray] <;> omega) ⟨.int ys.length,H,I.tok _,⟨s.toks+1,by rw [List.size_toArray,hlen]⟩,q⟩
 .obtain ⟨its,r',pl,hz⟩:=I.tuple hq
  have hlen:=r'.length
  exact len_tuple pl (by simp only [List.size_toArray] <;> omega) ⟨.int ys.length,H,I.tok _,⟨s.toks+1,by rw [List.size_toArray,hlen]⟩,q⟩
theorem FB:CallR X (.type "list") (fun xs H Q=>∃ p ys,xs=[.ref p]/\(SqL X.K H p ys\/SqT X.K H p ys)/\∀ l,H l=none->Q (.ref l) (upd H l (.lst ys))):=by
 intro pins s σ H xs us Q I r h
 obtain ⟨p,ys,rfl,hq,q⟩:=h
 obtain ⟨u,rfl,rx⟩:=Qe r
 cases rx
 have fin:∀ (its:List Value),Vals ys its->ys.length<=sizeLine->∀ (h':Heap) (c':Nat),(∀ b o',s.heap.get? b=some o'->h'.get? b=some o') ->
   h'.get? s.heap.objs.size=some { cls:=.type "list",dict:=none,data:=.seq its.toArray c',slots:=#[] }->EP X pins σ Q (.ref s.heap.objs.size) { s with heap:=h' }:=fun its r' hz h' c' kp e =>
  ⟨.ref s.heap.objs.size,_,I.laid (t':=s.toks) kp (Nat.le_refl _) (show ObjOk X.prog X.w _ h' _ (.lst ys) from ⟨hz,its,c',r',e⟩),rfl,q _ (I.hok.fresh (Nat.le_refl _))⟩
 rcases hq with hq | hq
 .obtain ⟨its,r',pl,hz⟩:=I.list hq
  have hlen:=r'.length
  obtain ⟨o,ho,hc,n,hd⟩:=pl.isList
  exact call_list_seq p (.inl rfl) ho hc hd (fun h' c' kp e=>fin its r' hz h' c' kp e) (by simp only [List.size_toArray] <;> omega)
 .obtain ⟨its,r',pl,hz⟩:=I.tuple hq
  have hlen:=r'.length
  obtain ⟨o,ho,hc,n,hd⟩:=pl
  exact call_list_seq p (.inr rfl) ho hc hd (fun h' c' kp e=>fin its r' hz h' c' kp e) (by simp only [List.size_toArray] <;> omega)
theorem KH:CallR X (.type "tuple") (fun xs H Q=>∃ p ys,xs=[.ref p]/\((SqL X.K H p ys/\∀ l,H l=none->Q (.ref l) (upd H l (.tup ys)))\/(SqT X.K H p ys/\Q (.ref p) H))):=by
 intro pins s σ H xs us Q I r h
 obtain ⟨p,ys,rfl,h⟩:=h
 obtain ⟨u,rfl,rx⟩:=Qe r
 cases rx
 rcases h with ⟨hq,q⟩ | ⟨hq,q⟩
 .obtain ⟨its,r',pl,hz⟩:=I.list hq
  have hlen:=r'.length
  refine call_tuple_list pl.isList (fun h' kp=>?_) (by simp only [List.size_toArray] <;> omega)
  have I1:Inv X pins σ H { s with heap:=h' }:=I.kept (t':=s.toks) kp
  have I2:Inv X pins σ (upd H h'.objs.size (.tup ys)) { s with heap:=h'.push { cls:=.type "tuple",data:=.seq its.toArray } } :=
   I1.laid (t':=s.toks) (fun b o e=>Heap.get?_push_of_some _ e) (Nat.le_refl _) (show ObjOk X.prog X.w _ _ _ (.tup ys) from ⟨hz,its,r',IsTup.new _ _⟩)
  exact ⟨.ref h'.objs.size,_,I2,rfl,q _ (I1.hok.fresh (Nat.le_refl _))⟩
 .obtain ⟨its,r',pl,hz⟩:=I.tuple hq
  exact call_tuple_same pl ⟨.ref p,H,I,rfl,q⟩
noncomputable def Ud (K:PySem.W.Frag) (T:String) (x:V) (H:Hp):Prop:=match x with
 | .str _=>T = "str"
 | .int _=>T = "int"
 | .ref p=>(T = "list" /\ ∃ xs,SqL K H p xs)\/(T = "tuple" /\ ∃ o,K.lookup p=some o/\o.cls=.type "tuple" /\ o.dict=none) \/
   (T = "dict" /\ ((∃ kvs,H p=some (.dK kvs))\/∃ kvs,H p=some (.dT kvs)))\/(T = "set" /\ ∃ S n,H p=some (.set S n))
 | _=>False
theorem Qg {pins:List (Addr×Obj)} {σ:St} {H:Hp} {s:Shared} {T:String} {x:V} {v:Value} (I:Inv X pins σ H s) (r:RelV x v) (ty:Ud X.K T x H) :
  s.TypeIs v T/\∀ a,v=.ref a->∃ ob,s.heap.get? a=some ob/\ob.dict=none:=by
 cases x with
 | str z =>
  obtain ⟨t,rfl⟩:=r
  cases (show T = "str" from ty)
  exact ⟨typeIs_str s z t,fun _ e=>nomatch e⟩
 | int i =>
  obtain ⟨t,rfl⟩:=r
  cases (show T = "int" from ty)
  exact ⟨typeIs_int s i t,fun _ e=>nomatch e⟩
 | ref p =>
  cases r
  rcases ty with ⟨rfl,xs,hq⟩ | ⟨rfl,o,hk,hc,hd⟩ | ⟨rfl,hk⟩ | ⟨rfl,S,n,hk⟩
  .obtain ⟨its,_,pl,_⟩:=I.list hq
   refine ⟨pl.isList.typeIs,fun a e=>?_⟩
   cases e
   obtain ⟨o,n,e,c,hd,_⟩:=pl
   exact ⟨o,e,hd⟩
  .refine ⟨⟨o,I.kIn p o hk,hc⟩,fun a e=>?_⟩
   cases e
   exact ⟨o,I.kIn _ o hk,hd⟩
  .have z:∃ o,s.heap.get? p=some o/\o.ExactDict:=by
    rcases hk with ⟨kvs,hk⟩ | ⟨kvs,hk⟩
    .obtain ⟨_,_,_,_,o,_,_,e,ex,_⟩:=I.hok p _ hk
     exact ⟨o,e,ex⟩
    .obtain ⟨_,_,_,_,o,_,_,e,ex,_⟩:=I.hok p _ hk
     exact ⟨o,e,ex⟩
   obtain ⟨o,e,ex⟩:=z
   refine ⟨⟨o,e,ex.1⟩,fun a e2=>?_⟩
   cases e2
   exact ⟨o,e,ex.2.1⟩
  .obtain ⟨o,_,_,_,e,ex,_⟩:=I.hok p _ hk
   refine ⟨⟨o,e,ex.1⟩,fun a e2=>?_⟩
   cases e2
   exact ⟨o,e,ex.2.1⟩
 | _=>exact False.elim ty
noncomputable def Uo (K:PySem.W.Frag) (T:String) (r:V->List V->Hp->VK->Prop) (to:TE):TE:=fun σ H Q=>to σ H fun x H1=>Ud K T x H1/\r x [] H1 Q
noncomputable def Va (K:PySem.W.Frag) (T:String) (r:V->List V->Hp->VK->Prop) (to:TE) (t:TA):TE:=fun σ H Q=>to σ H fun x H1=>Ud K T x H1/\t σ H1 fun xs H2=>r x xs H2 Q
variable {o e:Expr} {es:List Expr} {to:TE} {t:TA} {name:Str} {apos cpos:Pos} {T id:String} {r:V->List V->Hp->VK->Prop}
theorem LA (pa:PlainAttrs T) (slot:Slot T name id) (hty:typeOf (.builtin id)=pure (.type "method_descriptor")) (hm:V9 X id r) (ho:PE X o to)
  (hbase:attributeBase o name X.env (eval o X.env)=eval o X.env:=by rfl) (hline:(apos.endLine==cpos.line)=true:=by rfl):PE X (.Call (.Attribute o name apos) [] [] cpos) (Uo X.K T r to):=by
 intro pins s σ H Q I h
 refine wpAny_Call_method0_late hbase hline (B7 (ho pins s σ H _ I h) fun v s1 ⟨x,H1,I1,r1,ty,q1⟩=>?_)
 obtain ⟨h1,h2⟩:=Qg I1 r1 ty
 exact ⟨T,id,pa,slot,hty,h1,h2,Calls.callWith_builtin rfl (PySem.evalArgs_none (hm pins s1 σ H1 x [] v [] Q I1 r1 .nil q1))⟩
theorem Ck (pa:PlainAttrs T) (slot:Slot T name id) (hty:typeOf (.builtin id)=pure (.type "method_descriptor")) (hm:V9 X id r) (ho:PE X o to) (ha:PA X (e::es) t)
  (hbase:attributeBase o name X.env (eval o X.env)=eval o X.env:=by rfl)
  (hfew:((backTo cpos (starEach (e::es) X.env)).all (fun x=>!x.1) && (backToKw cpos (keywordEach [] X.env)).all (fun x=>x.1.isSome)
   && decide ((e::es).length+([]:List Keyword).length+(if ([]:List Keyword).isEmpty then 0 else 1)<30))=true:=by rfl)
  (hline:(apos.endLine==cpos.line)=true:=by rfl) (hs:starEach (e::es) X.env=(false,eval e X.env)::starEach es X.env:=by rfl) (hplain:(backTo cpos (starEach es X.env)).any (·.1)=false:=by rfl) :
  PE X (.Call (.Attribute o name apos) (e::es) [] cpos) (Va X.K T r to t):=by
 intro pins s σ H Q I h
 refine wpAny_Call_method_late hbase hfew hline rfl (B7 (ho pins s σ H _ I h) fun v s1 ⟨x,H1,I1,r1,ty,q1⟩=>?_)
 obtain ⟨h1,h2⟩:=Qg I1 r1 ty
 refine ⟨T,id,pa,slot,hty,h1,h2,?_⟩
 have hA:=ha cpos pins s1 σ H1 _ I1 q1
 rw [hs] at hA ⊢
 refine Calls.callWith_builtin (by show (false || (backTo cpos (starEach es X.env)).any (·.1))=false;rw [hplain] <;> rfl) (Calls.evalArgs_plain ?_)
 exact B7 hA fun us s2 ⟨vs,H2,I2,r2,q2⟩=>hm pins s2 σ H2 x vs v us Q I2 r1 r2 q2
end
end L2
namespace L2
open PySem PySem.Spec PyProof.Rows
noncomputable def VC (X:Cx) (id:String) (r:V->List V->Hp->VK->Prop):Prop :=
 ∀ (pins:List (Addr×Obj)) (s:Shared) (σ:St) (H:Hp) (x:V) (xs:List V) (v:Value) (us:List Value) (Q:VK),Inv X pins σ H s->RelV x v->Vals xs us->r x xs H Q ->
  wpAny (model X.prog X.w) X.A (call (.builtin id) (v::us)) (EP X pins σ Q) X.xe s
theorem Vals.one:∀ {x:V} {us:List Value},Vals [x] us->∃ u,us=[u]/\RelV x u
 | _,_,.cons r .nil=>⟨_,rfl,r⟩
theorem Vals.two:∀ {x y:V} {us:List Value},Vals [x,y] us->∃ u v,us=[u,v]/\RelV x u/\RelV y v
 | _,_,_,.cons r (.cons q .nil)=>⟨_,_,rfl,r,q⟩
theorem Vals.zero:∀ {us:List Value},Vals [] us->us=[]
 | _,.nil=>rfl
theorem Vals.dropLast {xs:List V} {us:List Value} (h:Vals xs us):Vals xs.dropLast us.dropLast:=by
 induction h with
 | nil=>exact .nil
 | cons r t ih =>
  cases t with
  | nil=>exact .nil
  | cons q t'=>exact .cons r ih
theorem Vals.reverse {xs:List V} {us:List Value} (h:Vals xs us):Vals xs.reverse us.reverse:=by
 induction h with
 | nil=>exact .nil
 | cons r t ih=>rw [List.reverse_cons,List.reverse_cons];exact Vals.append ih (.cons r .nil)
theorem NZ {α:Type} (l:List α):l.eraseIdx (l.length - 1)=l.dropLast:=by
 induction l with
 | nil=>rfl
 | cons a r ih =>
  cases r with
  | nil=>rfl
  | cons b r =>
   have e:(a::b::r).length - 1=((b::r).length - 1)+1:=by
    have h1:(a::b::r).length=r.length+2:=rfl
    have h2:(b::r).length=r.length+1:=rfl
    omega
   rw [e,List.eraseIdx_cons_succ,ih]
   all_goals rfl
section
variable {X:Cx} {pins:List (Addr×Obj)} {σ:St} {H:Hp} {s:Shared} {l b:Addr} {xs ys zs:List V}
theorem Inv.lset {its its':List Value} {n:Nat} {f:Array Value->Array Value} {t':Nat} (I:Inv X pins σ H s) (hH:H l=some (.lst xs))
  (e:s.heap.get? l=some { cls:=.type "list",data:=.seq its.toArray n }) (hf:f its.toArray=its'.toArray) (hv:Vals ys its') (hz:ys.length<=sizeLine) :
  Inv X pins σ (upd H l (.lst ys)) { s with heap:=s.heap.update l (Obj.mapSeq f),toks:=t' }:=by
 have q:=PySem.IsL.update e f
 rw [hf] at q
 refine I.write (x:=l) (e:=l) (by rw [hH];exact trivial) (.inl rfl) (fun b' u hb hu=>(Heap.get?_update_other s.heap (Obj.mapSeq f) (Ne.symm hb)).trans hu) ⟨_,q⟩ ?_
 exact ⟨hz,its',_,hv,q⟩
theorem Inv.lnew {its:List Value} {t':Nat} (I:Inv X pins σ H s) (hv:Vals ys its) (hz:ys.length<=sizeLine) :
  Inv X pins σ (upd H s.heap.objs.size (.lst ys)) { s with heap:=s.heap.push { cls:=.type "list",data:=.seq its.toArray },toks:=t' } :=
 I.laid (fun _ _ q=>Heap.get?_push_of_some _ q) (Nat.le_refl _) ⟨hz,its,0,hv,Heap.get?_push_size _ rfl⟩
theorem Inv.fresh (I:Inv X pins σ H s):H s.heap.objs.size=none:=I.hok.fresh (Nat.le_refl _)
theorem Inv.lstM (I:Inv X pins σ H s) (hH:H l=some (.lst xs)):xs.length<=sizeLine/\∃ (its:List Value) (n:Nat),Vals xs its/\xs.length=its.length/\s.heap.get? l=some { cls:=.type "list",data:=.seq its.toArray n }:=by
 obtain ⟨z,its,n,r,e⟩:=I.hok l _ hH
 exact ⟨z,its,n,r,r.length,e⟩
theorem Qb {n:Nat} (h:n<=sizeLine):Builtin.List.listTooLong n=false:=by
 unfold Builtin.List.listTooLong
 exact decide_eq_false (by omega)
end
section
variable {X:Cx}
noncomputable def S8:V->List V->Hp->VK->Prop:=fun x vs H Q=>∃ l xs y,x=.ref l/\vs=[y]/\H l=some (.lst xs)/\xs.length<sizeLine/\Q .non (upd H l (.lst (xs++[y])))
theorem BP:VC X "list.append" S8:=by
 intro pins s σ H x vs v us Q I rx rv h
 obtain ⟨l,xs,y,rfl,rfl,hH,hz,q⟩:=h
 cases rx
 obtain ⟨u,rfl,ru⟩:=rv.one
 obtain ⟨z,its,n,r,hl,e⟩:=I.lstM hH
 refine call_meets F.slot_list_append ⟨_,e,rfl⟩ F.entry_list_append (F.args_list_append_2 _ _) (PySem.list_append l its.toArray n u (by rw [List.size_toArray];omega)) ⟨e,?_⟩
 refine ⟨.non,_,I.lset (its':=its++[u]) hH e (by simp) (r.append (.cons ru .nil)) ?_,rfl,q⟩
 rw [List.length_append,List.length_singleton]
 omega
noncomputable def SB:V->List V->Hp->VK->Prop:=fun x vs H Q=>∃ l b xs zs,x=.ref l/\vs=[.ref b]/\H l=some (.lst xs)/\H b=some (.lst zs)/\xs.length+zs.length<=sizeLine/\Q .non (upd H l (.lst (xs++zs)))
theorem Df:VC X "list.extend" SB:=by
 intro pins s σ H x vs v us Q I rx rv h
 obtain ⟨l,b,xs,zs,rfl,rfl,hH,hB,hz,q⟩:=h
 cases rx
 obtain ⟨u,rfl,ru⟩:=rv.one
 cases ru
 obtain ⟨z,its,n,r,hl,e⟩:=I.lstM hH
 obtain ⟨z2,its2,n2,r2,hl2,e2⟩:=I.lstM hB
 have hsz:its.toArray.size+its2.toArray.size<=sizeLine:=by rw [List.size_toArray,List.size_toArray];omega
 have hlong:¬(!its.toArray.isEmpty && Builtin.List.listTooLong (its.toArray.size+its2.toArray.size))=true:=by
  rw [Qb hsz,Bool.and_false]
  exact Bool.false_ne_true
 refine call_meets F.slot_list_extend ⟨_,e,rfl⟩ F.entry_list_extend (F.args_list_extend_2 _ _)
  (AutoSeq1.list_extend_list_list_0 l its.toArray n b its2.toArray n2 hlong (by rw [List.size_toArray];omega) (by omega)) ⟨e,e2,?_⟩
 refine ⟨.non,_,I.lset (its':=its++its2) hH e (by simp) (r.append r2) ?_,rfl,q⟩
 rw [List.length_append]
 omega
noncomputable def VJ:V->List V->Hp->VK->Prop:=fun x vs H Q=>∃ l xs y,x=.ref l/\vs=[]/\H l=some (.lst xs)/\xs[xs.length - 1]?=some y/\Q y (upd H l (.lst xs.dropLast))
theorem Lj:VC X "list.pop" VJ:=by
 intro pins s σ H x vs v us Q I rx rv h
 obtain ⟨l,xs,y,rfl,rfl,hH,hy,q⟩:=h
 cases rx
 have hus:=rv.zero
 subst hus
 obtain ⟨z,its,n,r,hl,e⟩:=I.lstM hH
 obtain ⟨u,hu,ru⟩:=r.get hy
 have hy':its.toArray[its.toArray.size - 1]?=some u:=by
  show its.toArray[its.length - 1]?=some u
  rw [<-Array.getElem?_toList,<-hl]
  exact hu
 refine call_meets F.slot_list_pop ⟨_,e,rfl⟩ F.entry_list_pop (F.args_list_pop_1 _) (MeetsSeq.list_pop_last l its.toArray n u hy' (by rw [List.size_toArray];omega)) ⟨e,?_⟩
 refine ⟨y,_,I.lset (its':=its.dropLast) hH e ?_ r.dropLast ?_,ru,q⟩
 .show its.toArray.eraseIdxIfInBounds (its.toArray.size - 1)=its.dropLast.toArray
  rw [List.size_toArray,List.eraseIdxIfInBounds_toArray,NZ]
 .rw [List.length_dropLast]
  omega
noncomputable def VG:R2:=fun x y H Q=>∃ l b xs zs,x=.ref l/\y=.ref b/\H l=some (.lst xs)/\H b=some (.lst zs)/\xs.length+zs.length<=sizeLine/\∀ p,H p=none->Q (.ref p) (upd H p (.lst (xs++zs)))
theorem Lc:Ih X (binaryOp .Add) VG:=by
 intro pins s σ H x y v u Q I rx ry h
 obtain ⟨l,b,xs,zs,rfl,rfl,hH,hB,hz,q⟩:=h
 cases rx
 cases ry
 obtain ⟨z,its,n,r,hl,e⟩:=I.lstM hH
 obtain ⟨z2,its2,n2,r2,hl2,e2⟩:=I.lstM hB
 refine PySem.P.add_list e e2 ?_ (by rw [List.size_toArray,List.size_toArray];omega)
 have ea:its.toArray++its2.toArray=(its++its2).toArray:=by simp
 rw [ea]
 exact ⟨.ref _,_,I.lnew (t':=s.toks) (r.append r2) (by rw [List.length_append];omega),rfl,q _ I.fresh⟩
end
end L2
namespace L2
open PySem PySem.Spec PyProof.Rows
theorem Vals.ints:∀ {ns:List Int} {us:List Value},Vals (ns.map V.int) us->IntsAre us ns
 | [],us,h=>by
  rw [List.map_nil] at h
  cases h
  exact IntsAre.nil
 | n::ns,us,h=>by
  rw [List.map_cons] at h
  cases h with
  | cons r t =>
   obtain ⟨k,rfl⟩:=r
   exact IntsAre.cons n k (Vals.ints t)
theorem Vals.bls:∀ {bs:List Bool} {us:List Value},Vals (bs.map V.bl) us->us=bs.map Value.bool
 | [],us,h=>by
  rw [List.map_nil] at h
  cases h
  rfl
 | b::bs,us,h=>by
  rw [List.map_cons] at h
  cases h with
  | cons r t =>
   cases r
   rw [Vals.bls t,List.map_cons]
theorem Vals.ref1 {a:Addr} {us:List Value} (r:Vals [V.ref a] us):us=[Value.ref a]:=by
 cases r with
 | cons r t =>
  cases t
  cases r
  rfl
section
variable {prog:Program} {w:World} {A:Around} {E:Value->Shared->Prop} {s:Shared} {l:Addr} {its:List Value} {ns:List Int} {Q:Value->Shared->Prop}
theorem Rs (hh:A.handled=none) (hl:s.heap.IsList l its.toArray) (hi:IntsAre its ns) (hne:0<ns.length)
  (h:∀ h' tk M t',(∀ b o,s.heap.get? b=some o->h'.get? b=some o)->M∈ns->(∀ a,a∈ns->a<=M)->Q (.int M t') { s with heap:=h',toks:=tk }):wpAny (model prog w) A (call (.builtin "max") [.ref l]) Q E s:=by
 obtain ⟨xs,e⟩:=hi.allInts.items
 have hn:numsOf (intItems xs).toList=ns:=by rw [<-e];exact hi.numsOf
 rw [nums_intItems] at hn
 subst hn
 rw [e] at hl
 have hsz:0<xs.size:=by simpa using hne
 refine PySem.max_intList hh hl hsz fun v h' tk hv hk=>?_
 obtain ⟨t,rfl⟩:=intItems_at hv
 obtain ⟨h1,h2⟩:=argBest_gt (numAt xs) (xs.size - 1)
 refine h h' tk _ t hk ?_ fun a ha=>?_
 .rw [numAt_eq];exact PySem.getD_mem (by rw [ZE,Array.length_toList];omega)
 .obtain ⟨j,hj,rfl⟩:=mem_getD ha
  rw [ZE,Array.length_toList] at hj
  rw [<-numAt_eq];exact h2 j (by omega)
end
section
variable {X:Cx}
noncomputable def Uv (K:PySem.W.Frag):List V->Hp->VK->Prop:=fun vs H Q=>∃ (a:Addr) (ns:List Int),vs=[V.ref a]/\SqL K H a (ns.map V.int)/\0<ns.length/\∀ m,m∈ns->(∀ y,y∈ns->y<=m)->Q (.int m) H
theorem Sg (hc:X.calm=true):CallR X (.builtin "max") (Uv X.K):=by
 intro pins s σ H vs us Q I r h
 obtain ⟨a,ns,rfl,hs,hne,q⟩:=h
 obtain ⟨its,rv,hl,_⟩:=I.list hs
 rw [Vals.ref1 r]
 exact Rs (I.ok.hd hc) hl.isList rv.ints hne fun h' tk m t' hk h1 h2=>⟨.int _,H,I.kept hk,⟨_,rfl⟩,q m h1 h2⟩
end
section
variable {X:Cx}
noncomputable def Sr (K:PySem.W.Frag):V->List V->Hp->VK->Prop:=fun x xs H Q=>∃ (a:Addr) (ys:List V) (y:V) (j:Nat) (z:V),x=V.ref a/\xs=[y]/\SqL K H a ys/\EH y=true/\ys.all EH=true/\ys[j]?=some z/\PL z y=true /\
 (∀ (m:Nat) (z':V),m<j->ys[m]?=some z'->PL z' y=false)/\Q (.int (j:Nat)) H
theorem OM {ys:List V} (f:ys.all EH=true) {j:Nat} {z:V} (h:ys[j]?=some z):EH z=true:=List.all_eq_true.mp f z (ZD h)
theorem Qc:V9 X "list.index" (Sr X.K):=by
 intro pins s σ H x xs v us Q I rx rxs h
 obtain ⟨a,ys,y,j,z,rfl,rfl,hs,fy,fys,hz,hzj,hno,q⟩:=h
 cases rx
 cases rxs with
 | cons ry rt =>
  rename_i uy ut
  cases rt
  obtain ⟨its,rv,⟨⟨cls,dd,data,sl⟩,n,ho,hc,hdn,hd⟩,hlen⟩:=I.list hs
  simp only at hc hd
  subst hc hd
  obtain ⟨u,hu,ru⟩:=rv.get hz
  obtain ⟨hjl,hje⟩:=ZB.mp hu
  have hvl:=rv.length
  have hj:j<its.toArray.size:=by simpa using hjl
  have hsl:=sizeLine_eq
  refine call_meets PySem.F.slot_list_index ⟨_,ho,rfl⟩ PySem.F.entry_list_index (PySem.F.args_list_index_2 _ _)
   (SeqAt.list_indexAt a its.toArray n dd sl uy (RA y) j hj (by omega) ?_ ?_) ⟨ho,fun u' hu'=>Gq ry fy rv fys u' (by simpa using hu'),?_⟩
  .have e1:its.toArray[j]=u:=by simpa using hje
   rw [e1,LX ru (OM fys hz)]
   exact hzj
  .intro m hm hmj
   have hml:m<its.length:=by simpa using hm
   have hmy:m<ys.length:=by omega
   have hy':ys[m]?=some ys[m]:=ZA hmy
   obtain ⟨u2,hu2,ru2⟩:=rv.get hy'
   obtain ⟨_,hme⟩:=ZB.mp hu2
   have e1:its.toArray[m]=u2:=by simpa using hme
   rw [e1,LX ru2 (OM fys hy')]
   exact hno m _ hmj hy'
  .exact ⟨.int (j:Nat),H,I.tok _,⟨_,rfl⟩,q⟩
end
theorem MA {prog:Program} {w:World} {A:Around} {E:Value->Shared->Prop} {s:Shared} {l:Addr} {items:Array Value} {Q:Value->Shared->Prop} (hl:s.heap.IsList l items)
  (h:∀ s₂:Shared,s₂={ s with heap:=s.heap.push { cls:=.type "list_iterator",data:=.fields #[.ref l,.int 0 0] } } ->
   (s₂.heap.IsListIter s.heap.objs.size l 0/\s₂.heap.IsList l items)->l≠s.heap.objs.size->Q (.ref s.heap.objs.size) s₂):wpAny (model prog w) A (pyIter (.ref l)) Q E s:=by
 have hlt:l<s.heap.objs.size:=by obtain ⟨_,e,_⟩:=hl;exact Heap.lt_size e
 exact wpAny_pyIter_list hl (h _ rfl ⟨⟨_,Heap.get?_push_size _ rfl,rfl,rfl⟩,hl.push _⟩ (Nat.ne_of_lt hlt))
theorem IT {prog:Program} {w:World} {A:Around} {bs:List Bool} {its:List Value} (e:its=bs.map Value.bool) :
  TruthOf prog w A (fun i v=>its.toArray[i]?=some v) (fun i=>bs.getD i false):=fun i v s Q E hv hq=>by
 have hv':its[i]?=some v:=by simpa using hv
 rw [e,List.getElem?_map] at hv'
 obtain ⟨b,hb,rfl⟩:=Option.map_eq_some_iff.mp hv'
 have hg:bs.getD i false=b:=by rw [List.getD_eq_getElem?_getD,hb] <;> rfl
 have hq':Q (bs.getD i false) s:=hq
 rw [hg] at hq'
 exact wpAny_truthy_bool hq'
theorem L1:∀ bs:List Bool,(List.range bs.length).any (fun i=>bs.getD i false)=bs.any id
 | []=>rfl
 | b::bs=>by
  rw [List.length_cons,List.range_succ_eq_map,List.any_cons,List.any_map,List.any_cons,<-L1 bs]
  all_goals rfl
theorem Ks:∀ bs:List Bool,(List.range bs.length).all (fun i=>bs.getD i false)=bs.all id
 | []=>rfl
 | b::bs=>by
  rw [List.length_cons,List.range_succ_eq_map,List.all_cons,List.all_map,List.all_cons,<-Ks bs]
  all_goals rfl
section
variable {X:Cx}
noncomputable def V1 (K:PySem.W.Frag):List V->Hp->VK->Prop:=fun vs H Q=>∃ (a:Addr) (bs:List Bool),vs=[V.ref a]/\SqL K H a (bs.map V.bl)/\Q (.bl (bs.any id)) H
noncomputable def Uw (K:PySem.W.Frag):List V->Hp->VK->Prop:=fun vs H Q=>∃ (a:Addr) (bs:List Bool),vs=[V.ref a]/\SqL K H a (bs.map V.bl)/\Q (.bl (bs.all id)) H
theorem TR (hc:X.calm=true):CallR X (.builtin "any") (V1 X.K):=by
 intro pins s σ H vs us Q I r h
 obtain ⟨a,bs,rfl,hs,q⟩:=h
 obtain ⟨its,rv,hl,_⟩:=I.list hs
 rw [Vals.ref1 r]
 have hb:=rv.bls
 refine call_any_walk (MA hl.isList fun s₂ e2 st hne=>?_)
 subst e2
 refine ⟨_,_,_,_,_,_,_,rfl,Walks.list (A:=X.A.in1) (I.ok.hd hc) _ a hne its.toArray,st,IT hb,fun h' tk hk=>?_⟩
 refine ⟨.bl _,H,I.kept fun b o eo=>hk b o (fun hmem=>?_) (Heap.get?_push_of_some _ eo),?_,q⟩
 .rcases List.mem_cons.mp hmem with e1 | hmem
  .exact absurd (e1▸Heap.lt_size eo) (Nat.lt_irrefl _)
  .cases hmem
 .show Value.bool _=Value.bool _
  rw [<-L1,hb,List.size_toArray,ZE]
theorem T7 (hc:X.calm=true):CallR X (.builtin "all") (Uw X.K):=by
 intro pins s σ H vs us Q I r h
 obtain ⟨a,bs,rfl,hs,q⟩:=h
 obtain ⟨its,rv,hl,_⟩:=I.list hs
 rw [Vals.ref1 r]
 have hb:=rv.bls
 refine call_all_walk (MA hl.isList fun s₂ e2 st hne=>?_)
 subst e2
 refine ⟨_,_,_,_,_,_,_,rfl,Walks.list (A:=X.A.in1) (I.ok.hd hc) _ a hne its.toArray,st,IT hb,fun h' tk hk=>?_⟩
 refine ⟨.bl _,H,I.kept fun b o eo=>hk b o (fun hmem=>?_) (Heap.get?_push_of_some _ eo),?_,q⟩
 .rcases List.mem_cons.mp hmem with e1 | hmem
  .exact absurd (e1▸Heap.lt_size eo) (Nat.lt_irrefl _)
  .cases hmem
 .show Value.bool _=Value.bool _
  rw [<-Ks,hb,List.size_toArray,ZE]
end
mutual
inductive Dp (K:PySem.W.Frag) (H:Hp):V->PyData->Prop
 | non:Dp K H .non .none
 | bl (b:Bool):Dp K H (.bl b) (.bool b)
 | int (i:Int):Dp K H (.int i) (.int i)
 | str (x:Str):Dp K H (.str x) (.str x)
 | lst {a:Addr} {xs:List V} {ds:List PyData}:SqL K H a xs->Kf K H xs ds->Dp K H (.ref a) (.list ds)
 | tup {a:Addr} {xs:List V} {ds:List PyData}:SqT K H a xs->Kf K H xs ds->Dp K H (.ref a) (.tuple ds)
inductive Kf (K:PySem.W.Frag) (H:Hp):List V->List PyData->Prop
 | nil:Kf K H [] []
 | cons {v:V} {vs:List V} {d:PyData} {ds:List PyData}:Dp K H v d->Kf K H vs ds->Kf K H (v::vs) (d::ds)
end
section
variable {X:Cx} {pins:List (Addr×Obj)} {σ:St} {H:Hp} {s:Shared}
mutual
theorem Dp.reads (I:Inv X pins σ H s):∀ (d:PyData) (v:V) (u:Value),Dp X.K H v d->RelV v u->∃ as,Reads s.heap u d as
 | .none,_,_,h,r=>by
  cases h
  cases r
  exact ⟨_,Reads.none⟩
 | .bool b,_,_,h,r=>by
  cases h
  cases r
  exact ⟨_,Reads.bool b⟩
 | .int i,_,_,h,r=>by
  cases h
  obtain ⟨t,rfl⟩:=r
  exact ⟨_,Reads.int i t⟩
 | .str x,_,_,h,r=>by
  cases h
  obtain ⟨t,rfl⟩:=r
  exact ⟨_,Reads.str x t⟩
 | .list ds,_,_,h,r=>by
  cases h with
  | lst hs ha =>
   cases r
   obtain ⟨its,rv,⟨o,n,ho,hc,_,hd⟩,_⟩:=I.list hs
   obtain ⟨as,hr⟩:=Dp.readsAll I ds _ its ha rv
   exact ⟨_,Reads.list ho hc hd hr⟩
 | .tuple ds,_,_,h,r=>by
  cases h with
  | tup hs ha =>
   cases r
   obtain ⟨its,rv,⟨o,ho,hc,n,hd⟩,_⟩:=I.tuple hs
   obtain ⟨as,hr⟩:=Dp.readsAll I ds _ its ha rv
   exact ⟨_,Reads.tuple ho hc hd hr⟩
 | .dict _,_,_,h,_=>by cases h
theorem Dp.readsAll (I:Inv X pins σ H s):∀ (ds:List PyData) (vs:List V) (us:List Value),Kf X.K H vs ds->Vals vs us->∃ as,ReadsAll s.heap us ds as
 | [],_,_,h,r=>by
  cases h
  cases r
  exact ⟨_,ReadsAll.nil⟩
 | d::ds,_,_,h,r=>by
  cases h with
  | cons h1 h2 =>
   cases r with
   | cons r1 r2 =>
    obtain ⟨as,q1⟩:=Dp.reads I d _ _ h1 r1
    obtain ⟨bs,q2⟩:=Dp.readsAll I ds _ _ h2 r2
    exact ⟨_,ReadsAll.cons q1 q2⟩
end
end
end L2
namespace L2
open PySem PySem.Spec PyProof.Rows
abbrev QM (h:Heap) (c:Addr) (v:Option Value):Prop:=h.IsCell c v
noncomputable def Uz (scope sc:Scope):Scope :=
 { scope with names:=scope.names.map fun (n,k)=>if (k==.free && sc.kind==.function && sc.names.lookup n==some .cell) then (n,.cell) else (n,k) }
noncomputable def B1 (cells:List (Str×Addr)):List (Str×NameKind)->List (Str×Addr)->List (Str×Addr)
 | [],acc=>acc
 | (n,k)::r,acc=>if k==.free then B1 cells r ((n,(cells.lookup n).getD 0)::acc) else B1 cells r acc
theorem HU (env:Env) (f:Str×NameKind->List (Str×Addr)->Sem (ForInStep (List (Str×Addr))))
  (hf:∀ n k c,f (n,k) c=if k==.free then (do let a <-cellOf env n;pure (.yield ((n,a)::c))) else pure (.yield c)) :
  ∀ (names:List (Str×NameKind)) (acc:List (Str×Addr)),(∀ y∈names,y.2=.free->∃ c,env.cells.lookup y.1=some c)->forIn names acc f=pure (B1 env.cells names acc)
 | [],acc,_=>by rw [List.forIn_nil];rfl
 | (n,k)::r,acc,h=>by
  rw [List.forIn_cons,hf]
  have ih:=fun acc=>HU env f hf r acc fun y hy=>h y (List.mem_cons_of_mem _ hy)
  unfold B1
  by_cases hk:(k==NameKind.free)=true
  .rw [if_pos hk,if_pos hk]
   obtain ⟨c,hc⟩:=h (n,k) List.mem_cons_self (by simpa using hk)
   have e:cellOf env n=pure c:=by unfold cellOf;rw [hc]
   rw [e]
   have e2:(env.cells.lookup n).getD 0=c:=by rw [hc];rfl
   rw [e2]
   exact ih _
  .rw [if_neg hk,if_neg hk]
   exact ih _
theorem NM {scope:Scope} {env:Env} (h:∀ y∈scope.names,y.2=.free->∃ c,env.cells.lookup y.1=some c):closureFor scope env=pure (B1 env.cells scope.names []):=by
 simp only [closureFor]
 rw [HU env _ (fun n k c=>rfl) scope.names [] h]
 rfl
theorem Ga {α:Type}:∀ {l:List (Str×α)} {n:Str} {c:α},(n,c)∈l->∃ c',l.lookup n=some c'
 | (k,v)::r,n,c,h=>by
  rw [List.lookup_cons]
  cases hb:n==k with
  | true=>exact ⟨_,rfl⟩
  | false =>
   rcases List.mem_cons.mp h with e | h
   .cases e;simp at hb
   .exact Ga h
theorem EF {cells:List (Str×Addr)}:∀ {names:List (Str×NameKind)} {acc:List (Str×Addr)} {n:Str} {c:Addr},(n,c)∈B1 cells names acc->(n,c)∈acc\/((n,.free)∈names/\c=(cells.lookup n).getD 0)
 | [],_,_,_,h=>.inl h
 | (m,k)::r,acc,n,c,h=>by
  unfold B1 at h
  split at h
  .rename_i hk
   have hk:k=.free:=by simpa using hk
   rcases EF h with h | ⟨h1,h2⟩
   .rcases List.mem_cons.mp h with e | h
    .cases e;exact .inr ⟨hk▸List.mem_cons_self,rfl⟩
    .exact .inl h
   .exact .inr ⟨List.mem_cons_of_mem _ h1,h2⟩
  .rcases EF h with h | ⟨h1,h2⟩
   .exact .inl h
   .exact .inr ⟨List.mem_cons_of_mem _ h1,h2⟩
theorem FU {cells:List (Str×Addr)}:∀ {names:List (Str×NameKind)} {acc:List (Str×Addr)} {p:Str×Addr},p∈acc->p∈B1 cells names acc
 | [],_,_,h=>h
 | (m,k)::r,acc,p,h=>by
  unfold B1
  split
  .exact FU (List.mem_cons_of_mem _ h)
  .exact FU h
theorem Fj {cells:List (Str×Addr)}:∀ {names:List (Str×NameKind)} {acc:List (Str×Addr)} {n:Str},(n,.free)∈names->(n,(cells.lookup n).getD 0)∈B1 cells names acc
 | (m,k)::r,acc,n,h=>by
  unfold B1
  rcases List.mem_cons.mp h with e | h
  .cases e
   exact FU List.mem_cons_self
  .split
   .exact Fj h
   .exact Fj h
theorem Er:∀ {names:List (Str×NameKind)} {h:Heap} {acc:List (Str×Addr)} {x:Str} {c:Addr},(x,c)∈cellsFrom h.objs.size names acc ->
  (x,c)∈acc\/((x,.cell)∈names/\h.objs.size<=c/\QM (pushCells h names) c none)
 | [],_,_,_,_,h=>.inl h
 | (n,k)::r,h,acc,x,c,hm=>by
  unfold cellsFrom at hm
  unfold pushCells
  split at hm
  .rename_i hk
   rw [if_pos hk]
   have hk:k=.cell:=by simpa using hk
   rw [<-Heap.size_push h { cls:=.type "cell",data:=.cell none }] at hm
   rcases Er hm with hm | ⟨h1,h2,h3⟩
   .rcases List.mem_cons.mp hm with e | hm
    .cases e
     exact .inr ⟨hk▸List.mem_cons_self,Nat.le_refl _,_,pushCells_keeps r _ _ _ (Heap.get?_push_size _ rfl),rfl⟩
    .exact .inl hm
   .rw [Heap.size_push] at h2
    exact .inr ⟨List.mem_cons_of_mem _ h1,Nat.le_of_succ_le h2,h3⟩
  .rename_i hk
   rw [if_neg hk]
   rcases Er hm with hm | ⟨h1,h2,h3⟩
   .exact .inl hm
   .exact .inr ⟨List.mem_cons_of_mem _ h1,h2,h3⟩
theorem Fy:∀ {names:List (Str×NameKind)} {n:Nat} {acc:List (Str×Addr)} {p:Str×Addr},p∈acc->p∈cellsFrom n names acc
 | [],_,_,_,h=>h
 | (m,k)::r,n,acc,p,h=>by
  unfold cellsFrom
  split
  .exact Fy (List.mem_cons_of_mem _ h)
  .exact Fy h
theorem Hn:∀ {names:List (Str×NameKind)} {n:Nat} {acc:List (Str×Addr)} {x:Str},(x,.cell)∈names->∃ c,(x,c)∈cellsFrom n names acc
 | (m,k)::r,n,acc,x,h=>by
  unfold cellsFrom
  rcases List.mem_cons.mp h with e | h
  .cases e
   exact ⟨n,Fy List.mem_cons_self⟩
  .split
   .exact Hn h
   .exact Hn h
theorem Hc:∀ {names:List (Str×NameKind)} {h:Heap} {acc:List (Str×Addr)} {x y:Str} {c:Addr},(∀ p∈acc,p.2<h.objs.size)->(∀ x y c,(x,c)∈acc->(y,c)∈acc->x=y) ->
  (x,c)∈cellsFrom h.objs.size names acc->(y,c)∈cellsFrom h.objs.size names acc->x=y
 | [],_,_,_,_,_,_,hi,h1,h2=>hi _ _ _ h1 h2
 | (n,k)::r,h,acc,x,y,c,hl,hi,h1,h2=>by
  unfold cellsFrom at h1 h2
  split at h1
  .rename_i hk
   rw [if_pos hk] at h2
   rw [<-Heap.size_push h { cls:=.type "cell",data:=.cell none }] at h1 h2
   refine Hc (h:=h.push _) (fun p hp=>?_) (fun x y c a b=>?_) h1 h2
   .rw [Heap.size_push]
    rcases List.mem_cons.mp hp with rfl | hp
    .exact Nat.lt_succ_self _
    .exact Nat.lt_succ_of_lt (hl p hp)
   .rcases List.mem_cons.mp a with e | a <;> rcases List.mem_cons.mp b with e' | b
    .cases e;cases e';rfl
    .cases e;exact absurd (hl _ b) (Nat.lt_irrefl _)
    .cases e';exact absurd (hl _ a) (Nat.lt_irrefl _)
    .exact hi _ _ _ a b
  .rename_i hk
   rw [if_neg hk] at h2
   exact Hc hl hi h1 h2
theorem Mi {M:Model} {A:Around} {E:Value->Shared->Prop} {s:Shared} {scope:Scope} {globals:Addr} {closure:List (Str×Addr)} {qual:Str} {func:Option Addr} {code:Value} {around:Env} {builtins:Addr} {Q:Env->Shared->Prop}
  (h:Q (newEnv scope s.heap.objs.size globals (cellsFrom (s.heap.objs.size+1) scope.names closure) qual func code (some around) builtins)
   { s with heap:=pushCells (s.heap.push { cls:=.type "dict",data:=.dict #[] }) scope.names }) :
  wpAny M A (newFunctionEnv scope globals closure [] qual func code (some around) builtins) Q E s:=by
 simp only [newFunctionEnv,Option.isSome_some,if_true]
 refine wpAny_bind (wpAny_alloc ?_)
 refine wpAny_bind (wpAny_layCells _ (fun n k c=>rfl) scope.names closure _ _ ?_)
 rw [show ({ s with heap:=s.heap.push { cls:=.type "dict",data:=.dict #[] } }:Shared).heap.objs.size=s.heap.objs.size+1 from Heap.size_push ..]
 rw [List.forIn_nil]
 exact wpAny_bind (wpAny_pure (wpAny_pure h))
theorem FV {sc:Scope}:∀ {names:List (Str×NameKind)} {x:Str} {k:NameKind},
  (names.map fun (n,k)=>if (k==NameKind.free && sc.kind==.function && sc.names.lookup n==some .cell) then (n,NameKind.cell) else (n,k)).lookup x=some k ->
  ∃ k',names.lookup x=some k'/\(k=k'\/(k'=.free/\k=.cell))
 | [],_,_,h=>by simp at h
 | (n,k₀)::r,x,k,h=>by
  have ih:=@FV sc r x k
  have h':List.lookup x ((if (k₀==NameKind.free && sc.kind==.function && sc.names.lookup n==some .cell)=true then (n,NameKind.cell) else (n,k₀))::(r.map _))=some k:=h
  cases hx:x==n with
  | true =>
   simp only [List.lookup_cons,hx]
   by_cases hc:(k₀==NameKind.free && sc.kind==.function && sc.names.lookup n==some .cell)=true
   .rw [if_pos hc] at h'
    simp only [List.lookup_cons,hx] at h'
    cases h'
    simp only [Bool.and_eq_true,beq_iff_eq] at hc
    exact ⟨k₀,rfl,.inr ⟨hc.1.1,rfl⟩⟩
   .rw [if_neg hc] at h'
    simp only [List.lookup_cons,hx] at h'
    cases h'
    exact ⟨_,rfl,.inl rfl⟩
  | false =>
   simp only [List.lookup_cons,hx]
   by_cases hc:(k₀==NameKind.free && sc.kind==.function && sc.names.lookup n==some .cell)=true
   .rw [if_pos hc] at h'
    simp only [List.lookup_cons,hx] at h'
    exact ih h'
   .rw [if_neg hc] at h'
    simp only [List.lookup_cons,hx] at h'
    exact ih h'
structure M5 (N:List Str) (sc scope:Scope) (own:List (Str×Nat)):Prop where
 kind:scope.kind=.function
 uniq:∀ y∈scope.names,scope.names.lookup y.1=some y.2
 ix:∀ p∈own,N[p.2]?=some p.1
 free:∀ y∈scope.names,y.2=.free->sc.names.lookup y.1=some .cell\/sc.names.lookup y.1=some .free
 own:∀ y∈scope.names,y.2=.local\/y.2=.cell->y.1∈own.map (·.1)\/y.1∉N
noncomputable def Bs (σ:St):List Nat->St
 | []=>σ
 | v::vs=>(Bs σ vs).set v none
theorem Fc (σ:St):∀ vs:List Nat,(Bs σ vs).length=σ.length
 | []=>rfl
 | v::vs=>by unfold Bs;rw [List.length_set,Fc σ vs]
theorem Hq {σ:St} {i:Nat} {x:V}:∀ {vs:List Nat},(Bs σ vs)[i]?=some (some x)->σ[i]?=some (some x)/\i∉vs
 | [],h=>⟨h,by simp⟩
 | v::vs,h=>by
  unfold Bs at h
  by_cases hi:v=i
  .subst hi
   by_cases hv:v<(Bs σ vs).length
   .rw [List.getElem?_set_self hv] at h;cases h
   .rw [List.getElem?_eq_none (by simpa using hv)] at h;cases h
  .rw [List.getElem?_set_ne hi] at h
   obtain ⟨h1,h2⟩:=Hq h
   exact ⟨h1,by simp only [List.mem_cons,not_or];exact ⟨fun e=>hi e.symm,h2⟩⟩
abbrev Cx.blk (X:Cx) (s:Shared) (H:Hp) (scope:Scope) (cenv:Env) (fp:List Addr):Cx:={ X with s_0:=s,H_0:=H,env:=cenv,outer:=X.stack,ex:=fp,fn:=fun x=>scope.names.lookup x==some .cell,pn:=[],xe:=fun _ _=>False }
section
variable {X:Cx} {pins:List (Addr×Obj)} {σ:St} {H:Hp} {s:Shared}
theorem Mo {scope:Scope} {own:List (Str×Nat)} {fp:List Addr} (I:Inv X pins σ H s) (ok:M5 X.N X.env.scope scope own) (hN:X.N.Nodup) (hfp:∀ b∈fp,Il X pins H b/\b<s.heap.objs.size) :
  Inv (X.blk s H scope (compEnvC scope (cellsFrom (s.heap.objs.size+1) scope.names (B1 X.env.cells scope.names [])) s.heap.objs.size X.env) fp) [] (Bs σ (own.map (·.2))) H { s with heap:=pushCells (s.heap.push { cls:=.type "dict",data:=.dict #[] }) scope.names }:=by
 have hfree:∀ y∈scope.names,y.2=.free->∃ c,X.env.cells.lookup y.1=some c:=fun y hy e=>by
  rcases ok.free y hy e with k | k
  .exact I.ok.has _ (.inl k)
  .exact I.ok.has _ (.inr k)
 generalize hcenv:compEnvC scope (cellsFrom (s.heap.objs.size+1) scope.names (B1 X.env.cells scope.names [])) s.heap.objs.size X.env=cenv
 have kp:∀ b o,s.heap.get? b=some o->(pushCells (s.heap.push { cls:=.type "dict",data:=.dict #[] }) scope.names).get? b=some o:=fun b o e=>pushCells_keeps _ _ _ _ (Heap.get?_push_of_some _ e)
 have hL:cenv.locals=s.heap.objs.size:=by rw [<-hcenv];rfl
 have hcl:cenv.cells=cellsFrom (s.heap.objs.size+1) scope.names (B1 X.env.cells scope.names []):=by rw [<-hcenv];rfl
 have hsc:cenv.scope=Uz scope X.env.scope:=by rw [<-hcenv];rfl
 rw [<-Heap.size_push s.heap { cls:=.type "dict",data:=.dict #[] }] at hcl
 have cm:∀ {y c},(y,c)∈B1 X.env.cells scope.names []->X.env.cells.lookup y=some c/\c<s.heap.objs.size:=fun {y c} hm=>by
  rcases EF hm with hm | ⟨h1,rfl⟩
  .cases hm
  .obtain ⟨c,hc⟩:=hfree _ h1 rfl
   rw [hc]
   obtain ⟨w,z⟩:=I.cell _ _ hc
   exact ⟨rfl,z.lt⟩
 have mem:∀ {y c},cenv.cells.lookup y=some c->(X.env.cells.lookup y=some c/\c<s.heap.objs.size)\/(s.heap.objs.size+1<=c/\QM (pushCells (s.heap.push { cls:=.type "dict",data:=.dict #[] }) scope.names) c none):=fun {y c} e=>by
  rw [hcl] at e
  rcases Er (PySem.mem_of_lookup e) with hm | ⟨_,h2,h3⟩
  .exact .inl (cm hm)
  .rw [Heap.size_push] at h2;exact .inr ⟨h2,h3⟩
 have look:∀ {y},scope.names.lookup y=some .free->∃ c,cenv.cells.lookup y=some c/\X.env.cells.lookup y=some c:=fun {y} hl=>by
  have hy:(y,NameKind.free)∈scope.names:=PySem.mem_of_lookup hl
  obtain ⟨c',e'⟩:=Ga (Fy (names:=scope.names) (n:=(s.heap.push { cls:=.type "dict",data:=.dict #[] }).objs.size) (Fj (cells:=X.env.cells) (acc:=[]) hy))
  rw [<-hcl] at e'
  refine ⟨c',e',?_⟩
  rw [hcl] at e'
  rcases Er (PySem.mem_of_lookup e') with hm | ⟨h1,_,_⟩
  .exact (cm hm).1
  .have:=ok.uniq _ h1
   rw [hl] at this;cases this
 have okB:(X.blk s H scope cenv fp).Ok:=by
  refine ⟨I.ok.mod,by show cenv.scope.kind=_;rw [hsc];exact ok.kind,by show cenv.globals=_;rw [<-hcenv];exact I.ok.glob,by show cenv.builtins=_;rw [<-hcenv];exact I.ok.blt,by show s.heap.objs.size<=cenv.locals;rw [hL];exact Nat.le_refl _,
   fun y z c e1 e2=>?_,fun y hy=>?_,fun y c z e=>?_,I.ok.hd,I.ok.frames,.inl rfl,fun b hb=>⟨?_,fun y c e z=>?_⟩,I.bs,Nat.le_trans I.ok.bsz I.sz,fun b o e hb=>?_,fun b hb z=>?_,I.stack,I.stkFree⟩
  .have e1:cenv.cells.lookup y=some c:=e1
   have e2:cenv.cells.lookup z=some c:=e2
   rw [hcl] at e1 e2
   refine Hc (fun p hp=>?_) (fun y z c a b=>I.ok.inj y z c (cm a).1 (cm b).1) (PySem.mem_of_lookup e1) (PySem.mem_of_lookup e2)
   rw [Heap.size_push]
   exact Nat.lt_succ_of_lt (cm (y:=p.1) (c:=p.2) hp).2
  .show ∃ c,cenv.cells.lookup y=some c
   have key:∀ k,cenv.kindOf y=some k->(k=.cell\/k=.free)->∃ c,cenv.cells.lookup y=some c:=fun k hk hk'=>by
    unfold Env.kindOf at hk
    rw [hsc] at hk
    obtain ⟨k',e,r⟩:=FV hk
    have:k'=.cell\/k'=.free:=by
     rcases r with rfl | ⟨rfl,_⟩
     .exact hk'
     .exact .inr rfl
    rcases this with rfl | rfl
    .obtain ⟨c,hm⟩:=Hn (n:=(s.heap.push { cls:=.type "dict",data:=.dict #[] }).objs.size) (acc:=B1 X.env.cells scope.names []) (PySem.mem_of_lookup e)
     obtain ⟨c',e'⟩:=Ga hm
     exact ⟨c',by rw [hcl];exact e'⟩
    .obtain ⟨c,h1,_⟩:=look e
     exact ⟨c,h1⟩
   rcases hy with hy | hy
   .exact key _ hy (.inl rfl)
   .exact key _ hy (.inr rfl)
  .have z:(scope.names.lookup y==some NameKind.cell)=true:=z
   have z:scope.names.lookup y=some .cell:=by simpa using z
   have e:cenv.cells.lookup y=some c:=e
   rw [hcl] at e
   rcases Er (PySem.mem_of_lookup e) with hm | ⟨_,h2,_⟩
   .rcases EF hm with hm | ⟨h1,_⟩
    .cases hm
    .have q:=ok.uniq _ h1
     rw [z] at q;cases q
   .rw [Heap.size_push] at h2
    exact Nat.le_of_succ_le h2
  .show b≠cenv.locals
   rw [hL];exact Nat.ne_of_lt (hfp b hb).2
  .have e:cenv.cells.lookup y=some c:=e
   rcases mem e with ⟨h1,_⟩ | ⟨h1,_⟩
   .exact (hfp b hb).1.2.2.2.2.1 y c h1 z
   .have h2:s.heap.objs.size+1<=b:=by rw [<-z];exact h1
    exact absurd (Nat.lt_of_lt_of_le (hfp b hb).2 (Nat.le_of_succ_le h2)) (Nat.lt_irrefl _)
  .rcases (hfp b hb).1.2.2.2.1 with z | z
   .exact I.ok.noex b o e z
   .exact absurd (Nat.lt_of_lt_of_le (Heap.lt_size e) (Nat.le_trans I.ok.bsz z)) (Nat.lt_irrefl _)
  .rcases List.mem_cons.mp (I.stkSub b z) with z | z
   .exact (hfp b hb).1.2.1 z
   .exact (hfp b hb).1.2.2.1 z
 refine ⟨okB,rfl,I.bare,Un.kept kp,⟨fun _=>none,?_,fun i y av e1 e2 e3=>?_⟩,fun y c e=>?_,?_,fun y c e=>?_,fun p hp=>?_,I.hok.kept kp,by rw [Fc];exact I.len⟩
 .show Heap.Ns _ cenv.locals _
  rw [hL]
  exact Heap.Ns.keeps (Heap.Ns.new ..) fun b o e=>pushCells_keeps _ _ _ _ e
 .obtain ⟨e2,hne⟩:=Hq e2
  have hfr:scope.names.lookup y=some .free/\(cenv.kindOf y=some .cell\/cenv.kindOf y=some .free):=by
   have key:∀ k,cenv.scope.names.lookup y=some k->k=.local\/k=.cell\/k=.free->scope.names.lookup y=some .free/\(cenv.kindOf y=some .cell\/cenv.kindOf y=some .free):=fun k hk hk'=>by
    have hk0:=hk
    rw [hsc] at hk
    obtain ⟨k',e,r⟩:=FV hk
    have no:¬(k'=.local\/k'=.cell):=fun hh=>by
     rcases ok.own _ (PySem.mem_of_lookup e) hh with e' | e'
     .obtain ⟨p,hp,hpy⟩:=List.mem_map.mp e'
      have e3:=ok.ix p hp
      have:p.1=y:=hpy
      rw [this] at e3
      exact hne (List.mem_map.mpr ⟨p,hp,JP hN e3 e1⟩)
     .exact e' (ZD e1)
    rcases r with rfl | ⟨rfl,rfl⟩
    .rcases hk' with rfl | rfl | rfl
     .exact absurd (.inl rfl) no
     .exact absurd (.inr rfl) no
     .exact ⟨e,.inr hk0⟩
    .exact ⟨e,.inl hk0⟩
   have e3:Tm cenv.scope y:=e3
   rcases e3 with e3 | e3 | e3
   .exact key _ e3 (.inl rfl)
   .exact key _ e3 (.inr (.inl rfl))
   .exact key _ e3 (.inr (.inr rfl))
  obtain ⟨m,hn,hl⟩:=I.loc
  have hvis:Tm X.env.scope y:=(ok.free _ (PySem.mem_of_lookup hfr.1) rfl).elim (fun k=>.inr (.inl k)) (fun k=>.inr (.inr k))
  obtain ⟨w,r,q⟩:=hl i y av e1 e2 hvis
  refine ⟨w,r,.inr ⟨hfr.2,?_⟩⟩
  obtain ⟨c,h1,h2⟩:=look hfr.1
  rcases q with ⟨k,_⟩ | ⟨_,c',e',z⟩
  .have k:X.env.scope.names.lookup y=some .local:=k
   rcases ok.free _ (PySem.mem_of_lookup hfr.1) rfl with k' | k' <;> rw [show X.env.scope.names.lookup y=_ from k'] at k <;> cases k
  .rw [h2] at e';cases e'
   exact ⟨c,h1,z.keeps kp⟩
 .have e:cenv.cells.lookup y=some c:=e
  rcases mem e with ⟨h1,_⟩ | ⟨_,z⟩
  .obtain ⟨w,z⟩:=I.cell y c h1
   exact ⟨w,z.keeps kp⟩
  .exact ⟨_,z⟩
 .show H cenv.locals=none
  rw [hL];exact I.hok.fresh (Nat.le_refl _)
 .have e:cenv.cells.lookup y=some c:=e
  rcases mem e with ⟨h1,_⟩ | ⟨h1,_⟩
  .exact I.freeC y c h1
  .exact I.hok.fresh (Nat.le_of_succ_le h1)
 .exact absurd (show p∈([]:List (Addr×Obj))++[] from hp) (by simp)
theorem Tf {E:Value->Shared->Prop} {D:Addr} {xs:List V} {y:V} {v:Value} {Q:Value->Shared->Prop} (I:Inv X pins σ H s) (hD:H D=some (.lst xs)) (hz:xs.length<sizeLine) (r:RelV y v)
  (h:∀ s',Inv X pins σ (upd H D (.lst (xs++[y]))) s'->Q .none s'):wpAny (model X.prog X.w) X.A (call (.builtin "list.append") [.ref D,v]) Q E s:=by
 obtain ⟨hz',its,n,ri,e⟩:=I.hok D _ hD
 have hl:=ri.length
 refine append_at (hsz:=by rw [List.size_toArray];omega) e fun h' sb ho'=>?_
 refine h { s with heap:=h' } (I.write (t':=s.toks) (by rw [hD];trivial) (.inl rfl) (fun b u hb q=>(sb.2 b hb).trans q) ⟨_,ho'⟩ ⟨by rw [List.length_append];exact hz,its++[v],n+1,ri.append (.cons r .nil),?_⟩)
 rw [ho']
 simp
noncomputable def Ue (X:Cx) (ifs:List Expr) (t:TT):Prop :=
 ∀ (pins:List (Addr×Obj)) (s:Shared) (σ:St) (H:Hp) (Q:Bool->Hp->Prop),Inv X pins σ H s->t σ H Q ->
  wpAny (model X.prog X.w) X.A (forIn ifs true fun c r=>if r=true then do let ok <-isTrue c X.env (eval c X.env);pure (ForInStep.yield ok) else pure (ForInStep.yield r)) (TP X pins σ Q) X.xe s
noncomputable def V2:TT:=fun _ H Q=>Q true H
theorem Ba:Ue X [] V2:=fun _ _ _ H _ I h=>wpAny_tests_nil ⟨H,I,h⟩
end
theorem Px {α:Type} {t:Sem α} {Q Q':α->Shared->Prop} {M:Model} {A:Around} {E:Value->Shared->Prop} {s:Shared} (h:wpAny M A t Q (fun _ _=>False) s) (hQ:∀ a s,Q a s->Q' a s):wpAny M A t Q' E s:=wpAny_mono h hQ fun _ _ z=>False.elim z
theorem LT {prog:Program} {w:World} {A:Around} {R:Result->Shared->Prop} {s:Shared} {elt target iter:Expr} {ifs:List Expr} {scope:Scope} {pos:Pos} {it acc:Value} {env:Env} (I:Nat->Shared->Prop)
  (turn:∀ n s,I n s->wpAny (model prog w) A (pyNext it) (fun r s₁=>match r with
   | none=>R (.ok .next) s₁
   | some v=>wpAny (model prog w) A (letOwnedTupleGo target it v) (fun _ s₁'=>wpAny (model prog w) A (assign target env v) (fun _ s₂ =>
     wpAny (model prog w) A (forIn ifs true fun c r=>if r=true then do let ok <-isTrue c env (eval c env);pure (ForInStep.yield ok) else pure (ForInStep.yield r)) (fun ok s₃ =>
      if ok=true then wpAny (model prog w) A (eval elt env) (fun x s₄ =>
       wpAny (model prog w) A (call (.builtin "list.append") [acc,x]) (fun _ s₅=>∃ m,m<n/\I m s₅) (notedBy (model prog w) A env fun e s'=>R (.error e) s') s₄) (notedBy (model prog w) A env fun e s'=>R (.error e) s') s₃
      else ∃ m,m<n/\I m s₃) (notedBy (model prog w) A env fun e s'=>R (.error e) s') s₂) (notedBy (model prog w) A env fun e s'=>R (.error e) s') s₁') (notedBy (model prog w) A env fun e s'=>R (.error e) s') s₁) (notedBy (model prog w) A env fun e s'=>R (.error e) s') s)
  (n:Nat) (h:I n s) :
  codeAny (model prog w) A (.compLoop (.ListComp elt [⟨target,iter,ifs,0⟩] scope pos) 0 it acc env) R s:=by
 refine codeAny_loop rfl I (fun n s hI=>?_) n h
 show wpAny _ A ((compTurn (.ListComp elt [⟨target,iter,ifs,0⟩] scope pos) 0 it acc env).onRaise (fun x=>do noteFrame x env;theTreesLotGoes x)) _ _ s
 refine wpAny_noted ?_
 rw [compTurn_list]
 refine wpAny_bind (wpAny_standAt (wpAny_bind (wpAny_mono (turn n s hI) (fun r s₁ h₁=>?_) fun _ _ h'=>h')))
 cases r with
 | none=>exact wpAny_pure h₁
 | some v =>
  refine wpAny_bind (wpAny_mono h₁ (fun _ s₁' h₁'=>?_) fun _ _ h'=>h')
  refine wpAny_bind (wpAny_mono h₁' (fun _ s₂ h₂=>wpAny_bind (wpAny_mono h₂ (fun ok s₃ h₃=>?_) fun _ _ h'=>h')) fun _ _ h'=>h')
  cases ok with
  | false=>exact wpAny_pure ⟨rfl,h₃⟩
  | true =>
   exact wpAny_bind (wpAny_bind (wpAny_mono h₃ (fun x s₄ h₄=>wpAny_bind (wpAny_mono h₄ (fun _ s₅ h₅=>wpAny_pure (wpAny_pure ⟨rfl,h₅⟩)) fun _ _ h'=>h')) fun _ _ h'=>h'))
section
variable {X:Cx}
noncomputable def Ug (wi:TI) (g:TG) (tt:TT) (te:TE) (vs:List Nat):TE:=fun σ H Q=>wi σ H fun J H1=>∀ D,H1 D=none->∃ W:Nat->Nat->Hp->Prop,(∃ m,W 0 m (upd H1 D (.lst [])))/\∀ i m H,W i m H ->
 (J.stop i H/\Q (.ref D) H)\/(J.go i H/\∃ Nx:Hp->Prop,(∀ H',Nx H'->∃ m',m'<m/\W (i+1) m' H')/\∀ x H',J.yld i H x H'->g x (Bs σ vs) H' fun σ2 H2=>Bs σ2 vs=Bs σ vs/\tt σ2 H2 fun b H3 =>
  if b=true then te σ2 H3 fun y H4=>∃ acc,H4 D=some (.lst acc)/\acc.length<sizeLine/\Nx (upd H4 D (.lst (acc++[y]))) else Nx H3)
theorem Od {pins:List (Addr×Obj)} {s:Shared} {σ:St} {H:Hp} {Q:VK} {elt tg iter:Expr} {ifs:List Expr} {scope:Scope} {own:List (Str×Nat)} {pos pos':Pos} {wi:TI} {g:TG} {tt:TT} {te:TE} {use:Option (Value->Sem Unit)} {Qf:Value->Shared->Prop}
  (hc:X.calm=true) (hN:X.N.Nodup) (I:Inv X pins σ H s) (hi:PI X tg iter wi) (ok:M5 X.N X.env.scope scope own)
  (hg:∀ (s:Shared) (H:Hp) (C:Addr) (cl:List (Str×Addr)) (fp:List Addr),PG (X.blk s H scope (compEnvC scope cl C X.env) fp) tg g) (ht:∀ (s:Shared) (H:Hp) (C:Addr) (cl:List (Str×Addr)) (fp:List Addr),Ue (X.blk s H scope (compEnvC scope cl C X.env) fp) ifs tt)
  (he:∀ (s:Shared) (H:Hp) (C:Addr) (cl:List (Str×Addr)) (fp:List Addr),PE (X.blk s H scope (compEnvC scope cl C X.env) fp) elt te) (hs:∀ x,foldedSetIterable iter X.env x=pure x)
  (h:Ug wi g tt te (own.map (·.2)) σ H Q)
  (hRR:∀ D C s' m H',Inv X pins σ H' s'->Q (.ref D) H'->s'.heap.Ns C m->Il X pins H' C->compPost (model X.prog X.w) X.A X.xe use Qf (.ref D) C (.ok .next) s') :
  wpAny (model X.prog X.w) X.A (comprehension (.ListComp elt [⟨tg,iter,ifs,0⟩] scope pos) scope X.env pos' (newList []) false (eval iter X.env) use) Qf X.xe s:=by
 have hfree:∀ y∈scope.names,y.2=.free->∃ c,X.env.cells.lookup y.1=some c:=fun y hy e=>by
  rcases ok.free y hy e with k | k
  .exact I.ok.has _ (.inl k)
  .exact I.ok.has _ (.inr k)
 refine wpAny_comprehension_free (use:=use) rfl hs (NM hfree) ok.kind (fun y hy e=>by rw [ok.uniq y hy,e])
  (B7 (hi pins s σ H _ I h) fun xv s1 hx=>B7 hx fun itv s2 h2=>?_)
 obtain ⟨it,fp,tn,J,H2,e,I2,T,st2,f2,q⟩:=h2
 subst e
 refine wpAny_newObj_type (Mi ?_) (by show 0<=sizeLine;decide)
 generalize hD:s2.heap.objs.size=D
 have hDn:H2 D=none:=I2.hok.fresh (Nat.le_of_eq hD)
 obtain ⟨W,⟨m0,w0⟩,turn⟩:=q D hDn
 -- the new list
 generalize hs3:({ s2 with heap:=s2.heap.push { cls:=.type "list",data:=.seq ([]:List Value).toArray } }:Shared)=s3
 have I3:Inv X pins σ (upd H2 D (.lst [])) s3:=by
  rw [<-hs3]
  refine I2.laid (t':=s2.toks) (fun b o e=>Heap.get?_push_of_some _ e) (Nat.le_of_eq hD) ⟨Nat.zero_le _,[],0,.nil,?_⟩
  rw [<-hD]
  exact Heap.get?_push_size _ rfl
 have h3:s3.heap=s2.heap.push { cls:=.type "list",data:=.seq ([]:List Value).toArray }:=by rw [<-hs3]
 have sz:∀ b∈fp,b<s2.heap.objs.size:=fun b hb=>by
  obtain ⟨o,e,_⟩:=T.obj _ _ st2 b hb
  exact Heap.lt_size e
 have f3:∀ b∈fp,Il X pins (upd H2 D (.lst [])) b/\b<s3.heap.objs.size:=fun b hb=>by
  have hlt:=sz b hb
  refine ⟨⟨?_,(f2 b hb).2⟩,by rw [h3,Heap.size_push];exact Nat.lt_succ_of_lt hlt⟩
  rw [AQ (by rw [<-hD];exact Nat.ne_of_lt hlt)]
  exact (f2 b hb).1
 have st3:tn 0 s3.heap:=T.keep _ _ _ st2 fun b _ o e=>by rw [h3];exact Heap.get?_push_of_some _ e
 have I4:=Mo I3 ok hN f3
 have pg:=hg s3 (upd H2 D (.lst [])) s3.heap.objs.size (cellsFrom (s3.heap.objs.size+1) scope.names (B1 X.env.cells scope.names [])) fp
 have pt:=ht s3 (upd H2 D (.lst [])) s3.heap.objs.size (cellsFrom (s3.heap.objs.size+1) scope.names (B1 X.env.cells scope.names [])) fp
 have pe:=he s3 (upd H2 D (.lst [])) s3.heap.objs.size (cellsFrom (s3.heap.objs.size+1) scope.names (B1 X.env.cells scope.names [])) fp
 show codeAny _ _ (.compStart (.ListComp elt [⟨tg,iter,ifs,0⟩] scope pos) 0 (.ref it) (.ref D) (compEnvC scope (cellsFrom (s3.heap.objs.size+1) scope.names (B1 X.env.cells scope.names [])) s3.heap.objs.size X.env)) (compPost (model X.prog X.w) X.A X.xe use Qf (.ref D) s3.heap.objs.size) { s3 with heap:=pushCells (s3.heap.push { cls:=.type "dict",data:=.dict #[] }) scope.names }
 have nfp:∀ b∈fp,(upd H2 D (.lst [])) b=none:=fun b hb=>(f3 b hb).1.1
 generalize hce:compEnvC scope (cellsFrom (s3.heap.objs.size+1) scope.names (B1 X.env.cells scope.names [])) s3.heap.objs.size X.env=ce at I4 pg pt pe ⊢
 have cL:ce.locals=s3.heap.objs.size:=by subst hce;rfl
 generalize hH3:upd H2 D (.lst [])=H3 at I3 I4 pg pt pe w0 nfp f3
 generalize hs4:({ s3 with heap:=pushCells (s3.heap.push { cls:=.type "dict",data:=.dict #[] }) scope.names }:Shared)=s4 at I4 ⊢
 have st4:tn 0 s4.heap:=T.keep _ _ _ st3 fun b _ o e=>by rw [<-hs4];exact pushCells_keeps _ _ _ _ (Heap.get?_push_of_some _ e)
 have Bu:∀ {σ':St} {H':Hp} {s':Shared},Inv (X.blk s3 H3 scope ce fp) [] σ' H' s'->(∀ b∈fp,H' b=none)->∀ b∈fp,Il (X.blk s3 H3 scope ce fp) [] H' b:=fun {σ' H' s'} I' hn b hb =>
  ⟨hn b hb,(I'.ok.exf b hb).1,I'.ok.exfs b hb,.inl hb,fun x c e=>(I'.ok.exf b hb).2 x c e,fun p hp=>absurd (show p∈([]:List (Addr×Obj))++[] from hp) (by simp)⟩
 have loop:codeAny (model X.prog X.w) X.A (.compLoop (.ListComp elt [⟨tg,iter,ifs,0⟩] scope pos) 0 (.ref it) (.ref D) ce) (compPost (model X.prog X.w) X.A X.xe use Qf (.ref D) s3.heap.objs.size) s4:=by
  refine LT (fun n s'=>∃ i H',Inv (X.blk s3 H3 scope ce fp) [] (Bs σ (own.map (·.2))) H' s'/\tn i s'.heap/\(∀ b∈fp,H' b=none)/\W i n H') ?_ m0 ⟨0,H3,I4,st4,nfp,w0⟩
  rintro n s5 ⟨i,H5,I5,st5,n5,w5⟩
  rcases turn i n H5 w5 with ⟨stop,qq⟩ | ⟨go,Nx,hNx,step⟩
  .have td:=T.done (X.blk s3 H3 scope ce fp) rfl rfl rfl hc i [] s5 _ H5 (fun _ _=>False) I5 (Bu I5 n5) st5 stop
   refine Px td fun r s6 ⟨hr,I6⟩=>?_
   subst hr
   -- back in the def's context
   have I7:Inv X pins σ H5 s6:=I3.call' (ch:=fp) I6.os I6.base I6.hok I6.bare fun b hb=>⟨(f3 b hb).1.2.2.2.1,(f3 b hb).1.2.1,(f3 b hb).1.2.2.2.2.1,(f3 b hb).1.2.2.2.2.2⟩
   have nC:H5 s3.heap.objs.size=none:=by
    have z:H5 ce.locals=none:=I6.free
    rw [cL] at z
    exact z
   obtain ⟨m,hn,_⟩:=I6.loc
   have hn:s6.heap.Ns ce.locals m:=hn
   rw [cL] at hn
   exact hRR D s3.heap.objs.size s6 m H5 I7 qq hn (I3.fpOk (Nat.le_refl _) nC)
  .have ti:=T.item (X.blk s3 H3 scope ce fp) rfl rfl rfl hc i [] s5 _ H5 (fun _ _=>False) I5 (Bu I5 n5) st5 go
   refine Px ti fun r s6 ⟨u,hr,h6⟩=>?_
   subst hr
   refine Px h6 fun _ s7 ⟨x,H7,I7,r7,y7,st7,n7⟩=>?_
   have I7':=I7.pinned (Bu I7 n7) (T.obj _ _ st7)
   refine Px (pg _ s7 _ H7 x u _ I7' r7 (step x H7 y7)) fun _ s8 ⟨σ8,H8,I8,hw8,q8⟩=>?_
   refine Px (pt _ s8 σ8 H8 _ I8 q8) fun b s9 ⟨H9,I9,q9⟩=>?_
   -- the turn's end
   have fin:∀ {s':Shared} {H':Hp},Inv (X.blk s3 H3 scope ce fp) ([]++Jg fp s7.heap) σ8 H' s'->Nx H'->∃ m,m<n/\∃ i H',Inv (X.blk s3 H3 scope ce fp) [] (Bs σ (own.map (·.2))) H' s'/\tn i s'.heap/\(∀ b∈fp,H' b=none)/\W i m H':=fun {s' H'} I' nx=>by
    obtain ⟨m',hm,w'⟩:=hNx H' nx
    have pin':∀ b∈fp,∀ o,s7.heap.get? b=some o->s'.heap.get? b=some o/\H' b=none:=fun b hb o e =>
     let z:=I'.pin (b,o) (List.mem_append_right _ (List.mem_append_right _ (GM hb e)))
     ⟨z.1,z.2.1⟩
    have hl:(Bs σ (own.map (·.2))).length=σ8.length:=by rw [<-hw8,Fc]
    refine ⟨m',hm,i+1,H',(I'.unpinned (pins:=[])).weak hl (fun j v e=>?_),T.keep _ _ _ st7 fun b hb o e=>(pin' b hb o e).1,fun b hb=>?_,w'⟩
    .rw [<-hw8] at e
     exact (Hq e).1
    .obtain ⟨o,e,_⟩:=T.obj _ _ st7 b hb
     exact (pin' b hb o e).2
   cases b with
   | false =>
    simp only [Bool.false_eq_true,if_false] at q9 ⊢
    exact fin I9 q9
   | true =>
    simp only [if_true] at q9 ⊢
    refine Px (pe _ s9 σ8 H9 _ I9 q9) fun z s10 ⟨yv,H10,I10,r10,acc,hD10,hz10,nx⟩=>?_
    exact Tf (X:=X.blk s3 H3 scope ce fp) I10 hD10 hz10 r10 fun s11 I11=>fin I11 nx
 exact codeAny_compStart_list loop (T.self X.A 0 _ _ _ st4 loop)
theorem JH {elt tg iter:Expr} {ifs:List Expr} {scope:Scope} {own:List (Str×Nat)} {pos:Pos} {wi:TI} {g:TG} {tt:TT} {te:TE} (hc:X.calm=true) (hN:X.N.Nodup) (hi:PI X tg iter wi) (ok:M5 X.N X.env.scope scope own)
  (hg:∀ (s:Shared) (H:Hp) (C:Addr) (cl:List (Str×Addr)) (fp:List Addr),PG (X.blk s H scope (compEnvC scope cl C X.env) fp) tg g) (ht:∀ (s:Shared) (H:Hp) (C:Addr) (cl:List (Str×Addr)) (fp:List Addr),Ue (X.blk s H scope (compEnvC scope cl C X.env) fp) ifs tt)
  (he:∀ (s:Shared) (H:Hp) (C:Addr) (cl:List (Str×Addr)) (fp:List Addr),PE (X.blk s H scope (compEnvC scope cl C X.env) fp) elt te) (hs:∀ x,foldedSetIterable iter X.env x=pure x:=by intro _;rfl) :
  PE X (.ListComp elt [⟨tg,iter,ifs,0⟩] scope pos) (Ug wi g tt te (own.map (·.2))):=by
 intro pins s σ H Q I h
 rw [eval_ListComp]
 refine Od hc hN I hi ok hg ht he hs h fun D C s' m H' I' q hn f=>⟨m,hn,fun h'' sb=>?_⟩
 obtain ⟨f0,f1,f2,f3,f4,f5⟩:=f
 exact ⟨.ref D,H',I'.turned (t':=s'.toks) (fun b o hb e=>(sb.2 b hb).trans e) f0 f1 f3 f4 f5,rfl,q⟩
theorem Cd {i:Nat} {y:Str} {py:Pos} {elt tg iter:Expr} {ifs:List Expr} {scope:Scope} {own:List (Str×Nat)} {pos spos:Pos} {wi:TI} {g:TG} {tt:TT} {te:TE} (hc:X.calm=true) (hN:X.N.Nodup) (hy:X.N[i]?=some y) (hyl:X.env.scope.names.lookup y=some .local)
  (hsw:swapsWith (.ListComp elt [⟨tg,iter,ifs,0⟩] scope pos) (some (.Name y py)) spos.line X.env=pure true) (hi:PI X tg iter wi) (ok:M5 X.N X.env.scope scope own)
  (hg:∀ (s:Shared) (H:Hp) (C:Addr) (cl:List (Str×Addr)) (fp:List Addr),PG (X.blk s H scope (compEnvC scope cl C X.env) fp) tg g) (ht:∀ (s:Shared) (H:Hp) (C:Addr) (cl:List (Str×Addr)) (fp:List Addr),Ue (X.blk s H scope (compEnvC scope cl C X.env) fp) ifs tt)
  (he:∀ (s:Shared) (H:Hp) (C:Addr) (cl:List (Str×Addr)) (fp:List Addr),PE (X.blk s H scope (compEnvC scope cl C X.env) fp) elt te) (hs:∀ x,foldedSetIterable iter X.env x=pure x:=by intro _;rfl) :
  PS X (.Assign [.Name y py] (.ListComp elt [⟨tg,iter,ifs,0⟩] scope pos) spos) (Sn (Ug wi g tt te (own.map (·.2))) (Ou i)):=by
 intro pins s σ H D I h
 rw [exec_Assign_Name_used _ _ _ _ hsw]
 refine wpAny_bind (wpAny_standAt (wpAny_bind ?_))
 show wpAny _ X.A (do let _ <-comprehension (.ListComp elt [⟨tg,iter,ifs,0⟩] scope pos) scope X.env (firstIterPos [⟨tg,iter,ifs,0⟩] pos) (newList []) false (eval iter X.env) (some (assign (.Name y py) X.env))) _ _ s
 have h:Ug wi g tt te (own.map (·.2)) σ H (fun x H1=>Ou i x σ H1 D.nx):=h
 refine wpAny_bind (B7 (Od (Qf:=fun _ s'=>SP X pins D .next s') hc hN I hi ok hg ht he hs h fun L C s' m H' I' q hn f=>?_) fun _ s' hq=>wpAny_pure (wpAny_pure hq))
 show wpAny _ _ (assign (.Name y py) X.env (.ref L)) _ _ _
 refine wpAny_assign_Name (Kv (v:=V.ref L) I' hN hy (.inl hyl) rfl (fun s2 I2 ⟨a,sb,ha⟩=>?_) (.inr hyl))
 obtain ⟨f0,f1,f2,f3,f4,f5⟩:=f
 have haC:C≠a:=by
  rcases ha with z | z
  .rw [z];exact f1
  .exact fun e=>f4 y a z e.symm
 refine ⟨m,hn.sameBut sb haC,fun h3 sb3=>?_⟩
 exact ⟨_,H',I2.turned (t':=s2.toks) (fun b o hb e=>(sb3.2 b hb).trans e) f0 f1 f3 f4 f5,q⟩
theorem Dc {elt:Expr} {gs:List Comprehension} {scope:Scope} {pos py:Pos} {y:Str} {l:Nat} {env:Env} (hk:env.scope.kind=.function) (hy:env.scope.names.lookup y=some .local) (hl:(py.line==pos.line)=true)
  (ha:(scope.names.any fun (n,k)=>n==y && (k==.local || k==.cell))=false):swapsWith (.ListComp elt gs scope pos) (some (.Name y py)) l env=pure true:=by
 have ky:env.kindOf y=some .local:=hy
 have hb:env.blockKind=.function:=by unfold Env.blockKind;rw [hk];rfl
 unfold swapsWith
 simp only [hb,ky,ha,Expr.pos,hl]
 rfl
end
theorem Md {lo:Int} {n:Nat} {g:TG} {tt:TT} {te:TE} {vs:List Nat} {σ:St} {H1:Hp} {D:Addr} {Qd:Hp->Prop} (Pv:Nat->Hp->Prop) (h0:Pv 0 (upd H1 D (.lst [])))
  (hs:∀ i H,i<n->Pv i H->g (.int (lo+i)) (Bs σ vs) H fun σ2 H2=>Bs σ2 vs=Bs σ vs/\tt σ2 H2 fun b H3 =>
   if b=true then te σ2 H3 fun y H4=>∃ acc,H4 D=some (.lst acc)/\acc.length<sizeLine/\Pv (i+1) (upd H4 D (.lst (acc++[y]))) else Pv (i+1) H3) (hd:∀ H,Pv n H->Qd H) :
  ∃ W:Nat->Nat->Hp->Prop,(∃ m,W 0 m (upd H1 D (.lst [])))/\∀ i m H,W i m H ->
   ((NL lo n).stop i H/\Qd H)\/((NL lo n).go i H/\∃ Nx:Hp->Prop,(∀ H',Nx H'->∃ m',m'<m/\W (i+1) m' H')/\∀ x H',(NL lo n).yld i H x H'->g x (Bs σ vs) H' fun σ2 H2=>Bs σ2 vs=Bs σ vs/\tt σ2 H2 fun b H3 =>
    if b=true then te σ2 H3 fun y H4=>∃ acc,H4 D=some (.lst acc)/\acc.length<sizeLine/\Nx (upd H4 D (.lst (acc++[y]))) else Nx H3):=by
 refine ⟨fun i m H=>m=n - i/\i<=n/\Pv i H,⟨n,by simp,Nat.zero_le _,h0⟩,?_⟩
 rintro i m H ⟨rfl,hi,p⟩
 by_cases hlt:i<n
 .refine .inr ⟨hlt,Pv (i+1),fun H' p'=>⟨n - (i+1),by omega,rfl,hlt,p'⟩,fun x H' y=>?_⟩
  obtain ⟨e,y⟩:=y
  subst e y
  exact hs i _ hlt p
 .have e:i=n:=by omega
  subst e
  exact .inl ⟨Nat.le_refl _,hd H p⟩
theorem Og {K:PySem.W.Frag} {a:Addr} {xs:List V} {g:TG} {tt:TT} {te:TE} {vs:List Nat} {σ:St} {H1:Hp} {D:Addr} {Qd:Hp->Prop} (Pv:Nat->Hp->Prop) (h0:Pv 0 (upd H1 D (.lst []))) (hl:∀ i H,i<=xs.length->Pv i H->SqL K H a xs)
  (hs:∀ i x H,xs[i]?=some x->Pv i H->g x (Bs σ vs) H fun σ2 H2=>Bs σ2 vs=Bs σ vs/\tt σ2 H2 fun b H3 =>
   if b=true then te σ2 H3 fun y H4=>∃ acc,H4 D=some (.lst acc)/\acc.length<sizeLine/\Pv (i+1) (upd H4 D (.lst (acc++[y]))) else Pv (i+1) H3) (hd:∀ H,Pv xs.length H->Qd H) :
  ∃ W:Nat->Nat->Hp->Prop,(∃ m,W 0 m (upd H1 D (.lst [])))/\∀ i m H,W i m H ->
   ((QK K a).stop i H/\Qd H)\/((QK K a).go i H/\∃ Nx:Hp->Prop,(∀ H',Nx H'->∃ m',m'<m/\W (i+1) m' H')/\∀ x H',(QK K a).yld i H x H'->g x (Bs σ vs) H' fun σ2 H2=>Bs σ2 vs=Bs σ vs/\tt σ2 H2 fun b H3 =>
    if b=true then te σ2 H3 fun y H4=>∃ acc,H4 D=some (.lst acc)/\acc.length<sizeLine/\Nx (upd H4 D (.lst (acc++[y]))) else Nx H3):=by
 refine ⟨fun i m H=>m=xs.length - i/\i<=xs.length/\Pv i H,⟨xs.length,by simp,Nat.zero_le _,h0⟩,?_⟩
 rintro i m H ⟨rfl,hi,p⟩
 have q:=hl i H hi p
 by_cases hlt:i<xs.length
 .refine .inr ⟨⟨xs,xs[i],q,by simp [hlt]⟩,Pv (i+1),fun H' p'=>⟨xs.length - (i+1),by omega,rfl,hlt,p'⟩,fun x H' y=>?_⟩
  obtain ⟨e,y⟩:=y
  subst e
  exact hs i x _ (y xs q) p
 .have e:i=xs.length:=by omega
  subst e
  exact .inl ⟨⟨xs,q,Nat.le_refl _⟩,hd H p⟩
noncomputable def FK (N:List Str) (sc scope:Scope) (own:List (Str×Nat)):Bool :=
 (match scope.kind with | .function=>true | _=>false) && (scope.names.all fun y=>decide (scope.names.lookup y.1=some y.2)) && (own.all fun p=>decide (N[p.2]?=some p.1)) &&
  (scope.names.all fun y=>match y.2 with
   | .free=>(match sc.names.lookup y.1 with | some .cell=>true | some .free=>true | _=>false)
   | .local=>decide (y.1∈own.map (·.1)) || decide (y.1∉N)
   | .cell=>decide (y.1∈own.map (·.1)) || decide (y.1∉N)
   | _=>true)
theorem BE {N:List Str} {sc scope:Scope} {own:List (Str×Nat)} (h:FK N sc scope own=true):M5 N sc scope own:=by
 unfold FK at h
 simp only [Bool.and_eq_true,List.all_eq_true,decide_eq_true_eq] at h
 obtain ⟨⟨⟨h1,h2⟩,h3⟩,h4⟩:=h
 refine ⟨?_,h2,h3,fun y hy e=>?_,fun y hy e=>?_⟩
 .split at h1
  .assumption
  .cases h1
 .have q:=h4 y hy
  simp only [e] at q
  split at q <;> first | exact .inl (by assumption) | exact .inr (by assumption) | cases q
 .have q:=h4 y hy
  rcases e with e | e <;> (simp only [e,Bool.or_eq_true,decide_eq_true_eq] at q;exact q)
end L2
namespace L2
open PySem PySem.Spec PyProof.Rows
section
variable {κ:Type} [DecidableEq κ]
noncomputable def Bl (kvs:List (κ×V)) (k:κ):Option V:=(kvs.find? fun kv=>decide (kv.1=k)).map (·.2)
noncomputable def G4 (kvs:List (κ×V)) (k:κ) (v:V):List (κ×V) :=
 if (kvs.any fun kv=>decide (kv.1=k))=true then kvs.map (fun kv=>if kv.1=k then (kv.1,v) else kv) else kvs++[(k,v)]
theorem Bc {p:κ×V} {r:List (κ×V)} {k:κ} (e:p.1=k):Bl (p::r) k=some p.2:=by simp [Bl,List.find?_cons,e]
theorem Be {p:κ×V} {r:List (κ×V)} {k:κ} (e:¬p.1=k):Bl (p::r) k=Bl r k:=by simp [Bl,List.find?_cons,e]
theorem FN (k:κ):∀ kvs:List (κ×V),(kvs.any fun kv=>decide (kv.1=k))=(Bl kvs k).isSome
 | []=>rfl
 | p::r=>by
  rw [List.any_cons]
  by_cases e:p.1=k
  .simp only [Bc e,decide_eq_true e,Bool.true_or,Option.isSome_some]
  .rw [Be e,decide_eq_false e,Bool.false_or];exact FN k r
theorem M4 (k j:κ) (y:V):∀ kvs:List (κ×V),Bl (kvs.map fun kv=>if kv.1=k then (kv.1,y) else kv) j=(Bl kvs j).map fun x=>if j=k then y else x
 | []=>rfl
 | p::r=>by
  have ih:=M4 k j y r
  rw [List.map_cons]
  by_cases h:p.1=k
  .rw [if_pos h]
   by_cases e:p.1=j
   .rw [Bc (p:=(p.1,y)) e,Bc e,Option.map_some,if_pos (e.symm.trans h)]
   .rw [Be (p:=(p.1,y)) e,Be e,ih]
  .rw [if_neg h]
   by_cases e:p.1=j
   .rw [Bc (p:=p) e,Bc e,Option.map_some,if_neg (fun z=>h (e.trans z))]
   .rw [Be (p:=p) e,Be e,ih]
theorem L7 (k j:κ) (y:V):∀ kvs:List (κ×V),Bl kvs k=none->Bl (kvs++[(k,y)]) j=if j=k then some y else Bl kvs j
 | [],_=>by
  by_cases e:k=j
  .rw [if_pos e.symm];exact Bc (p:=(k,y)) e
  .rw [if_neg (fun z=>e z.symm)];exact Be (p:=(k,y)) e
 | p::r,hn=>by
  rw [List.cons_append]
  have hk:¬p.1=k:=fun z=>by rw [Bc z] at hn;cases hn
  rw [Be hk] at hn
  have ih:=L7 k j y r hn
  by_cases e:p.1=j
  .rw [Bc e,Bc e,if_neg (fun z=>hk (e.trans z))]
  .rw [Be e,Be e,ih]
theorem NE (kvs:List (κ×V)) (k j:κ) (y:V):Bl (G4 kvs k y) j=if j=k then some y else Bl kvs j:=by
 unfold G4
 by_cases a:(kvs.any fun kv=>decide (kv.1=k))=true
 .rw [if_pos a,M4]
  rw [FN] at a
  by_cases e:j=k
  .obtain ⟨x,hx⟩:=Option.isSome_iff_exists.mp a
   rw [if_pos e,e,hx,Option.map_some,if_pos rfl]
  .rw [if_neg e]
   cases Bl kvs j with
   | none=>rfl
   | some x=>rw [Option.map_some,if_neg e]
 .rw [if_neg a]
  refine L7 k j y kvs ?_
  rw [FN] at a
  cases q:Bl kvs k with
  | none=>rfl
  | some x=>rw [q] at a;exact (a rfl).elim
theorem IJ (kvs:List (κ×V)) (k:κ) (v:V):(G4 kvs k v).length<=kvs.length+1:=by
 unfold G4
 split
 .rw [ZE];omega
 .rw [List.length_append,List.length_cons,List.length_nil];omega
theorem Jp {kvs:List (κ×V)} {k:κ} (v:V) (h:Bl kvs k=none):G4 kvs k v=kvs++[(k,v)]:=by
 unfold G4
 rw [FN,h]
 exact if_neg (by decide)
theorem RelO.isSome_eq {o:Option V} {u:Option Value} (r:RelO o u):o.isSome=u.isSome:=by
 cases o with
 | none=>cases u with
  | none=>rfl
  | some _=>exact (show False from r).elim
 | some _=>cases u with
  | none=>exact (show False from r).elim
  | some _=>rfl
theorem RelO.getD {o:Option V} {u:Option Value} {d:V} {d':Value} (r:RelO o u) (rd:RelV d d'):RelV (o.getD d) (u.getD d'):=by
 cases o with
 | none=>cases u with
  | none=>exact rd
  | some _=>exact (show False from r).elim
 | some _=>cases u with
  | none=>exact (show False from r).elim
  | some _=>exact r
theorem KV.val {kvs:List (κ×V)} {vs:List (κ×Value)} (r:KV kvs vs) (k:κ):RelO (Bl kvs k) (valueAt vs k):=by
 unfold KV at r
 induction r with
 | nil=>exact True.intro
 | @cons p q ps qs h t ih =>
  obtain ⟨h1,h2⟩:=h
  by_cases e:p.1=k
  .have e':q.1=k:=h1.symm.trans e
   have b:valueAt (q::qs) k=some q.2:=by simp [valueAt,List.find?_cons,e']
   rw [Bc e,b];exact h2
  .have e':¬q.1=k:=fun z=>e (h1.trans z)
   have b:valueAt (q::qs) k=valueAt qs k:=by simp [valueAt,List.find?_cons,e']
   rw [Be e,b];exact ih
theorem KV.any {kvs:List (κ×V)} {vs:List (κ×Value)} (r:KV kvs vs) (k:κ):(kvs.any fun kv=>decide (kv.1=k))=vs.any fun kv=>decide (kv.1=k):=by
 unfold KV at r
 induction r with
 | nil=>rfl
 | cons h t ih=>rw [List.any_cons,List.any_cons,ih,h.1]
theorem KV.repl {kvs:List (κ×V)} {vs:List (κ×Value)} (r:KV kvs vs) (k:κ) {y:V} {u:Value} (ry:RelV y u) :
  KV (kvs.map fun kv=>if kv.1=k then (kv.1,y) else kv) (vs.map fun kv=>if kv.1=k then (kv.1,u) else kv):=by
 unfold KV at r ⊢
 induction r with
 | nil=>exact .nil
 | @cons p q ps qs h t ih =>
  rw [List.map_cons,List.map_cons]
  refine .cons ?_ ih
  obtain ⟨h1,h2⟩:=h
  by_cases e:p.1=k
  .rw [if_pos e,if_pos (h1.symm.trans e)];exact ⟨h1,ry⟩
  .rw [if_neg e,if_neg (fun z=>e (h1.trans z))];exact ⟨h1,h2⟩
theorem KV.put {kvs:List (κ×V)} {vs:List (κ×Value)} (r:KV kvs vs) (k:κ) {y:V} {u:Value} (ry:RelV y u):KV (G4 kvs k y) (stored vs k u):=by
 unfold G4 stored
 rw [r.any k]
 by_cases e:(vs.any fun kv=>decide (kv.1=k))=true
 .rw [if_pos e,if_pos e];exact r.repl k ry
 .rw [if_neg e,if_neg e];exact Paired.snoc r ⟨rfl,ry⟩
theorem KV.length {kvs:List (κ×V)} {vs:List (κ×Value)} (r:KV kvs vs):kvs.length=vs.length:=Paired.length r
end
theorem Jd {P:Program} {w:World} {k:C5} {u:Value} (r:RelV (kV k) u):(BK P w).is k u=true:=by
 cases k with
 | inl i=>obtain ⟨t,e⟩:=(show ∃ t,u=Value.int i t from r);subst e;exact MJ P w i t
 | inr x=>obtain ⟨t,e⟩:=(show ∃ t,u=Value.str x t from r);subst e;exact MP P w x t
theorem KR {P:Program} {w:World}:∀ {ks:List C5} {us:List Value},Vals (ks.map kV) us->ItemsAre (BK P w) ks us
 | [],_,r=>by rw [List.map_nil] at r;cases r;exact .nil
 | k::ks,_,r=>by
  rw [List.map_cons] at r
  cases r with
  | cons h t=>exact .cons (Jd h) (KR t)
abbrev KT (H:Hp):List (List C5×V)->List (List C5×Addr×Value)->Prop:=Paired fun p q=>p.1=q.1/\H q.2.1=some (.tup (p.1.map kV))/\RelV p.2 q.2.2
theorem KT.val {H:Hp} {kvs:List (List C5×V)} {xs:List (List C5×Addr×Value)} (r:KT H kvs xs) (k:List C5):RelO (Bl kvs k) ((atKey xs k).map (·.2)):=by
 induction r with
 | nil=>exact True.intro
 | @cons p q ps qs h t ih =>
  obtain ⟨h1,_,h2⟩:=h
  by_cases e:p.1=k
  .have e':q.1=k:=h1.symm.trans e
   have b:atKey (q::qs) k=some q.2:=by simp [atKey,List.find?_cons,e']
   rw [Bc e,b];exact h2
  .have e':¬q.1=k:=fun z=>e (h1.trans z)
   have b:atKey (q::qs) k=atKey qs k:=by simp [atKey,List.find?_cons,e']
   rw [Be e,b];exact ih
theorem KT.repl {H:Hp} {kvs:List (List C5×V)} {xs:List (List C5×Addr×Value)} (r:KT H kvs xs) (k:List C5) {y:V} {u:Value} (ry:RelV y u) :
  KT H (kvs.map fun kv=>if kv.1=k then (kv.1,y) else kv) (xs.map (putAt k u)):=by
 induction r with
 | nil=>exact .nil
 | @cons p q ps qs h t ih =>
  rw [List.map_cons,List.map_cons]
  refine .cons ?_ ih
  obtain ⟨h1,h2,h3⟩:=h
  unfold putAt
  by_cases e:p.1=k
  .rw [if_pos e,if_pos (h1.symm.trans e)];exact ⟨h1,h2,ry⟩
  .rw [if_neg e,if_neg (fun z=>e (h1.trans z))];exact ⟨h1,h2,h3⟩
theorem KT.put {H:Hp} {kvs:List (List C5×V)} {xs:List (List C5×Addr×Value)} (r:KT H kvs xs) (k:List C5) {b:Addr} {y:V} {u:Value} (hb:H b=some (.tup (k.map kV))) (ry:RelV y u) :
  KT H (G4 kvs k y) (storedH xs k b u):=by
 have e:(kvs.any fun kv=>decide (kv.1=k))=(atKey xs k).isSome:=by
  rw [FN,(r.val k).isSome_eq,Option.isSome_map]
 unfold G4 storedH
 rw [e]
 by_cases q:(atKey xs k).isSome=true
 .rw [if_pos q,if_pos q];exact r.repl k ry
 .rw [if_neg q,if_neg q];exact Paired.snoc r ⟨rfl,hb,ry⟩
theorem KT.keeps {H H':Hp} {kvs:List (List C5×V)} {xs:List (List C5×Addr×Value)} (r:KT H kvs xs) (ht:∀ b ys,H b=some (.tup ys)->H' b=some (.tup ys)):KT H' kvs xs :=
 Paired.mapP r fun _ _ z=>⟨z.1,ht _ _ z.2.1,z.2.2⟩
section
variable {P:Program} {w:World} {H:Hp} {h:Heap} {a:Addr}
theorem SI {u:HO} (ok:HOk P w H h) (e:Rd H a u):ObjOk P w H h a u:=e.ok ok
theorem L4 {kvs:List (C5×V)} (ok:HOk P w H h) (e:Rd H a (.dK kvs)):kvs.length<=sizeLine/\(a==sysModules)=false/\∃ vs,KV kvs vs/\h.DictOf (BK P w) a vs :=
 show ObjOk P w H h a (.dK kvs) from SI ok e
theorem UC {kvs:List (C5×V)} (ok:HOk P w H h) (e:H a=some (.dK kvs)):kvs.length<=sizeLine/\(a==sysModules)=false/\∃ vs,KV kvs vs/\h.DictOf (BK P w) a vs:=L4 ok (.inl e)
theorem JY {ks:List C5} (ok:HOk P w H h) (e:H a=some (.tup (ks.map kV))):(tupleKind (BK P w)).is h ks a:=by
 obtain ⟨_,its,r,o,h1,h2,n,h3⟩:=(show ObjOk P w H h a (.tup (ks.map kV)) from ok a _ e)
 exact ⟨o,its.toArray,n,h1,h2,h3,by simpa using KR r⟩
theorem Ki {kvs:List (List C5×V)} (ok:HOk P w H h) (e:Rd H a (.dT kvs)):kvs.length<=sizeLine/\(a==sysModules)=false /\
  ∃ xs,KT H kvs xs/\h.DictOfH (tupleKind (BK P w)) a xs:=by
 obtain ⟨z,y,xs,r,o,es,ep,h1,h2,h3,h4,h5⟩:=(show ObjOk P w H h a (.dT kvs) from SI ok e)
 refine ⟨z,y,xs,r,o,es,ep,h1,h2,h3,h4,fun x hx=>?_,h5⟩
 have all:∀ {l:List (List C5×V)} {m:List (List C5×Addr×Value)},KT H l m->∀ x∈m,(tupleKind (BK P w)).is h x.1 x.2.1:=by
  intro l m q
  induction q with
  | nil=>intro x hx;exact nomatch hx
  | @cons p q ps qs hq t ih =>
   intro x hx
   rcases List.mem_cons.mp hx with e | hx
   .subst e
    exact JY ok (by rw [<-hq.1];exact hq.2.1)
   .exact ih x hx
 exact all r x hx
theorem U9 {kvs:List (List C5×V)} (ok:HOk P w H h) (e:H a=some (.dT kvs)):kvs.length<=sizeLine/\(a==sysModules)=false /\
  ∃ xs,KT H kvs xs/\h.DictOfH (tupleKind (BK P w)) a xs:=Ki ok (.inl e)
end
noncomputable def DGet (H:Hp) (a:Addr) (y:V) (r:Option V):Prop :=
 (∃ kvs k,Rd H a (.dK kvs)/\y=kV k/\r=Bl kvs k)\/∃ kvs k b,Rd H a (.dT kvs)/\y=.ref b/\H b=some (.tup (k.map kV))/\r=Bl kvs k
noncomputable def DPut (H:Hp) (a:Addr) (y v:V) (H':Hp):Prop :=
 (∃ kvs k,H a=some (.dK kvs)/\y=kV k/\kvs.length<sizeLine/\H'=upd H a (.dK (G4 kvs k v))) \/
 ∃ kvs k b,H a=some (.dT kvs)/\y=.ref b/\H b=some (.tup (k.map kV))/\kvs.length<sizeLine/\H'=upd H a (.dT (G4 kvs k v))
theorem DGet.k {H:Hp} {a:Addr} {kvs:List (C5×V)} {k:C5} (e:H a=some (.dK kvs)):DGet H a (kV k) (Bl kvs k):=.inl ⟨kvs,k,.inl e,rfl,rfl⟩
theorem DPut.k {H:Hp} {a:Addr} {kvs:List (C5×V)} {k:C5} {v:V} (e:H a=some (.dK kvs)) (hl:kvs.length<sizeLine):DPut H a (kV k) v (upd H a (.dK (G4 kvs k v))):=.inl ⟨kvs,k,e,rfl,hl,rfl⟩
section
variable {X:Cx} {pins:List (Addr×Obj)} {σ:St} {H:Hp} {s:Shared} {a:Addr} {y v:V} {u r:Value} {o:Option V} {A:Around} {E:Value->Shared->Prop}
theorem Inv.big (I:Inv X pins σ H s):sysModules<s.heap.objs.size:=by
 have h:mainGlobals<s.heap.objs.size:=(I.mod.glob.keeps I.bk).lt
 exact Nat.lt_trans (by decide) h
theorem Pf {Q:Value->Shared->Prop} (hu:A.units+1<cLine) (I:Inv X pins σ H s) (g:DGet H a y (some v)) (ry:RelV y u) (h:∀ w' s',Inv X pins σ H s'->RelV v w'->Q w' s') :
  wpAny (model X.prog X.w) A (getItem (.ref a) u) Q E s:=by
 rcases g with ⟨kvs,k,e,ey,l⟩ | ⟨kvs,k,b,e,ey,eb,l⟩
 .subst ey
  obtain ⟨z,hd,vs,rel,dd⟩:=L4 I.hok e
  obtain ⟨w',hw,rw'⟩:=RelO.some_of (v:=v) (o:=valueAt vs k) (by rw [l];exact rel.val k)
  exact wpAny_getItem_of (Jd ry) dd.mapOf hw (h w' _ (I.tok _) rw')
 .subst ey
  cases (show u=Value.ref b from ry)
  obtain ⟨z,hd,xs,rel,dd⟩:=Ki I.hok e
  obtain ⟨w',hw,rw'⟩:=RelO.some_of (v:=v) (o:=(atKey xs k).map (·.2)) (by rw [l];exact rel.val k)
  obtain ⟨p,hp,hp2⟩:=Option.map_eq_some_iff.mp hw
  refine wpAny_getItem_heap (tupleKind_room_in1 hu) (JY I.hok eb) dd hp ?_
  rw [hp2]
  exact h w' _ (I.tok _) rw'
theorem OG {h':Heap} {t':Nat} {ob:HO} (I:Inv X pins σ H s) (mu:U1 (H a)) (hs:Heap.SameBut a s.heap h') (he:∃ q,h'.get? a=some q) (new:ObjOk X.prog X.w (upd H a ob) h' a ob) :
  Inv X pins σ (upd H a ob) { s with heap:=h',toks:=t' } :=
 I.write (x:=a) (e:=a) mu (.inl rfl) (fun b q hb z=>(hs.2 b hb).trans z) he new
theorem Tj {P:Program} {w:World} {H':Hp} {h':Heap} {kvs:List (C5×V)} {vs:List (C5×Value)} (z:kvs.length<=sizeLine) (hd:(a==sysModules)=false) (rel:KV kvs vs) (dd:h'.DictOf (BK P w) a vs) :
  ObjOk P w H' h' a (.dK kvs):=⟨z,hd,vs,rel,dd⟩
theorem PZ {H':Hp} {Q:Unit->Shared->Prop} (hu:A.units+1<cLine) (I:Inv X pins σ H s) (g:DPut H a y v H') (ry:RelV y u) (rv:RelV v r) (h:∀ s',Inv X pins σ H' s'->Q () s') :
  wpAny (model X.prog X.w) A (setItem (.ref a) u r) Q E s:=by
 rcases g with ⟨kvs,k,e,ey,l,eH⟩ | ⟨kvs,k,b,e,ey,eb,l,eH⟩
 .subst ey eH
  obtain ⟨z,hd,vs,rel,dd⟩:=UC I.hok e
  have hz:vs.length<=sizeLine:=by rw [<-rel.length];exact z
  have hl:(G4 kvs k v).length<=sizeLine:=by have:=IJ kvs k v;omega
  refine wpAny_setItem_pairs (hsz:=hz) (Jd ry) dd fun h' dd' hs=>h _ ?_
  have he:∃ q,h'.get? a=some q:=let ⟨q,_,_,hq,_⟩:=dd';⟨q,hq⟩
  exact OG I (by rw [e];exact True.intro) hs he (Tj hl hd (rel.put k rv) dd')
 .subst ey eH
  cases (show u=Value.ref b from ry)
  obtain ⟨z,hd,xs,rel,dd⟩:=U9 I.hok e
  have hz:xs.length<=sizeLine:=by rw [<-Paired.length rel];exact z
  have hl:(G4 kvs k v).length<=sizeLine:=by have:=IJ kvs k v;omega
  refine wpAny_setItem_heap (hsz:=hz) (tupleKind_room_in1 hu) (JY I.hok eb) dd fun h' dd' hs=>h _ ?_
  obtain ⟨q,es,ep,hq,h2,h3,h4,_,h5⟩:=dd'
  refine OG I (by rw [e];exact True.intro) hs ⟨q,hq⟩ ⟨hl,hd,_,(rel.put k eb rv).keeps fun c ys ec=>?_,q,es,ep,hq,h2,h3,h4,h5⟩
  rw [AQ (AW ec e (fun z=>nomatch z))]
  exact ec
end
noncomputable def TD (i:Expr):Prop:=∀ ov iv,subscripted i false ov iv=operate [ov,iv] (getItem ov iv)
theorem OQ {prog:Program} {w:World} {A:Around} {E:Value->Shared->Prop} {s:Shared} {env:Env} {value slice:Expr} {pos:Pos} {T id:String} {Q:Value->Shared->Prop}
  (hl:typeLookup (.type T) "__getitem__" = pure (some (.builtin id))) (hs:TD slice)
  (h:wpAny (model prog w) A (eval value env) (fun o s₁=>wpAny (model prog w) A (eval slice env) (fun i s₂=>s₂.TypeIs o T/\wpAny (model prog w) A (getItem o i) Q E s₂) E s₁) E s) :
  wpAny (model prog w) A (eval (.Subscript value slice pos) env) Q E s:=by
 refine Subscript_ (wpAny_mono h (fun o s₁ h₁=>wpAny_mono h₁ (fun i s₂ h₂=>?_) fun _ _ x=>x) fun _ _ x=>x)
 obtain ⟨hT,h₂⟩:=h₂
 unfold subscriptTail
 refine wpAny_bind ?_
 rw [getitemInPython_of_ne hT.not_modules]
 refine wpAny_bind (wpAny_specialOf hT hl ?_)
 have fin:wpAny (model prog w) A (subscripted slice false o i) (fun r s₃=>wpAny (model prog w) A (letTemporaryGo value o r >>= fun _=>pure r) Q E s₃) E s₂:=by
  rw [hs o i]
  exact wpAny_operating (wpAny_mono h₂ (fun r s₃ h₃=>wpAny_bind (wpAny_letTemporaryGo (wpAny_pure h₃))) fun _ _ x=>x)
 first
  | exact wpAny_pure (wpAny_bind fin)
  | exact wpAny_bind (wpAny_pure (wpAny_bind fin))
  | exact wpAny_bind fin
theorem NA {X:Cx} {pins:List (Addr×Obj)} {σ:St} {H:Hp} {s:Shared} {a:Addr} {y:V} {o:Option V} (I:Inv X pins σ H s) (g:DGet H a y o):s.TypeIs (.ref a) "dict" := by
 rcases g with ⟨kvs,k,e,_,_⟩ | ⟨kvs,k,b,e,_,_,_⟩
 .obtain ⟨_,_,vs,_,dd⟩:=L4 I.hok e
  exact dd.typeIs
 .obtain ⟨_,_,xs,_,dd⟩:=Ki I.hok e
  exact dd.typeIs
noncomputable def UB (td ty:TE):TE:=fun σ H Q=>td σ H fun x H1=>ty σ H1 fun y H2=>∃ a v,x=.ref a/\DGet H2 a y (some v)/\Q v H2
noncomputable def UL (td ty tv:TE):TS:=fun D σ H=>tv σ H fun v H1=>td σ H1 fun x H2=>ty σ H2 fun y H3=>∃ a H4,x=.ref a/\DPut H3 a y v H4/\D.nx σ H4
section
variable {X:Cx} {o i e value:Expr} {pos pos' tpos:Pos} {td ty tv:TE}
theorem S0 (hu:X.A.units+1<cLine) (ho:PE X o td) (hi:PE X i ty) (hs:TD i):PE X (.Subscript o i pos) (UB td ty):=by
 intro pins s σ H Q I h
 refine OQ PySem.F.slot_dict_getitem.lookup hs (B7 (ho pins s σ H _ I h) fun u s1 ⟨x,H1,I1,rx,q1⟩=>B7 (hi pins s1 σ H1 _ I1 q1) fun iv s2 ⟨y,H2,I2,ry,a,v,ex,g,q2⟩=>?_)
 subst ex
 obtain rfl:u=Value.ref a:=rx
 exact ⟨NA I2 g,Pf hu I2 g ry fun w' s3 I3 rw'=>⟨v,H2,I3,rw',q2⟩⟩
theorem Lq (hu:X.A.units+1<cLine) (ho:PE X o td) (hi:PE X i ty) (hv:PE X value tv) (hs:swapsWith value (some (.Subscript o i pos')) pos.line X.env=pure false) :
  PS X (.Assign [.Subscript o i pos'] value pos) (UL td ty tv):=by
 intro pins s σ H D I h
 refine wpAny_Assign_Subscript (B7 (hv pins s σ H _ I h) fun r s1 ⟨v,H1,I1,rv,q1⟩=>B7 (ho pins s1 σ H1 _ I1 q1) fun u s2 ⟨x,H2,I2,rx,q2⟩=>B7 (hi pins s2 σ H2 _ I2 q2) fun iv s3 ⟨y,H3,I3,ry,a,H4,ex,g,q3⟩=>?_) hs
 subst ex
 obtain rfl:u=Value.ref a:=rx
 exact PZ hu I3 g ry rv fun s4 I4=>⟨σ,H4,I4,q3⟩
end
theorem R1 {P:Program} {w:World} {H:Hp} (h:Heap) (hb:sysModules<h.objs.size):ObjOk P w H (h.push { cls:=.type "dict",data:=.dict #[] }) h.objs.size (.dK []) :=
 ⟨Nat.zero_le _,beq_eq_false_iff_ne.mpr (Ne.symm (Nat.ne_of_lt hb)),[],.nil,Heap.DictOf.new h⟩
noncomputable def SV:TE:=fun _ H Q=>∀ p,H p=none->Q (.ref p) (upd H p (.dK []))
section
variable {X:Cx} {pos:Pos}
theorem JE:PE X (.Dict [] [] pos) SV:=fun pins s σ H Q I h =>
 wpAny_Dict_empty ⟨.ref s.heap.objs.size,_,I.laid (a:=s.heap.objs.size) (o:=.dK []) (t':=s.toks) (fun _ _ q=>Heap.get?_push_of_some _ q) (Nat.le_refl _) (R1 s.heap I.big),rfl,h _ (I.hok.fresh (Nat.le_refl _))⟩
end
structure M1 (X:Cx) (o:Expr) (m:Str) (apos:Pos) (e:Expr) (cpos:Pos):Prop where
 base:attributeBase o m X.env (eval o X.env)=eval o X.env
 few:((backTo cpos (starEach [e] X.env)).all (fun x=>!x.1) && (backToKw cpos (keywordEach [] X.env)).all (fun x=>x.1.isSome)
  && decide (([e]:List Expr).length+([]:List Keyword).length+(if ([]:List Keyword).isEmpty then 0 else 1)<30))=true
 line:(apos.endLine==cpos.line)=true
 trees:backTo cpos (starEach [e] X.env)=[(false,eval e X.env)]
structure M2 (X:Cx) (o:Expr) (m:Str) (apos:Pos) (e f:Expr) (cpos:Pos):Prop where
 base:attributeBase o m X.env (eval o X.env)=eval o X.env
 few:((backTo cpos (starEach [e,f] X.env)).all (fun x=>!x.1) && (backToKw cpos (keywordEach [] X.env)).all (fun x=>x.1.isSome)
  && decide (([e,f]:List Expr).length+([]:List Keyword).length+(if ([]:List Keyword).isEmpty then 0 else 1)<30))=true
 line:(apos.endLine==cpos.line)=true
 trees:backTo cpos (starEach [e,f] X.env)=[(false,eval e X.env),(false,eval f X.env)]
noncomputable def Ui (H:Hp) (a:Addr):Prop:=(∃ kvs,Rd H a (.dK kvs))\/∃ kvs,Rd H a (.dT kvs)
theorem QN {X:Cx} {pins:List (Addr×Obj)} {σ:St} {H:Hp} {s:Shared} {a:Addr} (I:Inv X pins σ H s) (d:Ui H a) :
  s.TypeIs (.ref a) "dict" /\ (∀ b,Value.ref a=.ref b->∃ ob,s.heap.get? b=some ob/\ob.dict=none)/\(a==sysModules)=false:=by
 rcases d with ⟨kvs,e⟩ | ⟨kvs,e⟩
 .obtain ⟨_,hd,vs,_,dd⟩:=L4 I.hok e
  refine ⟨dd.typeIs,fun b q=>?_,hd⟩
  cases q
  obtain ⟨ob,_,_,h1,h2,_⟩:=dd
  exact ⟨ob,h1,h2.2.1⟩
 .obtain ⟨_,hd,xs,_,dd⟩:=Ki I.hok e
  refine ⟨dd.typeIs,fun b q=>?_,hd⟩
  cases q
  obtain ⟨ob,_,_,h1,h2,_⟩:=dd
  exact ⟨ob,h1,h2.2.1⟩
section
variable {X:Cx} {pins:List (Addr×Obj)} {σ:St} {H:Hp} {s:Shared} {a:Addr} {y d:V} {u r:Value} {o:Option V} {A:Around} {E:Value->Shared->Prop}
theorem Th {Q:Value->Shared->Prop} (hu:A.units+1<cLine) (I:Inv X pins σ H s) (g:DGet H a y o) (ry:RelV y u) (h:∀ w' s',Inv X pins σ H s'->RelV (o.getD .non) w'->Q w' s') :
  wpAny (model X.prog X.w) A (call (.builtin "dict.get") [.ref a,u]) Q E s:=by
 rcases g with ⟨kvs,k,e,ey,l⟩ | ⟨kvs,k,b,e,ey,eb,l⟩
 .subst ey
  obtain ⟨z,hd,vs,rel,dd⟩:=L4 I.hok e
  refine call_meetsIn PySem.F.slot_dict_get dd.typeIs PySem.F.entry_dict_get (PySem.F.args_dict_get_2 _ _) (meets_dict_get (BK X.prog X.w) a (Jd ry) hd) ⟨_,dd.mapOf,h _ _ (I.tok _) ?_⟩
  rw [l]
  exact (rel.val k).getD rfl
 .subst ey
  cases (show u=Value.ref b from ry)
  obtain ⟨z,hd,xs,rel,dd⟩:=Ki I.hok e
  refine call_meetsIn PySem.F.slot_dict_get dd.typeIs PySem.F.entry_dict_get (PySem.F.args_dict_get_2 _ _) (meetsH_dict_get (tupleKind (BK X.prog X.w)) a b hd) ⟨tupleKind_room_in1 hu,k,xs,JY I.hok eb,dd,h _ _ (I.tok _) ?_⟩
  rw [l]
  exact (rel.val k).getD rfl
theorem Sd {Q:Value->Shared->Prop} (hu:A.units+1<cLine) (I:Inv X pins σ H s) (g:DGet H a y o) (ry:RelV y u) (rd:RelV d r) (h:∀ w' s',Inv X pins σ H s'->RelV (o.getD d) w'->Q w' s') :
  wpAny (model X.prog X.w) A (call (.builtin "dict.get") [.ref a,u,r]) Q E s:=by
 rcases g with ⟨kvs,k,e,ey,l⟩ | ⟨kvs,k,b,e,ey,eb,l⟩
 .subst ey
  obtain ⟨z,hd,vs,rel,dd⟩:=L4 I.hok e
  refine call_meetsIn PySem.F.slot_dict_get dd.typeIs PySem.F.entry_dict_get (PySem.F.args_dict_get_3 _ _ _) (meets_dict_get_default (BK X.prog X.w) a (Jd ry) hd r) ⟨_,dd.mapOf,h _ _ (I.tok _) ?_⟩
  rw [l]
  exact (rel.val k).getD rd
 .subst ey
  cases (show u=Value.ref b from ry)
  obtain ⟨z,hd,xs,rel,dd⟩:=Ki I.hok e
  refine call_meetsIn PySem.F.slot_dict_get dd.typeIs PySem.F.entry_dict_get (PySem.F.args_dict_get_3 _ _ _) (meetsH_dict_get_default (tupleKind (BK X.prog X.w)) a b hd r) ⟨tupleKind_room_in1 hu,k,xs,JY I.hok eb,dd,h _ _ (I.tok _) ?_⟩
  rw [l]
  exact (rel.val k).getD rd
end
noncomputable def Tk (td ty:TE):TE:=fun σ H Q=>td σ H fun x H1=>∃ a,x=.ref a/\Ui H1 a/\ty σ H1 fun y H2=>∃ o,DGet H2 a y o/\Q (o.getD .non) H2
noncomputable def Sl (td ty tx:TE):TE:=fun σ H Q=>td σ H fun x H1=>∃ a,x=.ref a/\Ui H1 a/\ty σ H1 fun y H2=>tx σ H2 fun z H3=>∃ o,DGet H3 a y o/\Q (o.getD z) H3
section
variable {X:Cx} {o e f:Expr} {apos cpos:Pos} {td ty tx:TE}
theorem Q7 (hu:X.A.units+1<cLine) (ho:PE X o td) (he:PE X e ty) (m:M1 X o "get" apos e cpos):PE X (.Call (.Attribute o "get" apos) [e] [] cpos) (Tk td ty):=by
 intro pins s σ H Q I h
 refine wpAny_Call_method m.base m.few m.line PySem.F.plainAttrs_dict PySem.F.slot_dict_get PySem.F.type_dict_get (B7 (ho pins s σ H _ I h) fun u s1 ⟨x,H1,I1,rx,a,ex,d,q1⟩=>?_)
 subst ex
 obtain rfl:u=Value.ref a:=rx
 obtain ⟨t1,t2,_⟩:=QN I1 d
 refine ⟨t1,t2,?_⟩
 rw [m.trees]
 refine Calls.callWith_builtin rfl (Calls.evalArgs_plain (Calls.spliced_cons (B7 (he pins s1 σ H1 _ I1 q1) fun iv s2 ⟨y,H2,I2,ry,ov,g,q2⟩=>Calls.spliced_nil ?_)))
 exact Th hu I2 g ry fun w' s3 I3 rw'=>⟨_,H2,I3,rw',q2⟩
theorem QD (hu:X.A.units+1<cLine) (ho:PE X o td) (he:PE X e ty) (hf:PE X f tx) (m:M2 X o "get" apos e f cpos):PE X (.Call (.Attribute o "get" apos) [e,f] [] cpos) (Sl td ty tx):=by
 intro pins s σ H Q I h
 refine wpAny_Call_method m.base m.few m.line PySem.F.plainAttrs_dict PySem.F.slot_dict_get PySem.F.type_dict_get (B7 (ho pins s σ H _ I h) fun u s1 ⟨x,H1,I1,rx,a,ex,d,q1⟩=>?_)
 subst ex
 obtain rfl:u=Value.ref a:=rx
 obtain ⟨t1,t2,_⟩:=QN I1 d
 refine ⟨t1,t2,?_⟩
 rw [m.trees]
 refine Calls.callWith_builtin rfl (Calls.evalArgs_plain (Calls.spliced_cons (B7 (he pins s1 σ H1 _ I1 q1) fun iv s2 ⟨y,H2,I2,ry,q2⟩ =>
  Calls.spliced_cons (B7 (hf pins s2 σ H2 _ I2 q2) fun fv s3 ⟨z,H3,I3,rz,ov,g,q3⟩=>Calls.spliced_nil ?_))))
 exact Sd hu I3 g ry rz fun w' s4 I4 rw'=>⟨_,H3,I4,rw',q3⟩
end
end L2
namespace L2
open PySem PySem.Spec PyProof.Rows
section
variable {X:Cx} {pins:List (Addr×Obj)} {σ:St} {H:Hp} {s:Shared} {h':Heap}
theorem Inv.turnedL {t':Nat} {ch:List Addr} (I:Inv X pins σ H s) (k:∀ b o,b∉ch->s.heap.get? b=some o->h'.get? b=some o) (hf:∀ b∈ch,Il X pins H b):Inv X pins σ H { s with heap:=h',toks:=t' }:=by
 have nit:∀ b u,H b=some u->b∉ch:=fun b u e z=>by
  have q:=(hf b z).1
  rw [q] at e;cases e
 refine I.step (g':=s.gens) (d':=s.drawn) (ch:=ch) (fun b hb=>⟨(hf b hb).2.2.2.1,(hf b hb).2.1,(hf b hb).2.2.2.2.1,(hf b hb).2.2.2.2.2⟩) (fun b o _ _ hc e _=>k b o hc e) (fun b o _ _ hc e _=>⟨o.slots,k b o hc e⟩)
  (fun _ _ _ _ n=>n) (fun b o hc e=>⟨o,k b o hc e⟩) (fun _ _ e=>e) (fun _ _ _ e=>e) (fun b ps e=>⟨#[],by rw [e];simp⟩) (fun m hm=>?_) (fun b u e=>?_) I.bare
 .obtain ⟨o,es,ep,ho,r⟩:=hm
  exact ⟨o,es,ep,k _ o (fun z=>(hf _ z).2.1 rfl) ho,r⟩
 .refine (I.hok b u e).stay (fun c v hc q=>k c v ?_ q) (fun _ q=>q) fun _ _ q=>q
  rcases hc with z | z
  .rw [z];exact nit b u e
  .exact nit c _ z
theorem Inv.turnedNew {t':Nat} {ch:List Addr} {T:Addr} {ob:HO} (I:Inv X pins σ H s) (k:∀ b o,b∉ch->s.heap.get? b=some o->h'.get? b=some o) (hf:∀ b∈ch,Il X pins H b) (hT:s.heap.objs.size<=T)
  (new:ObjOk X.prog X.w (upd H T ob) h' T ob):Inv X pins σ (upd H T ob) { s with heap:=h',toks:=t' }:=by
 have hn:H T=none:=I.hok.fresh hT
 have nit:∀ b u,H b=some u->b∉ch:=fun b u e z=>by
  have q:=(hf b z).1
  rw [q] at e;cases e
 refine I.step (g':=s.gens) (d':=s.drawn) (ch:=ch) (fun b hb=>⟨(hf b hb).2.2.2.1,(hf b hb).2.1,(hf b hb).2.2.2.2.1,(hf b hb).2.2.2.2.2⟩) (fun b o _ _ hc e _=>k b o hc e) (fun b o _ _ hc e _=>⟨o.slots,k b o hc e⟩)
  (fun b o _ e n=>?_) (fun b o hc e=>⟨o,k b o hc e⟩) (fun b xs e=>?_) (fun b o u e=>?_) (fun b ps e=>⟨#[],?_⟩) (fun m hm=>?_) (fun b u e=>?_) I.bare
 .rw [AQ (Nat.ne_of_lt (Nat.lt_of_lt_of_le (Heap.lt_size e) hT))];exact n
 .rw [AQ (A1 e hn)];exact e
 .rw [AQ (A1 e hn)];exact e
 .rw [AQ (A1 e hn),e];simp
 .obtain ⟨o,es,ep,ho,r⟩:=hm
  exact ⟨o,es,ep,k _ o (fun z=>(hf _ z).2.1 rfl) ho,r⟩
 .by_cases hb:b=T
  .subst hb
   rw [A2] at e
   cases e
   exact new
  .rw [AQ hb] at e
   refine (I.hok b u e).stay (fun c v hc q=>k c v ?_ q) (fun c q=>by rw [AQ (A1 q hn)];exact q) fun c xs q=>by rw [AQ (A1 q hn)];exact q
   rcases hc with z | z
   .rw [z];exact nit b u e
   .exact nit c _ z
end
section
variable {X:Cx}
theorem TJ {tg:Expr} {pins:List (Addr×Obj)} {σ:St} {H:Hp} {s:Shared} {R:It->Hp->Prop} {J:It} {tn:Nat->Heap->Prop} {tk:Nat} (I:Inv X pins σ H s) (o:Obj)
  (T:PQ X.prog X.w X.K tg J [s.heap.objs.size] s.heap.objs.size tn) (st:tn 0 (s.heap.push o)) (q:R J H):Ul X pins σ tg R (.ref s.heap.objs.size) { s with heap:=s.heap.push o,toks:=tk }:=by
 refine ⟨s.heap.objs.size,[s.heap.objs.size],tn,J,H,rfl,I.kept fun b ob e=>Heap.get?_push_of_some _ e,T,st,fun b hb=>?_,q⟩
 have e:b=s.heap.objs.size:=by simpa using hb
 subst e
 exact I.fpOk (Nat.le_refl _) (I.hok.fresh (Nat.le_refl _))
end
noncomputable def MH (lo c:Int) (n:Nat):It:=⟨fun i _=>i<n,fun i H x H'=>H'=H/\x=.int (lo+(i:Nat)*c),fun i _=>n<=i⟩
theorem Mj {P:Program} {w:World} {K:PySem.W.Frag} {tg:Expr} (it:Addr) (lo c:Int) (n:Nat):PQ P w K tg (MH lo c n) [it] it (fun i h=>IsRangeIter h it (lo+(i:Nat)*c) ((n:Int) - (i:Nat)) c) where
 mem:=by simp
 obj:=fun i h st b hb=>by
  have e:b=it:=by simpa using hb
  subst e
  exact ⟨_,st,fun v z=>nomatch z⟩
 keep:=fun i h h' st k=>k it (by simp) _ st
 item:=by
  intro X hP hw hK hc i pins s σ H E I hf st hg
  subst hP hw hK
  obtain ⟨f0,f1,f2,f3,f4,f5⟩:=hf it (by simp)
  have W:=Walks.range (prog:=X.prog) (w:=X.w) (I.ok.hd hc) it lo c n
  refine W.item i s _ _ hg st fun v h' tk hv st' kk=>?_
  obtain ⟨t,rfl⟩:=hv
  have I1:Inv X pins σ H { s with heap:=h',toks:=tk }:=I.turned (fun b o hb e=>kk b o (by simpa using hb) e) f0 f1 f3 f4 f5
  exact ⟨_,rfl,QG (s:={ s with heap:=h',toks:=tk }) (n := "range_iterator") st' rfl rfl (by decide) ⟨.int (lo+(i:Nat)*c),H,I1,⟨t,rfl⟩,⟨rfl,rfl⟩,st',fun b hb=>(hf b hb).1⟩⟩
 done:=by
  intro X hP hw hK hc i pins s σ H E I hf st hg
  subst hP hw hK
  obtain ⟨f0,f1,f2,f3,f4,f5⟩:=hf it (by simp)
  exact wpAny_pyNext_range_end (I.ok.hd hc) st (by have:n<=i:=hg;omega) fun h' eb=>⟨rfl,I.turned (t':=s.toks) (fun b o hb e=>eb b o hb e) f0 f1 f3 f4 f5⟩
 self:=fun A i s Q E st h=>wpAny_pyIter_rangeiter st h
noncomputable def RgC (i j c:Int) (n:Nat):Prop:=c≠0/\c.natAbs<1073741824/\Builtin.Range.small i j c=true/\Builtin.Range.rangeSize i j c=n
theorem RgC.neg {i j:Int} (ha:-(2 ^ 62)<=i) (ha':i<2 ^ 62) (hb:-(2 ^ 62)<=j) (hb':j<2 ^ 62):RgC i j (-1) (i - j).toNat :=
 ⟨by decide,by decide,PySem.W.small_down ha ha' hb hb',PySem.W.rangeSize_downNat i j⟩
noncomputable def Tp (ta:TA):TI:=fun σ H R=>ta σ H fun vs H1=>∃ (i j c:Int) (n:Nat),vs=[.int i,.int j,.int c]/\RgC i j c n/\R (MH i c n) H1
section
variable {X:Cx} {tg:Expr}
theorem Bz {a b c:Expr} {ta:TA} {p pos:Pos} (hg:Gl X "range") (hm:X.mg "range" = none) (ha:PA X [a,b,c] ta)
  (hs:starEach [a,b,c] X.env=(false,eval a X.env)::starEach [b,c] X.env:=by rfl) (hpl:(backTo pos (starEach [b,c] X.env)).any (·.1)=false:=by rfl) :
  PI X tg (.Call (.Name "range" p) [a,b,c] [] pos) (Tp ta):=by
 intro pins s σ H R I h
 refine Call_ (Ff I hg hm boot_range (PyProof.Rows.callWith_type1 (B7 (ha pos pins s σ H _ I h) fun us s1 ⟨vs,H1,I1,r1,q1⟩=>?_) hs hpl))
 obtain ⟨i,j,k,n,e,⟨c0,c1,c2,c3⟩,q⟩:=q1
 subst e
 cases r1 with
 | cons r rr =>
  cases rr with
  | cons r' rr =>
   cases rr with
   | cons r'' rr =>
    cases rr
    obtain ⟨t,rfl⟩:=r
    obtain ⟨t',rfl⟩:=r'
    obtain ⟨t'',rfl⟩:=r''
    refine call_range_3 c0 ?_ (.inl (PyProof.noPylong_small c1))
    refine wpAny_pyIter_range (IsRange.new ..) c2 ?_
    have I2:Inv X pins σ H1 { s1 with heap:=s1.heap.push { cls:=.type "range",data:=.fields #[.int i t,.int j t',.int k t''] } }:=I1.kept (t':=s1.toks) fun b o e=>Heap.get?_push_of_some _ e
    refine TJ (tk:=s1.toks) I2 _ (Mj _ i k n) ?_ q
    have e1:i+((0:Nat):Int)*k=i:=by simp
    have e2:(n:Int) - ((0:Nat):Int)=Builtin.Range.rangeSize i j k:=by rw [c3];simp
    show IsRangeIter _ _ (i+((0:Nat):Int)*k) ((n:Int) - ((0:Nat):Int)) k
    rw [e1,e2]
    exact Heap.get?_push_size _ rfl
end
theorem GN {lo c:Int} {n:Nat} {g:TG} {tb:TS} {D:HW} {σ:St} {H:Hp} (Pv:Nat->St->Hp->Prop) (h0:Pv 0 σ H)
  (hs:∀ i σ H,i<n->Pv i σ H->g (.int (lo+(i:Nat)*c)) σ H fun σ2 H2=>tb { D with nx:=Pv (i+1),ct:=Pv (i+1),bk:=D.nx } σ2 H2) (hd:∀ σ H,Pv n σ H->D.nx σ H) :
  ∃ W:Nat->Nat->St->Hp->Prop,(∃ m,W 0 m σ H)/\∀ i m σ H,W i m σ H ->
   ((MH lo c n).stop i H/\D.nx σ H)\/((MH lo c n).go i H/\∃ N:St->Hp->Prop,(∀ σ' H',N σ' H'->∃ m',m'<m/\W (i+1) m' σ' H')/\∀ x H',(MH lo c n).yld i H x H'->g x σ H' fun σ2 H2=>tb { D with nx:=N,ct:=N,bk:=D.nx } σ2 H2):=by
 refine ⟨fun i m σ H=>m=n - i/\i<=n/\Pv i σ H,⟨n,by simp,Nat.zero_le _,h0⟩,?_⟩
 rintro i m σ H ⟨rfl,hi,p⟩
 by_cases hlt:i<n
 .refine .inr ⟨hlt,Pv (i+1),fun σ' H' p'=>⟨n - (i+1),by omega,rfl,hlt,p'⟩,fun x H' y=>?_⟩
  obtain ⟨e,y⟩:=y
  subst e y
  exact hs i σ _ hlt p
 .have e:i=n:=by omega
  subst e
  exact .inl ⟨Nat.le_refl _,hd σ H p⟩
theorem Pn:bootBuiltins "zip" = some (.type "zip"):=by decide +kernel
noncomputable def UQ (K:PySem.W.Frag) (a b:Addr):It :=
 ⟨fun i H=>∃ (xs ys:List V) (x y:V),SqL K H a xs/\SqL K H b ys/\xs[i]?=some x/\ys[i]?=some y,
  fun i H v H'=>∃ T x y,v=.ref T/\H T=none/\H'=upd H T (.tup [x,y])/\(∀ xs,SqL K H a xs->xs[i]?=some x)/\∀ ys,SqL K H b ys->ys[i]?=some y,
  fun i H=>∃ xs ys:List V,SqL K H a xs/\SqL K H b ys/\(xs.length<=i\/ys.length<=i)⟩
theorem Qy {P:Program} {w:World} {K:PySem.W.Frag} {elts:List Expr} {kk:Nat} {tpos:Pos} {a b z TI TO i1 i2:Addr} (D:ZipApart z TI TO i1 i2 a b) :
  PQ P w K (.Tuple elts kk tpos) (UQ K a b) [z,TI,TO,i1,i2] z (fun i h=>IsZip h z TI TO .none/\IsPair h TI (.ref i1) (.ref i2)/\(∃ x y,IsPair h TO x y)/\h.IsListIter i1 a i/\h.IsListIter i2 b i) where
 mem:=by simp
 obj:=fun i h st c hc=>by
  obtain ⟨hz,hTI,⟨x,y,hTO⟩,⟨o1,e1,_,d1⟩,⟨o2,e2,_,d2⟩⟩:=st
  have e':c=z\/c=TI\/c=TO\/c=i1\/c=i2:=by simpa using hc
  rcases e' with q | q | q | q | q
  .rw [q];exact ⟨_,hz,fun v q=>nomatch q⟩
  .rw [q];exact ⟨_,hTI,fun v q=>nomatch q⟩
  .rw [q];exact ⟨_,hTO,fun v q=>nomatch q⟩
  .rw [q];exact ⟨o1,e1,fun v q=>by rw [d1] at q;cases q⟩
  .rw [q];exact ⟨o2,e2,fun v q=>by rw [d2] at q;cases q⟩
 keep:=fun i h h' st k=>by
  obtain ⟨hz,hTI,⟨x,y,hTO⟩,h1,h2⟩:=st
  exact ⟨k z (by simp) _ hz,k TI (by simp) _ hTI,⟨x,y,k TO (by simp) _ hTO⟩,h1.at fun o q=>k i1 (by simp) o q,h2.at fun o q=>k i2 (by simp) o q⟩
 item:=by
  intro X hP hw hK hc i pins s σ H E I hf st hg
  subst hP hw hK
  obtain ⟨hz,hTI,⟨x0,y0,hTO⟩,h1,h2⟩:=st
  obtain ⟨xs,ys,x,y,hqx,hqy,hx,hy⟩:=hg
  obtain ⟨its,rv,p,_⟩:=I.list hqx
  obtain ⟨its2,rv2,p2,_⟩:=I.list hqy
  obtain ⟨u,hu,ru⟩:=rv.get hx
  obtain ⟨u2,hu2,ru2⟩:=rv2.get hy
  have hzl:z<s.heap.objs.size:=Heap.lt_size hz
  refine wpAny_pyNext_zip_item D hz hTI hTO h1 h2 p.isList p2.isList (x:=u) (y:=u2) (by simpa using hu) (by simpa using hu2) fun h' z' TO' h1' h2' hT hsz hk=>?_
  refine ⟨_,rfl,wpAny_letOwnedTupleGo_zip (s:={ s with heap:=h' }) z' fun h'' z'' sb=>?_⟩
  have hT2:h''.get? s.heap.objs.size=some { cls:=.type "tuple",data:=.seq #[u,u2] }:=(sb.2 _ (Nat.ne_of_gt hzl)).trans hT
  have new:ObjOk X.prog X.w (upd H s.heap.objs.size (.tup [x,y])) h'' s.heap.objs.size (.tup [x,y]) :=
   ⟨by show 2<=sizeLine;decide,[u,u2],.cons ru (.cons ru2 .nil),⟨_,hT2,rfl,_,rfl⟩⟩
  have I1:Inv X pins σ (upd H s.heap.objs.size (.tup [x,y])) { s with heap:=h'' } :=
   I.turnedNew (t':=s.toks) (ch:=[z,TI,TO,i1,i2]) (fun c o hb q=>(sb.2 c (fun q'=>hb (by simp [q']))).trans (hk c o (fun q'=>hb (by simp [q'])) (fun q'=>hb (by simp [q'])) (fun q'=>hb (by simp [q'])) (fun q'=>hb (by simp [q'])) q)) hf (Nat.le_refl _) new
  refine ⟨.ref s.heap.objs.size,_,I1,rfl,⟨_,x,y,rfl,I.hok.fresh (Nat.le_refl _),rfl,fun l hl=>by rw [I.list_inj hl hqx];exact hx,fun l hl=>by rw [I.list_inj hl hqy];exact hy⟩,⟨z'',?_,⟨u,u2,?_⟩,?_,?_⟩,fun c hcm=>?_⟩
  .exact (sb.2 _ D.TIz).trans (hk _ _ D.TIz D.TITO D.TIi1 D.TIi2 hTI)
  .exact (sb.2 _ D.TOz).trans TO'
  .exact h1'.at fun o q=>(sb.2 _ D.i1z).trans q
  .exact h2'.at fun o q=>(sb.2 _ D.i2z).trans q
  .have hlt:c<s.heap.objs.size:=by
    have e':c=z\/c=TI\/c=TO\/c=i1\/c=i2:=by simpa using hcm
    rcases e' with q | q | q | q | q
    .rw [q];exact hzl
    .rw [q];exact Heap.lt_size hTI
    .rw [q];exact Heap.lt_size hTO
    .rw [q];obtain ⟨_,e1,_⟩:=h1;exact Heap.lt_size e1
    .rw [q];obtain ⟨_,e2,_⟩:=h2;exact Heap.lt_size e2
   rw [AQ (Nat.ne_of_lt hlt)]
   exact (hf c hcm).1
 done:=by
  intro X hP hw hK hc i pins s σ H E I hf st hg
  subst hP hw hK
  obtain ⟨hz,hTI,⟨x0,y0,hTO⟩,h1,h2⟩:=st
  obtain ⟨xs,ys,hqx,hqy,hend⟩:=hg
  obtain ⟨its,rv,p,_⟩:=I.list hqx
  obtain ⟨its2,rv2,p2,_⟩:=I.list hqy
  have l1:=rv.length
  have l2:=rv2.length
  have he:its.toArray[i]?=none\/its2.toArray[i]?=none:=by
   rcases hend with q | q
   .exact .inl (by simp;omega)
   .exact .inr (by simp;omega)
  exact wpAny_pyNext_zip_end (I.ok.hd hc) D hz hTI hTO h1 h2 p.isList p2.isList he fun h' hk=>⟨rfl,I.turnedL (t':=s.toks) (ch:=[z,TI,TO,i1,i2]) (fun c o hb q =>
   hk c o (fun q'=>hb (by simp [q'])) (fun q'=>hb (by simp [q'])) (fun q'=>hb (by simp [q'])) (fun q'=>hb (by simp [q'])) q) hf⟩
 self:=fun A i s Q E st h=>wpAny_pyIter_zip st.1 h
noncomputable def VI (K:PySem.W.Frag) (ta:TA):TI:=fun σ H R=>ta σ H fun vs H1=>∃ a b xs ys,vs=[.ref a,.ref b]/\SqL K H1 a xs/\SqL K H1 b ys/\R (UQ K a b) H1
theorem QQ {X:Cx} {e e2:Expr} {ta:TA} {p pos tpos:Pos} {elts:List Expr} {kk:Nat} (hg:Gl X "zip") (hm:X.mg "zip" = none) (ha:PA X [e,e2] ta)
  (hs:starEach [e,e2] X.env=(false,eval e X.env)::starEach [e2] X.env:=by rfl) (hpl:(backTo pos (starEach [e2] X.env)).any (·.1)=false:=by rfl) :
  PI X (.Tuple elts kk tpos) (.Call (.Name "zip" p) [e,e2] [] pos) (VI X.K ta):=by
 intro pins s σ H R I h
 refine Call_ (Ff I hg hm Pn (PyProof.Rows.callWith_type1 (B7 (ha pos pins s σ H _ I h) fun us s1 ⟨vs,H1,I1,r1,q1⟩=>?_) hs hpl))
 obtain ⟨a,b,xs,ys,ex,hqx,hqy,q⟩:=q1
 subst ex
 cases r1 with
 | cons r rr =>
  cases rr with
  | cons r' rr =>
   cases rr
   cases r
   cases r'
   obtain ⟨its,rv,p1,_⟩:=I1.list hqx
   obtain ⟨its2,rv2,p2,_⟩:=I1.list hqy
   have la:a<s1.heap.objs.size:=p1.lt
   have lb:b<s1.heap.objs.size:=p2.lt
   refine call_zip_2 p1.isList p2.isList fun h' hz hTI hTO h1 h2 hsz hk=>wpAny_pyIter_zip hz ?_
   have I2:Inv X pins σ H1 { s1 with heap:=h' }:=I1.kept (t':=s1.toks) hk
   refine ⟨s1.heap.objs.size+4,[s1.heap.objs.size+4,s1.heap.objs.size+2,s1.heap.objs.size+3,s1.heap.objs.size,s1.heap.objs.size+1],_,_,H1,rfl,I2,Qy (PySem.W.ktu_apart s1.heap.objs.size a b la lb),⟨hz,hTI,⟨_,_,hTO⟩,h1,h2⟩,fun c hcm=>?_,q⟩
   have e':c=s1.heap.objs.size+4\/c=s1.heap.objs.size+2\/c=s1.heap.objs.size+3\/c=s1.heap.objs.size\/c=s1.heap.objs.size+1:=by simpa using hcm
   have hle:s1.heap.objs.size<=c:=by
    rcases e' with z | z | z | z | z
    .rw [z];exact Nat.le_add_right _ _
    .rw [z];exact Nat.le_add_right _ _
    .rw [z];exact Nat.le_add_right _ _
    .rw [z];exact Nat.le_refl _
    .rw [z];exact Nat.le_add_right _ _
   exact I1.fpOk hle (I1.hok.fresh hle)
end L2
section 
end 
section 
end 
namespace L2
open PySem PySem.Spec PyProof.Rows
noncomputable def Ae (s:Stmt) (j:Nat):Stmt:=match s with
 | .ClassDef _ _ _ body _ _ _ _ _ _ _=>body.getD j (.Pass ⟨0,0,0,0⟩)
 | _=>.Pass ⟨0,0,0,0⟩
noncomputable def DE (s:Stmt):Arguments:=match s with
 | .FunctionDef _ a _ _ _ _ _ _ _ _=>a
 | _=>{ posonlyargs:=[],args:=[],vararg:=none,kwonlyargs:=[],kw_defaults:=[],kwarg:=none,defaults:=[] }
noncomputable def Bt (s:Stmt):List Stmt:=match s with
 | .FunctionDef _ _ b _ _ _ _ _ _ _=>b
 | _=>[]
noncomputable def A8 (s:Stmt):Scope:=match s with
 | .FunctionDef _ _ _ _ _ _ sc _ _ _=>sc
 | _=>{ kind:=.function,names:=[],isGenerator:=false,isCoroutine:=false }
abbrev CX0:QP:=fun _ _ _ _ _ _=>False
abbrev E0:XK:=fun _ _ _=>False
theorem MW {X:Cx}:Fe CX0 X E0:=fun _ _ _ _ _ _ _ h=>h.elim
structure Fun (K:PySem.W.Frag) (x qual:Str) (st:Stmt) (f:Addr) (fd:FuncData):Prop where
 ex:∃ (oc:Value) (od:Option Addr) (kV doc pm:Value) (an:Option Addr) (cdv ct:Value) (osl:Array (Option Value)),
  fd=PySem.W.fnOf x qual (DE st) (Bt st) (A8 st) .none kV doc pm an cdv ct/\K.lookup f=some ⟨oc,od,.func fd,osl⟩/\PySem.W.codeIn K cdv qual=true
 kp:PySem.W.keepIn K (.ref f)=true
section
variable {P:Program} {w:World} {K:PySem.W.Frag} {mg:Str->Option Value} {base:Heap}
theorem Fun.ok {x qual:Str} {st:Stmt} {f:Addr} {fd:FuncData} {N ps:List Str} {k:Nat} {sp:Sp} (F:Fun K x qual st f fd) (S:AB N ps (A8 st)) (len:∀ vs H Q E,sp vs H Q E->vs.length=ps.length)
  (hbody:∀ (cdv:Value) (A:Around) (outer:List Env) (s:Shared) (H:Hp) (vs:List V) (Q:VK) (E:XK),Room k (A.deeper (envOfC qual (A8 st) s.heap.objs.size f cdv))->sp vs H Q E ->
   ∃ t,PSs (Lm CX0 P w K mg base N qual (A8 st) f cdv A outer s H E).nox (Bt st) t/\t { nx:=fun _ H'=>Q .non H',rt:=Q } (start N vs) H):FL P w K mg base CX0 (k+1) f fd ps sp:=by
 obtain ⟨oc,od,kV,doc,pm,an,cdv,ct,osl,rfl,lk,hcd⟩:=F.ex
 refine Tz lk hcd S len fun A outer s H vs Q E hr hsp=>?_
 obtain ⟨t,h,q⟩:=hbody cdv A outer s H vs Q E hr hsp
 exact ⟨t,h.nox,q⟩
theorem Fun.binds {x qual:Str} {st:Stmt} {f:Addr} {fd:FuncData} {ps:List Str} (F:Fun K x qual st f fd)
  (h:∀ (kV doc pm:Value) (an:Option Addr) (cdv ct:Value) (us:List Value),us.length=ps.length->bindArgs (PySem.W.fnOf x qual (DE st) (Bt st) (A8 st) .none kV doc pm an cdv ct) ⟨us,[]⟩=pure (ps.zip us)):Binds K fd ps []:=by
 obtain ⟨oc,od,kV,doc,pm,an,cdv,ct,osl,rfl,lk,hcd⟩:=F.ex
 exact .all (h kV doc pm an cdv ct)
theorem GZ {x qual:Str} {st:Stmt} {f:Addr} {oc:Value} {od an:Option Addr} {osl:Array (Option Value)} {kV doc pm cdv ct:Value} (l:K.lookup f=some ⟨oc,od,.func (PySem.W.fnOf x qual (DE st) (Bt st) (A8 st) .none kV doc pm an cdv ct),osl⟩)
  (c:PySem.W.codeIn K cdv qual=true) (k:PySem.W.keepIn K (.ref f)=true):Fun K x qual st f (PySem.W.fnOf x qual (DE st) (Bt st) (A8 st) .none kV doc pm an cdv ct):=⟨⟨oc,od,kV,doc,pm,an,cdv,ct,osl,rfl,l,c⟩,k⟩
end
theorem KS {A:Around} {k:Nat} (hr:Room k A):A.units+1<cLine:=Nat.lt_of_le_of_lt (Nat.add_le_add_left (by decide:1<=64) _) hr.units
section
variable {X:Cx}
theorem pv (i:Nat) {x:Str} {pos:Pos} (hN:X.N[i]?=some x:=by rfl) (hv:Tm X.env.scope x:=by first | exact Or.inl rfl | exact Or.inr (Or.inl rfl) | exact Or.inr (Or.inr rfl)) (hd:(x==("__debug__" : Str))=false:=by decide)
  (hcd:(x==("__classdict__" : Str))=false:=by decide):PE X (.Name x pos) (UZ i):=T1 hN hv hd hcd
end
theorem NY {A B:Prop} (h:B):if false=true then A else B:=by
 rw [if_neg Bool.false_ne_true]
 exact h
theorem Vf {A B:Prop} (h:A):if true=true then A else B:=by
 rw [if_pos rfl]
 exact h
theorem ite2 {c A B:Prop} [Decidable c] (h1:c->A) (h2:¬c->B):if c then A else B:=by
 by_cases h:c
 .rw [if_pos h]
  exact h1 h
 .rw [if_neg h]
  exact h2 h
noncomputable def Same (H H':Hp):Prop:=∀ b o,H b=some o->H' b=some o
theorem Same.refl (H:Hp):Same H H:=fun _ _ h=>h
theorem Same.trans {H H1 H2:Hp} (a:Same H H1) (b:Same H1 H2):Same H H2:=fun c o h=>b c o (a c o h)
theorem Same.free {H H':Hp} (e:Same H H') {l:Addr} (h:H' l=Option.none):H l=Option.none:=by
 cases q:H l with
 | none=>rfl
 | some o =>
  rw [e l o q] at h
  cases h
theorem Same.seq {K:PySem.W.Frag} {H H':Hp} {a:Addr} {xs:List V} (e:Same H H') (h:SqL K H a xs):SqL K H' a xs:=by
 rcases h with (h | ⟨o,h⟩) | h
 .exact .inl (.inl (e _ _ h))
 .exact .inl (.inr ⟨o,e _ _ h⟩)
 .exact .inr h
theorem OS {xs:List V} {z:Int} {j:Nat} {v:V} (e:z=(j:Int)) (h:xs[j]?=some v):Lw xs z=some v:=by
 rw [e]
 exact AH h
theorem Same.made {H H1:Hp} {x dx C:Addr} (nx:H x=Option.none) (nd:H dx=Option.none) (k:∀ b o,(upd (upd H dx (.own x)) x (.ins C dx [])) b=some o->b≠x->H1 b=some o):Same H H1:=fun b o e =>
 k b o (by rw [AQ (A1 e nx),AQ (A1 e nd)];exact e) (A1 e nx)
end L2
end
section
namespace L2
open PySem PySem.Spec PyProof.Rows
open PySem.W (WData Codec OpenSpec Well WellAll ReadsW ReadsAllW)
mutual
inductive Dw (K:PySem.W.Frag) (H:Hp):V->WData->Prop
 | non:Dw K H .non .none
 | bl (b:Bool):Dw K H (.bl b) (.bool b)
 | int (i:Int):Dw K H (.int i) (.int i)
 | str (x:Str):Dw K H (.str x) (.str x)
 | byt (b:Array UInt8):Dw K H (.byt b) (.bytes b.toList)
 | lst {a:Addr} {xs:List V} {ds:List WData}:SqL K H a xs->FH K H xs ds->Dw K H (.ref a) (.list ds)
 | tup {a:Addr} {xs:List V} {ds:List WData}:SqT K H a xs->FH K H xs ds->Dw K H (.ref a) (.tuple ds)
inductive FH (K:PySem.W.Frag) (H:Hp):List V->List WData->Prop
 | nil:FH K H [] []
 | cons {v:V} {vs:List V} {d:WData} {ds:List WData}:Dw K H v d->FH K H vs ds->FH K H (v::vs) (d::ds)
end
theorem dw_ints {K:PySem.W.Frag} {H:Hp}:∀ ns:List Int,FH K H (ns.map V.int) (ns.map WData.int)
 | []=>.nil
 | n::r=>.cons (.int n) (dw_ints r)
theorem ints_dw {K:PySem.W.Frag} {H:Hp}:∀ (ns:List Int) (xs:List V),FH K H xs (ns.map WData.int)->xs=ns.map V.int
 | [],xs,h=>by
  cases h
  rfl
 | n::r,xs,h=>by
  cases h with
  | cons h1 h2 =>
   cases h1
   rw [ints_dw r _ h2] <;> rfl
section
variable {P:Program} {w:World} {K:PySem.W.Frag} {H:Hp} {h:Heap} {R:PySem.W.WRecords} {cl:Str->Option Addr}
theorem Sf {a:Addr} {xs:List V} (hok:HOk P w H h) (KX:K.In h) (q:SqL K H a xs):∃ (its:List Value) (o:Obj) (n:Nat),Vals xs its/\h.get? a=some o/\o.cls=.type "list" /\ o.data=.seq its.toArray n:=by
 rcases q with q | ⟨o,its,n,e,hc,_,hd,_,hv⟩
 .obtain ⟨_,its,n,hv,e⟩:=(show ObjOk P w H h a (.lst xs) from q.ok hok)
  exact ⟨its,_,n,hv,e,rfl,rfl⟩
 .exact ⟨its.toList,o,n,hv,KX _ _ e,hc,by simp [hd]⟩
theorem Te {a:Addr} {xs:List V} (hok:HOk P w H h) (KX:K.In h) (q:SqT K H a xs):∃ (its:List Value) (o:Obj) (n:Nat),Vals xs its/\h.get? a=some o/\o.cls=.type "tuple" /\ o.data=.seq its.toArray n:=by
 rcases q with q | ⟨o,its,n,e,hc,hd,_,hv⟩
 .obtain ⟨_,its,hv,o,e,hc,n,hd⟩:=(show ObjOk P w H h a (.tup xs) from q.ok hok)
  exact ⟨its,o,n,hv,e,hc,hd⟩
 .exact ⟨its.toList,o,n,hv,KX _ _ e,hc,by simp [hd]⟩
mutual
theorem Dw.reads (hok:HOk P w H h) (KX:K.In h):∀ (d:WData) (v:V) (u:Value),Dw K H v d->RelV v u->∃ as,ReadsW R cl h u d as
 | .none,_,_,x,r=>by
  cases x
  cases r
  exact ⟨_,ReadsW.none⟩
 | .bool b,_,_,x,r=>by
  cases x
  cases r
  exact ⟨_,ReadsW.bool b⟩
 | .int i,_,_,x,r=>by
  cases x
  obtain ⟨t,rfl⟩:=r
  exact ⟨_,ReadsW.int i t⟩
 | .str s,_,_,x,r=>by
  cases x
  obtain ⟨t,rfl⟩:=r
  exact ⟨_,ReadsW.str s t⟩
 | .bytes b,_,_,x,r=>by
  cases x
  obtain ⟨t,rfl⟩:=r
  exact ⟨_,ReadsW.bytes _ t⟩
 | .list ds,_,_,x,r=>by
  cases x with
  | lst hs ha =>
   cases r
   obtain ⟨its,o,n,rv,ho,hc,hd⟩:=Sf hok KX hs
   obtain ⟨as,hr⟩:=Dw.readsAll hok KX ds _ its ha rv
   exact ⟨_,ReadsW.list ho hc hd hr⟩
 | .tuple ds,_,_,x,r=>by
  cases x with
  | tup hs ha =>
   cases r
   obtain ⟨its,o,n,rv,ho,hc,hd⟩:=Te hok KX hs
   obtain ⟨as,hr⟩:=Dw.readsAll hok KX ds _ its ha rv
   exact ⟨_,ReadsW.tuple ho hc hd hr⟩
 | .float _,_,_,x,_=>by cases x
 | .dict _,_,_,x,_=>by cases x
 | .bytearray _,_,_,x,_=>by cases x
 | .set _,_,_,x,_=>by cases x
 | .frozenset _,_,_,x,_=>by cases x
 | .obj _ _,_,_,x,_=>by cases x
theorem Dw.readsAll (hok:HOk P w H h) (KX:K.In h):∀ (ds:List WData) (vs:List V) (us:List Value),FH K H vs ds->Vals vs us->∃ as,ReadsAllW R cl h us ds as
 | [],_,_,x,r=>by
  cases x
  cases r
  exact ⟨_,ReadsAllW.nil⟩
 | d::ds,_,_,x,r=>by
  cases x with
  | cons h1 h2 =>
   cases r with
   | cons r1 r2 =>
    obtain ⟨as,q1⟩:=Dw.reads hok KX d _ _ h1 r1
    obtain ⟨bs,q2⟩:=Dw.readsAll hok KX ds _ _ h2 r2
    exact ⟨_,ReadsAllW.cons q1 q2⟩
end
end
mutual
noncomputable def OW:WData->Bool
 | .none=>true
 | .bool _=>true
 | .int _=>true
 | .str _=>true
 | .bytes _=>true
 | .list xs=>Ig xs
 | .tuple xs=>Ig xs
 | _=>false
noncomputable def Ig:List WData->Bool
 | []=>true
 | x::r=>OW x && Ig r
end
theorem Mb {α:Type} {f:α->WData} (h:∀ a,OW (f a)=true):∀ l:List α,Ig (l.map f)=true
 | []=>rfl
 | x::r=>by
  show (OW (f x) && Ig (r.map f))=true
  rw [h x,Mb h r] <;> rfl
theorem FX:∀ (c:Codec) (a:c.denote),OW (c.enc a)=true
 | .unit,_=>rfl
 | .bool,_=>rfl
 | .int _ _,_=>rfl
 | .nat _ _,_=>rfl
 | .u8,_=>rfl
 | .bytes _ _,_=>rfl
 | .text _ _ _ _,_=>rfl
 | .list _ _ c,a=>Mb (fun x=>FX c x) a
 | .pair c d,a=>by
  show (OW (c.enc a.1) && (OW (d.enc a.2) && true))=true
  rw [FX c a.1,FX d a.2] <;> rfl
 | .triple c d e,a=>by
  show (OW (c.enc a.1) && (OW (d.enc a.2.1) && (OW (e.enc a.2.2) && true)))=true
  rw [FX c a.1,FX d a.2.1,FX e a.2.2] <;> rfl
 | .option c,none=>rfl
 | .option c,some x=>FX c x
theorem KZ:∀ (cs:List Codec) (a:Codec.denoteAll cs),Ig (Codec.encAll cs a)=true
 | [],_=>rfl
 | c::cs,a=>by
  show (OW (c.enc a.1) && Ig (Codec.encAll cs a.2))=true
  rw [FX c a.1,KZ cs a.2] <;> rfl
theorem GK:∀ {xs:List WData} {d:WData},d∈xs->d.weight<=WData.weightAll xs
 | [],d,h=>absurd h (by simp)
 | x::r,d,h=>by
  show d.weight<=x.weight+1+WData.weightAll r
  rcases List.mem_cons.mp h with e | m
  .rw [e]
   lia
  .have z:=GK m
   lia
noncomputable def M7:Value->V
 | .none=>.non
 | .bool b=>.bl b
 | .int i _=>.int i
 | .str x _=>.str x
 | .bytes b _=>.byt b
 | .ref a=>.ref a
 | _=>.non
noncomputable def OkU (A:List Addr):Value->Prop
 | .none=>True
 | .bool _=>True
 | .int _ _=>True
 | .str _ _=>True
 | .bytes _ _=>True
 | .ref a=>a∈A
 | _=>False
theorem OkU.mono {A B:List Addr} (h:∀ a∈A,a∈B):∀ {u:Value},OkU A u->OkU B u:=fun {u} x=>by
 cases u with
 | ref a=>exact h a x
 | none=>trivial
 | bool b=>trivial
 | int i t=>trivial
 | str s t=>trivial
 | bytes b t=>trivial
 | _=>exact False.elim x
theorem Ql {A:List Addr} {u:Value} (x:OkU A u):RelV (M7 u) u:=by
 cases u with
 | ref a=>rfl
 | none=>rfl
 | bool b=>rfl
 | int i t=>exact ⟨t,rfl⟩
 | str s t=>exact ⟨t,rfl⟩
 | bytes b t=>exact ⟨t,rfl⟩
 | _=>exact False.elim x
theorem Ed {A:List Addr}:∀ {vs:List Value},(∀ u∈vs,OkU A u)->Vals (vs.map M7) vs
 | [],_=>.nil
 | u::r,h=>.cons (Ql (h u (List.mem_cons_self ..))) (Ed fun x hx=>h x (List.mem_cons_of_mem _ hx))
noncomputable def ArgOb (h:Heap) (A:List Addr) (a:Addr):Prop:=∃ vs:List Value,vs.length<=sizeLine/\(∀ u∈vs,OkU A u) /\
 (h.get? a=some { cls:=.type "list",data:=.seq vs.toArray }\/h.get? a=some { cls:=.type "tuple",data:=.seq vs.toArray })
theorem ArgOb.mono {h:Heap} {A B:List Addr} {a:Addr} (k:∀ a∈A,a∈B) (x:ArgOb h A a):ArgOb h B a:=by
 obtain ⟨vs,h1,h2,h3⟩:=x
 exact ⟨vs,h1,fun u hu=>(h2 u hu).mono k,h3⟩
theorem ED {P:Params} {h:Heap}:∀ {vs:List Value} {ds:List WData},WellAll P h vs ds->vs.length=ds.length
 | _,_,.nil=>rfl
 | _,_,.cons _ b=>by
  show _+1=_+1
  rw [ED b]
theorem Ku {P:Params} {h:Heap} {v:Value} {ds:List WData} (x:Well P h v (.list ds)):∃ (a:Addr) (vs:List Value),v=.ref a/\h.get? a=some { cls:=.type "list",data:=.seq vs.toArray }/\WellAll P h vs ds:=by
 cases x with
 | list ho hall=>exact ⟨_,_,rfl,ho,hall⟩
theorem Jr {P:Params} {h:Heap} {v:Value} {ds:List WData} (x:Well P h v (.tuple ds)):∃ (a:Addr) (vs:List Value),v=.ref a/\h.get? a=some { cls:=.type "tuple",data:=.seq vs.toArray }/\WellAll P h vs ds:=by
 cases x with
 | tuple ho hall=>exact ⟨_,_,rfl,ho,hall⟩
theorem Ky {P:Params} {h:Heap} {us:List Value} {d:WData} {ds:List WData} (x:WellAll P h us (d::ds)):∃ (v:Value) (vs:List Value),us=v::vs/\Well P h v d/\WellAll P h vs ds:=by
 cases x with
 | cons a b=>exact ⟨_,_,rfl,a,b⟩
theorem Oi {n:Nat} (h:n<=1048576):n<=sizeLine:=Nat.le_trans h (by decide)
section
variable {P:Params} {h:Heap}
mutual
theorem QJ:∀ (d:WData) (v:Value),Well P h v d->OW d=true->d.weight<=1048576->∃ A:List Addr,OkU A v/\∀ a∈A,ArgOb h A a
 | .none,_,x,_,_=>by
  cases x
  exact ⟨[],trivial,fun a m=>absurd m (by simp)⟩
 | .bool b,_,x,_,_=>by
  cases x
  exact ⟨[],trivial,fun a m=>absurd m (by simp)⟩
 | .int i,_,x,_,_=>by
  cases x
  exact ⟨[],trivial,fun a m=>absurd m (by simp)⟩
 | .str s,_,x,_,_=>by
  cases x
  exact ⟨[],trivial,fun a m=>absurd m (by simp)⟩
 | .bytes b,_,x,_,_=>by
  cases x
  exact ⟨[],trivial,fun a m=>absurd m (by simp)⟩
 | .list ds,_,x,p,z=>by
  obtain ⟨a,vs,rfl,ho,hall⟩:=Ku x
  have z2:WData.weightAll ds<=1048576:=z
  obtain ⟨A,h1,h2⟩:=HJ ds _ hall p fun d hd=>Nat.le_trans (GK hd) z2
  have k:∀ b∈A,b∈a::A:=fun b hb=>List.mem_cons_of_mem _ hb
  refine ⟨a::A,List.mem_cons_self ..,fun b hb=>?_⟩
  rcases List.mem_cons.mp hb with e | m
  .rw [e]
   exact ⟨vs,Oi (by rw [ED hall];exact Nat.le_trans (PySem.W.length_le_weightAllW ds) z2),fun u hu=>(h1 u hu).mono k,.inl ho⟩
  .exact (h2 b m).mono k
 | .tuple ds,_,x,p,z=>by
  obtain ⟨a,vs,rfl,ho,hall⟩:=Jr x
  have z2:WData.weightAll ds<=1048576:=z
  obtain ⟨A,h1,h2⟩:=HJ ds _ hall p fun d hd=>Nat.le_trans (GK hd) z2
  have k:∀ b∈A,b∈a::A:=fun b hb=>List.mem_cons_of_mem _ hb
  refine ⟨a::A,List.mem_cons_self ..,fun b hb=>?_⟩
  rcases List.mem_cons.mp hb with e | m
  .rw [e]
   exact ⟨vs,Oi (by rw [ED hall];exact Nat.le_trans (PySem.W.length_le_weightAllW ds) z2),fun u hu=>(h1 u hu).mono k,.inr ho⟩
  .exact (h2 b m).mono k
 | .float _,_,_,p,_=>Bool.noConfusion (show false=true from p)
 | .dict _,_,_,p,_=>Bool.noConfusion (show false=true from p)
 | .bytearray _,_,_,p,_=>Bool.noConfusion (show false=true from p)
 | .set _,_,_,p,_=>Bool.noConfusion (show false=true from p)
 | .frozenset _,_,_,p,_=>Bool.noConfusion (show false=true from p)
 | .obj _ _,_,_,p,_=>Bool.noConfusion (show false=true from p)
theorem HJ:∀ (ds:List WData) (vs:List Value),WellAll P h vs ds->Ig ds=true->(∀ d∈ds,d.weight<=1048576)->∃ A:List Addr,(∀ u∈vs,OkU A u)/\∀ a∈A,ArgOb h A a
 | [],_,x,_,_=>by
  cases x
  exact ⟨[],fun u m=>absurd m (by simp),fun a m=>absurd m (by simp)⟩
 | d::ds,_,x,p,z=>by
  obtain ⟨v,vs,rfl,x1,x2⟩:=Ky x
  have q:OW d=true/\Ig ds=true:=Bool.and_eq_true_iff.mp p
  obtain ⟨A,a1,a2⟩:=QJ d v x1 q.1 (z d (List.mem_cons_self ..))
  obtain ⟨B,b1,b2⟩:=HJ ds vs x2 q.2 fun e he=>z e (List.mem_cons_of_mem _ he)
  have kA:∀ b∈A,b∈A++B:=fun b hb=>List.mem_append.mpr (.inl hb)
  have kB:∀ b∈B,b∈A++B:=fun b hb=>List.mem_append.mpr (.inr hb)
  refine ⟨A++B,fun u hu=>?_,fun b hb=>?_⟩
  .rcases List.mem_cons.mp hu with e | m
   .rw [e]
    exact a1.mono kA
   .exact (b1 u m).mono kB
  .rcases List.mem_append.mp hb with m | m
   .exact (a2 b m).mono kA
   .exact (b2 b m).mono kB
end
end
noncomputable def Rm (o:Obj):Option HO:=match o.data with
 | .seq vs _=>if (o.cls==Value.type "list")=true then some (.frz o (.lst (vs.toList.map M7))) else some (.frz o (.tup (vs.toList.map M7)))
 | _=>none
noncomputable def Ez (K:PySem.W.Frag) (h:Heap) (A:List Addr):Hp:=fun b=>if b∈A then (if (K.lookup b).isNone=true then (h.get? b).bind Rm else none) else none
noncomputable def MS (H:Hp):Prop:=∀ b,H b=none\/∃ o u,H b=some (.frz o u)
theorem MG (vs:List Value):Rm { cls:=.type "list",data:=.seq vs.toArray }=some (.frz { cls:=.type "list",data:=.seq vs.toArray } (.lst (vs.map M7))):=by
 show (if (Value.type "list" == Value.type "list")=true then some (HO.frz { cls:=.type "list",data:=.seq vs.toArray } (.lst (vs.toArray.toList.map M7))) else some (HO.frz { cls:=.type "list",data:=.seq vs.toArray } (.tup (vs.toArray.toList.map M7))))=_
 rw [if_pos (beq_self_eq_true _)]
theorem Ma (vs:List Value):Rm { cls:=.type "tuple",data:=.seq vs.toArray }=some (.frz { cls:=.type "tuple",data:=.seq vs.toArray } (.tup (vs.map M7))):=by
 show (if (Value.type "tuple" == Value.type "list")=true then some (HO.frz { cls:=.type "tuple",data:=.seq vs.toArray } (.lst (vs.toArray.toList.map M7))) else some (HO.frz { cls:=.type "tuple",data:=.seq vs.toArray } (.tup (vs.toArray.toList.map M7))))=_
 rw [if_neg (by decide)]
section
variable {P:Program} {w:World} {K:PySem.W.Frag} {h:Heap} {A:List Addr}
theorem Iv {b:Addr} {o:Obj} (hb:b∈A) (hk:K.lookup b=none) (e:h.get? b=some o):Ez K h A b=Rm o:=by
 unfold Ez
 rw [if_pos hb,hk,if_pos (show (none:Option Obj).isNone=true from rfl),e] <;> rfl
theorem RX {b:Addr} {u:HO} (q:Ez K h A b=some u):b∈A/\K.lookup b=none:=by
 unfold Ez at q
 by_cases hb:b∈A
 .rw [if_pos hb] at q
  cases hk:K.lookup b with
  | none=>exact ⟨hb,rfl⟩
  | some o =>
   rw [hk,if_neg (by simp)] at q
   cases q
 .rw [if_neg hb] at q
  cases q
theorem J1 (ar:∀ a∈A,ArgOb h A a) {b:Addr} {u:HO} (q:Ez K h A b=some u):K.lookup b=none/\∃ vs:List Value,vs.length<=sizeLine/\(∀ u∈vs,OkU A u) /\
  ((h.get? b=some { cls:=.type "list",data:=.seq vs.toArray }/\u=.frz { cls:=.type "list",data:=.seq vs.toArray } (.lst (vs.map M7))) \/
   (h.get? b=some { cls:=.type "tuple",data:=.seq vs.toArray }/\u=.frz { cls:=.type "tuple",data:=.seq vs.toArray } (.tup (vs.map M7)))):=by
 obtain ⟨hb,hk⟩:=RX q
 obtain ⟨vs,h1,h2,h3⟩:=ar b hb
 refine ⟨hk,vs,h1,h2,?_⟩
 rcases h3 with e | e
 .rw [Iv hb hk e,MG] at q
  exact .inl ⟨e,(ZC q).symm⟩
 .rw [Iv hb hk e,Ma] at q
  exact .inr ⟨e,(ZC q).symm⟩
theorem PB (ar:∀ a∈A,ArgOb h A a):MS (Ez K h A):=fun b=>by
 cases q:Ez K h A b with
 | none=>exact .inl rfl
 | some u =>
  obtain ⟨_,vs,_,_,⟨_,e⟩ | ⟨_,e⟩⟩:=J1 ar q
  .exact .inr ⟨_,_,by rw [e]⟩
  .exact .inr ⟨_,_,by rw [e]⟩
theorem RD (ar:∀ a∈A,ArgOb h A a):HOk P w (Ez K h A) h:=fun b u q=>by
 obtain ⟨_,vs,h1,h2,⟨e,rfl⟩ | ⟨e,rfl⟩⟩:=J1 ar q
 .exact ⟨e,by rw [ZE];exact h1,vs,_,Ed h2,e⟩
 .exact ⟨e,by rw [ZE];exact h1,vs,Ed h2,_,e,rfl,_,rfl⟩
theorem Iw {c c':Value} {vs us:List Value} (e:(some { cls:=c,data:=.seq vs.toArray }:Option Obj)=some { cls:=c',data:=.seq us.toArray }):c=c'/\vs=us:=by
 have e1:=ZC e
 have e2:c=c':=congrArg Obj.cls e1
 have e3:Data.seq vs.toArray=Data.seq us.toArray:=congrArg Obj.data e1
 injection e3 with e4
 refine ⟨e2,?_⟩
 have e5:=congrArg Array.toList e4
 simpa using e5
theorem VM (KX:K.In h) (ar:∀ a∈A,ArgOb h A a) {a:Addr} {vs:List Value} (ha:a∈A) (e:h.get? a=some { cls:=.type "list",data:=.seq vs.toArray }):(∀ u∈vs,OkU A u)/\SqL K (Ez K h A) a (vs.map M7):=by
 obtain ⟨us,h1,h2,h3⟩:=ar a ha
 have hu:us=vs:=by
  rcases h3 with q | q
  .rw [e] at q
   exact (Iw q).2.symm
  .rw [e] at q
   exact absurd (Value.type.inj (Iw q).1) (by decide)
 subst hu
 refine ⟨h2,?_⟩
 cases hk:K.lookup a with
 | none=>exact .inl (.inr ⟨_,by rw [Iv ha hk e,MG]⟩)
 | some o =>
  have e2:=KX a o hk
  rw [e] at e2
  obtain rfl:=ZC e2
  exact .inr ⟨_,us.toArray,_,hk,rfl,rfl,rfl,by rw [List.size_toArray];exact h1,by simpa using Ed h2⟩
theorem Uk (KX:K.In h) (ar:∀ a∈A,ArgOb h A a) {a:Addr} {vs:List Value} (ha:a∈A) (e:h.get? a=some { cls:=.type "tuple",data:=.seq vs.toArray }):(∀ u∈vs,OkU A u)/\SqT K (Ez K h A) a (vs.map M7):=by
 obtain ⟨us,h1,h2,h3⟩:=ar a ha
 have hu:us=vs:=by
  rcases h3 with q | q
  .rw [e] at q
   exact absurd (Value.type.inj (Iw q).1) (by decide)
  .rw [e] at q
   exact (Iw q).2.symm
 subst hu
 refine ⟨h2,?_⟩
 cases hk:K.lookup a with
 | none=>exact .inl (.inr ⟨_,by rw [Iv ha hk e,Ma]⟩)
 | some o =>
  have e2:=KX a o hk
  rw [e] at e2
  obtain rfl:=ZC e2
  exact .inr ⟨_,us.toArray,_,hk,rfl,rfl,by rw [List.size_toArray];exact h1,by simpa using Ed h2⟩
mutual
theorem TK {Pm:Params} (KX:K.In h) (ar:∀ a∈A,ArgOb h A a):∀ (d:WData) (v:Value),Well Pm h v d->OW d=true->OkU A v->Dw K (Ez K h A) (M7 v) d
 | .none,_,x,_,_=>by
  cases x
  exact .non
 | .bool b,_,x,_,_=>by
  cases x
  exact .bl b
 | .int i,_,x,_,_=>by
  cases x
  exact .int i
 | .str s,_,x,_,_=>by
  cases x
  exact .str s
 | .bytes b,_,x,_,_=>by
  cases x
  have z:=Dw.byt (K:=K) (H:=Ez K h A) b.toArray
  exact z
 | .list ds,_,x,p,hu=>by
  obtain ⟨a,vs,rfl,ho,hall⟩:=Ku x
  obtain ⟨h2,hs⟩:=VM KX ar hu ho
  exact .lst hs (Lu KX ar ds _ hall p h2)
 | .tuple ds,_,x,p,hu=>by
  obtain ⟨a,vs,rfl,ho,hall⟩:=Jr x
  obtain ⟨h2,hs⟩:=Uk KX ar hu ho
  exact .tup hs (Lu KX ar ds _ hall p h2)
 | .float _,_,_,p,_=>Bool.noConfusion (show false=true from p)
 | .dict _,_,_,p,_=>Bool.noConfusion (show false=true from p)
 | .bytearray _,_,_,p,_=>Bool.noConfusion (show false=true from p)
 | .set _,_,_,p,_=>Bool.noConfusion (show false=true from p)
 | .frozenset _,_,_,p,_=>Bool.noConfusion (show false=true from p)
 | .obj _ _,_,_,p,_=>Bool.noConfusion (show false=true from p)
theorem Lu {Pm:Params} (KX:K.In h) (ar:∀ a∈A,ArgOb h A a):∀ (ds:List WData) (vs:List Value),WellAll Pm h vs ds->Ig ds=true->(∀ u∈vs,OkU A u)->FH K (Ez K h A) (vs.map M7) ds
 | [],_,x,_,_=>by
  cases x
  exact .nil
 | d::ds,_,x,p,hu=>by
  obtain ⟨v,vs,rfl,x1,x2⟩:=Ky x
  have q:OW d=true/\Ig ds=true:=Bool.and_eq_true_iff.mp p
  exact .cons (TK KX ar d v x1 q.1 (hu _ (List.mem_cons_self ..))) (Lu KX ar ds vs x2 q.2 fun u m=>hu u (List.mem_cons_of_mem _ m))
end
end
theorem spec_call {P:Program} {w:World} {K:PySem.W.Frag} {mg mb:Str->Option Value} {CX:QP} {k:Nat} {fa:Addr} {fd:FuncData} {ps:List Str} {sp:Sp} {s₁:Shared} {vals:List Value} {ds:List WData} {R:PySem.W.WRecords} {cl:Str->Option Addr} {d0:WData}
  (KX:K.In s₁.heap) (hns:s₁.heap.Ns mainGlobals mg) (hb:s₁.heap.Ns builtinsNs mb) (hbb:∀ x:Str,x ≠ "__name__" -> mb x=bootBuiltins x) (hlim:s₁.heap.NoLimit) (hg:s₁.gens=#[])
  (hwl:WellAll w.params s₁.heap vals ds) (hpl:Ig ds=true) (hwt:∀ d∈ds,d.weight<=1048576) (hr:Room k callerA)
  (F:∀ base:Heap,K.In base->base.Ns mainGlobals mg->FL P w K mg base CX k fa fd ps sp) (hbind:∀ (s:Shared) (us:List Value),us.length=ps.length->BindsTo s fd ⟨us,[]⟩ (ps.zip us)) (hlen:ds.length=ps.length)
  (hsp:∀ (H:Hp) (xs:List V),MS H->FH K H xs ds->sp xs H (fun v H'=>Dw K H' v d0) fun _ _ _=>False)
  (hCX:∀ H e s',CX [] H s₁ (fun _ _ _=>False) e s'->False) :
  codeAny (model P w) callerA (.call (.ref fa) ⟨vals,[]⟩) (fun r s'=>∃ u as,r=.ok (.ret u)/\ReadsW R cl s'.heap u d0 as/\OldK s₁.heap s'.heap/\s'.os=s₁.os/\AllBare s'.gens) s₁:=by
 obtain ⟨A,ho,ar⟩:=HJ ds vals hwl hpl hwt
 have hO:MS (Ez K s₁.heap A):=PB ar
 have hok:HOk P w (Ez K s₁.heap A) s₁.heap:=RD ar
 have hS:=Lu KX ar ds vals hwl hpl ho
 have hV:=Ed ho
 have hK:∀ b u,Ez K s₁.heap A b=some u->K.lookup b=none:=fun b u q=>(J1 ar q).1
 have noA:∀ {b:Addr} {o:Obj} {es:Array DictEntry} {ep:Nat},s₁.heap.get? b=some o->o.data=.dict es ep->Ez K s₁.heap A b=none:=fun {b o es ep} e d=>by
  cases q:Ez K s₁.heap A b with
  | none=>rfl
  | some u =>
   obtain ⟨_,vs,_,_,⟨e2,_⟩ | ⟨e2,_⟩⟩:=J1 ar q
   .rw [e2] at e
    cases e
    have d':Data.seq vs.toArray _=Data.dict es ep:=d
    cases d'
   .rw [e2] at e
    cases e
    have d':Data.seq vs.toArray _=Data.dict es ep:=d
    cases d'
 generalize Ez K s₁.heap A=H at hO hok hS hK noA
 have base_of:∀ {b:Addr} {o:Obj},s₁.heap.get? b=some o->H b=none->(Li s₁.heap H).get? b=some o:=fun e n=>Qs e n
 have nsK:∀ {b:Addr} {m:Str->Option Value},s₁.heap.Ns b m->(Li s₁.heap H).Ns b m:=fun {b m} ⟨o,es,ep,e,d,r⟩=>⟨o,es,ep,base_of e (noA e d),d,r⟩
 have nK:∀ b o,K.lookup b=some o->H b=none:=fun b o e=>by
  cases q:H b with
  | none=>rfl
  | some u =>
   rw [hK b u q] at e
   cases e
 have hKb:K.In (Li s₁.heap H):=fun b o e=>base_of (KX b o e) (nK b o e)
 have hM:Mod K mg (Li s₁.heap H):=⟨hKb,nsK hns,⟨mb,nsK hb,hbb⟩,let ⟨mc,h1,h2⟩:=hlim;⟨mc,nsK h1,h2⟩⟩
 have e0:Env0 P w K mg (Li s₁.heap H) callerA [] s₁ H:=⟨rfl,hM,fun b o e=>SA e,Nat.le_of_eq (Po _ _),trivial,fun b hb=>absurd (show b∈([]:List Addr) from hb) (by simp),hok,.of_eq hg⟩
 have hl:vals.length=ps.length:=by rw [ED hwl];exact hlen
 refine codeAny_mono ((F _ hKb (nsK hns)).run callerA [] s₁ H ⟨vals,[]⟩ vals (vals.map M7) _ _ hr e0 (hbind s₁ vals hl) hV (hsp H _ hO hS)) fun r s' x=>?_
 cases r with
 | error e=>exact (hCX H e s' x).elim
 | ok fl =>
  cases fl with
  | next=>exact False.elim x
  | brk=>exact False.elim x
  | cont=>exact False.elim x
  | ret u =>
   obtain ⟨v,H',os,bare,un,hok',r',q⟩:=x
   have kept:∀ b o,s₁.heap.get? b=some o->s'.heap.get? b=some o:=fun b o e=>by
    cases q2:H b with
    | none=>exact un.keep b o e q2 (by intro z;exact absurd (show b∈([]:List Addr) from z) (by simp)) (by simp)
    | some u2 =>
     rcases hO b with z | ⟨ob,u3,z⟩
     .rw [q2] at z
      cases z
     .have z2:=un.frzs b ob _ z
      obtain ⟨e1,_⟩:=hok b _ z
      obtain ⟨e2,_⟩:=hok' b _ z2
      rw [e] at e1
      cases e1
      exact e2
   have KX':K.In s'.heap:=fun b o e=>kept b o (KX b o e)
   obtain ⟨as,hrd⟩:=Dw.reads (R:=R) (cl:=cl) hok' KX' d0 v u q r'
   exact ⟨u,as,rfl,hrd,OldK.of_keep kept,os,bare⟩
theorem Jy {ds:List WData} (h:WData.layableAll ds=true):∀ d∈ds,d.weight<=1048576:=fun d hd =>
 (PySem.W.layableW_iff.mp (List.all_eq_true.mp h d hd)).2.2
theorem JZ:∀ (cs:List Codec) (a:Codec.denoteAll cs),(Codec.encAll cs a).length=cs.length
 | [],_=>rfl
 | c::cs,a=>by
  show (Codec.encAll cs a.2).length+1=cs.length+1
  rw [JZ cs a.2]
theorem Pq {r:OpenSpec} {k:Nat} {q:Program} {loose:List Str} {XP:(Str->Option Value)->Heap->Prop} {YP:World->Heap->Prop} {d:DefRec} {K:Params->PySem.W.Frag} {CX:World->QP} {ps:List Str} {sp:World->Sp}
  (hwell:r.wellSaid=true) (hdf:d.params.defaults=[]) (hlen:r.args.length=ps.length) (hr:Room k callerA)
  (hY:∀ (w:World) (h:Heap),YP w h->(K w.params).In h)
  (F:∀ (w:World) (mg:Str->Option Value) (fa:Addr) (h:Heap),YP w h->(K w.params).In h->h.Ns mainGlobals mg->mg d.name=some (.ref fa) ->
   ∃ fd:FuncData,(∀ (s:Shared) (us:List Value),us.length=ps.length->BindsTo s fd ⟨us,[]⟩ (ps.zip us)) /\
    ∀ base:Heap,(K w.params).In base->base.Ns mainGlobals mg->FL r.prog w (K w.params) mg base (CX w) k fa fd ps (sp w))
  (hsp:∀ (w:World) (H:Hp) (xs:List V) (a:Codec.denoteAll r.args),MS H->Codec.withinAll r.args a=true->Codec.app r.args r.asked a=true->FH (K w.params) H xs (Codec.encAll r.args a) ->
   sp w xs H (fun v H'=>Dw (K w.params) H' v (r.ret.enc (Codec.app r.args r.f a))) fun _ _ _=>False)
  (hCX:∀ (w:World) (H:Hp) (s:Shared) (e:Value) (s':Shared),CX w [] H s (fun _ _ _=>False) e s'->False) :
  PySem.W.WalkOS q loose XP YP r d [] (fun f vs=>PySem.call f vs):=by
 intro w s_0 s₁ mg mb G Y fa o pm cd doc dV kV ho hd hcd hD hmg hg args vals as hpre hlay hrd hwl hlo
 obtain ⟨a,e1,e2⟩:=PySem.W.os_pre_some hpre
 obtain ⟨e3,hwi⟩:=Codec.encAll_of_decAll r.args args a e1
 subst e3
 have KX:=hY w _ Y
 obtain ⟨fd,hb,hF⟩:=F w mg fa _ Y KX G.T.g hmg
 refine PySem.W.enter_call (codeAny_mono (spec_call (R:=[]) (cl:=classAt s_0.heap) (d0:=r.ret.enc (Codec.app r.args r.f a)) KX G.T.g G.T.b G.T.builtins G.T.nolimit hg hwl (KZ _ _) (Jy hlay) hr hF hb (by rw [JZ];exact hlen)
  (fun H xs hO hS=>hsp w H xs a hO hwi e2 hS) fun H e s'=>hCX w H s₁ e s') fun r' s' hq=>?_)
 obtain ⟨u,as',rfl,h1,h2,h3,h4⟩:=hq
 exact ⟨.inl ⟨u,_,as',rfl,fun _=>rfl,h1,(OpenSpec.post_iff hwell hwi _ _).mpr rfl,fun z=>Bool.noConfusion (show false=true from z)⟩,h2,h3,h4⟩
theorem walk_specK {r:OpenSpec} {k:Nat} {q:Program} {loose:List Str} {XP:(Str->Option Value)->Heap->Prop} {YP:World->Heap->Prop} {d:DefRec} {K:Params->PySem.W.Frag} {CX:QP} {ps:List Str} {sp:PySem.W.Frag->Sp}
  (hwell:r.wellSaid=true) (hdf:d.params.defaults=[]) (hlen:r.args.length=ps.length) (hr:Room k callerA)
  (hY:∀ (w:World) (h:Heap),YP w h->(K w.params).In h)
  (F:∀ (w:World) (mg:Str->Option Value) (fa:Addr) (h:Heap),YP w h->(K w.params).In h->h.Ns mainGlobals mg->mg d.name=some (.ref fa) ->
   ∃ fd:FuncData,(∀ (s:Shared) (us:List Value),us.length=ps.length->BindsTo s fd ⟨us,[]⟩ (ps.zip us)) /\
    ∀ base:Heap,(K w.params).In base->base.Ns mainGlobals mg->FL r.prog w (K w.params) mg base CX k fa fd ps (sp (K w.params)))
  (hsp:∀ (K:PySem.W.Frag) (H:Hp) (xs:List V) (a:Codec.denoteAll r.args),MS H->Codec.withinAll r.args a=true->Codec.app r.args r.asked a=true->FH K H xs (Codec.encAll r.args a) ->
   sp K xs H (fun v H'=>Dw K H' v (r.ret.enc (Codec.app r.args r.f a))) fun _ _ _=>False)
  (hCX:∀ (H:Hp) (s:Shared) (e:Value) (s':Shared),CX [] H s (fun _ _ _=>False) e s'->False) :
  PySem.W.WalkOS q loose XP YP r d [] (fun f vs=>PySem.call f vs) :=
 Pq (K:=K) (CX:=fun _=>CX) (sp:=fun w=>sp (K w.params)) hwell hdf hlen hr hY F (fun w H xs a h1 h2 h3 h4=>hsp (K w.params) H xs a h1 h2 h3 h4) fun _ H s e s'=>hCX H s e s'
end L2
end
section
namespace Wd
open PySem PySem.Spec PyProof.Rows L2
noncomputable def top (i:Nat):Stmt:=PySem.Challenge.pw_writtenways_s01_answers.main.body.getD i (.Pass ⟨0,0,0,0⟩)
noncomputable def Dy (mg:Str->Option Value) (x:Str) (v:V):Prop:=∃ u,mg x=some u/\RelV v u
section
variable {P:Program} {w:World} {K:PySem.W.Frag} {mg:Str->Option Value} {base:Heap}
structure Dfn (K:PySem.W.Frag) (mg:Str->Option Value) (x:Str) (st:Stmt) (ps:List Str):Prop where
 ex:∃ f fd,Fun K x x st f fd/\mg x=some (.ref f)/\Binds K fd ps []
structure Dme (K:PySem.W.Frag) (C:Addr) (m qual:Str) (st:Stmt) (ps:List Str):Prop where
 ex:∃ f fd,Fun K m qual st f fd/\P1 K C m f/\Binds K fd ps []
 cl:Cls K C
structure Dmk (K:PySem.W.Frag) (mg:Str->Option Value) (C:Addr) (x qual:Str) (st:Stmt) (ps:List Str):Prop where
 ex:∃ f fd,Fun K "__init__" qual st f fd/\Mk K C f/\Binds K fd ps []
 cl:Cls K C
 gl:mg x=some (.ref C)
structure Ak (P:Program) (w:World) (K:PySem.W.Frag) (mg:Str->Option Value) (base:Heap) (k:Nat) (x:Str) (ps:List Str) (sp:Sp):Prop where
 ex:∃ f fd,FL P w K mg base CX0 k f fd ps sp/\mg x=some (.ref f)/\PySem.W.keepIn K (.ref f)=true/\Binds K fd ps []
structure Cb (P:Program) (w:World) (K:PySem.W.Frag) (mg:Str->Option Value) (base:Heap) (k:Nat) (C:Addr) (m:Str) (ps:List Str) (sp:Sp):Prop where
 ex:∃ f fd,FL P w K mg base CX0 k f fd ps sp/\P1 K C m f/\Binds K fd ps []
 cl:Cls K C
structure Kg (P:Program) (w:World) (K:PySem.W.Frag) (mg:Str->Option Value) (base:Heap) (k:Nat) (C:Addr) (x:Str) (ps:List Str) (sp:Sp):Prop where
 ex:∃ f fd,FL P w K mg base CX0 k f fd ps sp/\Mk K C f/\Binds K fd ps []
 gl:mg x=some (.ref C)
theorem Dfn.ok {x:Str} {st:Stmt} {N ps:List Str} {k:Nat} {sp:Sp} (D:Dfn K mg x st ps) (S:AB N ps (A8 st)) (len:∀ vs H Q E,sp vs H Q E->vs.length=ps.length)
  (hbody:∀ (f:Addr) (cdv:Value) (A:Around) (outer:List Env) (s:Shared) (H:Hp) (vs:List V) (Q:VK) (E:XK),Room k (A.deeper (envOfC x (A8 st) s.heap.objs.size f cdv))->sp vs H Q E ->
   ∃ t,PSs (Lm CX0 P w K mg base N x (A8 st) f cdv A outer s H E).nox (Bt st) t/\t { nx:=fun _ H'=>Q .non H',rt:=Q } (start N vs) H):Ak P w K mg base (k+1) x ps sp:=by
 obtain ⟨f,fd,F,e,b⟩:=D.ex
 exact ⟨f,fd,F.ok S len (hbody f),e,F.kp,b⟩
theorem Dme.ok {C:Addr} {m qual:Str} {st:Stmt} {N ps:List Str} {k:Nat} {sp:Sp} (D:Dme K C m qual st ps) (S:AB N ps (A8 st)) (len:∀ vs H Q E,sp vs H Q E->vs.length=ps.length)
  (hbody:∀ (f:Addr) (cdv:Value) (A:Around) (outer:List Env) (s:Shared) (H:Hp) (vs:List V) (Q:VK) (E:XK),Room k (A.deeper (envOfC qual (A8 st) s.heap.objs.size f cdv))->sp vs H Q E ->
   ∃ t,PSs (Lm CX0 P w K mg base N qual (A8 st) f cdv A outer s H E).nox (Bt st) t/\t { nx:=fun _ H'=>Q .non H',rt:=Q } (start N vs) H):Cb P w K mg base (k+1) C m ps sp:=by
 obtain ⟨f,fd,F,e,b⟩:=D.ex
 exact ⟨⟨f,fd,F.ok S len (hbody f),e,b⟩,D.cl⟩
theorem Dmk.ok {C:Addr} {x qual:Str} {st:Stmt} {N ps:List Str} {k:Nat} {sp:Sp} (D:Dmk K mg C x qual st ps) (S:AB N ps (A8 st)) (len:∀ vs H Q E,sp vs H Q E->vs.length=ps.length)
  (hbody:∀ (f:Addr) (cdv:Value) (A:Around) (outer:List Env) (s:Shared) (H:Hp) (vs:List V) (Q:VK) (E:XK),Room k (A.deeper (envOfC qual (A8 st) s.heap.objs.size f cdv))->sp vs H Q E ->
   ∃ t,PSs (Lm CX0 P w K mg base N qual (A8 st) f cdv A outer s H E).nox (Bt st) t/\t { nx:=fun _ H'=>Q .non H',rt:=Q } (start N vs) H):Kg P w K mg base (k+1) C x ps sp:=by
 obtain ⟨f,fd,F,e,b⟩:=D.ex
 exact ⟨⟨f,fd,F.ok S len (hbody f),e,b⟩,D.gl⟩
end
section
variable {X:Cx}
theorem B4 {x:Str} {v:V} {pos:Pos} (h:Dy X.mg x v) (hg:Gl X x:=by rfl) (hd:(x==("__debug__" : Str))=false:=by decide):PE X (.Name x pos) (tC v):=by
 obtain ⟨u,e,r⟩:=h
 exact RI hg e r hd
variable {k j:Nat} {C:Addr} {ps:List Str} {sp:Sp} {x m:Str} {p pos apos:Pos} {e o:Expr} {es:List Expr} {ta:TE} {t:TA}
theorem BI (c:Ak X.prog X.w X.K X.mg X.base j x ps sp) (hr:Room k X.A) (ha:PA X (e::es) t) (hg:Gl X x:=by rfl) (hle:j<=k:=by decide) (hdb:(x==("__debug__" : Str))=false:=by decide)
  (he:starEach (e::es) X.env=(false,eval e X.env)::starEach es X.env:=by rfl) (hpl:(backTo pos (starEach es X.env)).any (·.1)=false:=by rfl):PE X (.Call (.Name x p) (e::es) [] pos) (SK sp [] E0 t):=by
 obtain ⟨f,fd,F,e1,kp,b⟩:=c.ex
 exact S3 F (hr.mono hle) hg e1 kp b .nil MW ha hdb he hpl
theorem JA {pl:Sem Bool} (c:Cb X.prog X.w X.K X.mg X.base j C m ps sp) (hr:Room k X.A) (he:PE X o ta) (ha:PA X (e::es) t) (hle:j<=k:=by decide)
  (hst:starEach (e::es) X.env=(false,eval e X.env)::starEach es X.env:=by rfl) (hpl:(backTo pos (starEach es X.env)).any (·.1)=false:=by rfl)
  (ht:eval (.Call (.Attribute o m apos) (e::es) [] pos) X.env=(do
   let ov <-eval o X.env
   standAt apos.atName
   let (f,first) <-holding [ov] (getMethod ov m pl)
   callWith pos f first (backTo pos (starEach (e::es) X.env)) (backToKw pos (keywordEach [] X.env))):=by rfl):PE X (.Call (.Attribute o m apos) (e::es) [] pos) (Oo C m sp [] E0 ta t):=by
 obtain ⟨f,fd,F,e1,b⟩:=c.ex
 exact RV he c.cl e1 F (hr.mono hle) b .nil MW ha hst hpl ht
theorem Gm {pl:Sem Bool} (c:Cb X.prog X.w X.K X.mg X.base j C m ps sp) (hr:Room k X.A) (he:PE X o ta) (hle:j<=k:=by decide)
  (ht:eval (.Call (.Attribute o m apos) [] [] pos) X.env=(do
   let ov <-eval o X.env
   standAt apos.atName
   let (f,first) <-holding [ov] (getMethod ov m pl)
   callWith pos f first (backTo pos (starEach [] X.env)) (backToKw pos (keywordEach [] X.env))):=by rfl):PE X (.Call (.Attribute o m apos) [] [] pos) (Oo C m sp [] E0 ta Qp):=by
 obtain ⟨f,fd,F,e1,b⟩:=c.ex
 exact Q0 he c.cl e1 F (hr.mono hle) b .nil MW ht
theorem RH (c:Kg X.prog X.w X.K X.mg X.base j C x ps sp) (hr:Room k X.A) (ha:PA X (e::es) t) (hg:Gl X x:=by rfl) (hle:j+1<=k:=by decide) (hdb:(x==("__debug__" : Str))=false:=by decide)
  (he:starEach (e::es) X.env=(false,eval e X.env)::starEach es X.env:=by rfl) (hpl:(backTo pos (starEach es X.env)).any (·.1)=false:=by rfl):PE X (.Call (.Name x p) (e::es) [] pos) (Ow C sp [] E0 t):=by
 obtain ⟨f,fd,F,M,b⟩:=c.ex
 exact Re M F (hr.mono hle) hg c.gl b .nil MW ha hdb he hpl
theorem Uj (c:Kg X.prog X.w X.K X.mg X.base j C x ps sp) (hr:Room k X.A) (hg:Gl X x:=by rfl) (hle:j+1<=k:=by decide) (hdb:(x==("__debug__" : Str))=false:=by decide):PE X (.Call (.Name x p) [] [] pos) (Ow C sp [] E0 Qp):=by
 obtain ⟨f,fd,F,M,b⟩:=c.ex
 exact Qr M F (hr.mono hle) hg c.gl b .nil MW hdb
end
section
variable {X:Cx}
noncomputable def VB (t:TE):TE:=fun σ H Q=>∃ Q':VK,t σ H Q'/\∀ x H1,Q' x H1->Q x H1
theorem EU {e:Expr} {t:TE} (h:PE X e t):PE X e (VB t):=by
 intro pins s σ H Q I hw
 obtain ⟨Q',hq,k⟩:=hw
 exact B7 (h pins s σ H Q' I hq) fun v s1 ⟨x,H1,I1,r1,q1⟩=>⟨x,H1,I1,r1,k x H1 q1⟩
noncomputable def VW (t:TT):TT:=fun σ H Q=>∃ Q':Bool->Hp->Prop,t σ H Q'/\∀ x H1,Q' x H1->Q x H1
noncomputable def UV (t:TS):TS:=fun D σ H=>∃ N:L2.St->Hp->Prop,t { D with nx:=N } σ H/\∀ σ' H',N σ' H'->D.nx σ' H'
theorem TZ {st:Stmt} {t:TS} (h:PS X st t):PS X st (UV t):=by
 intro pins s σ H D I hw
 obtain ⟨N,hq,k⟩:=hw
 refine B7 (h pins s σ H { D with nx:=N } I hq) fun f s1 q=>?_
 cases f with
 | next =>
  obtain ⟨σ',H',I',q⟩:=q
  exact ⟨σ',H',I',k σ' H' q⟩
 | ret v=>exact q
 | brk=>exact q
 | cont=>exact q
end
abbrev NV (n:Nat):V:=.int (n:Int)
noncomputable def oV:Option Nat->V
 | none=>.non
 | some n=>NV n
noncomputable def AO (l:List Nat):List V:=l.map NV
theorem AR {l:List Nat} {i:Nat} {n:Nat} (h:l[i]?=some n):(AO l)[i]?=some (NV n):=by
 unfold AO
 rw [List.getElem?_map,h]
 rfl
@[simp] theorem nVs_len (l:List Nat):(AO l).length=l.length:=ZE _
theorem C0 (l m:List Nat):AO (l++m)=AO l++AO m:=List.map_append
theorem Bb (l:List Nat) (i n:Nat):(AO l).set i (NV n)=AO (l.set i n):=by
 unfold AO
 rw [List.map_set]
theorem BV {l:List Nat} {i:Nat} {v:V} (h:(AO l)[i]?=some v):∃ n,l[i]?=some n/\v=NV n:=by
 unfold AO at h
 rw [List.getElem?_map] at h
 cases e:l[i]? with
 | none=>rw [e] at h;cases h
 | some n=>rw [e] at h;exact ⟨n,rfl,(ZC h).symm⟩
theorem D8 (m n:Nat):decide (NV m=NV n)=decide (m=n):=by
 by_cases h:m=n
 .subst h
  rw [decide_eq_true rfl,decide_eq_true rfl]
 .rw [decide_eq_false h,decide_eq_false]
  intro e
  injection e with e
  exact h (Int.ofNat.inj e)
theorem BT (m:Nat):∀ l:List Nat,NK (NV m) (AO l)=l.contains m
 | []=>rfl
 | a::l=>by
  have ih:=BT m l
  show (PL (NV a) (NV m) || NK (NV m) (AO l))=_
  rw [ih,List.contains_cons]
  congr 1
  show PL (.int a) (.int m)=(m==a)
  by_cases h:m=a
  .subst h
   show ((m:Int)==(m:Int))=(m==m)
   rw [beq_self_eq_true,beq_self_eq_true]
  .have h':¬(a:Int)=(m:Int):=fun e=>h (Int.ofNat.inj e).symm
   show ((a:Int)==(m:Int))=(m==a)
   rw [beq_eq_false_iff_ne.mpr h',beq_eq_false_iff_ne.mpr h]
theorem vc {Q:VK} {v v':V} {H:Hp} (e:v'=v) (h:Q v' H):Q v H:=by
 subst e
 exact h
theorem Pz {Q:VK} {b b':Bool} {H:Hp} (e:b'=b) (h:Q (.bl b') H):Q (.bl b) H:=by
 subst e
 exact h
theorem VQ {Q:VK} {b b':Nat} {H:Hp} (e:b'=b) (h:Q (NV b') H):Q (NV b) H:=by
 subst e
 exact h
theorem _root_.L2.Same.upd {H:Hp} {p:Addr} {o:HO} (h:H p=Option.none):Same H (upd H p o):=fun b q e=>by rw [AQ (A1 e h)];exact e
noncomputable def Keep (a:Addr) (H H':Hp):Prop:=∀ b o,H b=some o->b≠a->H' b=some o
theorem Keep.refl (a:Addr) (H:Hp):Keep a H H:=fun _ _ h _=>h
theorem Keep.trans {a:Addr} {H H1 H2:Hp} (x:Keep a H H1) (y:Keep a H1 H2):Keep a H H2:=fun b o h n=>y b o (x b o h n) n
theorem _root_.L2.Same.keep {a:Addr} {H H':Hp} (s:Same H H'):Keep a H H':=fun b o h _=>s b o h
theorem Keep.set {a:Addr} {H:Hp} {o:HO}:Keep a H (L2.upd H a o):=fun b q h n=>by rw [AQ n];exact h
theorem Keep.same {a:Addr} {H H1 H2:Hp} (x:Keep a H H1) (y:Same H1 H2):Keep a H H2:=x.trans y.keep
abbrev Nu:Nat:=100000
theorem QC {n:Nat} (h:n<=Nu):n<=sizeLine:=Nat.le_trans h (by decide)
theorem KM {n:Nat} (h:n<=Nu):n<sizeLine:=Nat.lt_of_le_of_lt h (by decide)
theorem QA (n:Nat):-(2 ^ 62)<=(n:Int):=by lia
theorem QS {n:Nat} (h:n<=Nu):(n:Int)<2 ^ 62:=by
 have h:n<=100000:=h
 lia
theorem BR {n j:Nat} (h:j<n):RB n (j:Int)=some j:=by
 unfold RB
 rw [if_pos (by lia),if_pos (by lia)]
 rfl
theorem BC {n:Nat} {g:TG} {tb:TS} {D:HW} {σ:L2.St} {H:Hp} (Pv:Nat->L2.St->Hp->Prop) (h0:Pv 0 σ H)
  (hs:∀ i σ H,i<n->Pv i σ H->g (NV i) σ H fun σ2 H2=>tb { D with nx:=Pv (i+1),ct:=Pv (i+1),bk:=D.nx } σ2 H2) (hd:∀ σ H,Pv n σ H->D.nx σ H) :
  ∃ W:Nat->Nat->L2.St->Hp->Prop,(∃ m,W 0 m σ H)/\∀ i m σ H,W i m σ H ->
   ((NL 0 n).stop i H/\D.nx σ H)\/((NL 0 n).go i H/\∃ N:L2.St->Hp->Prop,(∀ σ' H',N σ' H'->∃ m',m'<m/\W (i+1) m' σ' H')/\∀ x H',(NL 0 n).yld i H x H'->g x σ H' fun σ2 H2=>tb { D with nx:=N,ct:=N,bk:=D.nx } σ2 H2) :=
 L0 Pv h0 (fun i σ H hi p=>by
  rw [Int.zero_add]
  exact hs i σ H hi p) hd
theorem F6 {lo n:Nat} {g:TG} {tb:TS} {D:HW} {σ:L2.St} {H:Hp} (Pv:Nat->L2.St->Hp->Prop) (h0:Pv 0 σ H)
  (hs:∀ i σ H,i<n->Pv i σ H->g (NV (lo+i)) σ H fun σ2 H2=>tb { D with nx:=Pv (i+1),ct:=Pv (i+1),bk:=D.nx } σ2 H2) (hd:∀ σ H,Pv n σ H->D.nx σ H) :
  ∃ W:Nat->Nat->L2.St->Hp->Prop,(∃ m,W 0 m σ H)/\∀ i m σ H,W i m σ H ->
   ((NL (lo:Int) n).stop i H/\D.nx σ H)\/((NL (lo:Int) n).go i H/\∃ N:L2.St->Hp->Prop,(∀ σ' H',N σ' H'->∃ m',m'<m/\W (i+1) m' σ' H')/\∀ x H',(NL (lo:Int) n).yld i H x H'->g x σ H' fun σ2 H2=>tb { D with nx:=N,ct:=N,bk:=D.nx } σ2 H2) :=
 L0 Pv h0 (fun i σ H hi p=>hs i σ H hi p) hd
theorem HH {i:Int} (h1:-(2 ^ 62)<=i) (h2:i<2 ^ 62):RgC i (-1) (-1) (i+1).toNat:=RgC.neg (j:=-1) h1 h2 (by decide) (by decide)
theorem HD {lo:Int} {n:Nat} {g:TG} {tb:TS} {D:HW} {σ:L2.St} {H:Hp} (hn:n=(lo+1).toNat) (Pv:Nat->L2.St->Hp->Prop) (h0:Pv 0 σ H)
  (hs:∀ i σ H,i<n->Pv i σ H->g (NV (n - 1 - i)) σ H fun σ2 H2=>tb { D with nx:=Pv (i+1),ct:=Pv (i+1),bk:=D.nx } σ2 H2) (hd:∀ σ H,Pv n σ H->D.nx σ H) :
  ∃ W:Nat->Nat->L2.St->Hp->Prop,(∃ m,W 0 m σ H)/\∀ i m σ H,W i m σ H ->
   ((MH lo (-1) n).stop i H/\D.nx σ H)\/((MH lo (-1) n).go i H/\∃ N:L2.St->Hp->Prop,(∀ σ' H',N σ' H'->∃ m',m'<m/\W (i+1) m' σ' H')/\∀ x H',(MH lo (-1) n).yld i H x H'->g x σ H' fun σ2 H2=>tb { D with nx:=N,ct:=N,bk:=D.nx } σ2 H2) :=
 GN Pv h0 (fun i σ H hi p=>by
  have e:lo+(i:Int)*(-1)=((n - 1 - i:Nat):Int):=by lia
  rw [e]
  exact hs i σ H hi p) hd
theorem FG {l:List Nat} {z:Int} {j n:Nat} (e:z=(j:Int)) (h:l[j]?=some n):Lw (AO l) z=some (NV n):=OS e (AR h)
theorem Dh {m n:Nat} (d:decide (NV m=NV n)=true):m=n:=by
 rw [D8] at d
 exact of_decide_eq_true d
theorem E9 {m n:Nat} (d:¬decide (NV m=NV n)=true):¬m=n:=fun z=>d (by rw [D8];exact decide_eq_true z)
theorem TN {m n:Nat} (d:(!decide (NV m=NV n))=true):¬m=n:=fun z=>by
 rw [D8,decide_eq_true z] at d
 cases d
theorem Td {m n:Nat} (d:¬(!decide (NV m=NV n))=true):m=n:=by
 rw [D8] at d
 by_cases h:m=n
 .exact h
 .rw [decide_eq_false h] at d
  exact absurd rfl d
end Wd
end
section
namespace Wd
open PySem PySem.Spec PyProof.Rows L2
noncomputable def Bk (p:Prop):Prop:=p
theorem Uc {p:Prop} (h:p):Bk p:=h
noncomputable def Keep2 (a b:Addr) (H H':Hp):Prop:=∀ c o,H c=some o->c≠a->c≠b->H' c=some o
theorem Keep2.refl (a b:Addr) (H:Hp):Keep2 a b H H:=fun _ _ h _ _=>h
theorem Keep2.trans {a b:Addr} {H H1 H2:Hp} (x:Keep2 a b H H1) (y:Keep2 a b H1 H2):Keep2 a b H H2:=fun c o h n m=>y c o (x c o h n m) n m
theorem _root_.L2.Same.keep2 {a b:Addr} {H H':Hp} (s:Same H H'):Keep2 a b H H':=fun c o h _ _=>s c o h
theorem Keep.left {a b:Addr} {H H':Hp} (k:Keep a H H'):Keep2 a b H H':=fun c o h n _=>k c o h n
theorem Keep.right {a b:Addr} {H H':Hp} (k:Keep b H H'):Keep2 a b H H':=fun c o h _ m=>k c o h m
theorem Keep2.set1 {a b:Addr} {H:Hp} {o:HO}:Keep2 a b H (L2.upd H a o):=Keep.set.left
theorem Keep2.set2 {a b:Addr} {H:Hp} {o:HO}:Keep2 a b H (L2.upd H b o):=Keep.set.right
theorem A6 {H:Hp} {a p:Addr} {o:HO} {r:Option HO} (h:H a=r) (n:a≠p):upd H p o a=r:=by rw [AQ n];exact h
theorem none_of {H H':Hp} {p:Addr} (s:Same H H') (h:H' p=none):H p=none:=s.free h
theorem Ct {b p:Addr} {H H':Hp} (k:Keep b H H') (h:H' p=none) (n:p≠b):H p=none:=by
 cases e:H p with
 | none=>rfl
 | some o=>rw [k p o e n] at h;cases h
theorem TX {b c p:Addr} {H H':Hp} (k:Keep2 b c H H') (h:H' p=none) (n:p≠b) (m:p≠c):H p=none:=by
 cases e:H p with
 | none=>rfl
 | some o=>rw [k p o e n m] at h;cases h
theorem E3 {H:Hp} {q p:Addr} {o:HO} (h:upd H q o p=none):H p=none:=by
 by_cases e:p=q
 .subst e
  rw [A2] at h
  cases h
 .rw [AQ e] at h
  exact h
theorem _root_.L2.Same.set {H0 H:Hp} {a:Addr} {o:HO} (s:Same H0 H) (n:H0 a=none):Same H0 (upd H a o):=fun b q e=>by rw [AQ (A1 e n)];exact s b q e
theorem _root_.L2.Same.kept {H0 H H':Hp} {a:Addr} (s:Same H0 H) (n:H0 a=none) (k:Keep a H H'):Same H0 H':=fun b q e=>k b q (s b q e) (A1 e n)
theorem _root_.L2.Same.kept2 {H0 H H':Hp} {a b:Addr} (s:Same H0 H) (n:H0 a=none) (m:H0 b=none) (k:Keep2 a b H H'):Same H0 H':=fun c q e=>k c q (s c q e) (A1 e n) (A1 e m)
theorem Keep.viaS {a:Addr} {H G H1:Hp} (k:Keep a H G) (s:Same G H1):Keep a H H1:=fun c o h n=>s c o (k c o h n)
theorem Keep2.viaS {a b:Addr} {H G H1:Hp} (k:Keep2 a b H G) (s:Same G H1):Keep2 a b H H1:=fun c o h n m=>s c o (k c o h n m)
theorem OT {H:Hp} {a c p:Addr} {o:HO} (h:H c=some o) (n:c≠a) (d:p=a\/H p=none):c≠p:=by
 rcases d with d | d
 .subst d;exact n
 .exact A1 h d
theorem Lb {H:Hp} {a b c p:Addr} {o:HO} (h:H c=some o) (n:c≠a) (m:c≠b) (d:p=a\/p=b\/H p=none):c≠p:=by
 rcases d with d | d | d
 .subst d;exact n
 .subst d;exact m
 .exact A1 h d
theorem Keep.viaU {a p:Addr} {H G:Hp} {o:HO} (k:Keep a H G) (d:p=a\/H p=none):Keep a H (upd G p o):=fun c q h n=>by rw [AQ (OT h n d)];exact k c q h n
theorem Keep2.viaU {a b p:Addr} {H G:Hp} {o:HO} (k:Keep2 a b H G) (d:p=a\/p=b\/H p=none):Keep2 a b H (upd G p o):=fun c q h n m=>by rw [AQ (Lb h n m d)];exact k c q h n m
theorem Keep.viaK {a p:Addr} {H G H1:Hp} (k:Keep a H G) (k2:Keep p G H1) (d:p=a\/H p=none):Keep a H H1:=fun c q h n=>k2 c q (k c q h n) (OT h n d)
theorem Keep2.viaK {a b p:Addr} {H G H1:Hp} (k:Keep2 a b H G) (k2:Keep p G H1) (d:p=a\/p=b\/H p=none):Keep2 a b H H1:=fun c q h n m=>k2 c q (k c q h n m) (Lb h n m d)
theorem Keep.viaK2 {a p r:Addr} {H G H1:Hp} (k:Keep a H G) (k2:Keep2 p r G H1) (d:p=a\/H p=none) (e:r=a\/H r=none):Keep a H H1:=fun c q h n=>k2 c q (k c q h n) (OT h n d) (OT h n e)
theorem Keep2.viaK2 {a b p r:Addr} {H G H1:Hp} (k:Keep2 a b H G) (k2:Keep2 p r G H1) (d:p=a\/p=b\/H p=none) (e:r=a\/r=b\/H r=none):Keep2 a b H H1:=fun c q h n m=>k2 c q (k c q h n m) (Lb h n m d) (Lb h n m e)
end Wd
namespace Wd
open PySem PySem.Spec PyProof.Rows L2
theorem CB {K:PySem.W.Frag} {a:Addr} {xs ys:List V} {g:TG} {tt:TT} {te:TE} {vs:List Nat} {σ:L2.St} {H1:Hp} {D:Addr} {Qd:Hp->Prop} (hx:H1 a=some (.lst xs)) (nD:H1 D=none) (hl:xs.length=ys.length) (hz:xs.length<=100000)
  (hs:∀ (i:Nat) (x y:V) (H:Hp) (R:VK) (F:Hp->Prop),xs[i]?=some x->ys[i]?=some y->Same H1 H->(∀ H4,Same H H4->R y H4)->g x (Bs σ vs) H fun σ2 H2=>Bs σ2 vs=Bs σ vs/\tt σ2 H2 fun b H3=>if b=true then te σ2 H3 R else F H3)
  (hd:∀ H,Same H1 H->H D=some (.lst ys)->Qd H) :
  ∃ W:Nat->Nat->Hp->Prop,(∃ m,W 0 m (upd H1 D (.lst [])))/\∀ i m H,W i m H ->
   ((QK K a).stop i H/\Qd H)\/((QK K a).go i H/\∃ Nx:Hp->Prop,(∀ H',Nx H'->∃ m',m'<m/\W (i+1) m' H')/\∀ x H',(QK K a).yld i H x H'->g x (Bs σ vs) H' fun σ2 H2=>Bs σ2 vs=Bs σ vs/\tt σ2 H2 fun b H3 =>
    if b=true then te σ2 H3 fun y H4=>∃ acc,H4 D=some (.lst acc)/\acc.length<sizeLine/\Nx (upd H4 D (.lst (acc++[y]))) else Nx H3):=by
 refine Og (xs:=xs) (fun i H=>Same H1 H/\H D=some (.lst (ys.take i))) ⟨Same.upd nD,A2⟩ (fun i H _ p=>SqL.of (p.1 _ _ hx)) (fun i x H hi p=>?_) (fun H p=>hd H p.1 ?_)
 .obtain ⟨s1,hD⟩:=p
  have hlt:i<ys.length:=by rw [<-hl];exact (ZB.mp hi).1
  have hy:ys[i]?=some ys[i]:=ZA hlt
  refine hs i x ys[i] H _ _ hi hy s1 fun H4 s4=>⟨ys.take i,s4 _ _ hD,?_,?_,?_⟩
  .rw [List.length_take]
   have:ys.length<=Nu:=by rw [<-hl];exact hz
   exact KM (Nat.le_trans (Nat.min_le_right _ _) this)
  .exact (s1.trans s4).set nD
  .rw [A2,List.take_add_one,hy]
   rfl
 .rw [p.2,hl,List.take_length]
theorem Bn {K:PySem.W.Frag} {H:Hp} {a:Addr} {xs:List V} {B:Prop} (h:H a=some (.lst xs)):SqL K H a xs\/B:=.inl (SqL.of h)
theorem Rk {K:PySem.W.Frag} {H:Hp} {a:Addr} {xs:List V} {B:Prop} (h:H a=some (.tup xs)):B\/SqT K H a xs:=.inr (SqT.of h)
theorem Ee {K:PySem.W.Frag} {H:Hp} {a:Addr} {xs:List V} (h:H a=some (.lst xs)):∃ xs,SqL K H a xs:=⟨xs,SqL.of h⟩
theorem Ah {K:PySem.W.Frag} {H:Hp} {a:Addr} {xs:List V} (h:H a=some (.lst xs)):Ud K "list" (.ref a) H:=.inl ⟨rfl,xs,SqL.of h⟩
theorem DT {n:Nat} (h:n<=100000):n<=sizeLine:=QC h
theorem QL {n:Nat} (h:n<=100000):n<sizeLine:=KM h
theorem Sh (n:Nat) (o:Option Nat):TB (NV n) (oV o)=true:=by cases o <;> rfl
theorem eq_oV (n:Nat) (o:Option Nat):(NV n=oV o)=(o=some n):=by
 cases o with
 | none=>exact propext ⟨fun h=>(by cases h),fun h=>by cases h⟩
 | some m=>exact propext ⟨fun h=>by injection h with h;rw [Int.ofNat.inj h],fun h=>by rw [ZC h];rfl⟩
theorem inV1 (c a:Nat):NK (NV c) [NV a]=decide (c=a):=by
 rw [show [NV a]=AO [a] from rfl,BT];simp
theorem inV2 (c a b:Nat):NK (NV c) [NV a,NV b]=decide (c=a\/c=b):=by
 rw [show [NV a,NV b]=AO [a,b] from rfl,BT];simp
theorem inV3 (c a b d:Nat):NK (NV c) [NV a,NV b,NV d]=decide (c=a\/c=b\/c=d):=by
 rw [show [NV a,NV b,NV d]=AO [a,b,d] from rfl,BT];simp
theorem inV4 (c a b d e:Nat):NK (NV c) [NV a,NV b,NV d,NV e]=decide (c=a\/c=b\/c=d\/c=e):=by
 rw [show [NV a,NV b,NV d,NV e]=AO [a,b,d,e] from rfl,BT];simp
end Wd
namespace Wd
open PySem PySem.Spec PyProof.Rows L2
theorem VT:V.non=oV none:=rfl
theorem BL {a b:Nat} (h:Nat.ble a b=true):a<=b:=Nat.le_of_ble_eq_true h
theorem Tn {W:Nat->L2.St->Hp->Prop} {m:Nat} {B:(L2.St->Hp->Prop)->Prop} (h:B (fun σ' H'=>Bk (∃ m',m'<m/\W m' σ' H'))):∃ N:L2.St->Hp->Prop,(∀ σ' H',N σ' H'->∃ m',m'<m/\W m' σ' H')/\B N:=⟨_,fun _ _ z=>z,h⟩
theorem SY {Q:VK} {i:Int} {k:Nat} {H:Hp} (h:Q (NV k) H) (e:(k:Int)=i):Q (.int i) H:=by
 subst e
 exact h
end Wd
end
local macro_rules | `(tactic| walk_at $s:str)=>match s.getString.toList with
 | '?'::r=>let d:=Lean.mkIdent (.mkSimple (String.ofList r));`(tactic| (refine L2.ite2 (fun $d=>?_) (fun $d=>?_) <;> (try simp only [decide_eq_true_eq,Bool.not_eq_true',Bool.not_eq_true,decide_eq_false_iff_not,L2.V.int.injEq,Int.natCast_inj,Decidable.not_not,Bool.not_eq_false',Bool.not_eq_eq_eq_not,Bool.not_true,Bool.not_false,Int.ofNat_lt,Int.ofNat_le,Int.not_lt,Int.not_le,Wd.nVs_len,Wd.eq_oV,Wd.inV1,Wd.inV2,Wd.inV3,Wd.inV4,Bool.false_eq_true,if_false,if_true,not_or] at $d:ident)))
 | _=>Lean.Macro.throwUnsupported
section
namespace Wd
open PySem PySem.Spec PyProof.Rows L2
section
variable {X:Cx} {e:Expr} {te:TE} {pos p1 p2 p3:Pos}
noncomputable def Uu (K:PySem.W.Frag) (te:TE):TE:=fun σ H Q=>te σ H fun x H1=>∃ a xs,x=.ref a/\SqL K H1 a xs/\∀ p,H1 p=none->Q (.ref p) (upd H1 p (.lst xs.reverse))
theorem QE {kk:Nat} (he:PE X e te):PE X (.Subscript e (.Slice none none (some (.UnaryOp .USub (.Constant (.int 1) kk p1) p2)) p3) pos) (Uu X.K te):=by
 intro pins s σ H Q I h
 refine Subscript_ (B7 (he pins s σ H _ I h) fun v s1 ⟨x,H1,I1,r1,q1⟩=>?_)
 refine wpAny_Slice ?_
 rw [evalPart_none]
 refine wpAny_pure ?_
 refine wpAny_pure ?_
 have hst:PO X (some (.UnaryOp .USub (.Constant (.int 1) kk p1) p2)) (SE (VU _ _)):=CC (BQ Av A7)
 refine B7 (hst pins s1 σ H1 (fun o H'=>o=some (-1)/\H'=H1) I1 ⟨_,rfl,_,rfl,rfl,rfl⟩) fun vk s2 ⟨o,H2,I2,pk,eo,eH⟩=>?_
 subst eo eH
 obtain ⟨a,xs,rfl,hx,q⟩:=q1
 cases r1
 have I4:Inv X pins σ H2 { s2 with heap:=s2.heap.push { cls:=.type "slice",data:=.fields #[.none,.none,vk] } }:=I2.kept (t':=s2.toks) fun b ob q=>Heap.get?_push_of_some _ q
 obtain ⟨its,r,ht,hz⟩:=I4.list hx
 have hlen:=r.length
 show wpAny (model X.prog X.w) X.A (subscriptTail e (.Slice none none (some (.UnaryOp .USub (.Constant (.int 1) kk p1) p2)) p3) (.ref a) (.ref s2.heap.objs.size)) (EP X pins σ Q) X.xe { s2 with heap:=s2.heap.push { cls:=.type "slice",data:=.fields #[.none,.none,vk] } }
 refine tail_any (ops:=[.ref a,.ref s2.heap.objs.size]) ht.isList.typeIs slot_list_getitem.lookup ?_ (by with_unfolding_all rfl)
 refine wpAny_getItem_list_slice ht.isList (Heap.IsSliceOf.new ..) .none .none pk (by simp) ?_ (by rw [List.size_toArray] <;> omega)
 rw [PySem.W.krv_pick]
 refine ⟨.ref _,_,I4.laid (t':=s2.toks) (o:=.lst xs.reverse) (fun b ob q=>Heap.get?_push_of_some _ q) (Nat.le_refl _) ?_,rfl,q _ (I4.hok.fresh (Nat.le_refl _))⟩
 refine ⟨by rw [List.length_reverse];exact hz,its.reverse,0,r.reverse,?_⟩
 exact Heap.get?_push_size _ rfl
end
structure PairsAt (H:Hp) (ts:List Addr) (prs:List (Nat×Nat)):Prop where
 len:ts.length=prs.length
 get:∀ (i:Nat) (t:Addr) (x:Nat×Nat),ts[i]?=some t->prs[i]?=some x->H t=some (.tup [NV x.1,NV x.2])
theorem PairsAt.mono {H H':Hp} {ts:List Addr} {prs:List (Nat×Nat)} (p:PairsAt H ts prs) (k:∀ t xs,H t=some (.tup xs)->H' t=some (.tup xs)):PairsAt H' ts prs:=⟨p.len,fun i t x h1 h2=>k _ _ (p.get i t x h1 h2)⟩
theorem PairsAt.same {H H':Hp} {ts:List Addr} {prs:List (Nat×Nat)} (p:PairsAt H ts prs) (s:Same H H'):PairsAt H' ts prs:=p.mono fun t xs h=>s _ _ h
theorem PairsAt.nil (H:Hp):PairsAt H [] []:=⟨rfl,fun i t x h=>by simp at h⟩
theorem PairsAt.snoc {H:Hp} {ts:List Addr} {prs:List (Nat×Nat)} {t:Addr} {x:Nat×Nat} (p:PairsAt H ts prs) (h:H t=some (.tup [NV x.1,NV x.2])):PairsAt H (ts++[t]) (prs++[x]):=by
 refine ⟨by simp [p.len],fun i u y h1 h2=>?_⟩
 by_cases e:i<ts.length
 .rw [List.getElem?_append_left e] at h1
  rw [List.getElem?_append_left (by rw [<-p.len];exact e)] at h2
  exact p.get i u y h1 h2
 .rw [List.getElem?_append_right (by omega)] at h1
  rw [List.getElem?_append_right (by rw [<-p.len];omega),<-p.len] at h2
  cases hi:i - ts.length with
  | zero =>
   rw [hi] at h1 h2
   cases h1
   cases h2
   exact h
  | succ j =>
   rw [hi] at h1
   simp at h1
theorem PairsAt.lst {H:Hp} {ts:List Addr} {prs:List (Nat×Nat)} {a:Addr} {xs:List V} {o:HO} (p:PairsAt H ts prs) (h:H a=some (.lst xs)):PairsAt (upd H a o) ts prs:=p.mono fun t ys e=>by rw [AQ (AW e h nofun)];exact e
section
variable {X:Cx}
theorem CallR.mono {f:Value} {r r':List V->Hp->VK->Prop} (h:CallR X f r) (k:∀ vs H Q,r' vs H Q->r vs H Q):CallR X f r':=fun pins s σ H xs us Q I rv q=>h pins s σ H xs us Q I rv (k _ _ _ q)
theorem Rz (m n:Nat):(if (n:Int) > (m:Int) then (n:Int) else (m:Int))=((max m n:Nat):Int):=by
 split <;> omega
theorem KP (hc:X.calm=true):CallR X (.builtin "max") (fun xs H Q=>∃ m n:Nat,xs=[NV m,NV n]/\Q (NV (max m n)) H) :=
 CallR.mono (Pu hc) fun vs H Q ⟨m,n,e,q⟩=>⟨m,n,e,by rw [Rz];exact q⟩
theorem MM (l:List Nat):AO l=(l.map fun (n:Nat)=>(n:Int)).map V.int:=by
 unfold AO
 rw [List.map_map]
 rfl
theorem RT (hc:X.calm=true):CallR X (.builtin "max") (fun vs H Q=>∃ (a:Addr) (l:List Nat),vs=[V.ref a]/\SqL X.K H a (AO l)/\0<l.length/\∀ m:Nat,m∈l->(∀ y∈l,y<=m)->Q (NV m) H) :=
 CallR.mono (Sg hc) fun vs H Q ⟨a,l,e,hs,hl,q⟩=>by
  refine ⟨a,l.map fun (n:Nat)=>(n:Int),e,by rw [<-MM];exact hs,by simpa using hl,fun m hm hy=>?_⟩
  obtain ⟨k,hk,rfl⟩:=List.mem_map.mp hm
  refine q k hk fun y hy'=>?_
  have:=hy _ (List.mem_map.mpr ⟨y,hy',rfl⟩)
  omega
noncomputable def gP (H:Hp) (t:Addr):Nat×Nat:=match H t with
 | some (.tup [.int a,.int b])=>(a.toNat,b.toNat)
 | _=>(0,0)
theorem Qz {H:Hp} {t:Addr} {x:Nat×Nat} (h:H t=some (.tup [NV x.1,NV x.2])):gP H t=x:=by
 unfold gP
 rw [h]
 rfl
theorem PairsAt.map {H:Hp} {ts:List Addr} {ps:List (Nat×Nat)} (p:PairsAt H ts ps):ps=ts.map (gP H):=by
 refine List.ext_getElem? fun i=>?_
 rw [List.getElem?_map]
 cases ht:ts[i]? with
 | none =>
  rw [List.getElem?_eq_none_iff] at ht
  rw [List.getElem?_eq_none (by rw [<-p.len];exact ht)]
  rfl
 | some t =>
  have hl:=(ZB.mp ht).1
  have hl2:i<ps.length:=by rw [<-p.len];exact hl
  have hx:ps[i]?=some ps[i]:=ZA hl2
  rw [hx]
  show _=some (gP H t)
  rw [Qz (p.get i t _ ht hx)]
theorem PairsAt.of {H:Hp} {ts:List Addr} (h:∀ t∈ts,∃ x:Nat×Nat,H t=some (.tup [NV x.1,NV x.2])):PairsAt H ts (ts.map (gP H)):=by
 refine ⟨by simp,fun i t x h1 h2=>?_⟩
 obtain ⟨y,hy⟩:=h t (ZD h1)
 rw [List.getElem?_map,h1] at h2
 have h2:gP H t=x:=ZC h2
 rw [Qz hy] at h2
 rw [<-h2]
 exact hy
theorem PairsAt.ex {H:Hp} {ts:List Addr} {ps:List (Nat×Nat)} (p:PairsAt H ts ps):∀ t∈ts,∃ x:Nat×Nat,H t=some (.tup [NV x.1,NV x.2]):=fun t ht=>by
 obtain ⟨i,hi⟩:=List.mem_iff_getElem?.mp ht
 have hl:=(ZB.mp hi).1
 have hl2:i<ps.length:=by rw [<-p.len];exact hl
 exact ⟨ps[i],p.get i t _ hi (ZA hl2)⟩
noncomputable def R8 (K:PySem.W.Frag):List V->Hp->VK->Prop:=fun vs H Q=>∃ (a:Addr) (ts:List Addr) (ps:List (Nat×Nat)),vs=[V.ref a]/\SqL K H a (ts.map V.ref)/\PairsAt H ts ps /\
 ∀ (ts':List Addr) (ps':List (Nat×Nat)) (p:Addr),ps'.Perm ps->ps'.Pairwise (fun x y=>x.1<=y.1)->PairsAt H ts' ps'->H p=none->Q (.ref p) (upd H p (.lst (ts'.map V.ref)))
theorem Kt:∀ {ts:List Addr} {us:List Value},Vals (ts.map V.ref) us->us=ts.map Value.ref
 | [],us,r=>by cases r;rfl
 | t::ts,us,r=>by
  cases r with
  | cons r1 r2 =>
   rw [Kt r2]
   cases r1
   rfl
theorem Kl:∀ (ts:List Addr),Vals (ts.map V.ref) (ts.map Value.ref)
 | []=>.nil
 | t::ts=>.cons rfl (Kl ts)
theorem MN {pins:List (Addr×Obj)} {σ:L2.St} {H:Hp} {s:Shared} {t:Addr} {x:Nat×Nat} (I:L2.Inv X pins σ H s) (h:H t=some (.tup [NV x.1,NV x.2])) :
  ∃ o t1 t2 n,s.heap.get? t=some o/\o.cls=.type "tuple" /\ o.data=.seq #[Value.int x.1 t1,Value.int x.2 t2] n:=by
 obtain ⟨_,its,rv,o,ho,hc,n,hd⟩:=I.hok t _ h
 obtain ⟨u,v,rfl,⟨t1,rfl⟩,⟨t2,rfl⟩⟩:=Vals.two rv
 exact ⟨o,t1,t2,n,ho,hc,hd⟩
theorem NS:CallR X (.builtin "sorted") (R8 X.K):=by
 intro pins s σ H vs us Q I r h
 obtain ⟨a,ts,ps,rfl,hs,hP,q⟩:=h
 obtain ⟨its,rv,hl,hz⟩:=I.list hs
 rw [Vals.ref1 r]
 have e:=Kt rv
 subst e
 have key:∀ t∈ts,∃ x:Nat×Nat,H t=some (.tup [NV x.1,NV x.2])/\PyProof.Rows.G.tupKeyC s.heap (fun _=>false) (.ref t)=some [Sum.inl (x.1:Int),Sum.inl (x.2:Int)]:=fun t ht=>by
  obtain ⟨x,hx⟩:=hP.ex t ht
  obtain ⟨o,t1,t2,n,ho,hc,hd⟩:=MN I hx
  refine ⟨x,hx,?_⟩
  unfold PyProof.Rows.G.tupKeyC
  have e1:PyProof.Rows.G.isTupObj s.heap (.ref t)=true:=by simp [PyProof.Rows.G.isTupObj,ho,hc]
  rw [if_pos e1]
  simp only [PyProof.Rows.tupKey,ho,hd]
  rfl
 have tups:∀ l:List Addr,(∀ t∈l,t∈ts)->∃ fs,PyProof.Rows.TupsOf s.heap (fun _=>false) (l.map Value.ref) fs:=by
  intro l
  induction l with
  | nil=>intro _;exact ⟨[],.nil⟩
  | cons t l ih =>
   intro hm
   obtain ⟨fs,hfs⟩:=ih fun u hu=>hm u (.tail _ hu)
   obtain ⟨x,hx⟩:=hP.ex t (hm t (.head _))
   obtain ⟨o,t1,t2,n,ho,hc,hd⟩:=MN I hx
   exact ⟨Value.int x.1 t1::fs,.cons ⟨t,o,_,n,rfl,ho,hc,hd,rfl,fun _=>⟨_,_,rfl⟩,fun z=>by cases z⟩ hfs⟩
 obtain ⟨fs,hfs⟩:=tups ts fun _ h=>h
 refine PyProof.Rows.G.sorted_tups (shape:=fun _=>false) hl.isList hfs (fun v hv=>?_) (by simpa using hz) fun st' hp hso _=>?_
 .obtain ⟨t,ht,rfl⟩:=List.mem_map.mp hv
  obtain ⟨x,_,hk⟩:=key t ht
  exact ⟨_,hk⟩
 .have hL:(arrOf st').toList.Perm ((ts.map Value.ref).zip (ts.map Value.ref)):=by rw [<-pairsOf_toList];exact Array.perm_iff_toList_perm.mp hp
  have hzz:(ts.map Value.ref).zip (ts.map Value.ref)=ts.map fun t=>(Value.ref t,Value.ref t):=by
   rw [List.zip_map']
  rw [hzz] at hL
  let addr:Keyed->Addr:=fun p=>match p.1 with
   | .ref t=>t
   | _=>0
  let ts':List Addr:=(arrOf st').toList.map addr
  have hd:(arrOf st').toList=ts'.map fun t=>(Value.ref t,Value.ref t):=by
   show _=((arrOf st').toList.map addr).map fun t=>(Value.ref t,Value.ref t)
   rw [List.map_map]
   conv=>lhs;rw [<-List.map_id (arrOf st').toList]
   refine List.map_congr_left fun p hp=>?_
   obtain ⟨t,_,rfl⟩:=List.mem_map.mp (hL.mem_iff.mp hp)
   rfl
  have hpt:ts'.Perm ts:=by
   have:=hL.map addr
   rw [List.map_map,show (addr ∘ fun t=>(Value.ref t,Value.ref t))=id from rfl,List.map_id] at this
   exact this
  have hPA:PairsAt H ts' (ts'.map (gP H)):=PairsAt.of fun t ht=>hP.ex t (hpt.mem_iff.mp ht)
  have hout:((arrOf st').map (·.2)).toList=ts'.map Value.ref:=by
   rw [Array.toList_map,hd,List.map_map]
   rfl
  have hKK:∀ (i:Nat) (t:Addr),ts'[i]?=some t->KK (PyProof.Rows.G.tupKindC s.heap fun _=>false) (arrOf st') i=[Sum.inl ((gP H t).1:Int),Sum.inl ((gP H t).2:Int)]:=fun i t ht=>by
   unfold KK
   have e1:(arrOf st')[i]?=some (Value.ref t,Value.ref t):=by
    rw [<-Array.getElem?_toList,hd,List.getElem?_map,ht]
    rfl
   rw [e1]
   obtain ⟨x,hx,hk⟩:=key t (hpt.mem_iff.mp (ZD ht))
   show (PyProof.Rows.G.tupKeyC s.heap (fun _=>false) (.ref t)).getD _=_
   rw [hk,Qz hx]
   rfl
  have hlen':ts'.length=ts.length:=hpt.length_eq
  have hsort:(ts'.map (gP H)).Pairwise (fun x y=>x.1<=y.1):=by
   rw [List.pairwise_map,List.pairwise_iff_getElem]
   intro i j hi hj hij
   have h1:=hso i j (Nat.le_of_lt hij) (by rw [pairsOf_size,ZE,<-hlen'];exact hj)
   rw [hKK i _ (ZA hi),hKK j _ (ZA hj)] at h1
   have h2:lexLt itemOrd [Sum.inl ((gP H ts'[j]).1:Int),Sum.inl ((gP H ts'[j]).2:Int)] [Sum.inl ((gP H ts'[i]).1:Int),Sum.inl ((gP H ts'[i]).2:Int)]=false:=h1
   rw [lex_cons,Bool.or_eq_false_iff] at h2
   have h3:decide (((gP H ts'[j]).1:Int)<((gP H ts'[i]).1:Int))=false:=h2.1
   have h4:=of_decide_eq_false h3
   omega
  obtain ⟨ep,he'⟩:=PyProof.Rows.sortedAll_at s.heap (ts.map Value.ref) ((arrOf st').map (·.2))
  have hzl:(ts'.map V.ref).length<=sizeLine:=by rw [ZE,hlen'];simpa using hz
  exact ⟨.ref _,upd H (s.heap.objs.size+1) (.lst (ts'.map V.ref)),I.laid (t':=s.toks) (fun _ _=>PyProof.Rows.sortedAll_old) (Nat.le_succ _) ⟨hzl,((arrOf st').map (·.2)).toList,ep,by rw [hout];exact Kl ts',he'⟩,rfl,
   q ts' _ _ (by rw [hP.map];exact hpt.map _) hsort hPA (I.hok.fresh (Nat.le_succ _))⟩
theorem IS:∀ (xs:List V) (us:List Value),xs.length=us.length->(∀ (i:Nat) (x:V) (u:Value),xs[i]?=some x->us[i]?=some u->RelV x u)->Vals xs us
 | [],[],_,_=>.nil
 | [],_::_,h,_=>by simp at h
 | _::_,[],h,_=>by simp at h
 | x::xs,u::us,h,k=>.cons (k 0 x u rfl rfl) (IS xs us (by simpa using h) fun i y v h1 h2=>k (i+1) y v h1 h2)
noncomputable def Vb (te:TE):TE:=fun σ H Q=>te σ H fun x H1=>∃ n:Nat,x=NV n/\n<=100000/\∀ p,H1 p=none->Q (.ref p) (upd H1 p (.lst (AO (List.range n))))
theorem LU {e:Expr} {te:TE} {p1 p2 pos1 pos2:Pos} (hc:X.calm=true) (hg:Gl X "list") (hm:X.mg "list" = none) (hg2:Gl X "range") (hm2:X.mg "range" = none) (he:PE X e te)
  (hs:starEach [e] X.env=[(false,eval e X.env)]:=by rfl) (hs2:starEach [.Call (.Name "range" p2) [e] [] pos2] X.env=[(false,eval (.Call (.Name "range" p2) [e] [] pos2) X.env)]:=by rfl) :
  PE X (.Call (.Name "list" p1) [.Call (.Name "range" p2) [e] [] pos2] [] pos1) (Vb te):=by
 intro pins s σ H Q I h
 refine wpAny_Call_Name_kw (Ff I hg hm boot_list ?_)
 refine PyProof.Rows.callWith_type1 ?_ (by rw [hs2];rfl) (by rfl)
 rw [hs2]
 show wpAny _ _ (spliced ((false,eval (.Call (.Name "range" p2) [e] [] pos2) X.env)::backTo pos1 [])) _ _ s
 refine Calls.spliced_cons ?_
 refine Call_ (Ff I hg2 hm2 boot_range (PyProof.Rows.callWith_type1 (B7 ((A0 he A4 hs) pos2 pins s σ H (fun vs H1=>match vs with
  | [x]=>∃ n:Nat,x=NV n/\n<=100000/\∀ p,H1 p=none->Q (.ref p) (upd H1 p (.lst (AO (List.range n))))
  | _=>False) I h) fun us s1 ⟨vs,H1,I1,r1,q1⟩=>?_) hs rfl))
 match vs,q1 with
 | [x],q1 =>
  obtain ⟨n,rfl,hn,q⟩:=q1
  obtain ⟨u,rfl,⟨t,rfl⟩⟩:=Vals.one r1
  refine call_range_1 ?_
  refine Calls.spliced_nil ?_
  have I2:L2.Inv X pins σ H1 { s1 with heap:=s1.heap.push { cls:=.type "range",data:=.fields #[.int 0 s1.toks,.int (n:Int) t,.int 1 (s1.toks+1)] },toks:=s1.toks+1+1 }:=I1.kept fun b o e=>Heap.get?_push_of_some _ e
  refine call_list_range (I1.ok.hd hc) (IsRange.new ..) (small_one (by omega) (by omega) (by omega) (by omega)) (n:=n) ?_ (by omega) fun h' tk acc' c' hk hS hit=>?_
  .rw [rangeSize_one];split <;> omega
  have hv:Vals (AO (List.range n)) acc'.toList:=by
   refine IS _ _ (by rw [nVs_len,List.length_range,Array.length_toList,hit.1]) fun i x u hx hu=>?_
   obtain ⟨k,hk',rfl⟩:=BV hx
   have hi:=(ZB.mp hk').1
   rw [List.length_range] at hi
   rw [List.getElem?_range hi] at hk'
   cases hk'
   obtain ⟨t',e'⟩:=hit.2 i u (by rw [<-Array.getElem?_toList];exact hu)
   refine ⟨t',?_⟩
   rw [e']
   congr 1
   omega
  refine ⟨.ref _,upd H1 _ (.lst (AO (List.range n))),I2.laid hk (Nat.le_refl _) ⟨by rw [nVs_len,List.length_range];exact DT hn,acc'.toList,c',hv,?_⟩,rfl,q _ (I2.hok.fresh (Nat.le_refl _))⟩
  rw [hS]
theorem Eo {K:PySem.W.Frag} (h:X.K=K):VP X (UH K):=h▸Rr
theorem A9 {K:PySem.W.Frag} (h:X.K=K):Tr X (Tv K):=h▸RJ
theorem An {K:PySem.W.Frag} (h:X.K=K):Tr X (UI K):=h▸T8
noncomputable def Ta (K:PySem.W.Frag):List V->Hp->VK->Prop:=fun xs H Q=>∃ p ys,xs=[.ref p]/\SqL K H p ys/\∀ l,H l=none->Q (.ref l) (upd H l (.tup ys))
theorem Mx {K:PySem.W.Frag} (h:X.K=K):CallR X (.type "tuple") (Ta K):=by
 subst h
 exact CallR.mono KH fun vs H Q ⟨p,ys,e,hs,q⟩=>⟨p,ys,e,.inl ⟨hs,q⟩⟩
noncomputable def VL (K:PySem.W.Frag):List V->Hp->VK->Prop:=fun xs H Q=>∃ p ys,xs=[.ref p]/\(SqL K H p ys\/SqT K H p ys)/\Q (.int ys.length) H
theorem AK {K:PySem.W.Frag} (h:X.K=K):CallR X (.builtin "len") (VL K):=h▸LP
theorem AI {K:PySem.W.Frag} {e:Expr} {ta:TE} {f:Str} {pos:Pos} (h:X.K=K) (he:PE X e ta) (hb:attributeBase e f X.env (eval e X.env)=eval e X.env):PE X (.Attribute e f pos) (U0 K ta f):=h▸Sa he hb
theorem J2 {K:PySem.W.Frag} {ts:List Expr} {t:SJ} {kk n:Nat} {pos:Pos} (h:X.K=K) (hc:X.calm=true) (hb:Ts X ts t) (hn:(assignEach ts X.env).length=n:=by rfl) (hst:(assignEach ts X.env).findIdx? (·.1)=none:=by rfl):PG X (.Tuple ts kk pos) (UR K n t):=h▸Sc hc hb hn hst
end
end Wd
end
section
namespace Wd
noncomputable def Ea (n:Nat):Bool:=[14,15,16,17].contains n
noncomputable def Bj (n:Nat):Bool:=Ea n || [18,9].contains n
noncomputable def BA (n:Nat):Bool:=[11,12,13].contains n || Dr.isIsoEdge n
noncomputable def Ci (n:Nat):Option Nat:=if n=0 then some 0 else if [1,3,4].contains n then some 1 else none
noncomputable def Co (c:Nat):Bool:=BA c || [0,1,3,4].contains c
theorem Ec (n:Nat):Dr.side n=n % 2:=by
 unfold Dr.side
 by_cases h:n % 2=0
 .rw [if_pos h,h];rfl
 .rw [if_neg h,show n % 2=1 by lia];rfl
theorem OU (c:Nat):BA c=true↔c=11\/c=12\/c=13\/c=19\/c=20\/c=21\/c=22:=by
 unfold BA Dr.isIsoEdge Dr.isIso Dr.cLRI Dr.cRLI Dr.cFSI Dr.cPDI
 simp only [Bool.or_eq_true,beq_iff_eq,List.contains_eq_mem,List.mem_cons,List.not_mem_nil,or_false,decide_eq_true_eq]
 constructor
 .rintro ((h | h | h) | ((h | h | h) | h)) <;> simp [h]
 .rintro (h | h | h | h | h | h | h) <;> simp [h]
theorem J5 (c:Nat):Co c=true↔c=0\/c=1\/c=3\/c=4\/BA c=true:=by
 simp [Co]
 constructor
 .rintro (h | h)
  .exact .inr (.inr (.inr (.inr h)))
  .rcases h with h | h | h | h <;> simp [h]
 .rintro (h | h | h | h | h) <;> simp [h]
theorem Db {c:Nat} (h:Co c=true):Dr.neutral c=BA c:=by
 rcases (J5 c).mp h with h | h | h | h | h
 .subst h;rfl
 .subst h;rfl
 .subst h;rfl
 .subst h;rfl
 .rw [h]
  rcases (OU c).mp h with h | h | h | h | h | h | h <;> subst h <;> rfl
theorem Hz {c:Nat} (h:Co c=true) (n:¬BA c=true):∃ x,Ci c=some x/\Dr.dirOf c=some x/\x<2:=by
 rcases (J5 c).mp h with h | h | h | h | h
 .subst h;exact ⟨0,rfl,rfl,by decide⟩
 .subst h;exact ⟨1,rfl,rfl,by decide⟩
 .subst h;exact ⟨1,rfl,rfl,by decide⟩
 .subst h;exact ⟨1,rfl,rfl,by decide⟩
 .exact absurd h n
theorem NC {c:Nat} (h:BA c=true):Ci c=none/\Dr.dirOf c=none:=by
 rcases (OU c).mp h with h | h | h | h | h | h | h <;> subst h <;> exact ⟨rfl,rfl⟩
theorem Ly {c:Nat} (h:Co c=true):Ci c=Dr.dirOf c:=by
 by_cases n:BA c=true
 .rw [(NC n).1,(NC n).2]
 .obtain ⟨x,h1,h2,_⟩:=Hz h n
  rw [h1,h2]
theorem Mz (bh:Nat):∀ (seg rest:List Nat),(∀ c∈seg,Co c=true/\BA c=true)->Dr.nextDir bh (seg++rest)=Dr.nextDir bh rest
 | [],_,_=>rfl
 | c::seg,rest,h=>by
  have hc:=h c (.head _)
  show (if Dr.neutral c=true then Dr.nextDir bh (seg++rest) else _)=_
  rw [Db hc.1,if_pos hc.2]
  exact Mz bh seg rest fun x hx=>h x (.tail _ hx)
theorem HV (e bh p:Nat):∀ (seg rest:List Nat),(∀ c∈seg,Co c=true/\BA c=true) ->
  Dr.neutrals e bh p (seg++rest)=List.replicate seg.length (if Dr.nextDir bh rest=p then p else e)++Dr.neutrals e bh p rest
 | [],_,_=>rfl
 | c::seg,rest,h=>by
  have hc:=h c (.head _)
  have ht:∀ x∈seg,Co x=true/\BA x=true:=fun x hx=>h x (.tail _ hx)
  show (if Dr.neutral c=true then (if Dr.nextDir bh (seg++rest)=p then p else e)::Dr.neutrals e bh p (seg++rest) else _)=_
  rw [Db hc.1,if_pos hc.2,Mz bh seg rest ht,HV e bh p seg rest ht]
  rfl
theorem N8 (e bh p:Nat) {c x:Nat} (r:List Nat) (h:Co c=true) (n:¬BA c=true) (hx:Dr.dirOf c=some x):Dr.neutrals e bh p (c::r)=c::Dr.neutrals e bh x r:=by
 show (if Dr.neutral c=true then _ else c::Dr.neutrals e bh ((Dr.dirOf c).getD p) r)=_
 rw [Db h,if_neg n,hx]
 rfl
theorem Rq (bh:Nat) {c x:Nat} (r:List Nat) (h:Co c=true) (n:¬BA c=true) (hx:Dr.dirOf c=some x):Dr.nextDir bh (c::r)=x:=by
 show (if Dr.neutral c=true then _ else (Dr.dirOf c).getD bh)=_
 rw [Db h,if_neg n,hx]
 rfl
theorem Da (e bh:Nat):∀ (p:Nat) (l:List Nat),(Dr.neutrals e bh p l).length=l.length
 | _,[]=>rfl
 | p,c::r=>by
  unfold Dr.neutrals
  split
  .exact congrArg (·+1) (Da e bh p r)
  .exact congrArg (·+1) (Da e bh _ r)
noncomputable def DP (l:List Nat) (i:Nat):Nat:=i+((l.drop i).takeWhile BA).length
theorem Pp {l:List Nat} {i c:Nat} (h:l[i]?=some c) (n:BA c=true):DP l i=DP l (i+1):=by
 have hi:=(ZB.mp h).1
 have e:l.drop i=c::l.drop (i+1):=by
  rw [List.drop_eq_getElem_cons hi]
  congr 1
  exact (ZB.mp h).2
 unfold DP
 rw [e,List.takeWhile_cons,if_pos n,List.length_cons]
 lia
theorem PR {l:List Nat} {i c:Nat} (h:l[i]?=some c) (n:¬BA c=true):DP l i=i:=by
 have hi:=(ZB.mp h).1
 have e:l.drop i=c::l.drop (i+1):=by
  rw [List.drop_eq_getElem_cons hi]
  congr 1
  exact (ZB.mp h).2
 unfold DP
 rw [e,List.takeWhile_cons,if_neg n]
 rfl
theorem Na {l:List Nat} {i:Nat} (h:l.length<=i):DP l i=i:=by
 unfold DP
 rw [List.drop_eq_nil_of_le h]
 rfl
end Wd
end
section
namespace Wd
section
variable {σ:Type}
noncomputable def EK (f:σ->Nat->Option Nat->Nat×σ):σ->List Nat->List Nat
 | _,[]=>[]
 | s,c::r=>(f s c r.head?).1::EK f (f s c r.head?).2 r
noncomputable def Bu (f:σ->Nat->Option Nat->Nat×σ):σ->List Nat->Nat->σ
 | s,_,0=>s
 | s,[],_+1=>s
 | s,c::r,i+1=>Bu f (f s c r.head?).2 r i
variable {f:σ->Nat->Option Nat->Nat×σ}
theorem Fp (s:σ) (l:List Nat):Bu f s l 0=s:=by cases l <;> rfl
theorem Az:∀ (s:σ) (l:List Nat),(EK f s l).length=l.length
 | _,[]=>rfl
 | s,c::r=>congrArg (·+1) (Az _ r)
theorem Eh:∀ (s:σ) (l:List Nat) (i c:Nat),l[i]?=some c->(EK f s l)[i]?=some (f (Bu f s l i) c l[i+1]?).1
 | _,[],i,c,h=>by simp at h
 | s,a::r,0,c,h=>by
  have e:a=c:=ZC h
  subst e
  show some (f s a r.head?).1=some (f s a r[0]?).1
  rw [List.head?_eq_getElem?]
 | s,a::r,i+1,c,h=>Eh _ r i c h
theorem De:∀ (s:σ) (l:List Nat) (i c:Nat),l[i]?=some c->Bu f s l (i+1)=(f (Bu f s l i) c l[i+1]?).2
 | _,[],i,c,h=>by simp at h
 | s,a::r,0,c,h=>by
  have e:a=c:=ZC h
  subst e
  show Bu f (f s a r.head?).2 r 0=(f s a r[0]?).2
  rw [List.head?_eq_getElem?]
  cases r <;> rfl
 | s,a::r,i+1,c,h=>De _ r i c h
noncomputable def DW (f:σ->Nat->Option Nat->Nat×σ) (s:σ) (l:List Nat) (i:Nat):List Nat:=(EK f s l).take i++l.drop i
theorem Gk (s:σ) (l:List Nat):DW f s l l.length=EK f s l:=by
 unfold DW
 rw [List.drop_length,List.append_nil,<-Az (f:=f) s l,List.take_length]
theorem EB (s:σ) (l:List Nat) {i:Nat} (h:i<=l.length):(DW f s l i).length=l.length:=by
 unfold DW
 rw [List.length_append,List.length_take,List.length_drop,Az]
 lia
theorem EZ (s:σ) (l:List Nat) {i j:Nat} (h:i<=l.length) (hj:i<=j):(DW f s l i)[j]?=l[j]?:=by
 unfold DW
 have e:((EK f s l).take i).length=i:=by rw [List.length_take,Az];lia
 rw [List.getElem?_append_right (by lia),e,List.getElem?_drop]
 congr 1
 lia
theorem GO (s:σ) (l:List Nat) {i j:Nat} (h:i<=l.length) (hj:j<i):(DW f s l i)[j]?=(EK f s l)[j]?:=by
 unfold DW
 have e:((EK f s l).take i).length=i:=by rw [List.length_take,Az];lia
 rw [List.getElem?_append_left (by lia),List.getElem?_take,if_pos hj]
theorem FE (s:σ) (l:List Nat) {i c:Nat} (h:l[i]?=some c):(DW f s l i).set i (f (Bu f s l i) c l[i+1]?).1=DW f s l (i+1):=by
 have hi:i<l.length:=(ZB.mp h).1
 refine List.ext_getElem? fun j=>?_
 by_cases e:j=i
 .subst e
  rw [List.getElem?_set_self (by rw [EB s l (by lia)];exact hi),GO s l hi (Nat.lt_succ_self _),Eh s l j c h]
 .rw [List.getElem?_set_ne (fun q=>e q.symm)]
  by_cases k:j<i
  .rw [GO s l (by lia) k,GO s l hi (by lia)]
  .rw [EZ s l (by lia) (by lia),EZ s l hi (by lia)]
theorem Bw (s:σ) (l:List Nat) {i c:Nat} (h:l[i]?=some c) (e:(f (Bu f s l i) c l[i+1]?).1=c):DW f s l i=DW f s l (i+1):=by
 have hi:i<l.length:=(ZB.mp h).1
 rw [<-FE s l h,e]
 refine (List.ext_getElem? fun j=>?_)
 by_cases q:j=i
 .subst q
  rw [List.getElem?_set_self (by rw [EB s l (by lia)];exact hi),EZ s l (by lia) (Nat.le_refl _),h]
 .rw [List.getElem?_set_ne (fun z=>q z.symm)]
end
open Dr
noncomputable def f1 (p c:Nat) (_:Option Nat):Nat×Nat:=let d:=if c=cNSM then (if isIsoEdge p=true then cON else p) else c;(d,d)
noncomputable def F1 (strong_ new:Nat) (p c:Nat) (_:Option Nat):Nat×Nat:=(if c=cEN/\p=strong_ then new else c,if strong c=true then c else p)
noncomputable def f4 (p c:Nat) (z:Option Nat):Nat×Nat :=
 let d:=if (c=cES\/c=cCS)/\p=cEN/\z=some cEN then cEN else if c=cCS/\p=cAN/\z=some cAN then cAN else c
 (d,d)
noncomputable def f5 (n:Bool) (c:Nat) (_:Option Nat):Nat×Bool:=if c=cET/\n=true then (cEN,true) else (c,c==cEN)
theorem Q3 {p c:Nat} {z:Option Nat} (h:c=8) (b:isIsoEdge p=true):(f1 p c z).1=13:=by subst h;simp [f1,b,cNSM,cON]
theorem Q9 {p c:Nat} {z:Option Nat} (h:c=8) (b:¬isIsoEdge p=true):(f1 p c z).1=p:=by subst h;simp [f1,b,cNSM,cON]
theorem SF {p c:Nat} {z:Option Nat} (h:¬c=8):(f1 p c z).1=c:=by simp [f1,cNSM,h]
theorem Lp (p c:Nat) (z:Option Nat):(f1 p c z).1=(f1 p c z).2:=rfl
theorem Mc {st new p c:Nat} {z:Option Nat} (h:c=3) (b:p=st):(F1 st new p c z).1=new:=by simp [F1,cEN,h,b]
theorem J4 {st new p c:Nat} {z:Option Nat} (h:¬(c=3/\p=st)):(F1 st new p c z).1=c:=by
 show (if c=3/\p=st then new else c)=c
 rw [if_neg h]
theorem RO {st new p c:Nat} {z:Option Nat} (h:strong c=true):(F1 st new p c z).2=c:=by simp [F1,h]
theorem Q6 {st new p c:Nat} {z:Option Nat} (h:¬strong c=true):(F1 st new p c z).2=p:=by simp [F1,h]
theorem TF (p c:Nat) (z:Option Nat):(f4 p c z).1=(f4 p c z).2:=rfl
theorem LV {n:Bool} {c:Nat} {z:Option Nat} (h:c=6) (b:n=true):f5 n c z=(3,true):=by subst h b;rfl
theorem Jl {n:Bool} {c:Nat} {z:Option Nat} (h:¬(c=6/\n=true)):f5 n c z=(c,c==3):=by
 show (if c=6/\n=true then (3,true) else (c,c==3))=_
 rw [if_neg h]
theorem SM (n:Bool) (c:Nat) (z:Option Nat):(f5 n c z).2=((f5 n c z).1==3):=by
 by_cases h:c=6/\n=true
 .rw [LV h.1 h.2]
  rfl
 .rw [Jl h]
theorem QH {f:Nat->Nat->Option Nat->Nat×Nat} (hf:∀ p c z,(f p c z).1=(f p c z).2) (s:Nat) (l:List Nat) {i c:Nat} (h:l[i]?=some c):(EK f s l)[i]?=some (Bu f s l (i+1)):=by
 rw [Eh s l i c h,De s l i c h,hf]
theorem Qa (c:Nat) (z:Option Nat):(f4 13 c z).1=c:=by simp [f4,cEN,cAN]
theorem RP (p c:Nat):(f4 p c none).1=c:=by simp [f4]
theorem UN {p c b:Nat} (h:¬p=b):(f4 p c (some b)).1=c:=by
 show (if (c=5\/c=7)/\p=3/\some b=some 3 then 3 else if c=7/\p=4/\some b=some 4 then 4 else c)=c
 rw [if_neg (by rintro ⟨_,e1,e2⟩;exact h (e1.trans (ZC e2).symm)),if_neg (by rintro ⟨_,e1,e2⟩;exact h (e1.trans (ZC e2).symm))]
theorem Tx {p c:Nat} (h:c=5) (e:p=3):(f4 p c (some p)).1=3:=by subst h e;rfl
theorem ST {p c:Nat} (h:c=7) (e:p=3):(f4 p c (some p)).1=p:=by subst h e;rfl
theorem Sq {p c:Nat} (h:c=7) (e:p=4):(f4 p c (some p)).1=p:=by subst h e;rfl
theorem QO {p c:Nat} (h1:¬(c=5/\p=3)) (h2:¬(c=7/\(p=3\/p=4))):(f4 p c (some p)).1=c:=by
 show (if (c=5\/c=7)/\p=3/\some p=some 3 then 3 else if c=7/\p=4/\some p=some 4 then 4 else c)=c
 rw [if_neg (by rintro ⟨e0 | e0,e1,_⟩;exact h1 ⟨e0,e1⟩;exact h2 ⟨e0,.inl e1⟩),if_neg (by rintro ⟨e0,e1,_⟩;exact h2 ⟨e0,.inr e1⟩)]
theorem R6 (l:List Nat):DW f4 13 l 1=l:=by
 cases l with
 | nil=>rfl
 | cons c r=>exact (Bw (f:=f4) 13 (c::r) (i:=0) (c:=c) rfl (by rw [Fp];exact Qa _ _)).symm
theorem QT (l:List Nat) (k:Nat) (h1:k<=l.length) (h:l.length<=k+1):DW f4 13 l k=EK f4 13 l:=by
 by_cases e:k=l.length
 .subst e
  exact Gk 13 l
 .have hk:k<l.length:=by lia
  obtain ⟨c,hc⟩:∃ c,l[k]?=some c:=⟨_,ZA hk⟩
  have e2:k+1=l.length:=by lia
  rw [Bw (f:=f4) 13 l hc (by rw [List.getElem?_eq_none (by lia)];exact RP _ _),e2,Gk]
theorem MR (l:List Nat):DW f5 false l 1=l:=by
 cases l with
 | nil=>rfl
 | cons c r=>exact (Bw (f:=f5) false (c::r) (i:=0) (c:=c) rfl (by rw [Fp,Jl (fun z=>Bool.false_ne_true z.2)])).symm
theorem Mh {σ:Type} {f:σ->Nat->Option Nat->Nat×σ} (s:σ) (l:List Nat) {k:Nat} (h:l.length<=k):DW f s l k=EK f s l:=by
 unfold DW
 rw [List.drop_eq_nil_of_le h,List.append_nil,List.take_of_length_le (by rw [Az];exact h)]
theorem RF (l:List Nat) (i v:Nat) (h:i<l.length):l.reverse.set i v=(l.set (l.length - 1 - i) v).reverse:=by
 refine List.ext_getElem? fun j=>?_
 by_cases hj:j<l.length
 .rw [List.getElem?_reverse (by rw [List.length_set];exact hj),List.length_set]
  by_cases e:j=i
  .subst e
   rw [List.getElem?_set_self (by rw [List.length_reverse];exact h),List.getElem?_set_self (by lia)]
  .rw [List.getElem?_set_ne (fun z=>e z.symm),List.getElem?_reverse hj,List.getElem?_set_ne (by lia)]
 .rw [List.getElem?_eq_none (by rw [List.length_set,List.length_reverse];lia),List.getElem?_eq_none (by rw [List.length_reverse,List.length_set];lia)]
theorem HG:∀ (p:Nat) (l:List Nat),w1 p l=EK f1 p l
 | _,[]=>rfl
 | p,c::r=>congrArg (_::·) (HG _ r)
theorem Gn:∀ (p:Nat) (l:List Nat),w2 p l=EK (F1 cAL cAN) p l
 | _,[]=>rfl
 | p,c::r=>congrArg (_::·) (Gn _ r)
theorem Iz:∀ (p:Nat) (l:List Nat),w7 p l=EK (F1 cL cL) p l
 | _,[]=>rfl
 | p,c::r=>congrArg (_::·) (Iz _ r)
theorem Gs:∀ (p:Nat) (l:List Nat),w4 p l=EK f4 p l
 | _,[]=>rfl
 | p,c::r=>congrArg (_::·) (Gs _ r)
theorem DA:∀ (n:Bool) (l:List Nat),w5on n l=EK f5 n l
 | _,[]=>rfl
 | n,c::r=>by
  unfold w5on EK f5
  split
  .exact congrArg (_::·) (DA _ r)
  .exact congrArg (_::·) (DA _ r)
noncomputable def NT (g:Nat->Nat) (_:Unit) (c:Nat) (_:Option Nat):Nat×Unit:=(g c,())
theorem M3 (g:Nat->Nat):∀ (l:List Nat),l.map g=EK (NT g) () l
 | []=>rfl
 | c::r=>congrArg (_::·) (M3 g r)
end Wd
end
section
namespace Wd
open Dr
theorem DF (c:Nat):isIso c=true↔c=19\/c=20\/c=21:=by
 unfold isIso cLRI cRLI cFSI
 simp only [Bool.or_eq_true,beq_iff_eq]
theorem F4 (c:Nat):strong c=true↔c=0\/c=1\/c=2:=by
 unfold strong cL cR cAL
 simp only [Bool.or_eq_true,beq_iff_eq]
theorem FR {c:Nat} (r:List Nat) (i d:Nat) (h:isIso c=true):matching (c::r) i d=matching r (i+1) (d+1):=by
 show (if isIso c=true then _ else _)=_
 rw [if_pos h]
theorem Gi {c:Nat} (h:c=22):¬isIso c=true:=by subst h;decide
theorem DU {c:Nat} (r:List Nat) (i:Nat) (h:c=22):matching (c::r) i 0=some i:=by
 show (if isIso c=true then _ else if c=22 then (if (0:Nat)=0 then some i else _) else _)=_
 rw [if_neg (Gi h),if_pos h,if_pos rfl]
theorem FI {c:Nat} (r:List Nat) (i d:Nat) (h:c=22):matching (c::r) i (d+1)=matching r (i+1) d:=by
 show (if isIso c=true then _ else if c=22 then (if d+1=0 then some i else matching r (i+1) (d+1 - 1)) else _)=_
 rw [if_neg (Gi h),if_pos h,if_neg (by lia)]
 rfl
theorem DD {c:Nat} (r:List Nat) (i d:Nat) (h:¬isIso c=true) (h2:¬c=22):matching (c::r) i d=matching r (i+1) d:=by
 show (if isIso c=true then _ else if c=22 then _ else _)=_
 rw [if_neg h,if_neg h2]
theorem K4:∀ (l:List Nat) (i d e:Nat),matching l i d=some e->i<=e/\l[e - i]?=some 22
 | [],i,d,e,h=>by cases h
 | c::r,i,d,e,h=>by
  have step:∀ d',matching r (i+1) d'=some e->i<=e/\(c::r)[e - i]?=some 22:=fun d' h'=>by
   obtain ⟨a,b⟩:=K4 r (i+1) d' e h'
   refine ⟨by lia,?_⟩
   rw [show e - i=(e - (i+1))+1 by lia,List.getElem?_cons_succ]
   exact b
  by_cases hc:isIso c=true
  .rw [FR r i d hc] at h
   exact step _ h
  .by_cases hp:c=22
   .cases d with
    | zero =>
     rw [DU r i hp] at h
     cases h
     exact ⟨Nat.le_refl _,by rw [Nat.sub_self,hp];rfl⟩
    | succ d =>
     rw [FI r i d hp] at h
     exact step _ h
   .rw [DD r i d hc hp] at h
    exact step _ h
theorem Q1:∀ (l:List Nat) (i d e:Nat),matching l i d=some e->matching l i (d+1)=matching (l.drop (e+1 - i)) (e+1) 0
 | [],i,d,e,h=>by cases h
 | c::r,i,d,e,h=>by
  have step:∀ d',matching r (i+1) d'=some e->matching r (i+1) (d'+1)=matching ((c::r).drop (e+1 - i)) (e+1) 0:=fun d' h'=>by
   have a:=(K4 r (i+1) d' e h').1
   rw [Q1 r (i+1) d' e h',show e+1 - i=(e+1 - (i+1))+1 by lia,List.drop_succ_cons]
  by_cases hc:isIso c=true
  .rw [FR r i _ hc] at h ⊢
   exact step _ h
  .by_cases hp:c=22
   .cases d with
    | zero =>
     rw [DU r i hp] at h
     cases h
     rw [FI r i _ hp,show i+1 - i=1 by lia]
     rfl
    | succ d =>
     rw [FI r i _ hp] at h ⊢
     exact step _ h
   .rw [DD r i _ hc hp] at h ⊢
    exact step _ h
theorem L9 {c:Nat} (r:List Nat) (b:Bool) (d:Nat) (h:isIso c=true):firstStrong (c::r) b d=firstStrong r b (d+1):=by
 show (if isIso c=true then _ else _)=_
 rw [if_pos h]
theorem O3 {c:Nat} (r:List Nat) (b:Bool) (d:Nat) (h:c=22):firstStrong (c::r) b (d+1)=firstStrong r b d:=by
 show (if isIso c=true then _ else if c=22 then (if d+1=0 then _ else firstStrong r b (d+1 - 1)) else _)=_
 rw [if_neg (Gi h),if_pos h,if_neg (by lia)]
 rfl
theorem S2 {c:Nat} (r:List Nat) (h:c=22):firstStrong (c::r) true 0=none:=by subst h;rfl
theorem Rj {c:Nat} (r:List Nat) (h:c=22):firstStrong (c::r) false 0=firstStrong r false 0:=by subst h;rfl
theorem Pd {c:Nat} (r:List Nat) (b:Bool) (h1:¬isIso c=true) (h2:¬c=22) (h:strong c=true):firstStrong (c::r) b 0=some c:=by
 show (if isIso c=true then _ else if c=22 then _ else if (0:Nat)=0/\strong c=true then _ else _)=_
 rw [if_neg h1,if_neg h2,if_pos ⟨rfl,h⟩]
theorem Oe {c:Nat} (r:List Nat) (b:Bool) (d:Nat) (h1:¬isIso c=true) (h2:¬c=22):firstStrong (c::r) b (d+1)=firstStrong r b (d+1):=by
 show (if isIso c=true then _ else if c=22 then _ else if d+1=0/\strong c=true then _ else _)=_
 rw [if_neg h1,if_neg h2,if_neg (by lia)]
theorem RL {c:Nat} (r:List Nat) (b:Bool) (d:Nat) (h1:¬isIso c=true) (h2:¬c=22) (h:¬strong c=true):firstStrong (c::r) b d=firstStrong r b d:=by
 show (if isIso c=true then _ else if c=22 then _ else if d=0/\strong c=true then _ else _)=_
 rw [if_neg h1,if_neg h2,if_neg (fun z=>h z.2)]
theorem Iu:∀ (l:List Nat) (b:Bool) (i d:Nat),matching l i d=none->firstStrong l b (d+1)=none
 | [],b,i,d,h=>rfl
 | c::r,b,i,d,h=>by
  by_cases hc:isIso c=true
  .rw [FR r i _ hc] at h
   rw [L9 r b _ hc]
   exact Iu r b _ _ h
  .by_cases hp:c=22
   .cases d with
    | zero=>rw [DU r i hp] at h;cases h
    | succ d =>
     rw [FI r i _ hp] at h
     rw [O3 r b _ hp]
     exact Iu r b _ _ h
   .rw [DD r i _ hc hp] at h
    rw [Oe r b _ hc hp]
    exact Iu r b _ _ h
theorem Oj:∀ (l:List Nat) (b:Bool) (i d e:Nat),matching l i d=some e->firstStrong l b (d+1)=firstStrong (l.drop (e+1 - i)) b 0
 | [],b,i,d,e,h=>by cases h
 | c::r,b,i,d,e,h=>by
  have step:∀ d',matching r (i+1) d'=some e->firstStrong r b (d'+1)=firstStrong ((c::r).drop (e+1 - i)) b 0:=fun d' h'=>by
   have a:=(K4 r (i+1) d' e h').1
   rw [Oj r b (i+1) d' e h',show e+1 - i=(e+1 - (i+1))+1 by lia,List.drop_succ_cons]
  by_cases hc:isIso c=true
  .rw [FR r i _ hc] at h
   rw [L9 r b _ hc]
   exact step _ h
  .by_cases hp:c=22
   .cases d with
    | zero =>
     rw [DU r i hp] at h
     cases h
     rw [O3 r b _ hp,show i+1 - i=1 by lia]
     rfl
    | succ d =>
     rw [FI r i _ hp] at h
     rw [O3 r b _ hp]
     exact step _ h
   .rw [DD r i _ hc hp] at h
    rw [Oe r b _ hc hp]
    exact step _ h
theorem AZ {α:Type} {l:List α} {i:Nat} {c:α} (h:l[i]?=some c):l.drop i=c::l.drop (i+1):=by
 obtain ⟨hi,e⟩:=ZB.mp h
 rw [List.drop_eq_getElem_cons hi,e]
theorem Ej {row:List Nat} {i e:Nat} (h:endOf row i=some e):i<e/\row[e]?=some 22:=by
 obtain ⟨a,b⟩:=K4 _ _ _ _ h
 rw [List.getElem?_drop,show i+1+(e - (i+1))=e by lia] at b
 exact ⟨by lia,b⟩
structure Gb (row:List Nat) (ps:List (Option Nat)):Prop where
 len:ps.length=row.length
 iso:∀ i c,row[i]?=some c->isIso c=true->ps[i]?=some (endOf row i)
 pdi:∀ j,row[j]?=some 22->∃ o,ps[j]?=some o/\o.isSome=endsIso row j
structure PInv (row:List Nat) (k:Nat) (ps:List (Option Nat)) (wait:List Nat):Prop where
 len:ps.length=row.length
 wl:wait.length<=k
 wt:∀ t w,wait[t]?=some w->w<k/\(∃ c,row[w]?=some c/\isIso c=true)/\endOf row w=matching (row.drop k) k t/\ps[w]?=some none
 nd:wait.Nodup
 iso:∀ i c,i<k->row[i]?=some c->isIso c=true->i∈wait\/∃ e,e<k/\ps[i]?=some (some e)/\endOf row i=some e
 pdi:∀ j,j<k->row[j]?=some 22->∃ o,ps[j]?=some o/\o.isSome=endsIso row j
 hi:∀ j,k<=j->j<row.length->ps[j]?=some none
theorem PInv.start (row:List Nat):PInv row 0 (List.replicate row.length none) []:=by
 refine ⟨List.length_replicate,Nat.le_refl _,fun t w h=>by simp at h,List.nodup_nil,fun i c h=>absurd h (Nat.not_lt_zero _),fun j h=>absurd h (Nat.not_lt_zero _),fun j _ h=>?_⟩
 rw [List.getElem?_replicate,if_pos h]
theorem PInv.other {row:List Nat} {k:Nat} {ps:List (Option Nat)} {wait:List Nat} {c:Nat} (p:PInv row k ps wait) (hc:row[k]?=some c) (h1:¬isIso c=true) (h2:¬c=22):PInv row (k+1) ps wait:=by
 refine ⟨p.len,Nat.le_succ_of_le p.wl,fun t w h=>?_,p.nd,fun i d hi hd hs=>?_,fun j hj h=>?_,fun j hj h=>p.hi j (by lia) h⟩
 .obtain ⟨a,b,e,f⟩:=p.wt t w h
  refine ⟨by lia,b,?_,f⟩
  rw [e,AZ hc,DD _ _ _ h1 h2]
 .by_cases e:i=k
  .subst e
   rw [hc] at hd
   cases hd
   exact absurd hs h1
  .rcases p.iso i d (by lia) hd hs with h | ⟨e,a,b⟩
   .exact .inl h
   .exact .inr ⟨e,by lia,b⟩
 .by_cases e:j=k
  .subst e
   rw [hc] at h
   cases h
   exact absurd rfl h2
  .exact p.pdi j (by lia) h
theorem PInv.begin {row:List Nat} {k:Nat} {ps:List (Option Nat)} {wait:List Nat} {c:Nat} (p:PInv row k ps wait) (hc:row[k]?=some c) (h1:isIso c=true):PInv row (k+1) ps (k::wait):=by
 have hk:=(ZB.mp hc).1
 refine ⟨p.len,Nat.succ_le_succ p.wl,fun t w h=>?_,List.nodup_cons.mpr ⟨fun hm=>?_,p.nd⟩,fun i d hi hd hs=>?_,fun j hj h=>?_,fun j hj h=>p.hi j (by lia) h⟩
 .cases t with
  | zero =>
   cases h
   exact ⟨by lia,⟨c,hc,h1⟩,rfl,p.hi k (Nat.le_refl _) hk⟩
  | succ t =>
   obtain ⟨a,b,e,f⟩:=p.wt t w h
   refine ⟨by lia,b,?_,f⟩
   rw [e,AZ hc,FR _ _ _ h1]
 .obtain ⟨t,ht⟩:=List.mem_iff_getElem?.mp hm
  have:=(p.wt t k ht).1
  lia
 .by_cases e:i=k
  .subst e
   exact .inl (.head _)
  .rcases p.iso i d (by lia) hd hs with h | ⟨e,a,b⟩
   .exact .inl (.tail _ h)
   .exact .inr ⟨e,by lia,b⟩
 .by_cases e:j=k
  .subst e
   rw [hc] at h
   cases h
   cases h1
  .exact p.pdi j (by lia) h
theorem EG (row:List Nat) (j:Nat):endsIso row j=true↔∃ i c,i<j/\row[i]?=some c/\isIso c=true/\endOf row i=some j:=by
 unfold endsIso
 rw [List.any_eq_true]
 constructor
 .rintro ⟨i,hi,h⟩
  rw [Bool.and_eq_true] at h
  cases hr:row[i]? with
  | none=>rw [hr] at h;exact absurd h.1 (by decide)
  | some c =>
   rw [hr] at h
   exact ⟨i,c,List.mem_range.mp hi,hr,h.1,eq_of_beq h.2⟩
 .rintro ⟨i,c,hi,hr,hs,he⟩
  refine ⟨i,List.mem_range.mpr hi,?_⟩
  rw [hr,he]
  simp [hs]
theorem PInv.lone {row:List Nat} {k:Nat} {ps:List (Option Nat)} {c:Nat} (p:PInv row k ps []) (hc:row[k]?=some c) (h2:c=22):PInv row (k+1) ps []:=by
 have hk:=(ZB.mp hc).1
 refine ⟨p.len,Nat.zero_le _,fun t w h=>by simp at h,List.nodup_nil,fun i d hi hd hs=>?_,fun j hj h=>?_,fun j hj h=>p.hi j (by lia) h⟩
 .by_cases e:i=k
  .subst e
   rw [hc] at hd
   cases hd
   exact absurd hs (Gi h2)
  .rcases p.iso i d (by lia) hd hs with h | ⟨e,a,b⟩
   .cases h
   .exact .inr ⟨e,by lia,b⟩
 .by_cases e:j=k
  .subst e
   refine ⟨none,p.hi j (Nat.le_refl _) hk,?_⟩
   rw [Option.isSome_none,eq_comm,Bool.eq_false_iff]
   intro z
   obtain ⟨i,d,hi,hr,hs,he⟩:=(EG row j).mp z
   rcases p.iso i d hi hr hs with h | ⟨e,a,_,b⟩
   .cases h
   .rw [he] at b
    cases b
    lia
  .exact p.pdi j (by lia) h
theorem PInv.end_ {row:List Nat} {k w:Nat} {ps:List (Option Nat)} {wait:List Nat} {c:Nat} (p:PInv row k ps (w::wait)) (hc:row[k]?=some c) (h2:c=22):w<k/\PInv row (k+1) ((ps.set w (some k)).set k (some w)) wait:=by
 have hk:=(ZB.mp hc).1
 obtain ⟨hw,⟨cw,hcw,hsw⟩,hew,_⟩:=p.wt 0 w rfl
 have hwl:=(ZB.mp hcw).1
 rw [AZ hc,DU _ _ h2] at hew
 have nd:=List.nodup_cons.mp p.nd
 have A6:∀ j,j≠w->j≠k->((ps.set w (some k)).set k (some w))[j]?=ps[j]?:=fun j a b=>by
  rw [List.getElem?_set_ne (fun z=>b z.symm),List.getElem?_set_ne (fun z=>a z.symm)]
 have get_k:((ps.set w (some k)).set k (some w))[k]?=some (some w):=by rw [List.getElem?_set_self (by rw [List.length_set,p.len];exact hk)]
 have get_w:((ps.set w (some k)).set k (some w))[w]?=some (some k):=by rw [List.getElem?_set_ne (by lia),List.getElem?_set_self (by rw [p.len];exact hwl)]
 refine ⟨hw,by rw [List.length_set,List.length_set,p.len],?_,fun t v h=>?_,nd.2,fun i d hi hd hs=>?_,fun j hj h=>?_,fun j hj h=>?_⟩
 .have:=p.wl
  simp at this
  lia
 .obtain ⟨a,b,e,f⟩:=p.wt (t+1) v h
  have vw:v≠w:=fun z=>nd.1 (z▸List.mem_iff_getElem?.mpr ⟨t,h⟩)
  refine ⟨by lia,b,?_,by rw [A6 v vw (by lia)];exact f⟩
  rw [e,AZ hc,FI _ _ _ h2]
 .by_cases e:i=k
  .subst e
   rw [hc] at hd
   cases hd
   exact absurd hs (Gi h2)
  .by_cases ew:i=w
   .subst ew
    exact .inr ⟨k,by lia,get_w,hew⟩
   .rcases p.iso i d (by lia) hd hs with h | ⟨e',a,b,c'⟩
    .rcases List.mem_cons.mp h with h | h
     .exact absurd h ew
     .exact .inl h
    .exact .inr ⟨e',by lia,by rw [A6 i ew e];exact b,c'⟩
 .by_cases e:j=k
  .subst e
   refine ⟨some w,get_k,?_⟩
   rw [Option.isSome_some,eq_comm]
   exact (EG row j).mpr ⟨w,cw,hw,hcw,hsw,hew⟩
  .have jw:j≠w:=fun z=>by
    rw [z,hcw] at h
    cases h
    cases hsw
   rw [A6 j jw e]
   exact p.pdi j (by lia) h
 .rw [A6 j (by lia) (by lia)]
  exact p.hi j (by lia) h
theorem PInv.done {row:List Nat} {ps:List (Option Nat)} {wait:List Nat} (p:PInv row row.length ps wait):Gb row ps:=by
 refine ⟨p.len,fun i c hr hs=>?_,fun j h=>p.pdi j (ZB.mp h).1 h⟩
 rcases p.iso i c (ZB.mp hr).1 hr hs with h | ⟨e,_,a,b⟩
 .obtain ⟨t,ht⟩:=List.mem_iff_getElem?.mp h
  obtain ⟨_,_,e,f⟩:=p.wt t i ht
  rw [e,f,List.drop_length]
  rfl
 .rw [a,b]
noncomputable def E8:Option Nat->Nat
 | some k=>if k=cL then 0 else 1
 | none=>0
theorem Pi (l:List Nat):baseOf l=E8 (firstStrong l false 0):=by
 unfold baseOf E8
 cases firstStrong l false 0 <;> rfl
structure BInv (row:List Nat) (halt_:Bool) (end_:Nat) (res:Nat) (place:Nat):Prop where
 le:place<=end_
 el:end_<=row.length
 eq:res=E8 (firstStrong (row.drop place) halt_ 0)
 no:halt_=false->end_=row.length
 mt:halt_=true->matching (row.drop place) place 0=some end_\/(matching (row.drop place) place 0=none/\end_=row.length)
theorem BInv.stop {row:List Nat} {b:Bool} {e r:Nat} (p:BInv row b e r e):r=0:=by
 rw [p.eq]
 cases b with
 | false=>rw [p.no rfl,List.drop_length];rfl
 | true =>
  rcases p.mt rfl with h | ⟨_,h⟩
  .have h22:=(K4 _ _ _ _ h).2
   rw [Nat.sub_self,List.getElem?_drop,Nat.add_zero] at h22
   rw [AZ h22,S2 _ rfl]
   rfl
  .rw [h,List.drop_length];rfl
theorem BInv.hit {row:List Nat} {b:Bool} {e r q c:Nat} (p:BInv row b e r q) (hc:row[q]?=some c) (hs:strong c=true):r=if c=0 then 0 else 1:=by
 have h1:¬isIso c=true:=by
  intro z
  rw [DF] at z
  rw [F4] at hs
  lia
 have h2:¬c=22:=by
  rintro rfl
  exact absurd hs (by decide)
 rw [p.eq,AZ hc,Pd _ _ h1 h2 hs]
 rfl
theorem BInv.weak {row:List Nat} {b:Bool} {e r q c:Nat} (p:BInv row b e r q) (hq:q<e) (hc:row[q]?=some c) (h1:¬isIso c=true) (hs:¬strong c=true):BInv row b e r (q+1):=by
 by_cases h2:c=22
 .cases b with
  | false =>
   refine ⟨hq,p.el,?_,p.no,fun z=>by cases z⟩
   rw [p.eq,AZ hc,Rj _ h2]
  | true =>
   rcases p.mt rfl with h | ⟨h,_⟩
   .rw [AZ hc,DU _ _ h2] at h
    cases h
    lia
   .rw [AZ hc,DU _ _ h2] at h
    cases h
 .refine ⟨hq,p.el,?_,p.no,fun z=>?_⟩
  .rw [p.eq,AZ hc,RL _ _ _ h1 h2 hs]
  .have:=p.mt z
   rw [AZ hc,DD _ _ _ h1 h2] at this
   exact this
theorem BInv.endless {row:List Nat} {b:Bool} {e r q c:Nat} (p:BInv row b e r q) (hc:row[q]?=some c) (h1:isIso c=true) (hn:endOf row q=none):r=0:=by
 rw [p.eq,AZ hc,L9 _ _ _ h1,Iu _ _ (q+1) 0 hn]
 rfl
theorem BInv.over {row:List Nat} {b:Bool} {e r q c z:Nat} (p:BInv row b e r q) (hc:row[q]?=some c) (h1:isIso c=true) (hn:endOf row q=some z):q<z/\z+1<=row.length/\BInv row b e r (z+1):=by
 obtain ⟨hz,h22⟩:=Ej hn
 have hzl:=(ZB.mp h22).1
 have dd:(row.drop (q+1)).drop (z+1 - (q+1))=row.drop (z+1):=by rw [List.drop_drop];congr 1;lia
 have mt:b=true->matching (row.drop (z+1)) (z+1) 0=some e\/(matching (row.drop (z+1)) (z+1) 0=none/\e=row.length):=fun hb=>by
  have:=p.mt hb
  rw [AZ hc,FR _ _ _ h1,Q1 _ _ _ _ hn,dd] at this
  exact this
 refine ⟨hz,hzl,?_,p.el,?_,p.no,mt⟩
 .cases b with
  | false=>rw [p.no rfl];exact hzl
  | true =>
   rcases mt rfl with h | ⟨_,h⟩
   .exact (K4 _ _ _ _ h).1
   .lia
 .rw [p.eq,AZ hc,L9 _ _ _ h1,Oj _ _ _ _ _ hn,dd]
theorem BInv.startAll (row:List Nat):BInv row false row.length (baseOf row) 0 :=
 ⟨Nat.zero_le _,Nat.le_refl _,Pi row,fun _=>rfl,fun z=>by cases z⟩
theorem BInv.startIn {row:List Nat} {i c:Nat} (hc:row[i]?=some c):BInv row true ((endOf row i).getD row.length) (E8 (firstStrong (row.drop (i+1)) true 0)) (i+1):=by
 have hi:=(ZB.mp hc).1
 cases h:endOf row i with
 | none=>exact ⟨hi,Nat.le_refl _,rfl,(fun z=>by cases z),fun _=>.inr ⟨h,rfl⟩⟩
 | some e =>
  obtain ⟨a,b⟩:=Ej h
  have hl:=(ZB.mp b).1
  exact ⟨a,Nat.le_of_lt hl,rfl,(fun z=>by cases z),fun _=>.inl h⟩
noncomputable def B3 (m:Marks) (right:Bool) (forced:Option Nat) (iso:Bool):Marks :=
 let n:=if right=true then nextOdd m.top.level else nextEven m.top.level
 if n<=DEEP/\m.badIso=0/\m.badEmb=0 then { m with stack:=⟨n,forced,iso⟩::m.stack,open_:=if iso=true then m.open_+1 else m.open_ }
 else if iso=true then { m with badIso:=m.badIso+1 }
 else if m.badIso=0 then { m with badEmb:=m.badEmb+1 } else m
noncomputable def endI (m:Marks):Marks:=if 0<m.badIso then { m with badIso:=m.badIso - 1 } else if m.open_=0 then m else { m with badEmb:=0,stack:=downIso m.stack,open_:=m.open_ - 1 }
noncomputable def endE (m:Marks):Marks:=if 0<m.badIso then m else if 0<m.badEmb then { m with badEmb:=m.badEmb - 1 } else if m.top.iso=false/\2<=m.stack.length then { m with stack:=m.stack.drop 1 } else m
noncomputable def Ap (c:Nat) (m:Marks):Marks:=if c=22 then endI m else if c=18 then endE m else m
noncomputable def E2 (c:Nat):Option Nat:=if c=17 then some 1 else if c=16 then some 0 else none
noncomputable def BB (c:Nat) (r:List Nat):Bool:=if c=21 then E8 (firstStrong r true 0)==1 else [15,17,20].contains c
noncomputable def Aq (c:Nat) (r:List Nat) (m:Marks):Marks:=if Ea c=true then B3 m (BB c r) (E2 c) false else if isIso c=true then B3 m (BB c r) none true else m
noncomputable def Ad:List Nat->Marks->List (Nat×Nat)
 | [],_=>[]
 | c::r,m=>((Ap c m).top.level,forcedOr (Ap c m).top c)::Ad r (Aq c r (Ap c m))
theorem P3 (r:List Nat):(match firstStrong r true 0 with
   | some k=>k != cL
   | none=>false)=BB 21 r:=by
 unfold BB E8
 rw [if_pos rfl]
 cases firstStrong r true 0 with
 | none=>rfl
 | some k =>
  show (k != 0)=((if k=0 then 0 else 1)==1)
  by_cases h:k=0
  .rw [h];rfl
  .rw [if_neg h]
   simp [h]
theorem EC (c:Nat):Ea c=true↔c=14\/c=15\/c=16\/c=17:=by
 unfold Ea
 simp
theorem LK (c:Nat):Bj c=true↔c=14\/c=15\/c=16\/c=17\/c=18\/c=9:=by
 unfold Bj
 rw [Bool.or_eq_true,EC]
 simp
 constructor
 .rintro ((h | h | h | h) | h | h) <;> simp [h]
 .rintro (h | h | h | h | h | h) <;> simp [h]
theorem GC {c:Nat} (r:List Nat) (m:Marks) (h:c≠10) :
  explicit (c::r) m=((Ap c m).top.level,if Bj c=true then none else some (forcedOr (Ap c m).top c))::explicit r (Aq c r (Ap c m)):=by
 by_cases h15:c=15
 .subst h15;rfl
 by_cases h14:c=14
 .subst h14;rfl
 by_cases h17:c=17
 .subst h17;rfl
 by_cases h16:c=16
 .subst h16;rfl
 by_cases h20:c=20
 .subst h20;rfl
 by_cases h19:c=19
 .subst h19;rfl
 by_cases h21:c=21
 .subst h21
  show (m.top.level,some (forcedOr m.top 21))::explicit r (B3 m (match firstStrong r true 0 with
   | some k=>k != cL
   | none=>false) none true)=_
  rw [P3]
  rfl
 by_cases h22:c=22
 .subst h22;rfl
 by_cases h18:c=18
 .subst h18;rfl
 by_cases h9:c=9
 .subst h9;rfl
 have ho:¬Bj c=true:=by rw [LK];lia
 have hi:¬isIso c=true:=by rw [DF];lia
 have he:¬Ea c=true:=by rw [EC];lia
 have hpre:Ap c m=m:=by unfold Ap;rw [if_neg h22,if_neg h18]
 have hpost:Aq c r m=m:=by unfold Aq;rw [if_neg he,if_neg hi]
 rw [hpre,hpost,if_neg ho]
 show (if c=15 then _ else if c=14 then _ else if c=17 then _ else if c=16 then _ else if c=20 then _ else if c=19 then _ else if c=21 then _ else if c=22 then _ else if c=18 then _ else if c=9 then _ else if c=10 then _ else _)=_
 rw [if_neg h15,if_neg h14,if_neg h17,if_neg h16,if_neg h20,if_neg h19,if_neg h21,if_neg h22,if_neg h18,if_neg h9,if_neg h]
theorem Ef:∀ (l:List Nat) (m:Marks),(Ad l m).length=l.length
 | [],_=>rfl
 | c::r,m=>congrArg (·+1) (Ef r _)
theorem GB:∀ (l:List Nat) (m:Marks) (i:Nat),(∀ c∈l,c≠10)->(explicit l m)[i]?=match l[i]?,(Ad l m)[i]? with
  | some c,some x=>some (x.1,if Bj c=true then none else some x.2)
  | _,_=>none
 | [],m,i,_=>rfl
 | c::r,m,0,h=>by
  rw [GC r m (h c (.head _))]
  rfl
 | c::r,m,i+1,h=>by
  rw [GC r m (h c (.head _))]
  exact GB r _ i fun x hx=>h x (.tail _ hx)
noncomputable def Au:List Entry->Nat
 | []=>0
 | e::r=>(if e.iso=true then 1 else 0)+Au r
theorem HM:∀ (a b:List Entry),Au (a++b)=Au a+Au b
 | [],b=>by rw [List.nil_append,Au,Nat.zero_add]
 | e::r,b=>by
  show _+Au (r++b)=_+Au r+Au b
  rw [HM r b]
  lia
structure MOk (m:Marks):Prop where
 cnt:Au m.stack=m.open_
 bot:∃ pre b,m.stack=pre++[b]/\b.iso=false
theorem MOk.ne {m:Marks} (h:MOk m):m.stack≠[]:=by
 obtain ⟨pre,b,e,_⟩:=h.bot
 rw [e]
 simp
theorem MOk.start (b:Nat):MOk ⟨[⟨b,none,false⟩],0,0,0⟩:=⟨rfl,[],_,rfl,rfl⟩
theorem MOk.push {m:Marks} (h:MOk m) (right:Bool) (f:Option Nat) (iso:Bool):MOk (B3 m right f iso):=by
 unfold B3
 dsimp only
 generalize (if right=true then nextOdd m.top.level else nextEven m.top.level)=n
 split
 .obtain ⟨pre,b,e,hb⟩:=h.bot
  refine ⟨?_,⟨_,f,iso⟩::pre,b,by rw [e];rfl,hb⟩
  show (if iso=true then 1 else 0)+Au m.stack=_
  rw [h.cnt]
  cases iso
  .simp
  .simp;lia
 .split
  .exact ⟨h.cnt,h.bot⟩
  .split
   .exact ⟨h.cnt,h.bot⟩
   .exact h
theorem F9:∀ (s:List Entry),0<Au s->∃ a e,s=a++e::downIso s/\e.iso=true/\Au a=0
 | [],h=>by cases h
 | e::r,h=>by
  by_cases he:e.iso=true
  .refine ⟨[],e,?_,he,rfl⟩
   show _=e::downIso (e::r)
   unfold downIso
   rw [if_pos he]
  .have h':0<Au r:=by
    unfold Au at h
    rw [if_neg he] at h
    lia
   obtain ⟨a,x,e1,e2,e3⟩:=F9 r h'
   refine ⟨e::a,x,?_,e2,?_⟩
   .have ed:downIso (e::r)=downIso r:=by
     show (if e.iso=true then r else downIso r)=_
     rw [if_neg he]
    rw [ed,List.cons_append,<-e1]
   .show (if e.iso=true then 1 else 0)+Au a=0
    rw [if_neg he,e3]
theorem My:∀ (a:List Entry) (e:Entry) (s:List Entry),Au a=0->e.iso=true->downIso (a++e::s)=s
 | [],e,s,_,he=>by
  show (if e.iso=true then s else downIso s)=s
  rw [if_pos he]
 | x::a,e,s,h,he=>by
  have hx:¬x.iso=true:=fun z=>by
   unfold Au at h
   rw [if_pos z] at h
   lia
  have h':Au a=0:=by
   unfold Au at h
   lia
  show (if x.iso=true then a++e::s else downIso (a++e::s))=s
  rw [if_neg hx]
  exact My a e s h' he
theorem MX:∀ (a s:List Entry),0<Au a->downIso (a++s)=downIso a++s
 | [],s,h=>by cases h
 | x::a,s,h=>by
  show (if x.iso=true then a++s else downIso (a++s))=(if x.iso=true then a else downIso a)++s
  by_cases hx:x.iso=true
  .rw [if_pos hx,if_pos hx]
  .rw [if_neg hx,if_neg hx]
   refine MX a s ?_
   unfold Au at h
   rw [if_neg hx] at h
   lia
theorem Hk {s:List Entry} (h:0<Au s):Au (downIso s)+1=Au s:=by
 obtain ⟨a,e,e1,e2,e3⟩:=F9 s h
 have h1:Au s=Au (a++e::downIso s):=congrArg Au e1
 have h2:Au (e::downIso s)=(if e.iso=true then 1 else 0)+Au (downIso s):=rfl
 rw [HM,e3,h2,if_pos e2] at h1
 lia
theorem MOk.endI {m:Marks} (h:MOk m):MOk (endI m):=by
 unfold Wd.endI
 split
 .exact ⟨h.cnt,h.bot⟩
 .split
  .exact h
  .rename_i h1 h2
   have hp:0<Au m.stack:=by rw [h.cnt];lia
   obtain ⟨a,e,e1,e2,e3⟩:=F9 _ hp
   obtain ⟨pre,b,e4,hb⟩:=h.bot
   refine ⟨?_,?_⟩
   .have:=Hk hp
    have:=h.cnt
    show Au (downIso m.stack)=m.open_ - 1
    lia
   .show ∃ pre b,downIso m.stack=pre++[b]/\b.iso=false
    generalize downIso m.stack=t at *
    rcases List.eq_nil_or_concat t with rfl | ⟨t',y,rfl⟩
    .rw [e4] at e1
     have e5:=List.append_inj_right' e1 rfl
     have e6:b=e:=(List.cons.inj e5).1
     rw [e6,e2] at hb
     cases hb
    .rw [List.concat_eq_append] at e1
     refine ⟨t',y,List.concat_eq_append,?_⟩
     rw [e4,show a++e::(t'++[y])=(a++e::t')++[y] by simp] at e1
     have e5:=List.append_inj_right' e1 rfl
     rw [<-(List.cons.inj e5).1]
     exact hb
theorem MOk.endE {m:Marks} (h:MOk m):MOk (endE m):=by
 unfold Wd.endE
 split
 .exact h
 .split
  .exact ⟨h.cnt,h.bot⟩
  .split
   .rename_i h1 h2 h3
    obtain ⟨pre,b,e,hb⟩:=h.bot
    cases hs:m.stack with
    | nil=>exact absurd hs h.ne
    | cons x r =>
     have hx:x.iso=false:=by
      have:=h3.1
      unfold Marks.top at this
      rw [hs] at this
      exact this
     have hr:2<=(x::r).length:=hs▸h3.2
     refine ⟨?_,?_⟩
     .have:=h.cnt
      rw [hs] at this
      unfold Au at this
      rw [if_neg (by rw [hx];decide)] at this
      show Au r=m.open_
      lia
     .show ∃ pre b,r=pre++[b]/\b.iso=false
      rw [hs] at e
      cases pre with
      | nil =>
       rw [List.nil_append] at e
       rw [(List.cons.inj e).2] at hr
       simp at hr
      | cons y pre=>exact ⟨pre,b,(List.cons.inj e).2,hb⟩
   .exact h
theorem MOk.pre {m:Marks} (h:MOk m) (c:Nat):MOk (Ap c m):=by
 unfold Ap
 split
 .exact h.endI
 .split
  .exact h.endE
  .exact h
theorem MOk.post {m:Marks} (h:MOk m) (c:Nat) (r:List Nat):MOk (Aq c r m):=by
 unfold Aq
 split
 .exact h.push _ _ _
 .split
  .exact h.push _ _ _
  .exact h
theorem Oy (right:Bool) (n:Nat):n<(if right=true then nextOdd n else nextEven n):=by
 unfold nextOdd nextEven
 split <;> split <;> lia
theorem Oa:∀ (l:List Nat) (i d e b:Nat) (m:Marks),m.badIso=b+d+1->matching l i d=some e->∀ j,j<=e - i->((Ad l m)[j]?.map Prod.fst)=some m.top.level
 | [],i,d,e,b,m,_,h,j,_=>by cases h
 | c::r,i,d,e,b,m,hb,h,j,hj=>by
  have top_pre:(Ap c m).stack=m.stack:=by
   unfold Ap endI endE
   rw [if_pos (by lia:0<m.badIso),if_pos (by lia:0<m.badIso)]
   split
   .rfl
   .split <;> rfl
  have top_eq:(Ap c m).top=m.top:=by unfold Marks.top;rw [top_pre]
  cases j with
  | zero =>
   show some (Ap c m).top.level=_
   rw [top_eq]
  | succ j =>
   have go:∀ d',(Aq c r (Ap c m)).badIso=b+d'+1->(Aq c r (Ap c m)).stack=m.stack->matching r (i+1) d'=some e->((Ad (c::r) m)[j+1]?.map Prod.fst)=some m.top.level:=fun d' h1 h2 h3=>by
    have:=Oa r (i+1) d' e b _ h1 h3 j (by lia)
    rw [show ((Ad (c::r) m)[j+1]?.map Prod.fst)=((Ad r (Aq c r (Ap c m)))[j]?.map Prod.fst) from rfl,this]
    unfold Marks.top
    rw [h2]
   by_cases hc:isIso c=true
   .rw [FR r i d hc] at h
    have hne:¬Ea c=true:=by rw [EC];rw [DF] at hc;lia
    have hp:Ap c m=m:=by unfold Ap;rw [DF] at hc;rw [if_neg (by lia),if_neg (by lia)]
    have hq:Aq c r m={ m with badIso:=m.badIso+1 }:=by
     unfold Aq B3
     rw [if_neg hne,if_pos hc]
     dsimp only
     rw [if_neg (by lia),if_pos rfl]
    refine go (d+1) ?_ ?_ h
    .rw [hp,hq];show m.badIso+1=_;lia
    .rw [hp,hq]
   .by_cases hp:c=22
    .cases d with
     | zero =>
      rw [DU r i hp] at h
      cases h
      lia
     | succ d =>
      rw [FI r i d hp] at h
      have hq:Ap c m={ m with badIso:=m.badIso - 1 }:=by
       unfold Ap endI
       rw [if_pos hp,if_pos (by lia)]
      have hr:∀ n,Aq c r n=n:=fun n=>by
       unfold Aq
       rw [if_neg (by rw [EC];lia),if_neg hc]
      refine go d ?_ ?_ h
      .rw [hr,hq];show m.badIso - 1=_;lia
      .rw [hr,hq]
    .rw [DD r i d hc hp] at h
     have hq:Ap c m=m:=by
      unfold Ap endE
      rw [if_neg hp,if_pos (by lia:0<m.badIso)]
      split <;> rfl
     have hr:Aq c r m=m:=by
      unfold Aq B3
      split
      .dsimp only
       rw [if_neg (by lia),if_neg (by decide),if_neg (by lia)]
      .rfl
     exact go d (by rw [hq,hr];exact hb) (by rw [hq,hr]) h
theorem within:∀ (l:List Nat) (i d e:Nat) (m:Marks) (A:List Entry) (E:Entry) (S:List Entry) (v:Nat),m.stack=A++E::S->E.iso=true->E.level=v->(∀ a∈A,v<=a.level) ->
  Au A+m.badIso=d->Au m.stack=m.open_->matching l i d=some e ->
  (∀ j,j<e - i->∃ n,((Ad l m)[j]?.map Prod.fst)=some n/\v<=n)/\((Ad l m)[e - i]?.map Prod.fst)=some (S.headD ⟨0,none,false⟩).level
 | [],i,d,e,m,A,E,S,v,_,_,_,_,_,_,h=>by cases h
 | c::r,i,d,e,m,A,E,S,v,hs,hE,hv,hA,hd,ho,h=>by
  have topA:∀ (m:Marks) (A:List Entry),m.stack=A++E::S->(∀ a∈A,v<=a.level)->v<=m.top.level:=fun m A hs hA=>by
   unfold Marks.top
   rw [hs]
   cases A with
   | nil=>exact Nat.le_of_eq hv.symm
   | cons a A=>exact hA a (.head _)
  have go:∀ (A' A'':List Entry) (d':Nat),(Ap c m).stack=A'++E::S->(∀ a∈A',v<=a.level)->(Aq c r (Ap c m)).stack=A''++E::S->(∀ a∈A'',v<=a.level) ->
    Au A''+(Aq c r (Ap c m)).badIso=d'->Au (Aq c r (Ap c m)).stack=(Aq c r (Ap c m)).open_->matching r (i+1) d'=some e ->
    (∀ j,j<e - i->∃ n,((Ad (c::r) m)[j]?.map Prod.fst)=some n/\v<=n)/\((Ad (c::r) m)[e - i]?.map Prod.fst)=some (S.headD ⟨0,none,false⟩).level:=fun A' A'' d' h1 h2 h3 h4 h5 h6 h7=>by
   have hle:=(K4 _ _ _ _ h7).1
   obtain ⟨a,b⟩:=within r (i+1) d' e _ A'' E S v h3 hE hv h4 h5 h6 h7
   refine ⟨fun j hj=>?_,?_⟩
   .cases j with
    | zero=>exact ⟨_,rfl,topA _ A' h1 h2⟩
    | succ j=>exact a j (by lia)
   .rw [show e - i=(e - (i+1))+1 by lia]
    exact b
  have push:∀ (right:Bool) (f:Option Nat) (iso:Bool),∃ A'',(B3 m right f iso).stack=A''++E::S/\(∀ a∈A'',v<=a.level)/\Au A''+(B3 m right f iso).badIso=(if iso=true then d+1 else d)/\Au (B3 m right f iso).stack=(B3 m right f iso).open_:=fun right f iso=>by
   have tl:=topA m A hs hA
   have nu:=Oy right m.top.level
   unfold B3
   dsimp only
   generalize (if right=true then nextOdd m.top.level else nextEven m.top.level)=n at *
   split
   .refine ⟨⟨n,f,iso⟩::A,by rw [hs];rfl,fun a ha=>?_,?_,?_⟩
    .rcases List.mem_cons.mp ha with rfl | ha
     .show v<=n
      lia
     .exact hA a ha
    .show (if iso=true then 1 else 0)+Au A+m.badIso=_
     cases iso <;> simp <;> lia
    .show (if iso=true then 1 else 0)+Au m.stack=(if iso=true then m.open_+1 else m.open_)
     cases iso <;> simp <;> lia
   .split
    .rename_i hi
     refine ⟨A,hs,hA,?_,ho⟩
     show Au A+(m.badIso+1)=_
     lia
    .split
     .exact ⟨A,hs,hA,hd,ho⟩
     .exact ⟨A,hs,hA,hd,ho⟩
  by_cases hc:isIso c=true
  .rw [FR r i d hc] at h
   have hne:¬Ea c=true:=by rw [EC];rw [DF] at hc;lia
   have hp:Ap c m=m:=by unfold Ap;rw [DF] at hc;rw [if_neg (by lia),if_neg (by lia)]
   obtain ⟨A'',a1,a2,a3,a4⟩:=push (BB c r) none true
   have hq:Aq c r (Ap c m)=B3 m (BB c r) none true:=by rw [hp];unfold Aq;rw [if_neg hne,if_pos hc]
   exact go A A'' (d+1) (by rw [hp];exact hs) hA (by rw [hq];exact a1) a2 (by rw [hq];exact a3) (by rw [hq];exact a4) h
  .by_cases hp:c=22
   .have hr:∀ n,Aq c r n=n:=fun n=>by
     unfold Aq
     rw [if_neg (by rw [EC];lia),if_neg hc]
    have hpre:Ap c m=endI m:=by unfold Ap;rw [if_pos hp]
    cases d with
    | zero =>
     rw [DU r i hp] at h
     cases h
     refine ⟨fun j hj=>by lia,?_⟩
     rw [Nat.sub_self]
     show some (Ap c m).top.level=_
     have hop:¬m.open_=0:=by
      rw [<-ho,hs,HM]
      show ¬Au A+((if E.iso=true then 1 else 0)+Au S)=0
      rw [if_pos hE]
      lia
     have:(Ap c m).stack=S:=by
      rw [hpre]
      unfold endI
      rw [if_neg (by lia),if_neg hop]
      show downIso m.stack=S
      rw [hs]
      exact My A E S (by lia) hE
     unfold Marks.top
     rw [this]
    | succ d =>
     rw [FI r i d hp] at h
     by_cases hb:0<m.badIso
     .have hq:Ap c m={ m with badIso:=m.badIso - 1 }:=by
       rw [hpre]
       unfold endI
       rw [if_pos hb]
      refine go A A d (by rw [hq];exact hs) hA (by rw [hr,hq];exact hs) hA ?_ (by rw [hr,hq];exact ho) h
      rw [hr,hq]
      show Au A+(m.badIso - 1)=d
      lia
     .have hpos:0<Au A:=by lia
      have hop:¬m.open_=0:=by
       rw [<-ho,hs,HM]
       lia
      have hq:Ap c m={ m with badEmb:=0,stack:=downIso m.stack,open_:=m.open_ - 1 }:=by
       rw [hpre]
       unfold endI
       rw [if_neg hb,if_neg hop]
      have hst:downIso m.stack=downIso A++E::S:=by rw [hs,MX _ _ hpos]
      have hA':∀ a∈downIso A,v<=a.level:=fun a ha=>by
       obtain ⟨p,x,e1,_,_⟩:=F9 A hpos
       refine hA a ?_
       rw [e1]
       exact List.mem_append_right _ (.tail _ ha)
      have hdn:=Hk hpos
      have hpos2:0<Au m.stack:=by rw [ho];lia
      have hdn2:=Hk hpos2
      refine go (downIso A) (downIso A) d (by rw [hq];exact hst) hA' (by rw [hr,hq];exact hst) hA' ?_ ?_ h
      .rw [hr,hq]
       show Au (downIso A)+m.badIso=d
       lia
      .rw [hr,hq]
       show Au (downIso m.stack)=m.open_ - 1
       lia
   .rw [DD r i d hc hp] at h
    by_cases h18:c=18
    .have hr:∀ n,Aq c r n=n:=fun n=>by
      unfold Aq
      rw [if_neg (by rw [EC];lia),if_neg hc]
     have hq:Ap c m=endE m:=by unfold Ap;rw [if_neg hp,if_pos h18]
     have key:∃ A',(endE m).stack=A'++E::S/\(∀ a∈A',v<=a.level)/\Au A'+(endE m).badIso=d/\Au (endE m).stack=(endE m).open_:=by
      unfold endE
      split
      .exact ⟨A,hs,hA,hd,ho⟩
      .split
       .exact ⟨A,hs,hA,hd,ho⟩
       .split
        .rename_i h3
         cases A with
         | nil =>
          have:=h3.1
          unfold Marks.top at this
          rw [hs] at this
          have:E.iso=false:=this
          rw [hE] at this
          cases this
         | cons a A =>
          have ha:a.iso=false:=by
           have:=h3.1
           unfold Marks.top at this
           rw [hs] at this
           exact this
          refine ⟨A,by show m.stack.drop 1=_;rw [hs];rfl,fun x hx=>hA x (.tail _ hx),?_,?_⟩
          .unfold Au at hd
           rw [if_neg (by rw [ha];decide)] at hd
           show Au A+m.badIso=d
           lia
          .show Au (m.stack.drop 1)=m.open_
           rw [hs] at ho ⊢
           have e2:Au (a::A++E::S)=(if a.iso=true then 1 else 0)+Au (A++E::S):=rfl
           rw [e2,if_neg (by rw [ha];decide)] at ho
           show Au (A++E::S)=m.open_
           lia
        .exact ⟨A,hs,hA,hd,ho⟩
     obtain ⟨A',a1,a2,a3,a4⟩:=key
     exact go A' A' d (by rw [hq];exact a1) a2 (by rw [hr,hq];exact a1) a2 (by rw [hr,hq];exact a3) (by rw [hr,hq];exact a4) h
    .have hq:Ap c m=m:=by unfold Ap;rw [if_neg hp,if_neg h18]
     by_cases he:Ea c=true
     .obtain ⟨A'',a1,a2,a3,a4⟩:=push (BB c r) (E2 c) false
      have hr:Aq c r (Ap c m)=B3 m (BB c r) (E2 c) false:=by rw [hq];unfold Aq;rw [if_pos he]
      exact go A A'' d (by rw [hq];exact hs) hA (by rw [hr];exact a1) a2 (by rw [hr];exact a3) (by rw [hr];exact a4) h
     .have hr:Aq c r (Ap c m)=m:=by rw [hq];unfold Aq;rw [if_neg he,if_neg hc]
      exact go A A d (by rw [hq];exact hs) hA (by rw [hr];exact hs) hA (by rw [hr];exact hd) (by rw [hr];exact ho) h
theorem QY:∀ (l:List Nat) (m:Marks) (p e c:Nat),MOk m->l[p]?=some c->isIso c=true->matching (l.drop (p+1)) (p+1) 0=some e ->
  ∃ n,((Ad l m)[p]?.map Prod.fst)=some n/\((Ad l m)[e]?.map Prod.fst)=some n /\
   ((∀ j,p<=j->j<=e->((Ad l m)[j]?.map Prod.fst)=some n)\/∀ j,p<j->j<e->∃ k,((Ad l m)[j]?.map Prod.fst)=some k/\n<k):=by
 intro l
 suffices H:∀ (l:List Nat) (m:Marks) (p i e c:Nat),MOk m->l[p]?=some c->isIso c=true->matching (l.drop (p+1)) (i+p+1) 0=some (i+e) ->
  ∃ n,((Ad l m)[p]?.map Prod.fst)=some n/\((Ad l m)[e]?.map Prod.fst)=some n /\
   ((∀ j,p<=j->j<=e->((Ad l m)[j]?.map Prod.fst)=some n)\/∀ j,p<j->j<e->∃ k,((Ad l m)[j]?.map Prod.fst)=some k/\n<k) by
  intro m p e c a b c' d
  exact H l m p 0 e c a b c' (by simpa using d)
 clear l
 intro l
 induction l with
 | nil=>intro m p i e c _ h;simp at h
 | cons x r ih =>
  intro m p i e c hm hc hs h
  have hle:=(K4 _ _ _ _ h).1
  cases p with
  | succ p =>
   obtain ⟨e',rfl⟩:∃ e',e=e'+1:=⟨e - 1,by lia⟩
   obtain ⟨n,a,b,d⟩:=ih (Aq x r (Ap x m)) p (i+1) e' c ((hm.pre x).post x r) hc hs (by
    rw [show i+1+p+1=i+(p+1)+1 by lia,show i+1+e'=i+(e'+1) by lia]
    exact h)
   refine ⟨n,a,b,?_⟩
   rcases d with d | d
   .refine .inl fun j h1 h2=>?_
    cases j with
    | zero=>lia
    | succ j=>exact d j (by lia) (by lia)
   .refine .inr fun j h1 h2=>?_
    cases j with
    | zero=>lia
    | succ j=>exact d j (by lia) (by lia)
  | zero =>
   cases hc
   obtain ⟨e',rfl⟩:∃ e',e=e'+1:=⟨e - 1,by lia⟩
   have h:matching r (i+1) 0=some (i+(e'+1)):=h
   have hne:¬Ea x=true:=by rw [EC];rw [DF] at hs;lia
   have hp:Ap x m=m:=by unfold Ap;rw [DF] at hs;rw [if_neg (by lia),if_neg (by lia)]
   have hq:Aq x r (Ap x m)=B3 m (BB x r) none true:=by rw [hp];unfold Aq;rw [if_neg hne,if_pos hs]
   have h0:((Ad (x::r) m)[0]?.map Prod.fst)=some m.top.level:=by
    show some (Ap x m).top.level=_
    rw [hp]
   have hj:∀ j,((Ad (x::r) m)[j+1]?.map Prod.fst)=((Ad r (B3 m (BB x r) none true))[j]?.map Prod.fst):=fun j=>by
    show ((Ad r (Aq x r (Ap x m)))[j]?.map Prod.fst)=_
    rw [hq]
   have nu:=Oy (BB x r) m.top.level
   by_cases hroom:(if BB x r=true then nextOdd m.top.level else nextEven m.top.level)<=DEEP/\m.badIso=0/\m.badEmb=0
   .have hpush:B3 m (BB x r) none true={ m with stack:=⟨(if BB x r=true then nextOdd m.top.level else nextEven m.top.level),none,true⟩::m.stack,open_:=m.open_+1 }:=by
     unfold B3
     dsimp only
     rw [if_pos hroom,if_pos rfl]
    obtain ⟨a,b⟩:=within r (i+1) 0 (i+(e'+1)) (B3 m (BB x r) none true) [] _ m.stack _ (by rw [hpush];rfl) rfl rfl (fun a ha=>by cases ha) (by rw [hpush];exact (Nat.zero_add _).trans hroom.2.1)
     ((hm.push _ _ _).cnt) h
    rw [show i+(e'+1) - (i+1)=e' by lia] at a b
    refine ⟨m.top.level,h0,?_,.inr fun j h1 h2=>?_⟩
    .rw [hj,b]
     rfl
    .cases j with
     | zero=>lia
     | succ j =>
      obtain ⟨n,c1,c2⟩:=a j (by lia)
      exact ⟨n,by rw [hj];exact c1,Nat.lt_of_lt_of_le nu c2⟩
   .have hpush:B3 m (BB x r) none true={ m with badIso:=m.badIso+1 }:=by
     unfold B3
     dsimp only
     rw [if_neg hroom,if_pos rfl]
    have a:=Oa r (i+1) 0 (i+(e'+1)) m.badIso (B3 m (BB x r) none true) (by rw [hpush]) h
    rw [show i+(e'+1) - (i+1)=e' by lia] at a
    have htop:(B3 m (BB x r) none true).top=m.top:=by rw [hpush];rfl
    rw [htop] at a
    refine ⟨m.top.level,h0,by rw [hj];exact a e' (Nat.le_refl _),.inl fun j h1 h2=>?_⟩
    cases j with
    | zero=>exact h0
    | succ j=>rw [hj];exact a j (by lia)
noncomputable def Fk (lv:Nat->Nat) (x:Nat) (rs:List (List Nat)):List (List Nat):=match rs with
 | (y::s)::t=>if lv y=lv x then (x::y::s)::t else [x]::(y::s)::t
 | t=>[x]::t
noncomputable def AC (lv:Nat->Nat):List Nat->List (List Nat)
 | []=>[]
 | x::r=>Fk lv x (AC lv r)
theorem Jj (lv:Nat->Nat) (mk:Nat->Item) (h:∀ i,(mk i).level=lv i):∀ P:List Nat,runsOf (P.map mk)=(AC lv P).map (·.map mk)
 | []=>rfl
 | x::r=>by
  have ih:=Jj lv mk h r
  show (match runsOf (r.map mk) with
  | (y::s)::t=>if y.level=(mk x).level then (mk x::y::s)::t else [mk x]::(y::s)::t
  | t=>[mk x]::t)=(Fk lv x (AC lv r)).map _
  rw [ih]
  cases AC lv r with
  | nil=>rfl
  | cons a t =>
   cases a with
   | nil=>rfl
   | cons y s =>
    show (if (mk y).level=(mk x).level then _ else _)=(if lv y=lv x then (x::y::s)::t else [x]::(y::s)::t).map _
    rw [h,h]
    by_cases e:lv y=lv x
    .rw [if_pos e,if_pos e];rfl
    .rw [if_neg e,if_neg e];rfl
theorem Cf (lv:Nat->Nat):∀ (P:List Nat) (x:List Nat),x∈AC lv P->x≠[]
 | [],x,h=>by cases h
 | p::r,x,h=>by
  have ih:=Cf lv r
  unfold AC Fk at h
  split at h
  .rename_i y s t e
   rw [e] at ih
   split at h
   .rcases List.mem_cons.mp h with rfl | h
    .simp
    .exact ih x (.tail _ h)
   .rcases List.mem_cons.mp h with rfl | h
    .simp
    .exact ih x h
  .rcases List.mem_cons.mp h with rfl | h
   .simp
   .exact ih x h
theorem Cs (lv:Nat->Nat):∀ (P:List Nat),(AC lv P).flatten=P
 | []=>rfl
 | p::r=>by
  have ih:=Cs lv r
  unfold AC Fk
  split
  .rename_i y s t e
   rw [e] at ih
   split
   .show p::(y::s++t.flatten)=p::r
    rw [<-ih];rfl
   .show p::(((y::s)::t).flatten)=p::r
    rw [ih]
  .show p::(AC lv r).flatten=_
   rw [ih]
theorem GS (lv:Nat->Nat):∀ (P:List Nat) (pre:List (List Nat)) (x:List Nat) (post:List (List Nat)),AC lv P=pre++x::post ->
  (∀ a∈x,∀ b∈x,lv a=lv b)/\(∀ y,pre.flatten.getLast?=some y->∀ a∈x,lv y≠lv a)/\(∀ y,post.flatten.head?=some y->∀ a∈x,lv y≠lv a)
 | [],pre,x,post,h=>by
  have:=congrArg List.length h
  simp [AC] at this
 | p::r,pre,x,post,h=>by
  have ih:=GS lv r
  unfold AC Fk at h
  split at h
  .rename_i y s t e
   split at h
   .rename_i hl
    cases pre with
    | nil =>
     injection h with h1 h2
     obtain ⟨a,_,b⟩:=ih [] (y::s) t e
     subst h1 h2
     refine ⟨fun u hu v hv=>?_,fun z hz=>by simp at hz,fun z hz u hu=>?_⟩
     .have f:∀ u∈p::y::s,lv u=lv y:=fun u hu=>by
       rcases List.mem_cons.mp hu with rfl | hu
       .exact hl.symm
       .exact a u hu y (.head _)
      rw [f u hu,f v hv]
     .rcases List.mem_cons.mp hu with rfl | hu
      .rw [<-hl];exact b z hz y (.head _)
      .exact b z hz u hu
    | cons q pre =>
     injection h with h1 h2
     obtain ⟨a,c,b⟩:=ih ((y::s)::pre) x post (by rw [e,h2];rfl)
     refine ⟨a,fun z hz=>c z ?_,b⟩
     rw [<-h1] at hz
     have:((p::y::s)::pre).flatten=p::((y::s)::pre).flatten:=rfl
     rw [this,List.getLast?_cons] at hz
     have ne:((y::s)::pre).flatten≠[]:=by simp
     rw [List.getLast?_eq_some_getLast ne] at hz ⊢
     simpa using hz
   .rename_i hl
    cases pre with
    | nil =>
     injection h with h1 h2
     subst h1 h2
     refine ⟨fun u hu v hv=>?_,fun z hz=>by simp at hz,fun z hz u hu=>?_⟩
     .rw [List.mem_singleton.mp hu,List.mem_singleton.mp hv]
     .have hz:y=z:=ZC hz
      rw [List.mem_singleton.mp hu,<-hz]
      exact hl
    | cons q pre =>
     injection h with h1 h2
     obtain ⟨a,c,b⟩:=ih pre x post (by rw [e,h2];rfl)
     refine ⟨a,fun z hz=>?_,b⟩
     rw [<-h1] at hz
     cases pre with
     | nil =>
      have hz:p=z:=by simpa using hz
      injection h2 with h3 h4
      intro u hu
      rw [<-hz]
      have hy:y∈x:=by rw [<-h3];exact .head _
      rw [a u hu y hy]
      exact fun w=>hl w.symm
     | cons q' pre =>
      injection h2 with h3 h4
      refine c z ?_
      rw [show ([p]::q'::pre).flatten=p::(q'::pre).flatten from rfl,List.getLast?_cons] at hz
      have ne:(q'::pre).flatten≠[]:=by rw [<-h3];simp
      rw [List.getLast?_eq_some_getLast ne] at hz ⊢
      simpa using hz
  .rename_i t hno
   have ne:∀ z∈AC lv r,z≠[]:=Cf lv r
   have hnil:AC lv r=[]:=by
    cases hr:AC lv r with
    | nil=>rfl
    | cons z t' =>
     cases z with
     | nil=>exact absurd rfl (ne [] (by rw [hr];exact .head _))
     | cons y s=>exact absurd hr (hno y s t')
   rw [hnil] at h
   cases pre with
   | nil =>
    injection h with h1 h2
    subst h1 h2
    refine ⟨fun u hu v hv=>?_,fun z hz=>by simp at hz,fun z hz u hu=>by simp at hz⟩
    rw [List.mem_singleton.mp hu,List.mem_singleton.mp hv]
   | cons q pre =>
    injection h with h1 h2
    have:=congrArg List.length h2
    simp at this
noncomputable def GQ (lv:Nat->Nat) (rs:List (List Nat)) (x:Nat):List (List Nat):=match rs.getLast? with
 | none=>[[x]]
 | some y=>if (y.getLast?.map lv)=some (lv x) then rs.dropLast++[y++[x]] else rs++[[x]]
theorem Kq (lv:Nat->Nat) (x:Nat):∀ P:List Nat,AC lv (P++[x])=GQ lv (AC lv P) x
 | []=>rfl
 | p::r=>by
  have ih:=Kq lv x r
  show Fk lv p (AC lv (r++[x]))=GQ lv (Fk lv p (AC lv r)) x
  rw [ih]
  cases hr:AC lv r with
  | nil =>
   show Fk lv p [[x]]=GQ lv [[p]] x
   show (if lv x=lv p then [[p,x]] else [[p],[x]])=(if some (lv p)=some (lv x) then [[p,x]] else [[p],[x]])
   by_cases h:lv x=lv p
   .rw [if_pos h,if_pos (by rw [h])]
   .rw [if_neg h,if_neg (fun z=>h (ZC z).symm)]
  | cons y t =>
   cases y with
   | nil=>exact absurd rfl (Cf lv r [] (by rw [hr];exact .head _))
   | cons y s =>
    cases t with
    | nil =>
     show Fk lv p (if ((y::s).getLast?.map lv)=some (lv x) then [y::s++[x]] else [y::s,[x]])=GQ lv (if lv y=lv p then [p::y::s] else [[p],y::s]) x
     by_cases h:lv y=lv p
     .rw [if_pos h]
      show _=(if ((p::y::s).getLast?.map lv)=some (lv x) then [p::y::s++[x]] else [p::y::s,[x]])
      rw [show (p::y::s).getLast?=(y::s).getLast? from by rw [List.getLast?_cons_cons]]
      by_cases g:((y::s).getLast?.map lv)=some (lv x)
      .rw [if_pos g,if_pos g]
       show (if lv y=lv p then _ else _)=_
       rw [if_pos h]
       rfl
      .rw [if_neg g,if_neg g]
       show (if lv y=lv p then _ else _)=_
       rw [if_pos h]
     .rw [if_neg h]
      show _=(if ((y::s).getLast?.map lv)=some (lv x) then [[p],y::s++[x]] else [[p],y::s,[x]])
      by_cases g:((y::s).getLast?.map lv)=some (lv x)
      .rw [if_pos g,if_pos g]
       show (if lv y=lv p then _ else _)=_
       rw [if_neg h]
       rfl
      .rw [if_neg g,if_neg g]
       show (if lv y=lv p then _ else _)=_
       rw [if_neg h]
    | cons z t =>
     have gl:((y::s)::z::t).getLast?=(z::t).getLast?:=List.getLast?_cons_cons
     obtain ⟨w,hw⟩:∃ w,(z::t).getLast?=some w:=⟨_,List.getLast?_eq_some_getLast (by simp)⟩
     have hd:∀ q:List Nat,(q::z::t).dropLast=q::(z::t).dropLast:=fun q=>rfl
     have e1:∀ q:List Nat,GQ lv (q::z::t) x=(if (w.getLast?.map lv)=some (lv x) then q::((z::t).dropLast++[w++[x]]) else q::(z::t++[[x]])):=fun q=>by
      unfold GQ
      rw [List.getLast?_cons_cons,hw]
      rfl
     have e2:∀ q q':List Nat,GQ lv (q::q'::z::t) x=(if (w.getLast?.map lv)=some (lv x) then q::q'::((z::t).dropLast++[w++[x]]) else q::q'::(z::t++[[x]])):=fun q q'=>by
      unfold GQ
      rw [List.getLast?_cons_cons,List.getLast?_cons_cons,hw]
      rfl
     show Fk lv p (GQ lv ((y::s)::z::t) x)=GQ lv (if lv y=lv p then (p::y::s)::z::t else [p]::(y::s)::z::t) x
     rw [e1]
     by_cases h:lv y=lv p
     .rw [if_pos h,e1]
      by_cases g:(w.getLast?.map lv)=some (lv x)
      .rw [if_pos g,if_pos g]
       show (if lv y=lv p then _ else _)=_
       rw [if_pos h]
      .rw [if_neg g,if_neg g]
       show (if lv y=lv p then _ else _)=_
       rw [if_pos h]
     .rw [if_neg h,e2]
      by_cases g:(w.getLast?.map lv)=some (lv x)
      .rw [if_pos g,if_pos g]
       show (if lv y=lv p then _ else _)=_
       rw [if_neg h]
      .rw [if_neg g,if_neg g]
       show (if lv y=lv p then _ else _)=_
       rw [if_neg h]
noncomputable def Bm (row:List Nat) (rs:List (List Nat)):Nat->List Nat->List Nat
 | 0,x=>x
 | f+1,x=>match x.getLast? with
  | none=>x
  | some z=>if isIso (row.getD z 0)=true then (match endOf row z with
    | none=>x
    | some e=>match rs.find? fun y=>y.head?==some e with
     | some y=>x++Bm row rs f y
     | none=>x)
   else x
theorem JN {α β:Type} (g:α->β) (p:β->Bool) (q:α->Bool) (h:∀ a,p (g a)=q a):∀ l:List α,(l.map g).find? p=(l.find? q).map g
 | []=>rfl
 | a::l=>by
  rw [List.map_cons,List.find?_cons,List.find?_cons,h a,JN g p q h l]
  cases q a <;> rfl
theorem Kp (row:List Nat) (mk:Nat->Item) (h1:∀ i,(mk i).at_=i) (h2:∀ i,(mk i).first=row.getD i 0) (rs:List (List Nat)):∀ (f:Nat) (x:List Nat),
  chain row (rs.map (·.map mk)) f (x.map mk)=(Bm row rs f x).map mk
 | 0,x=>rfl
 | f+1,x=>by
  unfold chain Bm
  rw [List.getLast?_map]
  cases x.getLast? with
  | none=>rfl
  | some z =>
   show (if isIso (mk z).first=true then _ else _)=_
   rw [h2]
   by_cases hi:isIso (row.getD z 0)=true
   .rw [if_pos hi]
    dsimp only
    rw [if_pos hi,h1]
    cases endOf row z with
    | none=>rfl
    | some e =>
     dsimp only
     rw [JN (fun x:List Nat=>x.map mk) _ (fun y=>y.head?==some e) (fun a=>by
      cases a with
      | nil=>rfl
      | cons b a=>show (some (mk b).at_==some e)=_;rw [h1];rfl)]
     cases rs.find? (fun y=>y.head?==some e) with
     | none=>rfl
     | some y =>
      show x.map mk++chain row _ f (y.map mk)=_
      rw [Kp row mk h1 h2 rs f y,List.map_append]
   .rw [if_neg hi]
    dsimp only
    rw [if_neg hi]
noncomputable def D5 (row:List Nat) (x:List Nat):Bool:=match x.head? with
 | some q=>!(row.getD q 0==22 && endsIso row q)
 | none=>false
noncomputable def GA (row:List Nat) (rs:List (List Nat)):List (List Nat):=(rs.filter (D5 row)).map (Bm row rs rs.length)
theorem filter_map {α β:Type} (g:α->β) (p:β->Bool) (q:α->Bool) (h:∀ a,p (g a)=q a):∀ l:List α,(l.map g).filter p=(l.filter q).map g
 | []=>rfl
 | a::l=>by
  rw [List.map_cons,List.filter_cons,List.filter_cons,h a,filter_map g p q h l]
  cases q a <;> rfl
theorem Qm (row:List Nat) (lv:Nat->Nat) (mk:Nat->Item) (h0:∀ i,(mk i).level=lv i) (h1:∀ i,(mk i).at_=i) (h2:∀ i,(mk i).first=row.getD i 0) (P:List Nat) :
  sequences row (P.map mk)=(GA row (AC lv P)).map (·.map mk):=by
 unfold sequences GA
 dsimp only
 rw [Jj lv mk h0,filter_map (fun x:List Nat=>x.map mk) _ (D5 row) (fun a=>by
  cases a with
  | nil=>rfl
  | cons b a =>
   show (!((mk b).first==cPDI && endsIso row (mk b).at_))=_
   rw [h1,h2]
   rfl),List.map_map,List.map_map,ZE]
 refine List.map_congr_left fun x hx=>?_
 exact Kp row mk h1 h2 _ _ x
section
variable (nxt:Nat->Option Nat)
noncomputable def BO:Nat->Nat->List Nat
 | 0,k=>[k]
 | f+1,k=>match nxt k with
  | none=>[k]
  | some j=>k::BO f j
variable {nxt}
theorem Em {f k j:Nat} (h:nxt k=some j):BO nxt (f+1) k=k::BO nxt f j:=by
 show (match nxt k with | none=>[k] | some j=>k::BO nxt f j)=_
 rw [h]
theorem Ei {f k:Nat} (h:nxt k=none):BO nxt (f+1) k=[k]:=by
 show (match nxt k with | none=>[k] | some j=>k::BO nxt f j)=_
 rw [h]
theorem MK:∀ (f k:Nat),k∈BO nxt f k
 | 0,k=>.head _
 | f+1,k=>by
  cases h:nxt k with
  | none=>rw [Ei h];exact .head _
  | some j=>rw [Em h];exact .head _
theorem HP:∀ (f k j:Nat),j∈BO nxt f k->j=k\/∃ i∈BO nxt f k,nxt i=some j
 | 0,k,j,h=>.inl (List.mem_singleton.mp h)
 | f+1,k,j,h=>by
  cases e:nxt k with
  | none=>rw [Ei e] at h;exact .inl (List.mem_singleton.mp h)
  | some m =>
   rw [Em e] at h ⊢
   rcases List.mem_cons.mp h with h | h
   .exact .inl h
   .rcases HP f m j h with rfl | ⟨i,hi,he⟩
    .exact .inr ⟨k,.head _,e⟩
    .exact .inr ⟨i,.tail _ hi,he⟩
variable {N:Nat} (up:∀ a b,nxt a=some b->a<b/\b<N)
include up
theorem Qi:∀ (f k i j:Nat),N<=f+k->i∈BO nxt f k->nxt i=some j->j∈BO nxt f k
 | 0,k,i,j,hf,hi,h=>by
  have e:=List.mem_singleton.mp hi
  subst e
  have:=up _ _ h
  lia
 | f+1,k,i,j,hf,hi,h=>by
  cases e:nxt k with
  | none =>
   rw [Ei e] at hi
   rw [List.mem_singleton.mp hi,e] at h
   cases h
  | some m =>
   have hk:=up _ _ e
   rw [Em e] at hi ⊢
   rcases List.mem_cons.mp hi with rfl | hi
   .rw [e] at h
    have h:=ZC h
    subst h
    exact .tail _ (MK f _)
   .exact .tail _ (Qi f m i j (by lia) hi h)
theorem Qk:∀ (f k j:Nat),j∈BO nxt f k->k<=j
 | 0,k,j,h=>by rw [List.mem_singleton.mp h];exact Nat.le_refl _
 | f+1,k,j,h=>by
  cases e:nxt k with
  | none=>rw [Ei e] at h;rw [List.mem_singleton.mp h];exact Nat.le_refl _
  | some m =>
   have hk:=up _ _ e
   rw [Em e] at h
   rcases List.mem_cons.mp h with rfl | h
   .exact Nat.le_refl _
   .have:=Qk f m j h
    lia
theorem Kh:∀ (f k:Nat),(BO nxt f k).Nodup
 | 0,k=>by simp [BO]
 | f+1,k=>by
  cases e:nxt k with
  | none=>rw [Ei e];simp
  | some m =>
   rw [Em e]
   refine List.nodup_cons.mpr ⟨fun h=>?_,Kh f m⟩
   have:=Qk up f m k h
   have:=up _ _ e
   lia
theorem Pj:∀ k,k<N->∃ s,s<N/\(∀ i,nxt i≠some s)/\k∈BO nxt N s:=by
 intro k
 induction k using Nat.strongRecOn with
 | ind k ih =>
  intro hk
  by_cases h:∃ i,nxt i=some k
  .obtain ⟨i,hi⟩:=h
   obtain ⟨s,a,b,c⟩:=ih i (up _ _ hi).1 (Nat.lt_trans (up _ _ hi).1 hk)
   exact ⟨s,a,b,Qi up N s i k (Nat.le_add_right _ _) c hi⟩
  .exact ⟨k,hk,fun i hi=>h ⟨i,hi⟩,MK N k⟩
theorem Ru (inj:∀ a b c,nxt a=some c->nxt b=some c->a=b) {s t:Nat} (hs:∀ i,nxt i≠some s) (ht:∀ i,nxt i≠some t) {f g:Nat}:∀ j,j∈BO nxt f s->j∈BO nxt g t->s=t:=by
 intro j
 induction j using Nat.strongRecOn with
 | ind j ih =>
  intro h1 h2
  rcases HP f s j h1 with rfl | ⟨i,hi,hj⟩
  .rcases HP g t j h2 with e | ⟨i,hi,hj⟩
   .exact e
   .exact absurd hj (hs i)
  .rcases HP g t j h2 with rfl | ⟨i',hi',hj'⟩
   .exact absurd hj (ht i)
   .have:=inj _ _ _ hj hj'
    subst this
    exact ih i (up _ _ hj).1 hi hi'
end
structure Geo (row:List Nat) (lv:Nat->Nat) (P:List Nat):Prop where
 inc:P.Pairwise (·<·)
 mem:∀ i,i∈P↔∃ c,row[i]?=some c/\¬Bj c=true
 ways:∀ p e c,row[p]?=some c->isIso c=true->endOf row p=some e->lv p=lv e/\((∀ j,p<=j->j<=e->lv j=lv p)\/∀ j,p<j->j<e->lv p<lv j)
noncomputable def m0 (b:Nat):Marks:=⟨[⟨b,none,false⟩],0,0,0⟩
noncomputable def DX (row:List Nat) (b i:Nat):Nat:=(((Ad row (m0 b))[i]?).map Prod.fst).getD 0
noncomputable def Kb (row:List Nat) (b i:Nat):Nat:=(((Ad row (m0 b))[i]?).map Prod.snd).getD 0
noncomputable def FJ (row:List Nat):List Nat:=(List.range row.length).filter fun i=>!Bj (row.getD i 0)
theorem Ai {l:List Nat} {i c d:Nat} (h:l[i]?=some c):l.getD i d=c:=by
 rw [List.getD_eq_getElem?_getD,h]
 rfl
theorem Geo.of (row:List Nat) (b:Nat):Geo row (DX row b) (FJ row):=by
 refine ⟨?_,fun i=>?_,fun p e c hc hs he=>?_⟩
 .unfold FJ
  exact List.Pairwise.filter _ List.pairwise_lt_range
 .unfold FJ
  rw [List.mem_filter,List.mem_range]
  constructor
  .rintro ⟨h1,h2⟩
   refine ⟨row[i],ZA h1,?_⟩
   rw [Ai (ZA h1)] at h2
   simpa using h2
  .rintro ⟨c,h1,h2⟩
   refine ⟨(ZB.mp h1).1,?_⟩
   rw [Ai h1]
   simpa using h2
 .obtain ⟨n,h1,h2,h3⟩:=QY row (m0 b) p e c (MOk.start b) hc hs he
  have e1:DX row b p=n:=by unfold DX;rw [h1];rfl
  have e2:DX row b e=n:=by unfold DX;rw [h2];rfl
  refine ⟨by rw [e1,e2],?_⟩
  rcases h3 with h3 | h3
  .refine .inl fun j a c=>?_
   unfold DX
   rw [h3 j a c,h1]
  .refine .inr fun j a c=>?_
   obtain ⟨k,k1,k2⟩:=h3 j a c
   rw [e1]
   unfold DX
   rw [k1]
   exact k2
theorem S1 {c:Nat} (h:isIso c=true):¬Bj c=true:=by rw [DF] at h;rw [LK];lia
section
variable {row:List Nat} {lv:Nat->Nat} {P:List Nat} (G:Geo row lv P)
include G
theorem Geo.ords:(∀ l∈AC lv P,l.Pairwise (·<·))/\(AC lv P).Pairwise fun l₁ l₂=>∀ x∈l₁,∀ y∈l₂,x<y:=by
 have h:=G.inc
 rw [<-Cs lv P] at h
 exact List.pairwise_flatten.mp h
theorem Geo.ord {a b:Nat} {x y:List Nat} (ha:(AC lv P)[a]?=some x) (hb:(AC lv P)[b]?=some y) (h:a<b):∀ u∈x,∀ v∈y,u<v:=by
 obtain ⟨h1,e1⟩:=ZB.mp ha
 obtain ⟨h2,e2⟩:=ZB.mp hb
 have:=List.pairwise_iff_getElem.mp G.ords.2 a b h1 h2 h
 rw [e1,e2] at this
 exact this
theorem Geo.same {a b e:Nat} {x y:List Nat} (ha:(AC lv P)[a]?=some x) (hb:(AC lv P)[b]?=some y) (hx:e∈x) (hy:e∈y):a=b:=by
 rcases Nat.lt_trichotomy a b with h | h | h
 .exact absurd (G.ord ha hb h e hx e hy) (Nat.lt_irrefl _)
 .exact h
 .exact absurd (G.ord hb ha h e hy e hx) (Nat.lt_irrefl _)
theorem Geo.inRun {e:Nat} (h:e∈P):∃ (k:Nat) (x:List Nat),(AC lv P)[k]?=some x/\e∈x:=by
 rw [<-Cs lv P] at h
 obtain ⟨x,hx,he⟩:=List.mem_flatten.mp h
 obtain ⟨k,hk⟩:=List.mem_iff_getElem?.mp hx
 exact ⟨k,x,hk,he⟩
theorem Geo.inP {k e:Nat} {x:List Nat} (h:(AC lv P)[k]?=some x) (he:e∈x):e∈P:=by
 rw [<-Cs lv P]
 exact List.mem_flatten.mpr ⟨x,ZD h,he⟩
omit G in
theorem split_at {α:Type} {l:List α} {k:Nat} {x:α} (h:l[k]?=some x):l=l.take k++x::l.drop (k+1):=by
 conv=>lhs;rw [<-List.take_append_drop k l]
 rw [AZ h]
theorem Geo.lvl {k a b:Nat} {x:List Nat} (h:(AC lv P)[k]?=some x) (ha:a∈x) (hb:b∈x):lv a=lv b:=(GS lv P _ _ _ (split_at h)).1 a ha b hb
omit G in
theorem PJ {l:List (List Nat)} {k:Nat} (hk:k<l.length) (ne:∀ x∈l,x≠[]) {y:List Nat} (h:l[k]?=some y):(l.take (k+1)).flatten.getLast?=y.getLast?:=by
 have hy:y≠[]:=ne y (ZD h)
 rw [List.take_add_one,h]
 simp only [Option.toList_some,List.flatten_append,List.flatten_cons,List.flatten_nil,List.append_nil]
 rw [List.getLast?_append,List.getLast?_eq_some_getLast hy]
 rfl
omit G in
theorem Kk {l:List (List Nat)} {k:Nat} (ne:∀ x∈l,x≠[]) {y:List Nat} (h:l[k]?=some y):(l.drop k).flatten.head?=y.head?:=by
 have hy:y≠[]:=ne y (ZD h)
 rw [AZ h,List.flatten_cons,List.head?_append,List.head?_eq_some_head hy]
 rfl
theorem Geo.step {k a b:Nat} {x y:List Nat} (hx:(AC lv P)[k]?=some x) (hy:(AC lv P)[k+1]?=some y) (ha:a∈x) (hb:b∈y):lv b≠lv a:=by
 have ne:=Cf lv P
 have h:=(GS lv P _ _ _ (split_at hx)).2.2
 have hyn:=ne y (ZD hy)
 have hh:=Kk ne hy
 rw [List.head?_eq_some_head hyn] at hh
 have:=h _ hh a ha
 rw [G.lvl hy hb (List.head_mem hyn)]
 exact this
omit G in
theorem BU {x:List Nat} {z:Nat} (h:x.getLast?=some z):z∈x:=List.mem_of_getLast? h
omit G in
theorem Al {x:List Nat} {z:Nat} (h:x.head?=some z):z∈x:=List.mem_of_head? h
theorem Geo.le_last {k z u:Nat} {x:List Nat} (h:(AC lv P)[k]?=some x) (hz:x.getLast?=some z) (hu:u∈x):u<=z:=by
 have inc:=G.ords.1 x (ZD h)
 obtain ⟨i,hi,e⟩:=List.getElem_of_mem hu
 rw [List.getLast?_eq_getElem?] at hz
 obtain ⟨hj,e2⟩:=ZB.mp hz
 rcases Nat.lt_or_ge i (x.length - 1) with h1 | h1
 .have:=List.pairwise_iff_getElem.mp inc i (x.length - 1) hi hj h1
  lia
 .have:i=x.length - 1:=by lia
  subst this
  lia
theorem Geo.ge_head {k z u:Nat} {x:List Nat} (h:(AC lv P)[k]?=some x) (hz:x.head?=some z) (hu:u∈x):z<=u:=by
 have inc:=G.ords.1 x (ZD h)
 cases x with
 | nil=>cases hu
 | cons a x =>
  cases hz
  rcases List.mem_cons.mp hu with rfl | hu
  .exact Nat.le_refl _
  .exact Nat.le_of_lt ((List.pairwise_cons.mp inc).1 u hu)
omit G in
theorem DK {x:List Nat} (h:x≠[]):∃ a,x.head?=some a:=⟨_,List.head?_eq_some_head h⟩
omit G in
theorem Gd {x:List Nat} (h:x≠[]):∃ a,x.getLast?=some a:=⟨_,List.getLast?_eq_some_getLast h⟩
theorem Geo.ret {k z e:Nat} {x:List Nat} (hx:(AC lv P)[k]?=some x) (hz:x.getLast?=some z) (hi:isIso (row.getD z 0)=true) (he:endOf row z=some e) :
  ∃ k' y,k<k'/\(AC lv P)[k']?=some y/\y.head?=some e/\lv e=lv z:=by
 have ne:=Cf lv P
 obtain ⟨hze,h22⟩:=Ej he
 have zx:=BU hz
 obtain ⟨c,hc,_⟩:=(G.mem z).mp (G.inP hx zx)
 rw [Ai hc] at hi
 obtain ⟨w1,w2⟩:=G.ways z e c hc hi he
 obtain ⟨k',y,hy,ey⟩:=G.inRun ((G.mem e).mpr ⟨22,h22,by decide⟩)
 have hkk:k<k':=by
  rcases Nat.lt_trichotomy k k' with h | h | h
  .exact h
  .subst h
   rw [hx] at hy
   cases hy
   have:=G.le_last hx hz ey
   lia
  .have:=G.ord hy hx h e ey z zx
   lia
 refine ⟨k',y,hkk,hy,?_,w1.symm⟩
 have hk'l:=(ZB.mp hy).1
 obtain ⟨a,ha⟩:=DK (ne y (ZD hy))
 by_cases hae:a=e
 .rw [ha,hae]
 .exfalso
  have ale:=G.ge_head hy ha ey
  have ay:=Al ha
  have az:=G.ord hx hy hkk z zx a ay
  have lae:=G.lvl hy ay ey
  rcases w2 with w2 | w2
  .obtain ⟨y1,hy1⟩:∃ y1,(AC lv P)[k+1]?=some y1:=⟨_,ZA (by lia)⟩
   obtain ⟨h1,hh1⟩:=DK (ne y1 (ZD hy1))
   have h1m:=Al hh1
   have d:=G.step hx hy1 zx h1m
   refine d (w2 h1 ?_ ?_)
   .exact Nat.le_of_lt (G.ord hx hy1 (Nat.lt_succ_self _) z zx h1 h1m)
   .rcases Nat.lt_or_ge (k+1) k' with q | q
    .exact Nat.le_of_lt (G.ord hy1 hy q h1 h1m e ey)
    .have:k+1=k':=by lia
     subst this
     rw [hy1] at hy
     cases hy
     exact G.ge_head hy1 hh1 ey
  .have:=w2 a (by lia) (by lia)
   lia
theorem Geo.prev {k z e c:Nat} {y:List Nat} (hy:(AC lv P)[k]?=some y) (hh:y.head?=some e) (hc:row[z]?=some c) (hi:isIso c=true) (he:endOf row z=some e) :
  ∃ j x,j<k/\(AC lv P)[j]?=some x/\x.getLast?=some z:=by
 have ne:=Cf lv P
 obtain ⟨hze,h22⟩:=Ej he
 have ey:=Al hh
 obtain ⟨w1,w2⟩:=G.ways z e c hc hi he
 obtain ⟨j,x,hx,zx⟩:=G.inRun ((G.mem z).mpr ⟨c,hc,S1 hi⟩)
 have hjk:j<k:=by
  rcases Nat.lt_trichotomy j k with h | h | h
  .exact h
  .subst h
   rw [hx] at hy
   cases hy
   have:=G.ge_head hx hh zx
   lia
  .have:=G.ord hy hx h e ey z zx
   lia
 refine ⟨j,x,hjk,hx,?_⟩
 have hkl:=(ZB.mp hy).1
 obtain ⟨b,hb⟩:=Gd (ne x (ZD hx))
 by_cases hbz:b=z
 .rw [hb,hbz]
 .exfalso
  have ble:=G.le_last hx hb zx
  have bx:=BU hb
  have lbz:=G.lvl hx bx zx
  have be:=G.ord hx hy hjk b bx e ey
  rcases w2 with w2 | w2
  .obtain ⟨k0,rfl⟩:∃ k0,k=k0+1:=⟨k - 1,by lia⟩
   obtain ⟨y1,hy1⟩:∃ y1,(AC lv P)[k0]?=some y1:=⟨_,ZA (by lia)⟩
   obtain ⟨h1,hh1⟩:=Gd (ne y1 (ZD hy1))
   have h1m:=BU hh1
   have d:=G.step hy1 hy h1m ey
   have hle:z<=h1:=by
    rcases Nat.lt_or_ge j k0 with q | q
    .exact Nat.le_of_lt (G.ord hx hy1 q z zx h1 h1m)
    .have:j=k0:=by lia
     subst this
     rw [hy1] at hx
     cases hx
     exact G.le_last hy1 hh1 zx
   have hlt:=G.ord hy1 hy (Nat.lt_succ_self _) h1 h1m e ey
   have:=w2 h1 hle (Nat.le_of_lt hlt)
   exact d (by rw [this,w1])
  .have:=w2 b (by lia) be
   lia
end
noncomputable def FS (row:List Nat) (rs:List (List Nat)) (k:Nat):Option Nat:=match (rs.getD k []).getLast? with
 | none=>none
 | some z=>if isIso (row.getD z 0)=true then (match endOf row z with
  | none=>none
  | some e=>rs.findIdx? fun y=>y.head?==some e) else none
theorem getD_some {α:Type} {l:List α} {i:Nat} {c d:α} (h:l[i]?=some c):l.getD i d=c:=by
 rw [List.getD_eq_getElem?_getD,h]
 rfl
section
variable {row:List Nat} {lv:Nat->Nat} {P:List Nat} (G:Geo row lv P)
include G
theorem Geo.find {k e:Nat} {y:List Nat} (hy:(AC lv P)[k]?=some y) (hh:y.head?=some e):(AC lv P).findIdx? (fun y=>y.head?==some e)=some k/\(AC lv P).find? (fun y=>y.head?==some e)=some y:=by
 obtain ⟨hk,ek⟩:=ZB.mp hy
 have h1:(AC lv P).findIdx? (fun y=>y.head?==some e)=some k:=by
  rw [List.findIdx?_eq_some_iff_getElem]
  refine ⟨hk,by rw [ek,hh];exact beq_self_eq_true _,fun j hj=>?_⟩
  intro z
  have z:=eq_of_beq z
  have hj':(AC lv P)[j]?=some (AC lv P)[j]:=ZA (by lia)
  have:=G.same hj' hy (Al z) (Al hh)
  lia
 refine ⟨h1,?_⟩
 rw [List.find?_eq_some_iff_getElem]
 refine ⟨by rw [hh];exact beq_self_eq_true _,k,hk,ek,fun j hj=>?_⟩
 have:=(List.findIdx?_eq_some_iff_getElem.mp h1)
 obtain ⟨_,_,f⟩:=this
 simpa using f j hj
theorem Geo.nx_go {k z e:Nat} {x:List Nat} (hx:(AC lv P)[k]?=some x) (hz:x.getLast?=some z) (hi:isIso (row.getD z 0)=true) (he:endOf row z=some e) :
  ∃ k' y,k<k'/\(AC lv P)[k']?=some y/\y.head?=some e/\lv e=lv z/\FS row (AC lv P) k=some k'/\(AC lv P).find? (fun y=>y.head?==some e)=some y:=by
 obtain ⟨k',y,a,b,c,d⟩:=G.ret hx hz hi he
 obtain ⟨f1,f2⟩:=G.find b c
 refine ⟨k',y,a,b,c,d,?_,f2⟩
 unfold FS
 rw [getD_some hx,hz]
 dsimp only
 rw [if_pos hi,he]
 exact f1
omit G in
theorem Kc {k:Nat} {x:List Nat} (hx:(AC lv P)[k]?=some x) (h:∀ z e,x.getLast?=some z->isIso (row.getD z 0)=true->endOf row z=some e->False):FS row (AC lv P) k=none:=by
 unfold FS
 rw [getD_some hx]
 cases hz:x.getLast? with
 | none=>rfl
 | some z =>
  dsimp only
  by_cases hi:isIso (row.getD z 0)=true
  .rw [if_pos hi]
   cases he:endOf row z with
   | none=>rfl
   | some e=>exact (h z e hz hi he).elim
  .rw [if_neg hi]
theorem Geo.nx_inv {k k':Nat} (h:FS row (AC lv P) k=some k'):∃ x z e y,(AC lv P)[k]?=some x/\x.getLast?=some z/\isIso (row.getD z 0)=true/\endOf row z=some e/\(AC lv P)[k']?=some y/\y.head?=some e/\k<k'/\lv e=lv z:=by
 cases hx:(AC lv P)[k]? with
 | none =>
  unfold FS at h
  rw [List.getD_eq_getElem?_getD,hx] at h
  cases h
 | some x =>
  cases hz:x.getLast? with
  | none =>
   rw [Kc hx (fun z e h1=>by rw [hz] at h1;cases h1)] at h
   cases h
  | some z =>
   by_cases hi:isIso (row.getD z 0)=true
   .cases he:endOf row z with
    | none =>
     rw [Kc hx (fun z' e h1 _ h3=>by rw [hz] at h1;cases h1;rw [he] at h3;cases h3)] at h
     cases h
    | some e =>
     obtain ⟨k'',y,a,b,c,d,f,_⟩:=G.nx_go hx hz hi he
     rw [f] at h
     cases h
     exact ⟨x,z,e,y,rfl,hz,hi,he,b,c,a,d⟩
   .rw [Kc hx (fun z' e h1 h2=>by rw [hz] at h1;cases h1;exact absurd h2 hi)] at h
    cases h
theorem Geo.up (a b:Nat) (h:FS row (AC lv P) a=some b):a<b/\b<(AC lv P).length:=by
 obtain ⟨x,z,e,y,_,_,_,_,hy,_,hab,_⟩:=G.nx_inv h
 exact ⟨hab,(ZB.mp hy).1⟩
omit G in
theorem Fw:∀ (l:List Nat) (i d d' e:Nat),matching l i d=some e->matching l i d'=some e->d=d'
 | [],i,d,d',e,h,_=>by cases h
 | c::r,i,d,d',e,h,h'=>by
  by_cases hc:isIso c=true
  .rw [FR r i _ hc] at h h'
   have:=Fw r _ _ _ _ h h'
   lia
  .by_cases hp:c=22
   .cases d with
    | zero =>
     cases d' with
     | zero=>rfl
     | succ d' =>
      rw [DU r i hp] at h
      rw [FI r i _ hp] at h'
      have:=(K4 _ _ _ _ h').1
      cases h
      lia
    | succ d =>
     cases d' with
     | zero =>
      rw [DU r i hp] at h'
      rw [FI r i _ hp] at h
      have:=(K4 _ _ _ _ h).1
      cases h'
      lia
     | succ d' =>
      rw [FI r i _ hp] at h h'
      have:=Fw r _ _ _ _ h h'
      lia
   .rw [DD r i _ hc hp] at h h'
    exact Fw r _ _ _ _ h h'
omit G in
theorem QV:∀ (n:Nat) (l:List Nat) (i d e:Nat),matching l i d=some e->i+n<=e->∃ d',matching (l.drop n) (i+n) d'=some e/\(∀ c,l[n]?=some c->True)
 | 0,l,i,d,e,h,_=>⟨d,h,fun _ _=>trivial⟩
 | n+1,[],i,d,e,h,_=>by cases h
 | n+1,c::r,i,d,e,h,hn=>by
  have go:∀ d',matching r (i+1) d'=some e->∃ d',matching ((c::r).drop (n+1)) (i+(n+1)) d'=some e/\(∀ c',(c::r)[n+1]?=some c'->True):=fun d' h'=>by
   obtain ⟨d2,a,_⟩:=QV n r (i+1) d' e h' (by lia)
   refine ⟨d2,?_,fun _ _=>trivial⟩
   rw [List.drop_succ_cons,show i+(n+1)=i+1+n by lia]
   exact a
  by_cases hc:isIso c=true
  .rw [FR r i _ hc] at h
   exact go _ h
  .by_cases hp:c=22
   .cases d with
    | zero =>
     rw [DU r i hp] at h
     cases h
     lia
    | succ d =>
     rw [FI r i _ hp] at h
     exact go _ h
   .rw [DD r i _ hc hp] at h
    exact go _ h
omit G in
theorem Ov {row:List Nat} {a b e c:Nat} (hc:row[b]?=some c) (hi:isIso c=true) (ha:endOf row a=some e) (hb:endOf row b=some e) (h:a<b):False:=by
 have hbe:=(Ej hb).1
 unfold endOf at ha hb
 obtain ⟨d',h1,_⟩:=QV (b - (a+1)) _ _ _ _ ha (by lia)
 rw [List.drop_drop,show a+1+(b - (a+1))=b by lia,AZ hc,FR _ _ _ hi] at h1
 have:=Fw _ _ _ _ _ h1 hb
 lia
theorem Geo.inj (a b c:Nat) (ha:FS row (AC lv P) a=some c) (hb:FS row (AC lv P) b=some c):a=b:=by
 obtain ⟨x,z,e,y,hx,hz,hi,he,hy,hh,_⟩:=G.nx_inv ha
 obtain ⟨x',z',e',y',hx',hz',hi',he',hy',hh',_⟩:=G.nx_inv hb
 rw [hy] at hy'
 cases hy'
 rw [hh] at hh'
 cases hh'
 obtain ⟨c1,hc1,_⟩:=(G.mem z).mp (G.inP hx (BU hz))
 obtain ⟨c2,hc2,_⟩:=(G.mem z').mp (G.inP hx' (BU hz'))
 rw [Ai hc1] at hi
 rw [Ai hc2] at hi'
 rcases Nat.lt_trichotomy z z' with h | h | h
 .exact (Ov hc2 hi' he he' h).elim
 .subst h
  exact G.same hx hx' (BU hz) (BU hz')
 .exact (Ov hc1 hi he' he h).elim
theorem Geo.start {k:Nat} {x:List Nat} (hx:(AC lv P)[k]?=some x):D5 row x=true↔∀ i,FS row (AC lv P) i≠some k:=by
 obtain ⟨q,hq⟩:=DK (Cf lv P x (ZD hx))
 obtain ⟨c,hc,_⟩:=(G.mem q).mp (G.inP hx (Al hq))
 unfold D5
 rw [hq]
 dsimp only
 rw [Ai hc,Bool.not_eq_true',Bool.and_eq_false_iff]
 constructor
 .intro h i hi
  obtain ⟨x1,z,e,y,hx1,hz,hiz,he,hy,hh,hlt,_⟩:=G.nx_inv hi
  rw [hx] at hy
  cases hy
  rw [hq] at hh
  cases hh
  obtain ⟨hze,h22⟩:=Ej he
  rw [hc] at h22
  cases h22
  obtain ⟨c1,hc1,_⟩:=(G.mem z).mp (G.inP hx1 (BU hz))
  rw [Ai hc1] at hiz
  have:endsIso row q=true:=(EG row q).mpr ⟨z,c1,hze,hc1,hiz,he⟩
  rcases h with h | h
  .exact absurd h (by decide)
  .rw [this] at h
   cases h
 .intro h
  by_cases h22:c=22
  .right
   rw [Bool.eq_false_iff]
   intro hE
   obtain ⟨z,c1,hzq,hc1,hi1,he1⟩:=(EG row q).mp hE
   obtain ⟨j,x1,hjk,hx1,hz1⟩:=G.prev hx hq hc1 hi1 he1
   obtain ⟨k',y,_,b,c',_,f,_⟩:=G.nx_go hx1 hz1 (by rw [Ai hc1];exact hi1) he1
   have:k'=k:=G.same b hx (Al c') (Al hq)
   exact h j (by rw [f,this])
  .left
   exact beq_eq_false_iff_ne.mpr h22
theorem Geo.chain {f:Nat}:∀ {k:Nat} {x:List Nat},(AC lv P)[k]?=some x->Bm row (AC lv P) f x=(BO (FS row (AC lv P)) f k).flatMap fun j=>(AC lv P).getD j []:=by
 induction f with
 | zero =>
  intro k x hx
  show x=[k].flatMap _
  simp [hx]
 | succ f ih =>
  intro k x hx
  have stay:FS row (AC lv P) k=none->x=(BO (FS row (AC lv P)) (f+1) k).flatMap fun j=>(AC lv P).getD j []:=fun h=>by
   rw [Ei h]
   simp [hx]
  unfold Bm
  cases hz:x.getLast? with
  | none=>exact stay (Kc hx fun z e h1=>by rw [hz] at h1;cases h1)
  | some z =>
   dsimp only
   by_cases hi:isIso (row.getD z 0)=true
   .rw [if_pos hi]
    cases he:endOf row z with
    | none=>exact stay (Kc hx fun z' e h1 _ h3=>by rw [hz] at h1;cases h1;rw [he] at h3;cases h3)
    | some e =>
     obtain ⟨k',y,_,b,_,_,n,f2⟩:=G.nx_go hx hz hi he
     dsimp only
     rw [f2]
     dsimp only
     rw [ih b,Em n,List.flatMap_cons,getD_some hx]
   .rw [if_neg hi]
    exact stay (Kc hx fun z' e h1 h2=>by rw [hz] at h1;cases h1;exact absurd h2 hi)
theorem Geo.go {f k z e:Nat} {x:List Nat} (hx:(AC lv P)[k]?=some x) (hf:(AC lv P).length<=f+k) (hz:x.getLast?=some z) (hi:isIso (row.getD z 0)=true) (he:endOf row z=some e) :
  ∃ k' y f',k<k'/\(AC lv P)[k']?=some y/\y.head?=some e/\lv e=lv z/\(AC lv P).length<=f'+k'/\Bm row (AC lv P) f x=x++Bm row (AC lv P) f' y:=by
 have hk:=(ZB.mp hx).1
 obtain ⟨f,rfl⟩:∃ f',f=f'+1:=⟨f - 1,by lia⟩
 obtain ⟨k',y,a,b,c,d,n,f2⟩:=G.nx_go hx hz hi he
 refine ⟨k',y,f,a,b,c,d,by lia,?_⟩
 show (match x.getLast? with
  | none=>x
  | some z=>if isIso (row.getD z 0)=true then (match endOf row z with
    | none=>x
    | some e=>match (AC lv P).find? fun (y:List Nat)=>y.head?==some e with
     | some y=>x++Bm row (AC lv P) f y
     | none=>x)
   else x)=_
 rw [hz]
 dsimp only
 rw [if_pos hi,he]
 dsimp only
 rw [f2]
omit G in
theorem Mu {rs:List (List Nat)} {f:Nat} {x:List Nat} (h:∀ z e,x.getLast?=some z->isIso (row.getD z 0)=true->endOf row z=some e->False):Bm row rs f x=x:=by
 cases f with
 | zero=>rfl
 | succ f =>
  unfold Bm
  cases hz:x.getLast? with
  | none=>rfl
  | some z =>
   dsimp only
   by_cases hi:isIso (row.getD z 0)=true
   .rw [if_pos hi]
    cases he:endOf row z with
    | none=>rfl
    | some e=>exact (h z e hz hi he).elim
   .rw [if_neg hi]
theorem Geo.chain_lv {f:Nat}:∀ {k a u:Nat} {x:List Nat},(AC lv P)[k]?=some x->a∈x->u∈Bm row (AC lv P) f x->lv u=lv a:=by
 induction f with
 | zero=>intro k a u x hx ha hu;exact G.lvl hx hu ha
 | succ f ih =>
  intro k a u x hx ha hu
  by_cases h:∀ z e,x.getLast?=some z->isIso (row.getD z 0)=true->endOf row z=some e->False
  .rw [Mu h] at hu
   exact G.lvl hx hu ha
  .have:∃ z e,x.getLast?=some z/\isIso (row.getD z 0)=true/\endOf row z=some e:=Classical.byContradiction fun n=>h fun z e a b c=>n ⟨z,e,a,b,c⟩
   obtain ⟨z,e,hz,hi,he⟩:=this
   obtain ⟨k',y,q,b,c,d,n,f2⟩:=G.nx_go hx hz hi he
   unfold Bm at hu
   rw [hz] at hu
   dsimp only at hu
   rw [if_pos hi,he] at hu
   dsimp only at hu
   rw [f2] at hu
   dsimp only at hu
   rcases List.mem_append.mp hu with hu | hu
   .exact G.lvl hx hu ha
   .rw [ih b (Al c) hu,d]
    exact G.lvl hx (BU hz) ha
omit G in
theorem M8 {rs:List (List Nat)} {f:Nat} {x:List Nat} (h:x≠[]):∃ t,Bm row rs f x=x++t:=by
 cases f with
 | zero=>exact ⟨[],(List.append_nil x).symm⟩
 | succ f =>
  unfold Bm
  cases x.getLast? with
  | none=>exact ⟨[],(List.append_nil x).symm⟩
  | some z =>
   dsimp only
   split
   .cases endOf row z with
    | none=>exact ⟨[],(List.append_nil x).symm⟩
    | some e =>
     dsimp only
     split
     .exact ⟨_,rfl⟩
     .exact ⟨[],(List.append_nil x).symm⟩
   .exact ⟨[],(List.append_nil x).symm⟩
noncomputable def I0 (row:List Nat) (rs:List (List Nat)):List Nat:=(List.range rs.length).filter fun k=>D5 row (rs.getD k [])
omit G in
theorem Nz {α:Type} (p:α->Bool) (d:α):∀ l:List α,l.filter p=((List.range l.length).filter fun k=>p (l.getD k d)).map fun k=>l.getD k d:=by
 intro l
 have e:l=(List.range l.length).map fun k=>l.getD k d:=by
  refine List.ext_getElem? fun i=>?_
  rw [List.getElem?_map]
  by_cases h:i<l.length
  .rw [List.getElem?_range h,ZA h]
   show _=some (l.getD i d)
   rw [getD_some (ZA h)]
  .rw [List.getElem?_eq_none (by lia),List.getElem?_eq_none (by simp;lia)]
   rfl
 conv=>lhs;rw [e]
 rw [List.filter_map]
 rfl
theorem Geo.seqs:GA row (AC lv P)=(I0 row (AC lv P)).map fun s=>(BO (FS row (AC lv P)) (AC lv P).length s).flatMap fun j=>(AC lv P).getD j []:=by
 unfold GA I0
 rw [Nz (D5 row) [] (AC lv P),List.map_map]
 refine List.map_congr_left fun s hs=>?_
 have hs:=List.mem_range.mp (List.mem_filter.mp hs).1
 have h:(AC lv P)[s]?=some ((AC lv P).getD s []):=by rw [getD_some (ZA hs),ZA hs]
 exact G.chain h
theorem Geo.flat:(GA row (AC lv P)).flatten=((I0 row (AC lv P)).flatMap fun s=>BO (FS row (AC lv P)) (AC lv P).length s).flatMap fun j=>(AC lv P).getD j []:=by
 rw [G.seqs,List.flatMap_assoc]
 rw [List.flatMap_def]
theorem Geo.cover (i:Nat):i∈(GA row (AC lv P)).flatten↔i∈P:=by
 rw [G.flat,List.mem_flatMap]
 constructor
 .rintro ⟨j,_,hj⟩
  cases h:(AC lv P)[j]? with
  | none =>
   rw [List.getD_eq_getElem?_getD,h] at hj
   cases hj
  | some x =>
   rw [getD_some h] at hj
   exact G.inP h hj
 .intro h
  obtain ⟨k,x,hx,hi⟩:=G.inRun h
  have hk:=(ZB.mp hx).1
  obtain ⟨s,a,b,c⟩:=Pj G.up k hk
  have hs:(AC lv P)[s]?=some ((AC lv P).getD s []):=by rw [getD_some (ZA a),ZA a]
  refine ⟨k,List.mem_flatMap.mpr ⟨s,?_,c⟩,by rw [getD_some hx];exact hi⟩
  exact List.mem_filter.mpr ⟨List.mem_range.mpr a,(G.start hs).mpr b⟩
theorem Geo.once:(GA row (AC lv P)).flatten.Nodup:=by
 rw [G.flat]
 have hst:∀ s∈I0 row (AC lv P),s<(AC lv P).length/\∀ i,FS row (AC lv P) i≠some s:=fun s hs=>by
  obtain ⟨h1,h2⟩:=List.mem_filter.mp hs
  have h1:=List.mem_range.mp h1
  have h:(AC lv P)[s]?=some ((AC lv P).getD s []):=by rw [getD_some (ZA h1),ZA h1]
  exact ⟨h1,(G.start h).mp h2⟩
 have hJ:((I0 row (AC lv P)).flatMap fun s=>BO (FS row (AC lv P)) (AC lv P).length s).Nodup:=by
  refine List.pairwise_flatMap.mpr ⟨fun s _=>Kh G.up _ s,?_⟩
  have nd:(I0 row (AC lv P)).Nodup:=List.Pairwise.filter _ List.nodup_range
  refine List.Pairwise.imp_of_mem (fun {s t} hs ht ne u hu v hv huv=>?_) nd
  subst huv
  exact ne (Ru G.up G.inj (hst s hs).2 (hst t ht).2 u hu hv)
 refine List.pairwise_flatMap.mpr ⟨fun j _=>?_,?_⟩
 .cases h:(AC lv P)[j]? with
  | none =>
   rw [List.getD_eq_getElem?_getD,h]
   exact List.Pairwise.nil
  | some x =>
   rw [getD_some h]
   exact (G.ords.1 x (ZD h)).imp fun h=>Nat.ne_of_lt h
 .refine List.Pairwise.imp (fun {a b} ne u hu v hv huv=>?_) hJ
  subst huv
  cases ha:(AC lv P)[a]? with
  | none=>rw [List.getD_eq_getElem?_getD,ha] at hu;cases hu
  | some x =>
   cases hb:(AC lv P)[b]? with
   | none=>rw [List.getD_eq_getElem?_getD,hb] at hv;cases hv
   | some y =>
    rw [getD_some ha] at hu
    rw [getD_some hb] at hv
    exact ne (G.same ha hb hu hv)
theorem Geo.parts {k:Nat}:P=((AC lv P).take k).flatten++((AC lv P).drop k).flatten:=by
 rw [<-List.flatten_append,List.take_append_drop,Cs]
theorem Geo.before {k a:Nat} {x:List Nat} (hx:(AC lv P)[k]?=some x) (ha:x.head?=some a) (b:Nat) :
  (((P.filter fun q=>decide (q<a)).getLast?).map lv).getD b=if k=0 then b else lv (((AC lv P).getD (k - 1) []).headD 0):=by
 have ne:=Cf lv P
 have hk:=(ZB.mp hx).1
 have e:(P.filter fun q=>decide (q<a))=((AC lv P).take k).flatten:=by
  conv=>lhs;rw [G.parts (k:=k)]
  rw [List.filter_append]
  have h1:((AC lv P).take k).flatten.filter (fun q=>decide (q<a))=((AC lv P).take k).flatten:=by
   rw [List.filter_eq_self]
   intro q hq
   obtain ⟨y,hy,hq⟩:=List.mem_flatten.mp hq
   obtain ⟨j,hj⟩:=List.mem_iff_getElem?.mp hy
   rw [List.getElem?_take] at hj
   split at hj
   .rename_i hjk
    exact decide_eq_true (G.ord hj hx hjk q hq a (Al ha))
   .cases hj
  have h2:((AC lv P).drop k).flatten.filter (fun q=>decide (q<a))=[]:=by
   rw [List.filter_eq_nil_iff]
   intro q hq
   obtain ⟨y,hy,hq⟩:=List.mem_flatten.mp hq
   obtain ⟨j,hj⟩:=List.mem_iff_getElem?.mp hy
   rw [List.getElem?_drop] at hj
   have:a<=q:=by
    cases j with
    | zero =>
     rw [Nat.add_zero,hx] at hj
     cases hj
     exact G.ge_head hx ha hq
    | succ j=>exact Nat.le_of_lt (G.ord hx hj (by lia) a (Al ha) q hq)
   simpa using this
  rw [h1,h2,List.append_nil]
 rw [e]
 cases k with
 | zero=>rfl
 | succ k =>
  rw [if_neg (by lia)]
  obtain ⟨y,hy⟩:∃ y,(AC lv P)[k]?=some y:=⟨_,ZA (by lia)⟩
  rw [PJ (by lia) ne hy]
  obtain ⟨u,hu⟩:=Gd (ne y (ZD hy))
  obtain ⟨v,hv⟩:=DK (ne y (ZD hy))
  rw [hu,show k+1 - 1=k by lia,getD_some hy]
  show lv u=lv (y.headD 0)
  rw [List.headD_eq_head?_getD,hv]
  exact G.lvl hy (BU hu) (Al hv)
theorem Geo.behind {k z:Nat} {x:List Nat} (hx:(AC lv P)[k]?=some x) (hz:x.getLast?=some z) (b:Nat) :
  ((P.find? fun q=>decide (z<q)).map lv).getD b=if k+1=(AC lv P).length then b else lv (((AC lv P).getD (k+1) []).headD 0):=by
 have ne:=Cf lv P
 have hk:=(ZB.mp hx).1
 have e:(P.find? fun q=>decide (z<q))=((AC lv P).drop (k+1)).flatten.head?:=by
  conv=>lhs;rw [G.parts (k:=k+1)]
  rw [List.find?_append]
  have h1:((AC lv P).take (k+1)).flatten.find? (fun q=>decide (z<q))=none:=by
   rw [List.find?_eq_none]
   intro q hq
   obtain ⟨y,hy,hq⟩:=List.mem_flatten.mp hq
   obtain ⟨j,hj⟩:=List.mem_iff_getElem?.mp hy
   rw [List.getElem?_take] at hj
   split at hj
   .rename_i hjk
    have:q<=z:=by
     rcases Nat.lt_or_ge j k with h | h
     .exact Nat.le_of_lt (G.ord hj hx h q hq z (BU hz))
     .have:j=k:=by lia
      subst this
      rw [hx] at hj
      cases hj
      exact G.le_last hx hz hq
    simpa using this
   .cases hj
  rw [h1,Option.none_or]
  cases hd:((AC lv P).drop (k+1)).flatten with
  | nil=>rfl
  | cons q r =>
   have hq:q∈((AC lv P).drop (k+1)).flatten:=by rw [hd];exact .head _
   obtain ⟨y,hy,hq⟩:=List.mem_flatten.mp hq
   obtain ⟨j,hj⟩:=List.mem_iff_getElem?.mp hy
   rw [List.getElem?_drop] at hj
   have:=G.ord hx hj (by lia) z (BU hz) q hq
   rw [List.find?_cons_of_pos (by simpa using this)]
   rfl
 rw [e]
 by_cases hl:k+1=(AC lv P).length
 .rw [if_pos hl,List.drop_eq_nil_of_le (by lia)]
  rfl
 .rw [if_neg hl]
  obtain ⟨y,hy⟩:∃ y,(AC lv P)[k+1]?=some y:=⟨_,ZA (by lia)⟩
  rw [Kk ne hy,getD_some hy]
  obtain ⟨v,hv⟩:=DK (ne y (ZD hy))
  rw [List.headD_eq_head?_getD,hv]
  rfl
end
noncomputable def QB (l:List Look) (i:Nat):Option (Nat×Bool):=(l[i]?).bind Look.bracket
noncomputable def GY (l:List Look) (b i:Nat):Item:=⟨i,DX (l.map Look.cls) b i,Kb (l.map Look.cls) b i,(l.map Look.cls).getD i 0,QB l i⟩
theorem Gy {α β:Type} (f:α->Option β) (p:α->Bool) (g:α->β):∀ l:List α,(∀ a∈l,f a=if p a=true then some (g a) else none)->l.filterMap f=(l.filter p).map g
 | [],_=>rfl
 | a::l,h=>by
  have ih:=Gy f p g l fun x hx=>h x (.tail _ hx)
  have ha:=h a (.head _)
  by_cases hp:p a=true
  .rw [if_pos hp] at ha
   rw [List.filterMap_cons_some ha,ih,List.filter_cons_of_pos hp,List.map_cons]
  .rw [if_neg hp] at ha
   rw [List.filterMap_cons_none ha,ih,List.filter_cons_of_neg hp]
theorem L6 (l:List Look) (b:Nat) (h:∀ c∈l.map Look.cls,c≠10):itemsOf l b=(FJ (l.map Look.cls)).map (GY l b):=by
 unfold itemsOf FJ
 dsimp only
 rw [ZE]
 refine Gy _ _ _ _ fun i hi=>?_
 have hi:=List.mem_range.mp hi
 have h1:l[i]?=some l[i]:=ZA hi
 have h2:(l.map Look.cls)[i]?=some l[i].cls:=by rw [List.getElem?_map,h1];rfl
 obtain ⟨x,hx⟩:∃ x,(Ad (l.map Look.cls) (m0 b))[i]?=some x:=⟨_,ZA (by rw [Ef,ZE];exact hi)⟩
 have h3:=GB (l.map Look.cls) (m0 b) i h
 rw [h2,hx] at h3
 replace h3:(explicit (l.map Look.cls) (m0 b))[i]?=some (x.1,if Bj l[i].cls=true then none else some x.2):=h3
 unfold m0 at h3
 rw [h1,h3,Ai h2]
 by_cases ho:Bj l[i].cls=true
 .rw [if_pos ho]
  simp [ho]
 .rw [if_neg ho]
  simp only [ho]
  show some (⟨i,x.1,x.2,l[i].cls,l[i].bracket⟩:Item)=some (GY l b i)
  unfold GY DX Kb QB
  rw [hx,h1,Ai h2]
  rfl
noncomputable def brk (e bf:Nat) (brs:List (Option (Nat×Bool))) (firsts l:List Nat):List Nat:=match pairsOn (l.zip brs) 0 [] with
 | none=>l
 | some ps=>(ps.foldr insertPair []).foldl (onePair firsts e bf) l
noncomputable def MU (n bf bh:Nat) (brs:List (Option (Nat×Bool))) (firsts cls:List Nat):List Nat:=neutrals (n % 2) bh bf (brk (n % 2) bf brs firsts (weak bf cls))
structure Hb where
 level:Nat
 places:List Nat
 before:Nat
 behind:Nat
noncomputable def BZ (l:List Look) (b:Nat) (X:List Nat):Hb :=
 ⟨(X.head?.map (DX (l.map Look.cls) b)).getD b,X,(edges (l.map Look.cls) ((FJ (l.map Look.cls)).map (GY l b)) b (X.map (GY l b))).1,(edges (l.map Look.cls) ((FJ (l.map Look.cls)).map (GY l b)) b (X.map (GY l b))).2⟩
noncomputable def Ay (row:List Nat) (b:Nat):List (List Nat):=GA row (AC (DX row b) (FJ row))
noncomputable def FC (l:List Look) (b:Nat) (s:Hb):List Nat:=MU s.level s.before s.behind (s.places.map (QB l)) (s.places.map fun i=>(l.map Look.cls).getD i 0) (s.places.map (Kb (l.map Look.cls) b))
noncomputable def Dv (l:List Look) (b:Nat) (s:Hb):List (Nat×Nat):=(s.places.zip (FC l b s)).map fun q=>(q.1,levelOf s.level q.2)
theorem P9 (l:List Look) (b:Nat) (X:List Nat):solve (l.map Look.cls) ((FJ (l.map Look.cls)).map (GY l b)) b (X.map (GY l b))=Dv l b (BZ l b X):=by
 unfold solve Dv FC MU
 dsimp only
 have hn:(((X.map (GY l b)).head?).map Item.level).getD b=(BZ l b X).level:=by
  cases X <;> rfl
 rw [hn]
 have hb:∀ e bf c,brackets e bf (X.map (GY l b)) c=brk e bf (X.map (QB l)) (X.map fun i=>(l.map Look.cls).getD i 0) c:=fun e bf c=>by
  unfold brackets brk
  rw [List.map_map,List.map_map]
  rfl
 rw [hb,List.map_map,Ec]
 show ((X.map (GY l b)).zip _).map _=(X.zip _).map _
 rw [List.zip_map_left,List.map_map]
 rfl
theorem Hd (l:List Look) (b:Nat) (h:∀ c∈l.map Look.cls,c≠10):sequences (l.map Look.cls) (itemsOf l b)=(Ay (l.map Look.cls) b).map (·.map (GY l b)):=by
 rw [L6 l b h]
 exact Qm _ (DX (l.map Look.cls) b) (GY l b) (fun _=>rfl) (fun _=>rfl) (fun _=>rfl) _
noncomputable def known (l:List Look) (b:Nat):List (Nat×Nat):=(Ay (l.map Look.cls) b).flatMap fun X=>Dv l b (BZ l b X)
theorem LH (l:List Look) (told:Option Nat) (h:∀ c∈l.map Look.cls,c≠10):levels told l=fillLevels (known l (Dr.base told l)) l.length 0 (Dr.base told l):=by
 unfold levels
 dsimp only
 rw [Hd l _ h,L6 l _ h,List.flatMap_map]
 unfold known
 congr 2
 funext X
 exact P9 l _ X
theorem Pe (l:List Look) (b:Nat) {k kf a z:Nat} {x xf X:List Nat} (hx:(AC (DX (l.map Look.cls) b) (FJ (l.map Look.cls)))[k]?=some x) (ha:x.head?=some a) (hX:X.head?=some a)
  (hf:(AC (DX (l.map Look.cls) b) (FJ (l.map Look.cls)))[kf]?=some xf) (hz:xf.getLast?=some z) (hZ:X.getLast?=some z) (hl:DX (l.map Look.cls) b z=DX (l.map Look.cls) b a)
  (hn:∀ e,isIso ((l.map Look.cls).getD z 0)=true->endOf (l.map Look.cls) z≠some e) :
  BZ l b X=⟨DX (l.map Look.cls) b a,X,max (DX (l.map Look.cls) b a) (if k=0 then b else DX (l.map Look.cls) b (((AC (DX (l.map Look.cls) b) (FJ (l.map Look.cls))).getD (k - 1) []).headD 0)) % 2,
   max (DX (l.map Look.cls) b a) (if isIso ((l.map Look.cls).getD z 0)=true then b else if kf+1=(AC (DX (l.map Look.cls) b) (FJ (l.map Look.cls))).length then b else DX (l.map Look.cls) b (((AC (DX (l.map Look.cls) b) (FJ (l.map Look.cls))).getD (kf+1) []).headD 0)) % 2⟩:=by
 have G:=Geo.of (l.map Look.cls) b
 have h1:=G.before hx ha b
 have h2:=G.behind hf hz b
 have hed:edges (l.map Look.cls) ((FJ (l.map Look.cls)).map (GY l b)) b (X.map (GY l b))=(max (DX (l.map Look.cls) b a) (if k=0 then b else DX (l.map Look.cls) b (((AC (DX (l.map Look.cls) b) (FJ (l.map Look.cls))).getD (k - 1) []).headD 0)) % 2,
   max (DX (l.map Look.cls) b a) (if isIso ((l.map Look.cls).getD z 0)=true then b else if kf+1=(AC (DX (l.map Look.cls) b) (FJ (l.map Look.cls))).length then b else DX (l.map Look.cls) b (((AC (DX (l.map Look.cls) b) (FJ (l.map Look.cls))).getD (kf+1) []).headD 0)) % 2):=by
  unfold edges
  rw [List.head?_map,List.getLast?_map,hX,hZ]
  dsimp only [Option.map_some]
  have e1:((List.filter (fun (q:Item)=>decide (q.at_<(GY l b a).at_)) ((FJ (l.map Look.cls)).map (GY l b))).getLast?.map Item.level).getD b=(((FJ (l.map Look.cls)).filter fun q=>decide (q<a)).getLast?.map (DX (l.map Look.cls) b)).getD b:=by
   rw [filter_map (GY l b) _ (fun q=>decide (q<a)) (fun _=>rfl),List.getLast?_map,Option.map_map]
   rfl
  have e2:((List.find? (fun (q:Item)=>decide ((GY l b z).at_<q.at_)) ((FJ (l.map Look.cls)).map (GY l b))).map Item.level).getD b=(((FJ (l.map Look.cls)).find? fun q=>decide (z<q)).map (DX (l.map Look.cls) b)).getD b:=by
   rw [JN (GY l b) _ (fun q=>decide (z<q)) (fun _=>rfl),Option.map_map]
   rfl
  rw [e1,e2,h1,h2,Ec,Ec]
  have hlz:(GY l b z).level=DX (l.map Look.cls) b a:=hl
  have hla:(GY l b a).level=DX (l.map Look.cls) b a:=rfl
  rw [hlz,hla]
  have hc:(isIso (GY l b z).first=true/\(endOf (l.map Look.cls) (GY l b z).at_).isNone=true)↔isIso ((l.map Look.cls).getD z 0)=true:=by
   constructor
   .exact fun h=>h.1
   .intro h
    refine ⟨h,?_⟩
    show (endOf (l.map Look.cls) z).isNone=true
    cases he:endOf (l.map Look.cls) z with
    | none=>rfl
    | some e=>exact absurd he (hn e h)
  by_cases hi:isIso ((l.map Look.cls).getD z 0)=true
  .rw [if_pos (hc.mpr hi),if_pos hi]
  .rw [if_neg (fun q=>hi (hc.mp q)),if_neg hi]
 unfold BZ
 rw [hed,hX]
 rfl
noncomputable def BW (known:List (Nat×Nat)) (l:List Nat):List Nat:=known.foldl (fun l q=>l.set q.1 q.2) l
theorem GX:∀ (k:List (Nat×Nat)) (l:List Nat),(BW k l).length=l.length
 | [],l=>rfl
 | q::k,l=>by
  show (BW k (l.set q.1 q.2)).length=_
  rw [GX k,List.length_set]
theorem Hx:∀ (k:List (Nat×Nat)) (l:List Nat) (i:Nat),i∉k.map Prod.fst->(BW k l)[i]?=l[i]?
 | [],l,i,_=>rfl
 | q::k,l,i,h=>by
  show (BW k (l.set q.1 q.2))[i]?=_
  rw [Hx k _ i fun z=>h (.tail _ z),List.getElem?_set_ne]
  intro e
  exact h (e▸.head _)
theorem GU:∀ (k:List (Nat×Nat)) (l:List Nat) (i v:Nat),(k.map Prod.fst).Nodup->(i,v)∈k->i<l.length->(BW k l)[i]?=some v
 | [],l,i,v,_,h,_=>by cases h
 | q::k,l,i,v,nd,h,hl=>by
  show (BW k (l.set q.1 q.2))[i]?=_
  have nd:=List.nodup_cons.mp nd
  rcases List.mem_cons.mp h with h | h
  .subst h
   rw [Hx k _ i nd.1,List.getElem?_set_self hl]
  .exact GU k _ i v nd.2 h (by rw [List.length_set];exact hl)
noncomputable def kn (known:List (Nat×Nat)) (i:Nat):Option Nat:=(known.find? fun q=>q.1==i).map Prod.snd
theorem Qu {k:List (Nat×Nat)} (nd:(k.map Prod.fst).Nodup) {i v:Nat} (h:(i,v)∈k):kn k i=some v:=by
 induction k with
 | nil=>cases h
 | cons q k ih =>
  have nd:=List.nodup_cons.mp nd
  unfold kn
  rcases List.mem_cons.mp h with h | h
  .subst h
   rw [List.find?_cons_of_pos (by simp)]
   rfl
  .rw [List.find?_cons_of_neg]
   .exact ih nd.2 h
   .intro z
    have z:q.1=i:=eq_of_beq z
    exact nd.1 (z▸List.mem_map.mpr ⟨(i,v),h,rfl⟩)
theorem SQ {k:List (Nat×Nat)} {i:Nat} (h:i∉k.map Prod.fst):kn k i=none:=by
 unfold kn
 rw [List.find?_eq_none.mpr]
 .rfl
 .intro q hq z
  exact h (List.mem_map.mpr ⟨q,hq,eq_of_beq z⟩)
theorem KW {k:List (Nat×Nat)} (nd:(k.map Prod.fst).Nodup) (n b:Nat) {i:Nat} (hi:i<n):(BW k (List.replicate n b))[i]?=some ((kn k i).getD b):=by
 by_cases h:i∈k.map Prod.fst
 .obtain ⟨q,hq,e⟩:=List.mem_map.mp h
  subst e
  rw [GU k _ q.1 q.2 nd hq (by rw [List.length_replicate];exact hi),Qu nd hq]
  rfl
 .rw [Hx k _ i h,SQ h,List.getElem?_replicate,if_pos hi]
  rfl
theorem En (k:List (Nat×Nat)) (f i p:Nat):fillLevels k (f+1) i p=(kn k i).getD p::fillLevels k f (i+1) ((kn k i).getD p):=by
 unfold kn
 show (match k.find? fun (q:Nat×Nat)=>q.1==i with
  | some q=>q.2::fillLevels k f (i+1) q.2
  | none=>p::fillLevels k f (i+1) p)=_
 cases k.find? fun (q:Nat×Nat)=>q.1==i <;> rfl
structure FInv (k:List (Nat×Nat)) (n b i:Nat) (cur:List Nat):Prop where
 len:cur.length=n
 eq:∃ p,cur[i - 1]?=some p/\fillLevels k n 0 b=cur.take i++fillLevels k (n - i) i p
 hi:∀ j,i<=j->j<n->cur[j]?=some ((kn k j).getD b)
theorem FInv.start {k:List (Nat×Nat)} {n b:Nat} (hn:0<n) (nd:(k.map Prod.fst).Nodup):FInv k n b 1 (BW k (List.replicate n b)):=by
 have h0:=KW nd n b hn
 refine ⟨by rw [GX,List.length_replicate],⟨_,h0,?_⟩,fun j _ hj=>KW nd n b hj⟩
 obtain ⟨m,rfl⟩:∃ m,n=m+1:=⟨n - 1,by lia⟩
 rw [En,List.take_add_one,h0]
 rfl
theorem DZ {l:List Nat} {i v:Nat} (h:l[i]?=some v):l.take (i+1)=l.take i++[v]:=by
 rw [List.take_add_one,h]
 rfl
theorem FInv.out {k:List (Nat×Nat)} {n b i p:Nat} {cur:List Nat} (F:FInv k n b i cur) (h0:0<i) (hi:i<n) (hp:cur[i - 1]?=some p) (hk:kn k i=none):FInv k n b (i+1) (cur.set i p):=by
 obtain ⟨q,hq,he⟩:=F.eq
 rw [hp] at hq
 cases hq
 have hs:(cur.set i p)[i]?=some p:=List.getElem?_set_self (by rw [F.len];exact hi)
 refine ⟨by rw [List.length_set,F.len],⟨p,hs,?_⟩,fun j h1 h2=>?_⟩
 .obtain ⟨m,hm⟩:∃ m,n - i=m+1:=⟨n - i - 1,by lia⟩
  rw [he,hm,En,hk,DZ hs,show n - (i+1)=m by lia,List.take_set_of_le (Nat.le_refl _),List.append_assoc]
  rfl
 .rw [List.getElem?_set_ne (by lia)]
  exact F.hi j (by lia) h2
theorem FInv.stay {k:List (Nat×Nat)} {n b i v:Nat} {cur:List Nat} (F:FInv k n b i cur) (hi:i<n) (hk:kn k i=some v):FInv k n b (i+1) cur:=by
 obtain ⟨q,hq,he⟩:=F.eq
 have hs:=F.hi i (Nat.le_refl _) hi
 rw [hk] at hs
 refine ⟨F.len,⟨v,hs,?_⟩,fun j h1 h2=>F.hi j (by lia) h2⟩
 obtain ⟨m,hm⟩:∃ m,n - i=m+1:=⟨n - i - 1,by lia⟩
 rw [he,hm,En,hk,DZ hs,show n - (i+1)=m by lia,List.append_assoc]
 rfl
theorem FInv.done {k:List (Nat×Nat)} {n b:Nat} {cur:List Nat} (F:FInv k n b n cur):cur=fillLevels k n 0 b:=by
 obtain ⟨q,_,he⟩:=F.eq
 rw [he,Nat.sub_self,List.take_of_length_le (by rw [F.len];exact Nat.le_refl _)]
 show cur=cur++[]
 rw [List.append_nil]
theorem OX (e bf:Nat) (brs:List (Option (Nat×Bool))) (firsts l:List Nat):(brk e bf brs firsts l).length=l.length:=by
 have hset:∀ (l:List Nat) (i c:Nat),(setAt l i c).length=l.length:=fun l i c=>by
  unfold setAt
  rw [ZE,List.length_range]
 have hm:∀ (f i:Nat) (c:Nat) (l:List Nat),(marksBehind firsts c f i l).length=l.length:=by
  intro f
  induction f with
  | zero=>intro i c l;rfl
  | succ f ih =>
   intro i c l
   unfold marksBehind
   split
   .rw [ih,hset]
   .rfl
 have h1:∀ (l:List Nat) (p:Nat×Nat),(onePair firsts e bf l p).length=l.length:=fun l p=>by
  unfold onePair
  dsimp only
  split
  .rw [hm,hm,hset,hset]
  .split
   .rfl
   .rw [hm,hm,hset,hset]
 unfold brk
 cases pairsOn (l.zip brs) 0 [] with
 | none=>rfl
 | some ps =>
  dsimp only
  generalize ps.foldr insertPair []=qs
  induction qs generalizing l with
  | nil=>rfl
  | cons q qs ih =>
   rw [List.foldl_cons,ih,h1]
theorem KY (p:Nat) (l:List Nat):(weak p l).length=l.length:=by
 have w5:∀ l:List Nat,(Dr.w5 l).length=l.length:=fun l=>by
  unfold Dr.w5
  rw [List.length_reverse,DA,Az,List.length_reverse,DA,Az]
 unfold weak w6 w3
 rw [Iz,Az,ZE,w5,Gs,Az,ZE,Gn,Az,HG,Az]
theorem KO (n bf bh:Nat) (brs:List (Option (Nat×Bool))) (firsts cls:List Nat):(MU n bf bh brs firsts cls).length=cls.length:=by
 unfold MU
 rw [Da,OX,KY]
theorem Kz (l:List Look) (b:Nat):(known l b).map Prod.fst=(Ay (l.map Look.cls) b).flatten:=by
 unfold known
 rw [List.map_flatMap,<-List.flatMap_id']
 rw [List.flatMap_def,List.flatMap_def]
 congr 1
 refine List.map_congr_left fun X _=>?_
 unfold Dv FC
 rw [List.map_map]
 show (X.zip _).map Prod.fst=X
 rw [List.map_fst_zip]
 rw [KO,ZE]
 exact Nat.le_refl _
theorem IM (l:List Look) (b:Nat):((known l b).map Prod.fst).Nodup:=by
 rw [Kz]
 exact (Geo.of _ b).once
theorem Kd (l:List Look) (b i:Nat):i∈(known l b).map Prod.fst↔∃ c,(l.map Look.cls)[i]?=some c/\¬Bj c=true:=by
 rw [Kz]
 unfold Ay
 rw [(Geo.of _ b).cover,(Geo.of _ b).mem]
theorem Ss (l:List Look) (b:Nat) {i c:Nat} (hc:(l.map Look.cls)[i]?=some c) (ho:Bj c=true):kn (known l b) i=none:=by
 refine SQ fun h=>?_
 obtain ⟨d,hd,h⟩:=(Kd l b i).mp h
 rw [hc] at hd
 cases hd
 exact h ho
theorem UW (l:List Look) (b:Nat) {i c:Nat} (hc:(l.map Look.cls)[i]?=some c) (ho:¬Bj c=true):∃ v,kn (known l b) i=some v:=by
 have h:=(Kd l b i).mpr ⟨c,hc,ho⟩
 obtain ⟨q,hq,e⟩:=List.mem_map.mp h
 exact ⟨q.2,Qu (IM l b) (by rw [<-e];exact hq)⟩
noncomputable def prs (l:List Nat) (brs:List (Option (Nat×Bool))):List (Nat×Nat):=match pairsOn (l.zip brs) 0 [] with
 | none=>[]
 | some ps=>ps.foldr insertPair []
theorem Of (e bf:Nat) (brs:List (Option (Nat×Bool))) (firsts l:List Nat):brk e bf brs firsts l=(prs l brs).foldl (onePair firsts e bf) l:=by
 unfold brk prs
 cases pairsOn (l.zip brs) 0 [] <;> rfl
theorem D1 (l:List Nat) (i c:Nat):setAt l i c=l.set i c:=by
 refine List.ext_getElem? fun j=>?_
 unfold setAt
 rw [List.getElem?_map]
 by_cases h:j<l.length
 .rw [List.getElem?_range h]
  show some (if j=i then c else l.getD j cON)=_
  by_cases e:j=i
  .subst e
   rw [if_pos rfl,List.getElem?_set_self h]
  .rw [if_neg e,List.getElem?_set_ne (fun z=>e z.symm),ZA h,getD_some (ZA h)]
 .rw [List.getElem?_eq_none (by simp;lia),List.getElem?_eq_none (by simp;lia)]
  rfl
structure BrInv (l:List Nat) (brs:List (Option (Nat×Bool))) (i:Nat) (pile ps:List (Nat×Nat)):Prop where
 eq:pairsOn (l.zip brs) 0 []=(pairsOn ((l.zip brs).drop i) i pile).map (ps++·)
 pl:∀ x∈pile,x.2<i/\brs[x.2]?=some (some (x.1,true))
 nd:(pile.map Prod.snd).Nodup
 pn:(ps.map Prod.fst).Nodup
 pp:∀ x∈ps,x.1<i/\x.1<x.2/\x.2<i/\x.1∉pile.map Prod.snd
 le:pile.length<=63
theorem BrInv.start (l:List Nat) (brs:List (Option (Nat×Bool))):BrInv l brs 0 [] []:=by
 refine ⟨?_,(fun x h=>by cases h),List.nodup_nil,List.nodup_nil,(fun x h=>by cases h),by decide⟩
 rw [List.drop_zero]
 cases pairsOn (l.zip brs) 0 [] <;> rfl
theorem Ju {l:List Nat} {brs:List (Option (Nat×Bool))} {i c:Nat} {o:Option (Nat×Bool)} (hc:l[i]?=some c) (hb:brs[i]?=some o):(l.zip brs)[i]?=some (c,o):=by
 rw [List.getElem?_zip_eq_some]
 exact ⟨hc,hb⟩
section
variable {l:List Nat} {brs:List (Option (Nat×Bool))} {i c:Nat} {pile ps:List (Nat×Nat)}
theorem BrInv.widen (I:BrInv l brs i pile ps) (h:pairsOn ((l.zip brs).drop i) i pile=pairsOn ((l.zip brs).drop (i+1)) (i+1) pile):BrInv l brs (i+1) pile ps:=by
 refine ⟨by rw [I.eq,h],fun x hx=>?_,I.nd,I.pn,fun x hx=>?_,I.le⟩
 .obtain ⟨a,b⟩:=I.pl x hx
  exact ⟨by lia,b⟩
 .obtain ⟨a,b,d,e⟩:=I.pp x hx
  exact ⟨by lia,b,by lia,e⟩
theorem BrInv.skip {o:Option (Nat×Bool)} (I:BrInv l brs i pile ps) (hc:l[i]?=some c) (hb:brs[i]?=some o) (h:c≠13\/o=none):BrInv l brs (i+1) pile ps:=by
 refine I.widen ?_
 rw [AZ (Ju hc hb)]
 have e:(if c=cON then o else none)=none:=by
  rcases h with h | h
  .exact if_neg h
  .rw [h];split <;> rfl
 show (match (if c=cON then o else none) with
  | none=>pairsOn ((l.zip brs).drop (i+1)) (i+1) pile
  | some (k,true)=>_
  | some (k,false)=>_)=_
 rw [e]
theorem BrInv.full {k:Nat} (I:BrInv l brs i pile ps) (hc:l[i]?=some 13) (hb:brs[i]?=some (some (k,true))) (h:pile.length=63):prs l brs=[]:=by
 have e:pairsOn ((l.zip brs).drop i) i pile=none:=by
  rw [AZ (Ju hc hb)]
  show (if PILE<=pile.length then none else _)=none
  rw [if_pos (by rw [h];decide)]
 unfold prs
 rw [I.eq,e]
 rfl
theorem BrInv.opens {k:Nat} (I:BrInv l brs i pile ps) (hc:l[i]?=some 13) (hb:brs[i]?=some (some (k,true))) (h:¬pile.length=63):BrInv l brs (i+1) ((k,i)::pile) ps:=by
 have hle:=I.le
 have e:pairsOn ((l.zip brs).drop i) i pile=pairsOn ((l.zip brs).drop (i+1)) (i+1) ((k,i)::pile):=by
  rw [AZ (Ju hc hb)]
  show (if PILE<=pile.length then none else _)=_
  rw [if_neg (by unfold PILE;lia)]
 refine ⟨by rw [I.eq,e],fun x hx=>?_,?_,I.pn,fun x hx=>?_,by simp;lia⟩
 .rcases List.mem_cons.mp hx with rfl | hx
  .exact ⟨Nat.lt_succ_self _,hb⟩
  .obtain ⟨a,b⟩:=I.pl x hx
   exact ⟨by lia,b⟩
 .refine List.nodup_cons.mpr ⟨fun h=>?_,I.nd⟩
  obtain ⟨x,hx,e⟩:=List.mem_map.mp h
  have:=(I.pl x hx).1
  have e:x.2=i:=e
  lia
 .obtain ⟨a,b,d,e⟩:=I.pp x hx
  refine ⟨by lia,b,by lia,fun z=>?_⟩
  rcases List.mem_cons.mp z with z | z
  .have z:x.1=i:=z
   lia
  .exact e z
theorem BrInv.lone {k:Nat} (I:BrInv l brs i pile ps) (hc:l[i]?=some 13) (hb:brs[i]?=some (some (k,false))) (h:(pile.findIdx? fun x=>x.1==k)=none):BrInv l brs (i+1) pile ps:=by
 refine I.widen ?_
 rw [AZ (Ju hc hb)]
 show (match pile.findIdx? fun (x:Nat×Nat)=>x.1==k with
   | none=>pairsOn ((l.zip brs).drop (i+1)) (i+1) pile
   | some j=>_)=_
 rw [h]
theorem BrInv.closes {k j p:Nat} (I:BrInv l brs i pile ps) (hc:l[i]?=some 13) (hb:brs[i]?=some (some (k,false))) (h:(pile.findIdx? fun x=>x.1==k)=some j) (hp:(pile[j]?).map Prod.snd=some p) :
  BrInv l brs (i+1) (pile.drop (j+1)) (ps++[(p,i)]):=by
 cases hx:pile[j]? with
 | none=>rw [hx] at hp;cases hp
 | some x =>
  rw [hx] at hp
  have hp:x.2=p:=ZC hp
  have xm:x∈pile:=ZD hx
  have e:pairsOn ((l.zip brs).drop i) i pile=(pairsOn ((l.zip brs).drop (i+1)) (i+1) (pile.drop (j+1))).map fun l=>(p,i)::l:=by
   rw [AZ (Ju hc hb)]
   show (match pile.findIdx? fun (x:Nat×Nat)=>x.1==k with
   | none=>pairsOn ((l.zip brs).drop (i+1)) (i+1) pile
   | some j=>match pile[j]? with
    | none=>pairsOn ((l.zip brs).drop (i+1)) (i+1) pile
    | some x=>(pairsOn ((l.zip brs).drop (i+1)) (i+1) (pile.drop (j+1))).map fun (l:List (Nat×Nat))=>(x.2,i)::l)=_
   rw [h]
   dsimp only
   rw [hx,<-hp]
  have nd2:((pile.drop j).map Prod.snd).Nodup:=by
   rw [List.map_drop]
   exact I.nd.sublist (List.drop_sublist _ _)
  rw [AZ hx,List.map_cons,hp] at nd2
  have nd2:=List.nodup_cons.mp nd2
  have sub:∀ y∈pile.drop (j+1),y∈pile:=fun y hy=>List.mem_of_mem_drop hy
  refine ⟨?_,fun y hy=>?_,nd2.2,?_,fun y hy=>?_,?_⟩
  .rw [I.eq,e,Option.map_map]
   congr 1
   funext q
   show ps++(p,i)::q=_
   simp
  .obtain ⟨a,b⟩:=I.pl y (sub y hy)
   exact ⟨by lia,b⟩
  .rw [List.map_append]
   refine List.nodup_append.mpr ⟨I.pn,by simp,fun a ha b hb'=>?_⟩
   have hb':b=p:=by simpa using hb'
   obtain ⟨q,hq,rfl⟩:=List.mem_map.mp ha
   intro z
   refine (I.pp q hq).2.2.2 ?_
   rw [z,hb',<-hp]
   exact List.mem_map.mpr ⟨x,xm,rfl⟩
  .rcases List.mem_append.mp hy with hy | hy
   .obtain ⟨a,b,d,f⟩:=I.pp y hy
    refine ⟨by lia,b,by lia,fun z=>f ?_⟩
    obtain ⟨w,hw,e2⟩:=List.mem_map.mp z
    exact List.mem_map.mpr ⟨w,sub w hw,e2⟩
   .have hy:y=(p,i):=by simpa using hy
    subst hy
    have:=(I.pl x xm).1
    refine ⟨by show p<i+1;lia,by show p<i;lia,Nat.lt_succ_self _,nd2.1⟩
  .rw [List.length_drop]
   have:=I.le
   lia
theorem BrInv.done (I:BrInv l brs i pile ps) (h:(l.zip brs).length<=i):prs l brs=ps.foldr insertPair []/\(ps.map Prod.fst).Nodup:=by
 refine ⟨?_,I.pn⟩
 unfold prs
 rw [I.eq,List.drop_eq_nil_of_le h]
 show (match (some (ps++[]):Option (List (Nat×Nat))) with
 | none=>[]
 | some ps=>ps.foldr insertPair [])=_
 rw [List.append_nil]
end
theorem Jx (x:Nat×Nat):∀ l:List (Nat×Nat),(insertPair x l).Perm (x::l)
 | []=>List.Perm.refl _
 | y::r=>by
  unfold insertPair
  split
  .exact ((Jx x r).cons y).trans (List.Perm.swap x y r)
  .exact List.Perm.refl _
theorem Jf (x:Nat×Nat):∀ l:List (Nat×Nat),l.Pairwise (fun a b=>a.1<b.1)->x.1∉l.map Prod.fst->(insertPair x l).Pairwise (fun a b=>a.1<b.1)
 | [],_,_=>by simp [insertPair]
 | y::r,h,hn=>by
  have h:=List.pairwise_cons.mp h
  unfold insertPair
  split
  .rename_i hlt
   refine List.pairwise_cons.mpr ⟨fun z hz=>?_,Jf x r h.2 fun z=>hn (.tail _ z)⟩
   rcases List.mem_cons.mp ((Jx x r).mem_iff.mp hz) with rfl | hz
   .exact hlt
   .exact h.1 z hz
  .rename_i hge
   have hxy:x.1<y.1:=by
    have:x.1≠y.1:=fun z=>hn (by rw [z];exact .head _)
    lia
   refine List.pairwise_cons.mpr ⟨fun z hz=>?_,List.pairwise_cons.mpr h⟩
   rcases List.mem_cons.mp hz with rfl | hz
   .exact hxy
   .exact Nat.lt_trans hxy (h.1 z hz)
theorem Ft:∀ l:List (Nat×Nat),(l.foldr insertPair []).Perm l
 | []=>List.Perm.refl _
 | x::l=>(Jx x _).trans ((Ft l).cons x)
theorem IQ:∀ l:List (Nat×Nat),(l.map Prod.fst).Nodup->(l.foldr insertPair []).Pairwise (fun a b=>a.1<b.1)
 | [],_=>List.Pairwise.nil
 | x::l,h=>by
  have h:=List.nodup_cons.mp h
  refine Jf x _ (IQ l h.2) fun z=>h.1 ?_
  exact ((Ft l).map Prod.fst).mem_iff.mp z
theorem Jz:∀ (a b:List (Nat×Nat)),a.Perm b->a.Pairwise (fun a b=>a.1<b.1)->b.Pairwise (fun a b=>a.1<b.1)->a=b
 | [],b,h,_,_=>(List.nil_perm.mp h).symm
 | x::a,[],h,_,_=>by have:=h.length_eq;simp at this
 | x::a,y::b,h,h1,h2=>by
  have c1:=List.pairwise_cons.mp h1
  have c2:=List.pairwise_cons.mp h2
  have e:x=y:=by
   have hx:=h.mem_iff.mp (List.mem_cons_self:x∈x::a)
   have hy:=h.mem_iff.mpr (List.mem_cons_self:y∈y::b)
   rcases List.mem_cons.mp hx with hx | hx
   .exact hx
   .rcases List.mem_cons.mp hy with hy | hy
    .exact hy.symm
    .have:=c1.1 y hy
     have:=c2.1 x hx
     lia
  subst e
  rw [Jz a b (List.Perm.cons_inv h) c1.2 c2.2]
theorem PF {l s:List (Nat×Nat)} (h:s.Perm l) (nd:(l.map Prod.fst).Nodup) (hs:s.Pairwise (fun a b=>a.1<=b.1)):s=l.foldr insertPair []:=by
 refine Jz s _ (h.trans (Ft l).symm) ?_ (IQ l nd)
 have nd2:(s.map Prod.fst).Nodup:=(h.map Prod.fst).nodup_iff.mpr nd
 have nd3:s.Pairwise (fun a b=>a.1≠b.1):=List.pairwise_map.mp nd2
 exact (hs.and nd3).imp fun h=>Nat.lt_of_le_of_ne h.1 h.2
noncomputable def CG (l:List Nat) (p:Nat×Nat):List Nat:=((l.take p.2).drop (p.1+1)).filterMap dirOf
noncomputable def Ch (l:List Nat) (i bf:Nat):Nat:=(((l.take i).filterMap dirOf).getLast?).getD bf
noncomputable def DL (e bf:Nat) (l:List Nat) (p:Nat×Nat):Option Nat:=if (CG l p).contains e=true then some e else if (CG l p).isEmpty=true then none else some (Ch l p.1 bf)
noncomputable def HI (first:List Nat) (c i:Nat) (l:List Nat):List Nat:=marksBehind first c l.length (i+1) (l.set i c)
theorem Hu (first:List Nat) (c:Nat):∀ (f i:Nat) (l:List Nat),(marksBehind first c f i l).length=l.length
 | 0,i,l=>rfl
 | f+1,i,l=>by
  unfold marksBehind
  split
  .rw [Hu first c f,D1,List.length_set]
  .rfl
theorem NB (first:List Nat) (c i:Nat) (l:List Nat):(HI first c i l).length=l.length:=by
 unfold HI
 rw [Hu,List.length_set]
theorem KG (l:List Nat) (i j c:Nat):(l.set i c).set j c=(l.set j c).set i c:=by
 by_cases h:i=j
 .rw [h]
 .exact List.set_comm c c h
theorem Kn (first:List Nat) (c:Nat):∀ (f i j:Nat) (l:List Nat),(marksBehind first c f i l).set j c=marksBehind first c f i (l.set j c)
 | 0,i,j,l=>rfl
 | f+1,i,j,l=>by
  unfold marksBehind
  split
  .rw [Kn first c f,D1,D1,KG]
  .rfl
theorem JV (first:List Nat) (e bf:Nat) (l:List Nat) (p:Nat×Nat):onePair first e bf l p=match DL e bf l p with
  | none=>l
  | some c=>HI first c p.2 (HI first c p.1 l):=by
 have g:∀ c,marksBehind first c l.length (p.2+1) (marksBehind first c l.length (p.1+1) (setAt (setAt l p.1 c) p.2 c))=HI first c p.2 (HI first c p.1 l):=fun c=>by
  unfold HI
  rw [D1,D1,Kn,Hu,List.length_set]
 unfold onePair DL
 dsimp only
 show (if (CG l p).contains e=true then _ else if (CG l p).isEmpty=true then _ else _)=_
 by_cases h1:(CG l p).contains e=true
 .rw [if_pos h1,if_pos h1]
  exact g e
 .rw [if_neg h1,if_neg h1]
  by_cases h2:(CG l p).isEmpty=true
  .rw [if_pos h2,if_pos h2]
  .rw [if_neg h2,if_neg h2,g]
   show HI first (if Ch l p.1 bf=e then e else Ch l p.1 bf) p.2 (HI first (if Ch l p.1 bf=e then e else Ch l p.1 bf) p.1 l)=_
   have:(if Ch l p.1 bf=e then e else Ch l p.1 bf)=Ch l p.1 bf:=by
    split
    .rename_i h;exact h.symm
    .rfl
   rw [this]
theorem O8 {l:List Nat} {p:Nat×Nat} {e:Nat} (he:e<2) (h:¬(CG l p).contains e=true):(CG l p).isEmpty=!(CG l p).contains (1 - e):=by
 have hd:∀ x∈CG l p,x<2:=fun x hx=>by
  obtain ⟨c,_,hc⟩:=List.mem_filterMap.mp hx
  unfold dirOf at hc
  split at hc
  .cases hc;decide
  .split at hc
   .cases hc;decide
   .cases hc
 cases hw:CG l p with
 | nil=>rfl
 | cons x r =>
  rw [hw] at h hd
  have hx:=hd x (.head _)
  have hne:x≠e:=fun z=>h (by rw [z];simp)
  have:x=1 - e:=by lia
  simp [this]
theorem Qn {first l:List Nat} {c k:Nat} {f:Nat} (h:first[k]?=some 8):marksBehind first c (f+1) k l=marksBehind first c f (k+1) (l.set k c):=by
 show (if first[k]?=some 8 then _ else l)=_
 rw [if_pos h,D1]
theorem M9 {first l:List Nat} {c k:Nat} {f:Nat} (h:¬first[k]?=some 8):marksBehind first c f k l=l:=by
 cases f with
 | zero=>rfl
 | succ f =>
  show (if first[k]?=some 8 then _ else l)=_
  rw [if_neg h]
noncomputable def NI (c:Nat):Bool:=[0,1,2,3,4,5,6,7,8,11,12,13,19,20,21,22].contains c
theorem QU {c:Nat} (h:NI c=true):c<23:=(by decide:∀ x∈[0,1,2,3,4,5,6,7,8,11,12,13,19,20,21,22],x<23) c (List.contains_iff_mem.mp h)
theorem Ox:∀ c,c<23->(NI c=true↔c<=8\/(11<=c/\c<=13)\/(19<=c/\c<=22)):=by decide
theorem Rp (c:Nat):NI c=true↔c<=8\/(11<=c/\c<=13)\/(19<=c/\c<=22):=⟨fun h=>(Ox c (QU h)).mp h,fun h=>(Ox c (by lia)).mpr h⟩
theorem Rh {c:Nat} (h:NI c=true) (h2:c≠2) (h5:c≠5) (h6:c≠6) (h7:c≠7) (h8:c≠8):Co c=true:=(by decide:∀ c,c<23->(NI c && c != 2 && c != 5 && c != 6 && c != 7 && c != 8)=true->Co c=true) c (QU h) (by simp [h,h2,h5,h6,h7,h8])
noncomputable def GF (p:Nat->Prop) (l:List Nat):Prop:=∀ c∈l,p c
theorem Fl {σ:Type} {f:σ->Nat->Option Nat->Nat×σ} {I:σ->Prop} {A B:Nat->Prop} (hf:∀ s c z,I s->A c->(∀ b,z=some b->A b)->B (f s c z).1/\I (f s c z).2):∀ (s:σ) (l:List Nat),I s->GF A l->GF B (EK f s l)
 | s,[],_,_=>fun c h=>by cases h
 | s,c::r,hs,h=>by
  have hz:∀ b,r.head?=some b->A b:=fun b hb=>h b (.tail _ (List.mem_of_head? hb))
  obtain ⟨a,b⟩:=hf s c r.head? hs (h c (.head _)) hz
  intro d hd
  rcases List.mem_cons.mp hd with rfl | hd
  .exact a
  .exact Fl hf _ r b (fun x hx=>h x (.tail _ hx)) d hd
theorem TH {p:Nat} (hp:p<2) {l:List Nat} (h:GF (fun c=>NI c=true) l):GF (fun c=>NI c=true/\c≠8) (w1 p l):=by
 rw [HG]
 refine Fl (I:=fun p=>NI p=true/\p≠8) (fun s c z hs hc _=>?_) p l ?_ h
 .have key:NI (f1 s c z).1=true/\(f1 s c z).1≠8:=by
   by_cases h8:c=8
   .by_cases hi:isIsoEdge s=true
    .rw [Q3 h8 hi];decide
    .rw [Q9 h8 hi];exact hs
   .rw [SF h8];exact ⟨hc,h8⟩
  exact ⟨key,by rw [<-Lp];exact key⟩
 .rw [Rp];lia
theorem OD {st new p:Nat} {A:Nat->Prop} (hn:A new) {l:List Nat} (h:GF A l):GF A (EK (F1 st new) p l):=by
 refine Fl (I:=fun _=>True) (fun s c z _ hc _=>⟨?_,trivial⟩) p l trivial h
 by_cases e:c=3/\s=st
 .rw [Mc e.1 e.2];exact hn
 .rw [J4 e];exact hc
theorem Tc {p:Nat} {A:Nat->Prop} (h3:A 3) (h4:A 4) {l:List Nat} (h:GF A l):GF A (w4 p l):=by
 rw [Gs]
 refine Fl (I:=fun _=>True) (fun s c z _ hc _=>⟨?_,trivial⟩) p l trivial h
 show A (if (c=cES\/c=cCS)/\s=cEN/\z=some cEN then cEN else if c=cCS/\s=cAN/\z=some cAN then cAN else c)
 split
 .exact h3
 .split
  .exact h4
  .exact hc
theorem T5 {A:Nat->Prop} (h3:A 3) {l:List Nat} (h:GF A l):GF A (w5 l):=by
 have one:∀ (l:List Nat),GF A l->GF A (w5on false l):=fun l h=>by
  rw [DA]
  refine Fl (I:=fun _=>True) (fun s c z _ hc _=>⟨?_,trivial⟩) false l trivial h
  by_cases e:c=6/\s=true
  .rw [LV e.1 e.2];exact h3
  .rw [Jl e];exact hc
 unfold w5
 intro c hc
 exact one _ (fun x hx=>one l h x (List.mem_reverse.mp hx)) c (List.mem_reverse.mp hc)
theorem Pc {p:Nat} (hp:p<2) {l:List Nat} (h:GF (fun c=>NI c=true) l):GF (fun c=>Co c=true) (weak p l):=by
 have a1:=TH hp h
 have a2:GF (fun c=>NI c=true/\c≠8) (w2 p (w1 p l)):=by rw [Gn];exact OD (by decide) a1
 have a3:GF (fun c=>NI c=true/\c≠8/\c≠2) (w3 (w2 p (w1 p l))):=fun c hc=>by
  obtain ⟨d,hd,rfl⟩:=List.mem_map.mp hc
  obtain ⟨x,y⟩:=a2 d hd
  by_cases e:d=cAL
  .rw [if_pos e];decide
  .rw [if_neg e];exact ⟨x,y,e⟩
 have a5:=T5 (by decide) (Tc (p:=cON) (by decide) (by decide) a3)
 have a6:GF (fun c=>Co c=true) (w6 (w5 (w4 cON (w3 (w2 p (w1 p l)))))):=fun c hc=>by
  obtain ⟨d,hd,rfl⟩:=List.mem_map.mp hc
  obtain ⟨x,y,z⟩:=a5 d hd
  by_cases e:d=cES\/d=cET\/d=cCS
  .rw [if_pos e];decide
  .rw [if_neg e]
   refine Rh x z (fun q=>e (.inl q)) (fun q=>e (.inr (.inl q))) (fun q=>e (.inr (.inr q))) y
 unfold weak
 rw [Iz]
 exact OD (by decide) a6
theorem Kj {A:Nat->Prop} {first:List Nat} {c:Nat} (hc:A c):∀ (f i:Nat) (l:List Nat),GF A l->GF A (marksBehind first c f i l)
 | 0,i,l,h=>h
 | f+1,i,l,h=>by
  unfold marksBehind
  split
  .refine Kj hc f _ _ fun x hx=>?_
   rw [D1] at hx
   rcases List.mem_or_eq_of_mem_set hx with hx | hx
   .exact h x hx
   .rw [hx];exact hc
  .exact h
theorem HK {A:Nat->Prop} {first l:List Nat} {c i:Nat} (hc:A c) (h:GF A l):GF A (HI first c i l):=by
 unfold HI
 refine Kj hc _ _ _ fun x hx=>?_
 rcases List.mem_or_eq_of_mem_set hx with hx | hx
 .exact h x hx
 .rw [hx];exact hc
theorem S6 {c x:Nat} (h:dirOf c=some x):x<2:=by
 unfold dirOf at h
 split at h
 .cases h;decide
 .split at h
  .cases h;decide
  .cases h
theorem Pw {l:List Nat} {i bf:Nat} (h:bf<2):Ch l i bf<2:=by
 unfold Ch
 cases hg:((l.take i).filterMap dirOf).getLast? with
 | none=>exact h
 | some x =>
  obtain ⟨c,_,hc⟩:=List.mem_filterMap.mp (List.mem_of_getLast? hg)
  exact S6 hc
theorem Gz {e bf:Nat} {l:List Nat} {p:Nat×Nat} {c:Nat} (he:e<2) (hb:bf<2) (h:DL e bf l p=some c):c<2:=by
 unfold DL at h
 split at h
 .cases h;exact he
 .split at h
  .cases h
  .cases h;exact Pw hb
theorem Ms {c:Nat} (h:c<2):Co c=true:=by rw [J5];lia
theorem Rt {first:List Nat} {e bf:Nat} (he:e<2) (hb:bf<2) {l:List Nat} {p:Nat×Nat} (h:GF (fun c=>Co c=true) l):GF (fun c=>Co c=true) (onePair first e bf l p):=by
 rw [JV]
 cases hs:DL e bf l p with
 | none=>exact h
 | some c =>
  have:=Ms (Gz he hb hs)
  exact HK this (HK this h)
theorem QR {l:List Nat} {i bf c:Nat} (hc:l[i]?=some c) (h:dirOf c=none):Ch l (i+1) bf=Ch l i bf:=by
 unfold Ch
 rw [DZ hc,List.filterMap_append]
 simp [h]
theorem Pt {l:List Nat} {i bf c x:Nat} (hc:l[i]?=some c) (h:dirOf c=some x):Ch l (i+1) bf=x:=by
 unfold Ch
 rw [DZ hc,List.filterMap_append]
 simp [h]
theorem O0 {l:List Nat} {bf:Nat}:Ch l 0 bf=bf:=rfl
theorem Rv {row:List Nat} {b i:Nat} (h23:∀ c∈row,c<23/\c≠10) (hi:i∈FJ row) (hf:Kb row b i=row.getD i 0\/Kb row b i<2):NI (Kb row b i)=true:=by
 rcases hf with h | h
 .obtain ⟨c,hc,ho⟩:=((Geo.of row b).mem i).mp hi
  rw [h,Ai hc]
  obtain ⟨a,b⟩:=h23 c (ZD hc)
  exact (by decide:∀ c,c<23->c≠10->¬Bj c=true->NI c=true) c a b (by simpa using ho)
 .exact (by decide:∀ c,c<2->NI c=true) _ h
noncomputable def GG (c:Nat):Bool:=c==12 || (isIsoEdge c || Bj c)
theorem Qh (c:Nat):loose c=GG c:=by
 rw [Bool.eq_iff_iff]
 unfold loose GG isIsoEdge cWS cPDI cBN cLRE cRLE cLRO cRLO cPDF
 simp only [Bool.or_eq_true,beq_iff_eq,LK]
 constructor
 .rintro (h | (h | h) | h | h | h | h | h | h) <;> simp [h]
 .rintro (h | (h | h) | h | h | h | h | h | h) <;> simp [h]
noncomputable def DH (b:Nat) (x:Nat×Nat) (s:List Nat×Bool):List Nat×Bool:=if x.1=cS\/x.1=cB then (b::s.1,true) else if s.2=true/\loose x.1=true then (b::s.1,true) else (x.2::s.1,false)
theorem D9 (b:Nat) (l:List (Nat×Nat)):lineLevels b l=(l.foldr (DH b) ([],true)).1:=rfl
noncomputable def EA (c:Nat) (at_end:Bool):Bool:=c==11 || (at_end && GG c)
theorem IH (b c v:Nat) (s:List Nat×Bool) (h:c≠10):DH b (c,v) s=((if EA c s.2=true then b else v)::s.1,EA c s.2):=by
 unfold DH EA
 rw [Qh]
 by_cases h1:c=11
 .subst h1
  rfl
 .rw [if_neg (by rintro (z | z);exact h1 z;exact h z)]
  have e:(c==11)=false:=beq_eq_false_iff_ne.mpr h1
  rw [e]
  dsimp only
  cases s.2 <;> cases GG c <;> rfl
structure LInv (b:Nat) (ks ls:List Nat) (k:Nat) (cur:List Nat) (at_end:Bool):Prop where
 len:cur.length=ls.length
 lo:cur.take k=ls.take k
 hi:((ks.zip ls).drop k).foldr (DH b) ([],true)=(cur.drop k,at_end)
theorem LInv.start (b:Nat) {ks ls:List Nat} (h:ks.length=ls.length):LInv b ks ls ks.length ls true:=by
 refine ⟨rfl,rfl,?_⟩
 rw [List.drop_eq_nil_of_le (by rw [List.length_zip];lia),List.drop_eq_nil_of_le (by lia)]
 rfl
theorem LInv.step {b:Nat} {ks ls cur:List Nat} {k c:Nat} {e:Bool} (I:LInv b ks ls (k+1) cur e) (h:ks.length=ls.length) (hc:ks[k]?=some c) (h10:c≠10) :
  LInv b ks ls k (if EA c e=true then cur.set k b else cur) (EA c e):=by
 have hk:=(ZB.mp hc).1
 obtain ⟨v,hv⟩:∃ v,ls[k]?=some v:=⟨_,ZA (by lia)⟩
 have hcv:cur[k]?=some v:=by
  have e1:(cur.take (k+1))[k]?=(ls.take (k+1))[k]?:=by rw [I.lo]
  rw [List.getElem?_take,List.getElem?_take,if_pos (by lia),if_pos (by lia)] at e1
  rw [e1,hv]
 have hlo:cur.take k=ls.take k:=by
  have e1:=congrArg (List.take k) I.lo
  rw [List.take_take,List.take_take,Nat.min_eq_left (by lia)] at e1
  exact e1
 have hz:(ks.zip ls).drop k=(c,v)::(ks.zip ls).drop (k+1):=AZ (List.getElem?_zip_eq_some.mpr ⟨hc,hv⟩)
 by_cases hb:EA c e=true
 .rw [if_pos hb]
  refine ⟨by rw [List.length_set,I.len],?_,?_⟩
  .rw [List.take_set_of_le (Nat.le_refl _)]
   exact hlo
  .rw [hz,List.foldr_cons,I.hi,IH _ _ _ _ h10,if_pos hb,AZ (List.getElem?_set_self (by rw [I.len];lia)),List.drop_set_of_lt (by lia)]
 .rw [if_neg hb]
  refine ⟨I.len,hlo,?_⟩
  rw [hz,List.foldr_cons,I.hi,IH _ _ _ _ h10,if_neg hb,AZ hcv]
theorem LInv.done {b:Nat} {ks ls cur:List Nat} {e:Bool} (I:LInv b ks ls 0 cur e):cur=lineLevels b (ks.zip ls):=by
 have h:=I.hi
 rw [List.drop_zero] at h
 rw [D9,h]
 rfl
theorem Ds (b:Nat):∀ l:List (Nat×Nat),(lineLevels b l).length=l.length
 | []=>rfl
 | x::l=>by
  have ih:=Ds b l
  rw [D9] at ih ⊢
  rw [List.foldr_cons]
  generalize l.foldr (DH b) ([],true)=s at ih
  unfold DH
  split
  .simp [ih]
  .split <;> simp [ih]
noncomputable def E1 (lv:Nat->Nat) (n:Nat):List Nat->List Nat->List Nat
 | acc,[]=>acc
 | acc,x::r=>if n<=lv x then E1 lv n (x::acc) r else acc++(x::E1 lv n [] r)
theorem JD {α:Type} (lv:Nat->Nat) (g:Nat->Nat×α) (h:∀ k,(g k).1=lv k) (n:Nat):∀ (acc l:List Nat),turn n (acc.map g) (l.map g)=(E1 lv n acc l).map g
 | acc,[]=>rfl
 | acc,x::r=>by
  show (if n<=(g x).1 then turn n ((x::acc).map g) (r.map g) else acc.map g++(g x::turn n (([]:List Nat).map g) (r.map g)))=(if n<=lv x then _ else _:List Nat).map g
  rw [h,JD lv g h n (x::acc) r,JD lv g h n [] r]
  split
  .rfl
  .rw [List.map_append,List.map_cons]
noncomputable def FP (lv:Nat->Nat):Nat->List Nat->List Nat
 | 0,l=>l
 | n+1,l=>FP lv n (E1 lv (n+1) [] l)
theorem FM {α:Type} (lv:Nat->Nat) (g:Nat->Nat×α) (h:∀ k,(g k).1=lv k):∀ (n:Nat) (l:List Nat),turnAll n (l.map g)=(FP lv n l).map g
 | 0,l=>rfl
 | n+1,l=>by
  show turnAll n (turn (n+1) (([]:List Nat).map g) (l.map g))=_
  rw [JD lv g h,FM lv g h n]
  rfl
theorem Ex (lv:Nat->Nat) (n:Nat):∀ (acc l:List Nat),(E1 lv n acc l).Perm (acc++l)
 | acc,[]=>by rw [List.append_nil];exact List.Perm.refl _
 | acc,x::r=>by
  unfold E1
  split
  .exact (Ex lv n (x::acc) r).trans List.perm_middle.symm
  .refine List.Perm.append_left _ (List.Perm.cons _ ?_)
   have:=Ex lv n [] r
   exact this
theorem GD (lv:Nat->Nat):∀ (n:Nat) (l:List Nat),(FP lv n l).Perm l
 | 0,l=>List.Perm.refl _
 | n+1,l=>(GD lv n _).trans (Ex lv (n+1) [] l)
noncomputable def AY (ls:List Nat):List Nat:=FP (fun k=>ls.getD k 0) (highest ls) (List.range ls.length)
theorem GV (ls:List Nat):(AY ls).Perm (List.range ls.length):=GD _ _ _
theorem Dd (ls:List Nat):(AY ls).length=ls.length:=by rw [(GV ls).length_eq,List.length_range]
theorem El (ls:List Nat) (k:Nat):k∈AY ls↔k<ls.length:=by rw [(GV ls).mem_iff,List.mem_range]
theorem IK (ls:List Nat):(AY ls).Nodup:=(GV ls).nodup_iff.mpr List.nodup_range
theorem Kr (ls:List Nat) (p:Nat):ls.zip ((List.range ls.length).map fun i=>p+i)=(List.range ls.length).map fun k=>(ls.getD k 0,p+k):=by
 refine List.ext_getElem? fun i=>?_
 by_cases h:i<ls.length
 .rw [List.getElem?_map,List.getElem?_range h,List.getElem?_zip_eq_some (z:=(ls[i],p+i)) |>.mpr ⟨ZA h,by rw [List.getElem?_map,List.getElem?_range h];rfl⟩]
  show some (ls[i],p+i)=some (ls.getD i 0,p+i)
  rw [Ai (ZA h)]
 .rw [List.getElem?_eq_none (by simp;lia),List.getElem?_eq_none (by simp;lia)]
theorem Nt (b p:Nat) (l:List (Nat×Nat)):seenFrom b p l=(AY (lineLevels b l)).map fun k=>((lineLevels b l).getD k 0,p+k):=by
 unfold seenFrom
 dsimp only
 have e:=Ds b l
 rw [<-e,Kr,FM (fun k=>(lineLevels b l).getD k 0) _ (fun _=>rfl)]
 rfl
theorem P4 {lv:Nat->Nat} {n x:Nat} {turned row rest all:List Nat} (h:all=turned++E1 lv n row.reverse (x::rest)):(n<=lv x->all=turned++E1 lv n (row++[x]).reverse rest)/\(¬n<=lv x->all=(turned++row.reverse++[x])++E1 lv n ([]:List Nat).reverse rest):=by
 have e:E1 lv n row.reverse (x::rest)=if n<=lv x then E1 lv n (x::row.reverse) rest else row.reverse++(x::E1 lv n [] rest):=rfl
 constructor
 .intro g
  rw [h,e,if_pos g,List.reverse_append]
  rfl
 .intro g
  rw [h,e,if_neg g]
  simp
theorem IR (ls:List Nat):(∀ x∈ls,x<=highest ls)/\(highest ls=0\/highest ls∈ls):=by
 unfold highest
 induction ls with
 | nil=>exact ⟨(fun x h=>by cases h),.inl rfl⟩
 | cons a l ih =>
  rw [List.foldr_cons]
  refine ⟨fun x hx=>?_,?_⟩
  .rcases List.mem_cons.mp hx with rfl | hx
   .lia
   .have:=ih.1 x hx
    lia
  .rcases ih.2 with h | h
   .rw [h]
    rcases Nat.eq_zero_or_pos a with h0 | h0
    .left;lia
    .right;rw [Nat.max_eq_left (by lia)];exact .head _
   .by_cases hm:a<=l.foldr max 0
    .right;rw [Nat.max_eq_right hm];exact .tail _ h
    .right;rw [Nat.max_eq_left (by lia)];exact .head _
theorem Me {l:List Nat} (nd:l.Nodup) {m j k:Nat} (h:m<j) (hm:l[m]?=some k) (hj:l[j]?=some k):False:=by
 obtain ⟨h1,e1⟩:=ZB.mp hm
 obtain ⟨h2,e2⟩:=ZB.mp hj
 exact List.pairwise_iff_getElem.mp nd m j h1 h2 h (by rw [e1,e2])
noncomputable def Ji (ls row:List Nat):List Nat:=BW ((AY ls).zip row) row
theorem Jn (ls row:List Nat) (h:ls.length=row.length) :
  Ji ls row=(List.range ls.length).map fun i=>row.getD (((turnAll (highest ls) (ls.zip (List.range ls.length))).findIdx? fun x=>x.2==i).getD 0) 0:=by
 have ez:ls.zip (List.range ls.length)=(List.range ls.length).map fun k=>(ls.getD k 0,k):=by
  have:=Kr ls 0
  simpa using this
 have ev:turnAll (highest ls) (ls.zip (List.range ls.length))=(AY ls).map fun k=>(ls.getD k 0,k):=by
  rw [ez,FM (fun k=>ls.getD k 0) _ (fun _=>rfl)]
  rfl
 rw [ev]
 have nd:=IK ls
 have ol:=Dd ls
 have fstz:((AY ls).zip row).map Prod.fst=AY ls:=List.map_fst_zip (by lia)
 refine List.ext_getElem? fun i=>?_
 by_cases hi:i<ls.length
 .obtain ⟨j,hj,ej⟩:=List.getElem_of_mem ((El ls i).mpr hi)
  have hj2:(AY ls)[j]?=some i:=by rw [ZA hj,ej]
  have hr:row[j]?=some (row.getD j 0):=by rw [Ai (ZA (by lia)),ZA (by lia)]
  have e1:(Ji ls row)[i]?=some (row.getD j 0):=by
   unfold Ji
   refine GU _ _ i _ (by rw [fstz];exact nd) ?_ (by lia)
   exact List.mem_iff_getElem?.mpr ⟨j,List.getElem?_zip_eq_some.mpr ⟨hj2,hr⟩⟩
  rw [e1,List.getElem?_map,List.getElem?_range hi]
  have e2:(((AY ls).map fun k=>(ls.getD k 0,k)).findIdx? fun x=>x.2==i)=some j:=by
   rw [List.findIdx?_map]
   rw [List.findIdx?_eq_some_iff_getElem]
   refine ⟨hj,by simp [ej],fun m hm=>?_⟩
   simp
   intro z
   exact Me nd hm (by rw [ZA (by lia),z]) hj2
  show _=some (row.getD ((((AY ls).map fun k=>(ls.getD k 0,k)).findIdx? fun x=>x.2==i).getD 0) 0)
  rw [e2]
  rfl
 .rw [List.getElem?_eq_none (by unfold Ji;rw [GX];lia),List.getElem?_eq_none (by simp;lia)]
theorem Ps (ls:List Nat) {k:Nat} (h:k<ls.length) (p:Nat):∃ j,(AY ls)[j]?=some k/\(∀ m,m<j->(AY ls)[m]?≠some k)/\(((AY ls).map fun k=>p+k).findIdx? fun x=>x==p+k)=some j:=by
 have nd:=IK ls
 obtain ⟨j,hj,ej⟩:=List.getElem_of_mem ((El ls k).mpr h)
 have hj2:(AY ls)[j]?=some k:=by rw [ZA hj,ej]
 have hne:∀ m,m<j->(AY ls)[m]?≠some k:=fun m hm z=>by
  exact Me nd hm z hj2
 refine ⟨j,hj2,hne,?_⟩
 rw [List.findIdx?_map,List.findIdx?_eq_some_iff_getElem]
 refine ⟨hj,by simp [ej],fun m hm=>?_⟩
 simp
 intro z
 exact hne m hm (by rw [ZA (by lia),z])
theorem LQ (ls:List Nat) {q p:Nat} (h:q<p\/p+ls.length<=q):(((AY ls).map fun k=>p+k).findIdx? fun x=>x==q)=none:=by
 rw [List.findIdx?_eq_none_iff]
 intro x hx
 obtain ⟨k,hk,rfl⟩:=List.mem_map.mp hx
 have:=(El ls k).mp hk
 simp
 lia
theorem Nh (c:Nat):isChar c=true↔c<=1114111/\¬(55296<=c/\c<=57343):=by
 unfold isChar
 simp
 lia
noncomputable def Aa:List Nat->List (Nat×Nat×Nat)
 | a::b::c::r=>(a,b,c)::Aa r
 | _=>[]
noncomputable def Ax:List Nat->List (Nat×Nat)
 | a::b::r=>(a,b)::Ax r
 | _=>[]
theorem Ha:∀ (l:List Nat) (p:Nat),threes p l=if l.length % 3=0 then .ok (Aa l) else .error (p+l.length)
 | [],p=>rfl
 | [a],p=>rfl
 | [a,b],p=>rfl
 | a::b::c::r,p=>by
  have ih:=Ha r (p+3)
  show (match threes (p+3) r with
  | .ok l=>Except.ok ((a,b,c)::l)
  | .error e=>Except.error e)=_
  rw [ih]
  have e:(a::b::c::r).length=r.length+3:=rfl
  by_cases h:r.length % 3=0
  .rw [if_pos h,if_pos (by rw [e];lia)]
   rfl
  .rw [if_neg h,if_neg (by rw [e];lia),e]
   show Except.error (p+3+r.length)=_
   congr 1
   lia
theorem OF:∀ (l:List Nat) (p:Nat),twos p l=if l.length % 2=0 then .ok (Ax l) else .error (p+l.length)
 | [],p=>rfl
 | [a],p=>rfl
 | a::b::r,p=>by
  have ih:=OF r (p+2)
  show (match twos (p+2) r with
  | .ok l=>Except.ok ((a,b)::l)
  | .error e=>Except.error e)=_
  rw [ih]
  have e:(a::b::r).length=r.length+2:=rfl
  by_cases h:r.length % 2=0
  .rw [if_pos h,if_pos (by rw [e];lia)]
   rfl
  .rw [if_neg h,if_neg (by rw [e];lia),e]
   show Except.error (p+2+r.length)=_
   congr 1
   lia
theorem FQ {l:List Nat} {k:Nat} (h:l.length % 3=0) (hk:3*k<l.length):∃ a b c,l[3*k]?=some a/\l[3*k+1]?=some b/\l[3*k+2]?=some c/\(Aa l)[k]?=some (a,b,c)/\Aa (l.drop (3*k))=(a,b,c)::Aa (l.drop (3*(k+1))):=by
 induction k generalizing l with
 | zero =>
  match l,h,hk with
  | a::b::c::r,_,_=>exact ⟨a,b,c,rfl,rfl,rfl,rfl,rfl⟩
  | [a],h,_=>simp at h
  | [a,b],h,_=>simp at h
 | succ k ih =>
  match l,h,hk with
  | a::b::c::r,h,hk =>
   obtain ⟨x,y,z,h1,h2,h3,h4,h5⟩:=ih (l:=r) (by simp at h;lia) (by simp at hk;lia)
   refine ⟨x,y,z,h1,h2,h3,h4,?_⟩
   exact h5
  | [a],h,_=>simp at h
  | [a,b],h,_=>simp at h
theorem IU {l:List Nat} {k:Nat} (h:l.length % 2=0) (hk:2*k<l.length):∃ a b,l[2*k]?=some a/\l[2*k+1]?=some b/\(Ax l)[k]?=some (a,b)/\Ax (l.drop (2*k))=(a,b)::Ax (l.drop (2*(k+1))):=by
 induction k generalizing l with
 | zero =>
  match l,h,hk with
  | a::b::r,_,_=>exact ⟨a,b,rfl,rfl,rfl,rfl⟩
  | [a],h,_=>simp at h
 | succ k ih =>
  match l,h,hk with
  | a::b::r,h,hk =>
   obtain ⟨x,y,h1,h2,h4,h5⟩:=ih (l:=r) (by simp at h;lia) (by simp at hk;lia)
   exact ⟨x,y,h1,h2,h4,h5⟩
  | [a],h,_=>simp at h
theorem Et:∀ l:List Nat,(Aa l).length=l.length / 3
 | []=>rfl
 | [a]=>by simp [Aa]
 | [a,b]=>by simp [Aa]
 | a::b::c::r=>by
  show (Aa r).length+1=(r.length+3) / 3
  rw [Et r]
  lia
theorem GH:∀ l:List Nat,(Ax l).length=l.length / 2
 | []=>rfl
 | [a]=>by simp [Ax]
 | a::b::r=>by
  show (Ax r).length+1=(r.length+2) / 2
  rw [GH r]
  lia
noncomputable def lst:Nat->Option Nat
 | 0=>none
 | n+1=>some n
theorem LY (least a:Nat):((lst least).any fun x=>decide (a<=x))=decide (a<least):=by
 cases least with
 | zero=>simp [lst]
 | succ n=>simp [lst];lia
theorem Iq {α:Type} (p q:Prop) [Decidable p] [Decidable q] (a b:α):(if p\/q then a else b)=if q\/p then a else b:=by
 by_cases h:p\/q
 .rw [if_pos h,if_pos h.symm]
 .rw [if_neg h,if_neg (fun z=>h z.symm)]
theorem Kw (p least a b c:Nat) (r:List (Nat×Nat×Nat)):badClasses p (lst least) ((a,b,c)::r)=if a<least\/isChar a=false then some p else if b<a\/isChar b=false then some (p+1) else if 23<=c then some (p+2) else badClasses (p+3) (lst (b+1)) r:=by
 show (if isChar a=false\/((lst least).any fun x=>decide (a<=x))=true then some p else if isChar b=false\/b<a then some (p+1) else if CLASSES<=c then some (p+2) else badClasses (p+3) (some b) r)=_
 rw [LY]
 simp only [decide_eq_true_eq]
 rw [Iq (isChar a=false),Iq (isChar b=false)]
 rfl
theorem KU (p least a b c:Nat) (r:List (Nat×Nat×Nat)):badPairs p (lst least) ((a,b,c)::r)=if a<least\/isChar a=false then some p else if 1<c then some (p+2) else badPairs (p+3) (lst (a+1)) r:=by
 show (if isChar a=false\/((lst least).any fun x=>decide (a<=x))=true then some p else if 1<c then some (p+2) else badPairs (p+3) (some a) r)=_
 rw [LY]
 simp only [decide_eq_true_eq]
 rw [Iq (isChar a=false)]
 rfl
theorem Ke (p least a b:Nat) (r:List (Nat×Nat)):badMirrors p (lst least) ((a,b)::r)=if a<least\/isChar a=false then some p else if isChar b=false then some (p+1) else badMirrors (p+2) (lst (a+1)) r:=by
 show (if isChar a=false\/((lst least).any fun x=>decide (a<=x))=true then some p else if isChar b=false then some (p+1) else badMirrors (p+2) (some a) r)=_
 rw [LY]
 simp only [decide_eq_true_eq]
 rw [Iq (isChar a=false)]
 rfl
structure TOk (t:Tables):Prop where
 cls:t.cls.Pairwise fun a b=>a.2.1<b.1
 cin:∀ a∈t.cls,a.1<=a.2.1/\a.2.2<23
 prs:t.pairs.Pairwise fun a b=>a.1<b.1
 pin:∀ a∈t.pairs,a.2.2<=1
 mir:t.mirrors.Pairwise fun a b=>a.1<b.1
 cn:t.cls.length<=256
 pn:t.pairs.length<=256
 mn:t.mirrors.length<=256
theorem TOk.plain:TOk PLAIN:=⟨List.Pairwise.nil,(fun a h=>by cases h),List.Pairwise.nil,(fun a h=>by cases h),List.Pairwise.nil,by decide,by decide,by decide⟩
theorem SC:∀ (l:List (Nat×Nat×Nat)) (p least:Nat),badClasses p (lst least) l=none->l.Pairwise (fun a b=>a.2.1<b.1)/\(∀ a∈l,a.1<=a.2.1/\a.2.2<23/\least<=a.1)
 | [],p,least,_=>⟨List.Pairwise.nil,fun a h=>by cases h⟩
 | (a,b,c)::r,p,least,h=>by
  rw [Kw] at h
  split at h
  .cases h
  .split at h
   .cases h
   .split at h
    .cases h
    .rename_i h1 h2 h3
     obtain ⟨g1,g2⟩:=SC r _ _ h
     refine ⟨List.pairwise_cons.mpr ⟨fun x hx=>?_,g1⟩,fun x hx=>?_⟩
     .have:=(g2 x hx).2.2
      show b<x.1
      lia
     .rcases List.mem_cons.mp hx with rfl | hx
      .refine ⟨?_,?_,?_⟩
       .show a<=b
        lia
       .show c<23
        lia
       .show least<=a
        lia
      .have h4:=g2 x hx
       refine ⟨h4.1,h4.2.1,?_⟩
       have:=h4.2.2
       lia
theorem SH:∀ (l:List (Nat×Nat×Nat)) (p least:Nat),badPairs p (lst least) l=none->l.Pairwise (fun a b=>a.1<b.1)/\(∀ a∈l,a.2.2<=1/\least<=a.1)
 | [],p,least,_=>⟨List.Pairwise.nil,fun a h=>by cases h⟩
 | (a,b,c)::r,p,least,h=>by
  rw [KU] at h
  split at h
  .cases h
  .split at h
   .cases h
   .rename_i h1 h2
    obtain ⟨g1,g2⟩:=SH r _ _ h
    refine ⟨List.pairwise_cons.mpr ⟨fun x hx=>?_,g1⟩,fun x hx=>?_⟩
    .have:=(g2 x hx).2
     show a<x.1
     lia
    .rcases List.mem_cons.mp hx with rfl | hx
     .refine ⟨?_,?_⟩
      .show c<=1
       lia
      .show least<=a
       lia
     .have h4:=g2 x hx
      exact ⟨h4.1,by have:=h4.2;lia⟩
theorem SG:∀ (l:List (Nat×Nat)) (p least:Nat),badMirrors p (lst least) l=none->l.Pairwise (fun a b=>a.1<b.1)/\(∀ a∈l,least<=a.1)
 | [],p,least,_=>⟨List.Pairwise.nil,fun a h=>by cases h⟩
 | (a,b)::r,p,least,h=>by
  rw [Ke] at h
  split at h
  .cases h
  .split at h
   .cases h
   .rename_i h1 h2
    obtain ⟨g1,g2⟩:=SG r _ _ h
    refine ⟨List.pairwise_cons.mpr ⟨fun x hx=>?_,g1⟩,fun x hx=>?_⟩
    .have:=g2 x hx
     show a<x.1
     lia
    .rcases List.mem_cons.mp hx with rfl | hx
     .show least<=a
      lia
     .have:=g2 x hx
      lia
noncomputable def Du (c p m:List Nat):Option (Int×Option (Nat×Nat)) :=
 if 768<c.length\/768<p.length\/512<m.length then some (-1,none)
 else if c.length % 3≠0 then some (-2,some (0,c.length)) else if p.length % 3≠0 then some (-2,some (1,p.length)) else if m.length % 2≠0 then some (-2,some (2,m.length))
 else match badClasses 0 none (Aa c),badPairs 0 none (Aa p),badMirrors 0 none (Ax m) with
  | some i,_,_=>some (-2,some (0,i))
  | none,some i,_=>some (-2,some (1,i))
  | none,none,some i=>some (-2,some (2,i))
  | none,none,none=>none
theorem MC (s:Tables) (c p m:List Nat):Wrdirs.step s (.tables c p m)=match Du c p m with
  | none=>(⟨Aa c,Aa p,Ax m⟩,.nums [])
  | some (_,none)=>(s,.no (-1))
  | some (_,some (a,b))=>(s,.wrong a b):=by
 unfold Du
 show (if 768<c.length\/768<p.length\/512<m.length then (s,Wrdirs.BAD) else match Dr.read c p m with
  | .ok t=>(t,.nums [])
  | .error e=>(s,.wrong e.1 e.2))=_
 by_cases h:768<c.length\/768<p.length\/512<m.length
 .rw [if_pos h,if_pos h]
  rfl
 .rw [if_neg h,if_neg h]
  unfold Dr.read
  rw [Ha,Ha,OF]
  by_cases h1:c.length % 3=0
  .by_cases h2:p.length % 3=0
   .by_cases h3:m.length % 2=0
    .simp only [h1,h2,h3,if_true,ne_eq,not_true_eq_false,if_false]
     cases badClasses 0 none (Aa c) <;> cases badPairs 0 none (Aa p) <;> cases badMirrors 0 none (Ax m) <;> rfl
    .simp [h1,h2,h3]
   .simp [h1,h2]
  .simp [h1]
theorem MT {c p m:List Nat} (h:Du c p m=none):c.length % 3=0/\p.length % 3=0/\m.length % 2=0/\TOk ⟨Aa c,Aa p,Ax m⟩:=by
 unfold Du at h
 split at h
 .cases h
 .split at h
  .cases h
  .split at h
   .cases h
   .split at h
    .cases h
    .rename_i h0 h1 h2 h3
     split at h
     .cases h
     .cases h
     .cases h
     .rename_i b1 b2 b3
      obtain ⟨c1,c2⟩:=SC _ 0 0 b1
      obtain ⟨p1,p2⟩:=SH _ 0 0 b2
      obtain ⟨m1,m2⟩:=SG _ 0 0 b3
      refine ⟨by lia,by lia,by lia,c1,fun a ha=>⟨(c2 a ha).1,(c2 a ha).2.1⟩,p1,fun a ha=>(p2 a ha).1,m1,?_,?_,?_⟩
      .show (Aa c).length<=256
       rw [Et];lia
      .show (Aa p).length<=256
       rw [Et];lia
      .show (Ax m).length<=256
       rw [GH];lia
structure HInv (rows:List (Nat×Nat×Nat)) (c low high:Nat):Prop where
 le:low<=high
 hl:high<=rows.length
 lo:∀ i r,i<low->rows[i]?=some r->r.2.1<c
 hi:∀ i r,high<=i->rows[i]?=some r->c<=r.2.1
theorem HInv.start (rows:List (Nat×Nat×Nat)) (c:Nat):HInv rows c 0 rows.length:=by
 refine ⟨Nat.zero_le _,Nat.le_refl _,fun i r h=>by lia,fun i r h1 h2=>?_⟩
 have:=(ZB.mp h2).1
 lia
theorem LF {rows:List (Nat×Nat×Nat)} (h:rows.Pairwise fun a b=>a.2.1<b.1) {i j:Nat} {a b:Nat×Nat×Nat} (hij:i<j) (ha:rows[i]?=some a) (hb:rows[j]?=some b):a.2.1<b.1:=by
 obtain ⟨h1,e1⟩:=ZB.mp ha
 obtain ⟨h2,e2⟩:=ZB.mp hb
 have:=List.pairwise_iff_getElem.mp h i j h1 h2 hij
 rw [e1,e2] at this
 exact this
section
variable {t:Tables} (O:TOk t) {c low high:Nat}
include O
theorem HInv.up {r:Nat×Nat×Nat} (I:HInv t.cls c low high) (h:low<high) (hr:t.cls[(low+high) / 2]?=some r) (hc:r.2.1<c):HInv t.cls c ((low+high) / 2+1) high:=by
 refine ⟨by lia,I.hl,fun i s hi hs=>?_,I.hi⟩
 by_cases e:i=(low+high) / 2
 .rw [e,hr] at hs
  cases hs
  exact hc
 .have h1:=LF O.cls (show i<(low+high) / 2 by lia) hs hr
  have h2:=(O.cin r (ZD hr)).1
  lia
theorem HInv.down {r:Nat×Nat×Nat} (I:HInv t.cls c low high) (h:low<high) (hr:t.cls[(low+high) / 2]?=some r) (hc:¬r.2.1<c):HInv t.cls c low ((low+high) / 2):=by
 have hl:=I.hl
 refine ⟨by lia,by lia,I.lo,fun i s hi hs=>?_⟩
 by_cases e:i=(low+high) / 2
 .rw [e,hr] at hs
  cases hs
  lia
 .have h1:=LF O.cls (show (low+high) / 2<i by lia) hr hs
  have h2:=(O.cin s (ZD hs)).1
  lia
theorem HInv.hit {r:Nat×Nat×Nat} (I:HInv t.cls c low low) (hr:t.cls[low]?=some r) (h:r.1<=c):t.classOf c=r.2.2:=by
 unfold Tables.classOf
 obtain ⟨hl,e⟩:=ZB.mp hr
 rw [show t.cls.find? (fun x=>decide (x.1<=c) && decide (c<=x.2.1))=some r from ?_]
 rw [List.find?_eq_some_iff_getElem]
 have hc:=I.hi low r (Nat.le_refl _) hr
 refine ⟨by simp [h,hc],low,hl,e,fun j hj=>?_⟩
 have:=I.lo j t.cls[j] hj (ZA _)
 simp
 lia
theorem HInv.miss (I:HInv t.cls c low low) (h:∀ r,t.cls[low]?=some r->¬r.1<=c):t.classOf c=0:=by
 unfold Tables.classOf
 rw [show t.cls.find? (fun x=>decide (x.1<=c) && decide (c<=x.2.1))=none from ?_]
 .rfl
 rw [List.find?_eq_none]
 intro x hx
 obtain ⟨i,hi⟩:=List.mem_iff_getElem?.mp hx
 simp
 intro h1
 rcases Nat.lt_trichotomy i low with g | g | g
 .exact I.lo i x g hi
 .subst g
  exact absurd h1 (h x hi)
 .have hlow:low<t.cls.length:=by have:=(ZB.mp hi).1;lia
  have e1:t.cls[low]?=some t.cls[low]:=ZA hlow
  have:=LF O.cls g e1 hi
  have:=(O.cin _ (ZD e1)).1
  have:=h _ e1
  lia
theorem Qq (c:Nat):t.classOf c<23:=by
 unfold Tables.classOf
 cases h:t.cls.find? (fun x=>decide (x.1<=c) && decide (c<=x.2.1)) with
 | none=>decide
 | some x=>exact (O.cin x (List.mem_of_find?_eq_some h)).2
theorem R3 (c:Nat):(look t c).cls<23/\(look t c).cls≠10:=by
 have:=Qq O c
 show (if t.classOf c=10 then 11 else t.classOf c)<23/\(if t.classOf c=10 then 11 else t.classOf c)≠10
 by_cases h:t.classOf c=10
 .rw [if_pos h];decide
 .rw [if_neg h];exact ⟨this,h⟩
end
noncomputable def DM (l:List Nat):List Int:=l.map fun (n:Nat)=>(n:Int)
theorem Mw:∀ l:List Nat,WrdirsNeutral.nats? (DM l)=some l
 | []=>rfl
 | a::l=>by
  have ih:=Mw l
  unfold WrdirsNeutral.nats? at ih ⊢
  show (List.mapM WrdirsNeutral.nat? ((a:Int)::DM l))=_
  rw [List.mapM_cons,ih]
  have:WrdirsNeutral.nat? (a:Int)=some a:=by
   unfold WrdirsNeutral.nat?
   rw [if_pos (by lia)]
   simp
  rw [this]
  rfl
theorem Gc (l:List Nat):(DM l).length=l.length:=ZE _
theorem Mf (l:List Nat) (n:Nat):(DM l).drop n=DM (l.drop n):=List.map_drop.symm
theorem Mn (l:List Nat) (n:Nat):(DM l).take n=DM (l.take n):=List.map_take.symm
noncomputable def K8:List Nat->Option (List Nat×List Nat)
 | []=>none
 | n::r=>if n<=r.length then some (r.take n,r.drop n) else none
theorem Tg (l:List Nat):PyFlat.row (DM l)=(K8 l).map fun x=>(DM x.1,DM x.2):=by
 cases l with
 | nil=>rfl
 | cons n r =>
  show (if (0:Int)<=(n:Int)/\((n:Int)).toNat<=(DM r).length then some ((DM r).take (n:Int).toNat,(DM r).drop (n:Int).toNat) else none)=_
  rw [Gc]
  show _=(if n<=r.length then some (r.take n,r.drop n) else none).map _
  by_cases h:n<=r.length
  .rw [if_pos h,if_pos ⟨by lia,by simpa using h⟩,Int.toNat_natCast,Mn,Mf]
   rfl
  .rw [if_neg h,if_neg (by rintro ⟨_,z⟩;exact h (by simpa using z))]
   rfl
noncomputable def Cq:Nat->List Nat->Option (List (List Nat)×List Nat)
 | 0,r=>some ([],r)
 | k+1,r=>match K8 r with
  | none=>none
  | some (x,s)=>match Cq k s with
   | none=>none
   | some (xs,t)=>some (x::xs,t)
theorem OE:∀ (k:Nat) (l:List Nat),PyFlat.rows k (DM l)=(Cq k l).map fun x=>(x.1.map DM,DM x.2)
 | 0,l=>rfl
 | k+1,l=>by
  show (match PyFlat.row (DM l) with
  | none=>none
  | some (x,s)=>match PyFlat.rows k s with
   | none=>none
   | some (xs,t)=>some (x::xs,t))=(match K8 l with
  | none=>none
  | some (x,s)=>match Cq k s with
   | none=>none
   | some (xs,t)=>some (x::xs,t)).map _
  rw [Tg]
  cases K8 l with
  | none=>rfl
  | some x =>
   obtain ⟨x,s⟩:=x
   show (match PyFlat.rows k (DM s) with
   | none=>none
   | some (xs,t)=>some (DM x::xs,t))=_
   rw [OE k s]
   dsimp only
   cases Cq k s with
   | none=>rfl
   | some y=>rfl
noncomputable def CK (c:Nat):Option (Nat×Nat):=PyWrdirs.shape (c:Int)
theorem Fb {c:Nat} {s:Nat×Nat} (h:CK c=some s):1<=c/\c<=8:=by
 unfold CK PyWrdirs.shape at h
 by_cases h1:(c:Int)=1
 .lia
 by_cases h2:(c:Int)=2
 .lia
 by_cases h3:(c:Int)=3
 .lia
 by_cases h4:(c:Int)=4
 .lia
 by_cases h5:(c:Int)=5
 .lia
 by_cases h6:(c:Int)=6
 .lia
 by_cases h7:(c:Int)=7
 .lia
 by_cases h8:(c:Int)=8
 .lia
 rw [if_neg h1,if_neg h2,if_neg h3,if_neg h4,if_neg h5,if_neg h6,if_neg h7,if_neg h8] at h
 cases h
theorem JC {f:Nat} {p:Nat} {r:List Nat} {cs:List (List (List Int))} (h:PyFlat.calls PyWrdirs.shape f (DM (p::r))=some cs) :
  ∃ (f' n k:Nat) (xs:List (List Nat)) (t:List Nat) (cs':List (List (List Int))),CK p=some (n,k)/\n<=r.length/\Cq k (r.drop n)=some (xs,t)/\PyFlat.calls PyWrdirs.shape f' (DM t)=some cs'/\cs=(DM (p::r.take n)::xs.map DM)::cs':=by
 cases f with
 | zero=>cases h
 | succ f =>
  have h:(match PyFlat.call PyWrdirs.shape (DM (p::r)) with
   | none=>none
   | some (c,t)=>match PyFlat.calls PyWrdirs.shape f t with
    | none=>none
    | some cs=>some (c::cs))=some cs:=h
  have hc:PyFlat.call PyWrdirs.shape (DM (p::r))=match CK p with
   | none=>none
   | some (n,k)=>if (DM r).length<n then none else match PyFlat.rows k ((DM r).drop n) with
    | none=>none
    | some (xs,t)=>some (((p:Int)::(DM r).take n)::xs,t):=rfl
  rw [hc] at h
  cases hs:CK p with
  | none=>rw [hs] at h;cases h
  | some nk =>
   obtain ⟨n,k⟩:=nk
   rw [hs] at h
   dsimp only at h
   rw [Gc,Mf,OE] at h
   by_cases hl:r.length<n
   .rw [if_pos hl] at h
    cases h
   .rw [if_neg hl] at h
    cases hr:Cq k (r.drop n) with
    | none=>rw [hr] at h;cases h
    | some y =>
     obtain ⟨xs,t⟩:=y
     rw [hr] at h
     dsimp only [Option.map_some] at h
     cases hcs:PyFlat.calls PyWrdirs.shape f (DM t) with
     | none=>rw [hcs] at h;cases h
     | some cs' =>
      rw [hcs] at h
      dsimp only at h
      refine ⟨f,n,k,xs,t,cs',rfl,by lia,hr,hcs,?_⟩
      rw [<-ZC h,Mn]
      rfl
theorem PD {f:Nat} {cs:List (List (List Int))} (h:PyFlat.calls PyWrdirs.shape f []=some cs):cs=[]:=by
 cases f <;> exact (ZC h).symm
theorem Fu:∀ (k:Nat) (l:List Nat) (xs:List (List Nat)) (t:List Nat),Cq k l=some (xs,t)->xs.length=k
 | 0,l,xs,t,h=>by cases h;rfl
 | k+1,l,xs,t,h=>by
  have h:(match K8 l with
  | none=>none
  | some (x,s)=>match Cq k s with
   | none=>none
   | some (xs,t)=>some (x::xs,t))=some (xs,t):=h
  cases hr:K8 l with
  | none=>rw [hr] at h;cases h
  | some y =>
   obtain ⟨x,s⟩:=y
   rw [hr] at h
   dsimp only at h
   cases hs:Cq k s with
   | none=>rw [hs] at h;cases h
   | some z =>
    obtain ⟨xs',t'⟩:=z
    rw [hs] at h
    dsimp only at h
    have e:=congrArg Prod.fst (ZC h)
    have e:x::xs'=xs:=e
    rw [<-e,List.length_cons,Fu k s xs' _ hs]
noncomputable def Dz (s:Tables) (c:Nat) (nums:List Nat) (rows:List (List Nat)):Tables×List Int:=WrdirsNeutral.step s (DM (c::nums)::rows.map DM)
theorem CZ {s:Tables} {c:List (List Int)} {x:Wrdirs.Call} (h:WrdirsNeutral.callOf c=some x):WrdirsNeutral.step s c=((Wrdirs.step s x).1,WrdirsNeutral.told (Wrdirs.step s x).2):=by
 unfold WrdirsNeutral.step
 rw [h]
theorem Bv (l:List (List Nat)):WrdirsNeutral.callOf (l.map DM)=(match l with
 | [[1],c,p,m]=>some (.tables c p m)
 | [[2,c]]=>some (.looked c)
 | [[3],t]=>some (.base t)
 | [[4,n],t]=>some (.levels n t)
 | [[5,n],t]=>some (.sequences n t)
 | [[6,n,a,k],t]=>some (.line n a k t)
 | [[7,n,a,k,p,r],t]=>some (.beside n a k p r t)
 | [[8],l,r]=>some (.reading l r)
 | _=>none):=by
 unfold WrdirsNeutral.callOf
 have h:∀ l:List (List Nat),(l.map DM).mapM WrdirsNeutral.nats?=some l:=by
  intro l
  induction l with
  | nil=>rfl
  | cons a l ih =>
   rw [List.map_cons,List.mapM_cons,ih,Mw]
   rfl
 rw [h]
 rfl
theorem Tw (s:Tables) (c p m:List Nat):Dz s 1 [] [c,p,m]=((Wrdirs.step s (.tables c p m)).1,WrdirsNeutral.told (Wrdirs.step s (.tables c p m)).2):=CZ (Bv [[1],c,p,m])
theorem UY (s:Tables) (c:Nat):Dz s 2 [c] []=((Wrdirs.step s (.looked c)).1,WrdirsNeutral.told (Wrdirs.step s (.looked c)).2):=CZ (Bv [[2,c]])
theorem UA (s:Tables) (t:List Nat):Dz s 3 [] [t]=((Wrdirs.step s (.base t)).1,WrdirsNeutral.told (Wrdirs.step s (.base t)).2):=CZ (Bv [[3],t])
theorem Tu (s:Tables) (n:Nat) (t:List Nat):Dz s 4 [n] [t]=((Wrdirs.step s (.levels n t)).1,WrdirsNeutral.told (Wrdirs.step s (.levels n t)).2):=CZ (Bv [[4,n],t])
theorem UE (s:Tables) (n:Nat) (t:List Nat):Dz s 5 [n] [t]=((Wrdirs.step s (.sequences n t)).1,WrdirsNeutral.told (Wrdirs.step s (.sequences n t)).2):=CZ (Bv [[5,n],t])
theorem U3 (s:Tables) (n a k:Nat) (t:List Nat):Dz s 6 [n,a,k] [t]=((Wrdirs.step s (.line n a k t)).1,WrdirsNeutral.told (Wrdirs.step s (.line n a k t)).2):=CZ (Bv [[6,n,a,k],t])
theorem Tq (s:Tables) (n a k p r:Nat) (t:List Nat):Dz s 7 [n,a,k,p,r] [t]=((Wrdirs.step s (.beside n a k p r t)).1,WrdirsNeutral.told (Wrdirs.step s (.beside n a k p r t)).2):=CZ (Bv [[7,n,a,k,p,r],t])
theorem UD (s:Tables) (l r:List Nat):Dz s 8 [] [l,r]=((Wrdirs.step s (.reading l r)).1,WrdirsNeutral.told (Wrdirs.step s (.reading l r)).2):=CZ (Bv [[8],l,r])
noncomputable def JT (s:Tables) (cs:List (List (List Int))):List Int:=PyFlat.told (PyFlat.played WrdirsNeutral.step s cs)
theorem Pb (s:Tables) (c:List (List Int)) (cs:List (List (List Int))):JT s (c::cs)=((WrdirsNeutral.step s c).2.length:Int)::(WrdirsNeutral.step s c).2++JT (WrdirsNeutral.step s c).1 cs:=by
 unfold JT PyFlat.told
 show (((WrdirsNeutral.step s c).2::PyFlat.played WrdirsNeutral.step (WrdirsNeutral.step s c).1 cs).flatMap fun a=>(a.length:Int)::a)=_
 rw [List.flatMap_cons]
theorem Q4 {c n k:Nat} (h:CK c=some (n,k)):∀ (a:List Nat) (xs:List (List Nat)),a.length=n->xs.length=k->PyWrdirs.whole (DM (c::a)::xs.map DM)=DM (c::a)::xs.map DM:=by
 obtain ⟨hc1,hc8⟩:=Fb h
 rcases (show c=1\/c=2\/c=3\/c=4\/c=5\/c=6\/c=7\/c=8 by lia) with rfl | rfl | rfl | rfl | rfl | rfl | rfl | rfl
 .cases (show ((0,3):Nat×Nat)=(n,k) from ZC h)
  exact fun a xs ha hx=>match a,xs,ha,hx with | [],[_,_,_],_,_=>rfl
 .cases (show ((1,0):Nat×Nat)=(n,k) from ZC h)
  exact fun a xs ha hx=>match a,xs,ha,hx with | [_],[],_,_=>rfl
 .cases (show ((0,1):Nat×Nat)=(n,k) from ZC h)
  exact fun a xs ha hx=>match a,xs,ha,hx with | [],[_],_,_=>rfl
 .cases (show ((1,1):Nat×Nat)=(n,k) from ZC h)
  exact fun a xs ha hx=>match a,xs,ha,hx with | [_],[_],_,_=>rfl
 .cases (show ((1,1):Nat×Nat)=(n,k) from ZC h)
  exact fun a xs ha hx=>match a,xs,ha,hx with | [_],[_],_,_=>rfl
 .cases (show ((3,1):Nat×Nat)=(n,k) from ZC h)
  exact fun a xs ha hx=>match a,xs,ha,hx with | [_,_,_],[_],_,_=>rfl
 .cases (show ((5,1):Nat×Nat)=(n,k) from ZC h)
  exact fun a xs ha hx=>match a,xs,ha,hx with | [_,_,_,_,_],[_],_,_=>rfl
 .cases (show ((0,2):Nat×Nat)=(n,k) from ZC h)
  exact fun a xs ha hx=>match a,xs,ha,hx with | [],[_,_],_,_=>rfl
theorem ID:∀ (cs:List (List (List Int))) {f:Nat} {ns:List Nat},PyFlat.calls PyWrdirs.shape f (DM ns)=some cs->cs.map PyWrdirs.whole=cs
 | [],_,_,_=>rfl
 | c::cs,f,[],h=>by
  cases f <;> cases h
 | c::cs,f,p::r,h=>by
  obtain ⟨f',n,k,xs,t,cs',h1,h2,h3,h4,h5⟩:=JC h
  obtain ⟨e1,e2⟩:=List.cons.inj h5
  subst e2
  rw [List.map_cons,ID cs h4,e1,Q4 h1 (r.take n) xs (by rw [List.length_take];lia) (Fu _ _ _ _ h3)]
theorem Nb {ns:List Nat} {cs:List (List (List Int))} (h:PyFlat.calls PyWrdirs.shape ns.length (DM ns)=some cs):PyWrdirs.answers (DM ns)=JT PLAIN cs:=by
 unfold PyWrdirs.answers PyWrdirs.calls
 rw [Gc,h]
 dsimp only
 rw [ID cs h]
 rfl
theorem Mm {ns:List Nat} (h:PyWrdirs.answers_asked (DM ns)=true):∃ cs,PyFlat.calls PyWrdirs.shape ns.length (DM ns)=some cs/\cs.length<=400:=by
 unfold PyWrdirs.answers_asked PyWrdirs.calls at h
 rw [Gc] at h
 cases hc:PyFlat.calls PyWrdirs.shape ns.length (DM ns) with
 | none=>rw [hc] at h;cases h
 | some cs =>
  rw [hc] at h
  dsimp only at h
  refine ⟨cs,rfl,?_⟩
  rw [Bool.and_eq_true] at h
  have:=of_decide_eq_true h.1
  simpa using this
noncomputable def FOk (m:Marks):Prop:=∀ e∈m.stack,∀ v,e.forced=some v->v<2
theorem FOk.top {m:Marks} (h:FOk m) {v:Nat} (e:m.top.forced=some v):v<2:=by
 unfold Marks.top at e
 cases hs:m.stack with
 | nil=>rw [hs] at e;cases e
 | cons x r=>rw [hs] at e;exact h x (by rw [hs];exact .head _) v e
theorem Mq:∀ (s:List Entry) (e:Entry),e∈downIso s->e∈s
 | [],e,h=>h
 | x::r,e,h=>by
  unfold downIso at h
  split at h
  .exact .tail _ h
  .exact .tail _ (Mq r e h)
theorem FOk.endI {m:Marks} (h:FOk m):FOk (endI m):=by
 unfold Wd.endI
 split
 .exact h
 .split
  .exact h
  .exact fun e he=>h e (Mq _ _ he)
theorem FOk.endE {m:Marks} (h:FOk m):FOk (endE m):=by
 unfold Wd.endE
 split
 .exact h
 .split
  .exact h
  .split
   .exact fun e he=>h e (List.mem_of_mem_drop he)
   .exact h
theorem FOk.pre {m:Marks} (h:FOk m) (c:Nat):FOk (Ap c m):=by
 unfold Ap
 split
 .exact h.endI
 .split
  .exact h.endE
  .exact h
theorem FOk.push {m:Marks} (h:FOk m) (r:Bool) (fo:Option Nat) (iso:Bool) (hf:∀ v,fo=some v->v<2):FOk (B3 m r fo iso):=by
 unfold B3
 dsimp only
 generalize (if r=true then nextOdd m.top.level else nextEven m.top.level)=n
 split
 .intro e he
  rcases List.mem_cons.mp he with rfl | he
  .exact hf
  .exact h e he
 .split
  .exact h
  .split
   .exact h
   .exact h
theorem FOk.post {m:Marks} (h:FOk m) (c:Nat) (r:List Nat):FOk (Aq c r m):=by
 unfold Aq
 split
 .refine h.push _ _ _ fun v e=>?_
  unfold E2 at e
  split at e
  .cases e;decide
  .split at e
   .cases e;decide
   .cases e
 .split
  .exact h.push _ _ _ fun v e=>by cases e
  .exact h
theorem IE:∀ (l:List Nat) (m:Marks) (i:Nat) (x:Nat×Nat) (c:Nat),FOk m->(Ad l m)[i]?=some x->l[i]?=some c->x.2=c\/x.2<2
 | [],m,i,x,c,_,h,_=>by simp [Ad] at h
 | d::r,m,0,x,c,hm,h,hc=>by
  cases hc
  have h:((Ap d m).top.level,forcedOr (Ap d m).top d)=x:=ZC h
  subst h
  show forcedOr (Ap d m).top d=d\/_
  unfold forcedOr
  cases e:(Ap d m).top.forced with
  | none=>exact .inl rfl
  | some v=>exact .inr ((hm.pre d).top e)
 | d::r,m,i+1,x,c,hm,h,hc=>IE r _ i x c ((hm.pre d).post d r) h hc
theorem FOk.start (b:Nat):FOk (m0 b):=fun e he v hv=>by
 rcases List.mem_cons.mp he with rfl | he
 .cases hv
 .cases he
theorem UO {row:List Nat} {b i:Nat} (h:i∈FJ row):Kb row b i=row.getD i 0\/Kb row b i<2:=by
 obtain ⟨c,hc,_⟩:=((Geo.of row b).mem i).mp h
 have hl:=(ZB.mp hc).1
 obtain ⟨x,hx⟩:∃ x,(Ad row (m0 b))[i]?=some x:=⟨_,ZA (by rw [Ef];exact hl)⟩
 unfold Kb
 rw [hx,Ai hc]
 exact IE row (m0 b) i x c (FOk.start b) hx hc
theorem HQ {row:List Nat} {b:Nat} {X:List Nat} (h:X∈Ay row b) {i:Nat} (hi:i∈X):i∈FJ row:=by
 rw [<-(Geo.of row b).cover]
 exact List.mem_flatten.mpr ⟨X,h,hi⟩
theorem Oq {row:List Nat} {b:Nat} {X:List Nat} (h:X∈Ay row b):X.length<=row.length:=by
 have hnd:X.Nodup:=by
  have:=(Geo.of row b).once
  exact (List.pairwise_flatten.mp this).1 X h
 have hr:∀ i∈X,i<row.length:=fun i hi=>by
  obtain ⟨c,hc,_⟩:=((Geo.of row b).mem i).mp (HQ h hi)
  exact (ZB.mp hc).1
 have:∀ (n:Nat) (l:List Nat),l.Nodup->(∀ i∈l,i<n)->l.length<=n:=by
  intro n
  induction n with
  | zero =>
   intro l _ h
   cases l with
   | nil=>exact Nat.le_refl _
   | cons a l=>exact absurd (h a (.head _)) (Nat.not_lt_zero _)
  | succ n ih =>
   intro l nd h
   have h1:=ih (l.filter fun i=>i≠n) (List.Pairwise.filter _ nd) fun i hi=>by
    obtain ⟨a,b⟩:=List.mem_filter.mp hi
    have:=h i a
    have b:i≠n:=by simpa using b
    omega
   have h2:l.length<=(l.filter fun i=>i≠n).length+1:=by
    clear ih h h1
    induction l with
    | nil=>simp
    | cons a l ih2 =>
     have nd:=List.nodup_cons.mp nd
     by_cases e:a=n
     .subst e
      rw [List.filter_cons_of_neg (by simp),List.filter_eq_self.mpr (fun i hi=>by
       have:i≠a:=fun z=>nd.1 (z▸hi)
       simpa using this)]
      simp
     .rw [List.filter_cons_of_pos (by simpa using e)]
      have:=ih2 nd.2
      simp at this ⊢
      omega
   omega
 exact this _ _ hnd hr
theorem Pk (l:List Look) (b:Nat) (X:List Nat):(BZ l b X).before<2/\(BZ l b X).behind<2:=by
 unfold BZ edges
 dsimp only
 split
 .dsimp only
  rw [Ec,Ec]
  omega
 .dsimp only
  rw [Ec]
  omega
noncomputable def Low (m:Marks):Prop:=∀ e∈m.stack,e.level<=125
theorem Low.top {m:Marks} (h:Low m):m.top.level<=125:=by
 unfold Marks.top
 cases hs:m.stack with
 | nil=>exact Nat.zero_le _
 | cons e r=>exact h e (hs▸.head _)
theorem Low.push {m:Marks} (h:Low m) (right:Bool) (f:Option Nat) (iso:Bool):Low (B3 m right f iso):=by
 unfold B3
 dsimp only
 generalize (if right=true then nextOdd m.top.level else nextEven m.top.level)=n
 split
 .rename_i hc
  intro e he
  rcases List.mem_cons.mp he with rfl | he
  .exact hc.1
  .exact h e he
 .split
  .exact h
  .split
   .exact h
   .exact h
theorem IG:∀ (s:List Entry),∀ e∈downIso s,e∈s
 | [],e,h=>h
 | x::r,e,h=>by
  unfold downIso at h
  split at h
  .exact .tail _ h
  .exact .tail _ (IG r e h)
theorem Low.pre {m:Marks} (h:Low m) (c:Nat):Low (Ap c m):=by
 unfold Ap endI endE
 split
 .split
  .exact h
  .split
   .exact h
   .exact fun e he=>h e (IG _ e he)
 .split
  .split
   .exact h
   .split
    .exact h
    .split
     .exact fun e he=>h e (List.mem_of_mem_drop he)
     .exact h
  .exact h
theorem Low.post {m:Marks} (h:Low m) (c:Nat) (r:List Nat):Low (Aq c r m):=by
 unfold Aq
 split
 .exact h.push _ _ _
 .split
  .exact h.push _ _ _
  .exact h
theorem MY:∀ (l:List Nat) (m:Marks),Low m->∀ x∈Ad l m,x.1<=125
 | [],m,_,x,hx=>by cases hx
 | c::r,m,h,x,hx=>by
  rcases List.mem_cons.mp hx with rfl | hx
  .exact (h.pre c).top
  .exact MY r _ ((h.pre c).post c r) x hx
theorem RC (row:List Nat) {b:Nat} (hb:b<=1) (i:Nat):DX row b i<=125:=by
 unfold DX
 cases hi:(Ad row (m0 b))[i]? with
 | none=>exact Nat.zero_le _
 | some x =>
  refine MY row (m0 b) ?_ x (ZD hi)
  intro e he
  rcases List.mem_cons.mp he with rfl | he
  .show b<=125
   lia
  .cases he
theorem NQ (n c:Nat):levelOf n c<=n+2:=by
 unfold levelOf
 split
 .split
  .lia
  .split <;> lia
 .split <;> lia
theorem PN (l:List Look) {b:Nat} (hb:b<=1):∀ q∈known l b,q.2<=127:=fun q hq=>by
 unfold known at hq
 obtain ⟨X,_,hq⟩:=List.mem_flatMap.mp hq
 unfold Dv at hq
 obtain ⟨z,_,rfl⟩:=List.mem_map.mp hq
 have h1:=NQ (BZ l b X).level z.2
 have h2:(BZ l b X).level<=125:=by
  show (X.head?.map (DX (l.map Look.cls) b)).getD b<=125
  cases X with
  | nil=>show b<=125;lia
  | cons x X=>exact RC _ hb _
 show levelOf (BZ l b X).level z.2<=127
 lia
theorem Sv {k:List (Nat×Nat)} (h:∀ q∈k,q.2<=127) (i:Nat) {p:Nat} (hp:p<=127):(kn k i).getD p<=127:=by
 unfold kn
 cases hf:k.find? fun (q:Nat×Nat)=>q.1==i with
 | none=>exact hp
 | some q=>exact h q (List.mem_of_find?_eq_some hf)
theorem Mp {k:List (Nat×Nat)} (h:∀ q∈k,q.2<=127):∀ (f i p:Nat),p<=127->∀ x∈fillLevels k f i p,x<=127
 | 0,i,p,hp,x,hx=>by cases hx
 | f+1,i,p,hp,x,hx=>by
  rw [En] at hx
  have:=Sv h i hp
  rcases List.mem_cons.mp hx with rfl | hx
  .exact this
  .exact Mp h f (i+1) _ this x hx
theorem ND {b:Nat} (hb:b<=1):∀ (l:List (Nat×Nat)),(∀ q∈l,q.2<=127)->∀ x∈lineLevels b l,x<=127
 | [],_,x,hx=>by cases hx
 | q::l,h,x,hx=>by
  rw [D9,List.foldr_cons] at hx
  have ih:=ND hb l fun y hy=>h y (.tail _ hy)
  rw [D9] at ih
  generalize l.foldr (DH b) ([],true)=s at hx ih
  have hq:=h q (.head _)
  unfold DH at hx
  split at hx
  .rcases List.mem_cons.mp hx with rfl | hx
   .lia
   .exact ih x hx
  .split at hx
   .rcases List.mem_cons.mp hx with rfl | hx
    .lia
    .exact ih x hx
   .rcases List.mem_cons.mp hx with rfl | hx
    .exact hq
    .exact ih x hx
theorem IO {l:List Nat} {n:Nat} (h:∀ x∈l,x<=n):highest l<=n:=by
 rcases (IR l).2 with e | e
 .lia
 .exact h _ e
theorem QW (told:Option Nat) (l:List Look) (h:∀ n,told=some n->n<=1):Dr.base told l<=1:=by
 unfold Dr.base
 cases told with
 | some n=>exact h n rfl
 | none =>
  show baseOf _<=1
  unfold baseOf
  split <;> first | lia | (split <;> lia)
end Wd
end
section
namespace Wd
open PySem PySem.Spec PyProof.Rows L2
structure BX (mg:Str->Option Value):Prop where
 c_L:Dy mg "L" (NV 0)
 c_R:Dy mg "R" (NV 1)
 c_AL:Dy mg "AL" (NV 2)
 c_EN:Dy mg "EN" (NV 3)
 c_AN:Dy mg "AN" (NV 4)
 c_ES:Dy mg "ES" (NV 5)
 c_ET:Dy mg "ET" (NV 6)
 c_CS:Dy mg "CS" (NV 7)
 c_NSM:Dy mg "NSM" (NV 8)
 c_BN:Dy mg "BN" (NV 9)
 c_B:Dy mg "B" (NV 10)
 c_S:Dy mg "S" (NV 11)
 c_WS:Dy mg "WS" (NV 12)
 c_ON:Dy mg "ON" (NV 13)
 c_LRE:Dy mg "LRE" (NV 14)
 c_RLE:Dy mg "RLE" (NV 15)
 c_LRO:Dy mg "LRO" (NV 16)
 c_RLO:Dy mg "RLO" (NV 17)
 c_PDF:Dy mg "PDF" (NV 18)
 c_LRI:Dy mg "LRI" (NV 19)
 c_RLI:Dy mg "RLI" (NV 20)
 c_FSI:Dy mg "FSI" (NV 21)
 c_PDI:Dy mg "PDI" (NV 22)
 c_HOW_MANY_KINDS:Dy mg "HOW_MANY_KINDS" (NV 23)
 c_MOST_WAITING:Dy mg "MOST_WAITING" (NV 63)
 c_HIGHEST_LEVEL:Dy mg "HIGHEST_LEVEL" (NV 125)
 c_LAST_CHARACTER:Dy mg "LAST_CHARACTER" (NV 1114111)
 c_FIRST_SURROGATE:Dy mg "FIRST_SURROGATE" (NV 55296)
 c_LAST_SURROGATE:Dy mg "LAST_SURROGATE" (NV 57343)
 c_MOST_ROWS:Dy mg "MOST_ROWS" (NV 256)
 c_BY_THE_TEXT:Dy mg "BY_THE_TEXT" (NV 2)
 c_MOST_CHARACTERS:Dy mg "MOST_CHARACTERS" (NV 256)
 c_HIGHEST_IN_LINE:Dy mg "HIGHEST_IN_LINE" (NV 126)
 c_TABLES:Dy mg "TABLES" (NV 1)
 c_LOOKED:Dy mg "LOOKED" (NV 2)
 c_BASE:Dy mg "BASE" (NV 3)
 c_LEVELS:Dy mg "LEVELS" (NV 4)
 c_SEQUENCES:Dy mg "SEQUENCES" (NV 5)
 c_LINE:Dy mg "LINE" (NV 6)
 c_BESIDE:Dy mg "BESIDE" (NV 7)
 b_abs:mg "abs" = none
 b_all:mg "all" = none
 b_any:mg "any" = none
 b_enumerate:mg "enumerate" = none
 b_int:mg "int" = none
 b_len:mg "len" = none
 b_list:mg "list" = none
 b_max:mg "max" = none
 b_min:mg "min" = none
 b_range:mg "range" = none
 b_reversed:mg "reversed" = none
 b_sorted:mg "sorted" = none
 b_sum:mg "sum" = none
 b_tuple:mg "tuple" = none
 b_zip:mg "zip" = none
abbrev FZ:Stmt:=top 25
theorem Ll:AB ["kind"] ["kind"] (A8 FZ):=⟨rfl,rfl,rfl,by decide +kernel,rfl,by decide +kernel,by decide +kernel⟩
abbrev CY:Stmt:=top 26
theorem G7:AB ["kind"] ["kind"] (A8 CY):=⟨rfl,rfl,rfl,by decide +kernel,rfl,by decide +kernel,by decide +kernel⟩
abbrev Cu:Stmt:=top 27
theorem Gh:AB ["kind"] ["kind"] (A8 Cu):=⟨rfl,rfl,rfl,by decide +kernel,rfl,by decide +kernel,by decide +kernel⟩
abbrev Cw:Stmt:=top 28
theorem Gj:AB ["kind"] ["kind"] (A8 Cw):=⟨rfl,rfl,rfl,by decide +kernel,rfl,by decide +kernel,by decide +kernel⟩
abbrev EL:Stmt:=top 29
theorem Jc:AB ["kind"] ["kind"] (A8 EL):=⟨rfl,rfl,rfl,by decide +kernel,rfl,by decide +kernel,by decide +kernel⟩
abbrev F8:Stmt:=top 30
theorem KA:AB ["kind"] ["kind"] (A8 F8):=⟨rfl,rfl,rfl,by decide +kernel,rfl,by decide +kernel,by decide +kernel⟩
abbrev He:Stmt:=top 31
theorem Nd:AB ["kind"] ["kind"] (A8 He):=⟨rfl,rfl,rfl,by decide +kernel,rfl,by decide +kernel,by decide +kernel⟩
abbrev DQ:Stmt:=top 32
theorem Hh:AB ["level"] ["level"] (A8 DQ):=⟨rfl,rfl,rfl,by decide +kernel,rfl,by decide +kernel,by decide +kernel⟩
noncomputable def spB (f:Nat->Bool):Sp:=fun vs H Q _=>∃ n:Nat,vs=[NV n]/\∀ H',Same H H'->Q (.bl (f n)) H'
theorem P2 (n:Nat):Dr.strong n=NK (NV n) (AO [0,1,2]):=by
 rw [BT]
 simp [Dr.strong,Dr.cL,Dr.cR,Dr.cAL,List.contains_cons]
 rfl
theorem Se (n:Nat):Dr.isIso n=NK (NV n) (AO [19,20,21]):=by
 rw [BT]
 simp [Dr.isIso,Dr.cLRI,Dr.cRLI,Dr.cFSI,List.contains_cons]
 rfl
section
variable {P:Program} {w:World} {K:PySem.W.Frag} {mg:Str->Option Value} {base:Heap}
theorem Le (D:Dfn K mg "is_strong" FZ ["kind"]) (T:BX mg):Ak P w K mg base 1 "is_strong" ["kind"] (spB Dr.strong):=by
 refine D.ok Ll (fun vs H Q E h=>?_) (fun f cdv A outer s H vs Q E hr h=>?_)
 .obtain ⟨n,rfl,_⟩:=h
  rfl
 .obtain ⟨n,rfl,q⟩:=h
  refine ⟨_,(A5 (AD (B5 B8 (pv 0) (Bq (A0 (B4 T.c_L) (A0 (B4 T.c_R) (A0 (B4 T.c_AL) A4)))) (by with_unfolding_all rfl)))),?_⟩
  refine ⟨_,rfl,(by show 3<=sizeLine;decide),fun p hp=>⟨p,AO [0,1,2],rfl,.inr (SqT.of A2),rfl,rfl,?_⟩⟩
  exact Pz (P2 n) (q _ (Same.upd hp))
theorem G6 (D:Dfn K mg "begins_embedding" CY ["kind"]) (T:BX mg):Ak P w K mg base 1 "begins_embedding" ["kind"] (spB Ea):=by
 refine D.ok G7 (fun vs H Q E h=>?_) (fun f cdv A outer s H vs Q E hr h=>?_)
 .obtain ⟨n,rfl,_⟩:=h
  rfl
 .obtain ⟨n,rfl,q⟩:=h
  refine ⟨_,(A5 (AD (B5 B8 (pv 0) (Bq (A0 (B4 T.c_LRE) (A0 (B4 T.c_RLE) (A0 (B4 T.c_LRO) (A0 (B4 T.c_RLO) A4))))) (by with_unfolding_all rfl)))),?_⟩
  refine ⟨_,rfl,(by show 4<=sizeLine;decide),fun p hp=>⟨p,AO [14,15,16,17],rfl,.inr (SqT.of A2),rfl,rfl,?_⟩⟩
  exact Pz (show Ea n=NK (NV n) (AO [14,15,16,17]) from (BT _ _).symm) (q _ (Same.upd hp))
theorem HX (D:Dfn K mg "begins_isolate" Cu ["kind"]) (T:BX mg):Ak P w K mg base 1 "begins_isolate" ["kind"] (spB Dr.isIso):=by
 refine D.ok Gh (fun vs H Q E h=>?_) (fun f cdv A outer s H vs Q E hr h=>?_)
 .obtain ⟨n,rfl,_⟩:=h
  rfl
 .obtain ⟨n,rfl,q⟩:=h
  refine ⟨_,(A5 (AD (B5 B8 (pv 0) (Bq (A0 (B4 T.c_LRI) (A0 (B4 T.c_RLI) (A0 (B4 T.c_FSI) A4)))) (by with_unfolding_all rfl)))),?_⟩
  refine ⟨_,rfl,(by show 3<=sizeLine;decide),fun p hp=>⟨p,AO [19,20,21],rfl,.inr (SqT.of A2),rfl,rfl,?_⟩⟩
  exact Pz (Se n) (q _ (Same.upd hp))
theorem HN (D:Dfn K mg "bounds_isolate" Cw ["kind"]) (T:BX mg) (C_begins_isolate:Ak P w K mg base 1 "begins_isolate" ["kind"] (spB Dr.isIso)):Ak P w K mg base 2 "bounds_isolate" ["kind"] (spB Dr.isIsoEdge):=by
 refine D.ok Gj (fun vs H Q E h=>?_) (fun f cdv A outer s H vs Q E hr h=>?_)
 .obtain ⟨n,rfl,_⟩:=h
  rfl
 .obtain ⟨n,rfl,q⟩:=h
  refine ⟨_,(A5 (AD (Ka (BI C_begins_isolate hr (A0 (pv 0) A4)) (Cv (B5 Af (pv 0) (B4 T.c_PDI) (AG _)))))),?_⟩
  refine ⟨_,rfl,n,rfl,fun H1 s1=>⟨_,rfl,ite2 (fun c=>?_) (fun c=>⟨_,rfl,rfl,?_⟩)⟩⟩
  .exact Pz (show Dr.isIsoEdge n=true from (by unfold Dr.isIsoEdge;rw [c];rfl)) (q _ s1)
  .exact Pz (show Dr.isIsoEdge n=decide (NV n=NV 22) from (by unfold Dr.isIsoEdge;rw [D8,Bool.eq_false_iff.mpr c];rfl)) (q _ s1)
theorem Jt (D:Dfn K mg "is_left_out" EL ["kind"]) (T:BX mg) (C_begins_embedding:Ak P w K mg base 1 "begins_embedding" ["kind"] (spB Ea)):Ak P w K mg base 2 "is_left_out" ["kind"] (spB Bj):=by
 refine D.ok Jc (fun vs H Q E h=>?_) (fun f cdv A outer s H vs Q E hr h=>?_)
 .obtain ⟨n,rfl,_⟩:=h
  rfl
 .obtain ⟨n,rfl,q⟩:=h
  refine ⟨_,(A5 (AD (Ka (BI C_begins_embedding hr (A0 (pv 0) A4)) (Cv (B5 B8 (pv 0) (Bq (A0 (B4 T.c_PDF) (A0 (B4 T.c_BN) A4))) (by with_unfolding_all rfl)))))),?_⟩
  refine ⟨_,rfl,n,rfl,fun H1 s1=>⟨_,rfl,ite2 (fun c=>?_) (fun c=>⟨_,rfl,(by show 2<=sizeLine;decide),fun p hp=>⟨p,AO [18,9],rfl,.inr (SqT.of A2),rfl,rfl,?_⟩⟩)⟩⟩
  .exact Pz (show Bj n=true from (by unfold Bj;rw [c];rfl)) (q _ s1)
  .exact Pz (show Bj n=NK (NV n) (AO [18,9]) from (by unfold Bj;rw [BT,Bool.eq_false_iff.mpr c];rfl)) (q _ (s1.trans (Same.upd hp)))
theorem KF (D:Dfn K mg "is_neutral" F8 ["kind"]) (T:BX mg) (C_bounds_isolate:Ak P w K mg base 2 "bounds_isolate" ["kind"] (spB Dr.isIsoEdge)):Ak P w K mg base 3 "is_neutral" ["kind"] (spB BA):=by
 refine D.ok KA (fun vs H Q E h=>?_) (fun f cdv A outer s H vs Q E hr h=>?_)
 .obtain ⟨n,rfl,_⟩:=h
  rfl
 .obtain ⟨n,rfl,q⟩:=h
  refine ⟨_,(A5 (AD (Ka (B5 B8 (pv 0) (Bq (A0 (B4 T.c_S) (A0 (B4 T.c_WS) (A0 (B4 T.c_ON) A4)))) (by with_unfolding_all rfl)) (Cv (BI C_bounds_isolate hr (A0 (pv 0) A4)))))),?_⟩
  refine ⟨_,rfl,(by show 3<=sizeLine;decide),fun p hp=>⟨p,AO [11,12,13],rfl,.inr (SqT.of A2),rfl,rfl,_,rfl,ite2 (fun c=>?_) (fun c=>⟨_,rfl,n,rfl,fun H1 s1=>?_⟩)⟩⟩
  .exact Pz (show BA n=true from by unfold BA;rw [<-BT,show NK (NV n) (AO [11,12,13])=true from c];rfl) (q _ (Same.upd hp))
  .exact Pz (show BA n=Dr.isIsoEdge n from by unfold BA;rw [<-BT,show NK (NV n) (AO [11,12,13])=false from Bool.eq_false_iff.mpr c];rfl) (q _ ((Same.upd hp).trans s1))
noncomputable def spSide:Sp:=fun vs H Q _=>∃ n:Nat,vs=[NV n]/\∀ H',Same H H'->Q (oV (Ci n)) H'
theorem Nr (D:Dfn K mg "side_of" He ["kind"]) (T:BX mg):Ak P w K mg base 1 "side_of" ["kind"] spSide:=by
 refine D.ok Nd (fun vs H Q E h=>?_) (fun f cdv A outer s H vs Q E hr h=>?_)
 .obtain ⟨n,rfl,_⟩:=h
  rfl
 .obtain ⟨n,rfl,q⟩:=h
  refine ⟨_,(A3 (AU (AA Af (pv 0) (B4 T.c_L) (AG _))
   (A5 (AD (B4 T.c_L)))
   AJ)
   (A3 (AU (AA B8 (pv 0) (Bq (A0 (B4 T.c_R) (A0 (B4 T.c_EN) (A0 (B4 T.c_AN) A4)))) (by with_unfolding_all rfl))
   (A5 (AD (B4 T.c_R)))
   AJ)
   (A5 (AD BG)))),?_⟩
  refine ⟨_,rfl,rfl,_,rfl,ite2 (fun c=>?_) (fun c=>⟨_,rfl,(by show 3<=sizeLine;decide),fun p hp=>⟨p,AO [1,3,4],rfl,.inr (SqT.of A2),rfl,rfl,_,rfl,ite2 (fun d=>?_) (fun d=>?_)⟩⟩)⟩
  .rw [D8] at c
   have c:=of_decide_eq_true c
   subst c
   exact q _ (Same.refl _)
  .rw [D8] at c
   have c:¬n=0:=fun z=>c (decide_eq_true z)
   exact vc (congrArg oV (show Ci n=some 1 from (by unfold Ci;rw [if_neg c,if_pos (by rw [<-BT];exact d)]))) (q _ (Same.upd hp))
  .rw [D8] at c
   have c:¬n=0:=fun z=>c (decide_eq_true z)
   exact vc (congrArg oV (show Ci n=none from (by unfold Ci;rw [if_neg c,if_neg (by rw [<-BT];exact d)]))) (q _ (Same.upd hp))
noncomputable def spSol:Sp:=fun vs H Q _=>∃ n:Nat,vs=[NV n]/\Q (NV (n % 2)) H
theorem Hw (D:Dfn K mg "side_of_level" DQ ["level"]) (T:BX mg):Ak P w K mg base 1 "side_of_level" ["level"] spSol:=by
 refine D.ok Hh (fun vs H Q E h=>?_) (fun f cdv A outer s H vs Q E hr h=>?_)
 .obtain ⟨n,rfl,_⟩:=h
  rfl
 .obtain ⟨n,rfl,q⟩:=h
  refine ⟨_,(A5 (AD (Aw (AA Af (Ab JM (pv 0) A7) A7 (AG _)) (B4 T.c_R) (B4 T.c_L)))),?_⟩
  refine ⟨_,rfl,_,_,rfl,rfl,(by show (0:Int)<2;decide),rfl,_,rfl,ite2 (fun c=>?_) (fun c=>?_)⟩
  .have c:V.int ((n:Int) % 2)=V.int 1:=of_decide_eq_true c
   injection c with c
   rw [show n % 2=1 from by lia] at q
   exact q
  .have c:¬V.int ((n:Int) % 2)=V.int 1:=fun z=>c (decide_eq_true z)
   have c:¬(n:Int) % 2=1:=fun z=>c (congrArg V.int z)
   rw [show n % 2=0 from by lia] at q
   exact q
end
abbrev DB:Stmt:=top 49
theorem sc_partners_of:AB ["kinds","partners","waiting","place","begin","kind"] ["kinds"] (A8 DB):=⟨rfl,rfl,rfl,by decide +kernel,rfl,by decide +kernel,by decide +kernel⟩
abbrev Dt:Stmt:=top 50
theorem sc_base_between:AB ["kinds","partners","start","end","place","kind"] ["kinds","partners","start","end"] (A8 Dt):=⟨rfl,rfl,rfl,by decide +kernel,rfl,by decide +kernel,by decide +kernel⟩
abbrev EX:Stmt:=top 51
theorem sc_base_inside:AB ["kinds","partners","begin","end"] ["kinds","partners","begin"] (A8 EX):=⟨rfl,rfl,rfl,by decide +kernel,rfl,by decide +kernel,by decide +kernel⟩
noncomputable def J0 (l:List (Option Nat)):List V:=l.map oV
@[simp] theorem RW (l:List (Option Nat)):(J0 l).length=l.length:=ZE _
theorem F5 {l:List (Option Nat)} {i:Nat} {n:Option Nat} (h:l[i]?=some n):(J0 l)[i]?=some (oV n):=by
 unfold J0
 rw [List.getElem?_map,h]
 rfl
theorem Op (l:List (Option Nat)) (i:Nat) (n:Option Nat):(J0 l).set i (oV n)=J0 (l.set i n):=by
 unfold J0
 rw [List.map_set]
theorem Pl (w:Nat) (l:List Nat):(AO (w::l).reverse)[(AO (w::l).reverse).length - 1]?=some (NV w):=by
 rw [nVs_len]
 refine AR ?_
 rw [List.reverse_cons,List.length_append,List.length_singleton,Nat.add_sub_cancel,List.getElem?_append_right (Nat.le_refl _),Nat.sub_self]
 rfl
theorem Ph (w:Nat) (l:List Nat):(AO (w::l).reverse).dropLast=AO l.reverse:=by
 rw [List.reverse_cons,C0]
 show (AO l.reverse++[NV w]).dropLast=_
 rw [List.dropLast_concat]
section
variable {P:Program} {w:World} {K:PySem.W.Frag} {mg:Str->Option Value} {base:Heap}
noncomputable def spParts:Sp:=fun vs H Q _=>∃ (a:Addr) (row:List Nat),vs=[.ref a]/\H a=some (.lst (AO row))/\row.length<=Nu/\∀ (H':Hp) (p:Addr) (ps:List (Option Nat)),Same H H'->H p=none->H' p=some (.lst (J0 ps))->Gb row ps->Q (.ref p) H'
theorem Jw (D:Dfn K mg "partners_of" DB ["kinds"]) (T:BX mg) (C_begins_isolate:Ak P w K mg base 1 "begins_isolate" ["kind"] (spB Dr.isIso)):Ak P w K mg base 2 "partners_of" ["kinds"] spParts:=by
 refine D.ok sc_partners_of (fun vs H Q E h=>?_) (fun f cdv A outer s H vs Q E hr h=>?_)
 .obtain ⟨a,row,rfl,_⟩:=h
  rfl
 .obtain ⟨a,row,rfl,ha,hl,q⟩:=h
  refine ⟨_,(A3 (Cd (i:=1) rfl sc_partners_of.nd rfl rfl (Dc rfl rfl (by decide +kernel) (by decide +kernel)) (B6 (pv 0)) (own:=[("kind",5)]) (BE (show FK ["kinds","partners","waiting","place","begin","kind"] (A8 DB) _ [("kind",5)]=true from by decide +kernel)) (fun _ _ _ _ _=>(AS (i:=5) sc_partners_of.nd rfl (Or.inl rfl))) (fun _ _ _ _ _=>Ba) (fun _ _ _ _ _=>BG))
   (A3 (AF (i:=2) sc_partners_of.nd rfl (Or.inl rfl) (Ac A4))
   (A3 (Ao PassesOwn.never rfl (B9 rfl T.b_range (A0 (AM (AK (K:=K) rfl) (by rfl) T.b_len PySem.boot_len (A0 (pv 0) A4)) A4)) (AS (i:=3) sc_partners_of.nd rfl (Or.inl rfl))
   (A5 (AU (As (BI C_begins_isolate hr (A0 (AE (A9 (K:=K) rfl) (pv 0) (pv 3) (fun _ _=>rfl)) A4)))
    (A5 (AX (Ck PySem.F.plainAttrs_list PySem.F.slot_list_append PySem.F.type_list_append BP (pv 2) (A0 (pv 3) A4))))
    (A5 (AU (EO (AA Af (AE (A9 (K:=K) rfl) (pv 0) (pv 3) (fun _ _=>rfl)) (B4 T.c_PDI) (AG _)) (DC (AA FO (AM (AK (K:=K) rfl) (by rfl) T.b_len PySem.boot_len (A0 (pv 2) A4)) A7 (AG _)))).pt
     (A3 (AF (i:=4) sc_partners_of.nd rfl (Or.inl rfl) (LA PySem.F.plainAttrs_list PySem.F.slot_list_pop PySem.F.type_list_pop Lj (pv 2)))
      (A3 (C4 (pv 3) (C8 (pv 1) (pv 4) BD))
      (A5 (C4 (pv 4) (C8 (pv 1) (pv 3) BD)))))
     AJ)))))
   (A5 (AD (pv 1)))))),?_⟩
  refine ⟨_,rfl,_,rfl,(Ee ha),fun p hp0=>?_⟩
  refine CB (ys:=J0 (List.replicate row.length none)) ha hp0 (by rw [nVs_len,RW,List.length_replicate]) (by rw [nVs_len];exact hl) (fun i x y H1 R F hx hy s1 k=>?_) (fun H1 s1 h1=>?_)
  .refine ⟨rfl,?_⟩
   obtain ⟨n,hn,rfl⟩:∃ n,(List.replicate row.length (none:Option Nat))[i]?=some n/\oV n=y:=by
    unfold J0 at hy
    rw [List.getElem?_map] at hy
    cases e:(List.replicate row.length (none:Option Nat))[i]? with
    | none=>rw [e] at hy;cases hy
    | some n=>rw [e] at hy;exact ⟨n,rfl,ZC hy⟩
   rw [List.getElem?_replicate] at hn
   split at hn
   .cases hn
    exact k _ (Same.refl _)
   .cases hn
  have hl1:row.length<=100000:=hl
  refine ⟨(BL rfl),fun wt hw0=>⟨_,rfl,_,_,rfl,(Bn (A6 (s1 _ _ ha) (A1 (s1 _ _ ha) hw0))),_,rfl,(by lia),(by simp only [nVs_len] <;> lia),?_⟩⟩
  have hpw:p≠wt:=A1 h1 hw0
  refine BC (fun i σ H'=>Bk (∃ (v3 v4:Option V) (ps:List (Option Nat)) (wait:List Nat),σ=[some (.ref a),some (.ref p),some (.ref wt),v3,v4,none]/\Same H H'/\H' p=some (.lst (J0 ps))/\H' wt=some (.lst (AO wait.reverse))/\PInv row i ps wait))
   ?_ (fun i σ H2 hi h=>?_) (fun σ H2 h=>?_)
  .exact ⟨_,_,_,[],rfl,Same.set s1 (none_of s1 hw0),A6 h1 hpw,A2,PInv.start row⟩
  .obtain ⟨v3,v4,ps,wait,rfl,s2,h2p,h2w,I⟩:=h
   rw [nVs_len] at hi
   obtain ⟨c,hc⟩:∃ c,row[i]?=some c:=⟨_,ZA hi⟩
   have hwl:=I.wl
   refine ⟨_,rfl,_,rfl,_,_,_,_,rfl,rfl,(SqL.of (s2 _ _ ha)),(AH (AR hc)),_,rfl,fun H3 s3=>⟨_,rfl,?_⟩⟩
   walk_at "?d"
   .refine ⟨_,rfl,(Ah (s3 _ _ h2w)),_,rfl,_,_,_,rfl,rfl,(s3 _ _ h2w),(DT (by simp <;> lia)),?_⟩
    exact ⟨_,_,ps,i::wait,rfl,Same.set (s2.trans s3) (none_of s1 hw0),A6 (s3 _ _ h2p) hpw,by rw [A2];simp [C0];rfl,I.begin hc d⟩
   .refine ⟨_,rfl,_,rfl,_,_,_,_,rfl,rfl,(SqL.of (s3 _ _ (s2 _ _ ha))),(AH (AR hc)),rfl,_,rfl,?_⟩
    walk_at "?d2"
    .refine ⟨_,rfl,_,_,rfl,(Bn (s3 _ _ h2w)),_,_,rfl,rfl,_,rfl,?_⟩
     walk_at "?d3"
     .cases wait with
      | nil=>simp at d3
      | cons b wait =>
       obtain ⟨hb,I2⟩:=I.end_ hc d2
       have hpl:=I.len
       refine ⟨_,rfl,(Ah (s3 _ _ h2w)),_,_,_,rfl,rfl,(s3 _ _ h2w),Pl b wait,?_⟩
       rw [Ph]
       refine ⟨_,rfl,_,rfl,_,rfl,_,_,_,_,rfl,rfl,(A6 (s3 _ _ h2p) hpw),(BR (by simp <;> lia)),_,rfl,_,rfl,_,rfl,_,_,_,_,rfl,rfl,A2,(BR (by simp <;> lia)),?_⟩
       exact ⟨_,_,_,wait,rfl,Same.set (Same.set (Same.set (s2.trans s3) (none_of s1 hw0)) hp0) hp0,by rw [A2,<-Op,<-Op];rfl,A6 (A6 A2 hpw.symm) hpw.symm,I2⟩
     .cases wait with
      | nil =>
       skip
       exact ⟨_,_,ps,[],rfl,s2.trans s3,s3 _ _ h2p,s3 _ _ h2w,I.lone hc d2⟩
      | cons b wait=>simp at d3;lia
    .skip
     exact ⟨_,_,ps,wait,rfl,s2.trans s3,s3 _ _ h2p,s3 _ _ h2w,I.other hc (by simpa using d) (by lia)⟩
  .obtain ⟨v3,v4,ps,wait,rfl,s2,h2p,h2w,I⟩:=h
   refine ⟨_,rfl,?_⟩
   refine q H2 p ps s2 hp0 h2p ?_
   rw [nVs_len] at I
   exact I.done
noncomputable def spBetween:Sp:=fun vs H Q _=>∃ (a b:Addr) (row:List Nat) (ps:List (Option Nat)) (st en res:Nat) (halt_:Bool),vs=[.ref a,.ref b,NV st,NV en]/\H a=some (.lst (AO row))/\H b=some (.lst (J0 ps))/\Gb row ps/\BInv row halt_ en res st/\∀ (H':Hp),Same H H'->Q (NV res) H'
theorem IZ (D:Dfn K mg "base_between" Dt ["kinds","partners","start","end"]) (T:BX mg) (C_begins_isolate:Ak P w K mg base 1 "begins_isolate" ["kind"] (spB Dr.isIso)) :
  Ak P w K mg base 2 "base_between" ["kinds","partners","start","end"] spBetween:=by
 refine D.ok sc_base_between (fun vs H Q E h=>?_) (fun f cdv A outer s H vs Q E hr h=>?_)
 .obtain ⟨a,b,row,ps,st,en,res,halt_,rfl,_⟩:=h
  rfl
 .obtain ⟨a,b,row,ps,st,en,res,halt_,rfl,ha,hb,hP,hB,q⟩:=h
  refine ⟨_,(A3 (AF (i:=4) sc_base_between.nd rfl (Or.inl rfl) (pv 2))
   (A3 (DG PassesOwn.never (AA Ep (pv 4) (pv 3) (AG _))
   (A3 (AF (i:=5) sc_base_between.nd rfl (Or.inl rfl) (AE (A9 (K:=K) rfl) (pv 0) (pv 4) (fun _ _=>rfl)))
    (A3 (AU (AA Af (pv 5) (B4 T.c_L) (AG _))
    (A5 (AD A7))
    AJ)
    (A3 (AU (AA B8 (pv 5) (Bq (A0 (B4 T.c_R) (A0 (B4 T.c_AL) A4))) (by with_unfolding_all rfl))
    (A5 (AD A7))
    AJ)
    (A3 (AU (As (BI C_begins_isolate hr (A0 (pv 5) A4)))
    (A3 (AU (AA K3 (AE (A9 (K:=K) rfl) (pv 1) (pv 4) (fun _ _=>rfl)) BG (AG _))
     (A5 (AD A7))
     AJ)
     (A5 (AF (i:=4) sc_base_between.nd rfl (Or.inl rfl) (AE (A9 (K:=K) rfl) (pv 1) (pv 4) (fun _ _=>rfl)))))
    AJ)
    (A5 (O5 (i:=4) sc_base_between.nd rfl (Or.inl rfl) A7 Nq)))))))
   (A5 (AD A7)))),?_⟩
  refine ⟨_,rfl,?_⟩
  refine ⟨fun m σ H'=>Bk (∃ (pl:Nat) (v5:Option V),σ=[some (.ref a),some (.ref b),some (NV st),some (NV en),some (NV pl),v5]/\Same H H'/\BInv row halt_ en res pl/\m=en - pl),⟨_,st,_,rfl,Same.refl _,hB,rfl⟩,?_⟩
  rintro m σ H1 ⟨pl,v5,rfl,s1,I,rfl⟩
  refine ⟨_,rfl,_,rfl,_,_,rfl,rfl,_,rfl,?_⟩
  walk_at "?d"
  .refine Tn ?_
   have hel:=I.el
   obtain ⟨c,hc⟩:∃ c,row[pl]?=some c:=⟨_,ZA (by lia)⟩
   refine ⟨_,rfl,_,rfl,_,_,_,_,rfl,rfl,(SqL.of (s1 _ _ ha)),(AH (AR hc)),_,rfl,rfl,_,rfl,?_⟩
   walk_at "?d0"
   .skip
    have:=I.hit hc (by rw [F4];lia)
    rw [if_pos d0] at this
    subst this
    exact q _ s1
   .refine ⟨_,rfl,(BL rfl),fun t ht=>⟨_,_,rfl,(Rk A2),rfl,rfl,_,rfl,?_⟩⟩
    walk_at "?d1"
    .skip
     have:=I.hit hc (by rw [F4];lia)
     rw [if_neg d0] at this
     subst this
     exact q _ (Same.set s1 (none_of s1 ht))
    .refine ⟨_,rfl,_,rfl,fun H2 s2=>⟨_,rfl,?_⟩⟩
     walk_at "?d2"
     .have hps:=hP.iso pl c hc d2
      refine ⟨_,rfl,_,rfl,_,_,_,_,rfl,rfl,(SqL.of (s2 _ _ (A6 (s1 _ _ hb) (A1 (s1 _ _ hb) ht)))),AH (F5 hps),rfl,_,rfl,?_⟩
      cases he:Dr.endOf row pl with
      | none =>
       skip
       have:=I.endless hc d2 he
       subst this
       exact q _ (Same.trans (Same.set s1 (none_of s1 ht)) s2)
      | some z =>
       obtain ⟨h1,h2,I2⟩:=I.over hc d2 he
       rw [he] at hps
       refine ⟨_,rfl,_,rfl,_,_,_,_,rfl,rfl,(SqL.of (s2 _ _ (A6 (s1 _ _ hb) (A1 (s1 _ _ hb) ht)))),AH (F5 hps),_,rfl,_,_,rfl,rfl,?_⟩
       exact ⟨_,by lia,z+1,_,rfl,Same.trans (Same.set s1 (none_of s1 ht)) s2,I2,rfl⟩
     .refine ⟨_,rfl,_,_,rfl,rfl,?_⟩
      exact ⟨_,by lia,pl+1,_,rfl,Same.trans (Same.set s1 (none_of s1 ht)) s2,I.weak d hc (by simp [d2]) (by rw [F4];lia),rfl⟩
  .skip
   have e:pl=en:=by have:=I.le;lia
   subst e
   have:=I.stop
   subst this
   exact q _ s1
noncomputable def spInside:Sp:=fun vs H Q _=>∃ (a b:Addr) (row:List Nat) (ps:List (Option Nat)) (i c:Nat),vs=[.ref a,.ref b,NV i]/\H a=some (.lst (AO row))/\H b=some (.lst (J0 ps))/\Gb row ps/\row[i]?=some c/\Dr.isIso c=true /\
 ∀ (H':Hp),Same H H'->Q (NV (E8 (Dr.firstStrong (row.drop (i+1)) true 0))) H'
theorem Jm (D:Dfn K mg "base_inside" EX ["kinds","partners","begin"]) (T:BX mg) (C_base_between:Ak P w K mg base 2 "base_between" ["kinds","partners","start","end"] spBetween) :
  Ak P w K mg base 3 "base_inside" ["kinds","partners","begin"] spInside:=by
 refine D.ok sc_base_inside (fun vs H Q E h=>?_) (fun f cdv A outer s H vs Q E hr h=>?_)
 .obtain ⟨a,b,row,ps,i,c,rfl,_⟩:=h
  rfl
 .obtain ⟨a,b,row,ps,i,c,rfl,ha,hb,hP,hc,hi,q⟩:=h
  refine ⟨_,(A3 (AF (i:=3) sc_base_inside.nd rfl (Or.inl rfl) (Aw (AA K3 (AE (A9 (K:=K) rfl) (pv 1) (pv 2) (fun _ _=>rfl)) BG (AG _)) (AM (AK (K:=K) rfl) (by rfl) T.b_len PySem.boot_len (A0 (pv 0) A4)) (AE (A9 (K:=K) rfl) (pv 1) (pv 2) (fun _ _=>rfl))))
   (A5 (AD (BI C_base_between hr (A0 (pv 0) (A0 (pv 1) (A0 (Ab Ag (pv 2) A7) (A0 (pv 3) A4)))))))),?_⟩
  have hps:=hP.iso i c hc hi
  have I:=BInv.startIn hc
  refine ⟨_,rfl,_,rfl,_,_,_,_,rfl,rfl,(SqL.of hb),AH (F5 hps),?_⟩
  cases he:Dr.endOf row i with
  | none =>
   rw [he] at I
   refine ⟨rfl,_,rfl,⟨_,rfl,_,_,rfl,(Bn ha),_,rfl,_,rfl,_,rfl,_,_,rfl,rfl,_,rfl,_,_,_,_,_,_,_,_,rfl,ha,hb,hP,by
    rw [nVs_len]
    exact I,?_⟩⟩
   refine fun H1 s1=>?_
   exact q _ s1
  | some z =>
   rw [he] at I hps
   refine ⟨rfl,_,rfl,⟨_,rfl,_,rfl,_,_,_,_,rfl,rfl,(SqL.of hb),AH (F5 hps),_,rfl,_,rfl,_,rfl,_,_,rfl,rfl,_,rfl,_,_,_,_,_,_,_,_,rfl,ha,hb,hP,I,fun H1 s1=>?_⟩⟩
   exact q _ s1
end
abbrev F7:Stmt:=Ae (top 61) 0
theorem KJ:AB ["self","level","forced","isolate"] ["self","level","forced","isolate"] (A8 F7):=⟨rfl,rfl,rfl,by decide +kernel,rfl,by decide +kernel,by decide +kernel⟩
abbrev ER:Stmt:=top 62
theorem sc_level_above:AB ["level","side","above"] ["level","side"] (A8 ER):=⟨rfl,rfl,rfl,by decide +kernel,rfl,by decide +kernel,by decide +kernel⟩
abbrev Dg:Stmt:=Ae (top 63) 0
theorem Ib:AB ["self","base"] ["self","base"] (A8 Dg):=⟨rfl,rfl,rfl,by decide +kernel,rfl,by decide +kernel,by decide +kernel⟩
abbrev EW:Stmt:=Ae (top 63) 1
theorem Jv:AB ["self"] ["self"] (A8 EW):=⟨rfl,rfl,rfl,by decide +kernel,rfl,by decide +kernel,by decide +kernel⟩
abbrev CV:Stmt:=Ae (top 63) 2
theorem G8:AB ["self","level"] ["self","level"] (A8 CV):=⟨rfl,rfl,rfl,by decide +kernel,rfl,by decide +kernel,by decide +kernel⟩
abbrev BM:Stmt:=Ae (top 63) 3
theorem sc_Nesting_begin_embedding:AB ["self","side","forced","level"] ["self","side","forced"] (A8 BM):=⟨rfl,rfl,rfl,by decide +kernel,rfl,by decide +kernel,by decide +kernel⟩
abbrev Bi:Stmt:=Ae (top 63) 4
theorem sc_Nesting_begin_isolate:AB ["self","side","level"] ["self","side"] (A8 Bi):=⟨rfl,rfl,rfl,by decide +kernel,rfl,by decide +kernel,by decide +kernel⟩
abbrev Bg:Stmt:=Ae (top 63) 5
theorem EY:AB ["self"] ["self"] (A8 Bg):=⟨rfl,rfl,rfl,by decide +kernel,rfl,by decide +kernel,by decide +kernel⟩
abbrev Br:Stmt:=Ae (top 63) 6
theorem F3:AB ["self"] ["self"] (A8 Br):=⟨rfl,rfl,rfl,by decide +kernel,rfl,by decide +kernel,by decide +kernel⟩
abbrev DR:Stmt:=top 64
theorem sc_side_of_begin:AB ["kinds","partners","place","kind"] ["kinds","partners","place"] (A8 DR):=⟨rfl,rfl,rfl,by decide +kernel,rfl,by decide +kernel,by decide +kernel⟩
abbrev Fa:Stmt:=top 65
theorem LC:AB ["kind"] ["kind"] (A8 Fa):=⟨rfl,rfl,rfl,by decide +kernel,rfl,by decide +kernel,by decide +kernel⟩
abbrev DV:Stmt:=top 66
theorem sc_settle_begins:AB ["kinds","partners","base","nesting","settled","place","kind","top"] ["kinds","partners","base"] (A8 DV):=⟨rfl,rfl,rfl,by decide +kernel,rfl,by decide +kernel,by decide +kernel⟩
noncomputable def SO (e:Dr.Entry):List (Str×V):=[("level",NV e.level),("forced",oV e.forced),("isolate",.bl e.iso)]
noncomputable def RM (C:Addr) (H:Hp) (x:Addr) (e:Dr.Entry):Prop:=∃ dx,H x=some (.ins C dx (SO e))
noncomputable def Ro (f:Addr) (m:Dr.Marks):List (Str×V):=[("frames",.ref f),("inside_isolates",NV m.open_),("refused_embeddings",NV m.badEmb),("refused_isolates",NV m.badIso)]
noncomputable def Frs (C:Addr) (H:Hp):List Addr->List Dr.Entry->Prop
 | [],[]=>True
 | x::fr,e::st=>RM C H x e/\Frs C H fr st
 | _,_=>False
theorem Frs.len {C:Addr} {H:Hp}:∀ {fr:List Addr} {st:List Dr.Entry},Frs C H fr st->fr.length=st.length
 | [],[],_=>rfl
 | _::_,_::_,h=>congrArg (·+1) (Frs.len h.2)
theorem Frs.mono {C:Addr} {H H':Hp} (k:∀ x dx e,H x=some (.ins C dx (SO e))->H' x=some (.ins C dx (SO e))):∀ {fr:List Addr} {st:List Dr.Entry},Frs C H fr st->Frs C H' fr st
 | [],[],_=>trivial
 | _::_,_::_,⟨⟨dx,h⟩,r⟩=>⟨⟨dx,k _ _ _ h⟩,Frs.mono k r⟩
structure NestAt (CN CF:Addr) (H:Hp) (n f:Addr) (m:Dr.Marks) (fr:List Addr):Prop where
 obj:∃ dx,H n=some (.ins CN dx (Ro f m))
 lst:H f=some (.lst (fr.reverse.map V.ref))
 frs:Frs CF H fr m.stack
theorem S9 {H:Hp} {x n CF CN dx dx' f:Addr} {e:Dr.Entry} {m:Dr.Marks} (h:H x=some (.ins CF dx (SO e))) (h':H n=some (.ins CN dx' (Ro f m))):x≠n:=AW h h' (by
 intro z
 injection z with _ _ z
 unfold SO Ro at z
 have:=congrArg List.length z
 simp at this)
theorem Rw {H:Hp} {x CF dx f:Addr} {e:Dr.Entry} {xs:List V} (h:H x=some (.ins CF dx (SO e))) (h':H f=some (.lst xs)):x≠f:=AW h h' nofun
theorem NestAt.same {CN CF n f:Addr} {H H':Hp} {m:Dr.Marks} {fr:List Addr} (N:NestAt CN CF H n f m fr) (s:Same H H'):NestAt CN CF H' n f m fr:=by
 obtain ⟨⟨dx,h1⟩,h2,h3⟩:=N
 exact ⟨⟨dx,s _ _ h1⟩,s _ _ h2,h3.mono fun x dx e h=>s _ _ h⟩
theorem NestAt.lst2 {CN CF n f a:Addr} {H:Hp} {m:Dr.Marks} {fr:List Addr} {xs:List V} {o:HO} (N:NestAt CN CF H n f m fr) (h:H a=some (.lst xs)) (hf:f≠a):NestAt CN CF (upd H a o) n f m fr:=by
 obtain ⟨⟨dx,h1⟩,h2,h3⟩:=N
 refine ⟨⟨dx,?_⟩,?_,h3.mono fun x dx e h'=>?_⟩
 .rw [AQ (AW h1 h nofun)];exact h1
 .rw [AQ hf];exact h2
 .rw [AQ (AW h' h nofun)];exact h'
theorem NestAt.frs2 {CN CF n f:Addr} {H H':Hp} {m:Dr.Marks} {fr:List Addr} (N:NestAt CN CF H n f m fr) (k:Keep2 n f H H'):Frs CF H' fr m.stack:=by
 obtain ⟨⟨dx,h1⟩,h2,h3⟩:=N
 exact h3.mono fun x dx e h=>k _ _ h (S9 h h1) (Rw h h2)
theorem Frs.tail {C:Addr} {H:Hp} {x:Addr} {fr:List Addr} {st:List Dr.Entry} (h:Frs C H (x::fr) st):Frs C H fr (st.drop 1):=by
 cases st with
 | nil=>exact h.elim
 | cons e st=>exact h.2
theorem Go {xs:List V} {v:V}:Lw (xs++[v]) (-1)=some v:=by
 unfold Lw RB
 rw [if_neg (by decide),if_pos (by simp;lia)]
 simp
 rw [show (-1+((xs.length:Int)+1)).toNat=xs.length by lia]
 simp
structure FA (K:PySem.W.Frag) (C:Addr):Prop where
 cl:Cls K C
 f1:NoAttr K C "level"
 f2:NoAttr K C "forced"
 f3:NoAttr K C "isolate"
structure Fd (K:PySem.W.Frag) (C:Addr):Prop where
 cl:Cls K C
 f1:NoAttr K C "frames"
 f2:NoAttr K C "inside_isolates"
 f3:NoAttr K C "refused_embeddings"
 f4:NoAttr K C "refused_isolates"
section
variable {P:Program} {w:World} {K:PySem.W.Frag} {mg:Str->Option Value} {base:Heap} {CF CN:Addr}
noncomputable def spFrame (C:Addr):Sp:=fun vs H Q _=>∃ (x dx:Addr) (l:Nat) (fv:V) (fo:Option Nat) (b:Bool),vs=[.ref x,NV l,fv,.bl b]/\fv=oV fo/\H x=some (.ins C dx [])/\∀ H',H' x=some (.ins C dx (SO ⟨l,fo,b⟩))->Keep x H H'->Q .non H'
theorem Qj (D:Dmk K mg CF "Frame" "Frame.__init__" F7 ["self","level","forced","isolate"]) (F:FA K CF):Kg P w K mg base 1 CF "Frame" ["self","level","forced","isolate"] (spFrame CF):=by
 refine D.ok KJ (fun vs H Q E h=>?_) (fun f cdv A outer s H vs Q E hr h=>?_)
 .obtain ⟨x,dx,l,fv,fo,b,rfl,_⟩:=h
  rfl
 .obtain ⟨x,dx,l,fv,fo,b,rfl,rfl,hx,q⟩:=h
  obtain ⟨cl,f1,f2,f3⟩:=F
  refine ⟨_,(A3 (BF (pv 0) (pv 1) rfl)
   (A3 (BF (pv 0) (pv 2) rfl)
   (A5 (BF (pv 0) (pv 3) rfl)))),?_⟩
  refine ⟨_,rfl,_,rfl,_,_,_,_,rfl,hx,cl,f1,(BL rfl),_,rfl,_,rfl,_,_,_,_,rfl,A2,cl,f2,(BL rfl),_,rfl,_,rfl,_,_,_,_,rfl,A2,cl,f3,(BL rfl),?_⟩
  refine q _ ?_ (Keep.viaU (Keep.viaU (Keep.viaU (Keep.refl _ _) (.inl rfl)) (.inl rfl)) (.inl rfl))
  rw [A2]
  rfl
noncomputable def Q8 (b:Bool):Nat:=if b=true then 1 else 0
noncomputable def spAbove:Sp:=fun vs H Q _=>∃ (n:Nat) (b:Bool),vs=[NV n,NV (Q8 b)]/\Q (NV (if b=true then Dr.nextOdd n else Dr.nextEven n)) H
theorem Js (D:Dfn K mg "level_above" ER ["level","side"]) (T:BX mg):Ak P w K mg base 1 "level_above" ["level","side"] spAbove:=by
 refine D.ok sc_level_above (fun vs H Q E h=>?_) (fun f cdv A outer s H vs Q E hr h=>?_)
 .obtain ⟨n,b,rfl,_⟩:=h
  rfl
 .obtain ⟨n,b,rfl,q⟩:=h
  refine ⟨_,(A3 (AF (i:=2) sc_level_above.nd rfl (Or.inl rfl) (Ab Ag (pv 0) A7))
   (A5 (AD (Aw (AA Af (Ab JM (pv 2) A7) (pv 1) (AG _)) (pv 2) (Ab Ag (pv 2) A7))))),?_⟩
  refine ⟨_,rfl,_,_,rfl,rfl,_,rfl,_,_,rfl,rfl,(by lia),_,rfl,rfl,_,rfl,?_⟩
  walk_at "?d"
  .refine ⟨_,rfl,?_⟩
   refine SY q ?_
   cases b <;> simp only [Q8,Dr.nextOdd,Dr.nextEven,if_true,Bool.false_eq_true,if_false] at d ⊢ <;> split <;> lia
  .refine ⟨_,rfl,_,_,rfl,rfl,?_⟩
   refine SY q ?_
   cases b <;> simp only [Q8,Dr.nextOdd,Dr.nextEven,if_true,Bool.false_eq_true,if_false] at d ⊢ <;> split <;> lia
noncomputable def spNest (CN CF:Addr):Sp:=fun vs H Q _=>∃ (n dx:Addr) (b:Nat),vs=[.ref n,NV b]/\H n=some (.ins CN dx [])/\∀ (H':Hp) (f:Addr) (fr:List Addr),H f=none->f≠n->NestAt CN CF H' n f (m0 b) fr->Keep n H H'->Q .non H'
theorem Nj (D:Dmk K mg CN "Nesting" "Nesting.__init__" Dg ["self","base"]) (T:BX mg) (N:Fd K CN) (C_Frame:Kg P w K mg base 1 CF "Frame" ["self","level","forced","isolate"] (spFrame CF)):Kg P w K mg base 3 CN "Nesting" ["self","base"] (spNest CN CF):=by
 refine D.ok Ib (fun vs H Q E h=>?_) (fun f cdv A outer s H vs Q E hr h=>?_)
 .obtain ⟨n,dx,b,rfl,_⟩:=h
  rfl
 .obtain ⟨n,dx,b,rfl,hn,q⟩:=h
  obtain ⟨cl,f1,f2,f3,f4⟩:=N
  refine ⟨_,(A3 (BF (pv 0) (Ac (A0 (RH C_Frame hr (A0 (pv 1) (A0 BG (A0 OH A4)))) A4)) rfl)
   (A3 (BF (pv 0) A7 rfl)
   (A3 (BF (pv 0) A7 rfl)
   (A5 (BF (pv 0) A7 rfl))))),?_⟩
  refine ⟨_,rfl,fun x dx' nx ndx nex=>⟨_,_,_,_,_,_,rfl,VT,A2,fun H1 h1 k1=>⟨rfl,(BL rfl),fun l hl=>⟨_,rfl,_,_,_,_,rfl,(A6 (k1 _ _ (A6 (A6 hn (A1 hn ndx)) (A1 hn nx)) (A1 hn nx)) (A1 (k1 _ _ (A6 (A6 hn (A1 hn ndx)) (A1 hn nx)) (A1 hn nx)) hl)),cl,f1,(BL rfl),_,rfl,_,_,_,_,rfl,A2,cl,f2,(BL rfl),_,rfl,_,_,_,_,rfl,A2,cl,f3,(BL rfl),_,rfl,_,_,_,_,rfl,A2,cl,f4,(BL rfl),?_⟩⟩⟩⟩
  have hnx:n≠x:=A1 hn nx
  have hnl:n≠l:=A1 (k1 _ _ (A6 (A6 hn (A1 hn ndx)) hnx) hnx) hl
  have hxl:x≠l:=A1 h1 hl
  refine q _ l [x] (none_of (Same.kept (Same.set (Same.set (Same.refl _) ndx) nx) nx k1) hl) hnl.symm ⟨⟨dx,?_⟩,A6 (A6 (A6 (A6 A2 hnl.symm) hnl.symm) hnl.symm) hnl.symm,⟨dx',A6 (A6 (A6 (A6 (A6 h1 hxl) hnx.symm) hnx.symm) hnx.symm) hnx.symm⟩,trivial⟩ (Keep.viaU (Keep.viaU (Keep.viaU (Keep.viaU (Keep.viaU (Keep.viaK (Keep.viaU (Keep.viaU (Keep.refl _ _) (.inr ndx)) (.inr nx)) k1 (.inr nx)) (.inr (none_of (Same.kept (Same.set (Same.set (Same.refl _) ndx) nx) nx k1) hl))) (.inl rfl)) (.inl rfl)) (.inl rfl)) (.inl rfl))
  rw [A2]
  rfl
noncomputable def spTop (CN CF:Addr):Sp:=fun vs H Q _=>∃ (n f:Addr) (m:Dr.Marks) (fr:List Addr),vs=[.ref n]/\NestAt CN CF H n f m fr/\m.stack≠[]/\∀ x dx,fr.head?=some x->H x=some (.ins CF dx (SO m.top))->Q (.ref x) H
theorem Sz (D:Dme K CN "top" "Nesting.top" EW ["self"]) (T:BX mg) (N:Fd K CN):Cb P w K mg base 1 CN "top" ["self"] (spTop CN CF):=by
 refine D.ok Jv (fun vs H Q E h=>?_) (fun f cdv A outer s H vs Q E hr h=>?_)
 .obtain ⟨n,f,m,fr,rfl,_⟩:=h
  rfl
 .obtain ⟨n,f,m,fr,rfl,⟨⟨dx,hn⟩,hf,hF⟩,hne,q⟩:=h
  obtain ⟨cl,f1,f2,f3,f4⟩:=N
  refine ⟨_,(A5 (AD (AE (A9 (K:=K) rfl) (AI (K:=K) rfl (pv 0) rfl) (BQ Av A7) (fun _ _=>rfl)))),?_⟩
  cases fr with
  | nil =>
   have:=hF.len
   exact absurd (List.eq_nil_of_length_eq_zero this.symm) hne
  | cons x fr =>
   cases hst:m.stack with
   | nil=>exact absurd hst hne
   | cons e st =>
    rw [hst] at hF
    refine ⟨_,rfl,_,_,_,_,_,rfl,hn,cl,f1,rfl,_,rfl,_,_,_,_,rfl,rfl,(SqL.of hf),by
     rw [List.reverse_cons,List.map_append]
     exact Go,?_⟩
    skip
    obtain ⟨dx',hx'⟩:=hF.1
    refine q x dx' rfl ?_
    unfold Dr.Marks.top
    rw [hst]
    exact hx'
noncomputable def K1 (l:Nat) (m:Dr.Marks):Bool:=decide (l<=Dr.DEEP/\m.badIso=0/\m.badEmb=0)
noncomputable def spRoom (CN CF:Addr):Sp:=fun vs H Q _=>∃ (n f:Addr) (m:Dr.Marks) (fr:List Addr) (l:Nat),vs=[.ref n,NV l]/\NestAt CN CF H n f m fr/\Q (.bl (K1 l m)) H
theorem MF (D:Dme K CN "has_room" "Nesting.has_room" CV ["self","level"]) (T:BX mg) (N:Fd K CN):Cb P w K mg base 1 CN "has_room" ["self","level"] (spRoom CN CF):=by
 refine D.ok G8 (fun vs H Q E h=>?_) (fun f cdv A outer s H vs Q E hr h=>?_)
 .obtain ⟨n,f,m,fr,l,rfl,_⟩:=h
  rfl
 .obtain ⟨n,f,m,fr,l,rfl,⟨⟨dx,hn⟩,hf,hF⟩,q⟩:=h
  obtain ⟨cl,f1,f2,f3,f4⟩:=N
  refine ⟨_,(A5 (AD (FF (B5 GE (pv 1) (B4 T.c_HIGHEST_LEVEL) (AG _)) (FF (B5 Af (AI (K:=K) rfl (pv 0) rfl) A7 (AG _)) (Cv (B5 Af (AI (K:=K) rfl (pv 0) rfl) A7 (AG _))))))),?_⟩
  refine ⟨_,rfl,_,_,rfl,rfl,_,rfl,?_⟩
  have fin:∀ b:Bool,b=K1 l m->Q (.bl b) H:=fun b e=>by rw [e];exact q
  walk_at "?d1"
  .refine ⟨_,rfl,_,_,_,_,_,rfl,hn,cl,f3,rfl,rfl,_,rfl,?_⟩
   walk_at "?d2"
   .refine ⟨_,rfl,_,_,_,_,_,rfl,hn,cl,f4,rfl,rfl,?_⟩
    refine fin _ ?_
    unfold K1 Dr.DEEP
    have:(m.badIso=0)↔(V.int (m.badIso:Int)=V.int 0):=by simp
    rw [Bool.eq_iff_iff]
    simp only [decide_eq_true_eq,V.int.injEq]
    lia
   .refine fin _ ?_
    unfold K1 Dr.DEEP
    rw [eq_comm,decide_eq_false_iff_not]
    lia
  .skip
   refine fin _ ?_
   unfold K1 Dr.DEEP
   rw [eq_comm,decide_eq_false_iff_not]
   lia
theorem L5 {m:Dr.Marks} {right iso:Bool} {fo:Option Nat} {n:Nat} (hn:n=if right=true then Dr.nextOdd m.top.level else Dr.nextEven m.top.level) (h:K1 n m=true) :
  B3 m right fo iso={ m with stack:=⟨n,fo,iso⟩::m.stack,open_:=if iso=true then m.open_+1 else m.open_ }:=by
 unfold B3
 dsimp only
 rw [<-hn,if_pos (of_decide_eq_true h)]
theorem OO {m:Dr.Marks} {right iso:Bool} {fo:Option Nat} {n:Nat} (hn:n=if right=true then Dr.nextOdd m.top.level else Dr.nextEven m.top.level) (h:¬K1 n m=true) :
  B3 m right fo iso=if iso=true then { m with badIso:=m.badIso+1 } else if m.badIso=0 then { m with badEmb:=m.badEmb+1 } else m:=by
 unfold B3
 dsimp only
 rw [<-hn,if_neg (fun z=>h (decide_eq_true z))]
theorem Fx (x:Addr) (fr:List Addr):fr.reverse.map V.ref++[V.ref x]=(x::fr).reverse.map V.ref:=by
 rw [List.reverse_cons,List.map_append]
 rfl
noncomputable def spBegE (CN CF:Addr):Sp:=fun vs H Q _=>∃ (n f:Addr) (m:Dr.Marks) (fr:List Addr) (right:Bool) (fv:V) (fo:Option Nat),vs=[.ref n,NV (Q8 right),fv]/\fv=oV fo/\NestAt CN CF H n f m fr/\m.stack≠[]/\m.stack.length<=100000 /\
 ∀ (H':Hp) (fr':List Addr),NestAt CN CF H' n f (B3 m right fo false) fr'->Keep2 n f H H'->Q .non H'
theorem GL (D:Dme K CN "begin_embedding" "Nesting.begin_embedding" BM ["self","side","forced"]) (T:BX mg) (N:Fd K CN) (F:FA K CF)
  (C_level_above:Ak P w K mg base 1 "level_above" ["level","side"] spAbove) (C_Frame:Kg P w K mg base 1 CF "Frame" ["self","level","forced","isolate"] (spFrame CF))
  (M_Nesting_top:Cb P w K mg base 1 CN "top" ["self"] (spTop CN CF)) (M_Nesting_has_room:Cb P w K mg base 1 CN "has_room" ["self","level"] (spRoom CN CF)) :
  Cb P w K mg base 3 CN "begin_embedding" ["self","side","forced"] (spBegE CN CF):=by
 refine D.ok sc_Nesting_begin_embedding (fun vs H Q E h=>?_) (fun f cdv A outer s H vs Q E hr h=>?_)
 .obtain ⟨n,f,m,fr,right,fv,fo,rfl,_⟩:=h
  rfl
 .obtain ⟨n,f,m,fr,right,fv,fo,rfl,rfl,N0,hne,hsz,q⟩:=h
  obtain ⟨cl,f1,f2,f3,f4⟩:=N
  obtain ⟨gl,g1,g2,g3⟩:=F
  have hfl:=N0.frs.len
  obtain ⟨dx,hn⟩:=N0.obj
  have hf:=N0.lst
  refine ⟨_,(A3 (AF (i:=3) sc_Nesting_begin_embedding.nd rfl (Or.inl rfl) (BI C_level_above hr (A0 (AI (K:=K) rfl (Gm M_Nesting_top hr (pv 0)) rfl) (A0 (pv 1) A4))))
   (A5 (AU (As (JA M_Nesting_has_room hr (pv 0) (A0 (pv 3) A4)))
   (A5 (AX (Ck PySem.F.plainAttrs_list PySem.F.slot_list_append PySem.F.type_list_append BP (AI (K:=K) rfl (pv 0) rfl) (A0 (RH C_Frame hr (A0 (pv 3) (A0 (pv 2) (A0 OH A4)))) A4))))
   (A5 (AU (AA Af (AI (K:=K) rfl (pv 0) rfl) A7 (AG _))
    (A5 (Cc (pv 0) A7 JB))
    AJ))))),?_⟩
  refine ⟨_,rfl,_,_,_,rfl,hn,rfl,_,_,_,_,rfl,(NestAt.same N0 (Same.refl _)),hne,fun x dx' hx hx'=>⟨_,_,_,_,_,rfl,hx',gl,g1,rfl,_,rfl,_,_,rfl,_,rfl,_,_,_,rfl,hn,rfl,_,rfl,_,_,_,_,_,rfl,(NestAt.same N0 (Same.refl _)),_,rfl,?_⟩⟩
  generalize hnn:(if right=true then Dr.nextOdd m.top.level else Dr.nextEven m.top.level)=nn
  walk_at "?d"
  .refine ⟨_,rfl,_,_,_,_,_,rfl,hn,cl,f1,rfl,(Ah hf),_,rfl,_,rfl,fun y dy ny ndy ney=>⟨_,_,_,_,_,_,rfl,rfl,A2,fun H1 h1 k1=>⟨rfl,_,_,_,rfl,rfl,(k1 _ _ (A6 (A6 hf (A1 hf ndy)) (A1 hf ny)) (A1 hf ny)),(QL (by simp <;> lia)),?_⟩⟩⟩
   have e:=L5 (fo:=fo) (iso:=false) hnn.symm d
   rw [e] at q
   rw [Fx]
   have hfy:f≠y:=A1 hf ny
   have hny:n≠y:=A1 hn ny
   have hnf:n≠f:=AW hn hf nofun
   have k2:Keep2 n f H (upd H1 f (HO.lst (List.map V.ref (y::fr).reverse))):=Keep2.viaU (Keep2.viaK (Keep2.viaU (Keep2.viaU (Keep2.refl _ _ _) (.inr (.inr ndy))) (.inr (.inr ny))) k1 (.inr (.inr ny))) (.inr (.inl rfl))
   exact q _ (y::fr) ⟨⟨dx,A6 (k1 _ _ (A6 (A6 hn (A1 hn ndy)) hny) hny) hnf⟩,A2,⟨dy,A6 h1 hfy.symm⟩,N0.frs2 k2⟩ k2
  .refine ⟨_,rfl,_,_,_,_,_,rfl,hn,cl,f4,rfl,rfl,_,rfl,?_⟩
   have e:=OO (fo:=fo) (iso:=false) hnn.symm (by simpa using d)
   rw [e,if_neg (by decide)] at q
   walk_at "?d2"
   .refine ⟨_,rfl,_,_,_,_,_,rfl,hn,cl,f3,rfl,_,_,rfl,rfl,_,_,hn,(BL rfl),?_⟩
    have d2:m.badIso=0:=by lia
    rw [if_pos d2] at q
    have k2:Keep2 n f H (upd H n (HO.ins CN dx (Cm "refused_embeddings" (V.int ((m.badEmb:Int)+1)) (Ro f m)))):=Keep2.viaU (Keep2.refl _ _ _) (.inl rfl)
    exact q _ fr ⟨⟨dx,by rw [A2];rfl⟩,A6 hf (AW hf hn nofun),N0.frs2 k2⟩ k2
   .skip
    have d2:¬m.badIso=0:=by lia
    rw [if_neg d2] at q
    exact q _ fr N0 (Keep2.refl _ _ _)
noncomputable def spBegI (CN CF:Addr):Sp:=fun vs H Q _=>∃ (n f:Addr) (m:Dr.Marks) (fr:List Addr) (right:Bool),vs=[.ref n,NV (Q8 right)]/\NestAt CN CF H n f m fr/\m.stack≠[]/\m.stack.length<=100000 /\
 ∀ (H':Hp) (fr':List Addr),NestAt CN CF H' n f (B3 m right none true) fr'->Keep2 n f H H'->Q .non H'
theorem Hy (D:Dme K CN "begin_isolate" "Nesting.begin_isolate" Bi ["self","side"]) (T:BX mg) (N:Fd K CN) (F:FA K CF)
  (C_level_above:Ak P w K mg base 1 "level_above" ["level","side"] spAbove) (C_Frame:Kg P w K mg base 1 CF "Frame" ["self","level","forced","isolate"] (spFrame CF))
  (M_Nesting_top:Cb P w K mg base 1 CN "top" ["self"] (spTop CN CF)) (M_Nesting_has_room:Cb P w K mg base 1 CN "has_room" ["self","level"] (spRoom CN CF)) :
  Cb P w K mg base 3 CN "begin_isolate" ["self","side"] (spBegI CN CF):=by
 refine D.ok sc_Nesting_begin_isolate (fun vs H Q E h=>?_) (fun f cdv A outer s H vs Q E hr h=>?_)
 .obtain ⟨n,f,m,fr,right,rfl,_⟩:=h
  rfl
 .obtain ⟨n,f,m,fr,right,rfl,N0,hne,hsz,q⟩:=h
  obtain ⟨cl,f1,f2,f3,f4⟩:=N
  obtain ⟨gl,g1,g2,g3⟩:=F
  have hfl:=N0.frs.len
  obtain ⟨dx,hn⟩:=N0.obj
  have hf:=N0.lst
  refine ⟨_,(A3 (AF (i:=2) sc_Nesting_begin_isolate.nd rfl (Or.inl rfl) (BI C_level_above hr (A0 (AI (K:=K) rfl (Gm M_Nesting_top hr (pv 0)) rfl) (A0 (pv 1) A4))))
   (A5 (AU (As (JA M_Nesting_has_room hr (pv 0) (A0 (pv 2) A4)))
   (A3 (AX (Ck PySem.F.plainAttrs_list PySem.F.slot_list_append PySem.F.type_list_append BP (AI (K:=K) rfl (pv 0) rfl) (A0 (RH C_Frame hr (A0 (pv 2) (A0 BG (A0 OH A4)))) A4)))
    (A5 (Cc (pv 0) A7 JB)))
   (A5 (Cc (pv 0) A7 JB))))),?_⟩
  refine ⟨_,rfl,_,_,_,rfl,hn,rfl,_,_,_,_,rfl,(NestAt.same N0 (Same.refl _)),hne,fun x dx' hx hx'=>⟨_,_,_,_,_,rfl,hx',gl,g1,rfl,_,rfl,_,_,rfl,_,rfl,_,_,_,rfl,hn,rfl,_,rfl,_,_,_,_,_,rfl,(NestAt.same N0 (Same.refl _)),_,rfl,?_⟩⟩
  generalize hnn:(if right=true then Dr.nextOdd m.top.level else Dr.nextEven m.top.level)=nn
  walk_at "?d"
  .refine ⟨_,rfl,_,_,_,_,_,rfl,hn,cl,f1,rfl,(Ah hf),_,rfl,fun y dy ny ndy ney=>⟨_,_,_,_,_,_,rfl,VT,A2,fun H1 h1 k1=>⟨rfl,_,_,_,rfl,rfl,(k1 _ _ (A6 (A6 hf (A1 hf ndy)) (A1 hf ny)) (A1 hf ny)),(QL (by simp <;> lia)),_,rfl,_,_,_,_,_,rfl,(A6 (k1 _ _ (A6 (A6 hn (A1 hn ndy)) (A1 hn ny)) (A1 hn ny)) (AW hn hf nofun)),cl,f2,rfl,_,_,rfl,rfl,_,_,(A6 (k1 _ _ (A6 (A6 hn (A1 hn ndy)) (A1 hn ny)) (A1 hn ny)) (AW hn hf nofun)),(BL rfl),?_⟩⟩⟩
   have e:=L5 (fo:=none) (iso:=true) hnn.symm d
   rw [e] at q
   rw [Fx]
   have hfy:f≠y:=A1 hf ny
   have hny:n≠y:=A1 hn ny
   have hnf:n≠f:=AW hn hf nofun
   skip
   have k2:Keep2 n f H (upd (upd H1 f (HO.lst (List.map V.ref (y::fr).reverse))) n (HO.ins CN dx (Cm "inside_isolates" (V.int ((m.open_:Int)+1)) (Ro f m)))):=Keep2.viaU (Keep2.viaU (Keep2.viaK (Keep2.viaU (Keep2.viaU (Keep2.refl _ _ _) (.inr (.inr ndy))) (.inr (.inr ny))) k1 (.inr (.inr ny))) (.inr (.inl rfl))) (.inl rfl)
   exact q _ (y::fr) ⟨⟨dx,by rw [A2];rfl⟩,A6 A2 hnf.symm,⟨dy,A6 (A6 h1 hfy.symm) hny.symm⟩,N0.frs2 k2⟩ k2
  .refine ⟨_,rfl,_,_,_,_,_,rfl,hn,cl,f4,rfl,_,_,rfl,rfl,_,_,hn,(BL rfl),?_⟩
   have e:=OO (fo:=none) (iso:=true) hnn.symm (by simpa using d)
   rw [e,if_pos rfl] at q
   have k2:Keep2 n f H (upd H n (HO.ins CN dx (Cm "refused_isolates" (V.int ((m.badIso:Int)+1)) (Ro f m)))):=Keep2.viaU (Keep2.refl _ _ _) (.inl rfl)
   exact q _ fr ⟨⟨dx,by rw [A2];rfl⟩,A6 hf (AW hf hn nofun),N0.frs2 k2⟩ k2
theorem Hf (x:Addr) (fr:List Addr):((x::fr).reverse.map V.ref)[((x::fr).reverse.map V.ref).length - 1]?=some (V.ref x):=by
 rw [<-Fx]
 simp
theorem Hv (x:Addr) (fr:List Addr):((x::fr).reverse.map V.ref).dropLast=fr.reverse.map V.ref:=by
 rw [<-Fx]
 simp
noncomputable def spEndE (CN CF:Addr):Sp:=fun vs H Q _=>∃ (n f:Addr) (m:Dr.Marks) (fr:List Addr),vs=[.ref n]/\NestAt CN CF H n f m fr/\m.stack≠[] /\
 ∀ (H':Hp) (fr':List Addr),NestAt CN CF H' n f (endE m) fr'->Keep2 n f H H'->Q .non H'
theorem Hl (D:Dme K CN "end_embedding" "Nesting.end_embedding" Bg ["self"]) (T:BX mg) (N:Fd K CN) (F:FA K CF) (M_Nesting_top:Cb P w K mg base 1 CN "top" ["self"] (spTop CN CF)) :
  Cb P w K mg base 2 CN "end_embedding" ["self"] (spEndE CN CF):=by
 refine D.ok EY (fun vs H Q E h=>?_) (fun f cdv A outer s H vs Q E hr h=>?_)
 .obtain ⟨n,f,m,fr,rfl,_⟩:=h
  rfl
 .obtain ⟨n,f,m,fr,rfl,N0,hne,q⟩:=h
  obtain ⟨cl,f1,f2,f3,f4⟩:=N
  obtain ⟨gl,g1,g2,g3⟩:=F
  have hfl:=N0.frs.len
  obtain ⟨dx,hn⟩:=N0.obj
  have hf:=N0.lst
  unfold endE at q
  refine ⟨_,(A3 (AU (AA FO (AI (K:=K) rfl (pv 0) rfl) A7 (AG _))
   (A5 RZ)
   AJ)
   (A5 (AU (AA FO (AI (K:=K) rfl (pv 0) rfl) A7 (AG _))
   (A5 (Cc (pv 0) A7 NP))
   (A5 (AU (EO (AA FO (AM (AK (K:=K) rfl) (by rfl) T.b_len PySem.boot_len (A0 (AI (K:=K) rfl (pv 0) rfl) A4)) A7 (AG _)) (DC (C6 (As (AI (K:=K) rfl (Gm M_Nesting_top hr (pv 0)) rfl))))).pt
    (A5 (AX (LA PySem.F.plainAttrs_list PySem.F.slot_list_pop PySem.F.type_list_pop Lj (AI (K:=K) rfl (pv 0) rfl))))
    AJ))))),?_⟩
  refine ⟨_,rfl,_,_,_,_,_,rfl,hn,cl,f4,rfl,_,_,rfl,rfl,_,rfl,?_⟩
  walk_at "?d1"
  .skip
   rw [if_pos (by lia)] at q
   exact q _ fr N0 (Keep2.refl _ _ _)
  .rw [if_neg (by lia)] at q
   refine ⟨_,rfl,_,_,_,_,_,rfl,hn,cl,f3,rfl,_,_,rfl,rfl,_,rfl,?_⟩
   walk_at "?d2"
   .rw [if_pos (by lia)] at q
    refine ⟨_,rfl,_,_,_,_,_,rfl,hn,cl,f3,rfl,_,_,rfl,rfl,_,_,hn,(BL rfl),?_⟩
    have k2:Keep2 n f H (upd H n (HO.ins CN dx (Cm "refused_embeddings" (V.int ((m.badEmb:Int) - 1)) (Ro f m)))):=Keep2.viaU (Keep2.refl _ _ _) (.inl rfl)
    refine q _ fr ⟨⟨dx,?_⟩,A6 hf (AW hf hn nofun),N0.frs2 k2⟩ k2
    rw [A2,show ((m.badEmb:Int) - 1)=((m.badEmb - 1:Nat):Int) by lia]
    rfl
   .rw [if_neg (by lia)] at q
    refine ⟨_,rfl,_,_,_,_,_,rfl,hn,cl,f1,rfl,_,_,rfl,(Bn hf),_,_,rfl,rfl,_,rfl,?_⟩
    walk_at "?d3"
    .refine ⟨_,rfl,_,_,_,rfl,hn,rfl,_,_,_,_,rfl,(NestAt.same N0 (Same.refl _)),hne,fun x dx' hx hx'=>⟨_,_,_,_,_,rfl,hx',gl,g3,rfl,_,rfl,?_⟩⟩
     walk_at "?d4"
     .cases fr with
      | nil=>cases hx
      | cons y fr =>
       refine ⟨_,rfl,_,_,_,_,_,rfl,hn,cl,f1,rfl,(Ah hf),_,_,_,rfl,rfl,hf,Hf y fr,?_⟩
       skip
       rw [Hv]
       have d3:2<=m.stack.length:=by simp at d3 hfl;lia
       have d4:m.top.iso=false:=by simpa using d4
       rw [if_pos ⟨d4,d3⟩] at q
       have k2:Keep2 n f H (upd H f (HO.lst (List.map V.ref fr.reverse))):=Keep2.viaU (Keep2.refl _ _ _) (.inr (.inl rfl))
       exact q _ fr ⟨⟨dx,A6 hn (AW hn hf nofun)⟩,A2,(N0.frs2 k2).tail⟩ k2
     .skip
      rw [if_neg (fun z=>by simp [z.1] at d4)] at q
      exact q _ fr N0 (Keep2.refl _ _ _)
    .skip
     rw [if_neg (fun z=>by simp at d3;lia)] at q
     exact q _ fr N0 (Keep2.refl _ _ _)
noncomputable def spEndI (CN CF:Addr):Sp:=fun vs H Q _=>∃ (n f:Addr) (m:Dr.Marks) (fr:List Addr),vs=[.ref n]/\NestAt CN CF H n f m fr/\MOk m /\
 ∀ (H':Hp) (fr':List Addr),NestAt CN CF H' n f (endI m) fr'->Keep2 n f H H'->Q .non H'
theorem Ri {e:Dr.Entry} {st:List Dr.Entry} (h:¬e.iso=true):Dr.downIso (e::st)=Dr.downIso st:=by
 show (if e.iso=true then st else Dr.downIso st)=_
 rw [if_neg h]
theorem R4 {e:Dr.Entry} {st:List Dr.Entry} (h:e.iso=true):Dr.downIso (e::st)=st:=by
 show (if e.iso=true then st else Dr.downIso st)=_
 rw [if_pos h]
theorem K2 (D:Dme K CN "end_isolate" "Nesting.end_isolate" Br ["self"]) (T:BX mg) (N:Fd K CN) (F:FA K CF) (M_Nesting_top:Cb P w K mg base 1 CN "top" ["self"] (spTop CN CF)) :
  Cb P w K mg base 2 CN "end_isolate" ["self"] (spEndI CN CF):=by
 refine D.ok F3 (fun vs H Q E h=>?_) (fun f cdv A outer s H vs Q E hr h=>?_)
 .obtain ⟨n,f,m,fr,rfl,_⟩:=h
  rfl
 .obtain ⟨n,f,m,fr,rfl,N0,hM,q⟩:=h
  obtain ⟨cl,f1,f2,f3,f4⟩:=N
  obtain ⟨gl,g1,g2,g3⟩:=F
  have hfl:=N0.frs.len
  obtain ⟨dx,hn⟩:=N0.obj
  have hf:=N0.lst
  unfold endI at q
  refine ⟨_,(A5 (AU (AA FO (AI (K:=K) rfl (pv 0) rfl) A7 (AG _))
   (A5 (Cc (pv 0) A7 NP))
   (A5 (AU (AA FO (AI (K:=K) rfl (pv 0) rfl) A7 (AG _))
    (A3 (BF (pv 0) A7 rfl)
     (A3 (DG PassesOwn.never (C6 (As (AI (K:=K) rfl (Gm M_Nesting_top hr (pv 0)) rfl)))
     (A5 (AX (LA PySem.F.plainAttrs_list PySem.F.slot_list_pop PySem.F.type_list_pop Lj (AI (K:=K) rfl (pv 0) rfl)))))
     (A3 (AX (LA PySem.F.plainAttrs_list PySem.F.slot_list_pop PySem.F.type_list_pop Lj (AI (K:=K) rfl (pv 0) rfl)))
     (A5 (Cc (pv 0) A7 NP)))))
    AJ)))),?_⟩
  refine ⟨_,rfl,_,_,_,_,_,rfl,hn,cl,f4,rfl,_,_,rfl,rfl,_,rfl,?_⟩
  walk_at "?d1"
  .refine ⟨_,rfl,_,_,_,_,_,rfl,hn,cl,f4,rfl,_,_,rfl,rfl,_,_,hn,(BL rfl),?_⟩
   rw [if_pos (by lia)] at q
   have k2:Keep2 n f H (upd H n (HO.ins CN dx (Cm "refused_isolates" (V.int ((m.badIso:Int) - 1)) (Ro f m)))):=Keep2.viaU (Keep2.refl _ _ _) (.inl rfl)
   refine q _ fr ⟨⟨dx,?_⟩,A6 hf (AW hf hn nofun),N0.frs2 k2⟩ k2
   rw [A2,show ((m.badIso:Int) - 1)=((m.badIso - 1:Nat):Int) by lia]
   rfl
  .rw [if_neg (by lia)] at q
   refine ⟨_,rfl,_,_,_,_,_,rfl,hn,cl,f2,rfl,_,_,rfl,rfl,_,rfl,?_⟩
   walk_at "?d2"
   .rw [if_neg (by lia)] at q
    refine ⟨_,rfl,_,_,_,_,rfl,hn,cl,f3,(BL rfl),?_⟩
    have hnf:n≠f:=AW hn hf nofun
    have hpos:0<Au m.stack:=by rw [hM.cnt];lia
    refine ⟨fun k σ H'=>Bk (∃ (st:List Dr.Entry) (fr':List Addr),σ=[some (.ref n)]/\k=st.length/\Keep2 n f H H'/\NestAt CN CF H' n f { m with badEmb:=0,stack:=st } fr'/\0<Au st/\Dr.downIso st=Dr.downIso m.stack),⟨_,m.stack,fr,rfl,rfl,?_,?_,hpos,rfl⟩,?_⟩
    .exact Keep2.viaU (Keep2.refl _ _ _) (.inl rfl)
    .refine ⟨⟨dx,?_⟩,A6 hf hnf.symm,N0.frs2 (Keep2.viaU (Keep2.refl _ _ _) (.inl rfl))⟩
     rw [A2]
     rfl
    rintro k σ H1 ⟨st,fr',rfl,rfl,k1,N1,hp1,hd1⟩
    have hst:st≠[]:=by intro z;rw [z] at hp1;exact absurd hp1 (by decide)
    obtain ⟨dx1,hn1⟩:=N1.obj
    have hf1:=N1.lst
    refine ⟨_,rfl,_,_,_,rfl,hn1,rfl,_,_,_,_,rfl,(NestAt.same N1 (Same.refl _)),hst,fun x dx' hx hx'=>⟨_,_,_,_,_,rfl,hx',gl,g3,rfl,_,rfl,?_⟩⟩
    walk_at "?d3"
    .refine Tn ?_
     cases fr' with
     | nil=>cases hx
     | cons y fr' =>
      cases st with
      | nil=>exact absurd rfl hst
      | cons e st =>
       have d3:¬e.iso=true:=by
        have:e.iso=false:=d3
        simp [this]
       refine ⟨_,rfl,_,_,_,_,_,rfl,hn1,cl,f1,rfl,(Ah hf1),_,_,_,rfl,rfl,hf1,Hf y fr',?_⟩
       skip
       rw [Hv]
       have k2:Keep2 n f H1 (upd H1 f (HO.lst (List.map V.ref fr'.reverse))):=Keep2.viaU (Keep2.refl _ _ _) (.inr (.inl rfl))
       refine ⟨st.length,Nat.lt_succ_self _,st,fr',rfl,rfl,k1.trans k2,⟨⟨dx1,A6 hn1 hnf⟩,A2,(N1.frs2 k2).tail⟩,?_,?_⟩
       .unfold Au at hp1
        rw [if_neg d3] at hp1
        lia
       .rw [<-hd1,Ri d3]
    .cases fr' with
     | nil=>cases hx
     | cons y fr' =>
      cases st with
      | nil=>exact absurd rfl hst
      | cons e st =>
       have d3:e.iso=true:=by
        have:¬e.iso=false:=d3
        simpa using this
       refine ⟨_,rfl,_,_,_,_,_,rfl,hn1,cl,f1,rfl,(Ah hf1),_,_,_,rfl,rfl,hf1,Hf y fr',_,rfl,_,_,_,_,_,rfl,(A6 hn1 hnf),cl,f2,rfl,_,_,rfl,rfl,_,_,(A6 hn1 hnf),(BL rfl),?_⟩
       rw [Hv]
       skip
       have k2:Keep2 n f H1 (upd (upd H1 f (HO.lst (List.map V.ref fr'.reverse))) n (HO.ins CN dx1 (Cm "inside_isolates" (V.int ((m.open_:Int) - 1)) (Ro f { m with badEmb:=0,stack:=e::st })))):=Keep2.viaU (Keep2.viaU (Keep2.refl _ _ _) (.inr (.inl rfl))) (.inl rfl)
       rw [<-hd1,R4 d3] at q
       refine q _ fr' ⟨⟨dx1,?_⟩,A6 A2 hnf.symm,(N1.frs2 k2).tail⟩ (k1.trans k2)
       rw [A2,show ((m.open_:Int) - 1)=((m.open_ - 1:Nat):Int) by lia]
       rfl
   .rw [if_pos (by lia)] at q
    skip
    exact q _ fr N0 (Keep2.refl _ _ _)
noncomputable def spSideB:Sp:=fun vs H Q _=>∃ (a b:Addr) (row:List Nat) (ps:List (Option Nat)) (i c:Nat),vs=[.ref a,.ref b,NV i]/\H a=some (.lst (AO row))/\H b=some (.lst (J0 ps))/\Gb row ps/\row[i]?=some c /\
 ∀ (H':Hp),Same H H'->Q (NV (Q8 (BB c (row.drop (i+1))))) H'
theorem IA (D:Dfn K mg "side_of_begin" DR ["kinds","partners","place"]) (T:BX mg) (C_base_inside:Ak P w K mg base 3 "base_inside" ["kinds","partners","begin"] spInside) :
  Ak P w K mg base 4 "side_of_begin" ["kinds","partners","place"] spSideB:=by
 refine D.ok sc_side_of_begin (fun vs H Q E h=>?_) (fun f cdv A outer s H vs Q E hr h=>?_)
 .obtain ⟨a,b,row,ps,i,c,rfl,_⟩:=h
  rfl
 .obtain ⟨a,b,row,ps,i,c,rfl,ha,hb,hP,hc,q⟩:=h
  refine ⟨_,(A3 (AF (i:=3) sc_side_of_begin.nd rfl (Or.inl rfl) (AE (A9 (K:=K) rfl) (pv 0) (pv 2) (fun _ _=>rfl)))
   (A3 (AU (AA Af (pv 3) (B4 T.c_FSI) (AG _))
   (A5 (AD (BI C_base_inside hr (A0 (pv 0) (A0 (pv 1) (A0 (pv 2) A4))))))
   AJ)
   (A5 (AD (Aw (AA B8 (pv 3) (Bq (A0 (B4 T.c_RLE) (A0 (B4 T.c_RLO) (A0 (B4 T.c_RLI) A4)))) (by with_unfolding_all rfl)) (B4 T.c_R) (B4 T.c_L)))))),?_⟩
  refine ⟨_,rfl,_,rfl,_,_,_,_,rfl,rfl,(SqL.of ha),(AH (AR hc)),_,rfl,rfl,_,rfl,?_⟩
  walk_at "?d"
  .have hi:Dr.isIso c=true:=by rw [DF];lia
   refine ⟨_,rfl,_,rfl,_,rfl,_,_,_,_,_,_,rfl,ha,hb,hP,hc,hi,fun H1 s1=>?_⟩
   have e:BB c (row.drop (i+1))=(E8 (Dr.firstStrong (row.drop (i+1)) true 0)==1):=by
    unfold BB
    rw [if_pos d]
   have e2:E8 (Dr.firstStrong (row.drop (i+1)) true 0)<2:=by
    unfold E8
    split
    .split <;> decide
    .decide
   rw [e] at q
   generalize E8 (Dr.firstStrong (row.drop (i+1)) true 0)=v at *
   have:Q8 (v==1)=v:=by
    unfold Q8
    by_cases h:v=1
    .rw [h];rfl
    .have:v=0:=by lia
     rw [this];rfl
   rw [this] at q
   exact q _ s1
  .refine ⟨_,rfl,(BL rfl),fun t ht=>⟨_,_,rfl,(Rk A2),rfl,rfl,_,rfl,?_⟩⟩
   have e:BB c (row.drop (i+1))=[15,17,20].contains c:=by
    unfold BB
    rw [if_neg d]
   rw [e] at q
   walk_at "?d2"
   .skip
    have:=q _ (Same.upd ht (o:=.tup [NV 15,NV 17,NV 20]))
    rw [show [15,17,20].contains c=true by simp;lia] at this
    exact this
   .skip
    have:=q _ (Same.upd ht (o:=.tup [NV 15,NV 17,NV 20]))
    rw [show [15,17,20].contains c=false by simp;lia] at this
    exact this
noncomputable def spForced:Sp:=fun vs H Q _=>∃ c:Nat,vs=[NV c]/\Q (oV (E2 c)) H
theorem LB (D:Dfn K mg "forced_by" Fa ["kind"]) (T:BX mg):Ak P w K mg base 1 "forced_by" ["kind"] spForced:=by
 refine D.ok LC (fun vs H Q E h=>?_) (fun f cdv A outer s H vs Q E hr h=>?_)
 .obtain ⟨c,rfl,_⟩:=h
  rfl
 .obtain ⟨c,rfl,q⟩:=h
  refine ⟨_,(A3 (AU (AA Af (pv 0) (B4 T.c_RLO) (AG _))
   (A5 (AD (B4 T.c_R)))
   AJ)
   (A3 (AU (AA Af (pv 0) (B4 T.c_LRO) (AG _))
   (A5 (AD (B4 T.c_L)))
   AJ)
   (A5 (AD BG)))),?_⟩
  unfold E2 at q
  refine ⟨_,rfl,rfl,_,rfl,?_⟩
  walk_at "?d"
  .skip
   rw [if_pos d] at q
   exact q
  .rw [if_neg d] at q
   refine ⟨_,rfl,rfl,_,rfl,?_⟩
   walk_at "?d2"
   .rw [if_pos d2] at q
    skip
    exact q
   .rw [if_neg d2] at q
    skip
    exact q
end
theorem PairsAt.keep2 {CN CF n f:Addr} {H H':Hp} {m:Dr.Marks} {fr:List Addr} {ts:List Addr} {prs:List (Nat×Nat)} (p:PairsAt H ts prs) (N:NestAt CN CF H n f m fr) (k:Keep2 n f H H'):PairsAt H' ts prs:=by
 obtain ⟨⟨dx,h1⟩,h2,_⟩:=N
 exact p.mono fun t xs h=>k _ _ h (AW h h1 nofun) (AW h h2 nofun)
theorem Mg:∀ st:List Dr.Entry,(Dr.downIso st).length<=st.length
 | []=>Nat.le_refl _
 | e::r=>by
  unfold Dr.downIso
  split
  .simp
  .have:=Mg r
   simp
   lia
theorem RR (c:Nat) (m:Dr.Marks):(Ap c m).stack.length<=m.stack.length:=by
 unfold Ap endI endE
 have:=Mg m.stack
 split
 .split
  .exact Nat.le_refl _
  .split
   .exact Nat.le_refl _
   .exact this
 .split
  .split
   .exact Nat.le_refl _
   .split
    .exact Nat.le_refl _
    .split
     .simp
     .exact Nat.le_refl _
  .exact Nat.le_refl _
theorem MV (m:Dr.Marks) (r:Bool) (fo:Option Nat) (iso:Bool):(B3 m r fo iso).stack.length<=m.stack.length+1:=by
 unfold B3
 dsimp only
 generalize (if r=true then Dr.nextOdd m.top.level else Dr.nextEven m.top.level)=n
 split
 .exact Nat.le_refl _
 .split
  .exact Nat.le_succ _
  .split <;> exact Nat.le_succ _
section
variable {P:Program} {w:World} {K:PySem.W.Frag} {mg:Str->Option Value} {base:Heap} {CF CN:Addr}
noncomputable def spBegins:Sp:=fun vs H Q _=>∃ (a b:Addr) (row:List Nat) (ps:List (Option Nat)) (bs:Nat),vs=[.ref a,.ref b,NV bs]/\H a=some (.lst (AO row))/\H b=some (.lst (J0 ps))/\Gb row ps/\row.length<=10000 /\
 ∀ (H':Hp) (r:Addr) (ts:List Addr),Same H H'->H r=none->H' r=some (.lst (ts.map V.ref))->PairsAt H' ts (Ad row (m0 bs))->Q (.ref r) H'
theorem Hs (D:Dfn K mg "settle_begins" DV ["kinds","partners","base"]) (T:BX mg) (N:Fd K CN) (F:FA K CF)
  (C_Nesting:Kg P w K mg base 3 CN "Nesting" ["self","base"] (spNest CN CF)) (M_Nesting_end_isolate:Cb P w K mg base 2 CN "end_isolate" ["self"] (spEndI CN CF)) (M_Nesting_end_embedding:Cb P w K mg base 2 CN "end_embedding" ["self"] (spEndE CN CF))
  (M_Nesting_top:Cb P w K mg base 1 CN "top" ["self"] (spTop CN CF)) (M_Nesting_begin_embedding:Cb P w K mg base 3 CN "begin_embedding" ["self","side","forced"] (spBegE CN CF)) (M_Nesting_begin_isolate:Cb P w K mg base 3 CN "begin_isolate" ["self","side"] (spBegI CN CF))
  (C_begins_embedding:Ak P w K mg base 1 "begins_embedding" ["kind"] (spB Ea)) (C_begins_isolate:Ak P w K mg base 1 "begins_isolate" ["kind"] (spB Dr.isIso)) (C_side_of_begin:Ak P w K mg base 4 "side_of_begin" ["kinds","partners","place"] spSideB)
  (C_forced_by:Ak P w K mg base 1 "forced_by" ["kind"] spForced):Ak P w K mg base 5 "settle_begins" ["kinds","partners","base"] spBegins:=by
 refine D.ok sc_settle_begins (fun vs H Q E h=>?_) (fun f cdv A outer s H vs Q E hr h=>?_)
 .obtain ⟨a,b,row,ps,bs,rfl,_⟩:=h
  rfl
 .obtain ⟨a,b,row,ps,bs,rfl,ha,hb,hP,hl,q⟩:=h
  obtain ⟨cl,f1,f2,f3,f4⟩:=N
  obtain ⟨gl,g1,g2,g3⟩:=F
  refine ⟨_,(A3 (AF (i:=3) sc_settle_begins.nd rfl (Or.inl rfl) (RH C_Nesting hr (A0 (pv 2) A4)))
   (A3 (AF (i:=4) sc_settle_begins.nd rfl (Or.inl rfl) (Ac A4))
   (A3 (Ao PassesOwn.never rfl (B9 rfl T.b_range (A0 (AM (AK (K:=K) rfl) (by rfl) T.b_len PySem.boot_len (A0 (pv 0) A4)) A4)) (AS (i:=5) sc_settle_begins.nd rfl (Or.inl rfl))
   (A3 (AF (i:=6) sc_settle_begins.nd rfl (Or.inl rfl) (AE (A9 (K:=K) rfl) (pv 0) (pv 5) (fun _ _=>rfl)))
    (A3 (TZ (AU (AA Af (pv 6) (B4 T.c_PDI) (AG _))
    (A5 (AX (Gm M_Nesting_end_isolate hr (pv 3))))
    (A5 (AU (AA Af (pv 6) (B4 T.c_PDF) (AG _))
     (A5 (AX (Gm M_Nesting_end_embedding hr (pv 3))))
     AJ))))
    (A3 (AF (i:=7) sc_settle_begins.nd rfl (Or.inl rfl) (Gm M_Nesting_top hr (pv 3)))
    (A3 (AX (Ck PySem.F.plainAttrs_list PySem.F.slot_list_append PySem.F.type_list_append BP (pv 4) (A0 (Bq (A0 (AI (K:=K) rfl (pv 7) rfl) (A0 (EU (Aw (AA K3 (AI (K:=K) rfl (pv 7) rfl) BG (AG _)) (pv 6) (AI (K:=K) rfl (pv 7) rfl))) A4))) A4)))
    (A5 (AU (As (BI C_begins_embedding hr (A0 (pv 6) A4)))
    (A5 (AX (JA M_Nesting_begin_embedding hr (pv 3) (A0 (BI C_side_of_begin hr (A0 (pv 0) (A0 (pv 1) (A0 (pv 5) A4)))) (A0 (BI C_forced_by hr (A0 (pv 6) A4)) A4)))))
    (A5 (AU (As (BI C_begins_isolate hr (A0 (pv 6) A4)))
     (A5 (AX (JA M_Nesting_begin_isolate hr (pv 3) (A0 (BI C_side_of_begin hr (A0 (pv 0) (A0 (pv 1) (A0 (pv 5) A4)))) A4))))
     AJ)))))))))
   (A5 (AD (pv 4)))))),?_⟩
  refine ⟨_,rfl,fun n dn nn ndn nedn=>⟨_,_,_,rfl,A2,fun H1 fa fr hf1 hfn N1 k1=>⟨rfl,(BL rfl),fun sl hsl=>⟨_,rfl,_,_,rfl,(Bn (A6 (k1 _ _ (A6 (A6 ha (A1 ha ndn)) (A1 ha nn)) (A1 ha nn)) (A1 (k1 _ _ (A6 (A6 ha (A1 ha ndn)) (A1 ha nn)) (A1 ha nn)) hsl))),_,rfl,(by lia),(by simp only [nVs_len] <;> lia),?_⟩⟩⟩⟩
  have hfa:H fa=none:=none_of (Same.set (Same.set (Same.refl _) ndn) nn) hf1
  have hslN:H sl=none:=none_of (Same.kept (Same.set (Same.set (Same.refl _) ndn) nn) nn k1) hsl
  have hfs:fa≠sl:=A1 N1.lst hsl
  have hns:n≠sl:=by
   obtain ⟨dx,h⟩:=N1.obj
   exact A1 h hsl
  refine BC (fun i σ H'=>Bk (∃ (v5 v6 v7:Option V) (m:Dr.Marks) (fr:List Addr) (ts:List Addr) (pre:List (Nat×Nat)),σ=[some (.ref a),some (.ref b),some (NV bs),some (.ref n),some (.ref sl),v5,v6,v7]/\Same H H'/\H' sl=some (.lst (ts.map V.ref)) /\
    PairsAt H' ts pre/\pre.length=i/\Ad row (m0 bs)=pre++Ad (row.drop i) m/\NestAt CN CF H' n fa m fr/\MOk m/\m.stack.length<=i+1)) ?_ (fun i σ H2 hi h=>?_) (fun σ H2 h=>?_)
  .exact ⟨_,_,_,m0 bs,fr,[],[],rfl,Same.set (Same.kept (Same.set (Same.set (Same.refl _) ndn) nn) nn k1) hslN,A2,PairsAt.nil _,rfl,rfl,N1.same (Same.set (Same.refl _) hsl),MOk.start bs,Nat.le_refl _⟩
  .obtain ⟨v5,v6,v7,m,fr,ts,pre,rfl,s2,h2s,hPa,hpl,hne,N2,hM,hml⟩:=h
   rw [nVs_len] at hi
   have hi:i<row.length:=by lia
   obtain ⟨c,hc⟩:∃ c,row[i]?=some c:=⟨_,ZA hi⟩
   refine ⟨_,rfl,_,rfl,_,_,_,_,rfl,rfl,(SqL.of (s2 _ _ ha)),(AH (AR hc)),?_⟩
   refine ⟨fun σ' H'=>Bk (∃ fr',σ'=[some (.ref a),some (.ref b),some (NV bs),some (.ref n),some (.ref sl),some (NV i),some (NV c),v7]/\NestAt CN CF H' n fa (Ap c m) fr'/\Keep2 n fa H2 H'),?_,?_⟩
   .have hMn:=hM.ne
    obtain ⟨dx,hn2⟩:=N2.obj
    refine ⟨_,rfl,rfl,_,rfl,?_⟩
    walk_at "?d"
    .refine ⟨_,rfl,_,_,_,rfl,hn2,rfl,_,_,_,_,rfl,(NestAt.same N2 (Same.refl _)),hM,fun H3 fr3 N3 k3=>?_⟩
     refine ⟨fr3,rfl,?_,k3⟩
     unfold Ap
     rw [if_pos d]
     exact N3
    .refine ⟨_,rfl,rfl,_,rfl,?_⟩
     walk_at "?d2"
     .refine ⟨_,rfl,_,_,_,rfl,hn2,rfl,_,_,_,_,rfl,(NestAt.same N2 (Same.refl _)),hMn,fun H3 fr3 N3 k3=>?_⟩
      refine ⟨fr3,rfl,?_,k3⟩
      unfold Ap
      rw [if_neg d,if_pos d2]
      exact N3
     .skip
      refine ⟨fr,rfl,?_,Keep2.refl _ _ _⟩
      unfold Ap
      rw [if_neg d,if_neg d2]
      exact N2
   .rintro _ H3 ⟨fr3,rfl,N3,k3⟩
    have hM3:=hM.pre c
    have hne3:=hM3.ne
    have hl3:=RR c m
    have hPa3:=hPa.keep2 N2 k3
    obtain ⟨dx3,hn3⟩:=N3.obj
    have hstep:Ad (row.drop i) m=((Ap c m).top.level,Dr.forcedOr (Ap c m).top c)::Ad (row.drop (i+1)) (Aq c (row.drop (i+1)) (Ap c m)):=by
     rw [AZ hc]
     rfl
    generalize Ap c m=m3 at *
    refine ⟨_,rfl,_,_,_,rfl,hn3,rfl,_,_,_,_,rfl,(NestAt.same N3 (Same.refl _)),hne3,fun x dx hx hx'=>⟨_,rfl,(Ah (k3 _ _ h2s hns.symm hfs.symm)),_,rfl,_,_,_,_,_,rfl,hx',gl,g1,rfl,?_⟩⟩
    have hsl3:=k3 _ _ h2s hns.symm hfs.symm
    refine ⟨fun v H'=>v=NV (Dr.forcedOr m3.top c)/\H3=H',?_,?_⟩
    .unfold Dr.forcedOr
     cases hfo:m3.top.forced with
     | none =>
      refine ⟨_,rfl,_,_,_,_,_,rfl,hx',gl,g2,rfl,rfl,_,rfl,?_⟩
      rw [hfo]
      refine ⟨_,rfl,rfl,?_⟩
      rfl
     | some fo =>
      refine ⟨_,rfl,_,_,_,_,_,rfl,hx',gl,g2,rfl,rfl,_,rfl,?_⟩
      rw [hfo]
      refine ⟨_,rfl,_,_,_,_,_,rfl,hx',gl,g2,rfl,by
       show oV m3.top.forced=_
       rw [hfo]
       rfl,?_⟩
      rfl
    rintro _ _ ⟨rfl,rfl⟩
    have htl:=hPa.len
    refine ⟨(BL rfl),fun t ht=>⟨_,_,_,rfl,rfl,(A6 hsl3 (A1 hsl3 ht)),(DT (by simp <;> lia)),_,rfl,_,rfl,fun H4 s4=>⟨_,rfl,?_⟩⟩⟩
    have hts:t≠sl:=(A1 hsl3 ht).symm
    have s34:Keep sl H3 H4:=Keep.viaS (Keep.viaU (Keep.viaU (Keep.refl _ _) (.inr ht)) (.inl rfl)) s4
    have hP4:PairsAt H4 (ts++[t]) (pre++[(m3.top.level,Dr.forcedOr m3.top c)]):=by
     refine ((hPa3.same (Same.upd ht (o:=.tup [NV m3.top.level,NV (Dr.forcedOr m3.top c)]))).lst (a:=sl) (xs:=ts.map V.ref) (A6 hsl3 hts.symm)).same s4 |>.snoc ?_
     exact s4 _ _ (A6 A2 hts)
    have h4s:H4 sl=some (.lst ((ts++[t]).map V.ref)):=by
     rw [List.map_append]
     exact s4 _ _ A2
    have N4:NestAt CN CF H4 n fa m3 fr3:=((N3.same (Same.upd ht (o:=.tup [NV m3.top.level,NV (Dr.forcedOr m3.top c)]))).lst2 (a:=sl) (xs:=ts.map V.ref) (A6 hsl3 hts.symm) hfs).same s4
    have hnest:Ad row (m0 bs)=(pre++[(m3.top.level,Dr.forcedOr m3.top c)])++Ad (row.drop (i+1)) (Aq c (row.drop (i+1)) m3):=by
     rw [hne,hstep,List.append_assoc]
     rfl
    have sH4:Same H H4:=Same.kept (Same.kept2 s2 nn hfa k3) hslN s34
    have fin:∀ (H5:Hp) (fr5:List Addr) (m5:Dr.Marks),Aq c (row.drop (i+1)) m3=m5->Keep2 n fa H4 H5->NestAt CN CF H5 n fa m5 fr5->m5.stack.length<=i+1+1->Bk (∃ (v5 v6 v7:Option V) (m:Dr.Marks) (fr:List Addr) (ts:List Addr) (pre:List (Nat×Nat)),[some (V.ref a),some (.ref b),some (NV bs),some (.ref n),some (.ref sl),some (NV i),some (NV c),some (V.ref x)]=[some (V.ref a),some (.ref b),some (NV bs),some (.ref n),some (.ref sl),v5,v6,v7]/\Same H H5/\H5 sl=some (.lst (ts.map V.ref)) /\
      PairsAt H5 ts pre/\pre.length=i+1/\Ad row (m0 bs)=pre++Ad (row.drop (i+1)) m/\NestAt CN CF H5 n fa m fr/\MOk m/\m.stack.length<=i+1+1):=fun H5 fr5 m5 e k5 N5 l5=>by
     subst e
     exact ⟨_,_,_,_,fr5,ts++[t],_,rfl,Same.kept2 sH4 nn hfa k5,k5 _ _ h4s hns.symm hfs.symm,hP4.keep2 N4 k5,by simp [hpl],hnest,N5,hM3.post c _,l5⟩
    clear hnest hP4 hstep hne
    walk_at "?d"
    .refine ⟨_,rfl,_,_,_,rfl,(s34 _ _ hn3 hns),rfl,_,rfl,_,rfl,_,rfl,_,_,_,_,_,_,rfl,(sH4 _ _ ha),(sH4 _ _ hb),hP,hc,fun H5 s5=>⟨_,rfl,_,rfl,_,_,_,_,_,_,_,rfl,rfl,(NestAt.same N4 s5),hne3,(by lia),fun H6 fr6 N6 k6=>?_⟩⟩
     have hpl6:=MV m3 (BB c (List.drop (i+1) row)) (E2 c) false
     exact fin H6 fr6 _ (by unfold Aq;rw [if_pos d]) (s5.keep2.trans k6) N6 (by lia)
    .refine ⟨_,rfl,_,rfl,fun H5 s5=>⟨_,rfl,?_⟩⟩
     walk_at "?d2"
     .refine ⟨_,rfl,_,_,_,rfl,(s5 _ _ (s34 _ _ hn3 hns)),rfl,_,rfl,_,rfl,_,rfl,_,_,_,_,_,_,rfl,(s5 _ _ (sH4 _ _ ha)),(s5 _ _ (sH4 _ _ hb)),hP,hc,fun H6 s6=>⟨_,_,_,_,_,rfl,(NestAt.same N4 (s5.trans s6)),hne3,(by lia),fun H7 fr7 N7 k7=>?_⟩⟩
      have hpl6:=MV m3 (BB c (List.drop (i+1) row)) none true
      exact fin H7 fr7 _ (by unfold Aq;rw [if_neg (by simp [d]),if_pos d2]) ((s5.trans s6).keep2.trans k7) N7 (by lia)
     .skip
      exact fin H5 fr3 m3 (by unfold Aq;rw [if_neg (by simp [d]),if_neg (by simp [d2])]) s5.keep2 (N4.same s5) (by lia)
  .obtain ⟨v5,v6,v7,m,fr,ts,pre,rfl,s2,h2s,hPa,hpl,hne,N2,hM,hml⟩:=h
   refine ⟨_,rfl,?_⟩
   refine q H2 sl ts s2 hslN h2s ?_
   rw [List.drop_eq_nil_of_le (by rw [nVs_len];lia)] at hne
   rw [hne]
   show PairsAt H2 ts (pre++[])
   rw [List.append_nil]
   exact hPa
end
abbrev DS:Stmt:=Ae (top 71) 0
theorem Hm:AB ["self","level","places","before","behind"] ["self","level","places","before","behind"] (A8 DS):=⟨rfl,rfl,rfl,by decide +kernel,rfl,by decide +kernel,by decide +kernel⟩
abbrev Ho:Stmt:=top 72
theorem sc_runs_of:AB ["kinds","levels","runs","level","place"] ["kinds","levels"] (A8 Ho):=⟨rfl,rfl,rfl,by decide +kernel,rfl,by decide +kernel,by decide +kernel⟩
abbrev Ht:Stmt:=top 73
theorem sc_goes_on:AB ["kinds","partners","run","last"] ["kinds","partners","run"] (A8 Ht):=⟨rfl,rfl,rfl,by decide +kernel,rfl,by decide +kernel,by decide +kernel⟩
abbrev C9:Stmt:=top 74
theorem Fn:AB ["kinds","partners","run"] ["kinds","partners","run"] (A8 C9):=⟨rfl,rfl,rfl,by decide +kernel,rfl,by decide +kernel,by decide +kernel⟩
abbrev Dx:Stmt:=top 75
theorem Ii:AB ["runs","levels","number","base"] ["runs","levels","number","base"] (A8 Dx):=⟨rfl,rfl,rfl,by decide +kernel,rfl,by decide +kernel,by decide +kernel⟩
abbrev E4:Stmt:=top 76
theorem Id:AB ["runs","levels","number","base"] ["runs","levels","number","base"] (A8 E4):=⟨rfl,rfl,rfl,by decide +kernel,rfl,by decide +kernel,by decide +kernel⟩
abbrev E5:Stmt:=top 77
theorem sc_sequences_of:AB ["kinds","partners","levels","base","runs","run_from","number","sequences","places","final","level","before","endless","behind"] ["kinds","partners","levels","base"] (A8 E5):=⟨rfl,rfl,rfl,by decide +kernel,rfl,by decide +kernel,by decide +kernel⟩
theorem Nw {l:List Nat} {z:Nat} (h:l.getLast?=some z):Lw (AO l) (-1)=some (NV z):=by
 obtain ⟨m,rfl⟩:∃ m,l=m++[z]:=by
  have ne:l≠[]:=by rintro rfl;cases h
  refine ⟨l.dropLast,?_⟩
  rw [List.getLast?_eq_some_getLast ne] at h
  rw [<-ZC h]
  exact (List.dropLast_concat_getLast ne).symm
 rw [C0]
 exact Go
theorem Eb {l:List Nat} {z:Nat} (h:l.head?=some z):Lw (AO l) 0=some (NV z):=by
 refine FG (j:=0) rfl ?_
 rw [<-List.head?_eq_getElem?]
 exact h
structure RunsAt (H:Hp) (rr:List Addr) (rs:List (List Nat)):Prop where
 len:rr.length=rs.length
 nd:rr.Nodup
 get:∀ (i:Nat) (t:Addr) (x:List Nat),rr[i]?=some t->rs[i]?=some x->H t=some (.lst (AO x))
theorem RunsAt.nil (H:Hp):RunsAt H [] []:=⟨rfl,List.nodup_nil,fun i t x h=>by simp at h⟩
theorem RunsAt.mono {H H':Hp} {rr:List Addr} {rs:List (List Nat)} (p:RunsAt H rr rs) (k:∀ t∈rr,∀ o,H t=some o->H' t=some o):RunsAt H' rr rs:=⟨p.len,p.nd,fun i t x h1 h2=>k t (ZD h1) _ (p.get i t x h1 h2)⟩
theorem RunsAt.same {H H':Hp} {rr:List Addr} {rs:List (List Nat)} (p:RunsAt H rr rs) (s:Same H H'):RunsAt H' rr rs:=p.mono fun t _ o h=>s _ _ h
theorem RunsAt.mem {H:Hp} {rr:List Addr} {rs:List (List Nat)} (p:RunsAt H rr rs) {t:Addr} (h:t∈rr):∃ x,H t=some (.lst (AO x)):=by
 obtain ⟨i,hi⟩:=List.mem_iff_getElem?.mp h
 have hl:=(ZB.mp hi).1
 have hl2:i<rs.length:=by rw [<-p.len];exact hl
 have:rs[i]?=some rs[i]:=ZA hl2
 exact ⟨_,p.get i t _ hi this⟩
theorem RunsAt.at {H:Hp} {rr:List Addr} {rs:List (List Nat)} (p:RunsAt H rr rs) {i:Nat} {x:List Nat} (h:rs[i]?=some x):∃ t,rr[i]?=some t/\H t=some (.lst (AO x)):=by
 have hl:=(ZB.mp h).1
 have hl2:i<rr.length:=by rw [p.len];exact hl
 have:rr[i]?=some rr[i]:=ZA hl2
 exact ⟨_,this,p.get i _ x this h⟩
theorem RunsAt.newRun {H:Hp} {rr:List Addr} {rs:List (List Nat)} {l:Addr} {x:List Nat} (p:RunsAt H rr rs) (h:H l=none):RunsAt (upd H l (.lst (AO x))) (rr++[l]) (rs++[x]):=by
 have hne:∀ t∈rr,t≠l:=fun t ht=>by
  obtain ⟨x,hx⟩:=p.mem ht
  exact A1 hx h
 refine ⟨by simp [p.len],?_,fun i t y h1 h2=>?_⟩
 .refine List.nodup_append.mpr ⟨p.nd,by simp,fun a ha b hb=>?_⟩
  rw [List.mem_singleton.mp hb]
  exact hne a ha
 .by_cases e:i<rr.length
  .rw [List.getElem?_append_left e] at h1
   rw [List.getElem?_append_left (by rw [<-p.len];exact e)] at h2
   rw [AQ (hne t (ZD h1))]
   exact p.get i t y h1 h2
  .rw [List.getElem?_append_right (by lia)] at h1
   rw [List.getElem?_append_right (by rw [<-p.len];lia),<-p.len] at h2
   cases hi:i - rr.length with
   | zero =>
    rw [hi] at h1 h2
    cases h1
    cases h2
    rw [A2]
   | succ j =>
    rw [hi] at h1
    simp at h1
theorem RunsAt.last {H:Hp} {rr:List Addr} {rs:List (List Nat)} {l:Addr} {x y:List Nat} (p:RunsAt H (rr++[l]) (rs++[x])):RunsAt (upd H l (.lst (AO y))) (rr++[l]) (rs++[y]):=by
 have hlen:rr.length=rs.length:=by have:=p.len;simpa using this
 have nd:=List.nodup_append.mp p.nd
 refine ⟨by simp [hlen],p.nd,fun i t z h1 h2=>?_⟩
 by_cases e:i<rr.length
 .have hm:t∈rr:=by
   rw [List.getElem?_append_left e] at h1
   exact ZD h1
  have hne:t≠l:=nd.2.2 t hm l (by simp)
  rw [AQ hne]
  refine p.get i t z h1 ?_
  rw [List.getElem?_append_left (by lia)] at h2 ⊢
  exact h2
 .rw [List.getElem?_append_right (by lia)] at h1
  rw [List.getElem?_append_right (by lia),<-hlen] at h2
  cases hi:i - rr.length with
  | zero =>
   rw [hi] at h1 h2
   cases h1
   cases h2
   rw [A2]
  | succ j =>
   rw [hi] at h1
   simp at h1
theorem RunsAt.lstNew {H:Hp} {rr:List Addr} {rs:List (List Nat)} {a:Addr} {o:HO} (p:RunsAt H rr rs) (h:a∉rr):RunsAt (upd H a o) rr rs:=p.mono fun t ht o' e=>by
 rw [AQ (fun z=>h (by rw [<-z];exact ht))]
 exact e
noncomputable def NJ (row:List Nat) (i:Nat):List Nat:=(List.range i).filter fun j=>!Bj (row.getD j 0)
theorem Ob {row:List Nat} {i c:Nat} (hc:row[i]?=some c) (h:Bj c=true):NJ row (i+1)=NJ row i:=by
 unfold NJ
 rw [List.range_succ,List.filter_append]
 simp [hc,h]
theorem So {row:List Nat} {i c:Nat} (hc:row[i]?=some c) (h:Bj c=false):NJ row (i+1)=NJ row i++[i]:=by
 unfold NJ
 rw [List.range_succ,List.filter_append]
 simp [hc,h]
theorem J3 (row:List Nat) (i:Nat):(NJ row i).length<=i:=by
 unfold NJ
 have:=List.length_filter_le (fun j=>!Bj (row.getD j 0)) (List.range i)
 rwa [List.length_range] at this
theorem HY (lv:Nat->Nat):∀ P:List Nat,(AC lv P).length<=P.length
 | []=>Nat.le_refl _
 | p::r=>by
  have:=HY lv r
  unfold AC Fk
  split
  .rename_i y s t e
   rw [e] at this
   split
   .simp at this ⊢
    lia
   .simp at this ⊢
    lia
  .simp
   lia
section
variable {P:Program} {w:World} {K:PySem.W.Frag} {mg:Str->Option Value} {base:Heap}
noncomputable def spRuns:Sp:=fun vs H Q _=>∃ (a b:Addr) (row lvs:List Nat),vs=[.ref a,.ref b]/\H a=some (.lst (AO row))/\H b=some (.lst (AO lvs))/\row.length=lvs.length/\row.length<=10000 /\
 ∀ (H':Hp) (R:Addr) (rr:List Addr),Same H H'->H R=none->H' R=some (.lst (rr.map V.ref))->RunsAt H' rr (AC (fun i=>lvs.getD i 0) (FJ row))->R∉rr->Q (.ref R) H'
theorem Nm (D:Dfn K mg "runs_of" Ho ["kinds","levels"]) (T:BX mg) (C_is_left_out:Ak P w K mg base 2 "is_left_out" ["kind"] (spB Bj)):Ak P w K mg base 3 "runs_of" ["kinds","levels"] spRuns:=by
 refine D.ok sc_runs_of (fun vs H Q E h=>?_) (fun f cdv A outer s H vs Q E hr h=>?_)
 .obtain ⟨a,b,row,lvs,rfl,_⟩:=h
  rfl
 .obtain ⟨a,b,row,lvs,rfl,ha,hb,hll,hl,q⟩:=h
  refine ⟨_,(A3 (AF (i:=2) sc_runs_of.nd rfl (Or.inl rfl) (Ac A4))
   (A3 (AF (i:=3) sc_runs_of.nd rfl (Or.inl rfl) BG)
   (A3 (Ao PassesOwn.never rfl (B9 rfl T.b_range (A0 (AM (AK (K:=K) rfl) (by rfl) T.b_len PySem.boot_len (A0 (pv 0) A4)) A4)) (AS (i:=4) sc_runs_of.nd rfl (Or.inl rfl))
   (A3 (AU (As (BI C_is_left_out hr (A0 (AE (A9 (K:=K) rfl) (pv 0) (pv 4) (fun _ _=>rfl)) A4)))
    (A5 Ca)
    AJ)
    (A3 (AU (AA ME (AE (A9 (K:=K) rfl) (pv 1) (pv 4) (fun _ _=>rfl)) (pv 3) (AG _))
    (A3 (AF (i:=3) sc_runs_of.nd rfl (Or.inl rfl) (AE (A9 (K:=K) rfl) (pv 1) (pv 4) (fun _ _=>rfl)))
     (A5 (AX (Ck PySem.F.plainAttrs_list PySem.F.slot_list_append PySem.F.type_list_append BP (pv 2) (A0 (Ac A4) A4)))))
    AJ)
    (A5 (AX (Ck PySem.F.plainAttrs_list PySem.F.slot_list_append PySem.F.type_list_append BP (AE (A9 (K:=K) rfl) (pv 2) (BQ Av A7) (fun _ _=>rfl)) (A0 (pv 4) A4)))))))
   (A5 (AD (pv 2)))))),?_⟩
  refine ⟨(BL rfl),fun R hR=>⟨_,rfl,_,_,rfl,(Bn (A6 ha (A1 ha hR))),_,rfl,(by lia),(by simp only [nVs_len] <;> lia),?_⟩⟩
  generalize hlv:(fun i=>lvs.getD i 0)=lv at q
  refine BC (fun i σ H'=>Bk (∃ (v4:Option V) (rr:List Addr) (o:Option Nat),σ=[some (.ref a),some (.ref b),some (.ref R),some (oV o),v4]/\Same H H'/\H' R=some (.lst (rr.map V.ref))/\RunsAt H' rr (AC lv (NJ row i))/\R∉rr/\(∀ t∈rr,H t=none) /\
    o=((AC lv (NJ row i)).getLast?.bind List.getLast?).map lv)) ?_ (fun i σ H2 hi h=>?_) (fun σ H2 h=>?_)
  .exact ⟨_,[],none,rfl,Same.set (Same.refl _) hR,A2,RunsAt.nil _,by simp,by simp,rfl⟩
  .obtain ⟨v4,rr,o,rfl,s2,h2R,hRA,hRn,hrN,ho⟩:=h
   rw [nVs_len] at hi
   have hi:i<row.length:=by lia
   obtain ⟨c,hc⟩:∃ c,row[i]?=some c:=⟨_,ZA hi⟩
   obtain ⟨v,hv⟩:∃ v,lvs[i]?=some v:=⟨_,ZA (by lia)⟩
   have hlvi:lv i=v:=by rw [<-hlv];exact Ai hv
   refine ⟨_,rfl,_,rfl,_,_,_,_,rfl,rfl,(SqL.of (s2 _ _ ha)),(AH (AR hc)),_,rfl,fun H3 s3=>⟨_,rfl,?_⟩⟩
   walk_at "?d"
   .skip
    exact ⟨_,rr,o,rfl,s2.trans s3,s3 _ _ h2R,by rw [Ob hc d];exact hRA.same s3,hRn,hrN,by rw [Ob hc d];exact ho⟩
   .refine ⟨_,rfl,_,rfl,_,_,_,_,rfl,rfl,(SqL.of (s3 _ _ (s2 _ _ hb))),(AH (AR hv)),_,rfl,(Sh _ _),_,rfl,?_⟩
    have hRA3:=hRA.same s3
    have h3R:=s3 _ _ h2R
    have hadd:AC lv (NJ row (i+1))=GQ lv (AC lv (NJ row i)) i:=by rw [So hc d,Kq]
    have hrl:=HY lv (NJ row i)
    have hpl:=J3 row i
    have hrrl:=hRA.len
    have hfl:=Cs lv (NJ row i)
    generalize AC lv (NJ row i)=rs at *
    walk_at "?d2"
    .refine ⟨_,rfl,_,rfl,_,_,_,_,rfl,rfl,(SqL.of (s3 _ _ (s2 _ _ hb))),(AH (AR hv)),_,rfl,(Ah h3R),(BL rfl),fun l hl0=>⟨_,_,_,rfl,rfl,(A6 h3R (A1 h3R hl0)),(DT (by simp <;> lia)),_,rfl,_,rfl,_,_,_,_,rfl,rfl,(SqL.of A2),Go,(Ah (A6 A2 (A1 h3R hl0).symm)),_,rfl,_,_,_,rfl,rfl,(A6 A2 (A1 h3R hl0).symm),(BL rfl),?_⟩⟩
     have hRl:R≠l:=A1 h3R hl0
     have hnew:R∉rr++[l]:=fun z=>by
      rcases List.mem_append.mp z with z | z
      .exact hRn z
      .exact hRl (List.mem_singleton.mp z)
     have e:GQ lv rs i=rs++[[i]]:=by
      unfold GQ
      cases hg:rs.getLast? with
      | none=>rw [List.getLast?_eq_none_iff.mp hg];rfl
      | some y =>
       dsimp only
       rw [if_neg]
       intro z
       rw [hg] at ho
       exact d2 (by rw [ho,<-hlvi];exact z)
     have hlN:H l=none:=none_of (s2.trans s3) hl0
     have hrN':∀ t∈rr++[l],H t=none:=fun t ht=>by
      rcases List.mem_append.mp ht with ht | ht
      .exact hrN t ht
      .rw [List.mem_singleton.mp ht];exact hlN
     refine ⟨_,rr++[l],some v,rfl,Same.set (Same.set (Same.set (s2.trans s3) hlN) hR) hlN,?_,?_,hnew,hrN',?_⟩
     .rw [AQ hRl,A2,List.map_append]
      rfl
     .rw [hadd,e]
      exact ((hRA3.newRun (x:=[]) hl0).lstNew hnew).last (y:=[i])
     .rw [hadd,e]
      simp [hlvi]
    .obtain ⟨rs',y,hrs⟩:∃ rs' y,rs=rs'++[y]:=by
      rcases List.eq_nil_or_concat rs with h | ⟨rs',y,h⟩
      .rw [h,d2] at ho
       cases ho
      .exact ⟨rs',y,by rw [h,List.concat_eq_append]⟩
     obtain ⟨rr',l,hrr⟩:∃ rr' l,rr=rr'++[l]:=by
      rcases List.eq_nil_or_concat rr with h | ⟨rr',y,h⟩
      .rw [h,hrs] at hrrl
       simp at hrrl
      .exact ⟨rr',y,by rw [h,List.concat_eq_append]⟩
     subst hrs hrr
     have hly:H3 l=some (.lst (AO y)):=by
      have hlen:rr'.length=rs'.length:=by simpa using hrrl
      exact hRA3.get rr'.length l y (by simp) (by rw [hlen];simp)
     have hyl:y.length<=i:=by
      have:(rs'++[y]).flatten.length<=i:=by
       rw [hfl]
       exact hpl
      simp at this
      lia
     have hRl:R≠l:=fun z=>hRn (by rw [z];simp)
     refine ⟨_,rfl,_,rfl,_,_,_,_,rfl,rfl,(SqL.of h3R),by
      rw [List.map_append]
      exact Go,?_⟩
     refine ⟨(Ah hly),_,rfl,_,_,_,rfl,rfl,hly,(DT (by simp <;> lia)),?_⟩
     have e:GQ lv (rs'++[y]) i=rs'++[y++[i]]:=by
      unfold GQ
      rw [List.getLast?_concat]
      dsimp only
      rw [if_pos,List.dropLast_concat]
      rw [List.getLast?_concat] at ho
      rw [hlvi,<-d2,ho]
      rfl
     have hlN:H l=none:=hrN l (by simp)
     refine ⟨_,rr'++[l],some v,by rw [d2];rfl,Same.set (s2.trans s3) hlN,A6 h3R hRl,?_,hRn,hrN,?_⟩
     .rw [hadd,e]
      have:=hRA3.last (y:=y++[i])
      rw [C0] at this
      exact this
     .rw [hadd,e]
      simp [hlvi]
  .obtain ⟨v4,rr,o,rfl,s2,h2R,hRA,hRn,hrN,ho⟩:=h
   refine ⟨_,rfl,?_⟩
   refine q H2 R rr s2 hR h2R ?_ hRn
   have e:NJ row (AO row).length=FJ row:=by rw [nVs_len];rfl
   exact e▸hRA
noncomputable def spGoes:Sp:=fun vs H Q _=>∃ (a b r:Addr) (row run:List Nat) (ps:List (Option Nat)) (z c:Nat),vs=[.ref a,.ref b,.ref r]/\H a=some (.lst (AO row))/\H b=some (.lst (J0 ps))/\H r=some (.lst (AO run))/\Gb row ps/\run.getLast?=some z/\row[z]?=some c /\
 ∀ (H':Hp),Same H H'->Q (.bl (Dr.isIso c && (Dr.endOf row z).isSome)) H'
theorem NR (D:Dfn K mg "goes_on" Ht ["kinds","partners","run"]) (T:BX mg) (C_begins_isolate:Ak P w K mg base 1 "begins_isolate" ["kind"] (spB Dr.isIso)):Ak P w K mg base 2 "goes_on" ["kinds","partners","run"] spGoes:=by
 refine D.ok sc_goes_on (fun vs H Q E h=>?_) (fun f cdv A outer s H vs Q E hr h=>?_)
 .obtain ⟨a,b,r,row,run,ps,z,c,rfl,_⟩:=h
  rfl
 .obtain ⟨a,b,r,row,run,ps,z,c,rfl,ha,hb,hr',hP,hz,hc,q⟩:=h
  refine ⟨_,(A3 (AF (i:=3) sc_goes_on.nd rfl (Or.inl rfl) (AE (A9 (K:=K) rfl) (pv 2) (BQ Av A7) (fun _ _=>rfl)))
   (A5 (AD (FF (BI C_begins_isolate hr (A0 (AE (A9 (K:=K) rfl) (pv 0) (pv 3) (fun _ _=>rfl)) A4)) (Cv (B5 Ev (AE (A9 (K:=K) rfl) (pv 1) (pv 3) (fun _ _=>rfl)) BG (AG _))))))),?_⟩
  refine ⟨_,rfl,_,rfl,_,_,_,_,rfl,rfl,(SqL.of hr'),Nw hz,_,rfl,_,rfl,_,_,_,_,rfl,rfl,(SqL.of ha),(AH (AR hc)),_,rfl,fun H1 s1=>⟨_,rfl,?_⟩⟩
  walk_at "?d"
  .have hps:=hP.iso z c hc d
   refine ⟨_,rfl,_,rfl,_,_,_,_,rfl,rfl,(SqL.of (s1 _ _ hb)),AH (F5 hps),rfl,?_⟩
   have:=q H1 s1
   rw [d] at this
   cases he:Dr.endOf row z with
   | none=>rw [he] at this;exact this
   | some e=>rw [he] at this;exact this
  .have:=q H1 s1
   rw [d] at this
   exact this
noncomputable def spCont:Sp:=fun vs H Q _=>∃ (a b r:Addr) (row run:List Nat) (ps:List (Option Nat)) (z c:Nat),vs=[.ref a,.ref b,.ref r]/\H a=some (.lst (AO row))/\H b=some (.lst (J0 ps))/\H r=some (.lst (AO run))/\Gb row ps/\run.head?=some z/\row[z]?=some c /\
 Q (.bl (!D5 row run)) H
theorem Fh (D:Dfn K mg "continues_another" C9 ["kinds","partners","run"]) (T:BX mg):Ak P w K mg base 1 "continues_another" ["kinds","partners","run"] spCont:=by
 refine D.ok Fn (fun vs H Q E h=>?_) (fun f cdv A outer s H vs Q E hr h=>?_)
 .obtain ⟨a,b,r,row,run,ps,z,c,rfl,_⟩:=h
  rfl
 .obtain ⟨a,b,r,row,run,ps,z,c,rfl,ha,hb,hr',hP,hz,hc,q⟩:=h
  refine ⟨_,(A5 (AD (FF (B5 Af (AE (A9 (K:=K) rfl) (pv 0) (AE (A9 (K:=K) rfl) (pv 2) A7 (fun _ _=>rfl)) (fun _ _=>rfl)) (B4 T.c_PDI) (AG _)) (Cv (B5 Ev (AE (A9 (K:=K) rfl) (pv 1) (AE (A9 (K:=K) rfl) (pv 2) A7 (fun _ _=>rfl)) (fun _ _=>rfl)) BG (AG _)))))),?_⟩
  have e:(!D5 row run)=(c==22 && Dr.endsIso row z):=by
   unfold D5
   rw [hz]
   dsimp only
   rw [Ai hc,Bool.not_not]
  rw [e] at q
  refine ⟨_,rfl,_,rfl,_,_,_,_,rfl,rfl,(SqL.of hr'),Eb hz,_,_,_,_,rfl,rfl,(SqL.of ha),(AH (AR hc)),rfl,_,rfl,?_⟩
  walk_at "?d"
  .subst d
   obtain ⟨o,ho,hE⟩:=hP.pdi z hc
   refine ⟨_,rfl,_,rfl,_,_,_,_,rfl,rfl,(SqL.of hr'),Eb hz,_,_,_,_,rfl,rfl,(SqL.of hb),AH (F5 ho),rfl,?_⟩
   rw [<-hE] at q
   cases o with
   | none=>exact q
   | some x=>exact q
  .rw [show (c==22)=false from beq_eq_false_iff_ne.mpr d] at q
   exact q
noncomputable def spLvB:Sp:=fun vs H Q _=>∃ (a b:Addr) (rr:List Addr) (rs:List (List Nat)) (lvs:List Nat) (k bs:Nat),vs=[.ref a,.ref b,NV k,NV bs]/\H a=some (.lst (rr.map V.ref))/\RunsAt H rr rs/\H b=some (.lst (AO lvs))/\k<rs.length/\(∀ x∈rs,∃ q,x.head?=some q/\q<lvs.length) /\
 Q (NV (if k=0 then bs else lvs.getD ((rs.getD (k - 1) []).headD 0) 0)) H
theorem DI {rr:List Addr} {i:Nat} {t:Addr} (h:rr[i]?=some t):(rr.map V.ref)[i]?=some (V.ref t):=by
 rw [List.getElem?_map,h]
 rfl
theorem Ij (D:Dfn K mg "level_before" Dx ["runs","levels","number","base"]) (T:BX mg):Ak P w K mg base 1 "level_before" ["runs","levels","number","base"] spLvB:=by
 refine D.ok Ii (fun vs H Q E h=>?_) (fun f cdv A outer s H vs Q E hr h=>?_)
 .obtain ⟨a,b,rr,rs,lvs,k,bs,rfl,_⟩:=h
  rfl
 .obtain ⟨a,b,rr,rs,lvs,k,bs,rfl,ha,hRA,hb,hk,hh,q⟩:=h
  refine ⟨_,(A5 (AD (Aw (AA Af (pv 2) A7 (AG _)) (pv 3) (AE (A9 (K:=K) rfl) (pv 1) (AE (A9 (K:=K) rfl) (AE (A9 (K:=K) rfl) (pv 0) (Ab Dn (pv 2) A7) (fun _ _=>rfl)) A7 (fun _ _=>rfl)) (fun _ _=>rfl))))),?_⟩
  refine ⟨_,rfl,rfl,_,rfl,?_⟩
  walk_at "?d"
  .refine ⟨_,rfl,?_⟩
   rw [if_pos (by lia)] at q
   exact q
  .rw [if_neg (by lia)] at q
   obtain ⟨x,hx⟩:∃ x,rs[k - 1]?=some x:=⟨_,ZA (by lia)⟩
   obtain ⟨t,ht,htx⟩:=hRA.at hx
   obtain ⟨z,hz,hzl⟩:=hh x (ZD hx)
   obtain ⟨v,hv⟩:∃ v,lvs[z]?=some v:=⟨_,ZA hzl⟩
   rw [getD_some hx,List.headD_eq_head?_getD,hz,Option.getD_some,Ai hv] at q
   refine ⟨_,rfl,_,rfl,_,rfl,_,_,rfl,rfl,_,_,_,_,rfl,rfl,(SqL.of ha),OS (j:=k - 1) (by lia) (DI ht),_,_,_,_,rfl,rfl,(SqL.of htx),Eb hz,_,_,_,_,rfl,rfl,(SqL.of hb),(AH (AR hv)),?_⟩
   exact q
noncomputable def spLvH:Sp:=fun vs H Q _=>∃ (a b:Addr) (rr:List Addr) (rs:List (List Nat)) (lvs:List Nat) (k bs:Nat),vs=[.ref a,.ref b,NV k,NV bs]/\H a=some (.lst (rr.map V.ref))/\RunsAt H rr rs/\H b=some (.lst (AO lvs))/\k<rs.length/\(∀ x∈rs,∃ q,x.head?=some q/\q<lvs.length) /\
 Q (NV (if k+1=rs.length then bs else lvs.getD ((rs.getD (k+1) []).headD 0) 0)) H
theorem Ik (D:Dfn K mg "level_behind" E4 ["runs","levels","number","base"]) (T:BX mg):Ak P w K mg base 1 "level_behind" ["runs","levels","number","base"] spLvH:=by
 refine D.ok Id (fun vs H Q E h=>?_) (fun f cdv A outer s H vs Q E hr h=>?_)
 .obtain ⟨a,b,rr,rs,lvs,k,bs,rfl,_⟩:=h
  rfl
 .obtain ⟨a,b,rr,rs,lvs,k,bs,rfl,ha,hRA,hb,hk,hh,q⟩:=h
  refine ⟨_,(A5 (AD (Aw (AA Af (Ab Ag (pv 2) A7) (AM (AK (K:=K) rfl) (by rfl) T.b_len PySem.boot_len (A0 (pv 0) A4)) (AG _)) (pv 3) (AE (A9 (K:=K) rfl) (pv 1) (AE (A9 (K:=K) rfl) (AE (A9 (K:=K) rfl) (pv 0) (Ab Ag (pv 2) A7) (fun _ _=>rfl)) A7 (fun _ _=>rfl)) (fun _ _=>rfl))))),?_⟩
  have hrl:=hRA.len
  refine ⟨_,rfl,_,_,rfl,rfl,_,rfl,_,_,rfl,(Bn ha),rfl,_,rfl,?_⟩
  walk_at "?d"
  .refine ⟨_,rfl,?_⟩
   rw [if_pos (by simp at d;lia)] at q
   exact q
  .rw [if_neg (by simp at d;lia)] at q
   obtain ⟨x,hx⟩:∃ x,rs[k+1]?=some x:=⟨_,ZA (by simp at d;lia)⟩
   obtain ⟨t,ht,htx⟩:=hRA.at hx
   obtain ⟨z,hz,hzl⟩:=hh x (ZD hx)
   obtain ⟨v,hv⟩:∃ v,lvs[z]?=some v:=⟨_,ZA hzl⟩
   rw [getD_some hx,List.headD_eq_head?_getD,hz,Option.getD_some,Ai hv] at q
   refine ⟨_,rfl,_,rfl,_,rfl,_,_,rfl,rfl,_,_,_,_,rfl,rfl,(SqL.of ha),OS (j:=k+1) (by lia) (DI ht),_,_,_,_,rfl,rfl,(SqL.of htx),Eb hz,_,_,_,_,rfl,rfl,(SqL.of hb),(AH (AR hv)),?_⟩
   exact q
noncomputable def Uh (p:Addr) (s:Hb):List (Str×V):=[("level",NV s.level),("places",.ref p),("before",NV s.before),("behind",NV s.behind)]
structure N9 (K:PySem.W.Frag) (C:Addr):Prop where
 cl:Cls K C
 f1:NoAttr K C "level"
 f2:NoAttr K C "places"
 f3:NoAttr K C "before"
 f4:NoAttr K C "behind"
noncomputable def spSeq (C:Addr):Sp:=fun vs H Q _=>∃ (x dx p:Addr) (l b c:Nat),vs=[.ref x,NV l,.ref p,NV b,NV c]/\H x=some (.ins C dx [])/\∀ H',H' x=some (.ins C dx [("level",NV l),("places",.ref p),("before",NV b),("behind",NV c)])->Keep x H H'->Q .non H'
theorem MO {CS:Addr} (D:Dmk K mg CS "Sequence" "Sequence.__init__" DS ["self","level","places","before","behind"]) (F:N9 K CS):Kg P w K mg base 1 CS "Sequence" ["self","level","places","before","behind"] (spSeq CS):=by
 refine D.ok Hm (fun vs H Q E h=>?_) (fun f cdv A outer s H vs Q E hr h=>?_)
 .obtain ⟨x,dx,p,l,b,c,rfl,_⟩:=h
  rfl
 .obtain ⟨x,dx,p,l,b,c,rfl,hx,q⟩:=h
  obtain ⟨cl,f1,f2,f3,f4⟩:=F
  refine ⟨_,(A3 (BF (pv 0) (pv 1) rfl)
   (A3 (BF (pv 0) (pv 2) rfl)
   (A3 (BF (pv 0) (pv 3) rfl)
   (A5 (BF (pv 0) (pv 4) rfl))))),?_⟩
  refine ⟨_,rfl,_,rfl,_,_,_,_,rfl,hx,cl,f1,(BL rfl),_,rfl,_,rfl,_,_,_,_,rfl,A2,cl,f2,(BL rfl),_,rfl,_,rfl,_,_,_,_,rfl,A2,cl,f3,(BL rfl),_,rfl,_,rfl,_,_,_,_,rfl,A2,cl,f4,(BL rfl),?_⟩
  refine q _ ?_ (Keep.viaU (Keep.viaU (Keep.viaU (Keep.viaU (Keep.refl _ _) (.inl rfl)) (.inl rfl)) (.inl rfl)) (.inl rfl))
  rw [A2]
  rfl
end
theorem Jb {H:Hp} {a:Addr} {kvs:List (C5×V)} {q:Nat} {v:V} (e:H a=some (.dK kvs)) (hl:kvs.length<sizeLine):DPut H a (NV q) v (upd H a (.dK (G4 kvs (Sum.inl (q:Int)) v))):=DPut.k (k:=Sum.inl (q:Int)) e hl
theorem Qt {H:Hp} {a:Addr} {kvs:List (C5×V)} {q:Nat} {v:V} (e:H a=some (.dK kvs)) (h:Bl kvs (Sum.inl (q:Int))=some v):DGet H a (NV q) (some v):=h▸DGet.k (k:=Sum.inl (q:Int)) e
structure SeqsAt (C:Addr) (H:Hp) (S:Addr) (ss:List Addr) (ls:List Hb):Prop where
 len:ss.length=ls.length
 get:∀ (i:Nat) (t:Addr) (s:Hb),ss[i]?=some t->ls[i]?=some s->∃ dx p,H t=some (.ins C dx (Uh p s))/\H p=some (.lst (AO s.places))/\p≠S
theorem SeqsAt.nil (C:Addr) (H:Hp) (S:Addr):SeqsAt C H S [] []:=⟨rfl,fun i t x h=>by simp at h⟩
theorem SeqsAt.same {C:Addr} {H H':Hp} {S:Addr} {ss:List Addr} {ls:List Hb} (p:SeqsAt C H S ss ls) (k:Same H H'):SeqsAt C H' S ss ls:=⟨p.len,fun i t s h1 h2=>by
 obtain ⟨dx,q,a,b,c⟩:=p.get i t s h1 h2
 exact ⟨dx,q,k _ _ a,k _ _ b,c⟩⟩
theorem SeqsAt.lst {C:Addr} {H:Hp} {S:Addr} {ss:List Addr} {ls:List Hb} {xs:List V} {o:HO} (p:SeqsAt C H S ss ls) (h:H S=some (.lst xs)):SeqsAt C (upd H S o) S ss ls:=⟨p.len,fun i t s h1 h2=>by
 obtain ⟨dx,q,a,b,c⟩:=p.get i t s h1 h2
 exact ⟨dx,q,by rw [AQ (AW a h nofun)];exact a,by rw [AQ c];exact b,c⟩⟩
theorem SeqsAt.snoc {C:Addr} {H:Hp} {S:Addr} {ss:List Addr} {ls:List Hb} {t dx q:Addr} {s:Hb} (p:SeqsAt C H S ss ls) (h:H t=some (.ins C dx (Uh q s))) (h2:H q=some (.lst (AO s.places))) (h3:q≠S):SeqsAt C H S (ss++[t]) (ls++[s]):=by
 refine ⟨by simp [p.len],fun i u y h1 h4=>?_⟩
 by_cases e:i<ss.length
 .rw [List.getElem?_append_left e] at h1
  rw [List.getElem?_append_left (by rw [<-p.len];exact e)] at h4
  exact p.get i u y h1 h4
 .rw [List.getElem?_append_right (by lia)] at h1
  rw [List.getElem?_append_right (by rw [<-p.len];lia),<-p.len] at h4
  cases hi:i - ss.length with
  | zero =>
   rw [hi] at h1 h4
   cases h1
   cases h4
   exact ⟨dx,q,h,h2,h3⟩
  | succ j =>
   rw [hi] at h1
   simp at h1
theorem Gf {rs:List (List Nat)} {k k':Nat} {y:List Nat} (h:k<=k') (hy:rs[k']?=some y):y.length+((rs.drop (k'+1)).flatten).length<=((rs.drop k).flatten).length:=by
 obtain ⟨d,rfl⟩:∃ d,k'=k+d:=⟨k' - k,by lia⟩
 have e:rs.drop k=(rs.drop k).take d++(rs.drop k).drop d:=(List.take_append_drop d _).symm
 rw [e,List.drop_drop,AZ hy]
 simp
theorem LS (row:List Nat) (b:Nat):(fun i=>((Ad row (m0 b)).map Prod.fst).getD i 0)=DX row b:=by
 funext i
 unfold DX
 rw [List.getD_eq_getElem?_getD,List.getElem?_map]
section
variable {P:Program} {w:World} {K:PySem.W.Frag} {mg:Str->Option Value} {base:Heap} {CS:Addr}
noncomputable def spSeqs (CS:Addr):Sp:=fun vs H Q _=>∃ (a b c:Addr) (l:List Dr.Look) (ps:List (Option Nat)) (bs:Nat),vs=[.ref a,.ref b,.ref c,NV bs]/\H a=some (.lst (AO (l.map Dr.Look.cls)))/\H b=some (.lst (J0 ps))/\H c=some (.lst (AO ((Ad (l.map Dr.Look.cls) (m0 bs)).map Prod.fst))) /\
 Gb (l.map Dr.Look.cls) ps/\l.length<=1000 /\
 ∀ (H':Hp) (S:Addr) (ss:List Addr),Same H H'->H S=none->H' S=some (.lst (ss.map V.ref))->SeqsAt CS H' S ss ((Ay (l.map Dr.Look.cls) bs).map (BZ l bs))->Q (.ref S) H'
theorem IX (D:Dfn K mg "sequences_of" E5 ["kinds","partners","levels","base"]) (T:BX mg) (F:N9 K CS)
  (C_runs_of:Ak P w K mg base 3 "runs_of" ["kinds","levels"] spRuns) (C_goes_on:Ak P w K mg base 2 "goes_on" ["kinds","partners","run"] spGoes) (C_continues_another:Ak P w K mg base 1 "continues_another" ["kinds","partners","run"] spCont)
  (C_level_before:Ak P w K mg base 1 "level_before" ["runs","levels","number","base"] spLvB) (C_level_behind:Ak P w K mg base 1 "level_behind" ["runs","levels","number","base"] spLvH)
  (C_begins_isolate:Ak P w K mg base 1 "begins_isolate" ["kind"] (spB Dr.isIso)) (C_side_of_level:Ak P w K mg base 1 "side_of_level" ["level"] spSol) (C_Sequence:Kg P w K mg base 1 CS "Sequence" ["self","level","places","before","behind"] (spSeq CS)) :
  Ak P w K mg base 4 "sequences_of" ["kinds","partners","levels","base"] (spSeqs CS):=by
 refine D.ok sc_sequences_of (fun vs H Q E h=>?_) (fun f cdv A outer s H vs Q E hr h=>?_)
 .obtain ⟨a,b,c,l,ps,bs,rfl,_⟩:=h
  rfl
 .obtain ⟨a,b,c,l,ps,bs,rfl,ha,hb,hc,hP,hl,q⟩:=h
  obtain ⟨cl,f1,f2,f3,f4⟩:=F
  generalize hrow:l.map Dr.Look.cls=row at *
  have hrl:row.length<=1000:=by rw [<-hrow,ZE];exact hl
  have hnl:row.length=((Ad row (m0 bs)).map Prod.fst).length:=by rw [ZE,Ef]
  have G:=Geo.of row bs
  refine ⟨_,(A3 (AF (i:=4) sc_sequences_of.nd rfl (Or.inl rfl) (BI C_runs_of hr (A0 (pv 0) (A0 (pv 2) A4))))
   (A3 (AF (i:=5) sc_sequences_of.nd rfl (Or.inl rfl) JE)
   (A3 (Ao PassesOwn.never rfl (B9 rfl T.b_range (A0 (AM (AK (K:=K) rfl) (by rfl) T.b_len PySem.boot_len (A0 (pv 4) A4)) A4)) (AS (i:=6) sc_sequences_of.nd rfl (Or.inl rfl))
   (A5 (Lq (KS hr) (pv 5) (AE (A9 (K:=K) rfl) (AE (A9 (K:=K) rfl) (pv 4) (pv 6) (fun _ _=>rfl)) A7 (fun _ _=>rfl)) (pv 6) rfl)))
   (A3 (AF (i:=7) sc_sequences_of.nd rfl (Or.inl rfl) (Ac A4))
   (A3 (Ao PassesOwn.never rfl (B9 rfl T.b_range (A0 (AM (AK (K:=K) rfl) (by rfl) T.b_len PySem.boot_len (A0 (pv 4) A4)) A4)) (AS (i:=6) sc_sequences_of.nd rfl (Or.inl rfl))
   (A3 (AU (As (BI C_continues_another hr (A0 (pv 0) (A0 (pv 1) (A0 (AE (A9 (K:=K) rfl) (pv 4) (pv 6) (fun _ _=>rfl)) A4)))))
    (A5 Ca)
    AJ)
    (A3 (AF (i:=8) sc_sequences_of.nd rfl (Or.inl rfl) (Fq FB (by rfl) T.b_list PyProof.Rows.boot_list (A0 (AE (A9 (K:=K) rfl) (pv 4) (pv 6) (fun _ _=>rfl)) A4)))
    (A3 (AF (i:=9) sc_sequences_of.nd rfl (Or.inl rfl) (pv 6))
    (A3 (DG PassesOwn.never (As (BI C_goes_on hr (A0 (pv 0) (A0 (pv 1) (A0 (AE (A9 (K:=K) rfl) (pv 4) (pv 9) (fun _ _=>rfl)) A4)))))
    (A3 (AF (i:=9) sc_sequences_of.nd rfl (Or.inl rfl) (S0 (KS hr) (pv 5) (AE (A9 (K:=K) rfl) (pv 1) (AE (A9 (K:=K) rfl) (pv 8) (BQ Av A7) (fun _ _=>rfl)) (fun _ _=>rfl)) (fun _ _=>rfl)))
     (A5 (AX (Ck PySem.F.plainAttrs_list PySem.F.slot_list_extend PySem.F.type_list_extend Df (pv 8) (A0 (AE (A9 (K:=K) rfl) (pv 4) (pv 9) (fun _ _=>rfl)) A4))))))
    (A3 (AF (i:=10) sc_sequences_of.nd rfl (Or.inl rfl) (AE (A9 (K:=K) rfl) (pv 2) (AE (A9 (K:=K) rfl) (pv 8) A7 (fun _ _=>rfl)) (fun _ _=>rfl)))
    (A3 (AF (i:=11) sc_sequences_of.nd rfl (Or.inl rfl) (AM (KP rfl) (by rfl) T.b_max PyProof.Rows.boot_max (A0 (pv 10) (A0 (BI C_level_before hr (A0 (pv 4) (A0 (pv 2) (A0 (pv 6) (A0 (pv 3) A4))))) A4))))
    (A3 (AF (i:=12) sc_sequences_of.nd rfl (Or.inl rfl) (BI C_begins_isolate hr (A0 (AE (A9 (K:=K) rfl) (pv 0) (AE (A9 (K:=K) rfl) (pv 8) (BQ Av A7) (fun _ _=>rfl)) (fun _ _=>rfl)) A4)))
    (A3 (AF (i:=13) sc_sequences_of.nd rfl (Or.inl rfl) (AM (KP rfl) (by rfl) T.b_max PyProof.Rows.boot_max (A0 (pv 10) (A0 (EU (Aw (As (pv 12)) (pv 3) (BI C_level_behind hr (A0 (pv 4) (A0 (pv 2) (A0 (pv 9) (A0 (pv 3) A4))))))) A4))))
    (A5 (AX (Ck PySem.F.plainAttrs_list PySem.F.slot_list_append PySem.F.type_list_append BP (pv 7) (A0 (RH C_Sequence hr (A0 (pv 10) (A0 (pv 8) (A0 (BI C_side_of_level hr (A0 (pv 11) A4)) (A0 (BI C_side_of_level hr (A0 (pv 13) A4)) A4))))) A4)))))))))))))
   (A5 (AD (pv 7)))))))),?_⟩
  refine ⟨_,rfl,_,rfl,_,_,_,_,rfl,ha,hc,hnl,(by lia),fun H1 R rr s1 hR h1R hRA hRn d hd0=>⟨_,rfl,_,_,rfl,(Bn (A6 h1R (A1 h1R hd0))),_,rfl,(by lia),by
   have h1:=hRA.len
   have h2:=HY (fun i=>((Ad row (m0 bs)).map Prod.fst).getD i 0) (FJ row)
   have h3:(FJ row).length<=row.length:=J3 row row.length
   rw [ZE]
   lia,?_⟩⟩
  rw [LS] at hRA
  have hrrl:rr.length<=1000:=by
   have h1:=hRA.len
   have h2:=HY (DX row bs) (FJ row)
   have h3:(FJ row).length<=row.length:=J3 row row.length
   lia
  have hrsl:=hRA.len
  have hne:=Cf (DX row bs) (FJ row)
  have hmem:∀ k x z,(AC (DX row bs) (FJ row))[k]?=some x->z∈x->∃ e,row[z]?=some e:=fun k x z hx hz=>by
   obtain ⟨e,he,_⟩:=(G.mem z).mp (G.inP hx hz)
   exact ⟨e,he⟩
  have hflat:(AC (DX row bs) (FJ row)).flatten.length<=row.length:=by
   rw [Cs]
   exact J3 row row.length
  generalize hrs:AC (DX row bs) (FJ row)=rs at *
  skip
  refine BC (fun i σ H'=>Bk (∃ (v6:Option V) (kvs:List (C5×V)),σ=[some (.ref a),some (.ref b),some (.ref c),some (NV bs),some (.ref R),some (.ref d),v6,none,none,none,none,none,none,none]/\Same H1 H'/\H' d=some (.dK kvs)/\kvs.length=i /\
    (∀ (k:Nat) (x:List Nat) (z:Nat),k<i->rs[k]?=some x->x.head?=some z->Bl kvs (Sum.inl (z:Int))=some (NV k)) /\
    (∀ z:Nat,(∀ (k:Nat) (x:List Nat),k<i->rs[k]?=some x->x.head?≠some z)->Bl kvs (Sum.inl (z:Int))=none))) ?_ (fun i σ H2 hi h=>?_) (fun σ H2 h=>?_)
  .exact ⟨_,[],rfl,Same.set (Same.refl _) hd0,A2,rfl,fun k x z hk=>by lia,fun z _=>rfl⟩
  .obtain ⟨v6,kvs,rfl,s2,h2d,hkl,hyes,hno⟩:=h
   have hi:i<rs.length:=by simp at hi;lia
   obtain ⟨x,hx⟩:∃ x,rs[i]?=some x:=⟨_,ZA hi⟩
   obtain ⟨t,ht,htx⟩:=(hRA.same s2).at hx
   obtain ⟨z,hz⟩:=DK (hne x (ZD hx))
   have hrt:=DI ht
   refine ⟨_,rfl,_,rfl,_,rfl,_,rfl,_,_,_,_,rfl,rfl,(SqL.of (s2 _ _ h1R)),(AH hrt),_,_,_,_,rfl,rfl,(SqL.of htx),Eb hz,_,_,rfl,(Jb h2d (DT (by lia))),?_⟩
   have hnz:Bl kvs (Sum.inl (z:Int))=none:=hno z fun k y hk hy hyz=>by
    have:=G.same (hrs▸hy) (hrs▸hx) (Al hyz) (Al hz)
    lia
   refine ⟨_,_,rfl,Same.set s2 hd0,A2,?_,?_,?_⟩
   .rw [Jp _ hnz,List.length_append,hkl]
    rfl
   .intro k y u hk hy hu
    rw [NE]
    by_cases e:k=i
    .subst e
     rw [hx] at hy
     cases hy
     rw [hz] at hu
     cases hu
     rw [if_pos rfl]
    .rw [if_neg,hyes k y u (by lia) hy hu]
     intro w
     injection w with w
     have w:u=z:=by lia
     subst w
     have:=G.same (hrs▸hy) (hrs▸hx) (Al hu) (Al hz)
     lia
   .intro u hu
    rw [NE,if_neg,hno u fun k y hk hy=>hu k y (by lia) hy]
    intro w
    injection w with w
    have w:u=z:=by lia
    subst w
    exact hu i x (by lia) hx hz
  .obtain ⟨v6,kvs,rfl,s2,h2d,hkl,hyes,hno⟩:=h
   have hyes':∀ (k:Nat) (x:List Nat) (z:Nat),rs[k]?=some x->x.head?=some z->Bl kvs (Sum.inl (z:Int))=some (NV k):=fun k x z hx hz=>hyes k x z (by
    have:=(ZB.mp hx).1
    simp
    lia) hx hz
   clear hyes hno hkl
   have hRA2:=hRA.same s2
   have hheads:∀ x∈rs,∃ z,x.head?=some z/\z<((Ad row (m0 bs)).map Prod.fst).length:=fun x hx=>by
    obtain ⟨z,hz⟩:=DK (hne x hx)
    obtain ⟨k,hk⟩:=List.mem_iff_getElem?.mp hx
    obtain ⟨e,he⟩:=hmem k x z hk (Al hz)
    exact ⟨z,hz,by rw [<-hnl];exact (ZB.mp he).1⟩
   refine ⟨(BL rfl),fun S hS0=>⟨_,rfl,_,_,rfl,(Bn (A6 (s2 _ _ h1R) (A1 (s2 _ _ h1R) hS0))),_,rfl,(by lia),(by simp <;> lia),?_⟩⟩
   refine BC (fun i σ H'=>Bk (∃ (v6 v8 v9 v10 v11 v12 v13:Option V) (ss:List Addr),σ=[some (.ref a),some (.ref b),some (.ref c),some (NV bs),some (.ref R),some (.ref d),v6,some (.ref S),v8,v9,v10,v11,v12,v13]/\Same H2 H'/\H' S=some (.lst (ss.map V.ref)) /\
     SeqsAt CS H' S ss (((rs.take i).filter (D5 row)).map fun x=>BZ l bs (Bm row rs rs.length x)))) ?_ (fun i σ H3 hi h=>?_) (fun σ H3 h=>?_)
   .exact ⟨_,_,_,_,_,_,_,[],rfl,Same.set (Same.refl _) hS0,A2,SeqsAt.nil _ _ _⟩
   .obtain ⟨v6,v8,v9,v10,v11,v12,v13,ss,rfl,s3,h3S,hSA⟩:=h
    have hi:i<rs.length:=by simp at hi;lia
    obtain ⟨x,hx⟩:∃ x,rs[i]?=some x:=⟨_,ZA hi⟩
    have hRA3:=hRA2.same s3
    obtain ⟨t,ht,htx⟩:=hRA3.at hx
    obtain ⟨a0,ha0⟩:=DK (hne x (ZD hx))
    obtain ⟨e0,he0⟩:=hmem i x a0 hx (Al ha0)
    have hrt:=DI ht
    have htake:rs.take (i+1)=rs.take i++[x]:=by
     rw [List.take_add_one,hx]
     rfl
    refine ⟨_,rfl,_,rfl,_,rfl,_,rfl,_,_,_,_,rfl,rfl,(SqL.of (s3 _ _ (s2 _ _ h1R))),(AH hrt),_,_,_,_,_,_,_,_,rfl,(s3 _ _ (s2 _ _ (s1 _ _ ha))),(s3 _ _ (s2 _ _ (s1 _ _ hb))),htx,hP,ha0,he0,_,rfl,?_⟩
    walk_at "?dd"
    .skip
     refine ⟨_,_,_,_,_,_,_,ss,rfl,s3,h3S,?_⟩
     rw [htake,List.filter_append,List.filter_cons_of_neg (by simpa using dd),List.filter_nil,List.append_nil]
     exact hSA
    .refine ⟨_,rfl,_,rfl,_,_,_,_,rfl,rfl,(SqL.of (s3 _ _ (s2 _ _ h1R))),(AH hrt),_,_,rfl,(Bn htx),fun pl hpl=>⟨_,rfl,?_⟩⟩
     have dd:D5 row x=true:=by simpa using dd
     have hxl:x.length+((rs.drop (i+1)).flatten).length<=row.length:=Nat.le_trans (Gf (Nat.zero_le _) hx) hflat
     refine ⟨fun m σ H'=>Bk (∃ (kf f:Nat) (xf X X':List Nat),σ=[some (.ref a),some (.ref b),some (.ref c),some (NV bs),some (.ref R),some (.ref d),some (NV i),some (.ref S),some (.ref pl),some (NV kf),v10,v11,v12,v13]/\Same H3 H'/\H' pl=some (.lst (AO X))/\rs[kf]?=some xf/\i<=kf /\
       rs.length<=f+kf/\X=X'++xf/\Bm row rs rs.length x=X'++Bm row rs f xf/\X.length+((rs.drop (kf+1)).flatten).length<=row.length/\m=rs.length - kf),⟨_,i,rs.length,x,x,[],rfl,Same.set (Same.refl _) hpl,A2,hx,Nat.le_refl _,by lia,rfl,rfl,hxl,rfl⟩,?_⟩
     rintro m σ H4 ⟨kf,fu,xf,X,X',rfl,s4,h4p,hxf,hikf,hfu,hX,hch,hXl,rfl⟩
     have hRA4:=hRA3.same s4
     obtain ⟨tf,htf,htfx⟩:=hRA4.at hxf
     have hrtf:=DI htf
     obtain ⟨z,hz⟩:=Gd (hne xf (ZD hxf))
     obtain ⟨ez,hez⟩:=hmem kf xf z hxf (BU hz)
     have hXz:X.getLast?=some z:=by rw [hX,List.getLast?_append,hz];rfl
     refine ⟨_,rfl,_,rfl,_,rfl,_,rfl,_,_,_,_,rfl,rfl,(SqL.of (s4 _ _ (s3 _ _ (s2 _ _ h1R)))),(AH hrtf),_,_,_,_,_,_,_,_,rfl,(s4 _ _ (s3 _ _ (s2 _ _ (s1 _ _ ha)))),(s4 _ _ (s3 _ _ (s2 _ _ (s1 _ _ hb)))),htfx,hP,hz,hez,fun H5 s5=>⟨_,rfl,?_⟩⟩
     walk_at "?de"
     .refine Tn ?_
      obtain ⟨de1,de2⟩:Dr.isIso ez=true/\(Dr.endOf row z).isSome=true:=by simpa using de
      obtain ⟨e,he⟩:=Option.isSome_iff_exists.mp de2
      have hps:=hP.iso z ez hez de1
      rw [he] at hps
      obtain ⟨k',y,f',hk1,hy,hyh,_,hf',hch'⟩:=G.go (row:=row) (hrs▸hxf) (by rw [hrs];exact hfu) hz (by rw [Ai hez];exact de1) he
      rw [hrs] at hy hf' hch'
      have hdy:=hyes' k' y e hy hyh
      have hRA5:=hRA4.same s5
      obtain ⟨ty,hty,htyx⟩:=hRA5.at hy
      have hrty:=DI hty
      have hXz':=Nw hXz
      have hps':=AH (F5 hps)
      have hyl:=Gf (show kf+1<=k' from hk1) hy
      refine ⟨_,rfl,_,rfl,_,rfl,_,rfl,_,_,_,_,rfl,rfl,(SqL.of (s5 _ _ h4p)),hXz',_,_,_,_,rfl,rfl,(SqL.of (s5 _ _ (s4 _ _ (s3 _ _ (s2 _ _ (s1 _ _ hb)))))),hps',_,_,rfl,(Qt (s5 _ _ (s4 _ _ (s3 _ _ h2d))) hdy),_,rfl,(Ah (s5 _ _ h4p)),_,rfl,_,rfl,_,_,_,_,rfl,rfl,(SqL.of (s5 _ _ (s4 _ _ (s3 _ _ (s2 _ _ h1R))))),(AH hrty),_,_,_,_,rfl,rfl,(s5 _ _ h4p),htyx,(DT (by simp <;> lia)),?_⟩
      refine ⟨rs.length - k',by have:=(ZB.mp hy).1;lia,k',f',y,X++y,X,rfl,Same.set (s4.trans s5) hpl,?_,hy,by lia,hf',rfl,?_,?_,rfl⟩
      .rw [A2,C0]
      .rw [hch,hch',hX,List.append_assoc]
      .rw [List.length_append]
       lia
     .have hstop:Bm row rs fu xf=xf:=Mu fun z' e h1 h2 h3=>by
       rw [hz] at h1
       cases h1
       rw [Ai hez] at h2
       rw [h2,h3] at de
       cases de
      rw [hstop,<-hX] at hch
      have hXh:X.head?=some a0:=by
       obtain ⟨t,ht⟩:=M8 (row:=row) (rs:=rs) (f:=rs.length) (hne x (ZD hx))
       rw [<-hch,ht,List.head?_append,ha0]
       rfl
      obtain ⟨v0,hv0⟩:∃ v,((Ad row (m0 bs)).map Prod.fst)[a0]?=some v:=⟨_,ZA (by
       rw [<-hnl]
       exact (ZB.mp he0).1)⟩
      have hlv0:DX row bs a0=v0:=by
       rw [<-LS]
       exact Ai hv0
      have hlz:DX row bs z=DX row bs a0:=G.chain_lv (f:=rs.length) (hrs▸hx) (Al ha0) (by
       rw [hrs,hch]
       exact BU hXz)
      have hed:=Pe l bs (k:=i) (kf:=kf) (a:=a0) (z:=z) (x:=x) (xf:=xf) (X:=X)
      rw [hrow,hrs] at hed
      have hed:=hed hx ha0 hXh hxf hz hXz hlz fun e h1 h2=>by
       rw [Ai hez] at h1
       rw [h1,h2] at de
       cases de
      rw [hlv0,Ai hez] at hed
      have hX0:=Eb hXh
      have hXm:=Nw hXz
      have hRA5:=hRA4.same s5
      refine ⟨_,rfl,_,rfl,_,_,_,_,rfl,rfl,(SqL.of (s5 _ _ h4p)),hX0,_,_,_,_,rfl,rfl,(SqL.of (s5 _ _ (s4 _ _ (s3 _ _ (s2 _ _ (s1 _ _ hc)))))),(AH (AR hv0)),_,rfl,_,rfl,_,rfl,_,rfl,_,rfl,_,_,_,_,_,_,_,rfl,(s5 _ _ (s4 _ _ (s3 _ _ (s2 _ _ h1R)))),hRA5,(s5 _ _ (s4 _ _ (s3 _ _ (s2 _ _ (s1 _ _ hc))))),hi,hheads,_,_,rfl,_,rfl,_,rfl,_,rfl,_,_,_,_,rfl,rfl,(SqL.of (s5 _ _ h4p)),hXm,_,_,_,_,rfl,rfl,(SqL.of (s5 _ _ (s4 _ _ (s3 _ _ (s2 _ _ (s1 _ _ ha)))))),(AH (AR hez)),_,rfl,fun H6 s6=>⟨_,rfl,?_⟩⟩
      have hRA6:=hRA5.same s6
      rw [<-LS] at hed
      generalize hBf:(if i=0 then bs else ((Ad row (m0 bs)).map Prod.fst).getD ((rs.getD (i - 1) []).headD 0) 0)=Bf at *
      generalize hBh:(if kf+1=rs.length then bs else ((Ad row (m0 bs)).map Prod.fst).getD ((rs.getD (kf+1) []).headD 0) 0)=Bh at *
      refine ⟨fun v H'=>v=NV (if Dr.isIso ez=true then bs else Bh)/\H6=H',?_,?_⟩
      .have hkf:=(ZB.mp hxf).1
       refine ⟨_,rfl,_,rfl,?_⟩
       walk_at "?di"
       .refine ⟨_,rfl,by rw [if_pos di],?_⟩
        rfl
       .refine ⟨_,rfl,_,rfl,_,rfl,_,rfl,_,_,_,_,_,_,_,rfl,(s6 _ _ (s5 _ _ (s4 _ _ (s3 _ _ (s2 _ _ h1R))))),hRA6,(s6 _ _ (s5 _ _ (s4 _ _ (s3 _ _ (s2 _ _ (s1 _ _ hc)))))),hkf,hheads,by
         rw [hBh]
         simp only [di,Bool.false_eq_true,if_false],?_⟩
        rfl
      rintro _ _ ⟨rfl,rfl⟩
      have hssl:=hSA.len
      have hsl2:((rs.take i).filter (D5 row)).length<=1000:=by
       have h1:=List.length_filter_le (D5 row) (rs.take i)
       rw [List.length_take] at h1
       lia
      rw [ZE] at hssl
      refine ⟨_,_,rfl,_,rfl,(Ah (s6 _ _ (s5 _ _ (s4 _ _ h3S)))),_,rfl,_,rfl,_,rfl,_,rfl,_,rfl,_,rfl,fun y dy ny ndy ney=>⟨_,_,_,_,_,_,rfl,A2,fun H7 h7 k7=>⟨rfl,_,_,_,rfl,rfl,(k7 _ _ (A6 (A6 (s6 _ _ (s5 _ _ (s4 _ _ h3S))) (A1 (s6 _ _ (s5 _ _ (s4 _ _ h3S))) ndy)) (A1 (s6 _ _ (s5 _ _ (s4 _ _ h3S))) ny)) (A1 (s6 _ _ (s5 _ _ (s4 _ _ h3S))) ny)),(DT (by simp <;> lia)),?_⟩⟩⟩
      have hpS:pl≠S:=(A1 h3S hpl).symm
      have hyS:y≠S:=(A1 (s6 _ _ (s5 _ _ (s4 _ _ h3S))) ny).symm
      have hH:Same H3 H7:=Same.kept (Same.set (Same.set ((s4.trans s5).trans s6) (none_of ((s4.trans s5).trans s6) ndy)) (none_of ((s4.trans s5).trans s6) ny)) (none_of ((s4.trans s5).trans s6) ny) k7
      refine ⟨_,_,_,_,_,_,_,ss++[y],rfl,Same.set (s3.trans hH) hS0,?_,?_⟩
      .rw [A2,List.map_append]
       rfl
      .rw [htake,List.filter_append,List.filter_cons_of_pos dd,List.filter_nil,List.map_append]
       refine ((hSA.same hH).lst (hH _ _ h3S)).snoc (dx:=dy) (q:=pl) ?_ ?_ hpS
       .rw [AQ hyS,h7]
        dsimp only
        rw [hch,hed]
        rfl
       .dsimp only
        rw [hch,hed]
        show upd H7 S _ pl=some (.lst (AO X))
        exact A6 (k7 _ _ (A6 (A6 (s6 _ _ (s5 _ _ h4p)) (A1 (s6 _ _ (s5 _ _ h4p)) ndy)) (A1 (s6 _ _ (s5 _ _ h4p)) ny)) (A1 (s6 _ _ (s5 _ _ h4p)) ny)) hpS
   .obtain ⟨v6,v8,v9,v10,v11,v12,v13,ss,rfl,s3,h3S,hSA⟩:=h
    refine ⟨_,rfl,?_⟩
    refine q H3 S ss ((s1.trans s2).trans s3) (none_of (s1.trans s2) hS0) h3S ?_
    rw [List.take_of_length_le (by simp;lia)] at hSA
    unfold Ay GA
    rw [hrs,List.map_map]
    exact hSA
end
abbrev FD:Stmt:=top 42
theorem sc_topmost_of:AB ["waiting","brackets","number","height"] ["waiting","brackets","number"] (A8 FD):=⟨rfl,rfl,rfl,by decide +kernel,rfl,by decide +kernel,by decide +kernel⟩
abbrev GJ:Stmt:=top 43
theorem sc_pairs_of:AB ["kinds","brackets","waiting","pairs","k","height"] ["kinds","brackets"] (A8 GJ):=⟨rfl,rfl,rfl,by decide +kernel,rfl,by decide +kernel,by decide +kernel⟩
abbrev EM:Stmt:=top 44
theorem sc_side_before:AB ["kinds","place","before","k","side"] ["kinds","place","before"] (A8 EM):=⟨rfl,rfl,rfl,by decide +kernel,rfl,by decide +kernel,by decide +kernel⟩
abbrev Cj:Stmt:=top 45
theorem sc_side_of_pair:AB ["kinds","pair","level","before","own","other","within","kind"] ["kinds","pair","level","before"] (A8 Cj):=⟨rfl,rfl,rfl,by decide +kernel,rfl,by decide +kernel,by decide +kernel⟩
abbrev Cy:Stmt:=top 46
theorem sc_change_bracket:AB ["kinds","first_kinds","place","side","k"] ["kinds","first_kinds","place","side"] (A8 Cy):=⟨rfl,rfl,rfl,by decide +kernel,rfl,by decide +kernel,by decide +kernel⟩
abbrev Cn:Stmt:=top 47
theorem sc_settle_brackets:AB ["kinds","first_kinds","brackets","level","before","pair","side"] ["kinds","first_kinds","brackets","level","before"] (A8 Cn):=⟨rfl,rfl,rfl,by decide +kernel,rfl,by decide +kernel,by decide +kernel⟩
noncomputable def BrV (H:Hp) (v:V):Option (Nat×Bool)->Prop
 | none=>v=.non
 | some (k,o)=>∃ t,v=.ref t/\H t=some (.tup [NV k,NV (Q8 o)])
structure BrAt (H:Hp) (vs:List V) (brs:List (Option (Nat×Bool))):Prop where
 len:vs.length=brs.length
 get:∀ (i:Nat) (v:V) (b:Option (Nat×Bool)),vs[i]?=some v->brs[i]?=some b->BrV H v b
theorem BrV.mono {H H':Hp} {v:V} {b:Option (Nat×Bool)} (h:BrV H v b) (k:∀ t xs,H t=some (.tup xs)->H' t=some (.tup xs)):BrV H' v b:=by
 cases b with
 | none=>exact h
 | some x =>
  obtain ⟨t,e,h⟩:=h
  exact ⟨t,e,k _ _ h⟩
theorem BrAt.mono {H H':Hp} {vs:List V} {brs:List (Option (Nat×Bool))} (p:BrAt H vs brs) (k:∀ t xs,H t=some (.tup xs)->H' t=some (.tup xs)):BrAt H' vs brs:=⟨p.len,fun i v b h1 h2=>(p.get i v b h1 h2).mono k⟩
theorem BrAt.same {H H':Hp} {vs:List V} {brs:List (Option (Nat×Bool))} (p:BrAt H vs brs) (s:Same H H'):BrAt H' vs brs:=p.mono fun t xs h=>s _ _ h
theorem BrAt.at {H:Hp} {vs:List V} {brs:List (Option (Nat×Bool))} (p:BrAt H vs brs) {i:Nat} {b:Option (Nat×Bool)} (h:brs[i]?=some b):∃ v,vs[i]?=some v/\BrV H v b:=by
 have hl:=(ZB.mp h).1
 have hl2:i<vs.length:=by rw [p.len];exact hl
 exact ⟨vs[i],ZA hl2,p.get i _ b (ZA hl2) h⟩
theorem MI {a:Addr} {H H':Hp} {xs:List V} (k:Keep a H H') (h:H a=some (.lst xs)):∀ t ys,H t=some (.tup ys)->H' t=some (.tup ys):=fun t ys e=>k _ _ e (AW e h nofun)
section
variable {P:Program} {w:World} {K:PySem.W.Frag} {mg:Str->Option Value} {base:Heap}
noncomputable def La (pile:List (Nat×Nat)) (n:Nat):Option Nat:=(pile.findIdx? fun x=>x.1==n).map fun j=>pile.length - 1 - j
noncomputable def spTopm:Sp:=fun vs H Q _=>∃ (a b:Addr) (pile:List (Nat×Nat)) (vb:List V) (brs:List (Option (Nat×Bool))) (n:Nat),vs=[.ref a,.ref b,NV n]/\H a=some (.lst (AO (pile.map Prod.snd).reverse))/\H b=some (.lst vb)/\BrAt H vb brs /\
 (∀ x∈pile,brs[x.2]?=some (some (x.1,true)))/\pile.length<=63/\Q (oV (La pile n)) H
theorem K5 (D:Dfn K mg "topmost_of" FD ["waiting","brackets","number"]) (T:BX mg):Ak P w K mg base 1 "topmost_of" ["waiting","brackets","number"] spTopm:=by
 refine D.ok sc_topmost_of (fun vs H Q E h=>?_) (fun f cdv A outer s H vs Q E hr h=>?_)
 .obtain ⟨a,b,pile,vb,brs,n,rfl,_⟩:=h
  rfl
 .obtain ⟨a,b,pile,vb,brs,n,rfl,ha,hb,hB,hp,hl,q⟩:=h
  refine ⟨_,(A3 (Ao PassesOwn.never rfl (Bz rfl T.b_range (A0 (Ab Dn (AM (AK (K:=K) rfl) (by rfl) T.b_len PySem.boot_len (A0 (pv 0) A4)) A7) (A0 (BQ Av A7) (A0 (BQ Av A7) A4)))) (AS (i:=3) sc_topmost_of.nd rfl (Or.inl rfl))
   (A5 (AU (AA Af (AE (An (K:=K) rfl) (AE (A9 (K:=K) rfl) (pv 1) (AE (A9 (K:=K) rfl) (pv 0) (pv 3) (fun _ _=>rfl)) (fun _ _=>rfl)) A7 (fun _ _=>rfl)) (pv 2) (AG _))
    (A5 (AD (pv 3)))
    AJ)))
   (A5 (AD BG))),?_⟩
  refine ⟨_,rfl,_,_,rfl,(Bn ha),_,_,rfl,rfl,_,rfl,_,rfl,_,_,_,_,rfl,HH (by simp;lia) (by simp;lia),?_⟩
  skip
  refine HD rfl (fun i σ H'=>Bk (∃ v3:Option V,σ=[some (.ref a),some (.ref b),some (NV n),v3]/\H=H'/\∀ (j:Nat) (x:Nat×Nat),j<i->pile[j]?=some x->x.1≠n)) ?_ (fun i σ H2 hi h=>?_) (fun σ H2 h=>?_)
  .exact ⟨_,rfl,rfl,fun j x h=>by lia⟩
  .obtain ⟨v3,rfl,rfl,hno⟩:=h
   simp at hi
   have hi:i<pile.length:=by lia
   obtain ⟨x,hx⟩:∃ x,pile[i]?=some x:=⟨_,ZA hi⟩
   have hxm:=hp x (ZD hx)
   obtain ⟨v,hv,t,rfl,ht⟩:=hB.at hxm
   have e1:(pile.map Prod.snd).reverse[(((AO (pile.map Prod.snd).reverse).length:Int) - 1+1).toNat - 1 - i]?=some x.2:=by
    rw [List.getElem?_reverse (by simp;lia),List.getElem?_map]
    simp
    rw [show pile.length - 1 - (pile.length - 1 - i)=i by lia,hx]
    exact ⟨_,rfl⟩
   refine ⟨_,rfl,_,rfl,_,rfl,_,_,_,_,rfl,rfl,(SqL.of ha),(AH (AR e1)),_,_,_,_,rfl,rfl,(SqL.of hb),(AH hv),_,_,_,_,rfl,rfl,(SqT.of ht),rfl,_,rfl,rfl,_,rfl,?_⟩
   walk_at "?d"
   .refine ⟨_,rfl,?_⟩
    have e2:La pile n=some ((((AO (pile.map Prod.snd).reverse).length:Int) - 1+1).toNat - 1 - i):=by
     unfold La
     have:(pile.findIdx? fun x=>x.1==n)=some i:=by
      rw [List.findIdx?_eq_some_iff_getElem]
      obtain ⟨h1,h2⟩:=ZB.mp hx
      refine ⟨h1,by rw [h2];simpa using d,fun j hj=>?_⟩
      have:=hno j pile[j] hj (ZA _)
      simpa using this
     rw [this]
     simp
    rw [e2] at q
    exact q
   .skip
    refine ⟨_,rfl,rfl,fun j y hj hy=>?_⟩
    by_cases e:j=i
    .subst e
     rw [hx] at hy
     cases hy
     exact d
    .exact hno j y (by lia) hy
  .obtain ⟨v3,rfl,rfl,hno⟩:=h
   skip
   have:La pile n=none:=by
    unfold La
    rw [List.findIdx?_eq_none_iff.mpr]
    .rfl
    intro x hx
    obtain ⟨j,hj⟩:=List.mem_iff_getElem?.mp hx
    have:=hno j x (by have:=(ZB.mp hj).1;simp;lia) hj
    simpa using this
   rw [this] at q
   exact q
theorem Sx (xs:List V) {k:Nat} (h:k<=xs.length):Hi xs none (some (k:Int))=xs.take k:=by
 unfold Hi
 rw [HT.sIx_none,HT.sIx_nat,List.drop_zero,Nat.sub_zero,Nat.min_eq_left h]
theorem Iy (xs:List V) {i j:Nat} (h:i<=j) (hj:j<=xs.length):Hi xs (some (i:Int)) (some (j:Int))=(xs.take j).drop i:=by
 unfold Hi
 rw [HT.sIx_nat,HT.sIx_nat,Nat.min_eq_left hj,Nat.min_eq_left (Nat.le_trans h hj),List.drop_take]
theorem Fm (l:List Nat) (k:Nat):(AO l).take k=AO (l.take k):=List.map_take.symm
theorem Gu (l:List Nat) (k:Nat):(AO l).drop k=AO (l.drop k):=List.map_drop.symm
theorem QX (pile:List (Nat×Nat)) {j:Nat} (h:j<pile.length):Hi (AO (pile.map Prod.snd).reverse) none (some ((pile.length - 1 - j:Nat):Int))=AO ((pile.drop (j+1)).map Prod.snd).reverse:=by
 rw [Sx _ (by simp;lia),Fm]
 congr 1
 rw [List.take_reverse,ZE,show pile.length - (pile.length - 1 - j)=j+1 by lia,List.map_drop]
noncomputable def spPrs:Sp:=fun vs H Q _=>∃ (a b:Addr) (l:List Nat) (vb:List V) (brs:List (Option (Nat×Bool))),vs=[.ref a,.ref b]/\H a=some (.lst (AO l))/\H b=some (.lst vb)/\BrAt H vb brs/\l.length=brs.length/\l.length<=1000 /\
 ∀ (H':Hp) (r:Addr) (ts:List Addr),Same H H'->H r=none->H' r=some (.lst (ts.map V.ref))->PairsAt H' ts (prs l brs)->Q (.ref r) H'
theorem ML (D:Dfn K mg "pairs_of" GJ ["kinds","brackets"]) (T:BX mg) (C_topmost_of:Ak P w K mg base 1 "topmost_of" ["waiting","brackets","number"] spTopm):Ak P w K mg base 2 "pairs_of" ["kinds","brackets"] spPrs:=by
 refine D.ok sc_pairs_of (fun vs H Q E h=>?_) (fun f cdv A outer s H vs Q E hr h=>?_)
 .obtain ⟨a,b,l,vb,brs,rfl,_⟩:=h
  rfl
 .obtain ⟨a,b,l,vb,brs,rfl,ha,hb,hB,hlb,hl,q⟩:=h
  refine ⟨_,(A3 (AF (i:=2) sc_pairs_of.nd rfl (Or.inl rfl) (Ac A4))
   (A3 (AF (i:=3) sc_pairs_of.nd rfl (Or.inl rfl) (Ac A4))
   (A3 (Ao PassesOwn.never rfl (B9 rfl T.b_range (A0 (AM (AK (K:=K) rfl) (by rfl) T.b_len PySem.boot_len (A0 (pv 0) A4)) A4)) (AS (i:=4) sc_pairs_of.nd rfl (Or.inl rfl))
   (A3 (AU (JQ (AA ME (AE (A9 (K:=K) rfl) (pv 0) (pv 4) (fun _ _=>rfl)) (B4 T.c_ON) (AG _)) (GI (AA K3 (AE (A9 (K:=K) rfl) (pv 1) (pv 4) (fun _ _=>rfl)) BG (AG _)))).pt
    (A5 Ca)
    AJ)
    (A3 (AU (AA Af (AE (An (K:=K) rfl) (AE (A9 (K:=K) rfl) (pv 1) (pv 4) (fun _ _=>rfl)) A7 (fun _ _=>rfl)) A7 (AG _))
    (A3 (AU (AA Af (AM (AK (K:=K) rfl) (by rfl) T.b_len PySem.boot_len (A0 (pv 2) A4)) (B4 T.c_MOST_WAITING) (AG _))
     (A5 (AD (Ac A4)))
     AJ)
     (A3 (AX (Ck PySem.F.plainAttrs_list PySem.F.slot_list_append PySem.F.type_list_append BP (pv 2) (A0 (pv 4) A4)))
     (A5 Ca)))
    AJ)
    (A3 (AF (i:=5) sc_pairs_of.nd rfl (Or.inl rfl) (BI C_topmost_of hr (A0 (pv 2) (A0 (pv 1) (A0 (AE (An (K:=K) rfl) (AE (A9 (K:=K) rfl) (pv 1) (pv 4) (fun _ _=>rfl)) A7 (fun _ _=>rfl)) A4)))))
    (A5 (AU (AA Ev (pv 5) BG (AG _))
    (A3 (AX (Ck PySem.F.plainAttrs_list PySem.F.slot_list_append PySem.F.type_list_append BP (pv 3) (A0 (Bq (A0 (AE (A9 (K:=K) rfl) (pv 2) (pv 5) (fun _ _=>rfl)) (A0 (pv 4) A4))) A4)))
     (A5 (AF (i:=2) sc_pairs_of.nd rfl (Or.inl rfl) (Ek (Eo (K:=K) rfl) (pv 2) S7 (CC (pv 5))))))
    AJ))))))
   (A5 (AD (AM NS (by rfl) T.b_sorted PyProof.Rows.boot_sorted (A0 (pv 3) A4))))))),?_⟩
  refine ⟨(BL rfl),fun w0 hw0=>⟨(BL rfl),fun pr hpr=>⟨_,rfl,_,_,rfl,(Bn (A6 (A6 ha (A1 ha hw0)) (A1 (A6 ha (A1 ha hw0)) hpr))),_,rfl,(by lia),(by simp only [nVs_len] <;> lia),?_⟩⟩⟩
  refine BC (fun i σ H'=>Bk (∃ (v4 v5:Option V) (wt:Addr) (pile ps:List (Nat×Nat)) (ts:List Addr),σ=[some (.ref a),some (.ref b),some (.ref wt),some (.ref pr),v4,v5]/\Same H H'/\H wt=none/\wt≠pr/\H' wt=some (.lst (AO (pile.map Prod.snd).reverse)) /\
    H' pr=some (.lst (ts.map V.ref))/\PairsAt H' ts ps/\BrInv l brs i pile ps/\ps.length<=i)) ?_ (fun i σ H2 hi h=>?_) (fun σ H2 h=>?_)
  .exact ⟨_,_,w0,[],[],[],rfl,Same.set (Same.set (Same.refl _) hw0) (none_of (Same.set (Same.refl _) hw0) hpr),hw0,A1 A2 hpr,A6 A2 (A1 A2 hpr),A2,PairsAt.nil _,BrInv.start l brs,Nat.le_refl _⟩
  .obtain ⟨v4,v5,wt,pile,ps,ts,rfl,s2,hwN,hwp,h2w,h2p,hPA,I,hpsl⟩:=h
   have hprN:H pr=none:=none_of (Same.set (Same.refl _) hw0) hpr
   rw [nVs_len] at hi
   have hi:i<l.length:=by lia
   obtain ⟨c,hc⟩:∃ c,l[i]?=some c:=⟨_,ZA hi⟩
   obtain ⟨o,ho⟩:∃ o,brs[i]?=some o:=⟨_,ZA (by lia)⟩
   have hB2:=hB.same s2
   obtain ⟨v,hv,hbv⟩:=hB2.at ho
   have hple:=I.le
   refine ⟨_,rfl,_,rfl,_,_,_,_,rfl,rfl,(SqL.of (s2 _ _ ha)),(AH (AR hc)),rfl,_,rfl,?_⟩
   walk_at "?d"
   .skip
    exact ⟨_,_,wt,pile,ps,ts,rfl,s2,hwN,hwp,h2w,h2p,hPA,I.skip hc ho (.inl d),by lia⟩
   .subst d
    cases o with
    | none =>
     have e:v=.non:=hbv
     subst e
     refine ⟨_,rfl,_,rfl,_,_,_,_,rfl,rfl,(SqL.of (s2 _ _ hb)),(AH hv),rfl,_,rfl,?_⟩
     exact ⟨_,_,wt,pile,ps,ts,rfl,s2,hwN,hwp,h2w,h2p,hPA,I.skip hc ho (.inr rfl),by lia⟩
    | some ko =>
     obtain ⟨k,op⟩:=ko
     obtain ⟨t,rfl,ht⟩:=hbv
     refine ⟨_,rfl,_,rfl,_,_,_,_,rfl,rfl,(SqL.of (s2 _ _ hb)),(AH hv),rfl,_,rfl,⟨_,rfl,_,rfl,_,_,_,_,rfl,rfl,(SqL.of (s2 _ _ hb)),(AH hv),_,_,_,_,rfl,rfl,(SqT.of ht),rfl,rfl,_,rfl,?_⟩⟩
     cases op with
     | true =>
      refine ⟨_,rfl,_,_,rfl,(Bn h2w),rfl,_,rfl,?_⟩
      walk_at "?d2"
      .refine ⟨(BL rfl),fun r hr0=>?_⟩
       have e:=I.full hc ho (by simp at d2;lia)
       refine q _ r [] (Same.set s2 (none_of s2 hr0)) (none_of s2 hr0) A2 ?_
       rw [e]
       exact PairsAt.nil _
      .refine ⟨_,rfl,(Ah h2w),_,rfl,_,_,_,rfl,rfl,h2w,(DT (by simp <;> lia)),?_⟩
       refine ⟨_,_,wt,(k,i)::pile,ps,ts,rfl,Same.set s2 hwN,hwN,hwp,?_,A6 h2p hwp.symm,hPA.lst h2w,I.opens hc ho (by simp at d2;lia),by lia⟩
       rw [A2]
       simp [C0]
       rfl
     | false =>
      have hpb:∀ x∈pile,brs[x.2]?=some (some (x.1,true)):=fun x hx=>(I.pl x hx).2
      refine ⟨_,rfl,_,rfl,_,rfl,_,rfl,_,_,_,_,rfl,rfl,(SqL.of (s2 _ _ hb)),(AH hv),_,_,_,_,rfl,rfl,(SqT.of ht),rfl,_,_,_,_,_,_,rfl,h2w,(s2 _ _ hb),hB2,hpb,hple,_,rfl,rfl,_,rfl,?_⟩
      cases hf:(pile.findIdx? fun x=>x.1==k) with
      | none =>
       have e:La pile k=none:=by unfold La;rw [hf];rfl
       rw [e]
       skip
       exact ⟨_,_,wt,pile,ps,ts,rfl,s2,hwN,hwp,h2w,h2p,hPA,I.lone hc ho hf,by lia⟩
      | some j =>
       have e:La pile k=some (pile.length - 1 - j):=by unfold La;rw [hf];rfl
       rw [e]
       have hj:j<pile.length:=(List.findIdx?_eq_some_iff_getElem.mp hf).1
       obtain ⟨x,hx⟩:∃ x,pile[j]?=some x:=⟨_,ZA hj⟩
       have hxp:(pile.map Prod.snd).reverse[pile.length - 1 - j]?=some x.2:=by
        rw [List.getElem?_reverse (by simp;lia),List.getElem?_map,ZE,show pile.length - 1 - (pile.length - 1 - j)=j by lia,hx]
        rfl
       have htl:=hPA.len
       refine ⟨_,rfl,(Ah h2p),_,rfl,_,rfl,_,_,_,_,rfl,rfl,(SqL.of h2w),(AH (AR hxp)),_,rfl,(BL rfl),fun tt htt=>⟨_,_,_,rfl,rfl,(A6 h2p (A1 h2p htt)),(DT (by simp <;> lia)),_,rfl,_,rfl,_,rfl,_,_,rfl,(SqL.of (A6 (A6 h2w (A1 h2w htt)) hwp)),fun w2 hw2=>?_⟩⟩
       rw [QX pile hj]
       have hw2N:H w2=none:=none_of (Same.set (Same.set s2 (none_of s2 htt)) hprN) hw2
       have hw2p:w2≠pr:=(A1 A2 hw2).symm
       have htp:tt≠pr:=(A1 h2p htt).symm
       have htw:tt≠w2:=A1 (A6 A2 htp) hw2
       refine ⟨_,_,w2,pile.drop (j+1),ps++[(x.2,i)],ts++[tt],rfl,Same.set (Same.set (Same.set s2 (none_of s2 htt)) hprN) hw2N,hw2N,hw2p,A2,?_,?_,I.closes hc ho hf (by rw [hx];rfl),by simp;lia⟩
       .rw [AQ hw2p.symm,A2,List.map_append]
        rfl
       .refine (((hPA.same (Same.upd htt)).lst (A6 h2p htp.symm)).same (Same.upd hw2)).snoc (t:=tt) (x:=(x.2,i)) ?_
        exact A6 (A6 A2 htp) htw
  .obtain ⟨v4,v5,wt,pile,ps,ts,rfl,s2,hwN,hwp,h2w,h2p,hPA,I,hpsl⟩:=h
   obtain ⟨e,nd⟩:=I.done (by rw [List.length_zip];simp;lia)
   refine ⟨_,rfl,_,_,_,rfl,(SqL.of h2p),hPA,fun ts' ps' r hperm hsort hPA' hr0=>?_⟩
   refine q _ r ts' (Same.set s2 (none_of s2 hr0)) (none_of s2 hr0) A2 ?_
   rw [e,<-PF hperm nd hsort]
   exact hPA'.same (Same.upd hr0)
noncomputable def spSideBf:Sp:=fun vs H Q _=>∃ (a:Addr) (l:List Nat) (p bf:Nat),vs=[.ref a,NV p,NV bf]/\H a=some (.lst (AO l))/\GF (fun c=>Co c=true) l/\p<=l.length/\l.length<=1000/\∀ H',Same H H'->Q (NV (Ch l p bf)) H'
theorem Je (D:Dfn K mg "side_before" EM ["kinds","place","before"]) (T:BX mg) (C_side_of:Ak P w K mg base 1 "side_of" ["kind"] spSide):Ak P w K mg base 2 "side_before" ["kinds","place","before"] spSideBf:=by
 refine D.ok sc_side_before (fun vs H Q E h=>?_) (fun f cdv A outer s H vs Q E hr h=>?_)
 .obtain ⟨a,l,p,bf,rfl,_⟩:=h
  rfl
 .obtain ⟨a,l,p,bf,rfl,ha,hf,hpl,hl,q⟩:=h
  refine ⟨_,(A3 (Ao PassesOwn.never rfl (Bz rfl T.b_range (A0 (Ab Dn (pv 1) A7) (A0 (BQ Av A7) (A0 (BQ Av A7) A4)))) (AS (i:=3) sc_side_before.nd rfl (Or.inl rfl))
   (A3 (AF (i:=4) sc_side_before.nd rfl (Or.inl rfl) (BI C_side_of hr (A0 (AE (A9 (K:=K) rfl) (pv 0) (pv 3) (fun _ _=>rfl)) A4)))
    (A5 (AU (AA Ev (pv 4) BG (AG _))
    (A5 (AD (pv 4)))
    AJ))))
   (A5 (AD (pv 2)))),?_⟩
  refine ⟨_,rfl,_,_,rfl,rfl,_,rfl,_,rfl,_,_,_,_,rfl,HH (by lia) (by lia),?_⟩
  skip
  refine HD rfl (fun i σ H'=>Bk (∃ v3 v4:Option V,σ=[some (.ref a),some (NV p),some (NV bf),v3,v4]/\Same H H'/\Ch l p bf=Ch l (p - i) bf)) ?_ (fun i σ H2 hi h=>?_) (fun σ H2 h=>?_)
  .exact ⟨_,_,rfl,Same.refl _,rfl⟩
  .obtain ⟨v3,v4,rfl,s2,he⟩:=h
   have hi:i<p:=by lia
   have ek:((p:Int) - 1+1).toNat - 1 - i=p - (i+1):=by lia
   rw [ek]
   obtain ⟨c,hc⟩:∃ c,l[p - (i+1)]?=some c:=⟨_,ZA (by lia)⟩
   have hfc:=hf c (ZD hc)
   have hsd:=Ly hfc
   rw [show p - i=(p - (i+1))+1 by lia] at he
   refine ⟨_,rfl,_,rfl,_,_,_,_,rfl,rfl,(SqL.of (s2 _ _ ha)),(AH (AR hc)),_,rfl,fun H3 s3=>⟨_,rfl,rfl,_,rfl,?_⟩⟩
   rw [hsd]
   cases hd:Dr.dirOf c with
   | none =>
    skip
    exact ⟨_,_,rfl,s2.trans s3,by rw [he,QR hc hd]⟩
   | some x =>
    refine ⟨_,rfl,?_⟩
    rw [he,Pt hc hd] at q
    exact q _ (s2.trans s3)
  .obtain ⟨v3,v4,rfl,s2,he⟩:=h
   refine ⟨_,rfl,?_⟩
   rw [he,show p - ((p:Int) - 1+1).toNat=0 by lia,O0] at q
   exact q _ s2
theorem OZ (x:Nat) (seg:List Nat) (h:GF (fun c=>Co c=true) seg):NK (NV x) (J0 (seg.map Ci))=(seg.filterMap Dr.dirOf).contains x:=by
 induction seg with
 | nil=>rfl
 | cons c seg ih =>
  have ih:=ih fun d hd=>h d (.tail _ hd)
  have hsd:=Ly (h c (.head _))
  show (PL (oV (Ci c)) (NV x) || NK (NV x) (J0 (seg.map Ci)))=_
  rw [ih,hsd]
  cases hd:Dr.dirOf c with
  | none =>
   rw [List.filterMap_cons_none hd]
   rfl
  | some y =>
   rw [List.filterMap_cons_some hd,List.contains_cons]
   congr 1
   show ((y:Int)==(x:Int))=(x==y)
   by_cases e:x=y
   .subst e;simp
   .have:¬(y:Int)=(x:Int):=by lia
    rw [beq_eq_false_iff_ne.mpr this,beq_eq_false_iff_ne.mpr e]
theorem MB (l:List (Option Nat)):(J0 l).all EH=true:=by
 rw [List.all_eq_true]
 intro v hv
 obtain ⟨o,_,rfl⟩:=List.mem_map.mp hv
 cases o <;> rfl
noncomputable def spSideP:Sp:=fun vs H Q _=>∃ (a t:Addr) (l:List Nat) (p:Nat×Nat) (n bf:Nat),vs=[.ref a,.ref t,NV n,NV bf]/\H a=some (.lst (AO l))/\H t=some (.tup [NV p.1,NV p.2])/\GF (fun c=>Co c=true) l/\p.1<p.2/\p.2<l.length/\l.length<=1000 /\
 ∀ H',Same H H'->Q (oV (DL (n % 2) bf l p)) H'
theorem Io (D:Dfn K mg "side_of_pair" Cj ["kinds","pair","level","before"]) (T:BX mg) (C_side_of:Ak P w K mg base 1 "side_of" ["kind"] spSide) (C_side_of_level:Ak P w K mg base 1 "side_of_level" ["level"] spSol)
  (C_side_before:Ak P w K mg base 2 "side_before" ["kinds","place","before"] spSideBf):Ak P w K mg base 3 "side_of_pair" ["kinds","pair","level","before"] spSideP:=by
 refine D.ok sc_side_of_pair (fun vs H Q E h=>?_) (fun f cdv A outer s H vs Q E hr h=>?_)
 .obtain ⟨a,t,l,p,n,bf,rfl,_⟩:=h
  rfl
 .obtain ⟨a,t,l,p,n,bf,rfl,ha,ht,hf,hp1,hp2,hl,q⟩:=h
  refine ⟨_,(A3 (AF (i:=4) sc_side_of_pair.nd rfl (Or.inl rfl) (BI C_side_of_level hr (A0 (pv 2) A4)))
   (A3 (AF (i:=5) sc_side_of_pair.nd rfl (Or.inl rfl) (EU (Aw (AA Af (pv 4) (B4 T.c_R) (AG _)) (B4 T.c_L) (B4 T.c_R))))
   (A3 (Cd (i:=6) rfl sc_side_of_pair.nd rfl rfl (Dc rfl rfl (by decide +kernel) (by decide +kernel)) (B6 (Ek (Eo (K:=K) rfl) (pv 0) (CC (Ab Ag (AE (An (K:=K) rfl) (pv 1) A7 (fun _ _=>rfl)) A7)) (CC (AE (An (K:=K) rfl) (pv 1) A7 (fun _ _=>rfl))))) (own:=[("kind",7)]) (BE (show FK ["kinds","pair","level","before","own","other","within","kind"] (A8 Cj) _ [("kind",7)]=true from by decide +kernel)) (fun _ _ _ _ _=>(AS (i:=7) sc_side_of_pair.nd rfl (Or.inl rfl))) (fun _ _ _ _ _=>Ba) (fun _ _ _ _ _=>(BI C_side_of hr (A0 (pv 7) A4))))
   (A3 (AU (AA B8 (pv 4) (pv 6) (by with_unfolding_all rfl))
   (A5 (AD (pv 4)))
   AJ)
   (A3 (AU (AA B8 (pv 5) (pv 6) (by with_unfolding_all rfl))
   (A5 (AD (BI C_side_before hr (A0 (pv 0) (A0 (AE (An (K:=K) rfl) (pv 1) A7 (fun _ _=>rfl)) (A0 (pv 3) A4))))))
   AJ)
   (A5 (AD BG))))))),?_⟩
  refine ⟨_,rfl,_,rfl,?_⟩
  refine ⟨fun v H'=>v=NV (1 - n % 2)/\H=H',?_,?_⟩
  .refine ⟨_,rfl,rfl,_,rfl,?_⟩
   walk_at "?d"
   .refine ⟨by rw [d],?_⟩
    rfl
   .refine ⟨by rw [show n % 2=0 by lia],?_⟩
    rfl
  rintro _ _ ⟨rfl,rfl⟩
  refine ⟨_,rfl,_,rfl,_,_,_,_,rfl,rfl,(SqT.of ht),rfl,_,_,rfl,rfl,_,rfl,_,rfl,_,_,_,_,rfl,rfl,(SqT.of ht),rfl,_,rfl,_,_,rfl,(SqL.of ha),fun sg hsg=>⟨_,rfl,(Ee A2),fun D2 hD2=>?_⟩⟩
  have ec:Hi (AO l) (some ((p.1:Int)+1)) (some (p.2:Int))=AO ((l.take p.2).drop (p.1+1)):=by
   have:=Iy (AO l) (i:=p.1+1) (j:=p.2) (by lia) (by rw [nVs_len];lia)
   rw [Fm,Gu] at this
   exact this
  rw [ec] at hD2 ⊢
  have hfs:GF (fun c=>Co c=true) ((l.take p.2).drop (p.1+1)):=fun c hc=>hf c (List.mem_of_mem_take (List.mem_of_mem_drop hc))
  have hsl:((l.take p.2).drop (p.1+1)).length<=1000:=by simp;lia
  have hwt:=O8 (l:=l) (p:=p) (e:=n % 2) (by lia)
  unfold DL at q
  have hwi:CG l p=((l.take p.2).drop (p.1+1)).filterMap Dr.dirOf:=rfl
  rw [hwi] at q hwt
  generalize (l.take p.2).drop (p.1+1)=seg at *
  refine CB (ys:=J0 (seg.map Ci)) A2 hD2 (by simp) (by simp;lia) (fun i x y H1 R F hx hy s1 k=>?_) (fun H1 s1 h1=>?_)
  .obtain ⟨c,hc,rfl⟩:=BV hx
   have hy':y=oV (Ci c):=by
    unfold J0 at hy
    rw [List.getElem?_map,List.getElem?_map,hc] at hy
    exact (ZC hy).symm
   subst hy'
   refine ⟨rfl,⟨_,rfl,_,rfl,fun H2 s2=>?_⟩⟩
   exact k _ s2
  refine ⟨_,rfl,_,rfl,_,_,rfl,(Bn h1),rfl,MB _,_,rfl,?_⟩
  rw [OZ _ _ hfs]
  walk_at "?d"
  .refine ⟨_,rfl,?_⟩
   rw [if_pos d] at q
   exact q _ (Same.trans (Same.set (Same.refl _) hsg) s1)
  .rw [if_neg (by simpa using d)] at q
   have hw:=hwt (by simpa using d)
   refine ⟨_,rfl,_,rfl,_,_,rfl,(Bn h1),rfl,MB _,_,rfl,?_⟩
   rw [OZ _ _ hfs]
   walk_at "?d2"
   .rw [d2] at hw
    rw [hw] at q
    refine ⟨_,rfl,_,rfl,_,_,_,_,rfl,rfl,(SqT.of (s1 _ _ (A6 ht (A1 ht hsg)))),rfl,_,rfl,_,_,_,_,rfl,(s1 _ _ (A6 ha (A1 ha hsg))),hf,(by lia),hl,fun H3 s3=>?_⟩
    exact q _ (Same.trans (Same.trans (Same.set (Same.refl _) hsg) s1) s3)
   .rw [d2] at hw
    rw [hw] at q
    skip
    exact q _ (Same.trans (Same.set (Same.refl _) hsg) s1)
noncomputable def spChg:Sp:=fun vs H Q _=>∃ (a b:Addr) (l first:List Nat) (p c:Nat),vs=[.ref a,.ref b,NV p,NV c]/\H a=some (.lst (AO l))/\H b=some (.lst (AO first))/\a≠b/\p<l.length/\first.length=l.length/\l.length<=1000 /\
 ∀ H',H' a=some (.lst (AO (HI first c p l)))->Keep a H H'->Q .non H'
theorem Gr (D:Dfn K mg "change_bracket" Cy ["kinds","first_kinds","place","side"]) (T:BX mg):Ak P w K mg base 1 "change_bracket" ["kinds","first_kinds","place","side"] spChg:=by
 refine D.ok sc_change_bracket (fun vs H Q E h=>?_) (fun f cdv A outer s H vs Q E hr h=>?_)
 .obtain ⟨a,b,l,first,p,c,rfl,_⟩:=h
  rfl
 .obtain ⟨a,b,l,first,p,c,rfl,ha,hb,hab,hp1,hfl,hl,q⟩:=h
  refine ⟨_,(A3 (C4 (pv 3) (C8 (pv 0) (pv 2) BD))
   (A3 (AF (i:=4) sc_change_bracket.nd rfl (Or.inl rfl) (Ab Ag (pv 2) A7))
   (A5 (DG PassesOwn.never (EO (AA Ep (pv 4) (AM (AK (K:=K) rfl) (by rfl) T.b_len PySem.boot_len (A0 (pv 0) A4)) (AG _)) (DC (AA Af (AE (A9 (K:=K) rfl) (pv 1) (pv 4) (fun _ _=>rfl)) (B4 T.c_NSM) (AG _)))).pt
   (A3 (C4 (pv 3) (C8 (pv 0) (pv 4) BD))
    (A5 (O5 (i:=4) sc_change_bracket.nd rfl (Or.inl rfl) A7 Nq))))))),?_⟩
  refine ⟨_,rfl,_,rfl,_,rfl,_,_,_,_,rfl,rfl,ha,(BR (by simp <;> lia)),_,rfl,_,_,rfl,rfl,?_⟩
  refine ⟨fun m σ H'=>Bk (∃ (k fu:Nat) (cur:List Nat),σ=[some (.ref a),some (.ref b),some (NV p),some (NV c),some (NV k)]/\Keep a H H'/\H' a=some (.lst (AO cur))/\cur.length=l.length/\l.length<=fu+k/\HI first c p l=Dr.marksBehind first c fu k cur/\m=l.length - k),
   ⟨_,p+1,l.length,l.set p c,rfl,Keep.viaU (Keep.refl _ _) (.inl rfl),?_,by simp,by lia,rfl,rfl⟩,?_⟩
  .rw [A2,Bb]
  rintro m σ H1 ⟨k,fu,cur,rfl,k1,h1,hcl,hfu,he,rfl⟩
  refine ⟨_,rfl,_,rfl,_,_,rfl,(Bn h1),_,_,rfl,rfl,_,rfl,?_⟩
  walk_at "?d"
  .rw [hcl] at d
   obtain ⟨x,hx⟩:∃ x,first[k]?=some x:=⟨_,ZA (by lia)⟩
   refine ⟨_,rfl,_,rfl,_,_,_,_,rfl,rfl,(SqL.of (k1 _ _ hb hab.symm)),(AH (AR hx)),rfl,_,rfl,?_⟩
   walk_at "?d2"
   .refine Tn ?_
    subst d2
    refine ⟨_,rfl,_,rfl,_,rfl,_,_,_,_,rfl,rfl,h1,(BR (by simp <;> lia)),_,rfl,_,_,rfl,rfl,?_⟩
    obtain ⟨fu,rfl⟩:∃ g,fu=g+1:=⟨fu - 1,by lia⟩
    refine ⟨l.length - (k+1),by lia,k+1,fu,cur.set k c,rfl,Keep.viaU (Keep.viaK (Keep.refl _ _) k1 (.inl rfl)) (.inl rfl),?_,by simp [hcl],by lia,?_,rfl⟩
    .rw [A2,Bb]
    .rw [he,Qn hx]
   .skip
    refine q H1 ?_ k1
    rw [he,M9 (fun z=>by rw [hx] at z;exact d2 (ZC z))]
    exact h1
  .skip
   refine q H1 ?_ k1
   rw [he,M9 (fun z=>by
    have:=(ZB.mp z).1
    rw [hcl] at d
    lia)]
   exact h1
noncomputable def spSetB:Sp:=fun vs H Q _=>∃ (a b e:Addr) (l first:List Nat) (vb:List V) (brs:List (Option (Nat×Bool))) (n bf:Nat),vs=[.ref a,.ref b,.ref e,NV n,NV bf]/\H a=some (.lst (AO l))/\H b=some (.lst (AO first))/\H e=some (.lst vb)/\BrAt H vb brs/\a≠b/\l.length=brs.length/\first.length=l.length /\
 GF (fun c=>Co c=true) l/\bf<2/\l.length<=1000/\∀ H',H' a=some (.lst (AO (brk (n % 2) bf brs first l)))->Keep a H H'->Q .non H'
theorem Tb (l:List Nat) (brs:List (Option (Nat×Bool))) (p:Nat×Nat) (h:p∈prs l brs) (hl:l.length=brs.length):p.1<p.2/\p.2<l.length:=by
 suffices H:∀ (i:Nat),i<=l.length->(prs l brs=[]\/∃ pile ps,BrInv l brs i pile ps) by
  rcases H l.length (Nat.le_refl _) with e | ⟨pile,ps,I⟩
  .rw [e] at h
   cases h
  .obtain ⟨e,_⟩:=I.done (by rw [List.length_zip];lia)
   rw [e] at h
   have hm:=(Ft ps).mem_iff.mp h
   obtain ⟨_,a,b,_⟩:=I.pp p hm
   exact ⟨a,b⟩
 intro i
 induction i with
 | zero=>exact fun _=>.inr ⟨[],[],BrInv.start l brs⟩
 | succ i ih =>
  intro hi
  rcases ih (by lia) with e | ⟨pile,ps,I⟩
  .exact .inl e
  .obtain ⟨c,hc⟩:∃ c,l[i]?=some c:=⟨_,ZA (by lia)⟩
   obtain ⟨o,ho⟩:∃ o,brs[i]?=some o:=⟨_,ZA (by lia)⟩
   by_cases h13:c=13
   .subst h13
    cases o with
    | none=>exact .inr ⟨_,_,I.skip hc ho (.inr rfl)⟩
    | some x =>
     obtain ⟨k,op⟩:=x
     cases op with
     | true =>
      by_cases hf:pile.length=63
      .exact .inl (I.full hc ho hf)
      .exact .inr ⟨_,_,I.opens hc ho hf⟩
     | false =>
      cases hg:(pile.findIdx? fun x=>x.1==k) with
      | none=>exact .inr ⟨_,_,I.lone hc ho hg⟩
      | some j =>
       have hj:j<pile.length:=(List.findIdx?_eq_some_iff_getElem.mp hg).1
       exact .inr ⟨_,_,I.closes hc ho hg (p:=pile[j].2) (by rw [ZA hj];rfl)⟩
   .exact .inr ⟨_,_,I.skip hc ho (.inl h13)⟩
theorem GP (D:Dfn K mg "settle_brackets" Cn ["kinds","first_kinds","brackets","level","before"]) (T:BX mg) (C_pairs_of:Ak P w K mg base 2 "pairs_of" ["kinds","brackets"] spPrs) (C_side_of_pair:Ak P w K mg base 3 "side_of_pair" ["kinds","pair","level","before"] spSideP)
  (C_change_bracket:Ak P w K mg base 1 "change_bracket" ["kinds","first_kinds","place","side"] spChg):Ak P w K mg base 4 "settle_brackets" ["kinds","first_kinds","brackets","level","before"] spSetB:=by
 refine D.ok sc_settle_brackets (fun vs H Q E h=>?_) (fun f cdv A outer s H vs Q E hr h=>?_)
 .obtain ⟨a,b,e,l,first,vb,brs,n,bf,rfl,_⟩:=h
  rfl
 .obtain ⟨a,b,e,l,first,vb,brs,n,bf,rfl,ha,hb,he,hB,hab,hlb,hfl,hf,hbf,hl,q⟩:=h
  refine ⟨_,(A5 (Ao PassesOwn.never rfl (B6 (BI C_pairs_of hr (A0 (pv 0) (A0 (pv 2) A4)))) (AS (i:=5) sc_settle_brackets.nd rfl (Or.inl rfl))
   (A3 (AF (i:=6) sc_settle_brackets.nd rfl (Or.inl rfl) (BI C_side_of_pair hr (A0 (pv 0) (A0 (pv 5) (A0 (pv 3) (A0 (pv 4) A4))))))
    (A5 (AU (AA Ev (pv 6) BG (AG _))
    (A3 (AX (BI C_change_bracket hr (A0 (pv 0) (A0 (pv 1) (A0 (AE (An (K:=K) rfl) (pv 5) A7 (fun _ _=>rfl)) (A0 (pv 6) A4))))))
     (A5 (AX (BI C_change_bracket hr (A0 (pv 0) (A0 (pv 1) (A0 (AE (An (K:=K) rfl) (pv 5) A7 (fun _ _=>rfl)) (A0 (pv 6) A4))))))))
    AJ))))),?_⟩
  rw [Of] at q
  have hpr:=fun p hp=>Tb l brs p hp hlb
  refine ⟨_,rfl,_,rfl,_,_,_,_,_,rfl,ha,he,hB,hlb,hl,fun H1 r ts s1 hr0 h1r hPA=>⟨_,rfl,(Ee h1r),?_⟩⟩
  generalize prs l brs=pp at *
  refine E7 (xs:=ts.map V.ref) (fun i σ H'=>Bk (∃ (v5 v6:Option V) (cur:List Nat),σ=[some (.ref a),some (.ref b),some (.ref e),some (NV n),some (NV bf),v5,v6]/\Keep a H1 H'/\H' a=some (.lst (AO cur))/\cur=(pp.take i).foldl (Dr.onePair first (n % 2) bf) l/\cur.length=l.length/\GF (fun c=>Co c=true) cur)) ?_ (fun i σ H2 _ h=>?_) (fun i x σ H2 hx h=>?_) (fun σ H2 h=>?_)
  .exact ⟨_,_,l,rfl,Keep.refl _ _,s1 _ _ ha,rfl,rfl,hf⟩
  .obtain ⟨v5,v6,cur,rfl,k2,_⟩:=h
   have hra:r≠a:=(A1 ha hr0).symm
   exact SqL.of (k2 _ _ h1r hra)
  .obtain ⟨v5,v6,cur,rfl,k2,h2a,hcur,hcl,hcf⟩:=h
   have hra:r≠a:=(A1 ha hr0).symm
   rw [List.getElem?_map] at hx
   obtain ⟨t,ht,rfl⟩:=Option.map_eq_some_iff.mp hx
   have hpl:=hPA.len
   have hil:=(ZB.mp ht).1
   obtain ⟨p,hp⟩:∃ p,pp[i]?=some p:=⟨_,ZA (by lia)⟩
   have htp:=hPA.get i t p ht hp
   have h1a:H1 a=some (.lst (AO l)):=s1 _ _ ha
   have h2t:=MI k2 h1a t _ htp
   obtain ⟨p1,p2⟩:=hpr p (ZD hp)
   have hstep:(pp.take (i+1)).foldl (Dr.onePair first (n % 2) bf) l=Dr.onePair first (n % 2) bf cur p:=by
    rw [List.take_add_one,hp,hcur]
    simp
   rw [JV] at hstep
   refine ⟨_,rfl,_,rfl,_,rfl,_,rfl,_,_,_,_,_,_,rfl,h2a,h2t,hcf,p1,(by lia),(by lia),fun H3 s3=>⟨_,rfl,rfl,_,rfl,?_⟩⟩
   cases hsp:DL (n % 2) bf cur p with
   | none =>
    rw [hsp] at hstep
    skip
    exact ⟨_,_,cur,rfl,Keep.viaS (Keep.viaK (Keep.refl _ _) k2 (.inl rfl)) s3,s3 _ _ h2a,hstep.symm,hcl,hcf⟩
   | some c =>
    rw [hsp] at hstep
    have hc2:=Ms (Gz (by lia) hbf hsp)
    have hl1:=NB first c p.1 cur
    have hl2:=NB first c p.2 (HI first c p.1 cur)
    have h3t:=s3 _ _ h2t
    have h3a:=s3 _ _ h2a
    have hta:t≠a:=AW h2t h2a nofun
    refine ⟨_,rfl,_,rfl,_,rfl,_,_,_,_,rfl,rfl,(SqT.of h3t),rfl,_,rfl,_,_,_,_,_,_,rfl,h3a,(s3 _ _ (k2 _ _ (s1 _ _ hb) hab.symm)),hab,(by lia),(by lia),(by lia),fun H4 h4 k4=>⟨_,rfl,_,rfl,_,rfl,_,_,_,_,rfl,rfl,(SqT.of (k4 _ _ h3t hta)),rfl,_,rfl,_,_,_,_,_,_,rfl,h4,(k4 _ _ (s3 _ _ (k2 _ _ (s1 _ _ hb) hab.symm)) hab.symm),hab,(by lia),(by lia),(by lia),fun H5 h5 k5=>?_⟩⟩
    exact ⟨_,_,_,rfl,Keep.viaK (Keep.viaK (Keep.viaS (Keep.viaK (Keep.refl _ _) k2 (.inl rfl)) s3) k4 (.inl rfl)) k5 (.inl rfl),h5,hstep.symm,by lia,HK hc2 (HK hc2 hcf)⟩
  .obtain ⟨v5,v6,cur,rfl,k2,h2a,hcur,hcl,hcf⟩:=h
   skip
   rw [List.take_of_length_le (by rw [ZE,hPA.len];exact Nat.le_refl _)] at hcur
   rw [<-hcur] at q
   exact q H2 h2a (Keep.viaK (Keep.viaS (Keep.refl _ _) s1) k2 (.inl rfl))
end
abbrev Dm:Stmt:=top 89
theorem Ie:AB ["number"] ["number"] (A8 Dm):=⟨rfl,rfl,rfl,by decide +kernel,rfl,by decide +kernel,by decide +kernel⟩
abbrev Fz:Stmt:=top 90
theorem sc_rows_of:AB ["numbers","width","k"] ["numbers","width"] (A8 Fz):=⟨rfl,rfl,rfl,by decide +kernel,rfl,by decide +kernel,by decide +kernel⟩
abbrev CQ:Stmt:=top 91
theorem sc_fault_in_classes:AB ["numbers","least","k"] ["numbers"] (A8 CQ):=⟨rfl,rfl,rfl,by decide +kernel,rfl,by decide +kernel,by decide +kernel⟩
abbrev D6:Stmt:=top 92
theorem sc_fault_in_pairs:AB ["numbers","least","k"] ["numbers"] (A8 D6):=⟨rfl,rfl,rfl,by decide +kernel,rfl,by decide +kernel,by decide +kernel⟩
abbrev CW:Stmt:=top 93
theorem sc_fault_in_mirrors:AB ["numbers","least","k"] ["numbers"] (A8 CW):=⟨rfl,rfl,rfl,by decide +kernel,rfl,by decide +kernel,by decide +kernel⟩
abbrev EJ:Stmt:=Ae (top 95) 0
theorem sc_Tables_init:AB ["self","classes","pairs","mirrors","row"] ["self","classes","pairs","mirrors"] (A8 EJ):=⟨rfl,rfl,rfl,by decide +kernel,rfl,by decide +kernel,by decide +kernel⟩
abbrev D3:Stmt:=Ae (top 95) 1
theorem sc_Tables_kind_of:AB ["self","character","low","high","middle"] ["self","character"] (A8 D3):=⟨rfl,rfl,rfl,by decide +kernel,rfl,by decide +kernel,by decide +kernel⟩
abbrev C7:Stmt:=Ae (top 95) 2
theorem Fo:AB ["self","character"] ["self","character"] (A8 C7):=⟨rfl,rfl,rfl,by decide +kernel,rfl,by decide +kernel,by decide +kernel⟩
abbrev CI:Stmt:=Ae (top 95) 3
theorem G5:AB ["self","character"] ["self","character"] (A8 CI):=⟨rfl,rfl,rfl,by decide +kernel,rfl,by decide +kernel,by decide +kernel⟩
theorem IC {l:Nat} (h:l % 3=0) (hl:l<=100000):RgC 0 (l:Int) 3 (l / 3):=by
 have e:Builtin.Range.rangeSize 0 (l:Int) 3=((l / 3:Nat):Int):=by
  unfold Builtin.Range.rangeSize
  rw [if_pos (by decide)]
  split <;> lia
 refine ⟨by decide,by decide,?_,e⟩
 unfold Builtin.Range.small
 rw [e]
 have hg:((3:Int) > 0):=by decide
 unfold Builtin.Range.rangeFitsLong
 rw [if_pos hg]
 have b:∀ z:Int,0<=z->z<1000000->(decide (-(2 ^ 63)<=z) && decide (z<2 ^ 63))=true:=fun z h1 h2=>by
  rw [decide_eq_true (by lia),decide_eq_true (by lia)]
  rfl
 rw [b 0 (by decide) (by decide),b _ (by lia) (by lia),b 3 (by decide) (by decide),b _ (by lia) (by lia),b _ (by lia) (by lia)]
 simp
theorem OC {l:Nat} (h:l % 2=0) (hl:l<=100000):RgC 0 (l:Int) 2 (l / 2):=by
 have e:Builtin.Range.rangeSize 0 (l:Int) 2=((l / 2:Nat):Int):=by
  unfold Builtin.Range.rangeSize
  rw [if_pos (by decide)]
  split <;> lia
 refine ⟨by decide,by decide,?_,e⟩
 unfold Builtin.Range.small
 rw [e]
 have hg:((2:Int) > 0):=by decide
 unfold Builtin.Range.rangeFitsLong
 rw [if_pos hg]
 have b:∀ z:Int,0<=z->z<1000000->(decide (-(2 ^ 63)<=z) && decide (z<2 ^ 63))=true:=fun z h1 h2=>by
  rw [decide_eq_true (by lia),decide_eq_true (by lia)]
  rfl
 rw [b 0 (by decide) (by decide),b _ (by lia) (by lia),b 2 (by decide) (by decide),b _ (by lia) (by lia),b _ (by lia) (by lia)]
 simp
theorem JR {wd n:Nat} {g:TG} {tb:TS} {D:HW} {σ:L2.St} {H:Hp} (Pv:Nat->L2.St->Hp->Prop) (h0:Pv 0 σ H)
  (hs:∀ i σ H,i<n->Pv i σ H->g (NV (wd*i)) σ H fun σ2 H2=>tb { D with nx:=Pv (i+1),ct:=Pv (i+1),bk:=D.nx } σ2 H2) (hd:∀ σ H,Pv n σ H->D.nx σ H) :
  ∃ W:Nat->Nat->L2.St->Hp->Prop,(∃ m,W 0 m σ H)/\∀ i m σ H,W i m σ H ->
   ((MH 0 (wd:Int) n).stop i H/\D.nx σ H)\/((MH 0 (wd:Int) n).go i H/\∃ N:L2.St->Hp->Prop,(∀ σ' H',N σ' H'->∃ m',m'<m/\W (i+1) m' σ' H')/\∀ x H',(MH 0 (wd:Int) n).yld i H x H'->g x σ H' fun σ2 H2=>tb { D with nx:=N,ct:=N,bk:=D.nx } σ2 H2) :=
 GN Pv h0 (fun i σ H hi p=>by
  have e:(0:Int)+(i:Int)*(wd:Int)=((wd*i:Nat):Int):=by rw [Int.zero_add,Int.mul_comm];exact (Int.natCast_mul wd i).symm
  rw [e]
  exact hs i σ H hi p) hd
theorem RQ {wd n:Nat} {g:TG} {tt:TT} {te:TE} {vs:List Nat} {σ:L2.St} {H1:Hp} {D:Addr} {Qd:Hp->Prop} (Pv:Nat->Hp->Prop) (h0:Pv 0 (upd H1 D (.lst [])))
  (hs:∀ i H,i<n->Pv i H->g (NV (wd*i)) (Bs σ vs) H fun σ2 H2=>Bs σ2 vs=Bs σ vs/\tt σ2 H2 fun b H3 =>
   if b=true then te σ2 H3 fun y H4=>Bk (∃ acc,H4 D=some (.lst acc)/\acc.length<sizeLine/\Pv (i+1) (upd H4 D (.lst (acc++[y])))) else Pv (i+1) H3) (hd:∀ H,Pv n H->Qd H) :
  ∃ W:Nat->Nat->Hp->Prop,(∃ m,W 0 m (upd H1 D (.lst [])))/\∀ i m H,W i m H ->
   ((MH 0 (wd:Int) n).stop i H/\Qd H)\/((MH 0 (wd:Int) n).go i H/\∃ Nx:Hp->Prop,(∀ H',Nx H'->∃ m',m'<m/\W (i+1) m' H')/\∀ x H',(MH 0 (wd:Int) n).yld i H x H'->g x (Bs σ vs) H' fun σ2 H2=>Bs σ2 vs=Bs σ vs/\tt σ2 H2 fun b H3 =>
    if b=true then te σ2 H3 fun y H4=>∃ acc,H4 D=some (.lst acc)/\acc.length<sizeLine/\Nx (upd H4 D (.lst (acc++[y]))) else Nx H3):=by
 refine ⟨fun i m H=>m=n - i/\i<=n/\Pv i H,⟨n,by simp,Nat.zero_le _,h0⟩,?_⟩
 rintro i m H ⟨rfl,hi,p⟩
 by_cases hlt:i<n
 .refine .inr ⟨hlt,Pv (i+1),fun H' p'=>⟨n - (i+1),by lia,rfl,hlt,p'⟩,fun x H' y=>?_⟩
  obtain ⟨e,y⟩:=y
  subst e y
  have e:(0:Int)+(i:Int)*(wd:Int)=((wd*i:Nat):Int):=by rw [Int.zero_add,Int.mul_comm];exact (Int.natCast_mul wd i).symm
  rw [e]
  exact hs i _ hlt p
 .have e:i=n:=by lia
  subst e
  exact .inl ⟨Nat.le_refl _,hd H p⟩
structure TupsAt (H:Hp) (ts:List Addr) (rows:List (List Nat)):Prop where
 len:ts.length=rows.length
 get:∀ (i:Nat) (t:Addr) (x:List Nat),ts[i]?=some t->rows[i]?=some x->H t=some (.tup (AO x))
theorem TupsAt.mono {H H':Hp} {ts:List Addr} {rows:List (List Nat)} (p:TupsAt H ts rows) (k:∀ t xs,H t=some (.tup xs)->H' t=some (.tup xs)):TupsAt H' ts rows:=⟨p.len,fun i t x h1 h2=>k _ _ (p.get i t x h1 h2)⟩
theorem TupsAt.same {H H':Hp} {ts:List Addr} {rows:List (List Nat)} (p:TupsAt H ts rows) (s:Same H H'):TupsAt H' ts rows:=p.mono fun t xs h=>s _ _ h
theorem TupsAt.lst {H:Hp} {ts:List Addr} {rows:List (List Nat)} {a:Addr} {xs:List V} {o:HO} (p:TupsAt H ts rows) (h:H a=some (.lst xs)):TupsAt (upd H a o) ts rows:=p.mono fun t ys e=>by rw [AQ (AW e h nofun)];exact e
theorem TupsAt.nil (H:Hp):TupsAt H [] []:=⟨rfl,fun i t x h=>by simp at h⟩
theorem TupsAt.snoc {H:Hp} {ts:List Addr} {rows:List (List Nat)} {t:Addr} {x:List Nat} (p:TupsAt H ts rows) (h:H t=some (.tup (AO x))):TupsAt H (ts++[t]) (rows++[x]):=by
 refine ⟨by simp [p.len],fun i u y h1 h2=>?_⟩
 by_cases e:i<ts.length
 .rw [List.getElem?_append_left e] at h1
  rw [List.getElem?_append_left (by rw [<-p.len];exact e)] at h2
  exact p.get i u y h1 h2
 .rw [List.getElem?_append_right (by lia)] at h1
  rw [List.getElem?_append_right (by rw [<-p.len];lia),<-p.len] at h2
  cases hi:i - ts.length with
  | zero =>
   rw [hi] at h1 h2
   cases h1
   cases h2
   exact h
  | succ j =>
   rw [hi] at h1
   simp at h1
theorem TupsAt.at {H:Hp} {ts:List Addr} {rows:List (List Nat)} (p:TupsAt H ts rows) {i:Nat} {x:List Nat} (h:rows[i]?=some x):∃ t,ts[i]?=some t/\H t=some (.tup (AO x)):=by
 have hl:=(ZB.mp h).1
 have hl2:i<ts.length:=by rw [p.len];exact hl
 exact ⟨ts[i],ZA hl2,p.get i _ x (ZA hl2) h⟩
noncomputable def Di (wd:Nat) (l:List Nat) (n:Nat):List (List Nat):=(List.range n).map fun k=>(l.take (wd*k+wd)).drop (wd*k)
theorem Mv (wd:Nat) (l:List Nat) (n:Nat):Di wd l (n+1)=Di wd l n++[(l.take (wd*n+wd)).drop (wd*n)]:=by
 unfold Di
 rw [List.range_succ,List.map_append]
 rfl
theorem O4 (wd:Nat) (l:List Nat) (n:Nat):(Di wd l n).length=n:=by
 unfold Di
 rw [ZE,List.length_range]
noncomputable def r3 (x:Nat×Nat×Nat):List Nat:=[x.1,x.2.1,x.2.2]
noncomputable def r2 (x:Nat×Nat):List Nat:=[x.1,x.2]
theorem Ni {l:List Nat} {k a b c:Nat} (h1:l[k]?=some a) (h2:l[k+1]?=some b) (h3:l[k+2]?=some c):(l.take (k+3)).drop k=[a,b,c]:=by
 rw [List.drop_take,AZ h1,AZ h2,AZ h3,show k+3 - k=3 by lia]
 rfl
theorem O7 {l:List Nat} {k a b:Nat} (h1:l[k]?=some a) (h2:l[k+1]?=some b):(l.take (k+2)).drop k=[a,b]:=by
 rw [List.drop_take,AZ h1,AZ h2,show k+2 - k=2 by lia]
 rfl
theorem HL {l:List Nat} (h:l.length % 3=0):Di 3 l (l.length / 3)=(Aa l).map r3:=by
 refine List.ext_getElem? fun i=>?_
 unfold Di
 rw [List.getElem?_map,List.getElem?_map]
 by_cases hi:i<l.length / 3
 .obtain ⟨a,b,c,e1,e2,e3,e4,_⟩:=FQ (k:=i) h (by lia)
  rw [List.getElem?_range hi,e4]
  show some ((l.take (3*i+3)).drop (3*i))=some _
  rw [Ni e1 e2 e3]
  rfl
 .rw [List.getElem?_eq_none (by simp;lia),List.getElem?_eq_none (by rw [Et];lia)]
  rfl
theorem O2 {l:List Nat} (h:l.length % 2=0):Di 2 l (l.length / 2)=(Ax l).map r2:=by
 refine List.ext_getElem? fun i=>?_
 unfold Di
 rw [List.getElem?_map,List.getElem?_map]
 by_cases hi:i<l.length / 2
 .obtain ⟨a,b,e1,e2,e4,_⟩:=IU (k:=i) h (by lia)
  rw [List.getElem?_range hi,e4]
  show some ((l.take (2*i+2)).drop (2*i))=some _
  rw [O7 e1 e2]
  rfl
 .rw [List.getElem?_eq_none (by simp;lia),List.getElem?_eq_none (by rw [GH];lia)]
  rfl
section
variable {P:Program} {w:World} {K:PySem.W.Frag} {mg:Str->Option Value} {base:Heap}
noncomputable def spChar:Sp:=fun vs H Q _=>∃ n:Nat,vs=[NV n]/\Q (.bl (Dr.isChar n)) H
theorem Ic (D:Dfn K mg "is_character" Dm ["number"]) (T:BX mg):Ak P w K mg base 1 "is_character" ["number"] spChar:=by
 refine D.ok Ie (fun vs H Q E h=>?_) (fun f cdv A outer s H vs Q E hr h=>?_)
 .obtain ⟨n,rfl,_⟩:=h
  rfl
 .obtain ⟨n,rfl,q⟩:=h
  refine ⟨_,(A5 (AD (FF (B5 GE (pv 0) (B4 T.c_LAST_CHARACTER) (AG _)) (Cv (TL (Q5 GE GE (B4 T.c_FIRST_SURROGATE) (pv 0) (B4 T.c_LAST_SURROGATE))))))),?_⟩
  have hI:=Nh n
  have fin:∀ b:Bool,b=Dr.isChar n->Q (.bl b) H:=fun b e=>by rw [e];exact q
  refine ⟨_,rfl,_,_,rfl,rfl,_,rfl,?_⟩
  walk_at "?d"
  .refine ⟨_,rfl,_,_,rfl,rfl,_,rfl,?_⟩
   walk_at "?d2"
   .refine ⟨_,_,rfl,rfl,_,rfl,?_⟩
    refine fin _ ?_
    rw [Bool.eq_iff_iff,hI]
    simp only [Bool.not_eq_true',decide_eq_false_iff_not]
    lia
   .refine ⟨_,rfl,?_⟩
    refine fin _ ?_
    show true=_
    rw [eq_comm,hI]
    lia
  .refine fin _ ?_
   rw [eq_comm,Bool.eq_false_iff,Ne,hI]
   lia
noncomputable def spRows:Sp:=fun vs H Q _=>∃ (a:Addr) (l:List Nat) (wd:Nat),vs=[.ref a,NV wd]/\H a=some (.lst (AO l))/\(wd=2\/wd=3)/\l.length % wd=0/\l.length<=1000 /\
 ∀ (H':Hp) (r:Addr) (ts:List Addr),Same H H'->H r=none->H' r=some (.lst (ts.map V.ref))->TupsAt H' ts (Di wd l (l.length / wd))->Q (.ref r) H'
theorem Nk (D:Dfn K mg "rows_of" Fz ["numbers","width"]) (T:BX mg):Ak P w K mg base 1 "rows_of" ["numbers","width"] spRows:=by
 refine D.ok sc_rows_of (fun vs H Q E h=>?_) (fun f cdv A outer s H vs Q E hr h=>?_)
 .obtain ⟨a,l,wd,rfl,_⟩:=h
  rfl
 .obtain ⟨a,l,wd,rfl,ha,hw,hm,hl,q⟩:=h
  refine ⟨_,(A5 (AD (JH rfl sc_rows_of.nd (Bz rfl T.b_range (A0 A7 (A0 (AM (AK (K:=K) rfl) (by rfl) T.b_len PySem.boot_len (A0 (pv 0) A4)) (A0 (pv 1) A4)))) (own:=[("k",2)]) (BE (show FK ["numbers","width","k"] (A8 Fz) _ [("k",2)]=true from by decide +kernel)) (fun _ _ _ _ _=>(AS (i:=2) sc_rows_of.nd rfl (Or.inl rfl))) (fun _ _ _ _ _=>Ba) (fun _ _ _ _ _=>(Fq (Mx (K:=K) rfl) (by rfl) T.b_tuple PyProof.Rows.boot_tuple (A0 (Ek (Eo (K:=K) rfl) (pv 0) (CC (pv 2)) (CC (Ab Ag (pv 2) (pv 1)))) A4)))))),?_⟩
  have hrg:RgC 0 ((AO l).length:Int) (wd:Int) (l.length / wd):=by
   rw [nVs_len]
   rcases hw with rfl | rfl
   .exact OC hm (by lia)
   .exact IC hm (by lia)
  have hw0:0<wd:=by lia
  refine ⟨_,rfl,_,_,rfl,(Bn ha),_,rfl,_,_,_,_,rfl,hrg,fun r hr0=>?_⟩
  refine RQ (fun i H'=>∃ ts:List Addr,Same H H'/\H' r=some (.lst (ts.map V.ref))/\TupsAt H' ts (Di wd l i)) ⟨[],Same.set (Same.refl _) hr0,A2,TupsAt.nil _⟩ (fun i H2 hi h=>?_) (fun H2 h=>?_)
  .obtain ⟨ts,s2,h2,hT⟩:=h
   have htl:=hT.len
   rw [O4] at htl
   have hi2:wd*i+wd<=l.length:=by
    have h1:i+1<=l.length / wd:=hi
    have h2:(i+1)*wd<=l.length / wd*wd:=Nat.mul_le_mul_right wd h1
    have h3:l.length / wd*wd<=l.length:=Nat.div_mul_le_self _ _
    rw [Nat.add_mul,Nat.mul_comm i wd,Nat.one_mul] at h2
    lia
   have hii:i<=l.length / wd:=Nat.le_of_lt hi
   have hdl:l.length / wd<=l.length:=Nat.div_le_self _ _
   refine ⟨rfl,⟨_,rfl,_,rfl,_,rfl,_,rfl,_,rfl,_,_,rfl,rfl,_,rfl,_,_,rfl,(SqL.of (s2 _ _ ha)),fun sl hsl=>⟨_,_,rfl,(SqL.of A2),fun t ht=>?_⟩⟩⟩
   have ec:Hi (AO l) (some ((wd*i:Nat):Int)) (some (((wd*i:Nat):Int)+(wd:Int)))=AO ((l.take (wd*i+wd)).drop (wd*i)):=by
    have:=Iy (AO l) (i:=wd*i) (j:=wd*i+wd) (by lia) (by rw [nVs_len];lia)
    rw [Fm,Gu] at this
    exact this
   rw [ec] at ht ⊢
   have hrt:t≠r:=(A1 (A6 h2 (A1 h2 hsl)) ht).symm
   refine ⟨_,A6 (A6 h2 (A1 h2 hsl)) hrt.symm,QL (by simp;lia),ts++[t],Same.set (Same.set (Same.set s2 (none_of s2 hsl)) (none_of (Same.set s2 (none_of s2 hsl)) ht)) hr0,?_,?_⟩
   .rw [A2,List.map_append]
    rfl
   .rw [Mv]
    have hT2:=hT.same (Same.trans (Same.upd hsl (o:=.lst (AO ((l.take (wd*i+wd)).drop (wd*i))))) (Same.upd ht (o:=.tup (AO ((l.take (wd*i+wd)).drop (wd*i))))))
    exact TupsAt.snoc (hT2.lst (xs:=ts.map V.ref) (A6 (A6 h2 (A1 h2 hsl)) hrt.symm)) (A6 A2 hrt)
  .obtain ⟨ts,s2,h2,hT⟩:=h
   exact q H2 r ts s2 hr0 h2 hT
noncomputable def spFltC:Sp:=fun vs H Q _=>∃ (a:Addr) (l:List Nat),vs=[.ref a]/\H a=some (.lst (AO l))/\l.length % 3=0/\l.length<=1000/\Q (oV (Dr.badClasses 0 none (Aa l))) H
theorem G1 (D:Dfn K mg "fault_in_classes" CQ ["numbers"]) (T:BX mg) (C_is_character:Ak P w K mg base 1 "is_character" ["number"] spChar):Ak P w K mg base 2 "fault_in_classes" ["numbers"] spFltC:=by
 refine D.ok sc_fault_in_classes (fun vs H Q E h=>?_) (fun f cdv A outer s H vs Q E hr h=>?_)
 .obtain ⟨a,l,rfl,_⟩:=h
  rfl
 .obtain ⟨a,l,rfl,ha,hm,hl,q⟩:=h
  refine ⟨_,(A3 (AF (i:=1) sc_fault_in_classes.nd rfl (Or.inl rfl) A7)
   (A3 (Ao PassesOwn.never rfl (Bz rfl T.b_range (A0 A7 (A0 (AM (AK (K:=K) rfl) (by rfl) T.b_len PySem.boot_len (A0 (pv 0) A4)) (A0 A7 A4)))) (AS (i:=2) sc_fault_in_classes.nd rfl (Or.inl rfl))
   (A3 (AU (JQ (AA Ep (AE (A9 (K:=K) rfl) (pv 0) (pv 2) (fun _ _=>rfl)) (pv 1) (AG _)) (GI (C6 (As (BI C_is_character hr (A0 (AE (A9 (K:=K) rfl) (pv 0) (pv 2) (fun _ _=>rfl)) A4)))))).pt
    (A5 (AD (pv 2)))
    AJ)
    (A3 (AU (JQ (AA Ep (AE (A9 (K:=K) rfl) (pv 0) (Ab Ag (pv 2) A7) (fun _ _=>rfl)) (AE (A9 (K:=K) rfl) (pv 0) (pv 2) (fun _ _=>rfl)) (AG _)) (GI (C6 (As (BI C_is_character hr (A0 (AE (A9 (K:=K) rfl) (pv 0) (Ab Ag (pv 2) A7) (fun _ _=>rfl)) A4)))))).pt
    (A5 (AD (Ab Ag (pv 2) A7)))
    AJ)
    (A3 (AU (AA QF (AE (A9 (K:=K) rfl) (pv 0) (Ab Ag (pv 2) A7) (fun _ _=>rfl)) (B4 T.c_HOW_MANY_KINDS) (AG _))
    (A5 (AD (Ab Ag (pv 2) A7)))
    AJ)
    (A5 (AF (i:=1) sc_fault_in_classes.nd rfl (Or.inl rfl) (Ab Ag (AE (A9 (K:=K) rfl) (pv 0) (Ab Ag (pv 2) A7) (fun _ _=>rfl)) A7)))))))
   (A5 (AD BG)))),?_⟩
  have hrg:RgC 0 ((AO l).length:Int) 3 (l.length / 3):=by
   rw [nVs_len]
   exact IC hm (by lia)
  refine ⟨_,rfl,_,_,rfl,(Bn ha),_,_,_,_,rfl,hrg,?_⟩
  refine JR (wd:=3) (fun i σ H'=>Bk (∃ (least:Nat) (v2:Option V),σ=[some (.ref a),some (NV least),v2]/\H=H'/\Dr.badClasses 0 none (Aa l)=Dr.badClasses (3*i) (lst least) (Aa (l.drop (3*i))))) ?_ (fun i σ H2 hi h=>?_) (fun σ H2 h=>?_)
  .exact ⟨0,_,rfl,rfl,rfl⟩
  .obtain ⟨least,v2,rfl,rfl,hb⟩:=h
   obtain ⟨x,y,z,h1,h2,h3,_,h5⟩:=FQ (k:=i) hm (by lia)
   rw [h5,Kw] at hb
   have e1:Lw (AO l) (((3*i:Nat):Int)+1)=some (NV y):=FG (j:=3*i+1) rfl h2
   have e2:Lw (AO l) (((3*i:Nat):Int)+2)=some (NV z):=FG (j:=3*i+2) rfl h3
   have ret:∀ k:Nat,Dr.badClasses 0 none (Aa l)=some k->Q (NV k) H:=fun k e=>by rw [e] at q;exact q
   refine ⟨_,rfl,_,rfl,_,_,_,_,rfl,rfl,(SqL.of ha),(AH (AR h1)),_,rfl,_,_,rfl,rfl,_,rfl,?_⟩
   walk_at "?d"
   .refine ⟨_,rfl,?_⟩
    exact ret _ (by rw [hb,if_pos (.inl d)])
   .refine ⟨_,rfl,_,rfl,_,_,_,_,rfl,rfl,(SqL.of ha),(AH (AR h1)),_,rfl,_,rfl,?_⟩
    walk_at "?d2"
    .refine ⟨_,rfl,?_⟩
     exact ret _ (by rw [hb,if_pos (.inr d2)])
    .rw [if_neg (by rintro (z | z);exact d z;rw [z] at d2;exact absurd rfl d2)] at hb
     refine ⟨_,rfl,_,rfl,_,_,rfl,rfl,_,_,_,_,rfl,rfl,(SqL.of ha),e1,_,rfl,_,rfl,_,_,_,_,rfl,rfl,(SqL.of ha),(AH (AR h1)),_,_,rfl,rfl,_,rfl,?_⟩
     walk_at "?d3"
     .refine ⟨_,rfl,_,_,rfl,rfl,?_⟩
      exact SY (ret _ (by rw [hb,if_pos (.inl d3)])) rfl
     .refine ⟨_,rfl,_,rfl,_,_,rfl,rfl,_,_,_,_,rfl,rfl,(SqL.of ha),e1,_,rfl,_,rfl,?_⟩
      walk_at "?d4"
      .refine ⟨_,rfl,_,_,rfl,rfl,?_⟩
       exact SY (ret _ (by rw [hb,if_pos (.inr d4)])) rfl
      .rw [if_neg (by rintro (z | z);exact d3 z;rw [z] at d4;exact absurd rfl d4)] at hb
       refine ⟨_,rfl,_,rfl,_,_,rfl,rfl,_,_,_,_,rfl,rfl,(SqL.of ha),e2,_,_,rfl,rfl,_,rfl,?_⟩
       walk_at "?d5"
       .refine ⟨_,rfl,_,_,rfl,rfl,?_⟩
        exact SY (ret _ (by rw [hb,if_pos (by lia)])) rfl
       .rw [if_neg (by lia)] at hb
        refine ⟨_,rfl,_,rfl,_,_,rfl,rfl,_,_,_,_,rfl,rfl,(SqL.of ha),e1,_,_,rfl,rfl,?_⟩
        exact ⟨y+1,_,rfl,rfl,hb⟩
  .obtain ⟨least,v2,rfl,rfl,hb⟩:=h
   skip
   rw [List.drop_eq_nil_of_le (by lia)] at hb
   rw [hb] at q
   exact q
noncomputable def spFltP:Sp:=fun vs H Q _=>∃ (a:Addr) (l:List Nat),vs=[.ref a]/\H a=some (.lst (AO l))/\l.length % 3=0/\l.length<=1000/\Q (oV (Dr.badPairs 0 none (Aa l))) H
theorem HR (D:Dfn K mg "fault_in_pairs" D6 ["numbers"]) (T:BX mg) (C_is_character:Ak P w K mg base 1 "is_character" ["number"] spChar):Ak P w K mg base 2 "fault_in_pairs" ["numbers"] spFltP:=by
 refine D.ok sc_fault_in_pairs (fun vs H Q E h=>?_) (fun f cdv A outer s H vs Q E hr h=>?_)
 .obtain ⟨a,l,rfl,_⟩:=h
  rfl
 .obtain ⟨a,l,rfl,ha,hm,hl,q⟩:=h
  refine ⟨_,(A3 (AF (i:=1) sc_fault_in_pairs.nd rfl (Or.inl rfl) A7)
   (A3 (Ao PassesOwn.never rfl (Bz rfl T.b_range (A0 A7 (A0 (AM (AK (K:=K) rfl) (by rfl) T.b_len PySem.boot_len (A0 (pv 0) A4)) (A0 A7 A4)))) (AS (i:=2) sc_fault_in_pairs.nd rfl (Or.inl rfl))
   (A3 (AU (JQ (AA Ep (AE (A9 (K:=K) rfl) (pv 0) (pv 2) (fun _ _=>rfl)) (pv 1) (AG _)) (GI (C6 (As (BI C_is_character hr (A0 (AE (A9 (K:=K) rfl) (pv 0) (pv 2) (fun _ _=>rfl)) A4)))))).pt
    (A5 (AD (pv 2)))
    AJ)
    (A3 (AU (AA FO (AE (A9 (K:=K) rfl) (pv 0) (Ab Ag (pv 2) A7) (fun _ _=>rfl)) A7 (AG _))
    (A5 (AD (Ab Ag (pv 2) A7)))
    AJ)
    (A5 (AF (i:=1) sc_fault_in_pairs.nd rfl (Or.inl rfl) (Ab Ag (AE (A9 (K:=K) rfl) (pv 0) (pv 2) (fun _ _=>rfl)) A7))))))
   (A5 (AD BG)))),?_⟩
  have hrg:RgC 0 ((AO l).length:Int) 3 (l.length / 3):=by
   rw [nVs_len]
   exact IC hm (by lia)
  refine ⟨_,rfl,_,_,rfl,(Bn ha),_,_,_,_,rfl,hrg,?_⟩
  refine JR (wd:=3) (fun i σ H'=>Bk (∃ (least:Nat) (v2:Option V),σ=[some (.ref a),some (NV least),v2]/\H=H'/\Dr.badPairs 0 none (Aa l)=Dr.badPairs (3*i) (lst least) (Aa (l.drop (3*i))))) ?_ (fun i σ H2 hi h=>?_) (fun σ H2 h=>?_)
  .exact ⟨0,_,rfl,rfl,rfl⟩
  .obtain ⟨least,v2,rfl,rfl,hb⟩:=h
   obtain ⟨x,y,z,h1,h2,h3,_,h5⟩:=FQ (k:=i) hm (by lia)
   rw [h5,KU] at hb
   have e2:Lw (AO l) (((3*i:Nat):Int)+2)=some (NV z):=FG (j:=3*i+2) rfl h3
   have ret:∀ k:Nat,Dr.badPairs 0 none (Aa l)=some k->Q (NV k) H:=fun k e=>by rw [e] at q;exact q
   refine ⟨_,rfl,_,rfl,_,_,_,_,rfl,rfl,(SqL.of ha),(AH (AR h1)),_,rfl,_,_,rfl,rfl,_,rfl,?_⟩
   walk_at "?d"
   .refine ⟨_,rfl,?_⟩
    exact ret _ (by rw [hb,if_pos (.inl d)])
   .refine ⟨_,rfl,_,rfl,_,_,_,_,rfl,rfl,(SqL.of ha),(AH (AR h1)),_,rfl,_,rfl,?_⟩
    walk_at "?d2"
    .refine ⟨_,rfl,?_⟩
     exact ret _ (by rw [hb,if_pos (.inr d2)])
    .rw [if_neg (by rintro (z | z);exact d z;rw [z] at d2;exact absurd rfl d2)] at hb
     refine ⟨_,rfl,_,rfl,_,_,rfl,rfl,_,_,_,_,rfl,rfl,(SqL.of ha),e2,_,_,rfl,rfl,_,rfl,?_⟩
     walk_at "?d5"
     .refine ⟨_,rfl,_,_,rfl,rfl,?_⟩
      exact SY (ret _ (by rw [hb,if_pos (by lia)])) rfl
     .rw [if_neg (by lia)] at hb
      refine ⟨_,rfl,_,rfl,_,_,_,_,rfl,rfl,(SqL.of ha),(AH (AR h1)),_,_,rfl,rfl,?_⟩
      exact ⟨x+1,_,rfl,rfl,hb⟩
  .obtain ⟨least,v2,rfl,rfl,hb⟩:=h
   skip
   rw [List.drop_eq_nil_of_le (by lia)] at hb
   rw [hb] at q
   exact q
noncomputable def spFltM:Sp:=fun vs H Q _=>∃ (a:Addr) (l:List Nat),vs=[.ref a]/\H a=some (.lst (AO l))/\l.length % 2=0/\l.length<=1000/\Q (oV (Dr.badMirrors 0 none (Ax l))) H
theorem G9 (D:Dfn K mg "fault_in_mirrors" CW ["numbers"]) (T:BX mg) (C_is_character:Ak P w K mg base 1 "is_character" ["number"] spChar):Ak P w K mg base 2 "fault_in_mirrors" ["numbers"] spFltM:=by
 refine D.ok sc_fault_in_mirrors (fun vs H Q E h=>?_) (fun f cdv A outer s H vs Q E hr h=>?_)
 .obtain ⟨a,l,rfl,_⟩:=h
  rfl
 .obtain ⟨a,l,rfl,ha,hm,hl,q⟩:=h
  refine ⟨_,(A3 (AF (i:=1) sc_fault_in_mirrors.nd rfl (Or.inl rfl) A7)
   (A3 (Ao PassesOwn.never rfl (Bz rfl T.b_range (A0 A7 (A0 (AM (AK (K:=K) rfl) (by rfl) T.b_len PySem.boot_len (A0 (pv 0) A4)) (A0 A7 A4)))) (AS (i:=2) sc_fault_in_mirrors.nd rfl (Or.inl rfl))
   (A3 (AU (JQ (AA Ep (AE (A9 (K:=K) rfl) (pv 0) (pv 2) (fun _ _=>rfl)) (pv 1) (AG _)) (GI (C6 (As (BI C_is_character hr (A0 (AE (A9 (K:=K) rfl) (pv 0) (pv 2) (fun _ _=>rfl)) A4)))))).pt
    (A5 (AD (pv 2)))
    AJ)
    (A3 (AU (C6 (As (BI C_is_character hr (A0 (AE (A9 (K:=K) rfl) (pv 0) (Ab Ag (pv 2) A7) (fun _ _=>rfl)) A4))))
    (A5 (AD (Ab Ag (pv 2) A7)))
    AJ)
    (A5 (AF (i:=1) sc_fault_in_mirrors.nd rfl (Or.inl rfl) (Ab Ag (AE (A9 (K:=K) rfl) (pv 0) (pv 2) (fun _ _=>rfl)) A7))))))
   (A5 (AD BG)))),?_⟩
  have hrg:RgC 0 ((AO l).length:Int) 2 (l.length / 2):=by
   rw [nVs_len]
   exact OC hm (by lia)
  refine ⟨_,rfl,_,_,rfl,(Bn ha),_,_,_,_,rfl,hrg,?_⟩
  refine JR (wd:=2) (fun i σ H'=>Bk (∃ (least:Nat) (v2:Option V),σ=[some (.ref a),some (NV least),v2]/\H=H'/\Dr.badMirrors 0 none (Ax l)=Dr.badMirrors (2*i) (lst least) (Ax (l.drop (2*i))))) ?_ (fun i σ H2 hi h=>?_) (fun σ H2 h=>?_)
  .exact ⟨0,_,rfl,rfl,rfl⟩
  .obtain ⟨least,v2,rfl,rfl,hb⟩:=h
   obtain ⟨x,y,h1,h2,_,h5⟩:=IU (k:=i) hm (by lia)
   rw [h5,Ke] at hb
   have e1:Lw (AO l) (((2*i:Nat):Int)+1)=some (NV y):=FG (j:=2*i+1) rfl h2
   have ret:∀ k:Nat,Dr.badMirrors 0 none (Ax l)=some k->Q (NV k) H:=fun k e=>by rw [e] at q;exact q
   refine ⟨_,rfl,_,rfl,_,_,_,_,rfl,rfl,(SqL.of ha),(AH (AR h1)),_,rfl,_,_,rfl,rfl,_,rfl,?_⟩
   walk_at "?d"
   .refine ⟨_,rfl,?_⟩
    exact ret _ (by rw [hb,if_pos (.inl d)])
   .refine ⟨_,rfl,_,rfl,_,_,_,_,rfl,rfl,(SqL.of ha),(AH (AR h1)),_,rfl,_,rfl,?_⟩
    walk_at "?d2"
    .refine ⟨_,rfl,?_⟩
     exact ret _ (by rw [hb,if_pos (.inr d2)])
    .rw [if_neg (by rintro (z | z);exact d z;rw [z] at d2;exact absurd rfl d2)] at hb
     refine ⟨_,rfl,_,rfl,_,_,rfl,rfl,_,_,_,_,rfl,rfl,(SqL.of ha),e1,_,rfl,_,rfl,?_⟩
     walk_at "?d5"
     .refine ⟨_,rfl,_,_,rfl,rfl,?_⟩
      exact SY (ret _ (by rw [hb,if_pos d5])) rfl
     .rw [if_neg (by intro z;rw [z] at d5;exact absurd rfl d5)] at hb
      refine ⟨_,rfl,_,rfl,_,_,_,_,rfl,rfl,(SqL.of ha),(AH (AR h1)),_,_,rfl,rfl,?_⟩
      exact ⟨x+1,_,rfl,rfl,hb⟩
  .obtain ⟨least,v2,rfl,rfl,hb⟩:=h
   skip
   rw [List.drop_eq_nil_of_le (by lia)] at hb
   rw [hb] at q
   exact q
end
structure O1 (K:PySem.W.Frag) (C:Addr):Prop where
 cl:Cls K C
 f1:NoAttr K C "ranges"
 f2:NoAttr K C "brackets"
 f3:NoAttr K C "mirrored"
noncomputable def TQ (r b m:Addr):List (Str×V):=[("ranges",.ref r),("brackets",.ref b),("mirrored",.ref m)]
structure BrK (H:Hp) (kvs:List (C5×V)) (prs:List (Nat×Nat×Nat)):Prop where
 len:kvs.length=prs.length
 get:∀ (i:Nat) (kv:C5×V) (p:Nat×Nat×Nat),kvs[i]?=some kv->prs[i]?=some p->kv.1=Sum.inl (p.1:Int)/\∃ t,kv.2=.ref t/\H t=some (.tup [NV p.2.1,NV p.2.2])
noncomputable def JG (ms:List (Nat×Nat)):List (C5×V):=ms.map fun p=>(Sum.inl (p.1:Int),NV p.2)
theorem BrK.mono {H H':Hp} {kvs:List (C5×V)} {prs:List (Nat×Nat×Nat)} (p:BrK H kvs prs) (k:∀ t xs,H t=some (.tup xs)->H' t=some (.tup xs)):BrK H' kvs prs:=⟨p.len,fun i kv q h1 h2=>by
 obtain ⟨a,t,b,c⟩:=p.get i kv q h1 h2
 exact ⟨a,t,b,k _ _ c⟩⟩
structure TabAt (C:Addr) (H:Hp) (x:Addr) (t:Dr.Tables):Prop where
 ok:TOk t
 ex:∃ dx r b m rts kvs,H x=some (.ins C dx (TQ r b m))/\H r=some (.lst (rts.map V.ref))/\TupsAt H rts (t.cls.map r3)/\H b=some (.dK kvs)/\BrK H kvs t.pairs/\H m=some (.dK (JG t.mirrors))
theorem TabAt.same {C:Addr} {H H':Hp} {x:Addr} {t:Dr.Tables} (p:TabAt C H x t) (s:Same H H'):TabAt C H' x t:=by
 obtain ⟨ok,dx,r,b,m,rts,kvs,h1,h2,h3,h4,h5,h6⟩:=p
 exact ⟨ok,dx,r,b,m,rts,kvs,s _ _ h1,s _ _ h2,h3.same s,s _ _ h4,h5.mono fun t xs h=>s _ _ h,s _ _ h6⟩
theorem Ot {kvs:List (C5×V)} {k:C5} (h:∀ kv∈kvs,kv.1≠k):Bl kvs k=none:=by
 unfold Bl
 rw [List.find?_eq_none.mpr]
 .rfl
 .intro kv hkv
  simpa using h kv hkv
section
variable {P:Program} {w:World} {K:PySem.W.Frag} {mg:Str->Option Value} {base:Heap} {CT:Addr}
noncomputable def V0 (C:Addr) (H H':Hp) (x:Addr):Prop:=∃ dx r b m,H' x=some (.ins C dx (TQ r b m))/\H r=none
noncomputable def spTab (C:Addr):Sp:=fun vs H Q _=>∃ (x dx a b e:Addr) (c p m:List Nat),vs=[.ref x,.ref a,.ref b,.ref e]/\H x=some (.ins C dx [])/\H a=some (.lst (AO c))/\H b=some (.lst (AO p))/\H e=some (.lst (AO m))/\c.length % 3=0/\p.length % 3=0/\m.length % 2=0 /\
 c.length<=1000/\p.length<=1000/\m.length<=1000/\TOk ⟨Aa c,Aa p,Ax m⟩/\∀ H',TabAt C H' x ⟨Aa c,Aa p,Ax m⟩->Keep x H H'->V0 C H H' x->Q .non H'
theorem PK (D:Dmk K mg CT "Tables" "Tables.__init__" EJ ["self","classes","pairs","mirrors"]) (T:BX mg) (F:O1 K CT) (C_rows_of:Ak P w K mg base 1 "rows_of" ["numbers","width"] spRows):Kg P w K mg base 2 CT "Tables" ["self","classes","pairs","mirrors"] (spTab CT):=by
 refine D.ok sc_Tables_init (fun vs H Q E h=>?_) (fun f cdv A outer s H vs Q E hr h=>?_)
 .obtain ⟨x,dx,a,b,e,c,p,m,rfl,_⟩:=h
  rfl
 .obtain ⟨x,dx,a,b,e,c,p,m,rfl,hx,ha,hb,he,hc3,hp3,hm2,hcl,hpl,hml,hok,q⟩:=h
  obtain ⟨cl,f1,f2,f3⟩:=F
  refine ⟨_,(A3 (BF (pv 0) (BI C_rows_of hr (A0 (pv 1) (A0 A7 A4))) rfl)
   (A3 (BF (pv 0) JE rfl)
   (A3 (Ao PassesOwn.never rfl (B6 (BI C_rows_of hr (A0 (pv 2) (A0 A7 A4)))) (AS (i:=4) sc_Tables_init.nd rfl (Or.inl rfl))
   (A5 (Lq (KS hr) (AI (K:=K) rfl (pv 0) rfl) (AE (An (K:=K) rfl) (pv 4) A7 (fun _ _=>rfl)) (Bq (A0 (AE (An (K:=K) rfl) (pv 4) A7 (fun _ _=>rfl)) (A0 (AE (An (K:=K) rfl) (pv 4) A7 (fun _ _=>rfl)) A4))) rfl)))
   (A3 (BF (pv 0) JE rfl)
   (A5 (Ao PassesOwn.never rfl (B6 (BI C_rows_of hr (A0 (pv 3) (A0 A7 A4)))) (AS (i:=4) sc_Tables_init.nd rfl (Or.inl rfl))
   (A5 (Lq (KS hr) (AI (K:=K) rfl (pv 0) rfl) (AE (An (K:=K) rfl) (pv 4) A7 (fun _ _=>rfl)) (AE (An (K:=K) rfl) (pv 4) A7 (fun _ _=>rfl)) rfl)))))))),?_⟩
  refine ⟨_,rfl,_,_,_,rfl,ha,(.inr rfl),hc3,hcl,fun H1 r rts s1 hr0 h1r hT=>⟨_,rfl,_,_,_,_,rfl,(s1 _ _ hx),cl,f1,(BL rfl),fun bd hbd=>⟨_,rfl,_,_,_,_,rfl,(A6 A2 (A1 A2 hbd)),cl,f2,(BL rfl),_,rfl,_,_,_,rfl,(A6 (A6 (A6 (s1 _ _ hb) (AW hb hx nofun)) (A1 (A6 (s1 _ _ hb) (AW hb hx nofun)) hbd)) (AW hb hx nofun)),(.inr rfl),hp3,hpl,fun H2 q2 pts s2 hq2 h2q hT2=>⟨_,rfl,(Ee h2q),?_⟩⟩⟩⟩
  rw [HL hc3] at hT
  rw [HL hp3] at hT2
  have hxb:bd≠x:=(A1 A2 hbd).symm
  have hp2:=hok.prs
  have hpn:=hok.pn
  have hpc:(Aa p).length<=256:=hpn
  have h2b:H2 bd=some (.dK []):=s2 _ _ (A6 A2 hxb)
  have hqb:q2≠bd:=AW h2q h2b nofun
  have hxr:x≠r:=A1 hx hr0
  have h2x:H2 x=some (.ins CT dx [("ranges",.ref r),("brackets",.ref bd)]):=s2 _ _ (by rw [A2];rfl)
  have hbN:H bd=none:=none_of s1 (E3 hbd)
  have hpl2:=hT2.len
  rw [ZE] at hpl2
  have hTx:TupsAt H2 rts ((Aa c).map r3):=by
   refine TupsAt.same ?_ s2
   refine hT.mono fun t xs h=>?_
   have h1:t≠x:=AW h (s1 _ _ hx) nofun
   have h3:t≠bd:=A1 (A6 h h1) hbd
   rw [AQ h1,AQ h3,AQ h1]
   exact h
  have h2r:H2 r=some (.lst (rts.map V.ref)):=s2 _ _ (A6 (A6 (A6 h1r hxr.symm) (A1 (A6 h1r hxr.symm) hbd)) hxr.symm)
  have k02:Keep x H H2:=Keep.viaS (Keep.viaU (Keep.viaU (Keep.viaU (Keep.viaS (Keep.refl _ _) s1) (.inl rfl)) (.inr hbN)) (.inl rfl)) s2
  have h2e:H2 e=some (.lst (AO m)):=by
   have:e≠x:=AW he hx nofun
   exact k02 _ _ he this
  clear hT s2 hbd h1r
  refine E7 (xs:=pts.map V.ref) (fun i σ H'=>Bk (∃ (v4:Option V) (kvs:List (C5×V)),σ=[some (.ref x),some (.ref a),some (.ref b),some (.ref e),v4]/\Keep bd H2 H'/\H' bd=some (.dK kvs)/\BrK H' kvs ((Aa p).take i))) ?_ (fun i σ H3 _ h=>?_) (fun i y σ H3 hy h=>?_) (fun σ H3 h=>?_)
  .exact ⟨_,[],rfl,Keep.refl _ _,h2b,⟨rfl,fun i kv p h=>by simp at h⟩⟩
  .obtain ⟨v4,kvs,rfl,k3,_⟩:=h
   exact SqL.of (k3 _ _ h2q hqb)
  .obtain ⟨v4,kvs,rfl,k3,h3b,hBK⟩:=h
   rw [List.getElem?_map] at hy
   obtain ⟨t,ht,rfl⟩:=Option.map_eq_some_iff.mp hy
   have hil:=(ZB.mp ht).1
   obtain ⟨pr,hpr⟩:∃ pr,(Aa p)[i]?=some pr:=⟨_,ZA (by lia)⟩
   have htt:=hT2.get i t (r3 pr) ht (by rw [List.getElem?_map,hpr];rfl)
   have h3t:H3 t=some (.tup (AO (r3 pr))):=k3 _ _ htt (AW htt h2b nofun)
   have h3x:H3 x=some (.ins CT dx [("ranges",.ref r),("brackets",.ref bd)]):=k3 _ _ h2x hxb.symm
   have hkl:=hBK.len
   rw [List.length_take] at hkl
   refine ⟨_,rfl,_,_,_,_,rfl,rfl,(SqT.of h3t),rfl,_,rfl,_,_,_,_,rfl,rfl,(SqT.of h3t),rfl,(BL rfl),fun tt htt2=>⟨_,rfl,_,_,_,_,_,rfl,(A6 h3x (A1 h3x htt2)),cl,f2,rfl,_,rfl,_,_,_,_,rfl,rfl,(SqT.of (A6 h3t (A1 h3t htt2))),rfl,_,_,rfl,(Jb (A6 h3b (A1 h3b htt2)) (DT (by lia))),?_⟩⟩
   have hnew:Bl kvs (Sum.inl (pr.1:Int))=none:=Ot fun kv hkv=>by
    obtain ⟨j,hj⟩:=List.mem_iff_getElem?.mp hkv
    have hjl:=(ZB.mp hj).1
    obtain ⟨pj,hpj⟩:∃ pj,(Aa p)[j]?=some pj:=⟨_,ZA (by lia)⟩
    obtain ⟨e1,_⟩:=hBK.get j kv pj hj (by rw [List.getElem?_take,if_pos (by lia)];exact hpj)
    rw [e1]
    intro z
    injection z with z
    obtain ⟨g1,g2⟩:=ZB.mp hpj
    obtain ⟨g3,g4⟩:=ZB.mp hpr
    have:=List.pairwise_iff_getElem.mp hp2 j i g1 g3 (by lia)
    rw [g2,g4] at this
    lia
   rw [Jp _ hnew]
   have htb:tt≠bd:=(A1 h3b htt2).symm
   refine ⟨_,_,rfl,Keep.viaU (Keep.viaU (Keep.viaK (Keep.refl _ _) k3 (.inl rfl)) (.inr (Ct k3 htt2 htb))) (.inl rfl),A2,?_⟩
   refine ⟨by rw [List.length_append,List.length_take];simp;lia,fun j kv pj h1 h4=>?_⟩
   by_cases ej:j<kvs.length
   .rw [List.getElem?_append_left ej] at h1
    rw [List.getElem?_take,if_pos (by lia)] at h4
    obtain ⟨e1,u,e2,e3⟩:=hBK.get j kv pj h1 (by rw [List.getElem?_take,if_pos (by lia)];exact h4)
    refine ⟨e1,u,e2,?_⟩
    have hub:u≠bd:=AW e3 h3b nofun
    have hut:u≠tt:=A1 e3 htt2
    rw [AQ hub,AQ hut]
    exact e3
   .rw [List.getElem?_append_right (by lia)] at h1
    have ej2:j=i:=by
     have:=(ZB.mp h4).1
     rw [List.length_take] at this
     lia
    subst ej2
    rw [List.getElem?_take,if_pos (by lia),hpr] at h4
    cases h4
    rw [show j - kvs.length=0 by lia] at h1
    cases h1
    refine ⟨rfl,tt,rfl,?_⟩
    rw [AQ htb,A2]
  .obtain ⟨v4,kvs,rfl,k3,h3b,hBK⟩:=h
   have h3x:H3 x=some (.ins CT dx [("ranges",.ref r),("brackets",.ref bd)]):=k3 _ _ h2x hxb.symm
   have h3e:H3 e=some (.lst (AO m)):=k3 _ _ h2e (AW h2e h2b nofun)
   have h3r:H3 r=some (.lst (rts.map V.ref)):=k3 _ _ h2r (AW h2r h2b nofun)
   rw [List.take_of_length_le (by rw [ZE];lia)] at hBK
   have hT3:TupsAt H3 rts ((Aa c).map r3):=hTx.mono fun t xs h=>k3 _ _ h (AW h h2b nofun)
   have k03:Keep x H H3:=Keep.viaK (Keep.viaK (Keep.refl _ _) k02 (.inl rfl)) k3 (.inr hbN)
   have hxe:e≠x:=AW he hx nofun
   clear k3 hTx hT2 h2b h2r h2x h2e h2q
   refine fun md hmd=>⟨_,rfl,_,_,_,_,rfl,(A6 h3x (A1 h3x hmd)),cl,f3,(BL rfl),_,rfl,_,_,_,rfl,(A6 (A6 h3e (A1 h3e hmd)) hxe),(.inl rfl),hm2,hml,fun H4 q4 mts s4 hq4 h4q hT4=>⟨_,rfl,(Ee h4q),?_⟩⟩
   rw [O2 hm2] at hT4
   have hmx:md≠x:=(A1 h3x hmd).symm
   have h4m:H4 md=some (.dK []):=s4 _ _ (A6 A2 hmx)
   have hqm:q4≠md:=AW h4q h4m nofun
   have h4x:H4 x=some (.ins CT dx (TQ r bd md)):=s4 _ _ (by rw [A2];rfl)
   have hmb:md≠bd:=(A1 h3b hmd).symm
   have hxr':x≠r:=AW h3x h3r nofun
   have hxb':x≠bd:=AW h3x h3b nofun
   have k34:Keep x H3 H4:=Keep.viaS (Keep.viaU (Keep.viaU (Keep.refl _ _) (.inr hmd)) (.inl rfl)) s4
   have h4b:H4 bd=some (.dK kvs):=k34 _ _ h3b hxb'.symm
   have h4r:H4 r=some (.lst (rts.map V.ref)):=k34 _ _ h3r hxr'.symm
   have hmN:H md=none:=Ct k03 hmd hmx
   have hml2:=hT4.len
   rw [ZE] at hml2
   have hmc:(Ax m).length<=256:=hok.mn
   have hmp:=hok.mir
   have tup34:∀ t xs,H3 t=some (.tup xs)->H4 t=some (.tup xs):=fun t xs h=>k34 _ _ h (AW h h3x nofun)
   have hT5:=hT3.mono tup34
   have hBK5:=hBK.mono tup34
   have k04:Keep x H H4:=Keep.viaK (Keep.viaK (Keep.refl _ _) k03 (.inl rfl)) k34 (.inl rfl)
   refine E7 (xs:=mts.map V.ref) (fun i σ H'=>Bk (∃ (v4:Option V),σ=[some (.ref x),some (.ref a),some (.ref b),some (.ref e),v4]/\Keep md H4 H'/\H' md=some (.dK (JG ((Ax m).take i))))) ?_ (fun i σ H5 _ h=>?_) (fun i y σ H5 hy h=>?_) (fun σ H5 h=>?_)
   .exact ⟨_,rfl,Keep.refl _ _,h4m⟩
   .obtain ⟨v4,rfl,k5,_⟩:=h
    exact SqL.of (k5 _ _ h4q hqm)
   .obtain ⟨v4,rfl,k5,h5m⟩:=h
    rw [List.getElem?_map] at hy
    obtain ⟨t,ht,rfl⟩:=Option.map_eq_some_iff.mp hy
    have hil:=(ZB.mp ht).1
    obtain ⟨pr,hpr⟩:∃ pr,(Ax m)[i]?=some pr:=⟨_,ZA (by lia)⟩
    have htt:=hT4.get i t (r2 pr) ht (by rw [List.getElem?_map,hpr];rfl)
    have h5t:H5 t=some (.tup (AO (r2 pr))):=k5 _ _ htt (AW htt h4m nofun)
    have h5x:H5 x=some (.ins CT dx (TQ r bd md)):=k5 _ _ h4x hmx.symm
    have hkl:(JG ((Ax m).take i)).length<=256:=by
     unfold JG
     rw [ZE,List.length_take]
     lia
    refine ⟨_,rfl,_,_,_,_,rfl,rfl,(SqT.of h5t),rfl,_,rfl,_,_,_,_,_,rfl,h5x,cl,f3,rfl,_,rfl,_,_,_,_,rfl,rfl,(SqT.of h5t),rfl,_,_,rfl,(Jb h5m (DT (by lia))),?_⟩
    have hnew:Bl (JG ((Ax m).take i)) (Sum.inl (pr.1:Int))=none:=Ot fun kv hkv=>by
     obtain ⟨pj,hpj,rfl⟩:=List.mem_map.mp hkv
     obtain ⟨j,hj⟩:=List.mem_iff_getElem?.mp hpj
     rw [List.getElem?_take] at hj
     split at hj
     .rename_i hji
      intro z
      injection z with z
      obtain ⟨g1,g2⟩:=ZB.mp hj
      obtain ⟨g3,g4⟩:=ZB.mp hpr
      have:=List.pairwise_iff_getElem.mp hmp j i g1 g3 hji
      rw [g2,g4] at this
      lia
     .cases hj
    rw [Jp _ hnew]
    refine ⟨_,rfl,Keep.viaU (Keep.viaK (Keep.refl _ _) k5 (.inl rfl)) (.inl rfl),?_⟩
    rw [A2,List.take_add_one,hpr]
    unfold JG
    rw [List.map_append]
    rfl
   .obtain ⟨v4,rfl,k5,h5m⟩:=h
    skip
    rw [List.take_of_length_le (by rw [ZE];lia)] at h5m
    have tup45:∀ t xs,H4 t=some (.tup xs)->H5 t=some (.tup xs):=fun t xs h=>k5 _ _ h (AW h h4m nofun)
    exact q H5 ⟨hok,dx,r,bd,md,rts,kvs,k5 _ _ h4x hmx.symm,k5 _ _ h4r (AW h4r h4m nofun),hT5.mono tup45,k5 _ _ h4b hmb.symm,hBK5.mono tup45,h5m⟩ (Keep.viaK (Keep.viaK (Keep.refl _ _) k04 (.inl rfl)) k5 (.inr hmN)) ⟨dx,r,bd,md,k5 _ _ h4x hmx.symm,hr0⟩
end
theorem SS {H:Hp} {a:Addr} {kvs:List (C5×V)} (h:H a=some (.dK kvs)):Ui H a:=.inl ⟨kvs,.inl h⟩
theorem Mt {H:Hp} {a:Addr} {kvs:List (C5×V)} {q:Nat} (e:H a=some (.dK kvs)):DGet H a (NV q) (Bl kvs (Sum.inl (q:Int))):=DGet.k (k:=Sum.inl (q:Int)) e
theorem T0 {H:Hp} {kvs:List (C5×V)} {prs:List (Nat×Nat×Nat)} (h:BrK H kvs prs) (h1:∀ a∈prs,a.2.2<=1) (c:Nat):BrV H ((Bl kvs (Sum.inl (c:Int))).getD .non) ((prs.find? fun x=>x.1==c).map fun x=>(x.2.1,x.2.2==1)):=by
 have gen:∀ (kvs:List (C5×V)) (prs:List (Nat×Nat×Nat)),kvs.length=prs.length->(∀ (i:Nat) (kv:C5×V) (p:Nat×Nat×Nat),kvs[i]?=some kv->prs[i]?=some p->kv.1=Sum.inl (p.1:Int)/\∃ t,kv.2=.ref t/\H t=some (.tup [NV p.2.1,NV p.2.2]))->(∀ a∈prs,a.2.2<=1) ->
   BrV H ((Bl kvs (Sum.inl (c:Int))).getD .non) ((prs.find? fun x=>x.1==c).map fun x=>(x.2.1,x.2.2==1)):=by
  intro kvs
  induction kvs with
  | nil =>
   intro prs hl _ _
   cases prs with
   | nil=>rfl
   | cons p prs=>simp at hl
  | cons kv kvs ih =>
   intro prs hl hg h1
   cases prs with
   | nil=>simp at hl
   | cons p prs =>
    obtain ⟨e1,t,e2,e3⟩:=hg 0 kv p rfl rfl
    by_cases hc:p.1=c
    .rw [List.find?_cons_of_pos (by simpa using hc),Bc (by rw [e1,hc])]
     refine ⟨t,e2,?_⟩
     rw [e3]
     have:=h1 p (.head _)
     have e4:Q8 (p.2.2==1)=p.2.2:=by
      unfold Q8
      by_cases h:p.2.2=1
      .rw [h];rfl
      .have:p.2.2=0:=by lia
       rw [this];rfl
     rw [e4]
    .rw [List.find?_cons_of_neg (by simpa using hc),Be (by rw [e1];intro z;injection z with z;exact hc (by lia))]
     exact ih prs (by simpa using hl) (fun i kv q g1 g2=>hg (i+1) kv q g1 g2) fun a ha=>h1 a (.tail _ ha)
 exact gen kvs prs h.len h.get h1
theorem Rf (ms:List (Nat×Nat)) (c:Nat):(Bl (JG ms) (Sum.inl (c:Int))).getD (NV c)=NV (match ms.find? fun x=>x.1==c with
 | some x=>x.2
 | none=>c):=by
 induction ms with
 | nil=>rfl
 | cons p ms ih =>
  by_cases hc:p.1=c
  .rw [List.find?_cons_of_pos (by simpa using hc),show JG (p::ms)=(Sum.inl (p.1:Int),NV p.2)::JG ms from rfl,Bc (by rw [hc])]
   rfl
  .rw [List.find?_cons_of_neg (by simpa using hc),show JG (p::ms)=(Sum.inl (p.1:Int),NV p.2)::JG ms from rfl,Be (by intro z;injection z with z;exact hc (by lia))]
   exact ih
section
variable {P:Program} {w:World} {K:PySem.W.Frag} {mg:Str->Option Value} {base:Heap} {CT:Addr}
noncomputable def spBrOf (C:Addr):Sp:=fun vs H Q _=>∃ (x:Addr) (t:Dr.Tables) (c:Nat),vs=[.ref x,NV c]/\TabAt C H x t/\∀ v,BrV H v (t.pairOf c)->Q v H
theorem K9 (D:Dme K CT "bracket_of" "Tables.bracket_of" C7 ["self","character"]) (T:BX mg) (F:O1 K CT):Cb P w K mg base 1 CT "bracket_of" ["self","character"] (spBrOf CT):=by
 refine D.ok Fo (fun vs H Q E h=>?_) (fun f cdv A outer s H vs Q E hr h=>?_)
 .obtain ⟨x,t,c,rfl,_⟩:=h
  rfl
 .obtain ⟨x,t,c,rfl,⟨hok,dx,r,b,m,rts,kvs,h1,h2,h3,h4,h5,h6⟩,q⟩:=h
  obtain ⟨cl,f1,f2,f3⟩:=F
  refine ⟨_,(A5 (AD (Q7 (KS hr) (AI (K:=K) rfl (pv 0) rfl) (pv 1) ⟨rfl,rfl,rfl,rfl⟩))),?_⟩
  refine ⟨_,rfl,_,_,_,_,_,rfl,h1,cl,f2,rfl,_,rfl,(SS h4),_,rfl,_,Mt h4,?_⟩
  skip
  exact q _ (T0 h5 hok.pin c)
noncomputable def spShown (C:Addr):Sp:=fun vs H Q _=>∃ (x:Addr) (t:Dr.Tables) (c:Nat),vs=[.ref x,NV c]/\TabAt C H x t/\Q (NV (t.mirror c)) H
theorem LI (D:Dme K CT "shown_for" "Tables.shown_for" CI ["self","character"]) (T:BX mg) (F:O1 K CT):Cb P w K mg base 1 CT "shown_for" ["self","character"] (spShown CT):=by
 refine D.ok G5 (fun vs H Q E h=>?_) (fun f cdv A outer s H vs Q E hr h=>?_)
 .obtain ⟨x,t,c,rfl,_⟩:=h
  rfl
 .obtain ⟨x,t,c,rfl,⟨hok,dx,r,b,m,rts,kvs,h1,h2,h3,h4,h5,h6⟩,q⟩:=h
  obtain ⟨cl,f1,f2,f3⟩:=F
  refine ⟨_,(A5 (AD (QD (KS hr) (AI (K:=K) rfl (pv 0) rfl) (pv 1) (pv 1) ⟨rfl,rfl,rfl,rfl⟩))),?_⟩
  refine ⟨_,rfl,_,_,_,_,_,rfl,h1,cl,f3,rfl,_,rfl,(SS h6),_,rfl,_,rfl,_,Mt h6,?_⟩
  skip
  rw [Rf]
  exact q
noncomputable def spKind (C:Addr):Sp:=fun vs H Q _=>∃ (x:Addr) (t:Dr.Tables) (c:Nat),vs=[.ref x,NV c]/\TabAt C H x t/\Q (NV (t.classOf c)) H
theorem Np (D:Dme K CT "kind_of" "Tables.kind_of" D3 ["self","character"]) (T:BX mg) (F:O1 K CT):Cb P w K mg base 1 CT "kind_of" ["self","character"] (spKind CT):=by
 refine D.ok sc_Tables_kind_of (fun vs H Q E h=>?_) (fun f cdv A outer s H vs Q E hr h=>?_)
 .obtain ⟨x,t,c,rfl,_⟩:=h
  rfl
 .obtain ⟨x,t,c,rfl,⟨hok,dx,r,b,m,rts,kvs,h1,h2,h3,h4,h5,h6⟩,q⟩:=h
  obtain ⟨cl,f1,f2,f3⟩:=F
  refine ⟨_,(A3 (AF (i:=2) sc_Tables_kind_of.nd rfl (Or.inl rfl) A7)
   (A3 (AF (i:=3) sc_Tables_kind_of.nd rfl (Or.inl rfl) (AM (AK (K:=K) rfl) (by rfl) T.b_len PySem.boot_len (A0 (AI (K:=K) rfl (pv 0) rfl) A4)))
   (A3 (DG PassesOwn.never (AA Ep (pv 2) (pv 3) (AG _))
   (A3 (AF (i:=4) sc_Tables_kind_of.nd rfl (Or.inl rfl) (Ab RU (Ab Ag (pv 2) (pv 3)) A7))
    (A5 (AU (AA Ep (AE (An (K:=K) rfl) (AE (A9 (K:=K) rfl) (AI (K:=K) rfl (pv 0) rfl) (pv 4) (fun _ _=>rfl)) A7 (fun _ _=>rfl)) (pv 1) (AG _))
    (A5 (AF (i:=2) sc_Tables_kind_of.nd rfl (Or.inl rfl) (Ab Ag (pv 4) A7)))
    (A5 (AF (i:=3) sc_Tables_kind_of.nd rfl (Or.inl rfl) (pv 4)))))))
   (A3 (AU (EO (AA Ep (pv 2) (AM (AK (K:=K) rfl) (by rfl) T.b_len PySem.boot_len (A0 (AI (K:=K) rfl (pv 0) rfl) A4)) (AG _)) (DC (AA GE (AE (An (K:=K) rfl) (AE (A9 (K:=K) rfl) (AI (K:=K) rfl (pv 0) rfl) (pv 2) (fun _ _=>rfl)) A7 (fun _ _=>rfl)) (pv 1) (AG _)))).pt
   (A5 (AD (AE (An (K:=K) rfl) (AE (A9 (K:=K) rfl) (AI (K:=K) rfl (pv 0) rfl) (pv 2) (fun _ _=>rfl)) A7 (fun _ _=>rfl))))
   AJ)
   (A5 (AD (B4 T.c_L))))))),?_⟩
  have hrl:=h3.len
  rw [ZE] at hrl
  refine ⟨_,rfl,_,_,_,_,_,rfl,h1,cl,f1,rfl,_,_,rfl,(Bn h2),?_⟩
  refine ⟨fun k σ H'=>Bk (∃ (low high:Nat) (v4:Option V),σ=[some (.ref x),some (NV c),some (NV low),some (NV high),v4]/\H=H'/\HInv t.cls c low high/\k=high - low),⟨_,0,rts.length,_,by simp;rfl,rfl,by rw [hrl];exact HInv.start t.cls c,rfl⟩,?_⟩
  rintro k σ H1 ⟨low,high,v4,rfl,rfl,I,rfl⟩
  have hhl:=I.hl
  refine ⟨_,rfl,_,rfl,_,_,rfl,rfl,_,rfl,?_⟩
  walk_at "?d"
  .refine Tn ?_
   have hmid:(low+high) / 2<t.cls.length:=by lia
   obtain ⟨row,hrow⟩:∃ row,t.cls[(low+high) / 2]?=some row:=⟨_,ZA hmid⟩
   obtain ⟨tt,htt,hto⟩:=h3.at (i:=(low+high) / 2) (x:=r3 row) (by rw [List.getElem?_map,hrow];rfl)
   have e1:Lw (rts.map V.ref) (((low:Int)+(high:Int)) / 2)=some (.ref tt):=OS (j:=(low+high) / 2) (by lia) (DI htt)
   refine ⟨_,rfl,_,rfl,_,_,rfl,rfl,_,_,rfl,rfl,⟨by decide,by decide⟩,_,rfl,_,_,_,_,_,rfl,h1,cl,f1,rfl,_,rfl,_,_,_,_,rfl,rfl,(SqL.of h2),e1,_,_,_,_,rfl,rfl,(SqT.of hto),rfl,_,rfl,_,_,rfl,rfl,_,rfl,?_⟩
   walk_at "?d2"
   .refine ⟨_,rfl,_,_,rfl,rfl,?_⟩
    refine ⟨high - ((low+high) / 2+1),by lia,(low+high) / 2+1,high,_,rfl,rfl,I.up hok d hrow d2,rfl⟩
   .refine ⟨_,rfl,?_⟩
    refine ⟨(low+high) / 2 - low,by lia,low,(low+high) / 2,_,rfl,rfl,I.down hok d hrow (by simpa using d2),rfl⟩
  .have e:low=high:=by have:=I.le;lia
   subst e
   refine ⟨_,rfl,_,rfl,_,_,_,_,_,rfl,h1,cl,f1,rfl,_,_,rfl,(Bn h2),_,_,rfl,rfl,_,rfl,?_⟩
   walk_at "?d2"
   .have hlow:low<t.cls.length:=by simp at d2;lia
    obtain ⟨row,hrow⟩:∃ row,t.cls[low]?=some row:=⟨_,ZA hlow⟩
    obtain ⟨tt,htt,hto⟩:=h3.at (i:=low) (x:=r3 row) (by rw [List.getElem?_map,hrow];rfl)
    have e1:=DI htt
    refine ⟨_,rfl,_,_,_,_,_,rfl,h1,cl,f1,rfl,_,rfl,_,_,_,_,rfl,rfl,(SqL.of h2),(AH e1),_,_,_,_,rfl,rfl,(SqT.of hto),rfl,_,rfl,_,_,rfl,rfl,_,rfl,?_⟩
    walk_at "?d3"
    .refine ⟨_,rfl,_,_,_,_,_,rfl,h1,cl,f1,rfl,_,rfl,_,_,_,_,rfl,rfl,(SqL.of h2),(AH e1),_,_,_,_,rfl,rfl,(SqT.of hto),rfl,?_⟩
     rw [I.hit hok hrow d3] at q
     exact q
    .skip
     rw [I.miss hok (fun r' hr'=>by rw [hrow] at hr';cases hr';simpa using d3)] at q
     exact q
   .skip
    rw [I.miss hok (fun r' hr'=>by
     have:=(ZB.mp hr').1
     simp at d2
     lia)] at q
    exact q
end
abbrev C2:Stmt:=top 94
theorem sc_refusal_of_tables:AB ["classes","pairs","mirrors","sizes","k","faults"] ["classes","pairs","mirrors"] (A8 C2):=⟨rfl,rfl,rfl,by decide +kernel,rfl,by decide +kernel,by decide +kernel⟩
noncomputable def KI (c p m:List Nat):Option (List Int):=(Du c p m).map fun x=>match x.2 with
 | none=>[-1]
 | some (a,b)=>[-2,(a:Int),(b:Int)]
section
variable {P:Program} {w:World} {K:PySem.W.Frag} {mg:Str->Option Value} {base:Heap}
noncomputable def spRef:Sp:=fun vs H Q _=>∃ (a b e:Addr) (c p m:List Nat),vs=[.ref a,.ref b,.ref e]/\H a=some (.lst (AO c))/\H b=some (.lst (AO p))/\H e=some (.lst (AO m))/\c.length<=100000/\p.length<=100000/\m.length<=100000 /\
 (KI c p m=none->∀ H',Same H H'->Q .non H')/\(∀ l,KI c p m=some l->∀ (H':Hp) (r:Addr),Same H H'->H r=none->H' r=some (.lst (l.map V.int))->Q (.ref r) H')
theorem Fg (D:Dfn K mg "refusal_of_tables" C2 ["classes","pairs","mirrors"]) (T:BX mg) {wa:Addr} (hWid:Dy mg "WIDTHS" (.ref wa)) (hWs:∀ H,SqT K H wa [NV 3,NV 3,NV 2])
  (C_fault_in_classes:Ak P w K mg base 2 "fault_in_classes" ["numbers"] spFltC) (C_fault_in_pairs:Ak P w K mg base 2 "fault_in_pairs" ["numbers"] spFltP) (C_fault_in_mirrors:Ak P w K mg base 2 "fault_in_mirrors" ["numbers"] spFltM) :
  Ak P w K mg base 3 "refusal_of_tables" ["classes","pairs","mirrors"] spRef:=by
 refine D.ok sc_refusal_of_tables (fun vs H Q E h=>?_) (fun f cdv A outer s H vs Q E hr h=>?_)
 .obtain ⟨a,b,e,c,p,m,rfl,_⟩:=h
  rfl
 .obtain ⟨a,b,e,c,p,m,rfl,ha,hb,he,hcl,hpl,hml,q0,q1⟩:=h
  refine ⟨_,(A3 (AF (i:=3) sc_refusal_of_tables.nd rfl (Or.inl rfl) (Bq (A0 (AM (AK (K:=K) rfl) (by rfl) T.b_len PySem.boot_len (A0 (pv 0) A4)) (A0 (AM (AK (K:=K) rfl) (by rfl) T.b_len PySem.boot_len (A0 (pv 1) A4)) (A0 (AM (AK (K:=K) rfl) (by rfl) T.b_len PySem.boot_len (A0 (pv 2) A4)) A4)))))
   (A3 (Ao PassesOwn.never rfl (B9 rfl T.b_range (A0 A7 A4)) (AS (i:=4) sc_refusal_of_tables.nd rfl (Or.inl rfl))
   (A5 (AU (AA FO (AE (An (K:=K) rfl) (pv 3) (pv 4) (fun _ _=>rfl)) (Ab TU (B4 T.c_MOST_ROWS) (AE (An (K:=K) rfl) (B4 hWid) (pv 4) (fun _ _=>rfl))) (AG _))
    (A5 (AD (Ac (A0 (BQ Av A7) A4))))
    AJ)))
   (A3 (Ao PassesOwn.never rfl (B9 rfl T.b_range (A0 A7 A4)) (AS (i:=4) sc_refusal_of_tables.nd rfl (Or.inl rfl))
   (A5 (AU (AA ME (Ab JM (AE (An (K:=K) rfl) (pv 3) (pv 4) (fun _ _=>rfl)) (AE (An (K:=K) rfl) (B4 hWid) (pv 4) (fun _ _=>rfl))) A7 (AG _))
    (A5 (AD (Ac (A0 (BQ Av A7) (A0 (pv 4) (A0 (AE (An (K:=K) rfl) (pv 3) (pv 4) (fun _ _=>rfl)) A4))))))
    AJ)))
   (A3 (AF (i:=5) sc_refusal_of_tables.nd rfl (Or.inl rfl) (Bq (A0 (BI C_fault_in_classes hr (A0 (pv 0) A4)) (A0 (BI C_fault_in_pairs hr (A0 (pv 1) A4)) (A0 (BI C_fault_in_mirrors hr (A0 (pv 2) A4)) A4)))))
   (A3 (Ao PassesOwn.never rfl (B9 rfl T.b_range (A0 A7 A4)) (AS (i:=4) sc_refusal_of_tables.nd rfl (Or.inl rfl))
   (A5 (AU (AA Ev (AE (An (K:=K) rfl) (pv 5) (pv 4) (fun _ _=>rfl)) BG (AG _))
    (A5 (AD (Ac (A0 (BQ Av A7) (A0 (pv 4) (A0 (AE (An (K:=K) rfl) (pv 5) (pv 4) (fun _ _=>rfl)) A4))))))
    AJ)))
   (A5 (AD BG))))))),?_⟩
  refine ⟨_,rfl,_,_,rfl,(Bn ha),_,rfl,_,_,rfl,(Bn hb),_,rfl,_,_,rfl,(Bn he),(BL rfl),fun sz hsz=>⟨_,rfl,(by lia),(by lia),?_⟩⟩
  refine BC (n:=3) (fun i σ H'=>Bk (∃ v4:Option V,σ=[some (.ref a),some (.ref b),some (.ref e),some (.ref sz),v4,none]/\upd H sz (.tup [V.int (AO c).length,V.int (AO p).length,V.int (AO m).length])=H'/\(1<=i->c.length<=768)/\(2<=i->p.length<=768)/\(3<=i->m.length<=512))) ?_ (fun i σ H1 hi h=>?_) (fun σ H1 h=>?_)
  .exact ⟨_,rfl,rfl,fun h=>by lia,fun h=>by lia,fun h=>by lia⟩
  .obtain ⟨v4,rfl,rfl,c1,c2,c3⟩:=h
   have no1:(768<c.length\/768<p.length\/512<m.length)->KI c p m=some [-1]:=fun z=>by
    unfold KI Du
    rw [if_pos z]
    rfl
   have hi3:i=0\/i=1\/i=2:=by lia
   rcases hi3 with rfl | rfl | rfl
   .refine ⟨_,rfl,_,rfl,_,_,_,_,rfl,rfl,(SqT.of A2),rfl,_,rfl,_,_,_,_,rfl,rfl,hWs _,rfl,_,_,rfl,rfl,Or.inl ⟨by decide,by decide⟩,_,_,rfl,rfl,_,rfl,?_⟩
    walk_at "?d"
    .refine ⟨_,rfl,(BL rfl),fun r hr0=>?_⟩
     refine q1 [-1] (no1 (by lia)) _ r (Same.set (Same.set (Same.refl _) hsz) (none_of (Same.set (Same.refl _) hsz) hr0)) (none_of (Same.set (Same.refl _) hsz) hr0) A2
    .skip
     exact ⟨_,rfl,rfl,fun _=>by lia,fun h=>by lia,fun h=>by lia⟩
   .refine ⟨_,rfl,_,rfl,_,_,_,_,rfl,rfl,(SqT.of A2),rfl,_,rfl,_,_,_,_,rfl,rfl,hWs _,rfl,_,_,rfl,rfl,Or.inl ⟨by decide,by decide⟩,_,_,rfl,rfl,_,rfl,?_⟩
    walk_at "?d"
    .refine ⟨_,rfl,(BL rfl),fun r hr0=>?_⟩
     refine q1 [-1] (no1 (by lia)) _ r (Same.set (Same.set (Same.refl _) hsz) (none_of (Same.set (Same.refl _) hsz) hr0)) (none_of (Same.set (Same.refl _) hsz) hr0) A2
    .skip
     exact ⟨_,rfl,rfl,fun _=>c1 (by lia),fun _=>by lia,fun h=>by lia⟩
   .refine ⟨_,rfl,_,rfl,_,_,_,_,rfl,rfl,(SqT.of A2),rfl,_,rfl,_,_,_,_,rfl,rfl,hWs _,rfl,_,_,rfl,rfl,Or.inl ⟨by decide,by decide⟩,_,_,rfl,rfl,_,rfl,?_⟩
    walk_at "?d"
    .refine ⟨_,rfl,(BL rfl),fun r hr0=>?_⟩
     refine q1 [-1] (no1 (by lia)) _ r (Same.set (Same.set (Same.refl _) hsz) (none_of (Same.set (Same.refl _) hsz) hr0)) (none_of (Same.set (Same.refl _) hsz) hr0) A2
    .skip
     exact ⟨_,rfl,rfl,fun _=>c1 (by lia),fun _=>c2 (by lia),fun _=>by lia⟩
  .obtain ⟨v4,rfl,rfl,c1,c2,c3⟩:=h
   have c1:=c1 (by decide)
   have c2:=c2 (by decide)
   have c3:=c3 (by decide)
   clear hcl hpl hml
   have hn1:¬(768<c.length\/768<p.length\/512<m.length):=by lia
   let rf2:Option (Nat×Nat):=if c.length % 3≠0 then some (0,c.length) else if p.length % 3≠0 then some (1,p.length) else if m.length % 2≠0 then some (2,m.length) else none
   have bad:∀ k n:Nat,rf2=some (k,n)->KI c p m=some [-2,(k:Int),(n:Int)]:=fun k n e=>by
    unfold KI Du
    rw [if_neg hn1]
    by_cases h1:c.length % 3≠0
    .have e2:rf2=some (0,c.length):=if_pos h1
     rw [e] at e2
     cases e2
     rw [if_pos h1]
     rfl
    .by_cases h2:p.length % 3≠0
     .have e2:rf2=some (1,p.length):=(if_neg h1).trans (if_pos h2)
      rw [e] at e2
      cases e2
      rw [if_neg h1,if_pos h2]
      rfl
     .by_cases h3:m.length % 2≠0
      .have e2:rf2=some (2,m.length):=(if_neg h1).trans ((if_neg h2).trans (if_pos h3))
       rw [e] at e2
       cases e2
       rw [if_neg h1,if_neg h2,if_pos h3]
       rfl
      .have e2:rf2=none:=(if_neg h1).trans ((if_neg h2).trans (if_neg h3))
       rw [e] at e2
       cases e2
   refine ⟨_,rfl,(by lia),(by lia),?_⟩
   refine BC (n:=3) (fun i σ H'=>Bk (∃ v4:Option V,σ=[some (.ref a),some (.ref b),some (.ref e),some (.ref sz),v4,none]/\upd H sz (.tup [V.int (AO c).length,V.int (AO p).length,V.int (AO m).length])=H'/\(1<=i->c.length % 3=0)/\(2<=i->p.length % 3=0)/\(3<=i->m.length % 2=0))) ?_ (fun i σ H1 hi h=>?_) (fun σ H1 h=>?_)
   .exact ⟨_,rfl,rfl,fun h=>by lia,fun h=>by lia,fun h=>by lia⟩
   .obtain ⟨v4,rfl,rfl,d1,d2,d3⟩:=h
    have hi3:i=0\/i=1\/i=2:=by lia
    rcases hi3 with rfl | rfl | rfl
    .refine ⟨_,rfl,_,rfl,_,_,_,_,rfl,rfl,(SqT.of A2),rfl,_,rfl,_,_,_,_,rfl,rfl,hWs _,rfl,_,_,rfl,rfl,(by lia),rfl,_,rfl,?_⟩
     walk_at "?d"
     .refine ⟨_,rfl,_,rfl,_,rfl,_,rfl,_,_,_,_,rfl,rfl,(SqT.of A2),rfl,(BL rfl),fun r hr0=>?_⟩
      refine q1 [-2,((0:Nat):Int),(c.length:Int)] (bad 0 c.length (if_pos (by lia))) _ r (Same.set (Same.set (Same.refl _) hsz) (none_of (Same.set (Same.refl _) hsz) hr0)) (none_of (Same.set (Same.refl _) hsz) hr0) (by rw [A2,nVs_len];rfl)
     .skip
      exact ⟨_,rfl,rfl,fun _=>by lia,fun h=>by lia,fun h=>by lia⟩
    .refine ⟨_,rfl,_,rfl,_,_,_,_,rfl,rfl,(SqT.of A2),rfl,_,rfl,_,_,_,_,rfl,rfl,hWs _,rfl,_,_,rfl,rfl,(by lia),rfl,_,rfl,?_⟩
     walk_at "?d"
     .refine ⟨_,rfl,_,rfl,_,rfl,_,rfl,_,_,_,_,rfl,rfl,(SqT.of A2),rfl,(BL rfl),fun r hr0=>?_⟩
      have:=d1 (by lia)
      refine q1 [-2,((1:Nat):Int),(p.length:Int)] (bad 1 p.length ((if_neg (by lia)).trans (if_pos (by lia)))) _ r (Same.set (Same.set (Same.refl _) hsz) (none_of (Same.set (Same.refl _) hsz) hr0)) (none_of (Same.set (Same.refl _) hsz) hr0) (by rw [A2,nVs_len p];rfl)
     .skip
      exact ⟨_,rfl,rfl,fun _=>d1 (by lia),fun _=>by lia,fun h=>by lia⟩
    .refine ⟨_,rfl,_,rfl,_,_,_,_,rfl,rfl,(SqT.of A2),rfl,_,rfl,_,_,_,_,rfl,rfl,hWs _,rfl,_,_,rfl,rfl,(by lia),rfl,_,rfl,?_⟩
     walk_at "?d"
     .refine ⟨_,rfl,_,rfl,_,rfl,_,rfl,_,_,_,_,rfl,rfl,(SqT.of A2),rfl,(BL rfl),fun r hr0=>?_⟩
      have:=d1 (by lia)
      have:=d2 (by lia)
      refine q1 [-2,((2:Nat):Int),(m.length:Int)] (bad 2 m.length ((if_neg (by lia)).trans ((if_neg (by lia)).trans (if_pos (by lia))))) _ r (Same.set (Same.set (Same.refl _) hsz) (none_of (Same.set (Same.refl _) hsz) hr0)) (none_of (Same.set (Same.refl _) hsz) hr0) (by rw [A2,nVs_len m];rfl)
     .skip
      exact ⟨_,rfl,rfl,fun _=>d1 (by lia),fun _=>d2 (by lia),fun _=>by lia⟩
   .obtain ⟨v4,rfl,rfl,d1,d2,d3⟩:=h
    have d1:=d1 (by decide)
    have d2:=d2 (by decide)
    have d3:=d3 (by decide)
    have hrf:KI c p m=match Dr.badClasses 0 none (Aa c),Dr.badPairs 0 none (Aa p),Dr.badMirrors 0 none (Ax m) with
      | some i,_,_=>some [-2,((0:Nat):Int),(i:Int)]
      | none,some i,_=>some [-2,((1:Nat):Int),(i:Int)]
      | none,none,some i=>some [-2,((2:Nat):Int),(i:Int)]
      | none,none,none=>none:=by
     unfold KI Du
     rw [if_neg hn1,if_neg (fun z=>z d1),if_neg (fun z=>z d2),if_neg (fun z=>z d3)]
     cases Dr.badClasses 0 none (Aa c) <;> cases Dr.badPairs 0 none (Aa p) <;> cases Dr.badMirrors 0 none (Ax m) <;> rfl
    clear bad rf2
    refine ⟨_,rfl,_,_,rfl,(A6 ha (A1 ha hsz)),d1,(by lia),_,rfl,_,_,rfl,(A6 hb (A1 hb hsz)),d2,(by lia),_,rfl,_,_,rfl,(A6 he (A1 he hsz)),d3,(by lia),(BL rfl),fun ft hft=>⟨_,rfl,(by lia),(by lia),?_⟩⟩
    generalize Dr.badClasses 0 none (Aa c)=b1 at *
    generalize Dr.badPairs 0 none (Aa p)=b2 at *
    generalize Dr.badMirrors 0 none (Ax m)=b3 at *
    generalize hH2:(upd (upd H sz (HO.tup [V.int (AO c).length,V.int (AO p).length,V.int (AO m).length])) ft (HO.tup [oV b1,oV b2,oV b3]))=H2
    have hs2:Same H H2:=by rw [<-hH2];exact Same.set (Same.set (Same.refl _) hsz) (none_of (Same.set (Same.refl _) hsz) hft)
    have hf2:H2 ft=some (.tup [oV b1,oV b2,oV b3]):=by rw [<-hH2];exact A2
    refine BC (n:=3) (fun i σ H'=>Bk (∃ v4:Option V,σ=[some (.ref a),some (.ref b),some (.ref e),some (.ref sz),v4,some (.ref ft)]/\H2=H'/\(1<=i->b1=none)/\(2<=i->b2=none)/\(3<=i->b3=none))) ?_ (fun i σ H1 hi h=>?_) (fun σ H1 h=>?_)
    .exact ⟨_,rfl,rfl,fun h=>by lia,fun h=>by lia,fun h=>by lia⟩
    .obtain ⟨v4,rfl,rfl,e1,e2,e3⟩:=h
     have hi3:i=0\/i=1\/i=2:=by lia
     rcases hi3 with rfl | rfl | rfl
     .cases b1 with
      | none =>
       refine ⟨_,rfl,_,rfl,_,_,_,_,rfl,rfl,(SqT.of hf2),rfl,rfl,_,rfl,?_⟩
       exact ⟨_,rfl,rfl,fun _=>rfl,fun h=>by lia,fun h=>by lia⟩
      | some v =>
       refine ⟨_,rfl,_,rfl,_,_,_,_,rfl,rfl,(SqT.of hf2),rfl,rfl,_,rfl,⟨_,rfl,_,rfl,_,rfl,_,rfl,_,_,_,_,rfl,rfl,(SqT.of hf2),rfl,(BL rfl),fun r hr0=>?_⟩⟩
       refine q1 [-2,((0:Nat):Int),(v:Int)] hrf _ r (Same.set hs2 (none_of hs2 hr0)) (none_of hs2 hr0) (by rw [A2];rfl)
     .have e1:=e1 (by lia)
      subst e1
      cases b2 with
      | none =>
       refine ⟨_,rfl,_,rfl,_,_,_,_,rfl,rfl,(SqT.of hf2),rfl,rfl,_,rfl,?_⟩
       exact ⟨_,rfl,rfl,fun _=>rfl,fun _=>rfl,fun h=>by lia⟩
      | some v =>
       refine ⟨_,rfl,_,rfl,_,_,_,_,rfl,rfl,(SqT.of hf2),rfl,rfl,_,rfl,⟨_,rfl,_,rfl,_,rfl,_,rfl,_,_,_,_,rfl,rfl,(SqT.of hf2),rfl,(BL rfl),fun r hr0=>?_⟩⟩
       refine q1 [-2,((1:Nat):Int),(v:Int)] hrf _ r (Same.set hs2 (none_of hs2 hr0)) (none_of hs2 hr0) (by rw [A2];rfl)
     .have e1:=e1 (by lia)
      have e2:=e2 (by lia)
      subst e1 e2
      cases b3 with
      | none =>
       refine ⟨_,rfl,_,rfl,_,_,_,_,rfl,rfl,(SqT.of hf2),rfl,rfl,_,rfl,?_⟩
       exact ⟨_,rfl,rfl,fun _=>rfl,fun _=>rfl,fun _=>rfl⟩
      | some v =>
       refine ⟨_,rfl,_,rfl,_,_,_,_,rfl,rfl,(SqT.of hf2),rfl,rfl,_,rfl,⟨_,rfl,_,rfl,_,rfl,_,rfl,_,_,_,_,rfl,rfl,(SqT.of hf2),rfl,(BL rfl),fun r hr0=>?_⟩⟩
       refine q1 [-2,((2:Nat):Int),(v:Int)] hrf _ r (Same.set hs2 (none_of hs2 hr0)) (none_of hs2 hr0) (by rw [A2];rfl)
    .obtain ⟨v4,rfl,rfl,e1,e2,e3⟩:=h
     have e1:=e1 (by decide)
     have e2:=e2 (by decide)
     have e3:=e3 (by decide)
     subst e1 e2 e3
     skip
     exact q0 hrf _ hs2
end
abbrev Dl:Stmt:=top 53
theorem sc_settle_marks:AB ["kinds","before","last","k"] ["kinds","before"] (A8 Dl):=⟨rfl,rfl,rfl,by decide +kernel,rfl,by decide +kernel,by decide +kernel⟩
abbrev DN:Stmt:=top 54
theorem sc_change_digits:AB ["kinds","before","strong","changed","last","k"] ["kinds","before","strong","changed"] (A8 DN):=⟨rfl,rfl,rfl,by decide +kernel,rfl,by decide +kernel,by decide +kernel⟩
abbrev F2:Stmt:=top 55
theorem sc_change_all:AB ["kinds","olds","new","k"] ["kinds","olds","new"] (A8 F2):=⟨rfl,rfl,rfl,by decide +kernel,rfl,by decide +kernel,by decide +kernel⟩
abbrev Dq:Stmt:=top 56
theorem sc_join_numbers:AB ["kinds","k","beside"] ["kinds"] (A8 Dq):=⟨rfl,rfl,rfl,by decide +kernel,rfl,by decide +kernel,by decide +kernel⟩
abbrev CM:Stmt:=top 57
theorem sc_take_terminators:AB ["kinds","k"] ["kinds"] (A8 CM):=⟨rfl,rfl,rfl,by decide +kernel,rfl,by decide +kernel,by decide +kernel⟩
abbrev D4:Stmt:=top 58
theorem Gg:AB ["kinds","before"] ["kinds","before"] (A8 D4):=⟨rfl,rfl,rfl,by decide +kernel,rfl,by decide +kernel,by decide +kernel⟩
section
variable {P:Program} {w:World} {K:PySem.W.Frag} {mg:Str->Option Value} {base:Heap}
noncomputable def spMut (F:Nat->List Nat->List Nat):Sp:=fun vs H Q _=>∃ (a:Addr) (p:Nat) (l:List Nat),vs=[.ref a,NV p]/\H a=some (.lst (AO l))/\l.length<=Nu/\∀ H',H' a=some (.lst (AO (F p l)))->Keep a H H'->Q .non H'
theorem Ip (D:Dfn K mg "settle_marks" Dl ["kinds","before"]) (T:BX mg) (C_bounds_isolate:Ak P w K mg base 2 "bounds_isolate" ["kind"] (spB Dr.isIsoEdge)) :
  Ak P w K mg base 3 "settle_marks" ["kinds","before"] (spMut Dr.w1):=by
 refine D.ok sc_settle_marks (fun vs H Q E h=>?_) (fun f cdv A outer s H vs Q E hr h=>?_)
 .obtain ⟨a,p,l,rfl,_⟩:=h
  rfl
 .obtain ⟨a,p,l,rfl,ha,hl,q⟩:=h
  refine ⟨_,(A3 (AF (i:=2) sc_settle_marks.nd rfl (Or.inl rfl) (pv 1))
   (A5 (Ao PassesOwn.never rfl (B9 rfl T.b_range (A0 (AM (AK (K:=K) rfl) (by rfl) T.b_len PySem.boot_len (A0 (pv 0) A4)) A4)) (AS (i:=3) sc_settle_marks.nd rfl (Or.inl rfl))
   (A3 (AU (AA Af (AE (A9 (K:=K) rfl) (pv 0) (pv 3) (fun _ _=>rfl)) (B4 T.c_NSM) (AG _))
    (A5 (C4 (Aw (As (BI C_bounds_isolate hr (A0 (pv 2) A4))) (B4 T.c_ON) (pv 2)) (C8 (pv 0) (pv 3) BD)))
    AJ)
    (A5 (AF (i:=2) sc_settle_marks.nd rfl (Or.inl rfl) (AE (A9 (K:=K) rfl) (pv 0) (pv 3) (fun _ _=>rfl)))))))),?_⟩
  have hl':(AO l).length<=Nu:=by rw [nVs_len];exact hl
  refine ⟨_,rfl,_,rfl,a,_,rfl,.inl (SqL.of ha),_,rfl,QA _,QS hl',BC (n:=(AO l).length) (fun i σ H'=>∃ v3:Option V,σ=[some (.ref a),some (NV p),some (NV (Bu f1 p l i)),v3]/\H' a=some (.lst (AO (DW f1 p l i)))/\Keep a H H')
   ⟨none,(by rw [Fp];rfl),ha,Keep.refl _ _⟩ ?_ ?_⟩
  .rintro i σ H' hi ⟨v3,rfl,hA,kp⟩
   rw [nVs_len] at hi
   obtain ⟨c,hc⟩:∃ c,l[i]?=some c:=⟨_,ZA hi⟩
   have e0:(DW f1 p l i)[i]?=some c:=by rw [EZ p l (by omega) (Nat.le_refl _),hc]
   have e1:(DW f1 p l (i+1))[i]?=some (f1 (Bu f1 p l i) c l[i+1]?).1:=by rw [GO p l hi (by omega),Eh p l i c hc]
   have es:=De (f:=f1) p l i c hc
   have em:=FE (f:=f1) p l hc
   have hm:(AO (DW f1 p l i)).length=l.length:=by rw [nVs_len,EB p l (by omega)]
   refine ⟨_,rfl,_,rfl,a,_,_,_,rfl,rfl,SqL.of hA,AH (AR e0),rfl,_,rfl,ite2 (fun d=>?_) (fun d=>?_)⟩
   .rw [D8] at d
    have d:=of_decide_eq_true d
    refine ⟨_,rfl,_,rfl,fun H1 s1=>⟨_,rfl,ite2 (fun b=>?_) (fun b=>?_)⟩⟩
    .have ed:(f1 (Bu f1 p l i) c l[i+1]?).1=13:=Q3 d b
     rw [ed] at e1 em
     refine ⟨_,rfl,_,rfl,a,_,_,i,rfl,rfl,s1 _ _ hA,BR (by rw [hm];exact hi),_,rfl,_,rfl,a,_,_,_,rfl,rfl,SqL.of A2,AH (j:=i) (v:=NV 13) ?_,?_⟩
     .rw [Bb,em]
      exact AR e1
     .refine ⟨some (NV i),?_,?_,(kp.same s1).trans Keep.set⟩
      .rw [es,<-Lp,ed]
       rfl
      .rw [A2,Bb,em]
    .have ed:(f1 (Bu f1 p l i) c l[i+1]?).1=Bu f1 p l i:=Q9 d b
     rw [ed] at e1 em
     refine ⟨_,rfl,_,rfl,_,rfl,a,_,_,i,rfl,rfl,s1 _ _ hA,BR (by rw [hm];exact hi),_,rfl,_,rfl,a,_,_,_,rfl,rfl,SqL.of A2,AH (j:=i) (v:=NV (Bu f1 p l i)) ?_,?_⟩
     .rw [Bb,em]
      exact AR e1
     .refine ⟨some (NV i),?_,?_,(kp.same s1).trans Keep.set⟩
      .rw [es,<-Lp,ed]
       rfl
      .rw [A2,Bb,em]
   .rw [D8] at d
    have d:¬c=8:=fun z=>d (decide_eq_true z)
    have ed:(f1 (Bu f1 p l i) c l[i+1]?).1=c:=SF d
    refine ⟨_,rfl,_,rfl,a,_,_,_,rfl,rfl,SqL.of hA,AH (AR e0),?_⟩
    refine ⟨some (NV i),?_,?_,kp⟩
    .rw [es,<-Lp,ed]
     rfl
    .rw [hA,Bw p l hc ed]
  .rintro σ H' ⟨v3,rfl,hA,kp⟩
   rw [nVs_len,Gk,<-HG] at hA
   exact q H' hA kp
noncomputable def spDig:Sp:=fun vs H Q _=>∃ (a:Addr) (p st new:Nat) (l:List Nat),vs=[.ref a,NV p,NV st,NV new]/\H a=some (.lst (AO l))/\l.length<=Nu/\∀ H',H' a=some (.lst (AO (EK (F1 st new) p l)))->Keep a H H'->Q .non H'
theorem HZ (D:Dfn K mg "change_digits" DN ["kinds","before","strong","changed"]) (T:BX mg) (C_is_strong:Ak P w K mg base 1 "is_strong" ["kind"] (spB Dr.strong)) :
  Ak P w K mg base 2 "change_digits" ["kinds","before","strong","changed"] spDig:=by
 refine D.ok sc_change_digits (fun vs H Q E h=>?_) (fun f cdv A outer s H vs Q E hr h=>?_)
 .obtain ⟨a,p,st,new,l,rfl,_⟩:=h
  rfl
 .obtain ⟨a,p,st,new,l,rfl,ha,hl,q⟩:=h
  refine ⟨_,(A3 (AF (i:=4) sc_change_digits.nd rfl (Or.inl rfl) (pv 1))
   (A5 (Ao PassesOwn.never rfl (B9 rfl T.b_range (A0 (AM (AK (K:=K) rfl) (by rfl) T.b_len PySem.boot_len (A0 (pv 0) A4)) A4)) (AS (i:=5) sc_change_digits.nd rfl (Or.inl rfl))
   (A5 (AU (As (BI C_is_strong hr (A0 (AE (A9 (K:=K) rfl) (pv 0) (pv 5) (fun _ _=>rfl)) A4)))
    (A5 (AF (i:=4) sc_change_digits.nd rfl (Or.inl rfl) (AE (A9 (K:=K) rfl) (pv 0) (pv 5) (fun _ _=>rfl))))
    (A5 (AU (EO (AA Af (AE (A9 (K:=K) rfl) (pv 0) (pv 5) (fun _ _=>rfl)) (B4 T.c_EN) (AG _)) (DC (AA Af (pv 4) (pv 2) (AG _)))).pt
     (A5 (C4 (pv 3) (C8 (pv 0) (pv 5) BD)))
     AJ))))))),?_⟩
  have hl':(AO l).length<=Nu:=by rw [nVs_len];exact hl
  refine ⟨_,rfl,_,rfl,a,_,rfl,.inl (SqL.of ha),_,rfl,QA _,QS hl',BC (n:=(AO l).length) (fun i σ H'=>∃ v5:Option V,σ=[some (.ref a),some (NV p),some (NV st),some (NV new),some (NV (Bu (F1 st new) p l i)),v5]/\H' a=some (.lst (AO (DW (F1 st new) p l i)))/\Keep a H H')
   ⟨none,(by rw [Fp];rfl),ha,Keep.refl _ _⟩ ?_ ?_⟩
  .rintro i σ H' hi ⟨v5,rfl,hA,kp⟩
   rw [nVs_len] at hi
   obtain ⟨c,hc⟩:∃ c,l[i]?=some c:=⟨_,ZA hi⟩
   have e0:(DW (F1 st new) p l i)[i]?=some c:=by rw [EZ p l (by omega) (Nat.le_refl _),hc]
   have es:=De (f:=F1 st new) p l i c hc
   have em:=FE (f:=F1 st new) p l hc
   have hm:(AO (DW (F1 st new) p l i)).length=l.length:=by rw [nVs_len,EB p l (by omega)]
   refine ⟨_,rfl,_,rfl,a,_,_,_,rfl,rfl,SqL.of hA,AH (AR e0),_,rfl,fun H1 s1=>⟨_,rfl,ite2 (fun b=>?_) (fun b=>?_)⟩⟩
   .have ed:(F1 st new (Bu (F1 st new) p l i) c l[i+1]?).1=c:=J4 fun z=>(by rw [z.1] at b;cases b)
    refine ⟨_,rfl,_,rfl,a,_,_,_,rfl,rfl,SqL.of (s1 _ _ hA),AH (AR e0),?_⟩
    refine ⟨some (NV i),?_,?_,kp.same s1⟩
    .rw [es,RO b]
     rfl
    .rw [s1 _ _ hA,Bw p l hc ed]
   .rw [Q6 b] at es
    refine ⟨_,rfl,_,rfl,a,_,_,_,rfl,rfl,SqL.of (s1 _ _ hA),AH (AR e0),rfl,_,rfl,ite2 (fun d=>?_) (fun d=>NY ?_)⟩
    .refine ⟨_,rfl,_,rfl,rfl,_,rfl,ite2 (fun d2=>?_) (fun d2=>?_)⟩
     .rw [Mc (Dh d) (Dh d2)] at em
      refine ⟨_,rfl,_,rfl,_,rfl,a,_,_,i,rfl,rfl,s1 _ _ hA,BR (by rw [hm];exact hi),?_⟩
      refine ⟨some (NV i),?_,?_,(kp.same s1).trans Keep.set⟩
      .rw [es]
       rfl
      .rw [A2,Bb,em]
     .refine ⟨some (NV i),?_,?_,kp.same s1⟩
      .rw [es]
       rfl
      .rw [s1 _ _ hA,Bw p l hc (J4 fun z=>E9 d2 z.2)]
    .refine ⟨some (NV i),?_,?_,kp.same s1⟩
     .rw [es]
      rfl
     .rw [s1 _ _ hA,Bw p l hc (J4 fun z=>E9 d z.1)]
  .rintro σ H' ⟨v5,rfl,hA,kp⟩
   rw [nVs_len,Gk] at hA
   exact q H' hA kp
noncomputable def repl (os:List Nat) (new c:Nat):Nat:=if os.contains c=true then new else c
noncomputable def spAll:Sp:=fun vs H Q _=>∃ (a t:Addr) (new:Nat) (l os:List Nat),vs=[.ref a,.ref t,NV new]/\H a=some (.lst (AO l))/\H t=some (.tup (AO os))/\l.length<=Nu/\∀ H',H' a=some (.lst (AO (l.map (repl os new))))->Keep a H H'->Q .non H'
theorem Lz (l:List Nat):(AO l).all EH=true:=by
 rw [List.all_eq_true]
 intro x hx
 obtain ⟨n,_,rfl⟩:=List.mem_map.mp hx
 rfl
theorem K6 (D:Dfn K mg "change_all" F2 ["kinds","olds","new"]) (T:BX mg):Ak P w K mg base 1 "change_all" ["kinds","olds","new"] spAll:=by
 refine D.ok sc_change_all (fun vs H Q E h=>?_) (fun f cdv A outer s H vs Q E hr h=>?_)
 .obtain ⟨a,t,new,l,os,rfl,_⟩:=h
  rfl
 .obtain ⟨a,t,new,l,os,rfl,ha,ht,hl,q⟩:=h
  refine ⟨_,(A5 (Ao PassesOwn.never rfl (B9 rfl T.b_range (A0 (AM (AK (K:=K) rfl) (by rfl) T.b_len PySem.boot_len (A0 (pv 0) A4)) A4)) (AS (i:=3) sc_change_all.nd rfl (Or.inl rfl))
   (A5 (AU (AA B8 (AE (A9 (K:=K) rfl) (pv 0) (pv 3) (fun _ _=>rfl)) (pv 1) (by with_unfolding_all rfl))
    (A5 (C4 (pv 2) (C8 (pv 0) (pv 3) BD)))
    AJ)))),?_⟩
  have hl':(AO l).length<=Nu:=by rw [nVs_len];exact hl
  have nta:t≠a:=AW ht ha nofun
  refine ⟨_,rfl,a,_,rfl,.inl (SqL.of ha),_,rfl,QA _,QS hl',BC (n:=(AO l).length) (fun i σ H'=>∃ v3:Option V,σ=[some (.ref a),some (.ref t),some (NV new),v3]/\H' a=some (.lst (AO (DW (NT (repl os new)) () l i)))/\Keep a H H')
   ⟨none,rfl,ha,Keep.refl _ _⟩ ?_ ?_⟩
  .rintro i σ H' hi ⟨v3,rfl,hA,kp⟩
   rw [nVs_len] at hi
   obtain ⟨c,hc⟩:∃ c,l[i]?=some c:=⟨_,ZA hi⟩
   have e0:(DW (NT (repl os new)) () l i)[i]?=some c:=by rw [EZ () l (by omega) (Nat.le_refl _),hc]
   have em:=FE (f:=NT (repl os new)) () l hc
   have hm:(AO (DW (NT (repl os new)) () l i)).length=l.length:=by rw [nVs_len,EB () l (by omega)]
   refine ⟨_,rfl,_,rfl,a,_,_,_,rfl,rfl,SqL.of hA,AH (AR e0),_,rfl,t,_,rfl,.inr (SqT.of (kp _ _ ht nta)),rfl,Lz _,_,rfl,ite2 (fun d=>?_) (fun d=>?_)⟩
   .have d:os.contains c=true:=by rw [<-BT];exact d
    have em:(DW (NT (repl os new)) () l i).set i new=DW (NT (repl os new)) () l (i+1):=by
     rw [<-em]
     congr 1
     show new=repl os new c
     unfold repl
     rw [if_pos d]
    refine ⟨_,rfl,_,rfl,_,rfl,a,_,_,i,rfl,rfl,hA,BR (by rw [hm];exact hi),?_⟩
    refine ⟨some (NV i),rfl,?_,kp.trans Keep.set⟩
    rw [A2,Bb,em]
   .have d:¬os.contains c=true:=by rw [<-BT];exact d
    refine ⟨some (NV i),rfl,?_,kp⟩
    rw [hA,Bw () l hc (show repl os new c=c by unfold repl;rw [if_neg d])]
  .rintro σ H' ⟨v3,rfl,hA,kp⟩
   rw [nVs_len,Gk,<-M3] at hA
   exact q H' hA kp
noncomputable def spMut1 (F:List Nat->List Nat):Sp:=fun vs H Q _=>∃ (a:Addr) (l:List Nat),vs=[.ref a]/\H a=some (.lst (AO l))/\l.length<=Nu/\∀ H',H' a=some (.lst (AO (F l)))->Keep a H H'->Q .non H'
theorem IY (D:Dfn K mg "join_numbers" Dq ["kinds"]) (T:BX mg):Ak P w K mg base 1 "join_numbers" ["kinds"] (spMut1 (Dr.w4 13)):=by
 refine D.ok sc_join_numbers (fun vs H Q E h=>?_) (fun f cdv A outer s H vs Q E hr h=>?_)
 .obtain ⟨a,l,rfl,_⟩:=h
  rfl
 .obtain ⟨a,l,rfl,ha,hl,q⟩:=h
  refine ⟨_,(A5 (Ao PassesOwn.never rfl (Fs rfl T.b_range (A0 A7 (A0 (Ab Dn (AM (AK (K:=K) rfl) (by rfl) T.b_len PySem.boot_len (A0 (pv 0) A4)) A7) A4))) (AS (i:=1) sc_join_numbers.nd rfl (Or.inl rfl))
   (A3 (AF (i:=2) sc_join_numbers.nd rfl (Or.inl rfl) (AE (A9 (K:=K) rfl) (pv 0) (Ab Dn (pv 1) A7) (fun _ _=>rfl)))
    (A3 (AU (AA ME (pv 2) (AE (A9 (K:=K) rfl) (pv 0) (Ab Ag (pv 1) A7) (fun _ _=>rfl)) (AG _))
    (A5 Ca)
    AJ)
    (A5 (AU (EO (AA Af (AE (A9 (K:=K) rfl) (pv 0) (pv 1) (fun _ _=>rfl)) (B4 T.c_ES) (AG _)) (DC (AA Af (pv 2) (B4 T.c_EN) (AG _)))).pt
    (A5 (C4 (B4 T.c_EN) (C8 (pv 0) (pv 1) BD)))
    (A5 (AU (EO (AA Af (AE (A9 (K:=K) rfl) (pv 0) (pv 1) (fun _ _=>rfl)) (B4 T.c_CS) (AG _)) (DC (AA B8 (pv 2) (Bq (A0 (B4 T.c_EN) (A0 (B4 T.c_AN) A4))) (by with_unfolding_all rfl)))).pt
     (A5 (C4 (pv 2) (C8 (pv 0) (pv 1) BD)))
     AJ)))))))),?_⟩
  have hl2:l.length<=100000:=hl
  have hz:=nVs_len l
  refine ⟨_,rfl,a,_,rfl,.inl (SqL.of ha),_,_,rfl,rfl,_,_,rfl,⟨by decide,by decide,by omega,by omega⟩,F6 (lo:=1) (n:=(((AO l).length:Int) - 1 - 1).toNat) (fun i σ H'=>∃ v1 v2:Option V,σ=[some (.ref a),v1,v2]/\H' a=some (.lst (AO (DW f4 13 l (1+i))))/\Keep a H H')
   ⟨none,none,rfl,(by rw [R6];exact ha),Keep.refl _ _⟩ ?_ ?_⟩
  .rintro i σ H' hi ⟨v1,v2,rfl,hA,kp⟩
   have hi:1+i+1<l.length:=by omega
   obtain ⟨c0,hc0⟩:∃ c,l[i]?=some c:=⟨_,ZA (by omega)⟩
   obtain ⟨c,hc⟩:∃ c,l[1+i]?=some c:=⟨_,ZA (by omega)⟩
   obtain ⟨b,hb⟩:∃ c,l[1+i+1]?=some c:=⟨_,ZA hi⟩
   have ep:(DW f4 13 l (1+i))[i]?=some (Bu f4 13 l (1+i)):=by rw [GO 13 l (by omega) (by omega),QH TF 13 l hc0,Nat.add_comm]
   have e0:(DW f4 13 l (1+i))[1+i]?=some c:=by rw [EZ 13 l (by omega) (Nat.le_refl _),hc]
   have e2:(DW f4 13 l (1+i))[1+i+1]?=some b:=by rw [EZ 13 l (by omega) (by omega),hb]
   have em:=FE (f:=f4) 13 l hc
   have sm:=Bw (f:=f4) 13 l hc
   rw [hb] at em sm
   have hm:(AO (DW f4 13 l (1+i))).length=l.length:=by rw [nVs_len,EB 13 l (by omega)]
   generalize hp:Bu f4 13 l (1+i)=p at ep em sm
   have fin:∀ {d:Nat} {H2:Hp},(f4 p c (some b)).1=d->Same H' H2->∃ v1 v2:Option V,[some (V.ref a),some (NV (1+i)),some (NV p)]=[some (V.ref a),v1,v2]/\(upd H2 a (.lst ((AO (DW f4 13 l (1+i))).set (1+i) (NV d)))) a=some (.lst (AO (DW f4 13 l (1+(i+1)))))/\Keep a H (upd H2 a (.lst ((AO (DW f4 13 l (1+i))).set (1+i) (NV d)))):=fun {d H2} ed s2=>by
    refine ⟨_,_,rfl,?_,(kp.same s2).trans Keep.set⟩
    rw [ed] at em
    rw [A2,Bb,em]
    rfl
   have stay:∀ {H2:Hp},(f4 p c (some b)).1=c->Same H' H2->∃ v1 v2:Option V,[some (V.ref a),some (NV (1+i)),some (NV p)]=[some (V.ref a),v1,v2]/\H2 a=some (.lst (AO (DW f4 13 l (1+(i+1)))))/\Keep a H H2:=fun {H2} ed s2=>by
    refine ⟨_,_,rfl,?_,kp.same s2⟩
    rw [s2 _ _ hA,sm ed]
    rfl
   refine ⟨_,rfl,_,rfl,_,_,rfl,rfl,a,_,_,_,rfl,rfl,SqL.of hA,FG (j:=i) (by omega) ep,?_⟩
   refine ⟨_,rfl,_,rfl,_,rfl,_,_,rfl,rfl,a,_,_,_,rfl,rfl,SqL.of hA,FG (j:=1+i+1) (by omega) e2,rfl,_,rfl,ite2 (fun d=>?_) (fun d=>?_)⟩
   .exact stay (UN (TN d)) (Same.refl _)
   .have d:=Td d
    subst d
    refine ⟨_,rfl,_,rfl,a,_,_,_,rfl,rfl,SqL.of hA,AH (AR e0),rfl,_,rfl,ite2 (fun d1=>?_) (fun d1=>NY ?_)⟩
    .refine ⟨_,rfl,rfl,_,rfl,ite2 (fun d2=>?_) (fun d2=>?_)⟩
     .refine ⟨_,rfl,_,rfl,a,_,_,1+i,rfl,rfl,hA,BR (by omega),?_⟩
      exact fin (Tx (Dh d1) (Dh d2)) (Same.refl _)
     .refine ⟨_,rfl,_,rfl,a,_,_,_,rfl,rfl,SqL.of hA,AH (AR e0),rfl,_,rfl,ite2 (fun d3=>?_) (fun d3=>NY ?_)⟩
      .exact absurd ((Dh d1).symm.trans (Dh d3)) (by decide)
      .exact stay (QO (fun z=>E9 d2 z.2) (fun z=>E9 d3 z.1)) (Same.refl _)
    .refine ⟨_,rfl,_,rfl,a,_,_,_,rfl,rfl,SqL.of hA,AH (AR e0),rfl,_,rfl,ite2 (fun d3=>?_) (fun d3=>NY ?_)⟩
     .refine ⟨_,rfl,(by show 2<=sizeLine;decide),fun t ht=>⟨t,AO [3,4],rfl,.inr (SqT.of A2),rfl,rfl,_,rfl,ite2 (fun d4=>?_) (fun d4=>?_)⟩⟩
      .have d4:[3,4].contains p=true:=by rw [<-BT];exact d4
       refine ⟨_,rfl,_,rfl,_,rfl,a,_,_,1+i,rfl,rfl,(Same.upd ht) _ _ hA,BR (by omega),?_⟩
       refine fin ?_ (Same.upd ht)
       simp at d4
       rcases d4 with d4 | d4
       .exact ST (Dh d3) d4
       .exact Sq (Dh d3) d4
      .have d4:¬[3,4].contains p=true:=by rw [<-BT];exact d4
       refine stay (QO (fun z=>E9 d1 z.1) (fun z=>d4 ?_)) (Same.upd ht)
       rcases z.2 with z | z <;> rw [z] <;> rfl
     .exact stay (QO (fun z=>E9 d1 z.1) (fun z=>E9 d3 z.1)) (Same.refl _)
  .rintro σ H' ⟨v1,v2,rfl,hA,kp⟩
   by_cases h0:l.length=0
   .have e:l=[]:=List.eq_nil_of_length_eq_zero h0
    subst e
    exact q H' hA kp
   .rw [QT l _ (by omega) (by omega),<-Gs] at hA
    exact q H' hA kp
theorem G3 (D:Dfn K mg "take_terminators" CM ["kinds"]) (T:BX mg):Ak P w K mg base 1 "take_terminators" ["kinds"] (spMut1 Dr.w5):=by
 refine D.ok sc_take_terminators (fun vs H Q E h=>?_) (fun f cdv A outer s H vs Q E hr h=>?_)
 .obtain ⟨a,l,rfl,_⟩:=h
  rfl
 .obtain ⟨a,l,rfl,ha,hl,q⟩:=h
  refine ⟨_,(A3 (Ao PassesOwn.never rfl (Fs rfl T.b_range (A0 A7 (A0 (AM (AK (K:=K) rfl) (by rfl) T.b_len PySem.boot_len (A0 (pv 0) A4)) A4))) (AS (i:=1) sc_take_terminators.nd rfl (Or.inl rfl))
   (A5 (AU (EO (AA Af (AE (A9 (K:=K) rfl) (pv 0) (pv 1) (fun _ _=>rfl)) (B4 T.c_ET) (AG _)) (DC (AA Af (AE (A9 (K:=K) rfl) (pv 0) (Ab Dn (pv 1) A7) (fun _ _=>rfl)) (B4 T.c_EN) (AG _)))).pt
    (A5 (C4 (B4 T.c_EN) (C8 (pv 0) (pv 1) BD)))
    AJ)))
   (A5 (Ao PassesOwn.never rfl (Bz rfl T.b_range (A0 (Ab Dn (AM (AK (K:=K) rfl) (by rfl) T.b_len PySem.boot_len (A0 (pv 0) A4)) A7) (A0 (BQ Av A7) (A0 (BQ Av A7) A4)))) (AS (i:=1) sc_take_terminators.nd rfl (Or.inl rfl))
   (A5 (AU (EO (AA Af (AE (A9 (K:=K) rfl) (pv 0) (pv 1) (fun _ _=>rfl)) (B4 T.c_ET) (AG _)) (DC (AA Af (AE (A9 (K:=K) rfl) (pv 0) (Ab Ag (pv 1) A7) (fun _ _=>rfl)) (B4 T.c_EN) (AG _)))).pt
    (A5 (C4 (B4 T.c_EN) (C8 (pv 0) (pv 1) BD)))
    AJ))))),?_⟩
  have hl2:l.length<=100000:=hl
  have hz:=nVs_len l
  refine ⟨_,rfl,a,_,rfl,.inl (SqL.of ha),_,_,rfl,⟨by decide,by decide,by omega,by omega⟩,F6 (lo:=1) (n:=(((AO l).length:Int) - 1).toNat) (fun i σ H'=>∃ v1:Option V,σ=[some (.ref a),v1]/\H' a=some (.lst (AO (DW f5 false l (1+i))))/\Keep a H H')
   ⟨none,rfl,(by rw [MR];exact ha),Keep.refl _ _⟩ ?_ ?_⟩
  .rintro i σ H' hi ⟨v1,rfl,hA,kp⟩
   have hi:1+i<l.length:=by omega
   obtain ⟨c0,hc0⟩:∃ c,l[i]?=some c:=⟨_,ZA (by omega)⟩
   obtain ⟨c,hc⟩:∃ c,l[1+i]?=some c:=⟨_,ZA (by omega)⟩
   have ep:(DW f5 false l (1+i))[i]?=some (f5 (Bu f5 false l i) c0 l[i+1]?).1:=by rw [GO false l (by omega) (by omega),Eh false l i c0 hc0]
   have es:Bu f5 false l (1+i)=((f5 (Bu f5 false l i) c0 l[i+1]?).1==3):=by rw [Nat.add_comm 1 i,De false l i c0 hc0,SM]
   have e0:(DW f5 false l (1+i))[1+i]?=some c:=by rw [EZ false l (by omega) (Nat.le_refl _),hc]
   have em:=FE (f:=f5) false l hc
   have sm:=Bw (f:=f5) false l hc
   have hm:(AO (DW f5 false l (1+i))).length=l.length:=by rw [nVs_len,EB false l (by omega)]
   generalize (f5 (Bu f5 false l i) c0 l[i+1]?).1=p at ep es
   rw [es] at em sm
   have stay:(f5 (p==3) c l[1+i+1]?).1=c->∃ v1:Option V,[some (V.ref a),some (NV (1+i))]=[some (V.ref a),v1]/\H' a=some (.lst (AO (DW f5 false l (1+(i+1)))))/\Keep a H H':=fun ed=>by
    refine ⟨_,rfl,?_,kp⟩
    rw [hA,sm ed]
    rfl
   refine ⟨_,rfl,_,rfl,a,_,_,_,rfl,rfl,SqL.of hA,AH (AR e0),rfl,_,rfl,ite2 (fun d=>?_) (fun d=>NY ?_)⟩
   .refine ⟨_,rfl,_,rfl,_,_,rfl,rfl,a,_,_,_,rfl,rfl,SqL.of hA,FG (j:=i) (by omega) ep,rfl,_,rfl,ite2 (fun d2=>?_) (fun d2=>?_)⟩
    .refine ⟨_,rfl,_,rfl,a,_,_,1+i,rfl,rfl,hA,BR (by omega),_,rfl,?_,kp.trans Keep.set⟩
     rw [LV (Dh d) (by rw [Dh d2];rfl)] at em
     rw [A2,Bb,em]
     rfl
    .refine stay ?_
     rw [Jl (fun z=>E9 d2 (eq_of_beq z.2))]
   .refine stay ?_
    rw [Jl (fun z=>E9 d z.1)]
  .rintro σ H1 ⟨v1,rfl,hA,kp⟩
   rw [Mh false l (by omega),<-DA] at hA
   generalize hm1:Dr.w5on false l=m at hA
   have hml:m.length=l.length:=by rw [<-hm1,DA,Az]
   have hmz:=nVs_len m
   refine ⟨_,rfl,a,_,rfl,.inl (SqL.of hA),_,_,rfl,rfl,_,rfl,_,rfl,_,_,_,_,rfl,HH (by omega) (by omega),HD rfl (fun i σ H'=>∃ v1:Option V,σ=[some (.ref a),v1]/\H' a=some (.lst (AO (DW f5 false m.reverse (1+i)).reverse))/\Keep a H H')
    ⟨v1,rfl,(by rw [MR,List.reverse_reverse];exact hA),kp⟩ ?_ ?_⟩
   .rintro i σ H' hi ⟨v1,rfl,hB,kp⟩
    have hrl:m.reverse.length=l.length:=by rw [List.length_reverse,hml]
    have hi2:1+i<m.reverse.length:=by omega
    have ek:(((AO m).length:Int) - 2+1).toNat - 1 - i=l.length - 1 - (1+i):=by omega
    rw [ek]
    obtain ⟨c0,hc0⟩:∃ c,m.reverse[i]?=some c:=⟨_,ZA (by omega)⟩
    obtain ⟨c,hc⟩:∃ c,m.reverse[1+i]?=some c:=⟨_,ZA (by omega)⟩
    have hml2:(DW f5 false m.reverse (1+i)).length=l.length:=by rw [EB false m.reverse (by omega),hrl]
    have ep:(DW f5 false m.reverse (1+i)).reverse[l.length - 1 - (1+i)+1]?=some (f5 (Bu f5 false m.reverse i) c0 m.reverse[i+1]?).1:=by
     rw [List.getElem?_reverse (by omega),hml2,show l.length - 1 - (l.length - 1 - (1+i)+1)=i by omega,GO false m.reverse (by omega) (by omega),Eh false m.reverse i c0 hc0]
    have es:Bu f5 false m.reverse (1+i)=((f5 (Bu f5 false m.reverse i) c0 m.reverse[i+1]?).1==3):=by rw [Nat.add_comm 1 i,De false m.reverse i c0 hc0,SM]
    have e0:(DW f5 false m.reverse (1+i)).reverse[l.length - 1 - (1+i)]?=some c:=by
     rw [List.getElem?_reverse (by omega),hml2,show l.length - 1 - (l.length - 1 - (1+i))=1+i by omega,EZ false m.reverse (by omega) (Nat.le_refl _),hc]
    have em:=FE (f:=f5) false m.reverse hc
    have sm:=Bw (f:=f5) false m.reverse hc
    have hm:(AO (DW f5 false m.reverse (1+i)).reverse).length=l.length:=by rw [nVs_len,List.length_reverse,hml2]
    generalize (f5 (Bu f5 false m.reverse i) c0 m.reverse[i+1]?).1=p at ep es
    rw [es] at em sm
    have stay:(f5 (p==3) c m.reverse[1+i+1]?).1=c->∃ v1:Option V,[some (V.ref a),some (NV (l.length - 1 - (1+i)))]=[some (V.ref a),v1]/\H' a=some (.lst (AO (DW f5 false m.reverse (1+(i+1))).reverse))/\Keep a H H':=fun ed=>by
     refine ⟨_,rfl,?_,kp⟩
     rw [hB,sm ed]
     rfl
    refine ⟨_,rfl,_,rfl,a,_,_,_,rfl,rfl,SqL.of hB,AH (AR e0),rfl,_,rfl,ite2 (fun d=>?_) (fun d=>NY ?_)⟩
    .refine ⟨_,rfl,_,rfl,_,_,rfl,rfl,a,_,_,_,rfl,rfl,SqL.of hB,FG (j:=l.length - 1 - (1+i)+1) (by omega) ep,rfl,_,rfl,ite2 (fun d2=>?_) (fun d2=>?_)⟩
     .refine ⟨_,rfl,_,rfl,a,_,_,l.length - 1 - (1+i),rfl,rfl,hB,BR (by omega),_,rfl,?_,kp.trans Keep.set⟩
      rw [LV (Dh d) (by rw [Dh d2];rfl)] at em
      rw [A2,Bb,RF _ _ _ (by omega),hml2,show l.length - 1 - (l.length - 1 - (1+i))=1+i by omega]
      show some (HO.lst (AO ((DW f5 false m.reverse (1+i)).set (1+i) 3).reverse))=_
      rw [em]
      rfl
     .refine stay ?_
      rw [Jl (fun z=>E9 d2 (eq_of_beq z.2))]
    .refine stay ?_
     rw [Jl (fun z=>E9 d z.1)]
   .rintro σ H' ⟨v1,rfl,hB,kp⟩
    have hrl:m.reverse.length=l.length:=by rw [List.length_reverse,hml]
    rw [Mh false m.reverse (by omega),<-DA,<-hm1] at hB
    exact q H' hB kp
theorem Rl (l:List Nat):l.map (repl [2] 1)=Dr.w3 l:=by
 unfold Dr.w3
 congr 1
 funext c
 unfold repl
 by_cases h:c=2
 .subst h;rfl
 .rw [if_neg (by simp [h]),if_neg (by exact h)]
theorem Ry (l:List Nat):l.map (repl [5,6,7] 13)=Dr.w6 l:=by
 unfold Dr.w6
 congr 1
 funext c
 unfold repl
 by_cases h:c=5\/c=6\/c=7
 .rw [if_pos (by simp;exact h),if_pos (by exact h)]
  rfl
 .rw [if_neg (by simp;omega),if_neg (by exact h)]
theorem TC (p:Nat) (l:List Nat):(Dr.w1 p l).length=l.length:=by rw [HG,Az]
theorem SX (p:Nat) (l:List Nat):(Dr.w4 p l).length=l.length:=by rw [Gs,Az]
theorem SW (l:List Nat):(Dr.w5 l).length=l.length:=by
 unfold Dr.w5
 rw [List.length_reverse,DA,Az,List.length_reverse,DA,Az]
theorem Gx (D:Dfn K mg "settle_numbers" D4 ["kinds","before"]) (T:BX mg) (C_settle_marks:Ak P w K mg base 3 "settle_marks" ["kinds","before"] (spMut Dr.w1))
  (C_change_digits:Ak P w K mg base 2 "change_digits" ["kinds","before","strong","changed"] spDig) (C_change_all:Ak P w K mg base 1 "change_all" ["kinds","olds","new"] spAll)
  (C_join_numbers:Ak P w K mg base 1 "join_numbers" ["kinds"] (spMut1 (Dr.w4 13))) (C_take_terminators:Ak P w K mg base 1 "take_terminators" ["kinds"] (spMut1 Dr.w5)) :
  Ak P w K mg base 4 "settle_numbers" ["kinds","before"] (spMut Dr.weak):=by
 refine D.ok Gg (fun vs H Q E h=>?_) (fun f cdv A outer s H vs Q E hr h=>?_)
 .obtain ⟨a,p,l,rfl,_⟩:=h
  rfl
 .obtain ⟨a,p,l,rfl,ha,hl,q⟩:=h
  refine ⟨_,(A3 (AX (BI C_settle_marks hr (A0 (pv 0) (A0 (pv 1) A4))))
   (A3 (AX (BI C_change_digits hr (A0 (pv 0) (A0 (pv 1) (A0 (B4 T.c_AL) (A0 (B4 T.c_AN) A4))))))
   (A3 (AX (BI C_change_all hr (A0 (pv 0) (A0 (Bq (A0 (B4 T.c_AL) A4)) (A0 (B4 T.c_R) A4)))))
   (A3 (AX (BI C_join_numbers hr (A0 (pv 0) A4)))
   (A3 (AX (BI C_take_terminators hr (A0 (pv 0) A4)))
   (A3 (AX (BI C_change_all hr (A0 (pv 0) (A0 (Bq (A0 (B4 T.c_ES) (A0 (B4 T.c_ET) (A0 (B4 T.c_CS) A4)))) (A0 (B4 T.c_ON) A4)))))
   (A5 (AX (BI C_change_digits hr (A0 (pv 0) (A0 (pv 1) (A0 (B4 T.c_L) (A0 (B4 T.c_L) A4))))))))))))),?_⟩
  refine ⟨_,rfl,_,rfl,a,p,l,rfl,ha,hl,fun H1 h1 k1=>?_⟩
  have l1:=TC p l
  refine ⟨_,rfl,_,rfl,a,p,2,4,_,rfl,h1,(by rw [l1];exact hl),fun H2 h2 k2=>?_⟩
  have h2:H2 a=some (HO.lst (AO (Dr.w2 p (Dr.w1 p l)))):=by rw [Gn];exact h2
  have l2:(Dr.w2 p (Dr.w1 p l)).length=l.length:=by rw [Gn,Az,l1]
  refine ⟨_,rfl,(by show 1<=sizeLine;decide),fun t ht=>⟨a,t,1,_,[2],rfl,Same.upd ht _ _ h2,A2,(by rw [l2];exact hl),fun H3 h3 k3=>?_⟩⟩
  have k3:Keep a H2 H3:=(Same.upd ht).keep.trans k3
  rw [Rl] at h3
  have l3:(Dr.w3 (Dr.w2 p (Dr.w1 p l))).length=l.length:=by unfold Dr.w3;rw [ZE,l2]
  refine ⟨_,rfl,a,_,rfl,h3,(by rw [l3];exact hl),fun H4 h4 k4=>?_⟩
  have l4:=SX 13 (Dr.w3 (Dr.w2 p (Dr.w1 p l)))
  refine ⟨_,rfl,a,_,rfl,h4,(by rw [l4,l3];exact hl),fun H5 h5 k5=>?_⟩
  have l5:=SW (Dr.w4 13 (Dr.w3 (Dr.w2 p (Dr.w1 p l))))
  refine ⟨_,rfl,(by show 3<=sizeLine;decide),fun t ht=>⟨a,t,13,_,[5,6,7],rfl,Same.upd ht _ _ h5,A2,(by rw [l5,l4,l3];exact hl),fun H6 h6 k6=>?_⟩⟩
  have k6:Keep a H5 H6:=(Same.upd ht).keep.trans k6
  rw [Ry] at h6
  have l6:(Dr.w6 (Dr.w5 (Dr.w4 13 (Dr.w3 (Dr.w2 p (Dr.w1 p l)))))).length=l.length:=by unfold Dr.w6;rw [ZE,l5,l4,l3]
  refine ⟨_,rfl,_,rfl,a,p,0,0,_,rfl,h6,(by rw [l6];exact hl),fun H7 h7 k7=>?_⟩
  exact q H7 (by unfold Dr.weak;rw [Iz];exact h7) ((((((k1.trans k2).trans k3).trans k4).trans k5).trans k6).trans k7)
end
abbrev Eu:Stmt:=top 68
theorem sc_end_of_row:AB ["kinds","start","end"] ["kinds","start"] (A8 Eu):=⟨rfl,rfl,rfl,by decide +kernel,rfl,by decide +kernel,by decide +kernel⟩
abbrev Cl:Stmt:=top 69
theorem sc_settle_neutrals:AB ["kinds","level","before","behind","start","end","left","right","side","k"] ["kinds","level","before","behind"] (A8 Cl):=⟨rfl,rfl,rfl,by decide +kernel,rfl,by decide +kernel,by decide +kernel⟩
section
variable {P:Program} {w:World} {K:PySem.W.Frag} {mg:Str->Option Value} {base:Heap}
noncomputable def spEnd:Sp:=fun vs H Q _=>∃ (a:Addr) (st:Nat) (l:List Nat),vs=[.ref a,NV st]/\H a=some (.lst (AO l))/\∀ H',Same H H'->Q (NV (DP l st)) H'
theorem KC (D:Dfn K mg "end_of_row" Eu ["kinds","start"]) (T:BX mg) (C_is_neutral:Ak P w K mg base 3 "is_neutral" ["kind"] (spB BA)) :
  Ak P w K mg base 4 "end_of_row" ["kinds","start"] spEnd:=by
 refine D.ok sc_end_of_row (fun vs H Q E h=>?_) (fun f cdv A outer s H vs Q E hr h=>?_)
 .obtain ⟨a,p,l,rfl,_⟩:=h
  rfl
 .obtain ⟨a,st,l,rfl,ha,q⟩:=h
  refine ⟨_,(A3 (AF (i:=2) sc_end_of_row.nd rfl (Or.inl rfl) (pv 1))
   (A3 (DG PassesOwn.never (EO (AA Ep (pv 2) (AM (AK (K:=K) rfl) (by rfl) T.b_len PySem.boot_len (A0 (pv 0) A4)) (AG _)) (DC (As (BI C_is_neutral hr (A0 (AE (A9 (K:=K) rfl) (pv 0) (pv 2) (fun _ _=>rfl)) A4))))).pt
   (A5 (O5 (i:=2) sc_end_of_row.nd rfl (Or.inl rfl) A7 Nq)))
   (A5 (AD (pv 2))))),?_⟩
  refine ⟨_,rfl,fun m σ H'=>∃ e,m=l.length - e/\σ=[some (.ref a),some (NV st),some (NV e)]/\DP l st=DP l e/\Same H H',⟨_,st,rfl,rfl,rfl,Same.refl _⟩,?_⟩
  rintro m σ H' ⟨e,rfl,rfl,he,sm⟩
  refine ⟨_,rfl,_,rfl,a,_,rfl,.inl (SqL.of (sm _ _ ha)),_,_,rfl,rfl,_,rfl,ite2 (fun d=>?_) (fun d=>NY ?_)⟩
  .have d:=of_decide_eq_true d
   rw [nVs_len] at d
   have d:e<l.length:=by lia
   obtain ⟨c,hc⟩:∃ c,l[e]?=some c:=⟨_,ZA d⟩
   refine ⟨_,rfl,_,rfl,a,_,_,_,rfl,rfl,SqL.of (sm _ _ ha),AH (AR hc),_,rfl,fun H1 s1=>⟨_,rfl,ite2 (fun b=>?_) (fun b=>?_)⟩⟩
   .exact ⟨_,fun _ _ z=>z,_,rfl,_,_,rfl,rfl,l.length - (e+1),by lia,e+1,rfl,rfl,by rw [he,Pp hc b],sm.trans s1⟩
   .exact ⟨_,rfl,VQ (by rw [he,PR hc b]) (q _ (sm.trans s1))⟩
  .have d:¬((e:Int)<((AO l).length:Int)):=fun z=>d (decide_eq_true z)
   rw [nVs_len] at d
   exact ⟨_,rfl,VQ (by rw [he,Na (by lia)]) (q _ sm)⟩
noncomputable def spNeu:Sp:=fun vs H Q _=>∃ (a:Addr) (n bf bh:Nat) (l:List Nat),vs=[.ref a,NV n,NV bf,NV bh]/\H a=some (.lst (AO l))/\l.length<=Nu/\(∀ c∈l,Co c=true) /\
 ∀ H',H' a=some (.lst (AO (Dr.neutrals (n % 2) bh bf l)))->Keep a H H'->Q .non H'
theorem GR (D:Dfn K mg "settle_neutrals" Cl ["kinds","level","before","behind"]) (T:BX mg) (C_end_of_row:Ak P w K mg base 4 "end_of_row" ["kinds","start"] spEnd)
  (C_side_of:Ak P w K mg base 1 "side_of" ["kind"] spSide) (C_side_of_level:Ak P w K mg base 1 "side_of_level" ["level"] spSol) :
  Ak P w K mg base 5 "settle_neutrals" ["kinds","level","before","behind"] spNeu:=by
 refine D.ok sc_settle_neutrals (fun vs H Q E h=>?_) (fun f cdv A outer s H vs Q E hr h=>?_)
 .obtain ⟨a,n,bf,bh,l,rfl,_⟩:=h
  rfl
 .obtain ⟨a,n,bf,bh,l,rfl,ha,hl,hf,q⟩:=h
  refine ⟨_,(A3 (AF (i:=4) sc_settle_neutrals.nd rfl (Or.inl rfl) A7)
   (A5 (DG PassesOwn.never (AA Ep (pv 4) (AM (AK (K:=K) rfl) (by rfl) T.b_len PySem.boot_len (A0 (pv 0) A4)) (AG _))
   (A3 (AF (i:=5) sc_settle_neutrals.nd rfl (Or.inl rfl) (BI C_end_of_row hr (A0 (pv 0) (A0 (pv 4) A4))))
    (A3 (AF (i:=6) sc_settle_neutrals.nd rfl (Or.inl rfl) (EU (Aw (AA Af (pv 4) A7 (AG _)) (pv 2) (BI C_side_of hr (A0 (AE (A9 (K:=K) rfl) (pv 0) (Ab Dn (pv 4) A7) (fun _ _=>rfl)) A4)))))
    (A3 (AF (i:=7) sc_settle_neutrals.nd rfl (Or.inl rfl) (EU (Aw (AA Af (pv 5) (AM (AK (K:=K) rfl) (by rfl) T.b_len PySem.boot_len (A0 (pv 0) A4)) (AG _)) (pv 3) (BI C_side_of hr (A0 (AE (A9 (K:=K) rfl) (pv 0) (pv 5) (fun _ _=>rfl)) A4)))))
    (A3 (AF (i:=8) sc_settle_neutrals.nd rfl (Or.inl rfl) (EU (Aw (AA Af (pv 6) (pv 7) (AG _)) (pv 6) (BI C_side_of_level hr (A0 (pv 1) A4)))))
    (A3 (Ao PassesOwn.never rfl (Fs rfl T.b_range (A0 (pv 4) (A0 (pv 5) A4))) (AS (i:=9) sc_settle_neutrals.nd rfl (Or.inl rfl))
    (A5 (C4 (pv 8) (C8 (pv 0) (pv 9) BD))))
    (A5 (AF (i:=4) sc_settle_neutrals.nd rfl (Or.inl rfl) (Ab Ag (pv 5) A7))))))))))),?_⟩
  have hl2:l.length<=100000:=hl
  have hN:=Da (n % 2) bh bf l
  generalize hNN:Dr.neutrals (n % 2) bh bf l=N at q hN
  refine ⟨fun m σ H'=>∃ (st:Nat) (v5 v6 v7 v8 v9:Option V),σ=[some (.ref a),some (NV n),some (NV bf),some (NV bh),some (NV st),v5,v6,v7,v8,v9]/\Keep a H H' /\
    ((∃ (don:List Nat) (p:Nat),st<=l.length/\don.length=st/\H' a=some (.lst (AO (don++l.drop st)))/\N=don++Dr.neutrals (n % 2) bh p (l.drop st)/\m=l.length+1 - st/\((st=0/\p=bf)\/∃ c,don[st - 1]?=some c/\0<st/\Ci c=some p)) \/
     (st=l.length+1/\m=0/\H' a=some (.lst (AO N)))),
   ⟨l.length+1,0,none,none,none,none,none,rfl,Keep.refl _ _,.inl ⟨[],bf,Nat.zero_le _,rfl,ha,hNN.symm,rfl,.inl ⟨rfl,rfl⟩⟩⟩,?_⟩
  rintro m σ H' ⟨st,v5,v6,v7,v8,v9,rfl,kp,⟨don,p,hst,hdl,hA,hNe,rfl,hp⟩ | ⟨hst,rfl,hA⟩⟩
  .have hcl:(don++l.drop st).length=l.length:=by rw [List.length_append,List.length_drop,hdl];lia
   have hcn:(AO (don++l.drop st)).length=l.length:=by rw [nVs_len,hcl]
   refine ⟨_,rfl,_,rfl,a,_,rfl,.inl (SqL.of hA),_,_,rfl,rfl,_,rfl,ite2 (fun d=>?_) (fun d=>?_)⟩
   .have d:=of_decide_eq_true d
    have d:st<l.length:=by lia
    refine ⟨_,fun _ _ z=>z,?_⟩
    refine ⟨_,rfl,_,rfl,a,st,_,rfl,hA,fun H1 s1=>?_⟩
    have er:DP (don++l.drop st) st=st+((l.drop st).takeWhile BA).length:=by
     unfold DP
     rw [<-hdl,List.drop_left]
    rw [er]
    have spl:l.drop st=(l.drop st).takeWhile BA++(l.drop st).dropWhile BA:=List.takeWhile_append_dropWhile.symm
    have dl:(l.drop st).length=l.length - st:=List.length_drop
    have segN:∀ c∈(l.drop st).takeWhile BA,Co c=true/\BA c=true:=fun c hc=>⟨hf c (List.mem_of_mem_drop ((List.takeWhile_sublist BA).mem hc)),by
     have z:=List.all_takeWhile (p:=BA) (l:=l.drop st)
     rw [List.all_eq_true] at z
     exact z c hc⟩
    have hrest:∀ c r,(l.drop st).dropWhile BA=c::r->¬BA c=true:=fun c r e=>by
     have z:=List.head?_dropWhile_not BA (l.drop st)
     rw [e] at z
     simpa using z
    generalize (l.drop st).takeWhile BA=seg at spl segN
    generalize (l.drop st).dropWhile BA=rest at spl hrest
    have hsl:st+seg.length+rest.length=l.length:=by
     rw [spl,List.length_append] at dl
     lia
    have hA1:=s1 _ _ hA
    rw [spl] at hA1 hNe
    rw [HV _ _ _ _ _ segN] at hNe
    -- left
    refine ⟨fun x H2=>x=NV p/\Same H1 H2,⟨_,rfl,rfl,_,rfl,ite2 (fun z=>?_) (fun z=>?_)⟩,?_⟩
    .have z:st=0:=Dh z
     rcases hp with ⟨_,rfl⟩ | ⟨_,_,h0,_⟩
     .exact ⟨_,rfl,rfl,Same.refl _⟩
     .lia
    .have z:¬st=0:=E9 z
     rcases hp with ⟨z0,_⟩ | ⟨c,hc,h0,hs⟩
     .exact absurd z0 z
     .refine ⟨_,rfl,_,rfl,_,_,rfl,rfl,a,_,_,_,rfl,rfl,SqL.of hA1,FG (j:=st - 1) (n:=c) (by lia) (by rw [List.getElem?_append_left (by lia)];exact hc),c,rfl,fun H2 s2=>⟨?_,s2⟩⟩
      rw [hs]
      rfl
    rintro _ H2 ⟨rfl,s2⟩
    -- right
    have hA2:=s2 _ _ hA1
    have hr2:(AO (don++(seg++rest))).length=l.length:=by rw [nVs_len,List.length_append,List.length_append,hdl];lia
    refine ⟨fun x H3=>x=NV (Dr.nextDir bh rest)/\Same H2 H3,⟨_,rfl,_,rfl,a,_,rfl,.inl (SqL.of hA2),rfl,_,rfl,ite2 (fun z=>?_) (fun z=>?_)⟩,?_⟩
    .have z:st+seg.length=_:=Dh z
     have e:rest=[]:=List.eq_nil_of_length_eq_zero (by lia)
     subst e
     exact ⟨_,rfl,rfl,Same.refl _⟩
    .have z:¬st+seg.length=_:=E9 z
     cases hrr:rest with
     | nil=>subst hrr;simp at hsl;lia
     | cons c r =>
      subst hrr
      have nc:=hrest c r rfl
      have fc:Co c=true:=hf c (List.mem_of_mem_drop (i:=st) (by rw [spl];simp))
      obtain ⟨x,h1,h2,_⟩:=Hz fc nc
      refine ⟨_,rfl,_,rfl,a,_,_,_,rfl,rfl,SqL.of hA2,FG (j:=st+seg.length) (n:=c) rfl (by rw [List.getElem?_append_right (by lia),List.getElem?_append_right (by lia),show st+seg.length - don.length - seg.length=0 by lia];rfl),c,rfl,fun H3 s3=>⟨?_,s3⟩⟩
      rw [h1,Rq bh r fc nc h2]
      rfl
    rintro _ H3 ⟨rfl,s3⟩
    -- side
    have hA3:=s3 _ _ hA2
    refine ⟨fun x H4=>x=NV (if Dr.nextDir bh rest=p then p else n % 2)/\H4=H3,⟨_,rfl,_,rfl,rfl,_,rfl,ite2 (fun z=>?_) (fun z=>?_)⟩,?_⟩
    .have z:p=_:=Dh z
     exact ⟨_,rfl,by rw [if_pos z.symm],rfl⟩
    .have z:¬p=_:=E9 z
     refine ⟨_,rfl,n,rfl,by rw [if_neg (fun y=>z y.symm)],rfl⟩
    rintro _ H4 ⟨rfl,rfl⟩
    generalize (if Dr.nextDir bh rest=p then p else n % 2)=v at hNe
    -- the row
    refine ⟨_,rfl,_,rfl,_,_,rfl,⟨by lia,by lia,by lia,by lia⟩,F6 (lo:=st) (n:=(((st+seg.length:Nat):Int) - (st:Int)).toNat) (fun i σ H'=>∃ w9:Option V,σ=[some (.ref a),some (NV n),some (NV bf),some (NV bh),some (NV st),some (NV (st+seg.length)),some (NV p),some (NV (Dr.nextDir bh rest)),some (NV v),w9]/\H' a=some (.lst (AO (don++(List.replicate i v++(seg++rest).drop i))))/\Keep a H H')
     ⟨v9,rfl,hA3,((kp.same s1).same s2).same s3⟩ ?_ ?_⟩
    .rintro i σ H5 hi ⟨w9,rfl,hB,k5⟩
     have hi:i<seg.length:=by lia
     refine ⟨_,rfl,_,rfl,_,rfl,a,_,_,st+i,rfl,rfl,hB,BR (by rw [nVs_len];simp;lia),_,rfl,?_,k5.trans Keep.set⟩
     rw [A2,Bb]
     congr 3
     rw [List.set_append_right _ _ (by lia),List.set_append_right _ _ (by simp;lia)]
     congr 1
     rw [List.length_replicate,hdl,show st+i - st - i=0 by lia,List.drop_eq_getElem_cons (by simp;lia),List.set_cons_zero,List.replicate_succ',List.append_assoc]
     rfl
    .rintro σ H5 ⟨w9,rfl,hB,k5⟩
     rw [show (((st+seg.length:Nat):Int) - (st:Int)).toNat=seg.length by lia,List.drop_left] at hB
     refine ⟨_,rfl,_,_,rfl,rfl,?_⟩
     cases hrr:rest with
     | nil =>
      subst hrr
      refine ⟨0,by lia,st+seg.length+1,_,_,_,_,_,rfl,k5,.inr ⟨by simp at hsl;lia,rfl,?_⟩⟩
      rw [hB,hNe]
      rfl
     | cons c r =>
      subst hrr
      have nc:=hrest c r rfl
      have fc:Co c=true:=hf c (List.mem_of_mem_drop (i:=st) (by rw [spl];simp))
      obtain ⟨x,h1,h2,_⟩:=Hz fc nc
      have edr:l.drop (st+seg.length+1)=r:=by
       have e:l.drop (st+seg.length+1)=(l.drop st).drop (seg.length+1):=by rw [List.drop_drop];congr 1
       rw [e,spl,show seg++c::r=(seg++[c])++r by simp,show seg.length+1=(seg++[c]).length by simp,List.drop_left]
      refine ⟨l.length+1 - (st+seg.length+1),by lia,st+seg.length+1,_,_,_,_,_,rfl,k5,.inl ⟨don++(List.replicate seg.length v++[c]),x,by simp at hsl;lia,by simp;lia,?_,?_,rfl,.inr ⟨c,?_,by lia,h1⟩⟩⟩
      .rw [hB,edr]
       congr 3
       simp
      .rw [hNe,edr,N8 _ _ _ _ fc nc h2]
       simp
      .rw [List.getElem?_append_right (by lia),List.getElem?_append_right (by simp;lia)]
       simp
       rw [show st+seg.length - don.length - seg.length=0 by lia]
       rfl
   .have d:¬((st:Int)<((AO (don++l.drop st)).length:Int)):=fun z=>d (decide_eq_true z)
    have e:l.drop st=[]:=List.drop_eq_nil_of_le (by lia)
    rw [e] at hA hNe
    rw [hNe] at q
    exact q H' hA kp
  .have hcn:(AO N).length=l.length:=by rw [nVs_len,hN]
   refine ⟨_,rfl,_,rfl,a,_,rfl,.inl (SqL.of hA),_,_,rfl,rfl,_,rfl,ite2 (fun d=>?_) (fun d=>?_)⟩
   .have d:=of_decide_eq_true d
    lia
   .exact q H' hA kp
end
abbrev Dj:Stmt:=top 79
theorem sc_kinds_of:AB ["tables","text","kinds","character","kind"] ["tables","text"] (A8 Dj):=⟨rfl,rfl,rfl,by decide +kernel,rfl,by decide +kernel,by decide +kernel⟩
abbrev Hj:Stmt:=top 80
theorem sc_base_of:AB ["tables","text","kinds"] ["tables","text"] (A8 Hj):=⟨rfl,rfl,rfl,by decide +kernel,rfl,by decide +kernel,by decide +kernel⟩
abbrev Jh:Stmt:=top 81
theorem PX:AB ["level","kind"] ["level","kind"] (A8 Jh):=⟨rfl,rfl,rfl,by decide +kernel,rfl,by decide +kernel,by decide +kernel⟩
abbrev BH:Stmt:=Ae (top 82) 0
theorem sc_Paragraph_init:AB ["self","tables","text","base","partners","nested","character","level","forced_kind"] ["self","tables","text","base"] (A8 BH):=⟨rfl,rfl,rfl,by decide +kernel,rfl,by decide +kernel,by decide +kernel⟩
abbrev Am:Stmt:=Ae (top 82) 1
theorem sc_Paragraph_settled_in:AB ["self","sequence","settled","first_kinds","brackets","place"] ["self","sequence"] (A8 Am):=⟨rfl,rfl,rfl,by decide +kernel,rfl,by decide +kernel,by decide +kernel⟩
abbrev B2:Stmt:=Ae (top 82) 2
theorem sc_Paragraph_final_levels:AB ["self","levels","sequence","place","kind"] ["self"] (A8 B2):=⟨rfl,rfl,rfl,by decide +kernel,rfl,by decide +kernel,by decide +kernel⟩
theorem OV {K:PySem.W.Frag} {a b:Addr} {xs ys:List V} {g:TG} {tb:TS} {D:HW} {σ:L2.St} {H:Hp} (Pv:Nat->L2.St->Hp->Prop) (h0:Pv 0 σ H) (hl:∀ i σ H,Pv i σ H->SqL K H a xs/\SqL K H b ys) (hlen:xs.length=ys.length)
  (hs:∀ (i:Nat) (x y:V) (T:Addr) (σ:L2.St) (H:Hp),xs[i]?=some x->ys[i]?=some y->Pv i σ H->H T=none->g (.ref T) σ (upd H T (.tup [x,y])) fun σ2 H2=>tb { D with nx:=Pv (i+1),ct:=Pv (i+1),bk:=D.nx } σ2 H2) (hd:∀ σ H,Pv xs.length σ H->D.nx σ H) :
  ∃ W:Nat->Nat->L2.St->Hp->Prop,(∃ m,W 0 m σ H)/\∀ i m σ H,W i m σ H ->
   ((UQ K a b).stop i H/\D.nx σ H)\/((UQ K a b).go i H/\∃ N:L2.St->Hp->Prop,(∀ σ' H',N σ' H'->∃ m',m'<m/\W (i+1) m' σ' H')/\∀ x H',(UQ K a b).yld i H x H'->g x σ H' fun σ2 H2=>tb { D with nx:=N,ct:=N,bk:=D.nx } σ2 H2):=by
 refine ⟨fun i m σ H=>m=xs.length - i/\i<=xs.length/\Pv i σ H,⟨xs.length,by simp,Nat.zero_le _,h0⟩,?_⟩
 rintro i m σ H ⟨rfl,hi,p⟩
 obtain ⟨q1,q2⟩:=hl i σ H p
 by_cases hlt:i<xs.length
 .have hlt2:i<ys.length:=by lia
  refine .inr ⟨⟨xs,ys,xs[i],ys[i],q1,q2,by simp [hlt],by simp [hlt2]⟩,Pv (i+1),fun σ' H' p'=>⟨xs.length - (i+1),by lia,rfl,hlt,p'⟩,fun v H' z=>?_⟩
  obtain ⟨T,x,y,rfl,hT,rfl,h1,h2⟩:=z
  exact hs i x y T σ H (h1 xs q1) (h2 ys q2) p hT
 .have e:i=xs.length:=by lia
  subst e
  exact .inl ⟨⟨xs,ys,q1,q2,.inl (Nat.le_refl _)⟩,hd σ H p⟩
section
variable {P:Program} {w:World} {K:PySem.W.Frag} {mg:Str->Option Value} {base:Heap} {CT:Addr}
noncomputable def Cp (t:Dr.Tables) (text:List Nat):List Nat:=text.map fun c=>(Dr.look t c).cls
noncomputable def spKinds (C:Addr):Sp:=fun vs H Q _=>∃ (x a:Addr) (t:Dr.Tables) (text:List Nat),vs=[.ref x,.ref a]/\TabAt C H x t/\H a=some (.lst (AO text))/\text.length<=1000/\∀ (H':Hp) (r:Addr),Same H H'->H r=none->H' r=some (.lst (AO (Cp t text)))->Q (.ref r) H'
theorem NH (D:Dfn K mg "kinds_of" Dj ["tables","text"]) (T:BX mg) (M_Tables_kind_of:Cb P w K mg base 1 CT "kind_of" ["self","character"] (spKind CT)):Ak P w K mg base 2 "kinds_of" ["tables","text"] (spKinds CT):=by
 refine D.ok sc_kinds_of (fun vs H Q E h=>?_) (fun f cdv A outer s H vs Q E hr h=>?_)
 .obtain ⟨x,a,t,text,rfl,_⟩:=h
  rfl
 .obtain ⟨x,a,t,text,rfl,hT,ha,hl,q⟩:=h
  refine ⟨_,(A3 (Cd (i:=2) rfl sc_kinds_of.nd rfl rfl (Dc rfl rfl (by decide +kernel) (by decide +kernel)) (B6 (pv 1)) (own:=[("character",3)]) (BE (show FK ["tables","text","kinds","character","kind"] (A8 Dj) _ [("character",3)]=true from by decide +kernel)) (fun _ _ _ _ _=>(AS (i:=3) sc_kinds_of.nd rfl (Or.inl rfl))) (fun _ _ _ _ _=>Ba) (fun _ _ _ _ _=>(JA M_Tables_kind_of hr (pv 0) (A0 (pv 3) A4))))
   (A5 (AD (JH rfl sc_kinds_of.nd (B6 (pv 2)) (own:=[("kind",4)]) (BE (show FK ["tables","text","kinds","character","kind"] (A8 Dj) _ [("kind",4)]=true from by decide +kernel)) (fun _ _ _ _ _=>(AS (i:=4) sc_kinds_of.nd rfl (Or.inl rfl))) (fun _ _ _ _ _=>Ba) (fun _ _ _ _ _=>(Aw (AA Af (pv 4) (B4 T.c_B) (AG _)) (B4 T.c_S) (pv 4))))))),?_⟩
  refine ⟨_,rfl,_,rfl,(Ee ha),fun r1 hr1=>?_⟩
  refine CB (ys:=AO (text.map t.classOf)) ha hr1 (by simp) (by simp;lia) (fun i v y H1 R F hx hy s1 k=>?_) (fun H1 s1 h1=>?_)
  .obtain ⟨c,hc,rfl⟩:=BV hx
   have hy':y=NV (t.classOf c):=by
    unfold AO at hy
    rw [List.getElem?_map,List.getElem?_map,hc] at hy
    exact (ZC hy).symm
   subst hy'
   have hT1:=hT.same s1
   obtain ⟨_,dx,r,b,m,rts,kvs,hx1,_⟩:=hT1.ex
   refine ⟨rfl,⟨_,rfl,_,_,_,rfl,kvs,rfl,_,rfl,_,_,_,rfl,(TabAt.same hT1 (Same.refl _)),?_⟩⟩
   exact k _ (Same.refl _)
  refine ⟨_,rfl,_,rfl,(Ee h1),fun r2 hr2=>?_⟩
  refine CB (ys:=AO (Cp t text)) h1 hr2 (by simp [Cp]) (by simp;lia) (fun i v y H2 R F hx hy s2 k=>?_) (fun H2 s2 h2=>?_)
  .obtain ⟨c,hc,rfl⟩:=BV hx
   rw [List.getElem?_map] at hc
   obtain ⟨ch,hch,rfl⟩:=Option.map_eq_some_iff.mp hc
   have hy':y=NV (if t.classOf ch=10 then 11 else t.classOf ch):=by
    unfold AO Cp at hy
    rw [List.getElem?_map,List.getElem?_map,hch] at hy
    exact (ZC hy).symm
   subst hy'
   refine ⟨rfl,⟨_,rfl,rfl,_,rfl,?_⟩⟩
   walk_at "?d"
   .skip
    rw [if_pos d] at k
    exact k _ (Same.refl _)
   .refine ⟨_,rfl,?_⟩
    rw [if_neg d] at k
    exact k _ (Same.refl _)
  exact q H2 r2 (s1.trans s2) (none_of s1 hr2) h2
noncomputable def spBaseOf (C:Addr):Sp:=fun vs H Q _=>∃ (x a:Addr) (t:Dr.Tables) (text:List Nat),vs=[.ref x,.ref a]/\TabAt C H x t/\H a=some (.lst (AO text))/\text.length<=1000/\∀ (H':Hp),Same H H'->Q (NV (Dr.baseOf (Cp t text))) H'
theorem NW (D:Dfn K mg "base_of" Hj ["tables","text"]) (T:BX mg) (C_kinds_of:Ak P w K mg base 2 "kinds_of" ["tables","text"] (spKinds CT)) (C_partners_of:Ak P w K mg base 2 "partners_of" ["kinds"] spParts)
  (C_base_between:Ak P w K mg base 2 "base_between" ["kinds","partners","start","end"] spBetween):Ak P w K mg base 3 "base_of" ["tables","text"] (spBaseOf CT):=by
 refine D.ok sc_base_of (fun vs H Q E h=>?_) (fun f cdv A outer s H vs Q E hr h=>?_)
 .obtain ⟨x,a,t,text,rfl,_⟩:=h
  rfl
 .obtain ⟨x,a,t,text,rfl,hT,ha,hl,q⟩:=h
  refine ⟨_,(A3 (AF (i:=2) sc_base_of.nd rfl (Or.inl rfl) (BI C_kinds_of hr (A0 (pv 0) (A0 (pv 1) A4))))
   (A5 (AD (BI C_base_between hr (A0 (pv 2) (A0 (BI C_partners_of hr (A0 (pv 2) A4)) (A0 A7 (A0 (AM (AK (K:=K) rfl) (by rfl) T.b_len PySem.boot_len (A0 (pv 2) A4)) A4)))))))),?_⟩
  refine ⟨_,rfl,_,rfl,_,_,_,_,rfl,(TabAt.same hT (Same.refl _)),ha,hl,fun H1 r s1 hr0 h1=>⟨_,rfl,_,rfl,_,_,rfl,h1,by
   show _<=100000
   unfold Cp
   rw [ZE]
   lia,?_⟩⟩
  refine fun H2 p ps s2 hp0 h2 hP=>⟨_,rfl,_,_,rfl,(Bn (s2 _ _ h1)),_,_,_,_,_,_,_,_,rfl,(s2 _ _ h1),h2,hP,by
   rw [nVs_len]
   exact BInv.startAll _,?_⟩
  refine fun H3 s3=>?_
  exact q _ ((s1.trans s2).trans s3)
noncomputable def spRaised:Sp:=fun vs H Q _=>∃ n c:Nat,vs=[NV n,NV c]/\∀ H',Same H H'->Q (NV (Dr.levelOf n c)) H'
theorem PV (D:Dfn K mg "raised" Jh ["level","kind"]) (T:BX mg):Ak P w K mg base 1 "raised" ["level","kind"] spRaised:=by
 refine D.ok PX (fun vs H Q E h=>?_) (fun f cdv A outer s H vs Q E hr h=>?_)
 .obtain ⟨n,c,rfl,_⟩:=h
  rfl
 .obtain ⟨n,c,rfl,q⟩:=h
  refine ⟨_,(A3 (AU (AA Af (Ab JM (pv 0) A7) A7 (AG _))
   (A3 (AU (AA Af (pv 1) (B4 T.c_R) (AG _))
    (A5 (AD (Ab Ag (pv 0) A7)))
    AJ)
    (A5 (AD (Aw (AA B8 (pv 1) (Bq (A0 (B4 T.c_AN) (A0 (B4 T.c_EN) A4))) (by with_unfolding_all rfl)) (Ab Ag (pv 0) A7) (pv 0)))))
   AJ)
   (A5 (AD (Aw (AA B8 (pv 1) (Bq (A0 (B4 T.c_L) (A0 (B4 T.c_EN) (A0 (B4 T.c_AN) A4)))) (by with_unfolding_all rfl)) (Ab Ag (pv 0) A7) (pv 0))))),?_⟩
  have hlv:Dr.levelOf n c=if n % 2=0 then (if c=1 then n+1 else if c=4\/c=3 then n+2 else n) else (if c=0\/c=3\/c=4 then n+1 else n):=rfl
  rw [hlv] at q
  clear hlv
  refine ⟨_,rfl,_,_,rfl,rfl,(by lia),rfl,_,rfl,?_⟩
  walk_at "?d"
  .rw [if_pos (by lia)] at q
   refine ⟨_,rfl,rfl,_,rfl,?_⟩
   walk_at "?d2"
   .rw [if_pos d2] at q
    refine ⟨_,rfl,_,_,rfl,rfl,?_⟩
    exact q _ (Same.refl _)
   .rw [if_neg d2] at q
    refine ⟨_,rfl,(BL rfl),fun t1 ht1=>⟨_,_,rfl,(Rk A2),rfl,rfl,_,rfl,?_⟩⟩
    walk_at "?d3"
    .rw [if_pos d3] at q
     refine ⟨_,rfl,_,_,rfl,rfl,?_⟩
     exact q _ (Same.upd ht1)
    .rw [if_neg (by lia)] at q
     refine ⟨_,rfl,?_⟩
     exact q _ (Same.upd ht1)
  .rw [if_neg (by lia)] at q
   refine ⟨_,rfl,(BL rfl),fun t1 ht1=>⟨_,_,rfl,(Rk A2),rfl,rfl,_,rfl,?_⟩⟩
   walk_at "?d3"
   .rw [if_pos d3] at q
    refine ⟨_,rfl,_,_,rfl,rfl,?_⟩
    exact q _ (Same.upd ht1)
   .rw [if_neg (by lia)] at q
    refine ⟨_,rfl,?_⟩
    exact q _ (Same.upd ht1)
end
theorem TabAt.keep {C C':Addr} {H H':Hp} {tx x dx:Addr} {fs:List (Str×V)} {t:Dr.Tables} (p:TabAt C H tx t) (hx:H x=some (.ins C' dx fs)) (n:tx≠x) (k:Keep x H H'):TabAt C H' tx t:=by
 obtain ⟨ok,dx,r,b,m,rts,kvs,h1,h2,h3,h4,h5,h6⟩:=p
 have tup:∀ u xs,H u=some (.tup xs)->H' u=some (.tup xs):=fun u xs h=>k _ _ h (AW h hx nofun)
 exact ⟨ok,dx,r,b,m,rts,kvs,k _ _ h1 n,k _ _ h2 (AW h2 hx nofun),h3.mono tup,k _ _ h4 (AW h4 hx nofun),h5.mono tup,k _ _ h6 (AW h6 hx nofun)⟩
structure Lf (K:PySem.W.Frag) (C:Addr):Prop where
 cl:Cls K C
 f1:NoAttr K C "base"
 f2:NoAttr K C "kinds"
 f3:NoAttr K C "brackets"
 f4:NoAttr K C "forced_kinds"
 f5:NoAttr K C "sequences"
noncomputable def VR (b:Nat) (k br fo sq:Addr):List (Str×V):=[("base",NV b),("kinds",.ref k),("brackets",.ref br),("forced_kinds",.ref fo),("sequences",.ref sq)]
structure ParAt (C CS:Addr) (H:Hp) (x:Addr) (l:List Dr.Look) (b:Nat):Prop where
 ex:∃ dx k br fo sq vb ss,H x=some (.ins C dx (VR b k br fo sq))/\H k=some (.lst (AO (l.map Dr.Look.cls)))/\H br=some (.lst vb)/\BrAt H vb (l.map Dr.Look.bracket)/\H fo=some (.lst (AO ((Ad (l.map Dr.Look.cls) (m0 b)).map Prod.snd))) /\
  H sq=some (.lst (ss.map V.ref))/\SeqsAt CS H sq ss ((Ay (l.map Dr.Look.cls) b).map (BZ l b))
theorem ParAt.same {C CS:Addr} {H H':Hp} {x:Addr} {l:List Dr.Look} {b:Nat} (p:ParAt C CS H x l b) (s:Same H H'):ParAt C CS H' x l b:=by
 obtain ⟨dx,k,br,fo,sq,vb,ss,h1,h2,h3,h4,h5,h6,h7⟩:=p.ex
 exact ⟨dx,k,br,fo,sq,vb,ss,s _ _ h1,s _ _ h2,s _ _ h3,h4.same s,s _ _ h5,s _ _ h6,h7.same s⟩
section
variable {P:Program} {w:World} {K:PySem.W.Frag} {mg:Str->Option Value} {base:Heap} {CT CP CS:Addr}
noncomputable def AV (t:Dr.Tables) (text:List Nat):List Dr.Look:=text.map (Dr.look t)
theorem Eg (t:Dr.Tables) (text:List Nat):(AV t text).map Dr.Look.cls=Cp t text:=by
 unfold AV Cp
 rw [List.map_map]
 rfl
theorem Qx (t:Dr.Tables) (text:List Nat):(AV t text).map Dr.Look.bracket=text.map t.pairOf:=by
 unfold AV
 rw [List.map_map]
 rfl
noncomputable def spPar (C CS CT:Addr):Sp:=fun vs H Q _=>∃ (x dx tx a:Addr) (t:Dr.Tables) (text:List Nat) (b:Nat),vs=[.ref x,.ref tx,.ref a,NV b]/\H x=some (.ins C dx [])/\tx≠x/\TabAt CT H tx t/\H a=some (.lst (AO text))/\text.length<=1000 /\
 ∀ H',ParAt C CS H' x (AV t text) b->Keep x H H'->Q .non H'
theorem LW (D:Dmk K mg CP "Paragraph" "Paragraph.__init__" BH ["self","tables","text","base"]) (T:BX mg) (F:Lf K CP) (C_kinds_of:Ak P w K mg base 2 "kinds_of" ["tables","text"] (spKinds CT)) (M_Tables_bracket_of:Cb P w K mg base 1 CT "bracket_of" ["self","character"] (spBrOf CT))
  (C_partners_of:Ak P w K mg base 2 "partners_of" ["kinds"] spParts) (C_settle_begins:Ak P w K mg base 5 "settle_begins" ["kinds","partners","base"] spBegins) (C_sequences_of:Ak P w K mg base 4 "sequences_of" ["kinds","partners","levels","base"] (spSeqs CS)) :
  Kg P w K mg base 6 CP "Paragraph" ["self","tables","text","base"] (spPar CP CS CT):=by
 refine D.ok sc_Paragraph_init (fun vs H Q E h=>?_) (fun f cdv A outer s H vs Q E hr h=>?_)
 .obtain ⟨x,dx,tx,a,t,text,b,rfl,_⟩:=h
  rfl
 .obtain ⟨x,dx,tx,a,t,text,b,rfl,hx,htx,hT,ha,hl,q⟩:=h
  obtain ⟨cl,f1,f2,f3,f4,f5⟩:=F
  refine ⟨_,(A3 (BF (pv 0) (pv 3) rfl)
   (A3 (BF (pv 0) (BI C_kinds_of hr (A0 (pv 1) (A0 (pv 2) A4))) rfl)
   (A3 (BF (pv 0) (JH rfl sc_Paragraph_init.nd (B6 (pv 2)) (own:=[("character",6)]) (BE (show FK ["self","tables","text","base","partners","nested","character","level","forced_kind"] (A8 BH) _ [("character",6)]=true from by decide +kernel)) (fun _ _ _ _ _=>(AS (i:=6) sc_Paragraph_init.nd rfl (Or.inl rfl))) (fun _ _ _ _ _=>Ba) (fun _ _ _ _ _=>(JA M_Tables_bracket_of hr (pv 1) (A0 (pv 6) A4)))) rfl)
   (A3 (AF (i:=4) sc_Paragraph_init.nd rfl (Or.inl rfl) (BI C_partners_of hr (A0 (AI (K:=K) rfl (pv 0) rfl) A4)))
   (A3 (AF (i:=5) sc_Paragraph_init.nd rfl (Or.inl rfl) (BI C_settle_begins hr (A0 (AI (K:=K) rfl (pv 0) rfl) (A0 (pv 4) (A0 (pv 3) A4)))))
   (A3 (BF (pv 0) (JH rfl sc_Paragraph_init.nd (B6 (pv 5)) (own:=[("level",7),("forced_kind",8)]) (BE (show FK ["self","tables","text","base","partners","nested","character","level","forced_kind"] (A8 BH) _ [("level",7),("forced_kind",8)]=true from by decide +kernel)) (fun _ _ _ _ _=>(J2 (K:=K) (n:=2) rfl rfl (DJ (AS (i:=7) sc_Paragraph_init.nd rfl (Or.inl rfl)) (DJ (AS (i:=8) sc_Paragraph_init.nd rfl (Or.inl rfl)) Ir)))) (fun _ _ _ _ _=>Ba) (fun _ _ _ _ _=>(pv 8))) rfl)
   (A5 (BF (pv 0) (BI C_sequences_of hr (A0 (AI (K:=K) rfl (pv 0) rfl) (A0 (pv 4) (A0 (JH rfl sc_Paragraph_init.nd (B6 (pv 5)) (own:=[("level",7),("forced_kind",8)]) (BE (show FK ["self","tables","text","base","partners","nested","character","level","forced_kind"] (A8 BH) _ [("level",7),("forced_kind",8)]=true from by decide +kernel)) (fun _ _ _ _ _=>(J2 (K:=K) (n:=2) rfl rfl (DJ (AS (i:=7) sc_Paragraph_init.nd rfl (Or.inl rfl)) (DJ (AS (i:=8) sc_Paragraph_init.nd rfl (Or.inl rfl)) Ir)))) (fun _ _ _ _ _=>Ba) (fun _ _ _ _ _=>(pv 7))) (A0 (pv 3) A4))))) rfl)))))))),?_⟩
  have hax:a≠x:=AW ha hx nofun
  have hrow:=Eg t text
  have hbr:=Qx t text
  have hrl:(Cp t text).length=text.length:=by unfold Cp;rw [ZE]
  have hrl2:(Cp t text).length<=10000:=by lia
  refine ⟨_,rfl,_,rfl,_,_,_,_,rfl,hx,cl,f1,(BL rfl),_,rfl,_,rfl,_,_,_,_,rfl,(TabAt.keep hT hx htx (Keep.viaU (Keep.refl _ _) (.inl rfl))),(A6 ha hax),hl,fun H1 k s1 hk0 h1k=>⟨_,rfl,_,_,_,_,rfl,(s1 _ _ A2),cl,f2,(BL rfl),_,rfl,_,rfl,(Ee (A6 (s1 _ _ (A6 ha hax)) hax)),fun br hbr0=>?_⟩⟩
  have hkx:k≠x:=(A1 A2 hk0).symm
  generalize hHA:upd H1 x (HO.ins CP dx (Cm "kinds" (V.ref k) (Cm "base" (NV b) [])))=HA at *
  have kA:Keep x H HA:=by rw [<-hHA];exact Keep.viaU (Keep.viaS (Keep.viaU (Keep.refl _ _) (.inl rfl)) s1) (.inl rfl)
  have hAx:HA x=some (.ins CP dx [("base",NV b),("kinds",.ref k)]):=by rw [<-hHA,A2];rfl
  have hAk:HA k=some (.lst (AO (Cp t text))):=by rw [<-hHA];exact A6 h1k hkx
  have hAT:TabAt CT HA tx t:=hT.keep hx htx kA
  have hAa:HA a=some (.lst (AO text)):=kA _ _ ha hax
  have hbig:(Cp t text).length<=Nu:=Nat.le_trans hrl2 (by decide)
  clear hHA s1 h1k hk0
  refine Og (xs:=AO text) (fun i H'=>Bk (∃ vb:List V,Same HA H'/\H' br=some (.lst vb)/\BrAt H' vb ((text.map t.pairOf).take i))) ?_ (fun i H2 _ h=>?_) (fun i y H2 hy h=>?_) (fun H2 h=>?_)
  .exact ⟨[],Same.set (Same.refl _) hbr0,A2,⟨rfl,fun i v b h=>by simp at h⟩⟩
  .obtain ⟨vb,s2,_⟩:=h
   exact SqL.of (s2 _ _ hAa)
  .obtain ⟨vb,s2,h2b,hB⟩:=h
   obtain ⟨c,hc,rfl⟩:=BV hy
   have hil:=(ZB.mp hc).1
   have hT2:=hAT.same s2
   obtain ⟨_,dxt,r,bb,mm,rts,kvs,hx1,_⟩:=hT2
   have hT2:=hAT.same s2
   have hbl:=hB.len
   rw [List.length_take,ZE] at hbl
   refine ⟨rfl,⟨_,rfl,_,_,_,rfl,hx1,rfl,_,rfl,_,_,_,rfl,(TabAt.same hT2 (Same.refl _)),fun v hv=>⟨_,h2b,(DT (by lia)),?_⟩⟩⟩
   refine ⟨vb++[v],Same.set s2 hbr0,A2,?_⟩
   have hB2:BrAt (upd H2 br (.lst (vb++[v]))) vb ((text.map t.pairOf).take i):=hB.mono fun u xs h=>by rw [AQ (AW h h2b nofun)];exact h
   refine ⟨by simp;lia,fun j u o h1 h4=>?_⟩
   by_cases ej:j<vb.length
   .rw [List.getElem?_append_left ej] at h1
    rw [List.getElem?_take,if_pos (by lia)] at h4
    exact hB2.get j u o h1 (by rw [List.getElem?_take,if_pos (by lia)];exact h4)
   .rw [List.getElem?_append_right (by lia)] at h1
    have ej2:j=i:=by
     have:=(ZB.mp h4).1
     rw [List.length_take,ZE] at this
     lia
    subst ej2
    rw [List.getElem?_take,if_pos (by lia),List.getElem?_map,hc] at h4
    cases h4
    rw [show j - vb.length=0 by lia] at h1
    cases h1
    exact hv.mono fun u xs h=>by rw [AQ (AW h h2b nofun)];exact h
  obtain ⟨vb,s2,h2b,hB⟩:=h
  rw [nVs_len,List.take_of_length_le (by rw [ZE];exact Nat.le_refl _)] at hB
  have hbx:br≠x:=(A1 hAx hbr0).symm
  refine ⟨_,rfl,_,_,_,_,rfl,(s2 _ _ hAx),cl,f3,(BL rfl),_,rfl,_,_,_,_,_,rfl,A2,cl,f2,rfl,_,_,rfl,(A6 (s2 _ _ hAk) hkx),hbig,fun H3 p ps s3 hp0 h3p hPa=>⟨_,rfl,_,_,_,_,_,rfl,(s3 _ _ A2),cl,f2,rfl,_,rfl,_,rfl,_,_,_,_,_,rfl,(s3 _ _ (A6 (s2 _ _ hAk) hkx)),h3p,hPa,hrl2,fun H4 ns nts s4 hns h4n hPr=>⟨_,rfl,_,rfl,(Ee h4n),fun fo hfo=>?_⟩⟩⟩
  generalize hHB:upd H2 x (HO.ins CP dx (Cm "brackets" (V.ref br) [("base",NV b),("kinds",V.ref k)]))=HB at *
  have kB:Keep x HA HB:=by rw [<-hHB];exact Keep.viaU (Keep.viaS (Keep.refl _ _) s2) (.inl rfl)
  have hBx:HB x=some (.ins CP dx [("base",NV b),("kinds",.ref k),("brackets",.ref br)]):=by rw [<-hHB,A2];rfl
  have hBk:HB k=some (.lst (AO (Cp t text))):=kB _ _ hAk hkx
  have hBb:HB br=some (.lst vb):=by rw [<-hHB];exact A6 h2b hbx
  have hBr:BrAt HB vb (text.map t.pairOf):=by
   rw [<-hHB]
   have h2x:=s2 _ _ hAx
   exact hB.mono fun u xs h=>by rw [AQ (AW h h2x nofun)];exact h
  have kB0:Keep x H HB:=Keep.viaK (Keep.viaK (Keep.refl _ _) kA (.inl rfl)) kB (.inl rfl)
  clear hHB s2 h2b hB hAT hAa hAk hAx kA kB hbr0
  have hns2:nts.length=(Cp t text).length:=by rw [hPr.len,Ef]
  generalize hnest:Ad (Cp t text) (m0 b)=nest at *
  have hnl:=hPr.len
  have hpair:∀ (H':Hp),Same H4 H'->∀ (i:Nat) (v:V),(nts.map V.ref)[i]?=some v->∃ (u:Addr) (z:Nat×Nat),v=.ref u/\nest[i]?=some z/\H' u=some (.tup [NV z.1,NV z.2]):=fun H' sH i v hv=>by
   rw [List.getElem?_map] at hv
   obtain ⟨u,hu,rfl⟩:=Option.map_eq_some_iff.mp hv
   have hil:=(ZB.mp hu).1
   have hz:nest[i]?=some nest[i]:=ZA (by lia)
   exact ⟨u,_,rfl,hz,sH _ _ (hPr.get i u _ hu hz)⟩
  refine CB (ys:=AO (nest.map Prod.snd)) h4n hfo (by simp;lia) (by simp;lia) (fun i v y H5 R F hv hy s5 kk=>?_) (fun H5 s5 h5=>?_)
  .obtain ⟨u,z,rfl,hz,hu⟩:=hpair H5 s5 i v hv
   have hy':y=NV z.2:=by
    unfold AO at hy
    rw [List.getElem?_map,List.getElem?_map,hz] at hy
    exact (ZC hy).symm
   subst hy'
   refine ⟨_,_,rfl,(SqT.of hu),rfl,_,_,rfl,_,_,rfl,rfl,rfl,⟨_,rfl,?_⟩⟩
   exact kk _ (Same.refl _)
  have hpx:p≠x:=(A1 hBx hp0).symm
  have hnx:ns≠x:=(A1 (s3 _ _ hBx) hns).symm
  have hfx:fo≠x:=(A1 (s4 _ _ (s3 _ _ hBx)) hfo).symm
  refine ⟨_,rfl,_,_,_,_,rfl,(s5 _ _ (s4 _ _ (s3 _ _ hBx))),cl,f4,(BL rfl),_,rfl,_,_,_,_,_,rfl,A2,cl,f2,rfl,_,rfl,_,rfl,_,rfl,(Ee (A6 (s5 _ _ h4n) hnx)),fun lv hlv=>?_⟩
  generalize hHC:upd H5 x (HO.ins CP dx (Cm "forced_kinds" (V.ref fo) [("base",NV b),("kinds",V.ref k),("brackets",V.ref br)]))=HC at *
  have hx5:H5 x=some (.ins CP dx [("base",NV b),("kinds",V.ref k),("brackets",V.ref br)]):=s5 _ _ (s4 _ _ (s3 _ _ hBx))
  have kC:Keep x H5 HC:=by rw [<-hHC];exact Keep.set
  have hCx:HC x=some (.ins CP dx [("base",NV b),("kinds",.ref k),("brackets",.ref br),("forced_kinds",.ref fo)]):=by rw [<-hHC,A2];rfl
  have sB5:Same HB H5:=(s3.trans s4).trans s5
  have hCk:HC k=some (.lst (AO (Cp t text))):=kC _ _ (sB5 _ _ hBk) hkx
  have hCb:HC br=some (.lst vb):=kC _ _ (sB5 _ _ hBb) hbx
  have tupC:∀ u xs,H5 u=some (.tup xs)->HC u=some (.tup xs):=fun u xs h=>kC _ _ h (AW h hx5 nofun)
  have hCr:BrAt HC vb (text.map t.pairOf):=(hBr.same sB5).mono tupC
  have hCf:HC fo=some (.lst (AO (nest.map Prod.snd))):=kC _ _ h5 hfx
  have hCn:HC ns=some (.lst (nts.map V.ref)):=kC _ _ (s5 _ _ h4n) hnx
  have h3p5:H5 p=some (.lst (J0 ps)):=s5 _ _ (s4 _ _ h3p)
  have hCp:HC p=some (.lst (J0 ps)):=kC _ _ h3p5 hpx
  have kC0:Keep x H HC:=Keep.viaK (Keep.viaS (Keep.viaK (Keep.refl _ _) kB0 (.inl rfl)) sB5) kC (.inl rfl)
  have hpairC:∀ (H':Hp),Same HC H'->∀ (i:Nat) (v:V),(nts.map V.ref)[i]?=some v->∃ (u:Addr) (z:Nat×Nat),v=.ref u/\nest[i]?=some z/\H' u=some (.tup [NV z.1,NV z.2]):=fun H' sH i v hv=>by
   obtain ⟨u,z,e1,e2,e3⟩:=hpair H5 s5 i v hv
   exact ⟨u,z,e1,e2,sH _ _ (tupC _ _ e3)⟩
  clear hHC hpair s5 s4 s3 hBx hBk hBb hBr kB0 kC hx5 sB5 h5 h4n h3p h3p5 hfo hns hp0
  refine CB (ys:=AO (nest.map Prod.fst)) hCn hlv (by simp;lia) (by simp;lia) (fun i v y H6 R F hv hy s6 kk=>?_) (fun H6 s6 h6=>?_)
  .obtain ⟨u,z,rfl,hz,hu⟩:=hpairC H6 s6 i v hv
   have hy':y=NV z.1:=by
    unfold AO at hy
    rw [List.getElem?_map,List.getElem?_map,hz] at hy
    exact (ZC hy).symm
   subst hy'
   refine ⟨_,_,rfl,(SqT.of hu),rfl,_,_,rfl,_,_,rfl,rfl,rfl,⟨_,rfl,?_⟩⟩
   exact kk _ (Same.refl _)
  rw [<-hnest] at *
  rw [<-hrow] at *
  have hll:(AV t text).length<=1000:=by unfold AV;rw [ZE];exact hl
  refine ⟨_,rfl,_,_,_,_,_,_,rfl,(s6 _ _ hCk),(s6 _ _ hCp),h6,hPa,hll,fun H7 S ss s7 hS0 h7S hSA=>⟨_,rfl,_,_,_,_,rfl,(s7 _ _ (s6 _ _ hCx)),cl,f5,(BL rfl),?_⟩⟩
  have hSx:S≠x:=(A1 (s6 _ _ hCx) hS0).symm
  refine q _ ⟨dx,k,br,fo,S,vb,ss,?_,A6 (s7 _ _ (s6 _ _ hCk)) hkx,A6 (s7 _ _ (s6 _ _ hCb)) hbx,?_,A6 (s7 _ _ (s6 _ _ hCf)) hfx,A6 h7S hSx,?_⟩ (Keep.viaU (Keep.viaS (Keep.viaS (Keep.viaK (Keep.refl _ _) kC0 (.inl rfl)) s6) s7) (.inl rfl))
  .rw [A2]
   rfl
  .rw [hbr]
   have h7x:H7 x=some (.ins CP dx [("base",NV b),("kinds",.ref k),("brackets",.ref br),("forced_kinds",.ref fo)]):=s7 _ _ (s6 _ _ hCx)
   exact ((hCr.same s6).same s7).mono fun u xs h=>by rw [AQ (AW h h7x nofun)];exact h
  .have h7x:H7 x=some (.ins CP dx [("base",NV b),("kinds",.ref k),("brackets",.ref br),("forced_kinds",.ref fo)]):=s7 _ _ (s6 _ _ hCx)
   refine ⟨hSA.len,fun i u z h1 h2=>?_⟩
   obtain ⟨du,pu,g1,g2,g3⟩:=hSA.get i u z h1 h2
   have hux:u≠x:=by
    intro e
    rw [e,h7x] at g1
    injection g1 with g1
    injection g1 with _ _ g1
    unfold Uh at g1
    injection g1 with g1 _
    injection g1 with g1 _
    exact absurd g1 (by decide)
   refine ⟨du,pu,by rw [AQ hux];exact g1,by rw [AQ (AW g2 h7x nofun)];exact g2,g3⟩
end
theorem Rx {e bf:Nat} (he:e<2) (hb:bf<2) (brs:List (Option (Nat×Bool))) (first l:List Nat) (h:GF (fun c=>Co c=true) l):GF (fun c=>Co c=true) (brk e bf brs first l):=by
 rw [Of]
 generalize prs l brs=qs
 induction qs generalizing l with
 | nil=>exact h
 | cons q qs ih=>exact ih _ (Rt he hb h)
structure Ol (row:List Nat):Prop where
 ok:∀ c∈row,c<23/\c≠10
 len:row.length<=1000
theorem BrAt.pick {H:Hp} {vb:List V} {l:List Dr.Look} (h:BrAt H vb (l.map Dr.Look.bracket)) (X:List Nat) (hX:∀ i∈X,i<l.length):BrAt H (X.map fun i=>vb.getD i .non) (X.map (QB l)):=by
 refine ⟨by simp,fun i v o h1 h2=>?_⟩
 rw [List.getElem?_map] at h1 h2
 obtain ⟨j,hj,rfl⟩:=Option.map_eq_some_iff.mp h1
 rw [hj] at h2
 have hjl:=hX j (ZD hj)
 have hl:l[j]?=some l[j]:=ZA hjl
 obtain ⟨v,hv,hbv⟩:=h.at (i:=j) (b:=l[j].bracket) (by rw [List.getElem?_map,hl];rfl)
 have e1:vb.getD j .non=v:=getD_some hv
 have e2:QB l j=o:=ZC h2
 have e3:QB l j=l[j].bracket:=by unfold QB;rw [hl];rfl
 rw [e1,<-e2,e3]
 exact hbv
section
variable {P:Program} {w:World} {K:PySem.W.Frag} {mg:Str->Option Value} {base:Heap} {CT CP CS:Addr}
noncomputable def spSettled (CP CS:Addr):Sp:=fun vs H Q _=>∃ (x y dy p:Addr) (l:List Dr.Look) (b:Nat) (X:List Nat),vs=[.ref x,.ref y]/\ParAt CP CS H x l b/\H y=some (.ins CS dy (Uh p (BZ l b X)))/\H p=some (.lst (AO X))/\X∈Ay (l.map Dr.Look.cls) b/\Ol (l.map Dr.Look.cls) /\
 ∀ (H':Hp) (r:Addr),Same H H'->H r=none->H' r=some (.lst (AO (FC l b (BZ l b X))))->Q (.ref r) H'
theorem K7 (D:Dme K CP "settled_in" "Paragraph.settled_in" Am ["self","sequence"]) (T:BX mg) (F:Lf K CP) (G:N9 K CS) (C_settle_numbers:Ak P w K mg base 4 "settle_numbers" ["kinds","before"] (spMut Dr.weak))
  (C_settle_brackets:Ak P w K mg base 4 "settle_brackets" ["kinds","first_kinds","brackets","level","before"] spSetB) (C_settle_neutrals:Ak P w K mg base 5 "settle_neutrals" ["kinds","level","before","behind"] spNeu) :
  Cb P w K mg base 6 CP "settled_in" ["self","sequence"] (spSettled CP CS):=by
 refine D.ok sc_Paragraph_settled_in (fun vs H Q E h=>?_) (fun f cdv A outer s H vs Q E hr h=>?_)
 .obtain ⟨x,y,dy,p,l,b,X,rfl,_⟩:=h
  rfl
 .obtain ⟨x,y,dy,p,l,b,X,rfl,⟨dx,k,br,fo,sq,vb,ss,hx,hk,hbr,hB,hfo,hsq,hS⟩,hy,hp0,hX,hR,q⟩:=h
  obtain ⟨cl,f1,f2,f3,f4,f5⟩:=F
  obtain ⟨gl,g1,g2,g3,g4⟩:=G
  refine ⟨_,(A3 (Cd (i:=2) rfl sc_Paragraph_settled_in.nd rfl rfl (Dc rfl rfl (by decide +kernel) (by decide +kernel)) (B6 (AI (K:=K) rfl (pv 1) rfl)) (own:=[("place",5)]) (BE (show FK ["self","sequence","settled","first_kinds","brackets","place"] (A8 Am) _ [("place",5)]=true from by decide +kernel)) (fun _ _ _ _ _=>(AS (i:=5) sc_Paragraph_settled_in.nd rfl (Or.inl rfl))) (fun _ _ _ _ _=>Ba) (fun _ _ _ _ _=>(AE (A9 (K:=K) rfl) (AI (K:=K) rfl (pv 0) rfl) (pv 5) (fun _ _=>rfl))))
   (A3 (Cd (i:=3) rfl sc_Paragraph_settled_in.nd rfl rfl (Dc rfl rfl (by decide +kernel) (by decide +kernel)) (B6 (AI (K:=K) rfl (pv 1) rfl)) (own:=[("place",5)]) (BE (show FK ["self","sequence","settled","first_kinds","brackets","place"] (A8 Am) _ [("place",5)]=true from by decide +kernel)) (fun _ _ _ _ _=>(AS (i:=5) sc_Paragraph_settled_in.nd rfl (Or.inl rfl))) (fun _ _ _ _ _=>Ba) (fun _ _ _ _ _=>(AE (A9 (K:=K) rfl) (AI (K:=K) rfl (pv 0) rfl) (pv 5) (fun _ _=>rfl))))
   (A3 (Cd (i:=4) rfl sc_Paragraph_settled_in.nd rfl rfl (Dc rfl rfl (by decide +kernel) (by decide +kernel)) (B6 (AI (K:=K) rfl (pv 1) rfl)) (own:=[("place",5)]) (BE (show FK ["self","sequence","settled","first_kinds","brackets","place"] (A8 Am) _ [("place",5)]=true from by decide +kernel)) (fun _ _ _ _ _=>(AS (i:=5) sc_Paragraph_settled_in.nd rfl (Or.inl rfl))) (fun _ _ _ _ _=>Ba) (fun _ _ _ _ _=>(AE (A9 (K:=K) rfl) (AI (K:=K) rfl (pv 0) rfl) (pv 5) (fun _ _=>rfl))))
   (A3 (AX (BI C_settle_numbers hr (A0 (pv 2) (A0 (AI (K:=K) rfl (pv 1) rfl) A4))))
   (A3 (AX (BI C_settle_brackets hr (A0 (pv 2) (A0 (pv 3) (A0 (pv 4) (A0 (AI (K:=K) rfl (pv 1) rfl) (A0 (AI (K:=K) rfl (pv 1) rfl) A4)))))))
   (A3 (AX (BI C_settle_neutrals hr (A0 (pv 2) (A0 (AI (K:=K) rfl (pv 1) rfl) (A0 (AI (K:=K) rfl (pv 1) rfl) (A0 (AI (K:=K) rfl (pv 1) rfl) A4))))))
   (A5 (AD (pv 2))))))))),?_⟩
  have hXl:=Oq hX
  have hrl:=hR.len
  have hXr:∀ i∈X,i<(l.map Dr.Look.cls).length:=fun i hi=>by
   obtain ⟨c,hc,_⟩:=((Geo.of (l.map Dr.Look.cls) b).mem i).mp (HQ hX hi)
   exact (ZB.mp hc).1
  have hXl2:∀ i∈X,i<l.length:=fun i hi=>by have:=hXr i hi;rwa [ZE] at this
  have hok:GF (fun c=>NI c=true) (X.map (Kb (l.map Dr.Look.cls) b)):=fun c hc=>by
   obtain ⟨i,hi,rfl⟩:=List.mem_map.mp hc
   exact Rv hR.ok (HQ hX hi) (UO (HQ hX hi))
  obtain ⟨he1,he2⟩:=Pk l b X
  unfold FC MU at q
  have hpl:(BZ l b X).places=X:=rfl
  rw [hpl] at q
  have hwf:=Pc he1 hok
  have hwl:=KY (BZ l b X).before (X.map (Kb (l.map Dr.Look.cls) b))
  have hbl:=OX ((BZ l b X).level % 2) (BZ l b X).before (X.map (QB l)) (X.map fun i=>(l.map Dr.Look.cls).getD i 0) (Dr.weak (BZ l b X).before (X.map (Kb (l.map Dr.Look.cls) b)))
  have hbf:=Rx (e:=(BZ l b X).level % 2) (by lia) he1 (X.map (QB l)) (X.map fun i=>(l.map Dr.Look.cls).getD i 0) _ hwf
  rw [ZE] at hwl
  have hnl:((Ad (l.map Dr.Look.cls) (m0 b)).map Prod.snd).length=(l.map Dr.Look.cls).length:=by rw [ZE,Ef]
  have hfcF:∀ i,Kb (l.map Dr.Look.cls) b i=((Ad (l.map Dr.Look.cls) (m0 b)).map Prod.snd).getD i 0:=fun i=>by
   unfold Kb
   rw [List.getD_eq_getElem?_getD,List.getElem?_map]
  generalize hrow:l.map Dr.Look.cls=row at *
  generalize hnest:(Ad row (m0 b)).map Prod.snd=nst at *
  refine ⟨_,rfl,_,_,_,_,_,rfl,hy,gl,g2,rfl,_,rfl,(Ee hp0),fun a1 ha1=>?_⟩
  refine CB (ys:=AO (X.map (Kb row b))) hp0 ha1 (by simp) (by simp;lia) (fun i v y H1 R F hv hyy s1 kk=>?_) (fun H1 s1 h1=>?_)
  .obtain ⟨c,hc,rfl⟩:=BV hv
   have hcl:=hXr c (ZD hc)
   obtain ⟨z,hz⟩:∃ z,nst[c]?=some z:=⟨_,ZA (by lia)⟩
   have hy':y=NV z:=by
    unfold AO at hyy
    rw [List.getElem?_map,List.getElem?_map,hc] at hyy
    rw [<-ZC hyy]
    show NV (Kb row b c)=_
    rw [hfcF,Ai hz]
   subst hy'
   refine ⟨rfl,⟨_,rfl,_,_,_,_,_,rfl,(s1 _ _ hx),cl,f4,rfl,_,rfl,_,_,_,_,rfl,rfl,(SqL.of (s1 _ _ hfo)),(AH (AR hz)),?_⟩⟩
   exact kk _ (Same.refl _)
  refine ⟨_,rfl,_,_,_,_,_,rfl,(s1 _ _ hy),gl,g2,rfl,_,rfl,(Ee (s1 _ _ hp0)),fun a2 ha2=>?_⟩
  refine CB (ys:=AO (X.map fun i=>row.getD i 0)) (s1 _ _ hp0) ha2 (by simp) (by simp;lia) (fun i v y H2 R F hv hyy s2 kk=>?_) (fun H2 s2 h2=>?_)
  .obtain ⟨c,hc,rfl⟩:=BV hv
   have hcl:=hXr c (ZD hc)
   obtain ⟨z,hz⟩:∃ z,row[c]?=some z:=⟨_,ZA hcl⟩
   have hy':y=NV z:=by
    unfold AO at hyy
    rw [List.getElem?_map,List.getElem?_map,hc] at hyy
    rw [<-ZC hyy]
    show NV (row.getD c 0)=_
    rw [Ai hz]
   subst hy'
   refine ⟨rfl,⟨_,rfl,_,_,_,_,_,rfl,(s2 _ _ (s1 _ _ hx)),cl,f2,rfl,_,rfl,_,_,_,_,rfl,rfl,(SqL.of (s2 _ _ (s1 _ _ hk))),(AH (AR hz)),?_⟩⟩
   exact kk _ (Same.refl _)
  refine ⟨_,rfl,_,_,_,_,_,rfl,(s2 _ _ (s1 _ _ hy)),gl,g2,rfl,_,rfl,(Ee (s2 _ _ (s1 _ _ hp0))),fun a3 ha3=>?_⟩
  refine CB (ys:=X.map fun i=>vb.getD i .non) (s2 _ _ (s1 _ _ hp0)) ha3 (by simp) (by simp;lia) (fun i v y H3 R F hv hyy s3 kk=>?_) (fun H3 s3 h3=>?_)
  .obtain ⟨c,hc,rfl⟩:=BV hv
   have hcl:=hXl2 c (ZD hc)
   have hvbl:=hB.len
   rw [ZE] at hvbl
   obtain ⟨z,hz⟩:∃ z,vb[c]?=some z:=⟨_,ZA (by lia)⟩
   have hy':y=z:=by
    rw [List.getElem?_map,hc] at hyy
    rw [<-ZC hyy]
    exact getD_some hz
   subst hy'
   refine ⟨rfl,⟨_,rfl,_,_,_,_,_,rfl,(s3 _ _ (s2 _ _ (s1 _ _ hx))),cl,f3,rfl,_,rfl,_,_,_,_,rfl,rfl,(SqL.of (s3 _ _ (s2 _ _ (s1 _ _ hbr)))),(AH hz),?_⟩⟩
   exact kk _ (Same.refl _)
  have hB3:=((((hB.same s1).same s2).same s3).pick X hXl2)
  have h3a1:H3 a1=some (.lst (AO (X.map (Kb row b)))):=s3 _ _ (s2 _ _ h1)
  have h3a2:H3 a2=some (.lst (AO (X.map fun i=>row.getD i 0))):=s3 _ _ h2
  have h12:a1≠a2:=A1 h1 ha2
  have h13:a1≠a3:=A1 (s2 _ _ h1) ha3
  have hXb:(X.map (Kb row b)).length<=Nu:=by rw [ZE];exact Nat.le_trans hXl (Nat.le_trans hrl (by decide))
  refine ⟨_,rfl,_,rfl,_,_,_,_,_,rfl,(s3 _ _ (s2 _ _ (s1 _ _ hy))),gl,g3,rfl,_,_,_,rfl,h3a1,hXb,fun H4 h4 k4=>⟨_,rfl,_,rfl,_,rfl,_,rfl,_,_,_,_,_,rfl,(k4 _ _ (s3 _ _ (s2 _ _ (s1 _ _ hy))) (A1 hy ha1)),gl,g1,rfl,_,rfl,_,_,_,_,_,rfl,(k4 _ _ (s3 _ _ (s2 _ _ (s1 _ _ hy))) (A1 hy ha1)),gl,g3,rfl,_,_,_,_,_,_,_,_,_,rfl,h4,(k4 _ _ h3a2 h12.symm),(k4 _ _ h3 h13.symm),hB3.mono (MI k4 h3a1),?_⟩⟩
  have e1:(Dr.weak (BZ l b X).before (X.map (Kb row b))).length=(X.map (QB l)).length:=by rw [hwl,ZE]
  have e2:(X.map fun i=>row.getD i 0).length=(Dr.weak (BZ l b X).before (X.map (Kb row b))).length:=by rw [hwl,ZE]
  refine ⟨h12,e1,e2,hwf,he1,(by lia),fun H5 h5 k5=>⟨_,rfl,_,rfl,_,_,_,_,_,rfl,(k5 _ _ (k4 _ _ (s3 _ _ (s2 _ _ (s1 _ _ hy))) (A1 hy ha1)) (A1 hy ha1)),gl,g1,rfl,_,rfl,_,_,_,_,_,rfl,(k5 _ _ (k4 _ _ (s3 _ _ (s2 _ _ (s1 _ _ hy))) (A1 hy ha1)) (A1 hy ha1)),gl,g3,rfl,_,rfl,_,_,_,_,_,rfl,(k5 _ _ (k4 _ _ (s3 _ _ (s2 _ _ (s1 _ _ hy))) (A1 hy ha1)) (A1 hy ha1)),gl,g4,rfl,_,_,_,_,_,rfl,h5,by
   rw [hbl,hwl]
   exact Nat.le_trans hXl (Nat.le_trans hrl (by decide)),?_⟩⟩
  refine ⟨hbf,fun H6 h6 k6=>⟨_,rfl,?_⟩⟩
  refine q H6 a1 (Same.kept (Same.kept (Same.kept ((s1.trans s2).trans s3) ha1 k4) ha1 k5) ha1 k6) ha1 h6
end
theorem J7 (k1 k2:List (Nat×Nat)) (l:List Nat):BW (k1++k2) l=BW k2 (BW k1 l):=by
 unfold BW
 rw [List.foldl_append]
theorem IP {ks:List (Nat×Nat)} {j:Nat} {q:Nat×Nat} (l:List Nat) (h:ks[j]?=some q):BW (ks.take (j+1)) l=(BW (ks.take j) l).set q.1 q.2:=by
 rw [List.take_add_one,h,J7]
 rfl
theorem RG (n b:Nat):AO (List.replicate n b)=List.replicate n (NV b):=by
 unfold AO
 rw [List.map_replicate]
section
variable {P:Program} {w:World} {K:PySem.W.Frag} {mg:Str->Option Value} {base:Heap} {CT CP CS:Addr}
noncomputable def spFinal (CP CS:Addr):Sp:=fun vs H Q _=>∃ (x:Addr) (l:List Dr.Look) (b:Nat),vs=[.ref x]/\ParAt CP CS H x l b/\Ol (l.map Dr.Look.cls) /\
 ∀ (H':Hp) (r:Addr),Same H H'->H r=none->H' r=some (.lst (AO (Dr.fillLevels (known l b) l.length 0 b)))->Q (.ref r) H'
theorem Ia (D:Dme K CP "final_levels" "Paragraph.final_levels" B2 ["self"]) (T:BX mg) (F:Lf K CP) (G:N9 K CS) (C_raised:Ak P w K mg base 1 "raised" ["level","kind"] spRaised) (C_is_left_out:Ak P w K mg base 2 "is_left_out" ["kind"] (spB Bj))
  (M_Paragraph_settled_in:Cb P w K mg base 6 CP "settled_in" ["self","sequence"] (spSettled CP CS)):Cb P w K mg base 7 CP "final_levels" ["self"] (spFinal CP CS):=by
 refine D.ok sc_Paragraph_final_levels (fun vs H Q E h=>?_) (fun f cdv A outer s H vs Q E hr h=>?_)
 .obtain ⟨x,l,b,rfl,_⟩:=h
  rfl
 .obtain ⟨x,l,b,rfl,hPar,hR,q⟩:=h
  obtain ⟨dx,k,br,fo,sq,vb,ss,hx,hk,hbr,hB,hfo,hsq,hS⟩:=hPar.ex
  obtain ⟨cl,f1,f2,f3,f4,f5⟩:=F
  obtain ⟨gl,g1,g2,g3,g4⟩:=G
  refine ⟨_,(A3 (Cd (i:=1) rfl sc_Paragraph_final_levels.nd rfl rfl (Dc rfl rfl (by decide +kernel) (by decide +kernel)) (B6 (AI (K:=K) rfl (pv 0) rfl)) (own:=[("kind",4)]) (BE (show FK ["self","levels","sequence","place","kind"] (A8 B2) _ [("kind",4)]=true from by decide +kernel)) (fun _ _ _ _ _=>(AS (i:=4) sc_Paragraph_final_levels.nd rfl (Or.inl rfl))) (fun _ _ _ _ _=>Ba) (fun _ _ _ _ _=>(AI (K:=K) rfl (pv 0) rfl)))
   (A3 (Ao PassesOwn.never rfl (B6 (AI (K:=K) rfl (pv 0) rfl)) (AS (i:=2) sc_Paragraph_final_levels.nd rfl (Or.inl rfl))
   (A5 (Ao PassesOwn.never rfl (QQ rfl T.b_zip (A0 (AI (K:=K) rfl (pv 2) rfl) (A0 (JA M_Paragraph_settled_in hr (pv 0) (A0 (pv 2) A4)) A4))) (J2 (K:=K) (n:=2) rfl rfl (DJ (AS (i:=3) sc_Paragraph_final_levels.nd rfl (Or.inl rfl)) (DJ (AS (i:=4) sc_Paragraph_final_levels.nd rfl (Or.inl rfl)) Ir)))
    (A5 (C4 (BI C_raised hr (A0 (AI (K:=K) rfl (pv 2) rfl) (A0 (pv 4) A4))) (C8 (pv 1) (pv 3) BD))))))
   (A3 (Ao PassesOwn.never rfl (Fs rfl T.b_range (A0 A7 (A0 (AM (AK (K:=K) rfl) (by rfl) T.b_len PySem.boot_len (A0 (pv 1) A4)) A4))) (AS (i:=3) sc_Paragraph_final_levels.nd rfl (Or.inl rfl))
   (A5 (AU (As (BI C_is_left_out hr (A0 (AE (A9 (K:=K) rfl) (AI (K:=K) rfl (pv 0) rfl) (pv 3) (fun _ _=>rfl)) A4)))
    (A5 (C4 (AE (A9 (K:=K) rfl) (pv 1) (Ab Dn (pv 3) A7) (fun _ _=>rfl)) (C8 (pv 1) (pv 3) BD)))
    AJ)))
   (A5 (AD (pv 1)))))),?_⟩
  have hrl:=hR.len
  have hrn:(l.map Dr.Look.cls).length=l.length:=ZE _
  refine ⟨_,rfl,_,_,_,_,_,rfl,hx,cl,f2,rfl,_,rfl,(Ee hk),fun lv hlv=>?_⟩
  refine CB (ys:=AO (List.replicate l.length b)) hk hlv (by simp) (by simp;lia) (fun i v y H1 R F hv hyy s1 kk=>?_) (fun H1 s1 h1=>?_)
  .have hy':y=NV b:=by
    rw [RG,List.getElem?_replicate] at hyy
    split at hyy
    .exact (ZC hyy).symm
    .cases hyy
   subst hy'
   refine ⟨rfl,⟨_,rfl,_,_,_,_,_,rfl,(s1 _ _ hx),cl,f1,rfl,?_⟩⟩
   exact kk _ (Same.refl _)
  refine ⟨_,rfl,_,_,_,_,_,rfl,(s1 _ _ hx),cl,f5,rfl,_,rfl,(Ee (s1 _ _ hsq)),?_⟩
  refine E7 (xs:=ss.map V.ref) (fun i σ H'=>Bk (∃ (v2 v3 v4:Option V) (cur:List Nat),σ=[some (.ref x),some (.ref lv),v2,v3,v4]/\Same H H'/\H' lv=some (.lst (AO cur))/\cur.length=l.length /\
    cur=BW (((Ay (l.map Dr.Look.cls) b).take i).flatMap fun X=>Dv l b (BZ l b X)) (List.replicate l.length b))) ?_ (fun i σ H2 _ h=>?_) (fun i y σ H2 hy h=>?_) (fun σ H2 h=>?_)
  .exact ⟨_,_,_,_,rfl,s1,h1,List.length_replicate,rfl⟩
  .obtain ⟨v2,v3,v4,cur,rfl,s2,_⟩:=h
   exact SqL.of (s2 _ _ hsq)
  .obtain ⟨v2,v3,v4,cur,rfl,s2,h2l,hcl,hcur⟩:=h
   rw [List.getElem?_map] at hy
   obtain ⟨u,hu,rfl⟩:=Option.map_eq_some_iff.mp hy
   have hsl:=hS.len
   rw [ZE] at hsl
   have hil:=(ZB.mp hu).1
   obtain ⟨X,hX⟩:∃ X,(Ay (l.map Dr.Look.cls) b)[i]?=some X:=⟨_,ZA (by lia)⟩
   obtain ⟨du,pu,hu1,hu2,_⟩:=hS.get i u (BZ l b X) hu (by rw [List.getElem?_map,hX];rfl)
   have hXm:=ZD hX
   have hXl:=Oq hXm
   have hXr:∀ i∈X,i<l.length:=fun i hi=>by
    obtain ⟨c,hc,_⟩:=((Geo.of (l.map Dr.Look.cls) b).mem i).mp (HQ hXm hi)
    have:=(ZB.mp hc).1
    lia
   have hu2:H pu=some (.lst (AO X)):=hu2
   have hsol:(FC l b (BZ l b X)).length=X.length:=by
    unfold FC
    rw [KO,ZE]
    rfl
   have hstep:BW (((Ay (l.map Dr.Look.cls) b).take (i+1)).flatMap fun X=>Dv l b (BZ l b X)) (List.replicate l.length b)=BW (Dv l b (BZ l b X)) cur:=by
    rw [List.take_add_one,hX,List.flatMap_append,J7,<-hcur]
    simp
   have hkn:Dv l b (BZ l b X)=(X.zip (FC l b (BZ l b X))).map fun q=>(q.1,Dr.levelOf (BZ l b X).level q.2):=rfl
   have hPar2:=hPar.same s2
   have h2u:=s2 _ _ hu1
   have h2p:=s2 _ _ hu2
   have h2x:=s2 _ _ hx
   refine ⟨_,rfl,_,_,_,_,_,rfl,h2u,gl,g2,rfl,_,rfl,_,_,_,rfl,h2x,rfl,_,rfl,_,_,_,_,_,_,_,rfl,(ParAt.same hPar2 (Same.refl _)),h2u,h2p,hXm,hR,fun H3 r s3 hr0 h3r=>⟨_,_,_,_,rfl,(SqL.of (s3 _ _ h2p)),(SqL.of h3r),?_⟩⟩
   have hrlv:r≠lv:=(A1 h2l hr0).symm
   generalize hsl2:FC l b (BZ l b X)=sol at *
   refine OV (xs:=AO X) (ys:=AO sol) (fun j σ H'=>Bk (∃ (v3 v4:Option V) (cj:List Nat),σ=[some (.ref x),some (.ref lv),some (.ref u),v3,v4]/\Same H H'/\H' r=some (.lst (AO sol))/\H' lv=some (.lst (AO cj))/\cj.length=l.length/\cj=BW ((Dv l b (BZ l b X)).take j) cur))
    ?_ (fun j σ H4 h=>?_) (by simp [hsol]) (fun j vx vy T σ H4 hvx hvy h hT=>?_) (fun σ H4 h=>?_)
   .exact ⟨_,_,cur,rfl,s2.trans s3,h3r,s3 _ _ h2l,hcl,rfl⟩
   .obtain ⟨v3,v4,cj,rfl,s4,h4r,_⟩:=h
    exact ⟨SqL.of (s4 _ _ hu2),SqL.of h4r⟩
   .obtain ⟨v3,v4,cj,rfl,s4,h4r,h4l,hcjl,hcj⟩:=h
    obtain ⟨pl,hpl,rfl⟩:=BV hvx
    obtain ⟨kc,hkc,rfl⟩:=BV hvy
    have hplm:=hXr pl (ZD hpl)
    have hkj:(Dv l b (BZ l b X))[j]?=some (pl,Dr.levelOf (BZ l b X).level kc):=by
     rw [hkn,List.getElem?_map,List.getElem?_zip_eq_some (z:=(pl,kc)) |>.mpr ⟨hpl,hkc⟩]
     rfl
    have h4u:=s4 _ _ hu1
    have hTl:T≠lv:=(A1 h4l hT).symm
    have hlvN:H lv=none:=hlv
    refine ⟨_,_,rfl,(SqT.of A2),rfl,_,_,rfl,_,_,rfl,rfl,_,rfl,_,_,_,_,_,rfl,(A6 h4u (A1 h4u hT)),gl,g1,rfl,_,rfl,_,_,rfl,fun H5 s5=>⟨_,rfl,_,rfl,_,_,_,_,rfl,rfl,(s5 _ _ (A6 h4l hTl.symm)),(BR (by simp <;> lia)),?_⟩⟩
    refine ⟨_,_,cj.set pl (Dr.levelOf (BZ l b X).level kc),rfl,Same.set (Same.trans (Same.set s4 (none_of s4 hT)) s5) hlv,A6 (s5 _ _ (A6 h4r (A1 h4r hT))) hrlv,?_,by simp [hcjl],?_⟩
    .rw [A2,Bb]
    .rw [IP _ hkj,<-hcj]
   .obtain ⟨v3,v4,cj,rfl,s4,h4r,h4l,hcjl,hcj⟩:=h
    skip
    refine ⟨_,_,_,cj,rfl,s4,h4l,hcjl,?_⟩
    rw [hstep,hcj,List.take_of_length_le]
    rw [hkn,ZE,List.length_zip,nVs_len]
    lia
  .obtain ⟨v2,v3,v4,cur,rfl,s2,h2l,hcl,hcur⟩:=h
   have hsl:=hS.len
   rw [ZE] at hsl
   rw [List.take_of_length_le (by rw [ZE];lia)] at hcur
   have hcur:cur=BW (known l b) (List.replicate l.length b):=hcur
   refine ⟨_,rfl,_,_,rfl,(Bn h2l),_,_,rfl,⟨(by lia) ,(by lia) ,(by lia) ,(by simp only [nVs_len] <;> lia)⟩,?_⟩
   refine F6 (lo:=1) (fun i σ H'=>Bk (∃ (v2 v3 v4:Option V) (cj:List Nat),σ=[some (.ref x),some (.ref lv),v2,v3,v4]/\Same H H'/\H' lv=some (.lst (AO cj))/\cj.length=l.length/\(0<l.length->FInv (known l b) l.length b (1+i) cj))) ?_ (fun i σ H3 hi h=>?_) (fun σ H3 h=>?_)
   .refine ⟨_,_,_,cur,rfl,s2,h2l,hcl,fun hn=>?_⟩
    rw [hcur]
    exact FInv.start hn (IM l b)
   .obtain ⟨v2,v3,v4,cj,rfl,s3,h3l,hcj,hF⟩:=h
    rw [nVs_len] at hi
    have hil:1+i<l.length:=by lia
    have hF:=hF (by lia)
    obtain ⟨c,hc⟩:∃ c,(l.map Dr.Look.cls)[1+i]?=some c:=⟨_,ZA (by rw [ZE];lia)⟩
    obtain ⟨pv,hpv⟩:∃ pv,cj[1+i - 1]?=some pv:=⟨_,ZA (by lia)⟩
    have h3k:=s3 _ _ hk
    have h3x:=s3 _ _ hx
    have e1:Lw (AO cj) (((1+i:Nat):Int) - 1)=some (NV pv):=FG (j:=1+i - 1) (by lia) hpv
    refine ⟨_,rfl,_,_,_,_,_,rfl,h3x,cl,f2,rfl,_,rfl,_,_,_,_,rfl,rfl,(SqL.of h3k),(AH (AR hc)),_,rfl,fun H4 s4=>⟨_,rfl,?_⟩⟩
    walk_at "?d"
    .refine ⟨_,rfl,_,rfl,_,_,rfl,rfl,_,_,_,_,rfl,rfl,(SqL.of (s4 _ _ h3l)),e1,_,rfl,_,rfl,_,_,_,_,rfl,rfl,(s4 _ _ h3l),(BR (by simp <;> lia)),?_⟩
     refine ⟨_,_,_,cj.set (1+i) pv,rfl,Same.set (s3.trans s4) hlv,?_,by simp [hcj],fun _=>hF.out (by lia) hil hpv (Ss l b hc d)⟩
     rw [A2,Bb]
    .skip
     obtain ⟨v,hv⟩:=UW l b hc (by simp [d])
     exact ⟨_,_,_,cj,rfl,s3.trans s4,s4 _ _ h3l,hcj,fun _=>hF.stay hil hv⟩
   .obtain ⟨v2,v3,v4,cj,rfl,s3,h3l,hcj,hF⟩:=h
    refine ⟨_,rfl,?_⟩
    refine q H3 lv s3 hlv ?_
    rw [h3l]
    by_cases hn:l.length=0
    .have e:cj=[]:=List.eq_nil_of_length_eq_zero (by lia)
     rw [e,hn]
     rfl
    .have hF:=hF (by lia)
     rw [show 1+(((AO cur).length:Int) - 1).toNat=l.length by rw [nVs_len];lia] at hF
     rw [hF.done]
end
abbrev FW:Stmt:=top 34
theorem Lr:AB ["kind"] ["kind"] (A8 FW):=⟨rfl,rfl,rfl,by decide +kernel,rfl,by decide +kernel,by decide +kernel⟩
abbrev EV:Stmt:=top 35
theorem sc_put_to_base:AB ["kinds","levels","base","settled","at_end","k"] ["kinds","levels","base"] (A8 EV):=⟨rfl,rfl,rfl,by decide +kernel,rfl,by decide +kernel,by decide +kernel⟩
abbrev Cr:Stmt:=top 36
theorem sc_levels_in_line:AB ["paragraph","first","many","end"] ["paragraph","first","many"] (A8 Cr):=⟨rfl,rfl,rfl,by decide +kernel,rfl,by decide +kernel,by decide +kernel⟩
abbrev EI:Stmt:=top 37
theorem sc_turned_from:AB ["level","order","levels","turned","row","k"] ["level","order","levels"] (A8 EI):=⟨rfl,rfl,rfl,by decide +kernel,rfl,by decide +kernel,by decide +kernel⟩
abbrev Ey:Stmt:=top 38
theorem sc_order_seen:AB ["levels","order","level"] ["levels"] (A8 Ey):=⟨rfl,rfl,rfl,by decide +kernel,rfl,by decide +kernel,by decide +kernel⟩
abbrev F0:Stmt:=top 39
theorem sc_order_read:AB ["levels","row","read","k","shown"] ["levels","row"] (A8 F0):=⟨rfl,rfl,rfl,by decide +kernel,rfl,by decide +kernel,by decide +kernel⟩
section
variable {P:Program} {w:World} {K:PySem.W.Frag} {mg:Str->Option Value} {base:Heap} {CT CP CS:Addr}
theorem LR (D:Dfn K mg "gives_way" FW ["kind"]) (T:BX mg) (C_bounds_isolate:Ak P w K mg base 2 "bounds_isolate" ["kind"] (spB Dr.isIsoEdge)) (C_is_left_out:Ak P w K mg base 2 "is_left_out" ["kind"] (spB Bj)) :
  Ak P w K mg base 3 "gives_way" ["kind"] (spB GG):=by
 refine D.ok Lr (fun vs H Q E h=>?_) (fun f cdv A outer s H vs Q E hr h=>?_)
 .obtain ⟨n,rfl,_⟩:=h
  rfl
 .obtain ⟨n,rfl,q⟩:=h
  refine ⟨_,(A5 (AD (Ka (B5 Af (pv 0) (B4 T.c_WS) (AG _)) (Ka (BI C_bounds_isolate hr (A0 (pv 0) A4)) (Cv (BI C_is_left_out hr (A0 (pv 0) A4))))))),?_⟩
  unfold GG at q
  refine ⟨_,rfl,rfl,_,rfl,?_⟩
  walk_at "?d"
  .rw [d] at q
   exact q _ (Same.refl _)
  .rw [show (n==12)=false from beq_eq_false_iff_ne.mpr d] at q
   refine ⟨_,rfl,_,rfl,fun H1 s1=>⟨_,rfl,?_⟩⟩
   walk_at "?d2"
   .rw [d2] at q
    exact q _ s1
   .rw [d2] at q
    refine ⟨_,rfl,_,rfl,fun H2 s2=>?_⟩
    exact q _ (s1.trans s2)
noncomputable def spPut:Sp:=fun vs H Q _=>∃ (a b:Addr) (ks ls:List Nat) (bs:Nat),vs=[.ref a,.ref b,NV bs]/\H a=some (.lst (AO ks))/\H b=some (.lst (AO ls))/\ks.length=ls.length/\ks.length<=1000/\(∀ c∈ks,c≠10)/\∀ (H':Hp) (r:Addr),Same H H'->H r=none->H' r=some (.lst (AO (Dr.lineLevels bs (ks.zip ls))))->Q (.ref r) H'
theorem JS (D:Dfn K mg "put_to_base" EV ["kinds","levels","base"]) (T:BX mg) (C_gives_way:Ak P w K mg base 3 "gives_way" ["kind"] (spB GG)):Ak P w K mg base 4 "put_to_base" ["kinds","levels","base"] spPut:=by
 refine D.ok sc_put_to_base (fun vs H Q E h=>?_) (fun f cdv A outer s H vs Q E hr h=>?_)
 .obtain ⟨a,b,ks,ls,bs,rfl,_⟩:=h
  rfl
 .obtain ⟨a,b,ks,ls,bs,rfl,ha,hb,hll,hl,h10,q⟩:=h
  refine ⟨_,(A3 (AF (i:=3) sc_put_to_base.nd rfl (Or.inl rfl) (Fq FB (by rfl) T.b_list PyProof.Rows.boot_list (A0 (pv 1) A4)))
   (A3 (AF (i:=4) sc_put_to_base.nd rfl (Or.inl rfl) OH)
   (A3 (Ao PassesOwn.never rfl (Bz rfl T.b_range (A0 (Ab Dn (AM (AK (K:=K) rfl) (by rfl) T.b_len PySem.boot_len (A0 (pv 0) A4)) A7) (A0 (BQ Av A7) (A0 (BQ Av A7) A4)))) (AS (i:=5) sc_put_to_base.nd rfl (Or.inl rfl))
   (A3 (AF (i:=4) sc_put_to_base.nd rfl (Or.inl rfl) (EU (Ka (B5 Af (AE (A9 (K:=K) rfl) (pv 0) (pv 5) (fun _ _=>rfl)) (B4 T.c_S) (AG _)) (Cv (FF (pv 4) (Cv (BI C_gives_way hr (A0 (AE (A9 (K:=K) rfl) (pv 0) (pv 5) (fun _ _=>rfl)) A4))))))))
    (A5 (AU (As (pv 4))
    (A5 (C4 (pv 2) (C8 (pv 3) (pv 5) BD)))
    AJ))))
   (A5 (AD (pv 3)))))),?_⟩
  refine ⟨_,rfl,_,_,rfl,(Bn hb),fun r hr0=>⟨_,rfl,_,_,rfl,(Bn (A6 ha (A1 ha hr0))),_,_,rfl,rfl,_,rfl,_,rfl,_,_,_,_,rfl,HH (by simp;lia) (by simp;lia),?_⟩⟩
  skip
  refine HD rfl (fun i σ H'=>Bk (∃ (v5:Option V) (cur:List Nat) (e:Bool),σ=[some (.ref a),some (.ref b),some (NV bs),some (.ref r),some (.bl e),v5]/\Same H H'/\H' r=some (.lst (AO cur))/\LInv bs ks ls (ks.length - i) cur e)) ?_ (fun i σ H2 hi h=>?_) (fun σ H2 h=>?_)
  .exact ⟨_,ls,true,rfl,Same.set (Same.refl _) hr0,A2,LInv.start bs hll⟩
  .obtain ⟨v5,cur,e,rfl,s2,h2,I⟩:=h
   simp at hi
   have ek:(((AO ks).length:Int) - 1+1).toNat - 1 - i=ks.length - (i+1):=by rw [nVs_len];lia
   rw [ek]
   obtain ⟨c,hc⟩:∃ c,ks[ks.length - (i+1)]?=some c:=⟨_,ZA (by lia)⟩
   rw [show ks.length - i=ks.length - (i+1)+1 by lia] at I
   have I2:=I.step hll hc (h10 c (ZD hc))
   have hcl:=I.len
   skip
   refine ⟨fun v H'=>v=.bl (EA c e)/\Same H2 H',?_,?_⟩
   .unfold EA
    refine ⟨_,rfl,_,rfl,_,_,_,_,rfl,rfl,(SqL.of (s2 _ _ ha)),(AH (AR hc)),rfl,_,rfl,?_⟩
    walk_at "?d"
    .refine ⟨by rw [d];rfl,?_⟩
     exact Same.refl _
    .rw [show (c==11)=false from beq_eq_false_iff_ne.mpr d]
     cases e with
     | false =>
      refine ⟨_,rfl,_,rfl,⟨rfl,?_⟩⟩
      exact Same.refl _
     | true =>
      refine ⟨_,rfl,_,rfl,⟨_,rfl,_,rfl,_,_,_,_,rfl,rfl,(SqL.of (s2 _ _ ha)),(AH (AR hc)),_,rfl,fun H3 s3=>⟨rfl,?_⟩⟩⟩
      exact s3
   rintro _ H3 ⟨rfl,s3⟩
   refine ⟨_,rfl,_,rfl,?_⟩
   walk_at "?d"
   .rw [if_pos d] at I2
    refine ⟨_,rfl,_,rfl,_,rfl,_,_,_,_,rfl,rfl,(s3 _ _ h2),(BR (by simp <;> lia)),?_⟩
    refine ⟨_,cur.set (ks.length - (i+1)) bs,true,by rw [d];rfl,Same.set (s2.trans s3) hr0,?_,d▸I2⟩
    rw [A2,Bb]
   .rw [if_neg (by simp [d])] at I2
    skip
    exact ⟨_,cur,false,by rw [d];rfl,s2.trans s3,s3 _ _ h2,d▸I2⟩
  .obtain ⟨v5,cur,e,rfl,s2,h2,I⟩:=h
   refine ⟨_,rfl,?_⟩
   refine q H2 r s2 hr0 ?_
   rw [show ks.length - (((AO ks).length:Int) - 1+1).toNat=0 by rw [nVs_len];lia] at I
   rw [h2,I.done]
theorem Es (k:List (Nat×Nat)):∀ (f i p:Nat),(Dr.fillLevels k f i p).length=f
 | 0,_,_=>rfl
 | f+1,i,p=>by rw [En,List.length_cons,Es k f]
theorem Rg (a b:List Nat) (f m:Nat) (h:a.length=b.length):((a.take (f+m)).drop f).zip ((b.take (f+m)).drop f)=((a.zip b).drop f).take m:=by
 refine List.ext_getElem? fun i=>?_
 rw [List.getElem?_take]
 by_cases hi:i<m
 .rw [if_pos hi,List.getElem?_drop]
  by_cases hl:f+i<a.length
  .have h1:((a.take (f+m)).drop f)[i]?=some a[f+i]:=by rw [List.getElem?_drop,List.getElem?_take,if_pos (by lia),ZA hl]
   have hl2:f+i<b.length:=by lia
   have h2:((b.take (f+m)).drop f)[i]?=some b[f+i]:=by rw [List.getElem?_drop,List.getElem?_take,if_pos (by lia),ZA hl2]
   rw [List.getElem?_zip_eq_some (z:=(a[f+i],b[f+i])) |>.mpr ⟨h1,h2⟩,List.getElem?_zip_eq_some (z:=(a[f+i],b[f+i])) |>.mpr ⟨ZA hl,ZA hl2⟩]
  .rw [List.getElem?_eq_none (by rw [List.length_zip,List.length_drop,List.length_take];lia),List.getElem?_eq_none (by rw [List.length_zip];lia)]
 .rw [if_neg hi,List.getElem?_eq_none (by rw [List.length_zip,List.length_drop,List.length_take];lia)]
noncomputable def JF (l:List Dr.Look) (b:Nat):List Nat:=Dr.fillLevels (known l b) l.length 0 b
noncomputable def CL (l:List Dr.Look) (b fi mn:Nat):List Nat:=Dr.lineLevels b ((((l.map Dr.Look.cls).zip (JF l b)).drop fi).take mn)
noncomputable def spLil (CP CS:Addr):Sp:=fun vs H Q _=>∃ (x:Addr) (l:List Dr.Look) (b fi mn:Nat),vs=[.ref x,NV fi,NV mn]/\ParAt CP CS H x l b/\Ol (l.map Dr.Look.cls)/\fi+mn<=l.length /\
 ∀ (H':Hp) (r:Addr),Same H H'->H r=none->H' r=some (.lst (AO (CL l b fi mn)))->Q (.ref r) H'
theorem Ge (D:Dfn K mg "levels_in_line" Cr ["paragraph","first","many"]) (T:BX mg) (F:Lf K CP) (C_put_to_base:Ak P w K mg base 4 "put_to_base" ["kinds","levels","base"] spPut) (M_Paragraph_final_levels:Cb P w K mg base 7 CP "final_levels" ["self"] (spFinal CP CS)) :
  Ak P w K mg base 8 "levels_in_line" ["paragraph","first","many"] (spLil CP CS):=by
 refine D.ok sc_levels_in_line (fun vs H Q E h=>?_) (fun f cdv A outer s H vs Q E hr h=>?_)
 .obtain ⟨x,l,b,fi,mn,rfl,_⟩:=h
  rfl
 .obtain ⟨x,l,b,fi,mn,rfl,hPar,hR,hfm,q⟩:=h
  obtain ⟨dx,k,br,fo,sq,vb,ss,hx,hk,hbr,hB,hfo,hsq,hS⟩:=hPar.ex
  obtain ⟨cl,f1,f2,f3,f4,f5⟩:=F
  refine ⟨_,(A3 (AF (i:=3) sc_levels_in_line.nd rfl (Or.inl rfl) (Ab Ag (pv 1) (pv 2)))
   (A5 (AD (BI C_put_to_base hr (A0 (Ek (Eo (K:=K) rfl) (AI (K:=K) rfl (pv 0) rfl) (CC (pv 1)) (CC (pv 3))) (A0 (Ek (Eo (K:=K) rfl) (Gm M_Paragraph_final_levels hr (pv 0)) (CC (pv 1)) (CC (pv 3))) (A0 (AI (K:=K) rfl (pv 0) rfl) A4))))))),?_⟩
  have hrn:(l.map Dr.Look.cls).length=l.length:=ZE _
  have hrl:=hR.len
  have hfl:(JF l b).length=l.length:=Es _ _ _ _
  have ec:∀ z:List Nat,z.length=l.length->Hi (AO z) (some (fi:Int)) (some ((fi:Int)+(mn:Int)))=AO ((z.take (fi+mn)).drop fi):=fun z hz=>by
   have:=Iy (AO z) (i:=fi) (j:=fi+mn) (by lia) (by rw [nVs_len];lia)
   rw [Fm,Gu] at this
   exact this
  have hzc:=Rg (l.map Dr.Look.cls) (JF l b) fi mn (by lia)
  have h10:∀ c∈((l.map Dr.Look.cls).take (fi+mn)).drop fi,c≠10:=fun c hc=>(hR.ok c (List.mem_of_mem_take (List.mem_of_mem_drop hc))).2
  unfold CL at q
  rw [<-hzc] at q
  have ec2:=ec (Dr.fillLevels (known l b) l.length 0 b) hfl
  refine ⟨_,rfl,_,rfl,_,_,rfl,rfl,_,rfl,_,_,_,_,_,rfl,hx,cl,f2,rfl,_,rfl,_,rfl,_,rfl,_,rfl,_,_,rfl,(SqL.of hk),fun c1 hc1=>⟨_,rfl,_,_,_,rfl,(A6 hx (A1 hx hc1)),rfl,_,_,_,rfl,(ParAt.same hPar (Same.set (Same.refl _) hc1)),hR,fun H1 r1 s1 hr1 h1=>⟨_,rfl,_,rfl,_,rfl,_,rfl,_,_,rfl,(SqL.of h1),fun c2 hc2=>⟨_,rfl,_,_,_,_,_,rfl,(A6 (s1 _ _ (A6 hx (A1 hx hc1))) (A1 (s1 _ _ (A6 hx (A1 hx hc1))) hc2)),cl,f1,rfl,_,_,_,((Dr.fillLevels (known l b) l.length 0 b).take (fi+mn)).drop fi,_,rfl,by
   rw [ec _ hrn] at s1
   exact A6 (s1 _ _ A2) (A1 (s1 _ _ A2) hc2),?_⟩⟩⟩⟩
  rw [ec2]
  rw [ec _ hrn] at s1 hr1
  have hkl:(((l.map Dr.Look.cls).take (fi+mn)).drop fi).length=mn:=by rw [List.length_drop,List.length_take];lia
  have hkl2:(((Dr.fillLevels (known l b) l.length 0 b).take (fi+mn)).drop fi).length=mn:=by rw [List.length_drop,List.length_take,Es];lia
  refine ⟨A2,(by lia),(by lia),h10,fun H2 r s2 hr0 h2=>?_⟩
  exact q H2 r (Same.trans (Same.set (Same.trans (Same.set (Same.refl _) hc1) s1) (none_of (Same.trans (Same.set (Same.refl _) hc1) s1) hc2)) s2) (none_of (Same.set (Same.trans (Same.set (Same.refl _) hc1) s1) (none_of (Same.trans (Same.set (Same.refl _) hc1) s1) hc2)) hr0) h2
theorem OJ (l:List Nat):AO l.reverse=(AO l).reverse:=List.map_reverse
theorem PP {i:Int} (h1:0<=i) (h2:i<2 ^ 62):RgC i 0 (-1) i.toNat:=by
 have:=RgC.neg (i:=i) (j:=0) (by lia) h2 (by decide) (by decide)
 rw [Int.sub_zero] at this
 exact this
theorem P8 {n:Nat} {g:TG} {tb:TS} {D:HW} {σ:L2.St} {H:Hp} (Pv:Nat->L2.St->Hp->Prop) (h0:Pv 0 σ H)
  (hs:∀ i σ H,i<n->Pv i σ H->g (NV (n - i)) σ H fun σ2 H2=>tb { D with nx:=Pv (i+1),ct:=Pv (i+1),bk:=D.nx } σ2 H2) (hd:∀ σ H,Pv n σ H->D.nx σ H) :
  ∃ W:Nat->Nat->L2.St->Hp->Prop,(∃ m,W 0 m σ H)/\∀ i m σ H,W i m σ H ->
   ((MH (n:Int) (-1) n).stop i H/\D.nx σ H)\/((MH (n:Int) (-1) n).go i H/\∃ N:L2.St->Hp->Prop,(∀ σ' H',N σ' H'->∃ m',m'<m/\W (i+1) m' σ' H')/\∀ x H',(MH (n:Int) (-1) n).yld i H x H'->g x σ H' fun σ2 H2=>tb { D with nx:=N,ct:=N,bk:=D.nx } σ2 H2) :=
 GN Pv h0 (fun i σ H hi p=>by
  have e:(n:Int)+(i:Int)*(-1)=((n - i:Nat):Int):=by lia
  rw [e]
  exact hs i σ H hi p) hd
noncomputable def spTurn:Sp:=fun vs H Q _=>∃ (a b:Addr) (ord ls:List Nat) (n:Nat),vs=[NV n,.ref a,.ref b]/\H a=some (.lst (AO ord))/\H b=some (.lst (AO ls))/\(∀ k∈ord,k<ls.length)/\ord.length<=1000 /\
 ∀ (H':Hp) (r:Addr),Same H H'->H r=none->H' r=some (.lst (AO (E1 (fun k=>ls.getD k 0) n [] ord)))->Q (.ref r) H'
theorem JW (D:Dfn K mg "turned_from" EI ["level","order","levels"]) (T:BX mg):Ak P w K mg base 1 "turned_from" ["level","order","levels"] spTurn:=by
 refine D.ok sc_turned_from (fun vs H Q E h=>?_) (fun f cdv A outer s H vs Q E hr h=>?_)
 .obtain ⟨a,b,ord,ls,n,rfl,_⟩:=h
  rfl
 .obtain ⟨a,b,ord,ls,n,rfl,ha,hb,hr1,hl,q⟩:=h
  refine ⟨_,(A3 (AF (i:=3) sc_turned_from.nd rfl (Or.inl rfl) (Ac A4))
   (A3 (AF (i:=4) sc_turned_from.nd rfl (Or.inl rfl) (Ac A4))
   (A3 (Ao PassesOwn.never rfl (B6 (pv 1)) (AS (i:=5) sc_turned_from.nd rfl (Or.inl rfl))
   (A3 (AU (AA QF (AE (A9 (K:=K) rfl) (pv 2) (pv 5) (fun _ _=>rfl)) (pv 0) (AG _))
    (A3 (AX (Ck PySem.F.plainAttrs_list PySem.F.slot_list_append PySem.F.type_list_append BP (pv 4) (A0 (pv 5) A4)))
     (A5 Ca))
    AJ)
    (A3 (AX (Ck PySem.F.plainAttrs_list PySem.F.slot_list_extend PySem.F.type_list_extend Df (pv 3) (A0 (QE (pv 4)) A4)))
    (A3 (AX (Ck PySem.F.plainAttrs_list PySem.F.slot_list_append PySem.F.type_list_append BP (pv 3) (A0 (pv 5) A4)))
    (A5 (AF (i:=4) sc_turned_from.nd rfl (Or.inl rfl) (Ac A4)))))))
   (A5 (AD (Ab Lc (pv 3) (QE (pv 4)))))))),?_⟩
  refine ⟨(BL rfl),fun tu htu=>⟨(BL rfl),fun rw0 hrw0=>⟨_,rfl,_,rfl,(Ee (A6 (A6 ha (A1 ha htu)) (A1 (A6 ha (A1 ha htu)) hrw0))),?_⟩⟩⟩
  generalize hlv:(fun k=>ls.getD k 0)=lv at q
  refine E7 (xs:=AO ord) (fun i σ H'=>Bk (∃ (v5:Option V) (rw:Addr) (turned row:List Nat),σ=[some (NV n),some (.ref a),some (.ref b),some (.ref tu),some (.ref rw),v5]/\Same H H'/\H rw=none/\rw≠tu/\H' tu=some (.lst (AO turned))/\H' rw=some (.lst (AO row)) /\
    E1 lv n [] ord=turned++E1 lv n row.reverse (ord.drop i)/\turned.length+row.length<=i)) ?_ (fun i σ H2 _ h=>?_) (fun i y σ H2 hy h=>?_) (fun σ H2 h=>?_)
  .exact ⟨_,rw0,[],[],rfl,Same.set (Same.set (Same.refl _) htu) (none_of (Same.set (Same.refl _) htu) hrw0),none_of (Same.set (Same.refl _) htu) hrw0,(A1 A2 hrw0).symm,A6 A2 (A1 A2 hrw0),A2,rfl,Nat.le_refl _⟩
  .obtain ⟨v5,rw,turned,row,rfl,s2,_⟩:=h
   exact SqL.of (s2 _ _ ha)
  .obtain ⟨v5,rw,turned,row,rfl,s2,hrwN,hrt,h2t,h2r,hE,hlen⟩:=h
   obtain ⟨k,hk,rfl⟩:=BV hy
   have hil:=(ZB.mp hk).1
   obtain ⟨v,hv⟩:∃ v,ls[k]?=some v:=⟨_,ZA (hr1 k (ZD hk))⟩
   have hlk:lv k=v:=by rw [<-hlv];exact Ai hv
   rw [AZ hk] at hE
   obtain ⟨t1,t2⟩:=P4 hE
   rw [hlk] at t1 t2
   refine ⟨_,rfl,_,rfl,_,_,_,_,rfl,rfl,(SqL.of (s2 _ _ hb)),(AH (AR hv)),_,rfl,_,_,rfl,rfl,_,rfl,?_⟩
   walk_at "?d"
   .refine ⟨_,rfl,(Ah h2r),_,rfl,_,_,_,rfl,rfl,h2r,(DT (by simp <;> lia)),?_⟩
    refine ⟨_,rw,turned,row++[k],rfl,Same.set s2 hrwN,hrwN,hrt,A6 h2t hrt.symm,?_,t1 d,by simp;lia⟩
    rw [A2,C0]
    rfl
   .refine ⟨_,rfl,(Ah h2t),_,rfl,_,_,rfl,(SqL.of h2r),fun c1 hc1=>⟨_,_,_,_,rfl,rfl,(A6 h2t (A1 h2t hc1)),A2,(DT (by simp <;> lia)),_,rfl,(Ah A2),_,rfl,_,_,_,rfl,rfl,A2,(DT (by simp <;> lia)),(BL rfl),fun rw2 hrw2=>?_⟩⟩
    have htN:H tu=none:=htu
    have h1:rw2≠tu:=(A1 A2 hrw2).symm
    refine ⟨_,rw2,turned++row.reverse++[k],[],rfl,Same.set (Same.set (Same.set (Same.set s2 (none_of s2 hc1)) htu) htu) (none_of (Same.set (Same.set (Same.set s2 (none_of s2 hc1)) htu) htu) hrw2),none_of (Same.set (Same.set (Same.set s2 (none_of s2 hc1)) htu) htu) hrw2,h1,?_,A2,t2 d,by simp;lia⟩
    rw [AQ h1.symm,A2,C0,C0,OJ]
    rfl
  .obtain ⟨v5,rw,turned,row,rfl,s2,hrwN,hrt,h2t,h2r,hE,hlen⟩:=h
   rw [nVs_len] at hlen
   refine ⟨_,rfl,_,rfl,_,_,rfl,(SqL.of h2r),fun c1 hc1=>⟨_,_,_,_,rfl,rfl,(A6 h2t (A1 h2t hc1)),A2,(DT (by simp <;> lia)),fun r hr0=>?_⟩⟩
   rw [List.drop_eq_nil_of_le (by rw [nVs_len];exact Nat.le_refl _)] at hE
   refine q _ r (Same.set (Same.set s2 (none_of s2 hc1)) (none_of (Same.set s2 (none_of s2 hc1)) hr0)) (none_of (Same.set s2 (none_of s2 hc1)) hr0) ?_
   rw [A2,hE,C0]
   show _=some (HO.lst (AO turned++AO row.reverse))
   rw [OJ]
noncomputable def spOrd:Sp:=fun vs H Q _=>∃ (a:Addr) (ls:List Nat),vs=[.ref a]/\H a=some (.lst (AO ls))/\ls.length<=1000/\Dr.highest ls<=100000/\∀ (H':Hp) (r:Addr),Same H H'->H r=none->H' r=some (.lst (AO (AY ls)))->Q (.ref r) H'
theorem KE (D:Dfn K mg "order_seen" Ey ["levels"]) (T:BX mg) (C_turned_from:Ak P w K mg base 1 "turned_from" ["level","order","levels"] spTurn):Ak P w K mg base 2 "order_seen" ["levels"] spOrd:=by
 refine D.ok sc_order_seen (fun vs H Q E h=>?_) (fun f cdv A outer s H vs Q E hr h=>?_)
 .obtain ⟨a,ls,rfl,_⟩:=h
  rfl
 .obtain ⟨a,ls,rfl,ha,hl,hh,q⟩:=h
  refine ⟨_,(A3 (AF (i:=1) sc_order_seen.nd rfl (Or.inl rfl) (LU rfl rfl T.b_list rfl T.b_range (AM (AK (K:=K) rfl) (by rfl) T.b_len PySem.boot_len (A0 (pv 0) A4))))
   (A3 (Ao PassesOwn.never rfl (Bz rfl T.b_range (A0 (AM (RT rfl) (by rfl) T.b_max PyProof.Rows.boot_max (A0 (Ab Lc (Ac (A0 A7 A4)) (pv 0)) A4)) (A0 A7 (A0 (BQ Av A7) A4)))) (AS (i:=2) sc_order_seen.nd rfl (Or.inl rfl))
   (A5 (AF (i:=1) sc_order_seen.nd rfl (Or.inl rfl) (BI C_turned_from hr (A0 (pv 2) (A0 (pv 1) (A0 (pv 0) A4)))))))
   (A5 (AD (pv 1))))),?_⟩
  obtain ⟨hm1,hm2⟩:=IR ls
  have hrg:RgC (Dr.highest ls:Int) 0 (-1) (Dr.highest ls):=by
   have:=PP (i:=(Dr.highest ls:Int)) (by lia) (by lia)
   rwa [Int.toNat_natCast] at this
  refine ⟨_,rfl,_,_,rfl,(Bn ha),_,rfl,(by simp <;> lia),fun o1 ho1=>⟨(BL rfl),fun z hz=>⟨_,rfl,_,_,_,_,rfl,rfl,A2,(A6 (A6 ha (A1 ha ho1)) (A1 (A6 ha (A1 ha ho1)) hz)),(DT (by simp <;> lia)),fun c1 hc1=>⟨_,_,rfl,(SqL.of A2:SqL _ _ c1 (AO (0::ls))),by simp,fun m hm hmx=>?_⟩⟩⟩⟩
  have hmh:m=Dr.highest ls:=by
   have h1:Dr.highest ls<=m:=by
    rcases hm2 with h | h
    .lia
    .exact hmx _ (.tail _ h)
   have h2:m<=Dr.highest ls:=by
    rcases List.mem_cons.mp hm with h | h
    .lia
    .exact hm1 m h
   lia
  subst hmh
  clear hm hmx hm1 hm2
  refine ⟨_,rfl,_,_,_,_,rfl,hrg,?_⟩
  rw [nVs_len] at *
  have hord0:∀ k∈List.range ls.length,k<ls.length:=fun k hk=>List.mem_range.mp hk
  generalize hlv:(fun k=>ls.getD k 0)=lv
  refine P8 (fun i σ H'=>Bk (∃ (v2:Option V) (o:Addr) (ord:List Nat),σ=[some (.ref a),some (.ref o),v2]/\Same H H'/\H o=none/\H' o=some (.lst (AO ord))/\ord.length=ls.length/\(∀ k∈ord,k<ls.length)/\AY ls=FP (fun k=>ls.getD k 0) (Dr.highest ls - i) ord)) ?_ (fun i σ H2 hi h=>?_) (fun σ H2 h=>?_)
  .exact ⟨_,o1,List.range ls.length,rfl,Same.set (Same.set (Same.set (Same.refl _) ho1) (none_of (Same.set (Same.refl _) ho1) hz)) (none_of (Same.set (Same.set (Same.refl _) ho1) (none_of (Same.set (Same.refl _) ho1) hz)) hc1),ho1,A6 (A6 A2 (A1 A2 hz)) (A1 (A6 A2 (A1 A2 hz)) hc1),List.length_range,hord0,rfl⟩
  .obtain ⟨v2,o,ord,rfl,s2,hoN,h2o,hol,hor,hE⟩:=h
   refine ⟨_,rfl,_,rfl,_,rfl,_,_,_,_,_,rfl,h2o,(s2 _ _ ha),hor,(by lia),fun H3 r s3 hr0 h3=>?_⟩
   have hp:=Ex (fun k=>ls.getD k 0) (Dr.highest ls - i) [] ord
   refine ⟨_,r,_,rfl,s2.trans s3,none_of s2 hr0,h3,by rw [hp.length_eq];exact hol,fun k hk=>hor k (hp.mem_iff.mp hk),?_⟩
   rw [hE,show Dr.highest ls - i=(Dr.highest ls - (i+1))+1 by lia]
   rfl
  .obtain ⟨v2,o,ord,rfl,s2,hoN,h2o,hol,hor,hE⟩:=h
   refine ⟨_,rfl,?_⟩
   rw [Nat.sub_self] at hE
   refine q H2 o s2 hoN ?_
   rw [hE]
   exact h2o
noncomputable def spRead:Sp:=fun vs H Q _=>∃ (a b:Addr) (ls row:List Nat),vs=[.ref a,.ref b]/\H a=some (.lst (AO ls))/\H b=some (.lst (AO row))/\ls.length=row.length/\ls.length<=1000/\Dr.highest ls<=100000/\∀ (H':Hp) (r:Addr),Same H H'->H r=none->H' r=some (.lst (AO (Ji ls row)))->Q (.ref r) H'
theorem KB (D:Dfn K mg "order_read" F0 ["levels","row"]) (T:BX mg) (C_order_seen:Ak P w K mg base 2 "order_seen" ["levels"] spOrd):Ak P w K mg base 3 "order_read" ["levels","row"] spRead:=by
 refine D.ok sc_order_read (fun vs H Q E h=>?_) (fun f cdv A outer s H vs Q E hr h=>?_)
 .obtain ⟨a,b,ls,row,rfl,_⟩:=h
  rfl
 .obtain ⟨a,b,ls,row,rfl,ha,hb,hlr,hl,hh,q⟩:=h
  refine ⟨_,(A3 (AF (i:=2) sc_order_read.nd rfl (Or.inl rfl) (Fq FB (by rfl) T.b_list PyProof.Rows.boot_list (A0 (pv 1) A4)))
   (A3 (Ao PassesOwn.never rfl (QQ rfl T.b_zip (A0 (BI C_order_seen hr (A0 (pv 0) A4)) (A0 (pv 1) A4))) (J2 (K:=K) (n:=2) rfl rfl (DJ (AS (i:=3) sc_order_read.nd rfl (Or.inl rfl)) (DJ (AS (i:=4) sc_order_read.nd rfl (Or.inl rfl)) Ir)))
   (A5 (C4 (pv 4) (C8 (pv 2) (pv 3) BD))))
   (A5 (AD (pv 2))))),?_⟩
  have hol:=Dd ls
  have hom:=El ls
  refine ⟨_,rfl,_,_,rfl,(Bn hb),fun rd0 hrd0=>⟨_,rfl,_,_,rfl,(A6 ha (A1 ha hrd0)),hl,hh,fun H1 o s1 ho0 h1=>⟨_,rfl,_,_,_,_,rfl,(SqL.of h1),(SqL.of (s1 _ _ (A6 hb (A1 hb hrd0)))),?_⟩⟩⟩
  have hor:o≠rd0:=(A1 A2 ho0).symm
  refine OV (xs:=AO (AY ls)) (ys:=AO row) (fun j σ H'=>Bk (∃ (v3 v4:Option V) (cj:List Nat),σ=[some (.ref a),some (.ref b),some (.ref rd0),v3,v4]/\Same H H'/\H' o=some (.lst (AO (AY ls)))/\H' rd0=some (.lst (AO cj))/\cj.length=ls.length/\cj=BW (((AY ls).zip row).take j) row))
   ?_ (fun j σ H4 h=>?_) (by simp;lia) (fun j vx vy t σ H4 hvx hvy h hT=>?_) (fun σ H4 h=>?_)
  .exact ⟨_,_,row,rfl,Same.trans (Same.set (Same.refl _) hrd0) s1,h1,s1 _ _ A2,hlr.symm,rfl⟩
  .obtain ⟨v3,v4,cj,rfl,s4,h4o,_⟩:=h
   exact ⟨SqL.of h4o,SqL.of (s4 _ _ hb)⟩
  .obtain ⟨v3,v4,cj,rfl,s4,h4o,h4r,hcjl,hcj⟩:=h
   obtain ⟨k,hk,rfl⟩:=BV hvx
   obtain ⟨v,hv,rfl⟩:=BV hvy
   have hkl:=(hom k).mp (ZD hk)
   have htr:t≠rd0:=(A1 h4r hT).symm
   have hto:t≠o:=(A1 h4o hT).symm
   refine ⟨_,_,rfl,(SqT.of A2),rfl,_,_,rfl,_,_,rfl,rfl,_,rfl,_,rfl,_,rfl,_,_,_,_,rfl,rfl,(A6 h4r htr.symm),(BR (by simp <;> lia)),?_⟩
   refine ⟨_,_,cj.set k v,rfl,Same.set (Same.set s4 (none_of s4 hT)) hrd0,A6 (A6 h4o hto.symm) hor,?_,by simp [hcjl],?_⟩
   .rw [A2,Bb]
   .rw [IP _ (q:=(k,v)) (List.getElem?_zip_eq_some (z:=(k,v)) |>.mpr ⟨hk,hv⟩),<-hcj]
  .obtain ⟨v3,v4,cj,rfl,s4,h4o,h4r,hcjl,hcj⟩:=h
   refine ⟨_,rfl,?_⟩
   refine q H4 rd0 s4 hrd0 ?_
   rw [h4r,hcj,List.take_of_length_le (by rw [List.length_zip,nVs_len];lia)]
   rfl
end
abbrev Fv:Stmt:=top 100
theorem sc_is_text:AB ["numbers","number"] ["numbers"] (A8 Fv):=⟨rfl,rfl,rfl,by decide +kernel,rfl,by decide +kernel,by decide +kernel⟩
abbrev Dk:Stmt:=top 101
theorem Im:AB ["told","text"] ["told","text"] (A8 Dk):=⟨rfl,rfl,rfl,by decide +kernel,rfl,by decide +kernel,by decide +kernel⟩
abbrev Hg:Stmt:=top 102
theorem Nv:AB ["told","first","many","text"] ["told","first","many","text"] (A8 Hg):=⟨rfl,rfl,rfl,by decide +kernel,rfl,by decide +kernel,by decide +kernel⟩
abbrev FT:Stmt:=Ae (top 103) 0
theorem Lh:AB ["self"] ["self"] (A8 FT):=⟨rfl,rfl,rfl,by decide +kernel,rfl,by decide +kernel,by decide +kernel⟩
abbrev CU:Stmt:=Ae (top 103) 1
theorem sc_Desk_keep_tables:AB ["self","classes","pairs","mirrors","refusal"] ["self","classes","pairs","mirrors"] (A8 CU):=⟨rfl,rfl,rfl,by decide +kernel,rfl,by decide +kernel,by decide +kernel⟩
abbrev E6:Stmt:=Ae (top 103) 2
theorem sc_Desk_look_up:AB ["self","character","kind","shown","bracket"] ["self","character"] (A8 E6):=⟨rfl,rfl,rfl,by decide +kernel,rfl,by decide +kernel,by decide +kernel⟩
abbrev D7:Stmt:=Ae (top 103) 3
theorem HE:AB ["self","text"] ["self","text"] (A8 D7):=⟨rfl,rfl,rfl,by decide +kernel,rfl,by decide +kernel,by decide +kernel⟩
abbrev C3:Stmt:=Ae (top 103) 4
theorem sc_Desk_paragraph_of:AB ["self","told","text","base"] ["self","told","text"] (A8 C3):=⟨rfl,rfl,rfl,by decide +kernel,rfl,by decide +kernel,by decide +kernel⟩
abbrev CH:Stmt:=Ae (top 103) 5
theorem sc_Desk_tell_levels:AB ["self","told","text","paragraph"] ["self","told","text"] (A8 CH):=⟨rfl,rfl,rfl,by decide +kernel,rfl,by decide +kernel,by decide +kernel⟩
abbrev Bp:Stmt:=Ae (top 103) 6
theorem sc_Desk_tell_sequences:AB ["self","told","text","sequences","answer","sequence"] ["self","told","text"] (A8 Bp):=⟨rfl,rfl,rfl,by decide +kernel,rfl,by decide +kernel,by decide +kernel⟩
abbrev D0:Stmt:=Ae (top 103) 7
theorem sc_Desk_show_line:AB ["self","told","first","many","text","levels","answer","k","character","shown"] ["self","told","first","many","text"] (A8 D0):=⟨rfl,rfl,rfl,by decide +kernel,rfl,by decide +kernel,by decide +kernel⟩
abbrev CJ:Stmt:=Ae (top 103) 8
theorem sc_Desk_find_beside:AB ["self","told","first","many","place","right","text","order","seen"] ["self","told","first","many","place","right","text"] (A8 CJ):=⟨rfl,rfl,rfl,by decide +kernel,rfl,by decide +kernel,by decide +kernel⟩
abbrev BJ:Stmt:=Ae (top 103) 9
theorem sc_Desk_put_in_reading:AB ["self","levels","row","level"] ["self","levels","row"] (A8 BJ):=⟨rfl,rfl,rfl,by decide +kernel,rfl,by decide +kernel,by decide +kernel⟩
structure EE (K:PySem.W.Frag) (C:Addr):Prop where
 cl:Cls K C
 f1:NoAttr K C "tables"
structure DeskAt (CD CT:Addr) (H:Hp) (d:Addr) (t:Dr.Tables):Prop where
 ex:∃ dx tx,H d=some (.ins CD dx [("tables",.ref tx)])/\TabAt CT H tx t/\tx≠d
theorem DeskAt.same {CD CT:Addr} {H H':Hp} {d:Addr} {t:Dr.Tables} (p:DeskAt CD CT H d t) (s:Same H H'):DeskAt CD CT H' d t:=by
 obtain ⟨dx,tx,h1,h2,h3⟩:=p.ex
 exact ⟨dx,tx,s _ _ h1,h2.same s,h3⟩
section
variable {P:Program} {w:World} {K:PySem.W.Frag} {mg:Str->Option Value} {base:Heap} {CT CP CS CD:Addr}
noncomputable def spText:Sp:=fun vs H Q _=>∃ (a:Addr) (t:List Nat),vs=[.ref a]/\H a=some (.lst (AO t))/\t.length<=100000/\∀ H',Same H H'->Q (.bl (Wrdirs.textOk t)) H'
theorem Ng (D:Dfn K mg "is_text" Fv ["numbers"]) (T:BX mg) (C_is_character:Ak P w K mg base 1 "is_character" ["number"] spChar):Ak P w K mg base 2 "is_text" ["numbers"] spText:=by
 refine D.ok sc_is_text (fun vs H Q E h=>?_) (fun f cdv A outer s H vs Q E hr h=>?_)
 .obtain ⟨a,t,rfl,_⟩:=h
  rfl
 .obtain ⟨a,t,rfl,ha,hl,q⟩:=h
  refine ⟨_,(A5 (AD (FF (B5 GE (AM (AK (K:=K) rfl) (by rfl) T.b_len PySem.boot_len (A0 (pv 0) A4)) (B4 T.c_MOST_CHARACTERS) (AG _)) (Cv (AM (T7 rfl) (by rfl) T.b_all PyProof.Rows.boot_all (A0 (JH rfl sc_is_text.nd (B6 (pv 0)) (own:=[("number",1)]) (BE (show FK ["numbers","number"] (A8 Fv) _ [("number",1)]=true from by decide +kernel)) (fun _ _ _ _ _=>(AS (i:=1) sc_is_text.nd rfl (Or.inl rfl))) (fun _ _ _ _ _=>Ba) (fun _ _ _ _ _=>(BI C_is_character hr (A0 (pv 1) A4)))) A4)))))),?_⟩
  have htk:Wrdirs.textOk t=(decide (t.length<=256) && t.all Dr.isChar):=rfl
  rw [htk] at q
  refine ⟨_,rfl,_,_,rfl,(Bn ha),_,_,rfl,rfl,_,rfl,?_⟩
  walk_at "?d"
  .refine ⟨_,rfl,_,rfl,(Ee ha),fun r hr0=>?_⟩
   refine CB (ys:=(t.map Dr.isChar).map V.bl) ha hr0 (by simp) (by simp;omega) (fun i v y H1 R F hv hy s1 kk=>?_) (fun H1 s1 h1=>?_)
   .obtain ⟨c,hc,rfl⟩:=BV hv
    have hy':y=.bl (Dr.isChar c):=by
     rw [List.getElem?_map,List.getElem?_map,hc] at hy
     exact (ZC hy).symm
    subst hy'
    refine ⟨rfl,⟨_,rfl,_,rfl,?_⟩⟩
    exact kk _ (Same.refl _)
   refine ⟨_,_,rfl,(SqL.of h1),?_⟩
   have:=q H1 s1
   rw [decide_eq_true (by omega),Bool.true_and] at this
   rw [List.all_map]
   exact this
  .have:=q H (Same.refl _)
   rw [decide_eq_false (by omega),Bool.false_and] at this
   exact this
noncomputable def Cg (n:Nat) (t:List Nat):Bool:=decide (n<=2) && Wrdirs.textOk t
noncomputable def spTold:Sp:=fun vs H Q _=>∃ (a:Addr) (t:List Nat) (n:Nat),vs=[NV n,.ref a]/\H a=some (.lst (AO t))/\t.length<=100000/\∀ H',Same H H'->Q (.bl (Cg n t)) H'
theorem IV (D:Dfn K mg "is_told_text" Dk ["told","text"]) (T:BX mg) (C_is_text:Ak P w K mg base 2 "is_text" ["numbers"] spText):Ak P w K mg base 3 "is_told_text" ["told","text"] spTold:=by
 refine D.ok Im (fun vs H Q E h=>?_) (fun f cdv A outer s H vs Q E hr h=>?_)
 .obtain ⟨a,t,n,rfl,_⟩:=h
  rfl
 .obtain ⟨a,t,n,rfl,ha,hl,q⟩:=h
  refine ⟨_,(A5 (AD (FF (B5 GE (pv 0) (B4 T.c_BY_THE_TEXT) (AG _)) (Cv (BI C_is_text hr (A0 (pv 1) A4)))))),?_⟩
  unfold Cg at q
  refine ⟨_,rfl,_,_,rfl,rfl,_,rfl,?_⟩
  walk_at "?d"
  .rw [decide_eq_true (by omega),Bool.true_and] at q
   refine ⟨_,rfl,_,_,rfl,ha,hl,fun H1 s1=>?_⟩
   exact q _ s1
  .rw [decide_eq_false (by omega),Bool.false_and] at q
   exact q _ (Same.refl _)
noncomputable def Ew (n fi mn:Nat) (t:List Nat):Bool:=Cg n t && decide (fi+mn<=t.length)
noncomputable def spLine:Sp:=fun vs H Q _=>∃ (a:Addr) (t:List Nat) (n fi mn:Nat),vs=[NV n,NV fi,NV mn,.ref a]/\H a=some (.lst (AO t))/\t.length<=100000/\∀ H',Same H H'->Q (.bl (Ew n fi mn t)) H'
theorem Nc (D:Dfn K mg "is_line" Hg ["told","first","many","text"]) (T:BX mg) (C_is_told_text:Ak P w K mg base 3 "is_told_text" ["told","text"] spTold):Ak P w K mg base 4 "is_line" ["told","first","many","text"] spLine:=by
 refine D.ok Nv (fun vs H Q E h=>?_) (fun f cdv A outer s H vs Q E hr h=>?_)
 .obtain ⟨a,t,n,fi,mn,rfl,_⟩:=h
  rfl
 .obtain ⟨a,t,n,fi,mn,rfl,ha,hl,q⟩:=h
  refine ⟨_,(A5 (AD (FF (BI C_is_told_text hr (A0 (pv 0) (A0 (pv 3) A4))) (Cv (B5 GE (Ab Ag (pv 1) (pv 2)) (AM (AK (K:=K) rfl) (by rfl) T.b_len PySem.boot_len (A0 (pv 3) A4)) (AG _)))))),?_⟩
  unfold Ew at q
  refine ⟨_,rfl,_,rfl,_,_,_,rfl,ha,hl,fun H1 s1=>⟨_,rfl,?_⟩⟩
  walk_at "?d"
  .rw [d,Bool.true_and] at q
   refine ⟨_,rfl,_,rfl,_,_,rfl,rfl,_,rfl,_,_,rfl,(Bn (s1 _ _ ha)),_,_,rfl,rfl,?_⟩
   have:=q H1 s1
   have e:decide (((fi:Int)+(mn:Int))<=((AO t).length:Int))=decide (fi+mn<=t.length):=by
    rw [nVs_len,decide_eq_decide]
    omega
   exact Pz e.symm this
  .rw [d,Bool.false_and] at q
   exact q _ s1
noncomputable def spDesk (CD CT:Addr):Sp:=fun vs H Q _=>∃ (d dx:Addr),vs=[.ref d]/\H d=some (.ins CD dx [])/\∀ H',DeskAt CD CT H' d Dr.PLAIN->Keep d H H'->Q .non H'
theorem Rc (D:Dmk K mg CD "Desk" "Desk.__init__" FT ["self"]) (T:BX mg) (F:EE K CD) (C_Tables:Kg P w K mg base 2 CT "Tables" ["self","classes","pairs","mirrors"] (spTab CT)):Kg P w K mg base 4 CD "Desk" ["self"] (spDesk CD CT):=by
 refine D.ok Lh (fun vs H Q E h=>?_) (fun f cdv A outer s H vs Q E hr h=>?_)
 .obtain ⟨d,dx,rfl,_⟩:=h
  rfl
 .obtain ⟨d,dx,rfl,hd,q⟩:=h
  obtain ⟨cl,f1⟩:=F
  refine ⟨_,(A5 (BF (pv 0) (RH C_Tables hr (A0 (Ac A4) (A0 (Ac A4) (A0 (Ac A4) A4)))) rfl)),?_⟩
  refine ⟨(BL rfl),fun a1 h1=>⟨(BL rfl),fun a2 h2=>⟨(BL rfl),fun a3 h3 x dx' nx ndx nex=>⟨_,_,_,_,_,_,_,_,rfl,A2,(show _=some (HO.lst (AO [])) by exact A6 (A6 (A6 (A6 A2 (A1 A2 h2)) (A1 (A6 A2 (A1 A2 h2)) h3)) (A1 (A6 (A6 A2 (A1 A2 h2)) (A1 (A6 A2 (A1 A2 h2)) h3)) ndx)) (A1 (A6 (A6 A2 (A1 A2 h2)) (A1 (A6 A2 (A1 A2 h2)) h3)) nx)),(show _=some (HO.lst (AO [])) by exact A6 (A6 (A6 A2 (A1 A2 h3)) (A1 (A6 A2 (A1 A2 h3)) ndx)) (A1 (A6 A2 (A1 A2 h3)) nx)),(show _=some (HO.lst (AO [])) by exact A6 (A6 A2 (A1 A2 ndx)) (A1 A2 nx)),rfl,rfl,rfl,Nat.zero_le _,Nat.zero_le _,Nat.zero_le _,TOk.plain,fun H1 hT k1 _=>?_⟩⟩⟩⟩
  have hxd:x≠d:=(A1 (A6 (A6 (A6 hd (A1 hd h1)) (A1 (A6 hd (A1 hd h1)) h2)) (A1 (A6 (A6 hd (A1 hd h1)) (A1 (A6 hd (A1 hd h1)) h2)) h3)) nx).symm
  have h1d:H1 d=some (.ins CD dx []):=k1 _ _ (A6 (A6 (A6 (A6 (A6 hd (A1 hd h1)) (A1 (A6 hd (A1 hd h1)) h2)) (A1 (A6 (A6 hd (A1 hd h1)) (A1 (A6 hd (A1 hd h1)) h2)) h3)) (A1 (A6 (A6 (A6 hd (A1 hd h1)) (A1 (A6 hd (A1 hd h1)) h2)) (A1 (A6 (A6 hd (A1 hd h1)) (A1 (A6 hd (A1 hd h1)) h2)) h3)) ndx)) hxd.symm) hxd.symm
  refine ⟨rfl,_,rfl,_,_,_,_,rfl,h1d,cl,f1,(BL rfl),?_⟩
  have kd:Keep d H1 (upd H1 d (HO.ins CD dx (Cm "tables" (V.ref x) []))):=Keep.set
  refine q _ ⟨dx,x,?_,hT.keep h1d hxd kd,hxd⟩ (Keep.viaU (Keep.viaK (Keep.viaU (Keep.viaU (Keep.viaU (Keep.viaU (Keep.viaU (Keep.refl _ _) (.inr h1)) (.inr (none_of (Same.set (Same.refl _) h1) h2))) (.inr (none_of (Same.set (Same.set (Same.refl _) h1) (none_of (Same.set (Same.refl _) h1) h2)) h3))) (.inr (none_of (Same.set (Same.set (Same.set (Same.refl _) h1) (none_of (Same.set (Same.refl _) h1) h2)) (none_of (Same.set (Same.set (Same.refl _) h1) (none_of (Same.refl _) (E3 h2))) h3)) ndx))) (.inr (none_of (Same.set (Same.set (Same.set (Same.refl _) h1) (none_of (Same.set (Same.refl _) h1) h2)) (none_of (Same.set (Same.set (Same.refl _) h1) (none_of (Same.refl _) (E3 h2))) h3)) nx))) k1 (.inr (none_of (Same.set (Same.set (Same.set (Same.refl _) h1) (none_of (Same.set (Same.refl _) h1) h2)) (none_of (Same.set (Same.set (Same.refl _) h1) (none_of (Same.refl _) (E3 h2))) h3)) nx))) (.inl rfl))
  rw [A2]
  rfl
noncomputable def Off (CD CT g:Addr) (H:Hp) (d:Addr):Prop:=∃ dx tx dxt r b m,H d=some (.ins CD dx [("tables",.ref tx)])/\H tx=some (.ins CT dxt (TQ r b m))/\r≠g
theorem Off.same {CD CT g:Addr} {H H':Hp} {d:Addr} (h:Off CD CT g H d) (s:Same H H'):Off CD CT g H' d:=by
 obtain ⟨dx,tx,dxt,r,b,m,h1,h2,h3⟩:=h
 exact ⟨dx,tx,dxt,r,b,m,s _ _ h1,s _ _ h2,h3⟩
noncomputable def Sk (CD CT:Addr) (H H':Hp) (d:Addr):Prop:=∀ g o,H g=some o->Off CD CT g H d->Off CD CT g H' d
noncomputable def G0 (l:List Int):List V:=l.map V.int
noncomputable def spKeepT (CD CT:Addr):Sp:=fun vs H Q _=>∃ (d a b e:Addr) (t:Dr.Tables) (c p m:List Nat),vs=[.ref d,.ref a,.ref b,.ref e]/\DeskAt CD CT H d t/\H a=some (.lst (AO c))/\H b=some (.lst (AO p))/\H e=some (.lst (AO m))/\c.length<=100000/\p.length<=100000/\m.length<=100000 /\
 ∀ (H':Hp) (r:Addr),Keep d H H'->DeskAt CD CT H' d (Wrdirs.step t (.tables c p m)).1->H' r=some (.lst (G0 (WrdirsNeutral.told (Wrdirs.step t (.tables c p m)).2)))->H r=none->Sk CD CT H H' d->Q (.ref r) H'
theorem J6 (D:Dme K CD "keep_tables" "Desk.keep_tables" CU ["self","classes","pairs","mirrors"]) (T:BX mg) (F:EE K CD) (C_Tables:Kg P w K mg base 2 CT "Tables" ["self","classes","pairs","mirrors"] (spTab CT))
  (C_refusal_of_tables:Ak P w K mg base 3 "refusal_of_tables" ["classes","pairs","mirrors"] spRef):Cb P w K mg base 4 CD "keep_tables" ["self","classes","pairs","mirrors"] (spKeepT CD CT):=by
 refine D.ok sc_Desk_keep_tables (fun vs H Q E h=>?_) (fun f cdv A outer s H vs Q E hr h=>?_)
 .obtain ⟨d,a,b,e,t,c,p,m,rfl,_⟩:=h
  rfl
 .obtain ⟨d,a,b,e,t,c,p,m,rfl,hD,ha,hb,he,hcl,hpl,hml,q⟩:=h
  obtain ⟨cl,f1⟩:=F
  obtain ⟨dx,tx,hd,hT,htd⟩:=hD.ex
  refine ⟨_,(A3 (AF (i:=4) sc_Desk_keep_tables.nd rfl (Or.inl rfl) (BI C_refusal_of_tables hr (A0 (pv 1) (A0 (pv 2) (A0 (pv 3) A4)))))
   (A3 (AU (AA Ev (pv 4) BG (AG _))
   (A5 (AD (pv 4)))
   AJ)
   (A3 (BF (pv 0) (RH C_Tables hr (A0 (pv 1) (A0 (pv 2) (A0 (pv 3) A4)))) rfl)
   (A5 (AD (Ac (A0 A7 A4))))))),?_⟩
  rw [MC] at q
  refine ⟨_,rfl,_,rfl,_,rfl,_,_,_,_,_,_,rfl,ha,hb,he,hcl,hpl,hml,?_,?_⟩
  .intro hno H1 s1
   have hrf:Du c p m=none:=by
    unfold KI at hno
    exact Option.map_eq_none_iff.mp hno
   obtain ⟨c3,p3,m2,hok⟩:=MT hrf
   have hlens:c.length<=768/\p.length<=768/\m.length<=512:=by
    unfold Du at hrf
    split at hrf
    .cases hrf
    .omega
   rw [hrf] at q
   refine ⟨_,rfl,rfl,_,rfl,⟨_,rfl,_,rfl,_,rfl,fun x dx' nx ndx nex=>⟨_,_,_,_,_,_,_,_,rfl,A2,(A6 (A6 (s1 _ _ ha) (A1 (s1 _ _ ha) ndx)) (A1 (s1 _ _ ha) nx)),(A6 (A6 (s1 _ _ hb) (A1 (s1 _ _ hb) ndx)) (A1 (s1 _ _ hb) nx)),(A6 (A6 (s1 _ _ he) (A1 (s1 _ _ he) ndx)) (A1 (s1 _ _ he) nx)),c3,p3,m2,(by omega),(by omega),(by omega),hok,fun H2 hT2 k2 hN=>⟨rfl,_,rfl,_,_,_,_,rfl,(k2 _ _ (A6 (A6 (s1 _ _ hd) (A1 (s1 _ _ hd) ndx)) (A1 (s1 _ _ hd) nx)) (A1 (s1 _ _ hd) nx)),cl,f1,(BL rfl),(BL rfl),fun r hr0=>?_⟩⟩⟩⟩
   have hxd:x≠d:=(A1 (s1 _ _ hd) nx).symm
   have h2d:H2 d=some (.ins CD dx [("tables",V.ref tx)]):=k2 _ _ (A6 (A6 (s1 _ _ hd) (A1 (s1 _ _ hd) ndx)) hxd.symm) hxd.symm
   have kd:Keep d H2 (upd H2 d (HO.ins CD dx (Cm "tables" (V.ref x) [("tables",V.ref tx)]))):=Keep.set
   have hrd:r≠d:=(A1 A2 hr0).symm
   refine q _ r (Keep.viaU (Keep.viaU (Keep.viaK (Keep.viaU (Keep.viaU (Keep.viaS (Keep.refl _ _) s1) (.inr (none_of s1 ndx))) (.inr (none_of s1 nx))) k2 (.inr (none_of s1 nx))) (.inl rfl)) (.inr (none_of (Same.kept (Same.set (Same.set s1 (none_of s1 ndx)) (none_of s1 nx)) (none_of s1 nx) k2) (E3 hr0)))) (DeskAt.same ⟨dx,x,?_,hT2.keep h2d hxd kd,hxd⟩ (Same.upd hr0)) (by rw [A2];rfl) (none_of (Same.kept (Same.set (Same.set s1 (none_of s1 ndx)) (none_of s1 nx)) (none_of s1 nx) k2) (E3 hr0)) (fun g o hg _=>?_)
   .rw [A2]
    rfl
   .obtain ⟨dxt,r',b',m',hx',hr'⟩:=hN
    have hdr:d≠r:=hrd.symm
    refine ⟨dx,x,dxt,r',b',m',?_,?_,?_⟩
    .rw [AQ hdr,A2]
     rfl
    .rw [AQ (A1 hx' (none_of (Same.refl _) (E3 hr0))),AQ hxd]
     exact hx'
    .intro z
     subst z
     have:H r'=none:=none_of (Same.set (Same.set s1 (none_of s1 ndx)) (none_of s1 nx)) hr'
     rw [this] at hg
     cases hg
  .intro l hl H1 r s1 hr0 h1
   refine ⟨_,rfl,rfl,_,rfl,⟨_,rfl,?_⟩⟩
   have hq:∃ y,Du c p m=some y/\(match y.2 with | none=>[-1] | some (a,b)=>[-2,(a:Int),(b:Int)])=l:=by
    unfold KI at hl
    exact Option.map_eq_some_iff.mp hl
   obtain ⟨⟨z,o⟩,hy,rfl⟩:=hq
   rw [hy] at q
   cases o with
   | none=>exact q H1 r (Keep.viaS (Keep.refl _ _) s1) (hD.same s1) h1 hr0 (fun g o _ ho=>ho.same s1)
   | some ab=>exact q H1 r (Keep.viaS (Keep.refl _ _) s1) (hD.same s1) h1 hr0 (fun g o _ ho=>ho.same s1)
end
theorem L8 (l:List Nat):G0 (WrdirsNeutral.ints l)=AO l:=by
 unfold G0 WrdirsNeutral.ints AO
 rw [List.map_map]
 rfl
theorem JL {t:Dr.Tables} (h:TOk t) {text:List Nat} (hl:text.length<=256):Ol ((AV t text).map Dr.Look.cls):=by
 refine ⟨fun c hc=>?_,by rw [ZE];unfold AV;rw [ZE];lia⟩
 rw [Eg] at hc
 obtain ⟨x,_,rfl⟩:=List.mem_map.mp hc
 exact R3 h x
theorem Ny {t:Dr.Tables} (h:TOk t) {text:List Nat} (hl:text.length<=256):∀ c∈(AV t text).map Dr.Look.cls,c≠10:=fun c hc=>((JL h hl).ok c hc).2
theorem JO {text:List Nat} (h:Wrdirs.textOk text=true):text.length<=256:=by
 unfold Wrdirs.textOk Wrdirs.LONG at h
 rw [Bool.and_eq_true] at h
 exact of_decide_eq_true h.1
section
variable {P:Program} {w:World} {K:PySem.W.Frag} {mg:Str->Option Value} {base:Heap} {CT CP CS CD:Addr}
noncomputable def OP (t:Dr.Tables) (c:Wrdirs.Call):List V:=G0 (WrdirsNeutral.told (Wrdirs.step t c).2)
noncomputable def NU (H:Hp) (l:List V) (Q:VK):Prop:=∀ (H':Hp) (r:Addr),Same H H'->H r=none->H' r=some (.lst l)->Q (.ref r) H'
noncomputable def spLook (CD CT:Addr):Sp:=fun vs H Q _=>∃ (d:Addr) (t:Dr.Tables) (c:Nat),vs=[.ref d,NV c]/\DeskAt CD CT H d t/\NU H (OP t (.looked c)) Q
theorem O9 (D:Dme K CD "look_up" "Desk.look_up" E6 ["self","character"]) (T:BX mg) (F:EE K CD) (C_is_character:Ak P w K mg base 1 "is_character" ["number"] spChar) (M_Tables_kind_of:Cb P w K mg base 1 CT "kind_of" ["self","character"] (spKind CT))
  (M_Tables_shown_for:Cb P w K mg base 1 CT "shown_for" ["self","character"] (spShown CT)) (M_Tables_bracket_of:Cb P w K mg base 1 CT "bracket_of" ["self","character"] (spBrOf CT)):Cb P w K mg base 2 CD "look_up" ["self","character"] (spLook CD CT):=by
 refine D.ok sc_Desk_look_up (fun vs H Q E h=>?_) (fun f cdv A outer s H vs Q E hr h=>?_)
 .obtain ⟨d,t,c,rfl,_⟩:=h
  rfl
 .obtain ⟨d,t,c,rfl,hD,q⟩:=h
  obtain ⟨cl,f1⟩:=F
  obtain ⟨dx,tx,hd,hT,htd⟩:=hD.ex
  obtain ⟨_,dxt,r0,b0,m0',rts,kvs,htx,_⟩:=hT
  have hT:TabAt CT H tx t:=by obtain ⟨_,_,h1,h2,_⟩:=hD.ex;rw [hd] at h1;cases h1;exact h2
  refine ⟨_,(A3 (AU (C6 (As (BI C_is_character hr (A0 (pv 1) A4))))
   (A5 (AD (Ac (A0 (BQ Av A7) A4))))
   AJ)
   (A3 (AF (i:=2) sc_Desk_look_up.nd rfl (Or.inl rfl) (JA M_Tables_kind_of hr (AI (K:=K) rfl (pv 0) rfl) (A0 (pv 1) A4)))
   (A3 (AF (i:=3) sc_Desk_look_up.nd rfl (Or.inl rfl) (JA M_Tables_shown_for hr (AI (K:=K) rfl (pv 0) rfl) (A0 (pv 1) A4)))
   (A3 (AF (i:=4) sc_Desk_look_up.nd rfl (Or.inl rfl) (JA M_Tables_bracket_of hr (AI (K:=K) rfl (pv 0) rfl) (A0 (pv 1) A4)))
   (A3 (AU (AA K3 (pv 4) BG (AG _))
   (A5 (AD (Ac (A0 A7 (A0 (pv 2) (A0 A7 (A0 A7 (A0 A7 (A0 (pv 3) A4)))))))))
   AJ)
   (A5 (AD (Ac (A0 A7 (A0 (pv 2) (A0 A7 (A0 (AE (An (K:=K) rfl) (pv 4) A7 (fun _ _=>rfl)) (A0 (AE (An (K:=K) rfl) (pv 4) A7 (fun _ _=>rfl)) (A0 (pv 3) A4)))))))))))))),?_⟩
  have ha:OP t (.looked c)=G0 (WrdirsNeutral.told (if Dr.isChar c=false then Wrdirs.BAD else .nums (t.classOf c::(match t.pairOf c with
   | some x=>[1,x.1,if x.2 then 1 else 0]
   | none=>[0,0,0])++[t.mirror c]))):=rfl
  rw [ha] at q
  clear ha
  refine ⟨_,rfl,_,rfl,_,rfl,?_⟩
  walk_at "?d0"
  .rw [if_pos (by simpa using d0)] at q
   refine ⟨_,rfl,(BL rfl),fun r hr0=>?_⟩
   exact q _ r (Same.upd hr0) hr0 (by rw [A2];rfl)
  .rw [if_neg (by simpa using d0)] at q
   refine ⟨_,rfl,_,_,_,_,_,rfl,hd,cl,f1,rfl,_,_,_,rfl,htx,rfl,_,rfl,_,_,_,rfl,(TabAt.same hT (Same.refl _)),_,rfl,_,_,_,_,_,rfl,hd,cl,f1,rfl,_,_,_,rfl,htx,rfl,_,rfl,_,_,_,rfl,(TabAt.same hT (Same.refl _)),_,rfl,_,_,_,_,_,rfl,hd,cl,f1,rfl,_,_,_,rfl,htx,rfl,_,rfl,_,_,_,rfl,(TabAt.same hT (Same.refl _)),fun v hv=>⟨_,rfl,rfl,_,rfl,?_⟩⟩
   cases hp:t.pairOf c with
   | none =>
    rw [hp] at hv q
    have e:v=.non:=hv
    subst e
    refine ⟨_,rfl,_,rfl,(BL rfl),fun r hr0=>?_⟩
    exact q _ r (Same.upd hr0) hr0 (by rw [A2];rfl)
   | some x =>
    obtain ⟨k,o⟩:=x
    rw [hp] at hv q
    obtain ⟨tt,rfl,htt⟩:=hv
    refine ⟨_,rfl,_,rfl,_,_,_,_,rfl,rfl,(SqT.of htt),rfl,_,rfl,_,_,_,_,rfl,rfl,(SqT.of htt),rfl,_,rfl,(BL rfl),fun r hr0=>?_⟩
    refine q _ r (Same.upd hr0) hr0 ?_
    rw [A2]
    cases o <;> rfl
noncomputable def spTB (CD CT:Addr):Sp:=fun vs H Q _=>∃ (d a:Addr) (t:Dr.Tables) (text:List Nat),vs=[.ref d,.ref a]/\DeskAt CD CT H d t/\H a=some (.lst (AO text))/\text.length<=100000/\NU H (OP t (.base text)) Q
theorem Ld (D:Dme K CD "tell_base" "Desk.tell_base" D7 ["self","text"]) (T:BX mg) (F:EE K CD) (C_is_text:Ak P w K mg base 2 "is_text" ["numbers"] spText) (C_base_of:Ak P w K mg base 3 "base_of" ["tables","text"] (spBaseOf CT)):Cb P w K mg base 4 CD "tell_base" ["self","text"] (spTB CD CT):=by
 refine D.ok HE (fun vs H Q E h=>?_) (fun f cdv A outer s H vs Q E hr h=>?_)
 .obtain ⟨d,a,t,text,rfl,_⟩:=h
  rfl
 .obtain ⟨d,a,t,text,rfl,hD,ha,hl,q⟩:=h
  obtain ⟨cl,f1⟩:=F
  obtain ⟨dx,tx,hd,hT,htd⟩:=hD.ex
  refine ⟨_,(A3 (AU (C6 (As (BI C_is_text hr (A0 (pv 1) A4))))
   (A5 (AD (Ac (A0 (BQ Av A7) A4))))
   AJ)
   (A5 (AD (Ac (A0 A7 (A0 (BI C_base_of hr (A0 (AI (K:=K) rfl (pv 0) rfl) (A0 (pv 1) A4))) A4)))))),?_⟩
  have haa:OP t (.base text)=G0 (WrdirsNeutral.told (if 2<2\/Wrdirs.textOk text=false then Wrdirs.BAD else .nums [Dr.base none (AV t text)])):=rfl
  rw [haa] at q
  clear haa
  refine ⟨_,rfl,_,_,rfl,ha,hl,fun H1 s1=>⟨_,rfl,?_⟩⟩
  walk_at "?d0"
  .rw [if_pos (.inr (by simpa using d0))] at q
   refine ⟨_,rfl,(BL rfl),fun r hr0=>?_⟩
   exact q _ r (Same.set s1 (none_of s1 hr0)) (none_of s1 hr0) (by rw [A2];rfl)
  .have d0:Wrdirs.textOk text=true:=by simpa using d0
   have hl2:=JO d0
   rw [if_neg (by rw [d0];simp)] at q
   refine ⟨_,rfl,_,_,_,_,_,rfl,(s1 _ _ hd),cl,f1,rfl,_,rfl,_,_,_,_,rfl,(TabAt.keep hT hd htd (Keep.viaS (Keep.refl _ _) s1)),(s1 _ _ ha),(by lia),fun H2 s2=>⟨(BL rfl),fun r hr0=>?_⟩⟩
   refine q _ r (Same.set (s1.trans s2) (none_of (s1.trans s2) hr0)) (none_of (s1.trans s2) hr0) ?_
   rw [A2]
   unfold Dr.base
   rw [Eg]
   rfl
noncomputable def Aj (t:Dr.Tables) (n:Nat) (text:List Nat):Nat:=Dr.base (Wrdirs.toldOf n) (AV t text)
noncomputable def spParOf (CD CT CP CS:Addr):Sp:=fun vs H Q _=>∃ (d a:Addr) (t:Dr.Tables) (n:Nat) (text:List Nat),vs=[.ref d,NV n,.ref a]/\DeskAt CD CT H d t/\H a=some (.lst (AO text))/\n<=2/\text.length<=256 /\
 ∀ (H':Hp) (p dxp k br fo sq:Addr) (ss:List Addr),Same H H'->H p=none->ParAt CP CS H' p (AV t text) (Aj t n text)->H' p=some (.ins CP dxp (VR (Aj t n text) k br fo sq))->H' sq=some (.lst (ss.map V.ref)) ->
  SeqsAt CS H' sq ss ((Ay ((AV t text).map Dr.Look.cls) (Aj t n text)).map (BZ (AV t text) (Aj t n text)))->Q (.ref p) H'
theorem IW (D:Dme K CD "paragraph_of" "Desk.paragraph_of" C3 ["self","told","text"]) (T:BX mg) (F:EE K CD) (C_base_of:Ak P w K mg base 3 "base_of" ["tables","text"] (spBaseOf CT)) (C_Paragraph:Kg P w K mg base 6 CP "Paragraph" ["self","tables","text","base"] (spPar CP CS CT)) :
  Cb P w K mg base 8 CD "paragraph_of" ["self","told","text"] (spParOf CD CT CP CS):=by
 refine D.ok sc_Desk_paragraph_of (fun vs H Q E h=>?_) (fun f cdv A outer s H vs Q E hr h=>?_)
 .obtain ⟨d,a,t,n,text,rfl,_⟩:=h
  rfl
 .obtain ⟨d,a,t,n,text,rfl,hD,ha,hn,hl,q⟩:=h
  obtain ⟨cl,f1⟩:=F
  obtain ⟨dx,tx,hd,hT,htd⟩:=hD.ex
  refine ⟨_,(A3 (AF (i:=3) sc_Desk_paragraph_of.nd rfl (Or.inl rfl) (EU (Aw (AA Af (pv 1) (B4 T.c_BY_THE_TEXT) (AG _)) (BI C_base_of hr (A0 (AI (K:=K) rfl (pv 0) rfl) (A0 (pv 2) A4))) (pv 1))))
   (A5 (AD (RH C_Paragraph hr (A0 (AI (K:=K) rfl (pv 0) rfl) (A0 (pv 2) (A0 (pv 3) A4))))))),?_⟩
  skip
  refine ⟨fun v H'=>v=NV (Aj t n text)/\Same H H',?_,?_⟩
  .unfold Aj Wrdirs.toldOf Dr.base
   rw [Eg]
   refine ⟨_,rfl,rfl,_,rfl,?_⟩
   walk_at "?d2"
   .rw [if_neg (by lia)]
    refine ⟨_,rfl,_,_,_,_,_,rfl,hd,cl,f1,rfl,_,rfl,_,_,_,_,rfl,(TabAt.keep hT hd htd (Keep.refl _ _)),ha,(by lia),fun H1 s1=>⟨rfl,?_⟩⟩
    exact s1
   .rw [if_pos (by lia)]
    refine ⟨_,rfl,rfl,?_⟩
    exact Same.refl _
  rintro _ H1 ⟨rfl,s1⟩
  have hT1:=hT.same s1
  have htx:∃ o,H1 tx=some o:=by
   obtain ⟨_,dxt,r0,b0,m0',rts,kvs,htx,_⟩:=hT1
   exact ⟨_,htx⟩
  obtain ⟨o,htx⟩:=htx
  refine ⟨_,rfl,_,_,_,_,_,rfl,(s1 _ _ hd),cl,f1,rfl,_,rfl,_,rfl,fun x dx' nx ndx nex=>⟨_,_,_,_,_,_,_,rfl,A2,(A1 htx nx),(TabAt.same hT1 (Same.set (Same.set (Same.refl _) ndx) nx)),(A6 (A6 (s1 _ _ ha) (A1 (s1 _ _ ha) ndx)) (A1 (s1 _ _ ha) nx)),(by lia),fun H2 hP2 k2=>⟨rfl,?_⟩⟩⟩
  obtain ⟨dxp,k,br,fo,sq,vb,ss,g1,g2,g3,g4,g5,g6,g7⟩:=hP2.ex
  exact q H2 x dxp k br fo sq ss (Same.kept (Same.set (Same.set s1 (none_of s1 ndx)) (none_of s1 nx)) (none_of s1 nx) k2) (none_of s1 nx) hP2 g1 g6 g7
end
theorem LE {n:Nat} {text:List Nat} (h:Cg n text=true):¬(2<n\/Wrdirs.textOk text=false)/\n<=2/\text.length<=256:=by
 unfold Cg at h
 rw [Bool.and_eq_true] at h
 have h1:=of_decide_eq_true h.1
 refine ⟨?_,h1,JO h.2⟩
 rintro (z | z)
 .lia
 .rw [h.2] at z;cases z
theorem LM {n:Nat} {text:List Nat} (h:Cg n text=false):2<n\/Wrdirs.textOk text=false:=by
 unfold Cg at h
 rw [Bool.and_eq_false_iff] at h
 rcases h with h | h
 .left
  have:=of_decide_eq_false h
  lia
 .exact .inr h
theorem LN {t:Dr.Tables} (hok:TOk t) {n:Nat} {text:List Nat} (hl:text.length<=256):Dr.levels (Wrdirs.toldOf n) (AV t text)=JF (AV t text) (Aj t n text):=LH _ _ (Ny hok hl)
theorem Q2:∀ (n:Nat) (l:List Nat),l.Nodup->(∀ i∈l,i<n)->l.length<=n:=by
 intro n
 induction n with
 | zero =>
  intro l _ h
  cases l with
  | nil=>exact Nat.le_refl _
  | cons a l=>exact absurd (h a (.head _)) (Nat.not_lt_zero _)
 | succ n ih =>
  intro l nd h
  have h1:=ih (l.filter fun i=>i≠n) (List.Pairwise.filter _ nd) fun i hi=>by
   obtain ⟨a,b⟩:=List.mem_filter.mp hi
   have:=h i a
   have b:i≠n:=by simpa using b
   lia
  have h2:l.length<=(l.filter fun i=>i≠n).length+1:=by
   clear ih h h1
   induction l with
   | nil=>simp
   | cons a l ih2 =>
    have nd:=List.nodup_cons.mp nd
    by_cases e:a=n
    .subst e
     rw [List.filter_cons_of_neg (by simp),List.filter_eq_self.mpr (fun i hi=>by
      have:i≠a:=fun z=>nd.1 (z▸hi)
      simpa using this)]
     simp
    .rw [List.filter_cons_of_pos (by simpa using e)]
     have:=ih2 nd.2
     simp at this ⊢
     lia
  lia
theorem Gw (row:List Nat) (b:Nat):(Ay row b).flatten.length<=row.length:=by
 have G:=Geo.of row b
 refine Q2 _ _ G.once fun i hi=>?_
 obtain ⟨c,hc,_⟩:=(G.mem i).mp ((G.cover i).mp hi)
 exact (ZB.mp hc).1
theorem Om (row:List Nat) (b:Nat):∀ X∈Ay row b,X≠[]:=fun X hX=>by
 unfold Ay GA at hX
 obtain ⟨x,hx,rfl⟩:=List.mem_map.mp hX
 have hxne:=Cf _ _ x (List.mem_filter.mp hx).1
 obtain ⟨tt,ht⟩:=M8 (row:=row) (rs:=AC (DX row b) (FJ row)) (f:=(AC (DX row b) (FJ row)).length) hxne
 rw [ht]
 intro z
 exact hxne (List.append_eq_nil_iff.mp z).1
noncomputable def OI (s:Hb):List Nat:=s.places.length::s.level::s.places
theorem R7 (l:List Dr.Look) (b:Nat):∀ L:List (List Nat),(∀ X∈L,X≠[])->((L.map (BZ l b)).flatMap OI).length<=3*L.flatten.length
 | [],_=>Nat.le_refl _
 | X::L,h=>by
  have ih:=R7 l b L fun Y hY=>h Y (.tail _ hY)
  have hX:0<X.length:=List.length_pos_iff.mpr (h X (.head _))
  rw [List.map_cons,List.flatMap_cons,List.length_append,List.flatten_cons,List.length_append]
  have:(OI (BZ l b X)).length=X.length+2:=rfl
  lia
theorem RY (sqs:List Hb):G0 (WrdirsNeutral.told (.rows (sqs.map fun s=>s.level::s.places)))=V.int 0::NV sqs.length::AO (sqs.flatMap OI):=by
 show V.int 0::V.int ((sqs.map fun s=>s.level::s.places).length:Int)::G0 ((sqs.map fun s=>s.level::s.places).flatMap fun x=>((x.length - 1:Nat):Int)::WrdirsNeutral.ints x)=_
 rw [ZE]
 congr 2
 rw [List.flatMap_map]
 unfold G0 AO
 rw [List.map_flatMap,List.map_flatMap]
 congr 1
 funext s
 show V.int (((s.level::s.places).length - 1:Nat):Int)::List.map V.int (WrdirsNeutral.ints (s.level::s.places))=_
 rw [show List.map V.int (WrdirsNeutral.ints (s.level::s.places))=AO (s.level::s.places) from L8 _]
 rfl
section
variable {P:Program} {w:World} {K:PySem.W.Frag} {mg:Str->Option Value} {base:Heap} {CT CP CS CD:Addr}
noncomputable def spTL (CD CT:Addr):Sp:=fun vs H Q _=>∃ (d a:Addr) (t:Dr.Tables) (n:Nat) (text:List Nat),vs=[.ref d,NV n,.ref a]/\DeskAt CD CT H d t/\H a=some (.lst (AO text))/\text.length<=100000/\NU H (OP t (.levels n text)) Q
theorem Ja (D:Dme K CD "tell_levels" "Desk.tell_levels" CH ["self","told","text"]) (T:BX mg) (F:EE K CD) (G:Lf K CP) (C_is_told_text:Ak P w K mg base 3 "is_told_text" ["told","text"] spTold) (M_Desk_paragraph_of:Cb P w K mg base 8 CD "paragraph_of" ["self","told","text"] (spParOf CD CT CP CS))
  (M_Paragraph_final_levels:Cb P w K mg base 7 CP "final_levels" ["self"] (spFinal CP CS)):Cb P w K mg base 9 CD "tell_levels" ["self","told","text"] (spTL CD CT):=by
 refine D.ok sc_Desk_tell_levels (fun vs H Q E h=>?_) (fun f cdv A outer s H vs Q E hr h=>?_)
 .obtain ⟨d,a,t,n,text,rfl,_⟩:=h
  rfl
 .obtain ⟨d,a,t,n,text,rfl,hD,ha,hl,q⟩:=h
  obtain ⟨cl,f1⟩:=F
  obtain ⟨pl,p1,p2,p3,p4,p5⟩:=G
  obtain ⟨dx,tx,hd,hT,htd⟩:=hD.ex
  refine ⟨_,(A3 (AU (C6 (As (BI C_is_told_text hr (A0 (pv 1) (A0 (pv 2) A4)))))
   (A5 (AD (Ac (A0 (BQ Av A7) A4))))
   AJ)
   (A3 (AF (i:=3) sc_Desk_tell_levels.nd rfl (Or.inl rfl) (JA M_Desk_paragraph_of hr (pv 0) (A0 (pv 1) (A0 (pv 2) A4))))
   (A5 (AD (Ab Lc (Ac (A0 A7 (A0 (AI (K:=K) rfl (pv 3) rfl) A4))) (Gm M_Paragraph_final_levels hr (pv 3))))))),?_⟩
  have haa:OP t (.levels n text)=G0 (WrdirsNeutral.told (if 2<n\/Wrdirs.textOk text=false then Wrdirs.BAD else .nums (Aj t n text::Dr.levels (Wrdirs.toldOf n) (AV t text)))):=rfl
  rw [haa] at q
  clear haa
  refine ⟨_,rfl,_,rfl,_,_,_,rfl,ha,hl,fun H1 s1=>⟨_,rfl,?_⟩⟩
  walk_at "?d0"
  .rw [if_pos (LM (by simpa using d0))] at q
   refine ⟨_,rfl,(BL rfl),fun r hr0=>?_⟩
   exact q _ r (Same.set s1 (none_of s1 hr0)) (none_of s1 hr0) (by rw [A2];rfl)
  .obtain ⟨g1,g2,g3⟩:=LE (show Cg n text=true by simpa using d0)
   have hR:=JL hT.ok g3
   rw [if_neg g1,LN hT.ok g3] at q
   have hll:(JF (AV t text) (Aj t n text)).length=text.length:=by
    unfold JF
    rw [Es]
    unfold AV
    rw [ZE]
   have hll2:(Dr.fillLevels (known (AV t text) (Aj t n text)) (AV t text).length 0 (Aj t n text)).length=text.length:=hll
   refine ⟨_,rfl,_,_,_,rfl,(s1 _ _ hd),rfl,_,rfl,_,rfl,_,_,_,_,_,rfl,(DeskAt.same hD s1),(s1 _ _ ha),g2,g3,fun H2 p dxp k br fo sq ss s2 hp0 hPar hpx hsq hSA=>⟨_,rfl,_,_,_,_,_,rfl,hpx,pl,p1,rfl,(BL rfl),fun c1 hc1=>⟨_,rfl,_,_,_,rfl,(A6 hpx (A1 hpx hc1)),rfl,_,_,_,rfl,(ParAt.same hPar (Same.set (Same.refl _) hc1)),hR,fun H3 r s3 hr0 h3=>⟨_,_,_,_,rfl,rfl,(s3 _ _ A2),h3,(DT (by simp <;> lia)),fun rr hrr=>?_⟩⟩⟩⟩
   refine q _ rr (Same.set (Same.trans (Same.set (s1.trans s2) (none_of (s1.trans s2) hc1)) s3) (none_of (Same.trans (Same.set (s1.trans s2) (none_of (s1.trans s2) hc1)) s3) hrr)) (none_of (Same.trans (Same.set (s1.trans s2) (none_of (s1.trans s2) hc1)) s3) hrr) ?_
   rw [A2]
   show _=some (HO.lst (G0 (0::WrdirsNeutral.ints (Aj t n text::JF (AV t text) (Aj t n text)))))
   rw [show G0 (0::WrdirsNeutral.ints (Aj t n text::JF (AV t text) (Aj t n text)))=V.int 0::NV (Aj t n text)::G0 (WrdirsNeutral.ints (JF (AV t text) (Aj t n text))) from rfl,L8]
   rfl
noncomputable def spTS (CD CT:Addr):Sp:=fun vs H Q _=>∃ (d a:Addr) (t:Dr.Tables) (n:Nat) (text:List Nat),vs=[.ref d,NV n,.ref a]/\DeskAt CD CT H d t/\H a=some (.lst (AO text))/\text.length<=100000/\NU H (OP t (.sequences n text)) Q
theorem HS (D:Dme K CD "tell_sequences" "Desk.tell_sequences" Bp ["self","told","text"]) (T:BX mg) (F:EE K CD) (G:Lf K CP) (G2:N9 K CS) (C_is_told_text:Ak P w K mg base 3 "is_told_text" ["told","text"] spTold) (M_Desk_paragraph_of:Cb P w K mg base 8 CD "paragraph_of" ["self","told","text"] (spParOf CD CT CP CS)) :
  Cb P w K mg base 9 CD "tell_sequences" ["self","told","text"] (spTS CD CT):=by
 refine D.ok sc_Desk_tell_sequences (fun vs H Q E h=>?_) (fun f cdv A outer s H vs Q E hr h=>?_)
 .obtain ⟨d,a,t,n,text,rfl,_⟩:=h
  rfl
 .obtain ⟨d,a,t,n,text,rfl,hD,ha,hl,q⟩:=h
  obtain ⟨cl,f1⟩:=F
  obtain ⟨pl,p1,p2,p3,p4,p5⟩:=G
  obtain ⟨sl,s1',s2',s3',s4'⟩:=G2
  obtain ⟨dx,tx,hd,hT,htd⟩:=hD.ex
  refine ⟨_,(A3 (AU (C6 (As (BI C_is_told_text hr (A0 (pv 1) (A0 (pv 2) A4)))))
   (A5 (AD (Ac (A0 (BQ Av A7) A4))))
   AJ)
   (A3 (AF (i:=3) sc_Desk_tell_sequences.nd rfl (Or.inl rfl) (AI (K:=K) rfl (JA M_Desk_paragraph_of hr (pv 0) (A0 (pv 1) (A0 (pv 2) A4))) rfl))
   (A3 (AF (i:=4) sc_Desk_tell_sequences.nd rfl (Or.inl rfl) (Ac (A0 A7 (A0 (AM (AK (K:=K) rfl) (by rfl) T.b_len PySem.boot_len (A0 (pv 3) A4)) A4))))
   (A3 (Ao PassesOwn.never rfl (B6 (pv 3)) (AS (i:=5) sc_Desk_tell_sequences.nd rfl (Or.inl rfl))
   (A3 (AX (Ck PySem.F.plainAttrs_list PySem.F.slot_list_extend PySem.F.type_list_extend Df (pv 4) (A0 (Ac (A0 (AM (AK (K:=K) rfl) (by rfl) T.b_len PySem.boot_len (A0 (AI (K:=K) rfl (pv 5) rfl) A4)) (A0 (AI (K:=K) rfl (pv 5) rfl) A4))) A4)))
    (A5 (AX (Ck PySem.F.plainAttrs_list PySem.F.slot_list_extend PySem.F.type_list_extend Df (pv 4) (A0 (AI (K:=K) rfl (pv 5) rfl) A4))))))
   (A5 (AD (pv 4))))))),?_⟩
  have haa:OP t (.sequences n text)=G0 (WrdirsNeutral.told (if 2<n\/Wrdirs.textOk text=false then Wrdirs.BAD else .rows ((Dr.sequences ((AV t text).map Dr.Look.cls) (Dr.itemsOf (AV t text) (Aj t n text))).map fun x=>(x.head?.map Dr.Item.level).getD 0::x.map Dr.Item.at_))):=rfl
  rw [haa] at q
  clear haa
  refine ⟨_,rfl,_,rfl,_,_,_,rfl,ha,hl,fun H1 s1=>⟨_,rfl,?_⟩⟩
  walk_at "?d0"
  .rw [if_pos (LM (by simpa using d0))] at q
   refine ⟨_,rfl,(BL rfl),fun r hr0=>?_⟩
   exact q _ r (Same.set s1 (none_of s1 hr0)) (none_of s1 hr0) (by rw [A2];rfl)
  .obtain ⟨g1,g2,g3⟩:=LE (show Cg n text=true by simpa using d0)
   have hR:=JL hT.ok g3
   rw [if_neg g1,Hd _ _ (Ny hT.ok g3),List.map_map] at q
   have hne:=Om ((AV t text).map Dr.Look.cls) (Aj t n text)
   have hrows:(Ay ((AV t text).map Dr.Look.cls) (Aj t n text)).map ((fun x=>(x.head?.map Dr.Item.level).getD 0::x.map Dr.Item.at_) ∘ fun x=>x.map (GY (AV t text) (Aj t n text)))=((Ay ((AV t text).map Dr.Look.cls) (Aj t n text)).map (BZ (AV t text) (Aj t n text))).map fun s=>s.level::s.places:=by
    rw [List.map_map]
    refine List.map_congr_left fun X hX=>?_
    cases X with
    | nil=>exact absurd rfl (hne [] hX)
    | cons x X =>
     show _::List.map Dr.Item.at_ (List.map (GY _ _) (x::X))=_
     rw [List.map_map]
     have:(x::X).map (Dr.Item.at_ ∘ GY (AV t text) (Aj t n text))=x::X:=by
      rw [show (Dr.Item.at_ ∘ GY (AV t text) (Aj t n text))=id from rfl,List.map_id]
     rw [this]
     rfl
   rw [hrows,RY] at q
   have htot:=R7 (AV t text) (Aj t n text) (Ay ((AV t text).map Dr.Look.cls) (Aj t n text)) hne
   have hfl:=Gw ((AV t text).map Dr.Look.cls) (Aj t n text)
   have hrl:((AV t text).map Dr.Look.cls).length=text.length:=by rw [Eg];unfold Cp;rw [ZE]
   have hpart:∀ (sqs:List Hb) (i:Nat),((sqs.take i).flatMap OI).length<=(sqs.flatMap OI).length:=fun sqs i=>by
    conv=>rhs;rw [<-List.take_append_drop i sqs]
    rw [List.flatMap_append,List.length_append]
    lia
   clear hrows
   refine ⟨_,rfl,_,_,_,rfl,(s1 _ _ hd),rfl,_,rfl,_,rfl,_,_,_,_,_,rfl,(DeskAt.same hD s1),(s1 _ _ ha),g2,g3,fun H2 p dxp k br fo sq ss s2 hp0 hPar hpx hsq hSA=>⟨_,_,_,_,_,rfl,hpx,pl,p5,rfl,_,rfl,_,_,rfl,(Bn hsq),(BL rfl),fun r hr0=>⟨_,rfl,_,rfl,(Ee (A6 hsq (A1 hsq hr0))),?_⟩⟩⟩
   generalize hsqs:(Ay ((AV t text).map Dr.Look.cls) (Aj t n text)).map (BZ (AV t text) (Aj t n text))=sqs at *
   have hsl:=hSA.len
   have hsl2:sqs.length<=1000:=by
    have:sqs.length<=(sqs.flatMap OI).length:=by
     clear q htot hSA hsl hsqs hpart
     induction sqs with
     | nil=>simp
     | cons x l ih =>
      rw [List.flatMap_cons,List.length_append,List.length_cons]
      have:(OI x).length=x.places.length+2:=rfl
      lia
    lia
   refine E7 (xs:=ss.map V.ref) (fun i σ H'=>Bk (∃ (v5:Option V),σ=[some (.ref d),some (NV n),some (.ref a),some (.ref sq),some (.ref r),v5]/\Same H2 H'/\H' r=some (.lst (V.int 0::NV sqs.length::AO ((sqs.take i).flatMap OI))))) ?_ (fun i σ H3 _ h=>?_) (fun i y σ H3 hy h=>?_) (fun σ H3 h=>?_)
   .refine ⟨_,rfl,Same.set (Same.refl _) hr0,?_⟩
    rw [A2,ZE,hsl]
    rfl
   .obtain ⟨v5,rfl,s3,_⟩:=h
    exact SqL.of (s3 _ _ hsq)
   .obtain ⟨v5,rfl,s3,h3⟩:=h
    rw [List.getElem?_map] at hy
    obtain ⟨u,hu,rfl⟩:=Option.map_eq_some_iff.mp hy
    have hil:=(ZB.mp hu).1
    obtain ⟨sx,hsx⟩:∃ sx,sqs[i]?=some sx:=⟨_,ZA (by lia)⟩
    obtain ⟨du,pu,hu1,hu2,_⟩:=hSA.get i u sx hu hsx
    have h3u:=s3 _ _ hu1
    have h3p:=s3 _ _ hu2
    have hpi:=hpart sqs i
    have hpi1:=hpart sqs (i+1)
    have htk:(sqs.take (i+1)).flatMap OI=(sqs.take i).flatMap OI++OI sx:=by
     rw [List.take_add_one,hsx,List.flatMap_append]
     simp
    have hsv:(OI sx).length=sx.places.length+2:=rfl
    rw [htk,List.length_append,hsv] at hpi1
    rw [htk]
    generalize (sqs.take i).flatMap OI=pre at *
    refine ⟨_,rfl,(Ah h3),_,rfl,_,_,_,_,_,rfl,h3u,sl,s2',rfl,_,_,rfl,(Bn h3p),_,rfl,_,_,_,_,_,rfl,h3u,sl,s1',rfl,(BL rfl),fun c1 hc1=>⟨_,_,_,_,rfl,rfl,(A6 h3 (A1 h3 hc1)),A2,(DT (by simp <;> lia)),_,rfl,(Ah A2),_,rfl,_,_,_,_,_,rfl,(A6 (A6 h3u (A1 h3u hc1)) (A1 hu1 hr0)),sl,s2',rfl,_,_,_,_,rfl,rfl,A2,(A6 (A6 h3p (A1 h3p hc1)) (A1 hu2 hr0)),(DT (by simp <;> lia)),?_⟩⟩
    have hc1r:c1≠r:=(A1 h3 hc1).symm
    refine ⟨_,rfl,Same.set (Same.set (Same.set s3 (none_of s3 hc1)) hr0) hr0,?_⟩
    rw [A2,C0]
    simp [OI]
    rfl
   .obtain ⟨v5,rfl,s3,h3⟩:=h
    rw [List.take_of_length_le (by rw [ZE];lia)] at h3
    refine ⟨_,rfl,?_⟩
    exact q H3 r ((s1.trans s2).trans s3) (none_of (s1.trans s2) hr0) h3
end
section
variable {P:Program} {w:World} {K:PySem.W.Frag} {mg:Str->Option Value} {base:Heap} {CT CP CS CD:Addr}
theorem Pa (ls row:List Nat) (h:ls.length=row.length):(Ji ls row).length=ls.length:=by
 rw [Jn ls row h,ZE,List.length_range]
noncomputable def spRd (CD CT:Addr):Sp:=fun vs H Q _=>∃ (d a b:Addr) (t:Dr.Tables) (ls row:List Nat),vs=[.ref d,.ref a,.ref b]/\DeskAt CD CT H d t/\H a=some (.lst (AO ls))/\H b=some (.lst (AO row))/\ls.length<=100000/\row.length<=100000/\NU H (OP t (.reading ls row)) Q
theorem Gp (D:Dme K CD "put_in_reading" "Desk.put_in_reading" BJ ["self","levels","row"]) (T:BX mg) (F:EE K CD) (C_order_read:Ak P w K mg base 3 "order_read" ["levels","row"] spRead):Cb P w K mg base 4 CD "put_in_reading" ["self","levels","row"] (spRd CD CT):=by
 refine D.ok sc_Desk_put_in_reading (fun vs H Q E h=>?_) (fun f cdv A outer s H vs Q E hr h=>?_)
 .obtain ⟨d,a,b,t,ls,row,rfl,_⟩:=h
  rfl
 .obtain ⟨d,a,b,t,ls,row,rfl,hD,ha,hb,hl,hl2,q⟩:=h
  obtain ⟨cl,f1⟩:=F
  obtain ⟨dx,tx,hd,hT,htd⟩:=hD.ex
  refine ⟨_,(A3 (AU (JQ (AA FO (AM (AK (K:=K) rfl) (by rfl) T.b_len PySem.boot_len (A0 (pv 1) A4)) (B4 T.c_MOST_CHARACTERS) (AG _)) (GI (AA ME (AM (AK (K:=K) rfl) (by rfl) T.b_len PySem.boot_len (A0 (pv 1) A4)) (AM (AK (K:=K) rfl) (by rfl) T.b_len PySem.boot_len (A0 (pv 2) A4)) (AG _)))).pt
   (A5 (AD (Ac (A0 (BQ Av A7) A4))))
   AJ)
   (A3 (AU (As (AM (TR rfl) (by rfl) T.b_any PyProof.Rows.boot_any (A0 (JH rfl sc_Desk_put_in_reading.nd (B6 (pv 1)) (own:=[("level",3)]) (BE (show FK ["self","levels","row","level"] (A8 BJ) _ [("level",3)]=true from by decide +kernel)) (fun _ _ _ _ _=>(AS (i:=3) sc_Desk_put_in_reading.nd rfl (Or.inl rfl))) (fun _ _ _ _ _=>Ba) (fun _ _ _ _ _=>(B5 FO (pv 3) (B4 T.c_HIGHEST_IN_LINE) (AG _)))) A4)))
   (A5 (AD (Ac (A0 (BQ Av A7) A4))))
   AJ)
   (A5 (AD (Ab Lc (Ac (A0 A7 A4)) (BI C_order_read hr (A0 (pv 1) (A0 (pv 2) A4)))))))),?_⟩
  have haa:OP t (.reading ls row)=G0 (WrdirsNeutral.told (if 256<ls.length\/ls.length≠row.length\/(ls.any fun n=>decide (126<n))=true then Wrdirs.BAD else .nums ((List.range ls.length).map fun i=>row.getD (((Dr.turnAll (Dr.highest ls) (ls.zip (List.range ls.length))).findIdx? fun x=>x.2==i).getD 0) 0))):=rfl
  rw [haa] at q
  clear haa
  refine ⟨_,rfl,_,_,rfl,(Bn ha),_,_,rfl,rfl,_,rfl,?_⟩
  walk_at "?d0"
  .rw [if_pos (.inl d0)] at q
   refine ⟨_,rfl,(BL rfl),fun r hr0=>?_⟩
   exact q _ r (Same.set (Same.refl _) hr0) hr0 (by rw [A2];rfl)
  .refine ⟨_,rfl,_,_,rfl,(Bn ha),_,rfl,_,_,rfl,(Bn hb),rfl,_,rfl,?_⟩
   walk_at "?d1"
   .rw [if_pos (.inr (.inl d1))] at q
    refine ⟨_,rfl,(BL rfl),fun r hr0=>?_⟩
    exact q _ r (Same.set (Same.refl _) hr0) hr0 (by rw [A2];rfl)
   .have hll:ls.length=row.length:=d1
    refine ⟨_,rfl,_,rfl,(Ee ha),fun r hr0=>?_⟩
    refine CB (ys:=(ls.map fun n=>decide (126<n)).map V.bl) ha hr0 (by simp) (by simp;lia) (fun i v y H1 R F hv hy s1 kk=>?_) (fun H1 s1 h1=>?_)
    .obtain ⟨c,hc,rfl⟩:=BV hv
     have hy':y=.bl (decide (126<c)):=by
      rw [List.getElem?_map,List.getElem?_map,hc] at hy
      exact (ZC hy).symm
     subst hy'
     refine ⟨rfl,⟨_,rfl,_,_,rfl,rfl,?_⟩⟩
     have e:decide ((126:Int)<(c:Int))=decide (126<c):=by
      rw [decide_eq_decide]
      lia
     exact Pz e.symm (kk _ (Same.refl _))
    refine ⟨_,_,rfl,(SqL.of h1),_,rfl,?_⟩
    walk_at "?d2"
    .rw [if_pos (.inr (.inr (by simpa using d2)))] at q
     refine ⟨_,rfl,(BL rfl),fun r2 hr2=>?_⟩
     exact q _ r2 (Same.set s1 (none_of s1 hr2)) (none_of s1 hr2) (by rw [A2];rfl)
    .have hany:¬(ls.any fun n=>decide (126<n))=true:=by simpa using d2
     rw [if_neg (by
      rintro (z | z | z)
      .lia
      .exact z hll
      .exact hany z),<-Jn ls row hll] at q
     have hlow:Dr.highest ls<=126:=IO fun x hx=>by
      have:=fun z=>hany (List.any_eq_true.mpr ⟨x,hx,z⟩)
      simp at this
      lia
     have hrl:=Pa ls row hll
     refine ⟨(BL rfl),fun z hz=>⟨_,rfl,_,rfl,_,_,_,_,rfl,(A6 (s1 _ _ ha) (A1 (s1 _ _ ha) hz)),(A6 (s1 _ _ hb) (A1 (s1 _ _ hb) hz)),d1,(by lia),(by lia),fun H2 r2 s2 hr2 h2=>⟨_,_,_,_,rfl,rfl,(s2 _ _ A2),h2,(DT (by simp <;> lia)),fun rr hrr=>?_⟩⟩⟩
     refine q _ rr (Same.set (Same.trans (Same.set s1 (none_of s1 hz)) s2) (none_of (Same.trans (Same.set s1 (none_of s1 hz)) s2) hrr)) (none_of (Same.trans (Same.set s1 (none_of s1 hz)) s2) hrr) ?_
     rw [A2]
     show _=some (HO.lst (V.int 0::G0 (WrdirsNeutral.ints (Ji ls row))))
     rw [L8]
     rfl
theorem Oh {n fi mn:Nat} {text:List Nat} (h:Ew n fi mn text=true):¬(2<n\/Wrdirs.textOk text=false)/\n<=2/\text.length<=256/\fi+mn<=text.length:=by
 unfold Ew at h
 rw [Bool.and_eq_true] at h
 obtain ⟨g1,g2,g3⟩:=LE h.1
 exact ⟨g1,g2,g3,of_decide_eq_true h.2⟩
theorem Os {n fi mn:Nat} {text:List Nat} (h:Ew n fi mn text=false):(2<n\/Wrdirs.textOk text=false)\/text.length<fi+mn:=by
 unfold Ew at h
 rw [Bool.and_eq_false_iff] at h
 rcases h with h | h
 .exact .inl (LM h)
 .right
  have:=of_decide_eq_false h
  lia
theorem Qo (t:Dr.Tables) (n:Nat) (text:List Nat):Aj t n text<=1:=QW _ _ fun m hm=>by
 unfold Wrdirs.toldOf at hm
 split at hm
 .cases hm
  assumption
 .cases hm
theorem J8 (t:Dr.Tables) (n fi mn:Nat) (text:List Nat):Dr.highest (CL (AV t text) (Aj t n text) fi mn)<=127:=by
 have hb:=Qo t n text
 refine IO (ND hb _ fun q hq=>?_)
 have hq:=List.mem_of_mem_drop (List.mem_of_mem_take hq)
 have hq2:=(List.of_mem_zip (show (q.1,q.2)∈_ from hq)).2
 exact Mp (PN _ hb) _ _ _ (by lia) _ hq2
theorem GW (t:Dr.Tables) (n:Nat) {fi mn:Nat} {text:List Nat} (h:fi+mn<=text.length):(CL (AV t text) (Aj t n text) fi mn).length=mn:=by
 unfold CL
 rw [Ds,List.length_take,List.length_drop,List.length_zip,ZE]
 unfold JF
 rw [Es]
 unfold AV
 rw [ZE]
 lia
theorem Hr {t:Dr.Tables} (hok:TOk t) {n:Nat} (fi mn:Nat) {text:List Nat} (hl:text.length<=256) :
  Wrdirs.seen (Wrdirs.toldOf n) fi mn (AV t text)=(AY (CL (AV t text) (Aj t n text) fi mn)).map fun k=>((CL (AV t text) (Aj t n text) fi mn).getD k 0,fi+k):=by
 unfold Wrdirs.seen
 rw [LN hok hl,Nt]
 rfl
noncomputable def spSL (CD CT:Addr):Sp:=fun vs H Q _=>∃ (d a:Addr) (t:Dr.Tables) (n fi mn:Nat) (text:List Nat),vs=[.ref d,NV n,NV fi,NV mn,.ref a]/\DeskAt CD CT H d t/\H a=some (.lst (AO text))/\text.length<=100000/\NU H (OP t (.line n fi mn text)) Q
theorem Ln (D:Dme K CD "show_line" "Desk.show_line" D0 ["self","told","first","many","text"]) (T:BX mg) (F:EE K CD) (C_is_line:Ak P w K mg base 4 "is_line" ["told","first","many","text"] spLine) (M_Desk_paragraph_of:Cb P w K mg base 8 CD "paragraph_of" ["self","told","text"] (spParOf CD CT CP CS))
  (C_levels_in_line:Ak P w K mg base 8 "levels_in_line" ["paragraph","first","many"] (spLil CP CS)) (C_order_seen:Ak P w K mg base 2 "order_seen" ["levels"] spOrd) (M_Tables_shown_for:Cb P w K mg base 1 CT "shown_for" ["self","character"] (spShown CT)):Cb P w K mg base 9 CD "show_line" ["self","told","first","many","text"] (spSL CD CT):=by
 refine D.ok sc_Desk_show_line (fun vs H Q E h=>?_) (fun f cdv A outer s H vs Q E hr h=>?_)
 .obtain ⟨d,a,t,n,fi,mn,text,rfl,_⟩:=h
  rfl
 .obtain ⟨d,a,t,n,fi,mn,text,rfl,hD,ha,hl,q⟩:=h
  obtain ⟨cl,f1⟩:=F
  obtain ⟨dx,tx,hd,hT,htd⟩:=hD.ex
  obtain ⟨_,dxt,r0,b0,m0',rts,kvs,htx,_⟩:=hT
  have hT:TabAt CT H tx t:=by obtain ⟨_,_,h1,h2,_⟩:=hD.ex;rw [hd] at h1;cases h1;exact h2
  refine ⟨_,(A3 (AU (C6 (As (BI C_is_line hr (A0 (pv 1) (A0 (pv 2) (A0 (pv 3) (A0 (pv 4) A4)))))))
   (A5 (AD (Ac (A0 (BQ Av A7) A4))))
   AJ)
   (A3 (AF (i:=5) sc_Desk_show_line.nd rfl (Or.inl rfl) (BI C_levels_in_line hr (A0 (JA M_Desk_paragraph_of hr (pv 0) (A0 (pv 1) (A0 (pv 4) A4))) (A0 (pv 2) (A0 (pv 3) A4)))))
   (A3 (AF (i:=6) sc_Desk_show_line.nd rfl (Or.inl rfl) (Ac (A0 A7 A4)))
   (A3 (Ao PassesOwn.never rfl (B6 (BI C_order_seen hr (A0 (pv 5) A4))) (AS (i:=7) sc_Desk_show_line.nd rfl (Or.inl rfl))
   (A3 (AF (i:=8) sc_Desk_show_line.nd rfl (Or.inl rfl) (AE (A9 (K:=K) rfl) (pv 4) (Ab Ag (pv 2) (pv 7)) (fun _ _=>rfl)))
    (A3 (AF (i:=9) sc_Desk_show_line.nd rfl (Or.inl rfl) (EU (Aw (AA Af (Ab JM (AE (A9 (K:=K) rfl) (pv 5) (pv 7) (fun _ _=>rfl)) A7) A7 (AG _)) (JA M_Tables_shown_for hr (AI (K:=K) rfl (pv 0) rfl) (A0 (pv 8) A4)) (pv 8))))
    (A5 (AX (Ck PySem.F.plainAttrs_list PySem.F.slot_list_extend PySem.F.type_list_extend Df (pv 6) (A0 (Ac (A0 (Ab Ag (pv 2) (pv 7)) (A0 (pv 9) A4))) A4)))))))
   (A5 (AD (pv 6))))))),?_⟩
  have haa:OP t (.line n fi mn text)=G0 (WrdirsNeutral.told (if 2<n\/Wrdirs.textOk text=false then Wrdirs.BAD else if text.length<fi+mn then Wrdirs.BAD else .pairs ((Wrdirs.seen (Wrdirs.toldOf n) fi mn (AV t text)).map fun x=>(x.2,if x.1 % 2=1 then t.mirror (text.getD x.2 0) else text.getD x.2 0)))):=rfl
  rw [haa] at q
  clear haa
  refine ⟨_,rfl,_,rfl,_,rfl,_,rfl,_,_,_,_,_,rfl,ha,hl,fun H1 s1=>⟨_,rfl,?_⟩⟩
  walk_at "?d0"
  .have hbad:(if 2<n\/Wrdirs.textOk text=false then Wrdirs.BAD else if text.length<fi+mn then Wrdirs.BAD else .pairs ((Wrdirs.seen (Wrdirs.toldOf n) fi mn (AV t text)).map fun x=>(x.2,if x.1 % 2=1 then t.mirror (text.getD x.2 0) else text.getD x.2 0)))=Wrdirs.BAD:=by
    rcases Os (by simpa using d0) with z | z
    .rw [if_pos z]
    .rw [if_pos z]
     split <;> rfl
   rw [hbad] at q
   refine ⟨_,rfl,(BL rfl),fun r hr0=>?_⟩
   exact q _ r (Same.set s1 (none_of s1 hr0)) (none_of s1 hr0) (by rw [A2];rfl)
  .obtain ⟨g1,g2,g3,g4⟩:=Oh (show Ew n fi mn text=true by simpa using d0)
   have hR:=JL hT.ok g3
   rw [if_neg g1,if_neg (by lia),Hr hT.ok fi mn g3,List.map_map] at q
   have hlow:=J8 t n fi mn text
   have hlen:=GW t n g4
   have hlk:(AV t text).length=text.length:=by unfold AV;rw [ZE]
   refine ⟨_,rfl,_,_,_,rfl,(s1 _ _ hd),rfl,_,rfl,_,rfl,_,_,_,_,_,rfl,(DeskAt.same hD s1),(s1 _ _ ha),g2,g3,fun H2 p dxp k br fo sq ss s2 hp0 hPar hpx hsq hSA=>⟨_,rfl,_,rfl,_,_,_,_,_,rfl,(ParAt.same hPar (Same.refl _)),hR,(by lia),fun H3 r3 s3 hr3 h3=>⟨(BL rfl),fun ra hra=>⟨_,rfl,_,_,rfl,(A6 h3 (A1 h3 hra)),(by lia),(by lia),fun H4 o s4 ho0 h4=>⟨_,rfl,(Ee h4),?_⟩⟩⟩⟩⟩
   generalize hLL:CL (AV t text) (Aj t n text) fi mn=LL at *
   have hol:=Dd LL
   have hom:=El LL
   have hor:o≠ra:=(A1 A2 ho0).symm
   let pr:Nat->List Nat:=fun k=>[fi+k,if LL.getD k 0 % 2=1 then t.mirror (text.getD (fi+k) 0) else text.getD (fi+k) 0]
   have hprl:∀ l:List Nat,(l.flatMap pr).length=2*l.length:=fun l=>by
    induction l with
    | nil=>rfl
    | cons x l ih=>rw [List.flatMap_cons,List.length_append,ih];show 2+2*l.length=2*(l.length+1);lia
   refine E7 (xs:=AO (AY LL)) (fun i σ H'=>Bk (∃ (v7 v8 v9:Option V),σ=[some (.ref d),some (NV n),some (NV fi),some (NV mn),some (.ref a),some (.ref r3),some (.ref ra),v7,v8,v9]/\Same H H'/\H' o=some (.lst (AO (AY LL)))/\H' r3=some (.lst (AO LL))/\H' ra=some (.lst (V.int 0::AO (((AY LL).take i).flatMap pr))))) ?_ (fun i σ H5 _ h=>?_) (fun i y σ H5 hy h=>?_) (fun σ H5 h=>?_)
   .exact ⟨_,_,_,rfl,Same.trans (Same.set ((s1.trans s2).trans s3) (none_of ((s1.trans s2).trans s3) hra)) s4,h4,s4 _ _ (A6 h3 (A1 h3 hra)),s4 _ _ A2⟩
   .obtain ⟨v7,v8,v9,rfl,s5,h5o,_⟩:=h
    exact SqL.of h5o
   .obtain ⟨v7,v8,v9,rfl,s5,h5o,h5r,h5a⟩:=h
    obtain ⟨k,hk,rfl⟩:=BV hy
    have hkl:=(hom k).mp (ZD hk)
    obtain ⟨v,hv⟩:∃ v,LL[k]?=some v:=⟨_,ZA hkl⟩
    obtain ⟨ch,hch⟩:∃ v,text[fi+k]?=some v:=⟨_,ZA (by lia)⟩
    have htk:((AY LL).take (i+1)).flatMap pr=((AY LL).take i).flatMap pr++[fi+k,if v % 2=1 then t.mirror ch else ch]:=by
     rw [List.take_add_one,hk,List.flatMap_append]
     show _++(pr k++[])=_
     show _++([fi+k,if LL.getD k 0 % 2=1 then t.mirror (text.getD (fi+k) 0) else text.getD (fi+k) 0]++[])=_
     rw [Ai hv,Ai hch]
     rfl
    have hll2:=hprl ((AY LL).take i)
    have hll3:((AY LL).take i).length<=1000:=by rw [List.length_take];lia
    rw [htk]
    generalize ((AY LL).take i).flatMap pr=pre at *
    refine ⟨_,rfl,_,rfl,_,rfl,_,_,rfl,rfl,_,_,_,_,rfl,rfl,(SqL.of (s5 _ _ ha)),(AH (AR hch)),?_⟩
    refine ⟨fun v' H'=>v'=NV (if v % 2=1 then t.mirror ch else ch)/\H'=H5,?_,?_⟩
    .refine ⟨_,rfl,_,rfl,_,_,_,_,rfl,rfl,(SqL.of h5r),(AH (AR hv)),_,_,rfl,rfl,(by lia),rfl,_,rfl,?_⟩
     walk_at "?d3"
     .rw [if_pos (by lia)]
      refine ⟨_,rfl,_,_,_,_,_,rfl,(s5 _ _ hd),cl,f1,rfl,_,_,_,rfl,(s5 _ _ htx),rfl,_,rfl,_,_,_,rfl,(TabAt.same hT s5),rfl,?_⟩
      rfl
     .rw [if_neg (by lia)]
      refine ⟨_,rfl,rfl,?_⟩
      rfl
    rintro _ _ ⟨rfl,rfl⟩
    refine ⟨_,rfl,(Ah h5a),_,rfl,_,rfl,_,_,rfl,rfl,_,rfl,(BL rfl),fun c1 hc1=>⟨_,_,_,_,rfl,rfl,(A6 h5a (A1 h5a hc1)),A2,(DT (by simp <;> lia)),?_⟩⟩
    have hc1r:c1≠ra:=(A1 h5a hc1).symm
    refine ⟨_,_,_,rfl,Same.set (Same.set s5 (none_of s5 hc1)) (none_of ((s1.trans s2).trans s3) hra),A6 (A6 h5o (A1 h5o hc1)) hor,A6 (A6 h5r (A1 h5r hc1)) (A1 h3 hra),?_⟩
    rw [A2,C0]
    rfl
   .obtain ⟨v7,v8,v9,rfl,s5,h5o,h5r,h5a⟩:=h
    rw [List.take_of_length_le (by rw [nVs_len];exact Nat.le_refl _)] at h5a
    refine ⟨_,rfl,?_⟩
    refine q H5 ra s5 (none_of ((s1.trans s2).trans s3) hra) ?_
    rw [h5a]
    show _=some (HO.lst (V.int 0::G0 (((AY LL).map _).flatMap _)))
    rw [List.flatMap_map]
    unfold G0 AO
    rw [List.map_flatMap,List.map_flatMap]
    rfl
noncomputable def Bd (v:List Nat) (pl rt:Nat):Wrdirs.Answer:=match v.findIdx? fun p=>p==pl with
   | none=>.no (-4)
   | some i=>if rt=1 then (match v[i+1]? with
    | some p=>.nums [p]
    | none=>.no (-2))
    else if i=0 then .no (-2) else .nums [v.getD (i - 1) 0]
theorem PY (LL:List Nat) {fi pl:Nat} (rt:Nat) (h:pl<fi\/fi+LL.length<=pl):Bd ((AY LL).map fun k=>fi+k) pl rt=.no (-4):=by
 unfold Bd
 rw [LQ LL h]
theorem Lo {LL:List Nat} {fi k j:Nat} (h:(((AY LL).map fun k=>fi+k).findIdx? fun x=>x==fi+k)=some j) :
  (∀ m,(AY LL)[j+1]?=some m->Bd ((AY LL).map fun k=>fi+k) (fi+k) 1=.nums [fi+m])/\(LL.length<=j+1->Bd ((AY LL).map fun k=>fi+k) (fi+k) 1=.no (-2)):=by
 unfold Bd
 rw [h]
 dsimp only
 rw [if_pos rfl,List.getElem?_map]
 refine ⟨fun m hm=>?_,fun hl=>?_⟩
 .rw [hm]
  rfl
 .rw [List.getElem?_eq_none (by rw [Dd];exact hl)]
  rfl
theorem M0 {LL:List Nat} {fi k j rt:Nat} (hr:rt≠1) (h:(((AY LL).map fun k=>fi+k).findIdx? fun x=>x==fi+k)=some j) :
  (∀ m,0<j->(AY LL)[j - 1]?=some m->Bd ((AY LL).map fun k=>fi+k) (fi+k) rt=.nums [fi+m])/\(j=0->Bd ((AY LL).map fun k=>fi+k) (fi+k) rt=.no (-2)):=by
 unfold Bd
 rw [h]
 dsimp only
 rw [if_neg hr]
 refine ⟨fun m hj hm=>?_,fun hj=>?_⟩
 .rw [if_neg (by lia),Ai (c:=fi+m) (by rw [List.getElem?_map,hm];rfl)]
 .rw [if_pos hj]
noncomputable def spFB (CD CT:Addr):Sp:=fun vs H Q _=>∃ (d a:Addr) (t:Dr.Tables) (n fi mn pl rt:Nat) (text:List Nat),vs=[.ref d,NV n,NV fi,NV mn,NV pl,NV rt,.ref a]/\DeskAt CD CT H d t/\H a=some (.lst (AO text))/\text.length<=100000/\NU H (OP t (.beside n fi mn pl rt text)) Q
theorem Jo (D:Dme K CD "find_beside" "Desk.find_beside" CJ ["self","told","first","many","place","right","text"]) (T:BX mg) (F:EE K CD) (C_is_line:Ak P w K mg base 4 "is_line" ["told","first","many","text"] spLine) (M_Desk_paragraph_of:Cb P w K mg base 8 CD "paragraph_of" ["self","told","text"] (spParOf CD CT CP CS))
  (C_levels_in_line:Ak P w K mg base 8 "levels_in_line" ["paragraph","first","many"] (spLil CP CS)) (C_order_seen:Ak P w K mg base 2 "order_seen" ["levels"] spOrd):Cb P w K mg base 9 CD "find_beside" ["self","told","first","many","place","right","text"] (spFB CD CT):=by
 refine D.ok sc_Desk_find_beside (fun vs H Q E h=>?_) (fun f cdv A outer s H vs Q E hr h=>?_)
 .obtain ⟨d,a,t,n,fi,mn,pl,rt,text,rfl,_⟩:=h
  rfl
 .obtain ⟨d,a,t,n,fi,mn,pl,rt,text,rfl,hD,ha,hl,q⟩:=h
  obtain ⟨cl,f1⟩:=F
  obtain ⟨dx,tx,hd,hT,htd⟩:=hD.ex
  refine ⟨_,(A3 (AU (JQ (C6 (As (BI C_is_line hr (A0 (pv 1) (A0 (pv 2) (A0 (pv 3) (A0 (pv 6) A4))))))) (GI (AA FO (pv 5) A7 (AG _)))).pt
   (A5 (AD (Ac (A0 (BQ Av A7) A4))))
   AJ)
   (A3 (AU (C6 (MZ GE Ep (pv 2) (pv 4) (Ab Ag (pv 2) (pv 3))))
   (A5 (AD (Ac (A0 (BQ Av A7) A4))))
   AJ)
   (A3 (AF (i:=7) sc_Desk_find_beside.nd rfl (Or.inl rfl) (BI C_order_seen hr (A0 (BI C_levels_in_line hr (A0 (JA M_Desk_paragraph_of hr (pv 0) (A0 (pv 1) (A0 (pv 6) A4))) (A0 (pv 2) (A0 (pv 3) A4)))) A4)))
   (A3 (AF (i:=8) sc_Desk_find_beside.nd rfl (Or.inl rfl) (Ab Ag (Ck PySem.F.plainAttrs_list PySem.F.slot_list_index PySem.F.type_list_index Qc (pv 7) (A0 (Ab Dn (pv 4) (pv 2)) A4)) (EU (Aw (AA Af (pv 5) A7 (AG _)) A7 (BQ Av A7)))))
   (A3 (AU (C6 (MZ GE Ep A7 (pv 8) (pv 3)))
   (A5 (AD (Ac (A0 (BQ Av A7) A4))))
   AJ)
   (A5 (AD (Ac (A0 A7 (A0 (Ab Ag (pv 2) (AE (A9 (K:=K) rfl) (pv 7) (pv 8) (fun _ _=>rfl))) A4)))))))))),?_⟩
  have haa:OP t (.beside n fi mn pl rt text)=G0 (WrdirsNeutral.told (if 2<n\/Wrdirs.textOk text=false then Wrdirs.BAD else if text.length<fi+mn\/1<rt then Wrdirs.BAD else Bd ((Wrdirs.seen (Wrdirs.toldOf n) fi mn (AV t text)).map fun x=>x.2) pl rt)):=rfl
  rw [haa] at q
  clear haa
  have hbad:Ew n fi mn text=false\/1<rt->(if 2<n\/Wrdirs.textOk text=false then Wrdirs.BAD else if text.length<fi+mn\/1<rt then Wrdirs.BAD else Bd ((Wrdirs.seen (Wrdirs.toldOf n) fi mn (AV t text)).map fun x=>x.2) pl rt)=Wrdirs.BAD:=fun hd=>by
   rcases hd with hd | hd
   .rcases Os hd with z | z
    .rw [if_pos z]
    .rw [if_pos (show text.length<fi+mn\/1<rt from .inl z)]
     split <;> rfl
   .rw [if_pos (show text.length<fi+mn\/1<rt from .inr hd)]
    split <;> rfl
  refine ⟨_,rfl,_,rfl,_,rfl,_,rfl,_,_,_,_,_,rfl,ha,hl,fun H1 s1=>⟨_,rfl,?_⟩⟩
  walk_at "?d0"
  .rw [hbad (.inl (by simpa using d0))] at q
   refine ⟨_,rfl,(BL rfl),fun r hr0=>?_⟩
   exact q _ r (Same.set s1 (none_of s1 hr0)) (none_of s1 hr0) (by rw [A2];rfl)
  .refine ⟨_,rfl,_,_,rfl,rfl,_,rfl,?_⟩
   walk_at "?d1"
   .rw [hbad (.inr (by lia))] at q
    refine ⟨_,rfl,(BL rfl),fun r hr0=>?_⟩
    exact q _ r (Same.set s1 (none_of s1 hr0)) (none_of s1 hr0) (by rw [A2];rfl)
   .clear hbad
    obtain ⟨g1,g2,g3,g4⟩:=Oh (show Ew n fi mn text=true by simpa using d0)
    have hR:=JL hT.ok g3
    rw [if_neg g1,if_neg (by lia),Hr hT.ok fi mn g3,List.map_map] at q
    have hlow:=J8 t n fi mn text
    have hlen:=GW t n g4
    have hlk:(AV t text).length=text.length:=by unfold AV;rw [ZE]
    have hfun:((fun x:Nat×Nat=>x.2) ∘ fun k=>((CL (AV t text) (Aj t n text) fi mn).getD k 0,fi+k))=fun k=>fi+k:=rfl
    rw [hfun] at q
    have hnot:pl<fi\/fi+mn<=pl->Bd ((AY (CL (AV t text) (Aj t n text) fi mn)).map fun k=>fi+k) pl rt=.no (-4):=fun z=>PY _ rt (by rw [hlen];exact z)
    refine ⟨_,rfl,_,rfl,_,_,rfl,rfl,_,rfl,?_⟩
    walk_at "?d2"
    .refine ⟨_,rfl,_,rfl,_,_,rfl,rfl,_,_,rfl,rfl,_,rfl,?_⟩
     walk_at "?d3"
     .rw [hnot (by lia)] at q
      refine ⟨_,rfl,(BL rfl),fun r hr0=>?_⟩
      exact q _ r (Same.set s1 (none_of s1 hr0)) (none_of s1 hr0) (by rw [A2];rfl)
     .clear hnot
      obtain ⟨kk,rfl⟩:∃ kk,pl=fi+kk:=⟨pl - fi,by lia⟩
      have hol:=Dd (CL (AV t text) (Aj t n text) fi mn)
      obtain ⟨j,hj1,hj2,hj3⟩:=Ps (CL (AV t text) (Aj t n text) fi mn) (k:=kk) (by lia) fi
      have hjl:=(ZB.mp hj1).1
      have eK:((fi+kk:Nat):Int) - (fi:Int)=(kk:Int):=by lia
      refine ⟨_,rfl,_,_,_,rfl,(s1 _ _ hd),rfl,_,rfl,_,rfl,_,_,_,_,_,rfl,(DeskAt.same hD s1),(s1 _ _ ha),g2,g3,fun H2 p dxp k br fo sq ss s2 hp0 hPar hpx hsq hSA=>⟨_,rfl,_,rfl,_,_,_,_,_,rfl,(ParAt.same hPar (Same.refl _)),hR,(by lia),fun H3 r3 s3 hr3 h3=>⟨_,_,rfl,h3,(by lia),(by lia),fun H4 o s4 ho0 h4=>⟨_,rfl,(Ah h4),_,rfl,_,rfl,_,_,rfl,rfl,_,_,_,_,_,rfl,rfl,(SqL.of h4),rfl,Lz _,AR hj1,?_,fun m z' hm hz=>?_,?_⟩⟩⟩⟩
      .show ((kk:Int)==((fi+kk:Nat):Int) - (fi:Int))=true
       rw [eK]
       exact beq_self_eq_true _
      .obtain ⟨zz,hzz,rfl⟩:=BV hz
       show ((zz:Int)==((fi+kk:Nat):Int) - (fi:Int))=false
       rw [eK,beq_eq_false_iff_ne]
       intro e
       have e:zz=kk:=by lia
       exact hj2 m hm (e▸hzz)
      clear hfun
      generalize hLL:CL (AV t text) (Aj t n text) fi mn=LL at *
      skip
      refine ⟨fun v' H'=>v'=V.int (if rt=1 then 1 else -1)/\H'=H4,?_,?_⟩
      .refine ⟨_,rfl,rfl,_,rfl,?_⟩
       walk_at "?d4"
       .rw [if_pos (by lia)]
        refine ⟨rfl,?_⟩
        rfl
       .rw [if_neg (by lia)]
        refine ⟨_,rfl,rfl,?_⟩
        rfl
      rintro _ _ ⟨rfl,rfl⟩
      by_cases hrt:rt=1
      .subst hrt
       obtain ⟨b1,b2⟩:=Lo hj3
       rw [if_pos rfl]
       by_cases hjm:LL.length<=j+1
       .rw [b2 hjm] at q
        refine ⟨_,_,rfl,rfl,_,rfl,_,_,rfl,rfl,_,rfl,⟨_,rfl,_,_,rfl,rfl,_,rfl,?_⟩⟩
        walk_at "?d5"
        .refine ⟨_,rfl,(BL rfl),fun r hr0=>?_⟩
         exact q _ r (Same.set (Same.trans ((s1.trans s2).trans s3) s4) (none_of (Same.trans ((s1.trans s2).trans s3) s4) hr0)) (none_of (Same.trans ((s1.trans s2).trans s3) s4) hr0) (by rw [A2];rfl)
        .lia
       .obtain ⟨m,hm⟩:∃ m,(AY LL)[j+1]?=some m:=⟨_,ZA (by lia)⟩
        rw [b1 m hm] at q
        have ej:(fun i j=>V.int (i+j)) (j:Int) 1=NV (j+1):=rfl
        refine ⟨_,_,rfl,rfl,_,rfl,_,_,rfl,rfl,_,rfl,⟨_,rfl,_,_,rfl,rfl,_,rfl,?_⟩⟩
        walk_at "?d5"
        .lia
        .refine ⟨_,rfl,_,rfl,_,rfl,_,_,_,_,rfl,rfl,(SqL.of h4),(AH (AR hm)),_,_,rfl,rfl,(BL rfl),fun r hr0=>?_⟩
         exact q _ r (Same.set (Same.trans ((s1.trans s2).trans s3) s4) (none_of (Same.trans ((s1.trans s2).trans s3) s4) hr0)) (none_of (Same.trans ((s1.trans s2).trans s3) s4) hr0) (by rw [A2];rfl)
      .obtain ⟨b1,b2⟩:=M0 hrt hj3
       rw [if_neg hrt]
       cases j with
       | zero =>
        rw [b2 rfl] at q
        refine ⟨_,_,rfl,rfl,_,rfl,_,_,rfl,rfl,_,rfl,⟨_,rfl,⟨_,rfl,(BL rfl),fun r hr0=>?_⟩⟩⟩
        exact q _ r (Same.set (Same.trans ((s1.trans s2).trans s3) s4) (none_of (Same.trans ((s1.trans s2).trans s3) s4) hr0)) (none_of (Same.trans ((s1.trans s2).trans s3) s4) hr0) (by rw [A2];rfl)
       | succ j =>
        obtain ⟨m,hm⟩:∃ m,(AY LL)[j]?=some m:=⟨_,ZA (by lia)⟩
        rw [b1 m (by lia) hm] at q
        refine ⟨_,_,rfl,rfl,_,rfl,_,_,rfl,rfl,_,rfl,?_⟩
        walk_at "?d6"
        .refine ⟨_,rfl,_,_,rfl,rfl,_,rfl,?_⟩
         walk_at "?d5"
         .lia
         .have eJ:((j+1:Nat):Int)+-1=(j:Int):=by lia
          refine ⟨_,rfl,_,rfl,_,rfl,_,_,_,_,rfl,rfl,(SqL.of h4),Eq.trans (congrArg _ eJ) (AH (AR hm)),_,_,rfl,rfl,(BL rfl),fun r hr0=>?_⟩
          exact q _ r (Same.set (Same.trans ((s1.trans s2).trans s3) s4) (none_of (Same.trans ((s1.trans s2).trans s3) s4) hr0)) (none_of (Same.trans ((s1.trans s2).trans s3) s4) hr0) (by rw [A2];rfl)
        .lia
    .rw [hnot (by lia)] at q
     refine ⟨_,rfl,⟨_,rfl,(BL rfl),fun r hr0=>?_⟩⟩
     exact q _ r (Same.set s1 (none_of s1 hr0)) (none_of s1 hr0) (by rw [A2];rfl)
end
abbrev EQ:Stmt:=Ae (top 114) 0
theorem JU:AB ["self","calls"] ["self","calls"] (A8 EQ):=⟨rfl,rfl,rfl,by decide +kernel,rfl,by decide +kernel,by decide +kernel⟩
abbrev Cz:Stmt:=Ae (top 114) 1
theorem Gv:AB ["self"] ["self"] (A8 Cz):=⟨rfl,rfl,rfl,by decide +kernel,rfl,by decide +kernel,by decide +kernel⟩
abbrev Bx:Stmt:=Ae (top 114) 2
theorem sc_Reader_take_number:AB ["self","number"] ["self"] (A8 Bx):=⟨rfl,rfl,rfl,by decide +kernel,rfl,by decide +kernel,by decide +kernel⟩
abbrev Ce:Stmt:=Ae (top 114) 3
theorem sc_Reader_take_row:AB ["self","many","row"] ["self"] (A8 Ce):=⟨rfl,rfl,rfl,by decide +kernel,rfl,by decide +kernel,by decide +kernel⟩
abbrev FY:Stmt:=top 115
theorem Lv:AB ["desk","call","numbers","rows"] ["desk","call","numbers","rows"] (A8 FY):=⟨rfl,rfl,rfl,by decide +kernel,rfl,by decide +kernel,by decide +kernel⟩
abbrev CA:Stmt:=top 116
theorem sc_answer_next:AB ["desk","reader","call","shape","numbers","rows","k"] ["desk","reader"] (A8 CA):=⟨rfl,rfl,rfl,by decide +kernel,rfl,by decide +kernel,by decide +kernel⟩
abbrev C1:Stmt:=top 117
theorem sc_answers:AB ["calls","reader","desk","given","answer"] ["calls"] (A8 C1):=⟨rfl,rfl,rfl,by decide +kernel,rfl,by decide +kernel,by decide +kernel⟩
noncomputable def KD (P:Program) (w:World) (K:PySem.W.Frag) (a:Addr) (kvs:List (C5×V)):Prop:=(a==sysModules)=false/\∀ h:Heap,K.In h->∃ vs,KV kvs vs/\h.DictOf (BK P w) a vs
noncomputable def spDGetK (a:Addr) (kvs:List (C5×V)) (td ty:TE):TE:=fun σ H Q=>td σ H fun x H1=>ty σ H1 fun y H2=>∃ (i:Int) (v:V),x=.ref a/\y=.int i/\Bl kvs (.inl i)=some v/\Q v H2
noncomputable def spDNotInK (a:Addr) (kvs:List (C5×V)) (ty td:TE):TE:=fun σ H Q=>ty σ H fun y H1=>td σ H1 fun x H2=>∃ (i:Int),x=.ref a/\y=.int i/\Q (.bl (!(Bl kvs (.inl i)).isSome)) H2
section
variable {X:Cx} {o i e value:Expr} {pos pos' tpos:Pos} {td ty tv:TE} {a:Addr} {kvs:List (C5×V)}
theorem QI (hd:KD X.prog X.w X.K a kvs) (ho:PE X o td) (hi:PE X i ty) (hs:TD i):PE X (.Subscript o i pos) (spDGetK a kvs td ty):=by
 intro pins s σ H Q I h
 refine OQ PySem.F.slot_dict_getitem.lookup hs (B7 (ho pins s σ H _ I h) fun u s1 ⟨x,H1,I1,rx,q1⟩=>B7 (hi pins s1 σ H1 _ I1 q1) fun iv s2 ⟨y,H2,I2,ry,n,v,ex,ey,l,q2⟩=>?_)
 subst ex
 subst ey
 obtain rfl:u=Value.ref a:=rx
 obtain ⟨vs,rel,dd⟩:=hd.2 _ I2.kIn
 obtain ⟨w',hw,rw'⟩:=RelO.some_of (v:=v) (o:=valueAt vs (Sum.inl n)) (by rw [<-l];exact rel.val _)
 exact ⟨dd.typeIs,wpAny_getItem_of (Jd (k:=Sum.inl n) ry) dd.mapOf hw ⟨v,H2,I2.tok _,rw',q2⟩⟩
theorem Nf (hd:KD X.prog X.w X.K a kvs) (hi:PE X i ty) (ho:PE X o td):PC X .NotIn i o (spDNotInK a kvs ty td):=by
 intro pins s σ H Q I h
 refine B7 (hi pins s σ H _ I h) fun iv s1 ⟨y,H1,I1,ry,q1⟩=>B7 (ho pins s1 σ H1 _ I1 q1) fun u s2 ⟨x,H2,I2,rx,n,ex,ey,q2⟩=>?_
 subst ex
 subst ey
 obtain rfl:u=Value.ref a:=rx
 obtain ⟨vs,rel,dd⟩:=hd.2 _ I2.kIn
 refine wpAny_notIn_of (Jd (k:=Sum.inl n) ry) hd.1 dd.mapOf ?_
 rw [<-(rel.val (Sum.inl n)).isSome_eq]
 exact ⟨.bl (!(Bl kvs (Sum.inl n)).isSome),H2,I2.tok _,rfl,q2⟩
end
theorem SqL.via {K:PySem.W.Frag} {H H':Hp} {a:Addr} {xs:List V} (h:SqL K H a xs) (s:Same H H'):SqL K H' a xs:=s.seq h
theorem SqL.viaK {K:PySem.W.Frag} {H H':Hp} {a r C dx:Addr} {xs:List V} {fs:List (Str×V)} (h:SqL K H a xs) (hr:H r=some (.ins C dx fs)) (s:Keep r H H'):SqL K H' a xs:=by
 rcases h with (h | ⟨o,h⟩) | h
 .exact .inl (.inl (s _ _ h (AW h hr nofun)))
 .exact .inl (.inr ⟨o,s _ _ h (AW h hr nofun)⟩)
 .exact .inr h
structure RK (K:PySem.W.Frag) (C:Addr):Prop where
 cl:Cls K C
 f1:NoAttr K C "calls"
 f2:NoAttr K C "place"
noncomputable def LZ (a:Addr) (p:Nat):List (Str×V):=[("calls",.ref a),("place",NV p)]
section
variable {P:Program} {w:World} {K:PySem.W.Frag} {mg:Str->Option Value} {base:Heap} {CT CP CS CD CR:Addr}
noncomputable def spRdI (CR:Addr):Sp:=fun vs H Q _=>∃ (r dx a:Addr),vs=[.ref r,.ref a]/\H r=some (.ins CR dx [])/\∀ H',H' r=some (.ins CR dx (LZ a 0))->Keep r H H'->Q .non H'
theorem P6 (D:Dmk K mg CR "Reader" "Reader.__init__" EQ ["self","calls"]) (T:BX mg) (F:RK K CR):Kg P w K mg base 1 CR "Reader" ["self","calls"] (spRdI CR):=by
 refine D.ok JU (fun vs H Q E h=>?_) (fun f cdv A outer s H vs Q E hr h=>?_)
 .obtain ⟨r,dx,a,rfl,_⟩:=h
  rfl
 .obtain ⟨r,dx,a,rfl,hR,q⟩:=h
  obtain ⟨cl,f1,f2⟩:=F
  refine ⟨_,(A3 (BF (pv 0) (pv 1) rfl)
   (A5 (BF (pv 0) A7 rfl))),?_⟩
  refine ⟨_,rfl,_,rfl,_,_,_,_,rfl,hR,cl,f1,(BL rfl),_,rfl,_,_,_,_,rfl,A2,cl,f2,(BL rfl),?_⟩
  exact q _ (by rw [A2];rfl) (Keep.viaU (Keep.viaU (Keep.refl _ _) (.inl rfl)) (.inl rfl))
noncomputable def spRdD (K:PySem.W.Frag) (CR:Addr):Sp:=fun vs H Q _=>∃ (r dx a:Addr) (p:Nat) (ns:List Nat),vs=[.ref r]/\H r=some (.ins CR dx (LZ a p))/\SqL K H a (AO ns)/\Q (.bl (decide (ns.length<=p))) H
theorem O6 (D:Dme K CR "is_done" "Reader.is_done" Cz ["self"]) (T:BX mg) (F:RK K CR):Cb P w K mg base 1 CR "is_done" ["self"] (spRdD K CR):=by
 refine D.ok Gv (fun vs H Q E h=>?_) (fun f cdv A outer s H vs Q E hr h=>?_)
 .obtain ⟨r,dx,a,p,ns,rfl,_⟩:=h
  rfl
 .obtain ⟨r,dx,a,p,ns,rfl,hR,hS,q⟩:=h
  obtain ⟨cl,f1,f2⟩:=F
  refine ⟨_,(A5 (AD (B5 QF (AI (K:=K) rfl (pv 0) rfl) (AM (AK (K:=K) rfl) (by rfl) T.b_len PySem.boot_len (A0 (AI (K:=K) rfl (pv 0) rfl) A4)) (AG _)))),?_⟩
  refine ⟨_,rfl,_,_,_,_,_,rfl,hR,cl,f2,rfl,_,rfl,_,_,_,_,_,rfl,hR,cl,f1,rfl,_,_,rfl,.inl hS,_,_,rfl,rfl,?_⟩
  have e:decide ((p:Int) ≥ ((AO ns).length:Int))=decide (ns.length<=p):=by
   rw [nVs_len,decide_eq_decide]
   lia
  exact Pz e.symm q
noncomputable def spRdN (K:PySem.W.Frag) (CR:Addr):Sp:=fun vs H Q _=>∃ (r dx a:Addr) (p n:Nat) (ns:List Nat),vs=[.ref r]/\H r=some (.ins CR dx (LZ a p))/\SqL K H a (AO ns)/\ns[p]?=some n/\(∀ H',Keep r H H'->H' r=some (.ins CR dx (LZ a (p+1)))->Q (NV n) H')
theorem J9 (D:Dme K CR "take_number" "Reader.take_number" Bx ["self"]) (T:BX mg) (F:RK K CR):Cb P w K mg base 1 CR "take_number" ["self"] (spRdN K CR):=by
 refine D.ok sc_Reader_take_number (fun vs H Q E h=>?_) (fun f cdv A outer s H vs Q E hr h=>?_)
 .obtain ⟨r,dx,a,p,n,ns,rfl,_⟩:=h
  rfl
 .obtain ⟨r,dx,a,p,n,ns,rfl,hR,hS,hn,q⟩:=h
  obtain ⟨cl,f1,f2⟩:=F
  refine ⟨_,(A3 (AF (i:=1) sc_Reader_take_number.nd rfl (Or.inl rfl) (AE (A9 (K:=K) rfl) (AI (K:=K) rfl (pv 0) rfl) (AI (K:=K) rfl (pv 0) rfl) (fun _ _=>rfl)))
   (A3 (Cc (pv 0) A7 JB)
   (A5 (AD (pv 1))))),?_⟩
  refine ⟨_,rfl,_,_,_,_,_,rfl,hR,cl,f1,rfl,_,rfl,_,_,_,_,_,rfl,hR,cl,f2,rfl,_,_,_,_,rfl,rfl,(SqL.via hS (Same.refl _)),(AH (AR hn)),_,rfl,_,_,_,_,_,rfl,hR,cl,f2,rfl,_,_,rfl,rfl,_,_,hR,(BL rfl),_,rfl,?_⟩
  exact q _ Keep.set (by rw [A2];rfl)
noncomputable def spRdR (K:PySem.W.Frag) (CR:Addr):Sp:=fun vs H Q _=>∃ (r dx a:Addr) (p n:Nat) (ns:List Nat),vs=[.ref r]/\H r=some (.ins CR dx (LZ a p))/\SqL K H a (AO ns)/\ns[p]?=some n/\p+1+n<=ns.length /\
 (∀ H' rw,Keep r H H'->H rw=none->H' r=some (.ins CR dx (LZ a (p+1+n)))->H' rw=some (.lst (AO ((ns.drop (p+1)).take n)))->Q (.ref rw) H')
theorem MD (D:Dme K CR "take_row" "Reader.take_row" Ce ["self"]) (T:BX mg) (F:RK K CR) (M_Reader_take_number:Cb P w K mg base 1 CR "take_number" ["self"] (spRdN K CR)):Cb P w K mg base 2 CR "take_row" ["self"] (spRdR K CR):=by
 refine D.ok sc_Reader_take_row (fun vs H Q E h=>?_) (fun f cdv A outer s H vs Q E hr h=>?_)
 .obtain ⟨r,dx,a,p,n,ns,rfl,_⟩:=h
  rfl
 .obtain ⟨r,dx,a,p,n,ns,rfl,hR,hS,hn,hl,q⟩:=h
  obtain ⟨cl,f1,f2⟩:=F
  refine ⟨_,(A3 (AF (i:=1) sc_Reader_take_row.nd rfl (Or.inl rfl) (Gm M_Reader_take_number hr (pv 0)))
   (A3 (AF (i:=2) sc_Reader_take_row.nd rfl (Or.inl rfl) (Ek (Eo (K:=K) rfl) (AI (K:=K) rfl (pv 0) rfl) (CC (AI (K:=K) rfl (pv 0) rfl)) (CC (Ab Ag (AI (K:=K) rfl (pv 0) rfl) (pv 1)))))
   (A3 (Cc (pv 0) (pv 1) JB)
   (A5 (AD (pv 2)))))),?_⟩
  have ec:Hi (AO ns) (some ((p+1:Nat):Int)) (some (((p+1:Nat):Int)+(n:Int)))=AO ((ns.drop (p+1)).take n):=by
   have:=Iy (AO ns) (i:=p+1) (j:=p+1+n) (by lia) (by rw [nVs_len];lia)
   rw [Fm,Gu,List.drop_take,Nat.add_sub_cancel_left] at this
   exact this
  refine ⟨_,rfl,_,_,_,rfl,hR,rfl,_,_,_,_,_,_,rfl,hR,(SqL.via hS (Same.refl _)),hn,fun H1 k1 h1=>⟨_,rfl,_,_,_,_,_,rfl,h1,cl,f1,rfl,_,rfl,_,_,_,_,_,rfl,h1,cl,f2,rfl,_,rfl,_,rfl,_,_,_,_,_,rfl,h1,cl,f2,rfl,_,rfl,_,_,rfl,rfl,_,rfl,_,_,rfl,SqL.viaK hS hR k1,?_⟩⟩
  rw [ec]
  refine fun rw hrw=>⟨_,rfl,_,_,_,_,_,rfl,(A6 h1 (A1 h1 hrw)),cl,f2,rfl,_,rfl,_,_,rfl,rfl,_,_,(A6 h1 (A1 h1 hrw)),(BL rfl),_,rfl,?_⟩
  have hrr:rw≠r:=(A1 h1 hrw).symm
  refine q _ rw ?_ (Ct k1 hrw hrr) (by rw [A2];rfl) (A6 A2 hrr)
  exact Keep.viaU (Keep.viaU (Keep.viaK (Keep.refl _ _) k1 (.inl rfl)) (.inr (Ct k1 hrw hrr))) (.inl rfl)
theorem B0 {α:Type} {l:List α} (h:l.length=1):∃ a0,l=[a0]:=by
 match l,h with
 | [a0],_=>exact ⟨a0,rfl⟩
theorem Lg {α:Type} {l:List α} (h:l.length=2):∃ a0 a1,l=[a0,a1]:=by
 match l,h with
 | [a0,a1],_=>exact ⟨a0,a1,rfl⟩
theorem HF {α:Type} {l:List α} (h:l.length=3):∃ a0 a1 a2,l=[a0,a1,a2]:=by
 match l,h with
 | [a0,a1,a2],_=>exact ⟨a0,a1,a2,rfl⟩
theorem Oc {α:Type} {l:List α} (h:l.length=5):∃ a0 a1 a2 a3 a4,l=[a0,a1,a2,a3,a4]:=by
 match l,h with
 | [a0,a1,a2,a3,a4],_=>exact ⟨a0,a1,a2,a3,a4,rfl⟩
structure NX (H:Hp) (as:List Addr) (rows:List (List Nat)):Prop where
 len:as.length=rows.length
 at_:∀ (i:Nat) (a:Addr) (x:List Nat),as[i]?=some a->rows[i]?=some x->H a=some (.lst (AO x))/\x.length<=100000
noncomputable def spAO (CD CT:Addr):Sp:=fun vs H Q _=>∃ (d nb rb:Addr) (t:Dr.Tables) (c:Nat) (nums:List Nat) (rows:List (List Nat)) (as:List Addr),vs=[.ref d,NV c,.ref nb,.ref rb]/\DeskAt CD CT H d t/\H nb=some (.lst (AO nums))/\H rb=some (.lst (as.map V.ref))/\NX H as rows/\CK c=some (nums.length,rows.length) /\
 ∀ (H':Hp) (r:Addr),Keep d H H'->H r=none->DeskAt CD CT H' d (Dz t c nums rows).1->H' r=some (.lst (G0 (Dz t c nums rows).2))->Sk CD CT H H' d->Q (.ref r) H'
theorem LO (D:Dfn K mg "answer_of" FY ["desk","call","numbers","rows"]) (T:BX mg) (F:EE K CD) (M_Desk_keep_tables:Cb P w K mg base 4 CD "keep_tables" ["self","classes","pairs","mirrors"] (spKeepT CD CT))
  (M_Desk_look_up:Cb P w K mg base 2 CD "look_up" ["self","character"] (spLook CD CT)) (M_Desk_tell_base:Cb P w K mg base 4 CD "tell_base" ["self","text"] (spTB CD CT))
  (M_Desk_tell_levels:Cb P w K mg base 9 CD "tell_levels" ["self","told","text"] (spTL CD CT)) (M_Desk_tell_sequences:Cb P w K mg base 9 CD "tell_sequences" ["self","told","text"] (spTS CD CT))
  (M_Desk_show_line:Cb P w K mg base 9 CD "show_line" ["self","told","first","many","text"] (spSL CD CT)) (M_Desk_find_beside:Cb P w K mg base 9 CD "find_beside" ["self","told","first","many","place","right","text"] (spFB CD CT))
  (M_Desk_put_in_reading:Cb P w K mg base 4 CD "put_in_reading" ["self","levels","row"] (spRd CD CT)):Ak P w K mg base 10 "answer_of" ["desk","call","numbers","rows"] (spAO CD CT):=by
 refine D.ok Lv (fun vs H Q E h=>?_) (fun f cdv A outer s H vs Q E hr h=>?_)
 .obtain ⟨d,nb,rb,t,c,nums,rows,as,rfl,_⟩:=h
  rfl
 .obtain ⟨d,nb,rb,t,c,nums,rows,as,rfl,hD,hnb,hrb,hR,hsh,q⟩:=h
  obtain ⟨cl,f1⟩:=F
  obtain ⟨dx,tx,hd,hT,htd⟩:=hD.ex
  refine ⟨_,(A3 (AU (AA Af (pv 1) (B4 T.c_TABLES) (AG _))
   (A5 (AD (JA M_Desk_keep_tables hr (pv 0) (A0 (AE (A9 (K:=K) rfl) (pv 3) A7 (fun _ _=>rfl)) (A0 (AE (A9 (K:=K) rfl) (pv 3) A7 (fun _ _=>rfl)) (A0 (AE (A9 (K:=K) rfl) (pv 3) A7 (fun _ _=>rfl)) A4))))))
   AJ)
   (A3 (AU (AA Af (pv 1) (B4 T.c_LOOKED) (AG _))
   (A5 (AD (JA M_Desk_look_up hr (pv 0) (A0 (AE (A9 (K:=K) rfl) (pv 2) A7 (fun _ _=>rfl)) A4))))
   AJ)
   (A3 (AU (AA Af (pv 1) (B4 T.c_BASE) (AG _))
   (A5 (AD (JA M_Desk_tell_base hr (pv 0) (A0 (AE (A9 (K:=K) rfl) (pv 3) A7 (fun _ _=>rfl)) A4))))
   AJ)
   (A3 (AU (AA Af (pv 1) (B4 T.c_LEVELS) (AG _))
   (A5 (AD (JA M_Desk_tell_levels hr (pv 0) (A0 (AE (A9 (K:=K) rfl) (pv 2) A7 (fun _ _=>rfl)) (A0 (AE (A9 (K:=K) rfl) (pv 3) A7 (fun _ _=>rfl)) A4)))))
   AJ)
   (A3 (AU (AA Af (pv 1) (B4 T.c_SEQUENCES) (AG _))
   (A5 (AD (JA M_Desk_tell_sequences hr (pv 0) (A0 (AE (A9 (K:=K) rfl) (pv 2) A7 (fun _ _=>rfl)) (A0 (AE (A9 (K:=K) rfl) (pv 3) A7 (fun _ _=>rfl)) A4)))))
   AJ)
   (A3 (AU (AA Af (pv 1) (B4 T.c_LINE) (AG _))
   (A5 (AD (JA M_Desk_show_line hr (pv 0) (A0 (AE (A9 (K:=K) rfl) (pv 2) A7 (fun _ _=>rfl)) (A0 (AE (A9 (K:=K) rfl) (pv 2) A7 (fun _ _=>rfl)) (A0 (AE (A9 (K:=K) rfl) (pv 2) A7 (fun _ _=>rfl)) (A0 (AE (A9 (K:=K) rfl) (pv 3) A7 (fun _ _=>rfl)) A4)))))))
   AJ)
   (A3 (AU (AA Af (pv 1) (B4 T.c_BESIDE) (AG _))
   (A5 (AD (JA M_Desk_find_beside hr (pv 0) (A0 (AE (A9 (K:=K) rfl) (pv 2) A7 (fun _ _=>rfl)) (A0 (AE (A9 (K:=K) rfl) (pv 2) A7 (fun _ _=>rfl)) (A0 (AE (A9 (K:=K) rfl) (pv 2) A7 (fun _ _=>rfl)) (A0 (AE (A9 (K:=K) rfl) (pv 2) A7 (fun _ _=>rfl)) (A0 (AE (A9 (K:=K) rfl) (pv 2) A7 (fun _ _=>rfl)) (A0 (AE (A9 (K:=K) rfl) (pv 3) A7 (fun _ _=>rfl)) A4)))))))))
   AJ)
   (A5 (AD (JA M_Desk_put_in_reading hr (pv 0) (A0 (AE (A9 (K:=K) rfl) (pv 3) A7 (fun _ _=>rfl)) (A0 (AE (A9 (K:=K) rfl) (pv 3) A7 (fun _ _=>rfl)) A4)))))))))))),?_⟩
  obtain ⟨hc1,hc8⟩:=Fb hsh
  obtain ⟨hl,hat⟩:=hR
  rcases (show c=1\/c=2\/c=3\/c=4\/c=5\/c=6\/c=7\/c=8 by lia) with rfl | rfl | rfl | rfl | rfl | rfl | rfl | rfl
  .have hs2:(0,3)=(nums.length,rows.length):=ZC hsh
   injection hs2 with hn hk
   obtain rfl:nums=[]:=List.length_eq_zero_iff.mp hn.symm
   obtain ⟨x0,x1,x2,rfl⟩:∃ (x0 x1 x2:List Nat),rows=[x0,x1,x2]:=HF hk.symm
   obtain ⟨a0,a1,a2,rfl⟩:∃ (a0 a1 a2:Addr),as=[a0,a1,a2]:=HF hl
   obtain ⟨ha0,hx0⟩:=hat 0 a0 x0 rfl rfl
   obtain ⟨ha1,hx1⟩:=hat 1 a1 x1 rfl rfl
   obtain ⟨ha2,hx2⟩:=hat 2 a2 x2 rfl rfl
   rw [Tw] at q
   refine ⟨_,rfl,rfl,_,rfl,⟨_,rfl,_,_,_,rfl,hd,rfl,_,rfl,_,_,_,_,rfl,rfl,(SqL.of hrb),rfl,_,rfl,_,_,_,_,rfl,rfl,(SqL.of hrb),rfl,_,rfl,_,_,_,_,rfl,rfl,(SqL.of hrb),rfl,_,_,_,_,_,_,_,_,rfl,(DeskAt.same hD (Same.refl _)),ha0,ha1,ha2,hx0,hx1,hx2,fun H' r k1 hD1 h1 hr0 hof=>?_⟩⟩
   exact q H' r k1 hr0 hD1 h1 hof
  .have hs2:(1,0)=(nums.length,rows.length):=ZC hsh
   injection hs2 with hn hk
   obtain ⟨n0,rfl⟩:∃ (n0:Nat),nums=[n0]:=B0 hn.symm
   obtain rfl:rows=[]:=List.length_eq_zero_iff.mp hk.symm
   rw [UY] at q
   refine ⟨_,rfl,rfl,_,rfl,⟨_,rfl,rfl,_,rfl,⟨_,rfl,_,_,_,rfl,hd,rfl,_,rfl,_,_,_,_,rfl,rfl,(SqL.of hnb),rfl,_,_,_,rfl,(DeskAt.same hD (Same.refl _)),?_⟩⟩⟩
   intro H' r s1 hr0 h1
   exact q H' r (Keep.viaS (Keep.refl _ _) s1) hr0 (hD.same s1) h1 (fun g o _ ho=>ho.same s1)
  .have hs2:(0,1)=(nums.length,rows.length):=ZC hsh
   injection hs2 with hn hk
   obtain rfl:nums=[]:=List.length_eq_zero_iff.mp hn.symm
   obtain ⟨x0,rfl⟩:∃ (x0:List Nat),rows=[x0]:=B0 hk.symm
   obtain ⟨a0,rfl⟩:∃ (a0:Addr),as=[a0]:=B0 hl
   obtain ⟨ha0,hx0⟩:=hat 0 a0 x0 rfl rfl
   rw [UA] at q
   refine ⟨_,rfl,rfl,_,rfl,⟨_,rfl,rfl,_,rfl,⟨_,rfl,rfl,_,rfl,⟨_,rfl,_,_,_,rfl,hd,rfl,_,rfl,_,_,_,_,rfl,rfl,(SqL.of hrb),rfl,_,_,_,_,rfl,(DeskAt.same hD (Same.refl _)),ha0,hx0,?_⟩⟩⟩⟩
   intro H' r s1 hr0 h1
   exact q H' r (Keep.viaS (Keep.refl _ _) s1) hr0 (hD.same s1) h1 (fun g o _ ho=>ho.same s1)
  .have hs2:(1,1)=(nums.length,rows.length):=ZC hsh
   injection hs2 with hn hk
   obtain ⟨n0,rfl⟩:∃ (n0:Nat),nums=[n0]:=B0 hn.symm
   obtain ⟨x0,rfl⟩:∃ (x0:List Nat),rows=[x0]:=B0 hk.symm
   obtain ⟨a0,rfl⟩:∃ (a0:Addr),as=[a0]:=B0 hl
   obtain ⟨ha0,hx0⟩:=hat 0 a0 x0 rfl rfl
   rw [Tu] at q
   refine ⟨_,rfl,rfl,_,rfl,⟨_,rfl,rfl,_,rfl,⟨_,rfl,rfl,_,rfl,⟨_,rfl,rfl,_,rfl,⟨_,rfl,_,_,_,rfl,hd,rfl,_,rfl,_,_,_,_,rfl,rfl,(SqL.of hnb),rfl,_,rfl,_,_,_,_,rfl,rfl,(SqL.of hrb),rfl,_,_,_,_,_,rfl,(DeskAt.same hD (Same.refl _)),ha0,hx0,?_⟩⟩⟩⟩⟩
   intro H' r s1 hr0 h1
   exact q H' r (Keep.viaS (Keep.refl _ _) s1) hr0 (hD.same s1) h1 (fun g o _ ho=>ho.same s1)
  .have hs2:(1,1)=(nums.length,rows.length):=ZC hsh
   injection hs2 with hn hk
   obtain ⟨n0,rfl⟩:∃ (n0:Nat),nums=[n0]:=B0 hn.symm
   obtain ⟨x0,rfl⟩:∃ (x0:List Nat),rows=[x0]:=B0 hk.symm
   obtain ⟨a0,rfl⟩:∃ (a0:Addr),as=[a0]:=B0 hl
   obtain ⟨ha0,hx0⟩:=hat 0 a0 x0 rfl rfl
   rw [UE] at q
   refine ⟨_,rfl,rfl,_,rfl,⟨_,rfl,rfl,_,rfl,⟨_,rfl,rfl,_,rfl,⟨_,rfl,rfl,_,rfl,⟨_,rfl,rfl,_,rfl,⟨_,rfl,_,_,_,rfl,hd,rfl,_,rfl,_,_,_,_,rfl,rfl,(SqL.of hnb),rfl,_,rfl,_,_,_,_,rfl,rfl,(SqL.of hrb),rfl,_,_,_,_,_,rfl,(DeskAt.same hD (Same.refl _)),ha0,hx0,?_⟩⟩⟩⟩⟩⟩
   intro H' r s1 hr0 h1
   exact q H' r (Keep.viaS (Keep.refl _ _) s1) hr0 (hD.same s1) h1 (fun g o _ ho=>ho.same s1)
  .have hs2:(3,1)=(nums.length,rows.length):=ZC hsh
   injection hs2 with hn hk
   obtain ⟨n0,n1,n2,rfl⟩:∃ (n0 n1 n2:Nat),nums=[n0,n1,n2]:=HF hn.symm
   obtain ⟨x0,rfl⟩:∃ (x0:List Nat),rows=[x0]:=B0 hk.symm
   obtain ⟨a0,rfl⟩:∃ (a0:Addr),as=[a0]:=B0 hl
   obtain ⟨ha0,hx0⟩:=hat 0 a0 x0 rfl rfl
   rw [U3] at q
   refine ⟨_,rfl,rfl,_,rfl,⟨_,rfl,rfl,_,rfl,⟨_,rfl,rfl,_,rfl,⟨_,rfl,rfl,_,rfl,⟨_,rfl,rfl,_,rfl,⟨_,rfl,rfl,_,rfl,⟨_,rfl,_,_,_,rfl,hd,rfl,_,rfl,_,_,_,_,rfl,rfl,(SqL.of hnb),rfl,_,rfl,_,_,_,_,rfl,rfl,(SqL.of hnb),rfl,_,rfl,_,_,_,_,rfl,rfl,(SqL.of hnb),rfl,_,rfl,_,_,_,_,rfl,rfl,(SqL.of hrb),rfl,_,_,_,_,_,_,_,rfl,(DeskAt.same hD (Same.refl _)),ha0,hx0,?_⟩⟩⟩⟩⟩⟩⟩
   intro H' r s1 hr0 h1
   exact q H' r (Keep.viaS (Keep.refl _ _) s1) hr0 (hD.same s1) h1 (fun g o _ ho=>ho.same s1)
  .have hs2:(5,1)=(nums.length,rows.length):=ZC hsh
   injection hs2 with hn hk
   obtain ⟨n0,n1,n2,n3,n4,rfl⟩:∃ (n0 n1 n2 n3 n4:Nat),nums=[n0,n1,n2,n3,n4]:=Oc hn.symm
   obtain ⟨x0,rfl⟩:∃ (x0:List Nat),rows=[x0]:=B0 hk.symm
   obtain ⟨a0,rfl⟩:∃ (a0:Addr),as=[a0]:=B0 hl
   obtain ⟨ha0,hx0⟩:=hat 0 a0 x0 rfl rfl
   rw [Tq] at q
   refine ⟨_,rfl,rfl,_,rfl,⟨_,rfl,rfl,_,rfl,⟨_,rfl,rfl,_,rfl,⟨_,rfl,rfl,_,rfl,⟨_,rfl,rfl,_,rfl,⟨_,rfl,rfl,_,rfl,⟨_,rfl,rfl,_,rfl,⟨_,rfl,_,_,_,rfl,hd,rfl,_,rfl,_,_,_,_,rfl,rfl,(SqL.of hnb),rfl,_,rfl,_,_,_,_,rfl,rfl,(SqL.of hnb),rfl,_,rfl,_,_,_,_,rfl,rfl,(SqL.of hnb),rfl,_,rfl,_,_,_,_,rfl,rfl,(SqL.of hnb),rfl,_,rfl,_,_,_,_,rfl,rfl,(SqL.of hnb),rfl,_,rfl,_,_,_,_,rfl,rfl,(SqL.of hrb),rfl,_,_,_,_,_,_,_,_,_,rfl,(DeskAt.same hD (Same.refl _)),ha0,hx0,?_⟩⟩⟩⟩⟩⟩⟩⟩
   intro H' r s1 hr0 h1
   exact q H' r (Keep.viaS (Keep.refl _ _) s1) hr0 (hD.same s1) h1 (fun g o _ ho=>ho.same s1)
  .have hs2:(0,2)=(nums.length,rows.length):=ZC hsh
   injection hs2 with hn hk
   obtain rfl:nums=[]:=List.length_eq_zero_iff.mp hn.symm
   obtain ⟨x0,x1,rfl⟩:∃ (x0 x1:List Nat),rows=[x0,x1]:=Lg hk.symm
   obtain ⟨a0,a1,rfl⟩:∃ (a0 a1:Addr),as=[a0,a1]:=Lg hl
   obtain ⟨ha0,hx0⟩:=hat 0 a0 x0 rfl rfl
   obtain ⟨ha1,hx1⟩:=hat 1 a1 x1 rfl rfl
   rw [UD] at q
   refine ⟨_,rfl,rfl,_,rfl,⟨_,rfl,rfl,_,rfl,⟨_,rfl,rfl,_,rfl,⟨_,rfl,rfl,_,rfl,⟨_,rfl,rfl,_,rfl,⟨_,rfl,rfl,_,rfl,⟨_,rfl,rfl,_,rfl,⟨_,rfl,_,_,_,rfl,hd,rfl,_,rfl,_,_,_,_,rfl,rfl,(SqL.of hrb),rfl,_,rfl,_,_,_,_,rfl,rfl,(SqL.of hrb),rfl,_,_,_,_,_,_,rfl,(DeskAt.same hD (Same.refl _)),ha0,ha1,hx0,hx1,?_⟩⟩⟩⟩⟩⟩⟩⟩
   intro H' r s1 hr0 h1
   exact q H' r (Keep.viaS (Keep.refl _ _) s1) hr0 (hD.same s1) h1 (fun g o _ ho=>ho.same s1)
end
theorem MQ {ns rest:List Nat} {p i:Nat} {n:Nat} (h:ns.drop p=rest) (hi:rest[i]?=some n):ns[p+i]?=some n:=by
 rw [<-h,List.getElem?_drop] at hi
 exact hi
theorem Pg {l:List Nat} {x s:List Nat} (h:K8 l=some (x,s)):∃ m r,l=m::r/\m<=r.length/\x=r.take m/\s=r.drop m:=by
 cases l with
 | nil=>cases h
 | cons m r =>
  have h:(if m<=r.length then some (r.take m,r.drop m) else none)=some (x,s):=h
  by_cases hm:m<=r.length
  .rw [if_pos hm] at h
   cases h
   exact ⟨m,r,rfl,hm,rfl,rfl⟩
  .rw [if_neg hm] at h
   cases h
theorem OB {k:Nat} {l:List Nat} {xs:List (List Nat)} {t:List Nat} (h:Cq (k+1) l=some (xs,t)):∃ x s xs',K8 l=some (x,s)/\Cq k s=some (xs',t)/\xs=x::xs':=by
 have h:(match K8 l with
  | none=>none
  | some (x,s)=>match Cq k s with
   | none=>none
   | some (xs,t)=>some (x::xs,t))=some (xs,t):=h
 cases hr:K8 l with
 | none=>rw [hr] at h;cases h
 | some y =>
  obtain ⟨x,s⟩:=y
  rw [hr] at h
  dsimp only at h
  cases hs:Cq k s with
  | none=>rw [hs] at h;cases h
  | some z =>
   obtain ⟨xs',t'⟩:=z
   rw [hs] at h
   cases h
   exact ⟨x,s,xs',rfl,hs,rfl⟩
theorem Pr {ns:List Nat} {p j:Nat} {xs:List (List Nat)} {t:List Nat} (h:Cq (j+1) (ns.drop p)=some (xs,t)) :
  ∃ m x xs',ns[p]?=some m/\p+1+m<=ns.length/\x=(ns.drop (p+1)).take m/\xs=x::xs'/\Cq j (ns.drop (p+1+m))=some (xs',t):=by
 obtain ⟨x,s,xs',h1,h2,h3⟩:=OB h
 obtain ⟨m,r,e1,e2,e3,e4⟩:=Pg h1
 have hp:ns[p]?=some m:=by
  have:=List.getElem?_drop (xs:=ns) (i:=p) (j:=0)
  rw [e1] at this
  exact this.symm
 have hr:ns.drop (p+1)=r:=by
  rw [<-List.drop_drop,e1]
  rfl
 have hl:r.length=ns.length - (p+1):=by rw [<-hr,List.length_drop]
 have hpl:=(ZB.mp hp).1
 refine ⟨m,x,xs',hp,by lia,by rw [hr];exact e3,h3,?_⟩
 rw [<-List.drop_drop,hr,<-e4]
 exact h2
theorem S4 {c n k:Nat} (h:CK c=some (n,k)):k<=3:=by
 obtain ⟨h1,h8⟩:=Fb h
 rcases (show c=1\/c=2\/c=3\/c=4\/c=5\/c=6\/c=7\/c=8 by lia) with rfl | rfl | rfl | rfl | rfl | rfl | rfl | rfl <;> (cases h;decide)
theorem Jk {H:Hp} {a b C C' dx dx':Addr} {fs fs':List (Str×V)} (h:H a=some (.ins C dx fs)) (h':H b=some (.ins C' dx' fs')) (hl:fs.length≠fs'.length):a≠b:=AW h h' (by
 intro z
 injection z with _ _ z
 exact hl (congrArg List.length z))
theorem DeskAt.keepR {CD CT CR:Addr} {H H':Hp} {d r dx a:Addr} {p:Nat} {t:Dr.Tables} (h:DeskAt CD CT H d t) (hr:H r=some (.ins CR dx (LZ a p))) (k:Keep r H H'):DeskAt CD CT H' d t:=by
 obtain ⟨dx',tx,h1,h2,h3⟩:=h.ex
 have hdr:d≠r:=Jk h1 hr (by simp [LZ])
 have htr:tx≠r:=by
  obtain ⟨_,dxt,r0,b0,m0',rts,kvs,htx,_⟩:=h2
  exact Jk htx hr (by simp [LZ,TQ])
 exact ⟨dx',tx,k _ _ h1 hdr,h2.keep hr htr k,h3⟩
theorem Off.keepR {CD CT CR g:Addr} {H H':Hp} {d r dx a:Addr} {p:Nat} (h:Off CD CT g H d) (hr:H r=some (.ins CR dx (LZ a p))) (k:Keep r H H'):Off CD CT g H' d:=by
 obtain ⟨dx',tx,dxt,r',b,m,h1,h2,h3⟩:=h
 exact ⟨dx',tx,dxt,r',b,m,k _ _ h1 (Jk h1 hr (by simp [LZ])),k _ _ h2 (Jk h2 hr (by simp [LZ,TQ])),h3⟩
section
variable {P:Program} {w:World} {K:PySem.W.Frag} {mg:Str->Option Value} {base:Heap} {CT CP CS CD CR:Addr}
noncomputable def spAN (K:PySem.W.Frag) (CD CT CR:Addr):Sp:=fun vs H Q _=>∃ (d r dx a:Addr) (t:Dr.Tables) (p c n k:Nat) (ns rest:List Nat) (xs:List (List Nat)) (t':List Nat),vs=[.ref d,.ref r]/\DeskAt CD CT H d t/\H r=some (.ins CR dx (LZ a p))/\SqL K H a (AO ns)/\ns.length<=100000 /\
 ns.drop p=c::rest/\CK c=some (n,k)/\n<=rest.length/\Cq k (rest.drop n)=some (xs,t') /\
 ∀ (H':Hp) (rr:Addr) (p':Nat),Keep2 d r H H'->H rr=none->DeskAt CD CT H' d (Dz t c (rest.take n) xs).1->H' rr=some (.lst (G0 (Dz t c (rest.take n) xs).2))->H' r=some (.ins CR dx (LZ a p'))->ns.drop p'=t'->Sk CD CT H H' d->Q (.ref rr) H'
theorem JI (D:Dfn K mg "answer_next" CA ["desk","reader"]) (T:BX mg) (F:RK K CR) {sa:Addr} {shp:List (C5×V)} (hShp:Dy mg "SHAPES" (.ref sa)) (hKD:KD P w K sa shp)
  (hSh:∀ c n k,CK c=some (n,k)->∃ t,Bl shp (.inl (c:Int))=some (.ref t)/\∀ H,SqT K H t [NV n,NV k]) (M_Reader_take_number:Cb P w K mg base 1 CR "take_number" ["self"] (spRdN K CR)) (M_Reader_take_row:Cb P w K mg base 2 CR "take_row" ["self"] (spRdR K CR))
  (C_answer_of:Ak P w K mg base 10 "answer_of" ["desk","call","numbers","rows"] (spAO CD CT)):Ak P w K mg base 11 "answer_next" ["desk","reader"] (spAN K CD CT CR):=by
 refine D.ok sc_answer_next (fun vs H Q E h=>?_) (fun f cdv A outer s H vs Q E hr h=>?_)
 .obtain ⟨d,r,dx,a,t,p,c,n,k,ns,rest,xs,t',rfl,_⟩:=h
  rfl
 .obtain ⟨d,r,dx,a,t,p,c,n,k,ns,rest,xs,t',rfl,hD,hR,hS,hl,hp,hs,hn,hx,q⟩:=h
  obtain ⟨cl,f1,f2⟩:=F
  refine ⟨_,(A3 (AF (i:=2) sc_answer_next.nd rfl (Or.inl rfl) (Gm M_Reader_take_number hr (pv 1)))
   (A3 (AU (Ti (Nf hKD (pv 2) (B4 hShp)) (by with_unfolding_all rfl))
   (A5 Qw)
   AJ)
   (A3 (AF (i:=3) sc_answer_next.nd rfl (Or.inl rfl) (QI hKD (B4 hShp) (pv 2) (fun _ _=>rfl)))
   (A3 (Cd (i:=4) rfl sc_answer_next.nd rfl rfl (Dc rfl rfl (by decide +kernel) (by decide +kernel)) (B9 rfl T.b_range (A0 (AE (An (K:=K) rfl) (pv 3) A7 (fun _ _=>rfl)) A4)) (own:=[("k",6)]) (BE (show FK ["desk","reader","call","shape","numbers","rows","k"] (A8 CA) _ [("k",6)]=true from by decide +kernel)) (fun _ _ _ _ _=>(AS (i:=6) sc_answer_next.nd rfl (Or.inl rfl))) (fun _ _ _ _ _=>Ba) (fun _ _ _ _ _=>(Gm M_Reader_take_number hr (pv 1))))
   (A3 (Cd (i:=5) rfl sc_answer_next.nd rfl rfl (Dc rfl rfl (by decide +kernel) (by decide +kernel)) (B9 rfl T.b_range (A0 (AE (An (K:=K) rfl) (pv 3) A7 (fun _ _=>rfl)) A4)) (own:=[("k",6)]) (BE (show FK ["desk","reader","call","shape","numbers","rows","k"] (A8 CA) _ [("k",6)]=true from by decide +kernel)) (fun _ _ _ _ _=>(AS (i:=6) sc_answer_next.nd rfl (Or.inl rfl))) (fun _ _ _ _ _=>Ba) (fun _ _ _ _ _=>(Gm M_Reader_take_row hr (pv 1))))
   (A5 (AD (BI C_answer_of hr (A0 (pv 0) (A0 (pv 2) (A0 (pv 4) (A0 (pv 5) A4)))))))))))),?_⟩
  have hrest:ns.drop (p+1)=rest:=by
   rw [<-List.drop_drop,hp]
   rfl
  have hc:ns[p]?=some c:=MQ (i:=0) hp rfl
  obtain ⟨st,hst,hsq⟩:=hSh c n k hs
  have hrl:rest.length<=ns.length:=by rw [<-hrest,List.length_drop];lia
  obtain ⟨dxd,txd,hd0,_,_⟩:=hD.ex
  have hdr:d≠r:=Jk hd0 hR (by simp [LZ])
  refine ⟨_,rfl,_,_,_,rfl,hR,rfl,_,_,_,_,_,_,rfl,hR,(SqL.via hS (Same.refl _)),hc,fun H1 k1 h1=>⟨_,rfl,_,rfl,rfl,_,rfl,?_⟩⟩
  have hS1:=SqL.viaK hS hR k1
  have hD1:=hD.keepR hR k1
  have hd1:=k1 _ _ hd0 hdr
  rw [hst]
  refine ⟨_,rfl,_,_,rfl,rfl,hst,_,rfl,_,_,_,_,rfl,rfl,hsq _,rfl,_,rfl,(by lia),(by lia),fun nb hnb=>?_⟩
  refine Md (fun i H'=>Bk (Keep r H1 H'/\H' r=some (.ins CR dx (LZ a (p+1+i)))/\H' nb=some (.lst (AO (rest.take i))))) ?_ (fun i H' hi h=>?_) (fun H' h=>?_)
  .exact ⟨Keep.viaU (Keep.refl _ _) (.inr hnb),A6 h1 (A1 h1 hnb),A2⟩
  .obtain ⟨k2,h2r,h2n⟩:=h
   have hi2:i<n:=by simpa using hi
   obtain ⟨z,hz⟩:∃ z,rest[i]?=some z:=⟨_,ZA (by lia)⟩
   have hz2:ns[p+1+i]?=some z:=MQ hrest hz
   have hS2:=SqL.viaK hS1 h1 k2
   have hnr:nb≠r:=(A1 h1 hnb).symm
   refine ⟨rfl,⟨_,rfl,_,_,_,rfl,h2r,rfl,_,_,_,_,_,_,rfl,h2r,(SqL.via hS2 (Same.refl _)),hz2,fun H2 k3 h3=>⟨_,(k3 _ _ h2n hnr),(DT (by simp <;> lia)),?_⟩⟩⟩
   refine ⟨Keep.viaU (Keep.viaK (Keep.viaK (Keep.refl _ _) k2 (.inl rfl)) k3 (.inl rfl)) (.inr hnb),A6 h3 hnr.symm,?_⟩
   rw [A2,List.take_add_one,hz,C0]
   rfl
  obtain ⟨k2,h2r,h2n⟩:=h
  have en:((n:Int)).toNat=n:=by lia
  rw [en] at h2r h2n
  have hS2:=SqL.viaK hS1 h1 k2
  have hD2:=hD1.keepR h1 k2
  have hd2:=k2 _ _ hd1 hdr
  have hx2:Cq k (ns.drop (p+1+n))=some (xs,t'):=by rw [<-List.drop_drop,hrest];exact hx
  have hxl:=Fu _ _ _ _ hx
  have hk3:=S4 hs
  refine ⟨_,rfl,_,_,_,_,rfl,rfl,hsq _,rfl,_,rfl,(by lia),(by lia),fun rb hrb=>?_⟩
  refine Md (fun i H3=>Bk (∃ (as:List Addr) (pi:Nat),Keep r H' H3/\H3 r=some (.ins CR dx (LZ a pi))/\H3 rb=some (.lst (as.map V.ref))/\NX H3 as (xs.take i)/\(∀ b∈as,b≠rb)/\Cq (k - i) (ns.drop pi)=some (xs.drop i,t'))) ?_ (fun i H3 hi h=>?_) (fun H3 h=>?_)
  .exact ⟨[],p+1+n,Keep.viaU (Keep.refl _ _) (.inr hrb),A6 h2r (A1 h2r hrb),A2,⟨rfl,fun i b x hb _=>by simp at hb⟩,(fun b hb=>absurd hb (by simp)),hx2⟩
  .obtain ⟨as,pi,k3,h3r,h3b,hRA,hne,hrow⟩:=h
   have hi2:i<k:=by simpa using hi
   rw [show k - i=(k - (i+1))+1 by lia] at hrow
   obtain ⟨m,x,xs',g1,g2,g3,g4,g5⟩:=Pr hrow
   have hS3:=SqL.viaK hS2 h2r k3
   have hnr:rb≠r:=(A1 h2r hrb).symm
   have hal:as.length=(xs.take i).length:=hRA.len
   have hxi:xs[i]?=some x:=by
    have:=List.getElem?_drop (xs:=xs) (i:=i) (j:=0)
    rw [g4] at this
    exact this.symm
   rw [List.length_take] at hal
   refine ⟨rfl,⟨_,rfl,_,_,_,rfl,h3r,rfl,_,_,_,_,_,_,rfl,h3r,(SqL.via hS3 (Same.refl _)),g1,g2,fun H4 rw k4 hrw h4r h4w=>⟨_,(k4 _ _ h3b hnr),(DT (by simp <;> lia)),?_⟩⟩⟩
   have hwb:rw≠rb:=(A1 h3b hrw).symm
   have hbr:rb≠r:=hnr
   have g6:xs.drop (i+1)=xs':=by
    rw [<-List.drop_drop,g4]
    rfl
   have hRA2:NX (upd H4 rb (HO.lst (List.map V.ref as++[V.ref rw]))) (as++[rw]) (xs.take (i+1)):=by
    rw [List.take_add_one,hxi]
    refine ⟨by simp [hRA.len],fun j b y hb hy=>?_⟩
    by_cases hj:j<as.length
    .have hy1:j<(xs.take i).length:=by rw [<-hRA.len];exact hj
     rw [List.getElem?_append_left hj] at hb
     rw [List.getElem?_append_left hy1] at hy
     obtain ⟨b1,b2⟩:=hRA.at_ j b y hb hy
     have hbrb:=hne b (ZD hb)
     have hbr2:b≠r:=AW b1 h3r nofun
     exact ⟨by rw [AQ hbrb];exact k4 _ _ b1 hbr2,b2⟩
    .rw [List.getElem?_append_right (by lia)] at hb
     rw [List.getElem?_append_right (by rw [<-hRA.len];lia)] at hy
     have hj0:j - as.length=0:=by
      have:=(ZB.mp hb).1
      simp at this
      lia
     rw [hj0] at hb
     rw [<-hRA.len,hj0] at hy
     cases hb
     have hy:x=y:=ZC hy
     subst hy
     refine ⟨by rw [AQ hwb,h4w,<-g3],?_⟩
     rw [g3,List.length_take,List.length_drop]
     lia
   refine ⟨as++[rw],pi+1+m,Keep.viaU (Keep.viaK (Keep.viaK (Keep.refl _ _) k3 (.inl rfl)) k4 (.inl rfl)) (.inr hrb),A6 h4r hnr.symm,?_,hRA2,?_,by rw [g6];exact g5⟩
   .rw [A2,List.map_append]
    rfl
   .intro b hb
    rcases List.mem_append.mp hb with hb | hb
    .exact hne b hb
    .rw [List.mem_singleton.mp hb]
     exact hwb
  obtain ⟨as,pi,k3,h3r,h3b,hRA,hne,hrow⟩:=h
  have ek:((k:Int)).toNat=k:=by lia
  rw [ek] at hRA hrow
  rw [Nat.sub_self,List.drop_eq_nil_of_le (show xs.length<=k by lia)] at hrow
  have hpt:ns.drop pi=t':=(Prod.mk.inj (ZC hrow)).2
  rw [List.take_of_length_le (by lia)] at hRA
  have hS3:=SqL.viaK hS2 h2r k3
  have hD3:=hD2.keepR h2r k3
  have hd3:=k3 _ _ hd2 hdr
  have hnbr:nb≠r:=(A1 h1 hnb).symm
  have h3n:=k3 _ _ h2n hnbr
  have hsh:CK c=some ((rest.take n).length,xs.length):=by rw [List.length_take,Nat.min_eq_left hn,hxl];exact hs
  refine ⟨_,rfl,_,rfl,_,rfl,_,rfl,_,_,_,_,_,_,_,_,rfl,(DeskAt.same hD3 (Same.refl _)),h3n,h3b,hRA,hsh,fun H5 rr k5 hrr hD5 h5 hof=>?_⟩
  have h5r:=k5 _ _ h3r (fun z=>hdr z.symm)
  refine q H5 rr pi (Keep2.viaK (Keep2.viaK (Keep2.viaK (Keep2.viaK (Keep2.refl _ _ _) k1 (.inr (.inl rfl))) k2 (.inr (.inl rfl))) k3 (.inr (.inl rfl))) k5 (.inl rfl)) (Ct k1 (Ct k2 (Ct k3 hrr (A1 h3r hrr).symm) (A1 h3r hrr).symm) (A1 h3r hrr).symm) hD5 h5 h5r hpt (fun g o hg ho=>?_)
  have ho1:=ho.keepR hR k1
  have ho2:=ho1.keepR h1 k2
  have ho3:=ho2.keepR h2r k3
  by_cases hgr:g=r
  .subst hgr
   exact hof _ _ h3r ho3
  .exact hof g o (k3 _ _ (k2 _ _ (k1 _ _ hg hgr) hgr) hgr) ho3
end
noncomputable def DY (t:Dr.Tables) (x:Wrdirs.Call):Prop:=(WrdirsNeutral.told (Wrdirs.step t x).2).length<=2000
theorem Bo:(WrdirsNeutral.told Wrdirs.BAD).length<=2000:=by decide
theorem JX (z:Int):(WrdirsNeutral.told (.no z)).length<=2000:=by show 1<=2000;decide
theorem CO {l:List Nat} (h:l.length<=1000):(WrdirsNeutral.told (.nums l)).length<=2000:=by
 show (0::WrdirsNeutral.ints l).length<=2000
 unfold WrdirsNeutral.ints
 rw [List.length_cons,ZE]
 lia
theorem Sw (t:Dr.Tables) (c p m:List Nat):DY t (.tables c p m):=by
 unfold DY
 show (WrdirsNeutral.told (if _ then (t,Wrdirs.BAD) else match Dr.read c p m with
  | .ok t=>(t,.nums [])
  | .error e=>(t,.wrong e.1 e.2)).2).length<=2000
 split
 .exact Bo
 .split
  .exact CO (by decide)
  .show 3<=2000
   decide
theorem Si (t:Dr.Tables) (c:Nat):DY t (.looked c):=by
 unfold DY
 show (WrdirsNeutral.told (if _ then Wrdirs.BAD else .nums (t.classOf c::(match t.pairOf c with
   | some x=>[1,x.1,if x.2 then 1 else 0]
   | none=>[0,0,0])++[t.mirror c]))).length<=2000
 split
 .exact Bo
 .refine CO ?_
  cases t.pairOf c <;> simp
theorem T2 (t:Dr.Tables) (x:List Nat):DY t (.base x):=by
 unfold DY
 show (WrdirsNeutral.told (if _ then Wrdirs.BAD else .nums [Dr.base none (AV t x)])).length<=2000
 split
 .exact Bo
 .exact CO (by simp)
theorem Fi {n:Nat} {x:List Nat} (h:¬(2<n\/Wrdirs.textOk x=false)):x.length<=256:=JO (by
 cases hx:Wrdirs.textOk x with
 | true=>rfl
 | false=>exact absurd (.inr hx) h)
theorem L3 (t:Dr.Tables) (x:List Nat):(AV t x).length=x.length:=by unfold AV;rw [ZE]
theorem Sm {t:Dr.Tables} (hok:TOk t) (n:Nat) (x:List Nat):DY t (.levels n x):=by
 unfold DY
 show (WrdirsNeutral.told (if 2<n\/Wrdirs.textOk x=false then Wrdirs.BAD else .nums (Aj t n x::Dr.levels (Wrdirs.toldOf n) (AV t x)))).length<=2000
 split
 .exact Bo
 .rename_i h
  have hl:=Fi h
  refine CO ?_
  rw [LN hok hl]
  unfold JF
  rw [List.length_cons,Es,L3]
  lia
theorem Lx:∀ (L:List (List Nat)) (g:List Nat->List Nat),(∀ X∈L,X≠[])->(∀ X,(g X).length=X.length+1)->((L.map g).flatMap fun x=>((x.length - 1:Nat):Int)::WrdirsNeutral.ints x).length<=3*L.flatten.length
 | [],g,_,_=>Nat.le_refl _
 | X::L,g,h,hg=>by
  have ih:=Lx L g (fun Y hY=>h Y (.tail _ hY)) hg
  have hX:0<X.length:=List.length_pos_iff.mpr (h X (.head _))
  have hgX:=hg X
  rw [List.map_cons,List.flatMap_cons,List.length_append,List.length_cons,List.flatten_cons,List.length_append]
  unfold WrdirsNeutral.ints at ih ⊢
  rw [ZE]
  lia
theorem Su {t:Dr.Tables} (hok:TOk t) (n:Nat) (x:List Nat):DY t (.sequences n x):=by
 unfold DY
 show (WrdirsNeutral.told (if 2<n\/Wrdirs.textOk x=false then Wrdirs.BAD else .rows ((Dr.sequences ((AV t x).map Dr.Look.cls) (Dr.itemsOf (AV t x) (Aj t n x))).map fun x=>(x.head?.map Dr.Item.level).getD 0::x.map Dr.Item.at_))).length<=2000
 split
 .exact Bo
 .rename_i h
  have hl:=Fi h
  rw [Hd _ _ (Ny hok hl)]
  have hfl:=Gw ((AV t x).map Dr.Look.cls) (Aj t n x)
  have hne:=Om ((AV t x).map Dr.Look.cls) (Aj t n x)
  rw [ZE,L3] at hfl
  generalize Ay ((AV t x).map Dr.Look.cls) (Aj t n x)=L at hfl hne
  rw [List.map_map]
  have:=Lx L _ hne (fun X=>(show ((((fun x:List Dr.Item=>(x.head?.map Dr.Item.level).getD 0::x.map Dr.Item.at_) ∘ fun x_1=>List.map (GY (AV t x) (Aj t n x)) x_1) X).length=X.length+1) by simp))
  show (0::_::_:List Int).length<=2000
  rw [List.length_cons,List.length_cons]
  lia
theorem Sj (t:Dr.Tables) (ls row:List Nat):DY t (.reading ls row):=by
 unfold DY
 show (WrdirsNeutral.told (if 256<ls.length\/ls.length≠row.length\/(ls.any fun n=>decide (126<n))=true then Wrdirs.BAD else .nums ((List.range ls.length).map _))).length<=2000
 split
 .exact Bo
 .rename_i h
  refine CO ?_
  rw [ZE,List.length_range]
  have:¬256<ls.length:=fun z=>h (.inl z)
  lia
theorem T6 {t:Dr.Tables} (hok:TOk t) (n fi mn:Nat) (x:List Nat):DY t (.line n fi mn x):=by
 unfold DY
 show (WrdirsNeutral.told (if 2<n\/Wrdirs.textOk x=false then Wrdirs.BAD else if x.length<fi+mn then Wrdirs.BAD else .pairs ((Wrdirs.seen (Wrdirs.toldOf n) fi mn (AV t x)).map _))).length<=2000
 split
 .exact Bo
 .rename_i h
  have hl:=Fi h
  split
  .exact Bo
  .rename_i h2
   rw [Hr hok fi mn hl,List.map_map]
   have hlen:=GW t n (show fi+mn<=x.length by lia)
   have hol:=Dd (CL (AV t x) (Aj t n x) fi mn)
   show (0::_:List Int).length<=2000
   rw [List.length_cons,List.flatMap_map]
   generalize AY (CL (AV t x) (Aj t n x) fi mn)=O at hol
   have:∀ (O:List Nat) (g:Nat->List Int),(∀ k,(g k).length=2)->(O.flatMap g).length=2*O.length:=fun O g hg=>by
    induction O with
    | nil=>rfl
    | cons a O ih=>rw [List.flatMap_cons,List.length_append,ih,hg,List.length_cons];lia
   rw [this O _ (fun k=>rfl)]
   lia
theorem Sb (t:Dr.Tables) (n fi mn pl rt:Nat) (x:List Nat):DY t (.beside n fi mn pl rt x):=by
 unfold DY
 show (WrdirsNeutral.told (if 2<n\/Wrdirs.textOk x=false then Wrdirs.BAD else if x.length<fi+mn\/1<rt then Wrdirs.BAD else Bd ((Wrdirs.seen (Wrdirs.toldOf n) fi mn (AV t x)).map fun x=>x.2) pl rt)).length<=2000
 split
 .exact Bo
 .split
  .exact Bo
  .unfold Bd
   split
   .exact JX _
   .split
    .split
     .exact CO (by simp)
     .exact JX _
    .split
     .exact JX _
     .exact CO (by simp)
theorem PH {t:Dr.Tables} (hok:TOk t) {c:Nat} {nums:List Nat} {rows:List (List Nat)} (hsh:CK c=some (nums.length,rows.length)):(Dz t c nums rows).2.length<=2000:=by
 obtain ⟨hc1,hc8⟩:=Fb hsh
 rcases (show c=1\/c=2\/c=3\/c=4\/c=5\/c=6\/c=7\/c=8 by lia) with rfl | rfl | rfl | rfl | rfl | rfl | rfl | rfl
 .have hs2:(0,3)=(nums.length,rows.length):=ZC hsh
  injection hs2 with hn hk
  obtain rfl:nums=[]:=List.length_eq_zero_iff.mp hn.symm
  obtain ⟨x0,x1,x2,rfl⟩:∃ (x0 x1 x2:List Nat),rows=[x0,x1,x2]:=HF hk.symm
  rw [Tw]
  exact Sw _ _ _ _
 .have hs2:(1,0)=(nums.length,rows.length):=ZC hsh
  injection hs2 with hn hk
  obtain ⟨n0,rfl⟩:∃ (n0:Nat),nums=[n0]:=B0 hn.symm
  obtain rfl:rows=[]:=List.length_eq_zero_iff.mp hk.symm
  rw [UY]
  exact Si _ _
 .have hs2:(0,1)=(nums.length,rows.length):=ZC hsh
  injection hs2 with hn hk
  obtain rfl:nums=[]:=List.length_eq_zero_iff.mp hn.symm
  obtain ⟨x0,rfl⟩:∃ (x0:List Nat),rows=[x0]:=B0 hk.symm
  rw [UA]
  exact T2 _ _
 .have hs2:(1,1)=(nums.length,rows.length):=ZC hsh
  injection hs2 with hn hk
  obtain ⟨n0,rfl⟩:∃ (n0:Nat),nums=[n0]:=B0 hn.symm
  obtain ⟨x0,rfl⟩:∃ (x0:List Nat),rows=[x0]:=B0 hk.symm
  rw [Tu]
  exact Sm hok _ _
 .have hs2:(1,1)=(nums.length,rows.length):=ZC hsh
  injection hs2 with hn hk
  obtain ⟨n0,rfl⟩:∃ (n0:Nat),nums=[n0]:=B0 hn.symm
  obtain ⟨x0,rfl⟩:∃ (x0:List Nat),rows=[x0]:=B0 hk.symm
  rw [UE]
  exact Su hok _ _
 .have hs2:(3,1)=(nums.length,rows.length):=ZC hsh
  injection hs2 with hn hk
  obtain ⟨n0,n1,n2,rfl⟩:∃ (n0 n1 n2:Nat),nums=[n0,n1,n2]:=HF hn.symm
  obtain ⟨x0,rfl⟩:∃ (x0:List Nat),rows=[x0]:=B0 hk.symm
  rw [U3]
  exact T6 hok _ _ _ _
 .have hs2:(5,1)=(nums.length,rows.length):=ZC hsh
  injection hs2 with hn hk
  obtain ⟨n0,n1,n2,n3,n4,rfl⟩:∃ (n0 n1 n2 n3 n4:Nat),nums=[n0,n1,n2,n3,n4]:=Oc hn.symm
  obtain ⟨x0,rfl⟩:∃ (x0:List Nat),rows=[x0]:=B0 hk.symm
  rw [Tq]
  exact Sb _ _ _ _ _ _ _
 .have hs2:(0,2)=(nums.length,rows.length):=ZC hsh
  injection hs2 with hn hk
  obtain rfl:nums=[]:=List.length_eq_zero_iff.mp hn.symm
  obtain ⟨x0,x1,rfl⟩:∃ (x0 x1:List Nat),rows=[x0,x1]:=Lg hk.symm
  rw [UD]
  exact Sj _ _ _
theorem Ls (l:List Int):(G0 l).length=l.length:=ZE _
theorem hsz:sizeLine=16777216:=by decide
theorem DeskAt.keepG {CD CT g:Addr} {H H':Hp} {d:Addr} {t:Dr.Tables} {l:List V} (h:DeskAt CD CT H d t) (ho:Off CD CT g H d) (hg:H g=some (.lst l)) (k:Keep g H H'):DeskAt CD CT H' d t:=by
 obtain ⟨dx',tx,h1,⟨ok,dxt,r,b,m,rts,kvs,h2,h3,h4,h5,h6,h7⟩,hn⟩:=h.ex
 obtain ⟨dx2,tx2,dxt2,r2,b2,m2,e1,e2,e3⟩:=ho
 rw [h1] at e1
 cases e1
 rw [h2] at e2
 cases e2
 have tup:∀ t xs,H t=some (.tup xs)->H' t=some (.tup xs):=fun t xs h=>k _ _ h (AW h hg nofun)
 exact ⟨dx',tx,k _ _ h1 (AW h1 hg nofun),⟨ok,dxt,r,b,m,rts,kvs,k _ _ h2 (AW h2 hg nofun),k _ _ h3 e3,h4.mono tup,k _ _ h5 (AW h5 hg nofun),h6.mono tup,k _ _ h7 (AW h7 hg nofun)⟩,hn⟩
theorem Off.keepG {CD CT g:Addr} {H H':Hp} {d:Addr} {l:List V} (h:Off CD CT g H d) (hg:H g=some (.lst l)) (k:Keep g H H'):Off CD CT g H' d:=by
 obtain ⟨dx',tx,dxt,r',b,m,h1,h2,h3⟩:=h
 exact ⟨dx',tx,dxt,r',b,m,k _ _ h1 (AW h1 hg nofun),k _ _ h2 (AW h2 hg nofun),h3⟩
section
variable {P:Program} {w:World} {K:PySem.W.Frag} {mg:Str->Option Value} {base:Heap} {CT CP CS CD CR:Addr}
noncomputable def spAns (K:PySem.W.Frag):Sp:=fun vs H Q _=>∃ (a:Addr) (ns:List Nat) (cs:List (List (List Int))),vs=[.ref a]/\SqL K H a (AO ns)/\ns.length<=100000/\PyFlat.calls PyWrdirs.shape ns.length (DM ns)=some cs/\cs.length<=400/\∀ (H':Hp) (r:Addr),H' r=some (.lst (G0 (JT Dr.PLAIN cs)))->Q (.ref r) H'
theorem NN {fa:Addr} {fd:FuncData} (D:Fun K "answers" "answers" C1 fa fd) (T:BX mg) (F:RK K CR) (C_Reader:Kg P w K mg base 1 CR "Reader" ["self","calls"] (spRdI CR)) (C_Desk:Kg P w K mg base 4 CD "Desk" ["self"] (spDesk CD CT))
  (M_Reader_is_done:Cb P w K mg base 1 CR "is_done" ["self"] (spRdD K CR)) (C_answer_next:Ak P w K mg base 11 "answer_next" ["desk","reader"] (spAN K CD CT CR)):FL P w K mg base CX0 12 fa fd ["calls"] (spAns K):=by
 refine D.ok sc_answers (fun vs H Q E h=>?_) (fun cdv A outer s H vs Q E hr h=>?_)
 .obtain ⟨a,ns,cs,rfl,_⟩:=h
  rfl
 .obtain ⟨a,ns,cs,rfl,hS,hl,hcs,hcl,q⟩:=h
  obtain ⟨cl,f1,f2⟩:=F
  refine ⟨_,(A3 (AF (i:=1) sc_answers.nd rfl (Or.inl rfl) (RH C_Reader hr (A0 (pv 0) A4)))
   (A3 (AF (i:=2) sc_answers.nd rfl (Or.inl rfl) (Uj C_Desk hr))
   (A3 (AF (i:=3) sc_answers.nd rfl (Or.inl rfl) (Ac A4))
   (A3 (DG PassesOwn.never (C6 (As (Gm M_Reader_is_done hr (pv 1))))
   (A3 (AF (i:=4) sc_answers.nd rfl (Or.inl rfl) (BI C_answer_next hr (A0 (pv 2) (A0 (pv 1) A4))))
    (A3 (AX (Ck PySem.F.plainAttrs_list PySem.F.slot_list_append PySem.F.type_list_append BP (pv 3) (A0 (AM (AK (K:=K) rfl) (by rfl) T.b_len PySem.boot_len (A0 (pv 4) A4)) A4)))
    (A5 (AX (Ck PySem.F.plainAttrs_list PySem.F.slot_list_extend PySem.F.type_list_extend Df (pv 3) (A0 (pv 4) A4)))))))
   (A5 (AD (pv 3))))))),?_⟩
  refine ⟨_,rfl,fun r dxr nr ndr ner=>⟨_,_,_,rfl,A2,fun H1 h1r k1=>⟨rfl,fun d dxd nd ndd ned=>⟨_,_,rfl,A2,fun H2 hD2 k2=>⟨rfl,(BL rfl),fun g hg=>?_⟩⟩⟩⟩⟩
  have sH:Same H (upd H2 g (HO.lst [])):=Same.set (Same.kept (Same.set (Same.set (Same.kept (Same.set (Same.set (Same.refl _) ndr) nr) nr k1) (none_of (Same.kept (Same.set (Same.set (Same.refl _) ndr) nr) nr k1) ndd)) (none_of (Same.kept (Same.set (Same.set (Same.refl _) ndr) nr) nr k1) nd)) (none_of (Same.kept (Same.set (Same.set (Same.refl _) ndr) nr) nr k1) nd) k2) (none_of (Same.kept (Same.set (Same.set (Same.kept (Same.set (Same.set (Same.refl _) ndr) nr) nr k1) (none_of (Same.kept (Same.set (Same.set (Same.refl _) ndr) nr) nr k1) ndd)) (none_of (Same.kept (Same.set (Same.set (Same.refl _) ndr) nr) nr k1) nd)) (none_of (Same.kept (Same.set (Same.set (Same.refl _) ndr) nr) nr k1) nd) k2) hg)
  have hdr0:r≠d:=A1 h1r nd
  have hdN:H d=none:=none_of (Same.kept (Same.set (Same.set (Same.refl _) ndr) nr) nr k1) nd
  have hgN:H g=none:=none_of (Same.kept (Same.set (Same.set (Same.kept (Same.set (Same.set (Same.refl _) ndr) nr) nr k1) (none_of (Same.kept (Same.set (Same.set (Same.refl _) ndr) nr) nr k1) ndd)) hdN) hdN k2) hg
  have h2r:H2 r=some (.ins CR dxr (LZ a 0)):=k2 _ _ (A6 (A6 h1r (A1 h1r ndd)) hdr0) hdr0
  have hO2:Off CD CT g (upd H2 g (HO.lst [])) d:=by
   obtain ⟨dx0,tx0,g1,g2,_⟩:=hD2.ex
   obtain ⟨_,dxt,r0,b0,m0',rts,kvs,htx,hr0,_⟩:=g2
   refine Off.same ⟨dx0,tx0,dxt,r0,b0,m0',g1,htx,?_⟩ (Same.upd hg)
   exact A1 hr0 hg
  refine ⟨fun k σ H'=>Bk (∃ (p:Nat) (t:Dr.Tables) (cs':List (List (List Int))) (acc:List Int) (fu:Nat) (v4:Option V),σ=[some (.ref a),some (.ref r),some (.ref d),some (.ref g),v4]/\Same H H'/\H' r=some (.ins CR dxr (LZ a p))/\DeskAt CD CT H' d t/\Off CD CT g H' d/\H' g=some (.lst (G0 acc)) /\
   PyFlat.calls PyWrdirs.shape fu (DM (ns.drop p))=some cs'/\JT Dr.PLAIN cs=acc++JT t cs'/\acc.length+2001*cs'.length<=2001*400/\k=cs'.length),⟨_,0,Dr.PLAIN,cs,[],ns.length,_,rfl,sH,A6 h2r (A1 h2r hg),hD2.same (Same.set (Same.refl _) hg),hO2,A2,hcs,rfl,?_,rfl⟩,?_⟩
  .show 0+2001*cs.length<=_
   lia
  rintro k σ H3 ⟨p,t,cs',acc,fu,v4,rfl,s3,h3r,hD3,hO3,h3g,hcs',hE,hlen,rfl⟩
  obtain ⟨dxd3,tx3,h3d,hT3,_⟩:=hD3.ex
  have hS3:=SqL.via hS s3
  have hok:=hT3.ok
  have hgr:g≠r:=AW h3g h3r nofun
  have hgd:g≠d:=AW h3g h3d nofun
  refine ⟨_,rfl,_,_,_,rfl,h3r,rfl,_,_,_,_,_,rfl,h3r,(SqL.via hS3 (Same.refl _)),_,rfl,?_⟩
  walk_at "?d0"
  .refine Tn ?_
   have d0:p<ns.length:=by lia
   obtain ⟨c,hc⟩:∃ c,ns[p]?=some c:=⟨_,ZA d0⟩
   have hdp:ns.drop p=c::ns.drop (p+1):=AZ hc
   rw [hdp] at hcs'
   obtain ⟨f',n,kk,xs,t',cs2,g1,g2,g3,g4,g5⟩:=JC hcs'
   have hsh:CK c=some (((ns.drop (p+1)).take n).length,xs.length):=by rw [List.length_take,Nat.min_eq_left g2,Fu _ _ _ _ g3];exact g1
   have hsl:=PH hok hsh
   have hstep:WrdirsNeutral.step t (DM (c::(ns.drop (p+1)).take n)::xs.map DM)=Dz t c ((ns.drop (p+1)).take n) xs:=rfl
   have hplay:=Pb t (DM (c::(ns.drop (p+1)).take n)::xs.map DM) cs2
   rw [hstep] at hplay
   rw [g5,hplay] at hE
   subst g5
   rw [List.length_cons] at hlen
   refine ⟨_,rfl,_,rfl,_,_,_,_,_,_,_,_,_,_,_,_,_,rfl,(DeskAt.same hD3 (Same.refl _)),h3r,(SqL.via hS3 (Same.refl _)),hl,hdp,g1,g2,g3,fun H4 rr p' k4 hrr hD4 h4 h4r hp' hof=>⟨_,rfl,(Ah (k4 _ _ h3g hgd hgr)),_,rfl,_,_,rfl,(Bn h4),_,_,_,rfl,rfl,(k4 _ _ h3g hgd hgr),by
    rw [Ls,hsz]
    lia,?_⟩⟩
   refine ⟨_,rfl,(Ah A2),_,rfl,_,_,_,_,rfl,rfl,A2,(A6 h4 (A1 h3g hrr).symm),by
    rw [List.length_append,Ls,Ls,hsz]
    show acc.length+1+_<=_
    lia,?_⟩
   have hgr':g≠rr:=A1 h3g hrr
   have h4g:H4 g=some (.lst (G0 acc)):=k4 _ _ h3g hgd hgr
   have hO4:=hof _ _ h3g hO3
   generalize hA:Dz t c ((ns.drop (p+1)).take n) xs=A at *
   generalize hY:(HO.lst (G0 acc++[V.int ↑(G0 A.2).length]++G0 A.2))=Y
   have kg:Keep g H4 (upd (upd H4 g (HO.lst (G0 acc++[V.int ↑(G0 A.2).length]))) g Y):=fun b o hb hn=>by
    rw [AQ hn,AQ hn]
    exact hb
   obtain ⟨dx4,tx4,g6,g7,g8⟩:=hD4.ex
   refine ⟨cs2.length,by simp,p',A.1,cs2,acc++((A.2.length:Int)::A.2),f',_,rfl,?_,?_,hD4.keepG hO4 h4g kg,hO4.keepG h4g kg,?_,by rw [hp'];exact g4,?_,?_,rfl⟩
   .intro b o hb
    have hbg:b≠g:=A1 hb hgN
    rw [AQ hbg,AQ hbg]
    exact k4 _ _ (s3 _ _ hb) (A1 hb hdN) (A1 hb nr)
   .rw [AQ hgr.symm,AQ hgr.symm]
    exact h4r
   .rw [A2,<-hY]
    unfold G0
    rw [ZE,List.map_append,List.append_assoc]
    rfl
   .rw [hE,List.append_assoc]
   .rw [List.length_append,List.length_cons]
    lia
  .have hnil:ns.drop p=[]:=List.drop_eq_nil_of_le (by lia)
   rw [hnil] at hcs'
   have:=PD hcs'
   subst this
   refine ⟨_,rfl,?_⟩
   refine q H3 g ?_
   rw [h3g,hE]
   show _=some (HO.lst (G0 (acc++[])))
   rw [List.append_nil]
end
structure US (K:PySem.W.Frag) (mg:Str->Option Value) (CF CN CS CT CP CD CR:Addr):Prop where
 T:BX mg
 c_TabC:O1 K CT
 c_ParC:Lf K CP
 c_SeqC:N9 K CS
 c_DeskC:EE K CD
 c_RdC:RK K CR
 c_FrameC:FA K CF
 c_NestC:Fd K CN
 d_is_strong:Dfn K mg "is_strong" FZ ["kind"]
 d_begins_embedding:Dfn K mg "begins_embedding" CY ["kind"]
 d_begins_isolate:Dfn K mg "begins_isolate" Cu ["kind"]
 d_bounds_isolate:Dfn K mg "bounds_isolate" Cw ["kind"]
 d_is_left_out:Dfn K mg "is_left_out" EL ["kind"]
 d_is_neutral:Dfn K mg "is_neutral" F8 ["kind"]
 d_side_of:Dfn K mg "side_of" He ["kind"]
 d_side_of_level:Dfn K mg "side_of_level" DQ ["level"]
 d_partners_of:Dfn K mg "partners_of" DB ["kinds"]
 d_base_between:Dfn K mg "base_between" Dt ["kinds","partners","start","end"]
 d_base_inside:Dfn K mg "base_inside" EX ["kinds","partners","begin"]
 d_Frame:Dmk K mg CF "Frame" "Frame.__init__" F7 ["self","level","forced","isolate"]
 d_level_above:Dfn K mg "level_above" ER ["level","side"]
 d_Nesting:Dmk K mg CN "Nesting" "Nesting.__init__" Dg ["self","base"]
 d_top:Dme K CN "top" "Nesting.top" EW ["self"]
 d_has_room:Dme K CN "has_room" "Nesting.has_room" CV ["self","level"]
 d_begin_embedding:Dme K CN "begin_embedding" "Nesting.begin_embedding" BM ["self","side","forced"]
 d_begin_isolate:Dme K CN "begin_isolate" "Nesting.begin_isolate" Bi ["self","side"]
 d_end_embedding:Dme K CN "end_embedding" "Nesting.end_embedding" Bg ["self"]
 d_end_isolate:Dme K CN "end_isolate" "Nesting.end_isolate" Br ["self"]
 d_side_of_begin:Dfn K mg "side_of_begin" DR ["kinds","partners","place"]
 d_forced_by:Dfn K mg "forced_by" Fa ["kind"]
 d_settle_begins:Dfn K mg "settle_begins" DV ["kinds","partners","base"]
 d_runs_of:Dfn K mg "runs_of" Ho ["kinds","levels"]
 d_goes_on:Dfn K mg "goes_on" Ht ["kinds","partners","run"]
 d_continues_another:Dfn K mg "continues_another" C9 ["kinds","partners","run"]
 d_level_before:Dfn K mg "level_before" Dx ["runs","levels","number","base"]
 d_level_behind:Dfn K mg "level_behind" E4 ["runs","levels","number","base"]
 d_Sequence:Dmk K mg CS "Sequence" "Sequence.__init__" DS ["self","level","places","before","behind"]
 d_sequences_of:Dfn K mg "sequences_of" E5 ["kinds","partners","levels","base"]
 d_topmost_of:Dfn K mg "topmost_of" FD ["waiting","brackets","number"]
 d_pairs_of:Dfn K mg "pairs_of" GJ ["kinds","brackets"]
 d_side_before:Dfn K mg "side_before" EM ["kinds","place","before"]
 d_side_of_pair:Dfn K mg "side_of_pair" Cj ["kinds","pair","level","before"]
 d_change_bracket:Dfn K mg "change_bracket" Cy ["kinds","first_kinds","place","side"]
 d_settle_brackets:Dfn K mg "settle_brackets" Cn ["kinds","first_kinds","brackets","level","before"]
 d_is_character:Dfn K mg "is_character" Dm ["number"]
 d_rows_of:Dfn K mg "rows_of" Fz ["numbers","width"]
 d_fault_in_classes:Dfn K mg "fault_in_classes" CQ ["numbers"]
 d_fault_in_pairs:Dfn K mg "fault_in_pairs" D6 ["numbers"]
 d_fault_in_mirrors:Dfn K mg "fault_in_mirrors" CW ["numbers"]
 d_Tables:Dmk K mg CT "Tables" "Tables.__init__" EJ ["self","classes","pairs","mirrors"]
 d_bracket_of:Dme K CT "bracket_of" "Tables.bracket_of" C7 ["self","character"]
 d_shown_for:Dme K CT "shown_for" "Tables.shown_for" CI ["self","character"]
 d_kind_of:Dme K CT "kind_of" "Tables.kind_of" D3 ["self","character"]
 d_refusal_of_tables:Dfn K mg "refusal_of_tables" C2 ["classes","pairs","mirrors"]
 d_settle_marks:Dfn K mg "settle_marks" Dl ["kinds","before"]
 d_change_digits:Dfn K mg "change_digits" DN ["kinds","before","strong","changed"]
 d_change_all:Dfn K mg "change_all" F2 ["kinds","olds","new"]
 d_join_numbers:Dfn K mg "join_numbers" Dq ["kinds"]
 d_take_terminators:Dfn K mg "take_terminators" CM ["kinds"]
 d_settle_numbers:Dfn K mg "settle_numbers" D4 ["kinds","before"]
 d_end_of_row:Dfn K mg "end_of_row" Eu ["kinds","start"]
 d_settle_neutrals:Dfn K mg "settle_neutrals" Cl ["kinds","level","before","behind"]
 d_kinds_of:Dfn K mg "kinds_of" Dj ["tables","text"]
 d_base_of:Dfn K mg "base_of" Hj ["tables","text"]
 d_raised:Dfn K mg "raised" Jh ["level","kind"]
 d_Paragraph:Dmk K mg CP "Paragraph" "Paragraph.__init__" BH ["self","tables","text","base"]
 d_settled_in:Dme K CP "settled_in" "Paragraph.settled_in" Am ["self","sequence"]
 d_final_levels:Dme K CP "final_levels" "Paragraph.final_levels" B2 ["self"]
 d_gives_way:Dfn K mg "gives_way" FW ["kind"]
 d_put_to_base:Dfn K mg "put_to_base" EV ["kinds","levels","base"]
 d_levels_in_line:Dfn K mg "levels_in_line" Cr ["paragraph","first","many"]
 d_turned_from:Dfn K mg "turned_from" EI ["level","order","levels"]
 d_order_seen:Dfn K mg "order_seen" Ey ["levels"]
 d_order_read:Dfn K mg "order_read" F0 ["levels","row"]
 d_is_text:Dfn K mg "is_text" Fv ["numbers"]
 d_is_told_text:Dfn K mg "is_told_text" Dk ["told","text"]
 d_is_line:Dfn K mg "is_line" Hg ["told","first","many","text"]
 d_Desk:Dmk K mg CD "Desk" "Desk.__init__" FT ["self"]
 d_keep_tables:Dme K CD "keep_tables" "Desk.keep_tables" CU ["self","classes","pairs","mirrors"]
 d_look_up:Dme K CD "look_up" "Desk.look_up" E6 ["self","character"]
 d_tell_base:Dme K CD "tell_base" "Desk.tell_base" D7 ["self","text"]
 d_paragraph_of:Dme K CD "paragraph_of" "Desk.paragraph_of" C3 ["self","told","text"]
 d_tell_levels:Dme K CD "tell_levels" "Desk.tell_levels" CH ["self","told","text"]
 d_tell_sequences:Dme K CD "tell_sequences" "Desk.tell_sequences" Bp ["self","told","text"]
 d_put_in_reading:Dme K CD "put_in_reading" "Desk.put_in_reading" BJ ["self","levels","row"]
 d_show_line:Dme K CD "show_line" "Desk.show_line" D0 ["self","told","first","many","text"]
 d_find_beside:Dme K CD "find_beside" "Desk.find_beside" CJ ["self","told","first","many","place","right","text"]
 d_Reader:Dmk K mg CR "Reader" "Reader.__init__" EQ ["self","calls"]
 d_is_done:Dme K CR "is_done" "Reader.is_done" Cz ["self"]
 d_take_number:Dme K CR "take_number" "Reader.take_number" Bx ["self"]
 d_take_row:Dme K CR "take_row" "Reader.take_row" Ce ["self"]
 d_answer_of:Dfn K mg "answer_of" FY ["desk","call","numbers","rows"]
 d_answer_next:Dfn K mg "answer_next" CA ["desk","reader"]
section
variable {P:Program} {w:World} {K:PySem.W.Frag} {mg:Str->Option Value} {base:Heap} {CF CN CS CT CP CD CR:Addr}
theorem SU (A:US K mg CF CN CS CT CP CD CR) {wa:Addr} (hWid:Dy mg "WIDTHS" (.ref wa)) (hWs:∀ H,SqT K H wa [NV 3,NV 3,NV 2]) {sa:Addr} {shp:List (C5×V)} (hShp:Dy mg "SHAPES" (.ref sa)) (hKD:KD P w K sa shp)
  (hSh:∀ c n k,CK c=some (n,k)->∃ t,Bl shp (.inl (c:Int))=some (.ref t)/\∀ H,SqT K H t [NV n,NV k]) {fa:Addr} {fd:FuncData} (D:Fun K "answers" "answers" C1 fa fd):FL P w K mg base CX0 12 fa fd ["calls"] (spAns K):=by
 have C_is_strong:=Le (P:=P) (w:=w) (mg:=mg) (base:=base) A.d_is_strong A.T
 have C_begins_embedding:=G6 (P:=P) (w:=w) (mg:=mg) (base:=base) A.d_begins_embedding A.T
 have C_begins_isolate:=HX (P:=P) (w:=w) (mg:=mg) (base:=base) A.d_begins_isolate A.T
 have C_bounds_isolate:=HN A.d_bounds_isolate A.T C_begins_isolate
 have C_is_left_out:=Jt A.d_is_left_out A.T C_begins_embedding
 have C_is_neutral:=KF A.d_is_neutral A.T C_bounds_isolate
 have C_side_of:=Nr (P:=P) (w:=w) (mg:=mg) (base:=base) A.d_side_of A.T
 have C_side_of_level:=Hw (P:=P) (w:=w) (mg:=mg) (base:=base) A.d_side_of_level A.T
 have C_partners_of:=Jw A.d_partners_of A.T C_begins_isolate
 have C_base_between:=IZ A.d_base_between A.T C_begins_isolate
 have C_base_inside:=Jm A.d_base_inside A.T C_base_between
 have C_Frame:=Qj (P:=P) (w:=w) (mg:=mg) (base:=base) A.d_Frame A.c_FrameC
 have C_level_above:=Js (P:=P) (w:=w) (mg:=mg) (base:=base) A.d_level_above A.T
 have C_Nesting:=Nj A.d_Nesting A.T A.c_NestC C_Frame
 have M_Nesting_top:=Sz (P:=P) (w:=w) (mg:=mg) (base:=base) (CF:=CF) A.d_top A.T A.c_NestC
 have M_Nesting_has_room:=MF (P:=P) (w:=w) (mg:=mg) (base:=base) (CF:=CF) A.d_has_room A.T A.c_NestC
 have M_Nesting_begin_embedding:=GL A.d_begin_embedding A.T A.c_NestC A.c_FrameC C_level_above C_Frame M_Nesting_top M_Nesting_has_room
 have M_Nesting_begin_isolate:=Hy A.d_begin_isolate A.T A.c_NestC A.c_FrameC C_level_above C_Frame M_Nesting_top M_Nesting_has_room
 have M_Nesting_end_embedding:=Hl A.d_end_embedding A.T A.c_NestC A.c_FrameC M_Nesting_top
 have M_Nesting_end_isolate:=K2 A.d_end_isolate A.T A.c_NestC A.c_FrameC M_Nesting_top
 have C_side_of_begin:=IA A.d_side_of_begin A.T C_base_inside
 have C_forced_by:=LB (P:=P) (w:=w) (mg:=mg) (base:=base) A.d_forced_by A.T
 have C_settle_begins:=Hs A.d_settle_begins A.T A.c_NestC A.c_FrameC C_Nesting M_Nesting_end_isolate M_Nesting_end_embedding M_Nesting_top M_Nesting_begin_embedding M_Nesting_begin_isolate C_begins_embedding C_begins_isolate C_side_of_begin C_forced_by
 have C_runs_of:=Nm A.d_runs_of A.T C_is_left_out
 have C_goes_on:=NR A.d_goes_on A.T C_begins_isolate
 have C_continues_another:=Fh (P:=P) (w:=w) (mg:=mg) (base:=base) A.d_continues_another A.T
 have C_level_before:=Ij (P:=P) (w:=w) (mg:=mg) (base:=base) A.d_level_before A.T
 have C_level_behind:=Ik (P:=P) (w:=w) (mg:=mg) (base:=base) A.d_level_behind A.T
 have C_Sequence:=MO (P:=P) (w:=w) (mg:=mg) (base:=base) A.d_Sequence A.c_SeqC
 have C_sequences_of:=IX A.d_sequences_of A.T A.c_SeqC C_runs_of C_goes_on C_continues_another C_level_before C_level_behind C_begins_isolate C_side_of_level C_Sequence
 have C_topmost_of:=K5 (P:=P) (w:=w) (mg:=mg) (base:=base) A.d_topmost_of A.T
 have C_pairs_of:=ML A.d_pairs_of A.T C_topmost_of
 have C_side_before:=Je A.d_side_before A.T C_side_of
 have C_side_of_pair:=Io A.d_side_of_pair A.T C_side_of C_side_of_level C_side_before
 have C_change_bracket:=Gr (P:=P) (w:=w) (mg:=mg) (base:=base) A.d_change_bracket A.T
 have C_settle_brackets:=GP A.d_settle_brackets A.T C_pairs_of C_side_of_pair C_change_bracket
 have C_is_character:=Ic (P:=P) (w:=w) (mg:=mg) (base:=base) A.d_is_character A.T
 have C_rows_of:=Nk (P:=P) (w:=w) (mg:=mg) (base:=base) A.d_rows_of A.T
 have C_fault_in_classes:=G1 A.d_fault_in_classes A.T C_is_character
 have C_fault_in_pairs:=HR A.d_fault_in_pairs A.T C_is_character
 have C_fault_in_mirrors:=G9 A.d_fault_in_mirrors A.T C_is_character
 have C_Tables:=PK A.d_Tables A.T A.c_TabC C_rows_of
 have M_Tables_bracket_of:=K9 (P:=P) (w:=w) (mg:=mg) (base:=base) A.d_bracket_of A.T A.c_TabC
 have M_Tables_shown_for:=LI (P:=P) (w:=w) (mg:=mg) (base:=base) A.d_shown_for A.T A.c_TabC
 have M_Tables_kind_of:=Np (P:=P) (w:=w) (mg:=mg) (base:=base) A.d_kind_of A.T A.c_TabC
 have C_refusal_of_tables:=Fg A.d_refusal_of_tables A.T hWid hWs C_fault_in_classes C_fault_in_pairs C_fault_in_mirrors
 have C_settle_marks:=Ip A.d_settle_marks A.T C_bounds_isolate
 have C_change_digits:=HZ A.d_change_digits A.T C_is_strong
 have C_change_all:=K6 (P:=P) (w:=w) (mg:=mg) (base:=base) A.d_change_all A.T
 have C_join_numbers:=IY (P:=P) (w:=w) (mg:=mg) (base:=base) A.d_join_numbers A.T
 have C_take_terminators:=G3 (P:=P) (w:=w) (mg:=mg) (base:=base) A.d_take_terminators A.T
 have C_settle_numbers:=Gx A.d_settle_numbers A.T C_settle_marks C_change_digits C_change_all C_join_numbers C_take_terminators
 have C_end_of_row:=KC A.d_end_of_row A.T C_is_neutral
 have C_settle_neutrals:=GR A.d_settle_neutrals A.T C_end_of_row C_side_of C_side_of_level
 have C_kinds_of:=NH A.d_kinds_of A.T M_Tables_kind_of
 have C_base_of:=NW A.d_base_of A.T C_kinds_of C_partners_of C_base_between
 have C_raised:=PV (P:=P) (w:=w) (mg:=mg) (base:=base) A.d_raised A.T
 have C_Paragraph:=LW A.d_Paragraph A.T A.c_ParC C_kinds_of M_Tables_bracket_of C_partners_of C_settle_begins C_sequences_of
 have M_Paragraph_settled_in:=K7 A.d_settled_in A.T A.c_ParC A.c_SeqC C_settle_numbers C_settle_brackets C_settle_neutrals
 have M_Paragraph_final_levels:=Ia A.d_final_levels A.T A.c_ParC A.c_SeqC C_raised C_is_left_out M_Paragraph_settled_in
 have C_gives_way:=LR A.d_gives_way A.T C_bounds_isolate C_is_left_out
 have C_put_to_base:=JS A.d_put_to_base A.T C_gives_way
 have C_levels_in_line:=Ge A.d_levels_in_line A.T A.c_ParC C_put_to_base M_Paragraph_final_levels
 have C_turned_from:=JW (P:=P) (w:=w) (mg:=mg) (base:=base) A.d_turned_from A.T
 have C_order_seen:=KE A.d_order_seen A.T C_turned_from
 have C_order_read:=KB A.d_order_read A.T C_order_seen
 have C_is_text:=Ng A.d_is_text A.T C_is_character
 have C_is_told_text:=IV A.d_is_told_text A.T C_is_text
 have C_is_line:=Nc A.d_is_line A.T C_is_told_text
 have C_Desk:=Rc A.d_Desk A.T A.c_DeskC C_Tables
 have M_Desk_keep_tables:=J6 A.d_keep_tables A.T A.c_DeskC C_Tables C_refusal_of_tables
 have M_Desk_look_up:=O9 A.d_look_up A.T A.c_DeskC C_is_character M_Tables_kind_of M_Tables_shown_for M_Tables_bracket_of
 have M_Desk_tell_base:=Ld A.d_tell_base A.T A.c_DeskC C_is_text C_base_of
 have M_Desk_paragraph_of:=IW A.d_paragraph_of A.T A.c_DeskC C_base_of C_Paragraph
 have M_Desk_tell_levels:=Ja A.d_tell_levels A.T A.c_DeskC A.c_ParC C_is_told_text M_Desk_paragraph_of M_Paragraph_final_levels
 have M_Desk_tell_sequences:=HS A.d_tell_sequences A.T A.c_DeskC A.c_ParC A.c_SeqC C_is_told_text M_Desk_paragraph_of
 have M_Desk_put_in_reading:=Gp (CT:=CT) A.d_put_in_reading A.T A.c_DeskC C_order_read
 have M_Desk_show_line:=Ln A.d_show_line A.T A.c_DeskC C_is_line M_Desk_paragraph_of C_levels_in_line C_order_seen M_Tables_shown_for
 have M_Desk_find_beside:=Jo A.d_find_beside A.T A.c_DeskC C_is_line M_Desk_paragraph_of C_levels_in_line C_order_seen
 have C_Reader:=P6 (P:=P) (w:=w) (mg:=mg) (base:=base) A.d_Reader A.T A.c_RdC
 have M_Reader_is_done:=O6 (P:=P) (w:=w) (mg:=mg) (base:=base) A.d_is_done A.T A.c_RdC
 have M_Reader_take_number:=J9 (P:=P) (w:=w) (mg:=mg) (base:=base) A.d_take_number A.T A.c_RdC
 have M_Reader_take_row:=MD A.d_take_row A.T A.c_RdC M_Reader_take_number
 have C_answer_of:=LO A.d_answer_of A.T A.c_DeskC M_Desk_keep_tables M_Desk_look_up M_Desk_tell_base M_Desk_tell_levels M_Desk_tell_sequences M_Desk_show_line M_Desk_find_beside M_Desk_put_in_reading
 have C_answer_next:=JI A.d_answer_next A.T A.c_RdC hShp hKD hSh M_Reader_take_number M_Reader_take_row C_answer_of
 exact NN D A.T A.c_RdC C_Reader C_Desk M_Reader_is_done C_answer_next
end
section
variable {K:PySem.W.Frag} {mg:Str->Option Value} {h:Heap} {x m qual:Str} {st:Stmt} {ps:List Str} {f C:Addr} {oc kV doc pm cdv ct:Value} {od an:Option Addr} {osl:Array (Option Value)}
abbrev K0 (x qual:Str) (st:Stmt) (ps:List Str):Prop:=∀ (kV doc pm:Value) (an:Option Addr) (cdv ct:Value) (us:List Value),us.length=ps.length->bindArgs (PySem.W.fnOf x qual (DE st) (Bt st) (A8 st) .none kV doc pm an cdv ct) ⟨us,[]⟩=pure (ps.zip us)
theorem bl0 {P:List Value->Prop} (h:P []):∀ us:List Value,us.length=0->P us
 | [],_=>h
theorem blS {P:List Value->Prop} {n:Nat} (h:∀ a us,us.length=n->P (a::us)):∀ us:List Value,us.length=n+1->P us
 | a::us,e=>h a us (Nat.succ.inj e)
theorem mkDfn (X:K.In h) (G:h.Ns mainGlobals mg) (a:PySem.W.nsIn K mainGlobals x=some (some (.ref f)):=by k_is) (l:K.lookup f=some ⟨oc,od,.func (PySem.W.fnOf x x (DE st) (Bt st) (A8 st) .none kV doc pm an cdv ct),osl⟩:=by k_is)
  (c:PySem.W.codeIn K cdv x=true:=by k_is) (k:PySem.W.keepIn K (.ref f)=true:=by k_is) (hb:K0 x x st ps:=by first | exact fun _ _ _ _ _ _=>Wd.blS fun _=>Wd.bl0 rfl | exact fun _ _ _ _ _ _=>Wd.blS fun _=>Wd.blS fun _=>Wd.bl0 rfl | exact fun _ _ _ _ _ _=>Wd.blS fun _=>Wd.blS fun _=>Wd.blS fun _=>Wd.bl0 rfl | exact fun _ _ _ _ _ _=>Wd.blS fun _=>Wd.blS fun _=>Wd.blS fun _=>Wd.blS fun _=>Wd.bl0 rfl | exact fun _ _ _ _ _ _=>Wd.blS fun _=>Wd.blS fun _=>Wd.blS fun _=>Wd.blS fun _=>Wd.blS fun _=>Wd.bl0 rfl | exact fun _ _ _ _ _ _=>Wd.blS fun _=>Wd.blS fun _=>Wd.blS fun _=>Wd.blS fun _=>Wd.blS fun _=>Wd.blS fun _=>Wd.bl0 rfl | exact fun _ _ _ _ _ _=>Wd.blS fun _=>Wd.blS fun _=>Wd.blS fun _=>Wd.blS fun _=>Wd.blS fun _=>Wd.blS fun _=>Wd.blS fun _=>Wd.bl0 rfl):Dfn K mg x st ps:=⟨f,_,GZ l c k,PySem.W.mg_of X G a,(GZ l c k).binds hb⟩
theorem mkDme (cl:Cls K C) (a:PySem.W.findIn K (.ref C) m=some (some (.ref f)):=by k_is) (i:PySem.W.isFn K (.ref f)=true:=by k_is) (l:K.lookup f=some ⟨oc,od,.func (PySem.W.fnOf m qual (DE st) (Bt st) (A8 st) .none kV doc pm an cdv ct),osl⟩:=by k_is)
  (c:PySem.W.codeIn K cdv qual=true:=by k_is) (k:PySem.W.keepIn K (.ref f)=true:=by k_is) (hb:K0 m qual st ps:=by first | exact fun _ _ _ _ _ _=>Wd.blS fun _=>Wd.bl0 rfl | exact fun _ _ _ _ _ _=>Wd.blS fun _=>Wd.blS fun _=>Wd.bl0 rfl | exact fun _ _ _ _ _ _=>Wd.blS fun _=>Wd.blS fun _=>Wd.blS fun _=>Wd.bl0 rfl | exact fun _ _ _ _ _ _=>Wd.blS fun _=>Wd.blS fun _=>Wd.blS fun _=>Wd.blS fun _=>Wd.bl0 rfl | exact fun _ _ _ _ _ _=>Wd.blS fun _=>Wd.blS fun _=>Wd.blS fun _=>Wd.blS fun _=>Wd.blS fun _=>Wd.bl0 rfl | exact fun _ _ _ _ _ _=>Wd.blS fun _=>Wd.blS fun _=>Wd.blS fun _=>Wd.blS fun _=>Wd.blS fun _=>Wd.blS fun _=>Wd.bl0 rfl | exact fun _ _ _ _ _ _=>Wd.blS fun _=>Wd.blS fun _=>Wd.blS fun _=>Wd.blS fun _=>Wd.blS fun _=>Wd.blS fun _=>Wd.blS fun _=>Wd.bl0 rfl):Dme K C m qual st ps:=⟨⟨f,_,GZ l c k,⟨a,i,k⟩,(GZ l c k).binds hb⟩,cl⟩
theorem mkDmk (X:K.In h) (G:h.Ns mainGlobals mg) (cl:Cls K C) (g:PySem.W.nsIn K mainGlobals x=some (some (.ref C)):=by k_is) (mk:PySem.W.makesIn K C=true:=by k_is) (kc:PySem.W.keepIn K (.ref C)=true:=by k_is)
  (a:PySem.W.findIn K (.ref C) "__init__" = some (some (.ref f)):=by k_is) (i:PySem.W.isFn K (.ref f)=true:=by k_is) (l:K.lookup f=some ⟨oc,od,.func (PySem.W.fnOf "__init__" qual (DE st) (Bt st) (A8 st) .none kV doc pm an cdv ct),osl⟩:=by k_is)
  (c:PySem.W.codeIn K cdv qual=true:=by k_is) (k:PySem.W.keepIn K (.ref f)=true:=by k_is) (hb:K0 "__init__" qual st ps:=by first | exact fun _ _ _ _ _ _=>Wd.blS fun _=>Wd.bl0 rfl | exact fun _ _ _ _ _ _=>Wd.blS fun _=>Wd.blS fun _=>Wd.bl0 rfl | exact fun _ _ _ _ _ _=>Wd.blS fun _=>Wd.blS fun _=>Wd.blS fun _=>Wd.bl0 rfl | exact fun _ _ _ _ _ _=>Wd.blS fun _=>Wd.blS fun _=>Wd.blS fun _=>Wd.blS fun _=>Wd.bl0 rfl | exact fun _ _ _ _ _ _=>Wd.blS fun _=>Wd.blS fun _=>Wd.blS fun _=>Wd.blS fun _=>Wd.blS fun _=>Wd.bl0 rfl | exact fun _ _ _ _ _ _=>Wd.blS fun _=>Wd.blS fun _=>Wd.blS fun _=>Wd.blS fun _=>Wd.blS fun _=>Wd.blS fun _=>Wd.bl0 rfl | exact fun _ _ _ _ _ _=>Wd.blS fun _=>Wd.blS fun _=>Wd.blS fun _=>Wd.blS fun _=>Wd.blS fun _=>Wd.blS fun _=>Wd.blS fun _=>Wd.bl0 rfl):Dmk K mg C x qual st ps:=⟨⟨f,_,GZ l c k,⟨mk,a,i,kc⟩,(GZ l c k).binds hb⟩,cl,PySem.W.mg_of X G g⟩
theorem mkCls (a:PySem.W.plainGet K C Str.empty=true:=by k_is) (b:PySem.W.hasDictIn K C=true:=by k_is) (c:PySem.W.plainOver K C=true:=by k_is) (d:PySem.W.findIn K (.ref C) "__setattr__" = some (some (.builtin "object.__setattr__")):=by k_is):Cls K C:=⟨a,b,c,d⟩
theorem noA {x:Str} (e:PySem.W.findIn K (.ref C) x=some none:=by k_is):NoAttr K C x:=e
theorem noG (X:K.In h) (G:h.Ns mainGlobals mg) (e:PySem.W.nsIn K mainGlobals x=some none:=by k_is):mg x=none:=PySem.W.mg_none_of X G e
theorem glI {n:Nat} {t:Tok} (X:K.In h) (G:h.Ns mainGlobals mg) (a:PySem.W.nsIn K mainGlobals x=some (some (.int (n:Int) t)):=by k_is):Dy mg x (NV n):=⟨_,PySem.W.mg_of X G a,⟨t,rfl⟩⟩
theorem VV {a:Addr} (X:K.In h) (G:h.Ns mainGlobals mg) (e:PySem.W.nsIn K mainGlobals x=some (some (.ref a))):Dy mg x (.ref a):=⟨_,PySem.W.mg_of X G e,rfl⟩
theorem NF {a:Addr} {i j:Nat} {t u:Tok} {n:Nat} {d:Option Addr} {sl:Array (Option Value)} (l:K.lookup a=some ⟨.type "tuple",d,.seq #[.int (i:Int) t,.int (j:Int) u] n,sl⟩):∀ H,SqT K H a [NV i,NV j]:=fun H =>
 .inr ⟨_,_,n,l,rfl,rfl,by show 2<=sizeLine;decide,.cons ⟨t,rfl⟩ (.cons ⟨u,rfl⟩ .nil)⟩
theorem Uy {a:Addr} {i j k:Nat} {t u v:Tok} {n:Nat} {d:Option Addr} {sl:Array (Option Value)} (l:K.lookup a=some ⟨.type "tuple",d,.seq #[.int (i:Int) t,.int (j:Int) u,.int (k:Int) v] n,sl⟩):∀ H,SqT K H a [NV i,NV j,NV k]:=fun H =>
 .inr ⟨_,_,n,l,rfl,rfl,by show 3<=sizeLine;decide,.cons ⟨t,rfl⟩ (.cons ⟨u,rfl⟩ (.cons ⟨v,rfl⟩ .nil))⟩
noncomputable def SD (a1 a2 a3 a4 a5 a6 a7 a8:Addr):List (C5×V):=[(.inl 1,.ref a1),(.inl 2,.ref a2),(.inl 3,.ref a3),(.inl 4,.ref a4),(.inl 5,.ref a5),(.inl 6,.ref a6),(.inl 7,.ref a7),(.inl 8,.ref a8)]
theorem U8 {P:Program} {w:World} {sa a1 a2 a3 a4 a5 a6 a7 a8:Addr} {t1 t2 t3 t4 t5 t6 t7 t8:Tok} {h1 h2 h3 h4 h5 h6 h7 h8:Int} {ep:Nat} (ne:(sa==sysModules)=false) (l:K.lookup sa=some ⟨.type "dict",none,.dict #[⟨h1,.int 1 t1,.ref a1⟩,⟨h2,.int 2 t2,.ref a2⟩,⟨h3,.int 3 t3,.ref a3⟩,⟨h4,.int 4 t4,.ref a4⟩,⟨h5,.int 5 t5,.ref a5⟩,⟨h6,.int 6 t6,.ref a6⟩,⟨h7,.int 7 t7,.ref a7⟩,⟨h8,.int 8 t8,.ref a8⟩] ep,#[]⟩)
  (e:[h1,h2,h3,h4,h5,h6,h7,h8]=[hashInt 1,hashInt 2,hashInt 3,hashInt 4,hashInt 5,hashInt 6,hashInt 7,hashInt 8]):KD P w K sa (SD a1 a2 a3 a4 a5 a6 a7 a8):=by
 refine ⟨ne,fun h X=>⟨[(Sum.inl 1,Value.ref a1),(Sum.inl 2,Value.ref a2),(Sum.inl 3,Value.ref a3),(Sum.inl 4,Value.ref a4),(Sum.inl 5,Value.ref a5),(Sum.inl 6,Value.ref a6),(Sum.inl 7,Value.ref a7),(Sum.inl 8,Value.ref a8)],?_,_,_,ep,X sa _ l,⟨rfl,rfl,rfl⟩,rfl,?_,?_,?_⟩⟩
 .exact (.cons ⟨rfl,rfl⟩ (.cons ⟨rfl,rfl⟩ (.cons ⟨rfl,rfl⟩ (.cons ⟨rfl,rfl⟩ (.cons ⟨rfl,rfl⟩ (.cons ⟨rfl,rfl⟩ (.cons ⟨rfl,rfl⟩ (.cons ⟨rfl,rfl⟩ .nil))))))))
 .simp only [List.cons.injEq,and_true] at e
  obtain ⟨e1,e2,e3,e4,e5,e6,e7,e8⟩:=e
  intro en hen
  have hen:en∈[(⟨h1,.int 1 t1,.ref a1⟩:DictEntry),(⟨h2,.int 2 t2,.ref a2⟩:DictEntry),(⟨h3,.int 3 t3,.ref a3⟩:DictEntry),(⟨h4,.int 4 t4,.ref a4⟩:DictEntry),(⟨h5,.int 5 t5,.ref a5⟩:DictEntry),(⟨h6,.int 6 t6,.ref a6⟩:DictEntry),(⟨h7,.int 7 t7,.ref a7⟩:DictEntry),(⟨h8,.int 8 t8,.ref a8⟩:DictEntry)]:=by simpa using hen
  simp only [List.mem_cons,List.not_mem_nil,or_false] at hen
  rcases hen with rfl | rfl | rfl | rfl | rfl | rfl | rfl | rfl
  .exact ⟨Sum.inl 1,by rfl,e1⟩
  .exact ⟨Sum.inl 2,by rfl,e2⟩
  .exact ⟨Sum.inl 3,by rfl,e3⟩
  .exact ⟨Sum.inl 4,by rfl,e4⟩
  .exact ⟨Sum.inl 5,by rfl,e5⟩
  .exact ⟨Sum.inl 6,by rfl,e6⟩
  .exact ⟨Sum.inl 7,by rfl,e7⟩
  .exact ⟨Sum.inl 8,by rfl,e8⟩
 .exact (.cons (by rfl) rfl (.cons (by rfl) rfl (.cons (by rfl) rfl (.cons (by rfl) rfl (.cons (by rfl) rfl (.cons (by rfl) rfl (.cons (by rfl) rfl (.cons (by rfl) rfl .nil))))))))
 .show ([Sum.inl 1,Sum.inl 2,Sum.inl 3,Sum.inl 4,Sum.inl 5,Sum.inl 6,Sum.inl 7,Sum.inl 8]:List C5).Nodup
  decide
theorem U6 {a1 a2 a3 a4 a5 a6 a7 a8:Addr} (s1:∀ H,SqT K H a1 [NV 0,NV 3]) (s2:∀ H,SqT K H a2 [NV 1,NV 0]) (s3:∀ H,SqT K H a3 [NV 0,NV 1]) (s4:∀ H,SqT K H a4 [NV 1,NV 1]) (s5:∀ H,SqT K H a5 [NV 1,NV 1]) (s6:∀ H,SqT K H a6 [NV 3,NV 1]) (s7:∀ H,SqT K H a7 [NV 5,NV 1]) (s8:∀ H,SqT K H a8 [NV 0,NV 2]):∀ c n k,CK c=some (n,k)->∃ t,Bl (SD a1 a2 a3 a4 a5 a6 a7 a8) (.inl (c:Int))=some (.ref t)/\∀ H,SqT K H t [NV n,NV k]:=by
 intro c n k h
 obtain ⟨hc1,hc8⟩:=Fb h
 rcases (show c=1\/c=2\/c=3\/c=4\/c=5\/c=6\/c=7\/c=8 by lia) with rfl | rfl | rfl | rfl | rfl | rfl | rfl | rfl
 .have h2:((0,3):Nat×Nat)=(n,k):=ZC h
  cases h2
  exact ⟨a1,by rfl,s1⟩
 .have h2:((1,0):Nat×Nat)=(n,k):=ZC h
  cases h2
  exact ⟨a2,by rfl,s2⟩
 .have h2:((0,1):Nat×Nat)=(n,k):=ZC h
  cases h2
  exact ⟨a3,by rfl,s3⟩
 .have h2:((1,1):Nat×Nat)=(n,k):=ZC h
  cases h2
  exact ⟨a4,by rfl,s4⟩
 .have h2:((1,1):Nat×Nat)=(n,k):=ZC h
  cases h2
  exact ⟨a5,by rfl,s5⟩
 .have h2:((3,1):Nat×Nat)=(n,k):=ZC h
  cases h2
  exact ⟨a6,by rfl,s6⟩
 .have h2:((5,1):Nat×Nat)=(n,k):=ZC h
  cases h2
  exact ⟨a7,by rfl,s7⟩
 .have h2:((0,2):Nat×Nat)=(n,k):=ZC h
  cases h2
  exact ⟨a8,by rfl,s8⟩
theorem fin {P:Program} {w:World} {fa CF CN CS CT CP CD CR wa sa a1 a2 a3 a4 a5 a6 a7 a8:Addr} {t1 t2 t3 t4 t5 t6 t7 t8 u1 u2 u3:Tok} {h1 h2 h3 h4 h5 h6 h7 h8:Int} {ep nw:Nat} {dw:Option Addr} {sw:Array (Option Value)} {i1 j1:Tok} {n1:Nat} {d1:Option Addr} {s1:Array (Option Value)} {i2 j2:Tok} {n2:Nat} {d2:Option Addr} {s2:Array (Option Value)} {i3 j3:Tok} {n3:Nat} {d3:Option Addr} {s3:Array (Option Value)} {i4 j4:Tok} {n4:Nat} {d4:Option Addr} {s4:Array (Option Value)} {i5 j5:Tok} {n5:Nat} {d5:Option Addr} {s5:Array (Option Value)} {i6 j6:Tok} {n6:Nat} {d6:Option Addr} {s6:Array (Option Value)} {i7 j7:Tok} {n7:Nat} {d7:Option Addr} {s7:Array (Option Value)} {i8 j8:Tok} {n8:Nat} {d8:Option Addr} {s8:Array (Option Value)} (X:K.In h) (G:h.Ns mainGlobals mg) (hfa:mg "answers" = some (.ref fa))
  (gF:PySem.W.nsIn K mainGlobals "Frame" = some (some (.ref CF)))
  (gN:PySem.W.nsIn K mainGlobals "Nesting" = some (some (.ref CN)))
  (gS:PySem.W.nsIn K mainGlobals "Sequence" = some (some (.ref CS)))
  (gT:PySem.W.nsIn K mainGlobals "Tables" = some (some (.ref CT)))
  (gP:PySem.W.nsIn K mainGlobals "Paragraph" = some (some (.ref CP)))
  (gD:PySem.W.nsIn K mainGlobals "Desk" = some (some (.ref CD)))
  (gR:PySem.W.nsIn K mainGlobals "Reader" = some (some (.ref CR)))
  (aA:PySem.W.nsIn K mainGlobals "answers" = some (some (.ref f))) (lA:K.lookup f=some ⟨oc,od,.func (PySem.W.fnOf "answers" "answers" (DE C1) (Bt C1) (A8 C1) .none kV doc pm an cdv ct),osl⟩) (cA:PySem.W.codeIn K cdv "answers" = true) (kA:PySem.W.keepIn K (.ref f)=true)
  (wA:PySem.W.nsIn K mainGlobals "WIDTHS" = some (some (.ref wa))) (wL:K.lookup wa=some ⟨.type "tuple",dw,.seq #[.int ((3:Nat):Int) u1,.int ((3:Nat):Int) u2,.int ((2:Nat):Int) u3] nw,sw⟩)
  (sA:PySem.W.nsIn K mainGlobals "SHAPES" = some (some (.ref sa))) (sN:(sa==sysModules)=false) (sL:K.lookup sa=some ⟨.type "dict",none,.dict #[⟨h1,.int 1 t1,.ref a1⟩,⟨h2,.int 2 t2,.ref a2⟩,⟨h3,.int 3 t3,.ref a3⟩,⟨h4,.int 4 t4,.ref a4⟩,⟨h5,.int 5 t5,.ref a5⟩,⟨h6,.int 6 t6,.ref a6⟩,⟨h7,.int 7 t7,.ref a7⟩,⟨h8,.int 8 t8,.ref a8⟩] ep,#[]⟩) (sH:[h1,h2,h3,h4,h5,h6,h7,h8]=[hashInt 1,hashInt 2,hashInt 3,hashInt 4,hashInt 5,hashInt 6,hashInt 7,hashInt 8])
  (p1:K.lookup a1=some ⟨.type "tuple",d1,.seq #[.int ((0:Nat):Int) i1,.int ((3:Nat):Int) j1] n1,s1⟩)
  (p2:K.lookup a2=some ⟨.type "tuple",d2,.seq #[.int ((1:Nat):Int) i2,.int ((0:Nat):Int) j2] n2,s2⟩)
  (p3:K.lookup a3=some ⟨.type "tuple",d3,.seq #[.int ((0:Nat):Int) i3,.int ((1:Nat):Int) j3] n3,s3⟩)
  (p4:K.lookup a4=some ⟨.type "tuple",d4,.seq #[.int ((1:Nat):Int) i4,.int ((1:Nat):Int) j4] n4,s4⟩)
  (p5:K.lookup a5=some ⟨.type "tuple",d5,.seq #[.int ((1:Nat):Int) i5,.int ((1:Nat):Int) j5] n5,s5⟩)
  (p6:K.lookup a6=some ⟨.type "tuple",d6,.seq #[.int ((3:Nat):Int) i6,.int ((1:Nat):Int) j6] n6,s6⟩)
  (p7:K.lookup a7=some ⟨.type "tuple",d7,.seq #[.int ((5:Nat):Int) i7,.int ((1:Nat):Int) j7] n7,s7⟩)
  (p8:K.lookup a8=some ⟨.type "tuple",d8,.seq #[.int ((0:Nat):Int) i8,.int ((2:Nat):Int) j8] n8,s8⟩)
  (cF:FA K CF)
  (cN:Fd K CN)
  (cS:N9 K CS)
  (cT:O1 K CT)
  (cP:Lf K CP)
  (cD:EE K CD)
  (cR:RK K CR)
  (A:FA K CF->Fd K CN->N9 K CS->O1 K CT->Lf K CP->EE K CD->RK K CR->US K mg CF CN CS CT CP CD CR) :
  ∃ fd:FuncData,(∀ (s:Shared) (us:List Value),us.length=(["calls"]:List Str).length->BindsTo s fd ⟨us,[]⟩ ((["calls"]:List Str).zip us))/\∀ base:Heap,K.In base->base.Ns mainGlobals mg->FL P w K mg base CX0 12 fa fd ["calls"] (spAns K):=by
 have e:=hfa.symm.trans (PySem.W.mg_of X G aA)
 cases e
 exact ⟨PySem.W.fnOf "answers" "answers" (DE C1) (Bt C1) (A8 C1) .none kV doc pm an cdv ct,fun s us hu=>match us,hu with | [_],_=>.of_eq rfl,fun base _ _=>SU (A cF cN cS cT cP cD cR) (VV X G wA) (Uy wL) (VV X G sA) (U8 sN sL sH) (U6 (NF p1) (NF p2) (NF p3) (NF p4) (NF p5) (NF p6) (NF p7) (NF p8)) (GZ lA cA kA)⟩
end
theorem R0:∀ {l:List Int},l.all (PySem.W.Codec.inInt 0 4294967295)=true->∃ ns,l=DM ns
 | [],_=>⟨[],rfl⟩
 | z::l,h=>by
  rw [List.all_cons,Bool.and_eq_true] at h
  obtain ⟨ns,e⟩:=R0 h.2
  have q:=(PySem.W.Codec.inInt_iff.mp h.1).1
  exact ⟨z.toNat::ns,by rw [e];show z::DM ns=((z.toNat:Nat):Int)::DM ns;rw [Int.toNat_of_nonneg q]⟩
theorem from_ask {K:PySem.W.Frag} {H:Hp} {a:Addr} {l:List Int} {Q:VK} {E:XK} (hs:SqL K H a (l.map V.int)) (hl:l.length<=30000) (hn:l.all (PySem.W.Codec.inInt 0 4294967295)=true) (hask:PyWrdirs.answers_asked l=true)
  (k:∀ (H':Hp) (p:Addr),H' p=some (.lst ((PyWrdirs.answers l).map V.int))->Q (.ref p) H'):spAns K [.ref a] H Q E:=by
 obtain ⟨ns,rfl⟩:=R0 hn
 obtain ⟨cs,h1,h2⟩:=Mm hask
 rw [Gc] at hl
 refine ⟨a,ns,cs,rfl,by rw [MM];exact hs,by lia,h1,h2,fun H' r hr=>k H' r ?_⟩
 rw [Nb h1]
 exact hr
end Wd
end
namespace PySem.W.Fast
def tw583255501655340454:=0
def tw1344793038869977479:=0
def tw13430768882212050570:=0
def tw2334631017888698119:=0
def tw3046152787164822613:=0
def tw14005403286938324527:=0
def tw10793889036426365997:=0
def tw2687291755968303307:=0
def tw3614523509095950869:=0
def tw2700692395167350239:=0
def tw12716957802533048711:=0
def tw16696517597869903622:=0
def tw16797430913781282204:=0
def tw9635308563415154194:=0
def tw1119985987661755686:=0
def tw8514383958001428354:=0
def tw6537968119045990370:=0
def tw15394284958309230260:=0
def tw13124518457375966297:=0
def tw2786999638436832847:=0
def tw4285148176296174175:=0
def tw2543937037618247724:=0
def tw5926639117747617147:=0
def tw4129651124618650602:=0
def tw2545885853709480715:=0
def tw2536949725297050028:=0
def tw2318737828706193191:=0
def tw212045991691031463:=0
def tw16245366067694856911:=0
def tw7035597293357840881:=0
def tw13353077358481315954:=0
def tw7863175342456484937:=0
def tw11725831638621970839:=0
def tw6012060455302632825:=0
def tw8892686848226702946:=0
def tw14536563728170425988:=0
def tw10828133562861911979:=0
def tw4758671239617832009:=0
def tw2763055108055152452:=0
def tw8719323236449333175:=0
def tw12523550222655864278:=0
def tw11918299225458832082:=0
def tw7898400950089590491:=0
def tw14612919389149233245:=0
def tw11165847012458849641:=0
def tw4656422262377664667:=0
def tw15282023378923475130:=0
def tw16534317547811094172:=0
def tw14518958852972595468:=0
def tw6523384573848820666:=0
def tw13545143098687640175:=0
def tw16369311941044762956:=0
def tw9856682719033610515:=0
def tw17560543157748116298:=0
def tw12489836197575256412:=0
def tw6864849076053938565:=0
def tw4808209254793406348:=0
def tw12966457823209346880:=0
def tw7747951819620391610:=0
def tw18490327569788488:=0
def tw639501033368169339:=0
def tw1997968998144277487:=0
def tw5542275611713256559:=0
def tw1587506227348470003:=0
def tw11348506623047457627:=0
def tw17812239752730419633:=0
def tw5642382815024396533:=0
def tw18206496590612909834:=0
def tw8183510010224047170:=0
def tw983891829064530835:=0
def tw10729758886001314123:=0
def tw13712467518076776155:=0
def tw11158130371631303931:=0
def tw11430482498594515868:=0
def tw5064581650047887612:=0
def tw10384258994370872827:=0
def tw10626561532723153879:=0
def tw11329313416520073825:=0
def tw8191033279137677542:=0
def tw8950434622980498908:=0
def tw16138365480003679062:=0
def tw11705072082073273030:=0
def tw9719785967652638085:=0
def tw9156881504214276571:=0
def tw15033268800783261679:=0
def tw4500794306880973139:=0
def tw18010858893587130540:=0
def tw9787746579844687679:=0
def tw1022177191292564263:=0
def tw8918178602270155725:=0
def tw12190242264771870319:=0
def tw15534203027782761265:=0
def tw10415978149941926701:=0
def tw14999307305941959525:=0
def tw2226520614154273852:=0
def tw2853210242191603138:=0
def tw10853654863348908626:=0
def tw1840216020439404995:=0
def tw390789004670279990:=0
def tw14284703726781670670:=0
def tw17261197430724341201:=0
def tw13424274829062545815:=0
def tw14049538302218628116:=0
def tw14979739772088969222:=0
def tw5567501816550443262:=0
def tw125784756998726994:=0
def tw471536657410963552:=0
def tw8286479507592417997:=0
def tw5671258792394404782:=0
def tw12196715387498173231:=0
def tw7825342250815813178:=0
def tw4507000273204735804:=0
def tw2013362275282407202:=0
def tw10943633017781047412:=0
def tw11109796344570986338:=0
def tw3055993113412530368:=0
def tw32231605901238639:=0
def tw5655133998016330889:=0
def tw15331036533319861067:=0
def tw13604141447859112509:=0
def tw12852358640421478798:=0
def tw11522293974583646692:=0
def tw11077522365816001111:=0
def tw8694849085261389365:=0
def tw12811816505590277861:=0
def tw9516528610766948939:=0
def tw4566386926662150438:=0
def tw14591322288021525763:=0
def tw9292810037773707224:=0
def tw3834937322276871485:=0
def tw2502868171523553371:=0
def tw8946717887477658009:=0
def tw10779312778599276204:=0
def tw2489260377087093762:=0
def tw3107505313121647785:=0
def tw12708596120172983075:=0
def tw3834520056458741885:=0
def tw5534285292641937572:=0
def tw12144740795736460653:=0
def tw6526800484759852156:=0
def tw14737660555890545667:=0
def tw17261778125281507342:=0
def tw7486004960573381172:=0
def tw945455869001057249:=0
def tw13371574982030867538:=0
def tw5982127850049533533:=0
def tw18050517347691032458:=0
def tw17056058150297920792:=0
def tw6814724373598813067:=0
def tw1707473398611975806:=0
def tw9907809585410875701:=0
def tw4499143630191136861:=0
def tw4405163064892804328:=0
def tw16027328545486818659:=0
def tw3074986976939144160:=0
def tw3009300645058106118:=0
def tw10348126965666314478:=0
def tw3173554156567477298:=0
def tw5868099896010504283:=0
def tw7523197039075468110:=0
def tw8119097077511455656:=0
def tw15615879387683734970:=0
def tw6659974418401401761:=0
def tw4769669237542823736:=0
def tw10225370327073103173:=0
def tw2307296875533439784:=0
def tw17843959522644803980:=0
def tw10789741397766126131:=0
def tw13938086264996496102:=0
def tw10170666608806318725:=0
def tw1120778632882845986:=0
def tw6948050049384241025:=0
def tw7813800567515373555:=0
def tw6111816906435530996:=0
def tw3419618721765987834:=0
def tw7216538029215533104:=0
def tw484191838604126892:=0
def tw10021004424061010470:=0
def tw10118645817075084596:=0
def tw16984834960686587152:=0
def tw2872999432827821061:=0
def tw5657202790661540725:=0
def tw8285096993333024215:=0
def tw17081091138795322463:=0
def tw3135420056718551697:=0
def tw5153441300688684898:=0
def tw10314191160085820433:=0
def tw18077947984344152878:=0
def tw8637423243561065159:=0
def tw7214105355811736989:=0
def tw18445591607038739690:=0
def tw9154021209000295271:=0
def tw10680181172909381026:=0
def tw14827040370531252486:=0
def tw13779695242331813807:=0
def tw4672130973677283392:=0
def tw5602491770259577182:=0
def tw11822558493887359219:=0
def tw18365907970556098823:=0
def tw14700903288423313160:=0
def tw18132368420979570898:=0
def tw2931915257985768305:=0
def tw10711194814752200378:=0
def tw11379345667916477424:=0
def tw14675560632588091059:=0
def tw1290291904236313262:=0
def tw10107095189910968370:=0
def tw18254993234520417047:=0
def tw13497178633218818782:=0
def tw10527269593788379682:=0
def tw6278161208881061261:=0
def tw18215808594296266071:=0
def tw10466879639742226695:=0
def tw11802586312222011189:=0
def tw13904284117700155452:=0
def tw11655530456838364574:=0
def tw16815092870134494759:=0
def tw4513498540473777128:=0
def tw6338936684055247861:=0
def tw9978670128456937852:=0
def tw16576847145828712393:=0
def tw10837919540059802681:=0
def tw7092775675846472369:=0
def tw6522990409747036561:=0
def tw3211675510403688050:=0
def tw4593289538764788576:=0
def tw4537422455544150447:=0
def tw17873164855302137952:=0
def tw6421349069251278253:=0
def tw6352170892811841834:=0
def tw4231045644773670648:=0
def tw10107723929404989169:=0
def tw740771006868022867:=0
def tw1933308375317035811:=0
def tw16567050291178277876:=0
def tw1417106736455483399:=0
def tw12357110595333438908:=0
def tw1317780238860983406:=0
def tw12829641527407779511:=0
end PySem.W.Fast
open PySem PySem.W PyProof.Rows
set_option maxRecDepth 100000 in
set_option maxHeartbeats 0 in
theorem PySem.Challenge.cw_writtenways_s01_answers_holds : PySem.Challenge.rw_writtenways_s01_answers.Holds := by
  w_on;k_headS;(case hw=>exact ⟨[.list []],by decide +kernel,by decide +kernel⟩)
  k_fillS
  refine L2.walk_specK (r:=PySem.Challenge.rw_writtenways_s01_answers) (k:=12) (CX:=L2.CX0) (ps:=["calls"]) (sp:=Wd.spAns) (by decide +kernel) rfl rfl ⟨rfl,by decide,by decide⟩ (fun w h Y=>PySem.W.kIn_of Y) ?F ?S (fun _ _ _ _ z=>z)
  case F =>
    intro w mg fa h Y KX G hmg
    refine' Wd.fin KX G hmg ?gF ?gN ?gS ?gT ?gP ?gD ?gR ?aA ?lA ?cA ?kA ?wA ?wL ?sA ?sN ?sL ?sH ?p1 ?p2 ?p3 ?p4 ?p5 ?p6 ?p7 ?p8 ?cF ?cN ?cS ?cT ?cP ?cD ?cR ?A
    (case gF=>k_is)
    (case gN=>k_is)
    (case gS=>k_is)
    (case gT=>k_is)
    (case gP=>k_is)
    (case gD=>k_is)
    (case gR=>k_is)
    (case aA=>k_is)
    (case lA=>k_is)
    (case cA=>k_is)
    (case kA=>k_is)
    (case wA=>k_is)
    (case wL=>k_is)
    (case sA=>k_is)
    (case sN=>rfl)
    (case sL=>k_is)
    (case sH=>decide +kernel)
    (case p1=>k_is)
    (case p2=>k_is)
    (case p3=>k_is)
    (case p4=>k_is)
    (case p5=>k_is)
    (case p6=>k_is)
    (case p7=>k_is)
    (case p8=>k_is)
    (case cF=>exact ⟨Wd.mkCls,Wd.noA,Wd.noA,Wd.noA⟩)
    (case cN=>exact ⟨Wd.mkCls,Wd.noA,Wd.noA,Wd.noA,Wd.noA⟩)
    (case cS=>exact ⟨Wd.mkCls,Wd.noA,Wd.noA,Wd.noA,Wd.noA⟩)
    (case cT=>exact ⟨Wd.mkCls,Wd.noA,Wd.noA,Wd.noA⟩)
    (case cP=>exact ⟨Wd.mkCls,Wd.noA,Wd.noA,Wd.noA,Wd.noA,Wd.noA⟩)
    (case cD=>exact ⟨Wd.mkCls,Wd.noA⟩)
    (case cR=>exact ⟨Wd.mkCls,Wd.noA,Wd.noA⟩)
    case A =>
      intro cF cN cS cT cP cD cR
      constructor
      case T=>constructor <;> first | exact Wd.glI KX G | exact Wd.noG KX G
      all_goals first | assumption | exact Wd.mkDfn KX G | exact Wd.mkDme cF.cl | exact Wd.mkDmk KX G cF.cl | exact Wd.mkDme cN.cl | exact Wd.mkDmk KX G cN.cl | exact Wd.mkDme cS.cl | exact Wd.mkDmk KX G cS.cl | exact Wd.mkDme cT.cl | exact Wd.mkDmk KX G cT.cl | exact Wd.mkDme cP.cl | exact Wd.mkDmk KX G cP.cl | exact Wd.mkDme cD.cl | exact Wd.mkDmk KX G cD.cl | exact Wd.mkDme cR.cl | exact Wd.mkDmk KX G cR.cl
  case S =>
    intro K H xs a hO hwi hask hx
    cases hx with
    | cons h1 h2 =>
      cases h2
      cases h1 with
      | lst hs ha =>
        have e:=L2.ints_dw a.1 _ ha
        subst e
        have q:((Codec.inLen 0 30000 a.1 && a.1.all (Codec.inInt 0 4294967295)) && true)=true:=hwi
        rw [Bool.and_eq_true,Bool.and_eq_true] at q
        exact Wd.from_ask hs (Codec.inNat_iff.mp q.1.1).2 q.1.2 hask (fun H' p hp=>.lst (L2.SqL.of hp) (L2.dw_ints _))
