import PyProof.Rows.All
import Wide.All
import OpenK.AllK
import Wide.FinOn
import PyProof.EqAt
import PyProof.EqKinds
import PyProof.TupleCall
import KE.BitLaws
import KE.KTupSum
import KE.KDictSum
import KE.KSortTupG
import Open.SpecLaws
import KE.OsHead
import KE.OsGo
import PyProof.Rows.SetFrom
import PyProof.SetScanFacts
import PyProof.Rows.SortShellAny
import PyProof.P3In
import PySem.Challenge.RW_glasscartoons_s07_next_to
set_option Elab.async false
set_option linter.all false
set_option maxRecDepth 100000
section
namespace L2
open PySem PySem.Spec PyProof.Rows
abbrev Key:=Sum Int Str
def Ao3:Key→Value→Bool
 | .inl k,v=>Value.isInt k v
 | .inr x,v=>Value.isStrOf x v
def Bci (w:World):Key→Int
 | .inl k=>hashInt k
 | .inr x=>hashStr w x
theorem Ab1:∀{k:Key} {v:Value},Ao3 k v=true→(∃i t,k=Sum.inl i∧v=Value.int i t)∨(∃x t,k=Sum.inr x∧v=Value.str x t)
 | .inl i,v,h=>by
  obtain⟨t,e⟩:=Value.isInt_shape (k:=i) (v:=v) h;exact .inl ⟨i,t,rfl,e⟩
 | .inr x,v,h=>by
  obtain⟨t,e⟩:=Value.isStrOf_shape (x:=x) (v:=v) h;exact .inr ⟨x,t,rfl,e⟩
theorem Ar0 (i:Int)(t:Tok):Ao3 (.inl i) (.int i t)=true:=by simp[Ao3,Value.isInt]
theorem Aqz (x:Str)(t:Tok):Ao3 (.inr x) (.str x t)=true:=by simp[Ao3,Value.isStrOf]
theorem Azl (a b:Int):decide ((Sum.inl a:Key)=Sum.inl b)=(a==b):=by
 by_cases e:a=b
 ·subst e;simp
 ·have h:¬(Sum.inl a:Key)=Sum.inl b:=fun q=>e (Sum.inl.inj q);rw[decide_eq_false h];exact(beq_eq_false_iff_ne.mpr e).symm
theorem Azi (a b:Str):decide ((Sum.inr a:Key)=Sum.inr b)=decide (a=b):=by
 by_cases e:a=b
 ·subst e;simp
 ·have h:¬(Sum.inr a:Key)=Sum.inr b:=fun q=>e (Sum.inr.inj q);rw[decide_eq_false h,decide_eq_false e]
theorem Azk (a:Int)(b:Str):decide ((Sum.inl a:Key)=Sum.inr b)=false:=decide_eq_false (fun q=>nomatch q)
theorem Azj (a:Str)(b:Int):decide ((Sum.inr a:Key)=Sum.inl b)=false:=decide_eq_false (fun q=>nomatch q)
def Abd (prog:Program)(w:World):PySem.KeyKind prog w Key where
 is:=Ao3
 hash:=Bci w
 inj:=fun v a b ha hb=>by
  rcases Ab1 ha with ⟨i,t,rfl,rfl⟩ | ⟨x,t,rfl,rfl⟩
  ·rcases Ab1 hb with ⟨j,u,rfl,e⟩ | ⟨y,u,rfl,e⟩
   ·injection e with e1 _;rw[e1]
   ·exact nomatch e
  ·rcases Ab1 hb with ⟨j,u,rfl,e⟩ | ⟨y,u,rfl,e⟩
   ·exact nomatch e
   ·injection e with e1 _;rw[e1]
 byValue:=fun k v h=>by
  rcases Ab1 h with ⟨i,t,rfl,rfl⟩ | ⟨x,t,rfl,rfl⟩<;>rfl
 pyHash:=fun hv h=>by
  rcases Ab1 hv with ⟨i,t,rfl,rfl⟩ | ⟨x,t,rfl,rfl⟩
  ·exact wpAny_pyHash_int h
  ·exact wpAny_pyHash_str h
 eqBool:=fun hu hv h=>by
  rcases Ab1 hu with ⟨i,t,rfl,rfl⟩ | ⟨x,t,rfl,rfl⟩
  ·rcases Ab1 hv with ⟨j,u,rfl,rfl⟩ | ⟨y,u,rfl,rfl⟩
   ·rw[Azl]at h;exact wpAny_eqBool_int h
   ·rw[Azk]at h;exact SeqAt.EqAt.int_str i t y u _ _ _ _ h
  ·rcases Ab1 hv with ⟨j,u,rfl,rfl⟩ | ⟨y,u,rfl,rfl⟩
   ·rw[Azj]at h;exact SeqAt.EqAt.str_int x t j u _ _ _ _ h
   ·rw[Azi]at h;exact wpAny_eqBool_str h
 «strs»:=fun k x t v h=>by
  rcases Ab1 h with ⟨i,u,rfl,e⟩ | ⟨y,u,rfl,e⟩
  ·exact nomatch e
  ·injection e with e1 _
   subst e1;cases v<;>rfl
theorem Ali (prog:Program)(w:World)(i:Int)(t:Tok):(Abd prog w).is (.inl i) (.int i t)=true:=Ar0 i t
theorem Alh (prog:Program)(w:World)(x:Str)(t:Tok):(Abd prog w).is (.inr x) (.str x t)=true:=Aqz x t
end L2
namespace L2
open PySem PySem.Spec PyProof.Rows
inductive V where
 | non | bl (b:Bool) | int (i:Int) | str (x:Str) | byt (b:Array UInt8) | flt (b:UInt64) | ref (a:Addr) | ty (n:String)
 deriving DecidableEq
def RelV:V→Value→Prop
 | .non,u=>u=Value.none
 | .bl b,u=>u=Value.bool b
 | .int i,u=>∃t,u=Value.int i t
 | .str x,u=>∃t,u=Value.str x t
 | .byt b,u=>∃t,u=Value.bytes b t
 | .flt b,u=>∃t,u=Value.float b t
 | .ref a,u=>u=Value.ref a
 | .ty n,u=>u=Value.type n
abbrev Vals:List V→List Value→Prop:=Paired RelV
theorem Vals.length {xs:List V}{us:List Value}(r:Vals xs us):xs.length=us.length:=Paired.length r
theorem Vals.get:∀{xs:List V} {us:List Value} {i:Nat} {x:V},Vals xs us→xs[i]?=some x→∃u,us[i]?=some u∧RelV x u
 | _,_,_,_,.nil,e=>by simp at e
 | _,_,0,_,.cons r _,e=>by simp at e;subst e;exact⟨_,rfl,r⟩
 | _,_,i+1,x,.cons _ t,e=>by
  obtain⟨u,h1,h2⟩:=Vals.get (i:=i) (x:=x) t (by simpa using e);exact⟨u,by simpa using h1,h2⟩
theorem Vals.append:∀{xs ys:List V} {us ws:List Value},Vals xs us→Vals ys ws→Vals (xs++ys) (us++ws)
 | _,_,_,_,.nil,s=>s
 | _,_,_,_,.cons r t,s=>.cons r (Vals.append t s)
theorem Vals.take:∀{xs:List V} {us:List Value} (n:Nat),Vals xs us→Vals (xs.take n) (us.take n)
 | _,_,0,_=>.nil
 | _,_,_+1,.nil=>.nil
 | _,_,n+1,.cons r t=>.cons r (Vals.take n t)
theorem Vals.drop:∀{xs:List V} {us:List Value} (n:Nat),Vals xs us→Vals (xs.drop n) (us.drop n)
 | _,_,0,r=>r
 | _,_,_+1,.nil=>.nil
 | _,_,n+1,.cons _ t=>Vals.drop n t
def RelO:Option V→Option Value→Prop
 | some v,some u=>RelV v u
 | none,none=>True
 | _,_=>False
def KV {κ:Type}:List (κ×V)→List (κ×Value)→Prop:=Paired fun(p:κ×V) (q:κ×Value)=>p.1=q.1∧RelV p.2 q.2
def kV:Key→V
 | .inl i=>.int i
 | .inr x=>.str x
inductive HO where
 | lst (xs:List V)
 | tup (xs:List V)
 | dK (kvs:List (Key×V)) | dT (kvs:List (List Key×V))
 | set (S:Int→Bool) (n:Nat)
 | ins (C dx:Addr) (fs:List (Str×V))
 | own (x:Addr)
 | xd (fs:List (Str×V))
 | met (f x:Addr)
 | rng (lo hi:Int)
 | frz (o:Obj) (u:HO)
 | tbl (ps:Array Value)
 | ext (φ:Heap→Prop)
abbrev Hp:=Addr→Option HO
def upd (H:Hp)(a:Addr)(o:HO):Hp:=fun b=>if b=a then some o else H b
theorem Aa2 {H:Hp}{a:Addr}{o:HO}:upd H a o a=some o:=by unfold upd;rw[if_pos rfl]
theorem Aa6 {H:Hp}{a b:Addr}{o:HO}(h:b≠a):upd H a o b=H b:=by unfold upd;rw[if_neg h]
theorem Avo {H:Hp}{a:Addr}{o u:HO}:upd (upd H a o) a u=upd H a u:=by
 funext b;unfold upd;split<;>rfl
theorem Aby {H:Hp}{a b:Addr}{o u:HO}(h:H a=some o)(h':H b=some u)(d:o≠u):a≠b:=by
 intro e;subst e;rw[h]at h';exact d (Option.some.inj h')
theorem Aa8 {H:Hp}{a b:Addr}{o:HO}(h:H a=some o)(h':H b=none):a≠b:=by
 intro e;subst e;rw[h]at h';cases h'
section
variable (P:Program)(w:World)
def ObjOk (H:Hp)(h:Heap)(a:Addr):HO→Prop
 | .lst xs=>xs.length≤sizeLine∧∃(its:List Value) (n:Nat),Vals xs its∧h.get? a=some { cls:=.type "list",data:=.seq its.toArray n }
 | .tup xs=>xs.length≤sizeLine∧∃its:List Value,Vals xs its∧IsTup h a its.toArray
 | .dK kvs=>kvs.length≤sizeLine∧(a==sysModules)=false∧∃vs,KV kvs vs∧h.DictOf (Abd P w) a vs
 | .dT kvs=>kvs.length≤sizeLine∧(a==sysModules)=false∧∃xs:List (List Key×Addr×Value),
  Paired (fun(p:List Key×V) (q:List Key×Addr×Value)=>p.1=q.1∧H q.2.1=some (.tup (p.1.map kV))∧RelV p.2 q.2.2) kvs xs∧
  ∃o es ep,h.get? a=some o∧o.ExactDict∧o.data=.dict es ep∧es.toList=xs.map (entryOfKey (tupleKind (Abd P w)))∧(xs.map (·.1)).Nodup
 | .set S n=>h.SetOf (intKind P w) a S n
 | .ins C dx fs=>H dx=some (.own a)∧fs.length≤1000∧dx≠a∧h.get? a=some (W.instObj C dx)∧
  ∃mA,h.Ns1 dx mA∧(∀f,RelO (fs.lookup f) (mA f))∧PySem.Within mA (fs.map (·.1))
 | .own _=>∃o,h.get? a=some o
 | .xd fs=>∃mA,h.Ns1 a mA∧∀f,RelO (fs.lookup f) (mA f)
 | .rng lo hi=>∃t u v,h.get? a=some { cls:=.type "range",data:=.fields #[.int lo t,.int hi u,.int 1 v] }
 | .frz o u=>h.get? a=some o∧ObjOk H h a u
 | .tbl ps=>h.get? a=some { cls:=.none,data:=.fields ps }
 | .met f x=>h.get? a=some (W.methodObj (.ref f) (.ref x))
 | .ext φ=>φ h∧(∃o,h.get? a=some o)∧∀h1 h2:Heap,φ h1→(∀o,h1.get? a=some o→h2.get? a=some o)→φ h2
def HOk (H:Hp)(h:Heap):Prop:=∀a o,H a=some o→ObjOk P w H h a o
end
section
variable {P:Program}{w:World}{H H':Hp}{h h':Heap}{a:Addr}{o:HO}
theorem ObjOk.lt (x:ObjOk P w H h a o):a<h.objs.size:=by
 cases o with
 | lst xs=>obtain⟨_,_,_,_,e⟩:=x;exact Heap.lt_size e
 | tup xs=>obtain⟨_,_,_,p⟩:=x;exact p.lt
 | dK kvs=>obtain⟨_,_,_,_,o,_,_,e,_⟩:=x;exact Heap.lt_size e
 | dT kvs=>obtain⟨_,_,_,_,o,_,_,e,_⟩:=x;exact Heap.lt_size e
 | set S n=>obtain⟨o,_,_,_,e,_⟩:=x;exact Heap.lt_size e
 | ins C dx fs=>obtain⟨_,_,_,e,_⟩:=x;exact Heap.lt_size e
 | own y=>obtain⟨_,e⟩:=x;exact Heap.lt_size e
 | xd fs=>obtain⟨_,⟨_,_,_,e,_⟩,_⟩:=x;exact Heap.lt_size e
 | rng lo hi=>obtain⟨_,_,_,e⟩:=x;exact Heap.lt_size e
 | frz ob u=>obtain⟨e,_⟩:=x;exact Heap.lt_size e
 | tbl ps=>exact Heap.lt_size (show h.get? a=some _ from x)
 | met f y=>exact Heap.lt_size (show h.get? a=some _ from x)
 | ext φ=>obtain⟨_,⟨_,e⟩,_⟩:=x;exact Heap.lt_size e
theorem Paired.mapP {α β:Type}{F G:α→β→Prop}:∀{l₁:List α} {l₂:List β},Paired F l₁ l₂→(∀a b,F a b→G a b)→Paired G l₁ l₂
 | _,_,.nil,_=>.nil
 | _,_,.cons r t,f=>.cons (f _ _ r) (Paired.mapP t f)
theorem ObjOk.stay (x:ObjOk P w H h a o)(k:∀b u,(b=a∨H b=some (.own a))→h.get? b=some u→h'.get? b=some u)
 (ho:∀b,H b=some (.own a)→H' b=some (.own a)) (ht:∀b xs,H b=some (.tup xs)→H' b=some (.tup xs)):ObjOk P w H' h' a o:=by
 induction o with
 | lst xs=>obtain⟨z,its,n,r,e⟩:=x;exact⟨z,its,n,r,k _ _ (.inl rfl) e⟩
 | tup xs=>obtain⟨z,its,r,ob,e,c⟩:=x;exact⟨z,its,r,ob,k _ _ (.inl rfl) e,c⟩
 | dK kvs=>obtain⟨z,y,vs,r,ob,es,ep,e,c⟩:=x;exact⟨z,y,vs,r,ob,es,ep,k _ _ (.inl rfl) e,c⟩
 | dT kvs =>
  obtain⟨z,y,xs,r,ob,es,ep,e,c⟩:=x;exact⟨z,y,xs,Paired.mapP r fun p q z=>⟨z.1,ht _ _ z.2.1,z.2.2⟩,ob,es,ep,k _ _ (.inl rfl) e,c⟩
 | set S n=>obtain⟨ob,es,ep,t,e,c⟩:=x;exact⟨ob,es,ep,t,k _ _ (.inl rfl) e,c⟩
 | ins C dx fs =>
  obtain⟨d,z,ne,e,mA,⟨od,es,ep,e2,c⟩,r⟩:=x;exact⟨ho _ d,z,ne,k _ _ (.inl rfl) e,mA,⟨od,es,ep,k _ _ (.inr d) e2,c⟩,r⟩
 | own y=>obtain⟨ob,e⟩:=x;exact⟨ob,k _ _ (.inl rfl) e⟩
 | xd fs=>obtain⟨mA,⟨od,es,ep,e,c⟩,r⟩:=x;exact⟨mA,⟨od,es,ep,k _ _ (.inl rfl) e,c⟩,r⟩
 | rng lo hi=>obtain⟨t,u,v,e⟩:=x;exact⟨t,u,v,k _ _ (.inl rfl) e⟩
 | frz ob u ih=>obtain⟨e,q⟩:=x;exact⟨k _ _ (.inl rfl) e,ih q⟩
 | tbl ps =>
  have e:h.get? a=some { cls:=.none,data:=.fields ps }:=x;show h'.get? a=some { cls:=.none,data:=.fields ps };exact k a _ (.inl rfl) e
 | met f y =>
  have e:h.get? a=some (W.methodObj (.ref f) (.ref y)):=x;show h'.get? a=some (W.methodObj (.ref f) (.ref y));exact k a _ (.inl rfl) e
 | ext φ=>obtain⟨p,⟨o,e⟩,st⟩:=x;exact⟨st _ _ p fun o q=>k _ _ (.inl rfl) q,⟨o,k _ _ (.inl rfl) e⟩,st⟩
theorem HOk.lt (x:HOk P w H h)(e:H a=some o):a<h.objs.size:=(x a o e).lt
theorem HOk.fresh (x:HOk P w H h)(e:h.objs.size≤a):H a=none:=by
 cases q:H a with
 | none=>rfl
 | some u=>exact absurd (Nat.lt_of_lt_of_le (x.lt q) e) (Nat.lt_irrefl _)
theorem HOk.kept (x:HOk P w H h)(k:∀b u,h.get? b=some u→h'.get? b=some u):HOk P w H h':=fun a o e =>
 (x a o e).stay (fun b u _ q=>k b u q) (fun _ q=>q) fun _ _ q=>q
theorem HOk.laid (x:HOk P w H h)(k:∀b u,h.get? b=some u→h'.get? b=some u)(hp:h.objs.size≤a)(new:ObjOk P w (upd H a o) h' a o):HOk P w (upd H a o) h':=fun b u e=>by
 have hn:=x.fresh hp
 by_cases hb:b=a
 ·subst hb;rw[Aa2]at e;cases e;exact new
 ·rw[Aa6 hb]at e;exact(x b u e).stay (fun c v _ q=>k c v q) (fun c q=>by rw[Aa6 (Aa8 q hn)];exact q) fun c xs q=>by rw[Aa6 (Aa8 q hn)];exact q
end
def Rd (H:Hp)(a:Addr)(u:HO):Prop:=H a=some u∨∃o,H a=some (.frz o u)
theorem Rd.ok {P:Program}{w:World}{H:Hp}{h:Heap}{a:Addr}{u:HO}(r:Rd H a u)(x:HOk P w H h):ObjOk P w H h a u:=by
 rcases r with r | ⟨o,r⟩
 ·exact x a u r
 ·obtain⟨_,q⟩:=x a _ r;exact q
def Mut:Option HO→Prop
 | some (.lst _)=>True
 | some (.dK _)=>True
 | some (.dT _)=>True
 | some (.set _ _)=>True
 | some (.ins _ _ _)=>True
 | some (.ext _)=>True
 | _=>False
section
variable {P:Program}{w:World}{H:Hp}{h h':Heap}{x e:Addr}{o':HO}
theorem HOk.write (ok:HOk P w H h)(mu:Mut (H x))(he:e=x∨H e=some (.own x))(k:∀b u,b≠e→h.get? b=some u→h'.get? b=some u)(heo:∃u,h'.get? e=some u)
 (new:ObjOk P w (upd H x o') h' x o'):HOk P w (upd H x o') h':=fun b u q=>by
 have nown:∀c y,H c=some (.own y)→c≠x:=fun c y r z=>by subst z;rw[r]at mu;exact mu
 have ntup:∀c xs,H c=some (.tup xs)→c≠x:=fun c xs r z=>by subst z;rw[r]at mu;exact mu
 by_cases hb:b=x
 ·subst hb;rw[Aa2]at q;cases q;exact new
 ·rw[Aa6 hb]at q
  by_cases hbe:b=e
  ·have q':H b=some (.own x):=by
    rcases he with z | z
    ·exact absurd (hbe.trans z) hb
    ·rw[hbe];exact z
   rw[q]at q';cases q';obtain⟨v,hv⟩:=heo;exact⟨v,by rw[hbe];exact hv⟩
  ·refine(ok b u q).stay (fun c v hc r=>k c v ?_ r) (fun c r=>by rw[Aa6 (nown c b r)];exact r) fun c xs r=>by rw[Aa6 (ntup c xs r)];exact r
   rcases hc with rfl | hc
   ·exact hbe
   ·rintro rfl;rcases he with z | z
    ·exact nown c b hc z
    ·rw[hc]at z;cases z;exact hb rfl
end
structure Un (fs ex:List Addr)(H H':Hp)(h h':Heap):Prop where
 keep:∀b o,h.get? b=some o→H b=none→b∉fs→b∉ex→h'.get? b=some o
 slot:∀b o,h.get? b=some o→H b=none→b∈fs→b∉ex→∃sl,h'.get? b=some { o with slots:=sl }
 free:∀b o,h.get? b=some o→H b=none→b∉ex→H' b=none
 there:∀b o,h.get? b=some o→b∉ex→∃o',h'.get? b=some o'
 tups:∀b xs,H b=some (.tup xs)→H' b=some (.tup xs)
 frzs:∀b o u,H b=some (.frz o u)→H' b=some (.frz o u)
 tbls:∀b ps,H b=some (.tbl ps)→∃more,H' b=some (.tbl (ps++more))
section
variable {fs fs' ex ex':List Addr}{H H1 H2:Hp}{h h1 h2 h':Heap}{a x e:Addr}{o:HO}
theorem Un.any (u:Un fs ex H H1 h h1){b:Addr}{ob:Obj}(q:h.get? b=some ob)(n:H b=none)(hx:b∉ex):∃sl,h1.get? b=some { ob with slots:=sl }:=by
 by_cases hb:b∈fs
 ·exact u.slot b ob q n hb hx
 ·exact⟨ob.slots,u.keep b ob q n hb hx⟩
theorem Un.kept (k:∀b u,h.get? b=some u→h'.get? b=some u):Un fs ex H H h h' :=
 ⟨fun b ob q _ _ _=>k b ob q,fun b ob q _ _ _=>⟨ob.slots,k b ob q⟩,fun _ _ _ n _=>n,fun b ob q _=>⟨ob,k b ob q⟩,fun _ _ q=>q,fun _ _ _ q=>q,fun _ ps q=>⟨#[],by rw[q];simp⟩⟩
theorem Un.refl:Un fs ex H H h h:=Un.kept fun _ _ q=>q
theorem Un.laid (k:∀b u,h.get? b=some u→h'.get? b=some u)(hp:h.objs.size≤a)(hn:H a=none):Un fs ex H (upd H a o) h h' where
 keep:=fun b u q _ _ _=>k b u q
 slot:=fun b u q _ _ _=>⟨u.slots,k b u q⟩
 free:=fun b u q n _=>by rw[Aa6 (Nat.ne_of_lt (Nat.lt_of_lt_of_le (Heap.lt_size q) hp))];exact n
 there:=fun b u q _=>⟨u,k b u q⟩
 tups:=fun b xs q=>by rw[Aa6 (Aa8 q hn)];exact q
 frzs:=fun b u xs q=>by rw[Aa6 (Aa8 q hn)];exact q
 tbls:=fun b ps q=>⟨#[],by rw[Aa6 (Aa8 q hn),q];simp⟩
theorem Un.write (mu:Mut (H x))(he:e=x∨H e=some (.own x))(k:∀b u,b≠e→h.get? b=some u→h'.get? b=some u)(heo:∃u,h'.get? e=some u):Un fs ex H (upd H x o) h h':=by
 have hx:∀b,H b=none→b≠x:=fun b n z=>by subst z;rw[n]at mu;exact mu
 have hb:∀b,H b=none→b≠e:=fun b n z=>by
  subst z;rcases he with r | r
  ·exact hx b n r
  ·rw[n]at r;cases r
 have hm:∀b u,H b=some u→¬Mut (some u)→b≠x:=fun b u q nm z=>by subst z;rw[q]at mu;exact nm mu
 refine⟨fun b u q n _ _=>k b u (hb b n) q,fun b u q n _ _=>⟨u.slots,k b u (hb b n) q⟩,fun b u q n _=>by rw[Aa6 (hx b n)];exact n,fun b u q _=>?_,
  fun b xs q=>by rw[Aa6 (hm b _ q fun z=>z)];exact q,fun b u xs q=>by rw[Aa6 (hm b _ q fun z=>z)];exact q,fun b ps q=>⟨#[],by rw[Aa6 (hm b _ q fun z=>z),q];simp⟩⟩
 by_cases hbe:b=e
 ·subst hbe;exact heo
 ·exact⟨u,k b u hbe q⟩
end
def trk (h:Heap)(H:Hp):List Addr:=(List.range h.objs.size).filter fun a=>(H a).isSome
def Au0 (h:Heap)(H:Hp):Heap:=W.hideAll h (trk h H)
theorem Ard (h:Heap)(H:Hp):(Au0 h H).objs.size=h.objs.size:=W.hideAll_size _ _
theorem Atz {h:Heap}{H:Hp}{b:Addr}{o:Obj}(e:h.get? b=some o)(n:H b=none):(Au0 h H).get? b=some o :=
 W.hideAll_get _ e fun hm=>by
  have q:(H b).isSome=true:=(List.mem_filter.mp hm).2;rw[n]at q;simp at q
theorem Awy {h:Heap}{H:Hp}{b:Addr}{o:Obj}(e:(Au0 h H).get? b=some o):h.get? b=some o∧H b=none:=by
 have e':h.get? b=some o:=W.of_hideAll (trk h H) e;refine⟨e',?_⟩;cases q:H b with
 | none=>rfl
 | some x =>
  have hm:b∈trk h H:=List.mem_filter.mpr ⟨List.mem_range.mpr (Heap.lt_size e'),by simp[q]⟩;have z:(Au0 h H).get? b=none:=W.hideAll_none (trk h H) hm;rw[z]at e;cases e
end L2
namespace L2
open PySem PySem.Spec PyProof.Rows
structure Mod (K:W.Frag)(mg:Str→Option Value)(base:Heap):Prop where
 kin:K.In base
 glob:base.Ns mainGlobals mg
 blt:∃mb,base.Ns builtinsNs mb∧∀x:Str,x≠"__name__"→mb x=bootBuiltins x
 nolimit:base.NoLimit
structure Cx where
 prog:Program
 w:World
 K:W.Frag
 mg:Str→Option Value
 base:Heap
 A:Around
 N:List Str
 s_0:Shared
 H_0:Hp
 env:Env
 outer:List Env
 stack:List Env
 ex:List Addr
 fn:Str→Bool
 calm:Bool
 pn:List (Addr×Obj)
 xe:Value→Shared→Prop
def frs (l:List Env):List Addr:=l.filterMap (·.frame)
abbrev Cx.fs (X:Cx):List Addr:=frs X.outer
def Vis (sc:Scope)(x:Str):Prop:=sc.names.lookup x=some .local ∨sc.names.lookup x=some .cell ∨sc.names.lookup x=some .free
def Loc (sc:Scope)(x:Str):Prop:=sc.names.lookup x=some .local ∨sc.names.lookup x=some .cell
def Agv (env:Env)(h:Heap)(m:Str→Option Value)(x:Str)(u:Value):Prop :=
 (env.kindOf x=some .local ∧m x=some u)∨((env.kindOf x=some .cell ∨env.kindOf x=some .free)∧∃c,env.cells.lookup x=some c∧h.IsCell c (some u))
structure Cx.Ok (X:Cx):Prop where
 mod:Mod X.K X.mg X.base
 kind:X.env.scope.kind=.function
 glob:X.env.globals=mainGlobals
 blt:X.env.builtins=builtinsNs
 above:X.s_0.heap.objs.size≤X.env.locals
 inj:∀x y c,X.env.cells.lookup x=some c→X.env.cells.lookup y=some c→x=y
 has:∀x,(X.env.kindOf x=some .cell ∨X.env.kindOf x=some .free)→∃c,X.env.cells.lookup x=some c
 cab:∀x c,X.fn x=true→X.env.cells.lookup x=some c→X.s_0.heap.objs.size≤c
 hd:X.calm=true→X.A.handled=none
 frames:X.A.frames=some X.stack
 stk:X.stack=X.outer∨(X.stack=X.env::X.outer∧X.env.frame=some X.env.locals)
 exf:∀b∈X.ex,b≠X.env.locals∧∀x c,X.env.cells.lookup x=some c→c≠b
 bs:∀b o,X.base.get? b=some o→X.s_0.heap.get? b=some o∧X.H_0 b=none
 bsz:X.base.objs.size≤X.s_0.heap.objs.size
 noex:∀b o,X.base.get? b=some o→b∉X.ex
 exfs:∀b∈X.ex,b∉X.fs
 funs:X.s_0.heap.FunFrames X.base X.outer
 frf:∀b∈X.fs,X.H_0 b=none
structure Inv (X:Cx)(pins:List (Addr×Obj))(σ:List (Option V))(H:Hp)(s:Shared):Prop where
 ok:X.Ok
 os:s.os=X.s_0.os
 bare:AllBare s.gens
 base:Un X.fs X.ex X.H_0 H X.s_0.heap s.heap
 loc:∃m,s.heap.Ns X.env.locals m∧∀(i:Nat) (x:Str) (v:V),X.N[i]?=some x→σ[i]?=some (some v)→Vis X.env.scope x→∃u,RelV v u∧Agv X.env s.heap m x u
 cell:∀x c,X.env.cells.lookup x=some c→∃v,s.heap.IsCell c v
 free:H X.env.locals=none
 freeC:∀x c,X.env.cells.lookup x=some c→H c=none
 pin:∀p∈X.pn++pins,s.heap.get? p.1=some p.2∧H p.1=none∧p.1≠X.env.locals∧p.1∉X.fs∧∀v,p.2.data≠.cell v
 hok:HOk X.prog X.w H s.heap
 len:σ.length=X.N.length
section
variable {X:Cx}{pins:List (Addr×Obj)}{σ:List (Option V)}{H H':Hp}{s:Shared}{h':Heap}
theorem Cx.Ok.nofr (ok:X.Ok){b:Addr}{o:Obj}(e:X.base.get? b=some o):b∉X.fs:=fun hb=>by
 have:=(ok.funs.mem hb).1;rw[e]at this;cases this
theorem Inv.bs (I:Inv X pins σ H s):∀b o,X.base.get? b=some o→s.heap.get? b=some o∧H b=none:=fun b o e =>
 ⟨I.base.keep b o (I.ok.bs b o e).1 (I.ok.bs b o e).2 (I.ok.nofr e) (I.ok.noex b o e),I.base.free b o (I.ok.bs b o e).1 (I.ok.bs b o e).2 (I.ok.noex b o e)⟩
theorem Inv.bk (I:Inv X pins σ H s):∀b o,X.base.get? b=some o→s.heap.get? b=some o:=fun b o e=>(I.bs b o e).1
theorem Inv.mod (I:Inv X pins σ H s):Mod X.K X.mg X.base:=I.ok.mod
theorem Inv.kIn (I:Inv X pins σ H s):X.K.In s.heap:=I.ok.mod.kin.keeps I.bk
theorem Inv.fr (I:Inv X pins σ H s):∃m,Fr X.base X.env.locals s.heap m :=
 let ⟨m,hn,_⟩:=I.loc
 ⟨m,hn,I.bk,Nat.le_trans I.ok.bsz I.ok.above⟩
theorem Inv.lt (I:Inv X pins σ H s):X.env.locals<s.heap.objs.size:=let ⟨_,hn,_⟩:=I.loc;hn.lt
theorem Inv.sz (I:Inv X pins σ H s):X.s_0.heap.objs.size≤s.heap.objs.size:=Nat.le_trans I.ok.above (Nat.le_of_lt I.lt)
theorem Inv.nofs (I:Inv X pins σ H s){a:Addr}(h:s.heap.objs.size≤a):a∉X.fs:=fun hb=>by
 obtain⟨_,o,ho,_⟩:=I.ok.funs.mem hb;exact absurd (Nat.lt_of_lt_of_le (Heap.lt_size ho) (Nat.le_trans I.sz h)) (Nat.lt_irrefl _)
theorem Inv.cne (I:Inv X pins σ H s):∀x c,X.env.cells.lookup x=some c→c≠X.env.locals:=fun x c e z=>by
 obtain⟨v,o,ho,hd⟩:=I.cell x c e;obtain⟨m,⟨o',es,ep,ho',hd',_⟩,_⟩:=I.loc;rw[z,ho']at ho;cases ho;rw[hd']at hd;cases hd
theorem Inv.funs (I:Inv X pins σ H s):s.heap.FunFrames X.base X.outer:=by
 have all:∀(l:List Env),(∀b∈frs l,b∈X.fs)→X.s_0.heap.FunFrames X.base l→s.heap.FunFrames X.base l:=by
  intro l
  induction l with
  | nil=>intro _ _;trivial
  | cons env r ih =>
   intro hs hl;obtain⟨hk,⟨L,o,hf,hn,ho,hd⟩,hr⟩:=hl;have hL:L∈X.fs:=hs L (by unfold frs;rw[List.filterMap_cons,hf];exact List.mem_cons_self);obtain⟨sl,e⟩:=I.base.slot L o ho (I.ok.frf L hL) hL fun z=>I.ok.exfs L z hL;exact⟨hk,⟨L,_,hf,hn,e,hd⟩,ih (fun b hb=>hs b (by unfold frs;rw[List.filterMap_cons,hf];exact List.mem_cons_of_mem _ hb)) hr⟩
 exact all X.outer (fun _ hb=>hb) I.ok.funs
theorem Inv.stack (I:Inv X pins σ H s):s.heap.FunFrames X.base X.stack:=by
 rcases I.ok.stk with e | ⟨e,hf⟩
 ·rw[e];exact I.funs
 ·rw[e];obtain⟨m,hn,_⟩:=I.loc;refine .cons (by rw[I.ok.kind];decide) hf hn ?_ I.funs;exact Heap.get?_none_of_le (Nat.le_trans I.ok.bsz I.ok.above)
theorem Inv.stkSub (I:Inv X pins σ H s):∀b∈frs X.stack,b∈X.env.locals::X.fs:=fun b hb=>by
 rcases I.ok.stk with e | ⟨e,hf⟩
 ·rw[e]at hb;exact List.mem_cons_of_mem _ hb
 ·rw[e]at hb;unfold frs at hb;rw[List.filterMap_cons,hf]at hb;exact hb
theorem Inv.stkFree (I:Inv X pins σ H s):∀b∈frs X.stack,H b=none:=fun b hb=>by
 rcases List.mem_cons.mp (I.stkSub b hb)with e | hb
 ·rw[e];exact I.free
 ·obtain⟨_,o,ho,_⟩:=I.ok.funs.mem hb;exact I.base.free b o ho (I.ok.frf b hb) fun z=>I.ok.exfs b z hb
theorem Inv.step {g':Array GenState}{t':Nat}{d':Drawn}{ch:List Addr}(I:Inv X pins σ H s)
 (hch:∀b∈ch,(b∈X.ex∨X.s_0.heap.objs.size≤b)∧b≠X.env.locals∧(∀x c,X.env.cells.lookup x=some c→c≠b)∧∀p∈X.pn++pins,p.1≠b)
 (keep:∀b o,b≠X.env.locals→b∉X.fs→b∉ch→s.heap.get? b=some o→H b=none→h'.get? b=some o)
 (slot:∀b o,b≠X.env.locals→b∈X.fs→b∉ch→s.heap.get? b=some o→H b=none→∃sl,h'.get? b=some { o with slots:=sl }) (free:∀b o,b∉ch→s.heap.get? b=some o→H b=none→H' b=none)
 (there:∀b o,b∉ch→s.heap.get? b=some o→∃o',h'.get? b=some o')
 (tups:∀b xs,H b=some (.tup xs)→H' b=some (.tup xs)) (frzs:∀b o u,H b=some (.frz o u)→H' b=some (.frz o u)) (tbls:∀b ps,H b=some (.tbl ps)→∃more,H' b=some (.tbl (ps++more)))
 (ns:∀m,s.heap.Ns X.env.locals m→h'.Ns X.env.locals m) (hok:HOk X.prog X.w H' h') (hg:AllBare g') :
 Inv X pins σ H' { s with heap:=h',gens:=g',drawn:=d',toks:=t' }:=by
 have neL:∀b o,X.s_0.heap.get? b=some o→b≠X.env.locals:=fun b o e=>Nat.ne_of_lt (Nat.lt_of_lt_of_le (Heap.lt_size e) I.ok.above);have neC:∀b o,X.s_0.heap.get? b=some o→b∉X.ex→b∉ch:=fun b o e hx hb=>by
  rcases (hch b hb).1 with z | z
  ·exact hx z
  ·exact absurd (Nat.lt_of_lt_of_le (Heap.lt_size e) z) (Nat.lt_irrefl _)
 have cellK:∀x c,X.env.cells.lookup x=some c→∀v,s.heap.IsCell c v→h'.IsCell c v:=fun x c e v ⟨o,ho,hd⟩=>by
  have nch:c∉ch:=fun z=>(hch c z).2.2.1 x c e rfl
  by_cases hc:c∈X.fs
  ·obtain⟨sl,q⟩:=slot c o (I.cne x c e) hc nch ho (I.freeC x c e);exact⟨_,q,hd⟩
  ·exact⟨o,keep c o (I.cne x c e) hc nch ho (I.freeC x c e),hd⟩
 refine⟨I.ok,I.os,hg,⟨fun b o e n hb hx=>?_,fun b o e n hb hx=>?_,fun b o e n hx=>?_,fun b o e hx=>?_,fun b xs e=>tups b xs (I.base.tups b xs e),fun b o xs e=>frzs b o xs (I.base.frzs b o xs e),fun b ps e=>?_⟩,?_,fun x c e=>?_,?_,fun x c e=>?_,fun p hp=>?_,hok,I.len⟩
 ·exact keep b o (neL b o e) hb (neC b o e hx) (I.base.keep b o e n hb hx) (I.base.free b o e n hx)
 ·obtain⟨sl,e1⟩:=I.base.slot b o e n hb hx;obtain⟨sl',e2⟩:=slot b _ (neL b o e) hb (neC b o e hx) e1 (I.base.free b o e n hx);exact⟨sl',e2⟩
 ·obtain⟨o',e1⟩:=I.base.there b o e hx;exact free b o' (neC b o e hx) e1 (I.base.free b o e n hx)
 ·obtain⟨o',e1⟩:=I.base.there b o e hx;exact there b o' (neC b o e hx) e1
 ·obtain⟨m1,e1⟩:=I.base.tbls b ps e;obtain⟨m2,e2⟩:=tbls b _ e1;exact⟨m1++m2,by rw[e2,Array.append_assoc]⟩
 ·obtain⟨m,hn,hl⟩:=I.loc;refine⟨m,ns m hn,fun i x v e1 e2 e3=>?_⟩;obtain⟨u,r,l⟩:=hl i x v e1 e2 e3;refine⟨u,r,?_⟩;rcases l with l | ⟨k,c,e,z⟩
  ·exact .inl l
  ·exact .inr ⟨k,c,e,cellK x c e _ z⟩
 ·obtain⟨v,z⟩:=I.cell x c e;exact⟨v,cellK x c e v z⟩
 ·obtain⟨m,⟨o,_,_,ho,_⟩,_⟩:=I.loc;exact free _ o (fun z=>(hch _ z).2.1 rfl) ho I.free
 ·obtain⟨v,o,ho,hd⟩:=I.cell x c e;exact free c o (fun z=>(hch c z).2.2.1 x c e rfl) ho (I.freeC x c e)
 ·obtain⟨e,n,ne,nf,d⟩:=I.pin p hp;have nch:p.1∉ch:=fun z=>(hch p.1 z).2.2.2 p hp rfl;exact⟨keep p.1 p.2 ne nf nch e n,free p.1 p.2 nch e n,ne,nf,d⟩
theorem Inv.un {t':Nat}(I:Inv X pins σ H s)(u:Un X.fs [] H H' s.heap h')(hok:HOk X.prog X.w H' h'):Inv X pins σ H' { s with heap:=h',toks:=t' }:=by
 obtain⟨m,⟨o,es,ep,ho,r⟩,_⟩:=id I.loc;obtain⟨sl,hL⟩:=u.any ho I.free (by simp)
 exact I.step (g':=s.gens) (d':=s.drawn) (ch:=[]) (fun _ z=>nomatch z) (fun b o _ hb _ e n=>u.keep b o e n hb (by simp)) (fun b o _ hb _ e n=>u.slot b o e n hb (by simp)) (fun b o _ e n=>u.free b o e n (by simp)) (fun b o _ e=>u.there b o e (by simp)) u.tups u.frzs u.tbls (fun m' hm=>by
  obtain⟨o',es',ep',ho',r'⟩:=hm;rw[ho]at ho';cases ho'
  exact⟨_,es',ep',hL,r'⟩) hok I.bare
theorem Inv.call {g':Array GenState}{t':Nat}{d':Drawn}{ch:List Addr}(I:Inv X pins σ H s)(u:Un (frs X.stack) ch H H' s.heap h')(hok:HOk X.prog X.w H' h')(hg:AllBare g')
 (hch:∀b∈ch,(b∈X.ex∨X.s_0.heap.objs.size≤b)∧b≠X.env.locals∧(∀x c,X.env.cells.lookup x=some c→c≠b)∧∀p∈X.pn++pins,p.1≠b) :
 Inv X pins σ H' { s with heap:=h',gens:=g',drawn:=d',toks:=t' }:=by
 obtain⟨m,⟨o,es,ep,ho,r⟩,_⟩:=id I.loc;obtain⟨sl,hL⟩:=u.any ho I.free fun z=>(hch _ z).2.1 rfl
 exact I.step (ch:=ch) hch (fun b o hL hb hc e n=>u.keep b o e n (fun z=>(List.mem_cons.mp (I.stkSub b z)).elim hL hb) hc) (fun b o _ _ hc e n=>u.any e n hc) (fun b o hc e n=>u.free b o e n hc) (fun b o hc e=>u.there b o e hc) u.tups u.frzs u.tbls (fun m' hm=>by
  obtain⟨o',es',ep',ho',r'⟩:=hm;rw[ho]at ho';cases ho'
  exact⟨_,es',ep',hL,r'⟩) hok hg
theorem Inv.turned {t':Nat}{it:Addr}(I:Inv X pins σ H s)(k:∀b o,b≠it→s.heap.get? b=some o→h'.get? b=some o)(hn:H it=none)(hL:it≠X.env.locals)
 (h1:it∈X.ex∨X.s_0.heap.objs.size≤it) (h2:∀x c,X.env.cells.lookup x=some c→c≠it) (h3:∀p∈X.pn++pins,p.1≠it):Inv X pins σ H { s with heap:=h',toks:=t' }:=by
 have nit:∀b u,H b=some u→b≠it:=fun b u e z=>by rw[z,hn]at e;cases e
 refine I.step (g':=s.gens) (d':=s.drawn) (ch:=[it]) (fun b hb=>?_) (fun b o _ _ hc e _=>k b o (fun z=>hc (by simp[z])) e) (fun b o _ _ hc e _=>⟨o.slots,k b o (fun z=>hc (by simp[z])) e⟩) (fun _ _ _ _ n=>n)
  (fun b o hc e=>⟨o,k b o (fun z=>hc (by simp[z])) e⟩) (fun _ _ e=>e) (fun _ _ _ e=>e) (fun b ps e=>⟨#[],by rw[e];simp⟩) (fun m hm=>?_) (fun b u e=>?_) I.bare
 ·have e:b=it:=by simpa using hb
  subst e;exact⟨h1,hL,h2,h3⟩
 ·obtain⟨o,es,ep,ho,r⟩:=hm;exact⟨o,es,ep,k _ o (Ne.symm hL) ho,r⟩
 ·refine(I.hok b u e).stay (fun c v hc q=>k c v ?_ q) (fun _ q=>q) fun _ _ q=>q;rcases hc with z | z
  ·rw[z];exact nit b u e
  ·exact nit c _ z
theorem Inv.tok (I:Inv X pins σ H s)(t:Nat):Inv X pins σ H { s with toks:=t }:=I.un (h':=s.heap) (t':=t) Un.refl I.hok
theorem Inv.kept {t':Nat}(I:Inv X pins σ H s)(k:∀b u,s.heap.get? b=some u→h'.get? b=some u):Inv X pins σ H { s with heap:=h',toks:=t' }:=I.un (Un.kept k) (I.hok.kept k)
theorem Inv.laid {a:Addr}{o:HO}{t':Nat}(I:Inv X pins σ H s)(k:∀b u,s.heap.get? b=some u→h'.get? b=some u)(hp:s.heap.objs.size≤a)(new:ObjOk X.prog X.w (upd H a o) h' a o) :
 Inv X pins σ (upd H a o) { s with heap:=h',toks:=t' }:=I.un (Un.laid k hp (I.hok.fresh hp)) (I.hok.laid k hp new)
theorem Inv.write {x e:Addr}{o:HO}{t':Nat}(I:Inv X pins σ H s)(mu:Mut (H x))(he:e=x∨H e=some (.own x))(k:∀b u,b≠e→s.heap.get? b=some u→h'.get? b=some u)(heo:∃u,h'.get? e=some u)
 (new:ObjOk X.prog X.w (upd H x o) h' x o):Inv X pins σ (upd H x o) { s with heap:=h',toks:=t' }:=I.un (Un.write mu he k heo) (I.hok.write mu he k heo new)
theorem Inv.weak {σ':List (Option V)}(I:Inv X pins σ H s)(hl:σ'.length=σ.length)(w:∀(i:Nat) v,σ'[i]?=some (some v)→σ[i]?=some (some v)):Inv X pins σ' H s :=
 ⟨I.ok,I.os,I.bare,I.base,let ⟨m,hn,hl'⟩:=I.loc;⟨m,hn,fun i x v e1 e2 e3=>hl' i x v e1 (w i v e2) e3⟩,I.cell,I.free,I.freeC,I.pin,I.hok,hl.trans I.len⟩
theorem Inv.pins_of {pins':List (Addr×Obj)}(I:Inv X pins σ H s)(h:∀p∈pins',s.heap.get? p.1=some p.2∧H p.1=none∧p.1≠X.env.locals∧p.1∉X.fs∧∀v,p.2.data≠.cell v):Inv X pins' σ H s :=
 ⟨I.ok,I.os,I.bare,I.base,I.loc,I.cell,I.free,I.freeC,fun p hp=>(List.mem_append.mp hp).elim (fun z=>I.pin p (List.mem_append_left _ z)) (h p),I.hok,I.len⟩
theorem Ait {N:List Str}(hN:N.Nodup){i j:Nat}{x:Str}(a:N[i]?=some x)(b:N[j]?=some x):i=j:=by
 obtain⟨h1,e1⟩:=List.getElem?_eq_some_iff.mp a;obtain⟨h2,e2⟩:=List.getElem?_eq_some_iff.mp b;exact(List.getElem_inj hN).mp (e1.trans e2.symm)
theorem Ajp {M:Model}{A:Around}{E:Value→Shared→Prop}{i:Nat}{x:Str}{v:V}{u:Value}{Q:Unit→Shared→Prop}(I:Inv X pins σ H s)(hN:X.N.Nodup)(hi:X.N[i]?=some x)(hx:Loc X.env.scope x)(r:RelV v u)
 (h:∀s',Inv X pins (σ.set i (some v)) H s'→(∃a,Heap.SameBut a s.heap s'.heap∧(a=X.env.locals∨X.env.cells.lookup x=some a))→Q () s') (hf:X.fn x=true∨X.env.scope.names.lookup x=some .local:=by first | exact .inl rfl | exact .inr rfl | assumption):wpAny M A (storeName X.env x u) Q E s:=by
 obtain⟨m,hn,hl⟩:=id I.loc;have hcls:(X.env.scope.kind==.class||(X.env.scope.kind==.module&&X.env.locals != X.env.globals))=false:=by rw[I.ok.kind];rfl
 have hiσ:i<σ.length:=by rw[I.len];exact(List.getElem?_eq_some_iff.mp hi).1
 have cne:=I.cne;have tracked:∀{a:Addr} {h':Heap},(∃o,s.heap.get? a=some o∧H a=none)→Heap.SameBut a s.heap h'→HOk X.prog X.w H h':=fun {a h'} ha hs b ob e=>by
  obtain⟨_,_,hfree⟩:=ha;refine(I.hok b ob e).stay (fun c w' hc q=>(hs.2 c ?_).trans q) (fun _ q=>q) fun _ _ q=>q;rintro rfl;rcases hc with rfl | hc
  ·rw[hfree]at e;cases e
  ·rw[hfree]at hc;cases hc
 rcases hx with hk | hk
 ·refine wpAny_storeName_local hk hn (fun h' hn' hs=>?_) hcls;obtain⟨oL,_,_,hoL,_⟩:=id hn;refine h _ ⟨I.ok,I.os,I.bare,⟨fun b o e n hb hx=>?_,fun b o e n hb hx=>?_,I.base.free,fun b o e hx=>?_,I.base.tups,I.base.frzs,I.base.tbls⟩,⟨_,hn',fun j y v' e1 e2 e3=>?_⟩,fun y c e=>?_,I.free,I.freeC,fun p hp=>?_,tracked ⟨oL,hoL,I.free⟩ hs,by simpa using I.len⟩ ⟨_,hs,.inl rfl⟩
  ·exact(hs.2 b (Nat.ne_of_lt (Nat.lt_of_lt_of_le (Heap.lt_size e) I.ok.above))).trans (I.base.keep b o e n hb hx)
  ·obtain⟨sl,e1⟩:=I.base.slot b o e n hb hx;exact⟨sl,(hs.2 b (Nat.ne_of_lt (Nat.lt_of_lt_of_le (Heap.lt_size e) I.ok.above))).trans e1⟩
  ·obtain⟨o',e1⟩:=I.base.there b o e hx;exact⟨o',(hs.2 b (Nat.ne_of_lt (Nat.lt_of_lt_of_le (Heap.lt_size e) I.ok.above))).trans e1⟩
  ·by_cases hj:j=i
   ·subst hj;rw[hi]at e1;cases e1;rw[List.getElem?_set_self hiσ]at e2;cases e2;exact⟨u,r,.inl ⟨hk,by simp⟩⟩
   ·rw[List.getElem?_set_ne (Ne.symm hj)]at e2;obtain⟨u',r',q⟩:=hl j y v' e1 e2 e3;refine⟨u',r',?_⟩;rcases q with ⟨k,e⟩ | ⟨k,c,e,z⟩
    ·refine .inl ⟨k,?_⟩;have:y≠x:=fun e=>hj (Ait hN e1 (e ▸ hi));simp[this,e]
    ·exact .inr ⟨k,c,e,z.sameBut hs (cne y c e)⟩
  ·obtain⟨w',z⟩:=I.cell y c e;exact⟨w',z.sameBut hs (cne y c e)⟩
  ·obtain⟨e,n,ne,nf,d⟩:=I.pin p hp;exact⟨(hs.2 p.1 ne).trans e,n,ne,nf,d⟩
 ·have hfn:X.fn x=true:=by
   rcases hf with z | z
   ·exact z
   ·rw[z]at hk;cases hk
  obtain⟨c,hc⟩:=I.ok.has x (.inl hk);obtain⟨w',z⟩:=I.cell x c hc;refine wpAny_storeName_cell I.ok.kind hk hc z (fun h' hc' hs=>?_);obtain⟨oc,hoc,hocd⟩:=id z;refine h { s with heap:=h' } ⟨I.ok,I.os,I.bare,⟨fun b o e n hb hx=>?_,fun b o e n hb hx=>?_,I.base.free,fun b o e hx=>?_,I.base.tups,I.base.frzs,I.base.tbls⟩,⟨m,hn.sameBut hs (Ne.symm (cne x c hc)),fun j y v' e1 e2 e3=>?_⟩,fun y c' e=>?_,I.free,I.freeC,fun p hp=>?_,tracked ⟨oc,hoc,I.freeC x c hc⟩ hs,by simpa using I.len⟩ ⟨c,hs,.inr hc⟩
  ·exact(hs.2 b (Nat.ne_of_lt (Nat.lt_of_lt_of_le (Heap.lt_size e) (I.ok.cab x c hfn hc)))).trans (I.base.keep b o e n hb hx)
  ·obtain⟨sl,e1⟩:=I.base.slot b o e n hb hx;exact⟨sl,(hs.2 b (Nat.ne_of_lt (Nat.lt_of_lt_of_le (Heap.lt_size e) (I.ok.cab x c hfn hc)))).trans e1⟩
  ·obtain⟨o',e1⟩:=I.base.there b o e hx;exact⟨o',(hs.2 b (Nat.ne_of_lt (Nat.lt_of_lt_of_le (Heap.lt_size e) (I.ok.cab x c hfn hc)))).trans e1⟩
  ·by_cases hj:j=i
   ·subst hj;rw[hi]at e1;cases e1;rw[List.getElem?_set_self hiσ]at e2;cases e2;exact⟨u,r,.inr ⟨.inl hk,c,hc,hc'⟩⟩
   ·rw[List.getElem?_set_ne (Ne.symm hj)]at e2;obtain⟨u',r',q⟩:=hl j y v' e1 e2 e3;refine⟨u',r',?_⟩;rcases q with q | ⟨k,c',e,z'⟩
    ·exact .inl q
    ·refine .inr ⟨k,c',e,z'.sameBut hs ?_⟩;rintro rfl;exact hj (Ait hN e1 (I.ok.inj _ _ _ e hc ▸ hi))
  ·by_cases hcc:c'=c
   ·subst hcc;exact⟨_,hc'⟩
   ·obtain⟨w2,z2⟩:=I.cell y c' e;exact⟨w2,z2.sameBut hs hcc⟩
  ·obtain⟨e,n,ne,nf,d⟩:=I.pin p hp;refine⟨(hs.2 p.1 ?_).trans e,n,ne,nf,d⟩;intro q;rw[q,hoc]at e;have q':oc=p.2:=Option.some.inj e;exact d w' (by rw[←q'];exact hocd)
theorem Aid {M:Model}{A:Around}{E:Value→Shared→Prop}{i:Nat}{x:Str}{v:V}{u:Value}{Q:Unit→Shared→Prop}(I:Inv X pins σ H s)(hN:X.N.Nodup)(hi:X.N[i]?=some x)(hx:Loc X.env.scope x)(r:RelV v u)
 (h:∀s',Inv X pins (σ.set i (some v)) H s'→Q () s') (hf:X.fn x=true∨X.env.scope.names.lookup x=some .local:=by first | exact .inl rfl | exact .inr rfl | assumption):wpAny M A (storeName X.env x u) Q E s :=
 Ajp I hN hi hx r (fun s' I' _=>h s' I') hf
theorem Inv.call' {s':Shared}{ch:List Addr}(I:Inv X pins σ H s)(ho:s'.os=s.os)(u:Un (frs X.stack) ch H H' s.heap s'.heap)(hok:HOk X.prog X.w H' s'.heap)(hg:AllBare s'.gens)
 (hch:∀b∈ch,(b∈X.ex∨X.s_0.heap.objs.size≤b)∧b≠X.env.locals∧(∀x c,X.env.cells.lookup x=some c→c≠b)∧∀p∈X.pn++pins,p.1≠b):Inv X pins σ H' s':=by
 obtain⟨h',g',d',t',o'⟩:=s';have e:o'=s.os:=ho;subst e;exact I.call (g':=g') (t':=t') (d':=d') u hok hg hch
end
abbrev XK:=Value→Option Addr→Hp→Prop
abbrev St:=List (Option V)
abbrev VK:=V→Hp→Prop
abbrev TE:=St→Hp→VK→Prop
abbrev TT:=St→Hp→(Bool→Hp→Prop)→Prop
abbrev TA:=St→Hp→(List V→Hp→Prop)→Prop
structure Aun where
 nx:St→Hp→Prop
 rt:VK
 bk:St→Hp→Prop:=fun _ _=>False
 ct:St→Hp→Prop:=fun _ _=>False
abbrev TS:=Aun→St→Hp→Prop
def EP (X:Cx)(pins:List (Addr×Obj))(σ:St)(Q:VK)(u:Value)(s':Shared):Prop:=∃v H',Inv X pins σ H' s'∧RelV v u∧Q v H'
def TP (X:Cx)(pins:List (Addr×Obj))(σ:St)(Q:Bool→Hp→Prop)(b:Bool)(s':Shared):Prop:=∃H',Inv X pins σ H' s'∧Q b H'
def AP (X:Cx)(pins:List (Addr×Obj))(σ:St)(Q:List V→Hp→Prop)(us:List Value)(s':Shared):Prop:=∃vs H',Inv X pins σ H' s'∧Vals vs us∧Q vs H'
def SP (X:Cx)(pins:List (Addr×Obj))(D:Aun)(f:Flow)(s':Shared):Prop :=
 match f with
 | .next=>∃σ' H',Inv X pins σ' H' s'∧D.nx σ' H'
 | .brk=>∃σ' H',Inv X pins σ' H' s'∧D.bk σ' H'
 | .cont=>∃σ' H',Inv X pins σ' H' s'∧D.ct σ' H'
 | .ret u=>∃v σ' H',Inv X pins σ' H' s'∧RelV v u∧D.rt v H'
def PE (X:Cx)(e:Expr)(t:TE):Prop :=
 ∀(pins:List (Addr×Obj)) (s:Shared) (σ:St) (H:Hp) (Q:VK),Inv X pins σ H s→t σ H Q→wpAny (model X.prog X.w) X.A (eval e X.env) (EP X pins σ Q) X.xe s
def PT (X:Cx)(e:Expr)(t:TT):Prop :=
 ∀(pins:List (Addr×Obj)) (s:Shared) (σ:St) (H:Hp) (Q:Bool→Hp→Prop),Inv X pins σ H s→t σ H Q→wpAny (model X.prog X.w) X.A (isTrue e X.env (eval e X.env)) (TP X pins σ Q) X.xe s
def PW (X:Cx)(e:Expr)(t:TT):Prop :=
 ∀(whole:Sem Value) (pins:List (Addr×Obj)) (s:Shared) (σ:St) (H:Hp) (Q:Bool→Hp→Prop),Inv X pins σ H s→t σ H Q→wpAny (model X.prog X.w) X.A (isTrue e X.env whole) (TP X pins σ Q) X.xe s
theorem PW.pt {X:Cx}{e:Expr}{t:TT}(h:PW X e t):PT X e t:=h _
def PA (X:Cx)(es:List Expr)(t:TA):Prop :=
 ∀(pos:Pos) (pins:List (Addr×Obj)) (s:Shared) (σ:St) (H:Hp) (Q:List V→Hp→Prop),Inv X pins σ H s→t σ H Q→wpAny (model X.prog X.w) X.A (spliced (backTo pos (starEach es X.env))) (AP X pins σ Q) X.xe s
def PS (X:Cx)(st:Stmt)(t:TS):Prop :=
 ∀(pins:List (Addr×Obj)) (s:Shared) (σ:St) (H:Hp) (D:Aun),Inv X pins σ H s→t D σ H→wpAny (model X.prog X.w) X.A (exec st X.env) (SP X pins D) X.xe s
def PSs (X:Cx)(st:List Stmt)(t:TS):Prop :=
 ∀(pins:List (Addr×Obj)) (s:Shared) (σ:St) (H:Hp) (D:Aun),Inv X pins σ H s→t D σ H→wpAny (model X.prog X.w) X.A (execs st X.env) (SP X pins D) X.xe s
theorem thn {α:Type}{t:Sem α}{Q Q':α→Shared→Prop}{M:Model}{A:Around}{E:Value→Shared→Prop}{s:Shared}(h:wpAny M A t Q E s)(hQ:∀a s,Q a s→Q' a s):wpAny M A t Q' E s:=wpAny_mono h hQ fun _ _ x=>x
end L2
namespace L2
open PySem PySem.Spec PyProof.Rows
section
variable {X:Cx}
theorem bin {a b:Expr}{ta tb:TE}(ha:PE X a ta)(hb:PE X b tb){pins:List (Addr×Obj)}{s:Shared}{σ:St}{H:Hp}{R:V→V→Hp→Prop}(I:Inv X pins σ H s)(h:ta σ H fun x H1=>tb σ H1 fun y H2=>R x y H2)
 {α:Type} {Q:α→Shared→Prop} {f:Value→Value→Sem α}
 (hf:∀v u s2 x y H2,Inv X pins σ H2 s2→RelV x v→RelV y u→R x y H2→wpAny (model X.prog X.w) X.A (f v u) Q X.xe s2) :
 wpAny (model X.prog X.w) X.A (eval a X.env) (fun v s₁=>wpAny (model X.prog X.w) X.A (eval b X.env) (fun u s₂=>wpAny (model X.prog X.w) X.A (f v u) Q X.xe s₂) X.xe s₁) X.xe s:=by
 refine thn (ha pins s σ H _ I h) fun v s1 ⟨x,H1,I1,r1,q1⟩=>?_;refine thn (hb pins s1 σ H1 _ I1 q1) fun u s2 ⟨y,H2,I2,r2,q2⟩=>?_;exact hf v u s2 x y H2 I2 r1 r2 q2
def Acc (i:Nat):TE:=fun σ H Q=>∃v,σ[i]?=some (some v)∧Q v H
def tC (v:V):TE:=fun _ H Q=>Q v H
theorem Ayv {i:Nat}{x:Str}{pos:Pos}(hN:X.N[i]?=some x)(hv:Vis X.env.scope x)(hd:(x==("__debug__" : Str))=false:=by decide)(hcd:(x==("__classdict__" : Str))=false:=by decide):PE X (.Name x pos) (Acc i):=by
 intro pins s σ H Q I h;obtain⟨v,e,h⟩:=h;obtain⟨m,hn,hl⟩:=I.loc;obtain⟨u,r,l⟩:=hl i x v hN e hv;have fin:EP X pins σ Q u s:=⟨v,H,I,r,h⟩
 rcases l with ⟨hk,hm⟩ | ⟨hk,c,hc,hcell⟩
 ·exact wpAny_Name (wpAny_loadName_local I.ok.kind hk hn hm fin) hd
 ·rcases hk with hk | hk
  ·exact wpAny_Name (wpAny_loadName_cell I.ok.kind hk hc hcell fin) hd
  ·exact wpAny_Name (wpAny_loadName_free I.ok.kind hk hc hcell fin hcd) hd
theorem Aa5 {i j pos}:PE X (.Constant (.int i) j pos) (tC (.int i)):=fun _ _ _ H _ I h=>wpAny_Constant_int ⟨.int i,H,I.tok _,⟨_,rfl⟩,h⟩
theorem Ads {b j pos}:PE X (.Constant (.bool b) j pos) (tC (.bl b)):=fun _ _ _ H _ I h=>Constant_bool ⟨.bl b,H,I,rfl,h⟩
theorem Acv {j pos}:PE X (.Constant .none j pos) (tC .non):=fun _ _ _ H _ I h=>Constant_none ⟨.non,H,I,rfl,h⟩
def Gl (X:Cx)(x:Str):Prop:=X.env.kindOf x=some .globalImplicit
theorem Alk {E:Value→Shared→Prop}{pins:List (Addr×Obj)}{s:Shared}{σ:St}{H:Hp}{x:Str}{u:Value}{pos:Pos}{Q:Value→Shared→Prop}(I:Inv X pins σ H s)(hg:Gl X x)(hm:X.mg x=some u)(h:Q u s)
 (hd:(x==("__debug__" : Str))=false:=by decide):wpAny (model X.prog X.w) X.A (eval (.Name x pos) X.env) Q E s :=
 Calls.Name_function_global I.ok.kind hg (Calls.loadGlobal_global (by rw[I.ok.glob];exact I.mod.glob.keeps I.bk) hm h) hd
theorem Aka {E:Value→Shared→Prop}{pins:List (Addr×Obj)}{s:Shared}{σ:St}{H:Hp}{x:Str}{u:Value}{pos:Pos}{Q:Value→Shared→Prop}(I:Inv X pins σ H s)(hg:Gl X x)(hm:X.mg x=none)(hv:bootBuiltins x=some u)(h:Q u s)
 (hn:x≠"__name__":=by decide) (hd:(x==("__debug__" : Str))=false:=by decide):wpAny (model X.prog X.w) X.A (eval (.Name x pos) X.env) Q E s:=by
 obtain⟨mb,h1,h2⟩:=I.mod.blt;exact Calls.Name_function_global I.ok.kind hg (Calls.loadGlobal_builtin (by rw[I.ok.glob];exact I.mod.glob.keeps I.bk) hm (by rw[I.ok.blt];exact h1.keeps I.bk) ((h2 x hn).trans hv) h) hd
theorem Ab0 {x:Str}{v:V}{u:Value}{pos:Pos}(hg:Gl X x)(hm:X.mg x=some u)(r:RelV v u)(hd:(x==("__debug__" : Str))=false:=by decide):PE X (.Name x pos) (tC v) :=
 fun _ _ _ H _ I h=>Alk I hg hm ⟨v,H,I,r,h⟩ hd
variable {a b:Expr}{ta tb:TE}{pos:Pos}
def PC (X:Cx)(op:CmpOp)(a b:Expr)(t:TE):Prop :=
 ∀(pins:List (Addr×Obj)) (s:Shared) (σ:St) (H:Hp) (Q:VK),Inv X pins σ H s→t σ H Q→
  wpAny (model X.prog X.w) X.A (eval a X.env) (fun v s₁=>wpAny (model X.prog X.w) X.A (eval b X.env) (fun u s₂=>wpAny (model X.prog X.w) X.A (compareOp op v u) (EP X pins σ Q) X.xe s₂) X.xe s₁) X.xe s
def tB (t:TE):TT:=fun σ H Q=>t σ H fun x H1=>∃c,x=.bl c∧Q c H1
theorem Ag3 {op:CmpOp}{t:TE}(h:PC X op a b t)(h1:behindInMarks op b=false:=by first | exact nobehind _ (by decide) (by decide) | rfl):PT X (.Compare a [op] [b] pos) (tB t):=by
 intro pins s σ H Q I hw;refine wpAny_isTrue_Compare1 (thn (h pins s σ H _ I hw) fun v s1 h1=>thn h1 fun u s2 h2=>thn h2 fun c s3 ⟨x,H1,I1,r1,q1⟩=>?_) h1;obtain⟨d,rfl,q⟩:=q1;cases r1;exact wpAny_truthy_bool ⟨H1,I1,q⟩
theorem Ad0 {e:Expr}{t:TE}(h:PE X e t)(he:∀whole,isTrue e X.env whole=(do let v ←whole;standAt e.pos;holding [v] (truthy v)):=by intro _;rfl):PT X e (tB t):=by
 intro pins s σ H Q I hw;refine isTrue_plain (thn (h pins s σ H _ I hw) fun v s1 ⟨x,H1,I1,r1,q1⟩=>?_) (he _);obtain⟨d,rfl,q⟩:=q1;cases r1;exact wpAny_truthy_bool ⟨H1,I1,q⟩
variable {tA tB':TT}{rest:List Expr}
def Bbj (t u:TT):TT:=fun σ H Q=>t σ H fun c H1=>if c=true then u σ H1 Q else Q false H1
def tOr (t u:TT):TT:=fun σ H Q=>t σ H fun c H1=>if c=true then Q true H1 else u σ H1 Q
def Bbi (t:TT):TT:=fun σ H Q=>t σ H fun c H1=>Q (!c) H1
theorem Adr (ha:PT X a tA):PW X (.BoolOp .And [a] pos) tA:=by
 intro wh pins s σ H Q I h;refine isTrue_and (thn (ha pins s σ H Q I h) fun c s1 e=>?_);cases c with
 | true=>exact isTrue_and_nil e
 | false=>exact e
theorem Ahp (ha:PT X a tA):PW X (.BoolOp .Or [a] pos) tA:=by
 intro wh pins s σ H Q I h;refine isTrue_or (thn (ha pins s σ H Q I h) fun c s1 e=>?_);cases c with
 | false=>exact isTrue_or_nil e
 | true=>exact e
theorem Ag0 (ha:PT X a tA)(hb:PW X (.BoolOp .And (b::rest) pos) tB'):PW X (.BoolOp .And (a::b::rest) pos) (Bbj tA tB'):=by
 intro wh pins s σ H Q I h;refine isTrue_and (thn (ha pins s σ H _ I h) fun c s1 ⟨H1,I1,q1⟩=>?_);cases c with
 | true=>exact hb wh pins s1 σ H1 Q I1 q1
 | false=>exact⟨H1,I1,q1⟩
theorem Anu (ha:PT X a tA)(hb:PW X (.BoolOp .Or (b::rest) pos) tB'):PW X (.BoolOp .Or (a::b::rest) pos) (tOr tA tB'):=by
 intro wh pins s σ H Q I h;refine isTrue_or (thn (ha pins s σ H _ I h) fun c s1 ⟨H1,I1,q1⟩=>?_);cases c with
 | true=>exact⟨H1,I1,q1⟩
 | false=>exact hb wh pins s1 σ H1 Q I1 q1
theorem Aq2 (ha:PT X a tA):PT X (.UnaryOp .Not a pos) (Bbi tA):=by
 intro pins s σ H Q I h;exact isTrue_not (ha pins s σ H (fun c H1=>Q (!c) H1) I h)
def Bam (ta tb:TE):TE:=fun σ H Q=>ta σ H fun x H1=>∃c,x=.bl c∧if c=true then tb σ H1 Q else Q (.bl false) H1
def Bbu (ta tb:TE):TE:=fun σ H Q=>ta σ H fun x H1=>∃c,x=.bl c∧if c=true then Q (.bl true) H1 else tb σ H1 Q
def Bah (ta:TE):TE:=fun σ H Q=>ta σ H fun x H1=>∃c,x=.bl c∧Q (.bl (!c)) H1
theorem Av0 {op}{t:TE}(h:PE X a t):PE X (.BoolOp op [a] pos) t:=fun pins s σ H Q I hw=>BoolOp_one (h pins s σ H Q I hw)
theorem Ayz (ha:PE X a ta)(hb:PE X (.BoolOp .And (b::rest) pos) tb):PE X (.BoolOp .And (a::b::rest) pos) (Bam ta tb):=by
 intro pins s σ H Q I h;refine BoolOp_and (thn (ha pins s σ H _ I h) fun v s1 ⟨x,H1,I1,r1,q1⟩=>?_);obtain⟨c,rfl,q1⟩:=q1;cases r1;refine wpAny_truthy_bool ?_;cases c with
 | true=>exact hb pins s1 σ H1 Q I1 q1
 | false=>exact⟨.bl false,H1,I1,rfl,q1⟩
theorem Bau (ha:PE X a ta)(hb:PE X (.BoolOp .Or (b::rest) pos) tb):PE X (.BoolOp .Or (a::b::rest) pos) (Bbu ta tb):=by
 intro pins s σ H Q I h;refine BoolOp_or (thn (ha pins s σ H _ I h) fun v s1 ⟨x,H1,I1,r1,q1⟩=>?_);obtain⟨c,rfl,q1⟩:=q1;cases r1;refine wpAny_truthy_bool ?_;cases c with
 | false=>exact hb pins s1 σ H1 Q I1 q1
 | true=>exact⟨.bl true,H1,I1,rfl,q1⟩
theorem Ayw (ha:PE X a ta):PE X (.UnaryOp .Not a pos) (Bah ta):=by
 intro pins s σ H Q I h;refine UnaryOp_ (thn (ha pins s σ H _ I h) fun v s1 ⟨x,H1,I1,r1,q1⟩=>?_);obtain⟨c,rfl,q1⟩:=q1;cases r1;exact not_of (wpAny_truthy_bool ⟨.bl (!c),H1,I1,rfl,q1⟩)
def tIf (t:TT)(ta tb:TE):TE:=fun σ H Q=>t σ H fun c H1=>if c=true then ta σ H1 Q else tb σ H1 Q
theorem At0 {c:Expr}(hc:PT X c tA)(ha:PE X a ta)(hb:PE X b tb):PE X (.IfExp c a b pos) (tIf tA ta tb):=by
 intro pins s σ H Q I h;refine wpAny_IfExp (thn (hc pins s σ H _ I h) fun d s1 ⟨H1,I1,q1⟩=>?_);cases d with
 | true=>exact ha pins s1 σ H1 Q I1 q1
 | false=>exact hb pins s1 σ H1 Q I1 q1
end
end L2
namespace L2
open PySem PySem.Spec PyProof.Rows
def SqL (K:W.Frag)(H:Hp)(a:Addr)(xs:List V):Prop :=
 Rd H a (.lst xs)∨
  ∃(o:Obj) (its:Array Value) (n:Nat),K.lookup a=some o∧o.cls=.type "list"∧o.dict=none∧o.data=.seq its n∧its.size≤sizeLine∧Vals xs its.toList
def SqT (K:W.Frag)(H:Hp)(a:Addr)(xs:List V):Prop :=
 Rd H a (.tup xs)∨
  ∃(o:Obj) (its:Array Value) (n:Nat),K.lookup a=some o∧o.cls=.type "tuple"∧o.data=.seq its n∧its.size≤sizeLine∧Vals xs its.toList
def Bcu:Value→Option V
 | .none=>some .non
 | .bool b=>some (.bl b)
 | .int i _=>some (.int i)
 | .str x _=>some (.str x)
 | .bytes b _=>some (.byt b)
 | .float b _=>some (.flt b)
 | .ref a=>some (.ref a)
 | .type n=>some (.ty n)
 | _=>none
theorem RelV.abs {x:V}{u:Value}(r:RelV x u):Bcu u=some x:=by
 cases x with
 | non=>cases r;rfl
 | bl _=>cases r;rfl
 | int _=>obtain⟨t,rfl⟩:=r;rfl
 | str _=>obtain⟨t,rfl⟩:=r;rfl
 | byt _=>obtain⟨t,rfl⟩:=r;rfl
 | flt _=>obtain⟨t,rfl⟩:=r;rfl
 | ref _=>cases r;rfl
 | ty _=>cases r;rfl
theorem RelV.inj {x y:V}{u:Value}(r:RelV x u)(q:RelV y u):x=y:=Option.some.inj (r.abs.symm.trans q.abs)
theorem Vals.inj:∀{xs ys:List V} {us:List Value},Vals xs us→Vals ys us→xs=ys
 | _,_,_,.nil,.nil=>rfl
 | _,_,_,.cons r t,.cons r' t'=>by rw[r.inj r',Vals.inj t t']
section
variable {X:Cx}{pins:List (Addr×Obj)}{σ:St}{H:Hp}{s:Shared}{a:Addr}{xs ys:List V}
theorem SqL.of {K:W.Frag}(h:H a=some (.lst xs)):SqL K H a xs:=.inl (.inl h)
theorem SqT.of {K:W.Frag}(h:H a=some (.tup xs)):SqT K H a xs:=.inl (.inl h)
theorem Inv.list (I:Inv X pins σ H s)(h:SqL X.K H a xs):∃its:List Value,Vals xs its∧PlainL s.heap a its.toArray∧xs.length≤sizeLine:=by
 rcases h with h | ⟨o,its,n,hk,hc,hd,hs,hz,r⟩
 ·obtain⟨z,its,n,r,e⟩:=h.ok I.hok;exact⟨its,r,⟨_,n,e,rfl,rfl,rfl⟩,z⟩
 ·refine⟨its.toList,r,⟨o,n,I.kIn a o hk,hc,hd,by simpa using hs⟩,?_⟩;have e:=r.length;simp only[Array.length_toList]at e;lia
theorem Inv.tuple (I:Inv X pins σ H s)(h:SqT X.K H a xs):∃its:List Value,Vals xs its∧IsTup s.heap a its.toArray∧xs.length≤sizeLine:=by
 rcases h with h | ⟨o,its,n,hk,hc,hs,hz,r⟩
 ·obtain⟨z,its,r,p⟩:=h.ok I.hok;exact⟨its,r,p,z⟩
 ·refine⟨its.toList,r,⟨o,I.kIn a o hk,hc,n,by simpa using hs⟩,?_⟩;have e:=r.length;simp only[Array.length_toList]at e;lia
theorem Inv.list_inj (I:Inv X pins σ H s)(h:SqL X.K H a xs)(h':SqL X.K H a ys):xs=ys:=by
 obtain⟨its,r,⟨o,n,e,_,_,d⟩,_⟩:=I.list h;obtain⟨its',r',⟨o',n',e',_,_,d'⟩,_⟩:=I.list h';rw[e]at e';cases e';rw[d]at d';injection d' with d1 _
 have:its=its':=by simpa using congrArg Array.toList d1
 subst this;exact r.inj r'
theorem Inv.tuple_inj (I:Inv X pins σ H s)(h:SqT X.K H a xs)(h':SqT X.K H a ys):xs=ys:=by
 obtain⟨its,r,⟨o,e,_,n,d⟩,_⟩:=I.tuple h;obtain⟨its',r',⟨o',e',_,n',d'⟩,_⟩:=I.tuple h';rw[e]at e';cases e';rw[d]at d';injection d' with d1 _
 have:its=its':=by simpa using congrArg Array.toList d1
 subst this;exact r.inj r'
end
abbrev Cx.wish (X:Cx)(E:Value→Shared→Prop):Cx:={ X with xe:=E }
abbrev Cx.nox (X:Cx):Cx:=X.wish fun _ _=>False
theorem Cx.Ok.wish {X:Cx}(ok:X.Ok)(E:Value→Shared→Prop):(X.wish E).Ok :=
 ⟨ok.mod,ok.kind,ok.glob,ok.blt,ok.above,ok.inj,ok.has,ok.cab,ok.hd,ok.frames,ok.stk,ok.exf,ok.bs,ok.bsz,ok.noex,ok.exfs,ok.funs,ok.frf⟩
theorem Cx.Ok.unwish {X:Cx}{E:Value→Shared→Prop}(ok:(X.wish E).Ok):X.Ok :=
 ⟨ok.mod,ok.kind,ok.glob,ok.blt,ok.above,ok.inj,ok.has,ok.cab,ok.hd,ok.frames,ok.stk,ok.exf,ok.bs,ok.bsz,ok.noex,ok.exfs,ok.funs,ok.frf⟩
section
variable {X:Cx}{pins:List (Addr×Obj)}{σ:St}{H:Hp}{s:Shared}{E:Value→Shared→Prop}
theorem Inv.wish (I:Inv X pins σ H s)(E:Value→Shared→Prop):Inv (X.wish E) pins σ H s:=⟨I.ok.wish E,I.os,I.bare,I.base,I.loc,I.cell,I.free,I.freeC,I.pin,I.hok,I.len⟩
theorem Inv.unwish (I:Inv (X.wish E) pins σ H s):Inv X pins σ H s:=⟨I.ok.unwish,I.os,I.bare,I.base,I.loc,I.cell,I.free,I.freeC,I.pin,I.hok,I.len⟩
theorem SP.unwish {D:Aun}{f:Flow}{s':Shared}(h:SP (X.wish E) pins D f s'):SP X pins D f s':=by
 cases f with
 | next=>obtain⟨σ',H',I,q⟩:=h;exact⟨σ',H',I.unwish,q⟩
 | brk=>obtain⟨σ',H',I,q⟩:=h;exact⟨σ',H',I.unwish,q⟩
 | cont=>obtain⟨σ',H',I,q⟩:=h;exact⟨σ',H',I.unwish,q⟩
 | ret u=>obtain⟨v,σ',H',I,r,q⟩:=h;exact⟨v,σ',H',I.unwish,r,q⟩
theorem PSs.nox {st:List Stmt}{t:TS}(h:PSs X.nox st t):PSs X st t:=fun pins s σ H D I hw =>
 wpAny_mono (h pins s σ H D (I.wish _) hw) (fun _ _ q=>q.unwish) fun _ _ z=>False.elim z
end
section
variable {X:Cx}{st:Stmt}{rest:List Stmt}{t u:TS}{e:Expr}{te:TE}{pos:Pos}
def Ap5:TS:=fun D σ H=>D.nx σ H
def Bbh (t u:TS):TS:=fun D σ H=>t { D with nx:=u D } σ H
theorem Aae:PSs X [] Ap5:=fun _ _ σ H _ I h=>wpAny_execs_nil ⟨σ,H,I,h⟩
theorem Aa1 (h1:PS X st t)(h2:PSs X rest u):PSs X (st::rest) (Bbh t u):=by
 intro pins s σ H D I h;refine wpAny_execs_cons (thn (h1 pins s σ H { D with nx:=u D } I h) fun f s1 q=>?_);cases f with
 | next =>
  obtain⟨σ',H',I',q⟩:=q;exact h2 pins s1 σ' H' D I' q
 | ret v=>exact q
 | brk=>exact q
 | cont=>exact q
theorem Aa4 (h1:PS X st t):PSs X [st] t:=by
 intro pins s σ H D I h;refine wpAny_execs_cons (thn (h1 pins s σ H D I h) fun f s1 q=>?_);cases f with
 | next=>exact wpAny_execs_nil q
 | ret v=>exact q
 | brk=>exact q
 | cont=>exact q
theorem Inv.quiet {pins:List (Addr×Obj)}{σ:St}{H:Hp}{s:Shared}(I:Inv X pins σ H s):interactive X.env=false:=by simp[interactive,I.ok.kind]
def Ay9 (te:TE):TS:=fun D σ H=>te σ H fun _ H1=>D.nx σ H1
theorem Abo (he:PE X e te)(hs:swapsWith e none pos.line X.env=pure false:=by rfl):PS X (.Expr e pos) (Ay9 te):=by
 intro pins s σ H D I h;exact wpAny_Expr_any (thn (he pins s σ H _ I h) fun v s1 ⟨x,H1,I1,r1,q1⟩=>⟨σ,H1,I1,q1⟩) I.quiet hs
def As4 (te:TE):TS:=fun D σ H=>te σ H D.rt
theorem Aa9 (he:PE X e te):PS X (.Return (some e) pos) (As4 te):=by
 intro pins s σ H D I h;exact wpAny_Return_some (thn (he pins s σ H _ I h) fun v s1 ⟨x,H1,I1,r1,q1⟩=>⟨x,σ,H1,I1,r1,q1⟩)
def Ay8 (c:TT)(t u:TS):TS:=fun D σ H=>c σ H fun b H1=>if b=true then t D σ H1 else u D σ H1
theorem Aat {c:Expr}{a b:List Stmt}{tc:TT}(hc:PT X c tc)(ha:PSs X a t)(hb:PSs X b u):PS X (.If c a b pos) (Ay8 tc t u):=by
 intro pins s σ H D I h;refine wpAny_If (thn (hc pins s σ H _ I h) fun d s1 ⟨H1,I1,q1⟩=>?_);cases d with
 | true=>exact ha pins s1 σ H1 D I1 q1
 | false=>exact hb pins s1 σ H1 D I1 q1
end
abbrev TG:=V→St→Hp→(St→Hp→Prop)→Prop
abbrev TGs:=List V→St→Hp→(St→Hp→Prop)→Prop
def PG (X:Cx)(target:Expr)(t:TG):Prop :=
 ∀(pins:List (Addr×Obj)) (s:Shared) (σ:St) (H:Hp) (v:V) (u:Value) (Q:St→Hp→Prop),Inv X pins σ H s→RelV v u→t v σ H Q→
  wpAny (model X.prog X.w) X.A (assign target X.env u) (fun _ s'=>∃σ' H',Inv X pins σ' H' s'∧Q σ' H') X.xe s
def PGs (X:Cx)(ts:List Expr)(t:TGs):Prop :=
 ∀(pins:List (Addr×Obj)) (s:Shared) (σ:St) (H:Hp) (vs:List V) (us:List Value) (Q:St→Hp→Prop),Inv X pins σ H s→Vals vs us→t vs σ H Q→
  wpAny (model X.prog X.w) X.A (assignInOrder ((assignEach ts X.env).map (·.2)) us) (fun _ s'=>∃σ' H',Inv X pins σ' H' s'∧Q σ' H') X.xe s
abbrev TIp:=V→V→Hp→VK→Prop
def PIp (X:Cx)(op:Operator)(t:TIp):Prop :=
 ∀(pins:List (Addr×Obj)) (s:Shared) (σ:St) (H:Hp) (x y:V) (v u:Value) (Q:VK),Inv X pins σ H s→RelV x v→RelV y u→t x y H Q→
  wpAny (model X.prog X.w) X.A (inplaceOp op v u) (EP X pins σ Q) X.xe s
section
variable {X:Cx}{pos:Pos}
def Aoj (i:Nat):TG:=fun v σ H Q=>Q (σ.set i (some v)) H
theorem Awd {i:Nat}{x:Str}(hN:X.N.Nodup)(hi:X.N[i]?=some x)(hx:Loc X.env.scope x)(hf:X.fn x=true∨X.env.scope.names.lookup x=some .local:=by first | exact .inl rfl | exact .inr rfl | assumption):PG X (.Name x pos) (Aoj i):=by
 intro pins s σ H v u Q I r h;exact wpAny_assign_Name (Aid I hN hi hx r (fun s' I'=>⟨_,H,I',h⟩) hf)
def Bcm:TGs:=fun vs σ H Q=>vs=[]∧Q σ H
def Bb7 (t:TG)(u:TGs):TGs:=fun vs σ H Q=>∃v r,vs=v::r∧t v σ H fun σ' H'=>u r σ' H' Q
theorem Abc:PGs X [] Bcm:=by
 intro pins s σ H vs us Q I r h;obtain⟨e,h⟩:=h;subst e;cases r;exact assignInOrder_nil ⟨σ,H,I,h⟩
theorem Aag {e:Expr}{es:List Expr}{t:TG}{u:TGs}(h1:PG X e t)(h2:PGs X es u)
 (hs:(assignEach (e::es) X.env).map (·.2)=assign e X.env::(assignEach es X.env).map (·.2):=by rfl):PGs X (e::es) (Bb7 t u):=by
 intro pins s σ H vs us Q I r h;obtain⟨v,vr,e1,h⟩:=h;subst e1;cases r with
 | cons r rr =>
  rw[hs];refine assignInOrder_cons (thn (h1 pins s σ H _ _ _ I r h) fun _ s1 ⟨σ1,H1,I1,q1⟩=>?_);exact h2 pins s1 σ1 H1 _ _ Q I1 rr q1
def Bcl (K:W.Frag)(n:Nat)(t:TGs):TG:=fun v σ H Q=>∃a xs,v=.ref a∧SqT K H a xs∧xs.length=n∧t xs σ H Q
theorem Abu {es:List Expr}{k:Nat}{t:TGs}{n:Nat}(hc:X.calm=true)(h:PGs X es t)
 (hn:(assignEach es X.env).length=n:=by rfl) (hst:(assignEach es X.env).findIdx? (·.1)=none:=by rfl):PG X (.Tuple es k pos) (Bcl X.K n t):=by
 intro pins s σ H v u Q I r hw;obtain⟨a,xs,e1,hq,hl,hw⟩:=hw;subst e1;cases r;obtain⟨its,rv,ht,hz⟩:=I.tuple hq;refine assign_Tuple_tuple (I.ok.hd hc) ht (by simp[hn,←hl,rv.length]) hst fun h' hx=>?_;have I1:Inv X pins σ H { s with heap:=h' }:=I.kept (t':=s.toks) fun b o e=>hx b o (Nat.ne_of_lt (Heap.lt_size e)) e;exact h pins _ σ H xs _ Q I1 (by simpa using rv) hw
def Bal (te:TE)(g:TG):TS:=fun D σ H=>te σ H fun x H1=>g x σ H1 D.nx
theorem Auz {i:Nat}{x:Str}{e:Expr}{te:TE}{pos':Pos}(hN:X.N.Nodup)(hi:X.N[i]?=some x)(hx:Loc X.env.scope x)(he:PE X e te)(hs:swapsWith e (some (.Name x pos')) pos.line X.env=pure false:=by rfl)(hf:X.fn x=true∨X.env.scope.names.lookup x=some .local:=by first | exact .inl rfl | exact .inr rfl | assumption) :
 PS X (.Assign [.Name x pos'] e pos) (Bal te (Aoj i)):=by
 intro pins s σ H D I h;refine wpAny_Assign_Name (thn (he pins s σ H _ I h) fun v s1 ⟨y,H1,I1,r1,q1⟩=>?_) hs;exact Aid I1 hN hi hx r1 (fun s2 I2=>⟨_,H1,I2,q1⟩) hf
def Bbz (i:Nat)(te:TE)(ti:TIp):TS:=fun D σ H=>∃x,σ[i]?=some (some x)∧te σ H fun y H1=>ti x y H1 fun z H2=>D.nx (σ.set i (some z)) H2
theorem Amn {i:Nat}{x:Str}{e:Expr}{te:TE}{op:Operator}{ti:TIp}{pos':Pos}(hN:X.N.Nodup)(hi:X.N[i]?=some x)(hx:Loc X.env.scope x)(he:PE X e te)(ho:PIp X op ti)(hf:X.fn x=true∨X.env.scope.names.lookup x=some .local:=by first | exact .inl rfl | exact .inr rfl | assumption) :
 PS X (.AugAssign (.Name x pos') op e pos) (Bbz i te ti):=by
 intro pins s σ H D I h;obtain⟨v,e1,h⟩:=h;obtain⟨m,hn,hl⟩:=I.loc;have vis:Vis X.env.scope x:=by rcases hx with k | k;exact .inl k;exact .inr (.inl k)
 obtain⟨u,r,l⟩:=hl i x v hi e1 vis;refine wpAny_AugAssign_Name ?_;have go:wpAny (model X.prog X.w) X.A (eval e X.env) (fun w s₂=>wpAny (model X.prog X.w) X.A (inplaceOp op u w) (fun r s₃=>wpAny (model X.prog X.w) X.A (storeName X.env x r) (fun _=>SP X pins D .next) X.xe s₃) X.xe s₂) X.xe s:=by
  refine thn (he pins s σ H _ I h) fun w s1 ⟨y,H1,I1,r1,q1⟩=>?_;refine thn (ho pins s1 σ H1 v y u w _ I1 r r1 q1) fun z s2 ⟨zv,H2,I2,r2,q2⟩=>?_;exact Aid I2 hN hi hx r2 (fun s3 I3=>⟨_,H2,I3,q2⟩) hf
 rcases l with ⟨hk,hm⟩ | ⟨hk,c,hc,hcell⟩
 ·exact wpAny_loadName_local I.ok.kind hk hn hm go
 ·rcases hk with hk | hk
  ·exact wpAny_loadName_cell I.ok.kind hk hc hcell go
  ·rcases hx with k | k
   ·have:X.env.scope.names.lookup x=some .free:=hk;rw[k]at this;cases this
   ·have:X.env.scope.names.lookup x=some .free:=hk;rw[k]at this;cases this
def ipI (f:Int→Int→Int):TIp:=fun x y H Q=>∃i j,x=.int i∧y=.int j∧Q (.int (f i j)) H
theorem Ar8:PIp X .Add (ipI fun i j=>i+j):=by
 intro pins s σ H x y v u Q I r1 r2 h;obtain⟨i,j,e1,e2,q⟩:=h;subst e1;subst e2;obtain⟨t,rfl⟩:=r1;obtain⟨t',rfl⟩:=r2;exact iadd_int ⟨.int _,H,I.tok _,⟨_,rfl⟩,q⟩
theorem Azr:PIp X .Sub (ipI fun i j=>i-j):=by
 intro pins s σ H x y v u Q I r1 r2 h;obtain⟨i,j,e1,e2,q⟩:=h;subst e1;subst e2;obtain⟨t,rfl⟩:=r1;obtain⟨t',rfl⟩:=r2;exact isub_int ⟨.int _,H,I.tok _,⟨_,rfl⟩,q⟩
end
section
variable {X:Cx}{pos:Pos}
def Ay7 (c:TT)(tb:TS):TS:=fun D σ H=>∃W:Nat→St→Hp→Prop,(∃m,W m σ H)∧∀m σ H,W m σ H→
 c σ H fun b H1=>if b=true then ∃N:St→Hp→Prop,(∀σ' H',N σ' H'→∃m',m'<m∧W m' σ' H')∧tb { D with nx:=N,ct:=N,bk:=D.nx } σ H1 else D.nx σ H1
theorem Ain {c:Expr}{body:List Stmt}{tc:TT}{tb:TS}(hp:PassesOwn (model X.prog X.w) X.A X.env X.xe)(hc:PT X c tc)(hb:PSs X body tb):PS X (.While c body [] pos) (Ay7 tc tb):=by
 intro pins s σ H D I h;obtain⟨W,⟨m0,w0⟩,turn⟩:=h;refine wpAny_While (codeAny_whileLoop (fun n s'=>∃σ' H',Inv X pins σ' H' s'∧W n σ' H') ?_ m0 ⟨σ,H,I,w0⟩);rintro n s1 ⟨σ1,H1,I1,w1⟩;refine wpAny_passesOwn hp (thn (hc pins s1 σ1 H1 _ I1 (turn n σ1 H1 w1)) fun b s2 ⟨H2,I2,q2⟩=>?_);cases b with
 | true =>
  obtain⟨N,hN,q2⟩:=q2;rw[if_pos rfl];refine wpAny_passesOwn hp (thn (hb pins s2 σ1 H2 _ I2 q2) fun f s3 q3=>?_);cases f with
  | next =>
   obtain⟨σ3,H3,I3,n3⟩:=q3;obtain⟨m',hm,w3⟩:=hN σ3 H3 n3;exact⟨m',hm,σ3,H3,I3,w3⟩
  | cont =>
   obtain⟨σ3,H3,I3,n3⟩:=q3;obtain⟨m',hm,w3⟩:=hN σ3 H3 n3;exact⟨m',hm,σ3,H3,I3,w3⟩
  | brk=>exact q3
  | ret v=>exact q3
 | false =>
  rw[if_neg Bool.false_ne_true];exact wpAny_execs_nil ⟨σ1,H2,I2,q2⟩
end
structure It where
 go:Nat→Hp→Prop
 yld:Nat→Hp→V→Hp→Prop
 stop:Nat→Hp→Prop
def FpOk (X:Cx)(pins:List (Addr×Obj))(H:Hp)(b:Addr):Prop :=
 H b=none∧b≠X.env.locals∧b∉X.fs∧(b∈X.ex∨X.s_0.heap.objs.size≤b)∧(∀x c,X.env.cells.lookup x=some c→c≠b)∧∀p∈X.pn++pins,p.1≠b
theorem Inv.fpOk {X:Cx}{pins:List (Addr×Obj)}{σ:St}{H H':Hp}{s:Shared}{b:Addr}(I:Inv X pins σ H s)(hb:s.heap.objs.size≤b)(hn:H' b=none):FpOk X pins H' b:=by
 refine⟨hn,Nat.ne_of_gt (Nat.lt_of_lt_of_le I.lt hb),I.nofs hb,.inr (Nat.le_trans I.sz hb),fun x c e z=>?_,fun p hp z=>?_⟩
 ·obtain⟨v,q⟩:=I.cell x c e;exact absurd (Nat.lt_of_lt_of_le q.lt (by rw[z];exact hb)) (Nat.lt_irrefl _)
 ·exact absurd (Nat.lt_of_lt_of_le (Heap.lt_size (I.pin p hp).1) (by rw[z];exact hb)) (Nat.lt_irrefl _)
structure Azz (P:Program)(w:World)(K:W.Frag)(tg:Expr)(J:It)(fp:List Addr)(it:Addr)(tn:Nat→Heap→Prop):Prop where
 mem:it∈fp
 obj:∀i h,tn i h→∀b∈fp,∃o,h.get? b=some o∧∀v,o.data≠.cell v
 keep:∀i h h',tn i h→(∀b∈fp,∀o,h.get? b=some o→h'.get? b=some o)→tn i h'
 item:∀(X:Cx),X.prog=P→X.w=w→X.K=K→X.calm=true→∀(i:Nat) (pins:List (Addr×Obj)) (s:Shared) (σ:St) (H:Hp) (E:Value→Shared→Prop),Inv X pins σ H s→(∀b∈fp,FpOk X pins H b)→tn i s.heap→J.go i H→
  wpAny (model P w) X.A (pyNext (.ref it)) (fun r s1=>∃u,r=some u∧
   wpAny (model P w) X.A (letOwnedTupleGo tg (.ref it) u) (fun _ s2=>∃x H',Inv X pins σ H' s2∧RelV x u∧J.yld i H x H'∧tn (i+1) s2.heap∧∀b∈fp,H' b=none) E s1) E s
 done:∀(X:Cx),X.prog=P→X.w=w→X.K=K→X.calm=true→∀(i:Nat) (pins:List (Addr×Obj)) (s:Shared) (σ:St) (H:Hp) (E:Value→Shared→Prop),Inv X pins σ H s→(∀b∈fp,FpOk X pins H b)→tn i s.heap→J.stop i H→
  wpAny (model P w) X.A (pyNext (.ref it)) (fun r s1=>r=none∧Inv X pins σ H s1) E s
 self:∀(A:Around) (i:Nat) (s:Shared) (Q:Value→Shared→Prop) (E:Value→Shared→Prop),tn i s.heap→Q (.ref it) s→wpAny (model P w) A (pyIter (.ref it)) Q E s
abbrev TI:=St→Hp→(It→Hp→Prop)→Prop
def PIE (X:Cx)(pins:List (Addr×Obj))(σ:St)(tg:Expr)(R:It→Hp→Prop)(itv:Value)(s2:Shared):Prop :=
 ∃(it:Addr) (fp:List Addr) (tn:Nat→Heap→Prop) (J:It) (H':Hp),itv=.ref it∧Inv X pins σ H' s2∧Azz X.prog X.w X.K tg J fp it tn∧tn 0 s2.heap∧(∀b∈fp,FpOk X pins H' b)∧R J H'
def PI (X:Cx)(tg iter:Expr)(wi:TI):Prop :=
 ∀(pins:List (Addr×Obj)) (s:Shared) (σ:St) (H:Hp) (R:It→Hp→Prop),Inv X pins σ H s→wi σ H R→
  wpAny (model X.prog X.w) X.A (eval iter X.env) (fun v s1=>wpAny (model X.prog X.w) X.A (pyIter v) (PIE X pins σ tg R) X.xe s1) X.xe s
theorem Ax9 {M:Model}{A:Around}{E:Value→Shared→Prop}{s:Shared}{tg:Expr}{it:Addr}{u:Value}{o:Obj}{n:String}{vs:Array Value}{Q:Unit→Shared→Prop}(ho:s.heap.get? it=some o)(hc:o.cls=.type n)(hd:o.data=.fields vs)
 (hn:["enumerate","zip","dict_itemiterator","dict_reverseitemiterator","odict_iterator","itertools.zip_longest","itertools.pairwise"].contains n=false) (hQ:Q () s):wpAny M A (letOwnedTupleGo tg (.ref it) u) Q E s:=by
 unfold letOwnedTupleGo;cases tg<;>first
  | exact wpAny_pure hQ
  | (cases u<;>first
   | exact wpAny_pure hQ
   | (refine wpAny_bind (wpAny_load ho ?_)
      rw[hc,hd];show wpAny M A (if (["enumerate","zip","dict_itemiterator","dict_reverseitemiterator","odict_iterator","itertools.zip_longest","itertools.pairwise"].contains n&&vs[0]?==some (rawInt _))=true then _ else _) Q E s;rw[if_neg (by intro h;rw[hn,Bool.false_and]at h;cases h)]
      exact wpAny_pure hQ))
def Itl (K:W.Frag)(a:Addr):It :=
 ⟨fun i H=>∃xs x,SqL K H a xs∧xs[i]?=some x,fun i H x H'=>H'=H∧∀xs,SqL K H a xs→xs[i]?=some x,fun i H=>∃xs,SqL K H a xs∧xs.length≤i⟩
def Itt (K:W.Frag)(a:Addr):It :=
 ⟨fun i H=>∃xs x,SqT K H a xs∧xs[i]?=some x,fun i H x H'=>H'=H∧∀xs,SqT K H a xs→xs[i]?=some x,fun i H=>∃xs,SqT K H a xs∧xs.length≤i⟩
def Itr (lo:Int)(n:Nat):It:=⟨fun i _=>i<n,fun i H x H'=>H'=H∧x=.int (lo+i),fun i _=>n≤i⟩
theorem Aoz {P:Program}{w:World}{K:W.Frag}{tg:Expr}(a it:Addr):Azz P w K tg (Itl K a) [it] it (fun i h=>h.IsListIter it a i) where
 mem:=by simp
 obj:=fun i h st b hb=>by
  have e:b=it:=by simpa using hb
  subst e;obtain⟨o,e,c,d⟩:=st;exact⟨o,e,fun v z=>by rw[d]at z;cases z⟩
 keep:=fun i h h' st k=>st.at fun o e=>k it (by simp) o e
 item:=by
  intro X hP hw hK hc i pins s σ H E I hf st hg;subst hP hw hK;obtain⟨xs,x,hq,hx⟩:=hg;obtain⟨its,rv,p,hz⟩:=I.list hq;obtain⟨u,hu,ru⟩:=rv.get hx;obtain⟨f0,f1,f2,f3,f4,f5⟩:=hf it (by simp);refine wpAny_pyNext_list_item st p.isList (x:=u) (by simpa using hu) fun h' st' sb=>?_;have I1:Inv X pins σ H { s with heap:=h' }:=I.turned (t':=s.toks) (fun b o hb e=>(sb.2 b hb).trans e) f0 f1 f3 f4 f5;obtain⟨o,e,c,d⟩:=id st'
  exact⟨u,rfl,Ax9 (s:={ s with heap:=h' }) e c d (by decide) ⟨x,H,I1,ru,⟨rfl,fun ys hy=>by rw[I.list_inj hy hq];exact hx⟩,st',fun b hb=>(hf b hb).1⟩⟩
 done:=by
  intro X hP hw hK hc i pins s σ H E I hf st hg;subst hP hw hK;obtain⟨xs,hq,hx⟩:=hg;obtain⟨its,rv,p,hz⟩:=I.list hq;obtain⟨f0,f1,f2,f3,f4,f5⟩:=hf it (by simp);have hl:=rv.length;exact wpAny_pyNext_list_end (I.ok.hd hc) st p.isList (by simp;lia) fun h' eb=>⟨rfl,I.turned (t':=s.toks) (fun b o hb e=>eb b o hb e) f0 f1 f3 f4 f5⟩
 self:=fun _ _ _ _ _ st h=>wpAny_pyIter_listiter st h
theorem Ank {P:Program}{w:World}{K:W.Frag}{tg:Expr}(a it:Addr):Azz P w K tg (Itt K a) [it] it (fun i h=>h.IsTupleIter it a i) where
 mem:=by simp
 obj:=fun i h st b hb=>by
  have e:b=it:=by simpa using hb
  subst e;obtain⟨o,e,c,d⟩:=st;exact⟨o,e,fun v z=>by rw[d]at z;cases z⟩
 keep:=fun i h h' st k=>st.at fun o e=>k it (by simp) o e
 item:=by
  intro X hP hw hK hc i pins s σ H E I hf st hg;subst hP hw hK;obtain⟨xs,x,hq,hx⟩:=hg;obtain⟨its,rv,p,hz⟩:=I.tuple hq;obtain⟨u,hu,ru⟩:=rv.get hx;obtain⟨f0,f1,f2,f3,f4,f5⟩:=hf it (by simp);refine wpAny_pyNext_tuple_item st (show s.heap.IsTuple a its.toArray from p) (x:=u) (by simpa using hu) fun h' st' sb=>?_;have I1:Inv X pins σ H { s with heap:=h' }:=I.turned (t':=s.toks) (fun b o hb e=>(sb.2 b hb).trans e) f0 f1 f3 f4 f5
  obtain⟨o,e,c,d⟩:=id st';exact⟨u,rfl,Ax9 (s:={ s with heap:=h' }) e c d (by decide) ⟨x,H,I1,ru,⟨rfl,fun ys hy=>by rw[I.tuple_inj hy hq];exact hx⟩,st',fun b hb=>(hf b hb).1⟩⟩
 done:=by
  intro X hP hw hK hc i pins s σ H E I hf st hg;subst hP hw hK;obtain⟨xs,hq,hx⟩:=hg;obtain⟨its,rv,p,hz⟩:=I.tuple hq;obtain⟨f0,f1,f2,f3,f4,f5⟩:=hf it (by simp);have hl:=rv.length;exact wpAny_pyNext_tuple_end (I.ok.hd hc) st (show s.heap.IsTuple a its.toArray from p) (by simp;lia) fun h' eb=>⟨rfl,I.turned (t':=s.toks) (fun b o hb e=>eb b o hb e) f0 f1 f3 f4 f5⟩
 self:=fun _ _ _ _ _ st h=>wpAny_pyIter_tupleiter st h
theorem Anl {P:Program}{w:World}{K:W.Frag}{tg:Expr}(it:Addr)(lo:Int)(n:Nat):Azz P w K tg (Itr lo n) [it] it (fun i h=>IsRangeIter h it (lo+(i:Nat)*1) ((n:Int)-(i:Nat)) 1) where
 mem:=by simp
 obj:=fun i h st b hb=>by
  have e:b=it:=by simpa using hb
  subst e
  exact⟨_,st,fun v z=>by
   have z':Data.fields _=Data.cell v:=z
   cases z'⟩
 keep:=fun i h h' st k=>k it (by simp) _ st
 item:=by
  intro X hP hw hK hc i pins s σ H E I hf st hg;subst hP hw hK;obtain⟨f0,f1,f2,f3,f4,f5⟩:=hf it (by simp);have W:=Walks.range (prog:=X.prog) (w:=X.w) (I.ok.hd hc) it lo 1 n;refine W.item i s _ _ hg st fun v h' tk hv st' kk=>?_;obtain⟨t,rfl⟩:=hv;have I1:Inv X pins σ H { s with heap:=h',toks:=tk }:=I.turned (fun b o hb e=>kk b o (by simpa using hb) e) f0 f1 f3 f4 f5;refine⟨_,rfl,Ax9 (s:={ s with heap:=h',toks:=tk }) (n:="range_iterator") st' rfl rfl (by decide) ⟨.int (lo+i),H,I1,⟨t,?_⟩,⟨rfl,rfl⟩,st',fun b hb=>(hf b hb).1⟩⟩
  rw[Int.mul_one]
 done:=by
  intro X hP hw hK hc i pins s σ H E I hf st hg;subst hP hw hK;obtain⟨f0,f1,f2,f3,f4,f5⟩:=hf it (by simp);exact wpAny_pyNext_range_end (I.ok.hd hc) st (by have:n≤i:=hg;lia) fun h' eb=>⟨rfl,I.turned (t':=s.toks) (fun b o hb e=>eb b o hb e) f0 f1 f3 f4 f5⟩
 self:=fun _ _ _ _ _ st h=>wpAny_pyIter_rangeiter st h
end L2
namespace L2
open PySem PySem.Spec PyProof.Rows
section
variable {X:Cx}{tg:Expr}
def Bb5 (K:W.Frag)(tl:TE):TI:=fun σ H R=>tl σ H fun x H1=>∃a,x=.ref a∧(∃xs,SqL K H1 a xs)∧R (Itl K a) H1
def Bcj (K:W.Frag)(tl:TE):TI:=fun σ H R=>tl σ H fun x H1=>∃a,x=.ref a∧(∃xs,SqT K H1 a xs)∧R (Itt K a) H1
theorem Abf {l:Expr}{tl:TE}(hl:PE X l tl):PI X tg l (Bb5 X.K tl):=by
 intro pins s σ H R I h;refine thn (hl pins s σ H _ I h) fun v s1 ⟨x,H1,I1,r1,q1⟩=>?_;obtain⟨a,e,⟨xs,hq⟩,q⟩:=q1;subst e;cases r1;obtain⟨its,rv,p,hz⟩:=I1.list hq;refine wpAny_pyIter_list p.isList ?_;refine⟨s1.heap.objs.size,[s1.heap.objs.size],_,_,H1,rfl,I1.kept (t':=s1.toks) fun b o e=>Heap.get?_push_of_some _ e,Aoz a _,⟨_,Heap.get?_push_size _ rfl,rfl,rfl⟩,fun b hb=>?_,q⟩;have e:b=s1.heap.objs.size:=by simpa using hb
 subst e;exact I1.fpOk (Nat.le_refl _) (I1.hok.fresh (Nat.le_refl _))
theorem Ak5 {l:Expr}{tl:TE}(hl:PE X l tl):PI X tg l (Bcj X.K tl):=by
 intro pins s σ H R I h;refine thn (hl pins s σ H _ I h) fun v s1 ⟨x,H1,I1,r1,q1⟩=>?_;obtain⟨a,e,⟨xs,hq⟩,q⟩:=q1;subst e;cases r1;obtain⟨its,rv,p,hz⟩:=I1.tuple hq;refine wpAny_pyIter_tuple (show s1.heap.IsTuple a its.toArray from p) ?_;refine⟨s1.heap.objs.size,[s1.heap.objs.size],_,_,H1,rfl,I1.kept (t':=s1.toks) fun b o e=>Heap.get?_push_of_some _ e,Ank a _,⟨_,Heap.get?_push_size _ rfl,rfl,rfl⟩,fun b hb=>?_,q⟩
 have e:b=s1.heap.objs.size:=by simpa using hb
 subst e;exact I1.fpOk (Nat.le_refl _) (I1.hok.fresh (Nat.le_refl _))
theorem Amk {pins:List (Addr×Obj)}{σ:St}{H:Hp}{s:Shared}{R:It→Hp→Prop}{E:Value→Shared→Prop}{lo hi:Int}{t u v:Tok}{tk:Nat}(I:Inv X pins σ H s)(h1 : -(2 ^ 62)≤lo)(h2:lo<2 ^ 62)(h3 : -(2 ^ 62)≤hi)(h4:hi<2 ^ 62)
 (q:R (Itr lo (hi-lo).toNat) H):wpAny (model X.prog X.w) X.A (pyIter (.ref s.heap.objs.size)) (PIE X pins σ tg R) E { s with heap:=s.heap.push { cls:=.type "range",data:=.fields #[.int lo t,.int hi u,.int 1 v] },toks:=tk }:=by
 refine wpAny_pyIter_range (IsRange.new ..) (small_one h1 h2 h3 h4) ?_;have I1:Inv X pins σ H { s with heap:=s.heap.push { cls:=.type "range",data:=.fields #[.int lo t,.int hi u,.int 1 v] },toks:=tk }:=I.kept fun b o e=>Heap.get?_push_of_some _ e
 refine⟨(s.heap.push { cls:=.type "range",data:=.fields #[.int lo t,.int hi u,.int 1 v] }).objs.size,[(s.heap.push { cls:=.type "range",data:=.fields #[.int lo t,.int hi u,.int 1 v] }).objs.size],_,_,H,rfl,
  I1.kept (t':=tk) fun b o e=>Heap.get?_push_of_some _ e,Anl _ lo (hi-lo).toNat,?_,fun b hb=>?_,q⟩
 ·have e1:lo+((0:Nat):Int)*1=lo:=by simp
  have e2:(((hi-lo).toNat:Nat):Int)-((0:Nat):Int)=Builtin.Range.rangeSize lo hi 1:=by rw[rangeSize_one];split<;>lia
  show IsRangeIter _ _ (lo+((0:Nat):Int)*1) ((((hi-lo).toNat:Nat):Int)-((0:Nat):Int)) 1;rw[e1,e2];exact Heap.get?_push_size _ rfl
 ·have e:b=(s.heap.push { cls:=.type "range",data:=.fields #[.int lo t,.int hi u,.int 1 v] }).objs.size:=by simpa using hb
  subst e;exact I1.fpOk (Nat.le_refl _) (I1.hok.fresh (Nat.le_refl _))
def Bb4 (ta:TA):TI:=fun σ H R=>ta σ H fun vs H1=>∃j:Int,vs=[.int j]∧-(2 ^ 62)≤j∧j<2 ^ 62∧R (Itr 0 j.toNat) H1
def Bb3 (ta:TA):TI:=fun σ H R=>ta σ H fun vs H1=>∃i j:Int,vs=[.int i,.int j]∧(-(2 ^ 62)≤i∧i<2 ^ 62∧-(2 ^ 62)≤j∧j<2 ^ 62)∧R (Itr i (j-i).toNat) H1
theorem Ace {a:Expr}{ta:TA}{p pos:Pos}(hg:Gl X "range")(hm:X.mg "range" = none)(ha:PA X [a] ta)(hs:starEach [a] X.env=[(false,eval a X.env)]:=by rfl):PI X tg (.Call (.Name "range" p) [a] [] pos) (Bb4 ta):=by
 intro pins s σ H R I h;refine Call_ (Aka I hg hm boot_range (PyProof.Rows.callWith_type1 (thn (ha pos pins s σ H _ I h) fun us s1 ⟨vs,H1,I1,r1,q1⟩=>?_) hs rfl));obtain⟨j,e,q1,q2,q⟩:=q1;subst e;cases r1 with
 | cons r rr =>
  cases rr;obtain⟨t,rfl⟩:=r;exact call_range_1 (Amk I1 (by lia) (by lia) q1 q2 (by simpa using q))
theorem Ak6 {a b:Expr}{ta:TA}{p pos:Pos}(hg:Gl X "range")(hm:X.mg "range" = none)(ha:PA X [a,b] ta)(hs:starEach [a,b] X.env=[(false,eval a X.env),(false,eval b X.env)]:=by rfl)(hs2:starEach [b] X.env=[(false,eval b X.env)]:=by rfl) :
 PI X tg (.Call (.Name "range" p) [a,b] [] pos) (Bb3 ta):=by
 intro pins s σ H R I h;refine Call_ (Aka I hg hm boot_range (PyProof.Rows.callWith_type1 (thn (ha pos pins s σ H _ I h) fun us s1 ⟨vs,H1,I1,r1,q1⟩=>?_) (by rw[hs,hs2]) (by rw[hs2];rfl)));obtain⟨i,j,e,⟨q1,q2,q3,q4⟩,q⟩:=q1;subst e;cases r1 with
 | cons r rr =>
  cases rr with
  | cons r' rr =>
   cases rr;obtain⟨t,rfl⟩:=r;obtain⟨t',rfl⟩:=r';exact call_range_2 (Amk I1 q1 q2 q3 q4 q)
def Bbw (wi:TI)(g:TG)(tb:TS):TS:=fun D σ H=>wi σ H fun J H1=>∃W:Nat→Nat→St→Hp→Prop,(∃m,W 0 m σ H1)∧∀i m σ H,W i m σ H→
 (J.stop i H∧D.nx σ H)∨(J.go i H∧∃N:St→Hp→Prop,(∀σ' H',N σ' H'→∃m',m'<m∧W (i+1) m' σ' H')∧∀x H',J.yld i H x H'→g x σ H' fun σ2 H2=>tb { D with nx:=N,ct:=N,bk:=D.nx } σ2 H2)
def Ak4 (fp:List Addr)(h:Heap):List (Addr×Obj):=fp.filterMap fun b=>(h.get? b).map fun o=>(b,o)
theorem Aem {fp:List Addr}{h:Heap}{b:Addr}{o:Obj}(hb:b∈fp)(e:h.get? b=some o):(b,o)∈Ak4 fp h:=List.mem_filterMap.mpr ⟨b,hb,by rw[e];rfl⟩
theorem Aqj {fp:List Addr}{h:Heap}{p:Addr×Obj}(hp:p∈Ak4 fp h):p.1∈fp∧h.get? p.1=some p.2:=by
 obtain⟨b,hb,e⟩:=List.mem_filterMap.mp hp;cases q:h.get? b with
 | none=>rw[q]at e;cases e
 | some o =>
  rw[q]at e;have e':(b,o)=p:=Option.some.inj e;subst e';exact⟨hb,q⟩
theorem Inv.pinned {pins:List (Addr×Obj)}{σ:St}{H:Hp}{s:Shared}{fp:List Addr}(I:Inv X pins σ H s)(hf:∀b∈fp,FpOk X pins H b)(ho:∀b∈fp,∃o,s.heap.get? b=some o∧∀v,o.data≠.cell v):Inv X (pins++Ak4 fp s.heap) σ H s :=
 I.pins_of fun p hp=>(List.mem_append.mp hp).elim (fun z=>I.pin p (List.mem_append_right _ z)) fun z=>by
  obtain⟨hb,e⟩:=Aqj z;obtain⟨f0,f1,f2,_⟩:=hf p.1 hb;obtain⟨o,e',d⟩:=ho p.1 hb;rw[e]at e';cases e';exact⟨e,f0,f1,f2,d⟩
theorem Inv.unpinned {pins pl:List (Addr×Obj)}{σ:St}{H:Hp}{s:Shared}(I:Inv X (pins++pl) σ H s):Inv X pins σ H s:=I.pins_of fun p hp=>I.pin p (List.mem_append_right _ (List.mem_append_left _ hp))
theorem Aap {iter:Expr}{body:List Stmt}{wi:TI}{g:TG}{tb:TS}{pos:Pos}(hp:PassesOwn (model X.prog X.w) X.A X.env X.xe)(hc:X.calm=true)(hi:PI X tg iter wi)(hg:PG X tg g)(hb:PSs X body tb)
 (hs:∀x,foldedSetIterable iter X.env x=pure x:=by intro _;rfl):PS X (.For tg iter body [] pos) (Bbw wi g tb):=by
 intro pins s σ H D I h;refine wpAny_For (thn (hi pins s σ H _ I h) fun v s1 h1=>thn h1 fun itv s2 h2=>?_) hs;obtain⟨it,fp,tn,J,H2,e,I2,T,st2,f2,W,⟨m0,w0⟩,turn⟩:=h2;subst e;have stat:∀{H':Hp},(∀b∈fp,H' b=none)→∀b∈fp,FpOk X pins H' b:=fun hn b hb=>⟨hn b hb,(f2 b hb).2⟩
 refine codeAny_forLoop_any (fun n s'=>∃i σ' H',Inv X pins σ' H' s'∧tn i s'.heap∧(∀b∈fp,H' b=none)∧W i n σ' H') ?_ m0 ⟨0,σ,H2,I2,st2,fun b hb=>(f2 b hb).1,w0⟩;rintro n s3 ⟨i,σ3,H3,I3,st3,fr3,w3⟩;rcases turn i n σ3 H3 w3 with ⟨stop,qn⟩ | ⟨go,N,hN,step⟩
 ·refine wpAny_passesOwn hp (thn (T.done X rfl rfl rfl hc i pins s3 σ3 H3 X.xe I3 (stat fr3) st3 stop) fun r s4 ⟨hr,I4⟩=>?_);subst hr;exact wpAny_execs_nil ⟨σ3,H3,I4,qn⟩
 ·refine wpAny_passesOwn hp (thn (T.item X rfl rfl rfl hc i pins s3 σ3 H3 X.xe I3 (stat fr3) st3 go) fun r s4 ⟨u,hr,h4⟩=>?_);subst hr;refine wpAny_passesOwn hp (thn h4 fun _ s5 ⟨x,H5,I5,r5,y5,st5,fr5⟩=>?_);have I5':=I5.pinned (stat fr5) (T.obj _ _ st5);refine wpAny_passesOwn hp (thn (hg _ s5 σ3 H5 x u _ I5' r5 (step x H5 y5)) fun _ s6 ⟨σ6,H6,I6,q6⟩=>?_);refine wpAny_passesOwn hp (thn (hb _ s6 σ6 H6 _ I6 q6) fun f s7 q7=>?_)
  have again:∀{σ7:St} {H7:Hp},Inv X (pins++Ak4 fp s5.heap) σ7 H7 s7→N σ7 H7→∃m,m<n∧∃i σ' H',Inv X pins σ' H' s7∧tn i s7.heap∧(∀b∈fp,H' b=none)∧W i m σ' H':=fun {σ7 H7} I7 n7=>by
   obtain⟨m',hm,w7⟩:=hN σ7 H7 n7;refine⟨m',hm,i+1,σ7,H7,I7.unpinned,T.keep _ _ _ st5 fun b hb o e=>(I7.pin (b,o) (List.mem_append_right _ (List.mem_append_right _ (Aem hb e)))).1,fun b hb=>?_,w7⟩;obtain⟨o,e,d⟩:=T.obj _ _ st5 b hb;exact(I7.pin (b,o) (List.mem_append_right _ (List.mem_append_right _ (Aem hb e)))).2.1
  cases f with
  | next=>obtain⟨σ7,H7,I7,n7⟩:=q7;exact again I7 n7
  | cont=>obtain⟨σ7,H7,I7,n7⟩:=q7;exact again I7 n7
  | brk=>obtain⟨σ7,H7,I7,q7⟩:=q7;exact⟨σ7,H7,I7.unpinned,q7⟩
  | ret v=>obtain⟨x7,σ7,H7,I7,r7,q7⟩:=q7;exact⟨x7,σ7,H7,I7.unpinned,r7,q7⟩
end
theorem Abr {K:W.Frag}{a:Addr}{xs:List V}{g:TG}{tb:TS}{D:Aun}{σ:St}{H:Hp}(Pv:Nat→St→Hp→Prop)(h0:Pv 0 σ H)(hl:∀i σ H,i≤xs.length→Pv i σ H→SqL K H a xs)
 (hs:∀i x σ H,xs[i]?=some x→Pv i σ H→g x σ H fun σ2 H2=>tb { D with nx:=Pv (i+1),ct:=Pv (i+1),bk:=D.nx } σ2 H2) (hd:∀σ H,Pv xs.length σ H→D.nx σ H) :
 ∃W:Nat→Nat→St→Hp→Prop,(∃m,W 0 m σ H)∧∀i m σ H,W i m σ H→
  ((Itl K a).stop i H∧D.nx σ H)∨((Itl K a).go i H∧∃N:St→Hp→Prop,(∀σ' H',N σ' H'→∃m',m'<m∧W (i+1) m' σ' H')∧∀x H',(Itl K a).yld i H x H'→g x σ H' fun σ2 H2=>tb { D with nx:=N,ct:=N,bk:=D.nx } σ2 H2):=by
 refine⟨fun i m σ H=>m=xs.length-i∧i≤xs.length∧Pv i σ H,⟨xs.length,by simp,Nat.zero_le _,h0⟩,?_⟩;rintro i m σ H ⟨rfl,hi,p⟩;have q:=hl i σ H hi p
 by_cases hlt:i<xs.length
 ·refine .inr ⟨⟨xs,xs[i],q,by simp[hlt]⟩,Pv (i+1),fun σ' H' p'=>⟨xs.length-(i+1),by lia,rfl,hlt,p'⟩,fun x H' y=>?_⟩;obtain⟨e,y⟩:=y;subst e;exact hs i x σ _ (y xs q) p
 ·have e:i=xs.length:=by lia
  subst e;exact .inl ⟨⟨xs,q,Nat.le_refl _⟩,hd σ H p⟩
theorem Ago {K:W.Frag}{a:Addr}{xs:List V}{g:TG}{tb:TS}{D:Aun}{σ:St}{H:Hp}(Pv:Nat→St→Hp→Prop)(h0:Pv 0 σ H)(hl:∀i σ H,i≤xs.length→Pv i σ H→SqT K H a xs)
 (hs:∀i x σ H,xs[i]?=some x→Pv i σ H→g x σ H fun σ2 H2=>tb { D with nx:=Pv (i+1),ct:=Pv (i+1),bk:=D.nx } σ2 H2) (hd:∀σ H,Pv xs.length σ H→D.nx σ H) :
 ∃W:Nat→Nat→St→Hp→Prop,(∃m,W 0 m σ H)∧∀i m σ H,W i m σ H→
  ((Itt K a).stop i H∧D.nx σ H)∨((Itt K a).go i H∧∃N:St→Hp→Prop,(∀σ' H',N σ' H'→∃m',m'<m∧W (i+1) m' σ' H')∧∀x H',(Itt K a).yld i H x H'→g x σ H' fun σ2 H2=>tb { D with nx:=N,ct:=N,bk:=D.nx } σ2 H2):=by
 refine⟨fun i m σ H=>m=xs.length-i∧i≤xs.length∧Pv i σ H,⟨xs.length,by simp,Nat.zero_le _,h0⟩,?_⟩;rintro i m σ H ⟨rfl,hi,p⟩;have q:=hl i σ H hi p
 by_cases hlt:i<xs.length
 ·refine .inr ⟨⟨xs,xs[i],q,by simp[hlt]⟩,Pv (i+1),fun σ' H' p'=>⟨xs.length-(i+1),by lia,rfl,hlt,p'⟩,fun x H' y=>?_⟩;obtain⟨e,y⟩:=y;subst e;exact hs i x σ _ (y xs q) p
 ·have e:i=xs.length:=by lia
  subst e;exact .inl ⟨⟨xs,q,Nat.le_refl _⟩,hd σ H p⟩
theorem Ach {lo:Int}{n:Nat}{g:TG}{tb:TS}{D:Aun}{σ:St}{H:Hp}(Pv:Nat→St→Hp→Prop)(h0:Pv 0 σ H)
 (hs:∀i σ H,i<n→Pv i σ H→g (.int (lo+i)) σ H fun σ2 H2=>tb { D with nx:=Pv (i+1),ct:=Pv (i+1),bk:=D.nx } σ2 H2) (hd:∀σ H,Pv n σ H→D.nx σ H) :
 ∃W:Nat→Nat→St→Hp→Prop,(∃m,W 0 m σ H)∧∀i m σ H,W i m σ H→
  ((Itr lo n).stop i H∧D.nx σ H)∨((Itr lo n).go i H∧∃N:St→Hp→Prop,(∀σ' H',N σ' H'→∃m',m'<m∧W (i+1) m' σ' H')∧∀x H',(Itr lo n).yld i H x H'→g x σ H' fun σ2 H2=>tb { D with nx:=N,ct:=N,bk:=D.nx } σ2 H2):=by
 refine⟨fun i m σ H=>m=n-i∧i≤n∧Pv i σ H,⟨n,by simp,Nat.zero_le _,h0⟩,?_⟩;rintro i m σ H ⟨rfl,hi,p⟩
 by_cases hlt:i<n
 ·refine .inr ⟨hlt,Pv (i+1),fun σ' H' p'=>⟨n-(i+1),by lia,rfl,hlt,p'⟩,fun x H' y=>?_⟩;obtain⟨e,y⟩:=y;subst e y;exact hs i σ _ hlt p
 ·have e:i=n:=by lia
  subst e;exact .inl ⟨Nat.le_refl _,hd σ H p⟩
end L2
namespace L2
open PySem PySem.Spec PyProof.Rows
abbrev R2:=V→V→Hp→VK→Prop
def OpR (X:Cx)(f:Value→Value→Sem Value)(r:R2):Prop :=
 ∀(pins:List (Addr×Obj)) (s:Shared) (σ:St) (H:Hp) (x y:V) (v u:Value) (Q:VK),Inv X pins σ H s→RelV x v→RelV y u→r x y H Q→
  wpAny (model X.prog X.w) X.A (f v u) (EP X pins σ Q) X.xe s
def UnR (X:Cx)(f:Value→Sem Value)(r:V→Hp→VK→Prop):Prop :=
 ∀(pins:List (Addr×Obj)) (s:Shared) (σ:St) (H:Hp) (x:V) (v:Value) (Q:VK),Inv X pins σ H s→RelV x v→r x H Q→
  wpAny (model X.prog X.w) X.A (f v) (EP X pins σ Q) X.xe s
def Agx (X:Cx)(f:Value)(r:List V→Hp→VK→Prop):Prop :=
 ∀(pins:List (Addr×Obj)) (s:Shared) (σ:St) (H:Hp) (xs:List V) (us:List Value) (Q:VK),Inv X pins σ H s→Vals xs us→r xs H Q→
  wpAny (model X.prog X.w) X.A (call f us) (EP X pins σ Q) X.xe s
def Bcv (X:Cx)(r:V→Hp→(Bool→Hp→Prop)→Prop):Prop :=
 ∀(pins:List (Addr×Obj)) (s:Shared) (σ:St) (H:Hp) (x:V) (v:Value) (Q:Bool→Hp→Prop),Inv X pins σ H s→RelV x v→r x H Q→
  wpAny (model X.prog X.w) X.A (truthy v) (TP X pins σ Q) X.xe s
def tOp (r:R2)(ta tb:TE):TE:=fun σ H Q=>ta σ H fun x H1=>tb σ H1 fun y H2=>r x y H2 Q
def tUn (r:V→Hp→VK→Prop)(ta:TE):TE:=fun σ H Q=>ta σ H fun x H1=>r x H1 Q
def rI (C:Int→Int→Prop)(g:Int→Int→V):R2:=fun x y H Q=>∃i j,x=.int i∧y=.int j∧C i j∧Q (g i j) H
def rI0 (g:Int→Int→V):R2:=fun x y H Q=>∃i j,x=.int i∧y=.int j∧Q (g i j) H
def rU (g:Int→V):V→Hp→VK→Prop:=fun x H Q=>∃i,x=.int i∧Q (g i) H
section
variable {X:Cx}{a b c:Expr}{ta tb tc:TE}{pos:Pos}
theorem Bbb (ha:PE X a ta)(hb:PE X b tb){pins:List (Addr×Obj)}{s:Shared}{σ:St}{H:Hp}{R:V→V→Hp→Prop}(I:Inv X pins σ H s)
 (h:ta σ H fun x H1=>tb σ H1 fun y H2=>R x y H2) {Q:Value→Shared→Prop} {f:Value→Value→Sem Value}
 (hf:∀v u s2 x y H2,Inv X pins σ H2 s2→RelV x v→RelV y u→R x y H2→wpAny (model X.prog X.w) X.A (f v u) Q X.xe s2) :
 wpAny (model X.prog X.w) X.A (eval a X.env) (fun v s₁=>wpAny (model X.prog X.w) X.A (eval b X.env) (fun u s₂=>wpAny (model X.prog X.w) X.A (f v u) Q X.xe s₂) X.xe s₁) X.xe s:=by
 refine thn (ha pins s σ H _ I h) fun v s1 ⟨x,H1,I1,r1,q1⟩=>?_;refine thn (hb pins s1 σ H1 _ I1 q1) fun u s2 ⟨y,H2,I2,r2,q2⟩=>?_;exact hf v u s2 x y H2 I2 r1 r2 q2
theorem Ab2 {op:Operator}{r:R2}(ho:OpR X (binaryOp op) r)(ha:PE X a ta)(hb:PE X b tb):PE X (.BinOp a op b pos) (tOp r ta tb):=by
 intro pins s σ H Q I h;exact wpAny_BinOp (Bbb ha hb I h fun v u s2 x y H2 I2 rx ry q=>ho pins s2 σ H2 x y v u Q I2 rx ry q)
theorem Anw {op:UnaryOp}{r:V→Hp→VK→Prop}(ho:UnR X (unaryOp op) r)(ha:PE X a ta):PE X (.UnaryOp op a pos) (tUn r ta):=by
 intro pins s σ H Q I h;exact UnaryOp_ (thn (ha pins s σ H _ I h) fun v s1 ⟨x,H1,I1,r1,q1⟩=>ho pins s1 σ H1 x v Q I1 r1 q1)
theorem opI {f:Value→Value→Sem Value}{C:Int→Int→Prop}{g:Int→Int→Int}
 (rule:∀(i j:Int) (t u:Tok) (s:Shared) (Q:Value→Shared→Prop) (E:Value→Shared→Prop),C i j→Q (.int (g i j) s.toks) { s with toks:=s.toks+1 }→wpAny (model X.prog X.w) X.A (f (.int i t) (.int j u)) Q E s) :
 OpR X f (rI C fun i j=>.int (g i j)):=by
 intro pins s σ H x y v u Q I rx ry h;obtain⟨i,j,rfl,rfl,hc,q⟩:=h;obtain⟨t,rfl⟩:=rx;obtain⟨t',rfl⟩:=ry;exact rule i j t t' s _ _ hc ⟨.int (g i j),H,I.tok _,⟨_,rfl⟩,q⟩
theorem Bbo {f:Value→Value→Sem Value}{g:Int→Int→Int}
 (rule:∀(i j:Int) (t u:Tok) (s:Shared) (Q:Value→Shared→Prop) (E:Value→Shared→Prop),Q (.int (g i j) s.toks) { s with toks:=s.toks+1 }→wpAny (model X.prog X.w) X.A (f (.int i t) (.int j u)) Q E s) :
 OpR X f (rI0 fun i j=>.int (g i j)):=by
 intro pins s σ H x y v u Q I rx ry h;obtain⟨i,j,rfl,rfl,q⟩:=h;obtain⟨t,rfl⟩:=rx;obtain⟨t',rfl⟩:=ry;exact rule i j t t' s _ _ ⟨.int (g i j),H,I.tok _,⟨_,rfl⟩,q⟩
theorem Bac {f:Value→Value→Sem Value}{g:Int→Int→Bool}
 (rule:∀(i j:Int) (t u:Tok) (s:Shared) (Q:Value→Shared→Prop) (E:Value→Shared→Prop),Q (.bool (g i j)) s→wpAny (model X.prog X.w) X.A (f (.int i t) (.int j u)) Q E s) :
 OpR X f (rI0 fun i j=>.bl (g i j)):=by
 intro pins s σ H x y v u Q I rx ry h;obtain⟨i,j,rfl,rfl,q⟩:=h;obtain⟨t,rfl⟩:=rx;obtain⟨t',rfl⟩:=ry;exact rule i j t t' s _ _ ⟨.bl (g i j),H,I,rfl,q⟩
def Bbt (i j:Int):Prop:=0≤j∧j≤1000000∧i.natAbs<2 ^ 64
def CMul (i j:Int):Prop:=(-(2 ^ 64)<i∧i<2 ^ 64)∨(-(2 ^ 64)<j∧j<2 ^ 64)
theorem CMul.ok {i j:Int}(h:CMul i j):IntMulOk i j:=by
 rcases h with ⟨h1,h2⟩ | ⟨h1,h2⟩
 ·exact .of_left (intBits_le_64 h1 h2)
 ·exact .of_right (intBits_le_64 h1 h2)
theorem Ae6:OpR X (binaryOp .Add) (rI0 fun i j=>.int (i+j)):=Bbo fun _ _ _ _ _ _ _ q=>add_int q
theorem Ac4:OpR X (binaryOp .Sub) (rI0 fun i j=>.int (i-j)):=Bbo fun _ _ _ _ _ _ _ q=>sub_int q
theorem Acw:OpR X (binaryOp .Mult) (rI CMul fun i j=>.int (i*j)):=opI fun _ _ _ _ _ _ _ hc q=>mul_int q hc.ok
theorem Az0:OpR X (binaryOp .LShift) (rI Bbt fun i j=>.int (i*2 ^ j.toNat)):=opI fun _ _ _ _ _ _ _ hc q=>lshift_int_small hc.1 hc.2.1 hc.2.2 q
theorem unI {f:Value→Sem Value}{g:Int→Int}
 (rule:∀(i:Int) (t:Tok) (s:Shared) (Q:Value→Shared→Prop) (E:Value→Shared→Prop),Q (.int (g i) s.toks) { s with toks:=s.toks+1 }→wpAny (model X.prog X.w) X.A (f (.int i t)) Q E s) :
 UnR X f (rU fun i=>.int (g i)):=by
 intro pins s σ H x v Q I rx h;obtain⟨i,rfl,q⟩:=h;obtain⟨t,rfl⟩:=rx;exact rule i t s _ _ ⟨.int (g i),H,I.tok _,⟨_,rfl⟩,q⟩
theorem Ahh:UnR X (unaryOp .USub) (rU fun i=>.int (-i)):=unI fun _ _ _ _ _ q=>neg_int q
end
def Bap:V→V→Bool
 | .non,.non=>true | .non,.int _=>true | .int _,.non=>true | .non,.bl _=>true | .bl _,.non=>true | .non,.str _=>true | .str _,.non=>true
 | .int _,.int _=>true | .bl _,.bl _=>true | .str _,.str _=>true | .byt _,.byt _=>true
 | .int _,.str _=>true | .str _,.int _=>true | .bl _,.str _=>true | .str _,.bl _=>true
 | _,_=>false
def rEq:R2:=fun x y H Q=>Bap x y=true∧Q (.bl (decide (x=y))) H
def rNe:R2:=fun x y H Q=>Bap x y=true∧Q (.bl (!decide (x=y))) H
theorem Alw {i j:Int}:decide (V.int i=V.int j)=(i==j):=by
 rw[Bool.eq_iff_iff];simp
theorem Avd {i j:Bool}:decide (V.bl i=V.bl j)=(i==j):=by
 rw[Bool.eq_iff_iff];simp
theorem Arq {i j:Str}:decide (V.str i=V.str j)=(i==j):=by
 rw[Bool.eq_iff_iff];simp
theorem Arr {i j:Array UInt8}:decide (V.byt i=V.byt j)=(i.toList==j.toList):=by
 rw[Bool.eq_iff_iff];cases i;cases j;simp
section
variable {X:Cx}{a b c:Expr}{ta tb tc:TE}{pos:Pos}
theorem Aaq {pins:List (Addr×Obj)}{σ:St}{H:Hp}{s:Shared}{Q:VK}{k k':Bool}(I:Inv X pins σ H s)(q:Q (.bl k) H)(e:k=k'):EP X pins σ Q (.bool k') s:=by
 subst e;exact⟨.bl k,H,I,rfl,q⟩
theorem Anx:OpR X (compareOp .Eq) rEq:=by
 intro pins s σ H x y v u Q I rx ry h;obtain⟨hs,q⟩:=h;cases x with
 | non =>
  cases rx;cases y with
  | non=>cases ry;exact PySem.EqNone.eq_none_none (Aaq I q (by simp))
  | bl j=>cases ry;exact PySem.EqNone.eq_none_bool (Aaq I q (by simp))
  | int j=>obtain⟨t',rfl⟩:=ry;exact PySem.EqNone.eq_none_int (Aaq I q (by simp))
  | str j=>obtain⟨t',rfl⟩:=ry;exact PySem.EqNone.eq_none_str (Aaq I q (by simp))
  | _=>exact absurd (show false=true from hs) Bool.false_ne_true
 | bl i =>
  cases rx;cases y with
  | non=>cases ry;exact PySem.EqNone.eq_bool_none (Aaq I q (by simp))
  | bl j=>cases ry;exact eq_bool (Aaq I q Avd)
  | str j=>obtain⟨t',rfl⟩:=ry;exact PySem.EqMixed.eq_bool_str (Aaq I q (by simp))
  | _=>exact absurd (show false=true from hs) Bool.false_ne_true
 | int i =>
  obtain⟨t,rfl⟩:=rx;cases y with
  | non=>cases ry;exact PySem.EqNone.eq_int_none (Aaq I q (by simp))
  | int j=>obtain⟨t',rfl⟩:=ry;exact eq_int (Aaq I q Alw)
  | str j=>obtain⟨t',rfl⟩:=ry;exact PySem.EqMixed.eq_int_str (Aaq I q (by simp))
  | _=>exact absurd (show false=true from hs) Bool.false_ne_true
 | str i =>
  obtain⟨t,rfl⟩:=rx;cases y with
  | non=>cases ry;exact PySem.EqNone.eq_str_none (Aaq I q (by simp))
  | bl j=>cases ry;exact PySem.EqMixed.eq_str_bool (Aaq I q (by simp))
  | int j=>obtain⟨t',rfl⟩:=ry;exact PySem.EqMixed.eq_str_int (Aaq I q (by simp))
  | str j=>obtain⟨t',rfl⟩:=ry;exact eq_str (Aaq I q Arq)
  | _=>exact absurd (show false=true from hs) Bool.false_ne_true
 | byt i =>
  obtain⟨t,rfl⟩:=rx;cases y with
  | byt j=>obtain⟨t',rfl⟩:=ry;exact W.eq_bytes (Aaq I q Arr)
  | _=>exact absurd (show false=true from hs) Bool.false_ne_true
 | _=>cases y<;>exact absurd (show false=true from hs) Bool.false_ne_true
theorem Az2:OpR X (compareOp .NotEq) rNe:=by
 intro pins s σ H x y v u Q I rx ry h;obtain⟨hs,q⟩:=h;cases x with
 | non =>
  cases rx;cases y with
  | non=>cases ry;exact PySem.EqNone.ne_none_none (Aaq I q (by simp))
  | bl j=>cases ry;exact PySem.EqNone.ne_none_bool (Aaq I q (by simp))
  | int j=>obtain⟨t',rfl⟩:=ry;exact PySem.EqNone.ne_none_int (Aaq I q (by simp))
  | str j=>obtain⟨t',rfl⟩:=ry;exact PySem.EqNone.ne_none_str (Aaq I q (by simp))
  | _=>exact absurd (show false=true from hs) Bool.false_ne_true
 | bl i =>
  cases rx;cases y with
  | non=>cases ry;exact PySem.EqNone.ne_bool_none (Aaq I q (by simp))
  | bl j=>cases ry;exact ne_bool (Aaq I q (congrArg not Avd))
  | str j=>obtain⟨t',rfl⟩:=ry;exact PySem.EqMixed.ne_bool_str (Aaq I q (by simp))
  | _=>exact absurd (show false=true from hs) Bool.false_ne_true
 | int i =>
  obtain⟨t,rfl⟩:=rx;cases y with
  | non=>cases ry;exact PySem.EqNone.ne_int_none (Aaq I q (by simp))
  | int j=>obtain⟨t',rfl⟩:=ry;exact ne_int (Aaq I q (congrArg not Alw))
  | str j=>obtain⟨t',rfl⟩:=ry;exact PySem.EqMixed.ne_int_str (Aaq I q (by simp))
  | _=>exact absurd (show false=true from hs) Bool.false_ne_true
 | str i =>
  obtain⟨t,rfl⟩:=rx;cases y with
  | non=>cases ry;exact PySem.EqNone.ne_str_none (Aaq I q (by simp))
  | bl j=>cases ry;exact PySem.EqMixed.ne_str_bool (Aaq I q (by simp))
  | int j=>obtain⟨t',rfl⟩:=ry;exact PySem.EqMixed.ne_str_int (Aaq I q (by simp))
  | str j=>obtain⟨t',rfl⟩:=ry;exact ne_str (Aaq I q (congrArg not Arq))
  | _=>exact absurd (show false=true from hs) Bool.false_ne_true
 | byt i =>
  obtain⟨t,rfl⟩:=rx;cases y with
  | byt j=>obtain⟨t',rfl⟩:=ry;exact W.ne_bytes (Aaq I q (congrArg not Arr))
  | _=>exact absurd (show false=true from hs) Bool.false_ne_true
 | _=>cases y<;>exact absurd (show false=true from hs) Bool.false_ne_true
theorem Acf:OpR X (compareOp .Lt) (rI0 fun i j=>.bl (decide (i<j))):=Bac fun _ _ _ _ _ _ _ q=>lt_int q
theorem At6:OpR X (compareOp .LtE) (rI0 fun i j=>.bl (decide (i≤j))):=Bac fun _ _ _ _ _ _ _ q=>le_int q
theorem Adt:OpR X (compareOp .Gt) (rI0 fun i j=>.bl (decide (j<i))):=Bac fun _ _ _ _ _ _ _ q=>gt_int q
theorem Awh:OpR X (compareOp .GtE) (rI0 fun i j=>.bl (decide (j≤i))):=Bac fun _ _ _ _ _ _ _ q=>ge_int q
theorem Awg:OpR X (compareOp .IsNot) (fun x y H Q=>y=.non∧Q (.bl (!decide (x=.non))) H):=by
 intro pins s σ H x y v u Q I rx ry h;obtain⟨rfl,q⟩:=h;cases ry;refine isnot_none_gen (Aaq I q ?_);cases x<;>first
  | (cases rx;rfl)
  | (obtain⟨t,rfl⟩:=rx;rfl)
theorem Aan (b:Expr){op:CmpOp}(h:op≠.In:=by decide)(h2:op≠.NotIn:=by decide):behindInMarks op b=false:=by
 have e1:(op==CmpOp.In)=false:=by cases op<;>first | rfl | exact absurd rfl h
 have e2:(op==CmpOp.NotIn)=false:=by cases op<;>first | rfl | exact absurd rfl h2
 cases b<;>simp[behindInMarks,e1,e2]
theorem Ag4 {op:CmpOp}{r:R2}(ho:OpR X (compareOp op) r)(ha:PE X a ta)(hb:PE X b tb)(hm:behindInMarks op b=false):PE X (.Compare a [op] [b] pos) (tOp r ta tb):=by
 intro pins s σ H Q I h;exact wpAny_Compare1 (Bbb ha hb I h fun v u s2 x y H2 I2 rx ry q=>ho pins s2 σ H2 x y v u Q I2 rx ry q) hm
def Ap3 (t:TE):TT:=fun σ H Q=>t σ H fun x H'=>∃k,x=.bl k∧Q k H'
theorem Aaj {op:CmpOp}{r:R2}(ho:OpR X (compareOp op) r)(ha:PE X a ta)(hb:PE X b tb)(hm:behindInMarks op b=false):PT X (.Compare a [op] [b] pos) (Ap3 (tOp r ta tb)):=by
 intro pins s σ H Q I h
 refine wpAny_isTrue_Compare1 (thn (ha pins s σ H _ I h) fun v s1 ⟨x,H1,I1,r1,q1⟩=>thn (hb pins s1 σ H1 _ I1 q1) fun u s2 ⟨y,H2,I2,r2,q2⟩ =>
  thn (ho pins s2 σ H2 x y v u _ I2 r1 r2 q2) fun c s3 ⟨z,H3,I3,r3,k,e,q3⟩=>?_) hm
 subst e;cases r3;exact wpAny_truthy_bool ⟨H3,I3,q3⟩
def Ap6 (r r':R2)(ta tb tc:TE):TE:=fun σ H Q=>ta σ H fun x H1=>tb σ H1 fun y H2=>r x y H2 fun z H3=>∃k,z=.bl k∧
 (if k=true then tc σ H3 fun w' H4=>r' y w' H4 Q else Q (.bl false) H3)
theorem Amp {op op':CmpOp}{r r':R2}(ho:OpR X (compareOp op) r)(ho':OpR X (compareOp op') r')(ha:PE X a ta)(hb:PE X b tb)(hc:PE X c tc)
 (hm:lastMarks [op,op'] [b,c]=false:=by with_unfolding_all rfl):PE X (.Compare a [op,op'] [b,c] pos) (Ap6 r r' ta tb tc):=by
 intro pins s σ H Q I h
 refine Compare_chain (thn (ha pins s σ H _ I h) fun v s1 ⟨x,H1,I1,r1,q1⟩=>chain_link (thn (hb pins s1 σ H1 _ I1 q1) fun u s2 ⟨y,H2,I2,r2,q2⟩ =>
  thn (ho pins s2 σ H2 x y v u _ I2 r1 r2 q2) fun d s3 ⟨z,H3,I3,r3,k,e,q3⟩=>?_)) hm
 subst e;cases r3;refine wpAny_truthy_bool ?_;cases k with
 | false=>exact ite_ff ⟨.bl false,H3,I3,rfl,q3⟩
 | true=>exact ite_tt (chain_last (thn (hc pins s3 σ H3 _ I3 q3) fun w' s4 ⟨z',H4,I4,r4,q4⟩=>ho' pins s4 σ H4 y z' u w' Q I4 r2 r4 q4))
theorem Ada {op op':CmpOp}{r r':R2}(ho:OpR X (compareOp op) r)(ho':OpR X (compareOp op') r')(ha:PE X a ta)(hb:PE X b tb)(hc:PE X c tc)
 (hm:lastMarks [op,op'] [b,c]=false:=by with_unfolding_all rfl):PT X (.Compare a [op,op'] [b,c] pos) (Ap3 (Ap6 r r' ta tb tc)):=by
 intro pins s σ H Q I h
 refine isTrue_chain (thn (ha pins s σ H _ I h) fun v s1 ⟨x,H1,I1,r1,q1⟩=>test_link (thn (hb pins s1 σ H1 _ I1 q1) fun u s2 ⟨y,H2,I2,r2,q2⟩ =>
  thn (ho pins s2 σ H2 x y v u _ I2 r1 r2 q2) fun d s3 ⟨z,H3,I3,r3,k,e,q3⟩=>?_)) hm
 subst e;cases r3;refine wpAny_truthy_bool ?_;cases k with
 | false =>
  obtain⟨k',e',q'⟩:=q3;cases e';exact ite_ff ⟨H3,I3,q'⟩
 | true =>
  refine ite_tt (test_last (thn (hc pins s3 σ H3 _ I3 q3) fun w' s4 ⟨z',H4,I4,r4,q4⟩=>thn (ho' pins s4 σ H4 y z' u w' _ I4 r2 r4 q4) fun d' s5 ⟨z2,H5,I5,r5,k2,e2,q5⟩=>?_));subst e2;cases r5;exact wpAny_truthy_bool ⟨H5,I5,q5⟩
def Bbq (K:W.Frag)(x:V)(H:Hp)(k:Bool):Prop :=
 match x with
 | .non=>k=false
 | .bl b=>k=b
 | .int i=>k=(i != 0)
 | .str y=>y.length≤sizeLine∧k=((y.length:Int) != 0)
 | .byt y=>y.size≤sizeLine∧k=((y.size:Int) != 0)
 | .ref p=>(∃xs,SqL K H p xs∧k = !xs.isEmpty)∨(∃xs,SqT K H p xs∧k = !xs.isEmpty)∨∃kvs,H p=some (.dK kvs)∧k = !kvs.isEmpty
 | _=>False
theorem Aog {κ:Type}{kvs:List (κ×V)}{vs:List (κ×Value)}(r:KV kvs vs):(!vs.isEmpty) = !kvs.isEmpty:=by
 cases r<;>rfl
theorem Ahx {xs:List V}{its:List Value}(r:Vals xs its):(!its.toArray.isEmpty) = !xs.isEmpty:=by
 cases r<;>simp
theorem Amv:(sizeLine:Nat)<2 ^ 63:=by rw[sizeLine_eq];decide
theorem Ay6:Bcv X (fun x H Q=>∃k,Bbq X.K x H k∧Q k H):=by
 intro pins s σ H x v Q I rx h;obtain⟨k,e,q⟩:=h;have hl:=Amv;have hs:sizeLine=16777216:=sizeLine_eq;cases x with
 | non =>
  cases rx;have e':k=false:=e;subst e';exact truthy_none ⟨H,I,q⟩
 | bl b =>
  cases rx;have e':k=b:=e;subst e';exact wpAny_truthy_bool ⟨H,I,q⟩
 | int i =>
  obtain⟨t,rfl⟩:=rx;have e':k=(i != 0):=e;subst e';exact PySem.P.truthy_int ⟨H,I,q⟩
 | str y =>
  obtain⟨t,rfl⟩:=rx;obtain⟨hy,e'⟩ : y.length≤sizeLine∧k=((y.length:Int) != 0):=e;subst e';exact PySem.P.truthy_str (by lia) ⟨H,I.tok _,q⟩
 | byt y =>
  obtain⟨t,rfl⟩:=rx;obtain⟨hy,e'⟩ : y.size≤sizeLine∧k=((y.size:Int) != 0):=e;subst e';exact W.truthy_bytes (by lia) ⟨H,I.tok _,q⟩
 | ref p =>
  cases rx;have e':(∃xs,SqL X.K H p xs∧k = !xs.isEmpty)∨(∃xs,SqT X.K H p xs∧k = !xs.isEmpty)∨∃kvs,H p=some (.dK kvs)∧k = !kvs.isEmpty:=e;rcases e' with ⟨xs,hx,e'⟩ | ⟨xs,hx,e'⟩ | ⟨kvs,hx,e'⟩
  ·subst e';obtain⟨its,r,pl,hz⟩:=I.list hx;have hlen:=r.length;exact wpAny_truthy_list pl.isList (by simp only[List.size_toArray];lia) ⟨H,I.tok _,by rw[Ahx r];exact q⟩
  ·subst e';obtain⟨its,r,pl,hz⟩:=I.tuple hx;have hlen:=r.length;exact truthy_tuple pl (by simp only[List.size_toArray];lia) ⟨H,I.tok _,by rw[Ahx r];exact q⟩
  ·subst e';obtain⟨hz,hS,vs,r,m⟩ : kvs.length≤sizeLine∧(p==sysModules)=false∧∃vs,KV kvs vs∧s.heap.DictOf (Abd X.prog X.w) p vs:=I.hok p _ hx;have hlen:kvs.length=vs.length:=Paired.length r;exact wpAny_truthy_dict hS m (by lia) ⟨H,I.tok _,by rw[Aog r];exact q⟩
 | _=>exact(show False from e).elim
theorem Ae5 (ha:PE X a ta)(he:∀whole,isTrue a X.env whole=(do let v ←whole;standAt a.pos;holding [v] (truthy v))) :
 PT X a (fun σ H Q=>ta σ H fun x H'=>∃k,Bbq X.K x H' k∧Q k H'):=by
 intro pins s σ H Q I h;exact isTrue_plain (thn (ha pins s σ H _ I h) fun v s1 ⟨x,H1,I1,r1,q1⟩=>Ay6 pins s1 σ H1 x v Q I1 r1 q1) (he _)
theorem Al0 {x:V}{us:List Value}(r:Vals [x] us):∃u,us=[u]∧RelV x u:=by
 cases r with
 | cons r1 r2=>cases r2;exact⟨_,rfl,r1⟩
theorem Ay1 {x y:V}{us:List Value}(r:Vals [x,y] us):∃u w',us=[u,w']∧RelV x u∧RelV y w':=by
 cases r with
 | cons r1 r2 =>
  cases r2 with
  | cons r3 r4=>cases r4;exact⟨_,_,rfl,r1,r3⟩
theorem Akr (hc:X.calm=true):Agx X (.builtin "max") (fun xs H Q=>∃i j,xs=[.int i,.int j]∧Q (.int (if j>i then j else i)) H):=by
 intro pins s σ H xs us Q I r h;obtain⟨i,j,rfl,q⟩:=h;obtain⟨u,w',rfl,⟨t,rfl⟩,⟨t',rfl⟩⟩:=Ay1 r;refine max_two_ints (I.ok.hd hc) fun h' tk k=>⟨_,H,I.kept k,?_,q⟩
 by_cases hj:j>i
 ·rw[if_pos hj,if_pos hj];exact⟨_,rfl⟩
 ·rw[if_neg hj,if_neg hj];exact⟨_,rfl⟩
theorem Akq (hc:X.calm=true):Agx X (.builtin "min") (fun xs H Q=>∃i j,xs=[.int i,.int j]∧Q (.int (if j<i then j else i)) H):=by
 intro pins s σ H xs us Q I r h;obtain⟨i,j,rfl,q⟩:=h;obtain⟨u,w',rfl,⟨t,rfl⟩,⟨t',rfl⟩⟩:=Ay1 r;refine min_two_ints (I.ok.hd hc) fun h' tk k=>⟨_,H,I.kept k,?_,q⟩
 by_cases hj:j<i
 ·rw[if_pos hj,if_pos hj];exact⟨_,rfl⟩
 ·rw[if_neg hj,if_neg hj];exact⟨_,rfl⟩
end
end L2
namespace L2
open PySem PySem.Spec PyProof.Rows
structure ObjM (h:Heap)(x dx C:Addr)(mA:Str→Option Value):Prop where
 obj:h.get? x=some (W.instObj C dx)
 ns:h.Ns1 dx mA
 ne:dx≠x
theorem Aqt {h:Heap}{dx:Addr}{mA:Str→Option Value}(n:h.Ns1 dx mA):∃od,h.get? dx=some od∧∀name,W.lookIn name od=some (mA name):=by
 obtain⟨o,es,ep,ho,hd,hk,_,hm⟩:=n;refine⟨o,ho,fun name=>?_⟩;have e:=hm name;unfold nsFind findBy at e;rw[←Array.find?_toList]at e;unfold W.lookIn;rw[hd];dsimp only
 split
 ·rename_i y q
  rw[q]at e;exact congrArg some e
 ·rename_i q
  rw[q]at e;have a:es.toList.any (·.refKey)=false:=by
   rw[List.any_eq_false];intro y hy;obtain⟨z,t,hkey⟩:=hk y (Array.mem_toList_iff.mp hy);simp[DictEntry.refKey,hkey]
  have a':¬es.toList.any (·.refKey)=true:=by rw[a];exact Bool.false_ne_true
  rw[if_neg a'];exact congrArg some e
theorem ObjM.look {h:Heap}{x dx C:Addr}{mA:Str→Option Value}(I:ObjM h x dx C mA):∃od,W.InstAt h x (W.instObj C dx) C (some od)∧∀name,W.lookIn name od=some (mA name) :=
 let ⟨od,ho,hl⟩:=Aqt I.ns
 ⟨od,⟨I.obj,rfl,rfl,ho⟩,hl⟩
section
variable {prog:Program}{w:World}{A:Around}{E:Value→Shared→Prop}{s:Shared}{K:W.Frag}{x dx C f:Addr}{mA:Str→Option Value}{name:Str}{v:Value}
theorem Axa {expr:Bool}{Q:Value→Shared→Prop}(X:K.In s.heap)(I:ObjM s.heap x dx C mA)(hg:W.plainGet K C name=true)(hh:W.hasDictIn K C=true)
 (ha:W.findIn K (.ref C) name=some none) (hv:mA name=some v) (hv':W.handedIn v=true) (h:Q v { s with toks:=s.toks+1 }) :
 wpAny (model prog w) A (getAttr (.ref x) name expr) Q E s:=by
 obtain⟨od,J,hl⟩:=I.look;exact W.get_value X J (W.plainGet_of hg).1 (W.findObj_own hh ha rfl (by rw[hl,hv])) hv' h
theorem Au2 {pl:Sem Bool}{Q:Value×List Value→Shared→Prop}(X:K.In s.heap)(I:ObjM s.heap x dx C mA)(hg:W.plainGet K C name=true)
 (hf:W.findIn K (.ref C) name=some (some (.ref f))) (ht:W.isFn K (.ref f)=true) (hv:mA name=none) (h:Q (.ref f,[.ref x]) s) :
 wpAny (model prog w) A (getMethod (.ref x) name pl) Q E s:=by
 obtain⟨od,J,hl⟩:=I.look;exact W.method_fn X J (W.plainGet_of hg).1 (W.plainGet_of hg).2 hf (beq_iff_eq.mp ht) (by show(W.lookIn name od).map (·.isSome)=some false;rw[hl,hv];rfl) h
theorem Avy {ns:List Str}{Q:Unit→Shared→Prop}(X:K.In s.heap)(I:ObjM s.heap x dx C mA)
 (hs:W.findIn K (.ref C) "__setattr__" = some (some (.builtin "object.__setattr__"))) (hp:W.plainOver K C=true) (ht:W.takerIn K C name=some none) (hh:W.hasDictIn K C=true)
 (hw:PySem.Within mA ns) (hsz:ns.length≤sizeLine)
 (h:∀h',ObjM h' x dx C (fun y=>if y=name then some v else mA y)→Heap.SameBut dx s.heap h'→Q () { s with heap:=h',toks:=s.toks+2 }) :
 wpAny (model prog w) A (setAttr (.ref x) name v) Q E s:=by
 obtain⟨od,J,hl⟩:=I.look;refine W.set_plain X J hs (W.osa_open (s:={ s with toks:=s.toks+1 }) (r:=none) X J hp ht fun b=>?_);obtain⟨cd,hc,hd'⟩:=W.any_some hh;have hx:s.heap.get? x=some ⟨.ref C,some dx,.plain,#[]⟩:=I.obj;refine wpAny_bind (wpAny_pure (wpAny_bind (wpAny_bind (wpAny_loadPart hx (wpAny_bind (W.Looks.here (s:={ s with toks:=s.toks+1 }) (W.looks_clsIn X hc) ?_))))));rw[hd'];refine wpAny_pure (a:=some dx) (wpAny_bind (wpAny_pure (wpAny_bind ?_)))
 refine wpAny_nsSet1 (s:={ s with toks:=s.toks+1 }) I.ns fun h' hn2 hs2=>?_;obtain⟨oD,esD,epD,hoD,hdD,hcD⟩:=hn2.count (PySem.Within.cons name v hw);refine wpAny_bind (wpAny_lookBehind hoD (by rw[hdD];exact pastItsLine_dict (Nat.le_trans hcD (by rw[List.length_cons];lia))) ?_);exact wpAny_pure (h _ ⟨(hs2.2 _ (Ne.symm I.ne)).trans I.obj,hn2,I.ne⟩ hs2)
theorem Atj {R:Result→Shared→Prop}{vs:List Value}{kw:List (Str×Value)}(X:K.In s.heap)(hm:W.makesIn K C=true)
 (hi:W.findIn K (.ref C) "__init__" = some (some (.ref f))) (hf:W.typeIn K (.ref f)=some (.type "function"))
 (h:codeAny (model prog w) (A.under (.builtin "type.__call__" ⟨.ref C::vs,kw⟩)) (.call (.ref f) ⟨.ref (s.heap.objs.size+1)::vs,kw⟩) (W.InitBack (s.heap.objs.size+1) R)
  { s with heap:=(s.heap.push W.emptyDict).push (W.instObj C s.heap.objs.size) }) :
 codeAny (model prog w) A (.call (.ref C) ⟨vs,kw⟩) R s:=by
 obtain⟨hh,g,d,t,os⟩:=s;exact W.make_core (W.makes_of X hm) (W.looks_findIn X hi) (fun self=>W.bind_fn X self hf) (.inl rfl) h
end
def Ado (f:Str)(v:V):List (Str×V)→List (Str×V)
 | []=>[(f,v)]
 | (g,x)::r=>if g=f then(g,v)::r else(g,x)::Ado f v r
theorem Aau (f g:Str)(v:V):∀fs:List (Str×V),(Ado f v fs).lookup g=if g=f then some v else fs.lookup g
 | []=>by
  show List.lookup g [(f,v)]=_
  by_cases h:g=f
  ·have hb:(g==f)=true:=beq_iff_eq.mpr h;simp only[List.lookup,hb,if_pos h]
  ·have hb:(g==f)=false:=beq_eq_false_iff_ne.mpr h;simp only[List.lookup,hb,if_neg h]
 | (k,x)::r=>by
  have ih:=Aau f g v r;rw[show Ado f v ((k,x)::r)=(if k=f then(k,v)::r else(k,x)::Ado f v r)from rfl]
  by_cases hk:k=f
  ·rw[if_pos hk]
   by_cases h:g=k
   ·have hb:(g==k)=true:=beq_iff_eq.mpr h;simp only[List.lookup,hb,if_pos (h.trans hk)]
   ·have hb:(g==k)=false:=beq_eq_false_iff_ne.mpr h;simp only[List.lookup,hb,if_neg (fun e:g=f=>h (e.trans hk.symm))]
  ·rw[if_neg hk]
   by_cases h:g=k
   ·have hb:(g==k)=true:=beq_iff_eq.mpr h;simp only[List.lookup,hb,if_neg (fun e:g=f=>hk (h.symm.trans e))]
   ·have hb:(g==k)=false:=beq_eq_false_iff_ne.mpr h;simp only[List.lookup,hb];exact ih
theorem Agc (f:Str)(v:V):∀fs:List (Str×V),f∈(Ado f v fs).map (·.1)∧∀g,g∈fs.map (·.1)→g∈(Ado f v fs).map (·.1)
 | []=>⟨by simp[Ado],fun g h=>by simp at h⟩
 | (k,x)::r=>by
  obtain⟨i1,i2⟩:=Agc f v r;rw[show Ado f v ((k,x)::r)=(if k=f then(k,v)::r else(k,x)::Ado f v r)from rfl]
  by_cases hk:k=f
  ·rw[if_pos hk];subst hk;exact⟨by simp,fun g h=>by simpa using h⟩
  ·rw[if_neg hk];refine⟨?_,fun g h=>?_⟩
   ·rw[List.map_cons];exact List.mem_cons_of_mem _ i1
   ·rw[List.map_cons]at h ⊢;rcases List.mem_cons.mp h with e | e
    ·exact List.mem_cons.mpr (.inl e)
    ·exact List.mem_cons_of_mem _ (i2 g e)
theorem Adw (f:Str)(v:V):∀fs:List (Str×V),(Ado f v fs).length≤fs.length+1
 | []=>by simp[Ado]
 | (k,x)::r=>by
  have ih:=Adw f v r;rw[show Ado f v ((k,x)::r)=(if k=f then(k,v)::r else(k,x)::Ado f v r)from rfl]
  by_cases hk:k=f
  ·rw[if_pos hk,List.length_cons,List.length_cons];lia
  ·rw[if_neg hk,List.length_cons,List.length_cons];lia
theorem RelO.some_of {v:V}{o:Option Value}(r:RelO (some v) o):∃u,o=some u∧RelV v u:=by
 cases o with
 | none=>exact(show False from r).elim
 | some u=>exact⟨u,rfl,r⟩
theorem RelO.none_of {o:Option Value}(r:RelO none o):o=none:=by
 cases o with
 | none=>rfl
 | some u=>exact(show False from r).elim
theorem Arh {v:V}{u:Value}(r:RelV v u):W.handedIn u=true:=by
 cases v with
 | non=>cases (show u=Value.none from r);rfl
 | bl b=>cases (show u=Value.bool b from r);rfl
 | int i=>obtain⟨t,e⟩:=(show ∃t,u=Value.int i t from r);cases e;rfl
 | str x=>obtain⟨t,e⟩:=(show ∃t,u=Value.str x t from r);cases e;rfl
 | byt b=>obtain⟨t,e⟩:=(show ∃t,u=Value.bytes b t from r);cases e;rfl
 | flt b=>obtain⟨t,e⟩:=(show ∃t,u=Value.float b t from r);cases e;rfl
 | ref a=>cases (show u=Value.ref a from r);rfl
 | ty n=>cases (show u=Value.type n from r);rfl
section
variable {P:Program}{w:World}{H H':Hp}{h h':Heap}{a C dx:Addr}{fs fs':List (Str×V)}
theorem Alp (hok:HOk P w H h)(e:H a=some (.ins C dx fs)):∃mA,ObjM h a dx C mA∧(∀f,RelO (fs.lookup f) (mA f))∧PySem.Within mA (fs.map (·.1))∧fs.length≤1000∧H dx=some (.own a):=by
 obtain⟨d,z,ne,ob,mA,n,r,q⟩:=(show ObjOk P w H h a (.ins C dx fs)from hok a _ e)
 exact⟨mA,⟨ob,n,ne⟩,r,q,z,d⟩
end
structure Cls (K:W.Frag)(C:Addr):Prop where
 pg:W.plainGet K C Str.empty=true
 hd:W.hasDictIn K C=true
 po:W.plainOver K C=true
 sa:W.findIn K (.ref C) "__setattr__" = some (some (.builtin "object.__setattr__"))
theorem Cls.get {K:W.Frag}{C:Addr}(c:Cls K C)(f:Str):W.plainGet K C f=true:=c.pg
def NoAttr (K:W.Frag)(C:Addr)(f:Str):Prop:=W.findIn K (.ref C) f=some none
theorem NoAttr.taker {K:W.Frag}{C:Addr}{f:Str}(n:NoAttr K C f):W.takerIn K C f=some none:=by
 unfold W.takerIn;rw[show W.findIn K (.ref C) f=some none from n];rfl
structure Ahe (K:W.Frag)(C:Addr)(m:Str)(f:Addr):Prop where
 at_:W.findIn K (.ref C) m=some (some (.ref f))
 fn:W.isFn K (.ref f)=true
 kp:W.keepIn K (.ref f)=true
section
variable {X:Cx}{pins:List (Addr×Obj)}{σ:St}{H:Hp}{s:Shared}{a C dx:Addr}{fs:List (Str×V)}{f:Str}{v:V}{A:Around}{E:Value→Shared→Prop}
theorem Aoi {b:Bool}{Q:Value→Shared→Prop}(I:Inv X pins σ H s)(e:H a=some (.ins C dx fs))(c:Cls X.K C)(n:NoAttr X.K C f)(l:fs.lookup f=some v)
 (h:∀u s',Inv X pins σ H s'→RelV v u→Q u s'):wpAny (model X.prog X.w) A (getAttr (.ref a) f b) Q E s:=by
 obtain⟨mA,O,r,_,_,_⟩:=Alp I.hok e;obtain⟨u,hu,ru⟩:=RelO.some_of (v:=v) (o:=mA f) (by rw[←l];exact r f);exact Axa I.kIn O (c.get f) c.hd n hu (Arh ru) (h u _ (I.tok _) ru)
theorem Ahz {m:Str}{g:Addr}{pl:Sem Bool}{Q:Value×List Value→Shared→Prop}(I:Inv X pins σ H s)(e:H a=some (.ins C dx fs))(c:Cls X.K C)(k:Ahe X.K C m g)(l:fs.lookup m=none)
 (h:Q (.ref g,[.ref a]) s):wpAny (model X.prog X.w) A (getMethod (.ref a) m pl) Q E s:=by
 obtain⟨mA,O,r,_,_,_⟩:=Alp I.hok e;have hn:mA m=none:=RelO.none_of (by rw[←l];exact r m);exact Au2 I.kIn O (c.get m) k.at_ k.fn hn h
theorem Anq {y:V}{u:Value}{Q:Unit→Shared→Prop}(I:Inv X pins σ H s)(e:H a=some (.ins C dx fs))(c:Cls X.K C)(n:NoAttr X.K C f)(hl:fs.length<1000)(ry:RelV y u)
 (h:∀s',Inv X pins σ (upd H a (.ins C dx (Ado f y fs))) s'→Q () s'):wpAny (model X.prog X.w) A (setAttr (.ref a) f u) Q E s:=by
 obtain⟨mA,O,r,wi,_,ho⟩:=Alp I.hok e;have hz:(fs.map (·.1)).length≤sizeLine:=by rw[List.length_map,sizeLine_eq];lia
 refine Avy I.kIn O c.sa c.po n.taker c.hd wi hz fun h' O' sb=>h _ ?_;have hd:∃o,h'.get? dx=some o:=let ⟨o,_,_,e',_⟩:=O'.ns;⟨o,e'⟩;refine I.write (x:=a) (e:=dx) (by rw[e];exact True.intro) (.inr ho) (fun b q hb z=>(sb.2 b hb).trans z) hd ?_;refine⟨by rw[Aa6 O.ne];exact ho,?_,O.ne,O'.obj,_,O'.ns,fun g=>?_,fun g hg=>?_⟩
 ·have:=Adw f y fs;lia
 ·show RelO ((Ado f y fs).lookup g) (if g=f then some u else mA g);rw[Aau]
  by_cases q:g=f
  ·rw[if_pos q,if_pos q];exact ry
  ·rw[if_neg q,if_neg q];exact r g
 ·by_cases q:g=f
  ·rw[q];exact(Agc f y fs).1
  ·refine(Agc f y fs).2 g (wi g fun z=>hg ?_);show(if g=f then some u else mA g)=none;rw[if_neg q];exact z
theorem Inv.made (I:Inv X pins σ H s):Inv X pins σ (upd (upd H s.heap.objs.size (.own (s.heap.objs.size+1))) (s.heap.objs.size+1) (.ins C s.heap.objs.size []))
 { s with heap:=(s.heap.push W.emptyDict).push (W.instObj C s.heap.objs.size) }:=by
 have e1:(s.heap.push W.emptyDict).get? s.heap.objs.size=some W.emptyDict:=Heap.get?_push_size s.heap rfl;have e2:((s.heap.push W.emptyDict).push (W.instObj C s.heap.objs.size)).get? (s.heap.objs.size+1)=some (W.instObj C s.heap.objs.size):=by
  have:=Heap.get?_push_size (s.heap.push W.emptyDict) (o:=W.instObj C s.heap.objs.size) rfl
  rwa [Heap.size_push]at this
 have e3:(s.heap.push W.emptyDict).Ns s.heap.objs.size (fun _=>none):=⟨W.emptyDict,#[],_,e1,rfl,(fun e he=>absurd he (by simp)),fun _=>rfl⟩
 have I1:=I.laid (a:=s.heap.objs.size) (o:=.own (s.heap.objs.size+1)) (h':=s.heap.push W.emptyDict) (t':=s.toks) (fun b u q=>Heap.get?_push_of_some _ q) (Nat.le_refl _) ⟨_,e1⟩;refine I1.laid (a:=s.heap.objs.size+1) (o:=.ins C s.heap.objs.size []) (t':=s.toks) (fun b u q=>Heap.get?_push_of_some _ q) (Nat.le_of_eq (Heap.size_push _ _)) ?_;have ne:s.heap.objs.size≠s.heap.objs.size+1:=Nat.ne_of_lt (Nat.lt_succ_self _)
 refine⟨by rw[Aa6 ne,Aa2],Nat.zero_le _,ne,e2,fun _=>none,(Heap.Ns1.of_empty e3).at fun o q=>Heap.get?_push_of_some _ q,fun _=>True.intro,fun y hy=>absurd rfl hy⟩
theorem Axi {prog:Program}{w:World}{env:Env}{e:Expr}{f:Str}{pos:Pos}{s:Shared}{Q:Value→Shared→Prop}(hb:attributeBase e f env (eval e env)=eval e env)
 (h:wpAny (model prog w) A (eval e env) (fun o s₁=>wpAny (model prog w) A (getAttr o f true) Q E s₁) E s):wpAny (model prog w) A (eval (.Attribute e f pos) env) Q E s :=
 Attribute_any_ h (by rw[arm_eval_Attribute,hb])
end
def Ba4 (K:W.Frag)(ta:TE)(f:Str):TE:=fun σ H Q=>ta σ H fun x H1=>∃a C dx fs v,x=.ref a∧H1 a=some (.ins C dx fs)∧Cls K C∧NoAttr K C f∧fs.lookup f=some v∧Q v H1
def Bc7 (K:W.Frag)(ta tv:TE)(f:Str):TS:=fun D σ H=>tv σ H fun y H1=>ta σ H1 fun x H2=>∃a C dx fs,x=.ref a∧H2 a=some (.ins C dx fs)∧Cls K C∧NoAttr K C f∧fs.length<1000∧
 D.nx σ (upd H2 a (.ins C dx (Ado f y fs)))
section
variable {X:Cx}{o e value:Expr}{f:Str}{pos pos' tpos:Pos}{ta tv:TE}
theorem Aal (he:PE X e ta)(hb:attributeBase e f X.env (eval e X.env)=eval e X.env):PE X (.Attribute e f pos) (Ba4 X.K ta f):=by
 intro pins s σ H Q I h;refine Axi hb (thn (he pins s σ H _ I h) fun u s1 ⟨x,H1,I1,rx,a,C,dx,fs,v,ex,ea,c,n,l,q⟩=>?_);subst ex;obtain rfl:u=Value.ref a:=rx;exact Aoi I1 ea c n l fun u' s2 I2 ru=>⟨v,H1,I2,ru,q⟩
theorem Ad1 (ha:PE X o ta)(hv:PE X value tv)(hs:swapsWith value (some (.Attribute o f pos')) pos.line X.env=pure false):PS X (.Assign [.Attribute o f pos'] value pos) (Bc7 X.K ta tv f):=by
 intro pins s σ H D I h;refine plainObj_wpAny_Assign_Attribute (thn (hv pins s σ H _ I h) fun u s1 ⟨y,H1,I1,ry,q⟩=>thn (ha pins s1 σ H1 _ I1 q) fun ov s2 ⟨x,H2,I2,rx,a,C,dx,fs,ex,ea,c,n,l,q2⟩=>?_) hs;subst ex;obtain rfl:ov=Value.ref a:=rx;exact Anq I2 ea c n l ry fun s3 I3=>⟨σ,_,I3,q2⟩
theorem Ax1 {pl:Sem Bool}{m:Str}{apos:Pos}{args:List Expr}{pins:List (Addr×Obj)}{s:Shared}{σ:St}{H:Hp}{Q:Value→Shared→Prop}{te:TE}(he:PE X e te)(I:Inv X pins σ H s)
 (h:te σ H fun x H1=>∃a C dx fs g,x=.ref a∧H1 a=some (.ins C dx fs)∧Cls X.K C∧Ahe X.K C m g∧fs.lookup m=none∧
  ∀s1,Inv X pins σ H1 s1→wpAny (model X.prog X.w) X.A (callWith pos (.ref g) [.ref a] (backTo pos (starEach args X.env)) (backToKw pos (keywordEach [] X.env))) Q X.xe s1)
 (ht:eval (.Call (.Attribute e m apos) args [] pos) X.env=(do
  let ov ←eval e X.env
  standAt apos.atName
  let (f,first) ←holding [ov] (getMethod ov m pl)
  callWith pos f first (backTo pos (starEach args X.env)) (backToKw pos (keywordEach [] X.env)))) :
 wpAny (model X.prog X.w) X.A (eval (.Call (.Attribute e m apos) args [] pos) X.env) Q X.xe s:=by
 refine W.methodCall_KW (pl:=pl) (thn (he pins s σ H _ I h) fun u s1 ⟨x,H1,I1,rx,a,C,dx,fs,g,ex,ea,c,k,l,q⟩=>?_) ht;subst ex;obtain rfl:u=Value.ref a:=rx;exact Ahz I1 ea c k l (q s1 I1)
end
section
variable {X:Cx}{pins:List (Addr×Obj)}{σ:St}{H:Hp}{s:Shared}{A:Around}{E:Value→Shared→Prop}{Q:Value→Shared→Prop}{c:Value}{b:Bool}
end
end L2
namespace L2
open PySem PySem.Spec PyProof.Rows
structure Room (k:Nat)(A:Around):Prop where
 hd:A.handled=none
 dp:A.depth+3*k+5<recursionLimit
 un:A.units+16*k+200<cLine
theorem Room.mono {j k:Nat}{A:Around}(r:Room k A)(h:j≤k):Room j A:=⟨r.hd,by have:=r.dp;lia,by have:=r.un;lia⟩
theorem Room.deeper {k:Nat}{A:Around}(r:Room (k+1) A)(env:Env):Room k (A.deeper env) :=
 ⟨r.hd,by have:=r.dp;show A.depth+1+3*k+5<_;lia,by have:=r.un;show A.units+3+16*k+200<_;lia⟩
theorem Ao1 {A:Around}{C:Addr}{us:List Value}{kw:List (Str×Value)}:(A.under (.builtin "type.__call__" ⟨.ref C::us,kw⟩)).depth=A.depth+1:=by
 first | rfl | simp[Around.under,Code.weight,Code.isCreation,Code.isGuard,Code.isCaller,Code.frames,Code.isFrame,guardIds]
theorem Ao0 {A:Around}{C:Addr}{us:List Value}{kw:List (Str×Value)}:(A.under (.builtin "type.__call__" ⟨.ref C::us,kw⟩)).units=A.units+1:=by
 first | rfl | simp[Around.under,Code.cUnits,Code.frames,Code.isFrame]
theorem Room.make {k:Nat}{A:Around}(r:Room (k+1) A)(C:Addr)(us:List Value)(kw:List (Str×Value)):Room k (A.under (.builtin "type.__call__" ⟨.ref C::us,kw⟩)) :=
 ⟨r.hd,by have:=r.dp;rw[Ao1];lia,by have:=r.un;rw[Ao0];lia⟩
theorem Room.depth {k:Nat}{A:Around}(r:Room k A):A.depth<recursionLimit:=by have:=r.dp;lia
theorem Room.units {k:Nat}{A:Around}(r:Room k A):A.units+64<cLine:=by have:=r.un;lia
def Ama:TA:=fun _ H Q=>Q [] H
def Abt (ta:TE)(tr:TA):TA:=fun σ H Q=>ta σ H fun x H1=>tr σ H1 fun xs H2=>Q (x::xs) H2
section
variable {X:Cx}{e:Expr}{es:List Expr}{te:TE}{t:TA}{pos:Pos}
theorem Aa3:PA X [] Ama:=fun _ _ _ _ H Q I h=>Calls.spliced_nil ⟨[],H,I,.nil,h⟩
theorem Aa0 (ha:PE X e te)(hr:PA X es t)(hs:starEach (e::es) X.env=(false,eval e X.env)::starEach es X.env:=by rfl):PA X (e::es) (Abt te t):=by
 intro pos pins s σ H Q I h;rw[hs];show wpAny _ _ (spliced ((false,eval e X.env)::backTo pos (starEach es X.env))) _ _ s;refine Calls.spliced_cons (thn (ha pins s σ H _ I h) fun u s1 ⟨x,H1,I1,r1,q1⟩=>?_);exact thn (hr pos pins s1 σ H1 _ I1 q1) fun us s2 ⟨xs,H2,I2,r2,q2⟩=>⟨x::xs,H2,I2,.cons r1 r2,q2⟩
def Bbg (t:TA):TE:=fun σ H Q=>t σ H fun xs H1=>xs.length≤sizeLine∧∀p,H1 p=none→Q (.ref p) (upd H1 p (.tup xs))
def Bbv (t:TA):TE:=fun σ H Q=>t σ H fun xs H1=>xs.length≤sizeLine∧∀p,H1 p=none→Q (.ref p) (upd H1 p (.lst xs))
theorem Abh {x1}(h:PA X es t):PE X (.Tuple es x1 pos) (Bbg t):=by
 intro pins s σ H Q I hq;refine wpAny_Tuple_spliced (thn (h pos pins s σ H _ I hq) fun us s1 ⟨xs,H1,I1,r,z,q⟩=>⟨by rw[←r.length];exact z,?_⟩);have hf:H1 s1.heap.objs.size=none:=I1.hok.fresh (Nat.le_refl _);refine⟨.ref s1.heap.objs.size,upd H1 s1.heap.objs.size (.tup xs),I1.laid (t':=s1.toks) (fun b u e=>Heap.get?_push_of_some _ e) (Nat.le_refl _) ?_,rfl,q _ hf⟩;exact⟨z,us,r,⟨_,Heap.get?_push_size _ rfl,rfl,_,rfl⟩⟩
theorem Ab8 (h:PA X es t):PE X (.List es pos) (Bbv t):=by
 intro pins s σ H Q I hq;refine wpAny_List_spliced (thn (h pos pins s σ H _ I hq) fun us s1 ⟨xs,H1,I1,r,z,q⟩=>⟨by rw[←r.length];exact z,?_⟩);have hf:H1 s1.heap.objs.size=none:=I1.hok.fresh (Nat.le_refl _);refine⟨.ref s1.heap.objs.size,upd H1 s1.heap.objs.size (.lst xs),I1.laid (t':=s1.toks) (fun b u e=>Heap.get?_push_of_some _ e) (Nat.le_refl _) ?_,rfl,q _ hf⟩;exact⟨z,us,0,r,Heap.get?_push_size _ rfl⟩
end
abbrev Sp:=List V→Hp→VK→XK→Prop
abbrev CXT:=List Env→Hp→Shared→XK→Value→Shared→Prop
structure Env0 (P:Program)(w:World)(K:W.Frag)(mg:Str→Option Value)(base:Heap)(A:Around)(outer:List Env)(s:Shared)(H:Hp):Prop where
 frames:A.frames=some outer
 mod:Mod K mg base
 bs:∀b o,base.get? b=some o→s.heap.get? b=some o∧H b=none
 bsz:base.objs.size≤s.heap.objs.size
 funs:s.heap.FunFrames base outer
 frf:∀b∈frs outer,H b=none
 hok:HOk P w H s.heap
 bare:AllBare s.gens
def CE (outer:List Env)(P:Program)(w:World)(H:Hp)(s:Shared)(Q:VK)(u:Value)(s':Shared):Prop :=
 ∃v H',s'.os=s.os∧AllBare s'.gens∧Un (frs outer) [] H H' s.heap s'.heap∧HOk P w H' s'.heap∧RelV v u∧Q v H'
def CR (CX:CXT)(outer:List Env)(P:Program)(w:World)(H:Hp)(s:Shared)(Q:VK)(E:XK)(r:Result)(s':Shared):Prop :=
 match r with
 | .ok (.ret u)=>CE outer P w H s Q u s'
 | .ok _=>False
 | .error e=>CX outer H s E e s'
structure FnOk (P:Program)(w:World)(K:W.Frag)(mg:Str→Option Value)(base:Heap)(CX:CXT)(k:Nat)(f:Addr)(fd:FuncData)(ps:List Str)(sp:Sp):Prop where
 len:∀vs H Q E,sp vs H Q E→vs.length=ps.length
 run:∀(A:Around) (outer:List Env) (s:Shared) (H:Hp) (args:Args) (us:List Value) (vs:List V) (Q:VK) (E:XK),Room k A→Env0 P w K mg base A outer s H→BindsTo s fd args (ps.zip us)→Vals vs us→sp vs H Q E→
  codeAny (model P w) A (.call (.ref f) args) (CR CX outer P w H s Q E) s
theorem FnOk.mono {P:Program}{w:World}{K:W.Frag}{mg:Str→Option Value}{base:Heap}{CX:CXT}{j k:Nat}{f:Addr}{fd:FuncData}{ps:List Str}{sp:Sp}(F:FnOk P w K mg base CX j f fd ps sp)(h:j≤k) :
 FnOk P w K mg base CX k f fd ps sp:=⟨F.len,fun A outer s H args us vs Q E hr=>F.run A outer s H args us vs Q E (hr.mono h)⟩
theorem FnOk.imp {P:Program}{w:World}{K:W.Frag}{mg:Str→Option Value}{base:Heap}{CX:CXT}{k:Nat}{f:Addr}{fd:FuncData}{ps:List Str}{sp sp':Sp}(F:FnOk P w K mg base CX k f fd ps sp)
 (h:∀vs H Q E,sp' vs H Q E→sp vs H Q E):FnOk P w K mg base CX k f fd ps sp' :=
 ⟨fun vs H Q E q=>F.len vs H Q E (h _ _ _ _ q),fun A outer s H args us vs Q E hr he hb hv hs=>F.run A outer s H args us vs Q E hr he hb hv (h _ _ _ _ hs)⟩
theorem Env0.make {P:Program}{w:World}{K:W.Frag}{mg:Str→Option Value}{base:Heap}{A:Around}{outer:List Env}{s:Shared}{H:Hp}(e:Env0 P w K mg base A outer s H)(C:Addr)(us:List Value)(kw:List (Str×Value)) :
 Env0 P w K mg base (A.under (.builtin "type.__call__" ⟨.ref C::us,kw⟩)) outer s H:=⟨by first | exact e.frames | (simpa [Around.under,Code.envs,Code.isFrame,pushEnvs] using e.frames),e.mod,e.bs,e.bsz,e.funs,e.frf,e.hok,e.bare⟩
section
variable {X:Cx}{pins:List (Addr×Obj)}{σ:St}{H:Hp}{s s':Shared}
theorem Inv.env0 (I:Inv X pins σ H s):Env0 X.prog X.w X.K X.mg X.base X.A X.stack s H :=
 ⟨I.ok.frames,I.ok.mod,I.bs,Nat.le_trans I.ok.bsz I.sz,I.stack,I.stkFree,I.hok,I.bare⟩
theorem Inv.after {Q:VK}{u:Value}(I:Inv X pins σ H s)(h:CE X.stack X.prog X.w H s Q u s'):EP X pins σ Q u s':=by
 obtain⟨v,H',os,bare,un,hok,r,q⟩:=h;obtain⟨hh,g,d,t,os'⟩:=s';obtain rfl:os'=s.os:=os;exact⟨v,H',I.call (h':=hh) (g':=g) (d':=d) (t':=t) (ch:=[]) un hok bare (fun b z=>absurd z (by simp)),r,q⟩
end
def Aia (sp:Sp)(dvs:List V)(E:XK)(t:TA):TE:=fun σ H Q=>t σ H fun vs H1=>sp (vs++dvs) H1 Q E
def Asc (C:Addr)(m:Str)(sp:Sp)(dvs:List V)(E:XK)(ta:TE)(t:TA):TE:=fun σ H Q=>ta σ H fun x H1=>∃a dx fs,x=.ref a∧H1 a=some (.ins C dx fs)∧fs.lookup m=none∧
 t σ H1 fun vs H2=>sp (x::(vs++dvs)) H2 Q E
def Bai (C:Addr)(sp:Sp)(dvs:List V)(E:XK)(t:TA):TE:=fun σ H Q=>t σ H fun vs H1=>∀x dx,H1 x=none→H1 dx=none→dx≠x→
 sp (.ref x::(vs++dvs)) (upd (upd H1 dx (.own x)) x (.ins C dx [])) (fun v H2=>v=.non∧Q (.ref x) H2) E
def Binds (K:W.Frag)(fd:FuncData)(ps:List Str)(ds:List Value):Prop :=
 ∀(s:Shared) (us:List Value),K.In s.heap→(us++ds).length=ps.length→BindsTo s fd ⟨us,[]⟩ (ps.zip (us++ds))
theorem Binds.all {K:W.Frag}{fd:FuncData}{ps:List Str}(h:∀us:List Value,us.length=ps.length→bindArgs fd ⟨us,[]⟩=pure (ps.zip us)):Binds K fd ps []:=fun s us _ hl=>by
 rw[List.append_nil]at hl ⊢;exact .of_eq (h us hl)
def Agu (CX:CXT)(X:Cx)(E:XK):Prop:=∀(pins:List (Addr×Obj)) (σ:St) (H:Hp) (s:Shared) (e:Value) (s':Shared),Inv X pins σ H s→CX X.stack H s E e s'→X.xe e s'
section
variable {X:Cx}{CX:CXT}{k:Nat}{f C:Addr}{fd:FuncData}{ps:List Str}{sp:Sp}{dvs:List V}{ds:List Value}{E:XK}{x m:Str}{p pos apos:Pos}{e o:Expr}{es:List Expr}{ta:TE}{t:TA}
theorem Apw {pins:List (Addr×Obj)}{σ:St}{H:Hp}{s:Shared}{Q:VK}{us:List Value}{vs:List V}(F:FnOk X.prog X.w X.K X.mg X.base CX k f fd ps sp)(hr:Room k X.A)(hb:Binds X.K fd ps ds)(hd:Vals dvs ds)(hx:Agu CX X E)
 (I:Inv X pins σ H s) (r:Vals vs us) (h:sp (vs++dvs) H Q E):wpAny (model X.prog X.w) X.A (call (.ref f) us) (EP X pins σ Q) X.xe s:=by
 have r2:Vals (vs++dvs) (us++ds):=r.append hd;have hl:(us++ds).length=ps.length:=by rw[←r2.length];exact F.len _ _ _ _ h
 refine wpAny_call (codeAny_mono (F.run X.A X.stack s H ⟨us,[]⟩ (us++ds) (vs++dvs) Q E hr I.env0 (hb s us I.kIn hl) r2 h) fun r s' hq=>?_);cases r with
 | error e=>exact hx pins σ H s e s' I hq
 | ok fl =>
  cases fl with
  | ret u=>exact I.after hq
  | next=>exact False.elim hq
  | brk=>exact False.elim hq
  | cont=>exact False.elim hq
theorem Alb (F:FnOk X.prog X.w X.K X.mg X.base CX k f fd ps sp)(hr:Room k X.A)(hg:Gl X x)(hm:X.mg x=some (.ref f))(hk:W.keepIn X.K (.ref f)=true)(hb:Binds X.K fd ps ds)(hd:Vals dvs ds)(hx:Agu CX X E)
 (ha:PA X (e::es) t) (hdb:(x==("__debug__" : Str))=false:=by decide) (he:starEach (e::es) X.env=(false,eval e X.env)::starEach es X.env:=by rfl) (hpl:(backTo pos (starEach es X.env)).any (·.1)=false:=by rfl) :
 PE X (.Call (.Name x p) (e::es) [] pos) (Aia sp dvs E t):=by
 intro pins s σ H Q I h;refine wpAny_Call_Name_kw (Alk I hg hm ?_ hdb);refine W.callWith_K (h₀:=X.base) I.ok.mod.kin hk (thn (ha pos pins s σ H _ I h) fun us s1 ⟨vs,H1,I1,r,q⟩=>⟨I1.kIn,?_⟩) he hpl;exact Apw F hr hb hd hx I1 r q
theorem Aax {pl:Sem Bool}(he:PE X o ta)(c:Cls X.K C)(hm:Ahe X.K C m f)(F:FnOk X.prog X.w X.K X.mg X.base CX k f fd ps sp)(hr:Room k X.A)(hb:Binds X.K fd ps ds)(hd:Vals dvs ds)(hx:Agu CX X E)(ha:PA X (e::es) t)
 (hst:starEach (e::es) X.env=(false,eval e X.env)::starEach es X.env:=by rfl) (hpl:(backTo pos (starEach es X.env)).any (·.1)=false:=by rfl)
 (ht:eval (.Call (.Attribute o m apos) (e::es) [] pos) X.env=(do
  let ov ←eval o X.env
  standAt apos.atName
  let (f,first) ←holding [ov] (getMethod ov m pl)
  callWith pos f first (backTo pos (starEach (e::es) X.env)) (backToKw pos (keywordEach [] X.env))):=by rfl) :
 PE X (.Call (.Attribute o m apos) (e::es) [] pos) (Asc C m sp dvs E ta t):=by
 intro pins s σ H Q I h;refine W.methodCall_KW (pl:=pl) (thn (he pins s σ H _ I h) fun u s1 ⟨x,H1,I1,rx,a,dx,fs,ex,ea,l,q⟩=>?_) ht;subst ex;obtain rfl:u=Value.ref a:=rx;refine Ahz I1 ea c hm l ?_;refine W.callWith_K (first:=[.ref a]) (h₀:=X.base) I.ok.mod.kin hm.kp (thn (ha pos pins s1 σ H1 _ I1 q) fun us s2 ⟨vs,H2,I2,r,q2⟩=>⟨I2.kIn,?_⟩) hst hpl;exact Apw (us:=.ref a::us) (vs:=.ref a::vs) F hr hb hd hx I2 (.cons rfl r) q2
structure Mk (K:W.Frag)(C f:Addr):Prop where
 makes:W.makesIn K C=true
 init:W.findIn K (.ref C) "__init__" = some (some (.ref f))
 fn:W.isFn K (.ref f)=true
 kp:W.keepIn K (.ref C)=true
theorem Ast {pins:List (Addr×Obj)}{σ:St}{H:Hp}{s:Shared}{Q:VK}{us:List Value}{vs:List V}(M:Mk X.K C f)(F:FnOk X.prog X.w X.K X.mg X.base CX k f fd ps sp)(hr:Room (k+1) X.A)(hb:Binds X.K fd ps ds)(hd:Vals dvs ds)
 (hx:Agu CX X E) (I:Inv X pins σ H s) (r:Vals vs us)
 (h:∀x dx,H x=none→H dx=none→dx≠x→sp (.ref x::(vs++dvs)) (upd (upd H dx (.own x)) x (.ins C dx [])) (fun v H2=>v=.non∧Q (.ref x) H2) E) :
 wpAny (model X.prog X.w) X.A (call (.ref C) us) (EP X pins σ Q) X.xe s:=by
 have hq:=h (s.heap.objs.size+1) s.heap.objs.size (I.hok.fresh (Nat.le_succ _)) (I.hok.fresh (Nat.le_refl _)) (Nat.ne_of_lt (Nat.lt_succ_self _));have I2:=Inv.made (C:=C) I;have r2:Vals (V.ref (s.heap.objs.size+1)::(vs++dvs)) (Value.ref (s.heap.objs.size+1)::(us++ds)):=.cons rfl (r.append hd);have hl:(Value.ref (s.heap.objs.size+1)::us++ds).length=ps.length:=by
  have e:=r2.length;rw[F.len _ _ _ _ hq]at e;exact e.symm
 refine wpAny_call (Atj (f:=f) I.kIn M.makes M.init (beq_iff_eq.mp M.fn) (codeAny_mono (F.run _ X.stack _ _ ⟨Value.ref (s.heap.objs.size+1)::us,[]⟩ (Value.ref (s.heap.objs.size+1)::(us++ds)) _ _ E (hr.make C us [])
  (I2.env0.make C us []) (hb _ (Value.ref (s.heap.objs.size+1)::us) I2.kIn hl) r2 hq) fun r s' hq'=>?_))
 cases r with
 | error e=>exact hx pins σ _ _ e s' I2 hq'
 | ok fl =>
  cases fl with
  | ret u =>
   obtain⟨v,H',I3,rv,ev,q3⟩:=I2.after hq';subst ev;exact⟨rv,⟨V.ref (s.heap.objs.size+1),H',I3,rfl,q3⟩⟩
  | next=>exact False.elim hq'
  | brk=>exact False.elim hq'
  | cont=>exact False.elim hq'
theorem Aio (M:Mk X.K C f)(F:FnOk X.prog X.w X.K X.mg X.base CX k f fd ps sp)(hr:Room (k+1) X.A)(hg:Gl X x)(hm:X.mg x=some (.ref C))(hb:Binds X.K fd ps ds)(hd:Vals dvs ds)(hx:Agu CX X E)
 (ha:PA X (e::es) t) (hdb:(x==("__debug__" : Str))=false:=by decide) (he:starEach (e::es) X.env=(false,eval e X.env)::starEach es X.env:=by rfl) (hpl:(backTo pos (starEach es X.env)).any (·.1)=false:=by rfl) :
 PE X (.Call (.Name x p) (e::es) [] pos) (Bai C sp dvs E t):=by
 intro pins s σ H Q I h;refine wpAny_Call_Name_kw (Alk I hg hm ?_ hdb);refine W.callWith_K (h₀:=X.base) I.ok.mod.kin M.kp (thn (ha pos pins s σ H _ I h) fun us s1 ⟨vs,H1,I1,r,q⟩=>⟨I1.kIn,?_⟩) he hpl;exact Ast M F hr hb hd hx I1 r q
end
section
variable {X:Cx}{CX:CXT}{k:Nat}{f C:Addr}{fd:FuncData}{ps ks:List Str}{sp:Sp}{E:XK}{x m:Str}{p pos apos kpos:Pos}{e o:Expr}{es:List Expr}{kws:List Keyword}{te ta:TE}{t tk:TA}{nm:Option Str}
variable {g:List Value→List Value→List Value}{gV:List V→List V→List V}
end
structure Aaa (N P:List Str)(sc:Scope):Prop where
 kind:sc.kind=.function
 co:sc.isCoroutine=false
 gen:sc.isGenerator=false
 nd:N.Nodup
 pre:N.take P.length=P
 par:∀x∈P,sc.names.lookup x=some .local ∨sc.names.lookup x=some .cell
 nofree:∀y∈sc.names,y.2≠.free
theorem Akt {kindOf:Str→Option NameKind}{x:Str}:∀{binds:List (Str×Value)} {m:Str→Option Value},(∀v,(x,v)∉binds)→bindL kindOf binds m x=m x
 | [],_,_=>rfl
 | (n,v)::r,m,h=>by
  unfold bindL;rw[Akt fun w hw=>h w (List.mem_cons_of_mem _ hw)]
  split
  ·have:x≠n:=by rintro rfl;exact h v List.mem_cons_self
   simp[this]
  ·rfl
theorem Akv {kindOf:Str→Option NameKind}{x:Str}:∀{binds:List (Str×Value)} {m:Str→Option Value},(∀v,(x,v)∉binds)→bindC kindOf binds m x=m x
 | [],_,_=>rfl
 | (n,v)::r,m,h=>by
  unfold bindC;rw[Akv fun w hw=>h w (List.mem_cons_of_mem _ hw)]
  split
  ·rfl
  ·have:x≠n:=by rintro rfl;exact h v List.mem_cons_self
   simp[this]
theorem Aku {kindOf:Str→Option NameKind}{x:Str}{v:Value}:∀{P:List Str} {vs:List Value} {i:Nat} {m:Str→Option Value},P.Nodup→P[i]?=some x→vs[i]?=some v→kindOf x=some .local →
 bindL kindOf (P.zip vs) m x=some v
 | [],_,_,_,_,h,_,_=>by simp at h
 | _::_,[],_,_,_,_,h,_=>by simp at h
 | p::P,w::vs,0,m,nd,h1,h2,hk=>by
  simp at h1 h2;subst h1;subst h2;show bindL kindOf ((p,w)::P.zip vs) m p=_;unfold bindL;rw[Akt fun v hv=>(List.nodup_cons.mp nd).1 (List.of_mem_zip hv).1,if_pos hk];simp
 | p::P,w::vs,i+1,m,nd,h1,h2,hk=>by
  show bindL kindOf ((p,w)::P.zip vs) m x=_;unfold bindL;exact Aku (i:=i) (List.nodup_cons.mp nd).2 (by simpa using h1) (by simpa using h2) hk
theorem Akw {kindOf:Str→Option NameKind}{x:Str}{v:Value}:∀{P:List Str} {vs:List Value} {i:Nat} {m:Str→Option Value},P.Nodup→P[i]?=some x→vs[i]?=some v→kindOf x≠some .local →
 bindC kindOf (P.zip vs) m x=some v
 | [],_,_,_,_,h,_,_=>by simp at h
 | _::_,[],_,_,_,_,h,_=>by simp at h
 | p::P,w::vs,0,m,nd,h1,h2,hk=>by
  simp at h1 h2;subst h1;subst h2;show bindC kindOf ((p,w)::P.zip vs) m p=_;unfold bindC;rw[Akv fun v hv=>(List.nodup_cons.mp nd).1 (List.of_mem_zip hv).1,if_neg hk];simp
 | p::P,w::vs,i+1,m,nd,h1,h2,hk=>by
  show bindC kindOf ((p,w)::P.zip vs) m x=_;unfold bindC;exact Akw (i:=i) (List.nodup_cons.mp nd).2 (by simpa using h1) (by simpa using h2) hk
def start (N:List Str)(vs:List V):St:=vs.map some++List.replicate (N.length-vs.length) none
def Axv (CX:CXT)(P:Program)(w:World)(K:W.Frag)(mg:Str→Option Value)(base:Heap)(N:List Str)(qual:Str)(scope:Scope)(f:Addr)(cd:Value)(A:Around)(outer:List Env)(s:Shared)(H:Hp)(E:XK):Cx where
 prog:=P
 w:=w
 K:=K
 mg:=mg
 base:=base
 A:=A.deeper (envOfC qual scope s.heap.objs.size f cd)
 N:=N
 s_0:=s
 H_0:=H
 env:=envOfC qual scope s.heap.objs.size f cd
 outer:=outer
 stack:=envOfC qual scope s.heap.objs.size f cd::outer
 ex:=[]
 calm:=true
 fn:=fun _=>true
 pn:=[]
 xe:=fun e s'=>wpAny (model P w) (A.deeper (envOfC qual scope s.heap.objs.size f cd)) (leaving (envOfC qual scope s.heap.objs.size f cd) e) (fun _ s''=>CX outer H s E e s'') (fun e' s''=>CX outer H s E e' s'') s'
theorem Ana {sc:Scope}{n:Nat}{x:Str}(h:sc.names.lookup x=some .cell):∃c,(cellsFrom n sc.names []).lookup x=some c:=by
 have q:=W.cellsFrom_some sc.names n [] (.inl h);exact Option.isSome_iff_exists.mp q
theorem Ar9 {CX:CXT}{P:Program}{w:World}{K:W.Frag}{mg:Str→Option Value}{base:Heap}{N ps:List Str}{qual:Str}{scope:Scope}{f:Addr}{cd:Value}{A:Around}{outer:List Env}{s s1:Shared}{H:Hp}{E:XK}{us:List Value}{vs:List V}
 (S:Aaa N ps scope) (hd:A.handled=none) (e0:Env0 P w K mg base A outer s H) (hl:vs.length=ps.length) (r:Vals vs us)
 (x:InCallC s s.heap.objs.size (bindL (envOfC qual scope s.heap.objs.size f cd).kindOf (ps.zip us) fun _=>none) (cellsFrom (s.heap.objs.size+1) scope.names []) (bindC (envOfC qual scope s.heap.objs.size f cd).kindOf (ps.zip us) fun _=>none) s1) :
 Inv (Axv CX P w K mg base N qual scope f cd A outer s H E) [] (start N vs) H s1:=by
 have hpl:ps.length≤N.length:=by have:=congrArg List.length S.pre;rw[List.length_take]at this;lia
 obtain⟨h1,tk,rfl,hk⟩:=x.done;have noA:∀b:Addr,b∉(Axv CX P w K mg base N qual scope f cd A outer s H E).ex:=fun b z=>absurd (show b∈([]:List Addr)from z) (by simp)
 refine⟨⟨e0.mod,S.kind,rfl,rfl,Nat.le_refl _,fun y z c h1 h2=>?_,fun y hy=>?_,fun y c _ h=>?_,fun _=>hd,Around.frames_deeper e0.frames,.inr ⟨rfl,rfl⟩,fun b z=>absurd z (noA b),e0.bs,e0.bsz,fun b _ _=>noA b,fun b z=>absurd z (noA b),e0.funs,e0.frf⟩,
  rfl,e0.bare,Un.kept hk,⟨_,x.toInCall.ns,fun i y v h1 h2 h3=>?_⟩,fun y c h=>⟨_,x.cell y c h⟩,e0.hok.fresh (Nat.le_refl _),fun y c h=>?_,fun p hp=>absurd (show p∈([]:List (Addr×Obj))from hp) (by simp),e0.hok.kept hk,?_⟩
 ·exact name_of_addr x.apart (PySem.mem_of_lookup h1) (PySem.mem_of_lookup h2)
 ·have hy:scope.names.lookup y=some .cell ∨scope.names.lookup y=some .free:=hy;rcases hy with hy | hy
  ·exact Ana hy
  ·exact absurd rfl (S.nofree _ (PySem.mem_of_lookup hy))
 ·exact Nat.le_of_lt (x.above y c (PySem.mem_of_lookup h))
 ·have hi:i<vs.length:=by
   unfold start at h2
   by_cases hi:i<vs.length
   ·exact hi
   ·rw[List.getElem?_append_right (by simpa using hi)]at h2;rw[List.getElem?_replicate]at h2
    split at h2<;>cases h2
  have ha:vs[i]?=some v:=by
   unfold start at h2;rw[List.getElem?_append_left (by simpa using hi),List.getElem?_map]at h2;cases e:vs[i]? with
   | none=>rw[e]at h2;cases h2
   | some a=>rw[e]at h2;cases h2;rfl
  obtain⟨u,hu,rv⟩:=r.get ha;have hp:ps[i]?=some y:=by
   rw[←S.pre,List.getElem?_take_of_lt (by lia)];exact h1
  have ndP:ps.Nodup:=by rw[←S.pre];exact S.nd.sublist (List.take_sublist _ _)
  refine⟨u,rv,?_⟩;rcases S.par y (List.mem_of_getElem? hp)with k | k
  ·exact .inl ⟨k,Aku ndP hp hu k⟩
  ·obtain⟨c,e⟩:=Ana (n:=s.heap.objs.size+1) k;refine .inr ⟨.inl k,c,e,?_⟩;have q:=x.cell y c e;rw[Akw ndP hp hu (by show scope.names.lookup y≠_;rw[k];decide)]at q;exact q
 ·exact e0.hok.fresh (Nat.le_of_lt (x.above y c (PySem.mem_of_lookup h)))
 ·unfold start;show _=N.length;rw[List.length_append,List.length_map,List.length_replicate];lia
theorem Bb8 {CX:CXT}{P:Program}{w:World}{K:W.Frag}{mg:Str→Option Value}{base:Heap}{k:Nat}{f:Addr}{name qual:Str}{params:Arguments}{body:List Stmt}{scope:Scope}{dV kV doc pm cdv ct oc:Value}{an od:Option Addr}
 {osl:Array (Option Value)} {N ps:List Str} {sp:Sp} (lk:K.lookup f=some ⟨oc,od,.func (W.fnOf name qual params body scope dV kV doc pm an cdv ct),osl⟩) (hcd:W.codeIn K cdv qual=true) (S:Aaa N ps scope)
 (len:∀vs H Q E,sp vs H Q E→vs.length=ps.length)
 (hbody:∀(A:Around) (outer:List Env) (s:Shared) (H:Hp) (vs:List V) (Q:VK) (E:XK),Room k (A.deeper (envOfC qual scope s.heap.objs.size f cdv))→sp vs H Q E→
  ∃t,PSs (Axv CX P w K mg base N qual scope f cdv A outer s H E) body t∧t { nx:=fun _ H'=>Q .non H',rt:=Q } (start N vs) H) :
 FnOk P w K mg base CX (k+1) f (W.fnOf name qual params body scope dV kV doc pm an cdv ct) ps sp:=by
 refine⟨len,fun A outer s H args us vs Q E hr e0 hb r hsp=>?_⟩;have hl:=len _ _ _ _ hsp;have KX:K.In s.heap:=e0.mod.kin.keeps fun b o e=>(e0.bs b o e).1;have lim:s.heap.NoLimit:=e0.mod.nolimit.keeps fun b o e=>(e0.bs b o e).1;have hkind:∀y∈ps.zip us,scope.names.lookup y.1=some .local ∨(scope.names.lookup y.1=some .cell ∧((cellsFrom (s.heap.objs.size+1) scope.names []).lookup y.1).isSome=true):=fun⟨n,v⟩ hy=>by
  rcases S.par n (List.of_mem_zip hy).1 with q | q
  ·exact .inl q
  ·exact .inr ⟨q,W.cellsFrom_some _ _ _ (.inl q)⟩
 refine codeAny_call_function hr.depth (KX _ _ lk) rfl S.co S.gen rfl (W.codeRec_of KX hcd) (hb _ _ _ _ ?_);refine wpAny_newFunctionEnv_cells S.kind hkind fun env he s1 x=>?_;subst he;refine⟨lim.keeps x.toInCall.keep,codeAny_func ?_⟩;obtain⟨t,ht,hq⟩:=hbody A outer s H vs Q E (hr.deeper _) hsp;have I:Inv (Axv CX P w K mg base N qual scope f cdv A outer s H E) [] (start N vs) H s1:=Ar9 S hr.hd e0 hl r x
 refine wpAny_mono (ht [] s1 (start N vs) H _ I hq) (fun fl s' hs=>?_) fun e s' hs=>hs;have fin:∀{σ':St} {H':Hp} {v:V} {u:Value},Inv (Axv CX P w K mg base N qual scope f cdv A outer s H E) [] σ' H' s'→RelV v u→Q v H'→CE outer P w H s Q u s' :=
  fun {σ' H' v u} J rv q=>⟨v,H',J.os,J.bare,J.base,J.hok,rv,q⟩
 cases fl with
 | ret u =>
  obtain⟨v,σ',H',J,rv,q⟩:=hs;exact fin J rv q
 | next =>
  obtain⟨σ',H',J,q⟩:=hs;exact fin (v:=V.non) (u:=Value.none) J rfl q
 | brk =>
  obtain⟨_,_,_,q⟩:=hs;exact False.elim q
 | cont =>
  obtain⟨_,_,_,q⟩:=hs;exact False.elim q
end L2
namespace L2
open PySem PySem.Spec PyProof.Rows
section
variable {X:Cx}{x:Str}{p pos:Pos}{e:Expr}{es:List Expr}{t:TA}{id T:String}{r:List V→Hp→VK→Prop}
def tCB (r:List V→Hp→VK→Prop)(t:TA):TE:=fun σ H Q=>t σ H fun vs H1=>r vs H1 Q
theorem Aaf (hc:Agx X (.builtin id) r)(hg:Gl X x)(hm:X.mg x=none)(hv:bootBuiltins x=some (.builtin id))(ha:PA X (e::es) t)(hn:x≠"__name__":=by decide)(hdb:(x==("__debug__" : Str))=false:=by decide)
 (he:starEach (e::es) X.env=(false,eval e X.env)::starEach es X.env:=by rfl) (hpl:(backTo pos (starEach es X.env)).any (·.1)=false:=by rfl):PE X (.Call (.Name x p) (e::es) [] pos) (tCB r t):=by
 intro pins s σ H Q I h;refine wpAny_Call_Name_kw (Aka I hg hm hv ?_ hn hdb);exact PyProof.Rows.callWith_builtin1 (thn (ha pos pins s σ H _ I h) fun us s1 ⟨vs,H1,I1,r1,q1⟩=>hc pins s1 σ H1 vs us Q I1 r1 q1) he hpl
theorem Ag5 (hc:Agx X (.type T) r)(hg:Gl X x)(hm:X.mg x=none)(hv:bootBuiltins x=some (.type T))(ha:PA X (e::es) t)(hn:x≠"__name__":=by decide)(hdb:(x==("__debug__" : Str))=false:=by decide)
 (he:starEach (e::es) X.env=(false,eval e X.env)::starEach es X.env:=by rfl) (hpl:(backTo pos (starEach es X.env)).any (·.1)=false:=by rfl):PE X (.Call (.Name x p) (e::es) [] pos) (tCB r t):=by
 intro pins s σ H Q I h;refine wpAny_Call_Name_kw (Aka I hg hm hv ?_ hn hdb);exact PyProof.Rows.callWith_type1 (thn (ha pos pins s σ H _ I h) fun us s1 ⟨vs,H1,I1,r1,q1⟩=>hc pins s1 σ H1 vs us Q I1 r1 q1) he hpl
end
end L2
namespace HT
open PySem PyProof.Rows
theorem eqAt_int (A:Around)(s:Shared)(a:Int)(t:Tok)(c:Int)(u:Tok):∃e,SeqAt.EqAt A s (.int a t) (.int c u) e∧(e=true↔a=c) :=
 ⟨(a==c),SeqAt.EqAt.int_int a t c u,by simp⟩
section
open PySem.SeqAt
open PySem.AutoSeq1 (wpAny_loadPart')
open PySem.MeetsSeq PySem.MeetsSeq2 PySem.MeetsSeq3
end
section
variable {prog:Program}{w:World}{A:Around}{E:Value→Shared→Prop}{s:Shared}
def sIx (n d:Nat):Option Int→Nat
 | none=>d
 | some v=>if v<0 then(v+(n:Int)).toNat else min v.toNat n
theorem Bas (n d k:Nat):sIx n d (some (k:Int))=min k n:=by
 show(if (k:Int)<0 then((k:Int)+(n:Int)).toNat else min (k:Int).toNat n)=min k n;rw[if_neg (by lia),Int.toNat_natCast]
end
end HT
namespace L2
open PySem PySem.Spec PyProof.Rows
abbrev TO:=St→Hp→(Option Int→Hp→Prop)→Prop
def PO (X:Cx)(e:Option Expr)(t:TO):Prop :=
 ∀(pins:List (Addr×Obj)) (s:Shared) (σ:St) (H:Hp) (Q:Option Int→Hp→Prop),Inv X pins σ H s→t σ H Q→
  wpAny (model X.prog X.w) X.A (evalPart e X.env) (fun u s'=>∃o H',Inv X pins σ H' s'∧IsPart u o∧Q o H') X.xe s
def Avr:TO:=fun _ H Q=>Q none H
def Bag (t:TE):TO:=fun σ H Q=>t σ H fun x H1=>∃i,x=.int i∧Q (some i) H1
theorem Abp {ns:List Int}:∀{us:List Value},Vals (ns.map V.int) us→IntsAre us ns:=by
 induction ns with
 | nil=>intro us r;rw[List.map_nil]at r;cases r;exact .nil
 | cons n ns ih =>
  intro us r;rw[List.map_cons]at r;cases r with
  | cons r1 r2 =>
   obtain⟨t,e⟩:=r1;subst e;exact .cons n t (ih r2)
section
variable {X:Cx}{e:Expr}{te:TE}{lo hi:Option Expr}{tl th:TO}{pos p2:Pos}
theorem Awc:PO X none Avr:=by
 intro pins s σ H Q I h;rw[evalPart_none];exact wpAny_pure ⟨none,H,I,.none,h⟩
theorem Awb (h:PE X e te):PO X (some e) (Bag te):=by
 intro pins s σ H Q I hw;rw[evalPart_some];refine thn (h pins s σ H _ I hw) fun u s1 ⟨x,H1,I1,r1,q1⟩=>?_;obtain⟨i,rfl,q⟩:=q1;obtain⟨t,rfl⟩:=r1;exact⟨some i,H1,I1,.int i t,q⟩
def SlR (X:Cx)(r:V→Option Int→Option Int→Hp→VK→Prop):Prop :=
 ∀(pins:List (Addr×Obj)) (s:Shared) (σ:St) (H:Hp) (x:V) (v vl vu:Value) (lo hi:Option Int) (sl:Addr) (Q:VK),Inv X pins σ H s→RelV x v→s.heap.IsSliceOf sl vl vu .none→IsPart vl lo→IsPart vu hi→r x lo hi H Q→
  ∃T id,typeLookup (.type T) "__getitem__" = pure (some (.builtin id))∧s.TypeIs v T∧wpAny (model X.prog X.w) X.A (getItem v (.ref sl)) (EP X pins σ Q) X.xe s
def tSl (r:V→Option Int→Option Int→Hp→VK→Prop)(te:TE)(tl th:TO):TE:=fun σ H Q=>te σ H fun x H1=>tl σ H1 fun l H2=>th σ H2 fun u H3=>r x l u H3 Q
theorem Asz {r:V→Option Int→Option Int→Hp→VK→Prop}(hr:SlR X r)(he:PE X e te)(hl:PO X lo tl)(hu:PO X hi th):PE X (.Subscript e (.Slice lo hi none p2) pos) (tSl r te tl th):=by
 intro pins s σ H Q I h;refine Subscript_ (thn (he pins s σ H _ I h) fun v s1 ⟨x,H1,I1,r1,q1⟩=>?_);refine wpAny_Slice (thn (hl pins s1 σ H1 _ I1 q1) fun vl s2 ⟨l,H2,I2,pl,q2⟩=>thn (hu pins s2 σ H2 _ I2 q2) fun vu s3 ⟨u,H3,I3,pu,q3⟩=>?_);rw[evalPart_none];refine wpAny_pure ?_;have I4:Inv X pins σ H3 { s3 with heap:=s3.heap.push { cls:=.type "slice",data:=.fields #[vl,vu,.none] } }:=I3.kept (t':=s3.toks) fun b ob q=>Heap.get?_push_of_some _ q
 obtain⟨T,id,hT,ht,hg⟩:=hr pins { s3 with heap:=s3.heap.push { cls:=.type "slice",data:=.fields #[vl,vu,.none] } } σ H3 x v vl vu l u s3.heap.objs.size Q I4 r1 (Heap.IsSliceOf.new ..) pl pu q3;show wpAny (model X.prog X.w) X.A (subscriptTail e (.Slice lo hi none p2) v (.ref s3.heap.objs.size)) (EP X pins σ Q) X.xe { s3 with heap:=s3.heap.push { cls:=.type "slice",data:=.fields #[vl,vu,.none] } };exact tail_any (ops:=[.ref s3.heap.objs.size,v]) ht hT hg (by with_unfolding_all rfl)
def Axw (xs:List V)(lo hi:Option Int):List V:=(xs.drop (HT.sIx xs.length 0 lo)).take (HT.sIx xs.length xs.length hi-HT.sIx xs.length 0 lo)
theorem Aly (xs:List V)(lo hi:Option Int):(Axw xs lo hi).length≤xs.length:=by
 unfold Axw;rw[List.length_take,List.length_drop];lia
end
end L2
namespace L2
open PySem PySem.Spec PyProof.Rows
def ixN (n:Nat)(i:Int):Option Nat:=if 0≤i then(if i<n then some i.toNat else none)else if -(n:Int)≤i then some (i+n).toNat else none
def atI {α:Type}(xs:List α)(i:Int):Option α:=(ixN xs.length i).bind fun j=>xs[j]?
theorem Ax6 {n:Nat}{i:Int}{j:Nat}(h:ixN n i=some j):seqIndex? i n=some j∧j<n∧-(n:Int)≤i∧i<n:=by
 unfold ixN at h
 by_cases h0:0≤i
 ·rw[if_pos h0]at h
  by_cases h1:i<n
  ·rw[if_pos h1]at h;have e:i.toNat=j:=Option.some.inj h;exact⟨by rw[seqIndex_of h0 h1,e],by lia,by lia,h1⟩
  ·rw[if_neg h1]at h;cases h
 ·rw[if_neg h0]at h
  by_cases h1 : -(n:Int)≤i
  ·rw[if_pos h1]at h;have e:(i+n).toNat=j:=Option.some.inj h;exact⟨by rw[seqIndex_neg (by lia) h1,e],by lia,h1,by lia⟩
  ·rw[if_neg h1]at h;cases h
theorem Arz {α:Type}{xs:List α}{i:Int}{v:α}(h:atI xs i=some v):∃j,seqIndex? i xs.length=some j∧xs[j]?=some v∧j<xs.length∧-(xs.length:Int)≤i∧i<xs.length:=by
 unfold atI at h;cases e:ixN xs.length i with
 | none=>rw[e]at h;cases h
 | some j =>
  rw[e]at h;obtain⟨h1,h2,h3,h4⟩:=Ax6 e;exact⟨j,h1,h,h2,h3,h4⟩
theorem Ae0 {α:Type}{xs:List α}{j:Nat}{v:α}(h:xs[j]?=some v):atI xs (j:Int)=some v:=by
 have hj:j<xs.length:=(List.getElem?_eq_some_iff.mp h).1;have e:ixN xs.length (j:Int)=some j:=by
  unfold ixN;rw[if_pos (by lia),if_pos (by lia)];simp
 unfold atI;rw[e];exact h
theorem Auh {α:Type}(xs:List α)(v:α):atI (xs++[v]) (-1)=some v:=by
 have hl:(xs++[v]).length=xs.length+1:=by simp
 have e:ixN (xs++[v]).length (-1)=some xs.length:=by
  unfold ixN;rw[hl,if_neg (by decide),if_pos (by lia)]
  congr 1
  lia
 unfold atI;rw[e];show(xs++[v])[xs.length]?=some v;simp
def Am5 (b:Expr):Prop:=∀o i,subscripted b false o i=operate [o,i] (getItem o i)
def IxR (X:Cx)(r:R2):Prop :=
 ∀(value slice:Expr) (pins:List (Addr×Obj)) (s:Shared) (σ:St) (H:Hp) (x y:V) (v u:Value) (Q:VK),Inv X pins σ H s→RelV x v→RelV y u→r x y H Q→
  subscripted slice false v u=operate [v,u] (getItem v u)→wpAny (model X.prog X.w) X.A (subscriptTail value slice v u) (EP X pins σ Q) X.xe s
def MtR (X:Cx)(id:String)(r:V→List V→Hp→VK→Prop):Prop :=
 ∀(pins:List (Addr×Obj)) (s:Shared) (σ:St) (H:Hp) (x:V) (xs:List V) (v:Value) (us:List Value) (Q:VK),Inv X pins σ H s→RelV x v→Vals xs us→r x xs H Q→
  wpAny (model X.prog X.w) X.A (call (.builtin id) (v::us)) (EP X pins σ Q) X.xe s
section
variable {X:Cx}{a b:Expr}{ta tb:TE}{pos:Pos}
theorem Ayx {r:R2}(hr:IxR X r)(ha:PE X a ta)(hb:PE X b tb)(hs:Am5 b):PE X (.Subscript a b pos) (tOp r ta tb):=by
 intro pins s σ H Q I h;exact Subscript_ (Bbb ha hb I h fun v u s2 x y H2 I2 rx ry q=>hr a b pins s2 σ H2 x y v u Q I2 rx ry q (hs _ _))
def Axr (K:W.Frag):R2:=fun x y H Q=>∃p xs i v,x=.ref p∧y=.int i∧SqL K H p xs∧atI xs i=some v∧Q v H
def Ayu (K:W.Frag):R2:=fun x y H Q=>∃p xs i v,x=.ref p∧y=.int i∧SqT K H p xs∧atI xs i=some v∧Q v H
theorem Ax5:IxR X (Axr X.K):=by
 intro value slice pins s σ H x y v u Q I rx ry h hs;obtain⟨p,xs,i,z,rfl,rfl,hq,he,q⟩:=h;cases rx;obtain⟨t,rfl⟩:=ry;obtain⟨its,r,pl,hz⟩:=I.list hq;obtain⟨j,h1,h2,h3,h4,h5⟩:=Arz he;obtain⟨w,ew,rw'⟩:=r.get h2;have hl:=r.length;have hn:=Amv;have fin:EP X pins σ Q w s:=⟨z,H,I,rw',q⟩
 by_cases h0:0≤i
 ·have hj:i.toNat=j:=by
   rw[seqIndex_of h0 h5]at h1;exact Option.some.inj h1
  exact item_listR pl.isList h0 (by lia) (by rw[hj];simpa using ew) fin hs
 ·have hj:(i+(its.toArray.size:Int)).toNat=j:=by
   rw[seqIndex_neg (by lia) h4]at h1;rw[List.size_toArray,←hl];exact Option.some.inj h1
  exact subscriptTail_builtinR (x:=w) pl.isList.typeIs slot_list_getitem.lookup
   (wpAny_getItem_list_neg (Q:=fun r s'=>r=w∧EP X pins σ Q r s') pl.isList (by lia) (by rw[List.size_toArray]<;>lia) (by lia) (by rw[hj];simpa using ew) ⟨rfl,fin⟩) hs
theorem Azn:IxR X (Ayu X.K):=by
 intro value slice pins s σ H x y v u Q I rx ry h hs;obtain⟨p,xs,i,z,rfl,rfl,hq,he,q⟩:=h;cases rx;obtain⟨t,rfl⟩:=ry;obtain⟨its,r,pl,hz⟩:=I.tuple hq;obtain⟨j,h1,h2,h3,h4,h5⟩:=Arz he;obtain⟨w,ew,rw'⟩:=r.get h2;have hl:=r.length;have hn:=Amv;have fin:EP X pins σ Q w s:=⟨z,H,I,rw',q⟩
 exact subscriptTail_builtinR (x:=w) pl.typeIs slot_tuple_getitem.lookup
  (getItem_tuple (j:=j) (Q:=fun r s'=>r=w∧EP X pins σ Q r s') pl (by lia) (by lia) (by rw[List.size_toArray,←hl];exact h1) (by simpa using ew) ⟨rfl,fin⟩) hs
theorem Aju (lo hi:Option Int)(n:Nat):(sliceBounds lo hi none n).1=((HT.sIx n 0 lo:Nat):Int)∧(sliceBounds lo hi none n).2.1=((HT.sIx n n hi:Nat):Int)∧(sliceBounds lo hi none n).2.2=1:=by
 refine⟨?_,?_,rfl⟩
 ·cases lo with
  | none=>simp[sliceBounds,HT.sIx]
  | some i =>
   simp only[sliceBounds,HT.sIx,Option.getD_none,show(1:Int)>0 by decide,if_true]
   by_cases h:i<0
   ·simp only[h,if_true]<;>lia
   ·simp only[h,if_false]<;>lia
 ·cases hi with
  | none=>simp[sliceBounds,HT.sIx]
  | some i =>
   simp only[sliceBounds,HT.sIx,Option.getD_none,show(1:Int)>0 by decide,if_true]
   by_cases h:i<0
   ·simp only[h,if_true]<;>lia
   ·simp only[h,if_false]<;>lia
theorem Aii (its:List Value)(lo hi:Option Int):slicePick its.toArray lo hi none=((its.drop (HT.sIx its.length 0 lo)).take (HT.sIx its.length its.length hi-HT.sIx its.length 0 lo)).toArray:=by
 obtain⟨h1,h2,h3⟩:=Aju lo hi its.toArray.size;unfold slicePick;rw[h1,h2,h3];simp only[sliceRange_one,pick_run,List.size_toArray]<;>rfl
def Bc9 (K:W.Frag):V→Option Int→Option Int→Hp→VK→Prop:=fun x lo hi H Q=>∃a xs,x=.ref a∧SqL K H a xs∧∀p,H p=none→Q (.ref p) (upd H p (.lst (Axw xs lo hi)))
theorem Avx:SlR X (Bc9 X.K):=by
 intro pins s σ H x v vl vu lo hi sl Q I rx hs pl pu h;obtain⟨a,xs,rfl,hx,q⟩:=h;cases rx;obtain⟨its,r,ht,hz⟩:=I.list hx;have hlen:=r.length;refine⟨"list",_,slot_list_getitem.lookup,ht.isList.typeIs,?_⟩;refine wpAny_getItem_list_slice ht.isList hs pl pu .none (by simp) ?_ (by rw[List.size_toArray]<;>lia);rw[Aii,←hlen];refine⟨.ref s.heap.objs.size,_,I.laid (t':=s.toks) (o:=.lst (Axw xs lo hi)) (fun b ob q=>Heap.get?_push_of_some _ q) (Nat.le_refl _) ?_,rfl,q _ (I.hok.fresh (Nat.le_refl _))⟩
 exact⟨Nat.le_trans (Aly xs lo hi) hz,_,0,(r.drop (HT.sIx xs.length 0 lo)).take (HT.sIx xs.length xs.length hi-HT.sIx xs.length 0 lo),Heap.get?_push_size _ rfl⟩
theorem Aab:Agx X (.builtin "len") (fun xs H Q=>∃p ys,xs=[.ref p]∧(SqL X.K H p ys∨SqT X.K H p ys)∧Q (.int ys.length) H):=by
 intro pins s σ H xs us Q I r h;obtain⟨p,ys,rfl,hq,q⟩:=h;obtain⟨u,rfl,rx⟩:=Al0 r;cases rx;have hn:=Amv;rcases hq with hq | hq
 ·obtain⟨its,r',pl,hz⟩:=I.list hq;have hlen:=r'.length;exact Calls.call_len_list pl.isList (by simp only[List.size_toArray]<;>lia) ⟨.int ys.length,H,I.tok _,⟨s.toks+1,by rw[List.size_toArray,hlen]⟩,q⟩
 ·obtain⟨its,r',pl,hz⟩:=I.tuple hq;have hlen:=r'.length;exact len_tuple pl (by simp only[List.size_toArray]<;>lia) ⟨.int ys.length,H,I.tok _,⟨s.toks+1,by rw[List.size_toArray,hlen]⟩,q⟩
theorem Aee:Agx X (.type "tuple") (fun xs H Q=>∃p ys,xs=[.ref p]∧((SqL X.K H p ys∧∀l,H l=none→Q (.ref l) (upd H l (.tup ys)))∨(SqT X.K H p ys∧Q (.ref p) H))):=by
 intro pins s σ H xs us Q I r h;obtain⟨p,ys,rfl,h⟩:=h;obtain⟨u,rfl,rx⟩:=Al0 r;cases rx;rcases h with ⟨hq,q⟩ | ⟨hq,q⟩
 ·obtain⟨its,r',pl,hz⟩:=I.list hq;have hlen:=r'.length;refine call_tuple_list pl.isList (fun h' kp=>?_) (by simp only[List.size_toArray]<;>lia);have I1:Inv X pins σ H { s with heap:=h' }:=I.kept (t':=s.toks) kp;have I2:Inv X pins σ (upd H h'.objs.size (.tup ys)) { s with heap:=h'.push { cls:=.type "tuple",data:=.seq its.toArray } } :=
   I1.laid (t':=s.toks) (fun b o e=>Heap.get?_push_of_some _ e) (Nat.le_refl _) (show ObjOk X.prog X.w _ _ _ (.tup ys) from⟨hz,its,r',IsTup.new _ _⟩)
  exact⟨.ref h'.objs.size,_,I2,rfl,q _ (I1.hok.fresh (Nat.le_refl _))⟩
 ·obtain⟨its,r',pl,hz⟩:=I.tuple hq;exact call_tuple_same pl ⟨.ref p,H,I,rfl,q⟩
def tyV (K:W.Frag)(T:String)(x:V)(H:Hp):Prop:=match x with
 | .str _=>T = "str"
 | .int _=>T = "int"
 | .ref p=>(T = "list"∧∃xs,SqL K H p xs)∨(T = "tuple"∧∃o,K.lookup p=some o∧o.cls=.type "tuple"∧o.dict=none)∨
  (T = "dict"∧((∃kvs,H p=some (.dK kvs))∨∃kvs,H p=some (.dT kvs)))∨(T = "set"∧∃S n,H p=some (.set S n))
 | _=>False
theorem Aup {pins:List (Addr×Obj)}{σ:St}{H:Hp}{s:Shared}{T:String}{x:V}{v:Value}(I:Inv X pins σ H s)(r:RelV x v)(ty:tyV X.K T x H) :
 s.TypeIs v T∧∀a,v=.ref a→∃ob,s.heap.get? a=some ob∧ob.dict=none:=by
 cases x with
 | str z =>
  obtain⟨t,rfl⟩:=r;cases (show T = "str" from ty);exact⟨typeIs_str s z t,fun _ e=>nomatch e⟩
 | int i =>
  obtain⟨t,rfl⟩:=r;cases (show T = "int" from ty);exact⟨typeIs_int s i t,fun _ e=>nomatch e⟩
 | ref p =>
  cases r;rcases ty with ⟨rfl,xs,hq⟩ | ⟨rfl,o,hk,hc,hd⟩ | ⟨rfl,hk⟩ | ⟨rfl,S,n,hk⟩
  ·obtain⟨its,_,pl,_⟩:=I.list hq;refine⟨pl.isList.typeIs,fun a e=>?_⟩;cases e;obtain⟨o,n,e,c,hd,_⟩:=pl;exact⟨o,e,hd⟩
  ·refine⟨⟨o,I.kIn p o hk,hc⟩,fun a e=>?_⟩;cases e;exact⟨o,I.kIn _ o hk,hd⟩
  ·have z:∃o,s.heap.get? p=some o∧o.ExactDict:=by
    rcases hk with ⟨kvs,hk⟩ | ⟨kvs,hk⟩
    ·obtain⟨_,_,_,_,o,_,_,e,ex,_⟩:=I.hok p _ hk;exact⟨o,e,ex⟩
    ·obtain⟨_,_,_,_,o,_,_,e,ex,_⟩:=I.hok p _ hk;exact⟨o,e,ex⟩
   obtain⟨o,e,ex⟩:=z;refine⟨⟨o,e,ex.1⟩,fun a e2=>?_⟩;cases e2;exact⟨o,e,ex.2.1⟩
  ·obtain⟨o,_,_,_,e,ex,_⟩:=I.hok p _ hk;refine⟨⟨o,e,ex.1⟩,fun a e2=>?_⟩;cases e2;exact⟨o,e,ex.2.1⟩
 | _=>exact False.elim ty
def Bby (K:W.Frag)(T:String)(r:V→List V→Hp→VK→Prop)(to:TE):TE:=fun σ H Q=>to σ H fun x H1=>tyV K T x H1∧r x [] H1 Q
def tBM (K:W.Frag)(T:String)(r:V→List V→Hp→VK→Prop)(to:TE)(t:TA):TE:=fun σ H Q=>to σ H fun x H1=>tyV K T x H1∧t σ H1 fun xs H2=>r x xs H2 Q
variable {o e:Expr}{es:List Expr}{to:TE}{t:TA}{name:Str}{apos cpos:Pos}{T id:String}{r:V→List V→Hp→VK→Prop}
theorem Ayy (pa:PlainAttrs T)(slot:Slot T name id)(hty:typeOf (.builtin id)=pure (.type "method_descriptor"))(hm:MtR X id r)(ho:PE X o to)
 (hbase:attributeBase o name X.env (eval o X.env)=eval o X.env:=by rfl) (hline:(apos.endLine==cpos.line)=true:=by rfl):PE X (.Call (.Attribute o name apos) [] [] cpos) (Bby X.K T r to):=by
 intro pins s σ H Q I h;refine wpAny_Call_method0_late hbase hline (thn (ho pins s σ H _ I h) fun v s1 ⟨x,H1,I1,r1,ty,q1⟩=>?_);obtain⟨h1,h2⟩:=Aup I1 r1 ty;exact⟨T,id,pa,slot,hty,h1,h2,Calls.callWith_builtin rfl (PySem.evalArgs_none (hm pins s1 σ H1 x [] v [] Q I1 r1 .nil q1))⟩
theorem Aej (pa:PlainAttrs T)(slot:Slot T name id)(hty:typeOf (.builtin id)=pure (.type "method_descriptor"))(hm:MtR X id r)(ho:PE X o to)(ha:PA X (e::es) t)
 (hbase:attributeBase o name X.env (eval o X.env)=eval o X.env:=by rfl)
 (hfew:((backTo cpos (starEach (e::es) X.env)).all (fun x=>!x.1)&&(backToKw cpos (keywordEach [] X.env)).all (fun x=>x.1.isSome)
  && decide ((e::es).length+([]:List Keyword).length+(if ([]:List Keyword).isEmpty then 0 else 1)<30))=true:=by rfl)
 (hline:(apos.endLine==cpos.line)=true:=by rfl) (hs:starEach (e::es) X.env=(false,eval e X.env)::starEach es X.env:=by rfl) (hplain:(backTo cpos (starEach es X.env)).any (·.1)=false:=by rfl) :
 PE X (.Call (.Attribute o name apos) (e::es) [] cpos) (tBM X.K T r to t):=by
 intro pins s σ H Q I h;refine wpAny_Call_method_late hbase hfew hline rfl (thn (ho pins s σ H _ I h) fun v s1 ⟨x,H1,I1,r1,ty,q1⟩=>?_);obtain⟨h1,h2⟩:=Aup I1 r1 ty;refine⟨T,id,pa,slot,hty,h1,h2,?_⟩;have hA:=ha cpos pins s1 σ H1 _ I1 q1;rw[hs]at hA ⊢;refine Calls.callWith_builtin (by show(false||(backTo cpos (starEach es X.env)).any (·.1))=false;rw[hplain]<;>rfl) (Calls.evalArgs_plain ?_);exact thn hA fun us s2 ⟨vs,H2,I2,r2,q2⟩=>hm pins s2 σ H2 x vs v us Q I2 r1 r2 q2
end
end L2
namespace L2
open PySem PySem.Spec PyProof.Rows
def MtM (X:Cx)(id:String)(r:V→List V→Hp→VK→Prop):Prop :=
 ∀(pins:List (Addr×Obj)) (s:Shared) (σ:St) (H:Hp) (x:V) (xs:List V) (v:Value) (us:List Value) (Q:VK),Inv X pins σ H s→RelV x v→Vals xs us→r x xs H Q→
  wpAny (model X.prog X.w) X.A (call (.builtin id) (v::us)) (EP X pins σ Q) X.xe s
theorem Vals.one:∀{x:V} {us:List Value},Vals [x] us→∃u,us=[u]∧RelV x u
 | _,_,.cons r .nil=>⟨_,rfl,r⟩
theorem Vals.two:∀{x y:V} {us:List Value},Vals [x,y] us→∃u v,us=[u,v]∧RelV x u∧RelV y v
 | _,_,_,.cons r (.cons q .nil)=>⟨_,_,rfl,r,q⟩
theorem Vals.zero:∀{us:List Value},Vals [] us→us=[]
 | _,.nil=>rfl
theorem Vals.dropLast {xs:List V}{us:List Value}(h:Vals xs us):Vals xs.dropLast us.dropLast:=by
 induction h with
 | nil=>exact .nil
 | cons r t ih =>
  cases t with
  | nil=>exact .nil
  | cons q t'=>exact .cons r ih
theorem Aok {α:Type}(l:List α):l.eraseIdx (l.length-1)=l.dropLast:=by
 induction l with
 | nil=>rfl
 | cons a r ih =>
  cases r with
  | nil=>rfl
  | cons b r =>
   have e:(a::b::r).length-1=((b::r).length-1)+1:=by
    have h1:(a::b::r).length=r.length+2:=rfl;have h2:(b::r).length=r.length+1:=rfl;lia
   rw[e,List.eraseIdx_cons_succ,ih]
   all_goals rfl
section
variable {X:Cx}{pins:List (Addr×Obj)}{σ:St}{H:Hp}{s:Shared}{l b:Addr}{xs ys zs:List V}
theorem Inv.lset {its its':List Value}{n:Nat}{f:Array Value→Array Value}{t':Nat}(I:Inv X pins σ H s)(hH:H l=some (.lst xs))
 (e:s.heap.get? l=some { cls:=.type "list",data:=.seq its.toArray n }) (hf:f its.toArray=its'.toArray) (hv:Vals ys its') (hz:ys.length≤sizeLine) :
 Inv X pins σ (upd H l (.lst ys)) { s with heap:=s.heap.update l (Obj.mapSeq f),toks:=t' }:=by
 have q:=PySem.IsL.update e f;rw[hf]at q;refine I.write (x:=l) (e:=l) (by rw[hH];exact trivial) (.inl rfl) (fun b' u hb hu=>(Heap.get?_update_other s.heap (Obj.mapSeq f) (Ne.symm hb)).trans hu) ⟨_,q⟩ ?_;exact⟨hz,its',_,hv,q⟩
theorem Inv.lnew {its:List Value}{t':Nat}(I:Inv X pins σ H s)(hv:Vals ys its)(hz:ys.length≤sizeLine) :
 Inv X pins σ (upd H s.heap.objs.size (.lst ys)) { s with heap:=s.heap.push { cls:=.type "list",data:=.seq its.toArray },toks:=t' } :=
 I.laid (fun _ _ q=>Heap.get?_push_of_some _ q) (Nat.le_refl _) ⟨hz,its,0,hv,Heap.get?_push_size _ rfl⟩
theorem Inv.fresh (I:Inv X pins σ H s):H s.heap.objs.size=none:=I.hok.fresh (Nat.le_refl _)
theorem Inv.lstM (I:Inv X pins σ H s)(hH:H l=some (.lst xs)):xs.length≤sizeLine∧∃(its:List Value) (n:Nat),Vals xs its∧xs.length=its.length∧s.heap.get? l=some { cls:=.type "list",data:=.seq its.toArray n }:=by
 obtain⟨z,its,n,r,e⟩:=I.hok l _ hH;exact⟨z,its,n,r,r.length,e⟩
theorem Ati {n:Nat}(h:n≤sizeLine):Builtin.List.listTooLong n=false:=by
 unfold Builtin.List.listTooLong;exact decide_eq_false (by lia)
end
section
variable {X:Cx}
def Aw8:V→List V→Hp→VK→Prop:=fun x vs H Q=>∃l xs y,x=.ref l∧vs=[y]∧H l=some (.lst xs)∧xs.length<sizeLine∧Q .non (upd H l (.lst (xs++[y])))
theorem Ab3:MtM X "list.append" Aw8:=by
 intro pins s σ H x vs v us Q I rx rv h;obtain⟨l,xs,y,rfl,rfl,hH,hz,q⟩:=h;cases rx;obtain⟨u,rfl,ru⟩:=rv.one;obtain⟨z,its,n,r,hl,e⟩:=I.lstM hH;refine call_meets F.slot_list_append ⟨_,e,rfl⟩ F.entry_list_append (F.args_list_append_2 _ _) (PySem.list_append l its.toArray n u (by rw[List.size_toArray];lia)) ⟨e,?_⟩;refine⟨.non,_,I.lset (its':=its++[u]) hH e (by simp) (r.append (.cons ru .nil)) ?_,rfl,q⟩
 rw[List.length_append,List.length_singleton];lia
def Aw7:V→List V→Hp→VK→Prop:=fun x vs H Q=>∃l b xs zs,x=.ref l∧vs=[.ref b]∧H l=some (.lst xs)∧H b=some (.lst zs)∧xs.length+zs.length≤sizeLine∧Q .non (upd H l (.lst (xs++zs)))
theorem Azg:MtM X "list.extend" Aw7:=by
 intro pins s σ H x vs v us Q I rx rv h;obtain⟨l,b,xs,zs,rfl,rfl,hH,hB,hz,q⟩:=h;cases rx;obtain⟨u,rfl,ru⟩:=rv.one;cases ru;obtain⟨z,its,n,r,hl,e⟩:=I.lstM hH;obtain⟨z2,its2,n2,r2,hl2,e2⟩:=I.lstM hB;have hsz:its.toArray.size+its2.toArray.size≤sizeLine:=by rw[List.size_toArray,List.size_toArray];lia
 have hlong:¬(!its.toArray.isEmpty&&Builtin.List.listTooLong (its.toArray.size+its2.toArray.size))=true:=by
  rw[Ati hsz,Bool.and_false];exact Bool.false_ne_true
 refine call_meets F.slot_list_extend ⟨_,e,rfl⟩ F.entry_list_extend (F.args_list_extend_2 _ _)
  (AutoSeq1.list_extend_list_list_0 l its.toArray n b its2.toArray n2 hlong (by rw[List.size_toArray];lia) (by lia)) ⟨e,e2,?_⟩
 refine⟨.non,_,I.lset (its':=its++its2) hH e (by simp) (r.append r2) ?_,rfl,q⟩;rw[List.length_append];lia
def Bca:V→List V→Hp→VK→Prop:=fun x vs H Q=>∃l xs y,x=.ref l∧vs=[]∧H l=some (.lst xs)∧xs[xs.length-1]?=some y∧Q y (upd H l (.lst xs.dropLast))
theorem Azf:MtM X "list.pop" Bca:=by
 intro pins s σ H x vs v us Q I rx rv h;obtain⟨l,xs,y,rfl,rfl,hH,hy,q⟩:=h;cases rx;have hus:=rv.zero;subst hus;obtain⟨z,its,n,r,hl,e⟩:=I.lstM hH;obtain⟨u,hu,ru⟩:=r.get hy;have hy':its.toArray[its.toArray.size-1]?=some u:=by
  show its.toArray[its.length-1]?=some u;rw[←Array.getElem?_toList,←hl];exact hu
 refine call_meets F.slot_list_pop ⟨_,e,rfl⟩ F.entry_list_pop (F.args_list_pop_1 _) (MeetsSeq.list_pop_last l its.toArray n u hy' (by rw[List.size_toArray];lia)) ⟨e,?_⟩;refine⟨y,_,I.lset (its':=its.dropLast) hH e ?_ r.dropLast ?_,ru,q⟩
 ·show its.toArray.eraseIdxIfInBounds (its.toArray.size-1)=its.dropLast.toArray;rw[List.size_toArray,List.eraseIdxIfInBounds_toArray,Aok]
 ·rw[List.length_dropLast];lia
def Bce:R2:=fun x y H Q=>∃l b xs zs,x=.ref l∧y=.ref b∧H l=some (.lst xs)∧H b=some (.lst zs)∧xs.length+zs.length≤sizeLine∧∀p,H p=none→Q (.ref p) (upd H p (.lst (xs++zs)))
theorem Av3:OpR X (binaryOp .Add) Bce:=by
 intro pins s σ H x y v u Q I rx ry h;obtain⟨l,b,xs,zs,rfl,rfl,hH,hB,hz,q⟩:=h;cases rx;cases ry;obtain⟨z,its,n,r,hl,e⟩:=I.lstM hH;obtain⟨z2,its2,n2,r2,hl2,e2⟩:=I.lstM hB;refine PySem.P.add_list e e2 ?_ (by rw[List.size_toArray,List.size_toArray];lia);have ea:its.toArray++its2.toArray=(its++its2).toArray:=by simp
 rw[ea];exact⟨.ref _,_,I.lnew (t':=s.toks) (r.append r2) (by rw[List.length_append];lia),rfl,q _ I.fresh⟩
end
section
variable {prog:Program}{w:World}{A:Around}{E:Value→Shared→Prop}{s:Shared}
set_option maxRecDepth 100000 in
end
section
variable {X:Cx}
end
end L2
namespace L2
open PySem PySem.Spec PyProof.Rows
theorem Ajm:∀{us:List Value} {ns:List Int},IntsAre us ns→Vals (ns.map V.int) us
 | _,_,.nil=>by rw[List.map_nil];exact Paired.nil
 | _,_,.cons n t h=>by rw[List.map_cons];exact Paired.cons (show RelV (V.int n) (Value.int n t) from⟨t,rfl⟩) (Ajm h)
section
variable {prog:Program}{w:World}{A:Around}{E:Value→Shared→Prop}{s:Shared}{l:Addr}{its:List Value}{ns:List Int}{Q:Value→Shared→Prop}
end
section
variable {X:Cx}
end
section
variable {X:Cx}
end
section
variable {X:Cx}
end
section
variable {X:Cx}
end
mutual
inductive Dp (K:W.Frag)(H:Hp):V→PyData→Prop
 | non:Dp K H .non .none
 | bl (b:Bool):Dp K H (.bl b) (.bool b)
 | int (i:Int):Dp K H (.int i) (.int i)
 | str (x:Str):Dp K H (.str x) (.str x)
 | lst {a:Addr} {xs:List V} {ds:List PyData}:SqL K H a xs→Am6 K H xs ds→Dp K H (.ref a) (.list ds)
 | tup {a:Addr} {xs:List V} {ds:List PyData}:SqT K H a xs→Am6 K H xs ds→Dp K H (.ref a) (.tuple ds)
inductive Am6 (K:W.Frag)(H:Hp):List V→List PyData→Prop
 | nil:Am6 K H [] []
 | cons {v:V} {vs:List V} {d:PyData} {ds:List PyData}:Dp K H v d→Am6 K H vs ds→Am6 K H (v::vs) (d::ds)
end
section
variable {X:Cx}{pins:List (Addr×Obj)}{σ:St}{H:Hp}{s:Shared}
mutual
theorem Dp.reads (I:Inv X pins σ H s):∀(d:PyData) (v:V) (u:Value),Dp X.K H v d→RelV v u→∃as,Reads s.heap u d as
 | .none,_,_,h,r=>by
  cases h;cases r;exact⟨_,Reads.none⟩
 | .bool b,_,_,h,r=>by
  cases h;cases r;exact⟨_,Reads.bool b⟩
 | .int i,_,_,h,r=>by
  cases h;obtain⟨t,rfl⟩:=r;exact⟨_,Reads.int i t⟩
 | .str x,_,_,h,r=>by
  cases h;obtain⟨t,rfl⟩:=r;exact⟨_,Reads.str x t⟩
 | .list ds,_,_,h,r=>by
  cases h with
  | lst hs ha =>
   cases r;obtain⟨its,rv,⟨o,n,ho,hc,_,hd⟩,_⟩:=I.list hs;obtain⟨as,hr⟩:=Dp.readsAll I ds _ its ha rv;exact⟨_,Reads.list ho hc hd hr⟩
 | .tuple ds,_,_,h,r=>by
  cases h with
  | tup hs ha =>
   cases r;obtain⟨its,rv,⟨o,ho,hc,n,hd⟩,_⟩:=I.tuple hs;obtain⟨as,hr⟩:=Dp.readsAll I ds _ its ha rv;exact⟨_,Reads.tuple ho hc hd hr⟩
 | .dict _,_,_,h,_=>by cases h
theorem Dp.readsAll (I:Inv X pins σ H s):∀(ds:List PyData) (vs:List V) (us:List Value),Am6 X.K H vs ds→Vals vs us→∃as,ReadsAll s.heap us ds as
 | [],_,_,h,r=>by
  cases h;cases r;exact⟨_,ReadsAll.nil⟩
 | d::ds,_,_,h,r=>by
  cases h with
  | cons h1 h2 =>
   cases r with
   | cons r1 r2 =>
    obtain⟨as,q1⟩:=Dp.reads I d _ _ h1 r1;obtain⟨bs,q2⟩:=Dp.readsAll I ds _ _ h2 r2;exact⟨_,ReadsAll.cons q1 q2⟩
end
end
section
variable {X:Cx}
def Bcb (K:W.Frag):R2:=fun x y H Q=>∃d e,Dp K H x d∧Dp K H y e∧SeqAt.shaped d=true∧SeqAt.shaped e=true∧Q (.bl (!PyData.eqv d e)) H
theorem Az1 (hu:X.A.units+64<cLine):OpR X (compareOp .NotEq) (Bcb X.K):=by
 intro pins s σ H x y v u Q I rx ry h;obtain⟨d,e,hd,he,sd,se,q⟩:=h;obtain⟨as,r1⟩:=Dp.reads I d x v hd rx;obtain⟨bs,r2⟩:=Dp.reads I e y u he ry;exact SeqAt.compareNe_shaped r1 r2 sd se hu ⟨.bl _,H,I,rfl,q⟩
end
end L2
namespace L2
open PySem PySem.Spec PyProof.Rows
abbrev Avk (h:Heap)(c:Addr)(v:Option Value):Prop:=h.IsCell c v
def Bc8 (scope sc:Scope):Scope :=
 { scope with names:=scope.names.map fun(n,k)=>if (k==.free&&sc.kind==.function&&sc.names.lookup n==some .cell) then(n,.cell) else(n,k) }
def Aav (cells:List (Str×Addr)):List (Str×NameKind)→List (Str×Addr)→List (Str×Addr)
 | [],acc=>acc
 | (n,k)::r,acc=>if k==.free then Aav cells r ((n,(cells.lookup n).getD 0)::acc)else Aav cells r acc
theorem Af7 (env:Env)(f:Str×NameKind→List (Str×Addr)→Sem (ForInStep (List (Str×Addr))))
 (hf:∀n k c,f (n,k) c=if k==.free then(do let a ←cellOf env n;pure (.yield ((n,a)::c)))else pure (.yield c)) :
 ∀(names:List (Str×NameKind)) (acc:List (Str×Addr)),(∀y∈names,y.2=.free →∃c,env.cells.lookup y.1=some c)→forIn names acc f=pure (Aav env.cells names acc)
 | [],acc,_=>by rw[List.forIn_nil];rfl
 | (n,k)::r,acc,h=>by
  rw[List.forIn_cons,hf];have ih:=fun acc=>Af7 env f hf r acc fun y hy=>h y (List.mem_cons_of_mem _ hy);unfold Aav
  by_cases hk:(k==NameKind.free)=true
  ·rw[if_pos hk,if_pos hk];obtain⟨c,hc⟩:=h (n,k) List.mem_cons_self (by simpa using hk);have e:cellOf env n=pure c:=by unfold cellOf;rw[hc]
   rw[e];have e2:(env.cells.lookup n).getD 0=c:=by rw[hc];rfl
   rw[e2];exact ih _
  ·rw[if_neg hk,if_neg hk];exact ih _
theorem Aon {scope:Scope}{env:Env}(h:∀y∈scope.names,y.2=.free →∃c,env.cells.lookup y.1=some c):closureFor scope env=pure (Aav env.cells scope.names []):=by
 simp only[closureFor];rw[Af7 env _ (fun n k c=>rfl) scope.names [] h];rfl
theorem Aen {α:Type}:∀{l:List (Str×α)} {n:Str} {c:α},(n,c)∈l→∃c',l.lookup n=some c'
 | (k,v)::r,n,c,h=>by
  rw[List.lookup_cons];cases hb:n==k with
  | true=>exact⟨_,rfl⟩
  | false =>
   rcases List.mem_cons.mp h with e | h
   ·cases e;simp at hb
   ·exact Aen h
theorem Acr {cells:List (Str×Addr)}:∀{names:List (Str×NameKind)} {acc:List (Str×Addr)} {n:Str} {c:Addr},(n,c)∈Aav cells names acc→(n,c)∈acc∨((n,.free)∈names∧c=(cells.lookup n).getD 0)
 | [],_,_,_,h=>.inl h
 | (m,k)::r,acc,n,c,h=>by
  unfold Aav at h
  split at h
  ·rename_i hk
   have hk:k=.free:=by simpa using hk
   rcases Acr h with h | ⟨h1,h2⟩
   ·rcases List.mem_cons.mp h with e | h
    ·cases e;exact .inr ⟨hk ▸ List.mem_cons_self,rfl⟩
    ·exact .inl h
   ·exact .inr ⟨List.mem_cons_of_mem _ h1,h2⟩
  ·rcases Acr h with h | ⟨h1,h2⟩
   ·exact .inl h
   ·exact .inr ⟨List.mem_cons_of_mem _ h1,h2⟩
theorem Adz {cells:List (Str×Addr)}:∀{names:List (Str×NameKind)} {acc:List (Str×Addr)} {p:Str×Addr},p∈acc→p∈Aav cells names acc
 | [],_,_,h=>h
 | (m,k)::r,acc,p,h=>by
  unfold Aav
  split
  ·exact Adz (List.mem_cons_of_mem _ h)
  ·exact Adz h
theorem Ady {cells:List (Str×Addr)}:∀{names:List (Str×NameKind)} {acc:List (Str×Addr)} {n:Str},(n,.free)∈names→(n,(cells.lookup n).getD 0)∈Aav cells names acc
 | (m,k)::r,acc,n,h=>by
  unfold Aav;rcases List.mem_cons.mp h with e | h
  ·cases e;exact Adz List.mem_cons_self
  ·split
   ·exact Ady h
   ·exact Ady h
theorem Ad7:∀{names:List (Str×NameKind)} {h:Heap} {acc:List (Str×Addr)} {x:Str} {c:Addr},(x,c)∈cellsFrom h.objs.size names acc→
 (x,c)∈acc∨((x,.cell)∈names∧h.objs.size≤c∧Avk (pushCells h names) c none)
 | [],_,_,_,_,h=>.inl h
 | (n,k)::r,h,acc,x,c,hm=>by
  unfold cellsFrom at hm;unfold pushCells
  split at hm
  ·rename_i hk
   rw[if_pos hk];have hk:k=.cell:=by simpa using hk
   rw[←Heap.size_push h { cls:=.type "cell",data:=.cell none }]at hm;rcases Ad7 hm with hm | ⟨h1,h2,h3⟩
   ·rcases List.mem_cons.mp hm with e | hm
    ·cases e;exact .inr ⟨hk ▸ List.mem_cons_self,Nat.le_refl _,_,pushCells_keeps r _ _ _ (Heap.get?_push_size _ rfl),rfl⟩
    ·exact .inl hm
   ·rw[Heap.size_push]at h2;exact .inr ⟨List.mem_cons_of_mem _ h1,Nat.le_of_succ_le h2,h3⟩
  ·rename_i hk
   rw[if_neg hk];rcases Ad7 hm with hm | ⟨h1,h2,h3⟩
   ·exact .inl hm
   ·exact .inr ⟨List.mem_cons_of_mem _ h1,h2,h3⟩
theorem Aed:∀{names:List (Str×NameKind)} {n:Nat} {acc:List (Str×Addr)} {p:Str×Addr},p∈acc→p∈cellsFrom n names acc
 | [],_,_,_,h=>h
 | (m,k)::r,n,acc,p,h=>by
  unfold cellsFrom
  split
  ·exact Aed (List.mem_cons_of_mem _ h)
  ·exact Aed h
theorem Ags:∀{names:List (Str×NameKind)} {n:Nat} {acc:List (Str×Addr)} {x:Str},(x,.cell)∈names→∃c,(x,c)∈cellsFrom n names acc
 | (m,k)::r,n,acc,x,h=>by
  unfold cellsFrom;rcases List.mem_cons.mp h with e | h
  ·cases e;exact⟨n,Aed List.mem_cons_self⟩
  ·split
   ·exact Ags h
   ·exact Ags h
theorem Agr:∀{names:List (Str×NameKind)} {h:Heap} {acc:List (Str×Addr)} {x y:Str} {c:Addr},(∀p∈acc,p.2<h.objs.size)→(∀x y c,(x,c)∈acc→(y,c)∈acc→x=y)→
 (x,c)∈cellsFrom h.objs.size names acc→(y,c)∈cellsFrom h.objs.size names acc→x=y
 | [],_,_,_,_,_,_,hi,h1,h2=>hi _ _ _ h1 h2
 | (n,k)::r,h,acc,x,y,c,hl,hi,h1,h2=>by
  unfold cellsFrom at h1 h2
  split at h1
  ·rename_i hk
   rw[if_pos hk]at h2;rw[←Heap.size_push h { cls:=.type "cell",data:=.cell none }]at h1 h2;refine Agr (h:=h.push _) (fun p hp=>?_) (fun x y c a b=>?_) h1 h2
   ·rw[Heap.size_push];rcases List.mem_cons.mp hp with rfl | hp
    ·exact Nat.lt_succ_self _
    ·exact Nat.lt_succ_of_lt (hl p hp)
   ·rcases List.mem_cons.mp a with e | a<;>rcases List.mem_cons.mp b with e' | b
    ·cases e;cases e';rfl
    ·cases e;exact absurd (hl _ b) (Nat.lt_irrefl _)
    ·cases e';exact absurd (hl _ a) (Nat.lt_irrefl _)
    ·exact hi _ _ _ a b
  ·rename_i hk
   rw[if_neg hk]at h2;exact Agr hl hi h1 h2
theorem Ale {M:Model}{A:Around}{E:Value→Shared→Prop}{s:Shared}{scope:Scope}{globals:Addr}{closure:List (Str×Addr)}{qual:Str}{func:Option Addr}{code:Value}{around:Env}{builtins:Addr}{Q:Env→Shared→Prop}
 (h:Q (newEnv scope s.heap.objs.size globals (cellsFrom (s.heap.objs.size+1) scope.names closure) qual func code (some around) builtins)
  { s with heap:=pushCells (s.heap.push { cls:=.type "dict",data:=.dict #[] }) scope.names }) :
 wpAny M A (newFunctionEnv scope globals closure [] qual func code (some around) builtins) Q E s:=by
 simp only[newFunctionEnv,Option.isSome_some,if_true];refine wpAny_bind (wpAny_alloc ?_);refine wpAny_bind (wpAny_layCells _ (fun n k c=>rfl) scope.names closure _ _ ?_);rw[show({ s with heap:=s.heap.push { cls:=.type "dict",data:=.dict #[] } }:Shared).heap.objs.size=s.heap.objs.size+1 from Heap.size_push ..];rw[List.forIn_nil];exact wpAny_bind (wpAny_pure (wpAny_pure h))
theorem Adv {sc:Scope}:∀{names:List (Str×NameKind)} {x:Str} {k:NameKind},
 (names.map fun(n,k)=>if (k==NameKind.free&&sc.kind==.function&&sc.names.lookup n==some .cell) then(n,NameKind.cell) else(n,k)).lookup x=some k→
 ∃k',names.lookup x=some k'∧(k=k'∨(k'=.free ∧k=.cell))
 | [],_,_,h=>by simp at h
 | (n,k₀)::r,x,k,h=>by
  have ih:=@Adv sc r x k;have h':List.lookup x ((if (k₀==NameKind.free&&sc.kind==.function&&sc.names.lookup n==some .cell)=true then(n,NameKind.cell) else(n,k₀))::(r.map _))=some k:=h;cases hx:x==n with
  | true =>
   simp only[List.lookup_cons,hx]
   by_cases hc:(k₀==NameKind.free&&sc.kind==.function&&sc.names.lookup n==some .cell)=true
   ·rw[if_pos hc]at h';simp only[List.lookup_cons,hx]at h';cases h';simp only[Bool.and_eq_true,beq_iff_eq]at hc;exact⟨k₀,rfl,.inr ⟨hc.1.1,rfl⟩⟩
   ·rw[if_neg hc]at h';simp only[List.lookup_cons,hx]at h';cases h';exact⟨_,rfl,.inl rfl⟩
  | false =>
   simp only[List.lookup_cons,hx]
   by_cases hc:(k₀==NameKind.free&&sc.kind==.function&&sc.names.lookup n==some .cell)=true
   ·rw[if_pos hc]at h';simp only[List.lookup_cons,hx]at h';exact ih h'
   ·rw[if_neg hc]at h';simp only[List.lookup_cons,hx]at h';exact ih h'
structure As3 (N:List Str)(sc scope:Scope)(own:List (Str×Nat)):Prop where
 kind:scope.kind=.function
 uniq:∀y∈scope.names,scope.names.lookup y.1=some y.2
 ix:∀p∈own,N[p.2]?=some p.1
 free:∀y∈scope.names,y.2=.free →sc.names.lookup y.1=some .cell ∨sc.names.lookup y.1=some .free
 own:∀y∈scope.names,y.2=.local ∨y.2=.cell →y.1∈own.map (·.1)∨y.1∉N
def Af8 (σ:St):List Nat→St
 | []=>σ
 | v::vs=>(Af8 σ vs).set v none
theorem Adp (σ:St):∀vs:List Nat,(Af8 σ vs).length=σ.length
 | []=>rfl
 | v::vs=>by unfold Af8;rw[List.length_set,Adp σ vs]
theorem Afo {σ:St}{i:Nat}{x:V}:∀{vs:List Nat},(Af8 σ vs)[i]?=some (some x)→σ[i]?=some (some x)∧i∉vs
 | [],h=>⟨h,by simp⟩
 | v::vs,h=>by
  unfold Af8 at h
  by_cases hi:v=i
  ·subst hi
   by_cases hv:v<(Af8 σ vs).length
   ·rw[List.getElem?_set_self hv]at h;cases h
   ·rw[List.getElem?_eq_none (by simpa using hv)]at h;cases h
  ·rw[List.getElem?_set_ne hi]at h;obtain⟨h1,h2⟩:=Afo h;exact⟨h1,by simp only[List.mem_cons,not_or];exact⟨fun e=>hi e.symm,h2⟩⟩
abbrev Cx.blk (X:Cx)(s:Shared)(H:Hp)(scope:Scope)(cenv:Env)(fp:List Addr):Cx:={ X with s_0:=s,H_0:=H,env:=cenv,outer:=X.stack,ex:=fp,fn:=fun x=>scope.names.lookup x==some .cell,pn:=[],xe:=fun _ _=>False }
section
variable {X:Cx}{pins:List (Addr×Obj)}{σ:St}{H:Hp}{s:Shared}
theorem Am2 {scope:Scope}{own:List (Str×Nat)}{fp:List Addr}(I:Inv X pins σ H s)(ok:As3 X.N X.env.scope scope own)(hN:X.N.Nodup)(hfp:∀b∈fp,FpOk X pins H b∧b<s.heap.objs.size) :
 Inv (X.blk s H scope (compEnvC scope (cellsFrom (s.heap.objs.size+1) scope.names (Aav X.env.cells scope.names [])) s.heap.objs.size X.env) fp) [] (Af8 σ (own.map (·.2))) H { s with heap:=pushCells (s.heap.push { cls:=.type "dict",data:=.dict #[] }) scope.names }:=by
 have hfree:∀y∈scope.names,y.2=.free →∃c,X.env.cells.lookup y.1=some c:=fun y hy e=>by
  rcases ok.free y hy e with k | k
  ·exact I.ok.has _ (.inl k)
  ·exact I.ok.has _ (.inr k)
 generalize hcenv:compEnvC scope (cellsFrom (s.heap.objs.size+1) scope.names (Aav X.env.cells scope.names [])) s.heap.objs.size X.env=cenv;have kp:∀b o,s.heap.get? b=some o→(pushCells (s.heap.push { cls:=.type "dict",data:=.dict #[] }) scope.names).get? b=some o:=fun b o e=>pushCells_keeps _ _ _ _ (Heap.get?_push_of_some _ e);have hL:cenv.locals=s.heap.objs.size:=by rw[←hcenv];rfl
 have hcl:cenv.cells=cellsFrom (s.heap.objs.size+1) scope.names (Aav X.env.cells scope.names []):=by rw[←hcenv];rfl
 have hsc:cenv.scope=Bc8 scope X.env.scope:=by rw[←hcenv];rfl
 rw[←Heap.size_push s.heap { cls:=.type "dict",data:=.dict #[] }]at hcl;have cm:∀{y c},(y,c)∈Aav X.env.cells scope.names []→X.env.cells.lookup y=some c∧c<s.heap.objs.size:=fun {y c} hm=>by
  rcases Acr hm with hm | ⟨h1,rfl⟩
  ·cases hm
  ·obtain⟨c,hc⟩:=hfree _ h1 rfl;rw[hc];obtain⟨w,z⟩:=I.cell _ _ hc;exact⟨rfl,z.lt⟩
 have mem:∀{y c},cenv.cells.lookup y=some c→(X.env.cells.lookup y=some c∧c<s.heap.objs.size)∨(s.heap.objs.size+1≤c∧Avk (pushCells (s.heap.push { cls:=.type "dict",data:=.dict #[] }) scope.names) c none):=fun {y c} e=>by
  rw[hcl]at e;rcases Ad7 (PySem.mem_of_lookup e)with hm | ⟨_,h2,h3⟩
  ·exact .inl (cm hm)
  ·rw[Heap.size_push]at h2;exact .inr ⟨h2,h3⟩
 have look:∀{y},scope.names.lookup y=some .free →∃c,cenv.cells.lookup y=some c∧X.env.cells.lookup y=some c:=fun {y} hl=>by
  have hy:(y,NameKind.free)∈scope.names:=PySem.mem_of_lookup hl;obtain⟨c',e'⟩:=Aen (Aed (names:=scope.names) (n:=(s.heap.push { cls:=.type "dict",data:=.dict #[] }).objs.size) (Ady (cells:=X.env.cells) (acc:=[]) hy));rw[←hcl]at e';refine⟨c',e',?_⟩;rw[hcl]at e';rcases Ad7 (PySem.mem_of_lookup e')with hm | ⟨h1,_,_⟩
  ·exact(cm hm).1
  ·have:=ok.uniq _ h1;rw[hl]at this;cases this
 have okB:(X.blk s H scope cenv fp).Ok:=by
  refine⟨I.ok.mod,by show cenv.scope.kind=_;rw[hsc];exact ok.kind,by show cenv.globals=_;rw[←hcenv];exact I.ok.glob,by show cenv.builtins=_;rw[←hcenv];exact I.ok.blt,by show s.heap.objs.size≤cenv.locals;rw[hL];exact Nat.le_refl _,
   fun y z c e1 e2=>?_,fun y hy=>?_,fun y c z e=>?_,I.ok.hd,I.ok.frames,.inl rfl,fun b hb=>⟨?_,fun y c e z=>?_⟩,I.bs,Nat.le_trans I.ok.bsz I.sz,fun b o e hb=>?_,fun b hb z=>?_,I.stack,I.stkFree⟩
  ·have e1:cenv.cells.lookup y=some c:=e1;have e2:cenv.cells.lookup z=some c:=e2;rw[hcl]at e1 e2;refine Agr (fun p hp=>?_) (fun y z c a b=>I.ok.inj y z c (cm a).1 (cm b).1) (PySem.mem_of_lookup e1) (PySem.mem_of_lookup e2);rw[Heap.size_push];exact Nat.lt_succ_of_lt (cm (y:=p.1) (c:=p.2) hp).2
  ·show ∃c,cenv.cells.lookup y=some c;have key:∀k,cenv.kindOf y=some k→(k=.cell ∨k=.free)→∃c,cenv.cells.lookup y=some c:=fun k hk hk'=>by
    unfold Env.kindOf at hk;rw[hsc]at hk;obtain⟨k',e,r⟩:=Adv hk;have:k'=.cell ∨k'=.free:=by
     rcases r with rfl | ⟨rfl,_⟩
     ·exact hk'
     ·exact .inr rfl
    rcases this with rfl | rfl
    ·obtain⟨c,hm⟩:=Ags (n:=(s.heap.push { cls:=.type "dict",data:=.dict #[] }).objs.size) (acc:=Aav X.env.cells scope.names []) (PySem.mem_of_lookup e);obtain⟨c',e'⟩:=Aen hm;exact⟨c',by rw[hcl];exact e'⟩
    ·obtain⟨c,h1,_⟩:=look e;exact⟨c,h1⟩
   rcases hy with hy | hy
   ·exact key _ hy (.inl rfl)
   ·exact key _ hy (.inr rfl)
  ·have z:(scope.names.lookup y==some NameKind.cell)=true:=z;have z:scope.names.lookup y=some .cell:=by simpa using z
   have e:cenv.cells.lookup y=some c:=e;rw[hcl]at e;rcases Ad7 (PySem.mem_of_lookup e)with hm | ⟨_,h2,_⟩
   ·rcases Acr hm with hm | ⟨h1,_⟩
    ·cases hm
    ·have q:=ok.uniq _ h1;rw[z]at q;cases q
   ·rw[Heap.size_push]at h2;exact Nat.le_of_succ_le h2
  ·show b≠cenv.locals;rw[hL];exact Nat.ne_of_lt (hfp b hb).2
  ·have e:cenv.cells.lookup y=some c:=e;rcases mem e with ⟨h1,_⟩ | ⟨h1,_⟩
   ·exact(hfp b hb).1.2.2.2.2.1 y c h1 z
   ·have h2:s.heap.objs.size+1≤b:=by rw[←z];exact h1
    exact absurd (Nat.lt_of_lt_of_le (hfp b hb).2 (Nat.le_of_succ_le h2)) (Nat.lt_irrefl _)
  ·rcases (hfp b hb).1.2.2.2.1 with z | z
   ·exact I.ok.noex b o e z
   ·exact absurd (Nat.lt_of_lt_of_le (Heap.lt_size e) (Nat.le_trans I.ok.bsz z)) (Nat.lt_irrefl _)
  ·rcases List.mem_cons.mp (I.stkSub b z)with z | z
   ·exact(hfp b hb).1.2.1 z
   ·exact(hfp b hb).1.2.2.1 z
 refine⟨okB,rfl,I.bare,Un.kept kp,⟨fun _=>none,?_,fun i y av e1 e2 e3=>?_⟩,fun y c e=>?_,?_,fun y c e=>?_,fun p hp=>?_,I.hok.kept kp,by rw[Adp];exact I.len⟩
 ·show Heap.Ns _ cenv.locals _;rw[hL];exact Heap.Ns.keeps (Heap.Ns.new ..) fun b o e=>pushCells_keeps _ _ _ _ e
 ·obtain⟨e2,hne⟩:=Afo e2;have hfr:scope.names.lookup y=some .free ∧(cenv.kindOf y=some .cell ∨cenv.kindOf y=some .free):=by
   have key:∀k,cenv.scope.names.lookup y=some k→k=.local ∨k=.cell ∨k=.free →scope.names.lookup y=some .free ∧(cenv.kindOf y=some .cell ∨cenv.kindOf y=some .free):=fun k hk hk'=>by
    have hk0:=hk;rw[hsc]at hk;obtain⟨k',e,r⟩:=Adv hk;have no:¬(k'=.local ∨k'=.cell):=fun hh=>by
     rcases ok.own _ (PySem.mem_of_lookup e) hh with e' | e'
     ·obtain⟨p,hp,hpy⟩:=List.mem_map.mp e';have e3:=ok.ix p hp;have:p.1=y:=hpy;rw[this]at e3;exact hne (List.mem_map.mpr ⟨p,hp,Ait hN e3 e1⟩)
     ·exact e' (List.mem_of_getElem? e1)
    rcases r with rfl | ⟨rfl,rfl⟩
    ·rcases hk' with rfl | rfl | rfl
     ·exact absurd (.inl rfl) no
     ·exact absurd (.inr rfl) no
     ·exact⟨e,.inr hk0⟩
    ·exact⟨e,.inl hk0⟩
   have e3:Vis cenv.scope y:=e3;rcases e3 with e3 | e3 | e3
   ·exact key _ e3 (.inl rfl)
   ·exact key _ e3 (.inr (.inl rfl))
   ·exact key _ e3 (.inr (.inr rfl))
  obtain⟨m,hn,hl⟩:=I.loc;have hvis:Vis X.env.scope y:=(ok.free _ (PySem.mem_of_lookup hfr.1) rfl).elim (fun k=>.inr (.inl k)) (fun k=>.inr (.inr k));obtain⟨w,r,q⟩:=hl i y av e1 e2 hvis;refine⟨w,r,.inr ⟨hfr.2,?_⟩⟩;obtain⟨c,h1,h2⟩:=look hfr.1;rcases q with ⟨k,_⟩ | ⟨_,c',e',z⟩
  ·have k:X.env.scope.names.lookup y=some .local:=k;rcases ok.free _ (PySem.mem_of_lookup hfr.1) rfl with k' | k'<;>rw[show X.env.scope.names.lookup y=_ from k']at k<;>cases k
  ·rw[h2]at e';cases e';exact⟨c,h1,z.keeps kp⟩
 ·have e:cenv.cells.lookup y=some c:=e;rcases mem e with ⟨h1,_⟩ | ⟨_,z⟩
  ·obtain⟨w,z⟩:=I.cell y c h1;exact⟨w,z.keeps kp⟩
  ·exact⟨_,z⟩
 ·show H cenv.locals=none;rw[hL];exact I.hok.fresh (Nat.le_refl _)
 ·have e:cenv.cells.lookup y=some c:=e;rcases mem e with ⟨h1,_⟩ | ⟨h1,_⟩
  ·exact I.freeC y c h1
  ·exact I.hok.fresh (Nat.le_of_succ_le h1)
 ·exact absurd (show p∈([]:List (Addr×Obj))++[] from hp) (by simp)
theorem Azy {E:Value→Shared→Prop}{D:Addr}{xs:List V}{y:V}{v:Value}{Q:Value→Shared→Prop}(I:Inv X pins σ H s)(hD:H D=some (.lst xs))(hz:xs.length<sizeLine)(r:RelV y v)
 (h:∀s',Inv X pins σ (upd H D (.lst (xs++[y]))) s'→Q .none s'):wpAny (model X.prog X.w) X.A (call (.builtin "list.append") [.ref D,v]) Q E s:=by
 obtain⟨hz',its,n,ri,e⟩:=I.hok D _ hD;have hl:=ri.length;refine append_at (hsz:=by rw[List.size_toArray];lia) e fun h' sb ho'=>?_;refine h { s with heap:=h' } (I.write (t':=s.toks) (by rw[hD];trivial) (.inl rfl) (fun b u hb q=>(sb.2 b hb).trans q) ⟨_,ho'⟩ ⟨by rw[List.length_append];exact hz,its++[v],n+1,ri.append (.cons r .nil),?_⟩);rw[ho'];simp
def PTs (X:Cx)(ifs:List Expr)(t:TT):Prop :=
 ∀(pins:List (Addr×Obj)) (s:Shared) (σ:St) (H:Hp) (Q:Bool→Hp→Prop),Inv X pins σ H s→t σ H Q→
  wpAny (model X.prog X.w) X.A (forIn ifs true fun c r=>if r=true then do let ok ←isTrue c X.env (eval c X.env);pure (ForInStep.yield ok)else pure (ForInStep.yield r)) (TP X pins σ Q) X.xe s
def Axq:TT:=fun _ H Q=>Q true H
theorem Ag2:PTs X [] Axq:=fun _ _ _ H _ I h=>wpAny_tests_nil ⟨H,I,h⟩
theorem Aq1 {c:Expr}{t:TT}(h:PT X c t):PTs X [c] t:=fun pins s σ H Q I hw=>wpAny_tests_one (h pins s σ H Q I hw)
end
theorem Axp {α:Type}{t:Sem α}{Q Q':α→Shared→Prop}{M:Model}{A:Around}{E:Value→Shared→Prop}{s:Shared}(h:wpAny M A t Q (fun _ _=>False) s)(hQ:∀a s,Q a s→Q' a s):wpAny M A t Q' E s:=wpAny_mono h hQ fun _ _ z=>False.elim z
theorem Akm {prog:Program}{w:World}{A:Around}{R:Result→Shared→Prop}{s:Shared}{elt target iter:Expr}{ifs:List Expr}{scope:Scope}{pos:Pos}{it acc:Value}{env:Env}(I:Nat→Shared→Prop)
 (turn:∀n s,I n s→wpAny (model prog w) A (pyNext it) (fun r s₁=>match r with
  | none=>R (.ok .next) s₁
  | some v=>wpAny (model prog w) A (letOwnedTupleGo target it v) (fun _ s₁'=>wpAny (model prog w) A (assign target env v) (fun _ s₂ =>
   wpAny (model prog w) A (forIn ifs true fun c r=>if r=true then do let ok ←isTrue c env (eval c env);pure (ForInStep.yield ok)else pure (ForInStep.yield r)) (fun ok s₃ =>
    if ok=true then wpAny (model prog w) A (eval elt env) (fun x s₄ =>
     wpAny (model prog w) A (call (.builtin "list.append") [acc,x]) (fun _ s₅=>∃m,m<n∧I m s₅) (notedBy (model prog w) A env fun e s'=>R (.error e) s') s₄) (notedBy (model prog w) A env fun e s'=>R (.error e) s') s₃
    else ∃m,m<n∧I m s₃) (notedBy (model prog w) A env fun e s'=>R (.error e) s') s₂) (notedBy (model prog w) A env fun e s'=>R (.error e) s') s₁') (notedBy (model prog w) A env fun e s'=>R (.error e) s') s₁) (notedBy (model prog w) A env fun e s'=>R (.error e) s') s)
 (n:Nat) (h:I n s) :
 codeAny (model prog w) A (.compLoop (.ListComp elt [⟨target,iter,ifs,0⟩] scope pos) 0 it acc env) R s:=by
 refine codeAny_loop rfl I (fun n s hI=>?_) n h;show wpAny _ A ((compTurn (.ListComp elt [⟨target,iter,ifs,0⟩] scope pos) 0 it acc env).onRaise (fun x=>do noteFrame x env;theTreesLotGoes x)) _ _ s;refine wpAny_noted ?_;rw[compTurn_list];refine wpAny_bind (wpAny_standAt (wpAny_bind (wpAny_mono (turn n s hI) (fun r s₁ h₁=>?_) fun _ _ h'=>h')));cases r with
 | none=>exact wpAny_pure h₁
 | some v =>
  refine wpAny_bind (wpAny_mono h₁ (fun _ s₁' h₁'=>?_) fun _ _ h'=>h');refine wpAny_bind (wpAny_mono h₁' (fun _ s₂ h₂=>wpAny_bind (wpAny_mono h₂ (fun ok s₃ h₃=>?_) fun _ _ h'=>h')) fun _ _ h'=>h');cases ok with
  | false=>exact wpAny_pure ⟨rfl,h₃⟩
  | true =>
   exact wpAny_bind (wpAny_bind (wpAny_mono h₃ (fun x s₄ h₄=>wpAny_bind (wpAny_mono h₄ (fun _ s₅ h₅=>wpAny_pure (wpAny_pure ⟨rfl,h₅⟩)) fun _ _ h'=>h')) fun _ _ h'=>h'))
section
variable {X:Cx}
def tLc (wi:TI)(g:TG)(tt:TT)(te:TE)(vs:List Nat):TE:=fun σ H Q=>wi σ H fun J H1=>∀D,H1 D=none→∃W:Nat→Nat→Hp→Prop,(∃m,W 0 m (upd H1 D (.lst [])))∧∀i m H,W i m H→
 (J.stop i H∧Q (.ref D) H)∨(J.go i H∧∃Nx:Hp→Prop,(∀H',Nx H'→∃m',m'<m∧W (i+1) m' H')∧∀x H',J.yld i H x H'→g x (Af8 σ vs) H' fun σ2 H2=>Af8 σ2 vs=Af8 σ vs∧tt σ2 H2 fun b H3 =>
  if b=true then te σ2 H3 fun y H4=>∃acc,H4 D=some (.lst acc)∧acc.length<sizeLine∧Nx (upd H4 D (.lst (acc++[y])))else Nx H3)
theorem Aqx {pins:List (Addr×Obj)}{s:Shared}{σ:St}{H:Hp}{Q:VK}{elt tg iter:Expr}{ifs:List Expr}{scope:Scope}{own:List (Str×Nat)}{pos pos':Pos}{wi:TI}{g:TG}{tt:TT}{te:TE}{use:Option (Value→Sem Unit)}{Qf:Value→Shared→Prop}
 (hc:X.calm=true) (hN:X.N.Nodup) (I:Inv X pins σ H s) (hi:PI X tg iter wi) (ok:As3 X.N X.env.scope scope own)
 (hg:∀(s:Shared) (H:Hp) (C:Addr) (cl:List (Str×Addr)) (fp:List Addr),PG (X.blk s H scope (compEnvC scope cl C X.env) fp) tg g) (ht:∀(s:Shared) (H:Hp) (C:Addr) (cl:List (Str×Addr)) (fp:List Addr),PTs (X.blk s H scope (compEnvC scope cl C X.env) fp) ifs tt)
 (he:∀(s:Shared) (H:Hp) (C:Addr) (cl:List (Str×Addr)) (fp:List Addr),PE (X.blk s H scope (compEnvC scope cl C X.env) fp) elt te) (hs:∀x,foldedSetIterable iter X.env x=pure x)
 (h:tLc wi g tt te (own.map (·.2)) σ H Q)
 (hRR:∀D C s' m H',Inv X pins σ H' s'→Q (.ref D) H'→s'.heap.Ns C m→FpOk X pins H' C→compPost (model X.prog X.w) X.A X.xe use Qf (.ref D) C (.ok .next) s') :
 wpAny (model X.prog X.w) X.A (comprehension (.ListComp elt [⟨tg,iter,ifs,0⟩] scope pos) scope X.env pos' (newList []) false (eval iter X.env) use) Qf X.xe s:=by
 have hfree:∀y∈scope.names,y.2=.free →∃c,X.env.cells.lookup y.1=some c:=fun y hy e=>by
  rcases ok.free y hy e with k | k
  ·exact I.ok.has _ (.inl k)
  ·exact I.ok.has _ (.inr k)
 refine wpAny_comprehension_free (use:=use) rfl hs (Aon hfree) ok.kind (fun y hy e=>by rw[ok.uniq y hy,e])
  (thn (hi pins s σ H _ I h) fun xv s1 hx=>thn hx fun itv s2 h2=>?_)
 obtain⟨it,fp,tn,J,H2,e,I2,T,st2,f2,q⟩:=h2;subst e;refine wpAny_newObj_type (Ale ?_) (by show 0≤sizeLine;decide);generalize hD:s2.heap.objs.size=D;have hDn:H2 D=none:=I2.hok.fresh (Nat.le_of_eq hD);obtain⟨W,⟨m0,w0⟩,turn⟩:=q D hDn;generalize hs3:({ s2 with heap:=s2.heap.push { cls:=.type "list",data:=.seq ([]:List Value).toArray } }:Shared)=s3;have I3:Inv X pins σ (upd H2 D (.lst [])) s3:=by
  rw[←hs3];refine I2.laid (t':=s2.toks) (fun b o e=>Heap.get?_push_of_some _ e) (Nat.le_of_eq hD) ⟨Nat.zero_le _,[],0,.nil,?_⟩;rw[←hD];exact Heap.get?_push_size _ rfl
 have h3:s3.heap=s2.heap.push { cls:=.type "list",data:=.seq ([]:List Value).toArray }:=by rw[←hs3]
 have sz:∀b∈fp,b<s2.heap.objs.size:=fun b hb=>by
  obtain⟨o,e,_⟩:=T.obj _ _ st2 b hb;exact Heap.lt_size e
 have f3:∀b∈fp,FpOk X pins (upd H2 D (.lst [])) b∧b<s3.heap.objs.size:=fun b hb=>by
  have hlt:=sz b hb;refine⟨⟨?_,(f2 b hb).2⟩,by rw[h3,Heap.size_push];exact Nat.lt_succ_of_lt hlt⟩;rw[Aa6 (by rw[←hD];exact Nat.ne_of_lt hlt)];exact(f2 b hb).1
 have st3:tn 0 s3.heap:=T.keep _ _ _ st2 fun b _ o e=>by rw[h3];exact Heap.get?_push_of_some _ e
 have I4:=Am2 I3 ok hN f3;have pg:=hg s3 (upd H2 D (.lst [])) s3.heap.objs.size (cellsFrom (s3.heap.objs.size+1) scope.names (Aav X.env.cells scope.names [])) fp;have pt:=ht s3 (upd H2 D (.lst [])) s3.heap.objs.size (cellsFrom (s3.heap.objs.size+1) scope.names (Aav X.env.cells scope.names [])) fp;have pe:=he s3 (upd H2 D (.lst [])) s3.heap.objs.size (cellsFrom (s3.heap.objs.size+1) scope.names (Aav X.env.cells scope.names [])) fp
 show codeAny _ _ (.compStart (.ListComp elt [⟨tg,iter,ifs,0⟩] scope pos) 0 (.ref it) (.ref D) (compEnvC scope (cellsFrom (s3.heap.objs.size+1) scope.names (Aav X.env.cells scope.names [])) s3.heap.objs.size X.env)) (compPost (model X.prog X.w) X.A X.xe use Qf (.ref D) s3.heap.objs.size) { s3 with heap:=pushCells (s3.heap.push { cls:=.type "dict",data:=.dict #[] }) scope.names };have nfp:∀b∈fp,(upd H2 D (.lst [])) b=none:=fun b hb=>(f3 b hb).1.1
 generalize hce:compEnvC scope (cellsFrom (s3.heap.objs.size+1) scope.names (Aav X.env.cells scope.names [])) s3.heap.objs.size X.env=ce at I4 pg pt pe ⊢;have cL:ce.locals=s3.heap.objs.size:=by subst hce;rfl
 generalize hH3:upd H2 D (.lst [])=H3 at I3 I4 pg pt pe w0 nfp f3;generalize hs4:({ s3 with heap:=pushCells (s3.heap.push { cls:=.type "dict",data:=.dict #[] }) scope.names }:Shared)=s4 at I4 ⊢;have st4:tn 0 s4.heap:=T.keep _ _ _ st3 fun b _ o e=>by rw[←hs4];exact pushCells_keeps _ _ _ _ (Heap.get?_push_of_some _ e)
 have stat:∀{σ':St} {H':Hp} {s':Shared},Inv (X.blk s3 H3 scope ce fp) [] σ' H' s'→(∀b∈fp,H' b=none)→∀b∈fp,FpOk (X.blk s3 H3 scope ce fp) [] H' b:=fun {σ' H' s'} I' hn b hb =>
  ⟨hn b hb,(I'.ok.exf b hb).1,I'.ok.exfs b hb,.inl hb,fun x c e=>(I'.ok.exf b hb).2 x c e,fun p hp=>absurd (show p∈([]:List (Addr×Obj))++[] from hp) (by simp)⟩
 have loop:codeAny (model X.prog X.w) X.A (.compLoop (.ListComp elt [⟨tg,iter,ifs,0⟩] scope pos) 0 (.ref it) (.ref D) ce) (compPost (model X.prog X.w) X.A X.xe use Qf (.ref D) s3.heap.objs.size) s4:=by
  refine Akm (fun n s'=>∃i H',Inv (X.blk s3 H3 scope ce fp) [] (Af8 σ (own.map (·.2))) H' s'∧tn i s'.heap∧(∀b∈fp,H' b=none)∧W i n H') ?_ m0 ⟨0,H3,I4,st4,nfp,w0⟩;rintro n s5 ⟨i,H5,I5,st5,n5,w5⟩;rcases turn i n H5 w5 with ⟨stop,qq⟩ | ⟨go,Nx,hNx,step⟩
  ·have td:=T.done (X.blk s3 H3 scope ce fp) rfl rfl rfl hc i [] s5 _ H5 (fun _ _=>False) I5 (stat I5 n5) st5 stop;refine Axp td fun r s6 ⟨hr,I6⟩=>?_;subst hr;have I7:Inv X pins σ H5 s6:=I3.call' (ch:=fp) I6.os I6.base I6.hok I6.bare fun b hb=>⟨(f3 b hb).1.2.2.2.1,(f3 b hb).1.2.1,(f3 b hb).1.2.2.2.2.1,(f3 b hb).1.2.2.2.2.2⟩
   have nC:H5 s3.heap.objs.size=none:=by
    have z:H5 ce.locals=none:=I6.free;rw[cL]at z;exact z
   obtain⟨m,hn,_⟩:=I6.loc;have hn:s6.heap.Ns ce.locals m:=hn;rw[cL]at hn;exact hRR D s3.heap.objs.size s6 m H5 I7 qq hn (I3.fpOk (Nat.le_refl _) nC)
  ·have ti:=T.item (X.blk s3 H3 scope ce fp) rfl rfl rfl hc i [] s5 _ H5 (fun _ _=>False) I5 (stat I5 n5) st5 go;refine Axp ti fun r s6 ⟨u,hr,h6⟩=>?_;subst hr;refine Axp h6 fun _ s7 ⟨x,H7,I7,r7,y7,st7,n7⟩=>?_;have I7':=I7.pinned (stat I7 n7) (T.obj _ _ st7);refine Axp (pg _ s7 _ H7 x u _ I7' r7 (step x H7 y7)) fun _ s8 ⟨σ8,H8,I8,hw8,q8⟩=>?_;refine Axp (pt _ s8 σ8 H8 _ I8 q8) fun b s9 ⟨H9,I9,q9⟩=>?_
   have fin:∀{s':Shared} {H':Hp},Inv (X.blk s3 H3 scope ce fp) ([]++Ak4 fp s7.heap) σ8 H' s'→Nx H'→∃m,m<n∧∃i H',Inv (X.blk s3 H3 scope ce fp) [] (Af8 σ (own.map (·.2))) H' s'∧tn i s'.heap∧(∀b∈fp,H' b=none)∧W i m H':=fun {s' H'} I' nx=>by
    obtain⟨m',hm,w'⟩:=hNx H' nx;have pin':∀b∈fp,∀o,s7.heap.get? b=some o→s'.heap.get? b=some o∧H' b=none:=fun b hb o e =>
     let z:=I'.pin (b,o) (List.mem_append_right _ (List.mem_append_right _ (Aem hb e)))
     ⟨z.1,z.2.1⟩
    have hl:(Af8 σ (own.map (·.2))).length=σ8.length:=by rw[←hw8,Adp]
    refine⟨m',hm,i+1,H',(I'.unpinned (pins:=[])).weak hl (fun j v e=>?_),T.keep _ _ _ st7 fun b hb o e=>(pin' b hb o e).1,fun b hb=>?_,w'⟩
    ·rw[←hw8]at e;exact(Afo e).1
    ·obtain⟨o,e,_⟩:=T.obj _ _ st7 b hb;exact(pin' b hb o e).2
   cases b with
   | false =>
    simp only[Bool.false_eq_true,if_false]at q9 ⊢;exact fin I9 q9
   | true =>
    simp only[if_true]at q9 ⊢;refine Axp (pe _ s9 σ8 H9 _ I9 q9) fun z s10 ⟨yv,H10,I10,r10,acc,hD10,hz10,nx⟩=>?_;exact Azy (X:=X.blk s3 H3 scope ce fp) I10 hD10 hz10 r10 fun s11 I11=>fin I11 nx
 exact codeAny_compStart_list loop (T.self X.A 0 _ _ _ st4 loop)
theorem Awe {elt tg iter:Expr}{ifs:List Expr}{scope:Scope}{own:List (Str×Nat)}{pos:Pos}{wi:TI}{g:TG}{tt:TT}{te:TE}(hc:X.calm=true)(hN:X.N.Nodup)(hi:PI X tg iter wi)(ok:As3 X.N X.env.scope scope own)
 (hg:∀(s:Shared) (H:Hp) (C:Addr) (cl:List (Str×Addr)) (fp:List Addr),PG (X.blk s H scope (compEnvC scope cl C X.env) fp) tg g) (ht:∀(s:Shared) (H:Hp) (C:Addr) (cl:List (Str×Addr)) (fp:List Addr),PTs (X.blk s H scope (compEnvC scope cl C X.env) fp) ifs tt)
 (he:∀(s:Shared) (H:Hp) (C:Addr) (cl:List (Str×Addr)) (fp:List Addr),PE (X.blk s H scope (compEnvC scope cl C X.env) fp) elt te) (hs:∀x,foldedSetIterable iter X.env x=pure x:=by intro _;rfl) :
 PE X (.ListComp elt [⟨tg,iter,ifs,0⟩] scope pos) (tLc wi g tt te (own.map (·.2))):=by
 intro pins s σ H Q I h;rw[eval_ListComp];refine Aqx hc hN I hi ok hg ht he hs h fun D C s' m H' I' q hn f=>⟨m,hn,fun h'' sb=>?_⟩
 obtain⟨f0,f1,f2,f3,f4,f5⟩:=f;exact⟨.ref D,H',I'.turned (t':=s'.toks) (fun b o hb e=>(sb.2 b hb).trans e) f0 f1 f3 f4 f5,rfl,q⟩
theorem Aff {i:Nat}{y:Str}{py:Pos}{elt tg iter:Expr}{ifs:List Expr}{scope:Scope}{own:List (Str×Nat)}{pos spos:Pos}{wi:TI}{g:TG}{tt:TT}{te:TE}(hc:X.calm=true)(hN:X.N.Nodup)(hy:X.N[i]?=some y)(hyl:X.env.scope.names.lookup y=some .local)
 (hsw:swapsWith (.ListComp elt [⟨tg,iter,ifs,0⟩] scope pos) (some (.Name y py)) spos.line X.env=pure true) (hi:PI X tg iter wi) (ok:As3 X.N X.env.scope scope own)
 (hg:∀(s:Shared) (H:Hp) (C:Addr) (cl:List (Str×Addr)) (fp:List Addr),PG (X.blk s H scope (compEnvC scope cl C X.env) fp) tg g) (ht:∀(s:Shared) (H:Hp) (C:Addr) (cl:List (Str×Addr)) (fp:List Addr),PTs (X.blk s H scope (compEnvC scope cl C X.env) fp) ifs tt)
 (he:∀(s:Shared) (H:Hp) (C:Addr) (cl:List (Str×Addr)) (fp:List Addr),PE (X.blk s H scope (compEnvC scope cl C X.env) fp) elt te) (hs:∀x,foldedSetIterable iter X.env x=pure x:=by intro _;rfl) :
 PS X (.Assign [.Name y py] (.ListComp elt [⟨tg,iter,ifs,0⟩] scope pos) spos) (Bal (tLc wi g tt te (own.map (·.2))) (Aoj i)):=by
 intro pins s σ H D I h;rw[exec_Assign_Name_used _ _ _ _ hsw];refine wpAny_bind (wpAny_standAt (wpAny_bind ?_));show wpAny _ X.A (do let _ ←comprehension (.ListComp elt [⟨tg,iter,ifs,0⟩] scope pos) scope X.env (firstIterPos [⟨tg,iter,ifs,0⟩] pos) (newList []) false (eval iter X.env) (some (assign (.Name y py) X.env))) _ _ s;have h:tLc wi g tt te (own.map (·.2)) σ H (fun x H1=>Aoj i x σ H1 D.nx):=h
 refine wpAny_bind (thn (Aqx (Qf:=fun _ s'=>SP X pins D .next s') hc hN I hi ok hg ht he hs h fun L C s' m H' I' q hn f=>?_) fun _ s' hq=>wpAny_pure (wpAny_pure hq));show wpAny _ _ (assign (.Name y py) X.env (.ref L)) _ _ _;refine wpAny_assign_Name (Ajp (v:=V.ref L) I' hN hy (.inl hyl) rfl (fun s2 I2 ⟨a,sb,ha⟩=>?_) (.inr hyl));obtain⟨f0,f1,f2,f3,f4,f5⟩:=f;have haC:C≠a:=by
  rcases ha with z | z
  ·rw[z];exact f1
  ·exact fun e=>f4 y a z e.symm
 refine⟨m,hn.sameBut sb haC,fun h3 sb3=>?_⟩;exact⟨_,H',I2.turned (t':=s2.toks) (fun b o hb e=>(sb3.2 b hb).trans e) f0 f1 f3 f4 f5,q⟩
theorem Aib {elt:Expr}{gs:List Comprehension}{scope:Scope}{pos py:Pos}{y:Str}{l:Nat}{env:Env}(hk:env.scope.kind=.function)(hy:env.scope.names.lookup y=some .local)(hl:(py.line==pos.line)=true)
 (ha:(scope.names.any fun(n,k)=>n==y&&(k==.local||k==.cell))=false):swapsWith (.ListComp elt gs scope pos) (some (.Name y py)) l env=pure true:=by
 have ky:env.kindOf y=some .local:=hy;have hb:env.blockKind=.function:=by unfold Env.blockKind;rw[hk];rfl
 unfold swapsWith;simp only[hb,ky,ha,Expr.pos,hl];rfl
end
theorem Amx {lo:Int}{n:Nat}{g:TG}{tt:TT}{te:TE}{vs:List Nat}{σ:St}{H1:Hp}{D:Addr}{Qd:Hp→Prop}(Pv:Nat→Hp→Prop)(h0:Pv 0 (upd H1 D (.lst [])))
 (hs:∀i H,i<n→Pv i H→g (.int (lo+i)) (Af8 σ vs) H fun σ2 H2=>Af8 σ2 vs=Af8 σ vs∧tt σ2 H2 fun b H3 =>
  if b=true then te σ2 H3 fun y H4=>∃acc,H4 D=some (.lst acc)∧acc.length<sizeLine∧Pv (i+1) (upd H4 D (.lst (acc++[y])))else Pv (i+1) H3) (hd:∀H,Pv n H→Qd H) :
 ∃W:Nat→Nat→Hp→Prop,(∃m,W 0 m (upd H1 D (.lst [])))∧∀i m H,W i m H→
  ((Itr lo n).stop i H∧Qd H)∨((Itr lo n).go i H∧∃Nx:Hp→Prop,(∀H',Nx H'→∃m',m'<m∧W (i+1) m' H')∧∀x H',(Itr lo n).yld i H x H'→g x (Af8 σ vs) H' fun σ2 H2=>Af8 σ2 vs=Af8 σ vs∧tt σ2 H2 fun b H3 =>
   if b=true then te σ2 H3 fun y H4=>∃acc,H4 D=some (.lst acc)∧acc.length<sizeLine∧Nx (upd H4 D (.lst (acc++[y])))else Nx H3):=by
 refine⟨fun i m H=>m=n-i∧i≤n∧Pv i H,⟨n,by simp,Nat.zero_le _,h0⟩,?_⟩;rintro i m H ⟨rfl,hi,p⟩
 by_cases hlt:i<n
 ·refine .inr ⟨hlt,Pv (i+1),fun H' p'=>⟨n-(i+1),by lia,rfl,hlt,p'⟩,fun x H' y=>?_⟩;obtain⟨e,y⟩:=y;subst e y;exact hs i _ hlt p
 ·have e:i=n:=by lia
  subst e;exact .inl ⟨Nat.le_refl _,hd H p⟩
theorem Agb {K:W.Frag}{a:Addr}{xs:List V}{g:TG}{tt:TT}{te:TE}{vs:List Nat}{σ:St}{H1:Hp}{D:Addr}{Qd:Hp→Prop}(Pv:Nat→Hp→Prop)(h0:Pv 0 (upd H1 D (.lst [])))(hl:∀i H,i≤xs.length→Pv i H→SqL K H a xs)
 (hs:∀i x H,xs[i]?=some x→Pv i H→g x (Af8 σ vs) H fun σ2 H2=>Af8 σ2 vs=Af8 σ vs∧tt σ2 H2 fun b H3 =>
  if b=true then te σ2 H3 fun y H4=>∃acc,H4 D=some (.lst acc)∧acc.length<sizeLine∧Pv (i+1) (upd H4 D (.lst (acc++[y])))else Pv (i+1) H3) (hd:∀H,Pv xs.length H→Qd H) :
 ∃W:Nat→Nat→Hp→Prop,(∃m,W 0 m (upd H1 D (.lst [])))∧∀i m H,W i m H→
  ((Itl K a).stop i H∧Qd H)∨((Itl K a).go i H∧∃Nx:Hp→Prop,(∀H',Nx H'→∃m',m'<m∧W (i+1) m' H')∧∀x H',(Itl K a).yld i H x H'→g x (Af8 σ vs) H' fun σ2 H2=>Af8 σ2 vs=Af8 σ vs∧tt σ2 H2 fun b H3 =>
   if b=true then te σ2 H3 fun y H4=>∃acc,H4 D=some (.lst acc)∧acc.length<sizeLine∧Nx (upd H4 D (.lst (acc++[y])))else Nx H3):=by
 refine⟨fun i m H=>m=xs.length-i∧i≤xs.length∧Pv i H,⟨xs.length,by simp,Nat.zero_le _,h0⟩,?_⟩;rintro i m H ⟨rfl,hi,p⟩;have q:=hl i H hi p
 by_cases hlt:i<xs.length
 ·refine .inr ⟨⟨xs,xs[i],q,by simp[hlt]⟩,Pv (i+1),fun H' p'=>⟨xs.length-(i+1),by lia,rfl,hlt,p'⟩,fun x H' y=>?_⟩;obtain⟨e,y⟩:=y;subst e;exact hs i x _ (y xs q) p
 ·have e:i=xs.length:=by lia
  subst e;exact .inl ⟨⟨xs,q,Nat.le_refl _⟩,hd H p⟩
def Avh (N:List Str)(sc scope:Scope)(own:List (Str×Nat)):Bool :=
 (match scope.kind with | .function=>true | _=>false)&&(scope.names.all fun y=>decide (scope.names.lookup y.1=some y.2))&&(own.all fun p=>decide (N[p.2]?=some p.1)) &&
  (scope.names.all fun y=>match y.2 with
   | .free=>(match sc.names.lookup y.1 with | some .cell=>true | some .free=>true | _=>false)
   | .local=>decide (y.1∈own.map (·.1))||decide (y.1∉N)
   | .cell=>decide (y.1∈own.map (·.1))||decide (y.1∉N)
   | _=>true)
theorem Acs {N:List Str}{sc scope:Scope}{own:List (Str×Nat)}(h:Avh N sc scope own=true):As3 N sc scope own:=by
 unfold Avh at h;simp only[Bool.and_eq_true,List.all_eq_true,decide_eq_true_eq]at h;obtain⟨⟨⟨h1,h2⟩,h3⟩,h4⟩:=h;refine⟨?_,h2,h3,fun y hy e=>?_,fun y hy e=>?_⟩
 ·split at h1
  ·assumption
  ·cases h1
 ·have q:=h4 y hy;simp only[e]at q
  split at q<;>first | exact .inl (by assumption) | exact .inr (by assumption) | cases q
 ·have q:=h4 y hy;rcases e with e | e<;>(simp only[e,Bool.or_eq_true,decide_eq_true_eq]at q;exact q)
end L2
namespace L2
open PySem PySem.Spec PyProof.Rows
section
variable {prog:Program}{w:World}{A:Around}{R:Result→Shared→Prop}{s:Shared}{elt t0 i0 t1 i1:Expr}{ifs0 ifs1:List Expr}{scope:Scope}{pos:Pos}{it acc:Value}{env:Env}
end
section
variable {X:Cx}
end
end L2
namespace L2
open PySem PySem.Spec PyProof.Rows
section
variable {κ:Type}[DecidableEq κ]
def Ac2 (kvs:List (κ×V))(k:κ):Option V:=(kvs.find? fun kv=>decide (kv.1=k)).map (·.2)
def Af9 (kvs:List (κ×V))(k:κ)(v:V):List (κ×V) :=
 if (kvs.any fun kv=>decide (kv.1=k))=true then kvs.map (fun kv=>if kv.1=k then(kv.1,v)else kv)else kvs++[(k,v)]
theorem As9 {k:κ}:Ac2 ([]:List (κ×V)) k=none:=rfl
theorem Ab5 {p:κ×V}{r:List (κ×V)}{k:κ}(e:p.1=k):Ac2 (p::r) k=some p.2:=by simp[Ac2,List.find?_cons,e]
theorem Ab6 {p:κ×V}{r:List (κ×V)}{k:κ}(e:¬p.1=k):Ac2 (p::r) k=Ac2 r k:=by simp[Ac2,List.find?_cons,e]
theorem Ad9 (k:κ):∀kvs:List (κ×V),(kvs.any fun kv=>decide (kv.1=k))=(Ac2 kvs k).isSome
 | []=>rfl
 | p::r=>by
  rw[List.any_cons]
  by_cases e:p.1=k
  ·simp only[Ab5 e,decide_eq_true e,Bool.true_or,Option.isSome_some]
  ·rw[Ab6 e,decide_eq_false e,Bool.false_or];exact Ad9 k r
theorem Am8 (k j:κ)(y:V):∀kvs:List (κ×V),Ac2 (kvs.map fun kv=>if kv.1=k then(kv.1,y)else kv) j=(Ac2 kvs j).map fun x=>if j=k then y else x
 | []=>rfl
 | p::r=>by
  have ih:=Am8 k j y r;rw[List.map_cons]
  by_cases h:p.1=k
  ·rw[if_pos h]
   by_cases e:p.1=j
   ·rw[Ab5 (p:=(p.1,y)) e,Ab5 e,Option.map_some,if_pos (e.symm.trans h)]
   ·rw[Ab6 (p:=(p.1,y)) e,Ab6 e,ih]
  ·rw[if_neg h]
   by_cases e:p.1=j
   ·rw[Ab5 (p:=p) e,Ab5 e,Option.map_some,if_neg (fun z=>h (e.trans z))]
   ·rw[Ab6 (p:=p) e,Ab6 e,ih]
theorem Afp (k j:κ)(y:V):∀kvs:List (κ×V),Ac2 kvs k=none→Ac2 (kvs++[(k,y)]) j=if j=k then some y else Ac2 kvs j
 | [],_=>by
  by_cases e:k=j
  ·rw[if_pos e.symm];exact Ab5 (p:=(k,y)) e
  ·rw[if_neg (fun z=>e z.symm)];exact Ab6 (p:=(k,y)) e
 | p::r,hn=>by
  rw[List.cons_append];have hk:¬p.1=k:=fun z=>by rw[Ab5 z]at hn;cases hn
  rw[Ab6 hk]at hn;have ih:=Afp k j y r hn
  by_cases e:p.1=j
  ·rw[Ab5 e,Ab5 e,if_neg (fun z=>hk (e.trans z))]
  ·rw[Ab6 e,Ab6 e,ih]
theorem As8 (kvs:List (κ×V))(k j:κ)(y:V):Ac2 (Af9 kvs k y) j=if j=k then some y else Ac2 kvs j:=by
 unfold Af9
 by_cases a:(kvs.any fun kv=>decide (kv.1=k))=true
 ·rw[if_pos a,Am8];rw[Ad9]at a
  by_cases e:j=k
  ·obtain⟨x,hx⟩:=Option.isSome_iff_exists.mp a;rw[if_pos e,e,hx,Option.map_some,if_pos rfl]
  ·rw[if_neg e];cases Ac2 kvs j with
   | none=>rfl
   | some x=>rw[Option.map_some,if_neg e]
 ·rw[if_neg a];refine Afp k j y kvs ?_;rw[Ad9]at a;cases q:Ac2 kvs k with
  | none=>rfl
  | some x=>rw[q]at a;exact(a rfl).elim
theorem Acm (kvs:List (κ×V))(k:κ)(v:V):(Af9 kvs k v).length≤kvs.length+1:=by
 unfold Af9
 split
 ·rw[List.length_map];lia
 ·rw[List.length_append,List.length_cons,List.length_nil];lia
theorem Afe {kvs:List (κ×V)}{k:κ}(v:V)(h:Ac2 kvs k=none):Af9 kvs k v=kvs++[(k,v)]:=by
 unfold Af9;rw[Ad9,h];exact if_neg (by decide)
theorem RelO.isSome_eq {o:Option V}{u:Option Value}(r:RelO o u):o.isSome=u.isSome:=by
 cases o with
 | none=>cases u with
  | none=>rfl
  | some _=>exact(show False from r).elim
 | some _=>cases u with
  | none=>exact(show False from r).elim
  | some _=>rfl
theorem KV.val {kvs:List (κ×V)}{vs:List (κ×Value)}(r:KV kvs vs)(k:κ):RelO (Ac2 kvs k) (valueAt vs k):=by
 unfold KV at r
 induction r with
 | nil=>exact True.intro
 | @cons p q ps qs h t ih =>
  obtain⟨h1,h2⟩:=h
  by_cases e:p.1=k
  ·have e':q.1=k:=h1.symm.trans e;have b:valueAt (q::qs) k=some q.2:=by simp[valueAt,List.find?_cons,e']
   rw[Ab5 e,b];exact h2
  ·have e':¬q.1=k:=fun z=>e (h1.trans z);have b:valueAt (q::qs) k=valueAt qs k:=by simp[valueAt,List.find?_cons,e']
   rw[Ab6 e,b];exact ih
theorem KV.any {kvs:List (κ×V)}{vs:List (κ×Value)}(r:KV kvs vs)(k:κ):(kvs.any fun kv=>decide (kv.1=k))=vs.any fun kv=>decide (kv.1=k):=by
 unfold KV at r
 induction r with
 | nil=>rfl
 | cons h t ih=>rw[List.any_cons,List.any_cons,ih,h.1]
theorem KV.repl {kvs:List (κ×V)}{vs:List (κ×Value)}(r:KV kvs vs)(k:κ){y:V}{u:Value}(ry:RelV y u) :
 KV (kvs.map fun kv=>if kv.1=k then(kv.1,y)else kv) (vs.map fun kv=>if kv.1=k then(kv.1,u)else kv):=by
 unfold KV at r ⊢
 induction r with
 | nil=>exact .nil
 | @cons p q ps qs h t ih =>
  rw[List.map_cons,List.map_cons];refine .cons ?_ ih;obtain⟨h1,h2⟩:=h
  by_cases e:p.1=k
  ·rw[if_pos e,if_pos (h1.symm.trans e)];exact⟨h1,ry⟩
  ·rw[if_neg e,if_neg (fun z=>e (h1.trans z))];exact⟨h1,h2⟩
theorem KV.put {kvs:List (κ×V)}{vs:List (κ×Value)}(r:KV kvs vs)(k:κ){y:V}{u:Value}(ry:RelV y u):KV (Af9 kvs k y) (stored vs k u):=by
 unfold Af9 stored;rw[r.any k]
 by_cases e:(vs.any fun kv=>decide (kv.1=k))=true
 ·rw[if_pos e,if_pos e];exact r.repl k ry
 ·rw[if_neg e,if_neg e];exact Paired.snoc r ⟨rfl,ry⟩
theorem KV.length {kvs:List (κ×V)}{vs:List (κ×Value)}(r:KV kvs vs):kvs.length=vs.length:=Paired.length r
end
theorem Ao4 {P:Program}{w:World}{k:Key}{u:Value}(r:RelV (kV k) u):(Abd P w).is k u=true:=by
 cases k with
 | inl i=>obtain⟨t,e⟩:=(show ∃t,u=Value.int i t from r);subst e;exact Ali P w i t
 | inr x=>obtain⟨t,e⟩:=(show ∃t,u=Value.str x t from r);subst e;exact Alh P w x t
theorem Akg {P:Program}{w:World}:∀{ks:List Key} {us:List Value},Vals (ks.map kV) us→ItemsAre (Abd P w) ks us
 | [],_,r=>by rw[List.map_nil]at r;cases r;exact .nil
 | k::ks,_,r=>by
  rw[List.map_cons]at r;cases r with
  | cons h t=>exact .cons (Ao4 h) (Akg t)
abbrev KT (H:Hp):List (List Key×V)→List (List Key×Addr×Value)→Prop:=Paired fun p q=>p.1=q.1∧H q.2.1=some (.tup (p.1.map kV))∧RelV p.2 q.2.2
theorem KT.val {H:Hp}{kvs:List (List Key×V)}{xs:List (List Key×Addr×Value)}(r:KT H kvs xs)(k:List Key):RelO (Ac2 kvs k) ((atKey xs k).map (·.2)):=by
 induction r with
 | nil=>exact True.intro
 | @cons p q ps qs h t ih =>
  obtain⟨h1,_,h2⟩:=h
  by_cases e:p.1=k
  ·have e':q.1=k:=h1.symm.trans e;have b:atKey (q::qs) k=some q.2:=by simp[atKey,List.find?_cons,e']
   rw[Ab5 e,b];exact h2
  ·have e':¬q.1=k:=fun z=>e (h1.trans z);have b:atKey (q::qs) k=atKey qs k:=by simp[atKey,List.find?_cons,e']
   rw[Ab6 e,b];exact ih
theorem KT.repl {H:Hp}{kvs:List (List Key×V)}{xs:List (List Key×Addr×Value)}(r:KT H kvs xs)(k:List Key){y:V}{u:Value}(ry:RelV y u) :
 KT H (kvs.map fun kv=>if kv.1=k then(kv.1,y)else kv) (xs.map (putAt k u)):=by
 induction r with
 | nil=>exact .nil
 | @cons p q ps qs h t ih =>
  rw[List.map_cons,List.map_cons];refine .cons ?_ ih;obtain⟨h1,h2,h3⟩:=h;unfold putAt
  by_cases e:p.1=k
  ·rw[if_pos e,if_pos (h1.symm.trans e)];exact⟨h1,h2,ry⟩
  ·rw[if_neg e,if_neg (fun z=>e (h1.trans z))];exact⟨h1,h2,h3⟩
theorem KT.put {H:Hp}{kvs:List (List Key×V)}{xs:List (List Key×Addr×Value)}(r:KT H kvs xs)(k:List Key){b:Addr}{y:V}{u:Value}(hb:H b=some (.tup (k.map kV)))(ry:RelV y u) :
 KT H (Af9 kvs k y) (storedH xs k b u):=by
 have e:(kvs.any fun kv=>decide (kv.1=k))=(atKey xs k).isSome:=by
  rw[Ad9,(r.val k).isSome_eq,Option.isSome_map]
 unfold Af9 storedH;rw[e]
 by_cases q:(atKey xs k).isSome=true
 ·rw[if_pos q,if_pos q];exact r.repl k ry
 ·rw[if_neg q,if_neg q];exact Paired.snoc r ⟨rfl,hb,ry⟩
theorem KT.keeps {H H':Hp}{kvs:List (List Key×V)}{xs:List (List Key×Addr×Value)}(r:KT H kvs xs)(ht:∀b ys,H b=some (.tup ys)→H' b=some (.tup ys)):KT H' kvs xs :=
 Paired.mapP r fun _ _ z=>⟨z.1,ht _ _ z.2.1,z.2.2⟩
section
variable {P:Program}{w:World}{H:Hp}{h:Heap}{a:Addr}
theorem Ays {u:HO}(ok:HOk P w H h)(e:Rd H a u):ObjOk P w H h a u:=e.ok ok
theorem Aol {kvs:List (Key×V)}(ok:HOk P w H h)(e:Rd H a (.dK kvs)):kvs.length≤sizeLine∧(a==sysModules)=false∧∃vs,KV kvs vs∧h.DictOf (Abd P w) a vs :=
 show ObjOk P w H h a (.dK kvs)from Ays ok e
theorem Azu {kvs:List (Key×V)}(ok:HOk P w H h)(e:H a=some (.dK kvs)):kvs.length≤sizeLine∧(a==sysModules)=false∧∃vs,KV kvs vs∧h.DictOf (Abd P w) a vs:=Aol ok (.inl e)
theorem Akb {ks:List Key}(ok:HOk P w H h)(e:H a=some (.tup (ks.map kV))):(tupleKind (Abd P w)).is h ks a:=by
 obtain⟨_,its,r,o,h1,h2,n,h3⟩:=(show ObjOk P w H h a (.tup (ks.map kV))from ok a _ e)
 exact⟨o,its.toArray,n,h1,h2,h3,by simpa using Akg r⟩
theorem Arp {kvs:List (List Key×V)}(ok:HOk P w H h)(e:Rd H a (.dT kvs)):kvs.length≤sizeLine∧(a==sysModules)=false∧
 ∃xs,KT H kvs xs∧h.DictOfH (tupleKind (Abd P w)) a xs:=by
 obtain⟨z,y,xs,r,o,es,ep,h1,h2,h3,h4,h5⟩:=(show ObjOk P w H h a (.dT kvs)from Ays ok e)
 refine⟨z,y,xs,r,o,es,ep,h1,h2,h3,h4,fun x hx=>?_,h5⟩;have all:∀{l:List (List Key×V)} {m:List (List Key×Addr×Value)},KT H l m→∀x∈m,(tupleKind (Abd P w)).is h x.1 x.2.1:=by
  intro l m q
  induction q with
  | nil=>intro x hx;exact nomatch hx
  | @cons p q ps qs hq t ih =>
   intro x hx;rcases List.mem_cons.mp hx with e | hx
   ·subst e;exact Akb ok (by rw[←hq.1];exact hq.2.1)
   ·exact ih x hx
 exact all r x hx
theorem Bb9 {kvs:List (List Key×V)}(ok:HOk P w H h)(e:H a=some (.dT kvs)):kvs.length≤sizeLine∧(a==sysModules)=false∧
 ∃xs,KT H kvs xs∧h.DictOfH (tupleKind (Abd P w)) a xs:=Arp ok (.inl e)
end
def DGet (H:Hp)(a:Addr)(y:V)(r:Option V):Prop :=
 (∃kvs k,Rd H a (.dK kvs)∧y=kV k∧r=Ac2 kvs k)∨∃kvs k b,Rd H a (.dT kvs)∧y=.ref b∧H b=some (.tup (k.map kV))∧r=Ac2 kvs k
def DPut (H:Hp)(a:Addr)(y v:V)(H':Hp):Prop :=
 (∃kvs k,H a=some (.dK kvs)∧y=kV k∧kvs.length<sizeLine∧H'=upd H a (.dK (Af9 kvs k v)))∨
 ∃kvs k b,H a=some (.dT kvs)∧y=.ref b∧H b=some (.tup (k.map kV))∧kvs.length<sizeLine∧H'=upd H a (.dT (Af9 kvs k v))
theorem DGet.k {H:Hp}{a:Addr}{kvs:List (Key×V)}{k:Key}(e:H a=some (.dK kvs)):DGet H a (kV k) (Ac2 kvs k):=.inl ⟨kvs,k,.inl e,rfl,rfl⟩
theorem DGet.t {H:Hp}{a b:Addr}{kvs:List (List Key×V)}{k:List Key}(e:H a=some (.dT kvs))(eb:H b=some (.tup (k.map kV))):DGet H a (.ref b) (Ac2 kvs k):=.inr ⟨kvs,k,b,.inl e,rfl,eb,rfl⟩
theorem DPut.k {H:Hp}{a:Addr}{kvs:List (Key×V)}{k:Key}{v:V}(e:H a=some (.dK kvs))(hl:kvs.length<sizeLine):DPut H a (kV k) v (upd H a (.dK (Af9 kvs k v))):=.inl ⟨kvs,k,e,rfl,hl,rfl⟩
theorem DPut.t {H:Hp}{a b:Addr}{kvs:List (List Key×V)}{k:List Key}{v:V}(e:H a=some (.dT kvs))(eb:H b=some (.tup (k.map kV)))(hl:kvs.length<sizeLine) :
 DPut H a (.ref b) v (upd H a (.dT (Af9 kvs k v))):=.inr ⟨kvs,k,b,e,rfl,eb,hl,rfl⟩
section
variable {X:Cx}{pins:List (Addr×Obj)}{σ:St}{H:Hp}{s:Shared}{a:Addr}{y v:V}{u r:Value}{o:Option V}{A:Around}{E:Value→Shared→Prop}
theorem Inv.big (I:Inv X pins σ H s):sysModules<s.heap.objs.size:=by
 have h:mainGlobals<s.heap.objs.size:=(I.mod.glob.keeps I.bk).lt;exact Nat.lt_trans (by decide) h
theorem Art {Q:Value→Shared→Prop}(hu:A.units+1<cLine)(I:Inv X pins σ H s)(g:DGet H a y (some v))(ry:RelV y u)(h:∀w' s',Inv X pins σ H s'→RelV v w'→Q w' s') :
 wpAny (model X.prog X.w) A (getItem (.ref a) u) Q E s:=by
 rcases g with ⟨kvs,k,e,ey,l⟩ | ⟨kvs,k,b,e,ey,eb,l⟩
 ·subst ey;obtain⟨z,hd,vs,rel,dd⟩:=Aol I.hok e;obtain⟨w',hw,rw'⟩:=RelO.some_of (v:=v) (o:=valueAt vs k) (by rw[l];exact rel.val k);exact wpAny_getItem_of (Ao4 ry) dd.mapOf hw (h w' _ (I.tok _) rw')
 ·subst ey;cases (show u=Value.ref b from ry);obtain⟨z,hd,xs,rel,dd⟩:=Arp I.hok e;obtain⟨w',hw,rw'⟩:=RelO.some_of (v:=v) (o:=(atKey xs k).map (·.2)) (by rw[l];exact rel.val k);obtain⟨p,hp,hp2⟩:=Option.map_eq_some_iff.mp hw;refine wpAny_getItem_heap (tupleKind_room_in1 hu) (Akb I.hok eb) dd hp ?_;rw[hp2];exact h w' _ (I.tok _) rw'
theorem Bco {Q:Value→Shared→Prop}(hu:A.units+1<cLine)(I:Inv X pins σ H s)(g:DGet H a y o)(ry:RelV y u)(h:∀s',Inv X pins σ H s'→Q (.bool o.isSome) s') :
 wpAny (model X.prog X.w) A (compareOp .In u (.ref a)) Q E s:=by
 rcases g with ⟨kvs,k,e,ey,l⟩ | ⟨kvs,k,b,e,ey,eb,l⟩
 ·subst ey;obtain⟨z,hd,vs,rel,dd⟩:=Aol I.hok e;refine wpAny_in_of (Ao4 ry) hd dd.mapOf ?_;rw[←(rel.val k).isSome_eq,←l];exact h _ (I.tok _)
 ·subst ey;cases (show u=Value.ref b from ry);obtain⟨z,hd,xs,rel,dd⟩:=Arp I.hok e;refine wpAny_in_heap (tupleKind_room_in1 hu) (Akb I.hok eb) hd dd ?_;have q:=(rel.val k).isSome_eq;rw[Option.isSome_map]at q;rw[←q,←l];exact h _ (I.tok _)
theorem Axe {Q:Value→Shared→Prop}(hu:A.units+1<cLine)(I:Inv X pins σ H s)(g:DGet H a y o)(ry:RelV y u)(h:∀s',Inv X pins σ H s'→Q (.bool (!o.isSome)) s') :
 wpAny (model X.prog X.w) A (compareOp .NotIn u (.ref a)) Q E s:=by
 rcases g with ⟨kvs,k,e,ey,l⟩ | ⟨kvs,k,b,e,ey,eb,l⟩
 ·subst ey;obtain⟨z,hd,vs,rel,dd⟩:=Aol I.hok e;refine wpAny_notIn_of (Ao4 ry) hd dd.mapOf ?_;rw[←(rel.val k).isSome_eq,←l];exact h _ (I.tok _)
 ·subst ey;cases (show u=Value.ref b from ry);obtain⟨z,hd,xs,rel,dd⟩:=Arp I.hok e;refine wpAny_notIn_heap (tupleKind_room_in1 hu) (Akb I.hok eb) hd dd ?_;have q:=(rel.val k).isSome_eq;rw[Option.isSome_map]at q;rw[←q,←l];exact h _ (I.tok _)
theorem Alx {h':Heap}{t':Nat}{ob:HO}(I:Inv X pins σ H s)(mu:Mut (H a))(hs:Heap.SameBut a s.heap h')(he:∃q,h'.get? a=some q)(new:ObjOk X.prog X.w (upd H a ob) h' a ob) :
 Inv X pins σ (upd H a ob) { s with heap:=h',toks:=t' } :=
 I.write (x:=a) (e:=a) mu (.inl rfl) (fun b q hb z=>(hs.2 b hb).trans z) he new
theorem Avc {P:Program}{w:World}{H':Hp}{h':Heap}{kvs:List (Key×V)}{vs:List (Key×Value)}(z:kvs.length≤sizeLine)(hd:(a==sysModules)=false)(rel:KV kvs vs)(dd:h'.DictOf (Abd P w) a vs) :
 ObjOk P w H' h' a (.dK kvs):=⟨z,hd,vs,rel,dd⟩
theorem Ars {H':Hp}{Q:Unit→Shared→Prop}(hu:A.units+1<cLine)(I:Inv X pins σ H s)(g:DPut H a y v H')(ry:RelV y u)(rv:RelV v r)(h:∀s',Inv X pins σ H' s'→Q () s') :
 wpAny (model X.prog X.w) A (setItem (.ref a) u r) Q E s:=by
 rcases g with ⟨kvs,k,e,ey,l,eH⟩ | ⟨kvs,k,b,e,ey,eb,l,eH⟩
 ·subst ey eH;obtain⟨z,hd,vs,rel,dd⟩:=Azu I.hok e;have hz:vs.length≤sizeLine:=by rw[←rel.length];exact z
  have hl:(Af9 kvs k v).length≤sizeLine:=by have:=Acm kvs k v;lia
  refine wpAny_setItem_pairs (hsz:=hz) (Ao4 ry) dd fun h' dd' hs=>h _ ?_;have he:∃q,h'.get? a=some q:=let ⟨q,_,_,hq,_⟩:=dd';⟨q,hq⟩;exact Alx I (by rw[e];exact True.intro) hs he (Avc hl hd (rel.put k rv) dd')
 ·subst ey eH;cases (show u=Value.ref b from ry);obtain⟨z,hd,xs,rel,dd⟩:=Bb9 I.hok e;have hz:xs.length≤sizeLine:=by rw[←Paired.length rel];exact z
  have hl:(Af9 kvs k v).length≤sizeLine:=by have:=Acm kvs k v;lia
  refine wpAny_setItem_heap (hsz:=hz) (tupleKind_room_in1 hu) (Akb I.hok eb) dd fun h' dd' hs=>h _ ?_;obtain⟨q,es,ep,hq,h2,h3,h4,_,h5⟩:=dd';refine Alx I (by rw[e];exact True.intro) hs ⟨q,hq⟩ ⟨hl,hd,_,(rel.put k eb rv).keeps fun c ys ec=>?_,q,es,ep,hq,h2,h3,h4,h5⟩;rw[Aa6 (Aby ec e (fun z=>nomatch z))];exact ec
end
section
variable {X:Cx}{pins:List (Addr×Obj)}{σ:St}{H:Hp}{s:Shared}{a:Addr}{kvs:List (Key×V)}{k:Key}{u:Value}{A:Around}{E:Value→Shared→Prop}
theorem Bba {Q:Value→Shared→Prop}(I:Inv X pins σ H s)(e:Rd H a (.dK kvs))(h:∀t s',Inv X pins σ H s'→Q (.int kvs.length t) s'):wpAny (model X.prog X.w) A (call (.builtin "len") [.ref a]) Q E s:=by
 obtain⟨z,hd,vs,rel,dd⟩:=Aol I.hok e;refine call_len_dict hd dd (by rw[←rel.length];rw[sizeLine_eq]at z;lia) ?_;rw[←rel.length];exact h _ _ (I.tok _)
end
def Bbr (i:Expr):Prop:=∀ov iv,subscripted i false ov iv=operate [ov,iv] (getItem ov iv)
theorem Avt {prog:Program}{w:World}{A:Around}{E:Value→Shared→Prop}{s:Shared}{env:Env}{value slice:Expr}{pos:Pos}{T id:String}{Q:Value→Shared→Prop}
 (hl:typeLookup (.type T) "__getitem__" = pure (some (.builtin id))) (hs:Bbr slice)
 (h:wpAny (model prog w) A (eval value env) (fun o s₁=>wpAny (model prog w) A (eval slice env) (fun i s₂=>s₂.TypeIs o T∧wpAny (model prog w) A (getItem o i) Q E s₂) E s₁) E s) :
 wpAny (model prog w) A (eval (.Subscript value slice pos) env) Q E s:=by
 refine Subscript_ (wpAny_mono h (fun o s₁ h₁=>wpAny_mono h₁ (fun i s₂ h₂=>?_) fun _ _ x=>x) fun _ _ x=>x);obtain⟨hT,h₂⟩:=h₂;unfold subscriptTail;refine wpAny_bind ?_;rw[getitemInPython_of_ne hT.not_modules];refine wpAny_bind (wpAny_specialOf hT hl ?_);have fin:wpAny (model prog w) A (subscripted slice false o i) (fun r s₃=>wpAny (model prog w) A (letTemporaryGo value o r >>= fun _=>pure r) Q E s₃) E s₂:=by
  rw[hs o i];exact wpAny_operating (wpAny_mono h₂ (fun r s₃ h₃=>wpAny_bind (wpAny_letTemporaryGo (wpAny_pure h₃))) fun _ _ x=>x)
 first
  | exact wpAny_pure (wpAny_bind fin)
  | exact wpAny_bind (wpAny_pure (wpAny_bind fin))
  | exact wpAny_bind fin
theorem Alu {X:Cx}{pins:List (Addr×Obj)}{σ:St}{H:Hp}{s:Shared}{a:Addr}{y:V}{o:Option V}(I:Inv X pins σ H s)(g:DGet H a y o):s.TypeIs (.ref a) "dict":=by
 rcases g with ⟨kvs,k,e,_,_⟩ | ⟨kvs,k,b,e,_,_,_⟩
 ·obtain⟨_,_,vs,_,dd⟩:=Aol I.hok e;exact dd.typeIs
 ·obtain⟨_,_,xs,_,dd⟩:=Arp I.hok e;exact dd.typeIs
def Bak (td ty:TE):TE:=fun σ H Q=>td σ H fun x H1=>ty σ H1 fun y H2=>∃a v,x=.ref a∧DGet H2 a y (some v)∧Q v H2
def Bbx (ty td:TE):TE:=fun σ H Q=>ty σ H fun y H1=>td σ H1 fun x H2=>∃a o,x=.ref a∧DGet H2 a y o∧Q (.bl o.isSome) H2
def Avs (ty td:TE):TE:=fun σ H Q=>ty σ H fun y H1=>td σ H1 fun x H2=>∃a o,x=.ref a∧DGet H2 a y o∧Q (.bl (!o.isSome)) H2
def Bat (td ty tv:TE):TS:=fun D σ H=>tv σ H fun v H1=>td σ H1 fun x H2=>ty σ H2 fun y H3=>∃a H4,x=.ref a∧DPut H3 a y v H4∧D.nx σ H4
section
variable {X:Cx}{o i e value:Expr}{pos pos' tpos:Pos}{td ty tv:TE}
theorem Aq9 (hu:X.A.units+1<cLine)(ho:PE X o td)(hi:PE X i ty)(hs:Bbr i):PE X (.Subscript o i pos) (Bak td ty):=by
 intro pins s σ H Q I h;refine Avt PySem.F.slot_dict_getitem.lookup hs (thn (ho pins s σ H _ I h) fun u s1 ⟨x,H1,I1,rx,q1⟩=>thn (hi pins s1 σ H1 _ I1 q1) fun iv s2 ⟨y,H2,I2,ry,a,v,ex,g,q2⟩=>?_);subst ex;obtain rfl:u=Value.ref a:=rx;exact⟨Alu I2 g,Art hu I2 g ry fun w' s3 I3 rw'=>⟨v,H2,I3,rw',q2⟩⟩
theorem Av1 (hu:X.A.units+1<cLine)(hi:PE X i ty)(ho:PE X o td):PC X .In i o (Bbx ty td):=by
 intro pins s σ H Q I h;refine thn (hi pins s σ H _ I h) fun iv s1 ⟨y,H1,I1,ry,q1⟩=>thn (ho pins s1 σ H1 _ I1 q1) fun u s2 ⟨x,H2,I2,rx,a,ov,ex,g,q2⟩=>?_;subst ex;obtain rfl:u=Value.ref a:=rx;exact Bco hu I2 g ry fun s3 I3=>⟨.bl ov.isSome,H2,I3,rfl,q2⟩
theorem Ad2 (hu:X.A.units+1<cLine)(hi:PE X i ty)(ho:PE X o td):PC X .NotIn i o (Avs ty td):=by
 intro pins s σ H Q I h;refine thn (hi pins s σ H _ I h) fun iv s1 ⟨y,H1,I1,ry,q1⟩=>thn (ho pins s1 σ H1 _ I1 q1) fun u s2 ⟨x,H2,I2,rx,a,ov,ex,g,q2⟩=>?_;subst ex;obtain rfl:u=Value.ref a:=rx;exact Axe hu I2 g ry fun s3 I3=>⟨.bl (!ov.isSome),H2,I3,rfl,q2⟩
theorem Aei (hu:X.A.units+1<cLine)(ho:PE X o td)(hi:PE X i ty)(hv:PE X value tv)(hs:swapsWith value (some (.Subscript o i pos')) pos.line X.env=pure false) :
 PS X (.Assign [.Subscript o i pos'] value pos) (Bat td ty tv):=by
 intro pins s σ H D I h;refine wpAny_Assign_Subscript (thn (hv pins s σ H _ I h) fun r s1 ⟨v,H1,I1,rv,q1⟩=>thn (ho pins s1 σ H1 _ I1 q1) fun u s2 ⟨x,H2,I2,rx,q2⟩=>thn (hi pins s2 σ H2 _ I2 q2) fun iv s3 ⟨y,H3,I3,ry,a,H4,ex,g,q3⟩=>?_) hs;subst ex;obtain rfl:u=Value.ref a:=rx;exact Ars hu I3 g ry rv fun s4 I4=>⟨σ,H4,I4,q3⟩
end
theorem An8 {P:Program}{w:World}{H:Hp}(h:Heap)(hb:sysModules<h.objs.size):ObjOk P w H (h.push { cls:=.type "dict",data:=.dict #[] }) h.objs.size (.dK []) :=
 ⟨Nat.zero_le _,beq_eq_false_iff_ne.mpr (Ne.symm (Nat.ne_of_lt hb)),[],.nil,Heap.DictOf.new h⟩
theorem Au6 {P:Program}{w:World}{H:Hp}(h:Heap)(hb:sysModules<h.objs.size):ObjOk P w H (h.push { cls:=.type "dict",data:=.dict #[] }) h.objs.size (.dT []) :=
 ⟨Nat.zero_le _,beq_eq_false_iff_ne.mpr (Ne.symm (Nat.ne_of_lt hb)),[],.nil,_,#[],0,Heap.get?_push_size _ rfl,⟨rfl,rfl,rfl⟩,rfl,rfl,List.nodup_nil⟩
def Ayb:TE:=fun _ H Q=>∀p,H p=none→Q (.ref p) (upd H p (.dK []))
def Aya:TE:=fun _ H Q=>∀p,H p=none→Q (.ref p) (upd H p (.dT []))
section
variable {X:Cx}{pos:Pos}
theorem At1:PE X (.Dict [] [] pos) Ayb:=fun pins s σ H Q I h =>
 wpAny_Dict_empty ⟨.ref s.heap.objs.size,_,I.laid (a:=s.heap.objs.size) (o:=.dK []) (t':=s.toks) (fun _ _ q=>Heap.get?_push_of_some _ q) (Nat.le_refl _) (An8 s.heap I.big),rfl,h _ (I.hok.fresh (Nat.le_refl _))⟩
theorem Afg:PE X (.Dict [] [] pos) Aya:=fun pins s σ H Q I h =>
 wpAny_Dict_empty ⟨.ref s.heap.objs.size,_,I.laid (a:=s.heap.objs.size) (o:=.dT []) (t':=s.toks) (fun _ _ q=>Heap.get?_push_of_some _ q) (Nat.le_refl _) (Au6 s.heap I.big),rfl,h _ (I.hok.fresh (Nat.le_refl _))⟩
end
def Ap4:List (TE×TE)→St→Hp→(List (V×V)→Hp→Prop)→Prop
 | [],_,H,Q=>Q [] H
 | (tk,tv)::r,σ,H,Q=>tk σ H fun x H1=>tv σ H1 fun y H2=>Ap4 r σ H2 fun ps H3=>Q ((x,y)::ps) H3
abbrev VV:List (V×V)→List (Value×Value)→Prop:=Paired fun p q=>RelV p.1 q.1∧RelV p.2 q.2
def PPs (X:Cx)(pos:Pos)(keys:List (Option Expr))(values:List Expr)(trs:List (TE×TE)):Prop :=
 ∀(pins:List (Addr×Obj)) (s:Shared) (σ:St) (H:Hp) (Q:List (V×V)→Hp→Prop),Inv X pins σ H s→Ap4 trs σ H Q→
  wpAny (model X.prog X.w) X.A (evalPairs (pairTrees keys values X.env pos)) (fun vs s'=>∃ps H',Inv X pins σ H' s'∧VV ps vs∧Q ps H') X.xe s
theorem Awa {X:Cx}{pos:Pos}:PPs X pos [] [] []:=fun pins s σ H Q I h=>pairTrees_nil_walk ⟨[],H,I,.nil,h⟩
theorem Asy {X:Cx}{pos:Pos}{k v:Expr}{ks:List (Option Expr)}{vs:List Expr}{tk tv:TE}{trs:List (TE×TE)}(hk:PE X k tk)(hv:PE X v tv)(hr:PPs X pos ks vs trs) :
 PPs X pos (some k::ks) (v::vs) ((tk,tv)::trs):=fun pins s σ H Q I h =>
 pairTrees_cons_walk (thn (hk pins s σ H _ I h) fun u s1 ⟨x,H1,I1,rx,q1⟩=>thn (hv pins s1 σ H1 _ I1 q1) fun w2 s2 ⟨y,H2,I2,ry,q2⟩ =>
  thn (hr pins s2 σ H2 _ I2 q2) fun ws s3 ⟨ps,H3,I3,rel,q3⟩=>⟨(x,y)::ps,H3,I3,.cons ⟨rx,ry⟩ rel,q3⟩)
def Ahv (kvs more:List (Key×V)):List (Key×V):=more.foldl (fun acc kv=>Af9 acc kv.1 kv.2) kvs
theorem KV.merge:∀{more:List (Key×V)} {rs:List (Key×Value)} {kvs:List (Key×V)} {vs:List (Key×Value)},KV more rs→KV kvs vs→KV (Ahv kvs more) (merged vs rs):=by
 intro more rs kvs vs r;unfold KV at r
 induction r generalizing kvs vs with
 | nil=>intro q;exact q
 | @cons p q ps qs h t ih =>
  intro r0;have e:KV (Af9 kvs p.1 p.2) (stored vs q.1 q.2):=by
   have:=r0.put p.1 h.2;rw[←h.1];exact this
  exact ih e
theorem Aeb:∀(more kvs:List (Key×V)),(Ahv kvs more).length≤kvs.length+more.length
 | [],kvs=>by show kvs.length≤kvs.length+0;lia
 | p::r,kvs=>by
  have h1:=Aeb r (Af9 kvs p.1 p.2);have h2:=Acm kvs p.1 p.2;show(Ahv (Af9 kvs p.1 p.2) r).length≤_;rw[List.length_cons];lia
theorem Ai3 {P:Program}{w:World}:∀{kvs:List (Key×V)} {ws:List (Value×Value)},VV (kvs.map fun kv=>(kV kv.1,kv.2)) ws→∃rs,Carries (Abd P w) ws rs∧KV kvs rs
 | [],_,r=>by rw[List.map_nil]at r;cases r;exact⟨[],True.intro,.nil⟩
 | p::kvs,_,r=>by
  rw[List.map_cons]at r;cases r with
  | @cons a b as bs h t =>
   obtain⟨rs,c,q⟩:=Ai3 (P:=P) (w:=w) t;obtain⟨b1,b2⟩:=b;exact⟨(p.1,b2)::rs,⟨Ao4 h.1,rfl,c⟩,.cons ⟨rfl,h.2⟩ q⟩
def Baj (trs:List (TE×TE)):TE:=fun σ H Q=>∀p,H p=none→Ap4 trs σ (upd H p (.dK [])) fun ps H2=>H2 p=some (.dK [])∧∃kvs:List (Key×V),ps=kvs.map (fun kv=>(kV kv.1,kv.2))∧kvs.length≤15∧Q (.ref p) (upd H2 p (.dK (Ahv [] kvs)))
theorem Awf {X:Cx}{pos:Pos}{keys:List (Option Expr)}{values:List Expr}{trs:List (TE×TE)}(h:PPs X pos keys values trs)(hall:keys.all (·.isSome)=true)(hl:keys.length=values.length)(h0:keys≠[])
 (h15:keys.length≤15):PE X (.Dict keys values pos) (Baj trs):=by
 intro pins s σ H Q I q;have hn:=I.hok.fresh (Nat.le_refl s.heap.objs.size);have I1:=I.laid (a:=s.heap.objs.size) (o:=.dK []) (h':=s.heap.push { cls:=.type "dict",data:=.dict #[] }) (t':=s.toks) (fun _ _ q=>Heap.get?_push_of_some _ q) (Nat.le_refl _) (An8 s.heap I.big);refine wpAny_Dict_walk (knd:=Abd X.prog X.w) hall hl h0 h15 (thn (h pins _ σ _ _ I1 (q _ hn)) fun ws s2 ⟨ps,H2,I2,rel,e,kvs,ep,lk,q2⟩=>?_)
 subst ep;obtain⟨rs,c,rk⟩:=Ai3 (P:=X.prog) (w:=X.w) rel;obtain⟨z,hd,vs0,r0,dd⟩:=Azu I2.hok e;cases r0;refine⟨rs,c,dd,fun h' dd' hs=>⟨.ref s.heap.objs.size,_,?_,rfl,q2⟩⟩;have hz:(Ahv [] kvs).length≤sizeLine:=by
  have h1:=Aeb kvs [];rw[List.length_nil]at h1;rw[sizeLine_eq];lia
 have he:∃q,h'.get? s.heap.objs.size=some q:=let ⟨q,_,_,hq,_⟩:=dd';⟨q,hq⟩;exact Alx I2 (by rw[e];exact True.intro) hs he (Avc hz hd (rk.merge .nil) dd')
section
variable {X:Cx}{pins:List (Addr×Obj)}{σ:St}{H:Hp}{s:Shared}{a:Addr}{y d:V}{u r:Value}{o:Option V}{A:Around}{E:Value→Shared→Prop}
end
section
variable {X:Cx}{o e f:Expr}{apos cpos:Pos}{td ty tx:TE}
end
section
variable {X:Cx}{pins:List (Addr×Obj)}{σ:St}{H:Hp}{s:Shared}{a:Addr}{kvs:List (Key×V)}{A:Around}{E:Value→Shared→Prop}
end
section
variable {X:Cx}{pins:List (Addr×Obj)}{σ:St}{H:Hp}{s:Shared}{a:Addr}{y:V}{u:Value}{A:Around}{E:Value→Shared→Prop}
end
end L2
namespace L2
open PySem PySem.Spec PyProof.Rows
section
variable {prog:Program}{w:World}{A:Around}{E:Value→Shared→Prop}
end
section
variable {X:Cx}
end
end L2
namespace L2
open PySem PySem.Spec PyProof.Rows
section
variable {X:Cx}{pins:List (Addr×Obj)}{σ:St}{H:Hp}{s:Shared}{h':Heap}
theorem Inv.turnedNew {t':Nat}{ch:List Addr}{T:Addr}{ob:HO}(I:Inv X pins σ H s)(k:∀b o,b∉ch→s.heap.get? b=some o→h'.get? b=some o)(hf:∀b∈ch,FpOk X pins H b)(hT:s.heap.objs.size≤T)
 (new:ObjOk X.prog X.w (upd H T ob) h' T ob):Inv X pins σ (upd H T ob) { s with heap:=h',toks:=t' }:=by
 have hn:H T=none:=I.hok.fresh hT;have nit:∀b u,H b=some u→b∉ch:=fun b u e z=>by
  have q:=(hf b z).1;rw[q]at e;cases e
 refine I.step (g':=s.gens) (d':=s.drawn) (ch:=ch) (fun b hb=>⟨(hf b hb).2.2.2.1,(hf b hb).2.1,(hf b hb).2.2.2.2.1,(hf b hb).2.2.2.2.2⟩) (fun b o _ _ hc e _=>k b o hc e) (fun b o _ _ hc e _=>⟨o.slots,k b o hc e⟩)
  (fun b o _ e n=>?_) (fun b o hc e=>⟨o,k b o hc e⟩) (fun b xs e=>?_) (fun b o u e=>?_) (fun b ps e=>⟨#[],?_⟩) (fun m hm=>?_) (fun b u e=>?_) I.bare
 ·rw[Aa6 (Nat.ne_of_lt (Nat.lt_of_lt_of_le (Heap.lt_size e) hT))];exact n
 ·rw[Aa6 (Aa8 e hn)];exact e
 ·rw[Aa6 (Aa8 e hn)];exact e
 ·rw[Aa6 (Aa8 e hn),e];simp
 ·obtain⟨o,es,ep,ho,r⟩:=hm;exact⟨o,es,ep,k _ o (fun z=>(hf _ z).2.1 rfl) ho,r⟩
 ·by_cases hb:b=T
  ·subst hb;rw[Aa2]at e;cases e;exact new
  ·rw[Aa6 hb]at e;refine(I.hok b u e).stay (fun c v hc q=>k c v ?_ q) (fun c q=>by rw[Aa6 (Aa8 q hn)];exact q) fun c xs q=>by rw[Aa6 (Aa8 q hn)];exact q
   rcases hc with z | z
   ·rw[z];exact nit b u e
   ·exact nit c _ z
end
section
variable {X:Cx}
end
section
variable {X:Cx}{tg:Expr}
end
section
variable {X:Cx}{tg:Expr}
end
section
variable {prog:Program}{w:World}{A:Around}{E:Value→Shared→Prop}{s:Shared}
theorem Ar4 {d:Addr}{o:Obj}{es:Array DictEntry}{ep:Nat}{Q:Value→Shared→Prop}(hd:(d==sysModules)=false)(ho:s.heap.get? d=some o)(hc:o.ExactDict)(hdat:o.data=.dict es ep)
 (hQ:Q (.ref s.heap.objs.size) { s with heap:=s.heap.push { cls:=.type "dict_keyiterator",data:=.fields #[.ref d,.int 0 0,.int es.size 0,.int ep 0] } }) :
 wpAny (model prog w) A (pyIter (.ref d)) Q E s:=by
 have hT:s.TypeIs (.ref d) "dict":=⟨o,ho,hc.1⟩
 refine wpAny_pyIter_slot hT F.slot_dict_iter (wpAny_call_entry F.slot_dict_iter hT F.entry_dict_iter ?_ (F.args_dict_iter_1 _));unfold Builtin.«dict.__iter__»;refine wpAny_bind ?_;unfold Builtin.Dict.dictSlotNone;refine wpAny_bind (wpAny_notOrdered_dict hT ?_);show wpAny _ _ (pure (Value.ref d)) _ _ s;refine wpAny_pure ?_;show wpAny _ _ (Builtin.Dict.showsAll d >>= _) _ _ s;unfold Builtin.Dict.showsAll
 rw[if_neg (by rw[hd];exact Bool.false_ne_true)];refine wpAny_bind (wpAny_pure ?_);refine wpAny_bind (wpAny_dictEntries ho hdat ?_);refine wpAny_bind (wpAny_dictEpoch ho hdat ?_);refine wpAny_bind (wpAny_newObj_type (wpAny_pure ⟨_,rfl,"dict_keyiterator",_,⟨_,Heap.get?_push_size _ rfl,rfl⟩,F.slot_dict_keyiterator_next.lookup,?_⟩));simpa [rawInt] using hQ
theorem Aiu {it d:Addr}{i n ep:Nat}{od:Obj}{es:Array DictEntry}{en:DictEntry}{Q:Option Value→Shared→Prop}(hit:s.heap.IsKeyIter it d i n ep)(hod:s.heap.get? d=some od)(hdd:od.data=.dict es ep)
 (hsz:es.size=n) (hx:es[i]?=some en) (hQ:∀h',h'.IsKeyIter it d (i+1) n ep→Heap.SameBut it s.heap h'→Q (some en.key) { s with heap:=h' }):wpAny (model prog w) A (pyNext (.ref it)) Q E s:=by
 obtain⟨o,ho,hc,hd⟩:=id hit;unfold pyNext
 refine wpAny_bind (wpAny_attempt (wpAny_callSpecial?_slot (name:=Str.ofString "__next__") hit.typeIs F.slot_dict_keyiterator_next
  (wpAny_call_entry F.slot_dict_keyiterator_next hit.typeIs F.entry_dict_keyiterator_next ?_ (F.args_dict_keyiterator_next_1 _))))
 refine wpAny_bind (wpAny_pure ?_);refine wpAny_bind ?_;refine wpAny_bind ?_
 first | refine wpAny_bind (wpAny_typeNameOfWhole_keyiter hit.typeIs (wpAny_pure ?_)) | refine wpAny_bind (wpAny_typeNameOf_keyiter hit.typeIs (wpAny_pure ?_))
 refine wpAny_bind (wpAny_fieldsOf ho hd ?_);have hown:Builtin.Dict_items.ownsTuple "dict_keyiterator" = false:=by decide
 simp only[hown,Bool.false_eq_true,if_false];show wpAny _ _ (if (Value.ref d==Value.none)=true then _ else _) _ _ s;rw[if_neg (show ¬((Value.ref d==Value.none)=true)from Bool.false_ne_true)];refine wpAny_bind (wpAny_pure ?_);refine wpAny_bind (wpAny_dictEntries hod hdd ?_);rw[if_neg (by rw[hsz];simp)];refine wpAny_bind (wpAny_pure ?_);refine wpAny_bind (wpAny_dictEpoch hod hdd ?_);rw[if_neg (by simp)]
 refine wpAny_pure ?_;obtain⟨hlt',hen⟩:=Array.getElem?_eq_some_iff.mp hx;simp only[show ¬((i:Int)<0)from by lia,if_false,Int.toNat_natCast,Array.getElem?_eq_getElem hlt'];refine wpAny_bind ?_
 first | refine wpAny_bind (wpAny_typeNameOfWhole_keyiter hit.typeIs (wpAny_pure ?_)) | refine wpAny_bind (wpAny_typeNameOf_keyiter hit.typeIs (wpAny_pure ?_))
 refine wpAny_bind (wpAny_isOneOf_keyiter hit.typeIs ?_);show wpAny _ _ (setField (.ref it) 1 (rawInt ((i:Int)+1)) >>= _) _ _ s;refine wpAny_bind (wpAny_setField ho hd (by simp) ?_);have hit':(s.heap.update it (Obj.mapFields (·.setIfInBounds 1 (rawInt ((i:Int)+1))))).IsKeyIter it d (i+1) n ep :=
  ⟨_,Heap.get?_update_self _ ho (Obj.isFreed_of_fields (Obj.data_mapFields hd _)),(Obj.cls_mapFields ..).trans hc,by rw[Obj.data_mapFields hd];simp[rawInt]⟩
 refine wpAny_bind (wpAny_holding ?_);refine wpAny_bind (wpAny_isOneOf_keyiter (s:={ s with heap:=s.heap.update it (Obj.mapFields (·.setIfInBounds 1 (rawInt ((i:Int)+1)))) }) hit'.typeIs ?_);show wpAny _ _ (pure es[i].key) _ _ _;rw[hen];exact wpAny_pure (wpAny_pure ⟨_,rfl,wpAny_pure (hQ _ hit' (Heap.SameBut.update ..))⟩)
theorem Ak8 {it d:Addr}{i n ep:Nat}{od:Obj}{es:Array DictEntry}{Q:Option Value→Shared→Prop}(hh:A.handled=none)(hit:s.heap.IsKeyIter it d i n ep)(hod:s.heap.get? d=some od)(hdd:od.data=.dict es ep)
 (hsz:es.size=n) (hge:n≤i) (hQ:∀h',Heap.ExtBut it s.heap h'→Q none { s with heap:=h' }):wpAny (model prog w) A (pyNext (.ref it)) Q E s:=by
 obtain⟨o,ho,hc,hd⟩:=id hit;unfold pyNext
 refine wpAny_bind (wpAny_attempt (wpAny_callSpecial?_slot (name:=Str.ofString "__next__") hit.typeIs F.slot_dict_keyiterator_next
  (wpAny_call_entry F.slot_dict_keyiterator_next hit.typeIs F.entry_dict_keyiterator_next ?_ (F.args_dict_keyiterator_next_1 _))))
 refine wpAny_bind (wpAny_pure ?_);refine wpAny_bind ?_;refine wpAny_bind ?_
 first | refine wpAny_bind (wpAny_typeNameOfWhole_keyiter hit.typeIs (wpAny_pure ?_)) | refine wpAny_bind (wpAny_typeNameOf_keyiter hit.typeIs (wpAny_pure ?_))
 refine wpAny_bind (wpAny_fieldsOf ho hd ?_);have hown:Builtin.Dict_items.ownsTuple "dict_keyiterator" = false:=by decide
 simp only[hown,Bool.false_eq_true,if_false];show wpAny _ _ (if (Value.ref d==Value.none)=true then _ else _) _ _ s;rw[if_neg (show ¬((Value.ref d==Value.none)=true)from Bool.false_ne_true)];refine wpAny_bind (wpAny_pure ?_);refine wpAny_bind (wpAny_dictEntries hod hdd ?_);rw[if_neg (by rw[hsz];simp)];refine wpAny_bind (wpAny_pure ?_);refine wpAny_bind (wpAny_dictEpoch hod hdd ?_);rw[if_neg (by simp)]
 refine wpAny_pure ?_;have hge':es.size≤i:=by rw[hsz];exact hge
 simp only[show ¬((i:Int)<0)from by lia,if_false,Int.toNat_natCast,Array.getElem?_eq_none hge'];refine wpAny_bind ?_
 first | refine wpAny_bind (wpAny_typeNameOfWhole_keyiter hit.typeIs (wpAny_pure ?_)) | refine wpAny_bind (wpAny_typeNameOf_keyiter hit.typeIs (wpAny_pure ?_))
 show wpAny _ _ (setField (.ref it) 0 .none >>= _) _ _ s;refine wpAny_bind (wpAny_setField ho hd (by simp) ?_);show wpAny _ _ (newExc (.type "StopIteration") [] >>= _) _ _ _;refine wpAny_bind ?_;simp only[newExc,newTuple];refine wpAny_bind (wpAny_newObj_type ?_ (by size_fits));refine wpAny_bind (m:=firstArgMember _ _) (wpAny_of_eq (a:=Value.none) (by first | rfl | (simp only[firstArgMember];rfl)) ?_)
 refine wpAny_newObj_type ?_ (by size_fits);simp only[raiseNew];refine wpAny_bind (wpAny_handled ?_);rw[show A.in1.handled=none from hh];refine wpAny_bind (wpAny_pure (wpAny_throw ?_));refine wpAny_bind (wpAny_isInstance (T:="StopIteration") (b:=true) ⟨_,Heap.get?_push_size _ rfl,rfl⟩ isSubtype_stop ?_);exact wpAny_pure (hQ _ (((Heap.SameBut.update ..).extBut.push _).push _))
end
section
variable {X:Cx}{pins:List (Addr×Obj)}{σ:St}{H:Hp}{s:Shared}{d:Addr}{o:Obj}
end
section
variable {P:Program}{w:World}{K:W.Frag}{tg:Expr}{d:Addr}{o:Obj}{es:Array DictEntry}{ep:Nat}
end
section
variable {X:Cx}{tg e:Expr}{td:TE}{apos cpos:Pos}
end
def Ite (K:W.Frag)(a:Addr):It :=
 ⟨fun i H=>∃(xs:List V) (x:V),SqL K H a xs∧xs[i]?=some x,fun i H v H'=>∃T x,v=.ref T∧H T=none∧H'=upd H T (.tup [.int (i:Nat),x])∧∀xs,SqL K H a xs→xs[i]?=some x,fun i H=>∃xs:List V,SqL K H a xs∧xs.length≤i⟩
theorem Ap0 {P:Program}{w:World}{K:W.Frag}{elts:List Expr}{kk:Nat}{tpos:Pos}(a e it:Addr) :
 Azz P w K (.Tuple elts kk tpos) (Ite K a) [e,it] e (fun i h=>(∃old,IsEnum h e it ((i:Nat):Int) old)∧h.IsListIter it a i∧e≠it) where
 mem:=by simp
 obj:=fun i h st b hb=>by
  obtain⟨⟨old,he⟩,⟨o,ho,hc,hd⟩,_⟩:=st;have e':b=e∨b=it:=by simpa using hb
  rcases e' with z | z
  ·rw[z];exact⟨_,he,fun v q=>nomatch q⟩
  ·rw[z];exact⟨o,ho,fun v q=>by rw[hd]at q;cases q⟩
 keep:=fun i h h' st k=>let ⟨⟨old,he⟩,hi,hne⟩:=st;⟨⟨old,k e (by simp) _ he⟩,hi.at fun o q=>k it (by simp) o q,hne⟩
 item:=by
  intro X hP hw hK hc i pins s σ H E I hf st hg;subst hP hw hK;obtain⟨⟨old,he⟩,hit,hne⟩:=st;obtain⟨xs,x,hq,hx⟩:=hg;obtain⟨its,rv,p,hz⟩:=I.list hq;obtain⟨u,hu,ru⟩:=rv.get hx;have hel:e<s.heap.objs.size:=Heap.lt_size he;have hil:it<s.heap.objs.size:=by obtain⟨_,q,_⟩:=hit;exact Heap.lt_size q
  refine wpAny_pyNext_enum_item he hit p.isList (x:=u) (by simpa using hu) hne fun h' ho hit' hT hsz hk=>?_;refine⟨_,rfl,wpAny_letOwnedTupleGo_enum (s:={ s with heap:=h',toks:=s.toks+1 }) ho fun h'' he' sb=>?_⟩;have hT2:h''.get? s.heap.objs.size=some { cls:=.type "tuple",data:=.seq #[.int i s.toks,u] }:=(sb.2 _ (Nat.ne_of_gt hel)).trans hT;have new:ObjOk X.prog X.w (upd H s.heap.objs.size (.tup [.int (i:Nat),x])) h'' s.heap.objs.size (.tup [.int (i:Nat),x]) :=
   ⟨by show 2≤sizeLine;decide,[.int i s.toks,u],.cons ⟨_,rfl⟩ (.cons ru .nil),⟨_,hT2,rfl,_,rfl⟩⟩
  have I1:Inv X pins σ (upd H s.heap.objs.size (.tup [.int (i:Nat),x])) { s with heap:=h'',toks:=s.toks+1 } :=
   I.turnedNew (ch:=[e,it]) (fun b ob hb q=>(sb.2 b (fun z=>hb (by simp[z]))).trans (hk b ob (fun z=>hb (by simp[z])) (fun z=>hb (by simp[z])) q)) hf (Nat.le_refl _) new
  refine⟨.ref s.heap.objs.size,_,I1,rfl,⟨_,x,rfl,I.hok.fresh (Nat.le_refl _),rfl,fun ys hy=>by rw[I.list_inj hy hq];exact hx⟩,⟨⟨u,?_⟩,hit'.at fun o q=>(sb.2 it (Ne.symm hne)).trans q,hne⟩,fun b hb=>?_⟩
  ·have e1:((i+1:Nat):Int)=(i:Int)+1:=by lia
   rw[e1];exact he'
  ·have hb':b<s.heap.objs.size:=by
    have e':b=e∨b=it:=by simpa using hb
    rcases e' with z | z
    ·rw[z];exact hel
    ·rw[z];exact hil
   rw[Aa6 (Nat.ne_of_lt hb')];exact(hf b hb).1
 done:=by
  intro X hP hw hK hc i pins s σ H E I hf st hg;subst hP hw hK;obtain⟨⟨old,he⟩,hit,hne⟩:=st;obtain⟨xs,hq,hx⟩:=hg;obtain⟨its,rv,p,hz⟩:=I.list hq;obtain⟨f0,f1,f2,f3,f4,f5⟩:=hf it (by simp);have hl:=rv.length;exact wpAny_pyNext_enum_end (I.ok.hd hc) he hit p.isList (by simp;lia) fun h' eb=>⟨rfl,I.turned (t':=s.toks) (fun b o hb q=>eb b o hb q) f0 f1 f3 f4 f5⟩
 self:=fun A i s Q E st h=>let ⟨⟨_,he⟩,_⟩:=st;wpAny_pyIter_enum he h
def Bb6 (K:W.Frag)(ta:TA):TI:=fun σ H R=>ta σ H fun vs H1=>∃a xs,vs=[.ref a]∧SqL K H1 a xs∧R (Ite K a) H1
theorem Abw {X:Cx}{e:Expr}{ta:TA}{p pos tpos:Pos}{elts:List Expr}{kk:Nat}(hg:Gl X "enumerate")(hm:X.mg "enumerate" = none)(ha:PA X [e] ta)(hs:starEach [e] X.env=[(false,eval e X.env)]:=by rfl) :
 PI X (.Tuple elts kk tpos) (.Call (.Name "enumerate" p) [e] [] pos) (Bb6 X.K ta):=by
 intro pins s σ H R I h;refine Call_ (Aka I hg hm boot_enumerate (PyProof.Rows.callWith_type1 (thn (ha pos pins s σ H _ I h) fun us s1 ⟨vs,H1,I1,r1,q1⟩=>?_) hs rfl));obtain⟨a,xs,ex,hq,q⟩:=q1;subst ex;cases r1 with
 | cons r rr =>
  cases rr;cases r;obtain⟨its,rv,p',hz⟩:=I1.list hq;refine call_enumerate_list p'.isList fun h' he hit hsz hk=>wpAny_pyIter_enum he ?_;have I2:Inv X pins σ H1 { s1 with heap:=h' }:=I1.kept (t':=s1.toks) hk;refine⟨s1.heap.objs.size+1,[s1.heap.objs.size+1,s1.heap.objs.size],_,_,H1,rfl,I2,Ap0 a (s1.heap.objs.size+1) s1.heap.objs.size,⟨⟨.none,he⟩,hit,Nat.succ_ne_self _⟩,fun b hb=>?_,q⟩;have e':b=s1.heap.objs.size+1∨b=s1.heap.objs.size:=by simpa using hb
  have hle:s1.heap.objs.size≤b:=by
   rcases e' with z | z
   ·rw[z];exact Nat.le_add_right _ _
   ·rw[z];exact Nat.le_refl _
  exact I1.fpOk hle (I1.hok.fresh hle)
end L2
section
namespace Bits
open PySem PyProof.Rows
end Bits
end
section
namespace TL
open PySem PySem.Builtin PySem.Builtin.Str PySem.StrLaws
end TL
end
namespace L2
open PySem PySem.Spec PyProof.Rows
section
variable {X:Cx}{pins:List (Addr×Obj)}{σ:St}{H:Hp}{s:Shared}{Q:VK}
end
section
variable {X:Cx}
end
section
variable {X:Cx}{o e:Expr}{to te:TE}
end
end L2
namespace L2
open PySem PySem.Spec PyProof.Rows
section
variable {X:Cx}
end
end L2
namespace Att
open PySem PySem.W PySem.Calls PyProof.Rows
section
variable {prog:Program}{w:World}{A:Around}{E:Value→Shared→Prop}{s:Shared}{K:Frag}
end
end Att
namespace L2
open PySem PySem.Spec PyProof.Rows
theorem Ajn:∀{vs:List Value} {ns:List Int},IntsAre vs ns→Vals (ns.map V.int) vs
 | _,_,.nil=>.nil
 | _,_,.cons n t h=>.cons ⟨t,rfl⟩ (Ajn h)
end L2
namespace L2
open PySem PySem.Spec PyProof.Rows
end L2
namespace L2
open PySem PySem.Spec PyProof.Rows
def Agk (s:Stmt)(j:Nat):Stmt:=match s with
 | .ClassDef _ _ _ body _ _ _ _ _ _ _=>body.getD j (.Pass ⟨0,0,0,0⟩)
 | _=>.Pass ⟨0,0,0,0⟩
def Acq (s:Stmt):Arguments:=match s with
 | .FunctionDef _ a _ _ _ _ _ _ _ _=>a
 | _=>{ posonlyargs:=[],args:=[],vararg:=none,kwonlyargs:=[],kw_defaults:=[],kwarg:=none,defaults:=[] }
def Acb (s:Stmt):List Stmt:=match s with
 | .FunctionDef _ _ b _ _ _ _ _ _ _=>b
 | _=>[]
def Aa7 (s:Stmt):Scope:=match s with
 | .FunctionDef _ _ _ _ _ _ sc _ _ _=>sc
 | _=>{ kind:=.function,names:=[],isGenerator:=false,isCoroutine:=false }
abbrev CX0:CXT:=fun _ _ _ _ _ _=>False
abbrev E0:XK:=fun _ _ _=>False
theorem Abm {X:Cx}:Agu CX0 X E0:=fun _ _ _ _ _ _ _ h=>h.elim
structure Fun (K:W.Frag)(x qual:Str)(st:Stmt)(f:Addr)(fd:FuncData):Prop where
 ex:∃(oc:Value) (od:Option Addr) (kV doc pm:Value) (an:Option Addr) (cdv ct:Value) (osl:Array (Option Value)),
  fd=W.fnOf x qual (Acq st) (Acb st) (Aa7 st) .none kV doc pm an cdv ct∧K.lookup f=some ⟨oc,od,.func fd,osl⟩∧W.codeIn K cdv qual=true
 kp:W.keepIn K (.ref f)=true
section
variable {P:Program}{w:World}{K:W.Frag}{mg:Str→Option Value}{base:Heap}
theorem Fun.ok {x qual:Str}{st:Stmt}{f:Addr}{fd:FuncData}{N ps:List Str}{k:Nat}{sp:Sp}(F:Fun K x qual st f fd)(S:Aaa N ps (Aa7 st))(len:∀vs H Q E,sp vs H Q E→vs.length=ps.length)
 (hbody:∀(cdv:Value) (A:Around) (outer:List Env) (s:Shared) (H:Hp) (vs:List V) (Q:VK) (E:XK),Room k (A.deeper (envOfC qual (Aa7 st) s.heap.objs.size f cdv))→sp vs H Q E→
  ∃t,PSs (Axv CX0 P w K mg base N qual (Aa7 st) f cdv A outer s H E).nox (Acb st) t∧t { nx:=fun _ H'=>Q .non H',rt:=Q } (start N vs) H):FnOk P w K mg base CX0 (k+1) f fd ps sp:=by
 obtain⟨oc,od,kV,doc,pm,an,cdv,ct,osl,rfl,lk,hcd⟩:=F.ex;refine Bb8 lk hcd S len fun A outer s H vs Q E hr hsp=>?_;obtain⟨t,h,q⟩:=hbody cdv A outer s H vs Q E hr hsp;exact⟨t,h.nox,q⟩
theorem Fun.binds {x qual:Str}{st:Stmt}{f:Addr}{fd:FuncData}{ps:List Str}(F:Fun K x qual st f fd)
 (h:∀(kV doc pm:Value) (an:Option Addr) (cdv ct:Value) (us:List Value),us.length=ps.length→bindArgs (W.fnOf x qual (Acq st) (Acb st) (Aa7 st) .none kV doc pm an cdv ct) ⟨us,[]⟩=pure (ps.zip us)):Binds K fd ps []:=by
 obtain⟨oc,od,kV,doc,pm,an,cdv,ct,osl,rfl,lk,hcd⟩:=F.ex;exact .all (h kV doc pm an cdv ct)
theorem Arj {x qual:Str}{st:Stmt}{f:Addr}{oc:Value}{od an:Option Addr}{osl:Array (Option Value)}{kV doc pm cdv ct:Value}(l:K.lookup f=some ⟨oc,od,.func (W.fnOf x qual (Acq st) (Acb st) (Aa7 st) .none kV doc pm an cdv ct),osl⟩)
 (c:W.codeIn K cdv qual=true) (k:W.keepIn K (.ref f)=true):Fun K x qual st f (W.fnOf x qual (Acq st) (Acb st) (Aa7 st) .none kV doc pm an cdv ct):=⟨⟨oc,od,kV,doc,pm,an,cdv,ct,osl,rfl,l,c⟩,k⟩
end
theorem Agl {A:Around}{k:Nat}(hr:Room k A):A.units+1<cLine:=Nat.lt_of_le_of_lt (Nat.add_le_add_left (by decide:1≤64) _) hr.units
section
variable {X:Cx}
theorem pv (i:Nat){x:Str}{pos:Pos}(hN:X.N[i]?=some x:=by rfl)(hv:Vis X.env.scope x:=by first | exact Or.inl rfl | exact Or.inr (Or.inl rfl) | exact Or.inr (Or.inr rfl))(hd:(x==("__debug__" : Str))=false:=by decide)
 (hcd:(x==("__classdict__" : Str))=false:=by decide):PE X (.Name x pos) (Acc i):=Ayv hN hv hd hcd
theorem Arw:Agx X (.builtin "len") (fun xs H Q=>∃a kvs,xs=[V.ref a]∧H a=some (.dK kvs)∧Q (.int kvs.length) H):=by
 intro pins s σ H xs us Q I r h;obtain⟨a,kvs,rfl,ha,q⟩:=h;obtain⟨u,rfl,ru⟩:=Al0 r;cases ru;exact Bba I (.inl ha) fun t s' I'=>⟨.int kvs.length,H,I',⟨t,rfl⟩,q⟩
end
theorem Akh {A B:Prop}(h:B):if false=true then A else B:=by
 rw[if_neg Bool.false_ne_true];exact h
theorem Aoe {A B:Prop}(h:A):if true=true then A else B:=by
 rw[if_pos rfl];exact h
theorem Abg {c A B:Prop}[Decidable c](h1:c→A)(h2:¬c→B):if c then A else B:=by
 by_cases h:c
 ·rw[if_pos h];exact h1 h
 ·rw[if_neg h];exact h2 h
def Same (H H':Hp):Prop:=∀b o,H b=some o→H' b=some o
theorem Same.refl (H:Hp):Same H H:=fun _ _ h=>h
theorem Same.trans {H H1 H2:Hp}(a:Same H H1)(b:Same H1 H2):Same H H2:=fun c o h=>b c o (a c o h)
theorem Same.free {H H':Hp}(e:Same H H'){l:Addr}(h:H' l=Option.none):H l=Option.none:=by
 cases q:H l with
 | none=>rfl
 | some o =>
  rw[e l o q]at h;cases h
theorem Same.seq {K:W.Frag}{H H':Hp}{a:Addr}{xs:List V}(e:Same H H')(h:SqL K H a xs):SqL K H' a xs:=by
 rcases h with (h | ⟨o,h⟩) | h
 ·exact .inl (.inl (e _ _ h))
 ·exact .inl (.inr ⟨o,e _ _ h⟩)
 ·exact .inr h
section
variable {κ:Type}[DecidableEq κ]
theorem Avn {kvs:List (κ×V)}{k:κ}{v:V}(h:Ac2 kvs k=some v):k∈kvs.map (·.1):=by
 have q:(kvs.any fun kv=>decide (kv.1=k))=true:=by
  rw[Ad9,h]
  all_goals rfl
 obtain⟨p,hp,e⟩:=List.any_eq_true.mp q;exact List.mem_map.mpr ⟨p,hp,of_decide_eq_true e⟩
theorem Aqq:∀{l:List κ} {k:κ},l.Nodup→¬k∈l→(l++[k]).Nodup
 | [],k,_,_=>by simp
 | a::r,k,h,hk=>by
  obtain⟨h1,h2⟩:=List.nodup_cons.mp h;show(a::(r++[k])).Nodup;refine List.nodup_cons.mpr ⟨fun m=>?_,Aqq h2 fun m=>hk (List.mem_cons.mpr (Or.inr m))⟩;rcases List.mem_append.mp m with q | q
  ·exact h1 q
  ·exact hk (List.mem_cons.mpr (Or.inl (List.mem_singleton.mp q).symm))
end
theorem Ahc {xs:List V}{z:Int}{j:Nat}{v:V}(e:z=(j:Int))(h:xs[j]?=some v):atI xs z=some v:=by
 rw[e];exact Ae0 h
theorem Alf {α:Type}{l:List α}(hN:l.Nodup){i j:Nat}{x:α}(a:l[i]?=some x)(b:l[j]?=some x):i=j:=by
 obtain⟨h1,e1⟩:=List.getElem?_eq_some_iff.mp a;obtain⟨h2,e2⟩:=List.getElem?_eq_some_iff.mp b;exact(List.getElem_inj hN).mp (e1.trans e2.symm)
theorem Same.made {H H1:Hp}{x dx C:Addr}(nx:H x=Option.none)(nd:H dx=Option.none)(k:∀b o,(upd (upd H dx (.own x)) x (.ins C dx [])) b=some o→b≠x→H1 b=some o):Same H H1:=fun b o e =>
 k b o (by rw[Aa6 (Aa8 e nx),Aa6 (Aa8 e nd)];exact e) (Aa8 e nx)
end L2
end
section
namespace H3
open PySem PyProof.Rows
def lexGt:List Int→List Int→Bool
 | [],[]=>false
 | [],_::_=>false
 | _::_,[]=>true
 | x::xs,y::ys=>if x=y then lexGt xs ys else decide (x>y)
theorem lexGt_cons (x y:Int)(xs ys:List Int):lexGt (x::xs) (y::ys)=if x=y then lexGt xs ys else decide (x>y):=rfl
theorem lexGt_nil_nil:lexGt [] []=false:=rfl
theorem Ah1 (y:Int)(ys:List Int):lexGt [] (y::ys)=false:=rfl
theorem Ah2 (x:Int)(xs:List Int):lexGt (x::xs) []=true:=rfl
theorem Asw (A:Around)(s:Shared)(a:Int)(t:Tok)(c:Int)(u:Tok)(prog:Program)(w:World)(E:Value→Shared→Prop)(Q:Value→Shared→Prop)(h:Q (.bool (decide (a>c))) s) :
 wpAny (model prog w) A (richCompare .Gt (.int a t) (.int c u)) Q E s :=
 (PyProof.Rows.gt_int h:wpAny (model prog w) A (compareOp .Gt (.int a t) (.int c u)) Q E s)
section
open PySem.SeqAt
open PySem.AutoSeq1 (wpAny_loadPart')
open PySem.MeetsSeq PySem.MeetsSeq2 PySem.MeetsSeq3
theorem Ai8 (l b:Addr)(items items2:Array Value)(n n2:Nat)(dd dd2:Option Addr)(sl sl2:Array (Option Value))(ns ms:List Int)(hi:IntsAre items.toList ns)(hj:IntsAre items2.toList ms) :
 Meets (Builtin.«tuple.__gt__» ⟨[.ref l,.ref b],[]⟩)
  (fun _ R s=>s.heap.get? l=some { cls:=.type "tuple",dict:=dd,data:=.seq items n,slots:=sl }∧s.heap.get? b=some { cls:=.type "tuple",dict:=dd2,data:=.seq items2 n2,slots:=sl2 }∧
   R (.ok (.ret (.bool (lexGt ns ms)))) s) :=
 .of_wp fun prog w A R s h=>by
  obtain⟨hp,g,d,tk,os⟩:=s;obtain⟨hl,hb,h⟩:=h;have f2:=AutoSeq1.sub_tuple_tuple;have z1:items.size=ns.length:=by rw[←hi.length];simp
  have z2:items2.size=ms.length:=by rw[←hj.length];simp
  wp_walk using wpAny_loadPart' hl,wpAny_loadPart' hb,wpAny_forIn_list _ (fun rest b s'=>b.1=none∧s'=⟨hp,g,d,tk,os⟩∧∃(vs ws:List Value) (ns' ms':List Int),rest=vs.zip ws∧
   IntsAre vs ns'∧IntsAre ws ms'∧ns'.length+items2.size=ms'.length+items.size∧R (.ok (.ret (.bool (lexGt ns' ms')))) ⟨hp,g,d,tk,os⟩) _
  case turn =>
   rintro⟨y,x⟩ rest b s' ⟨hb',rfl,vs,ws,ns',ms',hz,hvi,hwi,hlen,hR⟩;cases hvi with
   | nil=>rw[List.zip_nil_left]at hz;cases hz
   | cons a t hvi' =>
    cases hwi with
    | nil=>rw[List.zip_nil_right]at hz;cases hz
    | cons c u hwi' =>
     rw[List.zip_cons_cons]at hz;injection hz with hyx hrest
     injection hyx with hy hx
     subst hy hx;rw[lexGt_cons]at hR;simp only[List.length_cons]at hlen;obtain⟨e,he,hiff⟩:=HT.eqAt_int A.in1 ⟨hp,g,d,tk,os⟩ a t c u;refine wpAny_bind (he prog w _ _ ?_);cases e with
     | true =>
      rw[if_pos (hiff.mp rfl)]at hR
      wp_walk
      exact⟨rfl,rfl,_,_,_,_,hrest,hvi',hwi',by lia,hR⟩
     | false =>
      rw[if_neg (fun q=>absurd (hiff.mpr q) Bool.false_ne_true)]at hR;have hri:=Asw A.in1 ⟨hp,g,d,tk,os⟩ a t c u prog w
      wp_walk using hri
      exact⟨_,rfl,by simpa using hR⟩
  case fin =>
   rintro⟨b1,b2⟩ s' ⟨hb',rfl,vs,ws,ns',ms',hz,hvi,hwi,hlen,hR⟩;simp only at hb';subst hb';have hv:lexGt ns' ms'=decide (items.size>items2.size):=by
    cases hvi with
    | nil =>
     cases hwi with
     | nil =>
      simp only[List.length_nil]at hlen;rw[lexGt_nil_nil];exact(decide_eq_false (by lia)).symm
     | cons c u hw =>
      simp only[List.length_nil,List.length_cons]at hlen;rw[Ah1];exact(decide_eq_false (by lia)).symm
    | cons a t hv =>
     cases hwi with
     | nil =>
      simp only[List.length_nil,List.length_cons]at hlen;rw[Ah2];exact(decide_eq_true (by lia)).symm
     | cons c u hw =>
      rw[List.zip_cons_cons]at hz;cases hz
   rw[hv]at hR
   wp_walk
   exact⟨_,rfl,by simpa [Builtin.Tuple.tupleCompareSizes] using hR⟩
  case h =>
   exact⟨rfl,rfl,items.toList,items2.toList,ns,ms,rfl,hi,hj,by lia,h⟩
end
section
variable {prog:Program}{w:World}{A:Around}{E:Value→Shared→Prop}{s:Shared}
theorem gt_tupInts {l b:Addr}{items items2:Array Value}{ns ms:List Int}{Q:Value→Shared→Prop}(hl:IsTup s.heap l items)(hb:IsTup s.heap b items2)(hi:IntsAre items.toList ns)(hj:IntsAre items2.toList ms)
 (hu:A.units<cLine) (h:Q (.bool (lexGt ns ms)) s):wpAny (model prog w) A (compareOp .Gt (.ref l) (.ref b)) Q E s:=by
 obtain⟨⟨cls,dd,data,sl⟩,ho,hc,n,hd⟩:=id hl;obtain⟨⟨cls2,dd2,data2,sl2⟩,ho2,hc2,n2,hd2⟩:=id hb;simp only at hc hd hc2 hd2;subst hc hd hc2 hd2;exact richCompare_meets_room (op:=.Gt) ⟨_,ho,rfl⟩ ⟨_,ho2,rfl⟩ PySem.F.slot_tuple_gt PySem.F.entry_tuple_gt (PySem.F.args_tuple_gt_2 _ _) (Ai8 l b items items2 n n2 dd dd2 sl sl2 ns ms hi hj)
  ⟨ho,ho2,show Value.bool (lexGt ns ms)≠Value.notImplemented∧Q (.bool (lexGt ns ms)) s from⟨(fun x=>nomatch x),h⟩⟩ hu
end
def lexLe:List Int→List Int→Bool
 | [],[]=>true
 | [],_::_=>true
 | _::_,[]=>false
 | x::xs,y::ys=>if x=y then lexLe xs ys else decide (x≤y)
theorem lexLe_cons (x y:Int)(xs ys:List Int):lexLe (x::xs) (y::ys)=if x=y then lexLe xs ys else decide (x≤y):=rfl
theorem lexLe_nil_nil:lexLe [] []=true:=rfl
theorem Agz (y:Int)(ys:List Int):lexLe [] (y::ys)=true:=rfl
theorem Ah0 (x:Int)(xs:List Int):lexLe (x::xs) []=false:=rfl
theorem Asv (A:Around)(s:Shared)(a:Int)(t:Tok)(c:Int)(u:Tok)(prog:Program)(w:World)(E:Value→Shared→Prop)(Q:Value→Shared→Prop)(h:Q (.bool (decide (a≤c))) s) :
 wpAny (model prog w) A (richCompare .LtE (.int a t) (.int c u)) Q E s :=
 (PyProof.Rows.le_int h:wpAny (model prog w) A (compareOp .LtE (.int a t) (.int c u)) Q E s)
section
open PySem.SeqAt
open PySem.AutoSeq1 (wpAny_loadPart')
open PySem.MeetsSeq PySem.MeetsSeq2 PySem.MeetsSeq3
theorem Ai7 (l b:Addr)(items items2:Array Value)(n n2:Nat)(dd dd2:Option Addr)(sl sl2:Array (Option Value))(ns ms:List Int)(hi:IntsAre items.toList ns)(hj:IntsAre items2.toList ms) :
 Meets (Builtin.«tuple.__le__» ⟨[.ref l,.ref b],[]⟩)
  (fun _ R s=>s.heap.get? l=some { cls:=.type "tuple",dict:=dd,data:=.seq items n,slots:=sl }∧s.heap.get? b=some { cls:=.type "tuple",dict:=dd2,data:=.seq items2 n2,slots:=sl2 }∧
   R (.ok (.ret (.bool (lexLe ns ms)))) s) :=
 .of_wp fun prog w A R s h=>by
  obtain⟨hp,g,d,tk,os⟩:=s;obtain⟨hl,hb,h⟩:=h;have f2:=AutoSeq1.sub_tuple_tuple;have z1:items.size=ns.length:=by rw[←hi.length];simp
  have z2:items2.size=ms.length:=by rw[←hj.length];simp
  wp_walk using wpAny_loadPart' hl,wpAny_loadPart' hb,wpAny_forIn_list _ (fun rest b s'=>b.1=none∧s'=⟨hp,g,d,tk,os⟩∧∃(vs ws:List Value) (ns' ms':List Int),rest=vs.zip ws∧
   IntsAre vs ns'∧IntsAre ws ms'∧ns'.length+items2.size=ms'.length+items.size∧R (.ok (.ret (.bool (lexLe ns' ms')))) ⟨hp,g,d,tk,os⟩) _
  case turn =>
   rintro⟨y,x⟩ rest b s' ⟨hb',rfl,vs,ws,ns',ms',hz,hvi,hwi,hlen,hR⟩;cases hvi with
   | nil=>rw[List.zip_nil_left]at hz;cases hz
   | cons a t hvi' =>
    cases hwi with
    | nil=>rw[List.zip_nil_right]at hz;cases hz
    | cons c u hwi' =>
     rw[List.zip_cons_cons]at hz;injection hz with hyx hrest
     injection hyx with hy hx
     subst hy hx;rw[lexLe_cons]at hR;simp only[List.length_cons]at hlen;obtain⟨e,he,hiff⟩:=HT.eqAt_int A.in1 ⟨hp,g,d,tk,os⟩ a t c u;refine wpAny_bind (he prog w _ _ ?_);cases e with
     | true =>
      rw[if_pos (hiff.mp rfl)]at hR
      wp_walk
      exact⟨rfl,rfl,_,_,_,_,hrest,hvi',hwi',by lia,hR⟩
     | false =>
      rw[if_neg (fun q=>absurd (hiff.mpr q) Bool.false_ne_true)]at hR;have hri:=Asv A.in1 ⟨hp,g,d,tk,os⟩ a t c u prog w
      wp_walk using hri
      exact⟨_,rfl,by simpa using hR⟩
  case fin =>
   rintro⟨b1,b2⟩ s' ⟨hb',rfl,vs,ws,ns',ms',hz,hvi,hwi,hlen,hR⟩;simp only at hb';subst hb';have hv:lexLe ns' ms'=decide (items.size≤items2.size):=by
    cases hvi with
    | nil =>
     cases hwi with
     | nil =>
      simp only[List.length_nil]at hlen;rw[lexLe_nil_nil];exact(decide_eq_true (by lia)).symm
     | cons c u hw =>
      simp only[List.length_nil,List.length_cons]at hlen;rw[Agz];exact(decide_eq_true (by lia)).symm
    | cons a t hv =>
     cases hwi with
     | nil =>
      simp only[List.length_nil,List.length_cons]at hlen;rw[Ah0];exact(decide_eq_false (by lia)).symm
     | cons c u hw =>
      rw[List.zip_cons_cons]at hz;cases hz
   rw[hv]at hR
   wp_walk
   exact⟨_,rfl,by simpa [Builtin.Tuple.tupleCompareSizes] using hR⟩
  case h =>
   exact⟨rfl,rfl,items.toList,items2.toList,ns,ms,rfl,hi,hj,by lia,h⟩
end
section
variable {prog:Program}{w:World}{A:Around}{E:Value→Shared→Prop}{s:Shared}
theorem le_tupInts {l b:Addr}{items items2:Array Value}{ns ms:List Int}{Q:Value→Shared→Prop}(hl:IsTup s.heap l items)(hb:IsTup s.heap b items2)(hi:IntsAre items.toList ns)(hj:IntsAre items2.toList ms)
 (hu:A.units<cLine) (h:Q (.bool (lexLe ns ms)) s):wpAny (model prog w) A (compareOp .LtE (.ref l) (.ref b)) Q E s:=by
 obtain⟨⟨cls,dd,data,sl⟩,ho,hc,n,hd⟩:=id hl;obtain⟨⟨cls2,dd2,data2,sl2⟩,ho2,hc2,n2,hd2⟩:=id hb;simp only at hc hd hc2 hd2;subst hc hd hc2 hd2;exact richCompare_meets_room (op:=.LtE) ⟨_,ho,rfl⟩ ⟨_,ho2,rfl⟩ PySem.F.slot_tuple_le PySem.F.entry_tuple_le (PySem.F.args_tuple_le_2 _ _) (Ai7 l b items items2 n n2 dd dd2 sl sl2 ns ms hi hj)
  ⟨ho,ho2,show Value.bool (lexLe ns ms)≠Value.notImplemented∧Q (.bool (lexLe ns ms)) s from⟨(fun x=>nomatch x),h⟩⟩ hu
end
end H3
namespace L2
open PySem PySem.Spec PyProof.Rows
def Bcd (K:W.Frag):R2:=fun x y H Q=>∃a b ns ms,x=.ref a∧y=.ref b∧SqT K H a (ns.map V.int)∧SqT K H b (ms.map V.int)∧Q (.bl (H3.lexGt ns ms)) H
theorem Az4 {X:Cx}(hu:X.A.units<cLine):OpR X (compareOp .Gt) (Bcd X.K):=by
 intro pins s σ H x y v u Q I rx ry h;obtain⟨a,b,ns,ms,rfl,rfl,ha,hb,q⟩:=h;cases rx;cases ry;obtain⟨its,r1,p1,_⟩:=I.tuple ha;obtain⟨its2,r2,p2,_⟩:=I.tuple hb;have i1:IntsAre its.toArray.toList ns:=Abp r1;have i2:IntsAre its2.toArray.toList ms:=Abp r2;exact H3.gt_tupInts p1 p2 i1 i2 hu ⟨.bl (H3.lexGt ns ms),H,I,rfl,q⟩
def Bcc (K:W.Frag):R2:=fun x y H Q=>∃a b ns ms,x=.ref a∧y=.ref b∧SqT K H a (ns.map V.int)∧SqT K H b (ms.map V.int)∧Q (.bl (H3.lexLe ns ms)) H
theorem Az3 {X:Cx}(hu:X.A.units<cLine):OpR X (compareOp .LtE) (Bcc X.K):=by
 intro pins s σ H x y v u Q I rx ry h;obtain⟨a,b,ns,ms,rfl,rfl,ha,hb,q⟩:=h;cases rx;cases ry;obtain⟨its,r1,p1,_⟩:=I.tuple ha;obtain⟨its2,r2,p2,_⟩:=I.tuple hb;have i1:IntsAre its.toArray.toList ns:=Abp r1;have i2:IntsAre its2.toArray.toList ms:=Abp r2;exact H3.le_tupInts p1 p2 i1 i2 hu ⟨.bl (H3.lexLe ns ms),H,I,rfl,q⟩
end L2
end
section
namespace L2
open PySem PySem.Spec PyProof.Rows
theorem Ac1 {X:Cx}(hc:X.calm=true):Agx X (.builtin "sum") (fun xs H Q=>∃(p:Addr) (ns:List Int) (m:Int),xs=[.ref p]∧SqT X.K H p (ns.map V.int)∧ns.sum=m∧Q (.int m) H):=by
 intro pins s σ H xs us Q I r h;obtain⟨p,ns,m,rfl,hq,hm,q⟩:=h;obtain⟨u,rfl,rx⟩:=Al0 r;cases rx;obtain⟨its,r',pl,hz⟩:=I.tuple hq;have hi:IntsAre its ns:=Abp r';obtain⟨ys,hx⟩:=hi.allInts.items;have hn:numsOf its.toArray.toList=ns:=by rw[show its.toArray.toList=its from rfl,hi.numsOf]
 have pl':s.heap.IsTuple p (intItems ys):=by rw[←hx];exact pl
 rw[hx]at hn;rw[nums_intItems]at hn;refine W.ktm_sumG (I.ok.hd hc) pl' fun h' tk t' hk=>?_;refine⟨.int m,H,I.kept hk,⟨t',?_⟩,q⟩;rw[preSum_eq,List.take_of_length_le (by simp),hn,hm]
end L2
end
section
set_option maxHeartbeats 4000000
namespace PyProof.Rows.G
open PySem PySem.W L2
theorem Asd {prog:Program}{w:World}{d:Addr}{es:Array DictEntry}{ep:Nat}(lo:(d==sysModules)=false) :
 KdlSrc prog w "dict" d d es.size (fun i v=>∃en,es[i]?=some en∧v=en.key) (fun h=>∃o,h.get? d=some o∧o.ExactDict∧o.data=.dict es ep) where
 type:=fun s ⟨o,ho,hc,_⟩=>⟨o,ho,hc.1⟩
 there:=fun h ⟨o,ho,_⟩=>⟨Heap.lt_size ho,Heap.lt_size ho⟩
 keep:=fun h h' ⟨o,ho,r⟩ hk=>⟨o,hk d (.inl rfl) o ho,r⟩
 notList:=by decide
 notTuple:=by decide
 hint:=fun _ _ s _ ⟨o,ho,hc,_⟩ hq=>kdl_hint_dict ⟨o,ho,hc.1⟩ hq
 iter:=fun A s hh ⟨o,ho,hc,hd⟩=>by
  have hne:d≠s.heap.objs.size:=Nat.ne_of_lt (Heap.lt_size ho);refine⟨{ cls:=.type "dict_keyiterator",data:=.fields #[.ref d,.int 0 0,.int es.size 0,.int ep 0] },fun i h=>h.IsKeyIter s.heap.objs.size d i es.size ep∧∃o,h.get? d=some o∧o.ExactDict∧o.data=.dict es ep,(fun _ _ hq=>Ar4 lo ho hc hd hq),?_,⟨⟨_,Heap.get?_push_size _ rfl,rfl,rfl⟩,o,Heap.get?_push_of_some _ ho,hc,hd⟩⟩
  exact {
   sub:=fun b hb=>by simp at hb;simp[hb]
   frame:=fun _ _ _ st hk=>⟨st.1.at fun o e=>hk _ (by simp) o e,let ⟨o,ho,r⟩:=st.2;⟨o,hk d (by simp) o ho,r⟩⟩
   item:=fun i s2 Q E hi st hQ=>by
    obtain⟨st1,o2,ho2,hc2,hd2⟩:=st;obtain⟨en,hen⟩ : ∃en,es[i]?=some en:=⟨es[i],by simp[hi]⟩
    refine Aiu st1 ho2 hd2 rfl hen fun h' st' sb=>?_;exact hQ en.key h' s2.toks ⟨en,hen,rfl⟩ ⟨st',o2,(sb.2 d hne).trans ho2,hc2,hd2⟩ fun b ob hb e=>(sb.2 b (fun z=>hb (by simp[z]))).trans e
   done:=fun s2 Q E st hQ=>by
    obtain⟨st1,o2,ho2,hc2,hd2⟩:=st;exact Ak8 hh st1 ho2 hd2 rfl (Nat.le_refl _) fun h' he'=>hQ h' s2.toks fun b ob hb e=>he' b ob (fun z=>hb (by simp[z])) e
   self:=fun _ s2 _ _ st h=>by
    refine wpAny_pyIter_slot st.1.typeIs F.slot_dict_keyiterator_iter (wpAny_call_entry F.slot_dict_keyiterator_iter st.1.typeIs F.entry_dict_keyiterator_iter ?_ (F.args_dict_keyiterator_iter_1 _));show wpAny _ _ (ret (.ref _)) _ _ s2
    exact wpAny_pure ⟨_,rfl,"dict_keyiterator",_,st.1.typeIs,F.slot_dict_keyiterator_next.lookup,h⟩ }
section
variable {prog:Program}{w:World}{A:Around}{E:Value→Shared→Prop}{s:Shared}
theorem Am0 {T:String}{r d:Addr}{n:Nat}{P:Nat→Value→Prop}{OK:Heap→Prop}{R:List Value→Shared→Prop}(K:KdlSrc prog w T r d n P OK)(hh:A.handled=none)(hok:OK s.heap)(hn:n≤sizeLine)
 (h:∀(h':Heap) (tk:Nat) (acc:Array Value),(∀b o,s.heap.get? b=some o→h'.get? b=some o)→ItemsOf P acc n→s.heap.objs.size≤h'.objs.size→R acc.toList { s with heap:=h',toks:=tk }):wpAny (model prog w) A (collect (.ref r)) R E s:=by
 obtain⟨lr,ld⟩:=K.there _ hok;have fin:∀(h':Heap) (tk:Nat) (acc:Array Value) (c:Nat),(∀b o,s.heap.get? b=some o→h'.get? b=some o)→h'.get? s.heap.objs.size=some { cls:=.type "list",dict:=none,data:=.seq acc c,slots:=#[] }→ItemsOf P acc n→
  wpAny (model prog w) A (load s.heap.objs.size >>= fun o=>match o.data with | .seq xs _=>pure xs.toList | _=>unsupported "internal:collect") R E { s with heap:=h',toks:=tk }:=fun h' tk acc c hk hS ha=>wpAny_bind (wpAny_load hS (wpAny_pure (h h' tk acc hk ha (Nat.le_of_lt (Heap.lt_size hS)))))
 have e0:(s.heap.push { cls:=.type "list",data:=.seq ([]:List Value).toArray }).get? s.heap.objs.size=some { cls:=.type "list",data:=.seq #[] }:=Heap.get?_push_size _ rfl;have ext:=kdl_extend (A:=A) (s:={ s with heap:=s.heap.push { cls:=.type "list",data:=.seq ([]:List Value).toArray } }) (res:=.ref s.heap.objs.size) (c₀:=0) (S:=s.heap.objs.size)
  (R:=fun q s'=>∃(h':Heap) (tk:Nat) (acc:Array Value) (c:Nat),q=.ok (.ret (.ref s.heap.objs.size))∧s'={ s with heap:=h',toks:=tk }∧(∀b o,s.heap.get? b=some o→h'.get? b=some o)∧h'.get? s.heap.objs.size=some { cls:=.type "list",dict:=none,data:=.seq acc c,slots:=#[] }∧ItemsOf P acc n)
  K hh (K.keep _ _ hok fun b _ o e=>Heap.get?_push_of_some _ e) (hSr:=Nat.ne_of_gt lr) (hSd:=Nat.ne_of_gt ld) (hS:=e0) (hR:=fun h' tk acc c hk hS ha=>⟨h',tk,acc,c,rfl,rfl,fun b o e=>hk b o (Nat.ne_of_lt (Heap.lt_size e)) (Heap.get?_push_of_some _ e),hS,ha⟩) (hn:=hn)
 unfold collect;refine wpAny_bind (wpAny_runValue (codeAny_builtin entry_proto_collect' ?_));rw[Around.under_plainId PySem.F.plain_proto_collect _];show wpAny _ A.in1 (newList [] >>= fun l=>again (.builtin "list.__iadd__" ⟨[l,Value.ref r],[]⟩)) _ _ s;refine wpAny_bind (wpAny_newObj_type (wpAny_pure ⟨plainId_quiet PySem.F.plain_list_iadd _,codeAny_builtin entry_list_iadd' ?_⟩));rw[Around.under_plainId PySem.F.plain_list_iadd _]
 refine wpAny_mono ext (fun fn s' x=>?_) (fun e s' x=>by obtain⟨_,_,_,_,e',_⟩:=x;cases e');cases fn with
 | done f=>obtain⟨h',tk,acc,c,e,rfl,hk,hS,ha⟩:=x;cases e;exact fin h' tk acc c hk hS ha
 | again c1=>exact⟨x.1,codeAny_mono x.2 fun q s2 y=>by obtain⟨h',tk,acc,c,rfl,rfl,hk,hS,ha⟩:=y;exact fin h' tk acc c hk hS ha⟩
theorem Act {h:Heap}{a:Addr}{vs:List Value}{out:Array Value}:(∀b o,b≠a→h.get? b=some o→(sortedHeap h a vs out).get? b=some o):=by
 intro b o hb e;unfold sortedHeap;rw[Heap.get?_update_ne _ _ _ _ hb];refine Heap.get?_push_of_some _ (Heap.get?_push_of_some _ ?_);rw[Heap.get?_update_ne _ _ _ _ hb];exact e
theorem sortedHeap_at {h:Heap}{a:Addr}{vs:List Value}{out:Array Value}{n:Nat}(ho:h.get? a=some (seqObj "list" vs.toArray n)):∃m,(sortedHeap h a vs out).get? a=some (seqObj "list" out m):=by
 unfold sortedHeap;have ha:a<h.objs.size:=Heap.lt_size ho;obtain⟨e1,ho1⟩ : ∃e1,(h.update a (Obj.mapSeq fun _=>#[])).get? a=some (seqObj "list" #[] e1):=⟨_,get?_update_seq ho (fun _=>#[])⟩
 have ho2:=Heap.get?_push_of_some (seqObj "list" #[] 0) (Heap.get?_push_of_some (seqObj "tuple" vs.toArray 0) ho1);exact⟨_,get?_update_seq ho2 (fun _=>out)⟩
theorem Ano {T:String}{r d:Addr}{n:Nat}{P:Nat→Value→Prop}{OK:Heap→Prop}{shape:Nat→Bool}{vs fs:List Value}{Q:Value→Shared→Prop}(K:KdlSrc prog w T r d n P OK)(hh:A.handled=none)(hok:OK s.heap)(hn:n≤sizeLine)
 (hP:∀acc:Array Value,ItemsOf P acc n→acc.toList=vs) (ht:TupsOf s.heap shape vs fs) (hk:∀v,v∈vs→∃l,tupKeyC s.heap shape v=some l) (hL:vs.length≤sizeLine)
 (h:∀(st':SortSt) (h':Heap) (tk m:Nat) (q:Addr),(arrOf st').Perm (pairsOf vs)→SortedToK (tupKindC s.heap shape) (arrOf st') (pairsOf vs).size→(∀b o,s.heap.get? b=some o→h'.get? b=some o)→s.heap.objs.size≤q→
  h'.get? q=some (seqObj "list" ((arrOf st').map (·.2)) m)→Q (.ref q) { s with heap:=h',toks:=tk }) :
 wpAny (model prog w) A (call (.builtin "sorted") [.ref r]) Q E s:=by
 refine Calls.call_function_entry kind_sorted plain_sorted entry_sorted (args_sorted1 _) ?_;unfold Builtin.«sorted»;refine wpAny_bind (m:=checkCount "sorted" 1 1 _) (wpAny_pure ?_);refine wpAny_bind (Am0 (A:=A.in1) K hh hok hn fun h1 tk acc hk1 hacc le1=>?_);rw[hP acc hacc];refine wpAny_bind (wpAny_newList ?_ hL);have hoL:(h1.push (seqObj "list" vs.toArray 0)).get? h1.objs.size=some (seqObj "list" vs.toArray 0):=Heap.get?_push_size _ rfl
 have k0:KeepsTups s.heap (h1.push (seqObj "list" vs.toArray 0)):=fun b o e _=>Heap.get?_push_of_some _ (hk1 b o e);have k6:=k0.trans (keeps_sort6 (vs:=vs) hoL);show wpAny _ _ _ _ _ { s with heap:=h1.push (seqObj "list" vs.toArray 0),toks:=tk };refine wpAny_bind (wpAny_holding (wpAny_call_entry slot_list_sort ⟨_,hoL,rfl⟩ entry_list_sort (list_sort_treeG (κ:=tupKindC s.heap shape) (kd:=tuples' true) hoL (tupKeys hk) (tupC_ltAt true k6) ?keyG hL fun st' a1 a2 a3=>⟨_,rfl,?retG⟩) (args_list_sort _)))
 case keyG =>
  intro h2 R hq;exact tup_kind (by rw[TupsOf.length ht];lia) (TupsOf.keep k6 ht) hq
 case retG =>
  refine wpAny_pure ⟨_,rfl,?_⟩;obtain⟨m,hm⟩:=sortedHeap_at (vs:=vs) (out:=(arrOf st').map (·.2)) hoL;exact h st' _ tk m _ a1 a2 (fun b o e=>Act b o (fun z=>by rw[z]at e;have:=Heap.lt_size (hk1 _ _ e);exact absurd this (Nat.lt_irrefl _)) (Heap.get?_push_of_some _ (hk1 b o e))) le1 hm
end
def ltI (a b:List Int):Bool:=lexLt itemOrd (a.map Sum.inl) (b.map Sum.inl)
theorem perm_map_inv {α β:Type}{f:α→β}{a b:List β}(p:a.Perm b):∀L:List α,b=L.map f→∃l:List α,l.Perm L∧a=l.map f:=by
 induction p with
 | nil =>
  intro L e;cases L with
  | nil=>exact⟨[],.nil,rfl⟩
  | cons x r=>cases e
 | cons x p ih =>
  intro L e;cases L with
  | nil=>cases e
  | cons y r =>
   injection e with e1 e2
   obtain⟨l,hl,q⟩:=ih r e2;exact⟨y::l,hl.cons y,by rw[List.map_cons,←e1,q]⟩
 | swap x y l =>
  intro L e
  match L,e with
  | u::v::r,e =>
   injection e with e1 e2
   injection e2 with e2 e3
   exact⟨v::u::r,.swap u v r,by rw[List.map_cons,List.map_cons,←e1,←e2,←e3]⟩
  | [u],e=>injection e with e1 e2;cases e2
 | trans p1 p2 ih1 ih2 =>
  intro L e;obtain⟨l2,h2,q2⟩:=ih2 L e;obtain⟨l1,h1,q1⟩:=ih1 l2 q2;exact⟨l1,h1.trans h2,q1⟩
abbrev Aof:Nat→Bool:=fun _=>false
theorem Ase {h:Heap}{L:List (Addr×List Int)}(hL:∀p,p∈L→tupKeyC h Aof (.ref p.1)=some (p.2.map Sum.inl)){arr:Array Keyed}(hp:arr.Perm (pairsOf (L.map fun p=>Value.ref p.1)))
 (hs:SortedToK (tupKindC h Aof) arr (pairsOf (L.map fun p=>Value.ref p.1)).size):∃l:List (Addr×List Int),l.Perm L∧(arr.map (·.2)).toList=(l.map fun p=>Value.ref p.1)∧l.Pairwise (fun a b=>ltI b.2 a.2=false):=by
 have hp':arr.toList.Perm (L.map fun p=>((Value.ref p.1,Value.ref p.1):Keyed)):=by
  have:=Array.perm_iff_toList_perm.mp hp;rw[pairsOf_toList,List.zip_map',]at this;exact this
 obtain⟨l,pl,el⟩:=perm_map_inv hp' L rfl;refine⟨l,pl,by rw[Array.toList_map,el,List.map_map];rfl,?_⟩;rw[List.pairwise_iff_getElem];intro i j hi hj hij;have sz:(pairsOf (L.map fun p=>Value.ref p.1)).size=l.length:=by rw[pairsOf_size,List.length_map,pl.length_eq]
 have kk:∀(k:Nat) (hk:k<l.length),KK (tupKindC h Aof) arr k=l[k].2.map Sum.inl:=fun k hk=>by
  have e:arr[k]?=some ((Value.ref l[k].1,Value.ref l[k].1):Keyed):=by
   rw[←Array.getElem?_toList,el,List.getElem?_map,List.getElem?_eq_getElem hk];rfl
  have hq:=hL l[k] (pl.mem_iff.mp (List.getElem_mem hk));unfold KK;rw[e];show(tupKeyC h Aof (.ref l[k].1)).getD []=_;rw[hq];rfl
 have:=hs i j (Nat.le_of_lt hij) (by rw[sz];exact hj);rw[kk i hi,kk j hj]at this;exact this
theorem Ahw {i:Nat}:∀{its:List Value} {ns:List Int},IntsAre its ns→tupItems Aof i its=some (ns.map Sum.inl)
 | _,_,.nil=>rfl
 | _,_,.cons n t r=>by
  show(if Aof i=true then none else(tupItems Aof (i+1) _).map (Sum.inl n :: ·))=_;rw[if_neg Bool.false_ne_true,Ahw r];rfl
theorem Ax3 {h:Heap}{a:Addr}{its:List Value}{ns:List Int}(ht:IsTup h a its.toArray)(hi:IntsAre its ns):tupKeyC h Aof (.ref a)=some (ns.map Sum.inl):=by
 obtain⟨o,ho,hc,n,hd⟩:=ht;unfold tupKeyC;have e1:isTupObj h (.ref a)=true:=by simp[isTupObj,ho,hc]
 rw[if_pos e1];simp only[tupKey,ho,hd];exact Ahw hi
theorem Anm {h:Heap}{a:Addr}{its:List Value}{n:Int}{ns:List Int}(ht:IsTup h a its.toArray)(hi:IntsAre its (n::ns)):∃f,TupOf h Aof (.ref a) f:=by
 obtain⟨o,ho,hc,m,hd⟩:=ht;cases hi with
 | cons _ t r=>exact⟨.int n t,a,o,_,m,rfl,ho,hc,hd,rfl,fun _=>⟨n,t,rfl⟩,fun z=>by cases z⟩
theorem Ahj {h:Heap}:∀{vs:List Value},(∀v,v∈vs→∃f,TupOf h Aof v f)→∃fs,TupsOf h Aof vs fs
 | [],_=>⟨[],.nil⟩
 | v::r,hv=>by
  obtain⟨f,hf⟩:=hv v (.head _);obtain⟨fs,hfs⟩:=Ahj fun u hu=>hv u (.tail _ hu);exact⟨f::fs,.cons hf hfs⟩
end PyProof.Rows.G
namespace L2
open PySem PySem.Spec PyProof.Rows PyProof.Rows.G
def Agw (H:Hp)(l:List (Addr×List Int)):Prop:=∀p,p∈l→H p.1=some (.tup (p.2.map V.int))∧p.2≠[]
section
variable {X:Cx}
theorem Ao2 {pins:List (Addr×Obj)}{σ:St}{H:Hp}{s:Shared}(I:Inv X pins σ H s){L:List (Addr×List Int)}(hL:Agw H L) :
 (∀p,p∈L→tupKeyC s.heap Aof (.ref p.1)=some (p.2.map Sum.inl))∧∃fs,TupsOf s.heap Aof (L.map fun p=>Value.ref p.1) fs:=by
 have key:∀p,p∈L→∃its:List Value,IsTup s.heap p.1 its.toArray∧IntsAre its p.2:=fun p hp=>by
  obtain⟨hz,its,r,ht⟩ : ObjOk X.prog X.w H s.heap p.1 (.tup (p.2.map V.int)):=I.hok _ _ (hL p hp).1;exact⟨its,ht,Abp r⟩
 refine⟨fun p hp=>?_,Ahj fun v hv=>?_⟩
 ·obtain⟨its,ht,hi⟩:=key p hp;exact Ax3 ht hi
 ·obtain⟨p,hp,rfl⟩:=List.mem_map.mp hv;obtain⟨its,ht,hi⟩:=key p hp;have ne:=(hL p hp).2;cases q:p.2 with
  | nil=>exact absurd q ne
  | cons n ns=>rw[q]at hi;exact Anm ht hi
theorem Ajl:∀l:List (Addr×List Int),Vals (l.map fun p=>V.ref p.1) (l.map fun p=>Value.ref p.1)
 | []=>.nil
 | p::r=>.cons rfl (Ajl r)
theorem Ajb (hc:X.calm=true):Agx X (.builtin "sorted") (fun xs H Q=>∃(d:Addr) (kvs:List (List Key×V)) (E:List (List Int)),xs=[.ref d]∧H d=some (.dT kvs)∧kvs.map (·.1)=E.map (·.map Sum.inl)∧(∀e,e∈E→e≠[])∧
 ∀(q:Addr) (l:List (Addr×List Int)),H q=none→(l.map (·.2)).Perm E→Agw H l→l.Pairwise (fun a b=>ltI b.2 a.2=false)→Q (.ref q) (upd H q (.lst (l.map fun p=>V.ref p.1)))):=by
 intro pins s σ H xs us Q I r h;obtain⟨d,kvs,E,rfl,hd,hk,hne,q⟩:=h;obtain⟨u,rfl,rx⟩:=Al0 r;cases rx;obtain⟨hz,lo,ys,pr,o,es,ep,ho,hx,hdt,he,_⟩ : ObjOk X.prog X.w H s.heap d (.dT kvs):=I.hok _ _ hd;have key:∀{kvs:List (List Key×V)} {ys:List (List Key×Addr×Value)} {E:List (List Int)},Paired (fun(p:List Key×V) (q:List Key×Addr×Value)=>p.1=q.1∧H q.2.1=some (.tup (p.1.map kV))∧RelV p.2 q.2.2) kvs ys→kvs.map (·.1)=E.map (·.map Sum.inl)→(∀e,e∈E→e≠[])→
  ∃L:List (Addr×List Int),L.map (·.1)=ys.map (·.2.1)∧L.map (·.2)=E∧Agw H L:=by
  intro kvs ys E pr
  induction pr generalizing E with
  | nil =>
   intro e _;cases E with
   | nil=>exact⟨[],rfl,rfl,fun p hp=>by cases hp⟩
   | cons a b=>cases e
  | @cons p y ps qs hq t ih =>
   intro e hn;cases E with
   | nil=>cases e
   | cons a b =>
    injection e with e1 e2
    obtain⟨L,l1,l2,l3⟩:=ih e2 fun x hx=>hn x (.tail _ hx);refine⟨(y.2.1,a)::L,by rw[List.map_cons,List.map_cons,l1],by rw[List.map_cons,l2],fun z hz=>?_⟩;rcases List.mem_cons.mp hz with rfl | hz
    ·refine⟨?_,hn a (.head _)⟩;have:=hq.2.1;rw[show p.1=a.map Sum.inl from e1,List.map_map]at this;exact this
    ·exact l3 z hz
 obtain⟨L,l1,l2,kL⟩:=key pr hk hne;obtain⟨hkey,fs,hts⟩:=Ao2 I kL;have len:L.length=kvs.length:=by
  have a:=congrArg List.length l2;have b:=congrArg List.length hk;rw[List.length_map]at a b;rw[List.length_map]at b;lia
 have esz:es.size=kvs.length:=by
  have a:=congrArg List.length l1;rw[List.length_map,List.length_map]at a;rw[size_of_entries he];lia
 refine Ano (Asd (es:=es) (ep:=ep) lo) (I.ok.hd hc) ⟨o,ho,hx,hdt⟩ (by rw[esz];exact hz) (vs:=L.map fun p=>Value.ref p.1) (fun acc ha=>?_) hts (fun v hv=>?_) (by rw[List.length_map,len];exact hz) (fun st' h' tk m q' a1 a2 kp hle hq'=>?_)
 ·refine List.ext_getElem? fun i=>?_;rw[Array.getElem?_toList,List.getElem?_map]
  by_cases hi:i<es.size
  ·obtain⟨v,hv⟩ : ∃v,acc[i]?=some v:=⟨acc[i]'(by rw[ha.1];exact hi),by simp[ha.1,hi]⟩
   obtain⟨en,hen,rfl⟩:=ha.2 i v hv;rw[entry_at he]at hen;cases hy:ys[i]? with
   | none=>rw[hy]at hen;cases hen
   | some y =>
    rw[hy]at hen;cases hen;have e3:(L.map (·.1))[i]?=some y.2.1:=by rw[l1,List.getElem?_map,hy];rfl
    rw[List.getElem?_map]at e3;cases hl:L[i]? with
    | none=>rw[hl]at e3;cases e3
    | some p =>
     rw[hl]at e3;rw[hv];show some (Value.ref y.2.1)=some (Value.ref p.1);rw[show p.1=y.2.1 from Option.some.inj e3]
  ·rw[Array.getElem?_eq_none (by rw[ha.1];lia),List.getElem?_eq_none (by lia)];rfl
 ·obtain⟨p,hp,rfl⟩:=List.mem_map.mp hv;exact⟨_,hkey p hp⟩
 ·obtain⟨l,pl,el,pw⟩:=Ase hkey a1 a2;have kl:Agw H l:=fun p hp=>kL p (pl.mem_iff.mp hp);have ll:l.length≤sizeLine:=by rw[pl.length_eq,len];exact hz
  have new:ObjOk X.prog X.w (upd H q' (.lst (l.map fun p=>V.ref p.1))) h' q' (.lst (l.map fun p=>V.ref p.1)):=by
   refine⟨by rw[List.length_map];exact ll,_,m,Ajl l,?_⟩;rw[hq',←el]
  exact⟨.ref q',_,I.laid (t':=tk) kp hle new,rfl,q q' l (I.hok.fresh hle) (by rw[←l2];exact pl.map _) kl pw⟩
end
end L2
end
section
section
set_option maxHeartbeats 2000000
namespace L2
open PySem PySem.Spec PyProof.Rows
open PySem.W (WData Codec OpenSpec Well WellAll ReadsW ReadsAllW)
mutual
inductive Dw (K:W.Frag)(H:Hp):V→WData→Prop
 | non:Dw K H .non .none
 | bl (b:Bool):Dw K H (.bl b) (.bool b)
 | int (i:Int):Dw K H (.int i) (.int i)
 | str (x:Str):Dw K H (.str x) (.str x)
 | byt (b:Array UInt8):Dw K H (.byt b) (.bytes b.toList)
 | lst {a:Addr} {xs:List V} {ds:List WData}:SqL K H a xs→Afc K H xs ds→Dw K H (.ref a) (.list ds)
 | tup {a:Addr} {xs:List V} {ds:List WData}:SqT K H a xs→Afc K H xs ds→Dw K H (.ref a) (.tuple ds)
inductive Afc (K:W.Frag)(H:Hp):List V→List WData→Prop
 | nil:Afc K H [] []
 | cons {v:V} {vs:List V} {d:WData} {ds:List WData}:Dw K H v d→Afc K H vs ds→Afc K H (v::vs) (d::ds)
end
theorem dw_ints {K:W.Frag}{H:Hp}:∀ns:List Int,Afc K H (ns.map V.int) (ns.map WData.int)
 | []=>.nil
 | n::r=>.cons (.int n) (dw_ints r)
theorem ints_dw {K:W.Frag}{H:Hp}:∀(ns:List Int) (xs:List V),Afc K H xs (ns.map WData.int)→xs=ns.map V.int
 | [],xs,h=>by
  cases h;rfl
 | n::r,xs,h=>by
  cases h with
  | cons h1 h2 =>
   cases h1;rw[ints_dw r _ h2]<;>rfl
section
variable {P:Program}{w:World}{K:W.Frag}{H:Hp}{h:Heap}{R:W.WRecords}{cl:Str→Option Addr}
theorem Aye {a:Addr}{xs:List V}(hok:HOk P w H h)(KX:K.In h)(q:SqL K H a xs):∃(its:List Value) (o:Obj) (n:Nat),Vals xs its∧h.get? a=some o∧o.cls=.type "list"∧o.data=.seq its.toArray n:=by
 rcases q with q | ⟨o,its,n,e,hc,_,hd,_,hv⟩
 ·obtain⟨_,its,n,hv,e⟩:=(show ObjOk P w H h a (.lst xs)from q.ok hok)
  exact⟨its,_,n,hv,e,rfl,rfl⟩
 ·exact⟨its.toList,o,n,hv,KX _ _ e,hc,by simp[hd]⟩
theorem Ayd {a:Addr}{xs:List V}(hok:HOk P w H h)(KX:K.In h)(q:SqT K H a xs):∃(its:List Value) (o:Obj) (n:Nat),Vals xs its∧h.get? a=some o∧o.cls=.type "tuple"∧o.data=.seq its.toArray n:=by
 rcases q with q | ⟨o,its,n,e,hc,hd,_,hv⟩
 ·obtain⟨_,its,hv,o,e,hc,n,hd⟩:=(show ObjOk P w H h a (.tup xs)from q.ok hok)
  exact⟨its,o,n,hv,e,hc,hd⟩
 ·exact⟨its.toList,o,n,hv,KX _ _ e,hc,by simp[hd]⟩
mutual
theorem Dw.reads (hok:HOk P w H h)(KX:K.In h):∀(d:WData) (v:V) (u:Value),Dw K H v d→RelV v u→∃as,ReadsW R cl h u d as
 | .none,_,_,x,r=>by
  cases x;cases r;exact⟨_,ReadsW.none⟩
 | .bool b,_,_,x,r=>by
  cases x;cases r;exact⟨_,ReadsW.bool b⟩
 | .int i,_,_,x,r=>by
  cases x;obtain⟨t,rfl⟩:=r;exact⟨_,ReadsW.int i t⟩
 | .str s,_,_,x,r=>by
  cases x;obtain⟨t,rfl⟩:=r;exact⟨_,ReadsW.str s t⟩
 | .bytes b,_,_,x,r=>by
  cases x;obtain⟨t,rfl⟩:=r;exact⟨_,ReadsW.bytes _ t⟩
 | .list ds,_,_,x,r=>by
  cases x with
  | lst hs ha =>
   cases r;obtain⟨its,o,n,rv,ho,hc,hd⟩:=Aye hok KX hs;obtain⟨as,hr⟩:=Dw.readsAll hok KX ds _ its ha rv;exact⟨_,ReadsW.list ho hc hd hr⟩
 | .tuple ds,_,_,x,r=>by
  cases x with
  | tup hs ha =>
   cases r;obtain⟨its,o,n,rv,ho,hc,hd⟩:=Ayd hok KX hs;obtain⟨as,hr⟩:=Dw.readsAll hok KX ds _ its ha rv;exact⟨_,ReadsW.tuple ho hc hd hr⟩
 | .float _,_,_,x,_=>by cases x
 | .dict _,_,_,x,_=>by cases x
 | .bytearray _,_,_,x,_=>by cases x
 | .set _,_,_,x,_=>by cases x
 | .frozenset _,_,_,x,_=>by cases x
 | .obj _ _,_,_,x,_=>by cases x
theorem Dw.readsAll (hok:HOk P w H h)(KX:K.In h):∀(ds:List WData) (vs:List V) (us:List Value),Afc K H vs ds→Vals vs us→∃as,ReadsAllW R cl h us ds as
 | [],_,_,x,r=>by
  cases x;cases r;exact⟨_,ReadsAllW.nil⟩
 | d::ds,_,_,x,r=>by
  cases x with
  | cons h1 h2 =>
   cases r with
   | cons r1 r2 =>
    obtain⟨as,q1⟩:=Dw.reads hok KX d _ _ h1 r1;obtain⟨bs,q2⟩:=Dw.readsAll hok KX ds _ _ h2 r2;exact⟨_,ReadsAllW.cons q1 q2⟩
end
end
mutual
def plW:WData→Bool
 | .none=>true
 | .bool _=>true
 | .int _=>true
 | .str _=>true
 | .bytes _=>true
 | .list xs=>Aor xs
 | .tuple xs=>Aor xs
 | _=>false
def Aor:List WData→Bool
 | []=>true
 | x::r=>plW x&&Aor r
end
theorem Amo {α:Type}{f:α→WData}(h:∀a,plW (f a)=true):∀l:List α,Aor (l.map f)=true
 | []=>rfl
 | x::r=>by
  show(plW (f x)&&Aor (r.map f))=true;rw[h x,Amo h r]<;>rfl
theorem Af1:∀(c:Codec) (a:c.denote),plW (c.enc a)=true
 | .unit,_=>rfl
 | .bool,_=>rfl
 | .int _ _,_=>rfl
 | .nat _ _,_=>rfl
 | .u8,_=>rfl
 | .bytes _ _,_=>rfl
 | .text _ _ _ _,_=>rfl
 | .list _ _ c,a=>Amo (fun x=>Af1 c x) a
 | .pair c d,a=>by
  show(plW (c.enc a.1)&&(plW (d.enc a.2)&&true))=true;rw[Af1 c a.1,Af1 d a.2]<;>rfl
 | .triple c d e,a=>by
  show(plW (c.enc a.1)&&(plW (d.enc a.2.1)&&(plW (e.enc a.2.2)&&true)))=true;rw[Af1 c a.1,Af1 d a.2.1,Af1 e a.2.2]<;>rfl
 | .option c,none=>rfl
 | .option c,some x=>Af1 c x
theorem Ak3:∀(cs:List Codec) (a:Codec.denoteAll cs),Aor (Codec.encAll cs a)=true
 | [],_=>rfl
 | c::cs,a=>by
  show(plW (c.enc a.1)&&Aor (Codec.encAll cs a.2))=true;rw[Af1 c a.1,Ak3 cs a.2]<;>rfl
theorem Aef:∀{xs:List WData} {d:WData},d∈xs→d.weight≤WData.weightAll xs
 | [],d,h=>absurd h (by simp)
 | x::r,d,h=>by
  show d.weight≤x.weight+1+WData.weightAll r;rcases List.mem_cons.mp h with e | m
  ·rw[e];lia
  ·have z:=Aef m;lia
def toV:Value→V
 | .none=>.non
 | .bool b=>.bl b
 | .int i _=>.int i
 | .str x _=>.str x
 | .bytes b _=>.byt b
 | .ref a=>.ref a
 | _=>.non
def OkU (A:List Addr):Value→Prop
 | .none=>True
 | .bool _=>True
 | .int _ _=>True
 | .str _ _=>True
 | .bytes _ _=>True
 | .ref a=>a∈A
 | _=>False
theorem OkU.mono {A B:List Addr}(h:∀a∈A,a∈B):∀{u:Value},OkU A u→OkU B u:=fun {u} x=>by
 cases u with
 | ref a=>exact h a x
 | none=>trivial
 | bool b=>trivial
 | int i t=>trivial
 | str s t=>trivial
 | bytes b t=>trivial
 | _=>exact False.elim x
theorem Asu {A:List Addr}{u:Value}(x:OkU A u):RelV (toV u) u:=by
 cases u with
 | ref a=>rfl
 | none=>rfl
 | bool b=>rfl
 | int i t=>exact⟨t,rfl⟩
 | str s t=>exact⟨t,rfl⟩
 | bytes b t=>exact⟨t,rfl⟩
 | _=>exact False.elim x
theorem Ad8 {A:List Addr}:∀{vs:List Value},(∀u∈vs,OkU A u)→Vals (vs.map toV) vs
 | [],_=>.nil
 | u::r,h=>.cons (Asu (h u (List.mem_cons_self ..))) (Ad8 fun x hx=>h x (List.mem_cons_of_mem _ hx))
def ArgOb (h:Heap)(A:List Addr)(a:Addr):Prop:=∃vs:List Value,vs.length≤sizeLine∧(∀u∈vs,OkU A u)∧
 (h.get? a=some { cls:=.type "list",data:=.seq vs.toArray }∨h.get? a=some { cls:=.type "tuple",data:=.seq vs.toArray })
theorem ArgOb.mono {h:Heap}{A B:List Addr}{a:Addr}(k:∀a∈A,a∈B)(x:ArgOb h A a):ArgOb h B a:=by
 obtain⟨vs,h1,h2,h3⟩:=x;exact⟨vs,h1,fun u hu=>(h2 u hu).mono k,h3⟩
theorem Acj {P:Params}{h:Heap}:∀{vs:List Value} {ds:List WData},WellAll P h vs ds→vs.length=ds.length
 | _,_,.nil=>rfl
 | _,_,.cons _ b=>by
  show _+1=_+1;rw[Acj b]
theorem Ajj {P:Params}{h:Heap}{v:Value}{ds:List WData}(x:Well P h v (.list ds)):∃(a:Addr) (vs:List Value),v=.ref a∧h.get? a=some { cls:=.type "list",data:=.seq vs.toArray }∧WellAll P h vs ds:=by
 cases x with
 | list ho hall=>exact⟨_,_,rfl,ho,hall⟩
theorem Ahf {P:Params}{h:Heap}{v:Value}{ds:List WData}(x:Well P h v (.tuple ds)):∃(a:Addr) (vs:List Value),v=.ref a∧h.get? a=some { cls:=.type "tuple",data:=.seq vs.toArray }∧WellAll P h vs ds:=by
 cases x with
 | tuple ho hall=>exact⟨_,_,rfl,ho,hall⟩
theorem Ajk {P:Params}{h:Heap}{us:List Value}{d:WData}{ds:List WData}(x:WellAll P h us (d::ds)):∃(v:Value) (vs:List Value),us=v::vs∧Well P h v d∧WellAll P h vs ds:=by
 cases x with
 | cons a b=>exact⟨_,_,rfl,a,b⟩
theorem Aqu {n:Nat}(h:n≤1048576):n≤sizeLine:=Nat.le_trans h (by decide)
section
variable {P:Params}{h:Heap}
mutual
theorem Auj:∀(d:WData) (v:Value),Well P h v d→plW d=true→d.weight≤1048576→∃A:List Addr,OkU A v∧∀a∈A,ArgOb h A a
 | .none,_,x,_,_=>by
  cases x;exact⟨[],trivial,fun a m=>absurd m (by simp)⟩
 | .bool b,_,x,_,_=>by
  cases x;exact⟨[],trivial,fun a m=>absurd m (by simp)⟩
 | .int i,_,x,_,_=>by
  cases x;exact⟨[],trivial,fun a m=>absurd m (by simp)⟩
 | .str s,_,x,_,_=>by
  cases x;exact⟨[],trivial,fun a m=>absurd m (by simp)⟩
 | .bytes b,_,x,_,_=>by
  cases x;exact⟨[],trivial,fun a m=>absurd m (by simp)⟩
 | .list ds,_,x,p,z=>by
  obtain⟨a,vs,rfl,ho,hall⟩:=Ajj x;have z2:WData.weightAll ds≤1048576:=z;obtain⟨A,h1,h2⟩:=Afn ds _ hall p fun d hd=>Nat.le_trans (Aef hd) z2;have k:∀b∈A,b∈a::A:=fun b hb=>List.mem_cons_of_mem _ hb;refine⟨a::A,List.mem_cons_self ..,fun b hb=>?_⟩;rcases List.mem_cons.mp hb with e | m
  ·rw[e];exact⟨vs,Aqu (by rw[Acj hall];exact Nat.le_trans (W.length_le_weightAllW ds) z2),fun u hu=>(h1 u hu).mono k,.inl ho⟩
  ·exact(h2 b m).mono k
 | .tuple ds,_,x,p,z=>by
  obtain⟨a,vs,rfl,ho,hall⟩:=Ahf x;have z2:WData.weightAll ds≤1048576:=z;obtain⟨A,h1,h2⟩:=Afn ds _ hall p fun d hd=>Nat.le_trans (Aef hd) z2;have k:∀b∈A,b∈a::A:=fun b hb=>List.mem_cons_of_mem _ hb;refine⟨a::A,List.mem_cons_self ..,fun b hb=>?_⟩;rcases List.mem_cons.mp hb with e | m
  ·rw[e];exact⟨vs,Aqu (by rw[Acj hall];exact Nat.le_trans (W.length_le_weightAllW ds) z2),fun u hu=>(h1 u hu).mono k,.inr ho⟩
  ·exact(h2 b m).mono k
 | .float _,_,_,p,_=>Bool.noConfusion (show false=true from p)
 | .dict _,_,_,p,_=>Bool.noConfusion (show false=true from p)
 | .bytearray _,_,_,p,_=>Bool.noConfusion (show false=true from p)
 | .set _,_,_,p,_=>Bool.noConfusion (show false=true from p)
 | .frozenset _,_,_,p,_=>Bool.noConfusion (show false=true from p)
 | .obj _ _,_,_,p,_=>Bool.noConfusion (show false=true from p)
theorem Afn:∀(ds:List WData) (vs:List Value),WellAll P h vs ds→Aor ds=true→(∀d∈ds,d.weight≤1048576)→∃A:List Addr,(∀u∈vs,OkU A u)∧∀a∈A,ArgOb h A a
 | [],_,x,_,_=>by
  cases x;exact⟨[],fun u m=>absurd m (by simp),fun a m=>absurd m (by simp)⟩
 | d::ds,_,x,p,z=>by
  obtain⟨v,vs,rfl,x1,x2⟩:=Ajk x;have q:plW d=true∧Aor ds=true:=Bool.and_eq_true_iff.mp p;obtain⟨A,a1,a2⟩:=Auj d v x1 q.1 (z d (List.mem_cons_self ..));obtain⟨B,b1,b2⟩:=Afn ds vs x2 q.2 fun e he=>z e (List.mem_cons_of_mem _ he);have kA:∀b∈A,b∈A++B:=fun b hb=>List.mem_append.mpr (.inl hb);have kB:∀b∈B,b∈A++B:=fun b hb=>List.mem_append.mpr (.inr hb);refine⟨A++B,fun u hu=>?_,fun b hb=>?_⟩
  ·rcases List.mem_cons.mp hu with e | m
   ·rw[e];exact a1.mono kA
   ·exact(b1 u m).mono kB
  ·rcases List.mem_append.mp hb with m | m
   ·exact(a2 b m).mono kA
   ·exact(b2 b m).mono kB
end
end
def Bad (o:Obj):Option HO:=match o.data with
 | .seq vs _=>if (o.cls==Value.type "list")=true then some (.frz o (.lst (vs.toList.map toV)))else some (.frz o (.tup (vs.toList.map toV)))
 | _=>none
def Ajf (K:W.Frag)(h:Heap)(A:List Addr):Hp:=fun b=>if b∈A then(if (K.lookup b).isNone=true then(h.get? b).bind Bad else none)else none
def As1 (H:Hp):Prop:=∀b,H b=none∨∃o u,H b=some (.frz o u)
theorem An2 (vs:List Value):Bad { cls:=.type "list",data:=.seq vs.toArray }=some (.frz { cls:=.type "list",data:=.seq vs.toArray } (.lst (vs.map toV))):=by
 show(if (Value.type "list" == Value.type "list")=true then some (HO.frz { cls:=.type "list",data:=.seq vs.toArray } (.lst (vs.toArray.toList.map toV)))else some (HO.frz { cls:=.type "list",data:=.seq vs.toArray } (.tup (vs.toArray.toList.map toV))))=_;rw[if_pos (beq_self_eq_true _)]
theorem An1 (vs:List Value):Bad { cls:=.type "tuple",data:=.seq vs.toArray }=some (.frz { cls:=.type "tuple",data:=.seq vs.toArray } (.tup (vs.map toV))):=by
 show(if (Value.type "tuple" == Value.type "list")=true then some (HO.frz { cls:=.type "tuple",data:=.seq vs.toArray } (.lst (vs.toArray.toList.map toV)))else some (HO.frz { cls:=.type "tuple",data:=.seq vs.toArray } (.tup (vs.toArray.toList.map toV))))=_;rw[if_neg (by decide)]
section
variable {P:Program}{w:World}{K:W.Frag}{h:Heap}{A:List Addr}
theorem Aje {b:Addr}{o:Obj}(hb:b∈A)(hk:K.lookup b=none)(e:h.get? b=some o):Ajf K h A b=Bad o:=by
 unfold Ajf;rw[if_pos hb,hk,if_pos (show(none:Option Obj).isNone=true from rfl),e]<;>rfl
theorem Awz {b:Addr}{u:HO}(q:Ajf K h A b=some u):b∈A∧K.lookup b=none:=by
 unfold Ajf at q
 by_cases hb:b∈A
 ·rw[if_pos hb]at q;cases hk:K.lookup b with
  | none=>exact⟨hb,rfl⟩
  | some o =>
   rw[hk,if_neg (by simp)]at q;cases q
 ·rw[if_neg hb]at q;cases q
theorem Ajd (ar:∀a∈A,ArgOb h A a){b:Addr}{u:HO}(q:Ajf K h A b=some u):K.lookup b=none∧∃vs:List Value,vs.length≤sizeLine∧(∀u∈vs,OkU A u)∧
 ((h.get? b=some { cls:=.type "list",data:=.seq vs.toArray }∧u=.frz { cls:=.type "list",data:=.seq vs.toArray } (.lst (vs.map toV)))∨
  (h.get? b=some { cls:=.type "tuple",data:=.seq vs.toArray }∧u=.frz { cls:=.type "tuple",data:=.seq vs.toArray } (.tup (vs.map toV)))):=by
 obtain⟨hb,hk⟩:=Awz q;obtain⟨vs,h1,h2,h3⟩:=ar b hb;refine⟨hk,vs,h1,h2,?_⟩;rcases h3 with e | e
 ·rw[Aje hb hk e,An2]at q;exact .inl ⟨e,(Option.some.inj q).symm⟩
 ·rw[Aje hb hk e,An1]at q;exact .inr ⟨e,(Option.some.inj q).symm⟩
theorem As0 (ar:∀a∈A,ArgOb h A a):As1 (Ajf K h A):=fun b=>by
 cases q:Ajf K h A b with
 | none=>exact .inl rfl
 | some u =>
  obtain⟨_,vs,_,_,⟨_,e⟩ | ⟨_,e⟩⟩:=Ajd ar q
  ·exact .inr ⟨_,_,by rw[e]⟩
  ·exact .inr ⟨_,_,by rw[e]⟩
theorem Axk (ar:∀a∈A,ArgOb h A a):HOk P w (Ajf K h A) h:=fun b u q=>by
 obtain⟨_,vs,h1,h2,⟨e,rfl⟩ | ⟨e,rfl⟩⟩:=Ajd ar q
 ·exact⟨e,by rw[List.length_map];exact h1,vs,_,Ad8 h2,e⟩
 ·exact⟨e,by rw[List.length_map];exact h1,vs,Ad8 h2,_,e,rfl,_,rfl⟩
theorem Aij {c c':Value}{vs us:List Value}(e:(some { cls:=c,data:=.seq vs.toArray }:Option Obj)=some { cls:=c',data:=.seq us.toArray }):c=c'∧vs=us:=by
 have e1:=Option.some.inj e;have e2:c=c':=congrArg Obj.cls e1;have e3:Data.seq vs.toArray=Data.seq us.toArray:=congrArg Obj.data e1;injection e3 with e4
 refine⟨e2,?_⟩;have e5:=congrArg Array.toList e4;simpa using e5
theorem Bct (KX:K.In h)(ar:∀a∈A,ArgOb h A a){a:Addr}{vs:List Value}(ha:a∈A)(e:h.get? a=some { cls:=.type "list",data:=.seq vs.toArray }):(∀u∈vs,OkU A u)∧SqL K (Ajf K h A) a (vs.map toV):=by
 obtain⟨us,h1,h2,h3⟩:=ar a ha;have hu:us=vs:=by
  rcases h3 with q | q
  ·rw[e]at q;exact(Aij q).2.symm
  ·rw[e]at q;exact absurd (Value.type.inj (Aij q).1) (by decide)
 subst hu;refine⟨h2,?_⟩;cases hk:K.lookup a with
 | none=>exact .inl (.inr ⟨_,by rw[Aje ha hk e,An2]⟩)
 | some o =>
  have e2:=KX a o hk;rw[e]at e2;obtain rfl:=Option.some.inj e2;exact .inr ⟨_,us.toArray,_,hk,rfl,rfl,rfl,by rw[List.size_toArray];exact h1,by simpa using Ad8 h2⟩
theorem Bcs (KX:K.In h)(ar:∀a∈A,ArgOb h A a){a:Addr}{vs:List Value}(ha:a∈A)(e:h.get? a=some { cls:=.type "tuple",data:=.seq vs.toArray }):(∀u∈vs,OkU A u)∧SqT K (Ajf K h A) a (vs.map toV):=by
 obtain⟨us,h1,h2,h3⟩:=ar a ha;have hu:us=vs:=by
  rcases h3 with q | q
  ·rw[e]at q;exact absurd (Value.type.inj (Aij q).1) (by decide)
  ·rw[e]at q;exact(Aij q).2.symm
 subst hu;refine⟨h2,?_⟩;cases hk:K.lookup a with
 | none=>exact .inl (.inr ⟨_,by rw[Aje ha hk e,An1]⟩)
 | some o =>
  have e2:=KX a o hk;rw[e]at e2;obtain rfl:=Option.some.inj e2;exact .inr ⟨_,us.toArray,_,hk,rfl,rfl,by rw[List.size_toArray];exact h1,by simpa using Ad8 h2⟩
mutual
theorem Azt {Pm:Params}(KX:K.In h)(ar:∀a∈A,ArgOb h A a):∀(d:WData) (v:Value),Well Pm h v d→plW d=true→OkU A v→Dw K (Ajf K h A) (toV v) d
 | .none,_,x,_,_=>by
  cases x;exact .non
 | .bool b,_,x,_,_=>by
  cases x;exact .bl b
 | .int i,_,x,_,_=>by
  cases x;exact .int i
 | .str s,_,x,_,_=>by
  cases x;exact .str s
 | .bytes b,_,x,_,_=>by
  cases x;have z:=Dw.byt (K:=K) (H:=Ajf K h A) b.toArray;exact z
 | .list ds,_,x,p,hu=>by
  obtain⟨a,vs,rfl,ho,hall⟩:=Ajj x;obtain⟨h2,hs⟩:=Bct KX ar hu ho;exact .lst hs (An6 KX ar ds _ hall p h2)
 | .tuple ds,_,x,p,hu=>by
  obtain⟨a,vs,rfl,ho,hall⟩:=Ahf x;obtain⟨h2,hs⟩:=Bcs KX ar hu ho;exact .tup hs (An6 KX ar ds _ hall p h2)
 | .float _,_,_,p,_=>Bool.noConfusion (show false=true from p)
 | .dict _,_,_,p,_=>Bool.noConfusion (show false=true from p)
 | .bytearray _,_,_,p,_=>Bool.noConfusion (show false=true from p)
 | .set _,_,_,p,_=>Bool.noConfusion (show false=true from p)
 | .frozenset _,_,_,p,_=>Bool.noConfusion (show false=true from p)
 | .obj _ _,_,_,p,_=>Bool.noConfusion (show false=true from p)
theorem An6 {Pm:Params}(KX:K.In h)(ar:∀a∈A,ArgOb h A a):∀(ds:List WData) (vs:List Value),WellAll Pm h vs ds→Aor ds=true→(∀u∈vs,OkU A u)→Afc K (Ajf K h A) (vs.map toV) ds
 | [],_,x,_,_=>by
  cases x;exact .nil
 | d::ds,_,x,p,hu=>by
  obtain⟨v,vs,rfl,x1,x2⟩:=Ajk x;have q:plW d=true∧Aor ds=true:=Bool.and_eq_true_iff.mp p;exact .cons (Azt KX ar d v x1 q.1 (hu _ (List.mem_cons_self ..))) (An6 KX ar ds vs x2 q.2 fun u m=>hu u (List.mem_cons_of_mem _ m))
end
end
theorem Ap7 {P:Program}{w:World}{K:W.Frag}{mg mb:Str→Option Value}{CX:CXT}{k:Nat}{fa:Addr}{fd:FuncData}{ps:List Str}{sp:Sp}{s₁:Shared}{vals:List Value}{ds:List WData}{R:W.WRecords}{cl:Str→Option Addr}{d0:WData}
 (KX:K.In s₁.heap) (hns:s₁.heap.Ns mainGlobals mg) (hb:s₁.heap.Ns builtinsNs mb) (hbb:∀x:Str,x≠"__name__"→mb x=bootBuiltins x) (hlim:s₁.heap.NoLimit) (hg:s₁.gens = #[])
 (hwl:WellAll w.params s₁.heap vals ds) (hpl:Aor ds=true) (hwt:∀d∈ds,d.weight≤1048576) (hr:Room k callerA)
 (F:∀base:Heap,K.In base→base.Ns mainGlobals mg→FnOk P w K mg base CX k fa fd ps sp) (hbind:∀(s:Shared) (us:List Value),us.length=ps.length→BindsTo s fd ⟨us,[]⟩ (ps.zip us)) (hlen:ds.length=ps.length)
 (hsp:∀(H:Hp) (xs:List V),As1 H→Afc K H xs ds→sp xs H (fun v H'=>Dw K H' v d0) fun _ _ _=>False)
 (hCX:∀H e s',CX [] H s₁ (fun _ _ _=>False) e s'→False) :
 codeAny (model P w) callerA (.call (.ref fa) ⟨vals,[]⟩) (fun r s'=>∃u as,r=.ok (.ret u)∧ReadsW R cl s'.heap u d0 as∧OldK s₁.heap s'.heap∧s'.os=s₁.os∧AllBare s'.gens) s₁:=by
 obtain⟨A,ho,ar⟩:=Afn ds vals hwl hpl hwt;have hO:As1 (Ajf K s₁.heap A):=As0 ar;have hok:HOk P w (Ajf K s₁.heap A) s₁.heap:=Axk ar;have hS:=An6 KX ar ds vals hwl hpl ho;have hV:=Ad8 ho;have hK:∀b u,Ajf K s₁.heap A b=some u→K.lookup b=none:=fun b u q=>(Ajd ar q).1;have noA:∀{b:Addr} {o:Obj} {es:Array DictEntry} {ep:Nat},s₁.heap.get? b=some o→o.data=.dict es ep→Ajf K s₁.heap A b=none:=fun {b o es ep} e d=>by
  cases q:Ajf K s₁.heap A b with
  | none=>rfl
  | some u =>
   obtain⟨_,vs,_,_,⟨e2,_⟩ | ⟨e2,_⟩⟩:=Ajd ar q
   ·rw[e2]at e;cases e;have d':Data.seq vs.toArray _=Data.dict es ep:=d;cases d'
   ·rw[e2]at e;cases e;have d':Data.seq vs.toArray _=Data.dict es ep:=d;cases d'
 generalize Ajf K s₁.heap A=H at hO hok hS hK noA;have base_of:∀{b:Addr} {o:Obj},s₁.heap.get? b=some o→H b=none→(Au0 s₁.heap H).get? b=some o:=fun e n=>Atz e n;have nsK:∀{b:Addr} {m:Str→Option Value},s₁.heap.Ns b m→(Au0 s₁.heap H).Ns b m:=fun {b m} ⟨o,es,ep,e,d,r⟩=>⟨o,es,ep,base_of e (noA e d),d,r⟩
 have nK:∀b o,K.lookup b=some o→H b=none:=fun b o e=>by
  cases q:H b with
  | none=>rfl
  | some u =>
   rw[hK b u q]at e;cases e
 have hKb:K.In (Au0 s₁.heap H):=fun b o e=>base_of (KX b o e) (nK b o e);have hM:Mod K mg (Au0 s₁.heap H):=⟨hKb,nsK hns,⟨mb,nsK hb,hbb⟩,let ⟨mc,h1,h2⟩:=hlim;⟨mc,nsK h1,h2⟩⟩
 have e0:Env0 P w K mg (Au0 s₁.heap H) callerA [] s₁ H:=⟨rfl,hM,fun b o e=>Awy e,Nat.le_of_eq (Ard _ _),trivial,fun b hb=>absurd (show b∈([]:List Addr)from hb) (by simp),hok,.of_eq hg⟩
 have hl:vals.length=ps.length:=by rw[Acj hwl];exact hlen
 refine codeAny_mono ((F _ hKb (nsK hns)).run callerA [] s₁ H ⟨vals,[]⟩ vals (vals.map toV) _ _ hr e0 (hbind s₁ vals hl) hV (hsp H _ hO hS)) fun r s' x=>?_;cases r with
 | error e=>exact(hCX H e s' x).elim
 | ok fl =>
  cases fl with
  | next=>exact False.elim x
  | brk=>exact False.elim x
  | cont=>exact False.elim x
  | ret u =>
   obtain⟨v,H',os,bare,un,hok',r',q⟩:=x;have kept:∀b o,s₁.heap.get? b=some o→s'.heap.get? b=some o:=fun b o e=>by
    cases q2:H b with
    | none=>exact un.keep b o e q2 (by intro z;exact absurd (show b∈([]:List Addr)from z) (by simp)) (by simp)
    | some u2 =>
     rcases hO b with z | ⟨ob,u3,z⟩
     ·rw[q2]at z;cases z
     ·have z2:=un.frzs b ob _ z;obtain⟨e1,_⟩:=hok b _ z;obtain⟨e2,_⟩:=hok' b _ z2;rw[e]at e1;cases e1;exact e2
   have KX':K.In s'.heap:=fun b o e=>kept b o (KX b o e);obtain⟨as,hrd⟩:=Dw.reads (R:=R) (cl:=cl) hok' KX' d0 v u q r';exact⟨u,as,rfl,hrd,OldK.of_keep kept,os,bare⟩
theorem Ah3 {ds:List WData}(h:WData.layableAll ds=true):∀d∈ds,d.weight≤1048576:=fun d hd =>
 (W.layableW_iff.mp (List.all_eq_true.mp h d hd)).2.2
theorem Ai1:∀(cs:List Codec) (a:Codec.denoteAll cs),(Codec.encAll cs a).length=cs.length
 | [],_=>rfl
 | c::cs,a=>by
  show(Codec.encAll cs a.2).length+1=cs.length+1;rw[Ai1 cs a.2]
theorem Aoy {r:OpenSpec}{k:Nat}{q:Program}{loose:List Str}{XP:(Str→Option Value)→Heap→Prop}{YP:World→Heap→Prop}{d:DefRec}{K:Params→W.Frag}{CX:World→CXT}{ps:List Str}{sp:World→Sp}
 (hwell:r.wellSaid=true) (hdf:d.params.defaults=[]) (hlen:r.args.length=ps.length) (hr:Room k callerA)
 (hY:∀(w:World) (h:Heap),YP w h→(K w.params).In h)
 (F:∀(w:World) (mg:Str→Option Value) (fa:Addr) (h:Heap),YP w h→(K w.params).In h→h.Ns mainGlobals mg→mg d.name=some (.ref fa)→
  ∃fd:FuncData,(∀(s:Shared) (us:List Value),us.length=ps.length→BindsTo s fd ⟨us,[]⟩ (ps.zip us))∧
   ∀base:Heap,(K w.params).In base→base.Ns mainGlobals mg→FnOk r.prog w (K w.params) mg base (CX w) k fa fd ps (sp w))
 (hsp:∀(w:World) (H:Hp) (xs:List V) (a:Codec.denoteAll r.args),As1 H→Codec.withinAll r.args a=true→Codec.app r.args r.asked a=true→Afc (K w.params) H xs (Codec.encAll r.args a)→
  sp w xs H (fun v H'=>Dw (K w.params) H' v (r.ret.enc (Codec.app r.args r.f a))) fun _ _ _=>False)
 (hCX:∀(w:World) (H:Hp) (s:Shared) (e:Value) (s':Shared),CX w [] H s (fun _ _ _=>False) e s'→False) :
 W.WalkOS q loose XP YP r d [] (fun f vs=>PySem.call f vs):=by
 intro w s_0 s₁ mg mb G Y fa o pm cd doc dV kV ho hd hcd hD hmg hg args vals as hpre hlay hrd hwl hlo;obtain⟨a,e1,e2⟩:=W.os_pre_some hpre;obtain⟨e3,hwi⟩:=Codec.encAll_of_decAll r.args args a e1;subst e3;have KX:=hY w _ Y;obtain⟨fd,hb,hF⟩:=F w mg fa _ Y KX G.T.g hmg
 refine W.enter_call (codeAny_mono (Ap7 (R:=[]) (cl:=classAt s_0.heap) (d0:=r.ret.enc (Codec.app r.args r.f a)) KX G.T.g G.T.b G.T.builtins G.T.nolimit hg hwl (Ak3 _ _) (Ah3 hlay) hr hF hb (by rw[Ai1];exact hlen)
  (fun H xs hO hS=>hsp w H xs a hO hwi e2 hS) fun H e s'=>hCX w H s₁ e s') fun r' s' hq=>?_)
 obtain⟨u,as',rfl,h1,h2,h3,h4⟩:=hq;exact⟨.inl ⟨u,_,as',rfl,fun _=>rfl,h1,(OpenSpec.post_iff hwell hwi _ _).mpr rfl,fun z=>Bool.noConfusion (show false=true from z)⟩,h2,h3,h4⟩
theorem walk_specK {r:OpenSpec}{k:Nat}{q:Program}{loose:List Str}{XP:(Str→Option Value)→Heap→Prop}{YP:World→Heap→Prop}{d:DefRec}{K:Params→W.Frag}{CX:CXT}{ps:List Str}{sp:W.Frag→Sp}
 (hwell:r.wellSaid=true) (hdf:d.params.defaults=[]) (hlen:r.args.length=ps.length) (hr:Room k callerA)
 (hY:∀(w:World) (h:Heap),YP w h→(K w.params).In h)
 (F:∀(w:World) (mg:Str→Option Value) (fa:Addr) (h:Heap),YP w h→(K w.params).In h→h.Ns mainGlobals mg→mg d.name=some (.ref fa)→
  ∃fd:FuncData,(∀(s:Shared) (us:List Value),us.length=ps.length→BindsTo s fd ⟨us,[]⟩ (ps.zip us))∧
   ∀base:Heap,(K w.params).In base→base.Ns mainGlobals mg→FnOk r.prog w (K w.params) mg base CX k fa fd ps (sp (K w.params)))
 (hsp:∀(K:W.Frag) (H:Hp) (xs:List V) (a:Codec.denoteAll r.args),As1 H→Codec.withinAll r.args a=true→Codec.app r.args r.asked a=true→Afc K H xs (Codec.encAll r.args a)→
  sp K xs H (fun v H'=>Dw K H' v (r.ret.enc (Codec.app r.args r.f a))) fun _ _ _=>False)
 (hCX:∀(H:Hp) (s:Shared) (e:Value) (s':Shared),CX [] H s (fun _ _ _=>False) e s'→False) :
 W.WalkOS q loose XP YP r d [] (fun f vs=>PySem.call f vs) :=
 Aoy (K:=K) (CX:=fun _=>CX) (sp:=fun w=>sp (K w.params)) hwell hdf hlen hr hY F (fun w H xs a h1 h2 h3 h4=>hsp (K w.params) H xs a h1 h2 h3 h4) fun _ H s e s'=>hCX H s e s'
end L2
end
end
section
namespace Pg
def sm:Nat→(Nat→Int)→Int
 | 0,_=>0
 | n+1,f=>sm n f+f n
theorem Aam {n:Nat}{f g:Nat→Int}(h:∀i,i<n→f i=g i):sm n f=sm n g:=by
 induction n with
 | zero=>rfl
 | succ n ih=>simp only[sm];rw[ih (fun i hi=>h i (by lia)),h n (by lia)]
theorem Abb {n:Nat}{f:Nat→Int}(h:∀i,i<n→f i=0):sm n f=0:=by
 induction n with
 | zero=>rfl
 | succ n ih=>simp only[sm];rw[ih (fun i hi=>h i (by lia)),h n (by lia)];rfl
theorem Acd (n:Nat)(f g:Nat→Int):sm n (fun i=>f i+g i)=sm n f+sm n g:=by
 induction n with
 | zero=>rfl
 | succ n ih=>simp only[sm];rw[ih];lia
theorem Ahl (n:Nat)(f g:Nat→Int):sm n (fun i=>f i-g i)=sm n f-sm n g:=by
 induction n with
 | zero=>rfl
 | succ n ih=>simp only[sm];rw[ih];lia
theorem Apr (n:Nat)(k:Int)(f:Nat→Int):sm n (fun i=>k*f i)=k*sm n f:=by
 induction n with
 | zero=>simp[sm]
 | succ n ih=>simp only[sm];rw[ih,Int.mul_add]
theorem Apq (n m:Nat)(f:Nat→Nat→Int):sm n (fun i=>sm m (fun j=>f i j))=sm m (fun j=>sm n (fun i=>f i j)):=by
 induction n with
 | zero=>simp only[sm];exact(Abb (fun _ _=>rfl)).symm
 | succ n ih=>simp only[sm];rw[ih,←Acd]
theorem Af0 {n k:Nat}{f:Nat→Int}(hk:k<n)(h:∀i,i<n→i≠k→f i=0):sm n f=f k:=by
 induction n with
 | zero=>lia
 | succ n ih =>
  simp only[sm]
  by_cases e:k=n
  ·subst e;rw[Abb (fun i hi=>h i (by lia) (by lia))];lia
  ·rw[ih (by lia) (fun i hi hn=>h i (by lia) hn),h n (by lia) (by lia)];lia
noncomputable def nd (P:Prop):Int:=open Classical in if P then 1 else 0
theorem Abv {P:Prop}(h:P):nd P=1:=by unfold nd;rw[if_pos h]
theorem Aai {P:Prop}(h:¬P):nd P=0:=by unfold nd;rw[if_neg h]
theorem Aah {P Q:Prop}(h:P↔Q):nd P=nd Q:=by
 by_cases p:P
 ·rw[Abv p,Abv (h.1 p)]
 ·rw[Aai p,Aai (fun q=>p (h.2 q))]
structure Akx (n:Nat)(adj:Nat→Nat→Prop)(c:Nat→Nat→Int):Prop where
 anti:∀u v,c u v =-c v u
 off:∀u v,¬adj u v→c u v=0
 cons:∀v,v<n→sm n (fun t=>c v t)=0
def fl (n:Nat)(c g:Nat→Nat→Int):Int:=sm n (fun p=>sm n (fun q=>if p<q then c p q*g p q else 0))
theorem Ac7 {n:Nat}{adj:Nat→Nat→Prop}{c g g':Nat→Nat→Int}(hc:∀u v,¬adj u v→c u v=0)
 (h:∀p q,p<n→q<n→p<q→adj p q→g p q=g' p q):fl n c g=fl n c g':=by
 unfold fl;apply Aam;intro p hp;apply Aam;intro q hq
 by_cases pq:p<q
 ·rw[if_pos pq,if_pos pq]
  by_cases a:adj p q
  ·rw[h p q hp hq pq a]
  ·rw[hc p q a];simp
 ·rw[if_neg pq,if_neg pq]
theorem Akj (n:Nat)(c g g':Nat→Nat→Int):fl n c (fun p q=>g p q-g' p q)=fl n c g-fl n c g':=by
 unfold fl;rw[←Ahl];apply Aam;intro p hp;rw[←Ahl];apply Aam;intro q hq
 by_cases pq:p<q
 ·simp only[if_pos pq,Int.mul_sub]
 ·simp only[if_neg pq];rfl
theorem An5 (n:Nat)(c g g':Nat→Nat→Int):fl n c (fun p q=>g p q+g' p q)=fl n c g+fl n c g':=by
 unfold fl;rw[←Acd];apply Aam;intro p hp;rw[←Acd];apply Aam;intro q hq
 by_cases pq:p<q
 ·simp only[if_pos pq,Int.mul_add]
 ·simp only[if_neg pq];rfl
theorem Av8 {n:Nat}{adj:Nat→Nat→Prop}{c:Nat→Nat→Int}(hc:Akx n adj c)(Q:Nat→Int) :
 fl n c (fun p q=>Q q-Q p)=0:=by
 rw[Akj n c (fun _ q=>Q q) (fun p _=>Q p)];have e1:fl n c (fun _ q=>Q q)=sm n (fun p=>sm n (fun q=>if q<p then-(c p q*Q p)else 0)):=by
  unfold fl;rw[Apq];apply Aam;intro q hq;apply Aam;intro p hp
  by_cases pq:p<q
  ·rw[if_pos pq,if_pos pq,hc.anti p q,Int.neg_mul]
  ·rw[if_neg pq,if_neg pq]
 have e2:fl n c (fun p _=>Q p)-fl n c (fun _ q=>Q q)=0:=by
  rw[e1];unfold fl;rw[←Ahl];apply Abb;intro p hp;rw[←Ahl];have:sm n (fun q=>(if p<q then c p q*Q p else 0)-(if q<p then-(c p q*Q p)else 0))=sm n (fun q=>Q p*c p q):=by
   apply Aam;intro q hq;rcases Nat.lt_trichotomy p q with h | h | h
   ·rw[if_pos h,if_neg (by lia),Int.mul_comm];lia
   ·subst h;have:=hc.anti p p;have z:c p p=0:=by lia
    simp[z]
   ·rw[if_neg (by lia),if_pos h,Int.mul_comm];lia
  rw[this,Apr,hc.cons p hp,Int.mul_zero]
 lia
theorem Arl {n:Nat}{adj:Nat→Nat→Prop}{c:Nat→Nat→Int}(hc:Akx n adj c){g g':Nat→Nat→Int}(Q:Nat→Int)
 (h:∀p q,p<n→q<n→p<q→adj p q→g p q-g' p q=Q q-Q p):fl n c g=fl n c g':=by
 have e:=Av8 hc Q;rw[←Ac7 (g:=fun p q=>g p q-g' p q) hc.off h,Akj]at e;lia
theorem Akk {n:Nat}{c:Nat→Nat→Int}{u v:Nat}(hu:u<n)(hv:v<n)(huv:u<v) :
 fl n c (fun p q=>nd (p=u∧q=v))=c u v:=by
 unfold fl;rw[Af0 hu,Af0 hv]
 ·show(if u<v then c u v*nd (u=u∧v=v)else 0)=c u v;rw[if_pos huv,Abv ⟨rfl,rfl⟩,Int.mul_one]
 ·intro q hq hn;show(if u<q then c u q*nd (u=u∧q=v)else 0)=0;rw[Aai (fun h=>hn h.2)];simp
 ·intro p hp hn;apply Abb;intro q hq;show(if p<q then c p q*nd (p=u∧q=v)else 0)=0;rw[Aai (fun h=>hn h.1)];simp
def T (X Y:Nat→Int)(p q r:Nat):Int:=(X q-X p)*(Y r-Y q)-(Y q-Y p)*(X r-X q)
structure Draw (n:Nat)(X Y:Nat→Int)(adj:Nat→Nat→Prop):Prop where
 mono:∀i j,i<j→j<n→Y i<Y j
 sym:∀u v,adj u v→adj v u
 ne:∀u v,adj u v→u≠v
 lt:∀u v,adj u v→u<n
 free:∀u v w,adj u v→u<w→w<v→T X Y u v w≠0
 cross:∀u v p q,adj u v→adj p q→u<v→p<q→T X Y u v p*T X Y u v q<0→T X Y p q u*T X Y p q v<0→False
theorem E1 (X Y:Nat→Int)(u v p q:Nat):T X Y p q u*(Y v-Y u)=T X Y u v q*(Y p-Y u)-T X Y u v p*(Y q-Y u):=by
 unfold T;grind
theorem E2 (X Y:Nat→Int)(u v p q:Nat):T X Y p q v*(Y v-Y u)=T X Y u v q*(Y p-Y v)-T X Y u v p*(Y q-Y v):=by
 unfold T;grind
theorem Axo (X Y:Nat→Int)(u v p:Nat):T X Y v u p =-T X Y u v p:=by
 unfold T;grind
theorem T_1 (X Y:Nat→Int)(u v:Nat):T X Y u v u=0:=by
 unfold T;grind
theorem T_2 (X Y:Nat→Int)(u v:Nat):T X Y u v v=0:=by
 unfold T;grind
theorem Aar {a b:Int}(h:0<a)(k:0<b):0<a*b:=Int.mul_pos h k
theorem Aaz {a b:Int}(h:0<a)(k:b<0):a*b<0:=Int.mul_neg_of_pos_of_neg h k
theorem Aas {a b:Int}(h:a<0)(k:0<b):a*b<0:=Int.mul_neg_of_neg_of_pos h k
theorem Abl {a b:Int}(h:a<0)(k:b<0):0<a*b:=Int.mul_pos_of_neg_of_neg h k
theorem lp {a b:Int}(h:0<a*b)(k:0<b):0<a:=by
 rcases Int.lt_trichotomy a 0 with x | x | x
 ·have:=Aas x k;lia
 ·subst x;simp at h
 ·exact x
theorem ln {a b:Int}(h:a*b<0)(k:0<b):a<0:=by
 rcases Int.lt_trichotomy a 0 with x | x | x
 ·exact x
 ·subst x;simp at h
 ·have:=Aar x k;lia
structure F4 (A B C D p q u v:Int):Prop where
 cr:A*B<0→C*D<0→False
 f1:p<u→u<q→q<v→0<C→0<B→False
 f2:p<u→u<q→q<v→C<0→B<0→False
 f3:u<p→q<v→A<0→0<B→False
 f4:u<p→q<v→0<A→B<0→False
 f5:p<u→v<q→0<C→D<0→False
 f6:p<u→v<q→C<0→0<D→False
 f7:u<p→p<v→v<q→A<0→D<0→False
 f8:u<p→p<v→v<q→0<A→0<D→False
theorem four {A B C D p q u v:Int}(hc:A*B<0→C*D<0→False)(huv:u<v)(hpq:p<q)
 (e1:C*(v-u)=B*(p-u)-A*(q-u)) (e2:D*(v-u)=B*(p-v)-A*(q-v))
 (e3:A*(q-p)=D*(u-p)-C*(v-p)) (e4:B*(q-p)=D*(u-q)-C*(v-q)) :
 (p<u→u<q→q<v→0<C→0<B→False)∧(p<u→u<q→q<v→C<0→B<0→False)∧
 (u<p→q<v→A<0→0<B→False)∧(u<p→q<v→0<A→B<0→False)∧
 (p<u→v<q→0<C→D<0→False)∧(p<u→v<q→C<0→0<D→False)∧
 (u<p→p<v→v<q→A<0→D<0→False)∧(u<p→p<v→v<q→0<A→0<D→False):=by
 refine⟨?_,?_,?_,?_,?_,?_,?_,?_⟩
 ·intro h1 h2 h3 hC hB;have x1:=Aar hC (show 0<v-u by lia);have x2:=Aaz hB (show p-u<0 by lia);have hA:A<0:=ln (b:=q-u) (by lia) (by lia);have hAB:=Aas hA hB;rcases Int.lt_or_le D 0 with d | d
  ·exact hc hAB (Aaz hC d)
  ·have y1:=Aar hB (show 0<q-p by lia);have y2:=Aar hC (show 0<v-q by lia);have y3:D*(u-q)≤0:=Int.mul_nonpos_of_nonneg_of_nonpos d (by lia);lia
 ·intro h1 h2 h3 hC hB;have x1:=Aas hC (show 0<v-u by lia);have x2:=Abl hB (show p-u<0 by lia);have hA:0<A:=lp (b:=q-u) (by lia) (by lia);have hAB:=Aaz hA hB;rcases Int.lt_or_le 0 D with d | d
  ·exact hc hAB (Aas hC d)
  ·have y1:=Aas hB (show 0<q-p by lia);have y2:=Aas hC (show 0<v-q by lia);have y3:0≤D*(u-q):=Int.mul_nonneg_of_nonpos_of_nonpos d (by lia);lia
 ·intro h1 h2 hA hB;have x1:=Aar hB (show 0<p-u by lia);have x2:=Aas hA (show 0<q-u by lia);have hC:0<C:=lp (b:=v-u) (by lia) (by lia);have x3:=Aaz hB (show p-v<0 by lia);have x4:=Abl hA (show q-v<0 by lia);have hD:D<0:=ln (b:=v-u) (by lia) (by lia);exact hc (Aas hA hB) (Aaz hC hD)
 ·intro h1 h2 hA hB;have x1:=Aas hB (show 0<p-u by lia);have x2:=Aar hA (show 0<q-u by lia);have hC:C<0:=ln (b:=v-u) (by lia) (by lia);have x3:=Abl hB (show p-v<0 by lia);have x4:=Aaz hA (show q-v<0 by lia);have hD:0<D:=lp (b:=v-u) (by lia) (by lia);exact hc (Aaz hA hB) (Aas hC hD)
 ·intro h1 h2 hC hD;have x1:=Aas hD (show 0<u-p by lia);have x2:=Aar hC (show 0<v-p by lia);have hA:A<0:=ln (b:=q-p) (by lia) (by lia);have x3:=Abl hD (show u-q<0 by lia);have x4:=Aaz hC (show v-q<0 by lia);have hB:0<B:=lp (b:=q-p) (by lia) (by lia);exact hc (Aas hA hB) (Aaz hC hD)
 ·intro h1 h2 hC hD;have x1:=Aar hD (show 0<u-p by lia);have x2:=Aas hC (show 0<v-p by lia);have hA:0<A:=lp (b:=q-p) (by lia) (by lia);have x3:=Aaz hD (show u-q<0 by lia);have x4:=Abl hC (show v-q<0 by lia);have hB:B<0:=ln (b:=q-p) (by lia) (by lia);exact hc (Aaz hA hB) (Aas hC hD)
 ·intro h1 h2 h3 hA hD;have x1:=Aas hD (show 0<v-u by lia);have x2:=Aas hA (show 0<q-v by lia);have hB:0<B:=by
   have:B*(v-p) =-(B*(p-v)):=by grind
   exact lp (b:=v-p) (by lia) (by lia)
  have hAB:=Aas hA hB;rcases Int.lt_or_le 0 C with c | c
  ·exact hc hAB (Aaz c hD)
  ·have y1:=Aas hA (show 0<q-p by lia);have y2:=Abl hD (show u-p<0 by lia);have y3:C*(v-p)≤0:=Int.mul_nonpos_of_nonpos_of_nonneg c (by lia);lia
 ·intro h1 h2 h3 hA hD;have x1:=Aar hD (show 0<v-u by lia);have x2:=Aar hA (show 0<q-v by lia);have hB:B<0:=by
   have:B*(v-p) =-(B*(p-v)):=by grind
   exact ln (b:=v-p) (by lia) (by lia)
  have hAB:=Aaz hA hB;rcases Int.lt_or_le C 0 with c | c
  ·exact hc hAB (Aas c hD)
  ·have y1:=Aar hA (show 0<q-p by lia);have y2:=Aaz hD (show u-p<0 by lia);have y3:0≤C*(v-p):=Int.mul_nonneg c (by lia);lia
theorem Draw.four {n:Nat}{X Y:Nat→Int}{adj:Nat→Nat→Prop}(d:Draw n X Y adj){u v p q:Nat}(huv:adj u v)(h:u<v)(hpq:adj p q)(k:p<q)(hv:v<n)(hq:q<n) :
 F4 (T X Y u v p) (T X Y u v q) (T X Y p q u) (T X Y p q v) (Y p) (Y q) (Y u) (Y v):=by
 obtain⟨f1,f2,f3,f4,f5,f6,f7,f8⟩:=Pg.four (d.cross u v p q huv hpq h k) (d.mono u v h hv) (d.mono p q k hq) (E1 X Y u v p q) (E2 X Y u v p q) (by have:=E1 X Y p q u v;rw[this]) (by have:=E2 X Y p q u v;rw[this]);exact⟨d.cross u v p q huv hpq h k,f1,f2,f3,f4,f5,f6,f7,f8⟩
def Aoh (X Y:Nat→Int)(u v p q:Nat):Prop:=p≤u∧u<q∧(if p=u then T X Y u v q≤0 else 0<T X Y p q u)
def As7 (X Y:Nat→Int)(u v p q:Nat):Prop:=p<u∧u≤q∧(if q=u then 0<T X Y u v p else 0<T X Y p q u)
noncomputable def ph (n:Nat) (X Y:Nat→Int) (c:Nat→Nat→Int) (u v:Nat):Int :=
 if u<v then fl n c (fun p q=>nd (Aoh X Y u v p q))else fl n c (fun p q=>nd (As7 X Y u v p q))
section
variable {n:Nat}{X Y:Nat→Int}{adj:Nat→Nat→Prop}
theorem Draw.lt2 (d:Draw n X Y adj){u v:Nat}(h:adj u v):v<n:=d.lt v u (d.sym u v h)
theorem Auk (d:Draw n X Y adj){u v p q:Nat}(huv:adj u v)(h:u<v)(hpq:adj p q)(k:p<q) :
 nd (Aoh X Y u v p q)-(nd (As7 X Y v u p q)+nd (p=u∧q=v)) =
  nd (u<q∧q<v∧T X Y u v q<0)-nd (u<p∧p<v∧T X Y u v p<0):=by
 have hu:=d.lt _ _ huv;have hv:=d.lt2 huv;have hp:=d.lt _ _ hpq;have hq:=d.lt2 hpq;have yuv:=d.mono u v h hv;have ypq:=d.mono p q k hq;have ff:=d.four huv h hpq k hv hq
 by_cases euq:p=u∧q=v
 ·obtain⟨e1,e2⟩:=euq;subst e1 e2
  rw[Abv (P:=Aoh X Y p q p q) ⟨Nat.le_refl _,k,by rw[if_pos rfl,T_2];lia⟩,
   Aai (P:=As7 X Y q p p q) (by intro z;have:=z.2.2;rw[if_pos rfl,T_2]at this;lia),Abv ⟨rfl,rfl⟩,Aai (by lia),Aai (by lia)]
  rfl
 rw[Aai euq];unfold Aoh As7;rcases Nat.lt_or_ge u q with uq | uq
 rotate_left
 ·rw[Aai (by lia),Aai (by lia),Aai (by lia),Aai (by lia)];rfl
 rcases Nat.lt_or_ge p v with pv | pv
 rotate_left
 ·rw[Aai (by lia),Aai (by lia),Aai (by lia),Aai (by lia)];rfl
 rcases Nat.lt_or_ge u p with up | up
 ·-- p between
  have fp:=d.free u v p huv up pv;rw[Aai (P:=p≤u∧_) (by lia)];rcases Nat.lt_or_ge q v with qv | qv
  ·have fq:=d.free u v q huv uq qv;rw[Aai (P:=p<v∧_) (by lia)];have yp:=d.mono u p up hp;have yq:=d.mono q v qv hv;rw[Aah (P:=u<q∧q<v∧T X Y u v q<0) (Q:=u<p∧p<v∧T X Y u v p<0)]
   ·lia
   ·constructor
    ·intro z;refine⟨up,pv,?_⟩;rcases Int.lt_trichotomy (T X Y u v p) 0 with s | s | s
     ·exact s
     ·exact absurd s fp
     ·exact(ff.f4 yp yq s z.2.2).elim
    ·intro z;refine⟨uq,qv,?_⟩;rcases Int.lt_trichotomy (T X Y u v q) 0 with s | s | s
     ·exact s
     ·exact absurd s fq
     ·exact(ff.f3 yp yq z.2.2 s).elim
  ·rw[Aai (P:=u<q∧_) (by lia)];rw[Aah (P:=p<v∧v≤q∧_) (Q:=u<p∧p<v∧T X Y u v p<0)]
   ·lia
   ·have yp:=d.mono u p up hp;have yp':=d.mono p v pv hv;rcases Nat.eq_or_lt_of_le qv with e | e
    ·subst e;rw[if_pos rfl,Axo X Y u v p];constructor
     ·intro z;exact⟨up,pv,by lia⟩
     ·intro z;exact⟨pv,Nat.le_refl _,by lia⟩
    ·rw[if_neg (by lia)];have fv:=d.free p q v hpq pv e;have yv:=d.mono v q e hq;constructor
     ·intro z;refine⟨up,pv,?_⟩;rcases Int.lt_trichotomy (T X Y u v p) 0 with s | s | s
      ·exact s
      ·exact absurd s fp
      ·exact(ff.f8 yp yp' yv s z.2.2).elim
     ·intro z;refine⟨pv,qv,?_⟩;rcases Int.lt_trichotomy (T X Y p q v) 0 with s | s | s
      ·exact(ff.f7 yp yp' yv z.2.2 s).elim
      ·exact absurd s fv
      ·exact s
 ·-- p not above u
  rw[Aai (P:=u<p∧_) (by lia)];rcases Nat.lt_or_ge q v with qv | qv
  ·rw[Aai (P:=p<v∧v≤q∧_) (by lia)];have fq:=d.free u v q huv uq qv;rw[Aah (P:=p≤u∧_) (Q:=u<q∧q<v∧T X Y u v q<0)]
   ·lia
   ·rcases Nat.eq_or_lt_of_le up with e | e
    ·subst e;rw[if_pos rfl];constructor
     ·intro z;exact⟨uq,qv,by lia⟩
     ·intro z;exact⟨Nat.le_refl _,uq,by lia⟩
    ·rw[if_neg (by lia)];have fu:=d.free p q u hpq e uq;have y1:=d.mono p u e hu;have y2:=d.mono u q uq hq;have y3:=d.mono q v qv hv;constructor
     ·intro z;refine⟨uq,qv,?_⟩;rcases Int.lt_trichotomy (T X Y u v q) 0 with s | s | s
      ·exact s
      ·exact absurd s fq
      ·exact(ff.f1 y1 y2 y3 z.2.2 s).elim
     ·intro z;refine⟨up,uq,?_⟩;rcases Int.lt_trichotomy (T X Y p q u) 0 with s | s | s
      ·exact(ff.f2 y1 y2 y3 s z.2.2).elim
      ·exact absurd s fu
      ·exact s
  ·rw[Aai (P:=u<q∧q<v∧_) (by lia)];rw[Aah (P:=p≤u∧_) (Q:=p<v∧v≤q∧(if q=v then 0<T X Y v u p else 0<T X Y p q v))]
   ·lia
   ·rcases Nat.eq_or_lt_of_le up with e | e
    ·subst e;rw[if_pos rfl];have e':v<q:=by
      rcases Nat.eq_or_lt_of_le qv with z | z
      ·exact absurd ⟨rfl,z.symm⟩ euq
      ·exact z
     rw[if_neg (by lia)];have fv:=d.free p q v hpq pv e';have i:=E2 X Y p v p q;rw[T_1]at i;have j:T X Y p q v =-T X Y p v q:=by
      have:(T X Y p q v+T X Y p v q)*(Y v-Y p)=0:=by grind
      rcases Int.mul_eq_zero.1 this with z | z<;>lia
     constructor
     ·intro z;exact⟨pv,qv,by lia⟩
     ·intro z;exact⟨Nat.le_refl _,uq,by lia⟩
    ·rw[if_neg (by lia)];have fu:=d.free p q u hpq e uq;have y1:=d.mono p u e hu;rcases Nat.eq_or_lt_of_le qv with e' | e'
     ·subst e';rw[if_pos rfl,Axo X Y u v p];have i:=E1 X Y u v p v;rw[T_2]at i;have j:T X Y p v u =-T X Y u v p:=by
       have:(T X Y p v u+T X Y u v p)*(Y v-Y u)=0:=by grind
       rcases Int.mul_eq_zero.1 this with z | z<;>lia
      constructor
      ·intro z;exact⟨pv,qv,by lia⟩
      ·intro z;exact⟨up,uq,by lia⟩
     ·rw[if_neg (by lia)];have fv:=d.free p q v hpq pv e';have y2:=d.mono v q e' hq;constructor
      ·intro z;refine⟨pv,qv,?_⟩;rcases Int.lt_trichotomy (T X Y p q v) 0 with s | s | s
       ·exact(ff.f5 y1 y2 z.2.2 s).elim
       ·exact absurd s fv
       ·exact s
      ·intro z;refine⟨up,uq,?_⟩;rcases Int.lt_trichotomy (T X Y p q u) 0 with s | s | s
       ·exact(ff.f6 y1 y2 s z.2.2).elim
       ·exact absurd s fu
       ·exact s
theorem Axm (d:Draw n X Y adj){c:Nat→Nat→Int}(hc:Akx n adj c){u v:Nat}(huv:adj u v) :
 ph n X Y c u v=ph n X Y c v u+c u v:=by
 have key:∀u v,adj u v→u<v→ph n X Y c u v=ph n X Y c v u+c u v:=by
  intro u v huv h;unfold ph;rw[if_pos h,if_neg (by lia),←Akk (c:=c) (d.lt _ _ huv) (d.lt2 huv) h,←An5];exact Arl hc (fun w=>nd (u<w∧w<v∧T X Y u v w<0)) (fun p q hp hq k hpq=>Auk d huv h hpq k)
 rcases Nat.lt_trichotomy u v with h | h | h
 ·exact key u v huv h
 ·exact absurd h (d.ne _ _ huv)
 ·have:=key v u (d.sym _ _ huv) h;have:=hc.anti u v;lia
end
def hf (X Y:Nat→Int)(v u x:Nat):Nat :=
 if T X Y v u x<0 then 0 else if 0<T X Y v u x then 2 else if (u<v↔x<v)then 3 else 1
structure Nxt (X Y:Nat→Int)(adj:Nat→Nat→Prop)(v u w:Nat):Prop where
 here:adj v w
 soon:∀x,adj v x→x≠w→hf X Y v u w<hf X Y v u x∨(hf X Y v u w=hf X Y v u x∧T X Y v w x<0)
theorem Ahd (X Y:Nat→Int)(v a b:Nat):T X Y v a b =-T X Y v b a:=by unfold T;grind
theorem tri (X Y:Nat→Int)(v a b c:Nat):T X Y v a b*(Y c-Y v)+T X Y v b c*(Y a-Y v)+T X Y v c a*(Y b-Y v)=0:=by
 unfold T;grind
theorem Aac (X Y:Nat→Int)(v u x:Nat) :
 (hf X Y v u x=0∧T X Y v u x<0)∨(hf X Y v u x=2∧0<T X Y v u x)∨
 (hf X Y v u x=3∧T X Y v u x=0∧(u<v↔x<v))∨(hf X Y v u x=1∧T X Y v u x=0∧¬(u<v↔x<v)):=by
 unfold hf
 by_cases h:T X Y v u x<0
 ·rw[if_pos h];exact .inl ⟨rfl,h⟩
 rw[if_neg h]
 by_cases k:0<T X Y v u x
 ·rw[if_pos k];exact .inr (.inl ⟨rfl,k⟩)
 rw[if_neg k]
 by_cases l:(u<v↔x<v)
 ·rw[if_pos l];exact .inr (.inr (.inl ⟨rfl,by lia,l⟩))
 ·rw[if_neg l];exact .inr (.inr (.inr ⟨rfl,by lia,l⟩))
section
variable {n:Nat}{X Y:Nat→Int}{adj:Nat→Nat→Prop}
theorem Draw.apart (d:Draw n X Y adj){v a b:Nat}(ha:adj v a)(hb:adj v b)(hn:a≠b)(s:a<v↔b<v):T X Y v a b≠0:=by
 have na:=d.ne _ _ ha;have nb:=d.ne _ _ hb;have key:∀a b,adj v a→adj v b→a<b→(a<v↔b<v)→a≠v→b≠v→T X Y v a b≠0:=by
  intro a b ha hb h s na nb;rcases Nat.lt_or_ge v a with x | x
  ·have:=d.free v b a hb x h;have:=Ahd X Y v a b;lia
  ·have f:=d.free a v b (d.sym _ _ ha) h (by lia);have:T X Y v a b =-T X Y a v b:=Axo X Y a v b;lia
 rcases Nat.lt_or_ge a b with h | h
 ·exact key a b ha hb h s (Ne.symm na) (Ne.symm nb)
 ·have:=key b a hb ha (by lia) s.symm (Ne.symm nb) (Ne.symm na);have:=Ahd X Y v a b;lia
theorem Draw.up (d:Draw n X Y adj){v t:Nat}(h:adj v t)(k:v<t):0<Y t-Y v:=by
 have:=d.mono v t k (d.lt2 h);lia
theorem Draw.dn (d:Draw n X Y adj){v t:Nat}(h:adj v t)(k:t<v):Y t-Y v<0:=by
 have:=d.mono t v k (d.lt _ _ h);lia
theorem Axx (d:Draw n X Y adj){c:Nat→Nat→Int}(hc:Akx n adj c){v:Nat}{g g':Nat→Nat→Int}(k:Int)
 (h0:∀p q,p≠v→q≠v→g p q=g' p q)
 (hu:∀t,adj v t→v<t→g v t-g' v t =-k)
 (hd:∀t,adj v t→t<v→g t v-g' t v=k):fl n c g=fl n c g':=by
 apply Arl hc (fun w=>k*nd (w=v));intro p q hp hq pq a
 by_cases e1:p=v
 ·subst e1;rw[hu q a pq,Aai (P:=q=p) (by lia),Abv rfl];lia
 by_cases e2:q=v
 ·subst e2;rw[hd p (d.sym _ _ a) pq,Aai (P:=p=q) (by lia),Abv rfl];lia
 rw[h0 p q e1 e2,Aai e1,Aai e2];lia
theorem Adg {u v p q:Nat}(hp:p≠v)(hq:q≠v):Aoh X Y v u p q↔p<v∧v<q∧0<T X Y p q v:=by
 unfold Aoh;rw[if_neg hp];constructor
 ·intro z;exact⟨by lia,z.2.1,z.2.2⟩
 ·intro z;exact⟨by lia,z.2.1,z.2.2⟩
theorem Adh {u v p q:Nat}(hp:p≠v)(hq:q≠v):As7 X Y v u p q↔p<v∧v<q∧0<T X Y p q v:=by
 unfold As7;rw[if_neg hq];constructor
 ·intro z;exact⟨z.1,by lia,z.2.2⟩
 ·intro z;exact⟨z.1,by lia,z.2.2⟩
theorem Aer {u v t:Nat}(h:v<t):Aoh X Y v u v t↔T X Y v u t≤0:=by
 unfold Aoh;rw[if_pos rfl];exact⟨fun z=>z.2.2,fun z=>⟨Nat.le_refl _,h,z⟩⟩
theorem Aj5 {u v t:Nat}:¬Aoh X Y v u t v:=by
 unfold Aoh;intro z;lia
theorem Aj6 {u v t:Nat}:¬As7 X Y v u v t:=by
 unfold As7;intro z;lia
theorem Aes {u v t:Nat}(h:t<v):As7 X Y v u t v↔0<T X Y v u t:=by
 unfold As7;rw[if_pos rfl];exact⟨fun z=>z.2.2,fun z=>⟨h,Nat.le_refl _,z⟩⟩
theorem Ave (d:Draw n X Y adj){c:Nat→Nat→Int}(hc:Akx n adj c){u v w:Nat}(hu:adj v u)(hw:Nxt X Y adj v u w) :
 ph n X Y c v u-c v u=ph n X Y c v w:=by
 have vn:=d.lt _ _ hu;have un:=d.lt2 hu;have wn:=d.lt2 hw.here;have nu:=d.ne _ _ hu;have nw:=d.ne _ _ hw.here
 by_cases ew:w=u
 ·subst ew;have:c v w=0:=by
   rw[←hc.cons v vn]
   symm
   apply Af0 wn;intro i hi hn;apply hc.off;intro a;have ni:=d.ne _ _ a;have f:=hw.soon i a hn;have ap:=d.apart a hw.here hn;rcases Aac X Y v w w with x | x | x | x
   ·have:=T_2 X Y v w;lia
   ·have:=T_2 X Y v w;lia
   ·rcases Aac X Y v w i with y | y | y | y
    ·lia
    ·lia
    ·exact ap y.2.2.symm (by have:=Ahd X Y v w i;lia)
    ·lia
   ·exact x.2.2 Iff.rfl
  lia
 have hsw:=Ahd X Y v u w;have apw:=d.apart hu hw.here (Ne.symm ew);rcases Nat.lt_or_ge v u with uu | uu
 ·have yu:=d.up hu uu;rcases Nat.lt_or_ge v w with ww | ww
  ·-- both up
   have yw:=d.up hw.here ww;have apw:=apw (by lia);unfold ph;rw[if_pos uu,if_pos ww,←Akk (c:=c) vn un uu,←Akj];rcases Int.lt_trichotomy (T X Y v u w) 0 with s | s | s
   ·apply Axx d hc (v:=v) 0
    ·intro p q hp hq;rw[Aah (Adg hp hq),Aah (Adg (u:=w) hp hq),Aai (P:=p=v∧q=u) (by lia)];lia
    ·intro t a k;have yt:=d.up a k;rw[Aah (Aer k),Aah (Aer (u:=w) k)]
     by_cases e:t=u
     ·subst e;rw[Abv (by rw[T_2];lia),Abv ⟨rfl,rfl⟩,Aai (by lia)];rfl
     ·rw[Aai (P:=v=v∧t=u) (by lia)];have apu:=d.apart hu a (Ne.symm e) (by lia);rw[Aah (P:=T X Y v u t≤0) (Q:=T X Y v w t≤0)]
      ·lia
      ·by_cases e2:t=w
       ·subst e2;constructor
        ·intro _;rw[T_2];lia
        ·intro _;lia
       ·have apt:=d.apart hw.here a (Ne.symm e2) (by lia);constructor
        ·intro z;have f:=hw.soon t a e2;rcases Aac X Y v u t with x | x | x | x
         ·rcases Aac X Y v u w with y | y | y | y<;>lia
         ·lia
         ·lia
         ·lia
        ·intro z;have i:=tri X Y v u w t;have j1:=Aas s yt;have j2:=Aas (show T X Y v w t<0 by lia) yu;have j3:=Ahd X Y v u t;have j4:0<T X Y v t u:=lp (b:=Y w-Y v) (by lia) yw;lia
    ·intro t a k;rw[Aai Aj5,Aai Aj5,Aai (by lia)];rfl
   ·exact absurd s apw
   ·apply Axx d hc (v:=v) 1
    ·intro p q hp hq;rw[Aah (Adg hp hq),Aah (Adg (u:=w) hp hq),Aai (P:=p=v∧q=u) (by lia)];lia
    ·intro t a k;rw[Aah (Aer k),Aah (Aer (u:=w) k)]
     by_cases e:t=u
     ·subst e;rw[Abv (by rw[T_2];lia),Abv ⟨rfl,rfl⟩,Abv (by lia)];rfl
     ·rw[Aai (P:=v=v∧t=u) (by lia)]
      by_cases e2:t=w
      ·subst e2;rw[Aai (by lia),Abv (by rw[T_2];lia)];rfl
      ·have apu:=d.apart hu a (Ne.symm e) (by lia);have f:=hw.soon t a e2;rcases Aac X Y v u t with x | x | x | x
       ·rcases Aac X Y v u w with y | y | y | y<;>lia
       ·rcases Aac X Y v u w with y | y | y | y
        ·lia
        ·rw[Aai (by lia),Abv (by lia)];rfl
        ·lia
        ·lia
       ·lia
       ·lia
    ·intro t a k;exfalso;have yt:=d.dn a k;have f:=hw.soon t a (by lia);rcases Aac X Y v u w with y | y | y | y
     ·lia
     ·rcases Aac X Y v u t with x | x | x | x
      ·lia
      ·have i:=tri X Y v u w t;have j1:=Aaz s yt;have j2:=Aas (show T X Y v w t<0 by lia) yu;have j3:=Ahd X Y v u t;have j4:=Aas (show T X Y v t u<0 by lia) yw;lia
      ·lia
      ·lia
     ·lia
     ·lia
  ·-- u up,w down
   have ww:w<v:=by lia
   have yw:=d.dn hw.here ww;unfold ph;rw[if_pos uu,if_neg (by lia),←Akk (c:=c) vn un uu,←Akj];apply Axx d hc (v:=v) 0
   ·intro p q hp hq;rw[Aah (Adg hp hq),Aah (Adh (u:=w) hp hq),Aai (P:=p=v∧q=u) (by lia)];lia
   ·intro t a k;have yt:=d.up a k;rw[Aah (Aer k),Aai Aj6]
    by_cases e:t=u
    ·subst e;rw[Abv (by rw[T_2];lia),Abv ⟨rfl,rfl⟩];rfl
    ·rw[Aai (P:=v=v∧t=u) (by lia),Aai]
     ·rfl
     ·intro z;have apu:=d.apart hu a (Ne.symm e) (by lia);have f:=hw.soon t a (by lia);have s:T X Y v u t<0:=by lia
      have i:=tri X Y v u w t;have j3:=Ahd X Y v u t;have j4:=Aaz (show 0<T X Y v t u by lia) yw;rcases Aac X Y v u t with x | x | x | x
      ·rcases Aac X Y v u w with y | y | y | y
       ·have j1:=Aas y.2 yt;have j2:=Aas (show T X Y v w t<0 by lia) yu;lia
       all_goals lia
      all_goals lia
   ·intro t a k;have yt:=d.dn a k;rw[Aai Aj5,Aah (Aes k),Aai (by lia),Aai]
    ·rfl
    ·intro z;have e:t≠w:=by intro e;subst e;rw[T_2]at z;lia
     have f:=hw.soon t a e;have i:=tri X Y v u w t;have j3:=Ahd X Y v u t;have j2:=Aar z yu;have j1:0≤T X Y v u w*(Y t-Y v):=by
      apply Int.mul_nonneg_of_nonpos_of_nonpos _ (by lia);rcases Aac X Y v u t with x | x | x | x<;>rcases Aac X Y v u w with y | y | y | y<;>lia
     have j4:0≤T X Y v t u*(Y w-Y v):=by
      apply Int.mul_nonneg_of_nonpos_of_nonpos _ (by lia);rcases Aac X Y v u t with x | x | x | x<;>rcases Aac X Y v u w with y | y | y | y<;>lia
     lia
 ·have uu:u<v:=by lia
  have yu:=d.dn hu uu;have cu:c v u =-fl n c (fun p q=>nd (p=u∧q=v)):=by rw[Akk un vn uu];exact hc.anti v u
  rcases Nat.lt_or_ge v w with ww | ww
  ·-- u down,w up
   have yw:=d.up hw.here ww;unfold ph;rw[cu,if_neg (by lia),if_pos ww,Int.sub_neg,←An5];apply Axx d hc (v:=v) 1
   ·intro p q hp hq;rw[Aah (Adh hp hq),Aah (Adg (u:=w) hp hq),Aai (P:=p=u∧q=v) (by lia)];lia
   ·intro t a k;have yt:=d.up a k;rw[Aah (Aer k),Aai Aj6,Aai (P:=v=u∧_) (by lia),Abv]
    ·rfl
    ·by_cases e:t=w
     ·subst e;rw[T_2];lia
     ·rcases Int.lt_or_le 0 (T X Y v w t)with z | z
      ·exfalso;have f:=hw.soon t a e;have i:=tri X Y v u w t;have j3:=Ahd X Y v u t;have j2:=Aaz z yu;have j1:T X Y v u w*(Y t-Y v)≤0:=by
        apply Int.mul_nonpos_of_nonpos_of_nonneg _ (by lia);rcases Aac X Y v u t with x | x | x | x<;>rcases Aac X Y v u w with y | y | y | y<;>lia
       have j4:T X Y v t u*(Y w-Y v)≤0:=by
        apply Int.mul_nonpos_of_nonpos_of_nonneg _ (by lia);rcases Aac X Y v u t with x | x | x | x<;>rcases Aac X Y v u w with y | y | y | y<;>lia
       lia
      ·exact z
   ·intro t a k;have yt:=d.dn a k;rw[Aai Aj5,Aah (Aes k)]
    by_cases e:t=u
    ·subst e;rw[Aai (by rw[T_2];lia),Abv ⟨rfl,rfl⟩];rfl
    ·rw[Aai (P:=t=u∧_) (by lia),Abv]
     ·rfl
     ·have apu:=d.apart hu a (Ne.symm e) (by lia);rcases Int.lt_trichotomy (T X Y v u t) 0 with s | s | s
      ·exfalso;have f:=hw.soon t a (by lia);have i:=tri X Y v u w t;have j3:=Ahd X Y v u t;have j4:=Aar (show 0<T X Y v t u by lia) yw;rcases Aac X Y v u t with x | x | x | x
       ·rcases Aac X Y v u w with y | y | y | y
        ·have j1:=Abl y.2 yt;have j2:=Abl (show T X Y v w t<0 by lia) yu;lia
        all_goals lia
       all_goals lia
      ·exact absurd s apu
      ·exact s
  ·-- both down
   have ww:w<v:=by lia
   have yw:=d.dn hw.here ww;have apw:=apw (by lia);unfold ph;rw[cu,if_neg (by lia),if_neg (by lia),Int.sub_neg,←An5];rcases Int.lt_trichotomy (T X Y v u w) 0 with s | s | s
   ·apply Axx d hc (v:=v) 0
    ·intro p q hp hq;rw[Aah (Adh hp hq),Aah (Adh (u:=w) hp hq),Aai (P:=p=u∧q=v) (by lia)];lia
    ·intro t a k;rw[Aai Aj6,Aai Aj6,Aai (by lia)];rfl
    ·intro t a k;have yt:=d.dn a k;rw[Aah (Aes k),Aah (Aes (u:=w) k)]
     by_cases e:t=u
     ·subst e;rw[Aai (by rw[T_2];lia),Abv ⟨rfl,rfl⟩,Abv (by lia)];rfl
     ·rw[Aai (P:=t=u∧_) (by lia)];have apu:=d.apart hu a (Ne.symm e) (by lia);rw[Aah (P:=0<T X Y v u t) (Q:=0<T X Y v w t)]
      ·lia
      ·by_cases e2:t=w
       ·subst e2;constructor
        ·intro z;lia
        ·intro z;rw[T_2]at z;lia
       ·have apt:=d.apart hw.here a (Ne.symm e2) (by lia);constructor
        ·intro z;have i:=tri X Y v u w t;have j1:=Abl s yt;have j3:=Ahd X Y v u t;have j2:=Abl (show T X Y v t u<0 by lia) yw;rcases Int.lt_trichotomy (T X Y v w t) 0 with x | x | x
         ·have:=Abl x yu;lia
         ·exact absurd x apt
         ·exact x
        ·intro z;have f:=hw.soon t a e2;rcases Aac X Y v u t with x | x | x | x
         ·rcases Aac X Y v u w with y | y | y | y<;>lia
         ·exact x.2
         ·lia
         ·lia
   ·exact absurd s apw
   ·apply Axx d hc (v:=v) 1
    ·intro p q hp hq;rw[Aah (Adh hp hq),Aah (Adh (u:=w) hp hq),Aai (P:=p=u∧q=v) (by lia)];lia
    ·intro t a k;exfalso;have yt:=d.up a k;have f:=hw.soon t a (by lia);rcases Aac X Y v u w with y | y | y | y
     ·lia
     ·rcases Aac X Y v u t with x | x | x | x
      ·lia
      ·have i:=tri X Y v u w t;have j1:=Aar s yt;have j2:=Abl (show T X Y v w t<0 by lia) yu;have j3:=Ahd X Y v u t;have j4:=Abl (show T X Y v t u<0 by lia) yw;lia
      ·lia
      ·lia
     ·lia
     ·lia
    ·intro t a k;rw[Aah (Aes k),Aah (Aes (u:=w) k)]
     by_cases e:t=u
     ·subst e;rw[Aai (by rw[T_2];lia),Abv ⟨rfl,rfl⟩,Aai (by lia)];rfl
     ·rw[Aai (P:=t=u∧_) (by lia)]
      by_cases e2:t=w
      ·subst e2;rw[Abv s,Aai (by rw[T_2];lia)];rfl
      ·have apu:=d.apart hu a (Ne.symm e) (by lia);have f:=hw.soon t a e2;rcases Aac X Y v u t with x | x | x | x
       ·rcases Aac X Y v u w with y | y | y | y<;>lia
       ·rcases Aac X Y v u w with y | y | y | y
        ·lia
        ·rw[Abv x.2,Aai (by lia)];rfl
        ·lia
        ·lia
       ·lia
       ·lia
theorem round (d:Draw n X Y adj){c:Nat→Nat→Int}(hc:Akx n adj c){u v w:Nat}(hu:adj u v)(hw:Nxt X Y adj v u w) :
 ph n X Y c u v=ph n X Y c v w:=by
 have a:=Axm d hc hu;have b:=Ave d hc (d.sym _ _ hu) hw;have:=hc.anti u v;lia
end
def Afi (f:Nat→Int):List Nat→Int
 | []=>0
 | x::r=>f x+Afi f r
theorem Aga (f:Nat→Int):∀l m,Afi f (l++m)=Afi f l+Afi f m
 | [],m=>by simp[Afi]
 | x::r,m=>by simp only[List.cons_append,Afi];rw[Aga f r m];lia
theorem Amu (f:Nat→Int)(h:Nat→Nat):∀l,Afi f (l.map h)=Afi (fun x=>f (h x)) l
 | []=>rfl
 | x::r=>by simp only[List.map_cons,Afi];rw[Amu f h r]
theorem Aeo {f g:Nat→Int}:∀{l:List Nat},(∀x,x∈l→f x=g x)→Afi f l=Afi g l
 | [],_=>rfl
 | x::r,h=>by
  simp only[Afi];rw[h x (by simp),Aeo (l:=r) (fun y hy=>h y (by simp[hy]))]
theorem Avw (n:Nat)(f:Nat→Int):∀(l:List Nat),l.Nodup→(∀x,x∈l→x<n)→(∀x,x∉l→f x=0)→sm n f=Afi f l:=by
 intro l
 induction l generalizing f with
 | nil=>intro _ _ h;exact Abb (fun i _=>h i (by simp))
 | cons x r ih =>
  intro nd' lt h
  have e:=ih (fun i=>if i=x then 0 else f i) (List.nodup_cons.1 nd').2 (fun y hy=>lt y (by simp[hy])) (by
   intro y hy
   by_cases e:y=x
   ·simp[e]
   ·simp only[if_neg e];exact h y (by simp[e,hy]))
  have e2:sm n f=sm n (fun i=>if i=x then 0 else f i)+sm n (fun i=>if i=x then f i else 0):=by
   rw[←Acd];apply Aam;intro i hi
   by_cases e:i=x<;>simp[e]
  rw[e2,e,Af0 (k:=x) (lt x (by simp))]
  ·simp only[Afi,if_true];rw[Aeo (g:=f) (l:=r)]
   ·lia
   ·intro y hy
    by_cases e:y=x
    ·subst e;exact absurd hy (List.nodup_cons.1 nd').1
    ·simp[e]
  ·intro i hi hn;simp[hn]
structure Rot (n:Nat)(X Y:Nat→Int)(adj:Nat→Nat→Prop)(nx:Nat→Nat→Nat)(ring:Nat→List Nat):Prop where
 mem:∀v x,v<n→(x∈ring v↔adj v x)
 nod:∀v,v<n→(ring v).Nodup
 rot:∀v,v<n→∃l a,ring v=l++[a]∧(ring v).map (fun t=>nx t v)=a::l
 nxt:∀u v,adj u v→Nxt X Y adj v u (nx u v)
def Cl (adj:Nat→Nat→Prop)(nx:Nat→Nat→Nat)(g:Nat→Nat→Prop):Prop:=∀u v,adj u v→(g u v↔g v (nx u v))
noncomputable def cg (adj:Nat→Nat→Prop) (g:Nat→Nat→Prop) (u v:Nat):Int:=nd (adj u v∧g u v)-nd (adj v u∧g v u)
section
variable {n:Nat}{X Y:Nat→Int}{adj:Nat→Nat→Prop}{nx:Nat→Nat→Nat}{ring:Nat→List Nat}
theorem Rot.sum (r:Rot n X Y adj nx ring){v:Nat}(hv:v<n)(f:Nat→Int):Afi (fun t=>f (nx t v)) (ring v)=Afi f (ring v):=by
 obtain⟨l,a,e1,e2⟩:=r.rot v hv;rw[←Amu f (fun t=>nx t v),e2,e1,Aga];simp only[Afi];lia
theorem Aru (d:Draw n X Y adj)(r:Rot n X Y adj nx ring){g:Nat→Nat→Prop}(hg:Cl adj nx g):Akx n adj (cg adj g) where
 anti:=by intro u v;unfold cg;lia
 off:=by
  intro u v h;unfold cg;rw[Aai (fun z=>h z.1),Aai (fun z=>h (d.sym _ _ z.1))];rfl
 cons:=by
  intro v hv;rw[Avw n _ (ring v) (r.nod v hv) (fun x hx=>d.lt2 ((r.mem v x hv).1 hx))]
  ·have e:Afi (cg adj g v) (ring v)=Afi (fun t=>nd (adj v t∧g v t)) (ring v)-Afi (fun t=>nd (adj t v∧g t v)) (ring v):=by
    have:∀l,Afi (cg adj g v) l=Afi (fun t=>nd (adj v t∧g v t)) l-Afi (fun t=>nd (adj t v∧g t v)) l:=by
     intro l
     induction l with
     | nil=>rfl
     | cons x s ih=>simp only[Afi];rw[ih];unfold cg;lia
    exact this _
   rw[e,←r.sum hv (fun t=>nd (adj v t∧g v t))];rw[Aeo (f:=fun t=>nd (adj v (nx t v)∧g v (nx t v))) (g:=fun t=>nd (adj t v∧g t v))]
   ·lia
   ·intro x hx;have a:=d.sym _ _ ((r.mem v x hv).1 hx);apply Aah;constructor
    ·intro z;exact⟨a,(hg x v a).2 z.2⟩
    ·intro z;exact⟨(r.nxt x v a).here,(hg x v a).1 z.2⟩
  ·intro x hx;have:¬adj v x:=fun z=>hx ((r.mem v x hv).2 z);unfold cg;rw[Aai (fun z=>this z.1),Aai (fun z=>this (d.sym _ _ z.1))];rfl
theorem Asj {A:Type}(f:Nat→A)(nxv:Nat→Nat):∀(l:List Nat) (a b:Nat),(l++[a]).map nxv=b::l→(∀x,x∈l++[a]→f x=f (nxv x))→
 ∀x,x∈l++[a]→f x=f b:=by
 intro l
 induction l with
 | nil =>
  intro a b e h x hx;simp only[List.nil_append,List.map_cons,List.map_nil,List.cons.injEq,and_true]at e;have:x=a:=by simpa using hx
  subst this;rw[←e];exact h x hx
 | cons y l ih =>
  intro a b e h x hx;simp only[List.cons_append,List.map_cons,List.cons.injEq]at e;have hy:f y=f b:=by rw[←e.1];exact h y (by simp)
  rcases List.mem_cons.1 (by simpa using hx:x∈y::(l++[a]))with z | z
  ·subst z;exact hy
  ·rw[ih a y e.2 (fun w hw=>h w (by simp only[List.cons_append,List.mem_cons];exact .inr hw)) x z,hy]
theorem Rot.all {A:Type}(r:Rot n X Y adj nx ring){v:Nat}(hv:v<n)(f:Nat→A)(h:∀x,adj v x→f x=f (nx x v)) :
 ∀x y,adj v x→adj v y→f x=f y:=by
 obtain⟨l,a,e1,e2⟩:=r.rot v hv;rw[e1]at e2;have k:=Asj f (fun t=>nx t v) l a a e2 (fun x hx=>h x ((r.mem v x hv).1 (by rw[e1];exact hx)));intro x y hx hy;rw[k x (by rw[←e1];exact(r.mem v x hv).2 hx),k y (by rw[←e1];exact(r.mem v y hv).2 hy)]
theorem Aul (d:Draw n X Y adj)(r:Rot n X Y adj nx ring)
 (con:∀K:Nat→Prop,K 0→(∀u v,K u→adj u v→K v)→∀v,v<n→K v)
 (f:Nat→Nat→Int) (h1:∀u v,adj u v→f u v=f v (nx u v)) (h2:∀u v,adj u v→f u v=f v u) {a:Nat} (h0:adj 0 a) :
 ∀u v,adj u v→f u v=f 0 a:=by
 have at1:∀v,v<n→∀x y,adj v x→adj v y→f v x=f v y:=by
  intro v hv;apply r.all hv (fun x=>f v x);intro x hx;rw[h2 v x hx];exact h1 x v (d.sym _ _ hx)
 have:=con (fun u=>∀v,adj u v→f u v=f 0 a) (fun v hv=>at1 0 (d.lt _ _ h0) v a hv h0) (by
  intro u v hu a' w hw;have:=hu v a';rw[←this,h2 u v a']
  exact at1 v (d.lt2 a') w u hw (d.sym _ _ a'))
 intro u v a';exact this u (d.lt _ _ a') v a'
theorem Bcn (d:Draw n X Y adj)(r:Rot n X Y adj nx ring)
 (con:∀K:Nat→Prop,K 0→(∀u v,K u→adj u v→K v)→∀v,v<n→K v)
 {a:Nat} (h0:adj 0 a) (hmin:∀t,adj 0 t→t≠a→0<T X Y 0 a t) {g:Nat→Nat→Prop} (hg:Cl adj nx g) :
 ∀u v,adj u v→ph n X Y (cg adj g) u v=nd (g u v)-nd (g a 0):=by
 have hc:=Aru d r hg;have n0:=d.lt _ _ h0;have na:=d.lt2 h0;have a0:0<a:=by have:=d.ne _ _ h0;lia
 have k:=Aul d r con (fun u v=>ph n X Y (cg adj g) u v-nd (g u v))
  (by
   intro u v h;show _-_=_-_
   rw[round d hc h (r.nxt u v h),Aah (hg u v h)])
  (by
   intro u v h;show _-_=_-_;rw[Axm d hc h];have:cg adj g u v=nd (g u v)-nd (g v u):=by
    unfold cg;rw[Aah (show adj u v∧g u v↔g u v from⟨fun z=>z.2,fun z=>⟨h,z⟩⟩),Aah (show adj v u∧g v u↔g v u from⟨fun z=>z.2,fun z=>⟨d.sym _ _ h,z⟩⟩)]
   lia) h0
 have z:ph n X Y (cg adj g) a 0=0:=by
  have e:=Axm d hc h0;have:ph n X Y (cg adj g) 0 a=cg adj g 0 a:=by
   unfold ph;rw[if_pos a0,←Akk (c:=cg adj g) n0 na a0];apply Ac7 hc.off;intro p q hp hq pq ap;apply Aah;unfold Aoh;constructor
   ·intro w;have p0:p=0:=by lia
    subst p0;rw[if_pos rfl]at w;refine⟨rfl,?_⟩;rcases Classical.em (q=a)with e | e
    ·exact e
    ·have:=hmin q ap e;lia
   ·intro w;obtain⟨w1,w2⟩:=w;subst w1 w2;rw[if_pos rfl,T_2];exact⟨Nat.le_refl _,a0,by lia⟩
  lia
 intro u v h;have e1:=k u v h;have e2:=k a 0 (d.sym _ _ h0);lia
def Ba1 (ps c:Nat→Int):Int→List Nat→Prop
 | _,[]=>True
 | b,x::r=>ps x=b+c x∧Ba1 ps c (ps x) r
theorem Aw0 (ps c:Nat→Int)(nxv:Nat→Nat):∀(l:List Nat) (a b:Nat),(l++[a]).map nxv=b::l→(∀x,x∈l++[a]→ps x-c x=ps (nxv x))→
 Ba1 ps c (ps b) (l++[a]):=by
 intro l
 induction l with
 | nil =>
  intro a b e h;simp only[List.nil_append,List.map_cons,List.map_nil,List.cons.injEq,and_true]at e;have:=h a (by simp);rw[e]at this;exact⟨by lia,trivial⟩
 | cons y l ih =>
  intro a b e h;simp only[List.cons_append,List.map_cons,List.cons.injEq]at e;have:=h y (by simp);rw[e.1]at this;exact⟨by lia,ih a y e.2 (fun w hw=>h w (by simp only[List.cons_append,List.mem_cons];exact .inr hw))⟩
theorem Aik {ps c:Nat→Int}{w:Nat}:∀{l:List Nat} {b:Int},Ba1 ps c b l→w∈l→l.Nodup→(∀x,x∈l→x≠w→c x=0)→ps w=b+c w
 | [],_,_,h,_,_=>by simp at h
 | x::r,b,s,h,nd',z=>by
  by_cases e:x=w
  ·subst e;exact s.1
  ·have c0:=z x (by simp) e;have hr:w∈r:=by
    rcases List.mem_cons.1 h with y | y
    ·exact absurd y.symm e
    ·exact y
   have:=Aik s.2 hr (List.nodup_cons.1 nd').2 (fun y hy=>z y (by simp[hy]));have:=s.1;lia
theorem Amf {ps c:Nat→Int}{w1 w2:Nat}(hn:w1≠w2)(c1:c w1=1)(c2:c w2 = -1):∀{l:List Nat} {b:Int},Ba1 ps c b l→w1∈l→w2∈l→l.Nodup→
 (∀x,x∈l→x≠w1→x≠w2→c x=0)→ps w1≠ps w2
 | [],_,_,h,_,_,_=>by simp at h
 | x::r,b,s,h1,h2,nd',z=>by
  have nr:=List.nodup_cons.1 nd'
  by_cases e1:x=w1
  ·subst e1;have hr:w2∈r:=by
    rcases List.mem_cons.1 h2 with y | y
    ·exact absurd y.symm hn
    ·exact y
   have:=Aik s.2 hr nr.2 (fun y hy hz=>z y (by simp[hy]) (by intro e;subst e;exact nr.1 hy) hz);have:=s.1;lia
  by_cases e2:x=w2
  ·subst e2;have hr:w1∈r:=by
    rcases List.mem_cons.1 h1 with y | y
    ·exact absurd y hn
    ·exact y
   have:=Aik s.2 hr nr.2 (fun y hy hz=>z y (by simp[hy]) hz (by intro e;subst e;exact nr.1 hy));have:=s.1;lia
  ·have c0:=z x (by simp) e1 e2;have hr1:w1∈r:=by
    rcases List.mem_cons.1 h1 with y | y
    ·exact absurd y.symm e1
    ·exact y
   have hr2:w2∈r:=by
    rcases List.mem_cons.1 h2 with y | y
    ·exact absurd y.symm e2
    ·exact y
   exact Amf hn c1 c2 s.2 hr1 hr2 nr.2 (fun y hy=>z y (by simp[hy]))
structure Path (n:Nat)(adj:Nat→Nat→Prop)(v s j:Nat)(c:Nat→Nat→Int):Prop where
 anti:∀x y,c x y =-c y x
 off:∀x y,¬adj x y→c x y=0
 shut:∀x,c v x=0
 div:∀x,x<n→sm n (fun t=>c x t)=nd (x=s)-nd (x=j)
noncomputable def one (a b x y:Nat):Int:=nd (x=a∧y=b)-nd (x=b∧y=a)
theorem Ald {a b x:Nat}(ha:a<n)(hb:b<n):sm n (fun t=>one a b x t)=nd (x=a)-nd (x=b):=by
 unfold one;rw[Ahl]
 congr 1
 ·by_cases e:x=a
  ·rw[Af0 (k:=b) hb]
   ·rw[Abv ⟨e,rfl⟩,Abv e]
   ·intro i hi hn;rw[Aai (fun z=>hn z.2)]
  ·rw[Aai e];apply Abb;intro i hi;rw[Aai (fun z=>e z.1)]
 ·by_cases e:x=b
  ·rw[Af0 (k:=a) ha]
   ·rw[Abv ⟨e,rfl⟩,Abv e]
   ·intro i hi hn;rw[Aai (fun z=>hn z.2)]
  ·rw[Aai e];apply Abb;intro i hi;rw[Aai (fun z=>e z.1)]
theorem Aip (a b x y:Nat):one a b x y =-one a b y x:=by
 unfold one;rw[Aah (show x=a∧y=b↔y=b∧x=a from And.comm),Aah (show x=b∧y=a↔y=a∧x=b from And.comm)];lia
theorem Alc (d:Draw n X Y adj){a b:Nat}(h:adj a b)(x y:Nat)(hn:¬adj x y):one a b x y=0:=by
 unfold one;rw[Aai (by intro z;rw[z.1,z.2]at hn;exact hn h),Aai (by intro z;rw[z.1,z.2]at hn;exact hn (d.sym _ _ h))];rfl
theorem Path.start (adj:Nat→Nat→Prop)(v s:Nat):Path n adj v s s (fun _ _=>0) where
 anti:=by intro _ _;rfl
 off:=by intro _ _ _;rfl
 shut:=by intro _;rfl
 div:=by intro x hx;rw[Abb (fun _ _=>rfl)];lia
theorem Path.step (d:Draw n X Y adj){v s j k:Nat}{c:Nat→Nat→Int}(h:Path n adj v s j c)(a:adj j k)(hj:j≠v)(hk:k≠v) :
 Path n adj v s k (fun x y=>c x y+one j k x y) where
 anti:=by intro x y;have:=h.anti x y;have:=Aip j k x y;lia
 off:=by intro x y z;have:=h.off x y z;have:=Alc d a x y z;lia
 shut:=by
  intro x;have:=h.shut x;have:one j k v x=0:=by
   unfold one;rw[Aai (fun z=>hj z.1.symm),Aai (fun z=>hk z.1.symm)];rfl
  lia
 div:=by
  intro x hx;rw[Acd,h.div x hx,Ald (d.lt _ _ a) (d.lt2 a)];lia
def Bbf (n:Nat)(adj:Nat→Nat→Prop)(v:Nat):Prop :=
 ∃s,s<n∧s≠v∧∀K:Nat→Prop,K s→(∀x y,K x→adj x y→y≠v→K y)→∀x,x<n→x≠v→K x
theorem Bcg (d:Draw n X Y adj)(r:Rot n X Y adj nx ring){v:Nat}(hv:v<n)(con2:Bbf n adj v){w1 w2:Nat}(h1:adj v w1)(h2:adj v w2)
 (same:∀c,Akx n adj c→ph n X Y c v w1=ph n X Y c v w2):w1=w2:=by
 rcases Classical.em (w1=w2)with e | hn
 ·exact e
 exfalso;obtain⟨s,sn,sv,con⟩:=con2;have get:∀x,x<n→x≠v→∃c,Path n adj v s x c:=by
  intro x hx hxv
  have:=con (fun x=>x≠v∧∃c,Path n adj v s x c) ⟨sv,_,Path.start adj v s⟩ (by
   intro x y hx a hy;obtain⟨hx,c,hc⟩:=hx
   exact⟨hy,_,hc.step d a hx hy⟩) x hx hxv
  exact this.2
 have nv1:=d.ne _ _ h1;have nv2:=d.ne _ _ h2;obtain⟨c1,p1⟩:=get w1 (d.lt2 h1) (Ne.symm nv1);obtain⟨c2,p2⟩:=get w2 (d.lt2 h2) (Ne.symm nv2)
 let c:Nat→Nat→Int:=fun x y=>one v w1 x y-c1 x y+c2 x y+one w2 v x y
 have hc:Akx n adj c:=by
  refine⟨?_,?_,?_⟩
  ·intro x y;have:=Aip v w1 x y;have:=Aip w2 v x y;have:=p1.anti x y;have:=p2.anti x y;simp only[c];lia
  ·intro x y z;have:=Alc d h1 x y z;have:=Alc d (d.sym _ _ h2) x y z;have:=p1.off x y z;have:=p2.off x y z;simp only[c];lia
  ·intro x hx;simp only[c];rw[Acd,Acd,Ahl,p1.div x hx,p2.div x hx,Ald hv (d.lt2 h1),Ald (d.lt2 h2) hv];lia
 have cv:∀x,c v x=nd (x=w1)-nd (x=w2):=by
  intro x;simp only[c];rw[p1.shut x,p2.shut x];unfold one
  rw[Aah (show v=v∧x=w1↔x=w1 from⟨fun z=>z.2,fun z=>⟨rfl,z⟩⟩),Aai (P:=v=w1∧_) (fun z=>nv1 z.1),
   Aai (P:=v=w2∧_) (fun z=>nv2 z.1),Aah (show v=v∧x=w2↔x=w2 from⟨fun z=>z.2,fun z=>⟨rfl,z⟩⟩)]
  lia
 obtain⟨l,a,e1,e2⟩:=r.rot v hv;have sc:Ba1 (fun x=>ph n X Y c v x) (fun x=>c v x) (ph n X Y c v a) (l++[a]):=by
  rw[e1]at e2;apply Aw0 (fun x=>ph n X Y c v x) (fun x=>c v x) (fun t=>nx t v) l a a e2;intro x hx;have ax:=(r.mem v x hv).1 (by rw[e1];exact hx);exact Ave d hc ax (r.nxt x v (d.sym _ _ ax))
 have nod:=r.nod v hv;have m1:=(r.mem v w1 hv).2 h1;have m2:=(r.mem v w2 hv).2 h2;rw[e1]at nod m1 m2;refine Amf hn ?_ ?_ sc m1 m2 nod ?_ (same c hc)
 ·show c v w1=1;rw[cv,Abv rfl,Aai hn];rfl
 ·show c v w2 = -1;rw[cv,Aai (Ne.symm hn),Abv rfl];rfl
 ·intro x _ y1 y2;show c v x=0;rw[cv,Aai y1,Aai y2];rfl
end
def num (X Y:Nat→Int)(p q:Nat)(m:Int):Int:=X p*(Y q-Y p)+(X q-X p)*(m-Y p)
structure Den (Y:Nat→Int)(adj:Nat→Nat→Prop)(K:Nat→Nat→Int)(M:Int):Prop where
 pos:0<M
 kpos:∀p q,adj p q→p<q→0<K p q
 kmul:∀p q,adj p q→p<q→K p q*(Y q-Y p)=M
def Ps (X Y:Nat→Int)(K:Nat→Nat→Int)(p q:Nat)(m:Int):Int:=num X Y p q m*K p q
theorem S1 (X Y:Nat→Int)(u v p q:Nat)(m:Int):num X Y p q m*(Y v-Y u)-num X Y u v m*(Y q-Y p)=T X Y p q u*(Y v-m)+T X Y p q v*(m-Y u):=by
 unfold num T;grind
theorem S2 (X Y:Nat→Int)(u v p q:Nat)(m:Int):num X Y p q m*(Y v-Y u)-num X Y u v m*(Y q-Y p) =-(T X Y u v p*(Y q-m))-T X Y u v q*(m-Y p):=by
 unfold num T;grind
section
variable {n:Nat}{X Y:Nat→Int}{adj:Nat→Nat→Prop}{K:Nat→Nat→Int}{M:Int}
theorem Bbd (k:Den Y adj K M){u v p q:Nat}(huv:adj u v)(h:u<v)(hpq:adj p q)(g:p<q)(m:Int) :
 Ps X Y K u v m≤Ps X Y K p q m↔0≤num X Y p q m*(Y v-Y u)-num X Y u v m*(Y q-Y p):=by
 have k1:=k.kpos u v huv h;have k2:=k.kpos p q hpq g;have m1:=k.kmul u v huv h;have m2:=k.kmul p q hpq g;have mp:=k.pos;have kk:=Aar k1 k2;unfold Ps;have e:(num X Y p q m*K p q-num X Y u v m*K u v)*M=(num X Y p q m*(Y v-Y u)-num X Y u v m*(Y q-Y p))*(K u v*K p q):=by
  have e1:num X Y p q m*K p q*M=num X Y p q m*K p q*(K u v*(Y v-Y u)):=by rw[m1]
  have e2:num X Y u v m*K u v*M=num X Y u v m*K u v*(K p q*(Y q-Y p)):=by rw[m2]
  rw[Int.sub_mul,e1,e2];grind
 constructor
 ·intro z;have:0≤(num X Y p q m*K p q-num X Y u v m*K u v)*M:=Int.mul_nonneg (by lia) (by lia);rw[e]at this;rcases Int.lt_or_le (num X Y p q m*(Y v-Y u)-num X Y u v m*(Y q-Y p)) 0 with x | x
  ·have:=Aas x kk;lia
  ·exact x
 ·intro z;have:0≤(num X Y p q m*(Y v-Y u)-num X Y u v m*(Y q-Y p))*(K u v*K p q):=Int.mul_nonneg z (by lia);rw[←e]at this;rcases Int.lt_or_le (num X Y p q m*K p q-num X Y u v m*K u v) 0 with x | x
  ·have:=Aas x mp;lia
  ·lia
theorem Draw.mle (d:Draw n X Y adj){i j:Nat}(h:i≤j)(hj:j<n):Y i≤Y j:=by
 rcases Nat.eq_or_lt_of_le h with e | e
 ·rw[e];exact Int.le_refl _
 ·have:=d.mono i j e hj;lia
theorem Draw.lt_of (d:Draw n X Y adj){i j:Nat}(h:Y i<Y j)(hi:i<n):i<j:=by
 rcases Nat.lt_or_ge i j with e | e
 ·exact e
 ·have:=d.mle e hi;lia
set_option maxHeartbeats 1000000 in
theorem Atl (d:Draw n X Y adj)(k:Den Y adj K M){u v p q:Nat}(huv:adj u v)(h:u<v)(hpq:adj p q)(g:p<q){m:Int}
 (m1:Y u<m) (m2:m<Y v) (hm:∀w,w<n→Y w≠m) :
 nd (Aoh X Y u v p q)-nd (Y p<m∧m<Y q∧Ps X Y K u v m≤Ps X Y K p q m) =
  nd (u<q∧Y q<m∧T X Y u v q<0)-nd (u<p∧Y p<m∧T X Y u v p<0):=by
 have hu:=d.lt _ _ huv;have hv:=d.lt2 huv;have hp:=d.lt _ _ hpq;have hq:=d.lt2 hpq;have yuv:=d.mono u v h hv;have ypq:=d.mono p q g hq;have mp:=hm p hp;have mq:=hm q hq
 rw[Aah (P:=Y p<m∧m<Y q∧_) (Q:=Y p<m∧m<Y q∧0≤num X Y p q m*(Y v-Y u)-num X Y u v m*(Y q-Y p))
  (by rw[Bbd k huv h hpq g m])]
 have s1:=S1 X Y u v p q m;have s2:=S2 X Y u v p q m;generalize num X Y p q m*(Y v-Y u)-num X Y u v m*(Y q-Y p)=S at s1 s2 ⊢;have e1:=E1 X Y u v p q;have e3:=E1 X Y p q u v;have ff:=d.four huv h hpq g hv hq;unfold Aoh;rcases Nat.lt_or_ge u q with uq | uq
 rotate_left
 ·have:=d.mle uq hu;rw[Aai (by lia),Aai (by lia),Aai (by lia),Aai (by lia)]
 have yuq:=d.mono u q uq hq;rcases Int.lt_or_le (Y p) m with pm | pm
 rotate_left
 ·have up:u<p:=d.lt_of (by lia) hu;rw[Aai (by lia),Aai (by lia),Aai (by lia),Aai (by lia)]
 have pv:p<v:=d.lt_of (by lia) hp;rcases Nat.lt_or_ge u p with up | up
 ·have fp:=d.free u v p huv up pv;have yup:=d.mono u p up hp;rw[Aai (P:=p≤u∧_) (by lia)];rcases Int.lt_or_le (Y q) m with qm | qm
  ·have qv:q<v:=d.lt_of (by lia) hq;have yqv:=d.mono q v qv hv;have fq:=d.free u v q huv uq qv;rw[Aai (P:=Y p<m∧_) (by lia)];rw[Aah (P:=u<q∧Y q<m∧T X Y u v q<0) (Q:=u<p∧Y p<m∧T X Y u v p<0)]
   ·lia
   ·constructor
    ·intro z;refine⟨up,pm,?_⟩;rcases Int.lt_trichotomy (T X Y u v p) 0 with s | s | s
     ·exact s
     ·exact absurd s fp
     ·exact(ff.f4 yup yqv s z.2.2).elim
    ·intro z;refine⟨uq,qm,?_⟩;rcases Int.lt_trichotomy (T X Y u v q) 0 with s | s | s
     ·exact s
     ·exact absurd s fq
     ·exact(ff.f3 yup yqv z.2.2 s).elim
  ·rw[Aai (P:=u<q∧Y q<m∧_) (by lia)];rw[Aah (P:=Y p<m∧m<Y q∧0≤S) (Q:=u<p∧Y p<m∧T X Y u v p<0)]
   ·constructor
    ·intro z;refine⟨up,pm,?_⟩;rcases Int.lt_trichotomy (T X Y u v p) 0 with s | s | s
     ·exact s
     ·exact absurd s fp
     ·exfalso;have x1:=Aar s (show 0<Y q-m by lia);have hB:T X Y u v q<0:=ln (b:=m-Y p) (by lia) (by lia);have x2:=Aas hB (show 0<Y p-Y u by lia);have x3:=Aar s (show 0<Y q-Y u by lia);have hC:T X Y p q u<0:=ln (b:=Y v-Y u) (by lia) (by lia);have x4:=Aas hC (show 0<Y v-m by lia);have hD:0<T X Y p q v:=lp (b:=m-Y u) (by lia) (by lia);exact ff.cr (Aaz s hB) (Aas hC hD)
    ·intro z;refine⟨pm,by lia,?_⟩;rcases Int.lt_or_le S 0 with s | s
     ·exfalso;have hA:=z.2.2;have x1:=Aas hA (show 0<Y q-m by lia);have hB:0<T X Y u v q:=lp (b:=m-Y p) (by lia) (by lia);have x2:=Aar hB (show 0<Y p-Y u by lia);have x3:=Aas hA (show 0<Y q-Y u by lia);have hC:0<T X Y p q u:=lp (b:=Y v-Y u) (by lia) (by lia);have x4:=Aar hC (show 0<Y v-m by lia);have hD:T X Y p q v<0:=ln (b:=m-Y u) (by lia) (by lia);exact ff.cr (Aas hA hB) (Aaz hC hD)
     ·exact s
 ·rw[Aai (P:=u<p∧_) (by lia)];rcases Int.lt_or_le (Y q) m with qm | qm
  ·have qv:q<v:=d.lt_of (by lia) hq;have yqv:=d.mono q v qv hv;have fq:=d.free u v q huv uq qv;rw[Aai (P:=Y p<m∧m<Y q∧_) (by lia)];rw[Aah (P:=p≤u∧_) (Q:=u<q∧Y q<m∧T X Y u v q<0)]
   ·rcases Nat.eq_or_lt_of_le up with e | e
    ·subst e;rw[if_pos rfl];constructor
     ·intro z;exact⟨uq,qm,by lia⟩
     ·intro z;exact⟨Nat.le_refl _,uq,by lia⟩
    ·rw[if_neg (by lia)];have fu:=d.free p q u hpq e uq;have y1:=d.mono p u e hu;constructor
     ·intro z;refine⟨uq,qm,?_⟩;rcases Int.lt_trichotomy (T X Y u v q) 0 with s | s | s
      ·exact s
      ·exact absurd s fq
      ·exact(ff.f1 y1 yuq yqv z.2.2 s).elim
     ·intro z;refine⟨up,uq,?_⟩;rcases Int.lt_trichotomy (T X Y p q u) 0 with s | s | s
      ·exact(ff.f2 y1 yuq yqv s z.2.2).elim
      ·exact absurd s fu
      ·exact s
  ·rw[Aai (P:=u<q∧Y q<m∧_) (by lia)];rw[Aah (P:=p≤u∧_) (Q:=Y p<m∧m<Y q∧0≤S)]
   ·lia
   ·rcases Nat.eq_or_lt_of_le up with e | e
    ·subst e;rw[if_pos rfl];rw[T_1]at s2;constructor
     ·intro z;refine⟨pm,by lia,?_⟩;have:T X Y p v q*(m-Y p)≤0:=Int.mul_nonpos_of_nonpos_of_nonneg z.2.2 (by lia);lia
     ·intro z;refine⟨Nat.le_refl _,uq,?_⟩;rcases Int.lt_or_le 0 (T X Y p v q)with s | s
      ·have:=Aar s (show 0<m-Y p by lia);lia
      ·exact s
    ·rw[if_neg (by lia)];have fu:=d.free p q u hpq e uq;have y1:=d.mono p u e hu;constructor
     ·intro z;refine⟨pm,by lia,?_⟩;rcases Int.lt_or_le S 0 with s | s
      ·exfalso;have hC:=z.2.2;have x1:=Aar hC (show 0<Y v-m by lia);have hD:T X Y p q v<0:=ln (b:=m-Y u) (by lia) (by lia);have x2:=Aas hD (show 0<Y u-Y p by lia);have x3:=Aar hC (show 0<Y v-Y p by lia);have hA:T X Y u v p<0:=ln (b:=Y q-Y p) (by lia) (by lia);have x4:=Aas hA (show 0<Y q-m by lia);have hB:0<T X Y u v q:=lp (b:=m-Y p) (by lia) (by lia);exact ff.cr (Aas hA hB) (Aaz hC hD)
      ·exact s
     ·intro z;refine⟨up,uq,?_⟩;rcases Int.lt_trichotomy (T X Y p q u) 0 with s | s | s
      ·exfalso;have x1:=Aas s (show 0<Y v-m by lia);have hD:0<T X Y p q v:=lp (b:=m-Y u) (by lia) (by lia);have x2:=Aar hD (show 0<Y u-Y p by lia);have x3:=Aas s (show 0<Y v-Y p by lia);have hA:0<T X Y u v p:=lp (b:=Y q-Y p) (by lia) (by lia);have x4:=Aar hA (show 0<Y q-m by lia);have hB:T X Y u v q<0:=ln (b:=m-Y p) (by lia) (by lia);exact ff.cr (Aaz hA hB) (Aas s hD)
      ·exact absurd s fu
      ·exact s
theorem Ax2 (d:Draw n X Y adj)(k:Den Y adj K M){c:Nat→Nat→Int}(hc:Akx n adj c){u v:Nat}(huv:adj u v)(h:u<v){m:Int}
 (m1:Y u<m) (m2:m<Y v) (hm:∀w,w<n→Y w≠m) :
 fl n c (fun p q=>nd (Y p<m∧m<Y q∧Ps X Y K u v m≤Ps X Y K p q m))=ph n X Y c u v:=by
 unfold ph;rw[if_pos h];exact(Arl hc (fun w=>nd (u<w∧Y w<m∧T X Y u v w<0)) (fun p q hp hq g hpq=>Atl d k huv h hpq g m1 m2 hm)).symm
theorem Atm (P:Nat→Nat→Prop)(f:Nat→Nat→Int)(t:Int)(lo:∀p q,P p q→t<f p q){a b:Nat}(h:P a b) :
 ∃u v,P u v∧∀p q,P p q→f u v≤f p q:=by
 have key:∀k:Nat,∀a b,P a b→(f a b-t).toNat≤k→∃u v,P u v∧∀p q,P p q→f u v≤f p q:=by
  intro k
  induction k with
  | zero=>intro a b h hk;have:=lo a b h;lia
  | succ k ih =>
   intro a b h hk
   by_cases e:∃p q,P p q∧f p q<f a b
   ·obtain⟨p,q,hp,hl⟩:=e;have:=lo p q hp;exact ih p q hp (by lia)
   ·refine⟨a,b,h,?_⟩;intro p q hp;rcases Int.lt_or_le (f p q) (f a b)with x | x
    ·exact absurd ⟨p,q,hp,x⟩ e
    ·exact x
 exact key _ a b h (Nat.le_refl _)
noncomputable def wn (n:Nat) (X Y:Nat→Int) (K:Nat→Nat→Int) (c:Nat→Nat→Int) (m t:Int):Int :=
 fl n c (fun p q=>nd (Y p<m∧m<Y q∧t<Ps X Y K p q m))
theorem Ba3 (d:Draw n X Y adj)(k:Den Y adj K M)(m t:Int)(hm:∀w,w<n→Y w≠m) :
 ((∀p q,adj p q→p<q→Y p<m→m<Y q→¬t<Ps X Y K p q m)∧∀c,Akx n adj c→wn n X Y K c m t=0)∨
 ∃u v,adj u v∧u<v∧Y u<m∧m<Y v∧t<Ps X Y K u v m∧∀c,Akx n adj c→wn n X Y K c m t=ph n X Y c u v:=by
 by_cases e:∃p q,adj p q∧p<q∧Y p<m∧m<Y q∧t<Ps X Y K p q m
 ·right;obtain⟨a,b,h⟩:=e;obtain⟨u,v,h,hl⟩:=Atm (fun p q=>adj p q∧p<q∧Y p<m∧m<Y q∧t<Ps X Y K p q m) (fun p q=>Ps X Y K p q m) t (fun p q z=>z.2.2.2.2) h;refine⟨u,v,h.1,h.2.1,h.2.2.1,h.2.2.2.1,h.2.2.2.2,?_⟩;intro c hc;rw[←Ax2 d k hc h.1 h.2.1 h.2.2.1 h.2.2.2.1 hm];unfold wn;apply Ac7 hc.off;intro p q hp hq pq a;apply Aah;constructor
  ·intro z;exact⟨z.1,z.2.1,hl p q ⟨a,pq,z⟩⟩
  ·intro z;have:=h.2.2.2.2;exact⟨z.1,z.2.1,by lia⟩
 ·left;refine⟨fun p q a g y1 y2 z=>e ⟨p,q,a,g,y1,y2,z⟩,?_⟩;intro c hc;unfold wn;rw[Ac7 (g':=fun _ _=>0) hc.off]
  ·unfold fl;apply Abb;intro p _;apply Abb;intro q _;simp
  ·intro p q hp hq pq a;rw[Aai];intro z;exact e ⟨p,q,a,pq,z⟩
end
theorem Axc (n:Nat)(c:Nat→Nat→Int):fl n c (fun _ _=>0)=0:=by
 unfold fl;apply Abb;intro p _;apply Abb;intro q _;simp
theorem Axd (n:Nat)(c:Nat→Nat→Int)(g:Nat→Nat→Nat→Int):∀R,fl n c (fun p q=>sm R (fun i=>g i p q))=sm R (fun i=>fl n c (g i))
 | 0=>by simp only[sm];exact Axc n c
 | R+1=>by simp only[sm];rw[An5,Axd n c g R]
theorem An4 (n:Nat)(c:Nat→Nat→Int)(k:Int)(g:Nat→Nat→Int):fl n c (fun p q=>k*g p q)=k*fl n c g:=by
 unfold fl;rw[←Apr];apply Aam;intro p _;rw[←Apr];apply Aam;intro q _
 by_cases h:p<q
 ·simp only[if_pos h];rw[←Int.mul_assoc,←Int.mul_assoc,Int.mul_comm k]
 ·simp only[if_neg h];simp
theorem Ajt {n:Nat}{f:Nat→Int}(h:∀i,i<n→0≤f i):0≤sm n f:=by
 induction n with
 | zero=>simp[sm]
 | succ n ih=>have:=ih (fun i hi=>h i (by lia));have:=h n (by lia);simp only[sm];lia
theorem Auy {n:Nat}{f:Nat→Int}(h:∀i,i<n→0≤f i){k:Nat}(hk:k<n)(hp:0<f k):0<sm n f:=by
 induction n with
 | zero=>lia
 | succ n ih =>
  simp only[sm]
  by_cases e:k=n
  ·subst e;have:=Ajt (n:=k) (f:=f) (fun i hi=>h i (by lia));lia
  ·have:=ih (fun i hi=>h i (by lia)) (by lia);have:=h n (by lia);lia
theorem Aux {n:Nat}{f G:Nat→Int}(h:∀i,i<n→f i=G (i+1)-G i):sm n f=G n-G 0:=by
 induction n with
 | zero=>simp[sm]
 | succ n ih=>simp only[sm];rw[ih (fun i hi=>h i (by lia)),h n (by lia)];lia
theorem Bcf (B:Nat)(x:Int)(h0:0≤x)(h1:x≤B):sm B (fun t=>nd ((t:Int)<x))=x:=by
 rw[Aux (G:=fun i=>if (i:Int)≤x then(i:Int)else x)]
 ·try dsimp only
  split<;>split<;>lia
 ·intro i hi
  by_cases e:(i:Int)<x
  ·rw[Abv e];(try dsimp only);rw[if_pos (by lia),if_pos (by lia)];lia
  ·rw[Aai e];try dsimp only
   by_cases e2:(i:Int)=x
   ·rw[if_neg (by lia),if_pos (by lia)];lia
   ·rw[if_neg (by lia),if_neg (by lia)];lia
theorem Bch (R a b:Nat)(A C:Int)(hab:a≤b)(hb:b≤R) :
 sm R (fun i=>if a≤i∧i<b then A+C*(2*(i:Int)+1-2*a)else 0)=((b:Int)-a)*A+C*(((b:Int)-a)*((b:Int)-a)):=by
 rw[Aux (G:=fun i=>if i≤a then 0 else if i<b then((i:Int)-a)*A+C*(((i:Int)-a)*((i:Int)-a)) else((b:Int)-a)*A+C*(((b:Int)-a)*((b:Int)-a)))]
 ·try dsimp only
  rw[if_pos (Nat.zero_le _)]
  by_cases e:R≤a
  ·have:b=a:=by lia
   subst this;rw[if_pos e];simp
  ·rw[if_neg e]
   by_cases e2:R<b
   ·lia
   ·rw[if_neg e2];lia
 ·intro i hi
  try dsimp only
  by_cases h1:a≤i
  ·by_cases h2:i<b
   ·rw[if_pos ⟨h1,h2⟩,if_neg (by lia)];have sq:((i:Int)+1-a)*A+C*(((i:Int)+1-a)*((i:Int)+1-a))=(((i:Int)-a)*A+C*(((i:Int)-a)*((i:Int)-a)))+(A+C*(2*(i:Int)+1-2*a)):=by grind
    have e2:(if i≤a then 0 else if i<b then((i:Int)-a)*A+C*(((i:Int)-a)*((i:Int)-a)) else((b:Int)-a)*A+C*(((b:Int)-a)*((b:Int)-a)))=((i:Int)-a)*A+C*(((i:Int)-a)*((i:Int)-a)):=by
     by_cases e:i≤a
     ·have:i=a:=by lia
      subst this;rw[if_pos e];simp
     ·rw[if_neg e,if_pos h2]
    rw[e2]
    by_cases h3:i+1<b
    ·rw[if_pos h3];rw[show((i+1:Nat):Int)=(i:Int)+1 from by lia,sq];lia
    ·rw[if_neg h3];have:(b:Int)=(i:Int)+1:=by lia
     rw[this,sq];lia
   ·rw[if_neg (by lia),if_neg (by lia),if_neg (by lia)]
    by_cases e:i≤a
    ·have:b=a:=by lia
     subst this;rw[if_pos e];simp
    ·rw[if_neg e,if_neg (by lia)];lia
  ·rw[if_neg (by lia),if_pos (by lia),if_pos (by lia)];rfl
theorem Ai4 (f:Nat→Int):∀n,∃B:Nat,∀i,i<n→f i<B∧- (B:Int)<f i
 | 0=>⟨0,by lia⟩
 | n+1=>by
  obtain⟨B,h⟩:=Ai4 f n;refine⟨B+(f n).natAbs+1,?_⟩;intro i hi
  by_cases e:i=n
  ·subst e;lia
  ·have:=h i (by lia);lia
theorem Azw (f:Nat→Nat→Nat→Int)(n m r:Nat):∃B:Nat,∀i j k,i<n→j<m→k<r→f i j k<B∧- (B:Int)<f i j k:=by
 have h1:∀i j,∃B:Nat,∀k,k<r→f i j k<B∧- (B:Int)<f i j k:=fun i j=>Ai4 (f i j) r;have h2:∀i,∃B:Nat,∀j k,j<m→k<r→f i j k<B∧- (B:Int)<f i j k:=by
  intro i;obtain⟨B,h⟩:=Ai4 (fun j=>((Classical.choose (h1 i j):Nat):Int)) m;refine⟨B,?_⟩;intro j k hj hk;have a:=h j hj;have b:=Classical.choose_spec (h1 i j) k hk;lia
 obtain⟨B,h⟩:=Ai4 (fun i=>((Classical.choose (h2 i):Nat):Int)) n;refine⟨B,?_⟩;intro i j k hi hj hk;have a:=h i hi;have b:=Classical.choose_spec (h2 i) j k hj hk;lia
section
variable {n:Nat}{X Y:Nat→Int}{adj:Nat→Nat→Prop}{K:Nat→Nat→Int}{M:Int}
theorem Bc1 (k:Den Y adj K M){H:Nat→Nat}{R:Nat}{p q:Nat}(hp:Y p=2*(H p:Int))(hq:Y q=2*(H q:Int))(hr:H q≤R)(a:adj p q)(h:p<q)(hh:H p<H q) :
 M*((X p+X q)*(Y q-Y p))=4*sm R (fun i=>nd (Y p<2*(i:Int)+1∧2*(i:Int)+1<Y q)*Ps X Y K p q (2*(i:Int)+1)):=by
 have km:=k.kmul p q a h;rw[Aam (g:=fun i=>if H p≤i∧i<H q then X p*(Y q-Y p)*K p q+(X q-X p)*K p q*(2*(i:Int)+1-2*(H p:Nat))else 0)]
 ·rw[Bch R (H p) (H q) _ _ (by lia) hr,←km,hp,hq];grind
 ·intro i hi
  by_cases e:H p≤i∧i<H q
  ·rw[if_pos e,Abv (by lia)];unfold Ps num;rw[hp];grind
  ·rw[if_neg e,Aai (by lia)];simp
theorem Aom (d:Draw n X Y adj){c:Nat→Nat→Int}(hc:Akx n adj c){m:Int}(hm:∀w,w<n→Y w≠m) :
 fl n c (fun p q=>nd (Y p<m∧m<Y q))=0:=by
 rw[←Av8 hc (fun w=>nd (m<Y w))];apply Ac7 hc.off;intro p q hp hq pq _;have:=d.mono p q pq hq;have:=hm p hp;have:=hm q hq
 by_cases e1:m<Y q
 ·by_cases e2:m<Y p
  ·rw[Aai (by lia),Abv e1,Abv e2];rfl
  ·rw[Abv ⟨by lia,e1⟩,Abv e1,Aai e2];rfl
 ·rw[Aai (by lia),Aai e1,Aai (by lia)];rfl
theorem Anf (d:Draw n X Y adj)(k:Den Y adj K M){H:Nat→Nat}{R:Nat}(hY:∀w,w<n→Y w=2*(H w:Int))(hR:∀w,w<n→H w≤R)
 {c:Nat→Nat→Int} (hc:Akx n adj c):∃B:Nat,
 (∀p q i,p<n→q<n→i<R→Ps X Y K p q (2*(i:Int)+1)<B∧- (B:Int)<Ps X Y K p q (2*(i:Int)+1))∧
 M*fl n c (fun p q=>(X p+X q)*(Y q-Y p))=4*sm R (fun i=>sm (2*B) (fun t=>wn n X Y K c (2*(i:Int)+1) ((t:Int)-B))):=by
 obtain⟨B,hB⟩:=Azw (fun p q i=>Ps X Y K p q (2*(i:Int)+1)) n n R;refine⟨B,hB,?_⟩;have hm:∀i:Nat,∀w,w<n→Y w≠2*(i:Int)+1:=by
  intro i w hw;have:=hY w hw;lia
 rw[←An4];rw[Ac7 (g':=fun p q=>4*sm R (fun i=>nd (Y p<2*(i:Int)+1∧2*(i:Int)+1<Y q)*Ps X Y K p q (2*(i:Int)+1))) hc.off]
 ·rw[An4,Axd n c (fun i p q=>nd (Y p<2*(i:Int)+1∧2*(i:Int)+1<Y q)*Ps X Y K p q (2*(i:Int)+1))]
  congr 1
  apply Aam;intro i hi;have e:fl n c (fun p q=>nd (Y p<2*(i:Int)+1∧2*(i:Int)+1<Y q)*Ps X Y K p q (2*(i:Int)+1)) =
   fl n c (fun p q=>sm (2*B) (fun t=>nd (Y p<2*(i:Int)+1∧2*(i:Int)+1<Y q∧(t:Int)-B<Ps X Y K p q (2*(i:Int)+1)))-(B:Int)*nd (Y p<2*(i:Int)+1∧2*(i:Int)+1<Y q)):=by
   apply Ac7 hc.off;intro p q hp hq pq a;have b:=hB p q i hp hq hi
   (try dsimp only at b)
   by_cases e:Y p<2*(i:Int)+1∧2*(i:Int)+1<Y q
   ·rw[Abv e];have o:=Bcf (2*B) (Ps X Y K p q (2*(i:Int)+1)+B) (by lia) (by lia);rw[Aam (g:=fun t:Nat=>nd ((t:Int)<Ps X Y K p q (2*(i:Int)+1)+B))]
    ·rw[o];lia
    ·intro t _;apply Aah;constructor
     ·intro z;lia
     ·intro z;exact⟨e.1,e.2,by lia⟩
   ·rw[Aai e,Abb]
    ·simp
    ·intro t _;rw[Aai (fun z=>e ⟨z.1,z.2.1⟩)]
  rw[e,Akj,An4,Aom d hc (hm i),Axd n c (fun t p q=>nd (Y p<2*(i:Int)+1∧2*(i:Int)+1<Y q∧(t:Int)-B<Ps X Y K p q (2*(i:Int)+1)))];unfold wn;simp
 ·intro p q hp hq pq a;have:=d.mono p q pq hq;have h1:=hY p hp;have h2:=hY q hq;exact Bc1 k h1 h2 (hR q hq) a pq (by lia)
theorem Aui (d:Draw n X Y adj)(k:Den Y adj K M){H:Nat→Nat}{R:Nat}(hY:∀w,w<n→Y w=2*(H w:Int))(hR:∀w,w<n→H w≤R)
 {c:Nat→Nat→Int} (hc:Akx n adj c) (nn:∀u v,adj u v→u<v→0≤ph n X Y c u v) {u v:Nat} (a:adj u v) (h:u<v) (hp:0<ph n X Y c u v) :
 0<fl n c (fun p q=>(X p+X q)*(Y q-Y p)):=by
 obtain⟨B,hB,e⟩:=Anf d k hY hR hc;have hm:∀i:Nat,∀w,w<n→Y w≠2*(i:Int)+1:=by
  intro i w hw;have:=hY w hw;lia
 have w0:∀(i:Nat) (t:Int),0≤wn n X Y K c (2*(i:Int)+1) t:=by
  intro i t;rcases Ba3 d k (2*(i:Int)+1) t (hm i)with z | z
  ·rw[z.2 c hc];lia
  ·obtain⟨u,v,a,h,_,_,_,z⟩:=z;rw[z c hc];exact nn u v a h
 have hu:=d.lt _ _ a;have hv:=d.lt2 a;have yu:=hY u hu;have yv:=hY v hv;have yuv:=d.mono u v h hv;have rv:=hR v hv;have b:=hB u v (H u) hu hv (by lia);have pos:0<sm R (fun i=>sm (2*B) (fun t=>wn n X Y K c (2*(i:Int)+1) ((t:Int)-B))):=by
  apply Auy (k:=H u)
  ·intro i _;exact Ajt (fun t _=>w0 i _)
  ·lia
  ·apply Auy (k:=(Ps X Y K u v (2*(H u:Int)+1)-1+B).toNat)
   ·intro t _;exact w0 _ _
   ·lia
   ·rw[←Ax2 d k hc a h (m:=2*(H u:Int)+1) (by lia) (by lia) (hm (H u))]at hp;have e2:(((Ps X Y K u v (2*(H u:Int)+1)-1+B).toNat:Nat):Int)-B=Ps X Y K u v (2*(H u:Int)+1)-1:=by lia
    rw[e2];unfold wn;rw[Ac7 (g':=fun p q=>nd (Y p<2*(H u:Int)+1∧2*(H u:Int)+1<Y q∧Ps X Y K u v (2*(H u:Int)+1)≤Ps X Y K p q (2*(H u:Int)+1))) hc.off]
    ·exact hp
    ·intro p q _ _ _ _;apply Aah;constructor
     ·intro z;exact⟨z.1,z.2.1,by lia⟩
     ·intro z;exact⟨z.1,z.2.1,by lia⟩
 have:0<M*fl n c (fun p q=>(X p+X q)*(Y q-Y p)):=by lia
 exact lp (b:=M) (by rw[Int.mul_comm];exact this) k.pos
end
end Pg
end
section
namespace Pg
open Gla
def NN:Nat:=2097152
def hgt (S:Plan)(i:Nat):Nat:=NN*(S.pt i).y+(S.pt i).x
def xx (S:Plan)(i:Nat):Int:=2*((S.pt i).x:Int)
def yy (S:Plan)(i:Nat):Int:=2*(hgt S i:Int)
def adj (S:Plan)(u v:Nat):Prop:=(u,v)∈S.lines∨(v,u)∈S.lines
structure Rules (S:Plan):Prop where
 big:S.w≤1048575
 inx:∀i,i<S.pts.length→(S.pt i).x≤S.w
 iny:∀i,i<S.pts.length→(S.pt i).y≤S.h
 ord:∀i j,i<j→j<S.pts.length→(S.pt i).below (S.pt j)=true
 lin:∀l,l∈S.lines→l.1<l.2∧l.2<S.pts.length
 lnd:S.lines.Nodup
 frame:frameOk S=true
 free:∀l,l∈S.lines→∀k,k<S.pts.length→k≠l.1→k≠l.2→isOn (S.pt l.1) (S.pt l.2) (S.pt k)=false
 cross:∀l m,l∈S.lines→m∈S.lines→l≠m→crosses (S.pt l.1) (S.pt l.2) (S.pt m.1) (S.pt m.2)=false∨crosses (S.pt m.1) (S.pt m.2) (S.pt l.1) (S.pt l.2)=false
 con:∀K:Nat→Prop,K 0→(∀u v,K u→adj S u v→K v)→∀v,v<S.pts.length→K v
 con2:∀v,v<S.pts.length→Bbf S.pts.length (adj S) v
 deg:∀v,v<S.pts.length→2≤(S.near v).length
 four:4≤S.pts.length
 wide:16≤S.w
 high:16≤S.h
theorem Abi (S:Plan)(p q r:Nat):T (xx S) (yy S) p q r=8388608*turn (S.pt p) (S.pt q) (S.pt r):=by
 unfold T xx yy hgt NN turn dx dy;generalize (S.pt p).x=a;generalize (S.pt p).y=b;generalize (S.pt q).x=c;generalize (S.pt q).y=e;generalize (S.pt r).x=f;generalize (S.pt r).y=g;simp only[Int.natCast_add,Int.natCast_mul]
 grind
theorem below_iff (p q:Pt):p.below q=true↔p.y<q.y∨(p.y=q.y∧p.x<q.x):=by
 unfold Pt.below;simp
theorem Any {a b c d:Nat}(h:b<NN)(k:a<c):NN*a+b<NN*c+d:=by
 have:NN*(a+1)≤NN*c:=Nat.mul_le_mul_left _ k;rw[Nat.mul_add]at this;lia
section
variable {S:Plan}
theorem Rules.mono (r:Rules S){i j:Nat}(h:i<j)(hj:j<S.pts.length):hgt S i<hgt S j:=by
 have:=(below_iff _ _).1 (r.ord i j h hj);have xi:=r.inx i (by lia);have:=r.big;unfold hgt;rcases this':this with _
 rcases (below_iff _ _).1 (r.ord i j h hj)with z | z
 ·exact Any (by unfold NN;lia) z
 ·rw[z.1];lia
theorem Rules.adj_lt (r:Rules S){u v:Nat}(h:adj S u v):u<S.pts.length∧v<S.pts.length∧u≠v:=by
 rcases h with h | h
 ·have:=r.lin _ h;simp only[]at this;lia
 ·have:=r.lin _ h;simp only[]at this;lia
theorem Rules.adj_mem (r:Rules S){u v:Nat}(h:adj S u v)(k:u<v):(u,v)∈S.lines:=by
 rcases h with h | h
 ·exact h
 ·have:=r.lin _ h;simp only[]at this;lia
theorem Bav {p q r:Pt}(h1:p.below r=true)(h2:r.below q=true)(h:turn p q r=0):isOn p q r=true:=by
 rw[below_iff]at h1 h2;unfold isOn;rw[h];have hy:p.y≤r.y∧r.y≤q.y:=by lia
 have e:((q.x:Int)-p.x)*((r.y:Int)-p.y)=((q.y:Int)-p.y)*((r.x:Int)-p.x):=by
  unfold turn dx dy at h;grind
 have hx:(min p.x q.x≤r.x∧r.x≤max p.x q.x):=by
  by_cases z:p.y=q.y
  ·lia
  ·have d0:(0:Int)<(q.y:Int)-p.y:=by lia
   have a0:(0:Int)≤(r.y:Int)-p.y:=by lia
   have b0:(0:Int)≤(q.y:Int)-r.y:=by lia
   have e':((q.x:Int)-p.x)*((q.y:Int)-r.y)=((q.y:Int)-p.y)*((q.x:Int)-r.x):=by grind
   rcases Int.le_total (p.x:Int) q.x with s | s
   ·have m1:=Int.mul_nonneg (show(0:Int)≤(q.x:Int)-p.x by lia) a0;have m2:=Int.mul_nonneg (show(0:Int)≤(q.x:Int)-p.x by lia) b0;have k1:(0:Int)≤(r.x:Int)-p.x:=by
     rcases Int.lt_or_le ((r.x:Int)-p.x) 0 with y | y
     ·have:=Aaz d0 y;lia
     ·exact y
    have k2:(0:Int)≤(q.x:Int)-r.x:=by
     rcases Int.lt_or_le ((q.x:Int)-r.x) 0 with y | y
     ·have:=Aaz d0 y;lia
     ·exact y
    lia
   ·have m1:=Int.mul_nonpos_of_nonpos_of_nonneg (show(q.x:Int)-p.x≤0 by lia) a0;have m2:=Int.mul_nonpos_of_nonpos_of_nonneg (show(q.x:Int)-p.x≤0 by lia) b0;have k1:(r.x:Int)-p.x≤0:=by
     rcases Int.lt_or_le 0 ((r.x:Int)-p.x)with y | y
     ·have:=Aar d0 y;lia
     ·exact y
    have k2:(q.x:Int)-r.x≤0:=by
     rcases Int.lt_or_le 0 ((q.x:Int)-r.x)with y | y
     ·have:=Aar d0 y;lia
     ·exact y
    lia
 have b1:between p.x q.x r.x=true:=by unfold between;simp;lia
 have b2:between p.y q.y r.y=true:=by unfold between;simp;lia
 rw[b1,b2];rfl
theorem Rules.turn_ne (r:Rules S){u v w:Nat}(h:adj S u v)(h1:u<w)(h2:w<v):turn (S.pt u) (S.pt v) (S.pt w)≠0:=by
 intro z;have hv:=(r.adj_lt h).2.1;have m:=r.adj_mem h (by lia);have f:=r.free _ m w (by lia) (by simp only[];lia) (by simp only[];lia);rw[Bav (r.ord u w h1 (by lia)) (r.ord w v h2 hv) z]at f;exact Bool.noConfusion f
theorem Rules.draw (r:Rules S):Draw S.pts.length (xx S) (yy S) (adj S) where
 mono:=by
  intro i j h hj;have:=r.mono h hj;unfold yy;lia
 sym:=by intro u v h;exact h.symm
 ne:=by intro u v h;exact(r.adj_lt h).2.2
 lt:=by intro u v h;exact(r.adj_lt h).1
 free:=by
  intro u v w h h1 h2;have:=r.turn_ne h h1 h2;rw[Abi];lia
 cross:=by
  intro u v p q h k huv hpq c1 c2;rw[Abi,Abi]at c1 c2;have m1:=r.adj_mem h huv;have m2:=r.adj_mem k hpq;have big:∀a b:Int,8388608*a*(8388608*b)<0→a*b<0:=by
   intro a b z;have:8388608*a*(8388608*b)=70368744177664*(a*b):=by grind
   lia
  have b1:=big _ _ c1;have b2:=big _ _ c2
  by_cases e:((u,v):Nat×Nat)=(p,q)
  ·rw[Prod.mk.injEq]at e;obtain⟨e1,e2⟩:=e;subst e1 e2;have:turn (S.pt u) (S.pt v) (S.pt u)=0:=by unfold turn dx dy;grind
   rw[this]at b1;simp at b1
  ·rcases r.cross _ _ m1 m2 e with z | z
   ·unfold crosses at z;simp only[Bool.and_eq_false_iff,decide_eq_false_iff_not]at z;rcases z with z | z
    ·exact z b1
    ·exact z b2
   ·unfold crosses at z;simp only[Bool.and_eq_false_iff,decide_eq_false_iff_not]at z;rcases z with z | z
    ·exact z b2
    ·exact z b1
theorem mem_near (r:Rules S)(v x:Nat):x∈S.near v↔adj S v x:=by
 unfold Plan.near adj;rw[List.mem_filterMap];constructor
 ·rintro⟨l,hl,e⟩;have:=r.lin l hl
  by_cases e1:l.1=v
  ·rw[if_pos e1]at e;simp only[Option.some.injEq]at e;subst e e1;exact .inl hl
  ·rw[if_neg e1]at e
   by_cases e2:l.2=v
   ·rw[if_pos e2]at e;simp only[Option.some.injEq]at e;subst e e2;exact .inr hl
   ·rw[if_neg e2]at e;simp at e
 ·rintro(h | h)
  ·exact⟨_,h,by simp⟩
  ·have:=r.lin _ h;simp only[]at this;refine⟨_,h,?_⟩;show(if x=v then some v else if v=v then some x else none)=some x;rw[if_neg (by lia),if_pos rfl]
theorem Ahu (r:Rules S)(v:Nat):(S.near v).Nodup:=by
 unfold Plan.near;have key:∀ls:List (Nat×Nat),(∀l,l∈ls→l.1<l.2)→ls.Nodup→
  (ls.filterMap fun(l:Nat×Nat)=>if l.1=v then some l.2 else if l.2=v then some l.1 else none).Nodup:=by
  intro ls
  induction ls with
  | nil=>intro _ _;simp
  | cons l ls ih =>
   intro hl hn;have hn':=List.nodup_cons.1 hn;have ih':=ih (fun x hx=>hl x (by simp[hx])) hn'.2;rw[List.filterMap_cons];have out:∀y,(if l.1=v then some l.2 else if l.2=v then some l.1 else none)=some y→
    y∉(ls.filterMap fun(l:Nat×Nat)=>if l.1=v then some l.2 else if l.2=v then some l.1 else none):=by
    intro y hy hm;rw[List.mem_filterMap]at hm;obtain⟨m,hm,e⟩:=hm;have l1:=hl l (by simp);have l2:=hl m (by simp[hm]);apply hn'.1;have:l=m:=by
     obtain⟨l1',l2'⟩:=l;obtain⟨m1',m2'⟩:=m;rw[Prod.mk.injEq]
     grind
    rw[this];exact hm
   split
   ·exact ih'
   ·rename_i y hy
    exact List.nodup_cons.2 ⟨out y hy,ih'⟩
 exact key S.lines (fun l hl=>(r.lin l hl).1) r.lnd
end
end Pg
end
section
namespace Pg
section
variable {n:Nat}{X Y:Nat→Int}{adj:Nat→Nat→Prop}
theorem Agm (v t:Nat):hf X Y v t t=3:=by
 unfold hf;rw[T_2];simp
theorem Bck {v t x:Nat}(h:T X Y v t x<0):hf X Y v t x=0:=by unfold hf;rw[if_pos h]
theorem Av6 {v t x:Nat}(h:0<T X Y v t x):hf X Y v t x=2:=by unfold hf;rw[if_neg (by lia),if_pos h]
theorem Draw.side (d:Draw n X Y adj){v t:Nat}(h:adj v t):(t<v∧Y t-Y v<0)∨(v<t∧0<Y t-Y v):=by
 have:=d.ne _ _ h;rcases Nat.lt_or_ge t v with k | k
 ·exact .inl ⟨k,d.dn h k⟩
 ·exact .inr ⟨by lia,d.up h (by lia)⟩
theorem Avq (X Y:Nat→Int){v a b c:Nat}(ha:Y a-Y v<0)(hb:Y b-Y v<0)(hc:Y c-Y v<0)(h1:0<T X Y v a b)(h2:0<T X Y v b c):0<T X Y v a c:=by
 have i:=tri X Y v a b c;have j1:=Aaz h1 hc;have j2:=Aaz h2 ha;have j3:=Ahd X Y v a c;rcases Int.lt_trichotomy (T X Y v c a) 0 with z | z | z
 ·lia
 ·rw[z]at i;simp at i;lia
 ·have:=Aaz z hb;lia
theorem Avp (X Y:Nat→Int){v a b c:Nat}(ha:0<Y a-Y v)(hb:0<Y b-Y v)(hc:0<Y c-Y v)(h1:0<T X Y v a b)(h2:0<T X Y v b c):0<T X Y v a c:=by
 have i:=tri X Y v a b c;have j1:=Aar h1 hc;have j2:=Aar h2 ha;have j3:=Ahd X Y v a c;rcases Int.lt_trichotomy (T X Y v c a) 0 with z | z | z
 ·lia
 ·rw[z]at i;simp at i;lia
 ·have:=Aar z hb;lia
theorem Draw.trans (d:Draw n X Y adj){v a b c:Nat}(ha:adj v a)(hb:adj v b)(hc:adj v c)(s1:a<v↔b<v)(s2:b<v↔c<v)
 (h1:0<T X Y v a b) (h2:0<T X Y v b c):0<T X Y v a c:=by
 rcases d.side ha with x | x<;>rcases d.side hb with y | y<;>rcases d.side hc with z | z<;>first | lia | skip
 ·exact Avq X Y x.2 y.2 z.2 h1 h2
 ·exact Avp X Y x.2 y.2 z.2 h1 h2
theorem Aql (d:Draw n X Y adj){v p t:Nat}(hp:adj v p)(ht:adj v t)(s:p<v↔t<v)(h:0<T X Y v p t)
 (oth:∀x,adj v x→x≠p→x≠t→(x<v↔p<v)→0<T X Y v x p∨0<T X Y v t x):Nxt X Y adj v t p where
 here:=hp
 soon:=by
  intro x hx hn;have sw:=Ahd X Y v t p;have e0:hf X Y v t p=0:=Bck (by lia);rw[e0]
  by_cases e:x=t
  ·subst e;rw[Agm];lia
  by_cases sx:x<v↔p<v
  ·rcases oth x hx hn e sx with z | z
   ·have:=Ahd X Y v x p;rcases Aac X Y v t x with y | y | y | y<;>lia
   ·rw[Av6 z];lia
  ·rcases Aac X Y v t x with y | y | y | y
   ·right;refine⟨y.1.symm,?_⟩;have i:=tri X Y v t p x;have sw2:=Ahd X Y v t x;rcases d.side hp with a | a<;>rcases d.side ht with b | b<;>rcases d.side hx with c | c<;>first | lia | skip
    ·have j1:=Aas (show T X Y v t p<0 by lia) c.2;have j2:=Aaz (show 0<T X Y v x t by lia) a.2;rcases Int.lt_or_le (T X Y v p x) 0 with z | z
     ·exact z
     ·have:=Int.mul_nonpos_of_nonneg_of_nonpos z (show Y t-Y v≤0 by lia);lia
    ·have j1:=Abl (show T X Y v t p<0 by lia) c.2;have j2:=Aar (show 0<T X Y v x t by lia) a.2;exact ln (b:=Y t-Y v) (by lia) b.2
   all_goals lia
theorem Amt (d:Draw n X Y adj){v p t:Nat}(hp:adj v p)(ht:adj v t)(s:¬(p<v↔t<v))
 (h1:∀x,adj v x→(x<v↔t<v)→x≠t→0<T X Y v t x) (h2:∀x,adj v x→(x<v↔p<v)→x≠p→0<T X Y v x p):Nxt X Y adj v t p where
 here:=hp
 soon:=by
  intro x hx hn;have i:=tri X Y v t p x;have sw:=Ahd X Y v t x
  by_cases e:x=t
  ·subst e;rw[Agm];rcases Aac X Y v x p with y | y | y | y
   ·lia
   ·lia
   ·exact absurd y.2.2.symm s
   ·lia
  by_cases sx:x<v↔t<v
  ·have z:=h1 x hx sx e;rw[Av6 z];rcases Aac X Y v t p with y | y | y | y
   ·lia
   ·right;refine⟨y.1,?_⟩;rcases d.side hp with a | a<;>rcases d.side ht with b | b<;>rcases d.side hx with c | c<;>first | lia | skip
    ·have j1:=Aar y.2 c.2;have j2:=Abl (show T X Y v x t<0 by lia) a.2;exact ln (b:=Y t-Y v) (by lia) b.2
    ·have j1:=Aaz y.2 c.2;have j2:=Aas (show T X Y v x t<0 by lia) a.2;rcases Int.lt_or_le (T X Y v p x) 0 with z | z
     ·exact z
     ·have:=Int.mul_nonpos_of_nonneg_of_nonpos z (show Y t-Y v≤0 by lia);lia
   ·exact absurd y.2.2.symm s
   ·lia
  ·have z:=h2 x hx (by lia) hn;have sw2:=Ahd X Y v x p;have key:T X Y v t p≤0∨0<T X Y v t x∨(T X Y v t p=0∧0≤T X Y v t x):=by
    rcases Int.lt_or_le 0 (T X Y v t p)with k | k
    ·rcases Int.lt_or_le 0 (T X Y v t x)with l | l
     ·exact .inr (.inl l)
     ·exfalso;rcases d.side hp with a | a<;>rcases d.side ht with b | b<;>rcases d.side hx with c | c<;>first | lia | skip
      ·have j1:=Aaz k c.2;have j2:=Aas (show T X Y v p x<0 by lia) b.2;have j3:=Int.mul_nonpos_of_nonneg_of_nonpos (show 0≤T X Y v x t by lia) (show Y p-Y v≤0 by lia);lia
      ·have j1:=Aar k c.2;have j2:=Abl (show T X Y v p x<0 by lia) b.2;have j3:=Int.mul_nonneg (show 0≤T X Y v x t by lia) (show 0≤Y p-Y v by lia);lia
    ·exact .inl k
   have key2:T X Y v t p<0∨0≤T X Y v t x:=by
    rcases Int.lt_or_le (T X Y v t p) 0 with k | k
    ·exact .inl k
    ·rcases Int.lt_or_le (T X Y v t x) 0 with l | l
     ·exfalso;rcases d.side hp with a | a<;>rcases d.side ht with b | b<;>rcases d.side hx with c | c<;>first | lia | skip
      ·have j1:=Int.mul_nonpos_of_nonneg_of_nonpos k (show Y x-Y v≤0 by lia);have j2:=Aas (show T X Y v p x<0 by lia) b.2;have j3:=Aaz (show 0<T X Y v x t by lia) a.2;lia
      ·have j1:=Int.mul_nonneg k (show 0≤Y x-Y v by lia);have j2:=Abl (show T X Y v p x<0 by lia) b.2;have j3:=Aar (show 0<T X Y v x t by lia) a.2;lia
     ·exact .inr l
   rcases Aac X Y v t p with y | y | y | y
   ·rcases Aac X Y v t x with y' | y' | y' | y'<;>lia
   ·rcases Aac X Y v t x with y' | y' | y' | y'<;>lia
   ·exact absurd y.2.2.symm s
   ·rcases Aac X Y v t x with y' | y' | y' | y'<;>lia
theorem Aqk {v p t:Nat}(hp:adj v p)(h0:∀x,adj v x→(x<v↔t<v))
 (h1:∀x,adj v x→x≠t→0<T X Y v t x) (h2:∀x,adj v x→x≠p→0<T X Y v x p):Nxt X Y adj v t p where
 here:=hp
 soon:=by
  intro x hx hn;have z:=h2 x hx hn;have sw:=Ahd X Y v x p
  by_cases e:x=t
  ·subst e;rw[Agm,Av6 z];lia
  ·rw[Av6 (h1 x hx e)]
   by_cases ep:p=t
   ·subst ep;have:=h1 x hx e;lia
   ·rw[Av6 (h1 p hp ep)];lia
theorem Akn (f:Nat→Nat):∀(L:List Nat) (b:Nat),(∀l1 p t l2,b::L=l1++p::t::l2→f t=p)→L.map f=(b::L).dropLast
 | [],_,_=>rfl
 | x::r,b,h=>by
  rw[List.map_cons,h [] b x r rfl,Akn f r x (fun l1 p t l2 e=>h (b::l1) p t l2 (by rw[e];rfl))];rfl
theorem Axf (f:Nat→Nat)(L:List Nat)(hL:L≠[])(h:∀l1 p t l2,L=l1++p::t::l2→f t=p)(h0:∀t r,L=t::r→f t=L.getLast hL) :
 ∃l a,L=l++[a]∧L.map f=a::l:=by
 refine⟨L.dropLast,L.getLast hL,(List.dropLast_concat_getLast hL).symm,?_⟩;cases L with
 | nil=>exact absurd rfl hL
 | cons x r=>rw[List.map_cons,h0 x r rfl,Akn f r x h]
theorem Ayf {U D l1 l2:List Nat}{p t:Nat}(h:U++D=l1++p::t::l2) :
 (∃m,U=l1++p::t::m)∨(∃m,D=m++p::t::l2)∨(U=l1++[p]∧D=t::l2):=by
 rcases List.append_eq_append_iff.1 h with ⟨a,e1,e2⟩ | ⟨a,e1,e2⟩
 ·exact .inr (.inl ⟨a,e2⟩)
 ·cases a with
  | nil =>
   simp at e1 e2;exact .inr (.inl ⟨[],by rw[←e2];rfl⟩)
  | cons x a =>
   simp only[List.cons_append,List.cons.injEq]at e2;obtain⟨e2,e3⟩:=e2;subst e2;cases a with
   | nil =>
    simp at e3;exact .inr (.inr ⟨e1,e3.symm⟩)
   | cons y a =>
    simp only[List.cons_append,List.cons.injEq]at e3;obtain⟨e3,e4⟩:=e3;subst e3;exact .inl ⟨a,e1⟩
theorem Ami (d:Draw n X Y adj){v:Nat}{U D:List Nat}{nx:Nat→Nat}(mU:∀x,x∈U↔adj v x∧v<x)(mD:∀x,x∈D↔adj v x∧x<v)
 (sU:U.Pairwise fun a b=>0<T X Y v a b) (sD:D.Pairwise fun a b=>0<T X Y v a b) (hnx:∀t p,adj v t→Nxt X Y adj v t p→nx t=p)
 (hne:U++D≠[]):∃l a,U++D=l++[a]∧(U++D).map nx=a::l:=by
 have firstOf:∀{L:List Nat} {t:Nat} {r:List Nat},L.Pairwise (fun a b=>0<T X Y v a b)→L=t::r→∀x,x∈L→x≠t→0<T X Y v t x:=by
  intro L t r s e x hx hn;subst e;rcases List.mem_cons.1 hx with z | z
  ·exact absurd z hn
  ·exact(List.pairwise_cons.1 s).1 x z
 have Abs:∀{L:List Nat} {p:Nat} {l:List Nat},L.Pairwise (fun a b=>0<T X Y v a b)→L=l++[p]→∀x,x∈L→x≠p→0<T X Y v x p:=by
  intro L p l s e x hx hn;subst e;rcases List.mem_append.1 hx with z | z
  ·exact(List.pairwise_append.1 s).2.2 x z p (by simp)
  ·simp at z;exact absurd z hn
 have midOf:∀{L l1 l2:List Nat} {p t:Nat},L.Pairwise (fun a b=>0<T X Y v a b)→L=l1++p::t::l2→
  0<T X Y v p t∧∀x,x∈L→x≠p→x≠t→0<T X Y v x p∨0<T X Y v t x:=by
  intro L l1 l2 p t s e;subst e;have s2:=List.pairwise_append.1 s;have s3:=List.pairwise_cons.1 s2.2.1;have s4:=List.pairwise_cons.1 s3.2;refine⟨s3.1 t (by simp),?_⟩;intro x hx h1 h2;rcases List.mem_append.1 hx with z | z
  ·exact .inl (s2.2.2 x z p (by simp))
  ·rcases List.mem_cons.1 z with z | z
   ·exact absurd z h1
   ·rcases List.mem_cons.1 z with z | z
    ·exact absurd z h2
    ·exact .inr (s4.1 x z)
 have side:∀x,adj v x→x∈U∨x∈D:=by
  intro x hx;rcases d.side hx with z | z
  ·exact .inr ((mD x).2 ⟨hx,z.1⟩)
  ·exact .inl ((mU x).2 ⟨hx,z.1⟩)
 apply Axf nx (U++D) hne
 ·intro l1 p t l2 e;rcases Ayf e with ⟨m,eU⟩ | ⟨m,eD⟩ | ⟨eU,eD⟩
  ·have hp:=(mU p).1 (by rw[eU];simp);have ht:=(mU t).1 (by rw[eU];simp);have mo:=midOf sU eU;apply hnx t p ht.1;apply Aql d hp.1 ht.1 (by lia) mo.1;intro x hx h1 h2 sx;exact mo.2 x ((mU x).2 ⟨hx,by have:=d.ne _ _ hx;lia⟩) h1 h2
  ·have hp:=(mD p).1 (by rw[eD];simp);have ht:=(mD t).1 (by rw[eD];simp);have mo:=midOf sD eD;apply hnx t p ht.1;apply Aql d hp.1 ht.1 (by lia) mo.1;intro x hx h1 h2 sx;exact mo.2 x ((mD x).2 ⟨hx,by lia⟩) h1 h2
  ·have hp:=(mU p).1 (by rw[eU];simp);have ht:=(mD t).1 (by rw[eD];simp);apply hnx t p ht.1;apply Amt d hp.1 ht.1 (by lia)
   ·intro x hx sx hn;exact firstOf sD eD x ((mD x).2 ⟨hx,by lia⟩) hn
   ·intro x hx sx hn;exact Abs sU eU x ((mU x).2 ⟨hx,by have:=d.ne _ _ hx;lia⟩) hn
 ·intro t r e;rcases U with _ | ⟨u,U'⟩
  ·-- none above
   have eD:D=t::r:=e;have hD:D≠[]:=by rw[eD];simp
   have lst:=List.dropLast_concat_getLast hD;have hp:=(mD (D.getLast hD)).1 (List.getLast_mem hD);have ht:=(mD t).1 (by rw[eD];simp);have all:∀x,adj v x→x∈D:=fun x hx=>by
    rcases side x hx with z | z
    ·simp at z
    ·exact z
   show nx t=D.getLast hD;apply hnx t _ ht.1;apply Aqk hp.1
   ·intro x hx;have:=(mD x).1 (all x hx);lia
   ·intro x hx hn;exact firstOf sD eD x (all x hx) hn
   ·intro x hx hn;exact Abs sD lst.symm x (all x hx) hn
  ·have et:t=u:=by simp at e;exact e.1.symm
   subst et;have ht:=(mU t).1 (by simp);rcases D with _ | ⟨w,D'⟩
   ·have hU:(t::U')≠[]:=by simp
    have lst:=List.dropLast_concat_getLast hU;have hp:=(mU ((t::U').getLast hU)).1 (List.getLast_mem hU);have all:∀x,adj v x→x∈t::U':=fun x hx=>by
     rcases side x hx with z | z
     ·exact z
     ·simp at z
    have eq:((t::U')++[]).getLast hne=(t::U').getLast hU:=by simp
    rw[eq];apply hnx t _ ht.1;apply Aqk hp.1
    ·intro x hx;have:=(mU x).1 (all x hx);lia
    ·intro x hx hn;exact firstOf sU rfl x (all x hx) hn
    ·intro x hx hn;exact Abs sU lst.symm x (all x hx) hn
   ·have hD:(w::D')≠[]:=by simp
    have lst:=List.dropLast_concat_getLast hD;have hp:=(mD ((w::D').getLast hD)).1 (List.getLast_mem hD);have eq:((t::U')++(w::D')).getLast hne=(w::D').getLast hD:=by
     rw[List.getLast_append_of_ne_nil]
    rw[eq];apply hnx t _ ht.1;apply Amt d hp.1 ht.1 (by lia)
    ·intro x hx sx hn;exact firstOf sU rfl x ((mU x).2 ⟨hx,by have:=d.ne _ _ hx;lia⟩) hn
    ·intro x hx sx hn;exact Abs sD lst.symm x ((mD x).2 ⟨hx,by lia⟩) hn
end
end Pg
end
section
namespace Pg
open Gla
def putL (S:Plan)(m x:Nat):List Nat→List Nat
 | []=>[x]
 | y::r=>if 0<turn (S.pt m) (S.pt x) (S.pt y)then y::putL S m x r else x::y::r
def leftward (S:Plan)(m:Nat)(ns:List Nat):List Nat:=(ns.foldl (fun row x=>putL S m x row) []).reverse
def ringOf (S:Plan)(v:Nat):List Nat:=leftward S v ((S.near v).filter fun x=>decide (v<x))++leftward S v ((S.near v).filter fun x=>decide (x<v))
theorem Adc (S:Plan)(m x z:Nat):∀l,z∈putL S m x l↔z=x∨z∈l
 | []=>by simp[putL]
 | y::r=>by
  unfold putL
  split
  ·rw[List.mem_cons,Adc S m x z r,List.mem_cons];constructor
   ·rintro(h | h | h)<;>simp[h]
   ·rintro(h | h | h)<;>simp[h]
  ·rw[List.mem_cons]
theorem mem_left' (S:Plan)(m z:Nat):∀(ns acc:List Nat),z∈ns.foldl (fun row x=>putL S m x row) acc↔z∈ns∨z∈acc
 | [],acc=>by simp
 | x::r,acc=>by
  rw[List.foldl_cons,mem_left' S m z r,Adc,List.mem_cons];constructor
  ·rintro(h | h | h)<;>simp[h]
  ·rintro((h | h) | h)<;>simp[h]
theorem Ac6 (S:Plan)(m z:Nat)(ns:List Nat):z∈leftward S m ns↔z∈ns:=by
 unfold leftward;rw[List.mem_reverse,mem_left'];simp
section
variable {S:Plan}
theorem Ba0 (S:Plan)(p q r:Nat):0<T (xx S) (yy S) p q r↔0<turn (S.pt p) (S.pt q) (S.pt r):=by rw[Abi];lia
theorem Ag1 (r:Rules S){v x:Nat}(hx:adj S v x):∀l:List Nat,(∀y,y∈l→adj S v y∧y≠x∧(y<v↔x<v))→
 l.Pairwise (fun a b=>0<T (xx S) (yy S) v b a)→(putL S v x l).Pairwise (fun a b=>0<T (xx S) (yy S) v b a)
 | [],_,_=>by simp[putL]
 | y::l,h,s=>by
  have d:=r.draw;have hy:=h y (by simp);have s':=List.pairwise_cons.1 s;unfold putL
  split
  ·rename_i k
   refine List.pairwise_cons.2 ⟨?_,Ag1 r hx l (fun z hz=>h z (by simp[hz])) s'.2⟩;intro z hz;rcases (Adc S v x z l).1 hz with e | e
   ·subst e;exact(Ba0 S v z y).2 k
   ·exact s'.1 z e
  ·rename_i k
   have ap:=d.apart hx hy.1 (Ne.symm hy.2.1) (by lia);have sw:=Ahd (xx S) (yy S) v x y;have k':¬0<T (xx S) (yy S) v x y:=fun z=>k ((Ba0 S v x y).1 z);have yx:0<T (xx S) (yy S) v y x:=by lia
   refine List.pairwise_cons.2 ⟨?_,s⟩;intro z hz;rcases List.mem_cons.1 hz with e | e
   ·subst e;exact yx
   ·have hz':=h z (by simp[e]);exact d.trans hz'.1 hy.1 hx (by lia) hy.2.2 (s'.1 z e) yx
theorem Af4 (r:Rules S){v:Nat}{P:Nat→Prop}(hP:∀a b,P a→P b→(a<v↔b<v)):∀(ns acc:List Nat),(∀y,y∈ns→adj S v y∧P y)→(∀y,y∈acc→adj S v y∧P y)→
 ns.Nodup→(∀y,y∈ns→y∉acc)→acc.Nodup→acc.Pairwise (fun a b=>0<T (xx S) (yy S) v b a)→
 (ns.foldl (fun row x=>putL S v x row) acc).Pairwise (fun a b=>0<T (xx S) (yy S) v b a)
 | [],acc,_,_,_,_,_,s=>s
 | x::ns,acc,h1,h2,n1,dj,n2,s=>by
  rw[List.foldl_cons];have n1':=List.nodup_cons.1 n1;have hx:=h1 x (by simp);have nx:=dj x (by simp);apply Af4 r hP ns
  ·intro y hy;exact h1 y (by simp[hy])
  ·intro y hy;rcases (Adc S v x y acc).1 hy with e | e
   ·subst e;exact hx
   ·exact h2 y e
  ·exact n1'.2
  ·intro y hy hm;rcases (Adc S v x y acc).1 hm with e | e
   ·subst e;exact n1'.1 hy
   ·exact dj y (by simp[hy]) e
  ·have key:∀l:List Nat,x∉l→l.Nodup→(putL S v x l).Nodup:=by
    intro l
    induction l with
    | nil=>intro _ _;simp[putL]
    | cons y l ih =>
     intro hn hd;have hd':=List.nodup_cons.1 hd;unfold putL
     split
     ·refine List.nodup_cons.2 ⟨?_,ih (fun z=>hn (by simp[z])) hd'.2⟩;intro z;rcases (Adc S v x y l).1 z with e | e
      ·subst e;exact hn (by simp)
      ·exact hd'.1 e
     ·exact List.nodup_cons.2 ⟨hn,hd⟩
   exact key acc nx n2
  ·apply Ag1 r hx.1 acc _ s;intro y hy;have:=h2 y hy;exact⟨this.1,fun e=>nx (by subst e;exact hy),hP y x this.2 hx.2⟩
theorem Ad4 (r:Rules S){v:Nat}{P:Nat→Prop}(hP:∀a b,P a→P b→(a<v↔b<v)){ns:List Nat}(h:∀y,y∈ns→adj S v y∧P y)(hn:ns.Nodup) :
 (leftward S v ns).Pairwise (fun a b=>0<T (xx S) (yy S) v a b):=by
 unfold leftward;rw[List.pairwise_reverse];exact Af4 r hP ns [] h (by simp) hn (by simp) (by simp) (by simp)
theorem Axs {s:Nat→Nat→Bool}{p:Nat}:∀(r:List Nat) (a:Nat),p∈a::r→(∀x,x∈a::r→x≠p→s p x=true∧s x p=false)→
 r.foldl (fun a b=>if s b a=true then b else a) a=p
 | [],a,h,_=>by simp at h;exact h.symm
 | b::r,a,h,k=>by
  rw[List.foldl_cons]
  by_cases ea:a=p
  ·subst ea
   by_cases eb:b=a
   ·subst eb;have e:(if s b b=true then b else b)=b:=by split<;>rfl
    rw[e]
    exact Axs r b (by simp) (fun x hx=>k x (by
     rcases List.mem_cons.1 hx with z | z
     ·simp[z]
     ·simp[z]))
   ·rw[if_neg (by rw[(k b (by simp) eb).2];simp)]
    exact Axs r a (by simp) (fun x hx=>k x (by
     rcases List.mem_cons.1 hx with z | z
     ·simp[z]
     ·simp[z]))
  ·by_cases eb:b=p
   ·subst eb;rw[if_pos (k a (by simp) ea).1]
    exact Axs r b (by simp) (fun x hx=>k x (by
     rcases List.mem_cons.1 hx with z | z
     ·simp[z]
     ·simp[z]))
   ·have hp:p∈r:=by
     rcases List.mem_cons.1 h with z | z
     ·exact absurd z.symm ea
     ·rcases List.mem_cons.1 z with z | z
      ·exact absurd z.symm eb
      ·exact z
    split
    ·exact Axs r b (by simp[hp]) (fun x hx=>k x (by
      rcases List.mem_cons.1 hx with z | z
      ·simp[z]
      ·simp[z]))
    ·exact Axs r a (by simp[hp]) (fun x hx=>k x (by
      rcases List.mem_cons.1 hx with z | z
      ·simp[z]
      ·simp[z]))
theorem An7 {a b c e:Int}(h:a*e-b*c=0)(ha:b>0∨(b=0∧a>0)):(e>0∨(e=0∧c>0)→0<a*c+b*e)∧(e<0∨(e=0∧c<0)→a*c+b*e<0):=by
 constructor
 ·intro k;rcases ha with ha | ⟨hb,ha⟩
  ·rcases k with k | ⟨he,k⟩
   ·have m:=Aar ha k;have:0≤a*c:=by
     rcases Int.lt_trichotomy a 0 with z | z | z
     ·have:=Aas z k;have:c<0:=by
       rcases Int.lt_or_le c 0 with y | y
       ·exact y
       ·have:=Int.mul_nonneg (show 0≤b by lia) y;lia
      have:=Abl z this;lia
     ·subst z;simp
     ·have:=Aar z k;have:0<c:=lp (b:=b) (by rw[Int.mul_comm];lia) ha;have:=Aar z this;lia
    lia
   ·subst he;simp at h;have:=Aar ha k;lia
  ·subst hb;have e0:e=0:=by
    have h':a*e=0:=by rw[Int.zero_mul]at h;lia
    rcases Int.mul_eq_zero.1 h' with z | z
    ·lia
    ·exact z
   subst e0;rcases k with k | k
   ·lia
   ·have:=Aar ha k.2;lia
 ·intro k;rcases ha with ha | ⟨hb,ha⟩
  ·rcases k with k | ⟨he,k⟩
   ·have m:=Aaz ha k;have:a*c≤0:=by
     rcases Int.lt_trichotomy a 0 with z | z | z
     ·have:=Abl z k;have:0<c:=lp (b:=b) (by rw[Int.mul_comm];lia) ha;have:=Aas z this;lia
     ·subst z;simp
     ·have:=Aaz z k;have:c<0:=by
       rcases Int.lt_or_le c 0 with y | y
       ·exact y
       ·have:=Int.mul_nonneg (show 0≤b by lia) y;lia
      have:=Aaz z this;lia
    lia
   ·subst he;simp at h;have:=Aaz ha k;lia
  ·subst hb;have e0:e=0:=by
    have h':a*e=0:=by rw[Int.zero_mul]at h;lia
    rcases Int.mul_eq_zero.1 h' with z | z
    ·lia
    ·exact z
   subst e0;rcases k with k | k
   ·lia
   ·have:=Aaz ha k.2;lia
theorem Rules.upper (r:Rules S){v t:Nat}(h:v<t)(ht:t<S.pts.length):dy (S.pt v) (S.pt t)>0∨(dy (S.pt v) (S.pt t)=0∧dx (S.pt v) (S.pt t)>0):=by
 have:=(below_iff _ _).1 (r.ord v t h ht);unfold dx dy;lia
theorem Rules.lower (r:Rules S){v t:Nat}(h:t<v)(hv:v<S.pts.length):dy (S.pt v) (S.pt t)<0∨(dy (S.pt v) (S.pt t)=0∧dx (S.pt v) (S.pt t)<0):=by
 have:=(below_iff _ _).1 (r.ord t v h hv);unfold dx dy;lia
theorem Aew (S:Plan)(v u x:Nat):(dir S v u).1*(dir S v x).2-(dir S v u).2*(dir S v x).1=turn (S.pt v) (S.pt u) (S.pt x):=by
 unfold dir turn dx dy;grind
theorem Ari (r:Rules S){v u x:Nat}(hu:adj S v u)(hx:adj S v x):half (dir S v u) (dir S v x)=hf (xx S) (yy S) v u x:=by
 have hv:=(r.adj_lt hu).1;have hul:=(r.adj_lt hu).2.1;have hxl:=(r.adj_lt hx).2.1;have nu:=(r.adj_lt hu).2.2;have nx:=(r.adj_lt hx).2.2;unfold half hf;simp only[Aew,Abi]
 by_cases h1:turn (S.pt v) (S.pt u) (S.pt x)<0
 ·rw[if_pos h1,if_pos (show 8388608*turn (S.pt v) (S.pt u) (S.pt x)<0 by lia)]
 rw[if_neg h1,if_neg (show ¬8388608*turn (S.pt v) (S.pt u) (S.pt x)<0 by lia)]
 by_cases h2:0<turn (S.pt v) (S.pt u) (S.pt x)
 ·rw[if_pos h2,if_pos (show 0<8388608*turn (S.pt v) (S.pt u) (S.pt x)by lia)]
 rw[if_neg h2,if_neg (show ¬0<8388608*turn (S.pt v) (S.pt u) (S.pt x)by lia)];have z:(dir S v u).1*(dir S v x).2-(dir S v u).2*(dir S v x).1=0:=by rw[Aew];lia
 have key:(dir S v u).1*(dir S v x).1+(dir S v u).2*(dir S v x).2<0↔¬(u<v↔x<v):=by
  rcases Nat.lt_or_ge v u with a | a
  ·have ds:=An7 z (r.upper a hul);rcases Nat.lt_or_ge v x with b | b
   ·have:=ds.1 (r.upper b hxl);lia
   ·have:=ds.2 (r.lower (by lia) hv);lia
  ·have z':(-(dir S v u).1)*(dir S v x).2-(-(dir S v u).2)*(dir S v x).1=0:=by grind
   have lo:=r.lower (show u<v by lia) hv;have ds:=An7 z' (by unfold dir;simp only[];lia);have e:(-(dir S v u).1)*(dir S v x).1+(-(dir S v u).2)*(dir S v x).2 =-((dir S v u).1*(dir S v x).1+(dir S v u).2*(dir S v x).2):=by grind
   rw[e]at ds;rcases Nat.lt_or_ge v x with b | b
   ·have:=ds.1 (r.upper b hxl);lia
   ·have:=ds.2 (r.lower (by lia) hv);lia
 by_cases h3:(u<v↔x<v)
 ·rw[if_neg (fun w=>key.1 w h3),if_pos h3]
 ·rw[if_pos (key.2 h3),if_neg h3]
theorem Ag8 (r:Rules S){v t p:Nat}(ht:adj S v t)(h:Nxt (xx S) (yy S) (adj S) v t p):S.next t v=p:=by
 unfold Plan.next
 have hp:=(mem_near r v p).2 h.here;cases e:S.near v with
 | nil=>rw[e]at hp;simp at hp
 | cons k l =>
  simp only[];rw[e]at hp;apply Axs (s:=fun b a=>sooner (dir S v t) (dir S v b) (dir S v a)) l k hp;intro x hx hn;have ax:adj S v x:=(mem_near r v x).1 (by rw[e];exact hx);have so:=h.soon x ax hn;rw[←Ari r ht h.here,←Ari r ht ax,Abi,←Aew]at so;have c2:(dir S v x).1*(dir S v p).2-(dir S v x).2*(dir S v p).1 =-((dir S v p).1*(dir S v x).2-(dir S v p).2*(dir S v x).1):=by grind
  unfold sooner;rw[c2];generalize (dir S v p).1*(dir S v x).2-(dir S v p).2*(dir S v x).1=c at so ⊢;generalize half (dir S v t) (dir S v p)=a at so ⊢;generalize half (dir S v t) (dir S v x)=b at so ⊢;simp;lia
theorem mem_ring (r:Rules S)(v x:Nat):x∈ringOf S v↔adj S v x:=by
 unfold ringOf;rw[List.mem_append,Ac6,Ac6,List.mem_filter,List.mem_filter,mem_near r];simp only[decide_eq_true_eq];constructor
 ·rintro(h | h)<;>exact h.1
 ·intro h;have:=(r.adj_lt h).2.2;rcases Nat.lt_or_ge v x with k | k
  ·exact .inl ⟨h,k⟩
  ·exact .inr ⟨h,by lia⟩
theorem Rules.rot (r:Rules S):Rot S.pts.length (xx S) (yy S) (adj S) S.next (ringOf S):=by
 have d:=r.draw;have sU:∀v,(leftward S v ((S.near v).filter fun x=>decide (v<x))).Pairwise (fun a b=>0<T (xx S) (yy S) v a b):=by
  intro v;apply Ad4 r (P:=fun x=>v<x) (by lia)
  ·intro y hy;rw[List.mem_filter]at hy;exact⟨(mem_near r v y).1 hy.1,by simpa using hy.2⟩
  ·exact(Ahu r v).filter _
 have sD:∀v,(leftward S v ((S.near v).filter fun x=>decide (x<v))).Pairwise (fun a b=>0<T (xx S) (yy S) v a b):=by
  intro v;apply Ad4 r (P:=fun x=>x<v) (by lia)
  ·intro y hy;rw[List.mem_filter]at hy;exact⟨(mem_near r v y).1 hy.1,by simpa using hy.2⟩
  ·exact(Ahu r v).filter _
 have mU:∀v x,x∈leftward S v ((S.near v).filter fun x=>decide (v<x))↔adj S v x∧v<x:=by
  intro v x;rw[Ac6,List.mem_filter,mem_near r];simp
 have mD:∀v x,x∈leftward S v ((S.near v).filter fun x=>decide (x<v))↔adj S v x∧x<v:=by
  intro v x;rw[Ac6,List.mem_filter,mem_near r];simp
 have rr:∀v,v<S.pts.length→∃l a,ringOf S v=l++[a]∧(ringOf S v).map (fun t=>S.next t v)=a::l:=by
  intro v hv;apply Ami d (mU v) (mD v) (sU v) (sD v) (fun t p ht h=>Ag8 r ht h);have dg:=r.deg v hv;intro e;cases e2:S.near v with
  | nil=>rw[e2]at dg;simp at dg
  | cons k l =>
   have:k∈ringOf S v:=(mem_ring r v k).2 ((mem_near r v k).1 (by rw[e2];simp));unfold ringOf at this;rw[e]at this;simp at this
 refine⟨fun v x _=>mem_ring r v x,?_,rr,?_⟩
 ·intro v hv;unfold ringOf;rw[List.nodup_append];have nd1:∀L:List Nat,L.Pairwise (fun a b=>0<T (xx S) (yy S) v a b)→L.Nodup:=by
   intro L s;apply s.imp;intro a b h e;subst e;rw[T_2]at h;lia
  refine⟨nd1 _ (sU v),nd1 _ (sD v),?_⟩;intro a ha b hb e;have:=(mU v a).1 ha;have:=(mD v b).1 hb;lia
 ·intro u v h;have hv:=(r.adj_lt h).2.1;have hu:=d.sym _ _ h;have ex:∃p,Nxt (xx S) (yy S) (adj S) v u p:=by
   have hne:leftward S v ((S.near v).filter fun x=>decide (v<x))++leftward S v ((S.near v).filter fun x=>decide (x<v))≠[]:=by
    intro e;have:u∈ringOf S v:=(mem_ring r v u).2 hu;unfold ringOf at this;rw[e]at this;simp at this
   have hn:∀t,∃p,(adj S v t→(∃q,Nxt (xx S) (yy S) (adj S) v t q)→Nxt (xx S) (yy S) (adj S) v t p):=by
    intro t
    by_cases q:∃q,Nxt (xx S) (yy S) (adj S) v t q
    ·exact⟨q.choose,fun _ _=>q.choose_spec⟩
    ·exact⟨0,fun _ z=>absurd z q⟩
   apply Classical.byContradiction;intro no
   have f1:=Ami d (nx:=fun t=>if t=u then S.pts.length else S.next t v) (mU v) (mD v) (sU v) (sD v) (by
    intro t p ht hN
    by_cases e:t=u
    ·subst e;exact absurd ⟨p,hN⟩ no
    ·simp only[if_neg e];exact Ag8 r ht hN) hne
   obtain⟨l,a,e1,e2⟩:=f1;have mem:S.pts.length∈a::l:=by
    rw[←e2,List.mem_map];refine⟨u,?_,by simp⟩;have:u∈ringOf S v:=(mem_ring r v u).2 hu;exact this
   have:S.pts.length∈ringOf S v:=by
    unfold ringOf;rw[e1];rcases List.mem_cons.1 mem with z | z
    ·rw[z];simp
    ·simp[z]
   have:=(r.adj_lt ((mem_ring r v _).1 this)).2.1;lia
  obtain⟨p,hp⟩:=ex;rw[Ag8 r hu hp];exact hp
end
abbrev Way:=Nat×Nat
def nxe (S:Plan)(e:Way):Way:=(e.2,S.next e.1 e.2)
def itr (S:Plan):Nat→Way→Way
 | 0,e=>e
 | k+1,e=>itr S k (nxe S e)
theorem itr_add (S:Plan):∀(j k:Nat) (e:Way),itr S (k+j) e=itr S k (itr S j e)
 | 0,k,e=>rfl
 | j+1,k,e=>by
  show itr S (k+j+1) e=_;simp only[itr];exact itr_add S j k (nxe S e)
theorem itr_succ (S:Plan)(k:Nat)(e:Way):itr S (k+1) e=nxe S (itr S k e):=by
 rw[Nat.add_comm,itr_add S k 1 e];rfl
def Axt (S:Plan):Nat→Way→Way→List Way
 | 0,_,_=>[]
 | n+1,s,e=>e::(if nxe S e=s then [] else Axt S n s (nxe S e))
def orb (S:Plan)(e:Way):List Way:=Axt S (2*S.lines.length+1) e e
theorem Afz (S:Plan):∀(n:Nat) (s e:Way),S.round n s e=(Axt S n s e).map (·.1)
 | 0,_,_=>rfl
 | n+1,s,e=>by
  unfold Plan.round Axt;simp only[List.map_cons]
  congr 1
  unfold nxe
  split
  ·rfl
  ·exact Afz S n s _
theorem len_le {α:Type}[BEq α][LawfulBEq α]:∀{l m:List α},l.Nodup→(∀x,x∈l→x∈m)→l.length≤m.length
 | [],_,_,_=>Nat.zero_le _
 | x::r,m,nd',h=>by
  have nr:=List.nodup_cons.1 nd';have hx:=h x (by simp)
  have ih:=len_le (l:=r) (m:=m.erase x) nr.2 (by
   intro y hy;have ne:y≠x:=fun e=>nr.1 (by rw[←e];exact hy)
   exact(List.mem_erase_of_ne ne).2 (h y (by simp[hy])))
  rw[List.length_erase_of_mem hx]at ih;have:0<m.length:=List.length_pos_of_mem hx;simp only[List.length_cons];lia
theorem mem_ways (S:Plan)(e:Way):e∈ways S↔adj S e.1 e.2:=by
 obtain⟨u,v⟩:=e;unfold ways adj;simp only[List.mem_flatMap,List.mem_cons,List.not_mem_nil,or_false];constructor
 ·rintro⟨l,hl,h | h⟩
  ·left;rw[h];exact hl
  ·right;have e1:l.2=u:=by rw[Prod.mk.injEq]at h;exact h.1.symm
   have e2:l.1=v:=by rw[Prod.mk.injEq]at h;exact h.2.symm
   rw[←e1,←e2];exact hl
 ·rintro(h | h)
  ·exact⟨_,h,.inl rfl⟩
  ·exact⟨_,h,.inr rfl⟩
theorem len_ways (S:Plan):(ways S).length=2*S.lines.length:=by
 unfold ways
 induction S.lines with
 | nil=>rfl
 | cons l ls ih=>rw[List.flatMap_cons,List.length_append,ih];simp only[List.length_cons,List.length_nil];lia
section
variable {S:Plan}
theorem Ae9 {f:Nat→Nat}:∀{l:List Nat},(l.map f).Nodup→∀x y,x∈l→y∈l→f x=f y→x=y
 | [],_,x,_,h,_,_=>by simp at h
 | a::l,nd',x,y,hx,hy,e=>by
  rw[List.map_cons,List.nodup_cons]at nd';rcases List.mem_cons.1 hx with z | z
  ·rcases List.mem_cons.1 hy with w | w
   ·rw[z,w]
   ·subst z;exact absurd (by rw[e];exact List.mem_map_of_mem w) nd'.1
  ·rcases List.mem_cons.1 hy with w | w
   ·subst w;exact absurd (by rw[←e];exact List.mem_map_of_mem z) nd'.1
   ·exact Ae9 nd'.2 x y z w e
theorem Rules.nxe_adj (r:Rules S){e:Way}(h:adj S e.1 e.2):adj S (nxe S e).1 (nxe S e).2:=(r.rot.nxt e.1 e.2 h).here
theorem Rules.nxe_inj (r:Rules S){e f:Way}(h:adj S e.1 e.2)(k:adj S f.1 f.2)(q:nxe S e=nxe S f):e=f:=by
 obtain⟨u,v⟩:=e;obtain⟨u',v'⟩:=f;unfold nxe at q;simp only[Prod.mk.injEq]at q h k;obtain⟨q1,q2⟩:=q;subst q1;have hv:=(r.adj_lt h).2.1;obtain⟨l,a,e1,e2⟩:=r.rot.rot v hv;have nod:=r.rot.nod v hv;have nm:((ringOf S v).map (fun t=>S.next t v)).Nodup:=by
  rw[e2];rw[e1]at nod;exact(List.perm_append_singleton a l).nodup nod
 have:=Ae9 nm u u' ((r.rot.mem v u hv).2 (r.draw.sym _ _ h)) ((r.rot.mem v u' hv).2 (r.draw.sym _ _ k)) q2;rw[this]
theorem Rules.itr_adj (r:Rules S){e:Way}(h:adj S e.1 e.2):∀k,adj S (itr S k e).1 (itr S k e).2
 | 0=>h
 | k+1=>by rw[itr_succ];exact r.nxe_adj (r.itr_adj h k)
theorem Rules.itr_inj (r:Rules S){e f:Way}(h:adj S e.1 e.2)(g:adj S f.1 f.2):∀k,itr S k e=itr S k f→e=f
 | 0,q=>q
 | k+1,q=>r.itr_inj h g k (by rw[itr_succ,itr_succ]at q;exact r.nxe_inj (r.itr_adj h k) (r.itr_adj g k) q)
structure Per (S:Plan)(e:Way)(m:Nat):Prop where
 pos:1≤m
 le:m≤2*S.lines.length
 back:itr S m e=e
 first:∀k,1≤k→k<m→itr S k e≠e
theorem Rules.per (r:Rules S){e:Way}(h:adj S e.1 e.2):∃m,Per S e m:=by
 have ex:∃m,1≤m∧m≤2*S.lines.length∧itr S m e=e:=by
  apply Classical.byContradiction;intro no;have inj:∀i j,i<j→j≤2*S.lines.length→itr S i e≠itr S j e:=by
   intro i j hij hj q;apply no;refine⟨j-i,by lia,by lia,?_⟩;have e1:itr S j e=itr S i (itr S (j-i) e):=by rw[←itr_add];congr 1;lia
   rw[e1]at q;exact(r.itr_inj h (r.itr_adj h _) i q).symm
  have nod:((List.range (2*S.lines.length+1)).map (fun k=>itr S k e)).Nodup:=by
   rw[List.nodup_iff_pairwise_ne,List.pairwise_map];apply List.Pairwise.imp_of_mem _ (List.pairwise_lt_range (n:=2*S.lines.length+1));intro a b _ hb hab;rw[List.mem_range]at hb;exact inj a b hab (by lia)
  have:=len_le nod (m:=ways S) (by
   intro x hx;rw[List.mem_map]at hx;obtain⟨k,_,q⟩:=hx;rw[mem_ways,←q]
   exact r.itr_adj h k)
  rw[List.length_map,List.length_range,len_ways]at this;lia
 have key:∀N m,m≤N→1≤m→m≤2*S.lines.length→itr S m e=e→∃m,Per S e m:=by
  intro N
  induction N with
  | zero=>intro m a b;lia
  | succ N ih =>
   intro m a b c q
   by_cases z:∃k,1≤k∧k<m∧itr S k e=e
   ·obtain⟨k,k1,k2,k3⟩:=z;exact ih k (by lia) k1 (by lia) k3
   ·exact⟨m,b,c,q,fun k k1 k2 k3=>z ⟨k,k1,k2,k3⟩⟩
 obtain⟨m,a,b,c⟩:=ex;exact key m m (Nat.le_refl _) a b c
theorem At4 {e:Way}{m:Nat}(p:Per S e m):∀(j fuel:Nat),j<m→m-j≤fuel→Axt S fuel e (itr S j e)=(List.range (m-j)).map (fun k=>itr S (k+j) e):=by
 intro j fuel
 induction fuel generalizing j with
 | zero=>intro a b;lia
 | succ fuel ih =>
  intro a b;unfold Axt;rw[←itr_succ]
  by_cases z:j+1=m
  ·rw[z,p.back,if_pos rfl];have:m-j=1:=by lia
   rw[this];simp[List.range_succ]
  ·rw[if_neg (p.first (j+1) (by lia) (by lia)),ih (j+1) (by lia) (by lia)];have:m-j=(m-(j+1))+1:=by lia
   rw[this,List.range_succ_eq_map,List.map_cons,List.map_map]
   congr 1
   ·rw[Nat.zero_add]
   ·apply List.map_congr_left;intro k _;show itr S (k+(j+1)) e=itr S (k+1+j) e
    congr 1;lia
theorem orb_per {e:Way}{m:Nat}(p:Per S e m):orb S e=(List.range m).map (fun k=>itr S k e):=by
 unfold orb;have:=At4 p 0 (2*S.lines.length+1) (by have:=p.pos;lia) (by have:=p.le;lia);simp only[Nat.sub_zero,Nat.add_zero]at this;exact this
theorem Ar2 {e:Way}{m:Nat}(p:Per S e m):∀q,itr S (q*m) e=e
 | 0=>by rw[Nat.zero_mul];rfl
 | q+1=>by rw[Nat.succ_mul,itr_add,p.back,Ar2 p q]
theorem Ar3 {e:Way}{m:Nat}(p:Per S e m)(k:Nat):itr S k e=itr S (k%m) e:=by
 have e1:k=k%m+(k/m)*m:=by
  have:=Nat.div_add_mod k m;rw[Nat.mul_comm]at this;lia
 conv=>lhs;rw[e1]
 rw[itr_add,Ar2 p]
theorem Rules.mem_orb (r:Rules S){e x:Way}(h:adj S e.1 e.2):x∈orb S e↔∃k,itr S k e=x:=by
 obtain⟨m,p⟩:=r.per h;rw[orb_per p,List.mem_map];constructor
 ·rintro⟨k,_,q⟩;exact⟨k,q⟩
 ·rintro⟨k,q⟩;refine⟨k%m,List.mem_range.2 (Nat.mod_lt _ p.pos),?_⟩;rw[←Ar3 p];exact q
theorem Rules.orb_nodup (r:Rules S){e:Way}(h:adj S e.1 e.2):(orb S e).Nodup:=by
 obtain⟨m,p⟩:=r.per h;rw[orb_per p,List.nodup_iff_pairwise_ne,List.pairwise_map];apply List.Pairwise.imp_of_mem _ (List.pairwise_lt_range (n:=m));intro a b _ hb hab q;rw[List.mem_range]at hb;have e1:itr S b e=itr S a (itr S (b-a) e):=by rw[←itr_add];congr 1;lia
 rw[e1]at q;exact p.first (b-a) (by lia) (by lia) (r.itr_inj h (r.itr_adj h _) a q).symm
theorem Rules.orb_adj (r:Rules S){e x:Way}(h:adj S e.1 e.2)(hx:x∈orb S e):adj S x.1 x.2:=by
 obtain⟨k,q⟩:=(r.mem_orb h).1 hx;rw[←q];exact r.itr_adj h k
theorem Rules.orb_self (r:Rules S){e:Way}(h:adj S e.1 e.2):e∈orb S e:=(r.mem_orb h).2 ⟨0,rfl⟩
theorem Rules.orb_back (r:Rules S){e x:Way}(h:adj S e.1 e.2)(hx:x∈orb S e):e∈orb S x:=by
 obtain⟨m,p⟩:=r.per h;obtain⟨k,q⟩:=(r.mem_orb h).1 hx;rw[r.mem_orb (r.orb_adj h hx)];rw[Ar3 p]at q;have:=Nat.mod_lt k p.pos;refine⟨m-k%m,?_⟩;rw[←q,←itr_add];have:m-k%m+k%m=m:=by lia
 rw[this,p.back]
theorem Rules.orb_trans (r:Rules S){e x y:Way}(h:adj S e.1 e.2)(hx:x∈orb S e)(hy:y∈orb S x):y∈orb S e:=by
 obtain⟨k,q⟩:=(r.mem_orb h).1 hx;obtain⟨j,q'⟩:=(r.mem_orb (r.orb_adj h hx)).1 hy;rw[r.mem_orb h];exact⟨j+k,by rw[itr_add,q,q']⟩
theorem Rules.orb_cl (r:Rules S){e:Way}(h:adj S e.1 e.2):Cl (adj S) S.next (fun u v=>(u,v)∈orb S e):=by
 intro u v a;constructor
 ·intro hx;obtain⟨k,q⟩:=(r.mem_orb h).1 hx;rw[r.mem_orb h];exact⟨k+1,by rw[itr_succ,q];rfl⟩
 ·intro hx;obtain⟨m,p⟩:=r.per h;obtain⟨k,q⟩:=(r.mem_orb h).1 hx;rw[r.mem_orb h];have:∃j,itr S (j+1) e=(v,S.next u v):=by
   cases k with
   | zero =>
    refine⟨m-1,?_⟩;have:m-1+1=m:=by have:=p.pos;lia
    rw[this,p.back];exact q
   | succ k=>exact⟨k,q⟩
  obtain⟨j,q⟩:=this;refine⟨j,?_⟩;rw[itr_succ]at q;exact r.nxe_inj (r.itr_adj h j) (f:=(u,v)) a q
theorem Rules.orb_ph (r:Rules S){e x:Way}(h:adj S e.1 e.2)(hx:x∈orb S e){c:Nat→Nat→Int}(hc:Akx S.pts.length (adj S) c) :
 ph S.pts.length (xx S) (yy S) c x.1 x.2=ph S.pts.length (xx S) (yy S) c e.1 e.2:=by
 obtain⟨k,q⟩:=(r.mem_orb h).1 hx;rw[←q]
 clear q hx
 induction k with
 | zero=>rfl
 | succ k ih =>
  rw[itr_succ,←ih];have a:=r.itr_adj h k;exact(round r.draw hc a (r.rot.nxt _ _ a)).symm
theorem Rules.orb_once (r:Rules S){e x y:Way}(h:adj S e.1 e.2)(hx:x∈orb S e)(hy:y∈orb S e)(q:x.1=y.1):x=y:=by
 have ax:=r.orb_adj h hx;have ay:=r.orb_adj h hy;have hv:=(r.adj_lt ax).1
 have:x.2=y.2:=Bcg r.draw r.rot hv (r.con2 x.1 hv) ax (by rw[q];exact ay) (by
  intro c hc
  rw[r.orb_ph h hx hc,q,r.orb_ph h hy hc])
 exact Prod.ext q this
def Vs (S:Plan)(e:Way):List Nat:=(orb S e).map (·.1)
theorem Rules.Vs_nodup (r:Rules S){e:Way}(h:adj S e.1 e.2):(Vs S e).Nodup:=by
 unfold Vs;rw[List.nodup_iff_pairwise_ne,List.pairwise_map];apply List.Pairwise.imp_of_mem _ (List.nodup_iff_pairwise_ne.1 (r.orb_nodup h));intro a b ha hb hab q;exact hab (r.orb_once h ha hb q)
theorem Aqv {e:Way}{m:Nat}(p:Per S e m):(orb S e).length=m:=by rw[orb_per p];simp
theorem Rules.orb_rot (r:Rules S){e:Way}{m k:Nat}(h:adj S e.1 e.2)(p:Per S e m)(hk:k<m):orb S (itr S k e)=(orb S e).drop k++(orb S e).take k:=by
 have hx:=r.itr_adj h k;have px:Per S (itr S k e) m:=by
  refine⟨p.pos,p.le,?_,?_⟩
  ·rw[←itr_add,Nat.add_comm,itr_add,p.back]
  ·intro j j1 j2 q;rw[←itr_add,Nat.add_comm,itr_add]at q;exact p.first j j1 j2 (r.itr_inj (r.itr_adj h j) h k q)
 rw[orb_per px,orb_per p];apply List.ext_getElem
 ·simp;lia
 ·intro i h1 h2;simp only[List.length_map,List.length_range]at h1;rw[List.getElem_map,List.getElem_range]
  by_cases z:i<m-k
  ·rw[List.getElem_append_left (by simpa using z)];simp only[List.getElem_drop,List.getElem_map,List.getElem_range];rw[←itr_add,Nat.add_comm]
  ·rw[List.getElem_append_right (by simp;lia)];simp only[List.getElem_take,List.getElem_map,List.getElem_range,List.length_drop,List.length_map,List.length_range];rw[←itr_add];have:i+k=(i-(m-k))+m:=by lia
   rw[this,itr_add,p.back]
theorem Rules.Vs_zip (r:Rules S){e:Way}(h:adj S e.1 e.2):(Vs S e).zip ((Vs S e).drop 1++(Vs S e).take 1)=orb S e:=by
 obtain⟨m,p⟩:=r.per h;unfold Vs;rw[orb_per p];apply List.ext_getElem
 ·have:=p.pos;simp;lia
 ·intro i h1 h2;simp only[List.length_map,List.length_range]at h2;rw[List.getElem_zip];simp only[List.getElem_map,List.getElem_range];refine Prod.ext rfl ?_;show _=(itr S i e).2;have nx2:(itr S (i+1) e).1=(itr S i e).2:=by rw[itr_succ];rfl
  by_cases z:i<m-1
  ·rw[List.getElem_append_left (by simp;lia)];simp only[List.getElem_drop,List.getElem_map,List.getElem_range];rw[Nat.add_comm,nx2]
  ·rw[List.getElem_append_right (by simp;lia)];simp only[List.getElem_take,List.getElem_map,List.getElem_range,List.length_drop,List.length_map,List.length_range];have e1:i-(m-1)=0:=by lia
   have e2:i+1=m:=by lia
   rw[←nx2,e2,p.back,e1];rfl
theorem Af5:∀(l:List Nat) (a:Nat),l.foldl min a≤a∧(∀x,x∈l→l.foldl min a≤x)∧(l.foldl min a=a∨l.foldl min a∈l)
 | [],a=>⟨Nat.le_refl _,by simp,.inl rfl⟩
 | b::l,a=>by
  obtain⟨h1,h2,h3⟩:=Af5 l (min a b);rw[List.foldl_cons];refine⟨by lia,?_,?_⟩
  ·intro x hx;rcases List.mem_cons.1 hx with z | z
   ·lia
   ·exact h2 x z
  ·rcases h3 with z | z
   ·rcases Nat.le_total a b with y | y
    ·left;rw[z];lia
    ·right;rw[z];simp;left;lia
   ·right;simp[z]
def FstLeast (S:Plan)(s:Way):Prop:=∀y,y∈orb S s→s.1≤y.1
theorem Rules.fromLeast_Vs (r:Rules S){e:Way}(h:adj S e.1 e.2):∃x,x∈orb S e∧FstLeast S x∧fromLeast (Vs S e)=Vs S x:=by
 obtain⟨m,p⟩:=r.per h;cases q:Vs S e with
 | nil =>
  have:=Aqv p;have l0:(Vs S e).length=0:=by rw[q];rfl
  unfold Vs at l0;rw[List.length_map]at l0;have:=p.pos;lia
 | cons a l =>
  obtain⟨h1,h2,h3⟩:=Af5 l a;have hm:l.foldl min a∈Vs S e:=by
   rw[q];rcases h3 with z | z
   ·rw[z];simp
   ·simp[z]
  have hi:=List.idxOf_lt_length_of_mem hm;have hlen:(Vs S e).length=m:=by unfold Vs;rw[List.length_map,Aqv p]
  have hk:(Vs S e).idxOf (l.foldl min a)<m:=by lia
  have xo:itr S ((Vs S e).idxOf (l.foldl min a)) e∈orb S e:=(r.mem_orb h).2 ⟨_,rfl⟩;refine⟨_,xo,?_,?_⟩
  ·intro y hy;have hy':=r.orb_trans h xo hy;have e1:(itr S ((Vs S e).idxOf (l.foldl min a)) e).1=l.foldl min a:=by
    have g:=List.getElem_idxOf hi;have g2:∀(i:Nat) (hi:i<(Vs S e).length),(Vs S e)[i]=(itr S i e).1:=by
     intro i hi;unfold Vs;simp only[orb_per p,List.getElem_map,List.getElem_range]
    rw[g2]at g;exact g
   rw[e1];have:y.1∈Vs S e:=List.mem_map_of_mem hy';rw[q]at this;rcases List.mem_cons.1 this with z | z
   ·rw[z];exact h1
   ·exact h2 _ z
  ·unfold fromLeast;simp only[];rw[←q];rw[show Vs S (itr S ((Vs S e).idxOf (l.foldl min a)) e)=(orb S (itr S ((Vs S e).idxOf (l.foldl min a)) e)).map (·.1)from rfl,r.orb_rot h p hk,List.map_append,List.map_drop,List.map_take];rfl
theorem Rules.least_one (r:Rules S){x y:Way}(hx:adj S x.1 x.2)(lx:FstLeast S x)(ly:FstLeast S y)(hy:y∈orb S x):x=y:=by
 have:=lx y hy;have:=ly x (r.orb_back hx hy);exact r.orb_once hx (r.orb_self hx) hy (by lia)
theorem Rules.mem_outlines (r:Rules S)(l:List Nat):l∈S.outlines↔∃s:Way,adj S s.1 s.2∧FstLeast S s∧0<twiceArea S l∧l=Vs S s:=by
 unfold Plan.outlines;rw[List.mem_filter,List.mem_eraseDups,List.mem_map];simp only[decide_eq_true_eq];constructor
 ·rintro⟨⟨e,he,q⟩,ha⟩;rw[mem_ways]at he;rw[Afz]at q;obtain⟨x,hx,hl,q2⟩:=r.fromLeast_Vs he;refine⟨x,r.orb_adj he hx,hl,ha,?_⟩;rw[←q2,←q];rfl
 ·rintro⟨s,hs,hl,ha,q⟩;refine⟨⟨s,(mem_ways S s).2 hs,?_⟩,ha⟩;rw[Afz];obtain⟨x,hx,hl',q2⟩:=r.fromLeast_Vs hs;have:=r.least_one hs hl hl' hx;subst this;rw[q,←q2];rfl
theorem Af2 {α:Type}[BEq α][LawfulBEq α]:∀(n:Nat) (l:List α),l.length≤n→l.eraseDups.Nodup
 | _,[],_=>by simp
 | 0,_::_,h=>by simp at h
 | n+1,a::l,h=>by
  rw[List.eraseDups_cons];refine List.nodup_cons.2 ⟨?_,Af2 n _ ?_⟩
  ·rw[List.mem_eraseDups,List.mem_filter];rintro⟨_,z⟩;simp at z
  ·have:=List.length_filter_le (fun b=>!b==a) l;simp only[List.length_cons]at h;lia
theorem Ag7 (S:Plan):S.outlines.Nodup:=by
 unfold Plan.outlines;exact List.Pairwise.filter _ (Af2 _ _ (Nat.le_refl _))
theorem Rules.Vs_inj (r:Rules S){s t:Way}(hs:adj S s.1 s.2)(ht:adj S t.1 t.2)(h:Vs S s=Vs S t):s=t:=by
 have key:∀{s:Way},adj S s.1 s.2→∃l,Vs S s=s.1::s.2::l:=by
  intro s hs;obtain⟨m,p⟩:=r.per hs;have ne:=(r.adj_lt hs).2.2;have m2:2≤m:=by
   have:=p.pos;rcases Nat.lt_or_ge 1 m with z | z
   ·exact z
   ·have:m=1:=by lia
    subst this;have b:=p.back;have e1:(itr S 1 s).1=s.2:=rfl;rw[b]at e1;exact absurd e1 ne
  obtain⟨k,rfl⟩ : ∃k,m=k+2:=⟨m-2,by lia⟩
  unfold Vs;rw[orb_per p,List.range_succ_eq_map,List.range_succ_eq_map];exact⟨_,rfl⟩
 obtain⟨l1,e1⟩:=key hs;obtain⟨l2,e2⟩:=key ht;rw[e1,e2]at h;simp only[List.cons.injEq]at h;exact Prod.ext h.1 h.2.1
end
def Auo (a:Nat→Nat→Int):List Way→Int
 | []=>0
 | e::r=>a e.1 e.2+Auo a r
theorem Ap1 (n:Nat)(f:Nat→Nat→Int)(hd:∀p,f p p=0) :
 sm n (fun p=>sm n (fun q=>f p q))=sm n (fun p=>sm n (fun q=>if p<q then f p q+f q p else 0)):=by
 have e1:sm n (fun p=>sm n (fun q=>f p q))=sm n (fun p=>sm n (fun q=>if p<q then f p q else 0))+sm n (fun p=>sm n (fun q=>if q<p then f p q else 0)):=by
  rw[←Acd];apply Aam;intro p _;rw[←Acd];apply Aam;intro q _;rcases Nat.lt_trichotomy p q with h | h | h
  ·rw[if_pos h,if_neg (by lia)];lia
  ·subst h;rw[if_neg (by lia),hd p];lia
  ·rw[if_neg (by lia),if_pos h];lia
 rw[e1,Apq n n (fun p q=>if q<p then f p q else 0),←Acd];apply Aam;intro p _;rw[←Acd];apply Aam;intro q _
 by_cases h:p<q
 ·simp only[if_pos h]
 ·simp only[if_neg h];rfl
theorem Aov (n:Nat)(a:Nat→Nat→Int):∀hs:List Way,hs.Nodup→(∀e,e∈hs→e.1<n∧e.2<n)→
 Auo a hs=sm n (fun p=>sm n (fun q=>nd ((p,q)∈hs)*a p q))
 | [],_,_=>by
  rw[Abb]
  ·rfl
  ·intro p _;apply Abb;intro q _;rw[Aai (by simp)];simp
 | e::r,nd',lt=>by
  have nr:=List.nodup_cons.1 nd';have ih:=Aov n a r nr.2 (fun x hx=>lt x (by simp[hx]));have l1:=lt e (by simp);unfold Auo;have one':a e.1 e.2=sm n (fun p=>sm n (fun q=>nd ((p,q)=e)*a p q)):=by
   rw[Af0 l1.1,Af0 l1.2]
   ·rw[Abv (by rfl)];lia
   ·intro i _ hi;rw[Aai (by intro z;apply hi;rw[←z])];simp
   ·intro i _ hi;apply Abb;intro q _;rw[Aai (by intro z;apply hi;rw[←z])];simp
  rw[one',ih,←Acd];apply Aam;intro p _;rw[←Acd];apply Aam;intro q _
  by_cases h:(p,q)=e
  ·rw[Abv h,Aai (P:=(p,q)∈r) (by rw[h];exact nr.1),Abv (P:=(p,q)∈e::r) (by rw[h];simp)];lia
  ·rw[Aai h,Aah (P:=(p,q)∈e::r) (Q:=(p,q)∈r) (by simp[h])];lia
theorem Aow {S:Plan}{a:Nat→Nat→Int}(ha:∀p q,a p q =-a q p){hs:List Way}(n1:hs.Nodup)(had:∀e,e∈hs→adj S e.1 e.2)(r:Rules S) :
 Auo a hs=fl S.pts.length (cg (adj S) (fun u v=>(u,v)∈hs)) a:=by
 rw[Aov S.pts.length a hs n1 (fun e he=>⟨(r.adj_lt (had e he)).1,(r.adj_lt (had e he)).2.1⟩),
  Ap1       _ (fun p q => nd ((p, q) ∈ hs) * a p q) (by intro p; have := ha p p; have z : a p p = 0 := by lia
                                                        rw[z];simp)]
 unfold fl;apply Aam;intro p _;apply Aam;intro q _
 by_cases h:p<q
 ·rw[if_pos h,if_pos h];unfold cg;rw[Aah (show adj S p q∧(p,q)∈hs↔(p,q)∈hs from⟨fun z=>z.2,fun z=>⟨had _ z,z⟩⟩),Aah (show adj S q p∧(q,p)∈hs↔(q,p)∈hs from⟨fun z=>z.2,fun z=>⟨had _ z,z⟩⟩),ha q p]
  grind
 ·rw[if_neg h,if_neg h]
def iUp (S:Plan)(z:Pt)(p q:Nat):Prop:=(S.pt p).y≤z.y∧z.y<(S.pt q).y∧0<turn (S.pt p) (S.pt q) z
def iDn (S:Plan)(z:Pt)(p q:Nat):Prop:=(S.pt q).y≤z.y∧z.y<(S.pt p).y∧turn (S.pt p) (S.pt q) z<0
noncomputable def aI (S:Plan) (z:Pt) (p q:Nat):Int:=nd (iUp S z p q)-nd (iDn S z p q)
theorem turn_rev (p q z:Pt):turn q p z =-turn p q z:=by unfold turn dx dy;grind
theorem Axn (S:Plan)(z:Pt)(p q:Nat):aI S z p q =-aI S z q p:=by
 unfold aI;have h1:iUp S z p q↔iDn S z q p:=by
  unfold iUp iDn;rw[turn_rev (S.pt p) (S.pt q) z];constructor<;>(intro h;exact⟨h.1,h.2.1,by lia⟩)
 have h2:iUp S z q p↔iDn S z p q:=by
  unfold iUp iDn;rw[turn_rev (S.pt q) (S.pt p) z];constructor<;>(intro h;exact⟨h.1,h.2.1,by lia⟩)
 rw[Aah h1,Aah h2];lia
theorem Amq (S:Plan)(z:Pt)(g:Way→Bool)(hg:∀e,g e=true↔iUp S z e.1 e.2∨iDn S z e.1 e.2):∀hs:List Way,((hs.filter g).length:Int)%2=Auo (aI S z) hs%2
 | []=>rfl
 | e::r=>by
  have ih:=Amq S z g hg r;unfold Auo;have excl:¬(iUp S z e.1 e.2∧iDn S z e.1 e.2):=by unfold iUp iDn;lia
  by_cases h:g e=true
  ·rw[List.filter_cons_of_pos h,List.length_cons];rcases (hg e).1 h with u | u
   ·have:aI S z e.1 e.2=1:=by unfold aI;rw[Abv u,Aai (fun w=>excl ⟨u,w⟩)];rfl
    lia
   ·have:aI S z e.1 e.2 = -1:=by unfold aI;rw[Abv u,Aai (fun w=>excl ⟨w,u⟩)];rfl
    lia
  ·rw[List.filter_cons_of_neg h];have:aI S z e.1 e.2=0:=by
    unfold aI;rw[Aai (fun w=>h ((hg e).2 (.inl w))),Aai (fun w=>h ((hg e).2 (.inr w)))];rfl
   lia
def hz (z:Pt):Int:=2*((NN*z.y+z.x:Nat):Int)
theorem Bb1 (S:Plan)(p q:Nat)(z:Pt):num (xx S) (yy S) p q (hz z)-2*(z.x:Int)*(yy S q-yy S p)=8388608*turn (S.pt p) (S.pt q) z:=by
 unfold num hz xx yy hgt NN turn dx dy;simp only[Int.natCast_add,Int.natCast_mul]
 grind
section
variable {S:Plan}{K:Nat→Nat→Int}{M:Int}
theorem Bbc (k:Den (yy S) (adj S) K M){p q:Nat}(a:adj S p q)(h:p<q)(z:Pt) :
 2*(z.x:Int)*M<Ps (xx S) (yy S) K p q (hz z)↔0<turn (S.pt p) (S.pt q) z:=by
 have k1:=k.kpos p q a h;have m1:=k.kmul p q a h;have e:=Bb1 S p q z;unfold Ps;have e2:num (xx S) (yy S) p q (hz z)*K p q-2*(z.x:Int)*M=8388608*turn (S.pt p) (S.pt q) z*K p q:=by
  rw[←e,←m1];grind
 constructor
 ·intro w;have:0<8388608*turn (S.pt p) (S.pt q) z*K p q:=by lia
  have:=lp this k1;lia
 ·intro w;have:=Aar (show 0<8388608*turn (S.pt p) (S.pt q) z by lia) k1;lia
theorem Acg {p q:Pt}(hp:p.x<NN)(hq:q.x<NN):NN*p.y+p.x<NN*q.y+q.x↔p.below q=true:=by
 rw[below_iff];constructor
 ·intro h;rcases Nat.lt_trichotomy p.y q.y with z | z | z
  ·exact .inl z
  ·rw[z]at h;exact .inr ⟨z,by lia⟩
  ·have:=Any (d:=p.x) hq z;lia
 ·rintro(z | ⟨z,w⟩)
  ·exact Any hp z
  ·rw[z];lia
theorem Ayt (r:Rules S){p q:Nat}(a:adj S p q)(h:p<q){z:Pt}(hzx:z.x≤S.w)(off:isOn (S.pt p) (S.pt q) z=false) :
 nd (yy S p<hz z∧hz z<yy S q∧0<turn (S.pt p) (S.pt q) z)-aI S z p q =
  nd ((S.pt q).y=z.y∧z.x<(S.pt q).x)-nd ((S.pt p).y=z.y∧z.x<(S.pt p).x):=by
 have hq:=(r.adj_lt a).2.1;have hp:=(r.adj_lt a).1;have bel:=(below_iff _ _).1 (r.ord p q h hq);have wb:=r.big;have xp:=r.inx p hp;have xq:=r.inx q hq;have e1:yy S p<hz z↔(S.pt p).below z=true:=by
  rw[←Acg (by unfold NN;lia) (by unfold NN;lia)];unfold yy hz hgt;lia
 have e2:hz z<yy S q↔z.below (S.pt q)=true:=by
  rw[←Acg (by unfold NN;lia) (by unfold NN;lia)];unfold yy hz hgt;lia
 rw[Aah (P:=yy S p<hz z∧_) (Q:=(S.pt p).below z=true∧z.below (S.pt q)=true∧0<turn (S.pt p) (S.pt q) z) (by rw[e1,e2]),below_iff,below_iff];unfold aI iUp iDn;have t1:z.y=(S.pt p).y→turn (S.pt p) (S.pt q) z=(((S.pt q).y:Int)-(S.pt p).y)*(((S.pt p).x:Int)-z.x):=by
  intro w;unfold turn dx dy;rw[w];grind
 have t2:z.y=(S.pt q).y→turn (S.pt p) (S.pt q) z=(((S.pt q).y:Int)-(S.pt p).y)*(((S.pt q).x:Int)-z.x):=by
  intro w;unfold turn dx dy;rw[w];grind
 have on:turn (S.pt p) (S.pt q) z=0→(min (S.pt p).x (S.pt q).x≤z.x∧z.x≤max (S.pt p).x (S.pt q).x)→((S.pt p).y≤z.y∧z.y≤(S.pt q).y)→False:=by
  intro w1 w2 w3;have:isOn (S.pt p) (S.pt q) z=true:=by
   unfold isOn between;rw[w1];simp;lia
  rw[this]at off;exact Bool.noConfusion off
 rw[Aai (P:=(S.pt q).y≤z.y∧_) (by lia)];generalize (S.pt p).x=a1 at *;generalize (S.pt p).y=b1 at *;generalize (S.pt q).x=a2 at *;generalize (S.pt q).y=b2 at *;generalize turn (S.pt p) (S.pt q) z=t at *;rcases Nat.lt_or_ge z.y b1 with c1 | c1
 ·rw[Aai (by lia),Aai (by lia),Aai (by lia),Aai (by lia)];rfl
 rcases Nat.lt_or_ge b2 z.y with c2 | c2
 ·rw[Aai (by lia),Aai (by lia),Aai (by lia),Aai (by lia)];rfl
 by_cases f1:z.y=b1
 ·by_cases f2:z.y=b2
  ·-- Ax2
   have t0 : t = 0 := by rw [t1 f1]; have : (b2 : Int) - b1 = 0 := by lia
                         rw[this];simp
   rw[Aai (by lia),Aai (by lia),Aah (P:=b2=z.y∧z.x<a2) (Q:=b1=z.y∧z.x<a1)]
   ·lia
   ·constructor
    ·intro w;refine⟨f1.symm,?_⟩;rcases Nat.lt_or_ge z.x a1 with y | y
     ·exact y
     ·exact(on t0 (by lia) (by lia)).elim
    ·intro w;lia
  ·have t1':=t1 f1;have bp:(0:Int)<(b2:Int)-b1:=by lia
   have s:0<t↔z.x<a1:=by
    rw[t1'];constructor
    ·intro w;have:(0:Int)<(a1:Int)-z.x:=lp (b:=(b2:Int)-b1) (by rw[Int.mul_comm];exact w) bp;lia
    ·intro w;exact Aar bp (by lia)
   rw[Aai (P:=b2=z.y∧_) (by lia)]
   by_cases w:z.x<a1
   ·rw[Aai (by lia),Abv (by lia),Abv (by lia)];rfl
   ·rw[Aai (by lia),Aai (by lia),Aai (by lia)];rfl
 ·by_cases f2:z.y=b2
  ·have t2':=t2 f2;have bp:(0:Int)<(b2:Int)-b1:=by lia
   have s:0<t↔z.x<a2:=by
    rw[t2'];constructor
    ·intro w;have:(0:Int)<(a2:Int)-z.x:=lp (b:=(b2:Int)-b1) (by rw[Int.mul_comm];exact w) bp;lia
    ·intro w;exact Aar bp (by lia)
   rw[Aai (P:=b1=z.y∧_) (by lia),Aai (P:=b1≤z.y∧z.y<b2∧_) (by lia)];rw[Aah (P:=(b1<z.y∨_)∧_) (Q:=b2=z.y∧z.x<a2)]
   ·lia
   ·lia
  ·rw[Aai (P:=b1=z.y∧_) (by lia),Aai (P:=b2=z.y∧_) (by lia),Aah (P:=(b1<z.y∨_)∧_) (Q:=b1≤z.y∧z.y<b2∧0<t)]
   ·lia
   ·lia
end
theorem Ajs {n:Nat}{f:Nat→Int}(h:∀i,i<n→f i≤0):sm n f≤0:=by
 induction n with
 | zero=>simp[sm]
 | succ n ih=>have:=ih (fun i hi=>h i (by lia));have:=h n (by lia);simp only[sm];lia
def fct:Nat→Nat
 | 0=>1
 | n+1=>(n+1)*fct n
theorem Als:∀n,0<fct n
 | 0=>by decide
 | n+1=>Nat.mul_pos (by lia) (Als n)
theorem Alt {d:Nat}:∀{n:Nat},1≤d→d≤n→d ∣ fct n
 | 0,h,k=>by lia
 | n+1,h,k=>by
  by_cases e:d=n+1
  ·subst e;exact Nat.dvd_mul_right _ _
  ·exact Nat.dvd_trans (Alt h (by lia)) (Nat.dvd_mul_left _ _)
section
variable {S:Plan}
theorem Rules.den (r:Rules S):∃K M,Den (yy S) (adj S) K M:=by
 obtain⟨B,hB⟩:=Ai4 (fun i=>yy S i) S.pts.length;refine⟨fun p q=>((fct B/(yy S q-yy S p).toNat:Nat):Int),(fct B:Int),?_,?_,?_⟩
 ·have:=Als B;lia
 ·intro p q a h;have hm:=r.draw.mono p q h (r.adj_lt a).2.1;have b1:=hB q (r.adj_lt a).2.1;have y0:0≤yy S p:=by unfold yy;lia
  have:0<fct B/(yy S q-yy S p).toNat:=Nat.div_pos (Nat.le_of_dvd (Als B) (Alt (by lia) (by lia))) (by lia);show(0:Int)<((fct B/(yy S q-yy S p).toNat:Nat):Int);lia
 ·intro p q a h;have hm:=r.draw.mono p q h (r.adj_lt a).2.1;have b1:=hB q (r.adj_lt a).2.1;have y0:0≤yy S p:=by unfold yy;lia
  have dv:(yy S q-yy S p).toNat ∣ fct B:=Alt (by lia) (by lia);have e:=Nat.div_mul_cancel dv;have e2:(((yy S q-yy S p).toNat:Nat):Int)=yy S q-yy S p:=by lia
  show((fct B/(yy S q-yy S p).toNat:Nat):Int)*(yy S q-yy S p)=(fct B:Int);generalize (yy S q-yy S p).toNat=t at e e2 ⊢;rw[←e2,←Int.natCast_mul,e]
noncomputable abbrev co (S:Plan) (s:Way):Nat→Nat→Int:=cg (adj S) (fun u v=>(u,v)∈orb S s)
theorem Rules.circ (r:Rules S){s:Way}(h:adj S s.1 s.2):Akx S.pts.length (adj S) (co S s):=Aru r.draw r.rot (r.orb_cl h)
theorem Rules.inside_wn (r:Rules S){K:Nat→Nat→Int}{M:Int}(k:Den (yy S) (adj S) K M){s:Way}(h:adj S s.1 s.2){z:Pt}(zx:z.x≤S.w)
 (off:∀l,l∈S.lines→isOn (S.pt l.1) (S.pt l.2) z=false) :
 insideOf S (Vs S s) z=true↔wn S.pts.length (xx S) (yy S) K (co S s) (hz z) (2*(z.x:Int)*M)%2=1:=by
 have hc:=r.circ h;have e:wn S.pts.length (xx S) (yy S) K (co S s) (hz z) (2*(z.x:Int)*M)=Auo (aI S z) (orb S s):=by
  rw[Aow (Axn S z) (r.orb_nodup h) (fun e he=>r.orb_adj h he) r];unfold wn;apply Arl hc (fun w=>nd ((S.pt w).y=z.y∧z.x<(S.pt w).x));intro p q hp hq pq a;have of:=off (p,q) (r.adj_mem a pq);have ra:=Ayt r a pq zx of;have ii:(yy S p<hz z∧hz z<yy S q∧2*(z.x:Int)*M<Ps (xx S) (yy S) K p q (hz z))↔(yy S p<hz z∧hz z<yy S q∧0<turn (S.pt p) (S.pt q) z):=by
   rw[Bbc k a pq z]
  rw[←Aah ii]at ra;exact ra
 rw[e];unfold insideOf;rw[r.Vs_zip h,decide_eq_true_iff]
 have:=Amq S z (fun(x:Nat×Nat)=>let p:=S.pt x.1;let q:=S.pt x.2
  (decide (p.y≤z.y)&&(decide (z.y<q.y)&&decide (0<turn p q z)))||(decide (q.y≤z.y)&&(decide (z.y<p.y)&&decide (turn p q z<0)))) (by
   intro e;unfold iUp iDn
   simp) (orb S s)
 rw[←this];constructor<;>(intro w;lia)
theorem Ai0 (a:Nat→Nat→Int):∀l:List Way,(l.map fun(x:Nat×Nat)=>a x.1 x.2).foldr (fun(a b:Int)=>a+b) 0=Auo a l
 | []=>rfl
 | e::r=>by rw[List.map_cons,List.foldr_cons,Ai0 a r];rfl
theorem Rules.area_fl (r:Rules S){s:Way}(h:adj S s.1 s.2) :
 8388608*twiceArea S (Vs S s)=fl S.pts.length (co S s) (fun p q=>(xx S p+xx S q)*(yy S q-yy S p)):=by
 have hc:=r.circ h;unfold twiceArea
 rw[r.Vs_zip h,Ai0 (fun p q=>((S.pt p).x:Int)*((S.pt q).y:Int)-((S.pt q).x:Int)*((S.pt p).y:Int)),
  Aow (by intro p q;grind) (r.orb_nodup h) (fun e he=>r.orb_adj h he) r,←An4]
 apply Arl hc (fun w=>- (xx S w*yy S w));intro p q _ _ _ _;unfold xx yy hgt NN;simp only[Int.natCast_add,Int.natCast_mul]
 grind
structure Aoq (S:Plan):Prop where
 a01:adj S 0 1
 min:∀t,adj S 0 t→t≠1→0<T (xx S) (yy S) 0 1 t
theorem Rules.ph_face (r:Rules S)(o:Aoq S){s:Way}(h:adj S s.1 s.2){u v:Nat}(a:adj S u v) :
 ph S.pts.length (xx S) (yy S) (co S s) u v=nd ((u,v)∈orb S s)-nd ((1,0)∈orb S s) :=
 Bcn r.draw r.rot r.con o.a01 o.min (r.orb_cl h) u v a
theorem hR (S:Plan):∃R:Nat,∀w,w<S.pts.length→hgt S w≤R:=by
 obtain⟨B,hB⟩:=Ai4 (fun i=>(hgt S i:Int)) S.pts.length;exact⟨B,fun w hw=>by have:=hB w hw;lia⟩
theorem Rules.area_in (r:Rules S)(o:Aoq S){s:Way}(h:adj S s.1 s.2)(no:(1,0)∉orb S s){u v:Nat}(a:adj S u v)(hu:u<v)(m:(u,v)∈orb S s) :
 0<twiceArea S (Vs S s):=by
 obtain⟨K,M,k⟩:=r.den;obtain⟨R,hr⟩:=hR S;have e:=r.area_fl h
 have:=Aui r.draw k (H:=hgt S) (R:=R) (fun _ _=>rfl) hr (r.circ h) (by
  intro u v a _;rw[r.ph_face o h a,Aai no]
  by_cases z:(u,v)∈orb S s
  ·rw[Abv z];lia
  ·rw[Aai z];lia) a hu (by rw[r.ph_face o h a,Aai no,Abv m];lia)
 lia
theorem Rules.area_out (r:Rules S)(o:Aoq S){s:Way}(h:adj S s.1 s.2)(yes:(1,0)∈orb S s):twiceArea S (Vs S s)≤0:=by
 obtain⟨K,M,k⟩:=r.den;obtain⟨R,hr⟩:=hR S;have e:=r.area_fl h;have hc:=r.circ h;obtain⟨B,_,e2⟩:=Anf r.draw k (H:=hgt S) (R:=R) (fun _ _=>rfl) hr hc;have w0:∀(i:Nat) (t:Int),wn S.pts.length (xx S) (yy S) K (co S s) (2*(i:Int)+1) t≤0:=by
  intro i t;rcases Ba3 r.draw k (2*(i:Int)+1) t (by intro w _;unfold yy;lia)with z | z
  ·rw[z.2 _ hc];lia
  ·obtain⟨u,v,a,_,_,_,_,z⟩:=z;rw[z _ hc,r.ph_face o h a,Abv yes]
   by_cases z:(u,v)∈orb S s
   ·rw[Abv z];lia
   ·rw[Aai z];lia
 have:sm R (fun i=>sm (2*B) (fun t=>wn S.pts.length (xx S) (yy S) K (co S s) (2*(i:Int)+1) ((t:Int)-B)))≤0 :=
  Ajs (fun i _=>Ajs (fun t _=>w0 i _))
 have kp:=k.pos;rcases Int.lt_or_le 0 (fl S.pts.length (co S s) (fun p q=>(xx S p+xx S q)*(yy S q-yy S p)))with z | z
 ·have:=Aar kp z;lia
 ·lia
theorem Rules.hold_one (r:Rules S)(o:Aoq S){s t:Way}(hs:adj S s.1 s.2)(ht:adj S t.1 t.2)(as:0<twiceArea S (Vs S s))(at':0<twiceArea S (Vs S t)){z:Pt}(zx:z.x≤S.w)
 (off:∀l,l∈S.lines→isOn (S.pt l.1) (S.pt l.2) z=false) (lev:∀w,w<S.pts.length→yy S w≠hz z)
 (is:insideOf S (Vs S s) z=true) (it:insideOf S (Vs S t) z=true):t∈orb S s:=by
 obtain⟨K,M,k⟩:=r.den;rw[r.inside_wn k hs zx off]at is;rw[r.inside_wn k ht zx off]at it;have ns:(1,0)∉orb S s:=fun z=>by have:=r.area_out o hs z;lia
 have nt:(1,0)∉orb S t:=fun z=>by have:=r.area_out o ht z;lia
 rcases Ba3 r.draw k (hz z) (2*(z.x:Int)*M) lev with w | w
 ·rw[w.2 _ (r.circ hs)]at is;lia
 ·obtain⟨u,v,a,_,_,_,_,w⟩:=w;rw[w _ (r.circ hs),r.ph_face o hs a,Aai ns]at is;rw[w _ (r.circ ht),r.ph_face o ht a,Aai nt]at it;have m1:(u,v)∈orb S s:=by
   apply Classical.byContradiction;intro q;rw[Aai q]at is;lia
  have m2:(u,v)∈orb S t:=by
   apply Classical.byContradiction;intro q;rw[Aai q]at it;lia
  exact r.orb_trans hs m1 (r.orb_back ht m2)
theorem Rules.hold_some (r:Rules S)(o:Aoq S){z:Pt}(zx:z.x≤S.w)
 (off:∀l,l∈S.lines→isOn (S.pt l.1) (S.pt l.2) z=false) (lev:∀w,w<S.pts.length→yy S w≠hz z)
 (ex:∃p q,adj S p q∧p<q∧yy S p<hz z∧hz z<yy S q∧0<turn (S.pt p) (S.pt q) z)
 (inn:∀p q,adj S p q→p<q→yy S p<hz z→hz z<yy S q→0<turn (S.pt p) (S.pt q) z→(p,q)∉orb S (1,0)) :
 ∃s:Way,adj S s.1 s.2∧FstLeast S s∧0<twiceArea S (Vs S s)∧insideOf S (Vs S s) z=true:=by
 obtain⟨K,M,k⟩:=r.den;have a10:adj S ((1,0):Way).1 ((1,0):Way).2:=r.draw.sym _ _ o.a01;rcases Ba3 r.draw k (hz z) (2*(z.x:Int)*M) lev with w | w
 ·obtain⟨p,q,a,h,y1,y2,t⟩:=ex;exact absurd ((Bbc k a h z).2 t) (w.1 p q a h y1 y2)
 ·obtain⟨u,v,a,h,y1,y2,t,w⟩:=w;have nout:=inn u v a h y1 y2 ((Bbc k a h z).1 t);obtain⟨x,hx,lx,_⟩:=r.fromLeast_Vs (e:=(u,v)) a;have ax:=r.orb_adj (e:=(u,v)) a hx;have mx:(u,v)∈orb S x:=r.orb_back (e:=(u,v)) a hx;have no:(1,0)∉orb S x:=fun q=>nout (r.orb_back (e:=(u,v)) a (r.orb_trans (e:=(u,v)) a hx q));refine⟨x,ax,lx,r.area_in o ax no a h mx,?_⟩;rw[r.inside_wn k ax zx off,w _ (r.circ ax),r.ph_face o ax a,Abv mx,Aai no]
  rfl
end
theorem Ae1 (P:Nat→Prop):∀(L:List Nat),L.Pairwise (·<·)→∀x y,x∈L→y∈L→x<y→¬P x→P y→
 ∃l1 a b l2,L=l1++a::b::l2∧¬P a∧P b∧x≤a∧b≤y
 | [],_,x,_,hx,_,_,_,_=>by simp at hx
 | [h],_,x,y,hx,hy,hxy,_,_=>by simp at hx hy;lia
 | h::k::t,s,x,y,hx,hy,hxy,nx,py=>by
  have s1:=List.pairwise_cons.1 s
  by_cases pk:P k
  ·by_cases ph:P h
   ·-- x is behind h
    have xh:x≠h:=fun e=>nx (e ▸ ph);have hx':x∈k::t:=by
     rcases List.mem_cons.1 hx with z | z
     ·exact absurd z xh
     ·exact z
    have xk:=s1.1 x hx';have hy':y∈k::t:=by
     rcases List.mem_cons.1 hy with z | z
     ·lia
     ·exact z
    obtain⟨l1,a,b,l2,e,q⟩:=Ae1 P (k::t) s1.2 x y hx' hy' hxy nx py;exact⟨h::l1,a,b,l2,by rw[e];rfl,q⟩
   ·by_cases xh:x=h
    ·subst xh;refine⟨[],x,k,t,rfl,ph,pk,Nat.le_refl _,?_⟩;rcases List.mem_cons.1 hy with z | z
     ·lia
     ·rcases List.mem_cons.1 z with z | z
      ·lia
      ·have:=(List.pairwise_cons.1 s1.2).1 y z;lia
    ·have hx':x∈k::t:=by
      rcases List.mem_cons.1 hx with z | z
      ·exact absurd z xh
      ·exact z
     have xk:=s1.1 x hx';have hy':y∈k::t:=by
      rcases List.mem_cons.1 hy with z | z
      ·lia
      ·exact z
     obtain⟨l1,a,b,l2,e,q⟩:=Ae1 P (k::t) s1.2 x y hx' hy' hxy nx py;exact⟨h::l1,a,b,l2,by rw[e];rfl,q⟩
  ·-- go on from k
   have hy':y∈k::t:=by
    rcases List.mem_cons.1 hy with z | z
    ·rcases List.mem_cons.1 hx with w | w
     ·lia
     ·have:=s1.1 x w;lia
    ·exact z
   have yk:y≠k:=fun e=>pk (e ▸ py);have ky:k<y:=by
    rcases List.mem_cons.1 hy' with z | z
    ·exact absurd z yk
    ·exact(List.pairwise_cons.1 s1.2).1 y z
   by_cases xh:x=h
   ·obtain⟨l1,a,b,l2,e,q1,q2,q3,q4⟩:=Ae1 P (k::t) s1.2 k y (by simp) hy' ky pk py;have:=s1.1 k (by simp);exact⟨h::l1,a,b,l2,by rw[e];rfl,q1,q2,by lia,q4⟩
   ·have hx':x∈k::t:=by
     rcases List.mem_cons.1 hx with z | z
     ·exact absurd z xh
     ·exact z
    obtain⟨l1,a,b,l2,e,q⟩:=Ae1 P (k::t) s1.2 x y hx' hy' hxy nx py;exact⟨h::l1,a,b,l2,by rw[e];rfl,q⟩
theorem Aji {l1 l2:List Nat}{a b:Nat}:∀{L:List Nat},L=l1++a::b::l2→(a,b)∈L.zip (L.drop 1):=by
 intro L e;subst e
 induction l1 with
 | nil=>simp
 | cons x l ih =>
  cases l with
  | nil=>simp
  | cons y l =>
   simp only[List.cons_append,List.drop_succ_cons,List.drop_zero,List.zip_cons_cons,List.mem_cons]at ih ⊢;exact .inr ih
theorem Abq (S:Plan)(on:Pt→Bool):(edgePts S on).Pairwise (·<·):=by
 unfold edgePts;exact List.Pairwise.filter _ List.pairwise_lt_range
theorem Aea (S:Plan)(on:Pt→Bool)(i:Nat):i∈edgePts S on↔i<S.pts.length∧on (S.pt i)=true:=by
 unfold edgePts;rw[List.mem_filter,List.mem_range]
theorem Aiv {S:Plan}{p:Pt}(h:S.pts.contains p=true):∃i,i<S.pts.length∧S.pt i=p:=by
 rw[List.contains_iff_mem]at h;obtain⟨i,hi,e⟩:=List.mem_iff_getElem.1 h;refine⟨i,hi,?_⟩;unfold Plan.pt;rw[List.getD_eq_getElem?_getD,List.getElem?_eq_getElem hi];exact e
section
variable {S:Plan}
theorem Rules.chain (r:Rules S){on:Pt→Bool}(ch:chained S (edgePts S on)=true){P:Nat→Prop}{x y:Nat}(hx:x<S.pts.length)(ox:on (S.pt x)=true)
 (hy:y<S.pts.length) (oy:on (S.pt y)=true) (h:x<y) (nx:¬P x) (py:P y) :
 ∃a b,adj S a b∧a<b∧on (S.pt a)=true∧on (S.pt b)=true∧¬P a∧P b∧x≤a∧b≤y∧∀c,c<S.pts.length→on (S.pt c)=true→c≤a∨b≤c:=by
 have so:=Abq S on;obtain⟨l1,a,b,l2,e,q1,q2,q3,q4⟩:=Ae1 P (edgePts S on) so x y ((Aea S on x).2 ⟨hx,ox⟩) ((Aea S on y).2 ⟨hy,oy⟩) h nx py;have ma:=(Aea S on a).1 (by rw[e];simp);have mb:=(Aea S on b).1 (by rw[e];simp);have j:S.joined a b=true:=by
  unfold chained at ch;rw[List.all_eq_true]at ch;exact ch (a,b) (Aji e)
 have so':=so;rw[e]at so';have s2:=List.pairwise_append.1 so';have s3:=List.pairwise_cons.1 s2.2.1;have s4:=List.pairwise_cons.1 s3.2;have ab:=s3.1 b (by simp);refine⟨a,b,?_,ab,ma.2,mb.2,q1,q2,q3,q4,?_⟩
 ·unfold Plan.joined at j;rw[List.contains_iff_mem]at j;have e1:min a b=a:=by lia
  have e2:max a b=b:=by lia
  rw[e1,e2]at j;exact .inl j
 ·intro c hc oc;have mc:=(Aea S on c).2 ⟨hc,oc⟩;rw[e]at mc;rcases List.mem_append.1 mc with z | z
  ·left;have:=s2.2.2 c z a (by simp);lia
  ·rcases List.mem_cons.1 z with z | z
   ·left;lia
   ·rcases List.mem_cons.1 z with z | z
    ·right;lia
    ·right;have:=s4.1 c z;lia
theorem Rules.prev (r:Rules S){on:Pt→Bool}(ch:chained S (edgePts S on)=true){x v:Nat}(hv:v<S.pts.length)(ov:on (S.pt v)=true)
 (ox:on (S.pt x)=true) (h:x<v):∃w,adj S v w∧w<v∧on (S.pt w)=true:=by
 obtain⟨a,b,ad,ab,oa,ob,q1,q2,q3,q4,all⟩:=r.chain ch (P:=fun i=>v≤i) (show x<S.pts.length by lia) ox hv ov h (by lia) (Nat.le_refl _);have:b=v:=by have:=all v hv ov;lia
 subst this;exact⟨a,r.draw.sym _ _ ad,ab,oa⟩
theorem Rules.succ (r:Rules S){on:Pt→Bool}(ch:chained S (edgePts S on)=true){y v:Nat}(ov:on (S.pt v)=true)
 (hy:y<S.pts.length) (oy:on (S.pt y)=true) (h:v<y):∃w,adj S v w∧v<w∧on (S.pt w)=true:=by
 obtain⟨a,b,ad,ab,oa,ob,q1,q2,q3,q4,all⟩:=r.chain ch (P:=fun i=>v<i) (show v<S.pts.length by lia) ov hy oy h (by lia) h;have:a=v:=by have:=all v (by lia) ov;lia
 subst this;exact⟨b,ad,ab,ob⟩
theorem Rules.flat (r:Rules S){u v w:Nat}(hu:adj S v u)(hw:adj S v w)(opp:¬(u<v↔w<v))(line:∀x,adj S v x→0≤turn (S.pt v) (S.pt u) (S.pt x))
 (z:turn (S.pt v) (S.pt u) (S.pt w)=0) (zz:∀x,adj S v x→turn (S.pt v) (S.pt u) (S.pt x)=0→turn (S.pt v) (S.pt w) (S.pt x)=0):S.next u v=w:=by
 apply Ag8 r hu;refine⟨hw,?_⟩;intro x hx hn;have e1:hf (xx S) (yy S) v u w=1:=by
  unfold hf;rw[Abi,z];simp;exact fun q=>opp q
 rw[e1]
 by_cases e:x=u
 ·subst e;rw[Agm];lia
 ·have l:=line x hx;have:0<T (xx S) (yy S) v u x:=by
   rcases Int.lt_or_le 0 (T (xx S) (yy S) v u x)with y | y
   ·exact y
   ·exfalso;rw[Abi]at y;have t0:turn (S.pt v) (S.pt u) (S.pt x)=0:=by lia
    by_cases s:u<v↔x<v
    ·have:=r.draw.apart hu hx (Ne.symm e) s;rw[Abi]at this;lia
    ·have:=r.draw.apart hw hx (Ne.symm hn) (by lia);rw[Abi,zz x hx t0]at this;lia
  rw[Av6 this];lia
theorem Rules.cornr (r:Rules S){u v w:Nat}(hu:adj S v u)(hw:adj S v w)(line:∀x,adj S v x→0≤turn (S.pt v) (S.pt u) (S.pt x))
 (s0:∀x,adj S v x→turn (S.pt v) (S.pt u) (S.pt x)=0→(u<v↔x<v)) (p:0<turn (S.pt v) (S.pt u) (S.pt w))
 (lw:∀x,adj S v x→turn (S.pt v) (S.pt w) (S.pt x)≤0) (sw:∀x,adj S v x→turn (S.pt v) (S.pt w) (S.pt x)=0→(w<v↔x<v)):S.next u v=w:=by
 apply Ag8 r hu;refine⟨hw,?_⟩;intro x hx hn;rw[Av6 (x:=w) (by rw[Abi];lia)]
 by_cases e:x=u
 ·subst e;rw[Agm];lia
 ·have l:=line x hx;have l2:=lw x hx;have:0<T (xx S) (yy S) v u x:=by
   rcases Int.lt_or_le 0 (T (xx S) (yy S) v u x)with y | y
   ·exact y
   ·exfalso;rw[Abi]at y;have:=r.draw.apart hu hx (Ne.symm e) (s0 x hx (by lia));rw[Abi]at this;lia
  rw[Av6 this];right;refine⟨rfl,?_⟩;rcases Int.lt_or_le (T (xx S) (yy S) v w x) 0 with y | y
  ·exact y
  ·exfalso;rw[Abi]at y;have:=r.draw.apart hw hx (Ne.symm hn) (sw x hx (by lia));rw[Abi]at this;lia
end
theorem Al1 (p q r:Pt):turn p q r=((q.x:Int)-p.x)*((r.y:Int)-p.y)-((q.y:Int)-p.y)*((r.x:Int)-p.x):=by
 unfold turn dx dy;grind
theorem Afr {p q:Pt}(r:Pt)(h:q.y=p.y):turn p q r=((q.x:Int)-p.x)*((r.y:Int)-p.y):=by
 rw[Al1,h];grind
theorem Aez {p q:Pt}(r:Pt)(h:q.x=p.x):turn p q r=((p.y:Int)-q.y)*((r.x:Int)-p.x):=by
 rw[Al1,h];grind
theorem Ab4 {a b:Int}(h:a*b=0)(k:a≠0):b=0:=by
 rcases Int.mul_eq_zero.1 h with z | z
 ·exact absurd z k
 ·exact z
structure Bbe (S:Plan):Prop where
 c00:∃i,i<S.pts.length∧S.pt i=⟨0,0⟩
 cw0:∃i,i<S.pts.length∧S.pt i=⟨S.w,0⟩
 c0h:∃i,i<S.pts.length∧S.pt i=⟨0,S.h⟩
 cwh:∃i,i<S.pts.length∧S.pt i=⟨S.w,S.h⟩
 chB:chained S (edgePts S fun(p:Pt)=>p.y==0)=true
 chT:chained S (edgePts S fun(p:Pt)=>p.y==S.h)=true
 chL:chained S (edgePts S fun(p:Pt)=>p.x==0)=true
 chR:chained S (edgePts S fun(p:Pt)=>p.x==S.w)=true
section
variable {S:Plan}
theorem Rules.fr (r:Rules S):Bbe S:=by
 have f:=r.frame;unfold frameOk at f;simp only[Bool.and_eq_true]at f;obtain⟨a,b,c,d,e,f,g,h⟩:=f;exact⟨Aiv a,Aiv b,Aiv c,Aiv d,e,f,g,h⟩
theorem Rules.lt_of (r:Rules S){i j:Nat}(hi:i<S.pts.length)(h:(S.pt i).y<(S.pt j).y∨((S.pt i).y=(S.pt j).y∧(S.pt i).x<(S.pt j).x)):i<j:=by
 rcases Nat.lt_trichotomy i j with z | z | z
 ·exact z
 ·subst z;lia
 ·have:=(below_iff _ _).1 (r.ord j i z hi);lia
theorem Rules.lex (r:Rules S){i j:Nat}(h:i<j)(hj:j<S.pts.length):(S.pt i).y<(S.pt j).y∨((S.pt i).y=(S.pt j).y∧(S.pt i).x<(S.pt j).x) :=
 (below_iff _ _).1 (r.ord i j h hj)
def Cf (S:Plan)(u v:Nat):Prop:=adj S u v∧(((S.pt u).y=0∧(S.pt v).y=0∧v<u)∨((S.pt u).x=0∧(S.pt v).x=0∧u<v)∨
 ((S.pt u).y=S.h∧(S.pt v).y=S.h∧u<v)∨((S.pt u).x=S.w∧(S.pt v).x=S.w∧v<u))
theorem Rules.Cf_next (r:Rules S){u v:Nat}(h:Cf S u v):Cf S v (S.next u v):=by
 have f:=r.fr;obtain⟨a,h⟩:=h;have hv:=(r.adj_lt a).2.1;have hu:=(r.adj_lt a).1;have av:=r.draw.sym _ _ a;have wide:=r.wide;have high:=r.high;have bx:∀x,adj S v x→(S.pt x).x≤S.w∧(S.pt x).y≤S.h∧x<S.pts.length:=fun x hx=>⟨r.inx x (r.adj_lt hx).2.1,r.iny x (r.adj_lt hx).2.1,(r.adj_lt hx).2.1⟩
 have vx:=r.inx v hv;have vy:=r.iny v hv;rcases h with ⟨yu,yv,lt⟩ | ⟨xu,xv,lt⟩ | ⟨yu,yv,lt⟩ | ⟨xu,xv,lt⟩
 ·-- below,to the left
  have lx:=r.lex lt hu;have d0:(0:Int)<((S.pt u).x:Int)-(S.pt v).x:=by lia
  have tu:∀x,turn (S.pt v) (S.pt u) (S.pt x)=(((S.pt u).x:Int)-(S.pt v).x)*(((S.pt x).y:Int)-(S.pt v).y):=fun x=>Afr _ (by lia);have line:∀x,adj S v x→0≤turn (S.pt v) (S.pt u) (S.pt x):=fun x _=>by rw[tu];exact Int.mul_nonneg (by lia) (by lia)
  have on0:∀x,turn (S.pt v) (S.pt u) (S.pt x)=0→(S.pt x).y=0:=fun x z=>by rw[tu]at z;have:=Ab4 z (by lia);lia
  by_cases c:(S.pt v).x=0
  ·obtain⟨y,hy,ey⟩:=f.c0h;have:v<y:=r.lt_of hv (by rw[ey];simp only[];lia);obtain⟨w,aw,vw,ow⟩:=r.succ f.chL (v:=v) (by simp[c]) hy (by rw[ey];simp) this;simp only[beq_iff_eq]at ow;have bw:=bx w aw;have lw:=r.lex vw bw.2.2;have tw:∀x,turn (S.pt v) (S.pt w) (S.pt x)=(((S.pt v).y:Int)-(S.pt w).y)*(((S.pt x).x:Int)-(S.pt v).x):=fun x=>Aez _ (by lia)
   have e:=r.cornr av aw line (fun x hx z=>by
    have:=on0 x z;have bx':=bx x hx;have xv':v<x:=by
     rcases Nat.lt_trichotomy v x with q | q | q
     ·exact q
     ·exact absurd q (r.adj_lt hx).2.2
     ·have:=r.lex q hv;lia
    lia) (by rw[tu];exact Aar d0 (by lia)) (fun x hx=>by rw[tw];exact Int.mul_nonpos_of_nonpos_of_nonneg (by lia) (by lia)) (fun x hx z=>by
    rw[tw]at z;have z0:=Ab4 z (by lia);have xv':v<x:=by
     rcases Nat.lt_trichotomy v x with q | q | q
     ·exact q
     ·exact absurd q (r.adj_lt hx).2.2
     ·have:=r.lex q hv;lia
    lia)
   rw[e];exact⟨aw,.inr (.inl ⟨c,ow,vw⟩)⟩
  ·obtain⟨y,hy,ey⟩:=f.c00;have:y<v:=r.lt_of hy (by rw[ey];simp only[];lia);obtain⟨w,aw,vw,ow⟩:=r.prev f.chB (x:=y) hv (by simp[yv]) (by rw[ey];simp) this;simp only[beq_iff_eq]at ow
   have e:=r.flat av aw (by lia) line (by rw[tu,ow,yv];simp) (fun x hx z=>by
    have:=on0 x z
    rw[Afr _ (by lia),this,yv];simp)
   rw[e];exact⟨aw,.inl ⟨yv,ow,vw⟩⟩
 ·-- to the left,upwards
  have lx:=r.lex lt hv;have d0:(0:Int)<((S.pt v).y:Int)-(S.pt u).y:=by lia
  have tu:∀x,turn (S.pt v) (S.pt u) (S.pt x)=(((S.pt v).y:Int)-(S.pt u).y)*(((S.pt x).x:Int)-(S.pt v).x):=fun x=>Aez _ (by lia);have line:∀x,adj S v x→0≤turn (S.pt v) (S.pt u) (S.pt x):=fun x _=>by rw[tu];exact Int.mul_nonneg (by lia) (by lia)
  have on0:∀x,turn (S.pt v) (S.pt u) (S.pt x)=0→(S.pt x).x=0:=fun x z=>by rw[tu]at z;have:=Ab4 z (by lia);lia
  by_cases c:(S.pt v).y=S.h
  ·obtain⟨y,hy,ey⟩:=f.cwh;have:v<y:=r.lt_of hv (by rw[ey];simp only[];lia);obtain⟨w,aw,vw,ow⟩:=r.succ f.chT (v:=v) (by simp[c]) hy (by rw[ey];simp) this;simp only[beq_iff_eq]at ow;have bw:=bx w aw;have lw:=r.lex vw bw.2.2;have tw:∀x,turn (S.pt v) (S.pt w) (S.pt x)=(((S.pt w).x:Int)-(S.pt v).x)*(((S.pt x).y:Int)-(S.pt v).y):=fun x=>Afr _ (by lia)
   have e:=r.cornr av aw line (fun x hx z=>by
    have:=on0 x z;have bx':=bx x hx;have xv':x<v:=by
     rcases Nat.lt_trichotomy v x with q | q | q
     ·have:=r.lex q bx'.2.2;lia
     ·exact absurd q (r.adj_lt hx).2.2
     ·exact q
    lia) (by rw[tu];exact Aar d0 (by lia)) (fun x hx=>by have:=bx x hx;rw[tw];exact Int.mul_nonpos_of_nonneg_of_nonpos (by lia) (by lia)) (fun x hx z=>by
    rw[tw]at z;have z0:=Ab4 z (by lia);have bx':=bx x hx;have xv':v<x:=by
     rcases Nat.lt_trichotomy v x with q | q | q
     ·exact q
     ·exact absurd q (r.adj_lt hx).2.2
     ·have:=r.lex q hv;lia
    lia)
   rw[e];exact⟨aw,.inr (.inr (.inl ⟨c,ow,vw⟩))⟩
  ·obtain⟨y,hy,ey⟩:=f.c0h;have:v<y:=r.lt_of hv (by rw[ey];simp only[];lia);obtain⟨w,aw,vw,ow⟩:=r.succ f.chL (v:=v) (by simp[xv]) hy (by rw[ey];simp) this;simp only[beq_iff_eq]at ow
   have e:=r.flat av aw (by lia) line (by rw[tu,ow,xv];simp) (fun x hx z=>by
    have:=on0 x z
    rw[Aez _ (by lia),this,xv];simp)
   rw[e];exact⟨aw,.inr (.inl ⟨xv,ow,vw⟩)⟩
 ·-- above,to the right
  have lx:=r.lex lt hv;have d0:((S.pt u).x:Int)-(S.pt v).x<0:=by lia
  have tu:∀x,turn (S.pt v) (S.pt u) (S.pt x)=(((S.pt u).x:Int)-(S.pt v).x)*(((S.pt x).y:Int)-(S.pt v).y):=fun x=>Afr _ (by lia);have line:∀x,adj S v x→0≤turn (S.pt v) (S.pt u) (S.pt x):=fun x hx=>by have:=bx x hx;rw[tu];exact Int.mul_nonneg_of_nonpos_of_nonpos (by lia) (by lia)
  have on0:∀x,turn (S.pt v) (S.pt u) (S.pt x)=0→(S.pt x).y=S.h:=fun x z=>by rw[tu]at z;have:=Ab4 z (by lia);lia
  by_cases c:(S.pt v).x=S.w
  ·obtain⟨y,hy,ey⟩:=f.cw0;have:y<v:=r.lt_of hy (by rw[ey];simp only[];lia);obtain⟨w,aw,vw,ow⟩:=r.prev f.chR (x:=y) hv (by simp[c]) (by rw[ey];simp) this;simp only[beq_iff_eq]at ow;have bw:=bx w aw;have lw:=r.lex vw hv;have tw:∀x,turn (S.pt v) (S.pt w) (S.pt x)=(((S.pt v).y:Int)-(S.pt w).y)*(((S.pt x).x:Int)-(S.pt v).x):=fun x=>Aez _ (by lia)
   have e:=r.cornr av aw line (fun x hx z=>by
    have:=on0 x z;have bx':=bx x hx;have xv':x<v:=by
     rcases Nat.lt_trichotomy v x with q | q | q
     ·have:=r.lex q bx'.2.2;lia
     ·exact absurd q (r.adj_lt hx).2.2
     ·exact q
    lia) (by rw[tu];exact Abl d0 (by lia)) (fun x hx=>by have:=bx x hx;rw[tw];exact Int.mul_nonpos_of_nonneg_of_nonpos (by lia) (by lia)) (fun x hx z=>by
    rw[tw]at z;have z0:=Ab4 z (by lia);have bx':=bx x hx;have xv':x<v:=by
     rcases Nat.lt_trichotomy v x with q | q | q
     ·have:=r.lex q bx'.2.2;lia
     ·exact absurd q (r.adj_lt hx).2.2
     ·exact q
    lia)
   rw[e];exact⟨aw,.inr (.inr (.inr ⟨c,ow,vw⟩))⟩
  ·obtain⟨y,hy,ey⟩:=f.cwh;have:v<y:=r.lt_of hv (by rw[ey];simp only[];lia);obtain⟨w,aw,vw,ow⟩:=r.succ f.chT (v:=v) (by simp[yv]) hy (by rw[ey];simp) this;simp only[beq_iff_eq]at ow
   have e:=r.flat av aw (by lia) line (by rw[tu,ow,yv];simp) (fun x hx z=>by
    have:=on0 x z
    rw[Afr _ (by lia),this,yv];simp)
   rw[e];exact⟨aw,.inr (.inr (.inl ⟨yv,ow,vw⟩))⟩
 ·-- to the right,downwards
  have lx:=r.lex lt hu;have d0:((S.pt v).y:Int)-(S.pt u).y<0:=by lia
  have tu:∀x,turn (S.pt v) (S.pt u) (S.pt x)=(((S.pt v).y:Int)-(S.pt u).y)*(((S.pt x).x:Int)-(S.pt v).x):=fun x=>Aez _ (by lia);have line:∀x,adj S v x→0≤turn (S.pt v) (S.pt u) (S.pt x):=fun x hx=>by have:=bx x hx;rw[tu];exact Int.mul_nonneg_of_nonpos_of_nonpos (by lia) (by lia)
  have on0:∀x,turn (S.pt v) (S.pt u) (S.pt x)=0→(S.pt x).x=S.w:=fun x z=>by rw[tu]at z;have:=Ab4 z (by lia);lia
  by_cases c:(S.pt v).y=0
  ·obtain⟨y,hy,ey⟩:=f.c00;have:y<v:=r.lt_of hy (by rw[ey];simp only[];lia);obtain⟨w,aw,vw,ow⟩:=r.prev f.chB (x:=y) hv (by simp[c]) (by rw[ey];simp) this;simp only[beq_iff_eq]at ow;have bw:=bx w aw;have lw:=r.lex vw hv;have tw:∀x,turn (S.pt v) (S.pt w) (S.pt x)=(((S.pt w).x:Int)-(S.pt v).x)*(((S.pt x).y:Int)-(S.pt v).y):=fun x=>Afr _ (by lia)
   have e:=r.cornr av aw line (fun x hx z=>by
    have:=on0 x z;have bx':=bx x hx;have xv':v<x:=by
     rcases Nat.lt_trichotomy v x with q | q | q
     ·exact q
     ·exact absurd q (r.adj_lt hx).2.2
     ·have:=r.lex q hv;lia
    lia) (by rw[tu];exact Abl d0 (by lia)) (fun x hx=>by have:=bx x hx;rw[tw];exact Int.mul_nonpos_of_nonpos_of_nonneg (by lia) (by lia)) (fun x hx z=>by
    rw[tw]at z;have z0:=Ab4 z (by lia);have bx':=bx x hx;have xv':x<v:=by
     rcases Nat.lt_trichotomy v x with q | q | q
     ·have:=r.lex q bx'.2.2;lia
     ·exact absurd q (r.adj_lt hx).2.2
     ·exact q
    lia)
   rw[e];exact⟨aw,.inl ⟨c,ow,vw⟩⟩
  ·obtain⟨y,hy,ey⟩:=f.cw0;have:y<v:=r.lt_of hy (by rw[ey];simp only[];lia);obtain⟨w,aw,vw,ow⟩:=r.prev f.chR (x:=y) hv (by simp[xv]) (by rw[ey];simp) this;simp only[beq_iff_eq]at ow
   have e:=r.flat av aw (by lia) line (by rw[tu,ow,xv];simp) (fun x hx z=>by
    have:=on0 x z
    rw[Aez _ (by lia),this,xv];simp)
   rw[e];exact⟨aw,.inr (.inr (.inr ⟨xv,ow,vw⟩))⟩
end
section
variable {S:Plan}
theorem Rules.pt0 (r:Rules S):S.pt 0=⟨0,0⟩:=by
 obtain⟨i,hi,e⟩:=r.fr.c00;rcases Nat.eq_or_lt_of_le (Nat.zero_le i)with z | z
 ·subst z;exact e
 ·have:=r.lex z hi;rw[e]at this;simp only[]at this;lia
theorem Rules.pt1 (r:Rules S):(S.pt 1).y=0∧0<(S.pt 1).x:=by
 obtain⟨i,hi,e⟩:=r.fr.cw0;have w:=r.wide;have f4:=r.four;have p0:=r.pt0;have i0:i≠0:=by
  intro z;rw[z,p0]at e;have:(⟨0,0⟩ : Pt).x=(⟨S.w,0⟩ : Pt).x:=by rw[e]
  simp only[]at this;lia
 have l:=r.lex (show 0<1 by lia) (show 1<S.pts.length by lia);rw[p0]at l;simp only[]at l;rcases Nat.lt_or_ge 1 i with z | z
 ·have:=r.lex z hi;rw[e]at this;simp only[]at this;lia
 ·have:i=1:=by lia
  subst this;rw[e];exact⟨rfl,by show 0<S.w;lia⟩
theorem Rules.outer (r:Rules S):Aoq S:=by
 have f4:=r.four;have p0:=r.pt0;have p1:=r.pt1;have a01:adj S 0 1:=by
  obtain⟨w,aw,vw,ow⟩:=r.prev r.fr.chB (x:=0) (v:=1) (by lia) (by simp[p1.1]) (by simp[p0]) (by lia);have:w=0:=by lia
  subst this;exact r.draw.sym _ _ aw
 refine⟨a01,?_⟩;intro t ht hn;have ap:=r.draw.apart a01 ht (Ne.symm hn) (by lia);rw[Abi]at ap ⊢;have e:turn (S.pt 0) (S.pt 1) (S.pt t)=((S.pt 1).x:Int)*((S.pt t).y:Int):=by
  rw[Afr _ (by rw[p0,p1.1]),p0];simp
 have:=Int.mul_nonneg (show(0:Int)≤((S.pt 1).x:Int)by lia) (show(0:Int)≤((S.pt t).y:Int)by lia);lia
theorem Rules.orb_Cf (r:Rules S){x:Way}(h:x∈orb S (1,0)):Cf S x.1 x.2:=by
 have o:=r.outer;have a:adj S ((1,0):Way).1 ((1,0):Way).2:=r.draw.sym _ _ o.a01;obtain⟨k,q⟩:=(r.mem_orb a).1 h;rw[←q]
 clear q h
 induction k with
 | zero=>exact⟨a,.inl ⟨r.pt1.1,by show(S.pt 0).y=0;rw[r.pt0],by show 0<1;decide⟩⟩
 | succ k ih=>rw[itr_succ];exact r.Cf_next ih
theorem Azq (p q:Pt):isOn p q p=true:=by
 unfold isOn between;have:turn p q p=0:=by unfold turn dx dy;grind
 rw[this];simp;lia
theorem Azp (p q:Pt):isOn p q q=true:=by
 unfold isOn between;have:turn p q q=0:=by unfold turn dx dy;grind
 rw[this];simp;lia
theorem clear_iff (S:Plan)(z:Pt):clear S z=true↔0<z.x∧z.x<S.w∧0<z.y∧z.y<S.h∧∀l,l∈S.lines→isOn (S.pt l.1) (S.pt l.2) z=false:=by
 unfold clear onLines;simp
theorem Rules.lev (r:Rules S){z:Pt}(hz':clear S z=true):∀w,w<S.pts.length→yy S w≠hz z:=by
 intro w hw e;rw[clear_iff]at hz';obtain⟨x0,xw,y0,yh,off⟩:=hz';have b:=r.big;have xw':=r.inx w hw;have e':NN*(S.pt w).y+(S.pt w).x=NN*z.y+z.x:=by unfold yy hz hgt at e;lia
 have eq:S.pt w=z:=by
  have n1:¬(S.pt w).below z=true:=fun q=>by rw[←Acg (by unfold NN;lia) (by unfold NN;lia)]at q;lia
  have n2:¬z.below (S.pt w)=true:=fun q=>by rw[←Acg (by unfold NN;lia) (by unfold NN;lia)]at q;lia
  rw[below_iff]at n1 n2;generalize S.pt w=p at *;obtain⟨a,b⟩:=p;obtain⟨c,d⟩:=z;simp only[Pt.mk.injEq]at *;lia
 have dg:=r.deg w hw;cases q:S.near w with
 | nil=>rw[q]at dg;simp at dg
 | cons k l =>
  have ad:adj S w k:=(mem_near r w k).1 (by rw[q];simp);rcases ad with m | m
  ·have:=off _ m;simp only[]at this;rw[eq,Azq]at this;exact Bool.noConfusion this
  ·have:=off _ m;simp only[]at this;rw[eq,Azp]at this;exact Bool.noConfusion this
theorem Rules.right_line (r:Rules S){z:Pt}(hz':clear S z=true):∃p q,adj S p q∧p<q∧yy S p<hz z∧hz z<yy S q∧0<turn (S.pt p) (S.pt q) z:=by
 have lev:=r.lev hz';rw[clear_iff]at hz';obtain⟨x0,xw,y0,yh,off⟩:=hz';have b:=r.big;obtain⟨i,hi,ei⟩:=r.fr.cw0;obtain⟨j,hj,ej⟩:=r.fr.cwh;have hgh:=r.high;have ij:i<j:=r.lt_of hi (by rw[ei,ej];simp only[];lia);have n1:¬hz z<yy S i:=by
  unfold hz yy hgt;rw[ei];simp only[];have:=Any (a:=0) (b:=S.w) (c:=z.y) (d:=z.x) (by unfold NN;lia) y0;lia
 have n2:hz z<yy S j:=by
  unfold hz yy hgt;rw[ej];simp only[];have:=Any (a:=z.y) (b:=z.x) (c:=S.h) (d:=S.w) (by unfold NN;lia) yh;lia
 obtain⟨p,q,ad,pq,op,oq,np,pq',_⟩:=r.chain r.fr.chR (P:=fun k=>hz z<yy S k) hi (by rw[ei];simp) hj (by rw[ej];simp) ij n1 n2;simp only[beq_iff_eq]at op oq;have hq:=(r.adj_lt ad).2.1;have hp:=(r.adj_lt ad).1;have:=lev p hp;refine⟨p,q,ad,pq,by lia,pq',?_⟩;have l:=r.lex pq hq;rw[Aez _ (by lia)];exact Abl (by lia) (by lia)
theorem Rules.hold (r:Rules S){z:Pt}(h:clear S z=true):∃l,l∈S.outlines∧insideOf S l z=true∧∀l',l'∈S.outlines→insideOf S l' z=true→l'=l:=by
 have o:=r.outer;have lev:=r.lev h;have ex:=r.right_line h;have h':=h;rw[clear_iff]at h';obtain⟨x0,xw,y0,yh,off⟩:=h';have b:=r.big
 obtain⟨s,as,ls,ars,ins⟩:=r.hold_some o (by lia) off lev ex (by
  intro p q ad pq y1 y2 t m;have c:=(r.orb_Cf m).2;simp only[]at c;have hq:=(r.adj_lt ad).2.1;have l:=r.lex pq hq;rcases c with c | c | c | c
  ·lia
  ·rw[Aez _ (by lia)]at t;have:=Aas (show((S.pt p).y:Int)-(S.pt q).y<0 by lia) (show(0:Int)<(z.x:Int)-(S.pt p).x by lia);lia
  ·have:=Any (a:=z.y) (b:=z.x) (c:=S.h) (d:=(S.pt p).x) (by unfold NN;lia) yh;unfold yy hgt hz at y1;rw[c.1]at y1;lia
  ·lia)
 refine⟨Vs S s,(r.mem_outlines _).2 ⟨s,as,ls,ars,rfl⟩,ins,?_⟩;intro l' hl' ins';obtain⟨t,at',lt,art,e⟩:=(r.mem_outlines _).1 hl';subst e;have m:=r.hold_one o as at' ars art (by lia) off lev ins ins';rw[r.least_one as ls lt m]
end
theorem Ad6 {α:Type}{p:Nat→α→Bool}{l:List α}(h:firstAt p l=none):∀i (hi:i<l.length),p i l[i]=false:=by
 intro i hi;unfold firstAt at h;rw[Option.map_eq_none_iff,List.find?_eq_none]at h;have:=h (l[i],i) (by rw[List.mem_zipIdx_iff_getElem?];simp[hi]);simpa using this
theorem firstBad_none {α:Type}{ok:α→Bool}{before:α→α→Bool}{l:List α}(h:firstBad ok before l=none) :
 (∀x,x∈l→ok x=true)∧∀i (hi:i+1<l.length),before l[i] l[i+1]=true:=by
 unfold firstBad at h;have f:=Ad6 h;constructor
 ·intro x hx;obtain⟨i,hi,e⟩:=List.mem_iff_getElem.1 hx;have:=f i hi;rw[e]at this;simp only[Bool.or_eq_false_iff,Bool.not_eq_false']at this;exact this.1
 ·intro i hi;have:=f (i+1) hi;simp only[Bool.or_eq_false_iff,Nat.add_sub_cancel]at this;have h2:=this.2;rw[List.getElem?_eq_getElem (show i<l.length by lia)]at h2;simpa using h2
structure R45 (S:Plan):Prop where
 inx:∀i,i<S.pts.length→(S.pt i).x≤S.w
 iny:∀i,i<S.pts.length→(S.pt i).y≤S.h
 ord:∀i j,i<j→j<S.pts.length→(S.pt i).below (S.pt j)=true
 lin:∀l,l∈S.lines→l.1<l.2∧l.2<S.pts.length
 lnd:S.lines.Nodup
 lord:∀i j (hi:i<j) (hj:j<S.lines.length),lineBelow S.lines[i] S.lines[j]=true
theorem Am3 {p q r:Pt}(h:p.below q=true)(k:q.below r=true):p.below r=true:=by
 rw[below_iff]at *;lia
theorem Acl (a b:Nat×Nat):lineBelow a b=true↔a.1<b.1∨(a.1=b.1∧a.2<b.2):=by
 unfold lineBelow;simp
theorem Aml {S:Plan}{i:Nat}(h:i<S.pts.length):S.pt i=S.pts[i]:=by
 unfold Plan.pt;rw[List.getD_eq_getElem?_getD,List.getElem?_eq_getElem h];rfl
theorem Ako {α:Type}{R:α→α→Prop}(tr:∀a b c,R a b→R b c→R a c){l:List α}(h:∀i (hi:i+1<l.length),R l[i] l[i+1]) :
 ∀j i (hi:i<j) (hj:j<l.length),R l[i] l[j]:=by
 intro j
 induction j with
 | zero=>intro i hi;lia
 | succ j ih =>
  intro i hi hj
  by_cases e:i=j
  ·subst e;exact h i hj
  ·exact tr _ _ _ (ih i (by lia) (by lia)) (h j hj)
theorem R45.of {S:Plan}(h4:firstBad (fun(p:Pt)=>decide (p.x≤S.w)&&decide (p.y≤S.h)) Pt.below S.pts=none)
 (h5:firstBad (fun(l:Nat×Nat)=>decide (l.1<l.2)&&decide (l.2<S.pts.length)) lineBelow S.lines=none):R45 S:=by
 have a:=firstBad_none h4;have b:=firstBad_none h5;have c:=Ako (R:=fun p q=>Pt.below p q=true) (fun _ _ _=>Am3) a.2;have d:=Ako (R:=fun p q=>lineBelow p q=true) (fun x y z h k=>by rw[Acl]at *;lia) b.2;refine⟨?_,?_,?_,?_,?_,?_⟩
 ·intro i hi;have:=a.1 _ (List.getElem_mem hi);rw[Aml hi];simp at this;exact this.1
 ·intro i hi;have:=a.1 _ (List.getElem_mem hi);rw[Aml hi];simp at this;exact this.2
 ·intro i j h hj;rw[Aml (show i<S.pts.length by lia),Aml hj];exact c j i h hj
 ·intro l hl;have:=b.1 l hl;simp at this;exact this
 ·rw[List.nodup_iff_pairwise_ne,List.pairwise_iff_getElem];intro i j hi hj hij e;have:=d j i hij hj;rw[Acl,e]at this;lia
 ·intro i j hi hj;exact d j i hi hj
theorem mem_near5 {S:Plan}(lin:∀l,l∈S.lines→l.1<l.2)(v x:Nat):x∈S.near v↔adj S v x:=by
 unfold Plan.near adj;rw[List.mem_filterMap];constructor
 ·rintro⟨l,hl,e⟩
  by_cases e1:l.1=v
  ·rw[if_pos e1]at e;simp only[Option.some.injEq]at e;subst e e1;exact .inl hl
  ·rw[if_neg e1]at e
   by_cases e2:l.2=v
   ·rw[if_pos e2]at e;simp only[Option.some.injEq]at e;subst e e2;exact .inr hl
   ·rw[if_neg e2]at e;simp at e
 ·rintro(h | h)
  ·exact⟨_,h,by simp⟩
  ·have:=lin _ h;simp only[]at this;refine⟨_,h,?_⟩;show(if x=v then some v else if v=v then some x else none)=some x;rw[if_neg (by lia),if_pos rfl]
theorem Aba (a:Array Bool)(i j:Nat)(d:Bool):(a.setIfInBounds i true).getD j d=if i=j∧i<a.size then true else a.getD j d:=by
 rw[Array.getD_eq_getD_getElem?,Array.getD_eq_getD_getElem?,Array.getElem?_setIfInBounds]
 by_cases e:i=j
 ·subst e
  by_cases h:i<a.size
  ·simp[h]
  ·simp[h]
 ·simp[e]
def Aao (l:List Nat)(z:List Nat×Array Bool):List Nat×Array Bool :=
 l.foldl (fun(a:List Nat×Array Bool) (j:Nat)=>if a.2.getD j true=true then a else(j::a.1,a.2.setIfInBounds j true)) z
theorem Aeg {K F:Nat→Prop}:∀(l:List Nat) (z:List Nat×Array Bool),(∀j,j∈l→¬F j→K j)→(∀k,k∈z.1→K k)→
 (∀j,z.2.getD j false=true→K j∨F j)→(∀j,F j→z.2.getD j true=true)→
 (∀k,k∈(Aao l z).1→K k)∧(∀j,(Aao l z).2.getD j false=true→K j∨F j)∧(∀j,F j→(Aao l z).2.getD j true=true)
 | [],z,_,h1,h2,h3=>⟨h1,h2,h3⟩
 | j::l,z,hl,h1,h2,h3=>by
  unfold Aao;rw[List.foldl_cons]
  by_cases e:z.2.getD j true=true
  ·rw[if_pos e];exact Aeg l z (fun x hx=>hl x (by simp[hx])) h1 h2 h3
  ·rw[if_neg e];have nf:¬F j:=fun q=>e (h3 j q);have kj:=hl j (by simp) nf;apply Aeg l (j::z.1,z.2.setIfInBounds j true) (fun x hx=>hl x (by simp[hx]))
   ·intro k hk;rcases List.mem_cons.1 hk with q | q
    ·rw[q];exact kj
    ·exact h1 k q
   ·intro i hi;rw[Aba]at hi
    by_cases q:j=i∧j<z.2.size
    ·rw[←q.1];exact .inl kj
    ·rw[if_neg q]at hi;exact h2 i hi
   ·intro i hi;rw[Aba]
    split
    ·rfl
    ·exact h3 i hi
theorem Acy {near:Array (List Nat)}{K F:Nat→Prop}(hK:∀k j,K k→j∈near.getD k []→¬F j→K j):∀(n:Nat) (todo:List Nat) (seen:Array Bool),
 (∀k,k∈todo→K k)→(∀j,seen.getD j false=true→K j∨F j)→(∀j,F j→seen.getD j true=true)→∀j,(spread near n todo seen).getD j false=true→K j∨F j
 | 0,todo,seen,_,h2,_=>h2
 | n+1,[],seen,_,h2,_=>h2
 | n+1,k::r,seen,h1,h2,h3=>by
  unfold spread;have s:=Aeg (K:=K) (F:=F) (near.getD k []) (r,seen) (fun j hj nf=>hK k j (h1 k (by simp)) hj nf) (fun x hx=>h1 x (by simp[hx])) h2 h3;exact Acy hK n _ _ s.1 s.2.1 s.2.2
theorem Ak9 (S:Plan){k:Nat}(h:k<S.pts.length):S.nears.getD k []=S.near k:=by
 unfold Plan.nears;rw[Array.getD_eq_getD_getElem?];simp[h]
theorem Aqo (S:Plan){k:Nat}(h:S.pts.length≤k):S.nears.getD k []=[]:=by
 unfold Plan.nears;rw[Array.getD_eq_getD_getElem?];simp[h]
theorem Ae8 (n j:Nat):(noneSeen n).getD j false=false:=by
 unfold noneSeen;rw[Array.getD_eq_getD_getElem?]
 by_cases h:j<n<;>simp[h]
section
variable {S:Plan}
theorem R45.nears (r:R45 S){k j:Nat}:j∈S.nears.getD k []↔adj S k j:=by
 by_cases h:k<S.pts.length
 ·rw[Ak9 S h,mem_near5 (fun l hl=>(r.lin l hl).1)]
 ·rw[Aqo S (by lia)];constructor
  ·intro q;simp at q
  ·rintro(q | q)<;>(have:=r.lin _ q;simp only[]at this;lia)
theorem R45.con (r:R45 S)(h:(List.range S.pts.length).find? (fun(i:Nat)=>!((seenFrom S.nears S.pts.length 0 (noneSeen S.pts.length)).getD i false))=none) :
 ∀K:Nat→Prop,K 0→(∀u v,K u→adj S u v→K v)→∀v,v<S.pts.length→K v:=by
 intro K k0 kk v hv;rw[List.find?_eq_none]at h;have hs:=h v (List.mem_range.2 hv);simp only[Bool.not_eq_true',Bool.not_eq_false]at hs;unfold seenFrom at hs
 have:=Acy (near:=S.nears) (K:=K) (F:=fun _=>False) (fun k j hk hj _=>kk k j hk (r.nears.1 hj)) _ _ _ (by intro k hk;simp at hk;rw[hk];exact k0) (by
  intro j hj;rw[Aba]at hj
  by_cases q:0=j∧0<(noneSeen S.pts.length).size
  ·rw[←q.1];exact .inl k0
  ·rw[if_neg q,Ae8]at hj;exact Bool.noConfusion hj) (by intro j hj;exact hj.elim) v hs
 rcases this with q | q
 ·exact q
 ·exact q.elim
theorem Acz:∀(l:List Nat) (z:List Nat×Array Bool),(Aao l z).2.size=z.2.size
 | [],_=>rfl
 | j::l,z=>by
  unfold Aao;rw[List.foldl_cons];have:=Acz l (if z.2.getD j true=true then z else(j::z.1,z.2.setIfInBounds j true));unfold Aao at this;rw[this]
  split<;>simp
theorem Afu (near:Array (List Nat)):∀(n:Nat) (todo:List Nat) (seen:Array Bool),(spread near n todo seen).size=seen.size
 | 0,_,_=>rfl
 | n+1,[],_=>rfl
 | n+1,k::r,seen=>by
  unfold spread;have:=Acz (near.getD k []) (r,seen);exact(Afu near n _ _).trans this
theorem R45.con2 (r:R45 S)(h4:4≤S.pts.length)(h:(List.range S.pts.length).find? (cuts S.nears S.pts.length)=none):∀v,v<S.pts.length→Bbf S.pts.length (adj S) v:=by
 intro v hv;rw[List.find?_eq_none]at h;have hs:=h v (List.mem_range.2 hv);unfold cuts at hs;refine⟨if v=0 then 1 else 0,by split<;>lia,by split<;>lia,?_⟩;intro K k0 kk x hx hxv;have sz:(seenFrom S.nears S.pts.length (if v=0 then 1 else 0) ((noneSeen S.pts.length).setIfInBounds v true)).size=S.pts.length:=by
  unfold seenFrom;rw[Afu];simp[noneSeen]
 have sx:(seenFrom S.nears S.pts.length (if v=0 then 1 else 0) ((noneSeen S.pts.length).setIfInBounds v true)).getD x false=true:=by
  rw[Array.getD_eq_getD_getElem?,Array.getElem?_eq_getElem (by rw[sz];exact hx)];simp only[Option.getD_some];cases q:(seenFrom S.nears S.pts.length (if v=0 then 1 else 0) ((noneSeen S.pts.length).setIfInBounds v true))[x]'(by rw[sz];exact hx) with
  | true=>rfl
  | false =>
   exfalso;apply hs;rw[Array.contains_iff_mem,←q];exact Array.getElem_mem _
 unfold seenFrom at sx;have sv:(if v=0 then 1 else 0)≠v:=by split<;>lia
 have:=Acy (near:=S.nears) (K:=fun j=>j≠v∧K j) (F:=fun j=>j=v) (by
  intro k j hk hj nf
  exact⟨nf,kk k j hk.2 (r.nears.1 hj) nf⟩) _ _ _ (by
  intro k hk;rw[List.mem_singleton]at hk
  rw[hk];exact⟨sv,k0⟩) (by
  intro j hj;rw[Aba,Aba]at hj
  by_cases q:(if v=0 then 1 else 0)=j∧(if v=0 then 1 else 0)<((noneSeen S.pts.length).setIfInBounds v true).size
  ·rw[←q.1];exact .inl ⟨sv,k0⟩
  ·rw[if_neg q]at hj
   by_cases q2:v=j∧v<(noneSeen S.pts.length).size
   ·exact .inr q2.1.symm
   ·rw[if_neg q2,Ae8]at hj;exact Bool.noConfusion hj) (by
  intro j hj;subst hj;have e2:((noneSeen S.pts.length).setIfInBounds j true).getD j true=true:=by
   rw[Aba,if_pos ⟨rfl,by simp[noneSeen];exact hv⟩]
  rw[Aba,e2];simp) x sx
 rcases this with q | q
 ·exact q.2
 ·exact absurd q hxv
theorem Rules.of (b1:16≤S.w)(b2:S.w≤1048575)(b3:16≤S.h)(b4:4≤S.pts.length)(r:R45 S)(h6:frameOk S=true)(h7:firstAt (touches S) S.lines=none)
 (h8:(List.range S.pts.length).find? (fun(i:Nat)=>decide ((S.near i).length<2))=none)
 (h9:(List.range S.pts.length).find? (fun(i:Nat)=>!((seenFrom S.nears S.pts.length 0 (noneSeen S.pts.length)).getD i false))=none)
 (h10:(List.range S.pts.length).find? (cuts S.nears S.pts.length)=none):Rules S where
 big:=b2
 inx:=r.inx
 iny:=r.iny
 ord:=r.ord
 lin:=r.lin
 lnd:=r.lnd
 frame:=h6
 free:=by
  intro l hl k hk k1 k2;obtain⟨i,hi,e⟩:=List.mem_iff_getElem.1 hl;have t:=Ad6 h7 i hi;rw[e]at t;unfold touches at t;simp only[Bool.or_eq_false_iff]at t;have:=t.1;rw[List.any_eq_false]at this;have:=this k (List.mem_range.2 hk);simp[k1,k2]at this;exact this
 cross:=by
  intro l m hl hm hn;obtain⟨i,hi,e⟩:=List.mem_iff_getElem.1 hl;obtain⟨j,hj,e'⟩:=List.mem_iff_getElem.1 hm;have key:∀i j (hi:i<S.lines.length) (hj:j<S.lines.length),i<j→crosses (S.pt S.lines[j].1) (S.pt S.lines[j].2) (S.pt S.lines[i].1) (S.pt S.lines[i].2)=false:=by
   intro i j hi hj hij;have t:=Ad6 h7 j hj;unfold touches at t;simp only[Bool.or_eq_false_iff]at t;have:=t.2;rw[List.any_eq_false]at this
   have:=this S.lines[i] (by
    rw[List.mem_take_iff_getElem]
    exact⟨i,by lia,rfl⟩)
   simpa using this
  rcases Nat.lt_trichotomy i j with z | z | z
  ·right;rw[←e,←e'];exact key i j hi hj z
  ·subst z;exact absurd (e.symm.trans e') hn
  ·left;rw[←e,←e'];exact key j i hj hi z
 con:=r.con h9
 con2:=r.con2 b4 h10
 deg:=by
  intro v hv;rw[List.find?_eq_none]at h8;have:=h8 v (List.mem_range.2 hv);simp at this;lia
 four:=b4
 wide:=b1
 high:=b3
end
section
variable {S:Plan}
theorem R45.mono (r:R45 S)(big:S.w≤1048575){i j:Nat}(h:i<j)(hj:j<S.pts.length):yy S i<yy S j:=by
 have xi:=r.inx i (by lia);have xj:=r.inx j hj;have:=(Acg (p:=S.pt i) (q:=S.pt j) (by unfold NN;lia) (by unfold NN;lia)).2 (r.ord i j h hj);unfold yy hgt;lia
theorem At7 {p q r:Pt}(h:p.below q=true)(o:isOn p q r=true):¬r.below p=true∧¬q.below r=true:=by
 rw[below_iff]at *;rw[below_iff];unfold isOn between at o;simp at o;obtain⟨t,⟨x1,x2⟩,y1,y2⟩:=o;rw[Al1]at t;constructor
 ·intro z;have yy':r.y=p.y:=by lia
  by_cases e:p.y=q.y
  ·lia
  ·rw[yy']at t;have t':((q.y:Int)-p.y)*((r.x:Int)-p.x)=0:=by grind
   have:=Ab4 t' (by lia);lia
 ·intro z;have yy':r.y=q.y:=by lia
  by_cases e:p.y=q.y
  ·lia
  ·rw[yy']at t;have t':((q.y:Int)-p.y)*((q.x:Int)-r.x)=0:=by grind
   have:=Ab4 t' (by lia);lia
def hasPoint (S:Plan)(l:Nat×Nat):Bool:=(List.range (l.2-(l.1+1))).any fun k=>isOn (S.pt l.1) (S.pt l.2) (S.pt (l.1+1+k))
def crossBefore (S:Plan)(i:Nat)(l:Nat×Nat):Bool:=(S.lines.take i).any fun m=>decide (m.1<l.1∧l.1<m.2)&&crosses (S.pt l.1) (S.pt l.2) (S.pt m.1) (S.pt m.2)
theorem R45.touch_eq (r:R45 S)(big:S.w≤1048575)(i:Nat)(hi:i<S.lines.length):Gla.touches S i S.lines[i]=(hasPoint S S.lines[i]||crossBefore S i S.lines[i]):=by
 have hl:=r.lin _ (List.getElem_mem hi);unfold Gla.touches hasPoint crossBefore
 congr 1
 ·rw[Bool.eq_iff_iff,List.any_eq_true,List.any_eq_true];constructor
  ·rintro⟨k,hk,h⟩;rw[List.mem_range]at hk;simp only[Bool.and_eq_true,bne_iff_ne,ne_eq]at h;obtain⟨h1,h2,h3⟩:=h;have oo:=At7 (r.ord _ _ hl.1 hl.2) h3;have a:S.lines[i].1<k:=by
    rcases Nat.lt_trichotomy k S.lines[i].1 with z | z | z
    ·exact absurd (r.ord _ _ z (by lia)) oo.1
    ·exact absurd z h1
    ·exact z
   have b:k<S.lines[i].2:=by
    rcases Nat.lt_trichotomy k S.lines[i].2 with z | z | z
    ·exact z
    ·exact absurd z h2
    ·exact absurd (r.ord _ _ z hk) oo.2
   refine⟨k-(S.lines[i].1+1),List.mem_range.2 (by lia),?_⟩;have:S.lines[i].1+1+(k-(S.lines[i].1+1))=k:=by lia
   rw[this];exact h3
  ·rintro⟨k,hk,h⟩;rw[List.mem_range]at hk;refine⟨S.lines[i].1+1+k,List.mem_range.2 (by lia),?_⟩;simp only[Bool.and_eq_true,bne_iff_ne,ne_eq];exact⟨by lia,by lia,h⟩
 ·rw[Bool.eq_iff_iff,List.any_eq_true,List.any_eq_true];constructor
  ·rintro⟨m,hm,h⟩;refine⟨m,hm,?_⟩;rw[Bool.and_eq_true];refine⟨?_,h⟩;rw[decide_eq_true_iff];rw[List.mem_take_iff_getElem]at hm;obtain⟨j,hj,e⟩:=hm;have lm:=r.lin m (by rw[←e];exact List.getElem_mem _);have lo:=(Acl _ _).1 (r.lord j i (by lia) hi);rw[e]at lo;unfold crosses at h;simp only[Bool.and_eq_true,decide_eq_true_eq]at h;generalize S.lines[i]=l at *;have n1:m.1≠l.1:=by
    intro q;have:turn (S.pt l.1) (S.pt l.2) (S.pt m.1)=0:=by rw[q];unfold turn dx dy;grind
    rw[this]at h;simp at h
   refine⟨by lia,?_⟩;rcases Nat.lt_trichotomy l.1 m.2 with z | z | z
   ·exact z
   ·have:turn (S.pt l.1) (S.pt l.2) (S.pt m.2)=0:=by rw[←z];unfold turn dx dy;grind
    rw[this]at h;simp at h
   ·exfalso;have y1:=r.mono big lm.1 lm.2;have y2:=r.mono big z (by lia);have y3:=r.mono big hl.1 hl.2;have e1:=E1 (xx S) (yy S) l.1 l.2 m.1 m.2;have e2:=E2 (xx S) (yy S) l.1 l.2 m.1 m.2;have t1:=Abi S l.1 l.2 m.1;have t2:=Abi S l.1 l.2 m.2;have t3:=Abi S m.1 m.2 l.1;have t4:=Abi S m.1 m.2 l.2;have h1:=h.1;have h2:=h.2;generalize turn (S.pt l.1) (S.pt l.2) (S.pt m.1)=A at *;generalize turn (S.pt l.1) (S.pt l.2) (S.pt m.2)=B at *
    generalize turn (S.pt m.1) (S.pt m.2) (S.pt l.1)=C at *;generalize turn (S.pt m.1) (S.pt m.2) (S.pt l.2)=D at *;rw[t1,t2,t3]at e1;rw[t1,t2,t4]at e2;rcases Int.lt_trichotomy A 0 with a | a | a
    ·have b:0<B:=by
      rcases Int.lt_trichotomy B 0 with q | q | q
      ·have:=Abl a q;lia
      ·subst q;simp at h1
      ·exact q
     have j1:=Aaz (show 0<8388608*B by lia) (show yy S m.1-yy S l.1<0 by lia);have j2:=Abl (show 8388608*A<0 by lia) (show yy S m.2-yy S l.1<0 by lia);have c:8388608*C<0:=ln (b:=yy S l.2-yy S l.1) (by lia) (by lia);have j3:=Aaz (show 0<8388608*B by lia) (show yy S m.1-yy S l.2<0 by lia);have j4:=Abl (show 8388608*A<0 by lia) (show yy S m.2-yy S l.2<0 by lia);have d:8388608*D<0:=ln (b:=yy S l.2-yy S l.1) (by lia) (by lia)
     have:=Abl (show C<0 by lia) (show D<0 by lia);lia
    ·subst a;simp at h1
    ·have b:B<0:=by
      rcases Int.lt_trichotomy B 0 with q | q | q
      ·exact q
      ·subst q;simp at h1
      ·have:=Aar a q;lia
     have j1:=Abl (show 8388608*B<0 by lia) (show yy S m.1-yy S l.1<0 by lia);have j2:=Aaz (show 0<8388608*A by lia) (show yy S m.2-yy S l.1<0 by lia);have c:0<8388608*C:=lp (b:=yy S l.2-yy S l.1) (by lia) (by lia);have j3:=Abl (show 8388608*B<0 by lia) (show yy S m.1-yy S l.2<0 by lia);have j4:=Aaz (show 0<8388608*A by lia) (show yy S m.2-yy S l.2<0 by lia);have d:0<8388608*D:=lp (b:=yy S l.2-yy S l.1) (by lia) (by lia)
     have:=Aar (show 0<C by lia) (show 0<D by lia);lia
  ·rintro⟨m,hm,h⟩;rw[Bool.and_eq_true]at h;exact⟨m,hm,h.2⟩
def lexLt (a b:Way):Prop:=a.1<b.1∨(a.1=b.1∧a.2<b.2)
def outStep (S:Plan)(z:List Way×List (List Nat))(s:Way):List Way×List (List Nat) :=
 if s∈z.1 then z else(z.1++orb S s,if 0<twiceArea S (Vs S s)then z.2++[Vs S s] else z.2)
structure OutInv (S:Plan)(done:List Way)(z:List Way×List (List Nat)):Prop where
 gone:∀x,x∈z.1↔∃s,s∈done∧x∈orb S s
 nod:z.2.Nodup
 mem:∀l,l∈z.2↔∃s:Way,s∈done∧FstLeast S s∧0<twiceArea S l∧l=Vs S s
theorem OutInv.step (r:Rules S){st done rest:List Way}{s:Way}{z:List Way×List (List Nat)}(e:st=done++s::rest)(so:st.Pairwise lexLt)(mem:∀x,x∈st↔adj S x.1 x.2)
 (I:OutInv S done z):OutInv S (done++[s]) (outStep S z s):=by
 have as:adj S s.1 s.2:=(mem s).1 (by rw[e];simp);have ad:∀x,x∈done→adj S x.1 x.2:=fun x hx=>(mem x).1 (by rw[e];simp[hx]);rw[e]at so;have s2:=List.pairwise_append.1 so;have ahead:∀x,x∈done→lexLt x s:=fun x hx=>s2.2.2 x hx s (by simp);have s3:=List.pairwise_cons.1 s2.2.1;unfold outStep
 by_cases g:s∈z.1
 ·rw[if_pos g];obtain⟨t,ht,hs⟩:=(I.gone s).1 g;have lt:=ahead t ht;have nl:¬FstLeast S s:=by
   intro q;have tb:=r.orb_back (ad t ht) hs;have q1:=q t tb;have:t=s:=r.orb_once as tb (r.orb_self as) (by unfold lexLt at lt;lia);subst this;unfold lexLt at lt;lia
  refine⟨?_,I.nod,?_⟩
  ·intro x;rw[I.gone];constructor
   ·rintro⟨a,ha,hx⟩;exact⟨a,by simp[ha],hx⟩
   ·rintro⟨a,ha,hx⟩;rcases List.mem_append.1 ha with q | q
    ·exact⟨a,q,hx⟩
    ·rw[List.mem_singleton]at q;subst q;exact⟨t,ht,r.orb_trans (ad t ht) hs hx⟩
  ·intro l;rw[I.mem];constructor
   ·rintro⟨a,ha,hx⟩;exact⟨a,by simp[ha],hx⟩
   ·rintro⟨a,ha,hx⟩;rcases List.mem_append.1 ha with q | q
    ·exact⟨a,q,hx⟩
    ·rw[List.mem_singleton]at q;subst q;exact absurd hx.1 nl
 ·rw[if_neg g];have least:FstLeast S s:=by
   intro y hy;rcases Nat.lt_or_ge y.1 s.1 with q | q
   ·exfalso;have ay:=r.orb_adj as hy;have my:=(mem y).2 ay;rw[e]at my;have yd:y∈done:=by
     rcases List.mem_append.1 my with w | w
     ·exact w
     ·exfalso;rcases List.mem_cons.1 w with w | w
      ·subst w;lia
      ·have:=s3.1 y w;unfold lexLt at this;lia
    exact g ((I.gone s).2 ⟨y,yd,r.orb_back as hy⟩)
   ·exact q
  refine⟨?_,?_,?_⟩
  ·intro x;simp only[List.mem_append,I.gone];constructor
   ·rintro(⟨a,ha,hx⟩ | q)
    ·exact⟨a,.inl ha,hx⟩
    ·exact⟨s,.inr (by simp),q⟩
   ·rintro⟨a,ha | ha,hx⟩
    ·exact .inl ⟨a,ha,hx⟩
    ·rw[List.mem_singleton]at ha;subst ha;exact .inr hx
  ·simp only[]
   split
   ·rw[List.nodup_append];refine⟨I.nod,by simp,?_⟩;intro a ha b hb q;rw[List.mem_singleton]at hb;subst q;subst hb;obtain⟨t,ht,_,_,q⟩:=(I.mem _).1 ha;have:=r.Vs_inj as (ad t ht) q;have:=ahead t ht
    subst_vars
    unfold lexLt at this;lia
   ·exact I.nod
  ·intro l;simp only[];constructor
   ·intro hl;have:l∈z.2∨(l=Vs S s∧0<twiceArea S (Vs S s)):=by
     split at hl
     ·rename_i q
      rcases List.mem_append.1 hl with w | w
      ·exact .inl w
      ·rw[List.mem_singleton]at w;exact .inr ⟨w,q⟩
     ·exact .inl hl
    rcases this with w | w
    ·obtain⟨a,ha,hx⟩:=(I.mem l).1 w;exact⟨a,by simp[ha],hx⟩
    ·exact⟨s,by simp,least,by rw[w.1];exact w.2,w.1⟩
   ·rintro⟨a,ha,hx⟩;rcases List.mem_append.1 ha with q | q
    ·have:=(I.mem l).2 ⟨a,q,hx⟩
     split
     ·simp[this]
     ·exact this
    ·rw[List.mem_singleton]at q;subst q;rw[if_pos (by rw[←hx.2.2];exact hx.2.1)];simp[hx.2.2]
theorem Arm (r:Rules S){O:List (List Nat)}(hO:∀l,l∈O↔l∈S.outlines){z:Pt}(h:clear S z=true) :
 ∃l,l∈S.outlines∧S.outlines.find? (fun l=>insideOf S l z)=some l∧O.find? (fun l=>insideOf S l z)=some l:=by
 obtain⟨l,hl,hi,one⟩:=r.hold h;have key:∀L:List (List Nat),(∀x,x∈L↔x∈S.outlines)→L.find? (fun l=>insideOf S l z)=some l:=by
  intro L hL;cases q:L.find? (fun l=>insideOf S l z) with
  | none =>
   rw[List.find?_eq_none]at q;exact absurd hi (q l ((hL l).2 hl))
  | some x =>
   have:=one x ((hL x).1 (List.mem_of_find?_eq_some q)) (by simpa using List.find?_some q);rw[this]
 exact⟨l,hl,key _ (fun _=>Iff.rfl),key O hO⟩
theorem outs_len (r:Rules S){O:List (List Nat)}(nO:O.Nodup)(hO:∀l,l∈O↔l∈S.outlines):O.length=S.outlines.length:=by
 have a:=len_le nO (fun x hx=>(hO x).1 hx);have b:=len_le (Ag7 S) (fun x hx=>(hO x).2 hx);lia
end
structure Sim (n:Nat)(shut:Option Nat)(found:List Nat)(seen:Array Bool):Prop where
 size:seen.size=n
 iff:∀j,j<n→(seen.getD j true=true↔j∈found∨shut=some j)
 nod:found.Nodup
 lt:∀j,j∈found→j<n
 off:∀j,shut=some j→j∉found
def Aey (n:Nat)(seen:Array Bool):Nat:=(List.range n).countP fun j=>!(seen.getD j true)
def stepP (shut:Option Nat)(l:List Nat)(z:List Nat×List Nat):List Nat×List Nat :=
 l.foldl (fun a j=>if shut=some j∨j∈a.2 then a else(j::a.1,a.2++[j])) z
theorem Ai2 {p q:Nat→Bool}{j:Nat}:∀{L:List Nat},L.Nodup→j∈L→p j=true→q j=false→(∀i,i≠j→p i=q i)→L.countP p=L.countP q+1
 | [],_,h,_,_,_=>by simp at h
 | a::L,nd',h,hp,hq,e=>by
  have nr:=List.nodup_cons.1 nd'
  by_cases z:a=j
  ·subst z;have same:L.countP p=L.countP q:=by
    apply List.countP_congr;intro x hx;rw[e x (fun q=>nr.1 (by rw[←q];exact hx))]
   rw[List.countP_cons_of_pos hp,List.countP_cons_of_neg (by rw[hq];simp),same]
  ·have hj:j∈L:=by
    rcases List.mem_cons.1 h with w | w
    ·exact absurd w.symm z
    ·exact w
   have ih:=Ai2 nr.2 hj hp hq e
   by_cases w:p a=true
   ·rw[List.countP_cons_of_pos w,List.countP_cons_of_pos (by rw[←e a z];exact w)];lia
   ·rw[List.countP_cons_of_neg w,List.countP_cons_of_neg (by rw[←e a z];exact w)];lia
theorem Sim.push {n:Nat}{shut:Option Nat}{found:List Nat}{seen:Array Bool}(s:Sim n shut found seen){j:Nat}(hj:j<n)(h:¬(shut=some j∨j∈found)) :
 Sim n shut (found++[j]) (seen.setIfInBounds j true)∧Aey n seen=Aey n (seen.setIfInBounds j true)+1:=by
 refine⟨⟨?_,?_,?_,?_,?_⟩,?_⟩
 ·simp[s.size]
 ·intro i hi;rw[Aba,s.size]
  by_cases e:j=i
  ·subst e;rw[if_pos ⟨rfl,hj⟩];simp
  ·rw[if_neg (fun q=>e q.1),s.iff i hi,List.mem_append,List.mem_singleton];constructor
   ·rintro(q | q)
    ·exact .inl (.inl q)
    ·exact .inr q
   ·rintro((q | q) | q)
    ·exact .inl q
    ·exact absurd q.symm e
    ·exact .inr q
 ·rw[List.nodup_append];refine⟨s.nod,by simp,?_⟩;intro a ha b hb e;rw[List.mem_singleton]at hb;subst e;subst hb;exact h (.inr ha)
 ·intro i hi;rcases List.mem_append.1 hi with q | q
  ·exact s.lt i q
  ·rw[List.mem_singleton]at q;rw[q];exact hj
 ·intro i hi q;rcases List.mem_append.1 q with w | w
  ·exact s.off i hi w
  ·rw[List.mem_singleton]at w;subst w;exact h (.inl hi)
 ·unfold Aey;apply Ai2 List.nodup_range (List.mem_range.2 hj)
  ·have:=s.iff j hj;cases q:seen.getD j true with
   | false=>rfl
   | true=>exact absurd (this.1 q).symm (by intro w;exact h w)
  ·rw[Aba,s.size,if_pos ⟨rfl,hj⟩];rfl
  ·intro i hi;rw[Aba,if_neg (fun q=>hi q.1.symm)]
theorem step_sim {n:Nat}{shut:Option Nat}:∀(l:List Nat) (todo found:List Nat) (seen:Array Bool),(∀j,j∈l→j<n)→Sim n shut found seen→
 (stepP shut l (todo,found)).1=(Aao l (todo,seen)).1∧Sim n shut (stepP shut l (todo,found)).2 (Aao l (todo,seen)).2∧
 (Aao l (todo,seen)).1.length+Aey n (Aao l (todo,seen)).2=todo.length+Aey n seen
 | [],todo,found,seen,_,s=>⟨rfl,s,rfl⟩
 | j::l,todo,found,seen,hl,s=>by
  have hj:=hl j (by simp);have si:=s.iff j hj;unfold stepP Aao;rw[List.foldl_cons,List.foldl_cons]
  by_cases h:shut=some j∨j∈found
  ·rw[if_pos h,if_pos (si.2 h.symm)];exact step_sim l todo found seen (fun x hx=>hl x (by simp[hx])) s
  ·rw[if_neg h,if_neg (fun q=>h (si.1 q).symm)];obtain⟨s',u⟩:=s.push hj h;obtain⟨a,b,c⟩:=step_sim l (j::todo) (found++[j]) (seen.setIfInBounds j true) (fun x hx=>hl x (by simp[hx])) s';refine⟨a,b,?_⟩;unfold Aao at c;rw[c,List.length_cons];lia
structure Reach (S:Plan)(shut:Option Nat)(fin:Array Bool)(m:Nat)(todo found:List Nat):Prop where
 ex:∃seen,Sim S.pts.length shut found seen∧todo.length+Aey S.pts.length seen≤m∧spread S.nears m todo seen=fin
 lt:∀k,k∈todo→k<S.pts.length
theorem Ajq (shut:Option Nat)(x:Nat):∀(l:List Nat) (z:List Nat×List Nat),x∈(stepP shut l z).1→x∈l∨x∈z.1
 | [],_,h=>.inr h
 | j::l,z,h=>by
  unfold stepP at h;rw[List.foldl_cons]at h;rcases Ajq shut x l _ h with q | q
  ·exact .inl (by simp[q])
  ·split at q
   ·exact .inr q
   ·rcases List.mem_cons.1 q with w | w
    ·exact .inl (by simp[w])
    ·exact .inr w
section
variable {S:Plan}
theorem Reach.step (r:R45 S){shut:Option Nat}{fin:Array Bool}{m k:Nat}{todo found:List Nat}(h:Reach S shut fin m (k::todo) found) :
 ∃m',m=m'+1∧Reach S shut fin m' (stepP shut (S.near k) (todo,found)).1 (stepP shut (S.near k) (todo,found)).2:=by
 obtain⟨⟨seen,s,le,e⟩,lt⟩:=h;simp only[List.length_cons]at le;obtain⟨m',rfl⟩ : ∃m',m=m'+1:=⟨m-1,by lia⟩
 refine⟨m',rfl,?_,?_⟩
 ·have kn:=lt k (by simp);have nl:∀j,j∈S.near k→j<S.pts.length:=fun j hj=>by
   rcases (mem_near5 (fun l hl=>(r.lin l hl).1) k j).1 hj with q | q<;>(have:=r.lin _ q;simp only[]at this;lia)
  obtain⟨a,b,c⟩:=step_sim (S.near k) todo found seen nl s;refine⟨_,b,?_,?_⟩
  ·rw[a];lia
  ·have e':spread S.nears m' (Aao (S.nears.getD k []) (todo,seen)).1 (Aao (S.nears.getD k []) (todo,seen)).2=fin:=e;rw[Ak9 S kn]at e';rw[a];exact e'
 ·intro x hx;rcases Ajq shut x _ _ hx with q | q
  ·rcases (mem_near5 (fun l hl=>(r.lin l hl).1) k x).1 q with w | w<;>(have:=r.lin _ w;simp only[]at this;lia)
  ·exact lt x (by simp[q])
theorem Reach.done {shut:Option Nat}{fin:Array Bool}{m:Nat}{found:List Nat}(h:Reach S shut fin m [] found):Sim S.pts.length shut found fin:=by
 obtain⟨⟨seen,s,_,e⟩,_⟩:=h;have:spread S.nears m [] seen=seen:=by cases m<;>rfl
 rw[←e,this];exact s
theorem Abz {a:Array Bool}{j:Nat}(h:j<a.size):a.getD j true=a.getD j false:=by
 rw[Array.getD_eq_getD_getElem?,Array.getD_eq_getD_getElem?,Array.getElem?_eq_getElem h];rfl
theorem Reach.start0 (h4:4≤S.pts.length):Reach S none (seenFrom S.nears S.pts.length 0 (noneSeen S.pts.length)) (S.pts.length+1) [0] [0]:=by
 refine⟨⟨_,?_,?_,rfl⟩,?_⟩
 ·refine⟨by simp[noneSeen],?_,by simp,by intro j hj;simp at hj;lia,by intro j hj;simp at hj⟩;intro j hj;rw[Aba]
  by_cases q:0=j
  ·subst q;rw[if_pos ⟨rfl,by simp[noneSeen];lia⟩];simp
  ·rw[if_neg (fun w=>q w.1)];have e1:(noneSeen S.pts.length).getD j true=false:=by
    rw[Abz (by simp[noneSeen];exact hj),Ae8]
   rw[e1];simp;lia
 ·have:=List.countP_le_length (l:=List.range S.pts.length) (p:=fun j=>!(((noneSeen S.pts.length).setIfInBounds 0 true).getD j true));unfold Aey;simp only[List.length_range,List.length_cons,List.length_nil]at *;lia
 ·intro k hk;simp at hk;lia
theorem Reach.startV {v:Nat}(hv:v<S.pts.length)(h4:4≤S.pts.length) :
 Reach S (some v) (seenFrom S.nears S.pts.length (if v=0 then 1 else 0) ((noneSeen S.pts.length).setIfInBounds v true)) (S.pts.length+1) [if v=0 then 1 else 0] [if v=0 then 1 else 0]:=by
 have sv:(if v=0 then 1 else 0)≠v:=by split<;>lia
 have sn:(if v=0 then 1 else 0)<S.pts.length:=by split<;>lia
 generalize (if v=0 then 1 else 0)=s at *;refine⟨⟨_,?_,?_,rfl⟩,?_⟩
 ·refine⟨by simp[noneSeen],?_,by simp,by intro j hj;simp at hj;lia,by intro j hj;simp at hj;simp;lia⟩;intro j hj;rw[Aba,Aba]
  by_cases q:s=j
  ·subst q;rw[if_pos ⟨rfl,by simp[noneSeen];exact sn⟩];simp
  ·rw[if_neg (fun w=>q w.1)]
   by_cases q2:v=j
   ·subst q2;rw[if_pos ⟨rfl,by simp[noneSeen];exact hv⟩];simp
   ·rw[if_neg (fun w=>q2 w.1)];have e1:(noneSeen S.pts.length).getD j true=false:=by
     rw[Abz (by simp[noneSeen];exact hj),Ae8]
    rw[e1];constructor
    ·intro w;exact Bool.noConfusion w
    ·rintro(w | w)
     ·simp at w;lia
     ·simp at w;lia
 ·have:=List.countP_le_length (l:=List.range S.pts.length) (p:=fun j=>!((((noneSeen S.pts.length).setIfInBounds v true).setIfInBounds s true).getD j true));unfold Aey;simp only[List.length_range,List.length_cons,List.length_nil]at *;lia
 ·intro k hk;simp at hk;lia
theorem Sim.seen {n:Nat}{found:List Nat}{fin:Array Bool}(s:Sim n none found fin){j:Nat}(hj:j<n):fin.getD j false=true↔j∈found:=by
 rw[←Abz (by rw[s.size];exact hj),s.iff j hj];simp
theorem Sim.cuts {n v:Nat}{found:List Nat}{fin:Array Bool}(s:Sim n (some v) found fin)(hv:v<n):fin.contains false=true↔found.length<n-1:=by
 have nv:=s.off v rfl;constructor
 ·intro h;rw[Array.contains_iff_mem]at h;obtain⟨j,hj,e⟩:=Array.mem_iff_getElem.1 h;have hj':j<n:=by rw[←s.size];exact hj
  have:¬(j∈found∨some v=some j):=by
   rw[←s.iff j hj',Array.getD_eq_getD_getElem?,Array.getElem?_eq_getElem hj,e];simp
  have:=len_le (l:=v::j::found) (m:=List.range n) (by
   rw[List.nodup_cons,List.nodup_cons];refine⟨?_,fun q=>this (.inl q),s.nod⟩;intro q;rcases List.mem_cons.1 q with w | w
   ·exact this (.inr (by rw[w]))
   ·exact nv w) (by
   intro x hx;rw[List.mem_range];rcases List.mem_cons.1 hx with w | w
   ·lia
   ·rcases List.mem_cons.1 w with w | w
    ·lia
    ·exact s.lt x w)
  simp at this;lia
 ·intro h;apply Classical.byContradiction;intro no
  have:=len_le (l:=List.range n) (m:=v::found) List.nodup_range (by
   intro x hx;rw[List.mem_range]at hx
   by_cases e:x=v
   ·simp[e]
   ·have:fin.getD x true=true:=by
     rw[Array.getD_eq_getD_getElem?,Array.getElem?_eq_getElem (by rw[s.size];exact hx)];simp only[Option.getD_some];cases q:fin[x]'(by rw[s.size];exact hx) with
     | true=>rfl
     | false =>
      exfalso;apply no;rw[Array.contains_iff_mem,←q];exact Array.getElem_mem _
    rcases (s.iff x hx).1 this with w | w
    ·simp[w]
    ·simp at w;exact absurd w.symm e)
  simp at this;lia
theorem among_at (r:Rules S){O:List (List Nat)}(nO:O.Nodup)(hO:∀l,l∈O↔l∈S.outlines){z:Pt}(h:clear S z=true) :
 ∃(k:Nat) (hk:k<O.length),S.among S.outlines z=some O[k]∧insideOf S O[k] z=true∧∀j (hj:j<k),insideOf S (O[j]'(by lia)) z=false:=by
 obtain⟨l,hl,e1,e2⟩:=Arm r hO h;obtain⟨l',hl',hi,one⟩:=r.hold h;have ll:l=l':=one l hl (by simpa using List.find?_some e1);obtain⟨k,hk,ek⟩:=List.mem_iff_getElem.1 ((hO l).2 hl);refine⟨k,hk,?_,?_,?_⟩
 ·unfold Plan.among;rw[if_pos h,e1,ek]
 ·rw[ek,ll];exact hi
 ·intro j hj;cases q:insideOf S (O[j]'(by lia)) z with
  | false=>rfl
  | true =>
   exfalso;have:=one _ ((hO _).1 (List.getElem_mem (show j<O.length by lia))) q;rw[←ll,←ek]at this;have:=(List.getElem_inj nO).1 this;lia
end
end Pg
end
section
namespace Gs
open PySem
def Ris (l:List Nat):Prop:=l.Pairwise (·<·)
theorem Amh {xs:Array Nat}(h:Ris xs.toList){i j:Nat}{a b:Nat}(ij:i<j)(ha:xs[i]?=some a)(hb:xs[j]?=some b):a<b:=by
 rw[←Array.getElem?_toList]at ha hb;obtain⟨hi,rfl⟩:=List.getElem?_eq_some_iff.mp ha;obtain⟨hj,rfl⟩:=List.getElem?_eq_some_iff.mp hb;exact List.pairwise_iff_getElem.mp h i j hi hj ij
theorem Alr {xs:Array Nat}{j:Nat}(h:Ris xs.toList):∀(fuel lo hi:Nat),lo≤hi→hi≤xs.size→hi-lo≤fuel→(∀i a,i<lo→xs[i]?=some a→a<j)→(∀i a,hi≤i→xs[i]?=some a→j≤a)→
 SetTable.below.go xs j fuel lo hi≤xs.size∧(∀i a,i<SetTable.below.go xs j fuel lo hi→xs[i]?=some a→a<j)∧(∀i a,SetTable.below.go xs j fuel lo hi≤i→xs[i]?=some a→j≤a)
 | 0,lo,hi,h1,h2,h3,h4,h5=>by
  have:lo=hi:=by lia
  subst this;exact⟨h2,h4,h5⟩
 | fuel+1,lo,hi,h1,h2,h3,h4,h5=>by
  unfold SetTable.below.go
  by_cases q:lo<hi
  ·rw[if_pos q];dsimp only;have hm:(lo+hi)/2<xs.size:=by lia
   have em:xs[(lo+hi)/2]?=some xs[(lo+hi)/2]:=by simp[hm]
   have ed:xs.getD ((lo+hi)/2) j=xs[(lo+hi)/2]:=by simp[Array.getD,hm]
   rw[ed]
   by_cases c:xs[(lo+hi)/2]<j
   ·rw[if_pos c];refine Alr h fuel _ _ (by lia) h2 (by lia) (fun i a hi' ha=>?_) h5
    by_cases e:i=(lo+hi)/2
    ·subst e;rw[em]at ha;cases ha;exact c
    ·exact Nat.lt_trans (Amh h (by lia) ha em) c
   ·rw[if_neg c];refine Alr h fuel _ _ (by lia) (by lia) (by lia) h4 (fun i a hi' ha=>?_)
    by_cases e:i=(lo+hi)/2
    ·subst e;rw[em]at ha;cases ha;lia
    ·have:=Amh h (show(lo+hi)/2<i by lia) em ha;lia
  ·rw[if_neg q];have:lo=hi:=by lia
   subst this;exact⟨h2,h4,h5⟩
theorem Aex {xs:Array Nat}(h:Ris xs.toList)(j:Nat):SetTable.below xs j≤xs.size∧(∀i a,i<SetTable.below xs j→xs[i]?=some a→a<j)∧(∀i a,SetTable.below xs j≤i→xs[i]?=some a→j≤a) :=
 Alr h xs.size 0 xs.size (Nat.zero_le _) (Nat.le_refl _) (by lia) (fun i a hi _=>absurd hi (Nat.not_lt_zero _)) (fun i a hi ha=>by
  rw[Array.getElem?_eq_none hi]at ha;cases ha)
theorem Aoo {xs:Array Nat}(h:Ris xs.toList):SetTable.below xs 0=0:=by
 obtain⟨a,b,_⟩:=Aex h 0
 by_cases q:SetTable.below xs 0=0
 ·exact q
 ·have hs:0<xs.size:=by lia
  have:=b 0 xs[0] (by lia) (by simp[hs]);lia
theorem Aop {xs:Array Nat}(h:Ris xs.toList){i j:Nat}(hi:xs[i]?=some j):SetTable.below xs (j+1)=i+1:=by
 obtain⟨a,b,c⟩:=Aex h (j+1);have il:i<xs.size:=by
  by_cases q:i<xs.size
  ·exact q
  ·rw[Array.getElem?_eq_none (by lia)]at hi;cases hi
 have h1:¬SetTable.below xs (j+1)≤i:=fun q=>by have:=c i j q hi;lia
 by_cases q:i+1<SetTable.below xs (j+1)
 ·have hs:i+1<xs.size:=by lia
  have e:xs[i+1]?=some xs[i+1]:=by simp[hs]
  have h2:=b (i+1) _ q e;have h3:=Amh h (Nat.lt_succ_self i) hi e;lia
 ·lia
theorem Ant {xs:Array Nat}(h:Ris xs.toList){j:Nat}(hn:xs[SetTable.below xs j]?≠some j):Ris (SetTable.insertAt xs (SetTable.below xs j) j).toList:=by
 rw[SetTable.toList_insertAt];obtain⟨a,b,c⟩:=Aex h j;generalize SetTable.below xs j=p at *;unfold Ris;rw[List.pairwise_append];refine⟨h.sublist (List.take_sublist _ _),?_,fun x hx y hy=>?_⟩
 ·rw[List.pairwise_cons];refine⟨fun y hy=>?_,h.sublist (List.drop_sublist _ _)⟩;obtain⟨i,hi,rfl⟩:=List.mem_iff_getElem.1 hy;rw[List.length_drop]at hi;rw[List.getElem_drop];have e:xs[p+i]?=some (xs.toList[p+i]'(by lia)):=by rw[←Array.getElem?_toList];exact List.getElem?_eq_getElem _
  have h1:=c (p+i) _ (by lia) e
  by_cases z:i=0
  ·subst z;have:xs.toList[p+0]'(by lia)≠j:=fun q=>hn (e.trans (congrArg some q));lia
  ·have hp:p<xs.size:=by rw[Array.length_toList]at hi;lia
   have e0:xs[p]?=some xs[p]:=by simp[hp]
   have h2:=Amh h (show p<p+i by lia) e0 e;have h3:=c p _ (Nat.le_refl _) e0;lia
 ·obtain⟨i,hi,rfl⟩:=List.mem_iff_getElem.1 hx;rw[List.length_take]at hi;rw[List.getElem_take];have e:xs[i]?=some (xs.toList[i]'(by lia)):=by rw[←Array.getElem?_toList];exact List.getElem?_eq_getElem _
  have h1:=b i _ (by lia) e;rcases List.mem_cons.1 hy with rfl | hy
  ·exact h1
  ·obtain⟨k,hk,rfl⟩:=List.mem_iff_getElem.1 hy;rw[List.length_drop]at hk;rw[List.getElem_drop];exact List.pairwise_iff_getElem.mp h i (p+k) (by lia) (by lia) (by lia)
structure Good (led:Bool)(t:SetTable):Prop where
 ris:Ris t.place.toList
 dum:t.dummies = #[]
 led:t.led=led
theorem Apx (n:Nat):Ris (Array.range n).toList:=by
 unfold Ris;simp only[Array.toList_range];exact List.pairwise_lt_range
theorem Good.stand {led:Bool}{t:SetTable}(g:Good led t)(n:Nat):Good led (t.standIn n):=⟨Apx n,rfl,g.led⟩
theorem Arg (j:Nat):SetTable.has #[] j=false:=by
 unfold SetTable.has;simp
theorem Ahq {t:SetTable}(hd:t.dummies = #[]){h:Int}:∀(fuel:Nat) (p:SetTable.Probe) (j:Nat) (d:Option Nat),p.dummy=none→SetTable.probe.go t (fun _=>h+1) h fuel p=some (.empty j d)→d=none∧t.place[SetTable.below t.place j]?≠some j
 | 0,p,j,d,_,e=>by cases e
 | fuel+1,p,j,d,hp,e=>by
  unfold SetTable.probe.go at e;unfold SetTable.slot at e;dsimp only at e
  by_cases q:(t.place[SetTable.below t.place p.j]?==some p.j)=true
  ·rw[if_pos q]at e;dsimp only at e;rw[if_neg (by simp only[beq_iff_eq];lia)]at e;refine Ahq hd fuel _ j d ?_ e;unfold SetTable.advance
   split
   ·exact hp
   ·exact hp
  ·rw[if_neg q,hd,Arg,if_neg Bool.false_ne_true]at e;dsimp only at e;cases e;exact⟨hp,fun z=>q (by rw[z];simp)⟩
theorem Ark {t:SetTable}(hd:t.dummies = #[]){h:Int}{j:Nat}{b:Bool}(e:t.freeSlot h=some (j,b)):b=false∧t.place[SetTable.below t.place j]?≠some j:=by
 unfold SetTable.freeSlot SetTable.probe at e
 split at e
 ·rename_i j' d he
  obtain⟨rfl,hn⟩:=Ahq hd _ _ _ _ rfl he;cases e;exact⟨rfl,hn⟩
 ·cases e
theorem Good.lay {led:Bool}{t:SetTable}(g:Good led t)(es:Array (Int×Value))(h:Int)(x:Value):Good led (layNew t es h x).2.1:=by
 unfold layNew
 split
 ·rename_i slot b he
  obtain⟨rfl,hn⟩:=Ark g.dum he;dsimp only;have gp:Good led (t.put slot).1:=by
   unfold SetTable.put;refine⟨Ant g.ris hn,?_,g.led⟩;dsimp only;rw[g.dum,Arg,if_neg Bool.false_ne_true]
  unfold SetTable.orStandIn
  split
  ·exact gp
  ·exact gp.stand _
 ·exact g.stand _
theorem Ae4 (f:Nat→Option (Nat×Nat))(hf:∀j q,f j=some q→q.1=j):∀l:List Nat,l.Pairwise (·<·)→Ris ((l.filterMap f).map (·.1))
 | [],_=>.nil
 | a::l,h=>by
  rw[List.pairwise_cons]at h;have ih:=Ae4 f hf l h.2;rw[List.filterMap_cons]
  split
  ·exact ih
  ·rename_i q hq
   unfold Ris;rw[List.map_cons,List.pairwise_cons];refine⟨fun y hy=>?_,ih⟩;obtain⟨z,hz,rfl⟩:=List.mem_map.1 hy;obtain⟨b,hb,eb⟩:=List.mem_filterMap.1 hz;rw[hf _ _ hq,hf _ _ eb];exact h.1 b hb
theorem Good.relay {led:Bool}{t:SetTable}(g:Good led t)(es:Array (Int×Value))(n:Nat):Good led (relayAll t es n).2.1:=by
 unfold relayAll
 split
 ·rename_i t' order he
  dsimp only
  split
  ·unfold SetTable.relaid SetTable.laid at he;cases ho:SetTable.layClean (SetTable.sizeAbove n-1) (es.map (·.1)) with
   | none=>rw[ho]at he;cases he
   | some owner =>
    rw[ho]at he;injection he with he
    injection he with h1 h2
    subst h1;refine⟨?_,rfl,g.led⟩;dsimp only;refine Ae4 _ (fun j q hq=>?_) _ List.pairwise_lt_range;cases hw:owner.getD j none with
    | none=>rw[hw]at hq;cases hq
    | some k=>rw[hw]at hq;cases hq;rfl
  ·exact g.stand _
 ·exact g.stand _
def kE (e:Int×Value):Int:=match e.2 with
 | .int k _=>k
 | _=>0
def Els (l:List (Int×Value)):Prop:=∀e,e∈l→e.1=hashInt (kE e)∧∃t,e.2=.int (kE e) t
def SetA (h:Heap)(a:Addr)(led:Bool)(ks:List Int):Prop:=∃(o:Obj) (es:Array (Int×Value)) (ep:Nat) (t:SetTable),h.get? a=some o∧o.ExactSet∧o.data=.set es ep t∧Els es.toList∧es.toList.map kE=ks∧t.fits es.size=true∧Good led t∧ks.Nodup
theorem SetA.at_ {h h':Heap}{a:Addr}{led:Bool}{ks:List Int}(x:SetA h a led ks)(e:∀o,h.get? a=some o→h'.get? a=some o):SetA h' a led ks:=let ⟨o,es,ep,t,ho,r⟩:=x;⟨o,es,ep,t,e o ho,r⟩
theorem SetA.nd {h:Heap}{a:Addr}{led:Bool}{ks:List Int}(x:SetA h a led ks):ks.Nodup:=by
 obtain⟨_,_,_,_,_,_,_,_,_,_,_,z⟩:=x;exact z
section
variable {prog:Program}{w:World}{A:Around}{E:Value→Shared→Prop}{s:Shared}
theorem Els.elems {l:List (Int×Value)}(h:Els l):ElemsOf (intKind prog w) l:=fun e he=>by
 obtain⟨h1,t,h2⟩:=h e he;refine⟨⟨kE e,?_,h1⟩,?_⟩
 ·rw[h2];exact intKind_is _ _ _ _
 ·rw[h2];rfl
theorem Els.perm {l l':List (Int×Value)}(h:Els l)(p:l'.Perm l):Els l':=fun e he=>h e (p.mem_iff.mp he)
theorem Ang {g:Bool→Sem Unit}(gw:∀(b:Bool) (s':Shared) (Z:Unit→Shared→Prop),Z () s'→wpAny (model prog w) A (g b) Z E s'){a:Addr}{o:Obj}{es:Array (Int×Value)}{ep:Nat}{t:SetTable}(ho:s.heap.get? a=some o)(ox:o.ExactSet)(od:o.data=.set es ep t)
 {e1:Array (Int×Value)} {t1:SetTable} {led wd:Bool} (l1:Els e1.toList) (n1:(e1.toList.map kE).Nodup) (b1:e1.size<scanBound) (f1:t1.fits e1.size=true) (g1:Good led t1) {R:Option Bool→Shared→Prop}
 (h:∀h' ks,Heap.SameBut a s.heap h'→SetA h' a led ks→ks.Perm (e1.toList.map kE)→R (some true) { s with heap:=h' }) :
 wpAny (model prog w) A (do
  storeSet a e1 t1
  if (!wd&&t1.tooFull)=true then do
   g (relayAll t1 e1 (SetTable.grown e1.size)).2.2
   storeSet a (relayAll t1 e1 (SetTable.grown e1.size)).1 (relayAll t1 e1 (SetTable.grown e1.size)).2.1
   pure (some true)
  else pure (some true)) R E s:=by
 refine wpAny_bind (wpAny_storeSet_of ho od ?_ (fits_of_scanBound b1));have put:∀{h:Heap} {o:Obj} {es:Array (Int×Value)} {ep:Nat} {t:SetTable} (e2:Array (Int×Value)) (t2:SetTable),h.get? a=some o→o.data=.set es ep t→(h.update a (Obj.putSet e2 t2)).get? a=some { o with data:=.set e2 (ep+1) t2 }:=fun {h o es ep t} e2 t2 q d=>by
  have z:=Heap.get?_update_self (Obj.putSet e2 t2) q (by rw[putSet_of e2 t2 d];rfl);rw[putSet_of e2 t2 d]at z;exact z
 have o1:=put e1 t1 ho od;have sb:=Heap.SameBut.update s.heap a (Obj.putSet e1 t1);refine wpAny_ite_split (fun _=>?_) (fun _=>?_)
 ·have pm:=relayAll_perm t1 e1 (SetTable.grown e1.size);have ft:=relayAll_fits t1 e1 (SetTable.grown e1.size);have gd:=g1.relay e1 (SetTable.grown e1.size);generalize relayAll t1 e1 (SetTable.grown e1.size)=Z at pm ft gd ⊢;obtain⟨e2,t2,gv⟩:=Z;dsimp only at pm ft gd ⊢;have sz:e2.size=e1.size:=by rw[←Array.length_toList,pm.length_eq,Array.length_toList]
  refine wpAny_bind (gw _ _ _ ?_);refine wpAny_bind (wpAny_storeSet_of o1 rfl ?_ (fits_of_scanBound (by rw[sz];exact b1)));refine wpAny_pure (h _ _ (sb.trans (Heap.SameBut.update _ a _)) ⟨_,e2,_,t2,put e2 t2 o1 rfl,ox,rfl,l1.perm pm,rfl,ft,gd,(pm.map kE).nodup_iff.mpr n1⟩ (pm.map kE))
 ·exact wpAny_pure (h _ _ sb ⟨_,e1,_,t1,o1,ox,rfl,l1,rfl,f1,g1,n1⟩ (List.Perm.refl _))
theorem Azm {e:Int×Value}{v:Int}(h:e.1=hashInt (kE e)∧∃t,e.2=.int (kE e) t):(intKind prog w).is v e.2=decide (v=kE e):=by
 obtain⟨_,t,h2⟩:=h;rw[h2];show Value.isInt v (.int (kE e) t)=_;unfold Value.isInt
 by_cases q:v=kE e
 ·simp[q]
 ·have:¬kE e=v:=fun z=>q z.symm;simp[q,this]
theorem Avz {a:Addr}{led:Bool}{ks:List Int}{v:Int}{t:Tok}{Q:Bool→Shared→Prop}(hS:SetA s.heap a led ks)(hb:ks.length+1<scanBound)
 (h:∀h' ks' b tk,Heap.SameBut a s.heap h'→SetA h' a led ks'→(∀x,x∈ks'↔x∈ks∨x=v)→Q b { s with heap:=h',toks:=tk }):wpAny (model prog w) A (setAdd a (.int v t)) Q E s:=by
 obtain⟨o,es,ep,tb,ho,ox,od,el,rfl,ft,gd,nd⟩:=hS;rw[List.length_map,Array.length_toList]at hb;have ie:=el.elems (prog:=prog) (w:=w);unfold setAdd;refine wpAny_holding (wpAny_bind ((intKind prog w).pyHash (k:=v) (intKind_is _ _ _ _) ?_));unfold setAddHashed setAddHashedIn;refine wpAny_holding (wpAny_bind (wpAny_setState_of (s:={ s with toks:=s.toks+1 }) ho od ft ?_));dsimp only;rw[byScan_of (knd:=intKind prog w) (x:=.int v t) rfl (by lia) ie,if_pos rfl]
 unfold setAddByScan;refine wpAny_bind (wpAny_bind (wpAny_rule (wpAny_bind (wpAny_setScan_of (knd:=intKind prog w) (intKind_is _ _ _ _) ho od ft ie ?_))));cases hr:es.toList.findIdx? (fun e=>(intKind prog w).is v e.2) with
 | some j =>
  dsimp only;obtain⟨hj,pj,_⟩:=List.findIdx?_eq_some_iff_getElem.mp hr;have mj:=List.getElem_mem hj;rw[Azm (el _ mj),decide_eq_true_eq]at pj;refine wpAny_pure (wpAny_pure (h s.heap _ _ _ (Heap.SameBut.refl a s.heap) ⟨o,es,ep,tb,ho,ox,od,el,rfl,ft,gd,nd⟩ fun x=>⟨.inl,fun q=>q.elim id fun z=>?_⟩));rw[z];exact List.mem_map.2 ⟨_,mj,pj.symm⟩
 | none =>
  dsimp only;have nv:v∉es.toList.map kE:=fun m=>by
   obtain⟨e,he,ev⟩:=List.mem_map.1 m;have z:=List.findIdx?_eq_none_iff.mp hr e he;rw[Azm (el _ he),decide_eq_false_iff_not]at z;exact z ev.symm
  have pm:=layNew_perm tb es ((intKind prog w).hash v) (.int v t);have f1:=layNew_fits tb es ((intKind prog w).hash v) (.int v t);have g1:=gd.lay es ((intKind prog w).hash v) (.int v t);generalize layNew tb es ((intKind prog w).hash v) (.int v t)=Z at pm f1 g1 ⊢;obtain⟨e1,t1,wd,gv⟩:=Z;dsimp only at pm f1 g1 ⊢;rw[Array.toList_push]at pm;have pk:(e1.toList.map kE).Perm (es.toList.map kE++[v]):=by
   have z:=pm.map kE;rw[List.map_append]at z;exact z
  have l1:Els e1.toList:=Els.perm (fun e he=>(List.mem_append.1 he).elim (el e) fun z=>by rw[List.mem_singleton.1 z];exact⟨rfl,t,rfl⟩) pm;have n1:(e1.toList.map kE).Nodup:=pk.nodup_iff.mpr (List.nodup_append.2 ⟨nd,List.nodup_cons.2 ⟨List.not_mem_nil,List.nodup_nil⟩,fun x hx y hy=>by rw[List.mem_singleton.1 hy];exact fun z=>nv (z ▸ hx)⟩);have b1:e1.size<scanBound:=by
   have z:=pm.length_eq;rw[List.length_append,Array.length_toList,Array.length_toList,List.length_singleton]at z;lia
  have fin:∀h' ks,Heap.SameBut a s.heap h'→SetA h' a led ks→ks.Perm (e1.toList.map kE)→Q true { s with heap:=h',toks:=s.toks+1 }:=fun h' ks sb sa pq =>
   h h' ks true _ sb sa fun x=>by rw[(pq.trans pk).mem_iff,List.mem_append,List.mem_singleton]
  refine wpAny_bind ?_;have gw:∀(b:Bool) (s':Shared) (Z:Unit→Shared→Prop),Z () s'→wpAny (model prog w) A (match b with | true=>rule "set.scan.the-table-gave-way" | false=>pure ()) Z E s':=fun b s' Z q=>by cases b<;>first | exact wpAny_pure q | exact wpAny_rule q
  refine gw gv _ _ ?_;refine wpAny_ite_split (fun _=>wpAny_bind ?_) (fun _=>wpAny_bind ?_)
  ·rw[hashByValue_scannable 8 (x:=.int v t) rfl];refine wpAny_pure ?_;refine Ang (s:={ s with toks:=s.toks+1 }) gw ho ox od l1 n1 b1 f1 g1 fun h' ks sb sa pq=>?_;exact wpAny_pure (fin h' ks sb sa pq)
  ·refine wpAny_pure ?_;refine Ang (s:={ s with toks:=s.toks+1 }) gw ho ox od l1 n1 b1 f1 g1 fun h' ks sb sa pq=>?_;exact wpAny_pure (fin h' ks sb sa pq)
end
end Gs
end
section
namespace Gs
open PySem PyProof.Rows
abbrev ledOf (w:World):Bool:=!w.params.followText "set-order"
section
variable {prog:Program}{w:World}{A:Around}{E:Value→Shared→Prop}{s:Shared}
theorem Asa {R:Result→Shared→Prop}{I S:Addr}{fp wr:List Addr}{n:Nat}{P:Nat→Value→Prop}{St:Nat→Heap→Prop}(W:Walks prog w A.in1 I fp wr n P St)(hS:S∉fp){ns B:List Int}{led:Bool}(hv:∀i v,P i v→∃t,v=.int (ns.getD i 0) t)(ln:ns.length=n)
 (hB:∀x,x∈ns→x∈B) (lB:B.length+1<scanBound) :
 ∀(k i:Nat) (s:Shared) (ks:List Int),n-i=k→i≤n→St i s.heap→SetA s.heap S led ks→(∀x,x∈ks↔x∈ns.take i)→
  (∀(h':Heap) (tk:Nat) (ks':List Int),SetA h' S led ks'→(∀x,x∈ks'↔x∈ns)→(∀b o,b≠S→b∉wr→s.heap.get? b=some o→h'.get? b=some o)→R (.ok (.ret .none)) { s with heap:=h',toks:=tk })→
  codeAny (model prog w) A (.builtin "set.update.loop" ⟨[.ref S,.ref I],[]⟩) R s:=by
 have hw:S∉wr:=fun h=>hS (W.sub _ h);intro k
 induction k with
 | zero =>
  intro i s ks hk hi st sa mm fin;have:i=n:=by lia
  subst this;refine codeAny_builtin PyProof.Rows.F.entry_set_update_loop ?_;rw[Around.under_plainId PyProof.Rows.F.plain_set_update_loop _];show wpAny _ A.in1 (pyNext (.ref I) >>= _) _ _ s;refine wpAny_bind (W.done s _ _ st fun h' tk kp=>?_);show wpAny _ A.in1 (ret Value.none) _ _ _;refine wpAny_pure (fin h' tk ks (sa.at_ fun o e=>kp S o hw e) (fun x=>by rw[mm x,List.take_of_length_le (by lia)]) fun b o _ hb e=>kp b o hb e)
 | succ k ih =>
  intro i s ks hk hi st sa mm fin;have lt:i<n:=by lia
  refine codeAny_builtin PyProof.Rows.F.entry_set_update_loop ?_;rw[Around.under_plainId PyProof.Rows.F.plain_set_update_loop _];show wpAny _ A.in1 (pyNext (.ref I) >>= _) _ _ s;refine wpAny_bind (W.item i s _ _ lt st fun v h' tk pv st' kp=>?_);obtain⟨t,rfl⟩:=hv i v pv;have sa':SetA h' S led ks:=sa.at_ fun o e=>kp S o hw e;show wpAny _ A.in1 (holding [Value.int (ns.getD i 0) t] (setAdd S (.int (ns.getD i 0) t)) >>= _) _ _ _
  have kb:ks.length+1<scanBound:=by
   have:=Pg.len_le sa.nd fun x hx=>hB x (List.mem_of_mem_take ((mm x).1 hx));lia
  refine wpAny_bind (wpAny_holding (Avz sa' kb fun h2 ks2 b tk2 sb sa2 m2=>?_));refine wpAny_pure ⟨plainId_quiet PyProof.Rows.F.plain_set_update_loop _,ih (i+1) _ ks2 (by lia) lt (W.frame _ h' _ st' fun b hb o e=>?_) sa2 (fun x=>?_) fun h3 tk3 ks3 sa3 m3 kp3=>fin h3 tk3 ks3 sa3 m3 fun b o hb hbw e=>kp3 b o hb hbw ?_⟩
  ·rw[sb.2 b fun z=>hS (z ▸ hb)];exact e
  ·have gi:ns[i]?=some (ns.getD i 0):=by rw[List.getD_eq_getElem?_getD,List.getElem?_eq_getElem (by lia)];rfl
   rw[m2 x,mm x,List.take_add_one,gi,List.mem_append];simp
  ·show h2.get? b=some o;rw[sb.2 b hb];exact kp b o hbw e
set_option maxHeartbeats 3200000 in
theorem Aud (a:Value){Q:Value→Shared→Prop}(h:Q (.ref s.heap.objs.size) { s with heap:=s.heap.push { cls:=.type "set",dict:=none,data:=.set #[] 0 (.fresh 0 0 (ledOf w)) } }) :
 codeAny (model prog w) A (.call (.builtin "set.__new__") ⟨[.type "set",a],[]⟩) (wants Q E) s:=by
 refine codeAny_of_tree ?_;show wpAny _ A.in1 (checkBuiltinCall "set.__new__" ⟨[.type "set",a],[]⟩ >>= fun _=>again (.builtin "set.__new__" ⟨[.type "set",a],[]⟩)) _ _ s;refine wpAny_bind (wpAny_of_eq (PySem.F.newCall_set_1 a) (wpAny_pure ⟨plainId_quiet PySem.F.plain_set_new _,codeAny_builtin PySem.F.entry_set_new ?_⟩));rw[Around.under_plainId PySem.F.plain_set_new _];have su:=sub_set_self;unfold Builtin.«set.__new__» Builtin.Frozenset.newClass
 obtain⟨hp,gn,dn,tn,on⟩:=s;dsimp only at h ⊢
 wp_walk
 refine wpAny_askSetting (wpAny_pure ?_);dsimp only;simp only[newObj];exact wpAny_bind (wpAny_alloc (wpAny_pure (wpAny_pure h)))
set_option maxHeartbeats 3200000 in
theorem Aue {l:Addr}{items:Array Value}{ns B:List Int}{Q:Value→Shared→Prop}(hh:A.handled=none)(hl:s.heap.IsList l items)(hi:IntsAre items.toList ns)(hB:∀x,x∈ns→x∈B)(lB:B.length+1<scanBound)
 (h:∀(h':Heap) (tk:Nat) (ks:List Int),SetA h' s.heap.objs.size (ledOf w) ks→(∀x,x∈ks↔x∈ns)→(∀b o,s.heap.get? b=some o→h'.get? b=some o)→Q (.ref s.heap.objs.size) { s with heap:=h',toks:=tk }) :
 wpAny (model prog w) A (call (.type "set") [.ref l]) Q E s:=by
 obtain⟨c,tl,mr⟩:=PySem.F.called_set.mro;have md:=PySem.F.called_set.made;have sb:=PySem.F.called_set.sub;have n1:=PySem.F.called_set.notType;have n2:=PySem.F.called_set.canCreate;have tc:=PySem.F.typeCall_set_1 (.ref l);refine wpAny_call (codeAny_of_tree ?_);show wpAny _ _ (callAny (.type "set") _) _ _ _;refine wpAny_pure ⟨Code.quiet_builtin _ (by decide +kernel),codeAny_builtin PySem.F.entry_type_call ?_⟩
 rw[Around.under_plain (weight_type_call_type "set" [.ref l] []) rfl]
 repeat (any_goals (first | assumption | wp_step))
 refine codeAny_mono (Aud (.ref l) (E:=E) (Q:=fun obj s1=>obj=.ref s.heap.objs.size∧s1={ s with heap:=s.heap.push { cls:=.type "set",dict:=none,data:=.set #[] 0 (.fresh 0 0 (ledOf w)) } }) ⟨rfl,rfl⟩) fun r s1 hr=>?_;cases r with
 | error e=>exact hr
 | ok fl =>
  cases fl with
  | ret obj =>
   obtain⟨rfl,rfl⟩:=hr;have oS:(s.heap.push { cls:=.type "set",dict:=none,data:=.set #[] 0 (.fresh 0 0 (ledOf w)) }).get? s.heap.objs.size=some { cls:=.type "set",dict:=none,data:=.set #[] 0 (.fresh 0 0 (ledOf w)) }:=Heap.get?_push_size _ rfl;have tS:Shared.TypeIs { s with heap:=s.heap.push { cls:=.type "set",dict:=none,data:=.set #[] 0 (.fresh 0 0 (ledOf w)) } } (.ref s.heap.objs.size) "set":=⟨_,oS,rfl⟩
   have li:=PySem.F.called_set.init.lookup;have bi:=PySem.F.called_set.init.bind (.ref s.heap.objs.size)
   repeat (any_goals (first | assumption | wp_step))
   refine codeAny_mono (codeAny_call_builtin (R:=wants (fun r s2=>r=.none∧∃h' tk ks,s2={ s with heap:=h',toks:=tk }∧SetA h' s.heap.objs.size (ledOf w) ks∧(∀x,x∈ks↔x∈ns)∧(∀b o,s.heap.get? b=some o→h'.get? b=some o)) E) PySem.F.called_set.init.plain PySem.F.entry_set_init (check_set_init_1 tS ?_)) fun r2 s2 hr2=>?_
   ·obtain⟨ol,hol,cl,nl,dl⟩:=hl;obtain⟨oc,od,oda,osl⟩:=ol;simp only at cl dl;subst cl;subst dl;have ol':(s.heap.push { cls:=.type "set",dict:=none,data:=.set #[] 0 (.fresh 0 0 (ledOf w)) }).get? l=some { cls:=.type "list",dict:=od,data:=.seq items nl,slots:=osl }:=Heap.get?_push_of_some _ hol;have q1:=PySem.F.sub_list_set;have q2:=PySem.F.sub_list_frozenset;have q3:(Value.type "list" == Value.type "dict")=false:=by decide
    have l1:(s.heap.push { cls:=.type "set",dict:=none,data:=.set #[] 0 (.fresh 0 0 (ledOf w)) }).IsList l items:=⟨_,ol',rfl,nl,rfl⟩
    unfold Builtin.«set.__init__» noKeywords Builtin.Frozenset.updateFrom;generalize hPI:pyIter=PI
    wp_walk
    subst hPI;have ll:l<s.heap.objs.size:=Heap.lt_size hol;have szp:(s.heap.push { cls:=.type "set",dict:=none,data:=.set #[] 0 (.fresh 0 0 (ledOf w)) }).objs.size=s.heap.objs.size+1:=Heap.size_push ..;refine wpAny_pyIter_list l1 (wpAny_bind (wpAny_runValue ?_));refine Asa (ns:=ns) (led:=ledOf w) (Walks.list (A:=A.in1.in1.in1) hh _ l (by rw[szp];lia) items) (S:=s.heap.objs.size) ?_ (fun i v hv=>IntsAre.int_at hi i v (by rw[Array.getElem?_toList];exact hv)) (by rw[←IntsAre.length hi,Array.length_toList]) hB lB (items.size-0) 0 _ [] (by lia) (Nat.zero_le _) ⟨⟨_,Heap.get?_push_size _ rfl,rfl,rfl⟩,(l1.push _)⟩ ?_ (fun x=>by simp) fun h' tk ks sa mm kp=>?_
    ·rw[szp];simp;lia
    ·refine⟨_,#[],0,_,Heap.get?_push_of_some _ oS,⟨rfl,rfl,rfl⟩,rfl,fun e he=>by simp at he,rfl,rfl,⟨.nil,rfl,rfl⟩,List.nodup_nil⟩
    ·show wpAny _ _ _ _ _ _;refine wpAny_pure ?_;show wpAny _ _ (ret Value.none) _ _ _;refine wpAny_pure ⟨rfl,h',tk,ks,rfl,sa,mm,fun b o e=>?_⟩;have lb:=Heap.lt_size e;exact kp b o (Nat.ne_of_lt lb) (by rw[szp];simp;lia) (Heap.get?_push_of_some _ (Heap.get?_push_of_some _ e))
   ·cases r2 with
    | error e=>exact hr2
    | ok fl2 =>
     cases fl2 with
     | ret r =>
      obtain⟨rfl,h',tk,ks,rfl,sa,mm,kp⟩:=hr2
      repeat (any_goals (first | assumption | wp_step))
      exact h _ _ _ sa mm kp
     | _=>exact hr2.elim
  | _=>exact hr.elim
end
end Gs
end
section
namespace Gs
open PySem PyProof.Rows
namespace F9
theorem Av2:Manifest.owners.lookup (String.ofList ['r','o','t','a','r','e','t','i','_','t','e','s'].reverse)=some Manifest.sig_set_iterator:=by kernel_rfl
theorem slot_next:Slot "set_iterator" "__next__" "set_iterator.__next__" :=
 .of (owner:="set_iterator") (n:="__next__") (by rw[typeLookup_type,builtinLookup_eq_fast];kernel_rfl) (by decide +kernel) (by decide +kernel) (by decide +kernel) (by first | exact .inl (by decide +kernel) | exact .inr (by decide +kernel)) (by rw[isSubtype_type];kernel_rfl)
theorem slot_self:Slot "set_iterator" "__iter__" "set_iterator.__iter__" :=
 .of (owner:="set_iterator") (n:="__iter__") (by rw[typeLookup_type,builtinLookup_eq_fast];kernel_rfl) (by decide +kernel) (by decide +kernel) (by decide +kernel) (by first | exact .inl (by decide +kernel) | exact .inr (by decide +kernel)) (by rw[isSubtype_type];kernel_rfl)
theorem entry_next:entryFor table "set_iterator.__next__" = some Builtin.«set_iterator.__next__»:=entryFor_of_tree (by kernel_rfl)
theorem entry_self:entryFor table "set_iterator.__iter__" = some Builtin.«dict_keyiterator.__iter__»:=entryFor_alias (id':="dict_keyiterator.__iter__") (by kernel_rfl) rfl (by decide +kernel) (by kernel_rfl)
theorem entry_iter:entryFor table "set.__iter__" = some Builtin.«frozenset.__iter__»:=entryFor_alias (id':="frozenset.__iter__") (by kernel_rfl) rfl (by decide +kernel) (by kernel_rfl)
theorem args_next (a:Value):argsOk "set_iterator.__next__" ⟨[a],[]⟩:=by
 unfold argsOk;rw[signature?_of (id:="set_iterator.__next__") (n:=['_','_','t','x','e','n','_','_']) (o:=['r','o','t','a','r','e','t','i','_','t','e','s']) (by kernel_rfl) Av2];kernel_rfl
theorem args_self (a:Value):argsOk "set_iterator.__iter__" ⟨[a],[]⟩:=by
 unfold argsOk;rw[signature?_of (id:="set_iterator.__iter__") (n:=['_','_','r','e','t','i','_','_']) (o:=['r','o','t','a','r','e','t','i','_','t','e','s']) (by kernel_rfl) Av2];kernel_rfl
end F9
theorem Aev {α:Type}{x:α}:∀{l:List α} {i:Nat},l[i]?=some x→(x::l.eraseIdx i).Perm l
 | [],i,h=>by cases h
 | a::l,0,h=>by cases h;exact List.Perm.refl _
 | a::l,i+1,h=>(List.Perm.swap a x _).trans ((Aev (l:=l) (i:=i) h).cons a)
theorem Aq8 {α:Type}(f:Nat→Nat):∀(fuel k:Nat) (left:List α) (out:Array α),left.length=fuel→(pickOrder.go f fuel k left out).toList.Perm (out.toList++left)
 | 0,k,left,out,h=>by
  have:left=[]:=List.eq_nil_of_length_eq_zero h;subst this;unfold pickOrder.go;rw[List.append_nil]
 | fuel+1,k,left,out,h=>by
  unfold pickOrder.go;have lt:f k%left.length<left.length:=Nat.mod_lt _ (by lia);have e:left[f k%left.length]?=some left[f k%left.length]:=List.getElem?_eq_getElem lt;rw[e];dsimp only;refine(Aq8 f fuel (k+1) _ _ (by rw[List.length_eraseIdx,if_pos lt,h];rfl)).trans ?_;rw[Array.toList_push,List.append_assoc];exact(Aev e).append_left _
theorem Aq7 {α:Type}(f:Nat→Nat)(xs:Array α):(pickOrder f xs).toList.Perm xs.toList:=by
 unfold pickOrder;exact Aq8 f xs.size 0 xs.toList #[] (by simp)
section
variable {prog:Program}{w:World}{A:Around}{E:Value→Shared→Prop}{s:Shared}
theorem Bae {M:Model}{src:Source}{n:Nat}{Q:Nat→Shared→Prop}(hn:n≠0)(h:∀i d,i<n→Q i { s with drawn:=d }):wpAny M A (choose src n) Q E s:=fun Γ p _=>⟨hn,h _ _ (Nat.mod_lt _ (Nat.pos_of_ne_zero hn))⟩
theorem Aox {α:Type}{M:Model}:∀(n:Nat) (xs:List α) (s:Shared) {Q:List α→Shared→Prop},xs.length=n→(∀ys d,ys.Perm xs→Q ys { s with drawn:=d })→wpAny M A (drawOrder n xs) Q E s
 | 0,xs,s,Q,h,q=>by
  have:xs=[]:=List.eq_nil_of_length_eq_zero h;subst this;unfold drawOrder;exact wpAny_pure (q [] s.drawn (List.Perm.refl _))
 | n+1,[],s,Q,h,q=>by cases h
 | n+1,x::r,s,Q,h,q=>by
  unfold drawOrder;refine wpAny_bind (Bae (by simp) fun i d hi=>?_);have e:(x::r)[i]?=some (x::r)[i]:=List.getElem?_eq_getElem hi;rw[e];dsimp only;refine wpAny_bind (Aox n _ _ (by rw[List.length_eraseIdx,if_pos hi,h];rfl) fun ys d2 py=>?_);refine wpAny_pure (q _ d2 ?_);exact(py.cons _).trans (Aev e)
def IsIt (h:Heap)(I:Addr)(f:Value)(i:Nat)(S:Addr)(n ep:Nat):Prop:=∃o,h.get? I=some o∧o.cls=.type "set_iterator"∧o.data=.fields #[f,.int i 0,.ref S,.int n 0,.int ep 0]
theorem IsIt.type {I S:Addr}{f:Value}{i n ep:Nat}(h:IsIt s.heap I f i S n ep):s.TypeIs (.ref I) "set_iterator":=let ⟨o,a,b,_⟩:=h;⟨o,a,b⟩
theorem IsIt.at_ {h h':Heap}{I S:Addr}{f:Value}{i n ep:Nat}(x:IsIt h I f i S n ep)(e:∀o,h.get? I=some o→h'.get? I=some o):IsIt h' I f i S n ep:=let ⟨o,a,b⟩:=x;⟨o,e o a,b⟩
theorem Amz {h:Heap}{I S:Addr}{f:Value}{i n ep:Nat}(x:IsIt h I f i S n ep)(g:Array Value→Array Value){f':Value}{i':Nat}(e:g #[f,.int i 0,.ref S,.int n 0,.int ep 0] = #[f',.int i' 0,.ref S,.int n 0,.int ep 0]):IsIt (h.update I (Obj.mapFields g)) I f' i' S n ep:=by
 obtain⟨o,ho,hc,hd⟩:=x;exact⟨_,Heap.get?_update_self _ ho (Obj.isFreed_of_fields (Obj.data_mapFields hd _)),(Obj.cls_mapFields ..).trans hc,by rw[Obj.data_mapFields hd,e]⟩
theorem Aj4 {I S:Addr}{f:Value}{i n ep:Nat}{o:Obj}{es:Array (Int×Value)}{t:SetTable}{Q:Option Value→Shared→Prop}(hit:IsIt s.heap I f i S n ep)(hS:s.heap.get? S=some o)(hd:o.data=.set es ep t)(hf:t.fits es.size=true)(hn:es.size=n)
 (h:wpAny (model prog w) A.in1 (if let .int slot _:=f then do
  match ←setNext S slot.toNat ((i:Nat):Int).toNat ((ep:Nat):Int).toNat with
  | some (x,next)=>setField (.ref I) 0 (rawInt next);setField (.ref I) 1 (rawInt (((i:Nat):Int)+1));ret x
  | none=>setField (.ref I) 2 .none;raiseNew (←newExc (.type "StopIteration") [])
  else do
   let some places ←seqItems? f | unsupported "internal:set_iterator"
   match places[((i:Nat):Int).toNat]? with
   | some (.int place _)=>let x ←setNextDrawn S place.toNat ((ep:Nat):Int).toNat;setField (.ref I) 1 (rawInt (((i:Nat):Int)+1));ret x
   | some _=>unsupported "internal:set_iterator"
   | none=>setField (.ref I) 0 (rawInt 0);setField (.ref I) 2 .none;raiseNew (←newExc (.type "StopIteration") []))
  (fun fin s'=>∃r,fin=Fin.done (.ret r)∧Q (some r) s') (fun e s'=>wpAny (model prog w) A (isInstance e (.type "StopIteration")) (fun b s''=>b=true∧Q none s'') E s') s):wpAny (model prog w) A (pyNext (.ref I)) Q E s:=by
 obtain⟨oi,ho,hc,hdi⟩:=id hit;unfold pyNext;refine wpAny_bind (wpAny_attempt (wpAny_callSpecial?_slot (name:=Str.ofString "__next__") hit.type F9.slot_next (wpAny_call_entry F9.slot_next hit.type F9.entry_next ?_ (F9.args_next _))));unfold Builtin.«set_iterator.__next__»;refine wpAny_bind (wpAny_pure ?_);refine wpAny_bind (wpAny_fieldsOf ho hdi ?_);dsimp only;refine wpAny_bind (wpAny_setEntries_of hS hd hf ?_)
 rw[if_neg (by rw[hn];simp)];refine wpAny_mono h ?_ ?_
 ·rintro fin s' ⟨r,rfl,q⟩;exact⟨_,rfl,wpAny_pure q⟩
 ·intro e s' q;refine wpAny_bind (wpAny_mono q ?_ fun _ _ z=>z);rintro b s'' ⟨rfl,z⟩;exact wpAny_pure z
theorem Ar6 {I:Addr}{R:Fin→Shared→Prop}{Q:Option Value→Shared→Prop}(hh:A.handled=none)(h:∀(h':Heap),(∀b o,s.heap.get? b=some o→h'.get? b=some o)→Q none { s with heap:=h' }) :
 wpAny (model prog w) A.in1 (newExc (.type "StopIteration") [] >>= fun e=>raiseNew e) R (fun e s'=>wpAny (model prog w) A (isInstance e (.type "StopIteration")) (fun b s''=>b=true∧Q none s'') E s') s:=by
 refine wpAny_bind ?_;simp only[newExc,newTuple];refine wpAny_bind (wpAny_newObj_type ?_ (by size_fits));refine wpAny_bind (m:=firstArgMember _ _) (wpAny_of_eq (a:=Value.none) (by first | rfl | (simp only[firstArgMember];rfl)) ?_);refine wpAny_newObj_type ?_ (by size_fits);simp only[raiseNew];refine wpAny_bind (wpAny_handled ?_);rw[show A.in1.handled=none from hh];refine wpAny_bind (wpAny_pure (wpAny_throw ?_))
 refine wpAny_isInstance (T:="StopIteration") (b:=true) ⟨_,Heap.get?_push_size _ rfl,rfl⟩ isSubtype_stop ⟨rfl,h _ fun b o e=>Heap.get?_push_of_some _ (Heap.get?_push_of_some _ e)⟩
def Ani (prog:Program)(w:World)(S:Addr)(o:Obj)(ep n:Nat)(ws:List (Int×Value))(sl:Nat→Nat):Prop :=
 ∀(A:Around) (E:Value→Shared→Prop) (s:Shared) (i:Nat) (Q:Option (Value×Nat)→Shared→Prop),s.heap.get? S=some o→i≤n→Q (ws[i]?.map fun e=>(e.2,sl (i+1))) s→wpAny (model prog w) A (setNext S (sl i) i ep) Q E s
theorem Aqm {S:Addr}{o:Obj}{es:Array (Int×Value)}{ep:Nat}{t:SetTable}(hd:o.data=.set es ep t)(hf:t.fits es.size=true)(ht:w.params.followText "set-order" = true) :
 Ani prog w S o ep es.size (pickOrder (w.params.setOrder S ep) es).toList (fun _=>0):=by
 intro A E s i Q hS hi q;unfold setNext;refine wpAny_bind (wpAny_setState_of hS hd hf ?_);dsimp only;unfold setsByText;refine wpAny_bind (wpAny_bind (wpAny_askSetting (wpAny_pure ?_)));show wpAny _ _ (if w.params.followText "set-order" = true then _ else _) _ _ _;rw[if_pos ht,if_neg (by simp)];unfold setWalk;refine wpAny_bind (wpAny_bind (wpAny_setState_of hS hd hf ?_));dsimp only;unfold setsByText
 refine wpAny_bind (wpAny_bind (wpAny_askSetting (wpAny_pure ?_)));show wpAny _ _ (if w.params.followText "set-order" = true then _ else _) _ _ _;rw[if_pos ht];refine wpAny_bind (wpAny_askSetting (wpAny_pure ?_));refine wpAny_pure ?_;rw[Array.getElem?_toList]at q;exact q
theorem Aqn {S:Addr}{o:Obj}{es:Array (Int×Value)}{ep:Nat}{t:SetTable}(hd:o.data=.set es ep t)(hf:t.fits es.size=true)(ht:w.params.followText "set-order" = false)(g:Good (ledOf w) t)(nd:(!t.plain&&decide (es.size>1))=false) :
 Ani prog w S o ep es.size es.toList (fun i=>if i=0 then 0 else t.place.getD (i-1) 0+1):=by
 intro A E s i Q hS hi q;have sz:t.place.size=es.size:=by
  unfold SetTable.fits at hf;simp only[Bool.and_eq_true,beq_iff_eq]at hf;exact hf.1
 have led:t.led=true:=by rw[g.led];unfold ledOf;rw[ht];rfl
 unfold setNext;refine wpAny_bind (wpAny_setState_of hS hd hf ?_);dsimp only;unfold setsByText;refine wpAny_bind (wpAny_bind (wpAny_askSetting (wpAny_pure ?_)));show wpAny _ _ (if w.params.followText "set-order" = true then _ else _) _ _ _;rw[if_neg (by rw[ht];exact Bool.false_ne_true)];show wpAny _ _ (if (!t.plain&&decide (es.size>1))=true then _ else _) _ _ _;rw[nd,if_neg Bool.false_ne_true];show wpAny _ _ ((if (!t.led&&!es.isEmpty)=true then unsupported "set:maker-not-led" else pure ()) >>= fun _=>_) _ _ _
 rw[led];refine wpAny_bind (wpAny_pure ?_);have bl:SetTable.below t.place (if i=0 then 0 else t.place.getD (i-1) 0+1)=i:=by
  by_cases z:i=0
  ·subst z;rw[if_pos rfl];exact Aoo g.ris
  ·rw[if_neg z];have h1:t.place[i-1]?=some (t.place.getD (i-1) 0):=by simp[Array.getD,show i-1<t.place.size by lia]
   rw[Aop g.ris h1];lia
 rw[bl];refine wpAny_pure ?_;rw[Array.getElem?_toList]at q
 by_cases hi2:i<es.size
 ·have e1:es[i]?=some es[i]:=by simp[hi2]
  have e2:t.place[i]?=some (t.place.getD i 0):=by simp[Array.getD,show i<t.place.size by lia]
  rw[e1]at q ⊢;rw[e2];exact q
 ·rw[Array.getElem?_eq_none (by lia)]at q ⊢;exact q
end
end Gs
end
section
namespace Gs
open PySem PyProof.Rows
section
variable {prog:Program}{w:World}{A:Around}{E:Value→Shared→Prop}{s:Shared}
theorem Adf {I S:Addr}{f x:Value}{i n ep k:Nat}{Q:Unit→Shared→Prop}(hit:IsIt s.heap I f i S n ep)(hk:k<5)(h:Q () { s with heap:=s.heap.update I (Obj.mapFields (·.setIfInBounds k x)) }):wpAny (model prog w) A (setField (.ref I) k x) Q E s:=by
 obtain⟨o,ho,hc,hd⟩:=hit;exact wpAny_setField ho hd (by simpa using hk) h
theorem Ab7 {h:Heap}{I b:Addr}{o:Obj}{f:Obj→Obj}(hb:b≠I)(e:h.get? b=some o):(h.update I f).get? b=some o:=(Heap.get?_update_other _ _ (Ne.symm hb)).trans e
theorem Ar7 {I S:Addr}{f:Value}{i n ep:Nat}{Q:Value→Shared→Prop}(hit:IsIt s.heap I f i S n ep)(h:Q (.ref I) s):wpAny (model prog w) A (pyIter (.ref I)) Q E s:=by
 refine wpAny_pyIter_slot hit.type F9.slot_self (wpAny_call_entry F9.slot_self hit.type F9.entry_self ?_ (F9.args_self _));show wpAny _ _ (ret (.ref _)) _ _ s;exact wpAny_pure ⟨_,rfl,"set_iterator",_,hit.type,F9.slot_next.lookup,h⟩
abbrev PW (ws:List (Int×Value)):Nat→Value→Prop:=fun i v=>∃e,ws[i]?=some e∧v=e.2
theorem Anj (hh:A.handled=none){I S:Addr}{o:Obj}{es:Array (Int×Value)}{ep:Nat}{t:SetTable}{ws:List (Int×Value)}{sl:Nat→Nat}(hd:o.data=.set es ep t)(hf:t.fits es.size=true)(N:Ani prog w S o ep es.size ws sl)(ne:S≠I)(lw:ws.length=es.size) :
 Walks prog w A I [I,S] [I] es.size (PW ws) (fun i h=>IsIt h I (.int (sl i) 0) i S es.size ep∧h.get? S=some o) where
 sub:=fun b hb=>by simp at hb;simp[hb]
 frame:=fun _ _ _ st hk=>⟨st.1.at_ fun o e=>hk I (by simp) o e,hk S (by simp) _ st.2⟩
 item:=fun i s Q E hi st hQ=>by
  refine Aj4 st.1 st.2 hd hf rfl ?_;dsimp only;rw[Int.toNat_natCast,Int.toNat_natCast,Int.toNat_natCast];refine wpAny_bind (N _ _ s i _ st.2 (Nat.le_of_lt hi) ?_);have e:ws[i]?=some ws[i]:=List.getElem?_eq_getElem (by lia);rw[e];dsimp only [Option.map_some];refine wpAny_bind (Adf st.1 (by decide) ?_);have i1:IsIt (s.heap.update I (Obj.mapFields (·.setIfInBounds 0 (rawInt (sl (i+1):Nat))))) I (.int (sl (i+1)) 0) i S es.size ep:=Amz st.1 _ (by simp[rawInt])
  refine wpAny_bind (Adf (s:={ s with heap:=_ }) i1 (by decide) ?_);have i2:=Amz i1 (·.setIfInBounds 1 (rawInt ((i:Int)+1))) (f':=.int (sl (i+1)) 0) (i':=i+1) (by simp[rawInt]);exact wpAny_pure ⟨_,rfl,hQ _ _ s.toks ⟨_,e,rfl⟩ ⟨i2,Ab7 ne (Ab7 ne st.2)⟩ fun b ob hb q=>Ab7 (fun z=>hb (by simp[z])) (Ab7 (fun z=>hb (by simp[z])) q)⟩
 done:=fun s Q E st hQ=>by
  refine Aj4 st.1 st.2 hd hf rfl ?_;dsimp only;rw[Int.toNat_natCast,Int.toNat_natCast,Int.toNat_natCast];refine wpAny_bind (N _ _ s es.size _ st.2 (Nat.le_refl _) ?_);rw[List.getElem?_eq_none (by lia)];dsimp only [Option.map_none];refine wpAny_bind (Adf st.1 (by decide) ?_);refine Ar6 (I:=I) hh fun h' kp=>hQ h' s.toks fun b ob hb q=>kp b ob (Ab7 (fun z=>hb (by simp[z])) q)
 self:=fun _ s2 _ _ st h=>Ar7 st.1 h
theorem Av7 {es:Array (Int×Value)}:∀pi:List Nat,(∀j,j∈pi→j<es.size)→pi.filterMap (es[·]?)=pi.map fun j=>es.getD j (0,.none)
 | [],_=>rfl
 | j::r,h=>by
  have q:=h j (.head _);rw[List.filterMap_cons,List.map_cons,Av7 r fun x hx=>h x (.tail _ hx)];simp[Array.getD,q]
theorem Akz (hh:A.handled=none){I S T:Addr}{o ot:Obj}{es:Array (Int×Value)}{ep nt:Nat}{t:SetTable}{pi:List Nat}(hd:o.data=.set es ep t)(hf:t.fits es.size=true)(ht:ot.data=.seq (pi.map fun(i:Nat)=>rawInt i).toArray nt)(hp:pi.Perm (List.range es.size))(ne:S≠I)(nT:T≠I) :
 Walks prog w A I [I,S,T] [I] es.size (PW (pi.filterMap (es[·]?))) (fun i h=>IsIt h I (.ref T) i S es.size ep∧h.get? S=some o∧h.get? T=some ot) where
 sub:=fun b hb=>by simp at hb;simp[hb]
 frame:=fun _ _ _ st hk=>⟨st.1.at_ fun o e=>hk I (by simp) o e,hk S (by simp) _ st.2.1,hk T (by simp) _ st.2.2⟩
 item:=fun i s Q E hi st hQ=>by
  have lp:pi.length=es.size:=by rw[hp.length_eq,List.length_range]
  have e:pi[i]?=some pi[i]:=List.getElem?_eq_getElem (by lia);have pl:pi[i]<es.size:=List.mem_range.1 (hp.mem_iff.1 (List.getElem_mem _));have ew:(pi.filterMap (es[·]?))[i]?=some es[pi[i]]:=by
   rw[Av7 pi fun j hj=>List.mem_range.1 (hp.mem_iff.1 hj),List.getElem?_map,e];simp[Array.getD,pl]
  refine Aj4 st.1 st.2.1 hd hf rfl ?_;dsimp only;rw[Int.toNat_natCast,Int.toNat_natCast];refine wpAny_bind (wpAny_seqItems st.2.2 ht ?_);dsimp only;have ep':(pi.map fun(i:Nat)=>rawInt i).toArray[i]?=some (.int pi[i] 0):=by
   rw[List.getElem?_toArray,List.getElem?_map,e];rfl
  rw[ep'];dsimp only;unfold setNextDrawn;refine wpAny_bind (wpAny_bind (wpAny_setState_of st.2.1 hd hf ?_));dsimp only;rw[if_neg (by simp),Int.toNat_natCast,show es[pi[i]]?=some es[pi[i]] by simp[pl]];refine wpAny_pure ?_;refine wpAny_bind (Adf st.1 (by decide) ?_);have i2:=Amz st.1 (·.setIfInBounds 1 (rawInt ((i:Int)+1))) (f':=.ref T) (i':=i+1) (by simp[rawInt]);exact wpAny_pure ⟨_,rfl,hQ _ _ s.toks ⟨_,ew,rfl⟩ ⟨i2,Ab7 ne st.2.1,Ab7 nT st.2.2⟩ fun b ob hb q=>Ab7 (fun z=>hb (by simp[z])) q⟩
 done:=fun s Q E st hQ=>by
  have lp:pi.length=es.size:=by rw[hp.length_eq,List.length_range]
  refine Aj4 st.1 st.2.1 hd hf rfl ?_;dsimp only;rw[Int.toNat_natCast,Int.toNat_natCast];refine wpAny_bind (wpAny_seqItems st.2.2 ht ?_);dsimp only;rw[List.getElem?_toArray,List.getElem?_map,List.getElem?_eq_none (by lia)];dsimp only [Option.map_none];refine wpAny_bind (Adf st.1 (by decide) ?_);have i1:=Amz st.1 (·.setIfInBounds 0 (rawInt 0)) (f':=.int 0 0) (i':=es.size) (by simp[rawInt])
  refine wpAny_bind (Adf (s:={ s with heap:=_ }) i1 (by decide) ?_);refine Ar6 (I:=I) hh fun h' kp=>hQ h' s.toks fun b ob hb q=>kp b ob (Ab7 (fun z=>hb (by simp[z])) (Ab7 (fun z=>hb (by simp[z])) q))
 self:=fun _ s2 _ _ st h=>Ar7 st.1 h
theorem An0:∀{l:List (Int×Value)},Els l→IntsAre (l.map (·.2)) (l.map kE)
 | [],_=>.nil
 | e::l,h=>by
  obtain⟨_,t,q⟩:=h e (.head _);rw[List.map_cons,List.map_cons,q];exact .cons _ t (An0 fun x hx=>h x (.tail _ hx))
theorem Amy {ws es:List (Int×Value)}(p:ws.Perm es)(el:Els es){acc:Array Value}(h:ItemsOf (PW ws) acc es.length):∃l,IntsAre acc.toList l∧l.Perm (es.map kE):=by
 have:acc.toList=ws.map (·.2):=by
  refine List.ext_getElem? fun i=>?_;rw[Array.getElem?_toList,List.getElem?_map]
  by_cases hi:i<acc.size
  ·have e:acc[i]?=some acc[i]:=by simp[hi]
   obtain⟨x,hx,q⟩:=h.2 i _ e;rw[e,hx,q];rfl
  ·rw[Array.getElem?_eq_none (by lia),List.getElem?_eq_none (by rw[p.length_eq,←h.1];lia)];rfl
 exact⟨ws.map kE,by rw[this];exact An0 (el.perm p),p.map kE⟩
theorem Asg {a:Addr}{ks:List Int}{Q:Value→Shared→Prop}(hS:SetA s.heap a (ledOf w) ks)(hn:ks.length≤sizeLine)
 (h:∀(I:Addr) (h1:Heap) (d:Drawn) (fp:List Addr) (P:Nat→Value→Prop) (St:Nat→Heap→Prop),(∀B:Around,B.handled=none→Walks prog w B I fp [I] ks.length P St)→St 0 h1→s.heap.objs.size≤I→(∀b,b∈fp→b=a∨s.heap.objs.size≤b)→
  (∀b o,s.heap.get? b=some o→h1.get? b=some o)→(∀acc:Array Value,ItemsOf P acc ks.length→∃l,IntsAre acc.toList l∧l.Perm ks)→Q (.ref I) { s with heap:=h1,drawn:=d }):wpAny (model prog w) A (pyIter (.ref a)) Q E s:=by
 obtain⟨o,es,ep,t,ho,ox,od,el,rfl,ft,gd,nd⟩:=hS;have hT:s.TypeIs (.ref a) "set":=⟨o,ho,ox.1⟩
 have la:a<s.heap.objs.size:=Heap.lt_size ho;have ln:(es.toList.map kE).length=es.size:=by rw[List.length_map,Array.length_toList]
 rw[ln]at h;refine wpAny_pyIter_slot hT PySem.F.slot_set_iter (wpAny_call_entry PySem.F.slot_set_iter hT F9.entry_iter ?_ (PySem.F.args_set_iter_1 _));unfold Builtin.«frozenset.__iter__» Builtin.Frozenset.slot0;refine wpAny_bind (wpAny_bind (wpAny_pure (wpAny_pure ?_)));unfold Builtin.Frozenset.sizeOf;refine wpAny_bind (wpAny_bind (wpAny_setEntries_of ho od ft (wpAny_pure ?_)));unfold setDrawn;refine wpAny_bind (wpAny_bind (wpAny_setState_of ho od ft ?_))
 dsimp only;unfold setsByText;refine wpAny_bind (wpAny_bind (wpAny_askSetting (wpAny_pure ?_)));refine wpAny_pure ?_;refine wpAny_ite_split (fun c=>?_) (fun c=>?_)
 ·refine wpAny_bind (Aox _ _ _ (List.length_range) fun pi d pp=>?_);have lp:pi.length=es.size:=by rw[pp.length_eq,List.length_range]
  refine wpAny_bind (wpAny_newTuple ?_ (by rw[List.length_map,lp,←ln];exact hn));refine wpAny_bind (wpAny_setEpoch_of (Heap.get?_push_of_some _ ho) od ft ?_);have sz1:(s.heap.push { cls:=.type "tuple",data:=.seq (pi.map fun(i:Nat)=>rawInt i).toArray }).objs.size=s.heap.objs.size+1:=Heap.size_push ..;refine wpAny_bind (wpAny_newObj_type (wpAny_pure ⟨_,rfl,"set_iterator",_,⟨_,Heap.get?_push_size _ rfl,rfl⟩,F9.slot_next.lookup,?_⟩))
  refine h _ _ d [_,a,s.heap.objs.size] _ _ (fun B hB=>Akz (T:=s.heap.objs.size) hB od ft rfl pp (by show a≠(Heap.push _ _).objs.size;rw[sz1];lia) (by show s.heap.objs.size≠(Heap.push _ _).objs.size;rw[sz1];lia)) ⟨⟨_,Heap.get?_push_size _ rfl,rfl,by simp[rawInt]⟩,Heap.get?_push_of_some _ (Heap.get?_push_of_some _ ho),Heap.get?_push_of_some _ (Heap.get?_push_size _ rfl)⟩ ?_ ?_ (fun b ob e=>Heap.get?_push_of_some _ (Heap.get?_push_of_some _ e)) ?_
  ·show s.heap.objs.size≤(Heap.push _ _).objs.size;rw[sz1];lia
  ·intro b hb;simp only[List.mem_cons,List.not_mem_nil,or_false]at hb;rcases hb with rfl | rfl | rfl
   ·right;show s.heap.objs.size≤(Heap.push _ _).objs.size;rw[sz1];lia
   ·exact .inl rfl
   ·exact .inr (Nat.le_refl _)
  ·intro acc ha;rw[←Array.length_toList]at ha;exact Amy ((pp.filterMap _).trans (by rw[filterMap_getElem?_range])) el ha
 ·refine wpAny_bind (wpAny_pure ?_);refine wpAny_bind (wpAny_setEpoch_of ho od ft ?_);refine wpAny_bind (wpAny_newObj_type (wpAny_pure ⟨_,rfl,"set_iterator",_,⟨_,Heap.get?_push_size _ rfl,rfl⟩,F9.slot_next.lookup,?_⟩));have go:∀{ws:List (Int×Value)} {sl:Nat→Nat},Ani prog w a o ep es.size ws sl→ws.Perm es.toList→sl 0=0→Q (.ref s.heap.objs.size) { s with heap:=s.heap.push { cls:=.type "set_iterator",data:=.fields [rawInt 0,rawInt 0,Value.ref a,rawInt es.size,rawInt ep].toArray } }:=fun {ws sl} N pw z=>by
   refine h s.heap.objs.size _ s.drawn [_,a] _ _ (fun B hB=>Anj hB od ft N (Nat.ne_of_lt la) (by rw[pw.length_eq,Array.length_toList])) ⟨⟨_,Heap.get?_push_size _ rfl,rfl,by rw[z];simp[rawInt]⟩,Heap.get?_push_of_some _ ho⟩ (Nat.le_refl _) (fun b hb=>?_) (fun b ob e=>Heap.get?_push_of_some _ e) (fun acc ha=>?_)
   ·simp only[List.mem_cons,List.not_mem_nil,or_false]at hb;rcases hb with rfl | rfl
    ·exact .inr (Nat.le_refl _)
    ·exact .inl rfl
   ·rw[←Array.length_toList]at ha;exact Amy pw el ha
  cases ht:w.params.followText "set-order" with
  | true=>exact go (Aqm od ft ht) (Aq7 _ _) rfl
  | false =>
   have nd2:(!t.plain&&decide (es.size>1))=false:=by
    cases q:(!t.plain&&decide (es.size>1)) with
    | false=>rfl
    | true =>
     refine absurd ?_ c;show(!w.params.followText "set-order" && (!t.plain&&decide (es.size>1)))=true;rw[ht,q];rfl
   exact go (Aqn od ft ht gd nd2) (List.Perm.refl _) rfl
theorem Aty {r:Addr}{Q:Bool→Shared→Prop}(hT:s.TypeIs (.ref r) "set")(h:Q false s):wpAny (model prog w) A (Builtin.List.listLengthHint (.ref r)) Q E s:=by
 unfold Builtin.List.listLengthHint;refine wpAny_bind (wpAny_specialOf hT PySem.F.slot_set_len.lookup ?_);generalize hid:("set.__len__" : String)=id0
 wp_delta
 rw[show splitId id0=some ("set","__len__")from by subst hid;decide +kernel];subst hid;refine wpAny_bind (wpAny_isInstance (T:="set") (b:=true) hT sub_set_self ?_);refine wpAny_ite_split (fun z=>absurd z (by decide)) (fun _=>?_);refine wpAny_ite_split (fun _=>?_) (fun z=>absurd (by decide +kernel) z);exact wpAny_bind (wpAny_typeOf hT (wpAny_pure h))
theorem Anr {R:Result→Shared→Prop}{S a:Addr}{ks:List Int}{res:Value}{c0:Nat}(hh:A.handled=none)(hS:SetA s.heap a (ledOf w) ks)(hn:ks.length≤sizeLine)(ne:S≠a)(hL:s.heap.get? S=some { cls:=.type "list",data:=.seq #[] c0 })
 (hR:∀(h':Heap) (tk:Nat) (d:Drawn) (acc:Array Value) (c:Nat),(∀b o,b≠S→s.heap.get? b=some o→h'.get? b=some o)→h'.get? S=some { cls:=.type "list",dict:=none,data:=.seq acc c,slots:=#[] }→(∃l,IntsAre acc.toList l∧l.Perm ks)→R (.ok (.ret res)) { s with heap:=h',toks:=tk,drawn:=d }) :
 wpAny (model prog w) A.in1 (Builtin.List.listExtendWith (.ref S) (.ref a) res) (fun fin s'=>match fin with | .done f=>R (.ok f) s' | .again c'=>c'.quiet=true∧codeAny (model prog w) A c' R s') (fun e s'=>R (.error e) s') s:=by
 have hT:s.TypeIs (.ref a) "set":=let ⟨o,_,_,_,ho,ox,_⟩:=hS;⟨o,ho,ox.1⟩;unfold Builtin.List.listExtendWith;refine wpAny_bind (wpAny_typeOf (T:="set") hT ?_);have n1:Builtin.List.listSameRef (.ref S) (.ref a)=false:=by simp[Builtin.List.listSameRef,ne]
 have n2:(Value.type "set" == Value.type "list")=false:=by decide
 have n3:(Value.type "set" == Value.type "tuple")=false:=by decide
 simp only[n1,n2,n3,Bool.or_false,Bool.false_eq_true,if_false];have lS:=Heap.lt_size hL;refine wpAny_bind (Asg hS hn fun I h1 d fp P St W st lI hfp kp it=>?_);have hSf:S∉fp:=fun z=>(hfp S z).elim ne fun q=>by lia
 have key:∀(h:Heap) (c1:Nat),St 0 h→(∀b o,b≠S→s.heap.get? b=some o→h.get? b=some o)→h.get? S=some { cls:=.type "list",data:=.seq #[] c1 }→codeAny (model prog w) A (.builtin "list.extend.loop" ⟨[.ref S,.ref I,res],[]⟩) R { s with heap:=h,drawn:=d }:=by
  intro h c1 hst hk hS1;refine codeAny_extend_loopS (W A.in1 hh).toS hn S hSf res ks.length 0 _ #[] c1 rfl (Nat.zero_le _) hst hS1 (ItemsOf.nil _) fun s' acc' c' hm hS' hacc=>?_;rw[Moved.eq_with hm];refine hR s'.heap s'.toks d acc' c' (fun b o hb e=>hm.heap b o (fun z=>?_) (hk b o hb e)) hS' (it acc' hacc);rcases List.mem_cons.mp z with q | q
  ·exact hb q
  ·have:=Heap.lt_size e;rw[List.mem_singleton.mp q]at this;lia
 have hS1:=kp S _ hL;have hT1:Shared.TypeIs { s with heap:=h1,drawn:=d } (.ref a) "set":=let ⟨o,q1,q2⟩:=hT;⟨o,kp _ _ q1,q2⟩;refine wpAny_bind (wpAny_holding (Aty hT1 ?_));refine wpAny_ite_split (fun _=>?_) (fun _=>wpAny_pure ⟨plainId_quiet PySem.F.plain_extend_loop _,key _ c0 st (fun b o _ e=>kp b o e) hS1⟩);refine wpAny_bind (wpAny_rule (wpAny_bind ?_));show wpAny _ _ (updateSeq S (·.push .none) >>= fun _=>updateSeq S (·.pop)) _ _ _
 refine wpAny_bind (wpAny_updateSeq hS1 rfl ?_);have hS2:=Heap.get?_update_self (Obj.mapSeq (·.push Value.none)) hS1 rfl;refine wpAny_updateSeq (hz:=by seq_fits) hS2 rfl ?_;have hS3:=Heap.get?_update_self (Obj.mapSeq (·.pop)) hS2 rfl;refine wpAny_pure ⟨plainId_quiet PySem.F.plain_extend_loop _,key _ _ ((W A.in1 hh).frame 0 _ _ st fun b hb o e=>Ab7 (fun z=>hSf (z ▸ hb)) (Ab7 (fun z=>hSf (z ▸ hb)) e)) (fun b o hb e=>Ab7 hb (Ab7 hb (kp b o e))) hS3⟩
theorem Am1 {a:Addr}{ks:List Int}{R:List Value→Shared→Prop}(hh:A.handled=none)(hS:SetA s.heap a (ledOf w) ks)(hn:ks.length≤sizeLine)
 (h:∀(h':Heap) (tk:Nat) (d:Drawn) (vs:List Value) (l:List Int),(∀b o,s.heap.get? b=some o→h'.get? b=some o)→IntsAre vs l→l.Perm ks→s.heap.objs.size≤h'.objs.size→R vs { s with heap:=h',toks:=tk,drawn:=d }):wpAny (model prog w) A (collect (.ref a)) R E s:=by
 have la:a<s.heap.objs.size:=let ⟨_,_,_,_,ho,_⟩:=hS;Heap.lt_size ho;have fin:∀(h':Heap) (tk:Nat) (d:Drawn) (acc:Array Value) (c:Nat),(∀b o,s.heap.get? b=some o→h'.get? b=some o)→h'.get? s.heap.objs.size=some { cls:=.type "list",dict:=none,data:=.seq acc c,slots:=#[] }→(∃l,IntsAre acc.toList l∧l.Perm ks)→
  wpAny (model prog w) A (load s.heap.objs.size >>= fun o=>match o.data with | .seq xs _=>pure xs.toList | _=>unsupported "internal:collect") R E { s with heap:=h',toks:=tk,drawn:=d }:=fun h' tk d acc c hk hS ⟨l,q1,q2⟩=>wpAny_bind (wpAny_load hS (wpAny_pure (h h' tk d _ l hk q1 q2 (Nat.le_of_lt (Heap.lt_size hS)))))
 have e0:(s.heap.push { cls:=.type "list",data:=.seq ([]:List Value).toArray }).get? s.heap.objs.size=some { cls:=.type "list",data:=.seq #[] }:=Heap.get?_push_size _ rfl;have ext:=Anr (prog:=prog) (A:=A) (s:={ s with heap:=s.heap.push { cls:=.type "list",data:=.seq ([]:List Value).toArray } }) (res:=.ref s.heap.objs.size) (S:=s.heap.objs.size) (a:=a) (ks:=ks)
  (R:=fun q s'=>∃(h':Heap) (tk:Nat) (d:Drawn) (acc:Array Value) (c:Nat),q=.ok (.ret (.ref s.heap.objs.size))∧s'={ s with heap:=h',toks:=tk,drawn:=d }∧(∀b o,s.heap.get? b=some o→h'.get? b=some o)∧h'.get? s.heap.objs.size=some { cls:=.type "list",dict:=none,data:=.seq acc c,slots:=#[] }∧(∃l,IntsAre acc.toList l∧l.Perm ks))
  hh (hS.at_ fun o e=>Heap.get?_push_of_some _ e) hn (Nat.ne_of_gt la) e0 (fun h' tk d acc c hk hS ha=>⟨h',tk,d,acc,c,rfl,rfl,fun b o e=>hk b o (Nat.ne_of_lt (Heap.lt_size e)) (Heap.get?_push_of_some _ e),hS,ha⟩)
 unfold collect;refine wpAny_bind (wpAny_runValue (codeAny_builtin entry_proto_collect' ?_));rw[Around.under_plainId PySem.F.plain_proto_collect _];show wpAny _ A.in1 (newList [] >>= fun l=>again (.builtin "list.__iadd__" ⟨[l,Value.ref a],[]⟩)) _ _ s;refine wpAny_bind (wpAny_newObj_type (wpAny_pure ⟨plainId_quiet PySem.F.plain_list_iadd _,codeAny_builtin entry_list_iadd' ?_⟩));rw[Around.under_plainId PySem.F.plain_list_iadd _]
 refine wpAny_mono ext (fun fn s' x=>?_) (fun e s' x=>by obtain⟨_,_,_,_,_,e',_⟩:=x;cases e');cases fn with
 | done f=>obtain⟨h',tk,d,acc,c,e,rfl,hk,hS,ha⟩:=x;cases e;exact fin h' tk d acc c hk hS ha
 | again c1=>exact⟨x.1,codeAny_mono x.2 fun q s2 y=>by obtain⟨h',tk,d,acc,c,rfl,rfl,hk,hS,ha⟩:=y;exact fin h' tk d acc c hk hS ha⟩
end
end Gs
end
section
namespace Gs
open PySem PyProof.Rows PyProof.Rows.G
section
variable {prog:Program}{w:World}{A:Around}{E:Value→Shared→Prop}{s:Shared}
theorem Anp {a:Addr}{ks:List Int}{Q:Value→Shared→Prop}(hh:A.handled=none)(hS:SetA s.heap a (ledOf w) ks)(hn:ks.length≤sizeLine)
 (h:∀(h':Heap) (tk m:Nat) (d:Drawn) (q:Addr) (out:Array Value) (l:List Int),(∀b o,s.heap.get? b=some o→h'.get? b=some o)→s.heap.objs.size≤q→h'.get? q=some (seqObj "list" out m)→IntsAre out.toList l→l.Perm ks→l.Pairwise (·≤·)→Q (.ref q) { s with heap:=h',toks:=tk,drawn:=d }) :
 wpAny (model prog w) A (call (.builtin "sorted") [.ref a]) Q E s:=by
 refine Calls.call_function_entry kind_sorted plain_sorted entry_sorted (args_sorted1 _) ?_;unfold Builtin.«sorted»;refine wpAny_bind (m:=checkCount "sorted" 1 1 _) (wpAny_pure ?_);refine wpAny_bind (Am1 (A:=A.in1) hh hS hn fun h1 tk d vs l k1 iv pl le=>?_);have lv:vs.length≤sizeLine:=by rw[IntsAre.length iv,pl.length_eq];exact hn
 refine wpAny_bind (wpAny_newList ?_ lv);have hoL:(h1.push (seqObj "list" vs.toArray 0)).get? h1.objs.size=some (seqObj "list" vs.toArray 0):=Heap.get?_push_size _ rfl;show wpAny _ _ _ _ _ { s with heap:=h1.push (seqObj "list" vs.toArray 0),toks:=tk,drawn:=d };refine wpAny_bind (wpAny_holding (wpAny_call_entry slot_list_sort ⟨_,hoL,rfl⟩ entry_list_sort (list_sort_treeAny hoL iv lv fun out ns' io po so=>⟨_,rfl,?_⟩) (args_list_sort _)))
 refine wpAny_pure ⟨_,rfl,?_⟩;obtain⟨m,hm⟩:=G.sortedHeap_at (vs:=vs) (out:=out) hoL;exact h _ tk m d _ out ns' (fun b o e=>Act b o (fun z=>by rw[z]at e;have:=Heap.lt_size (k1 _ _ e);exact absurd this (Nat.lt_irrefl _)) (Heap.get?_push_of_some _ (k1 b o e))) le hm io (po.trans pl) so
end
end Gs
namespace L2
open PySem PySem.Spec PyProof.Rows PyProof.Rows.G Gs
section
variable {X:Cx}
theorem Inv.drw {pins:List (Addr×Obj)}{σ:St}{H:Hp}{h:Heap}{g:Array GenState}{d d':Drawn}{t t':Nat}{o}(I:Inv X pins σ H ⟨h,g,d,t,o⟩):Inv X pins σ H ⟨h,g,d',t',o⟩:=⟨I.ok,I.os,I.bare,I.base,I.loc,I.cell,I.free,I.freeC,I.pin,I.hok,I.len⟩
theorem Arv (hc:X.calm=true):Agx X (.type "set") (fun xs H Q=>∃(l:Addr) (ns B:List Int),xs=[.ref l]∧H l=some (.lst (ns.map V.int))∧(∀x,x∈ns→x∈B)∧B.length+1<scanBound∧
 ∀(q:Addr) (ks:List Int),H q=none→ks.Nodup→(∀x,x∈ks↔x∈ns)→Q (.ref q) (upd H q (.ext fun h=>SetA h q (ledOf X.w) ks))):=by
 intro pins s σ H xs us Q I r h;obtain⟨l,ns,B,rfl,hl,hB,lB,q⟩:=h;obtain⟨u,rfl,rx⟩:=Al0 r;cases rx;obtain⟨hz,its,n,rv,hg⟩ : ObjOk X.prog X.w H s.heap l (.lst (ns.map V.int)):=I.hok _ _ hl;refine Aue (I.ok.hd hc) ⟨_,hg,rfl,n,rfl⟩ (show IntsAre its.toArray.toList ns from Abp rv) hB lB fun h' tk ks sa mm kp=>?_;have new:ObjOk X.prog X.w (upd H s.heap.objs.size (.ext fun h=>SetA h s.heap.objs.size (ledOf X.w) ks)) h' s.heap.objs.size (.ext fun h=>SetA h s.heap.objs.size (ledOf X.w) ks):=⟨sa,let ⟨o,_,_,_,ho,_⟩:=sa;⟨o,ho⟩,fun h1 h2 a b=>a.at_ b⟩
 exact⟨.ref s.heap.objs.size,_,I.laid (t':=tk) kp (Nat.le_refl _) new,rfl,q _ ks (I.hok.fresh (Nat.le_refl _)) sa.nd mm⟩
theorem Akp (hc:X.calm=true):Agx X (.builtin "sorted") (fun xs H Q=>∃(a:Addr) (ks:List Int),xs=[.ref a]∧H a=some (.ext fun h=>SetA h a (ledOf X.w) ks)∧ks.length≤100000∧
 ∀(q:Addr) (l:List Int),H q=none→l.Perm ks→l.Pairwise (·≤·)→Q (.ref q) (upd H q (.lst (l.map V.int)))):=by
 intro pins s σ H xs us Q I r h;obtain⟨a,ks,rfl,ha,hn,q⟩:=h;obtain⟨u,rfl,rx⟩:=Al0 r;cases rx;have hz:ks.length≤sizeLine:=Nat.le_trans hn (by decide);obtain⟨sa,_⟩ : ObjOk X.prog X.w H s.heap a (.ext fun h=>SetA h a (ledOf X.w) ks):=I.hok _ _ ha;refine Anp (I.ok.hd hc) sa hz fun h' tk m d q' out l kp le hq io pl so=>?_;have new:ObjOk X.prog X.w (upd H q' (.lst (l.map V.int))) h' q' (.lst (l.map V.int)):=by
  refine⟨by rw[List.length_map,pl.length_eq];exact hz,out.toList,m,Ajn io,?_⟩;rw[hq]
 exact⟨.ref q',_,(I.laid (t':=tk) kp le new).drw,rfl,q q' l (I.hok.fresh le) pl so⟩
end
end L2
end
section
namespace Gc
open PySem
def top (i:Nat):Stmt:=PySem.Challenge.pw_glasscartoons_s07_next_to.main.body.getD i (.Pass ⟨0,0,0,0⟩)
abbrev Axu:Nat:=1
abbrev Atx:Nat:=2
abbrev Atw:Nat:=3
abbrev As6:Nat:=4
abbrev Atv:Nat:=5
abbrev Atu:Nat:=6
abbrev Ade:Nat:=7
abbrev Akd:Nat:=8
abbrev Aj0:Nat:=9
abbrev Akc:Nat:=10
abbrev Aoa:Nat:=11
abbrev Aj3:Nat:=12
abbrev Age:Nat:=13
abbrev Ao5:Nat:=15
abbrev Akf:Nat:=16
abbrev Agj:Nat:=17
abbrev Atq:Nat:=18
abbrev Atp:Nat:=19
abbrev Aoc:Nat:=20
abbrev Aiy:Nat:=21
abbrev Aha:Nat:=22
abbrev Atr:Nat:=23
abbrev Alm:Nat:=25
abbrev Ao8:Nat:=26
abbrev Aln:Nat:=27
abbrev Ao6:Nat:=28
abbrev Agd:Nat:=29
abbrev Ax4:Nat:=30
abbrev Aj2:Nat:=31
abbrev Ah6:Nat:=32
abbrev Ake:Nat:=33
abbrev Ah5:Nat:=34
abbrev Aj1:Nat:=35
abbrev Agf:Nat:=36
abbrev Ats:Nat:=38
abbrev Ar1:Nat:=39
abbrev Aod:Nat:=40
abbrev Ah9:Nat:=41
abbrev Ahb:Nat:=42
abbrev Ah4:Nat:=43
abbrev Aix:Nat:=44
abbrev Alo:Nat:=45
abbrev Aiz:Nat:=46
abbrev Agh:Nat:=47
abbrev Ad5:Nat:=48
abbrev Agi:Nat:=49
abbrev Ah7:Nat:=50
abbrev Afb:Nat:=51
abbrev Afa:Nat:=52
abbrev Aec:Nat:=53
abbrev Aiw:Nat:=54
abbrev Aos:Nat:=55
abbrev Aeq:Nat:=56
abbrev Ao7:Nat:=57
abbrev Ah8:Nat:=58
abbrev Aob:Nat:=59
abbrev Agg:Nat:=61
abbrev All:Nat:=62
abbrev Ao9:Nat:=63
end Gc
end
section
namespace Gc
open PySem PySem.Spec PyProof.Rows L2
open Gla (Pt Plan Mark)
structure Def (K:W.Frag)(mg:Str→Option Value)(x:Str)(st:Stmt)(ps:List Str)(f:Addr)(fd:FuncData):Prop where
 fn:Fun K x x st f fd
 mgf:mg x=some (.ref f)
 b:Binds K fd ps []
theorem fsc {N P:List Str}{sc:Scope}(a:sc.kind=.function:=by rfl)(b:sc.isCoroutine=false:=by rfl)(c:sc.isGenerator=false:=by rfl)(d:N.Nodup:=by decide +kernel)(e:N.take P.length=P:=by rfl)
 (f:∀x∈P,sc.names.lookup x=some .local ∨sc.names.lookup x=some .cell:=by decide +kernel) (g:∀y∈sc.names,y.2≠.free:=by decide +kernel):Aaa N P sc:=⟨a,b,c,d,e,f,g⟩
theorem sz1:1≤sizeLine:=by decide
theorem sz2:2≤sizeLine:=by decide
theorem sz3:3≤sizeLine:=by decide
theorem sz4:4≤sizeLine:=by decide
section
variable {X:Cx}{x:Str}{e o:Expr}{es:List Expr}{te to:TE}{t:TA}{pos pos' apos:Pos}{k:Nat}{f:Addr}{fd:FuncData}{ps:List Str}{sp:Sp}{st:Stmt}
theorem pS (i:Nat)(hN:X.N.Nodup)(he:PE X e te)(hi:X.N[i]?=some x:=by rfl)(hx:Loc X.env.scope x:=by exact Or.inl rfl)(hs:swapsWith e (some (.Name x pos')) pos.line X.env=pure false:=by rfl)(hf:X.fn x=true∨X.env.scope.names.lookup x=some .local:=by first | exact .inl rfl | exact .inr rfl | assumption) :
 PS X (.Assign [.Name x pos'] e pos) (Bal te (Aoj i)):=Auz hN hi hx he hs hf
theorem pG (i:Nat)(hN:X.N.Nodup)(hi:X.N[i]?=some x:=by rfl)(hx:Loc X.env.scope x:=by exact Or.inl rfl)(hf:X.fn x=true∨X.env.scope.names.lookup x=some .local:=by first | exact .inl rfl | exact .inr rfl | assumption):PG X (.Name x pos) (Aoj i):=Awd hN hi hx hf
theorem pIT {a b:Expr}{ta tb:TE}(ha:PE X a ta)(hb:PE X b tb)(hs:Am5 b:=by exact fun _ _=>rfl):PE X (.Subscript a b pos) (tOp (Ayu X.K) ta tb):=Ayx Azn ha hb hs
theorem pIL {a b:Expr}{ta tb:TE}(ha:PE X a ta)(hb:PE X b tb)(hs:Am5 b:=by exact fun _ _=>rfl):PE X (.Subscript a b pos) (tOp (Axr X.K) ta tb):=Ayx Ax5 ha hb hs
theorem pCD (F:Def X.K X.mg x st ps f fd)(G:FnOk X.prog X.w X.K X.mg X.base CX0 k f fd ps sp)(hr:Room k X.A)(ha:PA X (e::es) t)(hg:Gl X x:=by rfl)(hdb:(x==("__debug__" : Str))=false:=by decide)(he:starEach (e::es) X.env=(false,eval e X.env)::starEach es X.env:=by rfl)(hpl:(backTo pos (starEach es X.env)).any (·.1)=false:=by rfl) :
 PE X (.Call (.Name x pos') (e::es) [] pos) (Aia sp [] E0 t):=Alb G hr hg F.mgf F.fn.kp F.b .nil Abm ha hdb he hpl
end
theorem Same.tup {K:W.Frag}{H H':Hp}{a:Addr}{xs:List V}(e:Same H H')(h:SqT K H a xs):SqT K H' a xs:=by
 rcases h with (h | ⟨o,h⟩) | h
 ·exact .inl (.inl (e _ _ h))
 ·exact .inl (.inr ⟨o,e _ _ h⟩)
 ·exact .inr h
theorem Same.new {H:Hp}{p:Addr}{o:HO}(h:H p=Option.none):Same H (upd H p o):=fun b u e=>by
 rw[Aa6 (Aa8 e h)];exact e
def PtAt (H:Hp)(a:Addr)(p:Pt):Prop:=∃r,H a=some (.tup (.int p.x::.int p.y::r))
theorem PtAt.same {H H':Hp}{a:Addr}{p:Pt}(e:Same H H')(h:PtAt H a p):PtAt H' a p:=let ⟨r,h⟩:=h;⟨r,e _ _ h⟩
theorem PtAt.sq {K:W.Frag}{H:Hp}{a:Addr}{p:Pt}(h:PtAt H a p):∃r,SqT K H a (.int p.x::.int p.y::r):=let ⟨r,h⟩:=h;⟨r,SqT.of h⟩
class AtC (xs:List V) (i:Int) (v:outParam V):Prop where
 at_:atI xs i=some v
instance atC0 {x:V}{xs:List V}:AtC (x::xs) 0 x:=⟨Ae0 (j:=0) rfl⟩
instance atC1 {x y:V}{xs:List V}:AtC (x::y::xs) 1 y:=⟨Ae0 (j:=1) rfl⟩
theorem atC {xs:List V}{i:Int}{v:V}[h:AtC xs i v]:atI xs i=some v:=h.at_
def Abj (p:Pt):Prop:=p.x<4294967296∧p.y<4294967296
abbrev Ack:Stmt:=top Ao5
abbrev sBy:Stmt:=top Akf
abbrev Afy:Stmt:=top Agj
abbrev Ajw:Stmt:=top Atq
abbrev Afv:Stmt:=top Atp
abbrev Aho:Stmt:=top Aoc
abbrev Apv:Stmt:=top Aiy
abbrev Ahm:Stmt:=top Aha
abbrev Ajy:Stmt:=top Atr
def Ahk:Sp:=fun vs H Q _=>∃(a b c:Addr) (p q r:Pt),vs=[.ref a,.ref b,.ref c]∧PtAt H a p∧PtAt H b q∧PtAt H c r∧Abj p∧Abj q∧Q (.int (Gla.turn p q r)) H
def Aph:Sp:=fun vs H Q _=>∃(a b c:Addr) (p q r:Pt),vs=[.ref a,.ref b,.ref c]∧PtAt H a p∧PtAt H b q∧PtAt H c r∧Abj p∧Abj q∧Q (.bl (Gla.isOn p q r)) H
theorem Ax7 (p q r:Pt):Gla.isOn p q r=if decide ((r.y:Int)<(if (q.y:Int)<p.y then(q.y:Int)else p.y))=true then false else if decide ((if (q.y:Int)>p.y then(q.y:Int)else p.y)<(r.y:Int))=true then false else
 if decide ((r.x:Int)<(if (q.x:Int)<p.x then(q.x:Int)else p.x))=true then false else if decide ((if (q.x:Int)>p.x then(q.x:Int)else p.x)<(r.x:Int))=true then false else decide (V.int (Gla.turn p q r)=V.int 0):=by
 unfold Gla.isOn Gla.between;rw[Alw];simp only[decide_eq_true_eq]
 by_cases a:(r.y:Int)<(if (q.y:Int)<p.y then(q.y:Int)else p.y)
 ·rw[if_pos a];split at a<;>(simp;lia)
 rw[if_neg a]
 by_cases b:(if (q.y:Int)>p.y then(q.y:Int)else p.y)<(r.y:Int)
 ·rw[if_pos b];split at b<;>(simp;lia)
 rw[if_neg b]
 by_cases c:(r.x:Int)<(if (q.x:Int)<p.x then(q.x:Int)else p.x)
 ·rw[if_pos c];split at c<;>(simp;lia)
 rw[if_neg c]
 by_cases d:(if (q.x:Int)>p.x then(q.x:Int)else p.x)<(r.x:Int)
 ·rw[if_pos d];split at d<;>(simp;lia)
 rw[if_neg d];have e1:(decide (min p.x q.x≤r.x)&&decide (r.x≤max p.x q.x))=true:=by
  split at c<;>split at d<;>(simp;lia)
 have e2:(decide (min p.y q.y≤r.y)&&decide (r.y≤max p.y q.y))=true:=by
  split at a<;>split at b<;>(simp;lia)
 rw[e1,e2];simp
section
variable {P:Program}{w:World}{K:W.Frag}{mg:Str→Option Value}{base:Heap}
theorem Ayj:Aaa ["p","q","r"] ["p","q","r"] (Aa7 Ack):=fsc
theorem Aiq {f:Addr}{fd:FuncData}(F:Def K mg "turn_of" Ack ["p","q","r"] f fd):FnOk P w K mg base CX0 1 f fd ["p","q","r"] Ahk:=by
 refine F.fn.ok Ayj (fun vs H Q E h=>?_) (fun cdv A outer s H vs Q E hr h=>?_)
 ·obtain⟨a,b,c,p,q,r,rfl,_⟩:=h;rfl
 ·obtain⟨a,b,c,p,q,r,rfl,h1,h2,h3,s1,s2,k⟩:=h
  refine⟨_,Aa4 (Aa9 (Ab2 Ac4
   (Ab2 Acw (Ab2 Ac4 (pIT (pv 1) Aa5) (pIT (pv 0) Aa5)) (Ab2 Ac4 (pIT (pv 2) Aa5) (pIT (pv 1) Aa5)))
   (Ab2 Acw (Ab2 Ac4 (pIT (pv 1) Aa5) (pIT (pv 0) Aa5)) (Ab2 Ac4 (pIT (pv 2) Aa5) (pIT (pv 1) Aa5))))),?_⟩
  have b1:CMul ((q.x:Int)-p.x) ((r.y:Int)-q.y):=.inl (by unfold Abj at s1 s2;lia);have b2:CMul ((q.y:Int)-p.y) ((r.x:Int)-q.x):=.inl (by unfold Abj at s1 s2;lia);obtain⟨_,h1⟩:=h1.sq (K:=K);obtain⟨_,h2⟩:=h2.sq (K:=K);obtain⟨_,h3⟩:=h3.sq (K:=K)
  refine⟨_,rfl,b,_,_,_,rfl,rfl,h2,atC,_,rfl,a,_,_,_,rfl,rfl,h1,atC,_,_,rfl,rfl,
   _,rfl,c,_,_,_,rfl,rfl,h3,atC,_,rfl,b,_,_,_,rfl,rfl,h2,atC,_,_,rfl,rfl,_,_,rfl,rfl,b1,
   _,rfl,b,_,_,_,rfl,rfl,h2,atC,_,rfl,a,_,_,_,rfl,rfl,h1,atC,_,_,rfl,rfl,
   _,rfl,c,_,_,_,rfl,rfl,h3,atC,_,rfl,b,_,_,_,rfl,rfl,h2,atC,_,_,rfl,rfl,_,_,rfl,rfl,b2,_,_,rfl,rfl,?_⟩
  exact k
theorem Ayo:Aaa ["p","q","r"] ["p","q","r"] (Aa7 Ajw):=fsc
theorem Aqg {f fT:Addr}{fd fdT:FuncData}(F:Def K mg "is_on" Ajw ["p","q","r"] f fd)(FT:Def K mg "turn_of" Ack ["p","q","r"] fT fdT)(nmin:mg "min" = none)(nmax:mg "max" = none) :
 FnOk P w K mg base CX0 2 f fd ["p","q","r"] Aph:=by
 have GT:FnOk P w K mg base CX0 1 fT fdT ["p","q","r"] Ahk:=Aiq FT;refine F.fn.ok Ayo (fun vs H Q E h=>?_) (fun cdv A outer s H vs Q E hr h=>?_)
 ·obtain⟨a,b,c,p,q,r,rfl,_⟩:=h;rfl
 ·obtain⟨a,b,c,p,q,r,rfl,h1,h2,h3,s1,s2,k⟩:=h
  refine⟨_,Aa1 (Aat (PW.pt (Anu
   (Aaj Acf (pIT (pv 2) Aa5) (Aaf (Akq rfl) (by rfl) nmin (by decide +kernel) (Aa0 (pIT (pv 0) Aa5) (Aa0 (pIT (pv 1) Aa5) Aa3))) (Aan _))
   (Ahp (Aaj Adt (pIT (pv 2) Aa5) (Aaf (Akr rfl) (by rfl) nmax (by decide +kernel) (Aa0 (pIT (pv 0) Aa5) (Aa0 (pIT (pv 1) Aa5) Aa3))) (Aan _)))))
   (Aa4 (Aa9 Ads)) Aae)
   (Aa1 (Aat (PW.pt (Anu
    (Aaj Acf (pIT (pv 2) Aa5) (Aaf (Akq rfl) (by rfl) nmin (by decide +kernel) (Aa0 (pIT (pv 0) Aa5) (Aa0 (pIT (pv 1) Aa5) Aa3))) (Aan _))
    (Ahp (Aaj Adt (pIT (pv 2) Aa5) (Aaf (Akr rfl) (by rfl) nmax (by decide +kernel) (Aa0 (pIT (pv 0) Aa5) (Aa0 (pIT (pv 1) Aa5) Aa3))) (Aan _)))))
    (Aa4 (Aa9 Ads)) Aae)
   (Aa4 (Aa9 (Ag4 Anx (pCD FT GT hr (Aa0 (pv 0) (Aa0 (pv 1) (Aa0 (pv 2) Aa3)))) Aa5 (Aan _))))),?_⟩
  obtain⟨_,g1⟩:=h1.sq (K:=K);obtain⟨_,g2⟩:=h2.sq (K:=K);obtain⟨_,g3⟩:=h3.sq (K:=K);rw[Ax7]at k;refine⟨_,rfl,c,_,_,_,rfl,rfl,g3,atC,_,rfl,a,_,_,_,rfl,rfl,g1,atC,_,rfl,b,_,_,_,rfl,rfl,g2,atC,_,_,rfl,_,_,rfl,rfl,_,rfl,?_⟩;refine Abg (fun e1=>?_) (fun e1=>?_)
  ·rw[if_pos e1]at k;exact Aoe k
  rw[if_neg e1]at k;refine⟨_,rfl,c,_,_,_,rfl,rfl,g3,atC,_,rfl,a,_,_,_,rfl,rfl,g1,atC,_,rfl,b,_,_,_,rfl,rfl,g2,atC,_,_,rfl,_,_,rfl,rfl,_,rfl,?_⟩;refine Abg (fun e2=>?_) (fun e2=>?_)
  ·rw[if_pos e2]at k;exact k
  rw[if_neg e2]at k;refine⟨_,rfl,c,_,_,_,rfl,rfl,g3,atC,_,rfl,a,_,_,_,rfl,rfl,g1,atC,_,rfl,b,_,_,_,rfl,rfl,g2,atC,_,_,rfl,_,_,rfl,rfl,_,rfl,?_⟩;refine Abg (fun e3=>?_) (fun e3=>?_)
  ·rw[if_pos e3]at k;exact Aoe k
  rw[if_neg e3]at k;refine⟨_,rfl,c,_,_,_,rfl,rfl,g3,atC,_,rfl,a,_,_,_,rfl,rfl,g1,atC,_,rfl,b,_,_,_,rfl,rfl,g2,atC,_,_,rfl,_,_,rfl,rfl,_,rfl,?_⟩;refine Abg (fun e4=>?_) (fun e4=>?_)
  ·rw[if_pos e4]at k;exact k
  rw[if_neg e4]at k;exact⟨_,rfl,_,rfl,_,rfl,a,b,c,p,q,r,rfl,h1,h2,h3,s1,s2,rfl,k⟩
end
def Bbn:Sp:=fun vs H Q _=>∃(a:Addr) (p:Pt),vs=[.ref a]∧PtAt H a p∧∀t,H t=none→Q (.ref t) (upd H t (.tup [.int p.y,.int p.x]))
def Ae3:Sp:=fun vs H Q _=>∃(b a:Addr) (q p:Pt),vs=[.ref b,.ref a]∧PtAt H b q∧PtAt H a p∧∀H',Same H H'→Q (.bl (p.below q)) H'
def Apc:Sp:=fun vs H Q _=>∃(a b c d:Addr) (p q r s:Pt),vs=[.ref a,.ref b,.ref c,.ref d]∧PtAt H a p∧PtAt H b q∧PtAt H c r∧PtAt H d s∧Abj p∧Abj q∧Q (.bl (decide (Gla.turn p q r*Gla.turn p q s<0))) H
def Apo:Sp:=fun vs H Q _=>∃(a b c d:Addr) (p q r s:Pt),vs=[.ref a,.ref b,.ref c,.ref d]∧PtAt H a p∧PtAt H b q∧PtAt H c r∧PtAt H d s∧Abj p∧Abj q∧Abj r∧Abj s∧Q (.bl (Gla.crosses p q r s)) H
theorem Au1 (p q:Pt):H3.lexGt [(q.y:Int),(q.x:Int)] [(p.y:Int),(p.x:Int)]=p.below q:=by
 rw[H3.lexGt_cons,H3.lexGt_cons,H3.lexGt_nil_nil];unfold Pt.below;rw[Bool.eq_iff_iff]
 by_cases e:(q.y:Int)=p.y
 ·rw[if_pos e]
  by_cases e2:(q.x:Int)=p.x
  ·rw[if_pos e2];simp;lia
  ·rw[if_neg e2];simp;lia
 ·rw[if_neg e];simp;lia
theorem Alg (a b:Int):decide (a*b<0)=((if decide (a<0)=true then decide (0<b)else false)||(if decide (b<0)=true then decide (0<a)else false)):=by
 rcases Int.lt_trichotomy a 0 with x | x | x
 ·rcases Int.lt_trichotomy b 0 with y | y | y
  ·have:=Int.mul_pos_of_neg_of_neg x y;rw[decide_eq_false (show ¬a*b<0 by lia),decide_eq_true x,decide_eq_true y,decide_eq_false (show ¬0<b by lia),decide_eq_false (show ¬0<a by lia)];rfl
  ·subst y;simp
  ·have:=Int.mul_neg_of_neg_of_pos x y;rw[decide_eq_true this,decide_eq_true x,decide_eq_true y];rfl
 ·subst x;simp
 ·rcases Int.lt_trichotomy b 0 with y | y | y
  ·have:=Int.mul_neg_of_pos_of_neg x y;rw[decide_eq_true this,decide_eq_false (show ¬a<0 by lia),decide_eq_true y,decide_eq_true x];rfl
  ·subst y;simp
  ·have:=Int.mul_pos x y;rw[decide_eq_false (show ¬a*b<0 by lia),decide_eq_false (show ¬a<0 by lia),decide_eq_false (show ¬b<0 by lia)];rfl
section
variable {P:Program}{w:World}{K:W.Frag}{mg:Str→Option Value}{base:Heap}
theorem Bc6:Aaa ["spot"] ["spot"] (Aa7 sBy):=fsc
theorem Bb0 {f:Addr}{fd:FuncData}(F:Def K mg "by_height" sBy ["spot"] f fd):FnOk P w K mg base CX0 1 f fd ["spot"] Bbn:=by
 refine F.fn.ok Bc6 (fun vs H Q E h=>?_) (fun cdv A outer s H vs Q E hr h=>?_)
 ·obtain⟨a,p,rfl,_⟩:=h;rfl
 ·obtain⟨a,p,rfl,h1,k⟩:=h;refine⟨_,Aa4 (Aa9 (Abh (Aa0 (pIT (pv 0) Aa5) (Aa0 (pIT (pv 0) Aa5) Aa3)))),?_⟩;obtain⟨_,g1⟩:=h1.sq (K:=K);exact⟨_,rfl,a,_,_,_,rfl,rfl,g1,atC,_,rfl,a,_,_,_,rfl,rfl,g1,atC,sz2,fun t ht=>k t ht⟩
theorem Asi:Aaa ["q","p"] ["q","p"] (Aa7 Afy):=fsc
theorem Aqi {f fB:Addr}{fd fdB:FuncData}(F:Def K mg "comes_behind" Afy ["q","p"] f fd)(FB:Def K mg "by_height" sBy ["spot"] fB fdB):FnOk P w K mg base CX0 2 f fd ["q","p"] Ae3:=by
 have GB:FnOk P w K mg base CX0 1 fB fdB ["spot"] Bbn:=Bb0 FB;refine F.fn.ok Asi (fun vs H Q E h=>?_) (fun cdv A outer s H vs Q E hr h=>?_)
 ·obtain⟨b,a,q,p,rfl,_⟩:=h;rfl
 ·obtain⟨b,a,q,p,rfl,h1,h2,k⟩:=h
  refine⟨_,Aa4 (Aa9 (Ag4 (Az4 (Nat.lt_of_succ_lt (Agl hr)))
   (pCD FB GB hr (Aa0 (pv 0) Aa3))
   (pCD FB GB hr (Aa0 (pv 1) Aa3)) (Aan _))),?_⟩
  refine⟨_,rfl,b,q,rfl,h1,fun t ht=>?_⟩;have s1:Same H (upd H t (.tup [.int q.y,.int q.x])):=Same.new ht;refine⟨_,rfl,a,p,rfl,h2.same s1,fun u hu=>?_⟩;have s2:=Same.new (o:=.tup [.int p.y,.int p.x]) hu;refine⟨t,u,[(q.y:Int),(q.x:Int)],[(p.y:Int),(p.x:Int)],rfl,rfl,SqT.of (s2 _ _ Aa2),SqT.of Aa2,?_⟩;rw[Au1];exact k _ (s1.trans s2)
structure DefB (K:W.Frag)(mg:Str→Option Value)(f:Addr)(fd:FuncData):Prop extends Def K mg "comes_behind" Afy ["q","p"] f fd where
 by_:∃fB fdB,Def K mg "by_height" sBy ["spot"] fB fdB
theorem Ahr {f:Addr}{fd:FuncData}(F:DefB K mg f fd):FnOk P w K mg base CX0 2 f fd ["q","p"] Ae3:=let ⟨_,_,B⟩:=F.by_;Aqi F.toDef B
theorem scParts:Aaa ["p","q","r","s","first","second"] ["p","q","r","s"] (Aa7 Afv):=fsc
theorem Ata {f fT:Addr}{fd fdT:FuncData}(F:Def K mg "parts" Afv ["p","q","r","s"] f fd)(FT:Def K mg "turn_of" Ack ["p","q","r"] fT fdT):FnOk P w K mg base CX0 2 f fd ["p","q","r","s"] Apc:=by
 have GT:FnOk P w K mg base CX0 1 fT fdT ["p","q","r"] Ahk:=Aiq FT;refine F.fn.ok scParts (fun vs H Q E h=>?_) (fun cdv A outer s H vs Q E hr h=>?_)
 ·obtain⟨a,b,c,d,p,q,r,s,rfl,_⟩:=h;rfl
 ·obtain⟨a,b,c,d,p,q,r,s,rfl,h1,h2,h3,h4,s1,s2,k⟩:=h
  refine⟨_,Aa1 (pS 4 scParts.nd (pCD FT GT hr (Aa0 (pv 0) (Aa0 (pv 1) (Aa0 (pv 2) Aa3)))))
   (Aa1 (pS 5 scParts.nd (pCD FT GT hr (Aa0 (pv 0) (Aa0 (pv 1) (Aa0 (pv 3) Aa3)))))
   (Aa4 (Aa9 (Bau (Amp Acf Acf (pv 4) Aa5 (pv 5)) (Av0 (Amp Acf Acf (pv 5) Aa5 (pv 4))))))),?_⟩
  refine⟨_,rfl,_,rfl,_,rfl,a,b,c,p,q,r,rfl,h1,h2,h3,s1,s2,?_⟩;refine⟨_,rfl,_,rfl,_,rfl,a,b,d,p,q,s,rfl,h1,h2,h4,s1,s2,?_⟩;rw[Alg]at k;refine⟨_,rfl,_,_,rfl,rfl,_,rfl,?_⟩;refine Abg (fun e1=>?_) (fun e1=>?_)
  ·rw[if_pos e1]at k;refine⟨_,rfl,_,_,rfl,rfl,_,rfl,?_⟩;refine Abg (fun e2=>?_) (fun e2=>?_)
   ·rw[e2,Bool.true_or]at k;exact k
   ·rw[Bool.eq_false_iff.mpr e2,Bool.false_or]at k;refine⟨_,rfl,_,_,rfl,rfl,_,rfl,?_⟩;refine Abg (fun e3=>?_) (fun e3=>?_)
    ·rw[if_pos e3]at k;exact⟨_,rfl,_,_,rfl,rfl,k⟩
    ·rw[if_neg e3]at k;exact k
  ·rw[if_neg e1,Bool.false_or]at k;refine⟨_,rfl,Akh ?_⟩;refine⟨_,rfl,_,_,rfl,rfl,_,rfl,?_⟩;refine Abg (fun e3=>?_) (fun e3=>?_)
   ·rw[if_pos e3]at k;exact⟨_,rfl,_,_,rfl,rfl,k⟩
   ·rw[if_neg e3]at k;exact k
theorem Aw4:Aaa ["p","q","r","s"] ["p","q","r","s"] (Aa7 Aho):=fsc
theorem Atf {f fP fT:Addr}{fd fdP fdT:FuncData}(F:Def K mg "crosses" Aho ["p","q","r","s"] f fd)(FP:Def K mg "parts" Afv ["p","q","r","s"] fP fdP)(FT:Def K mg "turn_of" Ack ["p","q","r"] fT fdT) :
 FnOk P w K mg base CX0 3 f fd ["p","q","r","s"] Apo:=by
 have GP:FnOk P w K mg base CX0 2 fP fdP ["p","q","r","s"] Apc:=Ata FP FT;refine F.fn.ok Aw4 (fun vs H Q E h=>?_) (fun cdv A outer s H vs Q E hr h=>?_)
 ·obtain⟨a,b,c,d,p,q,r,s,rfl,_⟩:=h;rfl
 ·obtain⟨a,b,c,d,p,q,r,s,rfl,h1,h2,h3,h4,s1,s2,s3,s4,k⟩:=h
  refine⟨_,Aa4 (Aa9 (Ayz (pCD FP GP hr (Aa0 (pv 0) (Aa0 (pv 1) (Aa0 (pv 2) (Aa0 (pv 3) Aa3)))))
   (Av0 (pCD FP GP hr (Aa0 (pv 2) (Aa0 (pv 3) (Aa0 (pv 0) (Aa0 (pv 1) Aa3)))))))),?_⟩
  unfold Gla.crosses at k;refine⟨_,rfl,_,rfl,_,rfl,_,rfl,a,b,c,d,p,q,r,s,rfl,h1,h2,h3,h4,s1,s2,_,rfl,?_⟩;refine Abg (fun e=>?_) (fun e=>?_)
  ·rw[e,Bool.true_and]at k;exact⟨_,rfl,_,rfl,_,rfl,_,rfl,c,d,a,b,r,s,p,q,rfl,h3,h4,h1,h2,s3,s4,k⟩
  ·rw[Bool.eq_false_iff.mpr e,Bool.false_and]at k;exact k
end
structure PtsAt (H:Hp)(as:List Addr)(ps:List Pt):Prop where
 len:as.length=ps.length
 at_:∀(i:Nat) (c:Addr),as[i]?=some c→∃p,ps[i]?=some p∧PtAt H c p
theorem PtsAt.same {H H':Hp}{as:List Addr}{ps:List Pt}(e:Same H H')(h:PtsAt H as ps):PtsAt H' as ps :=
 ⟨h.len,fun i c hc=>let ⟨p,a,b⟩:=h.at_ i c hc;⟨p,a,b.same e⟩⟩
theorem Aad {as:List Addr}{i:Nat}{y:V}(h:(as.map V.ref)[i]?=some y):∃c,as[i]?=some c∧y=V.ref c:=by
 rw[List.getElem?_map]at h;cases e:as[i]? with
 | none=>rw[e]at h;cases h
 | some c=>rw[e]at h;exact⟨c,rfl,(Option.some.inj h).symm⟩
def arT (p q:Pt):Int:=(p.x:Int)*q.y-(p.y:Int)*q.x
def arS:Pt→List Pt→Int
 | _,[]=>0
 | b,c::r=>arT b c+arS c r
def Acu (p q z:Pt):Bool:=if p.y≤z.y∧z.y<q.y then decide (0<Gla.turn p q z)else if q.y≤z.y∧z.y<p.y then decide (0<Gla.turn q p z)else false
def hoS (z:Pt):Bool→Pt→List Pt→Bool
 | w,_,[]=>w
 | w,b,c::r=>hoS z (if Acu b c z=true then !w else w) c r
def Auw:Sp:=fun vs H Q _=>∃(a:Addr) (as:List Addr) (ps:List Pt) (l:Pt),vs=[.ref a]∧H a=some (.lst (as.map V.ref))∧PtsAt H as ps∧ps[ps.length-1]?=some l∧(∀p,p∈ps→Abj p)∧Q (.int (arS l ps)) H
def Ap9:Sp:=fun vs H Q _=>∃(a b c:Addr) (p q z:Pt),vs=[.ref a,.ref b,.ref c]∧PtAt H a p∧PtAt H b q∧PtAt H c z∧Abj p∧Abj q∧Q (.bl (Acu p q z)) H
def Apj:Sp:=fun vs H Q _=>∃(a c:Addr) (as:List Addr) (ps:List Pt) (l z:Pt),vs=[.ref a,.ref c]∧H a=some (.lst (as.map V.ref))∧PtsAt H as ps∧ps[ps.length-1]?=some l∧(∀p,p∈ps→Abj p)∧PtAt H c z∧Q (.bl (hoS z false l ps)) H
theorem Acp {α:Type}{l:List α}{i:Nat}{x:α}(h:l[i]?=some x):l.drop i=x::l.drop (i+1):=by
 obtain⟨hi,e⟩:=List.getElem?_eq_some_iff.mp h;rw[List.drop_eq_getElem_cons hi,e]
theorem Ary {as:List Addr}{c:Addr}(h:as[as.length-1]?=some c):atI (as.map V.ref) (-1)=some (.ref c):=by
 have hi:=(List.getElem?_eq_some_iff.mp h).1;unfold atI ixN;rw[if_neg (by decide),List.length_map,if_pos (by lia)];show(as.map V.ref)[((-1:Int)+(as.length:Int)).toNat]?=_;have:((-1:Int)+(as.length:Int)).toNat=as.length-1:=by lia
 rw[this,List.getElem?_map,h];rfl
section
variable {P:Program}{w:World}{K:W.Frag}{mg:Str→Option Value}{base:Heap}
theorem scArea:Aaa ["corners","twice","before","corner"] ["corners"] (Aa7 Apv):=fsc
theorem Awx {f:Addr}{fd:FuncData}(F:Def K mg "twice_area" Apv ["corners"] f fd):FnOk P w K mg base CX0 1 f fd ["corners"] Auw:=by
 refine F.fn.ok scArea (fun vs H Q E h=>?_) (fun cdv A outer s H vs Q E hr h=>?_)
 ·obtain⟨a,as,ps,l,rfl,_⟩:=h;rfl
 ·obtain⟨a,as,ps,l,rfl,hl,hp,hlast,sm,k⟩:=h
  refine⟨_,Aa1 (pS 1 scArea.nd Aa5)
   (Aa1 (pS 2 scArea.nd (pIL (pv 0) (Anw Ahh Aa5)))
   (Aa1 (Aap PassesOwn.never rfl (Abf (pv 0)) (pG 3 scArea.nd)
    (Aa1 (Amn (i:=1) scArea.nd rfl (Or.inl rfl) (Ab2 Ac4 (Ab2 Acw (pIT (pv 2) Aa5) (pIT (pv 3) Aa5))
     (Ab2 Acw (pIT (pv 2) Aa5) (pIT (pv 3) Aa5))) Ar8)
     (Aa4 (pS 2 scArea.nd (pv 3)))))
   (Aa4 (Aa9 (pv 1))))),?_⟩
  obtain⟨cl,hcl⟩ : ∃c,as[as.length-1]?=some c:=by
   have:=(List.getElem?_eq_some_iff.mp hlast).1;exact⟨_,List.getElem?_eq_getElem (by rw[hp.len];exact this)⟩
  have pl:PtAt H cl l:=by
   obtain⟨p,e,q⟩:=hp.at_ _ _ hcl;rw[hp.len,hlast]at e;cases e;exact q
  refine⟨_,rfl,_,rfl,a,_,_,_,rfl,rfl,SqL.of hl,Ary hcl,?_⟩
  refine⟨_,rfl,a,rfl,⟨_,SqL.of hl⟩,Abr (K:=K) (a:=a) (xs:=as.map V.ref) (fun i σ H'=>H'=H∧∃(tw:Int) (b:Addr) (bp:Pt) (v:Option V),σ=[some (.ref a),some (.int tw),some (.ref b),v]∧PtAt H b bp∧Abj bp∧tw+arS bp (ps.drop i)=arS l ps)
   ⟨rfl,0,cl,l,none,rfl,pl,sm l (List.mem_of_getElem? hlast),by simp⟩ (fun i σ H' _ ⟨e,_⟩=>by rw[e];exact SqL.of hl) ?_ ?_⟩
  ·rintro i y σ H' hi ⟨rfl,tw,b,bp,v,rfl,hb,sb,inv⟩;obtain⟨c,hc,rfl⟩:=Aad hi;obtain⟨p,hpi,pc⟩:=hp.at_ i c hc;obtain⟨_,g1⟩:=hb.sq (K:=K);obtain⟨_,g2⟩:=pc.sq (K:=K);have sp:=sm p (List.mem_of_getElem? hpi);have b1:CMul (bp.x:Int) (p.y:Int):=.inl (by unfold Abj at sb;lia);have b2:CMul (bp.y:Int) (p.x:Int):=.inl (by unfold Abj at sb;lia);refine⟨_,rfl,_,rfl,b,_,_,_,rfl,rfl,g1,atC,_,rfl,c,_,_,_,rfl,rfl,g2,atC,_,_,rfl,rfl,b1,_,rfl,b,_,_,_,rfl,rfl,g1,atC,_,rfl,c,_,_,_,rfl,rfl,g2,atC,_,_,rfl,rfl,b2,_,_,rfl,rfl,_,_,rfl,rfl,?_⟩
   refine⟨_,rfl,rfl,tw+arT bp p,c,p,_,rfl,pc,sp,?_⟩;rw[Acp hpi]at inv;simp only[arS]at inv;lia
  ·rintro σ H' ⟨rfl,tw,b,bp,v,rfl,hb,sb,inv⟩;refine⟨_,rfl,?_⟩;rw[List.length_map,hp.len,List.drop_length]at inv;simp only[arS]at inv;have:tw=arS l ps:=by lia
   rw[this];exact k
theorem Aw1:Aaa ["p","q","spot"] ["p","q","spot"] (Aa7 Ahm):=fsc
theorem At9 {f fT:Addr}{fd fdT:FuncData}(F:Def K mg "is_right_of" Ahm ["p","q","spot"] f fd)(FT:Def K mg "turn_of" Ack ["p","q","r"] fT fdT):FnOk P w K mg base CX0 2 f fd ["p","q","spot"] Ap9:=by
 have GT:FnOk P w K mg base CX0 1 fT fdT ["p","q","r"] Ahk:=Aiq FT;refine F.fn.ok Aw1 (fun vs H Q E h=>?_) (fun cdv A outer s H vs Q E hr h=>?_)
 ·obtain⟨a,b,c,p,q,z,rfl,_⟩:=h;rfl
 ·obtain⟨a,b,c,p,q,z,rfl,h1,h2,h3,s1,s2,k⟩:=h
  refine⟨_,Aa1 (Aat (Ada At6 Acf (pIT (pv 0) Aa5) (pIT (pv 2) Aa5) (pIT (pv 1) Aa5))
   (Aa4 (Aa9 (Ag4 Adt (pCD FT GT hr (Aa0 (pv 0) (Aa0 (pv 1) (Aa0 (pv 2) Aa3)))) Aa5 (Aan _)))) Aae)
   (Aa1 (Aat (Ada At6 Acf (pIT (pv 1) Aa5) (pIT (pv 2) Aa5) (pIT (pv 0) Aa5))
    (Aa4 (Aa9 (Ag4 Adt (pCD FT GT hr (Aa0 (pv 1) (Aa0 (pv 0) (Aa0 (pv 2) Aa3)))) Aa5 (Aan _)))) Aae)
   (Aa4 (Aa9 Ads))),?_⟩
  obtain⟨_,g1⟩:=h1.sq (K:=K);obtain⟨_,g2⟩:=h2.sq (K:=K);obtain⟨_,g3⟩:=h3.sq (K:=K);unfold Acu at k;have first:p.y≤z.y∧z.y<q.y→Q (.bl (decide (0<Gla.turn p q z))) H:=fun e=>by rw[if_pos e]at k;exact k
  have second:¬(p.y≤z.y∧z.y<q.y)→q.y≤z.y∧z.y<p.y→Q (.bl (decide (0<Gla.turn q p z))) H:=fun e e2=>by rw[if_neg e,if_pos e2]at k;exact k
  have third:¬(p.y≤z.y∧z.y<q.y)→¬(q.y≤z.y∧z.y<p.y)→Q (.bl false) H:=fun e e2=>by rw[if_neg e,if_neg e2]at k;exact k
  have go2:¬(p.y≤z.y∧z.y<q.y)→Bbh (Ay8 (Ap3 (Ap6 (rI0 fun i j=>.bl (decide (i≤j))) (rI0 fun i j=>.bl (decide (i<j))) (tOp (Ayu K) (Acc 1) (tC (.int 1))) (tOp (Ayu K) (Acc 2) (tC (.int 1))) (tOp (Ayu K) (Acc 0) (tC (.int 1)))))
   (As4 (tOp (rI0 fun i j=>.bl (decide (j<i))) (Aia Ahk [] E0 (Abt (Acc 1) (Abt (Acc 0) (Abt (Acc 2) Ama)))) (tC (.int 0)))) Ap5) (As4 (tC (.bl false))) { nx:=fun _ H'=>Q .non H',rt:=Q } (start ["p","q","spot"] [.ref a,.ref b,.ref c]) H:=by
   intro ne;refine⟨_,rfl,b,_,_,_,rfl,rfl,g2,atC,_,rfl,c,_,_,_,rfl,rfl,g3,atC,_,_,rfl,rfl,_,rfl,?_⟩;refine Abg (fun e1=>?_) (fun e1=>?_)
   ·refine⟨_,rfl,a,_,_,_,rfl,rfl,g1,atC,_,_,rfl,rfl,_,rfl,?_⟩;refine Abg (fun e2=>?_) (fun e2=>?_)
    ·simp only[decide_eq_true_eq]at e1 e2;exact⟨_,rfl,_,rfl,_,rfl,b,a,c,q,p,z,rfl,h2,h1,h3,s2,s1,_,_,rfl,rfl,second ne ⟨by lia,by lia⟩⟩
    ·simp only[decide_eq_true_eq]at e1 e2;exact third ne (by lia)
   ·simp only[decide_eq_true_eq]at e1;exact⟨_,rfl,Akh (third ne (by lia))⟩
  refine⟨_,rfl,a,_,_,_,rfl,rfl,g1,atC,_,rfl,c,_,_,_,rfl,rfl,g3,atC,_,_,rfl,rfl,_,rfl,?_⟩;refine Abg (fun e1=>?_) (fun e1=>?_)
  ·refine⟨_,rfl,b,_,_,_,rfl,rfl,g2,atC,_,_,rfl,rfl,_,rfl,?_⟩;refine Abg (fun e2=>?_) (fun e2=>?_)
   ·simp only[decide_eq_true_eq]at e1 e2;exact⟨_,rfl,_,rfl,_,rfl,a,b,c,p,q,z,rfl,h1,h2,h3,s1,s2,_,_,rfl,rfl,first ⟨by lia,by lia⟩⟩
   ·simp only[decide_eq_true_eq]at e1 e2;exact go2 (by lia)
  ·simp only[decide_eq_true_eq]at e1;exact⟨_,rfl,Akh (go2 (by lia))⟩
theorem scHolds:Aaa ["corners","spot","within","before","corner"] ["corners","spot"] (Aa7 Ajy):=fsc
theorem Atd {f fR fT:Addr}{fd fdR fdT:FuncData}(F:Def K mg "holds" Ajy ["corners","spot"] f fd)(FR:Def K mg "is_right_of" Ahm ["p","q","spot"] fR fdR)(FT:Def K mg "turn_of" Ack ["p","q","r"] fT fdT) :
 FnOk P w K mg base CX0 3 f fd ["corners","spot"] Apj:=by
 have GR:FnOk P w K mg base CX0 2 fR fdR ["p","q","spot"] Ap9:=At9 FR FT;refine F.fn.ok scHolds (fun vs H Q E h=>?_) (fun cdv A outer s H vs Q E hr h=>?_)
 ·obtain⟨a,c,as,ps,l,z,rfl,_⟩:=h;rfl
 ·obtain⟨a,cz,as,ps,l,z,rfl,hl,hp,hlast,sm,hz,k⟩:=h
  refine⟨_,Aa1 (pS 2 scHolds.nd Ads)
   (Aa1 (pS 3 scHolds.nd (pIL (pv 0) (Anw Ahh Aa5)))
   (Aa1 (Aap PassesOwn.never rfl (Abf (pv 0)) (pG 4 scHolds.nd)
    (Aa1 (Aat (Ad0 (pCD FR GR hr (Aa0 (pv 3) (Aa0 (pv 4) (Aa0 (pv 1) Aa3))))) (Aa4 (pS 2 scHolds.nd (Ayw (pv 2)))) Aae)
     (Aa4 (pS 3 scHolds.nd (pv 4)))))
   (Aa4 (Aa9 (pv 2))))),?_⟩
  obtain⟨cl,hcl⟩ : ∃c,as[as.length-1]?=some c:=by
   have:=(List.getElem?_eq_some_iff.mp hlast).1;exact⟨_,List.getElem?_eq_getElem (by rw[hp.len];exact this)⟩
  have pl:PtAt H cl l:=by
   obtain⟨p,e,q⟩:=hp.at_ _ _ hcl;rw[hp.len,hlast]at e;cases e;exact q
  refine⟨_,rfl,_,rfl,a,_,_,_,rfl,rfl,SqL.of hl,Ary hcl,?_⟩
  refine⟨_,rfl,a,rfl,⟨_,SqL.of hl⟩,Abr (K:=K) (a:=a) (xs:=as.map V.ref) (fun i σ H'=>H'=H∧∃(wi:Bool) (b:Addr) (bp:Pt) (v:Option V),σ=[some (.ref a),some (.ref cz),some (.bl wi),some (.ref b),v]∧PtAt H b bp∧Abj bp∧hoS z wi bp (ps.drop i)=hoS z false l ps)
   ⟨rfl,false,cl,l,none,rfl,pl,sm l (List.mem_of_getElem? hlast),by simp⟩ (fun i σ H' _ ⟨e,_⟩=>by rw[e];exact SqL.of hl) ?_ ?_⟩
  ·rintro i y σ H' hi ⟨rfl,wi,b,bp,v,rfl,hb,sb,inv⟩;obtain⟨c,hc,rfl⟩:=Aad hi;obtain⟨p,hpi,pc⟩:=hp.at_ i c hc;have sp:=sm p (List.mem_of_getElem? hpi);rw[Acp hpi]at inv;simp only[hoS]at inv;refine⟨_,rfl,_,rfl,_,rfl,b,c,cz,bp,p,z,rfl,hb,pc,hz,sb,sp,_,rfl,?_⟩;refine Abg (fun e=>?_) (fun e=>?_)
   ·rw[if_pos e]at inv;refine⟨_,rfl,_,rfl,?_⟩;exact⟨_,rfl,rfl,!wi,c,p,_,rfl,pc,sp,inv⟩
   ·rw[if_neg e]at inv;exact⟨_,rfl,rfl,wi,c,p,_,rfl,pc,sp,inv⟩
  ·rintro σ H' ⟨rfl,wi,b,bp,v,rfl,hb,sb,inv⟩;refine⟨_,rfl,?_⟩;rw[List.length_map,hp.len,List.drop_length]at inv;simp only[hoS]at inv;rw[inv];exact k
end
def dfs (w h:Nat)(pa la ma:Addr):List (Str×V):=Ado "marks" (.ref ma) (Ado "lines" (.ref la) (Ado "points" (.ref pa) (Ado "height" (.int h) (Ado "width" (.int w) []))))
theorem Au7 (w h:Nat)(pa la ma:Addr):(dfs w h pa la ma).lookup ("width" : Str)=some (.int w):=by
 unfold dfs;simp only[Aau];rw[if_neg (by decide +kernel),if_neg (by decide +kernel),if_neg (by decide +kernel),if_neg (by decide +kernel),if_pos trivial]
theorem Auc (w h:Nat)(pa la ma:Addr):(dfs w h pa la ma).lookup ("height" : Str)=some (.int h):=by
 unfold dfs;simp only[Aau];rw[if_neg (by decide +kernel),if_neg (by decide +kernel),if_neg (by decide +kernel),if_pos trivial]
theorem Adx (w h:Nat)(pa la ma:Addr):(dfs w h pa la ma).lookup ("points" : Str)=some (.ref pa):=by
 unfold dfs;simp only[Aau];rw[if_neg (by decide +kernel),if_neg (by decide +kernel),if_pos trivial]
theorem Aja (w h:Nat)(pa la ma:Addr):(dfs w h pa la ma).lookup ("lines" : Str)=some (.ref la):=by
 unfold dfs;simp only[Aau];rw[if_neg (by decide +kernel),if_pos trivial]
theorem Aub (w h:Nat)(pa la ma:Addr):(dfs w h pa la ma).lookup ("marks" : Str)=some (.ref ma):=by
 unfold dfs;rw[Aau,if_pos rfl]
theorem Ac0 (w h:Nat)(pa la ma:Addr){m:Str}(h1:¬m = "marks")(h2:¬m = "lines")(h3:¬m = "points")(h4:¬m = "height")(h5:¬m = "width"):(dfs w h pa la ma).lookup m=none:=by
 unfold dfs;simp only[Aau];rw[if_neg h1,if_neg h2,if_neg h3,if_neg h4,if_neg h5];rfl
def LnAt (H:Hp)(a:Addr)(l:Nat×Nat):Prop:=H a=some (.tup [.int l.1,.int l.2])
structure LnsAt (H:Hp)(as:List Addr)(ls:List (Nat×Nat)):Prop where
 len:as.length=ls.length
 at_:∀(i:Nat) (c:Addr),as[i]?=some c→∃l,ls[i]?=some l∧LnAt H c l
theorem LnsAt.same {H H':Hp}{as:List Addr}{ls:List (Nat×Nat)}(e:Same H H')(h:LnsAt H as ls):LnsAt H' as ls :=
 ⟨h.len,fun i c hc=>let ⟨p,a,b⟩:=h.at_ i c hc;⟨p,a,e _ _ b⟩⟩
structure TupsAt {α:Type}(tv:α→List V)(H:Hp)(as:List Addr)(xs:List α):Prop where
 len:as.length=xs.length
 at_:∀(i:Nat) (c:Addr),as[i]?=some c→∃x,xs[i]?=some x∧H c=some (.tup (tv x))
theorem TupsAt.same {α:Type}{tv:α→List V}{H H':Hp}{as:List Addr}{xs:List α}(e:Same H H')(h:TupsAt tv H as xs):TupsAt tv H' as xs :=
 ⟨h.len,fun i c hc=>let ⟨p,a,b⟩:=h.at_ i c hc;⟨p,a,e _ _ b⟩⟩
def ptV (p:Pt):List V:=[.int p.x,.int p.y]
def lnV (l:Nat×Nat):List V:=[.int l.1,.int l.2]
def mkV (m:Mark):List V:=[.int m.at_.x,.int m.at_.y,.int m.glass,.int m.painting]
structure DrawAt (C:Addr)(H:Hp)(d:Addr)(S:Plan)(pa la ma:Addr)(as ls ms:List Addr):Prop where
 ins:∃dx,H d=some (.ins C dx (dfs S.w S.h pa la ma))
 pts:H pa=some (.lst (as.map V.ref))
 lns:H la=some (.lst (ls.map V.ref))
 mks:H ma=some (.lst (ms.map V.ref))
 ptsX:TupsAt ptV H as S.pts
 lnsA:LnsAt H ls S.lines
 mksX:TupsAt mkV H ms S.marks
 smP:∀p,p∈S.pts→Abj p
 smM:∀m,m∈S.marks→Abj m.at_
 smW:S.w<4294967296
 smH:S.h<4294967296
 nP:S.pts.length≤4096
 nL:S.lines.length≤8192
 nM:S.marks.length≤2048
theorem DrawAt.same {C:Addr}{H H':Hp}{d:Addr}{S:Plan}{pa la ma:Addr}{as ls ms:List Addr}(e:Same H H')(D:DrawAt C H d S pa la ma as ls ms):DrawAt C H' d S pa la ma as ls ms :=
 ⟨let ⟨dx,h⟩:=D.ins;⟨dx,e _ _ h⟩,e _ _ D.pts,e _ _ D.lns,e _ _ D.mks,D.ptsX.same e,D.lnsA.same e,D.mksX.same e,D.smP,D.smM,D.smW,D.smH,D.nP,D.nL,D.nM⟩
theorem DrawAt.ptsA {C:Addr}{H:Hp}{d:Addr}{S:Plan}{pa la ma:Addr}{as ls ms:List Addr}(D:DrawAt C H d S pa la ma as ls ms):PtsAt H as S.pts :=
 ⟨D.ptsX.len,fun i c hc=>let ⟨p,a,b⟩:=D.ptsX.at_ i c hc;⟨p,a,[],b⟩⟩
theorem DrawAt.mksA {C:Addr}{H:Hp}{d:Addr}{S:Plan}{pa la ma:Addr}{as ls ms:List Addr}(D:DrawAt C H d S pa la ma as ls ms):PtsAt H ms (S.marks.map (·.at_)) :=
 ⟨by rw[List.length_map];exact D.mksX.len,fun i c hc=>let ⟨p,a,b⟩:=D.mksX.at_ i c hc;⟨p.at_,by rw[List.getElem?_map,a];rfl,_,b⟩⟩
structure Adl (K:W.Frag)(C:Addr):Prop where
 cl:Cls K C
 nW:NoAttr K C "width"
 nH:NoAttr K C "height"
 nP:NoAttr K C "points"
 nL:NoAttr K C "lines"
 nM:NoAttr K C "marks"
def vN (l:List Nat):List V:=l.map fun n=>V.int (n:Nat)
structure LkAt (H0 H:Hp)(a:Addr)(rows:List Addr)(ls:List (List Nat)):Prop where
 lst:H a=some (.lst (rows.map V.ref))
 nd:rows.Nodup
 len:rows.length=ls.length
 at_:∀(i:Nat) (c:Addr),rows[i]?=some c→∃l,ls[i]?=some l∧H c=some (.lst (vN l))
 fr:∀c,c∈rows→H0 c=none
 fa:H0 a=none
theorem LkAt.push {H0 H:Hp}{a c:Addr}{rows:List Addr}{ls:List (List Nat)}{i:Nat}{l:List Nat}(x:Nat)(h:LkAt H0 H a rows ls)(hc:rows[i]?=some c)(hl:ls[i]?=some l) :
 LkAt H0 (upd H c (.lst (vN (l++[x])))) a rows (ls.set i (l++[x])):=by
 obtain⟨l',e',hcl⟩:=h.at_ i c hc;have el:l'=l:=Option.some.inj (e'.symm.trans hl);subst el;have nac:a≠c:=by
  intro q;subst q;rw[h.lst]at hcl;injection hcl with q
  injection q with q
  cases rows with
  | nil=>simp at hc
  | cons r0 rs =>
   cases l' with
   | nil=>cases q
   | cons y ys=>simp[vN]at q
 refine⟨by rw[Aa6 nac];exact h.lst,h.nd,by rw[List.length_set];exact h.len,fun j b hb=>?_,h.fr,h.fa⟩
 by_cases e:j=i
 ·subst e;have:b=c:=Option.some.inj (hb.symm.trans hc);subst this;exact⟨_,List.getElem?_set_self (List.getElem?_eq_some_iff.mp hl).1,Aa2⟩
 ·obtain⟨m,em,hm⟩:=h.at_ j b hb;have nbc:b≠c:=fun q=>e (Alf h.nd hb (by rw[q];exact hc));exact⟨m,by rw[List.getElem?_set_ne (fun q=>e q.symm)];exact em,by rw[Aa6 nbc];exact hm⟩
theorem LkAt.same {H0 H H':Hp}{a:Addr}{rows:List Addr}{ls:List (List Nat)}(e:Same H H')(h:LkAt H0 H a rows ls):LkAt H0 H' a rows ls :=
 ⟨e _ _ h.lst,h.nd,h.len,fun i c hc=>let ⟨l,x,y⟩:=h.at_ i c hc;⟨l,x,e _ _ y⟩,h.fr,h.fa⟩
def Abx (ls:List (Nat×Nat))(v:Nat):List Nat:=ls.filterMap fun(l:Nat×Nat)=>if l.1=v then some l.2 else if l.2=v then some l.1 else none
theorem Aak {α:Type}{l:List α}{i:Nat}{x:α}(h:l[i]?=some x):l.take (i+1)=l.take i++[x]:=by
 obtain⟨hi,e⟩:=List.getElem?_eq_some_iff.mp h;rw[List.take_succ_eq_append_getElem hi,e]
theorem Anz (ls:List (Nat×Nat))(l:Nat×Nat)(v:Nat):Abx (ls++[l]) v=Abx ls v++(if l.1=v then [l.2] else if l.2=v then [l.1] else []):=by
 unfold Abx;rw[List.filterMap_append]
 congr 1
 by_cases a:l.1=v
 ·simp[a]
 ·by_cases b:l.2=v
  ·simp[a,b]
  ·simp[a,b]
theorem Ag9 (ls:List (Nat×Nat))(v:Nat):(Abx ls v).length≤ls.length:=List.length_filterMap_le _ _
theorem Aqp {n:Nat}{ls:List (Nat×Nat)}{l:Nat×Nat}(h1:l.1<l.2)(h2:l.2<n) :
 (((List.range n).map (Abx ls)).set l.1 (Abx ls l.1++[l.2])).set l.2 (Abx ls l.2++[l.1])=(List.range n).map (Abx (ls++[l])):=by
 apply List.ext_getElem
 ·simp
 ·intro i a b;simp only[List.length_set,List.length_map,List.length_range]at a;rw[List.getElem_set,List.getElem_set];simp only[List.getElem_map,List.getElem_range];rw[Anz]
  by_cases e2:l.2=i
  ·subst e2;rw[if_pos rfl,if_neg (by lia),if_pos rfl]
  ·rw[if_neg e2]
   by_cases e1:l.1=i
   ·subst e1;rw[if_pos rfl,if_pos rfl]
   ·rw[if_neg e1,if_neg e1,if_neg e2,List.append_nil]
abbrev Adn:Stmt:=top Alm
def Aft (C:Addr):Sp:=fun vs H Q _=>∃(d:Addr) (S:Plan) (pa la ma:Addr) (as ls ms:List Addr),vs=[.ref d]∧DrawAt C H d S pa la ma as ls ms∧(∀l,l∈S.lines→l.1<l.2∧l.2<S.pts.length)∧
 ∀(H':Hp) (a:Addr) (rows:List Addr),Same H H'→LkAt H H' a rows ((List.range S.pts.length).map S.near)→Q (.ref a) H'
section
variable {P:Program}{w:World}{K:W.Frag}{mg:Str→Option Value}{base:Heap}
theorem scLinks:Aaa ["drawing","links","first","second","point"] ["drawing"] (Aa7 Adn):=fsc
def Bc4 (x:Str):Scope:={ kind:=.function,names:=[(Str.ofString ".0",.local),(x,.local)],isGenerator:=false,isCoroutine:=false }
theorem Axh:Avh ["drawing","links","first","second","point"] (Aa7 Adn) (Bc4 "point") [("point",4)]=true:=by decide +kernel
theorem Afh {f C:Addr}{fd:FuncData}(F:Def K mg "links_of" Adn ["drawing"] f fd)(T:Adl K C):FnOk P w K mg base CX0 1 f fd ["drawing"] (Aft C):=by
 refine F.fn.ok scLinks (fun vs H Q E h=>?_) (fun cdv A outer s H vs Q E hr h=>?_)
 ·obtain⟨d,S,pa,la,ma,as,ls,ms,rfl,_⟩:=h;rfl
 ·obtain⟨d,S,pa,la,ma,as,ls,ms,rfl,D,lin,k⟩:=h;obtain⟨dx,hd⟩:=D.ins
  refine⟨_,Aa1 (Aff (i:=1) (own:=[("point",4)]) rfl scLinks.nd rfl rfl (Aib rfl rfl rfl rfl) (Abf (Aal (pv 0) rfl)) (Acs Axh) (fun _ _ _ _ _=>pG 4 scLinks.nd) (fun _ _ _ _ _=>Ag2) (fun _ _ _ _ _=>Ab8 Aa3))
   (Aa1 (Aap PassesOwn.never rfl (Abf (Aal (pv 0) rfl)) (Abu rfl (Aag (pG 2 scLinks.nd) (Aag (pG 3 scLinks.nd) Abc)))
    (Aa1 (Abo (Aej PySem.F.plainAttrs_list PySem.F.slot_list_append PySem.F.type_list_append Ab3 (pIL (pv 1) (pv 2)) (Aa0 (pv 3) Aa3)))
    (Aa4 (Abo (Aej PySem.F.plainAttrs_list PySem.F.slot_list_append PySem.F.type_list_append Ab3 (pIL (pv 1) (pv 3)) (Aa0 (pv 2) Aa3))))))
   (Aa4 (Aa9 (pv 1)))),?_⟩
  refine⟨_,rfl,d,C,dx,_,_,rfl,hd,T.cl,T.nP,Adx _ _ _ _ _,pa,rfl,⟨_,SqL.of D.pts⟩,fun a ha=>?_⟩;refine Agb (K:=K) (a:=pa) (xs:=as.map V.ref) (fun i H'=>∃rows,Same H H'∧LkAt H H' a rows (List.replicate i []) ) ⟨[],Same.new ha,Aa2,by simp,rfl,by simp,by simp,ha⟩ ?_ ?_ ?_
  ·rintro i H' _ ⟨rows,s1,_⟩;exact SqL.of (s1 _ _ D.pts)
  ·rintro i x H' hi ⟨rows,s1,L⟩;have il:i<as.length:=by
    have:=(List.getElem?_eq_some_iff.mp hi).1;simpa using this
   have:=D.nP;have:=D.ptsA.len;refine⟨rfl,?_⟩;unfold Axq;dsimp only
   first | rw[if_pos rfl] | rw[if_pos trivial]
   refine⟨Nat.zero_le _,fun c hc=>⟨rows.map V.ref,?_,?_,?_⟩⟩
   ·rw[Aa6 (Aa8 L.lst hc)];exact L.lst
   ·have:=L.len;rw[List.length_replicate]at this;rw[List.length_map,this];exact Nat.lt_trans (show i<4097 by lia) (by decide)
   ·refine⟨rows++[c],?_,?_⟩
    ·intro b o e;have e':=s1 b o e;rw[Aa6 (by intro q;rw[q,L.fa]at e;cases e),Aa6 (Aa8 e' hc)];exact e'
    ·have nc:c∉rows:=by
      intro m;obtain⟨j,hj,ej⟩:=List.mem_iff_getElem.1 m;obtain⟨l,_,hl⟩:=L.at_ j c (by rw[List.getElem?_eq_getElem hj,ej]);rw[hl]at hc;cases hc
     have nca:c≠a:=fun q=>by rw[q,L.lst]at hc;cases hc
     refine⟨?_,?_,?_,?_,?_,L.fa⟩
     ·rw[Aa2,List.map_append];rfl
     ·exact Aqq L.nd nc
     ·have:=L.len;rw[List.length_append,List.length_replicate];rw[List.length_replicate]at this;simp[this]
     ·intro j b hb
      by_cases ej:j<rows.length
      ·rw[List.getElem?_append_left ej]at hb;obtain⟨l,el,hl⟩:=L.at_ j b hb;have nba:b≠a:=by
        intro q;have:b∈rows:=List.mem_of_getElem? hb;rw[q]at hl;rw[L.lst]at hl;injection hl with q2
        injection q2 with q2
        rw[List.getElem?_replicate]at el
        split at el
        ·injection el with el
         subst el;cases rows with
         | nil=>simp at ej
         | cons r0 rs=>simp[vN]at q2
        ·cases el
       have nbc:b≠c:=fun q=>nc (by rw[←q];exact List.mem_of_getElem? hb);refine⟨l,?_,by rw[Aa6 nba,Aa6 nbc];exact hl⟩;have:=L.len;rw[List.length_replicate]at this;rw[List.getElem?_replicate]at el ⊢;rw[if_pos (by lia)]at el ⊢;exact el
      ·have:=(List.getElem?_eq_some_iff.mp hb).1;simp at this;have ej':j=rows.length:=by lia
       subst ej';simp at hb;subst hb;have:=L.len;rw[List.length_replicate]at this;refine⟨[],?_,by rw[Aa6 nca,Aa2];rfl⟩;rw[List.getElem?_replicate,if_pos (by lia)]
     ·intro b hb;rcases List.mem_append.1 hb with q | q
      ·exact L.fr b q
      ·rw[List.mem_singleton]at q;subst q;exact s1.free hc
  ·rintro H1 ⟨rows,s1,L⟩;rw[List.length_map,D.ptsA.len]at L;have L0:LkAt H H1 a rows ((List.range S.pts.length).map (Abx (S.lines.take 0))):=by
    have:(List.range S.pts.length).map (Abx (S.lines.take 0))=List.replicate S.pts.length []:=by
     apply List.ext_getElem
     ·simp
     ·intro i _ _;simp[Abx]
    rw[this];exact L
   obtain⟨dx',hd'⟩:=(D.same s1).ins
   refine⟨_,rfl,d,C,dx',_,_,rfl,hd',T.cl,T.nL,Aja _ _ _ _ _,la,rfl,⟨_,SqL.of (s1 _ _ D.lns)⟩,Abr (K:=K) (a:=la) (xs:=ls.map V.ref)
    (fun i σ H'=>∃v2 v3 v4:Option V,σ=[some (.ref d),some (.ref a),v2,v3,v4]∧Same H H'∧LkAt H H' a rows ((List.range S.pts.length).map (Abx (S.lines.take i)))) ⟨_,_,_,rfl,s1,L0⟩ (fun i σ H' _ ⟨_,_,_,_,s2,_⟩=>SqL.of (s2 _ _ D.lns)) ?_ ?_⟩
   ·rintro i y σ H' hi ⟨v2,v3,v4,rfl,s2,L⟩;obtain⟨c,hc,rfl⟩:=Aad hi;obtain⟨l,hl,lc⟩:=D.lnsA.at_ i c hc;have ll:=lin l (List.mem_of_getElem? hl);have nl:=D.nL;have tl:(S.lines.take i).length≤8192:=Nat.le_trans (by rw[List.length_take];exact Nat.min_le_right _ _) nl;have rl:rows.length=S.pts.length:=by have:=L.len;simpa using this
    obtain⟨c1,hc1⟩ : ∃c1,rows[l.1]?=some c1:=⟨_,List.getElem?_eq_getElem (by lia)⟩
    obtain⟨c2,hc2⟩ : ∃c2,rows[l.2]?=some c2:=⟨_,List.getElem?_eq_getElem (by lia)⟩
    have e1:((List.range S.pts.length).map (Abx (S.lines.take i)))[l.1]?=some (Abx (S.lines.take i) l.1):=by
     rw[List.getElem?_map,List.getElem?_range (by lia)];rfl
    have L1:=L.push l.2 hc1 e1;obtain⟨q1,eq1,hq1⟩:=L.at_ l.1 c1 hc1;rw[e1]at eq1;cases eq1;have e2:(((List.range S.pts.length).map (Abx (S.lines.take i))).set l.1 (Abx (S.lines.take i) l.1++[l.2]))[l.2]?=some (Abx (S.lines.take i) l.2):=by
     rw[List.getElem?_set_ne (by lia),List.getElem?_map,List.getElem?_range (by lia)];rfl
    have L2:=L1.push l.1 hc2 e2;obtain⟨q2,eq2,hq2⟩:=L1.at_ l.2 c2 hc2;rw[e2]at eq2;cases eq2;have z1:(vN (Abx (S.lines.take i) l.1)).length<sizeLine:=by
     unfold vN;rw[List.length_map];exact Nat.lt_of_le_of_lt (Nat.le_trans (Ag9 _ _) tl) (by decide)
    have z2:(vN (Abx (S.lines.take i) l.2)).length<sizeLine:=by
     unfold vN;rw[List.length_map];exact Nat.lt_of_le_of_lt (Nat.le_trans (Ag9 _ _) tl) (by decide)
    refine⟨c,_,rfl,SqT.of (s2 _ _ lc),rfl,_,_,rfl,_,_,rfl,rfl,?_⟩;refine⟨_,rfl,_,rfl,a,_,_,V.ref c1,rfl,rfl,SqL.of L.lst,Ae0 (by rw[List.getElem?_map,hc1];rfl),.inl ⟨rfl,_,SqL.of hq1⟩,_,rfl,c1,_,_,rfl,rfl,hq1,z1,?_⟩;have ev1:vN (Abx (S.lines.take i) l.1)++[V.int (l.2:Nat)]=vN (Abx (S.lines.take i) l.1++[l.2]):=by unfold vN;rw[List.map_append];rfl
    rw[ev1];refine⟨_,rfl,_,rfl,a,_,_,V.ref c2,rfl,rfl,SqL.of L1.lst,Ae0 (by rw[List.getElem?_map,hc2];rfl),.inl ⟨rfl,_,SqL.of hq2⟩,_,rfl,c2,_,_,rfl,rfl,hq2,z2,?_⟩;have ev2:vN (Abx (S.lines.take i) l.2)++[V.int (l.1:Nat)]=vN (Abx (S.lines.take i) l.2++[l.1]):=by unfold vN;rw[List.map_append];rfl
    rw[ev2];refine⟨_,_,_,rfl,?_,?_⟩
    ·intro b o e;have n1:b≠c1:=fun q=>by rw[q,L.fr c1 (List.mem_of_getElem? hc1)]at e;cases e
     have n2:b≠c2:=fun q=>by rw[q,L.fr c2 (List.mem_of_getElem? hc2)]at e;cases e
     rw[Aa6 n2,Aa6 n1];exact s2 b o e
    ·rw[Aqp ll.1 ll.2,←Aak hl]at L2;exact L2
   ·rintro σ H' ⟨v2,v3,v4,rfl,s2,L⟩;refine⟨_,rfl,?_⟩;rw[List.length_map,D.lnsA.len,List.take_length]at L;exact k H' a rows s2 L
end
abbrev As5:Stmt:=top Akd
abbrev Ail:Stmt:=top Aj0
abbrev Aeh:Stmt:=top Akc
abbrev Adq:Stmt:=top Aoa
abbrev Apt:Stmt:=top Aj3
abbrev Ask:Stmt:=top Age
abbrev Ajx:Stmt:=Agk (top Ade) 0
abbrev Agy:Stmt:=Agk (top Ade) 1
abbrev Aim:Stmt:=Agk (top Ade) 2
abbrev Al9:Stmt:=Agk (top Ade) 3
def vB (b:List UInt8):List V:=b.map fun c=>V.int (c.toNat:Nat)
theorem Aht:∀(l:List UInt8) (c:UInt8),Gla.numLe (l++[c])=Gla.numLe l+c.toNat*2 ^ (8*l.length)
 | [],c=>by simp[Gla.numLe]
 | x::r,c=>by
  show x.toNat+256*Gla.numLe (r++[c])=x.toNat+256*Gla.numLe r+c.toNat*2 ^ (8*(r.length+1));rw[Aht r c,Nat.mul_add (8) r.length 1,Nat.pow_add];have:(2:Nat) ^ (8*1)=256:=by decide
  rw[this,Nat.mul_add,←Nat.mul_assoc (c.toNat),Nat.mul_comm 256 (c.toNat*_),Nat.add_assoc]
theorem Ath {b:List UInt8}{p i:Nat}{c:UInt8}(h:b[p+i]?=some c):Gla.num b p (i+1)=Gla.num b p i+c.toNat*2 ^ (8*i):=by
 unfold Gla.num;have hi:=(List.getElem?_eq_some_iff.mp h).1;have e:(b.drop p)[i]?=some c:=by rw[List.getElem?_drop];exact h
 rw[Aak e,Aht,List.length_take,List.length_drop,Nat.min_eq_left (by lia)]
theorem Atg (b:List UInt8)(p:Nat):Gla.num b p 0=0:=by unfold Gla.num;simp[Gla.numLe]
theorem Aze (b:List UInt8)(p:Nat):∀w,Gla.num b p w<2 ^ (8*w):=by
 intro w;unfold Gla.num;have key:∀l:List UInt8,Gla.numLe l<2 ^ (8*l.length):=by
  intro l
  induction l with
  | nil=>simp[Gla.numLe]
  | cons c r ih =>
   show c.toNat+256*Gla.numLe r<2 ^ (8*(r.length+1));rw[Nat.mul_add,Nat.pow_add];have h1:=c.toNat_lt;have:(2:Nat) ^ (8*1)=256:=by decide
   rw[this];lia
 have h:=key ((b.drop p).take w);have:((b.drop p).take w).length≤w:=by rw[List.length_take];exact Nat.min_le_left _ _
 exact Nat.lt_of_lt_of_le h (Nat.pow_le_pow_right (by decide) (by lia))
def Avv (K:W.Frag):Sp:=fun vs H Q _=>∃(a:Addr) (b:List UInt8) (p w:Nat),vs=[.ref a,.int p,.int w]∧SqL K H a (vB b)∧p+w≤b.length∧w≤8∧Q (.int (Gla.num b p w:Nat)) H
section
variable {P:Program}{w:World}{K:W.Frag}{mg:Str→Option Value}{base:Heap}
theorem scNum:Aaa ["row","place","size","number","k"] ["row","place","size"] (Aa7 As5):=fsc
theorem Av5 {f:Addr}{fd:FuncData}(F:Def K mg "number_at" As5 ["row","place","size"] f fd)(nr:mg "range" = none):FnOk P w K mg base CX0 1 f fd ["row","place","size"] (Avv K):=by
 refine F.fn.ok scNum (fun vs H Q E h=>?_) (fun cdv A outer s H vs Q E hr h=>?_)
 ·obtain⟨a,b,p,w,rfl,_⟩:=h;rfl
 ·obtain⟨a,b,p,wd,rfl,hb,hl,hw,k⟩:=h
  refine⟨_,Aa1 (pS 3 scNum.nd Aa5)
   (Aa1 (Aap PassesOwn.never rfl (Ace rfl nr (Aa0 (pv 2) Aa3)) (pG 4 scNum.nd)
    (Aa4 (Amn (i:=3) scNum.nd rfl (Or.inl rfl) (Ab2 Az0 (pIL (pv 0) (Ab2 Ae6 (pv 1) (pv 4))) (Ab2 Acw Aa5 (pv 4))) Ar8)))
   (Aa4 (Aa9 (pv 3)))),?_⟩
  refine⟨_,rfl,(wd:Int),rfl,by lia,by lia,?_⟩;have e0:((wd:Int)).toNat=wd:=by lia
  rw[e0];refine Ach (n:=wd) (fun i σ H'=>H'=H∧∃v:Option V,σ=[some (.ref a),some (.int p),some (.int wd),some (.int (Gla.num b p i:Nat)),v]) ⟨rfl,none,by rw[Atg];rfl⟩ ?_ ?_
  ·rintro i σ H' hi ⟨rfl,v,rfl⟩;obtain⟨c,hc⟩ : ∃c,b[p+i]?=some c:=⟨_,List.getElem?_eq_getElem (by lia)⟩
   have at1:atI (vB b) ((p:Int)+((0:Int)+(i:Nat)))=some (V.int (c.toNat:Nat)):=Ahc (j:=p+i) (by lia) (by unfold vB;rw[List.getElem?_map,hc];rfl);have cl:=c.toNat_lt
   have cp:Bbt ((c.toNat:Nat):Int) (8*((0:Int)+(i:Nat))):=⟨by lia,by lia,by
    show((c.toNat:Nat):Int).natAbs<2 ^ 64;have:((c.toNat:Nat):Int).natAbs=c.toNat:=by lia
    rw[this];exact Nat.lt_of_lt_of_le cl (by decide)⟩
   refine⟨_,rfl,_,rfl,_,rfl,_,rfl,_,_,rfl,rfl,a,_,_,_,rfl,rfl,hb,at1,_,rfl,_,_,rfl,rfl,.inl (by lia),_,_,rfl,rfl,cp,_,_,rfl,rfl,rfl,some (.int ((0:Int)+(i:Nat))),?_⟩;have e1:(8*((0:Int)+(i:Nat))).toNat=8*i:=by lia
   have e2:((Gla.num b p i:Nat):Int)+((c.toNat:Nat):Int)*2 ^ (8*((0:Int)+(i:Nat))).toNat=((Gla.num b p (i+1):Nat):Int):=by
    rw[Ath hc,e1,Int.natCast_add,Int.natCast_mul,Int.natCast_pow];rfl
   exact congrArg (fun z=>[some (V.ref a),some (.int p),some (.int wd),some (.int z),some (.int ((0:Int)+(i:Nat)))]) e2
  ·rintro σ H' ⟨rfl,v,rfl⟩;exact⟨_,rfl,k⟩
end
theorem TupsAt.nil {α:Type}{tv:α→List V}{H:Hp}:TupsAt tv H [] []:=⟨rfl,by simp⟩
theorem TupsAt.push {α:Type}{tv:α→List V}{H:Hp}{as:List Addr}{xs:List α}{t:Addr}{x:α}(h:TupsAt tv H as xs)(ht:H t=some (.tup (tv x))):TupsAt tv H (as++[t]) (xs++[x]):=by
 refine⟨by rw[List.length_append,List.length_append,h.len];rfl,fun j c hc=>?_⟩
 by_cases ej:j<as.length
 ·rw[List.getElem?_append_left ej]at hc;obtain⟨l,el,hl⟩:=h.at_ j c hc;exact⟨l,by rw[List.getElem?_append_left (by rw[←h.len];exact ej)];exact el,hl⟩
 ·have:=(List.getElem?_eq_some_iff.mp hc).1;simp at this;have:j=as.length:=by lia
  subst this;simp at hc;subst hc;exact⟨x,by rw[h.len,List.getElem?_append_right (Nat.le_refl _)];simp,ht⟩
theorem TupsAt.lst {α:Type}{tv:α→List V}{H:Hp}{as:List Addr}{xs:List α}{q:Addr}{l l':List V}(h:TupsAt tv H as xs)(hq:H q=some (.lst l)):TupsAt tv (upd H q (.lst l')) as xs :=
 ⟨h.len,fun j c hc=>let ⟨x,e,hx⟩:=h.at_ j c hc;⟨x,e,by rw[Aa6 (Aby hx hq (by intro z;cases z))];exact hx⟩⟩
theorem Same.grow {H0 H H':Hp}{q:Addr}{o:HO}(s1:Same H0 H)(hq:H0 q=none)(s2:Same H H'):Same H0 (upd H' q o):=fun b u e=>by
 rw[Aa6 (Aa8 e hq)];exact s2 _ _ (s1 _ _ e)
def Tab (K:W.Frag)(mg:Str→Option Value)(x:Str)(ns:List Int):Prop:=∃a,mg x=some (.ref a)∧∀H,SqT K H a (ns.map V.int)
structure Cst (K:W.Frag)(mg:Str→Option Value):Prop where
 head:∃t,mg "HEAD_BYTES" = some (.int 20 t)
 letters:Tab K mg "LETTERS" [71,76,65,49]
 hsz:Tab K mg "HEAD_SIZES" [4,4,2,2,2,2]
 psz:Tab K mg "POINT_SIZES" [4,4]
 lsz:Tab K mg "LINE_SIZES" [2,2]
 msz:Tab K mg "MARK_SIZES" [4,4,2,2]
 nsum:mg "sum" = none
 ntup:mg "tuple" = none
def Ac5 (b:List UInt8):Nat→List Nat→List Nat
 | _,[]=>[]
 | p,s::r=>Gla.num b p s::Ac5 b (p+s) r
def vI (l:List Nat):List Int:=l.map fun(n:Nat)=>(n:Int)
theorem Ay3 (l:List Nat):(vI l).sum=(l.sum:Nat):=by
 induction l with
 | nil=>rfl
 | cons a r ih=>show(a:Int)+(vI r).sum=_;rw[ih,List.sum_cons];lia
theorem Ay4 {l:List Nat}{i:Nat}{y:V}(h:((vI l).map V.int)[i]?=some y):∃n,l[i]?=some n∧y=V.int (n:Nat):=by
 unfold vI at h;rw[List.map_map,List.getElem?_map]at h;cases e:l[i]? with
 | none=>rw[e]at h;cases h
 | some c=>rw[e]at h;exact⟨c,rfl,(Option.some.inj h).symm⟩
theorem Ae7 (b:List UInt8):∀(l r:List Nat) (p:Nat),Ac5 b p (l++r)=Ac5 b p l++Ac5 b (p+l.sum) r
 | [],r,p=>by simp[Ac5]
 | a::l,r,p=>by
  show Gla.num b p a::Ac5 b (p+a) (l++r)=Gla.num b p a::Ac5 b (p+a) l++Ac5 b (p+(a::l).sum) r;rw[Ae7 b l r (p+a),List.sum_cons,Nat.add_assoc];rfl
theorem Ahs (b:List UInt8):∀(l:List Nat) (p:Nat),(Ac5 b p l).length=l.length
 | [],p=>rfl
 | a::l,p=>by show(Ac5 b (p+a) l).length+1=_;rw[Ahs];rfl
theorem Aic {l:List Nat}{i n:Nat}(h:l[i]?=some n):(l.take (i+1)).sum=(l.take i).sum+n:=by
 rw[Aak h];simp
theorem Al2 (l:List Nat)(i:Nat):(l.take i).sum≤l.sum:=by
 conv=>rhs;rw[←List.take_append_drop i l]
 rw[List.sum_append];lia
def Amd (K:W.Frag):Sp:=fun vs H Q _=>∃(a z:Addr) (b:List UInt8) (p:Nat) (ss:List Nat),vs=[.ref a,.int p,.ref z]∧SqL K H a (vB b)∧SqT K H z ((vI ss).map V.int)∧p+ss.sum≤b.length∧(∀n,n∈ss→n≤8)∧ss.length≤8∧
 ∀(H':Hp) (t:Addr),Same H H'→H' t=some (.tup (vN (Ac5 b p ss)))→Q (.ref t) H'
section
variable {P:Program}{w:World}{K:W.Frag}{mg:Str→Option Value}{base:Heap}
theorem scNums:Aaa ["row","place","sizes","numbers","size"] ["row","place","sizes"] (Aa7 Ail):=fsc
theorem Aqd {f fN:Addr}{fd fdN:FuncData}(F:Def K mg "numbers_at" Ail ["row","place","sizes"] f fd)(FN:Def K mg "number_at" As5 ["row","place","size"] fN fdN)(nr:mg "range" = none)(nt:mg "tuple" = none) :
 FnOk P w K mg base CX0 2 f fd ["row","place","sizes"] (Amd K):=by
 have GN:FnOk P w K mg base CX0 1 fN fdN ["row","place","size"] (Avv K):=Av5 FN nr;refine F.fn.ok scNums (fun vs H Q E h=>?_) (fun cdv A outer s H vs Q E hr h=>?_)
 ·obtain⟨a,z,b,p,ss,rfl,_⟩:=h;rfl
 ·obtain⟨a,z,b,p,ss,rfl,hb,hz,hl,h8,n8,k⟩:=h
  refine⟨_,Aa1 (pS 3 scNums.nd (Ab8 Aa3))
   (Aa1 (Aap PassesOwn.never rfl (Ak5 (pv 2)) (pG 4 scNums.nd)
    (Aa1 (Abo (Aej PySem.F.plainAttrs_list PySem.F.slot_list_append PySem.F.type_list_append Ab3 (pv 3) (Aa0 (pCD FN GN hr (Aa0 (pv 0) (Aa0 (pv 1) (Aa0 (pv 4) Aa3)))) Aa3)))
    (Aa4 (Amn (i:=1) scNums.nd rfl (Or.inl rfl) (pv 4) Ar8))))
   (Aa4 (Aa9 (Ag5 Aee (by rfl) nt (by decide +kernel) (Aa0 (pv 3) Aa3))))),?_⟩
  refine⟨Nat.zero_le _,fun q hq=>?_⟩;have vl:((vI ss).map V.int).length=ss.length:=by unfold vI;simp
  refine⟨_,rfl,z,rfl,⟨_,Same.tup (Same.new hq) hz⟩,?_⟩;refine Ago (K:=K) (a:=z) (xs:=(vI ss).map V.int) (fun i σ H'=>∃(v:Option V),σ=[some (.ref a),some (.int (p+(ss.take i).sum:Nat)),some (.ref z),some (.ref q),v]∧Same H H'∧H' q=some (.lst (vN (Ac5 b p (ss.take i)))))
   ⟨none,by simp;rfl,Same.new hq,Aa2⟩ (fun i σ H' _ ⟨_,_,s1,_⟩=>Same.tup s1 hz) ?_ ?_
  ·rintro i y σ H' hi ⟨v,rfl,s1,hq'⟩;obtain⟨n,hn,rfl⟩:=Ay4 hi;have il:=(List.getElem?_eq_some_iff.mp hn).1;have e1:=Aic hn;have e2:=Al2 ss (i+1);refine⟨_,rfl,.inl ⟨rfl,_,SqL.of hq'⟩,_,rfl,_,rfl,_,rfl,a,b,p+(ss.take i).sum,n,rfl,s1.seq hb,by lia,h8 n (List.mem_of_getElem? hn),q,_,_,rfl,rfl,hq',?_,?_⟩
   ·unfold vN;rw[List.length_map,Ahs,List.length_take];exact Nat.lt_of_le_of_lt (show _≤8 by lia) (by decide)
   ·have e3:((p+(ss.take i).sum:Nat):Int)+((n:Nat):Int)=((p+(ss.take (i+1)).sum:Nat):Int):=by lia
    refine⟨_,rfl,_,rfl,_,_,rfl,rfl,some (.int n),?_,Same.grow s1 hq (fun _ _ e=>e),?_⟩
    ·show [some (V.ref a),some (V.int (((p+(ss.take i).sum:Nat):Int)+((n:Nat):Int))),_,_,_]=_;rw[e3]
    ·rw[Aa2,Aak hn,Ae7];unfold vN;rw[List.map_append];rfl
  ·rintro σ H' ⟨v,rfl,s1,hq'⟩;rw[vl,List.take_length]at hq';refine⟨_,rfl,q,_,rfl,.inl ⟨SqL.of hq',fun t ht=>?_⟩⟩;exact k _ t (s1.trans (Same.new ht)) Aa2
end
def thg (b:List UInt8)(st mn:Nat)(ss:List Nat):List (List Nat):=(List.range mn).map fun k=>Ac5 b (st+ss.sum*k) ss
theorem Aca (b:List UInt8)(st mn:Nat)(ss:List Nat):(thg b st mn ss).length=mn:=by unfold thg;simp
theorem Ai9 (b:List UInt8)(st:Nat){mn i:Nat}(ss:List Nat)(h:i<mn):(thg b st mn ss)[i]?=some (Ac5 b (st+ss.sum*i) ss):=by
 unfold thg;rw[List.getElem?_map,List.getElem?_range h];rfl
def Amc (K:W.Frag):Sp:=fun vs H Q _=>∃(a z:Addr) (b:List UInt8) (st mn:Nat) (ss:List Nat),vs=[.ref a,.int st,.int mn,.ref z]∧SqL K H a (vB b)∧SqT K H z ((vI ss).map V.int)∧st+ss.sum*mn≤b.length∧(∀n,n∈ss→n≤8)∧ss.length≤8∧ss.sum<4294967296∧mn<65536∧
 ∀(H':Hp) (q:Addr) (as:List Addr),Same H H'→H' q=some (.lst (as.map V.ref))→TupsAt vN H' as (thg b st mn ss)→Q (.ref q) H'
def Bc2:Scope:={ kind:=.function,names:=[(Str.ofString ".0",.local),(Str.ofString "k",.local),(Str.ofString "numbers_at",.globalImplicit),(Str.ofString "place",.free),(Str.ofString "row",.free),(Str.ofString "sizes",.free),(Str.ofString "step",.free)],isGenerator:=false,isCoroutine:=false }
section
variable {P:Program}{w:World}{K:W.Frag}{mg:Str→Option Value}{base:Heap}
theorem scThings:Aaa ["row","place","many","sizes","step","k"] ["row","place","many","sizes"] (Aa7 Aeh):=fsc
theorem Aug:Avh ["row","place","many","sizes","step","k"] (Aa7 Aeh) Bc2 [("k",5)]=true:=by decide +kernel
theorem Aqb {f fN fM:Addr}{fd fdN fdM:FuncData}(F:Def K mg "things_at" Aeh ["row","place","many","sizes"] f fd)(FM:Def K mg "numbers_at" Ail ["row","place","sizes"] fM fdM)(FN:Def K mg "number_at" As5 ["row","place","size"] fN fdN)(nr:mg "range" = none)(c:Cst K mg) :
 FnOk P w K mg base CX0 3 f fd ["row","place","many","sizes"] (Amc K):=by
 have GM:FnOk P w K mg base CX0 2 fM fdM ["row","place","sizes"] (Amd K):=Aqd FM FN nr c.ntup;refine F.fn.ok scThings (fun vs H Q E h=>?_) (fun cdv A outer s H vs Q E hr h=>?_)
 ·obtain⟨a,z,b,st,mn,ss,rfl,_⟩:=h;rfl
 ·obtain⟨a,z,b,st,mn,ss,rfl,hb,hz,hl,h8,n8,sl,hm,k⟩:=h
  refine⟨_,Aa1 (Auz (i:=4) scThings.nd rfl (Or.inr rfl) (Aaf (Ac1 rfl) (by rfl) c.nsum (by decide +kernel) (Aa0 (pv 3) Aa3)))
   (Aa4 (Aa9 (Awe (te:=Aia (Amd K) [] E0 (Abt (Acc 0) (Abt (tOp (rI0 fun i j=>.int (i+j)) (Acc 1) (tOp (rI CMul fun i j=>.int (i*j)) (Acc 4) (Acc 5))) (Abt (Acc 3) Ama)))) (own:=[("k",5)]) rfl scThings.nd (Ace rfl nr (Aa0 (pv 2) Aa3)) (Acs Aug) (fun _ _ _ _ _=>pG 5 scThings.nd) (fun _ _ _ _ _=>Ag2)
    (fun _ _ _ _ _=>pCD FM GM hr (Aa0 (pv 0) (Aa0 (Ab2 Ae6 (pv 1) (Ab2 Acw (pv 4) (pv 5))) (Aa0 (pv 3) Aa3))))))),?_⟩
  refine⟨_,rfl,z,vI ss,_,rfl,hz,Ay3 ss,?_⟩;refine⟨_,rfl,(mn:Int),rfl,by lia,by lia,?_⟩;have e0:((mn:Int)).toNat=mn:=by lia
  rw[e0];refine fun D1 hD1=>?_;refine Amx (n:=mn) (fun i H'=>∃as:List Addr,Same H H'∧H' D1=some (.lst (as.map V.ref))∧TupsAt vN H' as ((thg b st mn ss).take i)) ⟨[],Same.new hD1,Aa2,TupsAt.nil⟩ ?_ ?_
  ·rintro i H' hi ⟨as,s1,hd1,L⟩;refine⟨rfl,?_⟩;unfold Axq;dsimp only
   first | rw[if_pos rfl] | rw[if_pos trivial]
   have mul:ss.sum*(i+1)≤ss.sum*mn:=Nat.mul_le_mul_left _ hi;rw[Nat.mul_add,Nat.mul_one]at mul;have e1:(st:Int)+((ss.sum:Nat):Int)*((0:Int)+(i:Nat))=((st+ss.sum*i:Nat):Int):=by
    rw[Int.natCast_add,Int.natCast_mul,Int.zero_add]
   have al:as.length=i:=by
    have:=L.len;rw[List.length_take,Aca]at this;lia
   refine⟨_,rfl,_,rfl,_,rfl,_,rfl,_,_,rfl,rfl,.inl (by lia),_,_,rfl,rfl,_,rfl,a,z,b,st+ss.sum*i,ss,(by rw[←e1];rfl),s1.seq hb,Same.tup s1 hz,by lia,h8,n8,fun H2 t s2 ht=>?_⟩;refine⟨_,s2 _ _ hd1,by rw[List.length_map,al];exact Nat.lt_trans (show i<65536 by lia) (by decide),as++[t],Same.grow s1 hD1 s2,?_,?_⟩
   ·rw[Aa2,List.map_append];rfl
   ·rw[Aak (Ai9 b st ss hi)];exact((L.same s2).push ht).lst (s2 _ _ hd1)
  ·rintro H' ⟨as,s1,hd1,L⟩;rw[List.take_of_length_le (by rw[Aca];lia)]at L;exact k H' D1 as s1 hd1 L
def Aj7 (b:List UInt8):List Nat:=[Gla.num b 4 4,Gla.num b 8 4,Gla.num b 12 2,Gla.num b 14 2,Gla.num b 16 2,Gla.num b 18 2]
def Aih (K:W.Frag):Sp:=fun vs H Q _=>∃(a:Addr) (b:List UInt8),vs=[.ref a]∧SqL K H a (vB b)∧20≤b.length∧
 ∀(H':Hp) (t:Addr),Same H H'→H' t=some (.tup (vN (Aj7 b)))→Q (.ref t) H'
theorem Ash:Aaa ["row"] ["row"] (Aa7 Adq):=fsc
theorem Ak7 {f fN fM:Addr}{fd fdN fdM:FuncData}(F:Def K mg "head_of" Adq ["row"] f fd)(FM:Def K mg "numbers_at" Ail ["row","place","sizes"] fM fdM)(FN:Def K mg "number_at" As5 ["row","place","size"] fN fdN)(nr:mg "range" = none)(nl:mg "len" = none)(c:Cst K mg) :
 FnOk P w K mg base CX0 3 f fd ["row"] (Aih K):=by
 have GM:FnOk P w K mg base CX0 2 fM fdM ["row","place","sizes"] (Amd K):=Aqd FM FN nr c.ntup;obtain⟨aL,mL,sL⟩:=c.letters;obtain⟨aH,mH,sH⟩:=c.hsz;refine F.fn.ok Ash (fun vs H Q E h=>?_) (fun cdv A outer s H vs Q E hr h=>?_)
 ·obtain⟨a,b,rfl,_⟩:=h;rfl
 ·obtain⟨a,b,rfl,hb,hl,k⟩:=h;refine⟨_,Aa4 (Aa9 (pCD FM GM hr (Aa0 (pv 0) (Aa0 (Aaf Aab (by rfl) nl PySem.boot_len (Aa0 (Ab0 (v:=V.ref aL) rfl mL rfl) Aa3)) (Aa0 (Ab0 (v:=V.ref aH) rfl mH rfl) Aa3))))),?_⟩;exact⟨_,rfl,aL,_,rfl,.inr (sL _),a,aH,b,4,[4,4,2,2,2,2],rfl,hb,sH _,by simp;lia,by decide,by decide,fun H' t s1 ht=>k H' t s1 ht⟩
def Aus (K:W.Frag):Sp:=fun vs H Q _=>∃(a:Addr) (b:List UInt8),vs=[.ref a]∧SqL K H a (vB b)∧20≤b.length∧∀H',Same H H'→Q (.int (20+8*Gla.num b 12 2+4*Gla.num b 14 2+12*Gla.num b 16 2:Nat)) H'
theorem scTold:Aaa ["row","head"] ["row"] (Aa7 Apt):=fsc
theorem Awj {f fH fN fM:Addr}{fd fdH fdN fdM:FuncData}(F:Def K mg "bytes_told" Apt ["row"] f fd)(FH:Def K mg "head_of" Adq ["row"] fH fdH)(FM:Def K mg "numbers_at" Ail ["row","place","sizes"] fM fdM)(FN:Def K mg "number_at" As5 ["row","place","size"] fN fdN)(nr:mg "range" = none)(nl:mg "len" = none)(c:Cst K mg) :
 FnOk P w K mg base CX0 4 f fd ["row"] (Aus K):=by
 have GH:FnOk P w K mg base CX0 3 fH fdH ["row"] (Aih K):=Ak7 FH FM FN nr nl c;obtain⟨t1,c1⟩:=c.head;obtain⟨aP,mP,sP⟩:=c.psz;obtain⟨aL,mL,sL⟩:=c.lsz;obtain⟨aM,mM,sM⟩:=c.msz;refine F.fn.ok scTold (fun vs H Q E h=>?_) (fun cdv A outer s H vs Q E hr h=>?_)
 ·obtain⟨a,b,rfl,_⟩:=h;rfl
 ·obtain⟨a,b,rfl,hb,hl,k⟩:=h
  refine⟨_,Aa1 (pS 1 scTold.nd (pCD FH GH hr (Aa0 (pv 0) Aa3)))
   (Aa4 (Aa9 (Ab2 Ae6 (Ab2 Ae6 (Ab2 Ae6 (Ab0 (v:=.int 20) rfl c1 ⟨t1,rfl⟩)
    (Ab2 Acw (Aaf (Ac1 rfl) (by rfl) c.nsum (by decide +kernel) (Aa0 (Ab0 (v:=V.ref aP) rfl mP rfl) Aa3)) (pIT (pv 1) Aa5)))
    (Ab2 Acw (Aaf (Ac1 rfl) (by rfl) c.nsum (by decide +kernel) (Aa0 (Ab0 (v:=V.ref aL) rfl mL rfl) Aa3)) (pIT (pv 1) Aa5)))
    (Ab2 Acw (Aaf (Ac1 rfl) (by rfl) c.nsum (by decide +kernel) (Aa0 (Ab0 (v:=V.ref aM) rfl mM rfl) Aa3)) (pIT (pv 1) Aa5))))),?_⟩
  refine⟨_,rfl,a,b,rfl,hb,hl,fun H1 t s1 ht=>?_⟩;have g:=SqT.of (K:=K) ht
  refine⟨aP,_,8,rfl,sP _,rfl,_,rfl,t,_,_,_,rfl,rfl,g,rfl,_,_,rfl,rfl,.inl (by decide),_,_,rfl,rfl,
   aL,_,4,rfl,sL _,rfl,_,rfl,t,_,_,_,rfl,rfl,g,rfl,_,_,rfl,rfl,.inl (by decide),_,_,rfl,rfl,
   aM,_,12,rfl,sM _,rfl,_,rfl,t,_,_,_,rfl,rfl,g,rfl,_,_,rfl,rfl,.inl (by decide),_,_,rfl,rfl,?_⟩
  have e:(20:Int)+8*((Gla.num b 12 2:Nat):Int)+4*((Gla.num b 14 2:Nat):Int)+12*((Gla.num b 16 2:Nat):Int)=((20+8*Gla.num b 12 2+4*Gla.num b 14 2+12*Gla.num b 16 2:Nat):Int):=by lia
  have k:=k H1 s1;rw[←e]at k;exact k
end
def Api (C:Addr):Sp:=fun vs H Q _=>∃(p dx:Addr) (w h:Nat) (pa la ma:Addr),vs=[.ref p,.int w,.int h,.ref pa,.ref la,.ref ma]∧H p=some (.ins C dx [])∧∀H':Hp,H' p=some (.ins C dx (dfs w h pa la ma))→(∀b o,H b=some o→b≠p→H' b=some o)→Q .non H'
theorem Aek (b:List UInt8)(p:Nat):Gla.num b p 4<4294967296:=Aze b p 4
theorem Abn {f:Str}{v:V}{fs:List (Str×V)}{n:Nat}(h:fs.length≤n):(Ado f v fs).length≤n+1:=Nat.le_trans (Adw f v fs) (Nat.succ_le_succ h)
theorem Agp (w h:Nat)(pa la ma:Addr):dfs w h pa la ma=[(Str.ofString "width",V.int w),(Str.ofString "height",V.int h),(Str.ofString "points",V.ref pa),(Str.ofString "lines",V.ref la),(Str.ofString "marks",V.ref ma)]:=by
 unfold dfs;have e1:¬(Str.ofString "width") = "height":=by decide +kernel
 have e2:¬(Str.ofString "width") = "points":=by decide +kernel
 have e3:¬(Str.ofString "width") = "lines":=by decide +kernel
 have e4:¬(Str.ofString "width") = "marks":=by decide +kernel
 have e5:¬(Str.ofString "height") = "points":=by decide +kernel
 have e6:¬(Str.ofString "height") = "lines":=by decide +kernel
 have e7:¬(Str.ofString "height") = "marks":=by decide +kernel
 have e8:¬(Str.ofString "points") = "lines":=by decide +kernel
 have e9:¬(Str.ofString "points") = "marks":=by decide +kernel
 have e10:¬(Str.ofString "lines") = "marks":=by decide +kernel
 simp only[Ado,if_neg e1,if_neg e2,if_neg e3,if_neg e4,if_neg e5,if_neg e6,if_neg e7,if_neg e8,if_neg e9,if_neg e10]
theorem Au8 (w h:Nat)(pa la ma x:Addr):Ado "points" (.ref x) (dfs w h pa la ma)=dfs w h x la ma:=by
 rw[Agp,Agp];have e2:¬(Str.ofString "width") = "points":=by decide +kernel
 have e5:¬(Str.ofString "height") = "points":=by decide +kernel
 simp only[Ado,if_neg e2,if_neg e5,if_true]
theorem Aua (w h:Nat)(pa la ma x:Addr):Ado "lines" (.ref x) (dfs w h pa la ma)=dfs w h pa x ma:=by
 rw[Agp,Agp];have e2:¬(Str.ofString "width") = "lines":=by decide +kernel
 have e5:¬(Str.ofString "height") = "lines":=by decide +kernel
 have e8:¬(Str.ofString "points") = "lines":=by decide +kernel
 simp only[Ado,if_neg e2,if_neg e5,if_neg e8,if_true]
theorem Au9 (w h:Nat)(pa la ma x:Addr):Ado "marks" (.ref x) (dfs w h pa la ma)=dfs w h pa la x:=by
 rw[Agp,Agp];have e2:¬(Str.ofString "width") = "marks":=by decide +kernel
 have e5:¬(Str.ofString "height") = "marks":=by decide +kernel
 have e8:¬(Str.ofString "points") = "marks":=by decide +kernel
 have e9:¬(Str.ofString "lines") = "marks":=by decide +kernel
 simp only[Ado,if_neg e2,if_neg e5,if_neg e8,if_neg e9,if_true]
theorem Alv (w h:Nat)(pa la ma:Addr):(dfs w h pa la ma).length<1000:=by rw[Agp];show 5<1000;decide
section
variable {P:Program}{w:World}{K:W.Frag}{mg:Str→Option Value}{base:Heap}
theorem Aw3:Aaa ["self","width","height","points","lines","marks"] ["self","width","height","points","lines","marks"] (Aa7 Ajx):=fsc
theorem Atc {f C:Addr}{fd:FuncData}(F:Fun K "__init__" "Drawing.__init__" Ajx f fd)(T:Adl K C):FnOk P w K mg base CX0 1 f fd ["self","width","height","points","lines","marks"] (Api C):=by
 refine F.ok Aw3 (fun vs H Q E h=>?_) (fun cdv A outer s H vs Q E hr h=>?_)
 ·obtain⟨p,dx,w,h,pa,la,ma,rfl,_⟩:=h;rfl
 ·obtain⟨p,dx,w,h,pa,la,ma,rfl,hp,k⟩:=h;refine⟨_,Aa1 (Ad1 (pv 0) (pv 1) rfl) (Aa1 (Ad1 (pv 0) (pv 2) rfl) (Aa1 (Ad1 (pv 0) (pv 3) rfl) (Aa1 (Ad1 (pv 0) (pv 4) rfl) (Aa4 (Ad1 (pv 0) (pv 5) rfl))))),?_⟩;refine⟨_,rfl,_,rfl,p,C,dx,_,rfl,hp,T.cl,T.nW,(by show 0<1000;decide),?_⟩;have l0:([]:List (Str×V)).length≤0:=Nat.le_refl _;refine⟨_,rfl,_,rfl,p,C,dx,_,rfl,Aa2,T.cl,T.nH,Nat.lt_of_le_of_lt (Abn l0) (by decide),?_⟩
  refine⟨_,rfl,_,rfl,p,C,dx,_,rfl,Aa2,T.cl,T.nP,Nat.lt_of_le_of_lt (Abn (Abn l0)) (by decide),?_⟩;refine⟨_,rfl,_,rfl,p,C,dx,_,rfl,Aa2,T.cl,T.nL,Nat.lt_of_le_of_lt (Abn (Abn (Abn l0))) (by decide),?_⟩;refine⟨_,rfl,_,rfl,p,C,dx,_,rfl,Aa2,T.cl,T.nM,Nat.lt_of_le_of_lt (Abn (Abn (Abn (Abn l0)))) (by decide),?_⟩;refine k _ Aa2 fun b o e hb=>?_;rw[Aa6 hb,Aa6 hb,Aa6 hb,Aa6 hb,Aa6 hb];exact e
theorem Ayk:Aaa ["self","number"] ["self","number"] (Aa7 Agy):=fsc
def Adm (C:Addr):Sp:=fun vs H Q _=>∃(d:Addr) (n:Nat),vs=[.ref d,.int n]∧Q (.int (Gla.ptPlace n:Nat)) H
theorem Adu {f C:Addr}{fd:FuncData}(F:Fun K "point_place" "Drawing.point_place" Agy f fd)(c:Cst K mg):FnOk P w K mg base CX0 1 f fd ["self","number"] (Adm C):=by
 obtain⟨t1,c1⟩:=c.head;obtain⟨aP,mP,sP⟩:=c.psz;refine F.ok Ayk (fun vs H Q E h=>?_) (fun cdv A outer s H vs Q E hr h=>?_)
 ·obtain⟨d,n,rfl,_⟩:=h;rfl
 ·obtain⟨d,n,rfl,k⟩:=h;refine⟨_,Aa4 (Aa9 (Ab2 Ae6 (Ab0 (v:=.int 20) rfl c1 ⟨t1,rfl⟩) (Ab2 Acw (Aaf (Ac1 rfl) (by rfl) c.nsum (by decide +kernel) (Aa0 (Ab0 (v:=V.ref aP) rfl mP rfl) Aa3)) (pv 1)))),?_⟩;refine⟨aP,_,8,rfl,sP _,rfl,_,rfl,_,_,rfl,rfl,.inl (by decide),_,_,rfl,rfl,?_⟩;have e:(20:Int)+8*(n:Int)=((Gla.ptPlace n:Nat):Int):=by unfold Gla.ptPlace Gla.HEAD;lia
  rw[←e]at k;exact k
def Al5 (C:Addr):Sp:=fun vs H Q _=>∃(d dx:Addr) (n wd ht:Nat) (pa la ma:Addr) (xs:List V),vs=[.ref d,.int n]∧H d=some (.ins C dx (dfs wd ht pa la ma))∧H pa=some (.lst xs)∧Q (.int (20+8*xs.length+4*n:Nat)) H
def Apg (C:Addr):Sp:=fun vs H Q _=>∃(d:Addr) (n:Nat) (S:Plan) (pa la ma:Addr) (as ls ms:List Addr),vs=[.ref d,.int n]∧DrawAt C H d S pa la ma as ls ms∧Q (.int (Gla.linePlace S n:Nat)) H
theorem Ayn:Aaa ["self","number"] ["self","number"] (Aa7 Aim):=fsc
theorem Air {f fP C:Addr}{fd fdP:FuncData}(F:Fun K "line_place" "Drawing.line_place" Aim f fd)(FP:Fun K "point_place" "Drawing.point_place" Agy fP fdP)(bP:Binds K fdP ["self","number"] [])(mP:Ahe K C "point_place" fP)(T:Adl K C)(c:Cst K mg)(nl:mg "len" = none) :
 FnOk P w K mg base CX0 2 f fd ["self","number"] (Al5 C):=by
 have GP:FnOk P w K mg base CX0 1 fP fdP ["self","number"] (Adm C):=Adu FP c;obtain⟨aL,mL,sL⟩:=c.lsz;refine F.ok Ayn (fun vs H Q E h=>?_) (fun cdv A outer s H vs Q E hr h=>?_)
 ·obtain⟨d,dx,n,wd,ht,pa,la,ma,xs,rfl,_⟩:=h;rfl
 ·obtain⟨d,dx,n,wd,ht,pa,la,ma,xs,rfl,hd,hpa,k⟩:=h
  refine⟨_,Aa4 (Aa9 (Ab2 Ae6 (Aax (pv 0) T.cl mP GP hr bP .nil Abm (Aa0 (Aaf Aab (by rfl) nl PySem.boot_len (Aa0 (Aal (pv 0) rfl) Aa3)) Aa3))
   (Ab2 Acw (Aaf (Ac1 rfl) (by rfl) c.nsum (by decide +kernel) (Aa0 (Ab0 (v:=V.ref aL) rfl mL rfl) Aa3)) (pv 1)))),?_⟩
  refine⟨_,rfl,d,dx,_,rfl,hd,Ac0 _ _ _ _ _ (by decide +kernel) (by decide +kernel) (by decide +kernel) (by decide +kernel) (by decide +kernel),_,rfl,d,C,dx,_,_,rfl,hd,T.cl,T.nP,Adx _ _ _ _ _,pa,_,rfl,.inl (SqL.of hpa),?_⟩;refine⟨d,xs.length,rfl,aL,_,4,rfl,sL _,rfl,_,rfl,_,_,rfl,rfl,.inl (by decide),_,_,rfl,rfl,?_⟩;have e:((Gla.ptPlace xs.length:Nat):Int)+4*(n:Int)=((20+8*xs.length+4*n:Nat):Int):=by unfold Gla.ptPlace Gla.HEAD;lia
  rw[←e]at k;exact k
theorem Aqf {f fP C:Addr}{fd fdP:FuncData}(F:Fun K "line_place" "Drawing.line_place" Aim f fd)(FP:Fun K "point_place" "Drawing.point_place" Agy fP fdP)(bP:Binds K fdP ["self","number"] [])(mP:Ahe K C "point_place" fP)(T:Adl K C)(c:Cst K mg)(nl:mg "len" = none) :
 FnOk P w K mg base CX0 2 f fd ["self","number"] (Apg C) :=
 (Air F FP bP mP T c nl).imp fun vs H Q E h=>by
  obtain⟨d,n,S,pa,la,ma,as,ls,ms,rfl,D,k⟩:=h;obtain⟨dx,hd⟩:=D.ins;refine⟨d,dx,n,_,_,pa,la,ma,_,rfl,hd,D.pts,?_⟩;have e:20+8*(as.map V.ref).length+4*n=Gla.linePlace S n:=by rw[List.length_map,D.ptsX.len];rfl
  rw[e];exact k
def Ape (C:Addr):Sp:=fun vs H Q _=>∃(d dx:Addr) (n wd ht:Nat) (pa la ma:Addr) (xs ys:List V),vs=[.ref d,.int n]∧H d=some (.ins C dx (dfs wd ht pa la ma))∧H pa=some (.lst xs)∧H la=some (.lst ys)∧Q (.int (20+8*xs.length+4*ys.length+12*n:Nat)) H
def Ame (C:Addr):Sp:=fun vs H Q _=>∃(d:Addr) (n:Nat) (S:Plan) (pa la ma:Addr) (as ls ms:List Addr),vs=[.ref d,.int n]∧DrawAt C H d S pa la ma as ls ms∧Q (.int (Gla.markPlace S n:Nat)) H
theorem Ayl:Aaa ["self","number"] ["self","number"] (Aa7 Al9):=fsc
theorem Ams {f fL fP C:Addr}{fd fdL fdP:FuncData}(F:Fun K "mark_place" "Drawing.mark_place" Al9 f fd)(FL:Fun K "line_place" "Drawing.line_place" Aim fL fdL)(bL:Binds K fdL ["self","number"] [])(mL:Ahe K C "line_place" fL)
 (FP:Fun K "point_place" "Drawing.point_place" Agy fP fdP) (bP:Binds K fdP ["self","number"] []) (mP:Ahe K C "point_place" fP) (T:Adl K C) (c:Cst K mg) (nl:mg "len" = none) :
 FnOk P w K mg base CX0 3 f fd ["self","number"] (Ape C):=by
 have GL:FnOk P w K mg base CX0 2 fL fdL ["self","number"] (Al5 C):=Air FL FP bP mP T c nl;obtain⟨aM,mM,sM⟩:=c.msz;refine F.ok Ayl (fun vs H Q E h=>?_) (fun cdv A outer s H vs Q E hr h=>?_)
 ·obtain⟨d,dx,n,wd,ht,pa,la,ma,xs,ys,rfl,_⟩:=h;rfl
 ·obtain⟨d,dx,n,wd,ht,pa,la,ma,xs,ys,rfl,hd,hpa,hla,k⟩:=h
  refine⟨_,Aa4 (Aa9 (Ab2 Ae6 (Aax (pv 0) T.cl mL GL hr bL .nil Abm (Aa0 (Aaf Aab (by rfl) nl PySem.boot_len (Aa0 (Aal (pv 0) rfl) Aa3)) Aa3))
   (Ab2 Acw (Aaf (Ac1 rfl) (by rfl) c.nsum (by decide +kernel) (Aa0 (Ab0 (v:=V.ref aM) rfl mM rfl) Aa3)) (pv 1)))),?_⟩
  refine⟨_,rfl,d,dx,_,rfl,hd,Ac0 _ _ _ _ _ (by decide +kernel) (by decide +kernel) (by decide +kernel) (by decide +kernel) (by decide +kernel),_,rfl,d,C,dx,_,_,rfl,hd,T.cl,T.nL,Aja _ _ _ _ _,la,_,rfl,.inl (SqL.of hla),?_⟩;refine⟨d,dx,ys.length,wd,ht,pa,la,ma,xs,rfl,hd,hpa,aM,_,12,rfl,sM _,rfl,_,rfl,_,_,rfl,rfl,.inl (by decide),_,_,rfl,rfl,?_⟩;have e:((20+8*xs.length+4*ys.length:Nat):Int)+12*(n:Int)=((20+8*xs.length+4*ys.length+12*n:Nat):Int):=by lia
  rw[←e]at k;exact k
theorem Aqe {f fL fP C:Addr}{fd fdL fdP:FuncData}(F:Fun K "mark_place" "Drawing.mark_place" Al9 f fd)(FL:Fun K "line_place" "Drawing.line_place" Aim fL fdL)(bL:Binds K fdL ["self","number"] [])(mL:Ahe K C "line_place" fL)
 (FP:Fun K "point_place" "Drawing.point_place" Agy fP fdP) (bP:Binds K fdP ["self","number"] []) (mP:Ahe K C "point_place" fP) (T:Adl K C) (c:Cst K mg) (nl:mg "len" = none) :
 FnOk P w K mg base CX0 3 f fd ["self","number"] (Ame C) :=
 (Ams F FL bL mL FP bP mP T c nl).imp fun vs H Q E h=>by
  obtain⟨d,n,S,pa,la,ma,as,ls,ms,rfl,D,k⟩:=h;obtain⟨dx,hd⟩:=D.ins;refine⟨d,dx,n,_,_,pa,la,ma,_,_,rfl,hd,D.pts,D.lns,?_⟩;have e:20+8*(as.map V.ref).length+4*(ls.map V.ref).length+12*n=Gla.markPlace S n:=by rw[List.length_map,List.length_map,D.ptsX.len,D.lnsA.len];rfl
  rw[e];exact k
end
def Apb (K:W.Frag)(C:Addr):Sp:=fun vs H Q _=>∃(a:Addr) (b:List UInt8),vs=[.ref a]∧SqL K H a (vB b)∧b.length=20+8*Gla.num b 12 2+4*Gla.num b 14 2+12*Gla.num b 16 2∧
 Gla.num b 12 2≤4096∧Gla.num b 14 2≤8192∧Gla.num b 16 2≤2048∧
 ∀(H':Hp) (d pa la ma:Addr) (as ls ms:List Addr),Same H H'→DrawAt C H' d (Gla.parts b) pa la ma as ls ms→Q (.ref d) H'
theorem TupsAt.conv {α β:Type}{tv:α→List V}{tu:β→List V}{H:Hp}{as:List Addr}{xs:List α}{ys:List β}(h:TupsAt tv H as xs)(len:xs.length=ys.length)(e:∀(i:Nat) (x:α),xs[i]?=some x→∃y,ys[i]?=some y∧tv x=tu y):TupsAt tu H as ys :=
 ⟨h.len.trans len,fun i c hc=>let ⟨x,ex,hx⟩:=h.at_ i c hc;let ⟨y,ey,ee⟩:=e i x ex;⟨y,ey,by rw[←ee];exact hx⟩⟩
theorem TupsAt.ins {α:Type}{tv:α→List V}{H:Hp}{as:List Addr}{xs:List α}{q C dx:Addr}{fs:List (Str×V)}{o:HO}(h:TupsAt tv H as xs)(hq:H q=some (.ins C dx fs)):TupsAt tv (upd H q o) as xs :=
 ⟨h.len,fun j c hc=>let ⟨x,e,hx⟩:=h.at_ j c hc;⟨x,e,by rw[Aa6 (Aby hx hq (by intro z;cases z))];exact hx⟩⟩
theorem Same.chg {H0 H H':Hp}{q:Addr}{o:HO}(s1:Same H0 H)(hq:H0 q=none)(s2:Same H H'):Same H0 (upd H' q o):=fun b u e=>by
 rw[Aa6 (Aa8 e hq)];exact s2 _ _ (s1 _ _ e)
section
variable {P:Program}{w:World}{K:W.Frag}{mg:Str→Option Value}{base:Heap}
theorem scRead:Aaa ["row","head","drawing"] ["row"] (Aa7 Ask):=fsc
theorem Awl {f fN fM fT fH fI fP fL fK C:Addr}{fd fdN fdM fdT fdH fdI fdP fdL fdK:FuncData}(F:Def K mg "read_drawing" Ask ["row"] f fd)(FT:Def K mg "things_at" Aeh ["row","place","many","sizes"] fT fdT)(FH:Def K mg "head_of" Adq ["row"] fH fdH)
 (FM:Def K mg "numbers_at" Ail ["row","place","sizes"] fM fdM) (FN:Def K mg "number_at" As5 ["row","place","size"] fN fdN)
 (FI:Fun K "__init__" "Drawing.__init__" Ajx fI fdI) (bI:Binds K fdI ["self","width","height","points","lines","marks"] []) (M:Mk K C fI) (mC:mg "Drawing" = some (.ref C)) (T:Adl K C)
 (FK:Fun K "mark_place" "Drawing.mark_place" Al9 fK fdK) (bK:Binds K fdK ["self","number"] []) (mK:Ahe K C "mark_place" fK) (FL:Fun K "line_place" "Drawing.line_place" Aim fL fdL) (bL:Binds K fdL ["self","number"] []) (mL:Ahe K C "line_place" fL)
 (FP:Fun K "point_place" "Drawing.point_place" Agy fP fdP) (bP:Binds K fdP ["self","number"] []) (mP:Ahe K C "point_place" fP) (nr:mg "range" = none) (nl:mg "len" = none) (c:Cst K mg) :
 FnOk P w K mg base CX0 4 f fd ["row"] (Apb K C):=by
 have GT:FnOk P w K mg base CX0 3 fT fdT ["row","place","many","sizes"] (Amc K):=Aqb FT FM FN nr c;have GH:FnOk P w K mg base CX0 3 fH fdH ["row"] (Aih K):=Ak7 FH FM FN nr nl c;have GI:FnOk P w K mg base CX0 1 fI fdI ["self","width","height","points","lines","marks"] (Api C):=Atc FI T;have GP:FnOk P w K mg base CX0 1 fP fdP ["self","number"] (Adm C):=Adu FP c;have GL:FnOk P w K mg base CX0 2 fL fdL ["self","number"] (Al5 C):=Air FL FP bP mP T c nl
 have GK:FnOk P w K mg base CX0 3 fK fdK ["self","number"] (Ape C):=Ams FK FL bL mL FP bP mP T c nl;obtain⟨aP,gP,sP⟩:=c.psz;obtain⟨aL,gL,sL⟩:=c.lsz;obtain⟨aM,gM,sM⟩:=c.msz;refine F.fn.ok scRead (fun vs H Q E h=>?_) (fun cdv A outer s H vs Q E hr h=>?_)
 ·obtain⟨a,b,rfl,_⟩:=h;rfl
 ·obtain⟨a,b,rfl,hb,hl,hP,hL,hM,k⟩:=h;have hr1:Room 1 _:=hr.mono (by decide);have hr2:Room 2 _:=hr.mono (by decide)
  refine⟨_,Aa1 (pS 1 scRead.nd (pCD FH GH hr (Aa0 (pv 0) Aa3)))
   (Aa1 (pS 2 scRead.nd (Aio M GI (hr.mono (by decide)) rfl mC bI .nil Abm (Aa0 (pIT (pv 1) Aa5) (Aa0 (pIT (pv 1) Aa5) (Aa0 (Ab8 Aa3) (Aa0 (Ab8 Aa3) (Aa0 (Ab8 Aa3) Aa3)))))))
   (Aa1 (Ad1 (pv 2) (pCD FT GT hr (Aa0 (pv 0) (Aa0 (Aax (pv 2) T.cl mP GP hr1 bP .nil Abm (Aa0 Aa5 Aa3)) (Aa0 (pIT (pv 1) Aa5) (Aa0 (Ab0 (v:=V.ref aP) rfl gP rfl) Aa3))))) rfl)
   (Aa1 (Ad1 (pv 2) (pCD FT GT hr (Aa0 (pv 0) (Aa0 (Aax (pv 2) T.cl mL GL hr2 bL .nil Abm (Aa0 Aa5 Aa3)) (Aa0 (pIT (pv 1) Aa5) (Aa0 (Ab0 (v:=V.ref aL) rfl gL rfl) Aa3))))) rfl)
   (Aa1 (Ad1 (pv 2) (pCD FT GT hr (Aa0 (pv 0) (Aa0 (Aax (pv 2) T.cl mK GK hr bK .nil Abm (Aa0 Aa5 Aa3)) (Aa0 (pIT (pv 1) Aa5) (Aa0 (Ab0 (v:=V.ref aM) rfl gM rfl) Aa3))))) rfl)
   (Aa4 (Aa9 (pv 2))))))),?_⟩
  refine⟨_,rfl,a,b,rfl,hb,by lia,fun H1 t s1 ht=>?_⟩;have g:=SqT.of (K:=K) ht;refine⟨_,rfl,t,_,_,_,rfl,rfl,g,rfl,_,rfl,t,_,_,_,rfl,rfl,g,rfl,Nat.zero_le _,fun p0 hp0=>⟨Nat.zero_le _,fun l0 hl0=>⟨Nat.zero_le _,fun m0 hm0=>?_⟩⟩⟩;have s2:Same H1 (upd H1 p0 (.lst [])):=Same.new hp0;have s3:=s2.trans (Same.new (o:=.lst []) hl0);have s4:=s3.trans (Same.new (o:=.lst []) hm0);have hp4:upd (upd (upd H1 p0 (.lst [])) l0 (.lst [])) m0 (.lst []) p0=some (.lst []):=(Same.new (o:=.lst []) hm0) _ _ ((Same.new (o:=.lst []) hl0) _ _ Aa2)
  generalize upd (upd (upd H1 p0 (.lst [])) l0 (.lst [])) m0 (.lst [])=H4 at *;intro x dx hx hdx ne;refine⟨x,dx,Gla.num b 4 4,Gla.num b 8 4,p0,l0,m0,rfl,Aa2,fun H5 hd keep=>⟨rfl,?_⟩⟩;have s45:Same H4 H5:=Same.made hx hdx keep;have s05:Same H H5:=(s1.trans s4).trans s45;have x0:H x=none:=(s1.trans s4).free hx;have t5:=s45 _ _ (s4 _ _ ht);generalize eP:Gla.num b 12 2=nP at *;generalize eL:Gla.num b 14 2=nL at *
  generalize eM:Gla.num b 16 2=nM at *;have g5:=SqT.of (K:=K) t5
  refine⟨_,rfl,_,rfl,x,dx,_,rfl,hd,Ac0 _ _ _ _ _ (by decide +kernel) (by decide +kernel) (by decide +kernel) (by decide +kernel) (by decide +kernel),x,0,rfl,_,rfl,t,_,_,_,rfl,rfl,g5,rfl,
   a,aP,b,20,nP,[4,4],(by rw[←eP];rfl),s05.seq hb,sP _,(by show 20+8*nP≤_;lia),by decide,by decide,by decide,by lia,fun H6 pa as s6 hpa Lp=>?_⟩
  have hd6:=s6 _ _ hd;refine⟨_,rfl,x,C,dx,_,rfl,hd6,T.cl,T.nP,Alv _ _ _ _ _,?_⟩;rw[Au8];have xpa:pa≠x:=Aby hpa hd6 (by intro z;cases z);have hpa7:upd H6 x (.ins C dx (dfs (Gla.num b 4 4) (Gla.num b 8 4) pa l0 m0)) pa=some (.lst (as.map V.ref)):=by rw[Aa6 xpa];exact hpa
  have s07:Same H (upd H6 x (.ins C dx (dfs (Gla.num b 4 4) (Gla.num b 8 4) pa l0 m0))):=Same.chg s05 x0 s6;have ht7:upd H6 x (.ins C dx (dfs (Gla.num b 4 4) (Gla.num b 8 4) pa l0 m0)) t=some (.tup (vN (Aj7 b))):=by
   rw[Aa6 (Aby (s6 _ _ t5) hd6 (by intro z;cases z))];exact s6 _ _ t5
  have Lp7:TupsAt vN (upd H6 x (.ins C dx (dfs (Gla.num b 4 4) (Gla.num b 8 4) pa l0 m0))) as (thg b 20 nP [4,4]):=Lp.ins hd6;have hd7:upd H6 x (.ins C dx (dfs (Gla.num b 4 4) (Gla.num b 8 4) pa l0 m0)) x=some (.ins C dx (dfs (Gla.num b 4 4) (Gla.num b 8 4) pa l0 m0)):=Aa2;generalize upd H6 x (.ins C dx (dfs (Gla.num b 4 4) (Gla.num b 8 4) pa l0 m0))=H7 at *;have al:(as.map V.ref).length=nP:=by rw[List.length_map,Lp.len,Aca]
  have g7:=SqT.of (K:=K) ht7
  refine⟨_,rfl,_,rfl,x,dx,_,rfl,hd7,Ac0 _ _ _ _ _ (by decide +kernel) (by decide +kernel) (by decide +kernel) (by decide +kernel) (by decide +kernel),x,dx,0,_,_,pa,l0,m0,_,rfl,hd7,hpa7,_,rfl,t,_,_,_,rfl,rfl,g7,rfl,
   a,aL,b,20+8*nP,nL,[2,2],(by rw[←eL,al];rfl),s07.seq hb,sL _,(by show 20+8*nP+4*nL≤_;lia),by decide,by decide,by decide,by lia,fun H8 la ls s8 hla Ll=>?_⟩
  have hd8:=s8 _ _ hd7;refine⟨_,rfl,x,C,dx,_,rfl,hd8,T.cl,T.nL,Alv _ _ _ _ _,?_⟩;rw[Aua];have hla9:upd H8 x (.ins C dx (dfs (Gla.num b 4 4) (Gla.num b 8 4) pa la m0)) la=some (.lst (ls.map V.ref)):=by rw[Aa6 (Aby hla hd8 (by intro z;cases z))];exact hla
  have hpa9:upd H8 x (.ins C dx (dfs (Gla.num b 4 4) (Gla.num b 8 4) pa la m0)) pa=some (.lst (as.map V.ref)):=by rw[Aa6 xpa];exact s8 _ _ hpa7
  have s09:Same H (upd H8 x (.ins C dx (dfs (Gla.num b 4 4) (Gla.num b 8 4) pa la m0))):=Same.chg s07 x0 s8;have ht9:upd H8 x (.ins C dx (dfs (Gla.num b 4 4) (Gla.num b 8 4) pa la m0)) t=some (.tup (vN (Aj7 b))):=by
   rw[Aa6 (Aby (s8 _ _ ht7) hd8 (by intro z;cases z))];exact s8 _ _ ht7
  have Lp9:TupsAt vN (upd H8 x (.ins C dx (dfs (Gla.num b 4 4) (Gla.num b 8 4) pa la m0))) as (thg b 20 nP [4,4]):=(Lp7.same s8).ins hd8;have Ll9:TupsAt vN (upd H8 x (.ins C dx (dfs (Gla.num b 4 4) (Gla.num b 8 4) pa la m0))) ls (thg b (20+8*nP) nL [2,2]):=Ll.ins hd8;have hd9:upd H8 x (.ins C dx (dfs (Gla.num b 4 4) (Gla.num b 8 4) pa la m0)) x=some (.ins C dx (dfs (Gla.num b 4 4) (Gla.num b 8 4) pa la m0)):=Aa2
  generalize upd H8 x (.ins C dx (dfs (Gla.num b 4 4) (Gla.num b 8 4) pa la m0))=H9 at *;have ll:(ls.map V.ref).length=nL:=by rw[List.length_map,Ll.len,Aca]
  have g9:=SqT.of (K:=K) ht9
  refine⟨_,rfl,_,rfl,x,dx,_,rfl,hd9,Ac0 _ _ _ _ _ (by decide +kernel) (by decide +kernel) (by decide +kernel) (by decide +kernel) (by decide +kernel),x,dx,0,_,_,pa,la,m0,_,_,rfl,hd9,hpa9,hla9,_,rfl,t,_,_,_,rfl,rfl,g9,rfl,
   a,aM,b,20+8*nP+4*nL,nM,[4,4,2,2],(by rw[←eM,al,ll];rfl),s09.seq hb,sM _,(by show 20+8*nP+4*nL+12*nM≤_;lia),by decide,by decide,by decide,by lia,fun H10 ma ms s10 hma Lm=>?_⟩
  have hd10:=s10 _ _ hd9;refine⟨_,rfl,x,C,dx,_,rfl,hd10,T.cl,T.nM,Alv _ _ _ _ _,?_⟩;rw[Au9];refine⟨_,rfl,?_⟩;have xma:ma≠x:=Aby hma hd10 (by intro z;cases z);have xla:la≠x:=Aby hla9 hd9 (by intro z;cases z);refine k _ x pa la ma as ls ms (Same.chg s09 x0 s10) ⟨⟨dx,Aa2⟩,?_,?_,?_,?_,?_,?_,?_,?_,Aek b 4,Aek b 8,?_,?_,?_⟩
  ·rw[Aa6 xpa];exact s10 _ _ hpa9
  ·rw[Aa6 xla];exact s10 _ _ hla9
  ·rw[Aa6 xma];exact hma
  ·refine((Lp9.same s10).ins hd10).conv (by rw[Aca];unfold Gla.parts;simp[eP]) fun i x hx=>?_
   have il:i<nP:=by have:=(List.getElem?_eq_some_iff.mp hx).1;rwa [Aca]at this
   rw[Ai9 _ _ _ il]at hx;cases hx;refine⟨_,by unfold Gla.parts;simp only[eP];rw[List.getElem?_map,List.getElem?_range il];rfl,rfl⟩
  ·have:=((Ll9.same s10).ins (o:=.ins C dx (dfs (Gla.num b 4 4) (Gla.num b 8 4) pa la ma)) hd10).conv (tu:=lnV) (ys:=(Gla.parts b).lines) (by rw[Aca];unfold Gla.parts;simp[eL]) fun i x hx=>by
    have il:i<nL:=by have:=(List.getElem?_eq_some_iff.mp hx).1;rwa [Aca]at this
    rw[Ai9 _ _ _ il]at hx;cases hx;exact⟨_,by unfold Gla.parts;simp only[eP,eL];rw[List.getElem?_map,List.getElem?_range il];rfl,rfl⟩
   exact⟨this.len,this.at_⟩
  ·refine(Lm.ins hd10).conv (by rw[Aca];unfold Gla.parts;simp[eM]) fun i x hx=>?_
   have il:i<nM:=by have:=(List.getElem?_eq_some_iff.mp hx).1;rwa [Aca]at this
   rw[Ai9 _ _ _ il]at hx;cases hx;refine⟨_,by unfold Gla.parts;simp only[eP,eL,eM];rw[List.getElem?_map,List.getElem?_range il];rfl,rfl⟩
  ·intro p hp;unfold Gla.parts at hp;simp only[List.mem_map]at hp;obtain⟨i,_,rfl⟩:=hp;exact⟨Aek _ _,Aek _ _⟩
  ·intro m hm;unfold Gla.parts at hm;simp only[List.mem_map]at hm;obtain⟨i,_,rfl⟩:=hm;exact⟨Aek _ _,Aek _ _⟩
  ·unfold Gla.parts;simp[eP];exact hP
  ·unfold Gla.parts;simp[eL];exact hL
  ·unfold Gla.parts;simp[eM];exact hM
end
theorem Abk {K:W.Frag}{a:Addr}{xs:List V}{g:TG}{tb:TS}{D:Aun}{σ:L2.St}{H:Hp}(Pv:Nat→L2.St→Hp→Prop)(h0:Pv 0 σ H)(hl:∀i σ H,i≤xs.length→Pv i σ H→SqL K H a xs)
 (hs:∀i x σ H T,xs[i]?=some x→Pv i σ H→H T=none→g (.ref T) σ (upd H T (.tup [.int (i:Nat),x])) fun σ2 H2=>tb { D with nx:=Pv (i+1),ct:=Pv (i+1),bk:=D.nx } σ2 H2) (hd:∀σ H,Pv xs.length σ H→D.nx σ H) :
 ∃W:Nat→Nat→L2.St→Hp→Prop,(∃m,W 0 m σ H)∧∀i m σ H,W i m σ H→
  ((Ite K a).stop i H∧D.nx σ H)∨((Ite K a).go i H∧∃N:L2.St→Hp→Prop,(∀σ' H',N σ' H'→∃m',m'<m∧W (i+1) m' σ' H')∧∀x H',(Ite K a).yld i H x H'→g x σ H' fun σ2 H2=>tb { D with nx:=N,ct:=N,bk:=D.nx } σ2 H2):=by
 refine⟨fun i m σ H=>m=xs.length-i∧i≤xs.length∧Pv i σ H,⟨xs.length,by simp,Nat.zero_le _,h0⟩,?_⟩;rintro i m σ H ⟨rfl,hi,p⟩;have q:=hl i σ H hi p
 by_cases hlt:i<xs.length
 ·refine .inr ⟨⟨xs,xs[i],q,by simp[hlt]⟩,Pv (i+1),fun σ' H' p'=>⟨xs.length-(i+1),by lia,rfl,hlt,p'⟩,fun x H' y=>?_⟩;obtain⟨T,x',rfl,hT,rfl,y⟩:=y;exact hs i x' σ _ T (y xs q) p hT
 ·have e:i=xs.length:=by lia
  subst e;exact .inl ⟨⟨xs,q,Nat.le_refl _⟩,hd σ H p⟩
theorem Ac8 {α:Type}{p:Nat→α→Bool}{l:List α}{i:Nat}{x:α}(h:l[i]?=some x)(hp:p i x=true)(hb:∀j y,j<i→l[j]?=some y→p j y=false):Gla.firstAt p l=some i:=by
 unfold Gla.firstAt;have hi:=(List.getElem?_eq_some_iff.mp h).1;have:l.zipIdx.find? (fun(x:α×Nat)=>p x.2 x.1)=some (x,i):=by
  rw[List.find?_eq_some_iff_getElem];refine⟨hp,i,by simpa using hi,?_,?_⟩
  ·rw[List.getElem_zipIdx];simp;exact(List.getElem?_eq_some_iff.mp h).2
  ·intro j hj;rw[List.getElem_zipIdx];simp only[Nat.zero_add,Bool.not_eq_true',Bool.not_eq_eq_eq_not,Bool.not_true];exact hb j _ hj (List.getElem?_eq_getElem (by lia))
 rw[this];rfl
theorem Adi {α:Type}{p:Nat→α→Bool}{l:List α}(hb:∀j y,l[j]?=some y→p j y=false):Gla.firstAt p l=none:=by
 unfold Gla.firstAt;rw[Option.map_eq_none_iff,List.find?_eq_none];rintro⟨y,j⟩ hm;rw[List.mem_zipIdx_iff_getElem?]at hm;simp only[hb j y hm];simp
def At5:Option Nat→V
 | some n=>.int (n:Nat)
 | none=>.non
abbrev Ba5:Stmt:=top Ah4
abbrev Ba7:Stmt:=top Aix
def Acx (S:Plan)(i:Nat)(x:Pt):Bool:=!(decide (x.x≤S.w)&&decide (x.y≤S.h))||(decide (0<i)&&(match S.pts[i-1]? with
 | some y=>!y.below x
 | none=>false))
theorem Anb (S:Plan):Gla.firstBad (fun(p:Pt)=>decide (p.x≤S.w)&&decide (p.y≤S.h)) Pt.below S.pts=Gla.firstAt (Acx S) S.pts:=by
 unfold Gla.firstBad
 congr 1
 funext i x
 unfold Acx;cases S.pts[i-1]?<;>rfl
def Adk (S:Plan)(i:Nat)(x:Nat×Nat):Bool:=!(decide (x.1<x.2)&&decide (x.2<S.pts.length))||(decide (0<i)&&(match S.lines[i-1]? with
 | some y=>!Gla.lineBelow y x
 | none=>false))
theorem Ane (S:Plan):Gla.firstBad (fun(l:Nat×Nat)=>decide (l.1<l.2)&&decide (l.2<S.pts.length)) Gla.lineBelow S.lines=Gla.firstAt (Adk S) S.lines:=by
 unfold Gla.firstBad
 congr 1
 funext i x
 unfold Adk;cases S.lines[i-1]?<;>rfl
structure TMeth (K:W.Frag)(mg:Str→Option Value)(C:Addr)(fP fL fM:Addr)(fdP fdL fdM:FuncData):Prop where
 FP:Fun K "point_place" "Drawing.point_place" Agy fP fdP
 bP:Binds K fdP ["self","number"] []
 mP:Ahe K C "point_place" fP
 FL:Fun K "line_place" "Drawing.line_place" Aim fL fdL
 bL:Binds K fdL ["self","number"] []
 mL:Ahe K C "line_place" fL
 FM:Fun K "mark_place" "Drawing.mark_place" Al9 fM fdM
 bM:Binds K fdM ["self","number"] []
 mM:Ahe K C "mark_place" fM
 T:Adl K C
 c:Cst K mg
 nl:mg "len" = none
def Ae2 (C:Addr)(pre:Plan→Prop)(r:Plan→Option Nat):Sp:=fun vs H Q _=>∃(d:Addr) (S:Plan) (pa la ma:Addr) (as ls ms:List Addr),vs=[.ref d]∧DrawAt C H d S pa la ma as ls ms∧pre S∧∀H',Same H H'→Q (At5 (r S)) H'
section
variable {P:Program}{w:World}{K:W.Frag}{mg:Str→Option Value}{base:Heap}
theorem scWPt:Aaa ["drawing","number","point"] ["drawing"] (Aa7 Ba5):=fsc
theorem Az6 {f fB C fP fL fM:Addr}{fd fdB fdP fdL fdM:FuncData}(F:Def K mg "wrong_point" Ba5 ["drawing"] f fd)(FB:DefB K mg fB fdB)(M:TMeth K mg C fP fL fM fdP fdL fdM)(ne:mg "enumerate" = none) :
 FnOk P w K mg base CX0 3 f fd ["drawing"] (Ae2 C (fun _=>True) fun S=>(Gla.firstAt (Acx S) S.pts).map Gla.ptPlace):=by
 have GB:FnOk P w K mg base CX0 2 fB fdB ["q","p"] Ae3:=Ahr FB;have GP:FnOk P w K mg base CX0 1 fP fdP ["self","number"] (Adm C):=Adu M.FP M.c;have T:=M.T;refine F.fn.ok scWPt (fun vs H Q E h=>?_) (fun cdv A outer s H vs Q E hr h=>?_)
 ·obtain⟨d,S,pa,la,ma,as,ls,ms,rfl,_⟩:=h;rfl
 ·obtain⟨d,S,pa,la,ma,as,ls,ms,rfl,D,_,k⟩:=h;have k:∀H',Same H H'→Q (At5 ((Gla.firstAt (Acx S) S.pts).map Gla.ptPlace)) H':=k;have hr1:Room 1 _:=hr.mono (by decide)
  refine⟨_,Aa1 (Aap PassesOwn.never rfl (Abw rfl ne (Aa0 (Aal (pv 0) rfl) Aa3)) (Abu rfl (Aag (pG 1 scWPt.nd) (Aag (pG 2 scWPt.nd) Abc)))
   (Aa1 (Aat (PW.pt (Anu (Aaj Adt (pIT (pv 2) Aa5) (Aal (pv 0) rfl) (Aan _)) (Ahp (Aaj Adt (pIT (pv 2) Aa5) (Aal (pv 0) rfl) (Aan _)))))
    (Aa4 (Aa9 (Aax (pv 0) T.cl M.mP GP hr1 M.bP .nil Abm (Aa0 (pv 1) Aa3)))) Aae)
   (Aa4 (Aat (PW.pt (Ag0 (Aaj Adt (pv 1) Aa5 (Aan _)) (Adr (Aq2 (Ad0 (Alb GB hr rfl FB.mgf FB.fn.kp FB.b .nil Abm (Aa0 (pv 2) (Aa0 (pIL (Aal (pv 0) rfl) (Ab2 Ac4 (pv 1) Aa5)) Aa3))))))))
    (Aa4 (Aa9 (Aax (pv 0) T.cl M.mP GP hr1 M.bP .nil Abm (Aa0 (pv 1) Aa3)))) Aae))))
   (Aa4 (Aa9 Acv)),?_⟩
  obtain⟨dx,hd⟩:=D.ins
  refine⟨_,rfl,d,C,dx,_,_,rfl,hd,T.cl,T.nP,Adx _ _ _ _ _,pa,_,rfl,SqL.of D.pts,Abk (K:=K) (a:=pa) (xs:=as.map V.ref) (fun i σ H'=>(∃v1 v2:Option V,σ=[some (.ref d),v1,v2])∧Same H H'∧∀j y,j<i→S.pts[j]?=some y→Acx S j y=false)
   ⟨⟨_,_,rfl⟩,Same.refl H,by intro j y hj;lia⟩ (fun i σ H' _ ⟨_,s1,_⟩=>SqL.of (s1 _ _ D.pts)) ?_ ?_⟩
  ·rintro i x σ H' t hi ⟨⟨v1,v2,rfl⟩,s1,inv⟩ ht;obtain⟨c,hc,rfl⟩:=Aad hi;obtain⟨p,hp,pc⟩:=D.ptsA.at_ i c hc;have s2:=s1.trans (Same.new (o:=.tup [.int (i:Nat),.ref c]) ht);have D2:=D.same s2;obtain⟨_,g⟩:=(pc.same s2).sq (K:=K);obtain⟨dx2,hd2⟩:=D2.ins;have noP:(dfs S.w S.h pa la ma).lookup ("point_place" : Str)=none:=Ac0 _ _ _ _ _ (by decide +kernel) (by decide +kernel) (by decide +kernel) (by decide +kernel) (by decide +kernel)
   have ret:Acx S i p=true→∀H'',Same H H''→Q (.int (Gla.ptPlace i:Nat)) H'':=fun e H'' s''=>by
    have:=k H'' s'';rw[Ac8 hp e inv]at this;exact this
   refine⟨t,_,rfl,SqT.of Aa2,rfl,_,_,rfl,_,_,rfl,rfl,?_⟩;have next:Acx S i p=false→∀H'',Same H H''→(∃v1 v2:Option V,[some (V.ref d),some (.int (i:Nat)),some (.ref c)]=[some (.ref d),v1,v2])∧Same H H''∧∀j y,j<i+1→S.pts[j]?=some y→Acx S j y=false:=fun e H'' s'' =>
    ⟨⟨_,_,rfl⟩,s'',fun j y hj hy=>by
     by_cases ej:j=i
     ·subst ej;rw[hp]at hy;cases hy;exact e
     ·exact inv j y (by lia) hy⟩
   have second:¬(S.w<p.x∨S.h<p.y)→Ay8 (Bbj (Ap3 (tOp (rI0 fun i j=>.bl (decide (j<i))) (Acc 1) (tC (.int 0)))) (Bbi (tB (Aia Ae3 [] E0 (Abt (Acc 2) (Abt (tOp (Axr K) (Ba4 K (Acc 0) "points") (tOp (rI0 fun i j=>.int (i-j)) (Acc 1) (tC (.int 1)))) Ama))))))
    (As4 (Asc C "point_place" (Adm C) [] E0 (Acc 0) (Abt (Acc 1) Ama))) Ap5
    { nx:=fun σ H'=>(∃v1 v2:Option V,σ=[some (.ref d),v1,v2])∧Same H H'∧∀j y,j<i+1→S.pts[j]?=some y→Acx S j y=false,rt:=Q,bk:=As4 (tC .non) { nx:=fun _ H'=>Q .non H',rt:=Q },ct:=fun σ H'=>(∃v1 v2:Option V,σ=[some (.ref d),v1,v2])∧Same H H'∧∀j y,j<i+1→S.pts[j]?=some y→Acx S j y=false }
    [some (V.ref d),some (.int (i:Nat)),some (.ref c)] (upd H' t (.tup [.int (i:Nat),.ref c])):=by
    intro ok;have ok1:(decide (p.x≤S.w)&&decide (p.y≤S.h))=true:=by simp;lia
    refine⟨_,rfl,_,_,rfl,rfl,_,rfl,?_⟩;refine Abg (fun e1=>?_) (fun e1=>?_)
    ·simp only[decide_eq_true_eq]at e1;have i0:0<i:=by lia
     obtain⟨cp,hcp⟩ : ∃cp,as[i-1]?=some cp:=⟨_,List.getElem?_eq_getElem (by have:=(List.getElem?_eq_some_iff.mp hc).1;lia)⟩
     obtain⟨pp,hpp,pcp⟩:=D.ptsA.at_ (i-1) cp hcp;have bad:Acx S i p = !pp.below p:=by
      unfold Acx;rw[ok1,hpp];simp[i0]
     refine⟨_,rfl,_,rfl,d,C,dx2,_,_,rfl,hd2,T.cl,T.nP,Adx _ _ _ _ _,_,rfl,_,_,rfl,rfl,pa,_,_,V.ref cp,rfl,rfl,SqL.of D2.pts,Ahc (j:=i-1) (by lia) (by rw[List.getElem?_map,hcp];rfl),?_⟩;refine⟨c,cp,p,pp,rfl,pc.same s2,pcp.same s2,fun H3 s3=>⟨_,rfl,?_⟩⟩;have s23:=s2.trans s3;obtain⟨dx3,hd3⟩:=(D.same s23).ins;refine Abg (fun e2=>?_) (fun e2=>?_)
     ·refine⟨_,rfl,d,dx3,_,rfl,hd3,noP,_,rfl,d,i,rfl,?_⟩;exact ret (by rw[bad];exact e2) H3 s23
     ·exact next (by rw[bad];exact Bool.eq_false_iff.mpr e2) H3 s23
    ·simp only[decide_eq_true_eq]at e1;refine next ?_ _ s2
     unfold Acx;rw[ok1,decide_eq_false (by lia)];rfl
   refine⟨_,rfl,c,_,_,_,rfl,rfl,g,atC,_,rfl,d,C,dx2,_,_,rfl,hd2,T.cl,T.nW,Au7 _ _ _ _ _,_,_,rfl,rfl,_,rfl,?_⟩;refine Abg (fun e1=>?_) (fun e1=>?_)
   ·simp only[decide_eq_true_eq]at e1;refine Aoe ⟨_,rfl,d,dx2,_,rfl,hd2,noP,_,rfl,d,i,rfl,?_⟩;exact ret (by unfold Acx;rw[show decide (p.x≤S.w)=false from decide_eq_false (by lia)];rfl) _ s2
   simp only[decide_eq_true_eq]at e1;refine⟨_,rfl,c,_,_,_,rfl,rfl,g,atC,_,rfl,d,C,dx2,_,_,rfl,hd2,T.cl,T.nH,Auc _ _ _ _ _,_,_,rfl,rfl,_,rfl,?_⟩;refine Abg (fun e2=>?_) (fun e2=>?_)
   ·simp only[decide_eq_true_eq]at e2;refine⟨_,rfl,d,dx2,_,rfl,hd2,noP,_,rfl,d,i,rfl,?_⟩;exact ret (by unfold Acx;rw[show decide (p.y≤S.h)=false from decide_eq_false (by lia)];simp) _ s2
   ·simp only[decide_eq_true_eq]at e2;exact second (by lia)
  ·rintro σ H' ⟨⟨v1,v2,rfl⟩,s1,inv⟩;have:=k H' s1;rw[Adi (fun j y hy=>inv j y (by rw[List.length_map,D.ptsA.len];exact(List.getElem?_eq_some_iff.mp hy).1) hy)]at this;exact this
end
abbrev Apu:Stmt:=top Agh
abbrev Ayq:Stmt:=top Ad5
theorem LnAt.sq {K:W.Frag}{H:Hp}{a:Addr}{l:Nat×Nat}(h:LnAt H a l):SqT K H a [.int l.1,.int l.2]:=SqT.of h
theorem LnAt.same {H H':Hp}{a:Addr}{l:Nat×Nat}(e:Same H H')(h:LnAt H a l):LnAt H' a l:=e _ _ h
theorem Atn (l m:Nat×Nat):H3.lexLe [(l.1:Int),(l.2:Int)] [(m.1:Int),(m.2:Int)] = !Gla.lineBelow m l:=by
 rw[H3.lexLe_cons,H3.lexLe_cons,H3.lexLe_nil_nil];unfold Gla.lineBelow;rw[Bool.eq_iff_iff]
 by_cases e:(l.1:Int)=m.1
 ·rw[if_pos e]
  by_cases e2:(l.2:Int)=m.2
  ·rw[if_pos e2];simp;lia
  ·rw[if_neg e2];simp;lia
 ·rw[if_neg e];simp;lia
section
variable {P:Program}{w:World}{K:W.Frag}{mg:Str→Option Value}{base:Heap}
theorem scWLn:Aaa ["drawing","number","line"] ["drawing"] (Aa7 Ba7):=fsc
theorem Az8 {f C fP fL fM:Addr}{fd fdP fdL fdM:FuncData}(F:Def K mg "wrong_line" Ba7 ["drawing"] f fd)(M:TMeth K mg C fP fL fM fdP fdL fdM)(ne:mg "enumerate" = none) :
 FnOk P w K mg base CX0 3 f fd ["drawing"] (Ae2 C (fun _=>True) fun S=>(Gla.firstAt (Adk S) S.lines).map (Gla.linePlace S)):=by
 have GL:FnOk P w K mg base CX0 2 fL fdL ["self","number"] (Apg C):=Aqf M.FL M.FP M.bP M.mP M.T M.c M.nl;have T:=M.T;refine F.fn.ok scWLn (fun vs H Q E h=>?_) (fun cdv A outer s H vs Q E hr h=>?_)
 ·obtain⟨d,S,pa,la,ma,as,ls,ms,rfl,_⟩:=h;rfl
 ·obtain⟨d,S,pa,la,ma,as,ls,ms,rfl,D,_,k⟩:=h;have k:∀H',Same H H'→Q (At5 ((Gla.firstAt (Adk S) S.lines).map (Gla.linePlace S))) H':=k
  refine⟨_,Aa1 (Aap PassesOwn.never rfl (Abw rfl ne (Aa0 (Aal (pv 0) rfl) Aa3)) (Abu rfl (Aag (pG 1 scWLn.nd) (Aag (pG 2 scWLn.nd) Abc)))
   (Aa1 (Aat (PW.pt (Anu (Aaj Awh (pIT (pv 2) Aa5) (pIT (pv 2) Aa5) (Aan _)) (Ahp (Aaj Awh (pIT (pv 2) Aa5) (Aaf Aab (by rfl) M.nl PySem.boot_len (Aa0 (Aal (pv 0) rfl) Aa3)) (Aan _)))))
    (Aa4 (Aa9 (Aax (pv 0) T.cl M.mL GL hr M.bL .nil Abm (Aa0 (pv 1) Aa3)))) Aae)
   (Aa4 (Aat (PW.pt (Ag0 (Aaj Adt (pv 1) Aa5 (Aan _)) (Adr (Aaj (Az3 (Nat.lt_of_succ_lt (Agl hr))) (pv 2) (pIL (Aal (pv 0) rfl) (Ab2 Ac4 (pv 1) Aa5)) (Aan _)))))
    (Aa4 (Aa9 (Aax (pv 0) T.cl M.mL GL hr M.bL .nil Abm (Aa0 (pv 1) Aa3)))) Aae))))
   (Aa4 (Aa9 Acv)),?_⟩
  obtain⟨dx,hd⟩:=D.ins
  refine⟨_,rfl,d,C,dx,_,_,rfl,hd,T.cl,T.nL,Aja _ _ _ _ _,la,_,rfl,SqL.of D.lns,Abk (K:=K) (a:=la) (xs:=ls.map V.ref) (fun i σ H'=>(∃v1 v2:Option V,σ=[some (.ref d),v1,v2])∧Same H H'∧∀j y,j<i→S.lines[j]?=some y→Adk S j y=false)
   ⟨⟨_,_,rfl⟩,Same.refl H,by intro j y hj;lia⟩ (fun i σ H' _ ⟨_,s1,_⟩=>SqL.of (s1 _ _ D.lns)) ?_ ?_⟩
  ·rintro i x σ H' t hi ⟨⟨v1,v2,rfl⟩,s1,inv⟩ ht;obtain⟨c,hc,rfl⟩:=Aad hi;obtain⟨l,hp,pc⟩:=D.lnsA.at_ i c hc;have s2:=s1.trans (Same.new (o:=.tup [.int (i:Nat),.ref c]) ht);have D2:=D.same s2;have g:=(pc.same s2).sq (K:=K);obtain⟨dx2,hd2⟩:=D2.ins;have noL:(dfs S.w S.h pa la ma).lookup ("line_place" : Str)=none:=Ac0 _ _ _ _ _ (by decide +kernel) (by decide +kernel) (by decide +kernel) (by decide +kernel) (by decide +kernel)
   have ret:Adk S i l=true→Q (.int (Gla.linePlace S i:Nat)) (upd H' t (.tup [.int (i:Nat),.ref c])):=fun e=>by
    have:=k _ s2;rw[Ac8 hp e inv]at this;exact this
   have next:Adk S i l=false→(∃v1 v2:Option V,[some (V.ref d),some (.int (i:Nat)),some (.ref c)]=[some (.ref d),v1,v2])∧Same H (upd H' t (.tup [.int (i:Nat),.ref c]))∧∀j y,j<i+1→S.lines[j]?=some y→Adk S j y=false:=fun e =>
    ⟨⟨_,_,rfl⟩,s2,fun j y hj hy=>by
     by_cases ej:j=i
     ·subst ej;rw[hp]at hy;cases hy;exact e
     ·exact inv j y (by lia) hy⟩
   refine⟨t,_,rfl,SqT.of Aa2,rfl,_,_,rfl,_,_,rfl,rfl,?_⟩;refine⟨_,rfl,c,_,_,_,rfl,rfl,g,rfl,_,rfl,c,_,_,_,rfl,rfl,g,rfl,_,_,rfl,rfl,_,rfl,?_⟩;refine Abg (fun e1=>?_) (fun e1=>?_)
   ·simp only[decide_eq_true_eq]at e1;refine Aoe ⟨_,rfl,d,dx2,_,rfl,hd2,noL,_,rfl,d,i,S,pa,la,ma,as,ls,ms,rfl,D2,?_⟩;exact ret (by unfold Adk;rw[show decide (l.1<l.2)=false from decide_eq_false (by lia)];rfl)
   simp only[decide_eq_true_eq]at e1;refine⟨_,rfl,c,_,_,_,rfl,rfl,g,rfl,_,rfl,d,C,dx2,_,_,rfl,hd2,T.cl,T.nP,Adx _ _ _ _ _,pa,_,rfl,.inl (SqL.of D2.pts),_,_,rfl,rfl,_,rfl,?_⟩;rw[List.length_map,D.ptsA.len];refine Abg (fun e2=>?_) (fun e2=>?_)
   ·simp only[decide_eq_true_eq]at e2;refine⟨_,rfl,d,dx2,_,rfl,hd2,noL,_,rfl,d,i,S,pa,la,ma,as,ls,ms,rfl,D2,?_⟩;exact ret (by unfold Adk;rw[show decide (l.2<S.pts.length)=false from decide_eq_false (by lia)];simp)
   simp only[decide_eq_true_eq]at e2;have ok1:(decide (l.1<l.2)&&decide (l.2<S.pts.length))=true:=by simp;lia
   refine⟨_,rfl,_,_,rfl,rfl,_,rfl,?_⟩;refine Abg (fun e3=>?_) (fun e3=>?_)
   ·simp only[decide_eq_true_eq]at e3;have i0:0<i:=by lia
    obtain⟨cp,hcp⟩ : ∃cp,ls[i-1]?=some cp:=⟨_,List.getElem?_eq_getElem (by have:=(List.getElem?_eq_some_iff.mp hc).1;lia)⟩
    obtain⟨pp,hpp,pcp⟩:=D.lnsA.at_ (i-1) cp hcp;have bad:Adk S i l = !Gla.lineBelow pp l:=by
     unfold Adk;rw[ok1,hpp];simp[i0]
    refine⟨_,rfl,_,rfl,d,C,dx2,_,_,rfl,hd2,T.cl,T.nL,Aja _ _ _ _ _,_,rfl,_,_,rfl,rfl,la,_,_,V.ref cp,rfl,rfl,SqL.of D2.lns,Ahc (j:=i-1) (by lia) (by rw[List.getElem?_map,hcp];rfl),?_⟩;refine⟨c,cp,[(l.1:Int),(l.2:Int)],[(pp.1:Int),(pp.2:Int)],rfl,rfl,g,(pcp.same s2).sq,_,rfl,?_⟩;rw[Atn];refine Abg (fun e4=>?_) (fun e4=>?_)
    ·refine⟨_,rfl,d,dx2,_,rfl,hd2,noL,_,rfl,d,i,S,pa,la,ma,as,ls,ms,rfl,D2,?_⟩;exact ret (by rw[bad];exact e4)
    ·exact next (by rw[bad];exact Bool.eq_false_iff.mpr e4)
   ·simp only[decide_eq_true_eq]at e3;refine next ?_
    unfold Adk;rw[ok1,decide_eq_false (by lia)];rfl
  ·rintro σ H' ⟨⟨v1,v2,rfl⟩,s1,inv⟩;have:=k H' s1;rw[Adi (fun j y hy=>inv j y (by rw[List.length_map,D.lnsA.len];exact(List.getElem?_eq_some_iff.mp hy).1) hy)]at this;exact this
end
abbrev Baa:Stmt:=top Agi
theorem DrawAt.pt {C:Addr}{H:Hp}{d:Addr}{S:Plan}{pa la ma:Addr}{as ls ms:List Addr}(D:DrawAt C H d S pa la ma as ls ms){i:Nat}(h:i<S.pts.length) :
 ∃c,as[i]?=some c∧PtAt H c (S.pt i)∧Abj (S.pt i):=by
 obtain⟨c,hc⟩ : ∃c,as[i]?=some c:=⟨_,List.getElem?_eq_getElem (by rw[D.ptsA.len];exact h)⟩
 obtain⟨p,hp,pc⟩:=D.ptsA.at_ i c hc;have e:S.pt i=p:=by unfold Plan.pt;rw[List.getD_eq_getElem?_getD,hp];rfl
 rw[e];exact⟨c,hc,pc,D.smP p (List.mem_of_getElem? hp)⟩
theorem atr {as:List Addr}{i:Nat}{c:Addr}(h:as[i]?=some c):atI (as.map V.ref) (i:Int)=some (V.ref c):=Ae0 (by rw[List.getElem?_map,h];rfl)
def Auv (C:Addr):Sp:=fun vs H Q _=>∃(d e:Addr) (l:Nat×Nat) (S:Plan) (pa la ma:Addr) (as ls ms:List Addr),vs=[.ref d,.ref e]∧DrawAt C H d S pa la ma as ls ms∧LnAt H e l∧l.1<l.2∧l.2<S.pts.length∧Q (.bl (Pg.hasPoint S l)) H
def Ayh (C:Addr):Sp:=fun vs H Q _=>∃(d:Addr) (i:Nat) (l:Nat×Nat) (S:Plan) (pa la ma:Addr) (as ls ms:List Addr),vs=[.ref d,.int i]∧DrawAt C H d S pa la ma as ls ms∧S.lines[i]?=some l∧(∀m,m∈S.lines→m.1<m.2∧m.2<S.pts.length)∧Q (.bl (Pg.crossBefore S i l)) H
section
variable {P:Program}{w:World}{K:W.Frag}{mg:Str→Option Value}{base:Heap}
theorem scHasP:Aaa ["drawing","line","points","number"] ["drawing","line"] (Aa7 Apu):=fsc
theorem Awu {f fO fT C:Addr}{fd fdO fdT:FuncData}(F:Def K mg "has_point_on" Apu ["drawing","line"] f fd)(FO:Def K mg "is_on" Ajw ["p","q","r"] fO fdO)(FT:Def K mg "turn_of" Ack ["p","q","r"] fT fdT)(nmin:mg "min" = none)(nmax:mg "max" = none)(nr:mg "range" = none)(T:Adl K C) :
 FnOk P w K mg base CX0 3 f fd ["drawing","line"] (Auv C):=by
 have GO:FnOk P w K mg base CX0 2 fO fdO ["p","q","r"] Aph:=Aqg FO FT nmin nmax;refine F.fn.ok scHasP (fun vs H Q E h=>?_) (fun cdv A outer s H vs Q E hr h=>?_)
 ·obtain⟨d,e,l,S,pa,la,ma,as,ls,ms,rfl,_⟩:=h;rfl
 ·obtain⟨d,e,l,S,pa,la,ma,as,ls,ms,rfl,D,he,l1,l2,k⟩:=h;obtain⟨dx,hd⟩:=D.ins;have g:=he.sq (K:=K)
  refine⟨_,Aa1 (pS 2 scHasP.nd (Aal (pv 0) rfl))
   (Aa1 (Aap PassesOwn.never rfl (Ak6 rfl nr (Aa0 (Ab2 Ae6 (pIT (pv 1) Aa5) Aa5) (Aa0 (pIT (pv 1) Aa5) Aa3))) (pG 3 scHasP.nd)
    (Aa4 (Aat (Ad0 (pCD FO GO hr (Aa0 (pIL (pv 2) (pIT (pv 1) Aa5)) (Aa0 (pIL (pv 2) (pIT (pv 1) Aa5)) (Aa0 (pIL (pv 2) (pv 3)) Aa3)))))
     (Aa4 (Aa9 Ads)) Aae)))
   (Aa4 (Aa9 Ads))),?_⟩
  have nP:=D.nP;refine⟨_,rfl,d,C,dx,_,_,rfl,hd,T.cl,T.nP,Adx _ _ _ _ _,?_⟩;refine⟨_,rfl,e,_,_,_,rfl,rfl,g,rfl,_,_,rfl,rfl,_,rfl,e,_,_,_,rfl,rfl,g,rfl,_,_,rfl,by lia,?_⟩;have en:((l.2:Int)-((l.1:Int)+1)).toNat=l.2-(l.1+1):=by lia
  rw[en];obtain⟨c1,hc1,p1,q1⟩:=D.pt (i:=l.1) (by lia);obtain⟨c2,hc2,p2,q2⟩:=D.pt (i:=l.2) l2;refine Ach (n:=l.2-(l.1+1)) (fun i σ H'=>H'=H∧(∃v:Option V,σ=[some (.ref d),some (.ref e),some (.ref pa),v])∧∀j,j<i→Gla.isOn (S.pt l.1) (S.pt l.2) (S.pt (l.1+1+j))=false) ⟨rfl,⟨_,rfl⟩,by intro j hj;lia⟩ ?_ ?_
  ·rintro i σ H' hi ⟨rfl,⟨v,rfl⟩,inv⟩;obtain⟨c3,hc3,p3,q3⟩:=D.pt (i:=l.1+1+i) (by lia);have ei:(l.1:Int)+1+(i:Nat)=((l.1+1+i:Nat):Int):=by lia
   refine⟨_,rfl,_,rfl,e,_,_,_,rfl,rfl,g,rfl,pa,_,_,V.ref c1,rfl,rfl,SqL.of D.pts,atr hc1,_,rfl,_,rfl,e,_,_,_,rfl,rfl,g,rfl,pa,_,_,V.ref c2,rfl,rfl,SqL.of D.pts,atr hc2,_,rfl,_,rfl,pa,_,_,V.ref c3,rfl,rfl,SqL.of D.pts,(by show atI _ ((l.1:Int)+1+(i:Nat))=_;rw[ei];exact atr hc3),?_⟩;refine⟨c1,c2,c3,S.pt l.1,S.pt l.2,S.pt (l.1+1+i),rfl,p1,p2,p3,q1,q2,_,rfl,?_⟩;refine Abg (fun e1=>?_) (fun e1=>?_)
   ·have:Pg.hasPoint S l=true:=by
     unfold Pg.hasPoint;rw[List.any_eq_true];exact⟨i,List.mem_range.2 hi,e1⟩
    rw[this]at k;exact k
   ·refine⟨rfl,⟨_,rfl⟩,fun j hj=>?_⟩
    by_cases ej:j=i
    ·subst ej;exact Bool.eq_false_iff.mpr e1
    ·exact inv j (by lia)
  ·rintro σ H' ⟨rfl,⟨v,rfl⟩,inv⟩;have:Pg.hasPoint S l=false:=by
    unfold Pg.hasPoint;rw[List.any_eq_false];intro j hj;rw[inv j (List.mem_range.1 hj)];simp
   rw[this]at k;exact k
theorem scCrB:Aaa ["drawing","number","points","line","k","other"] ["drawing","number"] (Aa7 Ayq):=fsc
theorem Azd {f fX fQ fT C:Addr}{fd fdX fdQ fdT:FuncData}(F:Def K mg "crosses_one_before" Ayq ["drawing","number"] f fd)(FX:Def K mg "crosses" Aho ["p","q","r","s"] fX fdX)(FQ:Def K mg "parts" Afv ["p","q","r","s"] fQ fdQ)(FT:Def K mg "turn_of" Ack ["p","q","r"] fT fdT)
 (nr:mg "range" = none) (T:Adl K C):FnOk P w K mg base CX0 4 f fd ["drawing","number"] (Ayh C):=by
 have GX:FnOk P w K mg base CX0 3 fX fdX ["p","q","r","s"] Apo:=Atf FX FQ FT;refine F.fn.ok scCrB (fun vs H Q E h=>?_) (fun cdv A outer s H vs Q E hr h=>?_)
 ·obtain⟨d,i,l,S,pa,la,ma,as,ls,ms,rfl,_⟩:=h;rfl
 ·obtain⟨d,n,l,S,pa,la,ma,as,ls,ms,rfl,D,hl,lin,k⟩:=h;obtain⟨dx,hd⟩:=D.ins
  refine⟨_,Aa1 (pS 2 scCrB.nd (Aal (pv 0) rfl))
   (Aa1 (pS 3 scCrB.nd (pIL (Aal (pv 0) rfl) (pv 1)))
   (Aa1 (Aap PassesOwn.never rfl (Ace rfl nr (Aa0 (pv 1) Aa3)) (pG 4 scCrB.nd)
    (Aa1 (pS 5 scCrB.nd (pIL (Aal (pv 0) rfl) (pv 4)))
    (Aa4 (Aat (Ada Acf Acf (pIT (pv 5) Aa5) (pIT (pv 3) Aa5) (pIT (pv 5) Aa5))
     (Aa4 (Aat (Ad0 (pCD FX GX hr (Aa0 (pIL (pv 2) (pIT (pv 3) Aa5)) (Aa0 (pIL (pv 2) (pIT (pv 3) Aa5))
      (Aa0 (pIL (pv 2) (pIT (pv 5) Aa5)) (Aa0 (pIL (pv 2) (pIT (pv 5) Aa5)) Aa3))))))
      (Aa4 (Aa9 Ads)) Aae)) Aae))))
   (Aa4 (Aa9 Ads)))),?_⟩
  have nL:=D.nL;have hn:=(List.getElem?_eq_some_iff.mp hl).1;obtain⟨cl,hcl⟩ : ∃c,ls[n]?=some c:=⟨_,List.getElem?_eq_getElem (by rw[D.lnsA.len];exact hn)⟩
  obtain⟨l',hl',pl⟩:=D.lnsA.at_ n cl hcl;rw[hl]at hl';cases hl';have ll:=lin l (List.mem_of_getElem? hl);have g:=pl.sq (K:=K);obtain⟨c1,hc1,p1,q1⟩:=D.pt (i:=l.1) (by lia);obtain⟨c2,hc2,p2,q2⟩:=D.pt (i:=l.2) ll.2;refine⟨_,rfl,d,C,dx,_,_,rfl,hd,T.cl,T.nP,Adx _ _ _ _ _,?_⟩;refine⟨_,rfl,d,C,dx,_,_,rfl,hd,T.cl,T.nL,Aja _ _ _ _ _,_,rfl,la,_,_,V.ref cl,rfl,rfl,SqL.of D.lns,atr hcl,?_⟩;refine⟨_,rfl,(n:Int),rfl,by lia,by lia,?_⟩
  have en:((n:Int)).toNat=n:=by lia
  rw[en];refine Ach (n:=n) (fun i σ H'=>H'=H∧(∃v4 v5:Option V,σ=[some (.ref d),some (.int n),some (.ref pa),some (.ref cl),v4,v5])∧∀j m,j<i→S.lines[j]?=some m→(decide (m.1<l.1∧l.1<m.2)&&Gla.crosses (S.pt l.1) (S.pt l.2) (S.pt m.1) (S.pt m.2))=false) ⟨rfl,⟨_,_,rfl⟩,by intro j m hj;lia⟩ ?_ ?_
  ·rintro i σ H' hi ⟨rfl,⟨v4,v5,rfl⟩,inv⟩;obtain⟨co,hco⟩ : ∃c,ls[i]?=some c:=⟨_,List.getElem?_eq_getElem (by rw[D.lnsA.len];lia)⟩
   obtain⟨m,hm,pm⟩:=D.lnsA.at_ i co hco;have mm:=lin m (List.mem_of_getElem? hm);have gm:=pm.sq (K:=K);obtain⟨c3,hc3,p3,q3⟩:=D.pt (i:=m.1) (by lia);obtain⟨c4,hc4,p4,q4⟩:=D.pt (i:=m.2) mm.2;have next:(decide (m.1<l.1∧l.1<m.2)&&Gla.crosses (S.pt l.1) (S.pt l.2) (S.pt m.1) (S.pt m.2))=false→∀j m',j<i+1→S.lines[j]?=some m'→(decide (m'.1<l.1∧l.1<m'.2)&&Gla.crosses (S.pt l.1) (S.pt l.2) (S.pt m'.1) (S.pt m'.2))=false:=by
    intro e j m' hj hm'
    by_cases ej:j=i
    ·subst ej;rw[hm]at hm';cases hm';exact e
    ·exact inv j m' (by lia) hm'
   have ei:(0:Int)+(i:Nat)=((i:Nat):Int):=by lia
   refine⟨_,rfl,d,C,dx,_,_,rfl,hd,T.cl,T.nL,Aja _ _ _ _ _,_,rfl,la,_,_,V.ref co,rfl,rfl,SqL.of D.lns,(by show atI _ ((0:Int)+(i:Nat))=_;rw[ei];exact atr hco),?_⟩;refine⟨_,rfl,co,_,_,_,rfl,rfl,gm,rfl,_,rfl,cl,_,_,_,rfl,rfl,g,rfl,_,_,rfl,rfl,_,rfl,?_⟩;refine Abg (fun e1=>?_) (fun e1=>?_)
   ·simp only[decide_eq_true_eq]at e1;refine⟨_,rfl,co,_,_,_,rfl,rfl,gm,rfl,_,_,rfl,rfl,_,rfl,?_⟩;refine Abg (fun e2=>?_) (fun e2=>?_)
    ·simp only[decide_eq_true_eq]at e2;have ed:decide (m.1<l.1∧l.1<m.2)=true:=decide_eq_true ⟨by lia,by lia⟩
     refine⟨_,rfl,_,rfl,cl,_,_,_,rfl,rfl,g,rfl,pa,_,_,V.ref c1,rfl,rfl,SqL.of D.pts,atr hc1,_,rfl,_,rfl,cl,_,_,_,rfl,rfl,g,rfl,pa,_,_,V.ref c2,rfl,rfl,SqL.of D.pts,atr hc2,
      _,rfl,_,rfl,co,_,_,_,rfl,rfl,gm,rfl,pa,_,_,V.ref c3,rfl,rfl,SqL.of D.pts,atr hc3,_,rfl,_,rfl,co,_,_,_,rfl,rfl,gm,rfl,pa,_,_,V.ref c4,rfl,rfl,SqL.of D.pts,atr hc4,?_⟩
     refine⟨c1,c2,c3,c4,S.pt l.1,S.pt l.2,S.pt m.1,S.pt m.2,rfl,p1,p2,p3,p4,q1,q2,q3,q4,_,rfl,?_⟩;refine Abg (fun e3=>?_) (fun e3=>?_)
     ·have:Pg.crossBefore S n l=true:=by
       unfold Pg.crossBefore;rw[List.any_eq_true];refine⟨m,?_,by rw[ed,e3];rfl⟩;rw[List.mem_take_iff_getElem];exact⟨i,by lia,(List.getElem?_eq_some_iff.mp hm).2⟩
      rw[this]at k;exact k
     ·exact⟨rfl,⟨_,_,rfl⟩,next (by rw[Bool.eq_false_iff.mpr e3,Bool.and_false])⟩
    ·simp only[decide_eq_true_eq]at e2;exact⟨rfl,⟨_,_,rfl⟩,next (by rw[decide_eq_false (by lia),Bool.false_and])⟩
   ·simp only[decide_eq_true_eq]at e1;exact⟨_,rfl,Akh ⟨rfl,⟨_,_,rfl⟩,next (by rw[decide_eq_false (by lia),Bool.false_and])⟩⟩
  ·rintro σ H' ⟨rfl,⟨v4,v5,rfl⟩,inv⟩;have:Pg.crossBefore S n l=false:=by
    unfold Pg.crossBefore;rw[List.any_eq_false];intro m hm;rw[List.mem_take_iff_getElem]at hm;obtain⟨j,hj,e⟩:=hm;rw[inv j m (by lia) (by rw[←e];exact List.getElem?_eq_getElem _)];simp
   rw[this]at k;exact k
end
abbrev Amg:Stmt:=top Ah7
abbrev Afw:Stmt:=top Aec
theorem Aeu {n i:Nat}{p:Nat→Bool}(hi:i<n)(hp:p i=true)(hb:∀j,j<i→p j=false):(List.range n).find? p=some i:=by
 rw[List.find?_eq_some_iff_getElem];refine⟨hp,i,by simpa using hi,by simp,?_⟩;intro j hj;simp[hb j hj]
theorem Aco {n:Nat}{p:Nat→Bool}(hb:∀j,j<n→p j=false):(List.range n).find? p=none:=by
 rw[List.find?_eq_none];intro j hj;rw[hb j (List.mem_range.1 hj)];simp
section
variable {P:Program}{w:World}{K:W.Frag}{mg:Str→Option Value}{base:Heap}
theorem scCrL:Aaa ["drawing","number","line"] ["drawing"] (Aa7 Baa):=fsc
theorem Azc {f fH fB fO fX fQ fT C fP fL fM:Addr}{fd fdH fdB fdO fdX fdQ fdT fdP fdL fdM:FuncData}(F:Def K mg "crossed_line" Baa ["drawing"] f fd)(FH:Def K mg "has_point_on" Apu ["drawing","line"] fH fdH)(FB:Def K mg "crosses_one_before" Ayq ["drawing","number"] fB fdB)
 (FO:Def K mg "is_on" Ajw ["p","q","r"] fO fdO) (FX:Def K mg "crosses" Aho ["p","q","r","s"] fX fdX) (FQ:Def K mg "parts" Afv ["p","q","r","s"] fQ fdQ) (FT:Def K mg "turn_of" Ack ["p","q","r"] fT fdT)
 (M:TMeth K mg C fP fL fM fdP fdL fdM) (nmin:mg "min" = none) (nmax:mg "max" = none) (nr:mg "range" = none) (ne:mg "enumerate" = none) :
 FnOk P w K mg base CX0 5 f fd ["drawing"] (Ae2 C (fun S=>Pg.R45 S∧S.w≤1048575) fun S=>(Gla.firstAt (Gla.touches S) S.lines).map (Gla.linePlace S)):=by
 have T:=M.T;have GL:FnOk P w K mg base CX0 2 fL fdL ["self","number"] (Apg C):=Aqf M.FL M.FP M.bP M.mP M.T M.c M.nl;have GH:FnOk P w K mg base CX0 3 fH fdH ["drawing","line"] (Auv C):=Awu FH FO FT nmin nmax nr T;have GB:FnOk P w K mg base CX0 4 fB fdB ["drawing","number"] (Ayh C):=Azd FB FX FQ FT nr T;refine F.fn.ok scCrL (fun vs H Q E h=>?_) (fun cdv A outer s H vs Q E hr h=>?_)
 ·obtain⟨d,S,pa,la,ma,as,ls,ms,rfl,_⟩:=h;rfl
 ·obtain⟨d,S,pa,la,ma,as,ls,ms,rfl,D,⟨r,big⟩,k⟩:=h;have k:∀H',Same H H'→Q (At5 ((Gla.firstAt (Gla.touches S) S.lines).map (Gla.linePlace S))) H':=k;have hr2:Room 2 _:=hr.mono (by decide);have hr3:Room 3 _:=hr.mono (by decide)
  refine⟨_,Aa1 (Aap PassesOwn.never rfl (Abw rfl ne (Aa0 (Aal (pv 0) rfl) Aa3)) (Abu rfl (Aag (pG 1 scCrL.nd) (Aag (pG 2 scCrL.nd) Abc)))
   (Aa4 (Aat (PW.pt (Anu (Ad0 (pCD FH GH hr3 (Aa0 (pv 0) (Aa0 (pv 2) Aa3)))) (Ahp (Ad0 (pCD FB GB hr (Aa0 (pv 0) (Aa0 (pv 1) Aa3)))))))
    (Aa4 (Aa9 (Aax (pv 0) T.cl M.mL GL hr2 M.bL .nil Abm (Aa0 (pv 1) Aa3)))) Aae)))
   (Aa4 (Aa9 Acv)),?_⟩
  obtain⟨dx,hd⟩:=D.ins
  refine⟨_,rfl,d,C,dx,_,_,rfl,hd,T.cl,T.nL,Aja _ _ _ _ _,la,_,rfl,SqL.of D.lns,Abk (K:=K) (a:=la) (xs:=ls.map V.ref) (fun i σ H'=>(∃v1 v2:Option V,σ=[some (.ref d),v1,v2])∧Same H H'∧∀j y,j<i→S.lines[j]?=some y→Gla.touches S j y=false)
   ⟨⟨_,_,rfl⟩,Same.refl H,by intro j y hj;lia⟩ (fun i σ H' _ ⟨_,s1,_⟩=>SqL.of (s1 _ _ D.lns)) ?_ ?_⟩
  ·rintro i x σ H' t hi ⟨⟨v1,v2,rfl⟩,s1,inv⟩ ht;obtain⟨c,hc,rfl⟩:=Aad hi;obtain⟨l,hp,pc⟩:=D.lnsA.at_ i c hc;have s2:=s1.trans (Same.new (o:=.tup [.int (i:Nat),.ref c]) ht);have D2:=D.same s2;obtain⟨dx2,hd2⟩:=D2.ins;have noL:(dfs S.w S.h pa la ma).lookup ("line_place" : Str)=none:=Ac0 _ _ _ _ _ (by decide +kernel) (by decide +kernel) (by decide +kernel) (by decide +kernel) (by decide +kernel)
   have ll:=r.lin l (List.mem_of_getElem? hp);have te:Gla.touches S i l=(Pg.hasPoint S l||Pg.crossBefore S i l):=by
    have h1:=(List.getElem?_eq_some_iff.mp hp)
    have:=r.touch_eq big i h1.1;rw[h1.2]at this;exact this
   have ret:Gla.touches S i l=true→Q (.int (Gla.linePlace S i:Nat)) (upd H' t (.tup [.int (i:Nat),.ref c])):=fun e=>by
    have:=k _ s2;rw[Ac8 hp e inv]at this;exact this
   have next:Gla.touches S i l=false→(∃v1 v2:Option V,[some (V.ref d),some (.int (i:Nat)),some (.ref c)]=[some (.ref d),v1,v2])∧Same H (upd H' t (.tup [.int (i:Nat),.ref c]))∧∀j y,j<i+1→S.lines[j]?=some y→Gla.touches S j y=false:=fun e =>
    ⟨⟨_,_,rfl⟩,s2,fun j y hj hy=>by
     by_cases ej:j=i
     ·subst ej;rw[hp]at hy;cases hy;exact e
     ·exact inv j y (by lia) hy⟩
   refine⟨t,_,rfl,SqT.of Aa2,rfl,_,_,rfl,_,_,rfl,rfl,?_⟩;refine⟨_,rfl,_,rfl,d,c,l,S,pa,la,ma,as,ls,ms,rfl,D2,pc.same s2,ll.1,ll.2,_,rfl,?_⟩;refine Abg (fun e1=>?_) (fun e1=>?_)
   ·refine Aoe ⟨_,rfl,d,dx2,_,rfl,hd2,noL,_,rfl,d,i,S,pa,la,ma,as,ls,ms,rfl,D2,?_⟩;exact ret (by rw[te,e1];rfl)
   refine⟨_,rfl,_,rfl,d,i,l,S,pa,la,ma,as,ls,ms,rfl,D2,hp,r.lin,_,rfl,?_⟩;refine Abg (fun e2=>?_) (fun e2=>?_)
   ·refine⟨_,rfl,d,dx2,_,rfl,hd2,noL,_,rfl,d,i,S,pa,la,ma,as,ls,ms,rfl,D2,?_⟩;exact ret (by rw[te,e2,Bool.or_true])
   ·exact next (by rw[te,Bool.eq_false_iff.mpr e1,Bool.eq_false_iff.mpr e2];rfl)
  ·rintro σ H' ⟨⟨v1,v2,rfl⟩,s1,inv⟩;have:=k H' s1;rw[Adi (fun j y hy=>inv j y (by rw[List.length_map,D.lnsA.len];exact(List.getElem?_eq_some_iff.mp hy).1) hy)]at this;exact this
theorem scLoose:Aaa ["drawing","number","others"] ["drawing"] (Aa7 Amg):=fsc
theorem Atb {f fK C fP fL fM:Addr}{fd fdK fdP fdL fdM:FuncData}(F:Def K mg "loose_point" Amg ["drawing"] f fd)(FK:Def K mg "links_of" Adn ["drawing"] fK fdK)(M:TMeth K mg C fP fL fM fdP fdL fdM)(ne:mg "enumerate" = none) :
 FnOk P w K mg base CX0 2 f fd ["drawing"] (Ae2 C (fun S=>∀l,l∈S.lines→l.1<l.2∧l.2<S.pts.length) fun S=>((List.range S.pts.length).find? fun(i:Nat)=>decide ((S.near i).length<2)).map Gla.ptPlace):=by
 have T:=M.T;have GP:FnOk P w K mg base CX0 1 fP fdP ["self","number"] (Adm C):=Adu M.FP M.c;have GK:FnOk P w K mg base CX0 1 fK fdK ["drawing"] (Aft C):=Afh FK T;refine F.fn.ok scLoose (fun vs H Q E h=>?_) (fun cdv A outer s H vs Q E hr h=>?_)
 ·obtain⟨d,S,pa,la,ma,as,ls,ms,rfl,_⟩:=h;rfl
 ·obtain⟨d,S,pa,la,ma,as,ls,ms,rfl,D,lin,k⟩:=h;have k:∀H',Same H H'→Q (At5 (((List.range S.pts.length).find? fun(i:Nat)=>decide ((S.near i).length<2)).map Gla.ptPlace)) H':=k
  refine⟨_,Aa1 (Aap PassesOwn.never rfl (Abw rfl ne (Aa0 (pCD FK GK hr (Aa0 (pv 0) Aa3)) Aa3)) (Abu rfl (Aag (pG 1 scLoose.nd) (Aag (pG 2 scLoose.nd) Abc)))
   (Aa4 (Aat (Aaj Acf (Aaf Aab (by rfl) M.nl PySem.boot_len (Aa0 (pv 2) Aa3)) Aa5 (Aan _)) (Aa4 (Aa9 (Aax (pv 0) T.cl M.mP GP hr M.bP .nil Abm (Aa0 (pv 1) Aa3)))) Aae)))
   (Aa4 (Aa9 Acv)),?_⟩
  refine⟨_,rfl,d,S,pa,la,ma,as,ls,ms,rfl,D,lin,fun H1 a rows s1 L=>?_⟩
  refine⟨a,_,rfl,SqL.of L.lst,Abk (K:=K) (a:=a) (xs:=rows.map V.ref) (fun i σ H'=>(∃v1 v2:Option V,σ=[some (.ref d),v1,v2])∧Same H1 H'∧∀j,j<i→decide ((S.near j).length<2)=false)
   ⟨⟨_,_,rfl⟩,Same.refl H1,by intro j hj;lia⟩ (fun i σ H' _ ⟨_,s2,_⟩=>SqL.of (s2 _ _ L.lst)) ?_ ?_⟩
  ·rintro i x σ H' t hi ⟨⟨v1,v2,rfl⟩,s2,inv⟩ ht;obtain⟨c,hc,rfl⟩:=Aad hi;have rl:rows.length=S.pts.length:=by have:=L.len;simpa using this
   have il:=(List.getElem?_eq_some_iff.mp hc).1;obtain⟨l,el,hcl⟩:=L.at_ i c hc;have:l=S.near i:=by
    rw[List.getElem?_map,List.getElem?_range (by lia)]at el;exact(Option.some.inj el).symm
   subst this;have s3:=s2.trans (Same.new (o:=.tup [.int (i:Nat),.ref c]) ht);have D3:=D.same (s1.trans s3);obtain⟨dx2,hd2⟩:=D3.ins;have noP:(dfs S.w S.h pa la ma).lookup ("point_place" : Str)=none:=Ac0 _ _ _ _ _ (by decide +kernel) (by decide +kernel) (by decide +kernel) (by decide +kernel) (by decide +kernel);refine⟨t,_,rfl,SqT.of Aa2,rfl,_,_,rfl,_,_,rfl,rfl,?_⟩;refine⟨_,rfl,c,_,rfl,.inl (SqL.of (s3 _ _ hcl)),_,_,rfl,rfl,_,rfl,?_⟩
   have vl:(vN (S.near i)).length=(S.near i).length:=by unfold vN;rw[List.length_map]
   rw[vl];refine Abg (fun e1=>?_) (fun e1=>?_)
   ·simp only[decide_eq_true_eq]at e1;refine⟨_,rfl,d,dx2,_,rfl,hd2,noP,_,rfl,d,i,rfl,?_⟩;have:=k _ (s1.trans s3);rw[Aeu (show i<S.pts.length by lia) (decide_eq_true (show(S.near i).length<2 by lia)) inv]at this;exact this
   ·simp only[decide_eq_true_eq]at e1;refine⟨⟨_,_,rfl⟩,s3,fun j hj=>?_⟩
    by_cases ej:j=i
    ·subst ej;exact decide_eq_false (by lia)
    ·exact inv j (by lia)
  ·rintro σ H' ⟨⟨v1,v2,rfl⟩,s2,inv⟩;have rl:rows.length=S.pts.length:=by have:=L.len;simpa using this
   have:=k H' (s1.trans s2);rw[Aco (fun j hj=>inv j (by rw[List.length_map,rl];exact hj))]at this;exact this
def Aif (C:Addr):Sp:=fun vs H Q _=>∃(d e:Addr) (z:Pt) (S:Plan) (pa la ma:Addr) (as ls ms:List Addr),vs=[.ref d,.ref e]∧DrawAt C H d S pa la ma as ls ms∧PtAt H e z∧Pg.R45 S∧Q (.bl (Gla.onLines S z)) H
theorem scOnSome:Aaa ["drawing","spot","points","first","second"] ["drawing","spot"] (Aa7 Afw):=fsc
theorem Aqc {f fO fT C:Addr}{fd fdO fdT:FuncData}(F:Def K mg "is_on_some_line" Afw ["drawing","spot"] f fd)(FO:Def K mg "is_on" Ajw ["p","q","r"] fO fdO)(FT:Def K mg "turn_of" Ack ["p","q","r"] fT fdT)(nmin:mg "min" = none)(nmax:mg "max" = none)(T:Adl K C) :
 FnOk P w K mg base CX0 3 f fd ["drawing","spot"] (Aif C):=by
 have GO:FnOk P w K mg base CX0 2 fO fdO ["p","q","r"] Aph:=Aqg FO FT nmin nmax;refine F.fn.ok scOnSome (fun vs H Q E h=>?_) (fun cdv A outer s H vs Q E hr h=>?_)
 ·obtain⟨d,e,z,S,pa,la,ma,as,ls,ms,rfl,_⟩:=h;rfl
 ·obtain⟨d,e,z,S,pa,la,ma,as,ls,ms,rfl,D,hz,r,k⟩:=h;obtain⟨dx,hd⟩:=D.ins;obtain⟨_,gz⟩:=hz.sq (K:=K)
  refine⟨_,Aa1 (pS 2 scOnSome.nd (Aal (pv 0) rfl))
   (Aa1 (Aap PassesOwn.never rfl (Abf (Aal (pv 0) rfl)) (Abu rfl (Aag (pG 3 scOnSome.nd) (Aag (pG 4 scOnSome.nd) Abc)))
    (Aa4 (Aat (PW.pt (Ag0 (Ada At6 At6 (pIT (pIL (pv 2) (pv 3)) Aa5) (pIT (pv 1) Aa5) (pIT (pIL (pv 2) (pv 4)) Aa5))
     (Adr (Ad0 (pCD FO GO hr (Aa0 (pIL (pv 2) (pv 3)) (Aa0 (pIL (pv 2) (pv 4)) (Aa0 (pv 1) Aa3))))))))
     (Aa4 (Aa9 Ads)) Aae)))
   (Aa4 (Aa9 Ads))),?_⟩
  refine⟨_,rfl,d,C,dx,_,_,rfl,hd,T.cl,T.nP,Adx _ _ _ _ _,?_⟩
  refine⟨_,rfl,d,C,dx,_,_,rfl,hd,T.cl,T.nL,Aja _ _ _ _ _,la,rfl,⟨_,SqL.of D.lns⟩,Abr (K:=K) (a:=la) (xs:=ls.map V.ref) (fun i σ H'=>H'=H∧(∃v3 v4:Option V,σ=[some (.ref d),some (.ref e),some (.ref pa),v3,v4])∧∀j l,j<i→S.lines[j]?=some l→Gla.isOn (S.pt l.1) (S.pt l.2) z=false)
   ⟨rfl,⟨_,_,rfl⟩,by intro j l hj;lia⟩ (fun i σ H' _ ⟨e',_⟩=>by rw[e'];exact SqL.of D.lns) ?_ ?_⟩
  ·rintro i y σ H' hi ⟨rfl,⟨v3,v4,rfl⟩,inv⟩;obtain⟨c,hc,rfl⟩:=Aad hi;obtain⟨l,hl,pl⟩:=D.lnsA.at_ i c hc;have ll:=r.lin l (List.mem_of_getElem? hl);obtain⟨c1,hc1,p1,q1⟩:=D.pt (i:=l.1) (by lia);obtain⟨c2,hc2,p2,q2⟩:=D.pt (i:=l.2) ll.2;have ord:=(Pg.below_iff _ _).1 (r.ord l.1 l.2 ll.1 ll.2);obtain⟨_,g1⟩:=p1.sq (K:=K);obtain⟨_,g2⟩:=p2.sq (K:=K);have next:Gla.isOn (S.pt l.1) (S.pt l.2) z=false→∀j l',j<i+1→S.lines[j]?=some l'→Gla.isOn (S.pt l'.1) (S.pt l'.2) z=false:=by
    intro e j l' hj hl'
    by_cases ej:j=i
    ·subst ej;rw[hl]at hl';cases hl';exact e
    ·exact inv j l' (by lia) hl'
   have off:¬((S.pt l.1).y≤z.y∧z.y≤(S.pt l.2).y)→Gla.isOn (S.pt l.1) (S.pt l.2) z=false:=by
    intro ne;cases q:Gla.isOn (S.pt l.1) (S.pt l.2) z with
    | false=>rfl
    | true =>
     exfalso;unfold Gla.isOn Gla.between at q;simp at q;lia
   refine⟨c,_,rfl,pl.sq,rfl,_,_,rfl,_,_,rfl,rfl,?_⟩;refine⟨_,rfl,_,rfl,pa,_,_,V.ref c1,rfl,rfl,SqL.of D.pts,atr hc1,c1,_,_,_,rfl,rfl,g1,atC,_,rfl,e,_,_,_,rfl,rfl,gz,atC,_,_,rfl,rfl,_,rfl,?_⟩;refine Abg (fun e1=>?_) (fun e1=>?_)
   ·simp only[decide_eq_true_eq]at e1;refine⟨_,rfl,_,rfl,pa,_,_,V.ref c2,rfl,rfl,SqL.of D.pts,atr hc2,c2,_,_,_,rfl,rfl,g2,atC,_,_,rfl,rfl,_,rfl,?_⟩;refine Abg (fun e2=>?_) (fun e2=>?_)
    ·refine⟨_,rfl,_,rfl,pa,_,_,V.ref c1,rfl,rfl,SqL.of D.pts,atr hc1,_,rfl,_,rfl,pa,_,_,V.ref c2,rfl,rfl,SqL.of D.pts,atr hc2,_,rfl,c1,c2,e,S.pt l.1,S.pt l.2,z,rfl,p1,p2,hz,q1,q2,_,rfl,?_⟩;refine Abg (fun e3=>?_) (fun e3=>?_)
     ·have:Gla.onLines S z=true:=by
       unfold Gla.onLines;rw[List.any_eq_true];exact⟨l,List.mem_of_getElem? hl,e3⟩
      rw[this]at k;exact k
     ·exact⟨rfl,⟨_,_,rfl⟩,next (Bool.eq_false_iff.mpr e3)⟩
    ·simp only[decide_eq_true_eq]at e2;exact Akh ⟨rfl,⟨_,_,rfl⟩,next (off (by lia))⟩
   ·simp only[decide_eq_true_eq]at e1;exact⟨_,rfl,Akh (Akh ⟨rfl,⟨_,_,rfl⟩,next (off (by lia))⟩)⟩
  ·rintro σ H' ⟨rfl,⟨v3,v4,rfl⟩,inv⟩;have:Gla.onLines S z=false:=by
    unfold Gla.onLines;rw[List.any_eq_false];intro l hl;obtain⟨j,hj,ej⟩:=List.mem_iff_getElem.1 hl;rw[inv j l (by rw[List.length_map,D.lnsA.len];exact hj) (by rw[←ej];exact List.getElem?_eq_getElem hj)];simp
   rw[this]at k;exact k
end
abbrev Ahn:Stmt:=top Ao8
def fK (l:List Nat):List (Key×V):=l.map fun(n:Nat)=>((Sum.inl (n:Int):Key),V.bl true)
theorem Akl (j:Nat):∀l:List Nat,(Ac2 (fK l) (Sum.inl (j:Int))).isSome=decide (j∈l)
 | []=>by simp[fK,Ac2]
 | x::r=>by
  show(Ac2 ((Sum.inl (x:Int),V.bl true)::fK r) (Sum.inl (j:Int))).isSome=_
  by_cases e:x=j
  ·subst e;rw[Ab5 rfl];simp
  ·have ne:¬(Sum.inl (x:Int):Key)=Sum.inl (j:Int):=fun q=>e (by have:=Sum.inl.inj q;lia);rw[Ab6 ne,Akl j r];simp[Ne.symm e]
theorem Av9 {l:List Nat}{j:Nat}(h:j∉l):Af9 (fK l) (Sum.inl (j:Int)) (V.bl true)=fK (l++[j]):=by
 have:Ac2 (fK l) (Sum.inl (j:Int))=none:=by
  have:=Akl j l;cases q:Ac2 (fK l) (Sum.inl (j:Int)) with
  | none=>rfl
  | some v=>rw[q]at this;simp[h]at this
 rw[Afe _ this];unfold fK;rw[List.map_append];rfl
def shV:Option Nat→V
 | some n=>.int (n:Nat)
 | none=>.non
theorem Asf (j:Nat)(o:Option Nat):Bap (V.int (j:Nat)) (shV o)=true:=by cases o<;>rfl
theorem Ayi (j:Nat)(o:Option Nat):(!decide (V.int (j:Nat)=shV o))=decide (¬o=some j):=by
 cases o with
 | none=>simp[shV]
 | some n =>
  by_cases e:n=j
  ·subst e;simp[shV]
  ·have:¬V.int (j:Nat)=shV (some n):=fun q=>e (by unfold shV at q;injection q with q;lia);rw[decide_eq_false this];simp[e]
theorem Ac9 (l:List Nat)(x:Nat):vN l++[V.int (x:Nat)]=vN (l++[x]):=by unfold vN;rw[List.map_append];rfl
theorem Ann (shut:Option Nat)(l:List Nat)(j:Nat)(z:List Nat×List Nat):Pg.stepP shut (l++[j]) z=if shut=some j∨j∈(Pg.stepP shut l z).2 then Pg.stepP shut l z else(j::(Pg.stepP shut l z).1,(Pg.stepP shut l z).2++[j]):=by
 unfold Pg.stepP;rw[List.foldl_append];rfl
def Aie:Sp:=fun vs H Q _=>∃(a:Addr) (rows:List Addr) (H0:Hp) (S:Plan) (st:Nat) (shut:Option Nat) (fin:Array Bool) (m:Nat),vs=[.ref a,.int st,shV shut]∧LkAt H0 H a rows ((List.range S.pts.length).map S.near)∧Pg.R45 S∧S.pts.length≤4096∧m≤5000∧Pg.Reach S shut fin m [st] [st]∧
 ∀(H':Hp) (p:Addr) (found:List Nat),Same H H'→H' p=some (.dK (fK found))→Pg.Sim S.pts.length shut found fin→Q (.ref p) H'
section
variable {P:Program}{w:World}{K:W.Frag}{mg:Str→Option Value}{base:Heap}
theorem scReach:Aaa ["links","start","shut","found","waiting","here","number"] ["links","start","shut"] (Aa7 Ahn):=fsc
theorem Amr {f:Addr}{fd:FuncData}(F:Def K mg "reached" Ahn ["links","start","shut"] f fd):FnOk P w K mg base CX0 1 f fd ["links","start","shut"] Aie:=by
 refine F.fn.ok scReach (fun vs H Q E h=>?_) (fun cdv A outer s H vs Q E hr h=>?_)
 ·obtain⟨a,rows,H0,S,st,shut,fin,m,rfl,_⟩:=h;rfl
 ·obtain⟨a,rows,H0,S,st,shut,fin,m,rfl,L,r,nP,m5,R,k⟩:=h;have hu:=Agl hr
  refine⟨_,Aa1 (pS 3 scReach.nd (Awf (Asy (pv 1) Ads Awa) rfl rfl (by simp) (by decide)))
   (Aa1 (pS 4 scReach.nd (Ab8 (Aa0 (pv 1) Aa3)))
   (Aa1 (Ain PassesOwn.never (Ae5 (pv 4) (fun _=>rfl))
    (Aa1 (pS 5 scReach.nd (Ayy PySem.F.plainAttrs_list PySem.F.slot_list_pop PySem.F.type_list_pop Azf (pv 4)))
    (Aa4 (Aap PassesOwn.never rfl (Abf (pIL (pv 0) (pv 5))) (pG 6 scReach.nd)
     (Aa4 (Aat (PW.pt (Ag0 (Aaj Az2 (pv 6) (pv 2) (Aan _)) (Adr (Ag3 (Ad2 hu (pv 6) (pv 3))))))
      (Aa1 (Aei hu (pv 3) (pv 6) Ads rfl) (Aa4 (Abo (Aej PySem.F.plainAttrs_list PySem.F.slot_list_append PySem.F.type_list_append Ab3 (pv 4) (Aa0 (pv 6) Aa3))))) Aae))))))
   (Aa4 (Aa9 (pv 3))))),?_⟩
  intro fo hfo;refine⟨_,rfl,Aa2,[(Sum.inl (st:Int),V.bl true)],rfl,(by show 1≤15;decide),?_⟩;have ef:Ahv [] [((Sum.inl (st:Int):Key),V.bl true)]=fK [st]:=rfl;rw[ef,Avo];have s1:Same H (upd H fo (.dK (fK [st]))):=Same.new hfo;refine⟨_,rfl,sz1,fun wa hwa=>?_⟩;have s2:=s1.trans (Same.new (o:=.lst [.int (st:Nat)]) hwa);have nwf:fo≠wa:=fun q=>by rw[←q,Aa2]at hwa;cases hwa
  have hfo0:H fo=none:=hfo;have hwa0:H wa=none:=s1.free hwa;have len2:∀{m todo found},Pg.Reach S shut fin m todo found→found.length≤4096:=fun {m todo found} R=>by
   obtain⟨⟨seen,sm,_⟩,_⟩:=R;have:=Pg.len_le sm.nod (m:=List.range S.pts.length) (fun x hx=>List.mem_range.2 (sm.lt x hx));rw[List.length_range]at this;lia
  refine⟨fun m' σ H'=>m'≤m∧∃(todo found:List Nat) (v5 v6:Option V),σ=[some (.ref a),some (.int st),some (shV shut),some (.ref fo),some (.ref wa),v5,v6]∧Same H H'∧H' fo=some (.dK (fK found))∧H' wa=some (.lst (vN todo.reverse))∧Pg.Reach S shut fin m' todo found,
   ⟨m,Nat.le_refl _,[st],[st],none,none,rfl,s2,by rw[Aa6 nwf,Aa2],Aa2,R⟩,?_⟩
  rintro m' σ H' ⟨mm,todo,found,v5,v6,rfl,s3,hf,hw,R'⟩;refine⟨_,rfl,_,.inl ⟨_,SqL.of hw,rfl⟩,?_⟩;refine Abg (fun e=>?_) (fun e=>?_)
  ·-- here=waiting.pop()
   cases todo with
   | nil=>simp[vN]at e
   | cons kk rr =>
    obtain⟨m1,em,R1⟩:=R'.step r;have kn:=R'.lt kk (by simp);have rl:rows.length=S.pts.length:=by have:=L.len;simpa using this
    obtain⟨c,hc⟩ : ∃c,rows[kk]?=some c:=⟨_,List.getElem?_eq_getElem (by lia)⟩
    obtain⟨l,el,hcl⟩:=L.at_ kk c hc;have:l=S.near kk:=by
     rw[List.getElem?_map,List.getElem?_range kn]at el;exact(Option.some.inj el).symm
    subst this;have ew:vN (kk::rr).reverse=vN rr.reverse++[V.int (kk:Nat)]:=by rw[List.reverse_cons,Ac9]
    have frw:∀b o,H b=some o→b≠fo∧b≠wa:=fun b o e=>⟨Aa8 e hfo0,Aa8 e hwa0⟩
    refine⟨fun σ' H''=>∃(v5 v6:Option V),σ'=[some (.ref a),some (.int st),some (shV shut),some (.ref fo),some (.ref wa),v5,v6]∧Same H H''∧H'' fo=some (.dK (fK (Pg.stepP shut (S.near kk) (rr,found)).2))∧H'' wa=some (.lst (vN (Pg.stepP shut (S.near kk) (rr,found)).1.reverse)),
     fun σ' H'' ⟨v5,v6,e1,e2,e3,e4⟩=>⟨m1,by lia,by lia,_,_,v5,v6,e1,e2,e3,e4,R1⟩,?_⟩
    refine⟨_,rfl,.inl ⟨rfl,_,SqL.of hw⟩,wa,_,V.int (kk:Nat),rfl,rfl,hw,by rw[ew];simp,?_⟩;rw[ew,List.dropLast_concat];have nfw:fo≠wa:=nwf;have s4:Same H (upd H' wa (.lst (vN rr.reverse))):=fun b o e=>by rw[Aa6 (frw b o e).2];exact s3 b o e
    have hcl4:=s4 _ _ hcl;refine⟨_,rfl,_,rfl,a,_,_,V.ref c,rfl,rfl,SqL.of (s4 _ _ L.lst),Ae0 (by rw[List.getElem?_map,hc];rfl),c,rfl,⟨_,SqL.of hcl4⟩,?_⟩
    refine Abr (K:=K) (a:=c) (xs:=vN (S.near kk)) (fun i σ' H''=>∃(v6:Option V),σ'=[some (.ref a),some (.int st),some (shV shut),some (.ref fo),some (.ref wa),some (.int (kk:Nat)),v6]∧Same H H''∧
     H'' fo=some (.dK (fK (Pg.stepP shut ((S.near kk).take i) (rr,found)).2))∧H'' wa=some (.lst (vN (Pg.stepP shut ((S.near kk).take i) (rr,found)).1.reverse)))
     ⟨_,rfl,s4,by rw[Aa6 nfw];exact hf,Aa2⟩ (fun i σ' H'' _ ⟨_,_,s5,_⟩=>SqL.of (s5 _ _ hcl)) ?_ ?_
    ·rintro i y σ' H'' hi ⟨v6,rfl,s5,hf5,hw5⟩;obtain⟨j,hj,rfl⟩ : ∃j,(S.near kk)[i]?=some j∧y=V.int (j:Nat):=by
      unfold vN at hi;rw[List.getElem?_map]at hi;cases q:(S.near kk)[i]? with
      | none=>rw[q]at hi;cases hi
      | some j=>rw[q]at hi;exact⟨j,rfl,(Option.some.inj hi).symm⟩
     obtain⟨⟨seen,sm,le,_⟩,_⟩:=R';have nl:∀x,x∈(S.near kk).take i→x<S.pts.length:=fun x hx=>by
      rcases (Pg.mem_near5 (fun l hl=>(r.lin l hl).1) kk x).1 (List.mem_of_mem_take hx)with q | q<;>(have:=r.lin _ q;simp only[]at this;lia)
     obtain⟨z1,z2,z3⟩:=Pg.step_sim ((S.near kk).take i) rr found seen nl sm;have lenF:(Pg.stepP shut ((S.near kk).take i) (rr,found)).2.length≤4096:=by
      have:=Pg.len_le z2.nod (m:=List.range S.pts.length) (fun x hx=>List.mem_range.2 (z2.lt x hx));rw[List.length_range]at this;lia
     have lenT:(Pg.stepP shut ((S.near kk).take i) (rr,found)).1.length≤5000:=by
      rw[z1];simp only[List.length_cons]at le;lia
     have st1:=Ann shut ((S.near kk).take i) j (rr,found);rw[←Aak hj]at st1;generalize Pg.stepP shut ((S.near kk).take i) (rr,found)=zz at *;refine⟨_,rfl,_,rfl,Asf j shut,_,rfl,?_⟩;rw[Ayi];refine Abg (fun e1=>?_) (fun e1=>?_)
     ·simp only[decide_eq_true_eq]at e1;refine⟨_,rfl,_,rfl,fo,_,rfl,DGet.k (k:=Sum.inl (j:Int)) hf5,_,rfl,?_⟩;rw[Akl];refine Abg (fun e2=>?_) (fun e2=>?_)
      ·have nj:j∉zz.2:=by
        intro q;rw[decide_eq_true q]at e2;cases e2
       rw[if_neg (by intro q;rcases q with q | q;exact e1 q;exact nj q)]at st1;have lk:(fK zz.2).length<sizeLine:=by unfold fK;rw[List.length_map];exact Nat.lt_of_le_of_lt lenF (by decide)
       refine⟨_,rfl,_,rfl,fo,_,rfl,DPut.k (k:=Sum.inl (j:Int)) hf5 lk,?_⟩;rw[Av9 nj];have hw6:(upd H'' fo (.dK (fK (zz.2++[j])))) wa=some (.lst (vN zz.1.reverse)):=by rw[Aa6 (Ne.symm nfw)];exact hw5
       refine⟨_,rfl,.inl ⟨rfl,_,SqL.of hw6⟩,_,rfl,wa,_,_,rfl,rfl,hw6,by unfold vN;rw[List.length_map,List.length_reverse];exact Nat.lt_of_le_of_lt lenT (by decide),?_⟩;refine⟨_,rfl,?_,?_,?_⟩
       ·intro b o e;rw[Aa6 (frw b o e).2,Aa6 (frw b o e).1];exact s5 b o e
       ·rw[Aa6 nfw,Aa2,st1]
       ·rw[Aa2,st1,Ac9,List.reverse_cons]
      ·have yj:j∈zz.2:=by
        apply Classical.byContradiction;intro q;rw[decide_eq_false q]at e2;exact e2 rfl
       rw[if_pos (.inr yj)]at st1;exact⟨_,rfl,s5,by rw[st1];exact hf5,by rw[st1];exact hw5⟩
     ·simp only[decide_eq_true_eq]at e1;have:shut=some j:=Classical.byContradiction e1;rw[if_pos (.inl this)]at st1;exact Akh ⟨_,rfl,s5,by rw[st1];exact hf5,by rw[st1];exact hw5⟩
    ·rintro σ' H'' ⟨v6,rfl,s5,hf5,hw5⟩;have el:(vN (S.near kk)).length=(S.near kk).length:=by unfold vN;rw[List.length_map]
     rw[el,List.take_length]at hf5 hw5;exact⟨_,_,rfl,s5,hf5,hw5⟩
  ·cases todo with
   | cons kk rr=>exfalso;apply e;simp[vN]
   | nil=>exact⟨_,rfl,k H' fo found s3 hf R'.done⟩
end
abbrev Ba9:Stmt:=top Afb
abbrev Asl:Stmt:=top Afa
abbrev Ba6:Stmt:=top Aiw
def Aci (S:Plan)(i:Nat)(x:Mark):Bool:=!Gla.clear S x.at_||(decide (0<i)&&(match S.marks[i-1]? with
 | some y=>!y.at_.below x.at_
 | none=>false))
theorem Anc (S:Plan):Gla.firstBad (Gla.markOk S) Gla.markBelow S.marks=Gla.firstAt (Aci S) S.marks:=by
 unfold Gla.firstBad
 congr 1
 funext i x
 unfold Aci;cases S.marks[i-1]?<;>rfl
def Bab (S:Plan):Prop:=Pg.R45 S∧4≤S.pts.length
section
variable {P:Program}{w:World}{K:W.Frag}{mg:Str→Option Value}{base:Heap}
theorem scCut:Aaa ["drawing","found","number"] ["drawing"] (Aa7 Ba9):=fsc
theorem Azb {f fR fk C fP fL fM:Addr}{fd fdR fdK fdP fdL fdM:FuncData}(F:Def K mg "cut_off_point" Ba9 ["drawing"] f fd)(FR:Def K mg "reached" Ahn ["links","start","shut"] fR fdR)(FK:Def K mg "links_of" Adn ["drawing"] fk fdK)(M:TMeth K mg C fP fL fM fdP fdL fdM)(nr:mg "range" = none) :
 FnOk P w K mg base CX0 2 f fd ["drawing"] (Ae2 C Bab fun S=>((List.range S.pts.length).find? fun(i:Nat)=>!((Gla.seenFrom S.nears S.pts.length 0 (Gla.noneSeen S.pts.length)).getD i false)).map Gla.ptPlace):=by
 have T:=M.T;have GP:FnOk P w K mg base CX0 1 fP fdP ["self","number"] (Adm C):=Adu M.FP M.c;have GK:FnOk P w K mg base CX0 1 fk fdK ["drawing"] (Aft C):=Afh FK T;have GR:FnOk P w K mg base CX0 1 fR fdR ["links","start","shut"] Aie:=Amr FR;refine F.fn.ok scCut (fun vs H Q E h=>?_) (fun cdv A outer s H vs Q E hr h=>?_)
 ·obtain⟨d,S,pa,la,ma,as,ls,ms,rfl,_⟩:=h;rfl
 ·obtain⟨d,S,pa,la,ma,as,ls,ms,rfl,D,⟨r,h4⟩,k⟩:=h;have k:∀H',Same H H'→Q (At5 (((List.range S.pts.length).find? fun(i:Nat)=>!((Gla.seenFrom S.nears S.pts.length 0 (Gla.noneSeen S.pts.length)).getD i false)).map Gla.ptPlace)) H':=k;have hu:=Agl hr
  refine⟨_,Aa1 (pS 1 scCut.nd (pCD FR GR hr (Aa0 (pCD FK GK hr (Aa0 (pv 0) Aa3)) (Aa0 Aa5 (Aa0 Acv Aa3)))))
   (Aa1 (Aap PassesOwn.never rfl (Ace rfl nr (Aa0 (Aaf Aab (by rfl) M.nl PySem.boot_len (Aa0 (Aal (pv 0) rfl) Aa3)) Aa3)) (pG 2 scCut.nd)
    (Aa4 (Aat (Ag3 (Ad2 hu (pv 2) (pv 1))) (Aa4 (Aa9 (Aax (pv 0) T.cl M.mP GP hr M.bP .nil Abm (Aa0 (pv 2) Aa3)))) Aae)))
   (Aa4 (Aa9 Acv))),?_⟩
  have nP:=D.nP;refine⟨_,rfl,d,S,pa,la,ma,as,ls,ms,rfl,D,r.lin,fun H1 a rows s1 L=>?_⟩;refine⟨a,rows,H,S,0,none,_,_,rfl,L,r,nP,by lia,Pg.Reach.start0 h4,fun H2 p found s2 hp sm=>?_⟩;have s12:=s1.trans s2;have D2:=D.same s12;obtain⟨dx,hd⟩:=D2.ins;have noP:(dfs S.w S.h pa la ma).lookup ("point_place" : Str)=none:=Ac0 _ _ _ _ _ (by decide +kernel) (by decide +kernel) (by decide +kernel) (by decide +kernel) (by decide +kernel)
  refine⟨_,rfl,d,C,dx,_,_,rfl,hd,T.cl,T.nP,Adx _ _ _ _ _,pa,_,rfl,.inl (SqL.of D2.pts),?_⟩;rw[List.length_map,D.ptsA.len];refine⟨(S.pts.length:Int),rfl,by lia,by lia,?_⟩;have en:((S.pts.length:Int)).toNat=S.pts.length:=by lia
  rw[en];refine Ach (n:=S.pts.length) (fun i σ H'=>H'=H2∧(∃v2:Option V,σ=[some (.ref d),some (.ref p),v2])∧∀j,j<i→(!((Gla.seenFrom S.nears S.pts.length 0 (Gla.noneSeen S.pts.length)).getD j false))=false) ⟨rfl,⟨_,rfl⟩,by intro j hj;lia⟩ ?_ ?_
  ·rintro i σ H' hi ⟨rfl,⟨v2,rfl⟩,inv⟩;have ei:(0:Int)+(i:Nat)=((i:Nat):Int):=by lia
   have seen:=sm.seen hi;refine⟨_,rfl,_,rfl,p,_,rfl,(by show DGet _ _ (V.int ((0:Int)+(i:Nat))) _;rw[ei];exact DGet.k (k:=Sum.inl (i:Int)) hp),_,rfl,?_⟩;rw[Akl];refine Abg (fun e=>?_) (fun e=>?_)
   ·have ni:i∉found:=by
     intro q;rw[decide_eq_true q]at e;cases e
    refine⟨_,rfl,d,dx,_,rfl,hd,noP,_,rfl,d,i,(by show V.ref d::([V.int ((0:Int)+(i:Nat))]++[])=[V.ref d,V.int (i:Nat)];rw[ei];rfl),?_⟩;have:=k _ s12
    rw[Aeu hi (by
     cases q:(Gla.seenFrom S.nears S.pts.length 0 (Gla.noneSeen S.pts.length)).getD i false with
     | false=>rfl
     | true=>exact absurd (seen.1 q) ni) inv]at this
    exact this
   ·have yi:i∈found:=by
     apply Classical.byContradiction;intro q;rw[decide_eq_false q]at e;exact e rfl
    refine⟨rfl,⟨_,rfl⟩,fun j hj=>?_⟩
    by_cases ej:j=i
    ·subst ej;rw[seen.2 yi];rfl
    ·exact inv j (by lia)
  ·rintro σ H' ⟨rfl,⟨v2,rfl⟩,inv⟩;have:=k _ s12;rw[Aco inv]at this;exact this
theorem scPart:Aaa ["drawing","links","number","start"] ["drawing"] (Aa7 Asl):=fsc
theorem Awm {f fR fk C fP fL fM:Addr}{fd fdR fdK fdP fdL fdM:FuncData}(F:Def K mg "parting_point" Asl ["drawing"] f fd)(FR:Def K mg "reached" Ahn ["links","start","shut"] fR fdR)(FK:Def K mg "links_of" Adn ["drawing"] fk fdK)(M:TMeth K mg C fP fL fM fdP fdL fdM)(nr:mg "range" = none) :
 FnOk P w K mg base CX0 2 f fd ["drawing"] (Ae2 C Bab fun S=>((List.range S.pts.length).find? (Gla.cuts S.nears S.pts.length)).map Gla.ptPlace):=by
 have T:=M.T;have GP:FnOk P w K mg base CX0 1 fP fdP ["self","number"] (Adm C):=Adu M.FP M.c;have GK:FnOk P w K mg base CX0 1 fk fdK ["drawing"] (Aft C):=Afh FK T;have GR:FnOk P w K mg base CX0 1 fR fdR ["links","start","shut"] Aie:=Amr FR;refine F.fn.ok scPart (fun vs H Q E h=>?_) (fun cdv A outer s H vs Q E hr h=>?_)
 ·obtain⟨d,S,pa,la,ma,as,ls,ms,rfl,_⟩:=h;rfl
 ·obtain⟨d,S,pa,la,ma,as,ls,ms,rfl,D,⟨r,h4⟩,k⟩:=h;have k:∀H',Same H H'→Q (At5 (((List.range S.pts.length).find? (Gla.cuts S.nears S.pts.length)).map Gla.ptPlace)) H':=k
  refine⟨_,Aa1 (pS 1 scPart.nd (pCD FK GK hr (Aa0 (pv 0) Aa3)))
   (Aa1 (Aap PassesOwn.never rfl (Ace rfl nr (Aa0 (Aaf Aab (by rfl) M.nl PySem.boot_len (Aa0 (Aal (pv 0) rfl) Aa3)) Aa3)) (pG 2 scPart.nd)
    (Aa1 (pS 3 scPart.nd (At0 (Aaj Anx (pv 2) Aa5 (Aan _)) Aa5 Aa5))
    (Aa4 (Aat (Aaj Acf (Aaf Arw (by rfl) M.nl PySem.boot_len (Aa0 (pCD FR GR hr (Aa0 (pv 1) (Aa0 (pv 3) (Aa0 (pv 2) Aa3)))) Aa3))
     (Ab2 Ac4 (Aaf Aab (by rfl) M.nl PySem.boot_len (Aa0 (Aal (pv 0) rfl) Aa3)) Aa5) (Aan _))
     (Aa4 (Aa9 (Aax (pv 0) T.cl M.mP GP hr M.bP .nil Abm (Aa0 (pv 2) Aa3)))) Aae))))
   (Aa4 (Aa9 Acv))),?_⟩
  have nP:=D.nP;refine⟨_,rfl,d,S,pa,la,ma,as,ls,ms,rfl,D,r.lin,fun H1 a rows s1 L=>?_⟩;have D1:=D.same s1;obtain⟨dx,hd⟩:=D1.ins;have noP:(dfs S.w S.h pa la ma).lookup ("point_place" : Str)=none:=Ac0 _ _ _ _ _ (by decide +kernel) (by decide +kernel) (by decide +kernel) (by decide +kernel) (by decide +kernel);refine⟨_,rfl,d,C,dx,_,_,rfl,hd,T.cl,T.nP,Adx _ _ _ _ _,pa,_,rfl,.inl (SqL.of D1.pts),?_⟩
  rw[List.length_map,D.ptsA.len];refine⟨(S.pts.length:Int),rfl,by lia,by lia,?_⟩;have en:((S.pts.length:Int)).toNat=S.pts.length:=by lia
  rw[en];refine Ach (n:=S.pts.length) (fun i σ H'=>Same H1 H'∧(∃v2 v3:Option V,σ=[some (.ref d),some (.ref a),v2,v3])∧∀j,j<i→Gla.cuts S.nears S.pts.length j=false) ⟨Same.refl _,⟨_,_,rfl⟩,by intro j hj;lia⟩ ?_ ?_
  ·rintro i σ H' hi ⟨s2,⟨v2,v3,rfl⟩,inv⟩;have ei:(0:Int)+(i:Nat)=((i:Nat):Int):=by lia
   have body:∀v:V,v=V.int ((if i=0 then 1 else 0:Nat):Nat)→Ay8 (Ap3 (tOp (rI0 fun i j=>.bl (decide (i<j))) (tCB (fun xs H Q=>∃a kvs,xs=[V.ref a]∧H a=some (.dK kvs)∧Q (.int kvs.length) H) (Abt (Aia Aie [] E0 (Abt (Acc 1) (Abt (Acc 3) (Abt (Acc 2) Ama)))) Ama))
    (tOp (rI0 fun i j=>.int (i-j)) (tCB (fun xs H Q=>∃p ys,xs=[.ref p]∧(SqL K H p ys∨SqT K H p ys)∧Q (.int ys.length) H) (Abt (Ba4 K (Acc 0) "points") Ama)) (tC (.int 1)))))
    (As4 (Asc C "point_place" (Adm C) [] E0 (Acc 0) (Abt (Acc 2) Ama))) Ap5
    { nx:=fun σ H'=>Same H1 H'∧(∃v2 v3:Option V,σ=[some (.ref d),some (.ref a),v2,v3])∧∀j,j<i+1→Gla.cuts S.nears S.pts.length j=false,rt:=Q,bk:=As4 (tC .non) { nx:=fun _ H'=>Q .non H',rt:=Q },ct:=fun σ H'=>Same H1 H'∧(∃v2 v3:Option V,σ=[some (.ref d),some (.ref a),v2,v3])∧∀j,j<i+1→Gla.cuts S.nears S.pts.length j=false }
    [some (V.ref d),some (.ref a),some (.int ((0:Int)+(i:Nat))),some v] H':=by
    rintro v rfl;refine⟨_,rfl,_,rfl,_,rfl,a,rows,H,S,(if i=0 then 1 else 0),some i,_,_,(by rw[ei];rfl),L.same s2,r,nP,(by lia:S.pts.length+1≤5000),Pg.Reach.startV hi h4,fun H3 p found s3 hp sm=>?_⟩;have s23:=s2.trans s3;have D3:=D1.same s23;obtain⟨dx3,hd3⟩:=D3.ins;refine⟨p,_,rfl,hp,_,rfl,d,C,dx3,_,_,rfl,hd3,T.cl,T.nP,Adx _ _ _ _ _,pa,_,rfl,.inl (SqL.of D3.pts),_,_,rfl,rfl,_,_,rfl,rfl,_,rfl,?_⟩;rw[List.length_map,D.ptsA.len]
    have lk:(fK found).length=found.length:=by unfold fK;rw[List.length_map]
    rw[lk];have cu:Gla.cuts S.nears S.pts.length i=true↔found.length<S.pts.length-1:=sm.cuts hi;refine Abg (fun e=>?_) (fun e=>?_)
    ·simp only[decide_eq_true_eq]at e;refine⟨_,rfl,d,dx3,_,rfl,hd3,noP,_,rfl,d,i,(by show V.ref d::([V.int ((0:Int)+(i:Nat))]++[])=[V.ref d,V.int (i:Nat)];rw[ei];rfl),?_⟩;have:=k _ (s1.trans s23);rw[Aeu hi (cu.2 (by lia)) inv]at this;exact this
    ·simp only[decide_eq_true_eq]at e;refine⟨s23,⟨_,_,rfl⟩,fun j hj=>?_⟩
     by_cases ej:j=i
     ·subst ej;cases q:Gla.cuts S.nears S.pts.length j with
      | false=>rfl
      | true=>have:=cu.1 q;lia
     ·exact inv j (by lia)
   refine⟨_,rfl,rfl,_,rfl,?_⟩;refine Abg (fun e=>?_) (fun e=>?_)
   ·have i0:i=0:=by
     have:=of_decide_eq_true e;injection this with this
     lia
    exact body _ (by rw[if_pos i0];rfl)
   ·have i0:¬i=0:=by
     intro q;apply e;subst q;rfl
    exact body _ (by rw[if_neg i0];rfl)
  ·rintro σ H' ⟨s2,⟨v2,v3,rfl⟩,inv⟩;have:=k _ (s1.trans s2);rw[Aco inv]at this;exact this
end
theorem Ar5 {A B:Prop}(h:A):if (!false)=true then A else B:=by rw[Bool.not_false,if_pos rfl];exact h
theorem Azo {A B:Prop}(h:B):if (!true)=true then A else B:=by rw[Bool.not_true,if_neg Bool.false_ne_true];exact h
section
variable {P:Program}{w:World}{K:W.Frag}{mg:Str→Option Value}{base:Heap}
theorem scWMk:Aaa ["drawing","number","mark"] ["drawing"] (Aa7 Ba6):=fsc
theorem Az7 {f fB fS fO fT C fP fL fM:Addr}{fd fdB fdS fdO fdT fdP fdL fdM:FuncData}(F:Def K mg "wrong_mark" Ba6 ["drawing"] f fd)(FB:DefB K mg fB fdB)(FS:Def K mg "is_on_some_line" Afw ["drawing","spot"] fS fdS)
 (FO:Def K mg "is_on" Ajw ["p","q","r"] fO fdO) (FT:Def K mg "turn_of" Ack ["p","q","r"] fT fdT) (M:TMeth K mg C fP fL fM fdP fdL fdM) (nmin:mg "min" = none) (nmax:mg "max" = none) (ne:mg "enumerate" = none) :
 FnOk P w K mg base CX0 4 f fd ["drawing"] (Ae2 C Pg.R45 fun S=>(Gla.firstAt (Aci S) S.marks).map (Gla.markPlace S)):=by
 have T:=M.T;have GM:FnOk P w K mg base CX0 3 fM fdM ["self","number"] (Ame C):=Aqe M.FM M.FL M.bL M.mL M.FP M.bP M.mP M.T M.c M.nl;have GB:FnOk P w K mg base CX0 2 fB fdB ["q","p"] Ae3:=Ahr FB;have GS:FnOk P w K mg base CX0 3 fS fdS ["drawing","spot"] (Aif C):=Aqc FS FO FT nmin nmax T;refine F.fn.ok scWMk (fun vs H Q E h=>?_) (fun cdv A outer s H vs Q E hr h=>?_)
 ·obtain⟨d,S,pa,la,ma,as,ls,ms,rfl,_⟩:=h;rfl
 ·obtain⟨d,S,pa,la,ma,as,ls,ms,rfl,D,r,k⟩:=h;have k:∀H',Same H H'→Q (At5 ((Gla.firstAt (Aci S) S.marks).map (Gla.markPlace S))) H':=k;have hr1:Room 2 _:=hr.mono (by decide)
  refine⟨_,Aa1 (Aap PassesOwn.never rfl (Abw rfl ne (Aa0 (Aal (pv 0) rfl) Aa3)) (Abu rfl (Aag (pG 1 scWMk.nd) (Aag (pG 2 scWMk.nd) Abc)))
   (Aa1 (Aat (Aq2 (PW.pt (Ag0 (Ada Acf Acf Aa5 (pIT (pv 2) Aa5) (Aal (pv 0) rfl)) (Adr (Ada Acf Acf Aa5 (pIT (pv 2) Aa5) (Aal (pv 0) rfl))))))
    (Aa4 (Aa9 (Aax (pv 0) T.cl M.mM GM hr M.bM .nil Abm (Aa0 (pv 1) Aa3)))) Aae)
   (Aa1 (Aat (PW.pt (Ag0 (Aaj Adt (pv 1) Aa5 (Aan _)) (Adr (Aq2 (Ad0 (pCD FB.toDef GB hr1 (Aa0 (pv 2) (Aa0 (pIL (Aal (pv 0) rfl) (Ab2 Ac4 (pv 1) Aa5)) Aa3))))))))
    (Aa4 (Aa9 (Aax (pv 0) T.cl M.mM GM hr M.bM .nil Abm (Aa0 (pv 1) Aa3)))) Aae)
   (Aa4 (Aat (Ad0 (pCD FS GS hr (Aa0 (pv 0) (Aa0 (pv 2) Aa3))))
    (Aa4 (Aa9 (Aax (pv 0) T.cl M.mM GM hr M.bM .nil Abm (Aa0 (pv 1) Aa3)))) Aae)))))
   (Aa4 (Aa9 Acv)),?_⟩
  obtain⟨dx,hd⟩:=D.ins
  refine⟨_,rfl,d,C,dx,_,_,rfl,hd,T.cl,T.nM,Aub _ _ _ _ _,ma,_,rfl,SqL.of D.mks,Abk (K:=K) (a:=ma) (xs:=ms.map V.ref) (fun i σ H'=>(∃v1 v2:Option V,σ=[some (.ref d),v1,v2])∧Same H H'∧∀j y,j<i→S.marks[j]?=some y→Aci S j y=false)
   ⟨⟨_,_,rfl⟩,Same.refl H,by intro j y hj;lia⟩ (fun i σ H' _ ⟨_,s1,_⟩=>SqL.of (s1 _ _ D.mks)) ?_ ?_⟩
  ·rintro i x σ H' t hi ⟨⟨v1,v2,rfl⟩,s1,inv⟩ ht;obtain⟨c,hc,rfl⟩:=Aad hi;obtain⟨p0,hp0,pc⟩:=D.mksA.at_ i c hc;rw[List.getElem?_map]at hp0;obtain⟨mk,hp,e0⟩ : ∃mk,S.marks[i]?=some mk∧mk.at_=p0:=by
    cases q:S.marks[i]? with
    | none=>rw[q]at hp0;cases hp0
    | some mk=>rw[q]at hp0;exact⟨mk,rfl,Option.some.inj hp0⟩
   subst e0;have s2:=s1.trans (Same.new (o:=.tup [.int (i:Nat),.ref c]) ht);have D2:=D.same s2;obtain⟨_,g⟩:=(pc.same s2).sq (K:=K);obtain⟨dx2,hd2⟩:=D2.ins;have noM:(dfs S.w S.h pa la ma).lookup ("mark_place" : Str)=none:=Ac0 _ _ _ _ _ (by decide +kernel) (by decide +kernel) (by decide +kernel) (by decide +kernel) (by decide +kernel);have ret:Aci S i mk=true→∀H'',Same H H''→Q (.int (Gla.markPlace S i:Nat)) H'':=fun e H'' s''=>by
    have:=k H'' s'';rw[Ac8 hp e inv]at this;exact this
   have outB:¬(0<mk.at_.x∧mk.at_.x<S.w∧0<mk.at_.y∧mk.at_.y<S.h)→Aci S i mk=true:=fun q=>by
    have:Gla.clear S mk.at_=false:=by
     cases z:Gla.clear S mk.at_ with
     | false=>rfl
     | true=>have:=(Pg.clear_iff S mk.at_).1 z;exact absurd ⟨this.1,this.2.1,this.2.2.1,this.2.2.2.1⟩ q
    unfold Aci;rw[this];rfl
   have next:Aci S i mk=false→∀H'',Same H H''→(∃v1 v2:Option V,[some (V.ref d),some (.int (i:Nat)),some (.ref c)]=[some (.ref d),v1,v2])∧Same H H''∧∀j y,j<i+1→S.marks[j]?=some y→Aci S j y=false:=fun e H'' s'' =>
    ⟨⟨_,_,rfl⟩,s'',fun j y hj hy=>by
     by_cases ej:j=i
     ·subst ej;rw[hp]at hy;cases hy;exact e
     ·exact inv j y (by lia) hy⟩
   refine⟨t,_,rfl,SqT.of Aa2,rfl,_,_,rfl,_,_,rfl,rfl,?_⟩;refine⟨_,rfl,c,_,_,_,rfl,rfl,g,atC,_,_,rfl,rfl,_,rfl,?_⟩;refine Abg (fun e1=>?_) (fun e1=>?_)
   rotate_left
   ·simp only[decide_eq_true_eq]at e1;exact⟨_,rfl,Akh (Ar5 ⟨_,rfl,d,dx2,_,rfl,hd2,noM,_,rfl,d,i,S,pa,la,ma,as,ls,ms,rfl,D2,ret (outB (by lia)) _ s2⟩)⟩
   simp only[decide_eq_true_eq]at e1;refine⟨_,rfl,d,C,dx2,_,_,rfl,hd2,T.cl,T.nW,Au7 _ _ _ _ _,_,_,rfl,rfl,_,rfl,?_⟩;refine Abg (fun e2=>?_) (fun e2=>?_)
   rotate_left
   ·simp only[decide_eq_true_eq]at e2;exact Ar5 ⟨_,rfl,d,dx2,_,rfl,hd2,noM,_,rfl,d,i,S,pa,la,ma,as,ls,ms,rfl,D2,ret (outB (by lia)) _ s2⟩
   simp only[decide_eq_true_eq]at e2;refine⟨_,rfl,c,_,_,_,rfl,rfl,g,atC,_,_,rfl,rfl,_,rfl,?_⟩;refine Abg (fun e3=>?_) (fun e3=>?_)
   rotate_left
   ·simp only[decide_eq_true_eq]at e3;exact⟨_,rfl,Ar5 ⟨_,rfl,d,dx2,_,rfl,hd2,noM,_,rfl,d,i,S,pa,la,ma,as,ls,ms,rfl,D2,ret (outB (by lia)) _ s2⟩⟩
   simp only[decide_eq_true_eq]at e3;refine⟨_,rfl,d,C,dx2,_,_,rfl,hd2,T.cl,T.nH,Auc _ _ _ _ _,_,_,rfl,rfl,_,rfl,?_⟩
   by_cases e4:(mk.at_.y:Int)<(S.h:Nat)
   rotate_left
   ·rw[decide_eq_false e4];exact Ar5 ⟨_,rfl,d,dx2,_,rfl,hd2,noM,_,rfl,d,i,S,pa,la,ma,as,ls,ms,rfl,D2,ret (outB (by lia)) _ s2⟩
   rw[decide_eq_true e4];refine Azo ?_;have clr:Gla.clear S mk.at_ = !Gla.onLines S mk.at_:=by
    unfold Gla.clear;rw[decide_eq_true (show 0<mk.at_.x by lia),decide_eq_true (show mk.at_.x<S.w by lia),decide_eq_true (show 0<mk.at_.y by lia),decide_eq_true (show mk.at_.y<S.h by lia)];rfl
   have last:∀H3,Same H H3→(Gla.onLines S mk.at_=false→Aci S i mk=false)→Ay8 (tB (Aia (Aif C) [] E0 (Abt (Acc 0) (Abt (Acc 2) Ama)))) (As4 (Asc C "mark_place" (Ame C) [] E0 (Acc 0) (Abt (Acc 1) Ama))) Ap5
    { nx:=fun σ H'=>(∃v1 v2:Option V,σ=[some (.ref d),v1,v2])∧Same H H'∧∀j y,j<i+1→S.marks[j]?=some y→Aci S j y=false,rt:=Q,bk:=As4 (tC .non) { nx:=fun _ H'=>Q .non H',rt:=Q },ct:=fun σ H'=>(∃v1 v2:Option V,σ=[some (.ref d),v1,v2])∧Same H H'∧∀j y,j<i+1→S.marks[j]?=some y→Aci S j y=false }
    [some (V.ref d),some (.int (i:Nat)),some (.ref c)] H3:=by
    intro H3 s3 hb;have D3:=D.same s3;obtain⟨dx3,hd3⟩:=D3.ins;refine⟨_,rfl,_,rfl,d,c,mk.at_,S,pa,la,ma,as,ls,ms,rfl,D3,pc.same s3,r,_,rfl,?_⟩;refine Abg (fun e5=>?_) (fun e5=>?_)
    ·refine⟨_,rfl,d,dx3,_,rfl,hd3,noM,_,rfl,d,i,S,pa,la,ma,as,ls,ms,rfl,D3,ret ?_ _ s3⟩;unfold Aci;rw[clr,e5];rfl
    ·exact next (hb (Bool.eq_false_iff.mpr e5)) _ s3
   refine⟨_,rfl,_,_,rfl,rfl,_,rfl,?_⟩;refine Abg (fun e5=>?_) (fun e5=>?_)
   ·simp only[decide_eq_true_eq]at e5;have i0:0<i:=by lia
    obtain⟨cp,hcp⟩ : ∃cp,ms[i-1]?=some cp:=⟨_,List.getElem?_eq_getElem (by have:=(List.getElem?_eq_some_iff.mp hc).1;lia)⟩
    obtain⟨q0,hq0,pcp⟩:=D.mksA.at_ (i-1) cp hcp;rw[List.getElem?_map]at hq0;obtain⟨mp,hmp,e0⟩ : ∃mp,S.marks[i-1]?=some mp∧mp.at_=q0:=by
     cases q:S.marks[i-1]? with
     | none=>rw[q]at hq0;cases hq0
     | some mp=>rw[q]at hq0;exact⟨mp,rfl,Option.some.inj hq0⟩
    subst e0;refine⟨_,rfl,_,rfl,d,C,dx2,_,_,rfl,hd2,T.cl,T.nM,Aub _ _ _ _ _,_,rfl,_,_,rfl,rfl,ma,_,_,V.ref cp,rfl,rfl,SqL.of D2.mks,Ahc (j:=i-1) (by lia) (by rw[List.getElem?_map,hcp];rfl),?_⟩;refine⟨c,cp,mk.at_,mp.at_,rfl,pc.same s2,pcp.same s2,fun H3 s3=>⟨_,rfl,?_⟩⟩;have s23:=s2.trans s3;have D3:=D.same s23;obtain⟨dx3,hd3⟩:=D3.ins;refine Abg (fun e6=>?_) (fun e6=>?_)
    ·refine⟨_,rfl,d,dx3,_,rfl,hd3,noM,_,rfl,d,i,S,pa,la,ma,as,ls,ms,rfl,D3,ret ?_ _ s23⟩;unfold Aci;rw[hmp];simp only[e6];simp[i0]
    ·refine last H3 s23 fun z=>?_;unfold Aci;rw[clr,z,hmp];simp only[Bool.eq_false_iff.mpr e6];simp
   ·simp only[decide_eq_true_eq]at e5;refine Akh (last _ s2 fun z=>?_);unfold Aci;rw[clr,z,decide_eq_false (show ¬0<i by lia)];rfl
  ·rintro σ H' ⟨⟨v1,v2,rfl⟩,s1,inv⟩;have:=k H' s1;have ml:ms.length=S.marks.length:=by have:=D.mksA.len;simpa using this
   rw[Adi (fun j y hy=>inv j y (by rw[List.length_map,ml];exact(List.getElem?_eq_some_iff.mp hy).1) hy)]at this;exact this
end
end Gc
end
section
namespace L2
open PySem PySem.Spec PyProof.Rows
def Apz:V→List V→Hp→VK→Prop:=fun x vs H Q=>∃l xs y,∃(k:Nat) (i:Int),x=.ref l∧vs=[.int i,y]∧i=(k:Nat)∧H l=some (.lst xs)∧k≤xs.length∧xs.length<sizeLine∧Q .non (upd H l (.lst (xs.take k++y::xs.drop k)))
theorem Aqr {X:Cx}:MtM X "list.insert" Apz:=by
 intro pins s σ H x vs v us Q I rx rv h;obtain⟨l,xs,y,k,i,rfl,rfl,hi,hH,hk,hz,q⟩:=h;cases rx;obtain⟨u1,u2,rfl,ru1,ru⟩:=rv.two;obtain⟨t,rfl⟩:=ru1;obtain⟨z,its,n,r,hl,e⟩:=I.lstM hH;have hs:sizeLine=16777216:=sizeLine_eq;have hf:Builtin.List.listFitsIndex i=true:=fitsIndex_both (by lia) (by lia);have hzs:its.toArray.size≤sizeLine:=by rw[List.size_toArray];lia
 refine call_meets PySem.F.slot_list_insert ⟨_,e,rfl⟩ PySem.F.entry_list_insert (PySem.F.args_list_insert_3 _ _ _) (PySem.AutoSeq1.list_insert_list_int_val_1 l _ n i t u2 (by simp[hf]) hzs) ⟨e,?_⟩;refine⟨.non,_,I.lset (its':=its.take k++u2::its.drop k) hH e ?_ ((r.take k).append (.cons ru (r.drop k))) ?_,rfl,q⟩
 ·show(its.toArray.extract 0 (if i<0 then(i+(its.toArray.size:Int)).toNat else min i.toNat its.toArray.size)).push u2++its.toArray.extract (if i<0 then(i+(its.toArray.size:Int)).toNat else min i.toNat its.toArray.size)=_;rw[if_neg (by lia)];have:min i.toNat its.toArray.size=k:=by rw[List.size_toArray];lia
  rw[this];apply Array.toList_inj.1;simp;rw[List.take_of_length_le (by simp)]
 ·rw[List.length_append,List.length_cons,List.length_take,List.length_drop];lia
end L2
namespace Gc
open PySem PySem.Spec PyProof.Rows L2
open Gla (Pt Plan Mark)
abbrev Ala:Stmt:=top Aln
theorem Ak1 (S:Plan)(m x:Nat):∀(B C:List Nat),(∀y,y∈B→0<Gla.turn (S.pt m) (S.pt x) (S.pt y))→Pg.putL S m x (B++C)=B++Pg.putL S m x C
 | [],_,_=>rfl
 | y::B,C,h=>by
  show(if 0<Gla.turn (S.pt m) (S.pt x) (S.pt y)then y::Pg.putL S m x (B++C)else _)=_;rw[if_pos (h y (by simp)),Ak1 S m x B C (fun z hz=>h z (by simp[hz]))];rfl
theorem Aw9 (S:Plan){m x k:Nat}{row:List Nat}(h1:∀i y,k≤i→row[i]?=some y→0<Gla.turn (S.pt m) (S.pt x) (S.pt y))(h2:k=0∨∃y,row[k-1]?=some y∧¬0<Gla.turn (S.pt m) (S.pt x) (S.pt y))(hk:k≤row.length) :
 Pg.putL S m x row.reverse=(row.take k++x::row.drop k).reverse:=by
 have e:row.reverse=(row.drop k).reverse++(row.take k).reverse:=by rw[←List.reverse_append,List.take_append_drop]
 rw[e,Ak1 S m x _ _ (by
  intro y hy;rw[List.mem_reverse]at hy;obtain⟨j,hj,ej⟩:=List.mem_iff_getElem.1 hy;rw[List.getElem_drop]at ej
  exact h1 (k+j) y (by lia) (by rw[←ej];exact List.getElem?_eq_getElem _))]
 rw[List.reverse_append,List.reverse_cons,List.append_assoc]
 congr 1
 rcases h2 with h2 | ⟨y,hy,nt⟩
 ·subst h2;simp[Pg.putL]
 ·rcases Nat.eq_zero_or_pos k with k0 | k0
  ·subst k0;simp[Pg.putL]
  ·obtain⟨j,rfl⟩ : ∃j,k=j+1:=⟨k-1,by lia⟩
   rw[Nat.add_sub_cancel]at hy;rw[Aak hy,List.reverse_append];show Pg.putL S m x (y::(row.take j).reverse)=_;unfold Pg.putL;rw[if_neg nt];rfl
def Auu (K:W.Frag):Sp:=fun vs H Q _=>∃(pa nb:Addr) (m:Nat) (ns:List Nat) (S:Plan) (as:List Addr),vs=[.ref pa,.int m,.ref nb]∧H pa=some (.lst (as.map V.ref))∧PtsAt H as S.pts∧(∀p,p∈S.pts→Abj p)∧m<S.pts.length∧H nb=some (.lst (vN ns))∧(∀x,x∈ns→x<S.pts.length)∧ns.length≤8192∧
 ∀(H':Hp) (p:Addr),Same H H'→H p=none→H' p=some (.lst (vN (Pg.leftward S m ns)))→Q (.ref p) H'
theorem Ajo {l:List Nat}{i:Nat}{y:V}(h:(vN l)[i]?=some y):∃j,l[i]?=some j∧y=V.int (j:Nat):=by
 unfold vN at h;rw[List.getElem?_map]at h;cases q:l[i]? with
 | none=>rw[q]at h;cases h
 | some j=>rw[q]at h;exact⟨j,rfl,(Option.some.inj h).symm⟩
theorem Ay2 {l:List Nat}{i j:Nat}(h:l[i]?=some j):(vN l)[i]?=some (V.int (j:Nat)):=by unfold vN;rw[List.getElem?_map,h];rfl
theorem Aq0 {H:Hp}{as:List Addr}{S:Plan}(hp:PtsAt H as S.pts)(sm:∀p,p∈S.pts→Abj p){i:Nat}(h:i<S.pts.length):∃c,as[i]?=some c∧PtAt H c (S.pt i)∧Abj (S.pt i):=by
 obtain⟨c,hc⟩ : ∃c,as[i]?=some c:=⟨_,List.getElem?_eq_getElem (by rw[hp.len];exact h)⟩
 obtain⟨p,hp',pc⟩:=hp.at_ i c hc;have e:S.pt i=p:=by unfold Plan.pt;rw[List.getD_eq_getElem?_getD,hp'];rfl
 rw[e];exact⟨c,hc,pc,sm p (List.mem_of_getElem? hp')⟩
section
variable {P:Program}{w:World}{K:W.Frag}{mg:Str→Option Value}{base:Heap}
theorem scLeft:Aaa ["points","middle","numbers","row","number","k"] ["points","middle","numbers"] (Aa7 Ala):=fsc
theorem Awr {f fT:Addr}{fd fdT:FuncData}(F:Def K mg "leftward" Ala ["points","middle","numbers"] f fd)(FT:Def K mg "turn_of" Ack ["p","q","r"] fT fdT)(nl:mg "len" = none):FnOk P w K mg base CX0 2 f fd ["points","middle","numbers"] (Auu K):=by
 have GT:FnOk P w K mg base CX0 1 fT fdT ["p","q","r"] Ahk:=Aiq FT;refine F.fn.ok scLeft (fun vs H Q E h=>?_) (fun cdv A outer s H vs Q E hr h=>?_)
 ·obtain⟨pa,nb,m,ns,S,as,rfl,_⟩:=h;rfl
 ·obtain⟨pa,nb,m,ns,S,as,rfl,hpa,hp,sm,mn,hnb,nlt,n8,k⟩:=h
  refine⟨_,Aa1 (pS 3 scLeft.nd (Ab8 Aa3))
   (Aa1 (Aap PassesOwn.never rfl (Abf (pv 2)) (pG 4 scLeft.nd)
    (Aa1 (pS 5 scLeft.nd (Aaf Aab (by rfl) nl PySem.boot_len (Aa0 (pv 3) Aa3)))
    (Aa1 (Ain PassesOwn.never (PW.pt (Ag0 (Aaj Adt (pv 5) Aa5 (Aan _)) (Adr (Aaj Adt (pCD FT GT hr (Aa0 (pIL (pv 0) (pv 1)) (Aa0 (pIL (pv 0) (pv 4)) (Aa0 (pIL (pv 0) (pIL (pv 3) (Ab2 Ac4 (pv 5) Aa5))) Aa3)))) Aa5 (Aan _)))))
     (Aa4 (Amn (i:=5) scLeft.nd rfl (Or.inl rfl) Aa5 Azr)))
    (Aa4 (Abo (Aej PySem.F.plainAttrs_list PySem.F.slot_list_insert PySem.F.type_list_insert Aqr (pv 3) (Aa0 (pv 5) (Aa0 (pv 4) Aa3))))))))
   (Aa4 (Aa9 (pv 3)))),?_⟩
  refine⟨Nat.zero_le _,fun ro hro=>?_⟩
  refine⟨_,rfl,nb,rfl,⟨_,SqL.of (Same.new hro _ _ hnb)⟩,Abr (K:=K) (a:=nb) (xs:=vN ns) (fun i σ H'=>(∃v4 v5:Option V,σ=[some (.ref pa),some (.int m),some (.ref nb),some (.ref ro),v4,v5])∧Same H H'∧H' ro=some (.lst (vN ((ns.take i).foldl (fun row x=>Pg.putL S m x row) []).reverse))∧((ns.take i).foldl (fun row x=>Pg.putL S m x row) []).length=i)
   ⟨⟨_,_,rfl⟩,Same.new hro,Aa2,rfl⟩ (fun i σ H' _ ⟨_,s1,_⟩=>SqL.of (s1 _ _ hnb)) ?_ ?_⟩
  ·rintro i y σ H' hi ⟨⟨v4,v5,rfl⟩,s1,hr',hlen⟩;obtain⟨x,hx,rfl⟩:=Ajo hi;have xn:=nlt x (List.mem_of_getElem? hx);have il:=(List.getElem?_eq_some_iff.mp hx).1;obtain⟨cm,hcm,pm,qm⟩:=Aq0 hp sm mn;obtain⟨cx,hcx,px,qx⟩:=Aq0 hp sm xn;have mem:∀z,z∈(ns.take i).foldl (fun row x=>Pg.putL S m x row) []→z<S.pts.length:=fun z hz=>by
    rcases (Pg.mem_left' S m z (ns.take i) []).1 hz with q | q
    ·exact nlt z (List.mem_of_mem_take q)
    ·simp at q
   have ef:(ns.take (i+1)).foldl (fun row x=>Pg.putL S m x row) []=Pg.putL S m x ((ns.take i).foldl (fun row x=>Pg.putL S m x row) []):=by
    rw[Aak hx,List.foldl_append];rfl
   rw[ef];generalize hR:(ns.take i).foldl (fun row x=>Pg.putL S m x row) []=R at *;obtain⟨row,rfl⟩ : ∃row:List Nat,R=row.reverse:=⟨R.reverse,by simp⟩
   rw[List.reverse_reverse]at hr';rw[List.length_reverse]at hlen;have memr:∀z,z∈row→z<S.pts.length:=fun z hz=>mem z (by rw[List.mem_reverse];exact hz);have vl:(vN row).length=row.length:=by unfold vN;rw[List.length_map]
   refine⟨_,rfl,ro,_,rfl,.inl (SqL.of hr'),?_⟩;rw[vl]
   refine⟨fun mm σ H''=>H''=H'∧∃kk:Nat,mm=kk∧kk≤row.length∧σ=[some (.ref pa),some (.int m),some (.ref nb),some (.ref ro),some (.int (x:Nat)),some (.int (kk:Nat))]∧∀j z,kk≤j→row[j]?=some z→0<Gla.turn (S.pt m) (S.pt x) (S.pt z),
    ⟨row.length,rfl,row.length,rfl,Nat.le_refl _,rfl,fun j z hj hz=>by have:=(List.getElem?_eq_some_iff.mp hz).1;lia⟩,?_⟩
   rintro mm σ H'' ⟨rfl,kk,ek,kl,rfl,inv⟩;have fin:(kk=0∨∃z,row[kk-1]?=some z∧¬0<Gla.turn (S.pt m) (S.pt x) (S.pt z))→Ay9 (tBM K "list" Apz (Acc 3) (Abt (Acc 5) (Abt (Acc 4) Ama))) { nx:=fun σ H'=>(∃v4 v5:Option V,σ=[some (.ref pa),some (.int m),some (.ref nb),some (.ref ro),v4,v5])∧Same H H'∧H' ro=some (.lst (vN (Pg.putL S m x row.reverse).reverse))∧(Pg.putL S m x row.reverse).length=i+1,rt:=Q,bk:=As4 (Acc 3) { nx:=fun _ H'=>Q .non H',rt:=Q },ct:=fun σ H'=>(∃v4 v5:Option V,σ=[some (.ref pa),some (.int m),some (.ref nb),some (.ref ro),v4,v5])∧Same H H'∧H' ro=some (.lst (vN (Pg.putL S m x row.reverse).reverse))∧(Pg.putL S m x row.reverse).length=i+1 }
    [some (.ref pa),some (.int m),some (.ref nb),some (.ref ro),some (.int (x:Nat)),some (.int (kk:Nat))] H'':=by
    intro st;have pe:=Aw9 S inv st kl;refine⟨_,rfl,.inl ⟨rfl,_,SqL.of hr'⟩,_,rfl,_,rfl,ro,_,V.int (x:Nat),kk,_,rfl,rfl,rfl,hr',by rw[vl];exact kl,by rw[vl];exact Nat.lt_of_le_of_lt (show row.length≤8192 by lia) (by decide),?_⟩;refine⟨⟨_,_,rfl⟩,?_,?_,?_⟩
    ·intro b o e;rw[Aa6 (Aa8 e hro)];exact s1 b o e
    ·rw[Aa2,pe,List.reverse_reverse];unfold vN;rw[List.map_append,List.map_cons,List.map_take,List.map_drop]
    ·rw[pe,List.length_reverse,List.length_append,List.length_cons,List.length_take,List.length_drop];lia
   refine⟨_,rfl,_,_,rfl,rfl,_,rfl,?_⟩
   by_cases k0:kk=0
   ·subst k0;rw[decide_eq_false (by lia)];exact Akh (Akh (fin (.inl rfl)))
   ·rw[decide_eq_true (by lia)];refine Aoe ?_;obtain⟨z,hz⟩ : ∃z,row[kk-1]?=some z:=⟨_,List.getElem?_eq_getElem (by lia)⟩
    obtain⟨cz,hcz,pz,qz⟩:=Aq0 hp sm (memr z (List.mem_of_getElem? hz));refine⟨_,rfl,_,rfl,pa,_,_,V.ref cm,rfl,rfl,SqL.of (s1 _ _ hpa),atr hcm,_,rfl,_,rfl,pa,_,_,V.ref cx,rfl,rfl,SqL.of (s1 _ _ hpa),atr hcx,_,rfl,_,rfl,_,rfl,_,_,rfl,rfl,ro,_,_,V.int (z:Nat),rfl,rfl,SqL.of hr',Ahc (j:=kk-1) (by lia) (Ay2 hz),pa,_,_,V.ref cz,rfl,rfl,SqL.of (s1 _ _ hpa),atr hcz,?_⟩;refine⟨cm,cx,cz,_,_,_,rfl,pm.same s1,px.same s1,pz.same s1,qm,qx,_,_,rfl,rfl,_,rfl,?_⟩
    refine Abg (fun e1=>?_) (fun e1=>?_)
    ·simp only[decide_eq_true_eq]at e1;refine⟨fun σ' H3=>H3=H''∧σ'=[some (.ref pa),some (.int m),some (.ref nb),some (.ref ro),some (.int (x:Nat)),some (.int ((kk-1:Nat):Nat))],?_,?_⟩
     ·rintro σ' H3 ⟨rfl,rfl⟩;refine⟨kk-1,by lia,rfl,kk-1,rfl,by lia,rfl,fun j z' hj hz'=>?_⟩
      by_cases ej:j=kk-1
      ·subst ej;rw[hz]at hz';cases hz';exact e1
      ·exact inv j z' (by lia) hz'
     ·refine⟨_,rfl,_,_,rfl,rfl,rfl,?_⟩;have:((kk:Nat):Int)-1=((kk-1:Nat):Int):=by lia
      exact congrArg (fun q=>[some (V.ref pa),some (.int m),some (.ref nb),some (.ref ro),some (.int (x:Nat)),some (.int q)]) this
    ·simp only[decide_eq_true_eq]at e1;exact fin (.inr ⟨z,hz,e1⟩)
  ·rintro σ H' ⟨⟨v4,v5,rfl⟩,s1,hr',hlen⟩;have vl:(vN ns).length=ns.length:=by unfold vN;rw[List.length_map]
   rw[vl,List.take_length]at hr';exact⟨_,rfl,k H' ro s1 hro hr'⟩
end
end Gc
end
section
namespace Gc
open PySem PySem.Spec PyProof.Rows L2
open Gla (Pt Plan Mark)
abbrev Al7:Stmt:=top Ao6
abbrev Ans:Stmt:=top Aj2
abbrev Asp:Stmt:=top Ake
def Bao (x y:Str):Scope:={ kind:=.function,names:=[(Str.ofString ".0",.local),(x,.local),(y,.free)],isGenerator:=false,isCoroutine:=false }
theorem Amw (S:Plan)(m x:Nat):∀l,(Pg.putL S m x l).length=l.length+1
 | []=>rfl
 | y::r=>by
  unfold Pg.putL
  split
  ·rw[List.length_cons,Amw S m x r,List.length_cons]
  ·rfl
theorem Af3 (S:Plan)(m:Nat)(ns:List Nat):(Pg.leftward S m ns).length=ns.length:=by
 have key:∀(ns acc:List Nat),(ns.foldl (fun row x=>Pg.putL S m x row) acc).length=ns.length+acc.length:=by
  intro ns
  induction ns with
  | nil=>intro acc;simp
  | cons x r ih=>intro acc;rw[List.foldl_cons,ih,Amw,List.length_cons];lia
 unfold Pg.leftward;rw[List.length_reverse,key];rfl
def Aw5 (S:Plan)(m:Nat)(ns:List Nat):List Nat:=Pg.leftward S m (ns.filter fun x=>decide (m<x))++Pg.leftward S m (ns.filter fun x=>decide (x<m))
def Aut (K:W.Frag):Sp:=fun vs H Q _=>∃(pa nb:Addr) (m:Nat) (ns:List Nat) (S:Plan) (as:List Addr),vs=[.ref pa,.int m,.ref nb]∧H pa=some (.lst (as.map V.ref))∧PtsAt H as S.pts∧(∀p,p∈S.pts→Abj p)∧m<S.pts.length∧H nb=some (.lst (vN ns))∧(∀x,x∈ns→x<S.pts.length)∧ns.length≤8192∧
 ∀(H':Hp) (p:Addr),Same H H'→H p=none→H' p=some (.lst (vN (Aw5 S m ns)))→Q (.ref p) H'
section
variable {P:Program}{w:World}{K:W.Frag}{mg:Str→Option Value}{base:Heap}
theorem scRing:Aaa ["points","middle","numbers","behind","ahead","number"] ["points","middle","numbers"] (Aa7 Al7):=fsc
theorem Avi:Avh ["points","middle","numbers","behind","ahead","number"] (Aa7 Al7) (Bao "number" "middle") [("number",5)]=true:=by decide +kernel
theorem Awk {f fF fT:Addr}{fd fdF fdT:FuncData}(F:Def K mg "ring_of" Al7 ["points","middle","numbers"] f fd)(FF:Def K mg "leftward" Ala ["points","middle","numbers"] fF fdF)(FT:Def K mg "turn_of" Ack ["p","q","r"] fT fdT)(nl:mg "len" = none) :
 FnOk P w K mg base CX0 3 f fd ["points","middle","numbers"] (Aut K):=by
 have GF:FnOk P w K mg base CX0 2 fF fdF ["points","middle","numbers"] (Auu K):=Awr FF FT nl;refine F.fn.ok scRing (fun vs H Q E h=>?_) (fun cdv A outer s H vs Q E hr h=>?_)
 ·obtain⟨pa,nb,m,ns,S,as,rfl,_⟩:=h;rfl
 ·obtain⟨pa,nb,m,ns,S,as,rfl,hpa,hp,sm,mn,hnb,nlt,n8,k⟩:=h
  refine⟨_,Aa1 (Aff (i:=3) (own:=[("number",5)]) rfl scRing.nd rfl rfl (Aib rfl rfl rfl rfl) (Abf (pv 2)) (Acs Avi) (fun _ _ _ _ _=>pG 5 scRing.nd) (fun _ _ _ _ _=>Aq1 (Aaj Adt (pv 5) (pv 1) (Aan _))) (fun _ _ _ _ _=>pv 5))
   (Aa1 (Aff (i:=4) (own:=[("number",5)]) rfl scRing.nd rfl rfl (Aib rfl rfl rfl rfl) (Abf (pv 2)) (Acs Avi) (fun _ _ _ _ _=>pG 5 scRing.nd) (fun _ _ _ _ _=>Aq1 (Aaj Acf (pv 5) (pv 1) (Aan _))) (fun _ _ _ _ _=>pv 5))
   (Aa4 (Aa9 (Ab2 Av3 (pCD FF GF hr (Aa0 (pv 0) (Aa0 (pv 1) (Aa0 (pv 3) Aa3)))) (pCD FF GF hr (Aa0 (pv 0) (Aa0 (pv 1) (Aa0 (pv 4) Aa3)))))))),?_⟩
  have vl:(vN ns).length=ns.length:=by unfold vN;rw[List.length_map]
  refine⟨_,rfl,nb,rfl,⟨_,SqL.of hnb⟩,fun D1 hD1=>?_⟩;refine Agb (K:=K) (a:=nb) (xs:=vN ns) (fun i H'=>Same H H'∧H' D1=some (.lst (vN ((ns.take i).filter fun x=>decide (m<x))))) ⟨Same.new hD1,Aa2⟩ (fun i H' _ ⟨s1,_⟩=>SqL.of (s1 _ _ hnb)) ?_ ?_
  ·rintro i y H' hi ⟨s1,hd⟩;obtain⟨x,hx,rfl⟩:=Ajo hi;have il:=(List.getElem?_eq_some_iff.mp hx).1;refine⟨rfl,_,rfl,_,rfl,_,_,rfl,rfl,_,rfl,?_⟩;have fe:(ns.take (i+1)).filter (fun x=>decide (m<x))=(ns.take i).filter (fun x=>decide (m<x))++(if m<x then [x] else []):=by
    rw[Aak hx,List.filter_append];congr 1
    by_cases q:m<x<;>simp[q]
   refine Abg (fun e=>?_) (fun e=>?_)
   ·simp only[decide_eq_true_eq]at e;rw[if_pos (by lia)]at fe;refine⟨_,rfl,_,hd,?_,?_,?_⟩
    ·unfold vN;rw[List.length_map];exact Nat.lt_of_le_of_lt (Nat.le_trans (List.length_filter_le _ _) (by rw[List.length_take];lia:_≤8192)) (by decide)
    ·intro b o q;rw[Aa6 (Aa8 q hD1)];exact s1 b o q
    ·rw[Aa2,fe,Ac9]
   ·simp only[decide_eq_true_eq]at e;rw[if_neg (by lia),List.append_nil]at fe;exact⟨s1,by rw[fe];exact hd⟩
  rintro H1 ⟨s1,hd1⟩;rw[vl,List.take_length]at hd1;refine⟨_,rfl,nb,rfl,⟨_,SqL.of (s1 _ _ hnb)⟩,fun D2 hD2=>?_⟩;refine Agb (K:=K) (a:=nb) (xs:=vN ns) (fun i H'=>Same H1 H'∧H' D2=some (.lst (vN ((ns.take i).filter fun x=>decide (x<m))))) ⟨Same.new hD2,Aa2⟩ (fun i H' _ ⟨s2,_⟩=>SqL.of (s2 _ _ (s1 _ _ hnb))) ?_ ?_
  ·rintro i y H' hi ⟨s2,hd⟩;obtain⟨x,hx,rfl⟩:=Ajo hi;have il:=(List.getElem?_eq_some_iff.mp hx).1;refine⟨rfl,_,rfl,_,rfl,_,_,rfl,rfl,_,rfl,?_⟩;have fe:(ns.take (i+1)).filter (fun x=>decide (x<m))=(ns.take i).filter (fun x=>decide (x<m))++(if x<m then [x] else []):=by
    rw[Aak hx,List.filter_append];congr 1
    by_cases q:x<m<;>simp[q]
   refine Abg (fun e=>?_) (fun e=>?_)
   ·simp only[decide_eq_true_eq]at e;rw[if_pos (by lia)]at fe;refine⟨_,rfl,_,hd,?_,?_,?_⟩
    ·unfold vN;rw[List.length_map];exact Nat.lt_of_le_of_lt (Nat.le_trans (List.length_filter_le _ _) (by rw[List.length_take];lia:_≤8192)) (by decide)
    ·intro b o q;rw[Aa6 (Aa8 q hD2)];exact s2 b o q
    ·rw[Aa2,fe,Ac9]
   ·simp only[decide_eq_true_eq]at e;rw[if_neg (by lia),List.append_nil]at fe;exact⟨s2,by rw[fe];exact hd⟩
  rintro H2 ⟨s2,hd2⟩;rw[vl,List.take_length]at hd2;have s12:=s1.trans s2;have sub1:∀x,x∈ns.filter (fun x=>decide (m<x))→x<S.pts.length:=fun x hx=>nlt x (List.mem_filter.1 hx).1;have sub2:∀x,x∈ns.filter (fun x=>decide (x<m))→x<S.pts.length:=fun x hx=>nlt x (List.mem_filter.1 hx).1;have l1:=List.length_filter_le (fun x=>decide (m<x)) ns;have l2:=List.length_filter_le (fun x=>decide (x<m)) ns;refine⟨_,rfl,_,rfl,_,rfl,pa,D1,m,_,S,as,rfl,s12 _ _ hpa,hp.same s12,sm,mn,s2 _ _ hd1,sub1,by lia,fun H3 p1 s3 f1 hp1=>?_⟩
  have s13:=s12.trans s3;refine⟨_,rfl,_,rfl,_,rfl,pa,D2,m,_,S,as,rfl,s13 _ _ hpa,hp.same s13,sm,mn,s3 _ _ hd2,sub2,by lia,fun H4 p2 s4 f2 hp2=>?_⟩;have s14:=s13.trans s4;refine⟨p1,p2,_,_,rfl,rfl,s4 _ _ hp1,hp2,?_,fun p hpn=>?_⟩
  ·unfold vN;rw[List.length_map,List.length_map,Af3,Af3];exact Nat.le_trans (show _≤16384 by lia) (by decide)
  ·refine k _ p (s14.trans (Same.new hpn)) (s14.free hpn) ?_;rw[Aa2];unfold Aw5 vN;rw[List.map_append]
end
def Ajr (C:Addr):Sp:=fun vs H Q _=>∃(d o:Addr) (l:List Nat) (S:Plan) (pa la ma:Addr) (as ls ms:List Addr),vs=[.ref d,.ref o]∧DrawAt C H d S pa la ma as ls ms∧H o=some (.lst (vN l))∧(∀x,x∈l→x<S.pts.length)∧l.length≤20000∧
 ∀(H':Hp) (p:Addr) (cs:List Addr),Same H H'→H p=none→H' p=some (.lst (cs.map V.ref))→PtsAt H' cs (l.map S.pt)→Q (.ref p) H'
theorem Afl {as:List Addr}{x:Nat}{c:Addr}(h:as[x]?=some c):as.getD x 0=c:=by rw[List.getD_eq_getElem?_getD,h];rfl
section
variable {P:Program}{w:World}{K:W.Frag}{mg:Str→Option Value}{base:Heap}
theorem scCorn:Aaa ["drawing","outline","number"] ["drawing","outline"] (Aa7 Ans):=fsc
theorem Azx:Avh ["drawing","outline","number"] (Aa7 Ans) (Bao "number" "drawing") [("number",2)]=true:=by decide +kernel
theorem Aqh {f C:Addr}{fd:FuncData}(F:Def K mg "corners_of" Ans ["drawing","outline"] f fd)(T:Adl K C):FnOk P w K mg base CX0 1 f fd ["drawing","outline"] (Ajr C):=by
 refine F.fn.ok scCorn (fun vs H Q E h=>?_) (fun cdv A outer s H vs Q E hr h=>?_)
 ·obtain⟨d,o,l,S,pa,la,ma,as,ls,ms,rfl,_⟩:=h;rfl
 ·obtain⟨d,o,l,S,pa,la,ma,as,ls,ms,rfl,D,ho,lt,l2,k⟩:=h;refine⟨_,Aa4 (Aa9 (Awe (te:=tOp (Axr K) (Ba4 K (Acc 0) "points") (Acc 2)) (own:=[("number",2)]) rfl scCorn.nd (Abf (pv 1)) (Acs Azx) (fun _ _ _ _ _=>pG 2 scCorn.nd) (fun _ _ _ _ _=>Ag2) (fun _ _ _ _ _=>pIL (Aal (pv 0) rfl) (pv 2)))),?_⟩;have vl:(vN l).length=l.length:=by unfold vN;rw[List.length_map]
  refine⟨_,rfl,o,rfl,⟨_,SqL.of ho⟩,fun D1 hD1=>?_⟩;refine Agb (K:=K) (a:=o) (xs:=vN l) (fun i H'=>Same H H'∧H' D1=some (.lst (((l.take i).map fun x=>as.getD x 0).map V.ref))) ⟨Same.new hD1,Aa2⟩ (fun i H' _ ⟨s1,_⟩=>SqL.of (s1 _ _ ho)) ?_ ?_
  ·rintro i y H' hi ⟨s1,hd1⟩;obtain⟨x,hx,rfl⟩:=Ajo hi;have il:=(List.getElem?_eq_some_iff.mp hx).1;obtain⟨c,hc,pc,sc⟩:=D.pt (lt x (List.mem_of_getElem? hx));have D2:=D.same s1;obtain⟨dx,hd⟩:=D2.ins;refine⟨rfl,?_⟩;unfold Axq;dsimp only
   first | rw[if_pos rfl] | rw[if_pos trivial]
   refine⟨_,rfl,d,C,dx,_,_,rfl,hd,T.cl,T.nP,Adx _ _ _ _ _,_,rfl,pa,_,_,V.ref c,rfl,rfl,SqL.of D2.pts,atr hc,_,hd1,?_,?_,?_⟩
   ·rw[List.length_map,List.length_map,List.length_take];exact Nat.lt_of_le_of_lt (show _≤20000 by lia) (by decide)
   ·intro b q e;rw[Aa6 (Aa8 e hD1)];exact s1 b q e
   ·rw[Aa2,Aak hx,List.map_append,List.map_append];show _=some (HO.lst (_++[V.ref (as.getD x 0)]));rw[Afl hc]
  ·rintro H' ⟨s1,hd1⟩;rw[vl,List.take_length]at hd1;refine k H' D1 _ s1 hD1 hd1 ⟨by simp,fun i c hc=>?_⟩;rw[List.getElem?_map]at hc;cases q:l[i]? with
   | none=>rw[q]at hc;cases hc
   | some x =>
    rw[q]at hc;obtain⟨c',hc',pc,_⟩:=D.pt (lt x (List.mem_of_getElem? q));have:c=c':=by
     have:=Option.some.inj hc;rw[←this];exact Afl hc'
    subst this;exact⟨S.pt x,by rw[List.getElem?_map,q];rfl,pc.same s1⟩
end
structure ShAt (H:Hp)(rs:List Addr)(qs:List (List Pt)):Prop where
 len:rs.length=qs.length
 at_:∀(i:Nat) (c:Addr),rs[i]?=some c→∃(q:List Pt) (cs:List Addr) (l:Pt),qs[i]?=some q∧H c=some (.lst (cs.map V.ref))∧PtsAt H cs q∧q[q.length-1]?=some l∧∀p,p∈q→Abj p
theorem ShAt.same {H H':Hp}{rs:List Addr}{qs:List (List Pt)}(e:Same H H')(h:ShAt H rs qs):ShAt H' rs qs :=
 ⟨h.len,fun i c hc=>let ⟨q,cs,l,a,b,d,f,g⟩:=h.at_ i c hc;⟨q,cs,l,a,e _ _ b,d.same e,f,g⟩⟩
def hoB (z:Pt)(q:List Pt):Bool:=hoS z false (q.getD (q.length-1) ⟨0,0⟩) q
theorem Arc {z l:Pt}{q:List Pt}(h:q[q.length-1]?=some l):hoB z q=hoS z false l q:=by unfold hoB;rw[List.getD_eq_getElem?_getD,h];rfl
def Arb (z:Pt)(qs:List (List Pt)):Int:=match qs.findIdx? (hoB z) with
 | some i=>(i:Nat)
 | none=>-1
def Apk:Sp:=fun vs H Q _=>∃(a c:Addr) (rs:List Addr) (qs:List (List Pt)) (z:Pt),vs=[.ref a,.ref c]∧H a=some (.lst (rs.map V.ref))∧ShAt H rs qs∧PtAt H c z∧∀H',Same H H'→Q (.int (Arb z qs)) H'
theorem Af6 {α:Type}{p:α→Bool}{l:List α}{i:Nat}{x:α}(h:l[i]?=some x)(hp:p x=true)(hb:∀j y,j<i→l[j]?=some y→p y=false):l.findIdx? p=some i:=by
 rw[List.findIdx?_eq_some_iff_getElem];obtain⟨hi,e⟩:=List.getElem?_eq_some_iff.mp h;refine⟨hi,by rw[e];exact hp,fun j hj=>?_⟩;rw[hb j _ hj (List.getElem?_eq_getElem (by lia))];simp
section
variable {P:Program}{w:World}{K:W.Frag}{mg:Str→Option Value}{base:Heap}
theorem scHold:Aaa ["shapes","spot","number","corners"] ["shapes","spot"] (Aa7 Asp):=fsc
theorem Aws {f fH fR fT:Addr}{fd fdH fdR fdT:FuncData}(F:Def K mg "holder_of" Asp ["shapes","spot"] f fd)(FH:Def K mg "holds" Ajy ["corners","spot"] fH fdH)(FR:Def K mg "is_right_of" Ahm ["p","q","spot"] fR fdR)(FT:Def K mg "turn_of" Ack ["p","q","r"] fT fdT)(ne:mg "enumerate" = none) :
 FnOk P w K mg base CX0 4 f fd ["shapes","spot"] Apk:=by
 have GH:FnOk P w K mg base CX0 3 fH fdH ["corners","spot"] Apj:=Atd FH FR FT;refine F.fn.ok scHold (fun vs H Q E h=>?_) (fun cdv A outer s H vs Q E hr h=>?_)
 ·obtain⟨a,c,rs,qs,z,rfl,_⟩:=h;rfl
 ·obtain⟨a,cz,rs,qs,z,rfl,ha,sh,hz,k⟩:=h
  refine⟨_,Aa1 (Aap PassesOwn.never rfl (Abw rfl ne (Aa0 (pv 0) Aa3)) (Abu rfl (Aag (pG 2 scHold.nd) (Aag (pG 3 scHold.nd) Abc)))
   (Aa4 (Aat (Ad0 (pCD FH GH hr (Aa0 (pv 3) (Aa0 (pv 1) Aa3)))) (Aa4 (Aa9 (pv 2))) Aae)))
   (Aa4 (Aa9 (Anw Ahh Aa5))),?_⟩
  refine⟨_,rfl,a,_,rfl,SqL.of ha,Abk (K:=K) (a:=a) (xs:=rs.map V.ref) (fun i σ H'=>(∃v2 v3:Option V,σ=[some (.ref a),some (.ref cz),v2,v3])∧Same H H'∧∀j q,j<i→qs[j]?=some q→hoB z q=false)
   ⟨⟨_,_,rfl⟩,Same.refl H,by intro j q hj;lia⟩ (fun i σ H' _ ⟨_,s1,_⟩=>SqL.of (s1 _ _ ha)) ?_ ?_⟩
  ·rintro i x σ H' t hi ⟨⟨v2,v3,rfl⟩,s1,inv⟩ ht;obtain⟨c,hc,rfl⟩:=Aad hi;have s2:=s1.trans (Same.new (o:=.tup [.int (i:Nat),.ref c]) ht);obtain⟨q,cs,l,hq,hcs,pts,hl,sm⟩:=(sh.same s2).at_ i c hc;refine⟨t,_,rfl,SqT.of Aa2,rfl,_,_,rfl,_,_,rfl,rfl,?_⟩;refine⟨_,rfl,_,rfl,c,cz,cs,q,l,z,rfl,hcs,pts,hl,sm,hz.same s2,_,rfl,?_⟩;refine Abg (fun e=>?_) (fun e=>?_)
   ·have:=k _ s2;unfold Arb at this;rw[Af6 hq (by rw[Arc hl];exact e) inv]at this;exact⟨_,rfl,this⟩
   ·refine⟨⟨_,_,rfl⟩,s2,fun j q' hj hq'=>?_⟩
    by_cases ej:j=i
    ·subst ej;rw[hq]at hq';cases hq';rw[Arc hl];exact Bool.eq_false_iff.mpr e
    ·exact inv j q' (by lia) hq'
  ·rintro σ H' ⟨⟨v2,v3,rfl⟩,s1,inv⟩;have:=k H' s1;unfold Arb at this;have no:qs.findIdx? (hoB z)=none:=by
    rw[List.findIdx?_eq_none_iff];intro q hq;obtain⟨j,hj,ej⟩:=List.mem_iff_getElem.1 hq;exact inv j q (by rw[List.length_map,sh.len];exact hj) (by rw[←ej];exact List.getElem?_eq_getElem hj)
   rw[no]at this;exact⟨_,rfl,this⟩
end
abbrev Aps:Stmt:=top Ax4
def wK (e:Nat×Nat):List Key:=[Sum.inl (e.1:Int),Sum.inl (e.2:Int)]
theorem Ahg {e f:Nat×Nat}(h:wK e=wK f):e=f:=by
 unfold wK at h;simp only[List.cons.injEq,and_true]at h;have h1:=Sum.inl.inj h.1;have h2:=Sum.inl.inj h.2;exact Prod.ext (by lia) (by lia)
def gK (l:List (Nat×Nat)):List (List Key×V):=l.map fun e=>(wK e,V.bl true)
theorem An3 (e:Nat×Nat):∀l:List (Nat×Nat),(Ac2 (gK l) (wK e)).isSome=decide (e∈l)
 | []=>by simp[gK,Ac2]
 | x::r=>by
  show(Ac2 ((wK x,V.bl true)::gK r) (wK e)).isSome=_
  by_cases q:x=e
  ·subst q;rw[Ab5 rfl];simp
  ·have ne:¬wK x=wK e:=fun z=>q (Ahg z);rw[Ab6 ne,An3 e r];simp[Ne.symm q]
theorem Azs {l:List (Nat×Nat)}{e:Nat×Nat}(h:e∉l):Af9 (gK l) (wK e) (V.bl true)=gK (l++[e]):=by
 have:Ac2 (gK l) (wK e)=none:=by
  have:=An3 e l;cases q:Ac2 (gK l) (wK e) with
  | none=>rfl
  | some v=>rw[q]at this;simp[h]at this
 rw[Afe _ this];unfold gK;rw[List.map_append];rfl
structure Bbs (H:Hp)(f:Addr)(S:Plan)(kvs:List (List Key×V)):Prop where
 dic:H f=some (.dT kvs)
 val:∀u v,Pg.adj S u v→∃c,Ac2 kvs (wK (u,v))=some (.ref c)∧LnAt H c (v,S.next u v)
theorem LnAt.key {H:Hp}{c:Addr}{e:Nat×Nat}(h:LnAt H c e):H c=some (.tup ((wK e).map kV)):=h
def Aur:Sp:=fun vs H Q _=>∃(f c g:Addr) (S:Plan) (kvs:List (List Key×V)) (s:Nat×Nat) (G:List (Nat×Nat)),vs=[.ref f,.ref c,.ref g]∧Pg.Rules S∧S.lines.length≤8192∧Bbs H f S kvs∧LnAt H c s∧Pg.adj S s.1 s.2∧H g=some (.dT (gK G))∧f≠g∧
 (∀x,x∈Pg.orb S s→x∉G)∧G.length≤20000∧
 ∀(H':Hp) (p:Addr),(∀b o,H b=some o→b≠g→H' b=some o)→H p=none→H' p=some (.lst (vN (Pg.Vs S s)))→H' g=some (.dT (gK (G++Pg.orb S s)))→Q (.ref p) H'
section
variable {P:Program}{w:World}{K:W.Frag}{mg:Str→Option Value}{base:Heap}
theorem scWalk:Aaa ["follow","start","gone","outline","step"] ["follow","start","gone"] (Aa7 Aps):=fsc
theorem Awi {f:Addr}{fd:FuncData}(F:Def K mg "walk" Aps ["follow","start","gone"] f fd):FnOk P w K mg base CX0 1 f fd ["follow","start","gone"] Aur:=by
 refine F.fn.ok scWalk (fun vs H Q E h=>?_) (fun cdv A outer s H vs Q E hr h=>?_)
 ·obtain⟨f,c,g,S,kvs,s,G,rfl,_⟩:=h;rfl
 ·obtain⟨fo,c,g,S,kvs,st,G,rfl,r,nL,FO,hc,ast,hg,nfg,dis,nG,k⟩:=h;have hu:=Agl hr
  refine⟨_,Aa1 (pS 3 scWalk.nd (Ab8 Aa3))
   (Aa1 (pS 4 scWalk.nd (pv 1))
   (Aa1 (Ain PassesOwn.never (Ag3 (Ad2 hu (pv 4) (pv 2)))
    (Aa1 (Aei hu (pv 2) (pv 4) Ads rfl)
    (Aa1 (Abo (Aej PySem.F.plainAttrs_list PySem.F.slot_list_append PySem.F.type_list_append Ab3 (pv 3) (Aa0 (pIT (pv 4) Aa5) Aa3)))
    (Aa4 (pS 4 scWalk.nd (Aq9 hu (pv 0) (pv 4) (fun _ _=>rfl)))))))
   (Aa4 (Aa9 (pv 3))))),?_⟩
  obtain⟨m,per⟩:=r.per ast;have eo:=Pg.orb_per per;have nod:=r.orb_nodup ast;refine⟨Nat.zero_le _,fun ou hou=>?_⟩;refine⟨_,rfl,?_⟩;have ngo:g≠ou:=Aa8 hg hou
  refine⟨fun mm σ H'=>∃kk c',mm=m-kk∧kk≤m∧σ=[some (.ref fo),some (.ref c),some (.ref g),some (.ref ou),some (.ref c')]∧(∀b o,H b=some o→b≠g→H' b=some o)∧LnAt H c' (Pg.itr S kk st)∧
   H' g=some (.dT (gK (G++(List.range kk).map fun j=>Pg.itr S j st)))∧H' ou=some (.lst (vN ((List.range kk).map fun j=>(Pg.itr S j st).1))),
   ⟨m,0,c,by lia,by lia,rfl,fun b o e _=>Same.new hou b o e,hc,by rw[Aa6 ngo];simpa using hg,Aa2⟩,?_⟩
  rintro mm σ H' ⟨kk,c',em,km,rfl,keep,hc',hg',hou'⟩;have ak:=r.itr_adj ast kk;have ncg:c'≠g:=Aby hc' hg (by intro z;cases z);have hc2:LnAt H' c' (Pg.itr S kk st):=keep _ _ hc' ncg;refine⟨_,rfl,_,rfl,g,_,rfl,DGet.t hg' hc2.key,_,rfl,?_⟩;rw[An3];have mp:=per.pos
  by_cases e:kk=m
  ·subst e;have yes:Pg.itr S kk st∈G++(List.range kk).map fun j=>Pg.itr S j st:=by
    rw[per.back];exact List.mem_append.2 (.inr (List.mem_map.2 ⟨0,List.mem_range.2 (by lia),rfl⟩))
   rw[decide_eq_true yes];refine Azo ⟨_,rfl,k H' ou keep hou ?_ ?_⟩
   ·rw[hou'];unfold Pg.Vs;rw[eo,List.map_map];rfl
   ·rw[hg',eo]
  ·have no:Pg.itr S kk st∉G++(List.range kk).map fun j=>Pg.itr S j st:=by
    intro q;rcases List.mem_append.1 q with z | z
    ·exact dis _ ((r.mem_orb ast).2 ⟨kk,rfl⟩) z
    ·obtain⟨j,hj,ej⟩:=List.mem_map.1 z;rw[List.mem_range]at hj;have e1:Pg.itr S kk st=Pg.itr S j (Pg.itr S (kk-j) st):=by rw[←Pg.itr_add];congr 1;lia
     rw[e1]at ej;exact per.first (kk-j) (by lia) (by lia) (r.itr_inj ast (r.itr_adj ast _) j ej).symm
   rw[decide_eq_false no];refine Ar5 ?_;have ml:=per.le;have lg:(gK (G++(List.range kk).map fun j=>Pg.itr S j st)).length<sizeLine:=by
    unfold gK;rw[List.length_map,List.length_append,List.length_map,List.length_range];exact Nat.lt_of_le_of_lt (show _≤40000 by lia) (by decide)
   obtain⟨cn,vn,ln⟩:=FO.val _ _ ak
   refine⟨fun σ' H3=>∃c'',σ'=[some (.ref fo),some (.ref c),some (.ref g),some (.ref ou),some (.ref c'')]∧(∀b o,H b=some o→b≠g→H3 b=some o)∧LnAt H c'' (Pg.itr S (kk+1) st)∧
    H3 g=some (.dT (gK (G++(List.range (kk+1)).map fun j=>Pg.itr S j st)))∧H3 ou=some (.lst (vN ((List.range (kk+1)).map fun j=>(Pg.itr S j st).1))),
    fun σ' H3 ⟨c'',e1,e2,e3,e4,e5⟩=>⟨m-(kk+1),by lia,kk+1,c'',rfl,by lia,e1,e2,e3,e4,e5⟩,?_⟩
   refine⟨_,rfl,_,rfl,g,_,rfl,DPut.t hg' hc2.key lg,?_⟩;rw[Azs no];have er:(G++(List.range kk).map fun j=>Pg.itr S j st)++[Pg.itr S kk st]=G++(List.range (kk+1)).map fun j=>Pg.itr S j st:=by
    rw[List.range_succ,List.map_append,List.append_assoc];rfl
   rw[er];have hou2:(upd H' g (.dT (gK (G++(List.range (kk+1)).map fun j=>Pg.itr S j st)))) ou=some (.lst (vN ((List.range kk).map fun j=>(Pg.itr S j st).1))):=by rw[Aa6 (Ne.symm ngo)];exact hou'
   have hc3:LnAt (upd H' g (.dT (gK (G++(List.range (kk+1)).map fun j=>Pg.itr S j st)))) c' (Pg.itr S kk st):=by
    show(upd H' g _) c'=_;rw[Aa6 ncg];exact hc2
   refine⟨_,rfl,.inl ⟨rfl,_,SqL.of hou2⟩,_,rfl,c',_,_,_,rfl,rfl,hc3.sq,rfl,ou,_,_,rfl,rfl,hou2,?_,?_⟩
   ·unfold vN;rw[List.length_map,List.length_map,List.length_range];exact Nat.lt_of_le_of_lt (show kk≤16384 by lia) (by decide)
   have nco:c'≠ou:=Aa8 hc' hou;have nfo:fo≠ou:=Aa8 FO.dic hou;have ffin:∀o2,(upd (upd H' g o2) ou (.lst (vN ((List.range kk).map fun j=>(Pg.itr S j st).1)++[V.int ((Pg.itr S kk st).1:Nat)]))) fo=some (.dT kvs):=fun o2=>by
    rw[Aa6 nfo,Aa6 nfg];exact keep _ _ FO.dic nfg
   refine⟨_,rfl,_,rfl,fo,V.ref cn,rfl,?_,?_⟩
   ·have h2:(upd (upd H' g (.dT (gK (G++(List.range (kk+1)).map fun j=>Pg.itr S j st)))) ou (.lst (vN ((List.range kk).map fun j=>(Pg.itr S j st).1)++[V.int ((Pg.itr S kk st).1:Nat)]))) c'=some (.tup ((wK (Pg.itr S kk st)).map kV)):=by
     rw[Aa6 nco];exact hc3
    have:=DGet.t (ffin _) h2;have e3:wK (Pg.itr S kk st)=wK ((Pg.itr S kk st).1,(Pg.itr S kk st).2):=rfl;rw[e3,vn]at this;exact this
   ·refine⟨cn,rfl,?_,?_,?_,?_⟩
    ·intro b o e' nb;rw[Aa6 (Aa8 e' hou),Aa6 nb];exact keep b o e' nb
    ·rw[Pg.itr_succ];exact ln
    ·rw[Aa6 ngo,Aa2]
    ·rw[Aa2,Ac9,List.range_succ,List.map_append];rfl
end
abbrev Ajv:Stmt:=top Agd
def Abe (S:Plan)(m:Nat):List (Nat×Nat):=(Pg.ringOf S m).map fun x=>(x,m)
def Aaw (S:Plan)(n:Nat):List (Nat×Nat):=(List.range n).flatMap (Abe S)
structure FoI (S:Plan)(H:Hp)(kvs:List (List Key×V))(E:List (Nat×Nat)):Prop where
 keys:kvs.map (·.1)=E.map wK
 val:∀e,e∈E→∃c,Ac2 kvs (wK e)=some (.ref c)∧LnAt H c (e.2,S.next e.1 e.2)
theorem Afq {κ:Type}[DecidableEq κ]{kvs:List (κ×V)}{k:κ}(h:k∉kvs.map (·.1)):Ac2 kvs k=none:=by
 cases q:Ac2 kvs k with
 | none=>rfl
 | some v=>exact absurd (Avn q) h
theorem Am9 {κ:Type}[DecidableEq κ]{kvs:List (κ×V)}{k k':κ}{v:V}(h:k'∉kvs.map (·.1)):Ac2 (kvs++[(k',v)]) k=if k'=k then some v else Ac2 kvs k:=by
 rw[Afp]
 ·by_cases e:k'=k
  ·subst e;simp
  ·rw[if_neg e]
   first | rw[if_neg (Ne.symm e)] | simp[Ne.symm e]
 ·exact Afq h
theorem FoI.push {S:Plan}{H H':Hp}{kvs:List (List Key×V)}{E:List (Nat×Nat)}{e:Nat×Nat}{c:Addr}(I:FoI S H kvs E)(s:Same H H')(ne:e∉E)(hc:LnAt H' c (e.2,S.next e.1 e.2)) :
 Af9 kvs (wK e) (.ref c)=kvs++[(wK e,.ref c)]∧FoI S H' (kvs++[(wK e,.ref c)]) (E++[e]):=by
 have nk:wK e∉kvs.map (·.1):=by
  rw[I.keys];intro q;obtain⟨x,hx,ex⟩:=List.mem_map.1 q;exact ne (by rw[←Ahg ex];exact hx)
 refine⟨Afe _ (Afq nk),⟨by rw[List.map_append,List.map_append,I.keys];rfl,fun x hx=>?_⟩⟩;rcases List.mem_append.1 hx with q | q
 ·obtain⟨b,vb,lb⟩:=I.val x q;refine⟨b,?_,s _ _ lb⟩;rw[Am9 nk,if_neg (fun z=>ne (by rw[Ahg z];exact q))];exact vb
 ·rw[List.mem_singleton]at q;subst q;exact⟨c,by rw[Am9 nk,if_pos rfl],hc⟩
theorem Apy {S:Plan}(r:Pg.Rules S){m i x:Nat}(hm:m<S.pts.length)(hx:(Pg.ringOf S m)[i]?=some x):atI (vN (Pg.ringOf S m)) ((i:Int)-1)=some (V.int (S.next x m:Nat)):=by
 obtain⟨l,a,e1,e2⟩:=r.rot.rot m hm;have nx:(a::l)[i]?=some (S.next x m):=by rw[←e2,List.getElem?_map,hx];rfl
 rw[e1];cases i with
 | zero =>
  have ea:a=S.next x m:=Option.some.inj nx
  have:vN (l++[a])=vN l++[V.int (a:Nat)]:=(Ac9 l a).symm;rw[this,←ea];exact Auh _ _
 | succ j =>
  have nl:l[j]?=some (S.next x m):=nx;have hj:=(List.getElem?_eq_some_iff.mp nl).1;refine Ahc (j:=j) (by lia) (Ay2 ?_);rw[List.getElem?_append_left hj];exact nl
theorem Ael {S:Plan}(r:Pg.Rules S)(n:Nat)(e:Nat×Nat):e∈Aaw S n↔e.2<n∧Pg.adj S e.2 e.1:=by
 unfold Aaw Abe;simp only[List.mem_flatMap,List.mem_range,List.mem_map];constructor
 ·rintro⟨m,hm,x,hx,rfl⟩;exact⟨hm,(Pg.mem_ring r m x).1 hx⟩
 ·intro h;exact⟨e.2,h.1,e.1,(Pg.mem_ring r e.2 e.1).2 h.2,rfl⟩
def Ap8 (C:Addr):Sp:=fun vs H Q _=>∃(d:Addr) (S:Plan) (pa la ma:Addr) (as ls ms:List Addr),vs=[.ref d]∧DrawAt C H d S pa la ma as ls ms∧Pg.Rules S∧
 ∀(H':Hp) (f:Addr) (kvs:List (List Key×V)) (E:List (Nat×Nat)),Same H H'→H f=none→Bbs H' f S kvs→kvs.map (·.1)=E.map wK→E.Nodup→(∀e,e∈E↔Pg.adj S e.1 e.2)→Q (.ref f) H'
section
variable {P:Program}{w:World}{K:W.Frag}{mg:Str→Option Value}{base:Heap}
theorem Adb {S:Plan}(r:Pg.Rules S):∀n,n≤S.pts.length→(Aaw S n).Nodup
 | 0,_=>by simp[Aaw]
 | n+1,h=>by
  have ih:=Adb r n (by lia);have e:Aaw S (n+1)=Aaw S n++Abe S n:=by unfold Aaw;rw[List.range_succ,List.flatMap_append];simp
  rw[e,List.nodup_append];refine⟨ih,?_,?_⟩
  ·unfold Abe;rw[List.nodup_iff_pairwise_ne,List.pairwise_map];apply (List.nodup_iff_pairwise_ne.1 (r.rot.nod n (by lia))).imp;intro a b h q;exact h (Prod.mk.inj q).1
  ·intro a ha b hb q;have:=(Ael r n a).1 ha;unfold Abe at hb;obtain⟨x,_,rfl⟩:=List.mem_map.1 hb;rw[q]at this;simp only[]at this;lia
theorem scSteps:Aaa ["drawing","follow","middle","numbers","ring","k","number"] ["drawing"] (Aa7 Ajv):=fsc
theorem At8 {f fk fG fF fT C:Addr}{fd fdK fdG fdF fdT:FuncData}(F:Def K mg "steps_behind" Ajv ["drawing"] f fd)(FK:Def K mg "links_of" Adn ["drawing"] fk fdK)(FG:Def K mg "ring_of" Al7 ["points","middle","numbers"] fG fdG)
 (FF:Def K mg "leftward" Ala ["points","middle","numbers"] fF fdF) (FT:Def K mg "turn_of" Ack ["p","q","r"] fT fdT) (T:Adl K C) (nl:mg "len" = none) (ne:mg "enumerate" = none):FnOk P w K mg base CX0 4 f fd ["drawing"] (Ap8 C):=by
 have GK:FnOk P w K mg base CX0 1 fk fdK ["drawing"] (Aft C):=Afh FK T;have GG:FnOk P w K mg base CX0 3 fG fdG ["points","middle","numbers"] (Aut K):=Awk FG FF FT nl;refine F.fn.ok scSteps (fun vs H Q E h=>?_) (fun cdv A outer s H vs Q E hr h=>?_)
 ·obtain⟨d,S,pa,la,ma,as,ls,ms,rfl,_⟩:=h;rfl
 ·obtain⟨d,S,pa,la,ma,as,ls,ms,rfl,D,r,k⟩:=h;have hu:=Agl hr;have hr1:Room 1 _:=hr.mono (by decide)
  refine⟨_,Aa1 (pS 1 scSteps.nd Afg)
   (Aa1 (Aap PassesOwn.never rfl (Abw rfl ne (Aa0 (pCD FK GK hr1 (Aa0 (pv 0) Aa3)) Aa3)) (Abu rfl (Aag (pG 2 scSteps.nd) (Aag (pG 3 scSteps.nd) Abc)))
    (Aa1 (pS 4 scSteps.nd (pCD FG GG hr (Aa0 (Aal (pv 0) rfl) (Aa0 (pv 2) (Aa0 (pv 3) Aa3)))))
    (Aa4 (Aap PassesOwn.never rfl (Abw rfl ne (Aa0 (pv 4) Aa3)) (Abu rfl (Aag (pG 5 scSteps.nd) (Aag (pG 6 scSteps.nd) Abc)))
     (Aa4 (Aei hu (pv 1) (Abh (Aa0 (pv 6) (Aa0 (pv 2) Aa3))) (Abh (Aa0 (pv 2) (Aa0 (pIL (pv 4) (Ab2 Ac4 (pv 5) Aa5)) Aa3))) rfl))))))
   (Aa4 (Aa9 (pv 1)))),?_⟩
  intro fo hfo;have s0:Same H (upd H fo (.dT [])):=Same.new hfo;refine⟨_,rfl,d,S,pa,la,ma,as,ls,ms,rfl,D.same s0,r.lin,fun H1 a rows s1 L=>?_⟩;have s01:=s0.trans s1;have hfo1:H1 fo=some (.dT []):=s1 _ _ Aa2;have nP:=D.nP;have nL:=D.nL;have rl:rows.length=S.pts.length:=by have:=L.len;simpa using this
  have lenE:∀E:List (Nat×Nat),E.Nodup→(∀e,e∈E→Pg.adj S e.1 e.2)→E.length≤16384:=fun E nd ad=>by
   have:=Pg.len_le nd (m:=Gla.ways S) (fun e he=>(Pg.mem_ways S e).2 (ad e he));rw[Pg.len_ways]at this;lia
  have nd_all:=Adb r S.pts.length (Nat.le_refl _);have lkeep:∀{H':Hp},(∀b o,H1 b=some o→b≠fo→H' b=some o)→H' a=some (.lst (rows.map V.ref)):=fun {H'} kp=>kp a _ L.lst (Aby L.lst hfo1 (by intro z;cases z))
  refine⟨a,_,rfl,SqL.of L.lst,Abk (K:=K) (a:=a) (xs:=rows.map V.ref) (fun i σ H'=>(∃v2 v3 v4 v5 v6:Option V,σ=[some (.ref d),some (.ref fo),v2,v3,v4,v5,v6])∧(∀b o,H1 b=some o→b≠fo→H' b=some o)∧∃kvs,H' fo=some (.dT kvs)∧FoI S H' kvs (Aaw S i))
   ⟨⟨_,_,_,_,_,rfl⟩,fun b o e _=>e,[],hfo1,rfl,by intro e he;simp[Aaw]at he⟩ (fun i σ H' _ ⟨_,kp,_⟩=>SqL.of (lkeep kp)) ?_ ?_⟩
  ·rintro i x σ H' t hi ⟨⟨v2,v3,v4,v5,v6,rfl⟩,kp,kvs,hf,I⟩ ht;obtain⟨c,hc,rfl⟩:=Aad hi;have il:i<S.pts.length:=by have:=(List.getElem?_eq_some_iff.mp hc).1;lia
   obtain⟨l,el,hcl⟩:=L.at_ i c hc;have:l=S.near i:=by
    rw[List.getElem?_map,List.getElem?_range il]at el;exact(Option.some.inj el).symm
   subst this;have s2:Same H' (upd H' t (.tup [.int (i:Nat),.ref c])):=Same.new ht;have keepD:∀{H'':Hp},(∀b o,H1 b=some o→b≠fo→H'' b=some o)→Same H H'':=fun {H''} kp b o e=>kp b o (s01 b o e) (Aa8 e hfo);have kp2:∀b o,H1 b=some o→b≠fo→(upd H' t (.tup [.int (i:Nat),.ref c])) b=some o:=fun b o e n=>s2 _ _ (kp b o e n);have D2:=D.same (keepD kp2);obtain⟨dx,hd⟩:=D2.ins;have ncf:c≠fo:=Aby hcl hfo1 (by intro z;cases z)
   have nn:∀y,y∈S.near i→y<S.pts.length:=fun y hy=>(r.adj_lt ((Pg.mem_near r i y).1 hy)).2.1;have n8:(S.near i).length≤8192:=Nat.le_trans (Ag9 S.lines i) nL;refine⟨t,_,rfl,SqT.of Aa2,rfl,_,_,rfl,_,_,rfl,rfl,?_⟩;refine⟨_,rfl,d,C,dx,_,_,rfl,hd,T.cl,T.nP,Adx _ _ _ _ _,_,rfl,_,rfl,pa,c,i,S.near i,S,as,rfl,D2.pts,D2.ptsA,D2.smP,il,kp2 _ _ hcl ncf,nn,n8,fun H3 ri s3 fri hri=>?_⟩;have ering:Aw5 S i (S.near i)=Pg.ringOf S i:=rfl
   rw[ering]at hri;have hf3:=s3 _ _ (s2 _ _ hf);have kp3:∀b o,H1 b=some o→b≠fo→H3 b=some o:=fun b o e n=>s3 _ _ (kp2 b o e n);have I3:FoI S H3 kvs (Aaw S i):=⟨I.keys,fun e he=>let ⟨b,x,y⟩:=I.val e he;⟨b,x,s3 _ _ (s2 _ _ y)⟩⟩
   have nrf:ri≠fo:=fun q=>by rw[q,s2 _ _ hf]at fri;cases fri
   refine⟨_,rfl,ri,_,rfl,SqL.of hri,Abk (K:=K) (a:=ri) (xs:=vN (Pg.ringOf S i)) (fun j σ H'=>(∃v5 v6:Option V,σ=[some (.ref d),some (.ref fo),some (.int (i:Nat)),some (.ref c),some (.ref ri),v5,v6])∧(∀b o,H3 b=some o→b≠fo→H' b=some o)∧∃kvs,H' fo=some (.dT kvs)∧FoI S H' kvs (Aaw S i++(Abe S i).take j))
    ⟨⟨_,_,rfl⟩,fun b o e _=>e,kvs,hf3,by simpa using I3⟩ (fun j σ H' _ ⟨_,kp,_⟩=>SqL.of (kp _ _ hri nrf)) ?_ ?_⟩
   ·rintro j y σ H4 t2 hj ⟨⟨v5,v6,rfl⟩,kp4,kvs4,hf4,I4⟩ ht2;obtain⟨x,hx,rfl⟩:=Ajo hj;have s4:Same H4 (upd H4 t2 (.tup [.int (j:Nat),.int (x:Nat)])):=Same.new ht2;have hri4:=s4 _ _ (kp4 _ _ hri nrf);have wx:(Abe S i)[j]?=some (x,i):=by unfold Abe;rw[List.getElem?_map,hx];rfl
    have nin:((x,i):Nat×Nat)∉Aaw S i++(Abe S i).take j:=by
     intro q;have nd2:=Adb r (i+1) (by lia);have e:Aaw S (i+1)=Aaw S i++Abe S i:=by unfold Aaw;rw[List.range_succ,List.flatMap_append];simp
     rw[e]at nd2;have sub:(Aaw S i++(Abe S i).take j++(Abe S i).drop j).Nodup:=by rw[List.append_assoc,List.take_append_drop];exact nd2
     rw[Acp wx,List.nodup_append]at sub;exact sub.2.2 _ q (x,i) (by simp) rfl
    refine⟨t2,_,rfl,SqT.of Aa2,rfl,_,_,rfl,_,_,rfl,rfl,?_⟩;refine⟨_,rfl,_,rfl,_,rfl,_,_,rfl,rfl,ri,_,_,V.int (S.next x i:Nat),rfl,rfl,SqL.of hri4,Apy r il hx,sz2,fun t3 ht3=>?_⟩;have s5:=Same.new (o:=.tup [.int (i:Nat),.int (S.next x i:Nat)]) ht3;refine⟨_,rfl,_,rfl,_,rfl,sz2,fun t4 ht4=>?_⟩;have s6:=Same.new (o:=.tup [.int (x:Nat),.int (i:Nat)]) ht4;have s46:=(s4.trans s5).trans s6;have hf6:=s46 _ _ hf4
    have lt3:LnAt (upd (upd (upd H4 t2 (.tup [.int (j:Nat),.int (x:Nat)])) t3 (.tup [.int (i:Nat),.int (S.next x i:Nat)])) t4 (.tup [.int (x:Nat),.int (i:Nat)])) t3 (i,S.next x i):=s6 _ _ Aa2;have n3f:t3≠fo:=fun q=>by rw[q,s4 _ _ hf4]at ht3;cases ht3
    have ln:kvs4.length<sizeLine:=by
     have e1:kvs4.length=(Aaw S i++(Abe S i).take j).length:=by
      have:=congrArg List.length I4.keys;simpa using this
     have nd3:(Aaw S i++(Abe S i).take j).Nodup:=by
      have nd2:=Adb r (i+1) (by lia);have e:Aaw S (i+1)=Aaw S i++Abe S i:=by unfold Aaw;rw[List.range_succ,List.flatMap_append];simp
      rw[e,←List.take_append_drop j (Abe S i),←List.append_assoc]at nd2;exact(List.nodup_append.1 nd2).1
     have:=lenE _ nd3 (fun e he=>by
      rcases List.mem_append.1 he with q | q
      ·exact r.draw.sym _ _ ((Ael r i e).1 q).2
      ·have:=List.mem_of_mem_take q;unfold Abe at this;obtain⟨z,hz,rfl⟩:=List.mem_map.1 this
       exact r.draw.sym _ _ ((Pg.mem_ring r i z).1 hz))
     rw[e1];exact Nat.lt_of_le_of_lt this (by decide)
    refine⟨fo,_,rfl,DPut.t (k:=wK (x,i)) hf6 Aa2 ln,?_⟩;obtain⟨pe,I5⟩:=I4.push (e:=(x,i)) (c:=t3) s46 nin lt3;rw[pe];refine⟨⟨_,_,rfl⟩,?_,_,Aa2,?_⟩
    ·intro b o e n;rw[Aa6 n];exact s46 _ _ (kp4 b o e n)
    ·have I6:FoI S (upd (upd (upd (upd H4 t2 (.tup [.int (j:Nat),.int (x:Nat)])) t3 (.tup [.int (i:Nat),.int (S.next x i:Nat)])) t4 (.tup [.int (x:Nat),.int (i:Nat)])) fo (.dT (kvs4++[(wK (x,i),.ref t3)]))) (kvs4++[(wK (x,i),.ref t3)]) ((Aaw S i++(Abe S i).take j)++[(x,i)]) :=
      ⟨I5.keys,fun e he=>let ⟨b,p,q⟩:=I5.val e he;⟨b,p,by show(upd _ fo _) b=_;rw[Aa6 (Aby q hf6 (by intro z;cases z))];exact q⟩⟩
     rw[List.append_assoc,←Aak wx]at I6;exact I6
   ·rintro σ H4 ⟨⟨v5,v6,rfl⟩,kp4,kvs4,hf4,I4⟩;have wl:(vN (Pg.ringOf S i)).length=(Abe S i).length:=by unfold vN Abe;rw[List.length_map,List.length_map]
    rw[wl,List.take_length]at I4;refine⟨⟨_,_,_,_,_,rfl⟩,fun b o e n=>kp4 _ _ (kp3 b o e n) n,kvs4,hf4,?_⟩;have e:Aaw S (i+1)=Aaw S i++Abe S i:=by unfold Aaw;rw[List.range_succ,List.flatMap_append];simp
    rw[e];exact I4
  ·rintro σ H' ⟨⟨v2,v3,v4,v5,v6,rfl⟩,kp,kvs,hf,I⟩;rw[List.length_map,rl]at I;have mem:∀e,e∈Aaw S S.pts.length↔Pg.adj S e.1 e.2:=fun e=>by
    rw[Ael r];constructor
    ·intro q;exact r.draw.sym _ _ q.2
    ·intro q;exact⟨(r.adj_lt q).2.1,r.draw.sym _ _ q⟩
   refine⟨_,rfl,k H' fo kvs (Aaw S S.pts.length) (fun b o e=>kp b o (s01 b o e) (Aa8 e hfo)) hfo ⟨hf,fun u v a=>?_⟩ I.keys nd_all mem⟩;exact I.val (u,v) ((mem (u,v)).2 a)
end
end Gc
end
section
namespace Gc
open Gla (Pt Plan Mark)
theorem Avl (b:Nat)(r:List Nat):(b::r).zip ((b::r).drop 1++(b::r).take 1)=(b::r).zip (r++[b]):=rfl
def Abs (b:Nat):List Nat→Nat
 | []=>b
 | c::r=>Abs c r
theorem Aep (b:Nat):∀r:List Nat,(b::r)[(b::r).length-1]?=some (Abs b r)
 | []=>rfl
 | c::r=>by
  have:=Aep c r;show(b::c::r)[(c::r).length]?=_;have e:(b::c::r)[(c::r).length]?=(c::r)[(c::r).length-1]?:=by
   rw[show(c::r).length=((c::r).length-1)+1 from by simp];rfl
  rw[e];exact this
theorem Ai6 (S:Plan)(a:Nat):∀(r:List Nat) (b:Nat),(((b::r).zip (r++[a])).map fun(x:Nat×Nat)=>((S.pt x.1).x:Int)*((S.pt x.2).y:Int)-((S.pt x.2).x:Int)*((S.pt x.1).y:Int)).foldr (fun(a b:Int)=>a+b) 0=arS (S.pt b) (r.map S.pt)+arT (S.pt (Abs b r)) (S.pt a)
 | [],b=>by
  simp only[List.nil_append,List.zip_cons_cons,List.zip_nil_left,List.map_cons,List.map_nil,List.foldr_cons,List.foldr_nil,arS,Abs,arT];rw[Int.mul_comm ((S.pt a).x:Int)];lia
 | c::r,b=>by
  have ih:=Ai6 S a r c;simp only[List.cons_append,List.zip_cons_cons,List.map_cons,List.foldr_cons]at ih ⊢;rw[ih];simp only[arS,Abs,arT];rw[Int.mul_comm ((S.pt c).x:Int) ((S.pt b).y:Int)];lia
theorem Axl (S:Plan){l:List Nat}{p:Pt}(h:(l.map S.pt)[(l.map S.pt).length-1]?=some p):arS p (l.map S.pt)=Gla.twiceArea S l:=by
 cases l with
 | nil=>simp at h
 | cons b r =>
  unfold Gla.twiceArea;rw[Avl,Ai6 S b r b];have:p=S.pt (Abs b r):=by
   rw[List.length_map,List.getElem?_map,Aep b r]at h;exact(Option.some.inj h).symm
  subst this;show arS _ (S.pt b::r.map S.pt)=_;simp only[arS];lia
def inB (z p q:Pt):Bool:=(decide (p.y≤z.y)&&(decide (z.y<q.y)&&decide (0<Gla.turn p q z)))||(decide (q.y≤z.y)&&(decide (z.y<p.y)&&decide (Gla.turn p q z<0)))
theorem Amj (z p q:Pt):Acu p q z=inB z p q:=by
 have t:=Pg.turn_rev p q z;unfold Acu inB
 by_cases h1:p.y≤z.y∧z.y<q.y
 ·rw[if_pos h1,decide_eq_true h1.1,decide_eq_true h1.2,decide_eq_false (show ¬z.y<p.y by lia)];simp
 ·rw[if_neg h1]
  by_cases h2:q.y≤z.y∧z.y<p.y
  ·rw[if_pos h2,decide_eq_true h2.1,decide_eq_true h2.2,decide_eq_false (show ¬z.y<q.y by lia),t];simp
  ·rw[if_neg h2]
   symm
   rw[Bool.eq_false_iff];intro q;simp only[Bool.or_eq_true,Bool.and_eq_true,decide_eq_true_eq]at q;lia
def par (n:Nat):Bool:=decide (n%2=1)
theorem At3 (n:Nat):par (n+1) = !par n:=by
 unfold par;rcases Nat.mod_two_eq_zero_or_one n with e | e
 ·rw[decide_eq_true (show(n+1)%2=1 by lia),decide_eq_false (show ¬n%2=1 by lia)];rfl
 ·rw[decide_eq_false (show ¬(n+1)%2=1 by lia),decide_eq_true e];rfl
def Avf (S:Plan)(z:Pt)(zs:List (Nat×Nat)):Nat:=(zs.filter fun(x:Nat×Nat)=>inB z (S.pt x.1) (S.pt x.2)).length
theorem An9 (S:Plan)(z:Pt)(x:Nat×Nat)(zs:List (Nat×Nat)):par (Avf S z (x::zs))=(inB z (S.pt x.1) (S.pt x.2) != par (Avf S z zs)):=by
 unfold Avf
 by_cases h:inB z (S.pt x.1) (S.pt x.2)=true
 ·rw[List.filter_cons_of_pos (by exact h),List.length_cons,At3,h];simp
 ·rw[List.filter_cons_of_neg (by exact h),Bool.eq_false_iff.mpr h];simp
theorem Axg (S:Plan)(z:Pt):par (Avf S z [])=false:=rfl
theorem Ahy (S:Plan)(z:Pt)(a:Nat):∀(r:List Nat) (b:Nat) (w:Bool),hoS z (if Acu (S.pt (Abs b r)) (S.pt a) z=true then !w else w) (S.pt b) (r.map S.pt)=(w != par (Avf S z ((b::r).zip (r++[a]))))
 | [],b,w=>by
  show(if Acu (S.pt b) (S.pt a) z=true then !w else w)=(w != par (Avf S z [(b,a)]));rw[An9,Axg,Amj];cases inB z (S.pt b) (S.pt a)<;>cases w<;>rfl
 | c::r,b,w=>by
  have ih:=Ahy S z a r c (if Acu (S.pt b) (S.pt c) z=true then !w else w);show hoS z (if Acu (S.pt b) (S.pt c) z=true then !(if Acu (S.pt (Abs c r)) (S.pt a) z=true then !w else w) else(if Acu (S.pt (Abs c r)) (S.pt a) z=true then !w else w)) (S.pt c) (r.map S.pt)=(w != par (Avf S z ((b,c)::(c::r).zip (r++[a]))));have sw:∀(p q w:Bool),(if p=true then !(if q=true then !w else w) else(if q=true then !w else w))=(if q=true then !(if p=true then !w else w) else(if p=true then !w else w)):=by decide
  rw[sw,ih,An9,Amj];cases inB z (S.pt b) (S.pt c)<;>cases w<;>cases par (Avf S z ((c::r).zip (r++[a])))<;>rfl
theorem Ara (S:Plan)(z:Pt){l:List Nat}(h:l≠[]):hoB z (l.map S.pt)=Gla.insideOf S l z:=by
 cases l with
 | nil=>exact absurd rfl h
 | cons b r =>
  have hl:((b::r).map S.pt)[((b::r).map S.pt).length-1]?=some (S.pt (Abs b r)):=by
   rw[List.length_map,List.getElem?_map,Aep b r];rfl
  rw[Arc hl];show hoS z false (S.pt (Abs b r)) (S.pt b::r.map S.pt)=_;have e:=Ahy S z b r b false;show hoS z (if Acu (S.pt (Abs b r)) (S.pt b) z=true then !false else false) (S.pt b) (r.map S.pt)=_;rw[e,Bool.false_bne];rfl
end Gc
end
section
namespace Gc
open PySem PySem.Spec PyProof.Rows L2
open Gla (Pt Plan Mark)
abbrev Afx:Stmt:=Agk (top Aod) 0
abbrev Ba8:Stmt:=top Ao7
def vfs (rf dr pn:V):List (Str×V):=Ado "panes" pn (Ado "drawing" dr (Ado "refusal" rf []))
theorem Axz (rf dr pn:V):(vfs rf dr pn).lookup ("refusal" : Str)=some rf:=by
 unfold vfs;simp only[Aau];rw[if_neg (by decide +kernel),if_neg (by decide +kernel),if_pos trivial]
theorem Ay0 (rf dr pn:V):(vfs rf dr pn).lookup ("panes" : Str)=some pn:=by
 unfold vfs;rw[Aau,if_pos rfl]
structure Am4 (K:W.Frag)(C:Addr):Prop where
 cl:Cls K C
 nR:NoAttr K C "refusal"
 nD:NoAttr K C "drawing"
 nP:NoAttr K C "panes"
def Aig (C:Addr):Sp:=fun vs H Q _=>∃(p dx:Addr) (rf dr pn:V),vs=[.ref p,rf,dr,pn]∧H p=some (.ins C dx [])∧∀H':Hp,H' p=some (.ins C dx (vfs rf dr pn))→(∀b o,H b=some o→b≠p→H' b=some o)→Q .non H'
def RefAt (C:Addr)(H:Hp)(v:Addr)(l:List Int):Prop:=∃dx ra pa,H v=some (.ins C dx (vfs (.ref ra) .non (.ref pa)))∧H ra=some (.lst (l.map V.int))∧H pa=some (.lst [])
def Apa (C:Addr):Sp:=fun vs H Q _=>∃(r p:Int),vs=[.int r,.int p]∧∀(H':Hp) (v:Addr),Same H H'→RefAt C H' v [-5,r,p]→Q (.ref v) H'
section
variable {P:Program}{w:World}{K:W.Frag}{mg:Str→Option Value}{base:Heap}
theorem Aw2:Aaa ["self","refusal","drawing","panes"] ["self","refusal","drawing","panes"] (Aa7 Afx):=fsc
theorem Ais {f C:Addr}{fd:FuncData}(F:Fun K "__init__" "Verdict.__init__" Afx f fd)(T:Am4 K C):FnOk P w K mg base CX0 1 f fd ["self","refusal","drawing","panes"] (Aig C):=by
 refine F.ok Aw2 (fun vs H Q E h=>?_) (fun cdv A outer s H vs Q E hr h=>?_)
 ·obtain⟨p,dx,rf,dr,pn,rfl,_⟩:=h;rfl
 ·obtain⟨p,dx,rf,dr,pn,rfl,hp,k⟩:=h;refine⟨_,Aa1 (Ad1 (pv 0) (pv 1) rfl) (Aa1 (Ad1 (pv 0) (pv 2) rfl) (Aa4 (Ad1 (pv 0) (pv 3) rfl))),?_⟩;have l0:([]:List (Str×V)).length≤0:=Nat.le_refl _;refine⟨_,rfl,_,rfl,p,C,dx,_,rfl,hp,T.cl,T.nR,(by show 0<1000;decide),?_⟩;refine⟨_,rfl,_,rfl,p,C,dx,_,rfl,Aa2,T.cl,T.nD,Nat.lt_of_le_of_lt (Abn l0) (by decide),?_⟩;refine⟨_,rfl,_,rfl,p,C,dx,_,rfl,Aa2,T.cl,T.nP,Nat.lt_of_le_of_lt (Abn (Abn l0)) (by decide),?_⟩
  refine k _ Aa2 fun b o e hb=>?_;rw[Aa6 hb,Aa6 hb,Aa6 hb];exact e
theorem Bar:Aaa ["rule","place"] ["rule","place"] (Aa7 Ba8):=fsc
theorem Av4 {f fI C:Addr}{fd fdI:FuncData}(F:Def K mg "refused" Ba8 ["rule","place"] f fd)(FI:Fun K "__init__" "Verdict.__init__" Afx fI fdI)(bI:Binds K fdI ["self","refusal","drawing","panes"] [])(M:Mk K C fI)(mC:mg "Verdict" = some (.ref C))(T:Am4 K C) :
 FnOk P w K mg base CX0 3 f fd ["rule","place"] (Apa C):=by
 have GI:FnOk P w K mg base CX0 1 fI fdI ["self","refusal","drawing","panes"] (Aig C):=Ais FI T;refine F.fn.ok Bar (fun vs H Q E h=>?_) (fun cdv A outer s H vs Q E hr h=>?_)
 ·obtain⟨r,p,rfl,_⟩:=h;rfl
 ·obtain⟨r,p,rfl,k⟩:=h;refine⟨_,Aa4 (Aa9 (Aio M GI hr rfl mC bI .nil Abm (Aa0 (Ab8 (Aa0 (Anw Ahh Aa5) (Aa0 (pv 0) (Aa0 (pv 1) Aa3)))) (Aa0 Acv (Aa0 (Ab8 Aa3) Aa3))))),?_⟩;refine⟨_,rfl,_,rfl,_,rfl,sz3,fun ra hra=>?_⟩;have s1:=Same.new (o:=.lst [.int (-5),.int r,.int p]) hra;refine⟨Nat.zero_le _,fun pa hpa=>?_⟩;have s2:=s1.trans (Same.new (o:=.lst []) hpa)
  intro x dx hx hdx ne;refine⟨x,dx,.ref ra,.non,.ref pa,rfl,Aa2,fun H4 hd keep=>⟨rfl,?_⟩⟩;have s34:=Same.made hx hdx keep;refine k H4 x (s2.trans s34) ⟨dx,ra,pa,hd,s34 _ _ ?_,s34 _ _ Aa2⟩;exact Same.new hpa _ _ Aa2
end
abbrev Ajz:Stmt:=top Alo
def eL (S:Plan)(on:Pt→Bool)(i:Nat):List Nat:=(List.range i).filter fun(j:Nat)=>on (S.pt j)
theorem Aj9 (S:Plan)(on:Pt→Bool)(i:Nat):eL S on (i+1)=if on (S.pt i)=true then eL S on i++[i] else eL S on i:=by
 unfold eL;rw[List.range_succ,List.filter_append]
 by_cases h:on (S.pt i)=true
 ·rw[if_pos h];simp[h]
 ·rw[if_neg h];simp[h]
theorem Ava (S:Plan)(on:Pt→Bool)(i:Nat):(eL S on i).length≤i:=by
 unfold eL;have:=List.length_filter_le (fun(j:Nat)=>on (S.pt j)) (List.range i);rw[List.length_range]at this;exact this
structure Four (H H':Hp)(be le ri ab:Addr)(l1 l2 l3 l4:List Nat):Prop where
 s:Same H H'
 h1:H' be=some (.lst (vN l1))
 h2:H' le=some (.lst (vN l2))
 h3:H' ri=some (.lst (vN l3))
 h4:H' ab=some (.lst (vN l4))
structure Ba2 (H:Hp)(be le ri ab:Addr):Prop where
 n1:H be=none
 n2:H le=none
 n3:H ri=none
 n4:H ab=none
 d12:be≠le
 d13:be≠ri
 d14:be≠ab
 d23:le≠ri
 d24:le≠ab
 d34:ri≠ab
section
variable {H H':Hp}{be le ri ab:Addr}{l1 l2 l3 l4:List Nat}
theorem Four.p1 (n:Ba2 H be le ri ab)(f:Four H H' be le ri ab l1 l2 l3 l4)(x:Nat):Four H (upd H' be (.lst (vN l1++[V.int (x:Nat)]))) be le ri ab (l1++[x]) l2 l3 l4 :=
 ⟨fun b o e=>by rw[Aa6 (Aa8 e n.n1)];exact f.s b o e,by rw[Aa2,Ac9],by rw[Aa6 (Ne.symm n.d12)];exact f.h2,by rw[Aa6 (Ne.symm n.d13)];exact f.h3,by rw[Aa6 (Ne.symm n.d14)];exact f.h4⟩
theorem Four.p2 (n:Ba2 H be le ri ab)(f:Four H H' be le ri ab l1 l2 l3 l4)(x:Nat):Four H (upd H' le (.lst (vN l2++[V.int (x:Nat)]))) be le ri ab l1 (l2++[x]) l3 l4 :=
 ⟨fun b o e=>by rw[Aa6 (Aa8 e n.n2)];exact f.s b o e,by rw[Aa6 n.d12];exact f.h1,by rw[Aa2,Ac9],by rw[Aa6 (Ne.symm n.d23)];exact f.h3,by rw[Aa6 (Ne.symm n.d24)];exact f.h4⟩
theorem Four.p3 (n:Ba2 H be le ri ab)(f:Four H H' be le ri ab l1 l2 l3 l4)(x:Nat):Four H (upd H' ri (.lst (vN l3++[V.int (x:Nat)]))) be le ri ab l1 l2 (l3++[x]) l4 :=
 ⟨fun b o e=>by rw[Aa6 (Aa8 e n.n3)];exact f.s b o e,by rw[Aa6 n.d13];exact f.h1,by rw[Aa6 n.d23];exact f.h2,by rw[Aa2,Ac9],by rw[Aa6 (Ne.symm n.d34)];exact f.h4⟩
theorem Four.p4 (n:Ba2 H be le ri ab)(f:Four H H' be le ri ab l1 l2 l3 l4)(x:Nat):Four H (upd H' ab (.lst (vN l4++[V.int (x:Nat)]))) be le ri ab l1 l2 l3 (l4++[x]) :=
 ⟨fun b o e=>by rw[Aa6 (Aa8 e n.n4)];exact f.s b o e,by rw[Aa6 n.d14];exact f.h1,by rw[Aa6 n.d24];exact f.h2,by rw[Aa6 n.d34];exact f.h3,by rw[Aa2,Ac9]⟩
theorem Four.more {H2:Hp}(f:Four H H' be le ri ab l1 l2 l3 l4)(e:Same H' H2):Four H H2 be le ri ab l1 l2 l3 l4:=⟨f.s.trans e,e _ _ f.h1,e _ _ f.h2,e _ _ f.h3,e _ _ f.h4⟩
end
theorem Afk {b:Bool}{H1:Hp}{A:Prop}(R:Hp→Prop){N:Hp→Prop}(hB:b=false→R H1)(hA:b=true→(∀H2,R H2→N H2)→A)(cont:∀H2,R H2→N H2):if b=true then A else N H1 :=
 Abg (fun e=>hA e cont) (fun e=>cont H1 (hB (Bool.eq_false_iff.mpr e)))
theorem Aki (a b:Nat):decide (V.int (a:Nat)=V.int (b:Nat))=(a==b):=by
 by_cases e:a=b
 ·subst e;simp
 ·have:¬V.int (a:Nat)=V.int (b:Nat):=fun q=>e (by injection q with q;lia);rw[decide_eq_false this];simp[e]
def onB:Pt→Bool:=fun p=>p.y==0
def onL:Pt→Bool:=fun p=>p.x==0
def onR (S:Plan):Pt→Bool:=fun p=>p.x==S.w
def onA (S:Plan):Pt→Bool:=fun p=>p.y==S.h
def Apn (C:Addr):Sp:=fun vs H Q _=>∃(d:Addr) (S:Plan) (pa la ma:Addr) (as ls ms:List Addr),vs=[.ref d]∧DrawAt C H d S pa la ma as ls ms∧S.pts.length≤4096∧
 ∀(H':Hp) (t be le ri ab:Addr),H' t=some (.tup [.ref be,.ref le,.ref ri,.ref ab])→Four H H' be le ri ab (Gla.edgePts S onB) (Gla.edgePts S onL) (Gla.edgePts S (onR S)) (Gla.edgePts S (onA S))→Q (.ref t) H'
section
variable {P:Program}{w:World}{K:W.Frag}{mg:Str→Option Value}{base:Heap}
theorem scEdges:Aaa ["drawing","below","left","right","above","number","point"] ["drawing"] (Aa7 Ajz):=fsc
theorem Ate {f C:Addr}{fd:FuncData}(F:Def K mg "edges_of" Ajz ["drawing"] f fd)(T:Adl K C)(ne:mg "enumerate" = none):FnOk P w K mg base CX0 1 f fd ["drawing"] (Apn C):=by
 refine F.fn.ok scEdges (fun vs H Q E h=>?_) (fun cdv A outer s H vs Q E hr h=>?_)
 ·obtain⟨d,S,pa,la,ma,as,ls,ms,rfl,_⟩:=h;rfl
 ·obtain⟨d,S,pa,la,ma,as,ls,ms,rfl,D,nP,k⟩:=h
  refine⟨_,Aa1 (pS 1 scEdges.nd (Ab8 Aa3))
   (Aa1 (pS 2 scEdges.nd (Ab8 Aa3))
   (Aa1 (pS 3 scEdges.nd (Ab8 Aa3))
   (Aa1 (pS 4 scEdges.nd (Ab8 Aa3))
   (Aa1 (Aap PassesOwn.never rfl (Abw rfl ne (Aa0 (Aal (pv 0) rfl) Aa3)) (Abu rfl (Aag (pG 5 scEdges.nd) (Aag (pG 6 scEdges.nd) Abc)))
    (Aa1 (Aat (Aaj Anx (pIT (pv 6) Aa5) Aa5 (Aan _)) (Aa4 (Abo (Aej PySem.F.plainAttrs_list PySem.F.slot_list_append PySem.F.type_list_append Ab3 (pv 1) (Aa0 (pv 5) Aa3)))) Aae)
    (Aa1 (Aat (Aaj Anx (pIT (pv 6) Aa5) Aa5 (Aan _)) (Aa4 (Abo (Aej PySem.F.plainAttrs_list PySem.F.slot_list_append PySem.F.type_list_append Ab3 (pv 2) (Aa0 (pv 5) Aa3)))) Aae)
    (Aa1 (Aat (Aaj Anx (pIT (pv 6) Aa5) (Aal (pv 0) rfl) (Aan _)) (Aa4 (Abo (Aej PySem.F.plainAttrs_list PySem.F.slot_list_append PySem.F.type_list_append Ab3 (pv 3) (Aa0 (pv 5) Aa3)))) Aae)
    (Aa4 (Aat (Aaj Anx (pIT (pv 6) Aa5) (Aal (pv 0) rfl) (Aan _)) (Aa4 (Abo (Aej PySem.F.plainAttrs_list PySem.F.slot_list_append PySem.F.type_list_append Ab3 (pv 4) (Aa0 (pv 5) Aa3)))) Aae))))))
   (Aa4 (Aa9 (Abh (Aa0 (pv 1) (Aa0 (pv 2) (Aa0 (pv 3) (Aa0 (pv 4) Aa3))))))))))),?_⟩
  refine⟨Nat.zero_le _,fun be hbe=>⟨Nat.zero_le _,fun le hle=>⟨Nat.zero_le _,fun ri hri=>⟨Nat.zero_le _,fun ab hab=>?_⟩⟩⟩⟩;have s1:=Same.new (o:=.lst []) hbe;have s2:=s1.trans (Same.new (o:=.lst []) hle);have s3:=s2.trans (Same.new (o:=.lst []) hri);have s4:=s3.trans (Same.new (o:=.lst []) hab);have d12:be≠le:=fun q=>by rw[←q,Aa2]at hle;cases hle
  have d23:le≠ri:=fun q=>by rw[←q,Aa2]at hri;cases hri
  have d34:ri≠ab:=fun q=>by rw[←q,Aa2]at hab;cases hab
  have d13:be≠ri:=fun q=>by rw[←q,Aa6 d12,Aa2]at hri;cases hri
  have d24:le≠ab:=fun q=>by rw[←q,Aa6 d23,Aa2]at hab;cases hab
  have d14:be≠ab:=fun q=>by rw[←q,Aa6 d13,Aa6 d12,Aa2]at hab;cases hab
  have nw:Ba2 H be le ri ab:=⟨hbe,s1.free hle,s2.free hri,s3.free hab,d12,d13,d14,d23,d24,d34⟩
  have f0:Four H (upd (upd (upd (upd H be (.lst [])) le (.lst [])) ri (.lst [])) ab (.lst [])) be le ri ab [] [] [] [] :=
   ⟨s4,by rw[Aa6 d14,Aa6 d13,Aa6 d12,Aa2];rfl,by rw[Aa6 d24,Aa6 d23,Aa2];rfl,by rw[Aa6 d34,Aa2];rfl,by rw[Aa2];rfl⟩
  generalize upd (upd (upd (upd H be (.lst [])) le (.lst [])) ri (.lst [])) ab (.lst [])=H0 at *;have D0:=D.same f0.s;obtain⟨dx,hd⟩:=D0.ins
  refine⟨_,rfl,d,C,dx,_,_,rfl,hd,T.cl,T.nP,Adx _ _ _ _ _,pa,_,rfl,SqL.of D0.pts,Abk (K:=K) (a:=pa) (xs:=as.map V.ref) (fun i σ H'=>(∃v5 v6:Option V,σ=[some (.ref d),some (.ref be),some (.ref le),some (.ref ri),some (.ref ab),v5,v6])∧Four H H' be le ri ab (eL S onB i) (eL S onL i) (eL S (onR S) i) (eL S (onA S) i))
   ⟨⟨_,_,rfl⟩,f0⟩ (fun i σ H' _ ⟨_,f⟩=>SqL.of (f.s _ _ D.pts)) ?_ ?_⟩
  ·rintro i x σ H' t hi ⟨⟨v5,v6,rfl⟩,f⟩ ht;obtain⟨c,hc,rfl⟩:=Aad hi;obtain⟨p,hp,pc⟩:=D.ptsX.at_ i c hc;have il:=(List.getElem?_eq_some_iff.mp hp).1;have ep:S.pt i=p:=by unfold Gla.Plan.pt;rw[List.getD_eq_getElem?_getD,hp];rfl
   have f1:=f.more (Same.new (o:=.tup [.int (i:Nat),.ref c]) ht);have lenE:∀on,(vN (eL S on i)).length<sizeLine:=fun on=>by
    unfold vN;rw[List.length_map];have:=Ava S on i;exact Nat.lt_of_le_of_lt (show _≤4096 by lia) (by decide)
   refine⟨t,_,rfl,SqT.of Aa2,rfl,_,_,rfl,_,_,rfl,rfl,?_⟩;generalize upd H' t (.tup [.int (i:Nat),.ref c])=H1 at *;have E1:=Aj9 S onB i;have E2:=Aj9 S onL i;have E3:=Aj9 S (onR S) i;have E4:=Aj9 S (onA S) i;rw[ep]at E1 E2 E3 E4;refine⟨_,rfl,c,_,_,_,rfl,rfl,SqT.of (K:=K) (f1.s _ _ pc),rfl,rfl,_,rfl,?_⟩;refine Afk (fun H2=>Four H H2 be le ri ab (eL S onB (i+1)) (eL S onL i) (eL S (onR S) i) (eL S (onA S) i)) (fun e=>?_) (fun e ct=>?_) (fun H2 f2=>?_)
   ·rw[E1,if_neg (by have:=Aki p.y 0;rw[show onB p=(p.y==0)from rfl,←this];exact Bool.eq_false_iff.mp e)];exact f1
   ·refine⟨_,rfl,.inl ⟨rfl,_,SqL.of f1.h1⟩,_,rfl,be,_,_,rfl,rfl,f1.h1,lenE _,ct _ ?_⟩;rw[E1,if_pos (by have:=Aki p.y 0;rw[show onB p=(p.y==0)from rfl,←this];exact e)];exact f1.p1 nw i
   refine⟨_,rfl,c,_,_,_,rfl,rfl,SqT.of (K:=K) (f2.s _ _ pc),rfl,rfl,_,rfl,?_⟩;refine Afk (fun H2=>Four H H2 be le ri ab (eL S onB (i+1)) (eL S onL (i+1)) (eL S (onR S) i) (eL S (onA S) i)) (fun e=>?_) (fun e ct=>?_) (fun H3 f3=>?_)
   ·rw[E2,if_neg (by have:=Aki p.x 0;rw[show onL p=(p.x==0)from rfl,←this];exact Bool.eq_false_iff.mp e)];exact f2
   ·refine⟨_,rfl,.inl ⟨rfl,_,SqL.of f2.h2⟩,_,rfl,le,_,_,rfl,rfl,f2.h2,lenE _,ct _ ?_⟩;rw[E2,if_pos (by have:=Aki p.x 0;rw[show onL p=(p.x==0)from rfl,←this];exact e)];exact f2.p2 nw i
   obtain⟨dx3,hd3⟩:=(D.same f3.s).ins;refine⟨_,rfl,c,_,_,_,rfl,rfl,SqT.of (K:=K) (f3.s _ _ pc),rfl,_,rfl,d,C,dx3,_,_,rfl,hd3,T.cl,T.nW,Au7 _ _ _ _ _,rfl,_,rfl,?_⟩;refine Afk (fun H2=>Four H H2 be le ri ab (eL S onB (i+1)) (eL S onL (i+1)) (eL S (onR S) (i+1)) (eL S (onA S) i)) (fun e=>?_) (fun e ct=>?_) (fun H4 f4=>?_)
   ·rw[E3,if_neg (by have:=Aki p.x S.w;rw[show onR S p=(p.x==S.w)from rfl,←this];exact Bool.eq_false_iff.mp e)];exact f3
   ·refine⟨_,rfl,.inl ⟨rfl,_,SqL.of f3.h3⟩,_,rfl,ri,_,_,rfl,rfl,f3.h3,lenE _,ct _ ?_⟩;rw[E3,if_pos (by have:=Aki p.x S.w;rw[show onR S p=(p.x==S.w)from rfl,←this];exact e)];exact f3.p3 nw i
   obtain⟨dx4,hd4⟩:=(D.same f4.s).ins;refine⟨_,rfl,c,_,_,_,rfl,rfl,SqT.of (K:=K) (f4.s _ _ pc),rfl,_,rfl,d,C,dx4,_,_,rfl,hd4,T.cl,T.nH,Auc _ _ _ _ _,rfl,_,rfl,?_⟩;refine Afk (fun H2=>Four H H2 be le ri ab (eL S onB (i+1)) (eL S onL (i+1)) (eL S (onR S) (i+1)) (eL S (onA S) (i+1))) (fun e=>?_) (fun e ct=>?_) (fun H5 f5=>⟨⟨_,_,rfl⟩,f5⟩)
   ·rw[E4,if_neg (by have:=Aki p.y S.h;rw[show onA S p=(p.y==S.h)from rfl,←this];exact Bool.eq_false_iff.mp e)];exact f4
   ·refine⟨_,rfl,.inl ⟨rfl,_,SqL.of f4.h4⟩,_,rfl,ab,_,_,rfl,rfl,f4.h4,lenE _,ct _ ?_⟩;rw[E4,if_pos (by have:=Aki p.y S.h;rw[show onA S p=(p.y==S.h)from rfl,←this];exact e)];exact f4.p4 nw i
  ·rintro σ H' ⟨⟨v5,v6,rfl⟩,f⟩;rw[List.length_map,D.ptsA.len]at f;refine⟨_,rfl,_,rfl,_,rfl,_,rfl,sz4,fun t ht=>?_⟩;exact k _ t be le ri ab Aa2 (f.more (Same.new ht))
end
def Aw6 (K:W.Frag):R2:=fun x y H Q=>∃d xs,Dp K H x d∧Dp K H y (.list xs)∧PyData.canLayAll0 xs=true∧d.canLay0=true∧d.depth≤60∧Q (.bl (!xs.any fun z=>PyData.eqv z d)) H
theorem Aqa {X:Cx}(hu:X.A.units+64<cLine):OpR X (compareOp .NotIn) (Aw6 X.K):=by
 intro pins s σ H x y v u Q I rx ry h;obtain⟨d,xs,hd,hx,cx,cd,dd,q⟩:=h;obtain⟨as,r1⟩:=Dp.reads I d x v hd rx;obtain⟨bs,r2⟩:=Dp.reads I (.list xs) y u hx ry;refine SeqAt.notIn_list_reads r2 r1 cx cd ?_ ⟨.bl _,H,I,rfl,q⟩;have:=Nat.min_le_right (PyData.depthAll xs) d.depth;lia
def ptD (p:Pt):PyData:=.tuple [.int p.x,.int p.y]
theorem Aq3 (p:Pt):(ptD p).canLay0=true:=by simp[ptD,PyData.canLay0,PyData.canLayAll0]
theorem Aq5 (p:Pt):(ptD p).depth≤60:=by simp[ptD,PyData.depth,PyData.depthAll]
theorem Amm:∀l:List Pt,PyData.canLayAll0 (l.map ptD)=true
 | []=>by simp[PyData.canLayAll0]
 | p::l=>by rw[List.map_cons];simp[PyData.canLayAll0,Aq3,Amm l]
theorem Aq4 (p q:Pt):PyData.eqv (ptD p) (ptD q)=(p==q):=by
 obtain⟨a,b⟩:=p;obtain⟨c,d⟩:=q;simp only[ptD,PyData.eqv,PyData.eqvAll];rw[Bool.eq_iff_iff];simp;lia
theorem Asx (l:List Pt)(q:Pt):((l.map ptD).any fun z=>PyData.eqv z (ptD q))=l.contains q:=by
 rw[List.any_map];rw[Bool.eq_iff_iff,List.any_eq_true,List.contains_iff_mem];constructor
 ·rintro⟨x,hx,e⟩;simp only[Function.comp,Aq4,beq_iff_eq]at e;rw[←e];exact hx
 ·intro h;exact⟨q,h,by simp[Aq4]⟩
theorem PtX.dp {K:W.Frag}{H:Hp}{a:Addr}{p:Pt}(h:H a=some (.tup (ptV p))):Dp K H (.ref a) (ptD p):=Dp.tup (SqT.of h) (.cons (.int _) (.cons (.int _) .nil))
theorem Avb {K:W.Frag}{H:Hp}:∀(as:List Addr) (ps:List Pt),TupsAt ptV H as ps→Am6 K H (as.map V.ref) (ps.map ptD)
 | [],[],_=>.nil
 | [],_::_,h=>by have:=h.len;simp at this
 | _::_,[],h=>by have:=h.len;simp at this
 | a::as,p::ps,h=>by
  obtain⟨q,e,ha⟩:=h.at_ 0 a rfl;cases e;exact .cons (PtX.dp ha) (Avb as ps ⟨by have:=h.len;simpa using this,fun i c hc=>h.at_ (i+1) c hc⟩)
theorem TupsAt.dp {K:W.Frag}{H:Hp}{a:Addr}{as:List Addr}{ps:List Pt}(h:TupsAt ptV H as ps)(ha:H a=some (.lst (as.map V.ref))):Dp K H (.ref a) (.list (ps.map ptD)):=Dp.lst (SqL.of ha) (Avb as ps h)
abbrev Asn:Stmt:=top Aiz
theorem Agq {S:Plan}{l:List Nat}(hs:l.Pairwise (·<·)):Gla.chained S l=true↔∀(k a b:Nat),l[k]?=some a→l[k+1]?=some b→((a,b):Nat×Nat)∈S.lines:=by
 have lt:∀(k a b:Nat),l[k]?=some a→l[k+1]?=some b→a<b:=fun k a b ha hb=>by
  obtain⟨h1,rfl⟩:=List.getElem?_eq_some_iff.mp ha;obtain⟨h2,rfl⟩:=List.getElem?_eq_some_iff.mp hb;exact List.pairwise_iff_getElem.mp hs k (k+1) h1 h2 (by lia)
 unfold Gla.chained;rw[List.all_eq_true];constructor
 ·intro h k a b ha hb;have m:((a,b):Nat×Nat)∈l.zip (l.drop 1):=by
   apply List.mem_of_getElem? (i:=k);rw[List.getElem?_zip_eq_some];exact⟨ha,by rw[List.getElem?_drop,Nat.add_comm];exact hb⟩
  have:=h _ m;have ab:=lt k a b ha hb;unfold Gla.Plan.joined at this;rw[List.contains_iff_mem]at this;simp only[Nat.min_eq_left (Nat.le_of_lt ab),Nat.max_eq_right (Nat.le_of_lt ab)]at this;exact this
 ·rintro h ⟨a,b⟩ m;obtain⟨k,hk⟩:=List.mem_iff_getElem?.mp m;rw[List.getElem?_zip_eq_some,List.getElem?_drop,Nat.add_comm]at hk;have ab:=lt k a b hk.1 hk.2;unfold Gla.Plan.joined;rw[List.contains_iff_mem];simp only[Nat.min_eq_left (Nat.le_of_lt ab),Nat.max_eq_right (Nat.le_of_lt ab)];exact h k a b hk.1 hk.2
theorem Abq (S:Plan)(on:Pt→Bool):(Gla.edgePts S on).Pairwise (·<·):=List.Pairwise.filter _ List.pairwise_lt_range
theorem Afm (S:Plan)(on:Pt→Bool):(Gla.edgePts S on).length≤S.pts.length:=Ava S on S.pts.length
def Alz (S:Plan):List Pt:=[⟨0,0⟩,⟨S.w,0⟩,⟨0,S.h⟩,⟨S.w,S.h⟩]
def Aro (S:Plan):List (List Nat):=[Gla.edgePts S onB,Gla.edgePts S onL,Gla.edgePts S (onR S),Gla.edgePts S (onA S)]
theorem Agn (S:Plan):Gla.frameOk S=true↔(∀q,q∈Alz S→S.pts.contains q=true)∧∀l,l∈Aro S→Gla.chained S l=true:=by
 have e:Gla.frameOk S=(S.pts.contains ⟨0,0⟩&&(S.pts.contains ⟨S.w,0⟩&&(S.pts.contains ⟨0,S.h⟩&&(S.pts.contains ⟨S.w,S.h⟩&&(Gla.chained S (Gla.edgePts S onB)&&(Gla.chained S (Gla.edgePts S (onA S))&&(Gla.chained S (Gla.edgePts S onL)&&Gla.chained S (Gla.edgePts S (onR S))))))))):=rfl;rw[e];simp only[Bool.and_eq_true,Alz,Aro,List.forall_mem_cons];constructor
 ·rintro⟨a,b,c,d,f,g,h,i⟩;exact⟨⟨a,b,c,d,by intro x hx;cases hx⟩,f,h,i,g,by intro x hx;cases hx⟩
 ·rintro⟨⟨a,b,c,d,_⟩,f,h,i,g,_⟩;exact⟨a,b,c,d,f,g,h,i⟩
def frm (S:Plan):Option Nat:=if Gla.frameOk S=true then none else some (Gla.ptPlace 0)
theorem Axb {S:Plan}(h:¬Gla.frameOk S=true):frm S=some (Gla.ptPlace 0):=by unfold frm;rw[if_neg h]
structure JoI (S:Plan)(kvs:List (List Key×V))(i:Nat):Prop where
 len:kvs.length≤i
 has:∀e:Nat×Nat,(Ac2 kvs (wK e)).isSome=decide (e∈S.lines.take i)
theorem JoI.put {S:Plan}{kvs:List (List Key×V)}{i:Nat}{l:Nat×Nat}(I:JoI S kvs i)(h:S.lines[i]?=some l)(v:V):JoI S (Af9 kvs (wK l) v) (i+1) :=
 ⟨by have:=Acm kvs (wK l) v;have:=I.len;lia,fun e=>by
  rw[As8,Aak h]
  by_cases q:wK e=wK l
  ·rw[if_pos q];have:=Ahg q;subst this;simp
  ·rw[if_neg q,I.has e];have:e≠l:=fun z=>q (by rw[z])
   simp[this]⟩
section
variable {P:Program}{w:World}{K:W.Frag}{mg:Str→Option Value}{base:Heap}
theorem scOpen:Aaa ["drawing","width","height","corner","joined","line","edge","k"] ["drawing"] (Aa7 Asn):=fsc
theorem Awo {f fE C fP fL fM:Addr}{fd fdE fdP fdL fdM:FuncData}(F:Def K mg "open_frame" Asn ["drawing"] f fd)(FE:Def K mg "edges_of" Ajz ["drawing"] fE fdE)(M:TMeth K mg C fP fL fM fdP fdL fdM)(ne:mg "enumerate" = none)(nr:mg "range" = none) :
 FnOk P w K mg base CX0 2 f fd ["drawing"] (Ae2 C (fun _=>True) frm):=by
 have T:=M.T;have GE:FnOk P w K mg base CX0 1 fE fdE ["drawing"] (Apn C):=Ate FE T ne;have GP:FnOk P w K mg base CX0 1 fP fdP ["self","number"] (Adm C):=Adu M.FP M.c;refine F.fn.ok scOpen (fun vs H Q E h=>?_) (fun cdv A outer s H vs Q E hr h=>?_)
 ·obtain⟨d,S,pa,la,ma,as,ls,ms,rfl,_⟩:=h;rfl
 ·obtain⟨d,S,pa,la,ma,as,ls,ms,rfl,D,_,k⟩:=h;have k:∀H',Same H H'→Q (At5 (frm S)) H':=k;have hu:=Agl hr;have hu64:=hr.units
  refine⟨_,Aa1 (pS 1 scOpen.nd (Aal (pv 0) rfl))
   (Aa1 (pS 2 scOpen.nd (Aal (pv 0) rfl))
   (Aa1 (Aap PassesOwn.never rfl (Ak5 (Abh (Aa0 (Abh (Aa0 Aa5 (Aa0 Aa5 Aa3))) (Aa0 (Abh (Aa0 (pv 1) (Aa0 Aa5 Aa3))) (Aa0 (Abh (Aa0 Aa5 (Aa0 (pv 2) Aa3))) (Aa0 (Abh (Aa0 (pv 1) (Aa0 (pv 2) Aa3))) Aa3)))))) (pG 3 scOpen.nd)
    (Aa4 (Aat (Aaj (Aqa hu64) (pv 3) (Aal (pv 0) rfl) rfl) (Aa4 (Aa9 (Aax (pv 0) T.cl M.mP GP hr M.bP .nil Abm (Aa0 Aa5 Aa3)))) Aae)))
   (Aa1 (pS 4 scOpen.nd Afg)
   (Aa1 (Aap PassesOwn.never rfl (Abf (Aal (pv 0) rfl)) (pG 5 scOpen.nd)
    (Aa4 (Aei hu (pv 4) (pv 5) Ads rfl)))
   (Aa1 (Aap PassesOwn.never rfl (Ak5 (pCD FE GE hr (Aa0 (pv 0) Aa3))) (pG 6 scOpen.nd)
    (Aa4 (Aap PassesOwn.never rfl (Ak6 rfl nr (Aa0 Aa5 (Aa0 (Aaf Aab (by rfl) M.nl PySem.boot_len (Aa0 (pv 6) Aa3)) Aa3))) (pG 7 scOpen.nd)
     (Aa4 (Aat (Ag3 (Ad2 hu (Abh (Aa0 (pIL (pv 6) (Ab2 Ac4 (pv 7) Aa5)) (Aa0 (pIL (pv 6) (pv 7)) Aa3))) (pv 4))) (Aa4 (Aa9 (Aax (pv 0) T.cl M.mP GP hr M.bP .nil Abm (Aa0 Aa5 Aa3)))) Aae)))))
   (Aa4 (Aa9 Acv))))))),?_⟩
  obtain⟨dx,hd⟩:=D.ins;have noP:(dfs S.w S.h pa la ma).lookup ("point_place" : Str)=none:=Ac0 _ _ _ _ _ (by decide +kernel) (by decide +kernel) (by decide +kernel) (by decide +kernel) (by decide +kernel);have bad:¬Gla.frameOk S=true→∀H',Same H H'→Q (.int (Gla.ptPlace 0:Nat)) H':=fun e H' s'=>by
   have:=k H' s';rw[Axb e]at this;exact this
  refine⟨_,rfl,d,C,dx,_,_,rfl,hd,T.cl,T.nW,Au7 _ _ _ _ _,?_⟩;refine⟨_,rfl,d,C,dx,_,_,rfl,hd,T.cl,T.nH,Auc _ _ _ _ _,?_⟩;refine⟨sz2,fun t1 ht1=>?_⟩;have s1:=Same.new (o:=.tup [.int 0,.int 0]) ht1;refine⟨_,rfl,sz2,fun t2 ht2=>?_⟩;have s2:=Same.new (o:=.tup [.int S.w,.int 0]) ht2;refine⟨_,rfl,sz2,fun t3 ht3=>?_⟩;have s3:=Same.new (o:=.tup [.int 0,.int S.h]) ht3;refine⟨_,rfl,_,rfl,sz2,fun t4 ht4=>?_⟩
  have s4:=Same.new (o:=.tup [.int S.w,.int S.h]) ht4;refine⟨sz4,fun tt htt=>?_⟩;have s5:=Same.new (o:=.tup [.ref t1,.ref t2,.ref t3,.ref t4]) htt;have s15:=(((s1.trans s2).trans s3).trans s4).trans s5;have cp:TupsAt ptV (upd (upd (upd (upd (upd H t1 (.tup [.int 0,.int 0])) t2 (.tup [.int S.w,.int 0])) t3 (.tup [.int 0,.int S.h])) t4 (.tup [.int S.w,.int S.h])) tt (.tup [.ref t1,.ref t2,.ref t3,.ref t4])) [t1,t2,t3,t4] (Alz S):=by
   refine⟨rfl,fun i c hc=>?_⟩
   match i,hc with
   | 0,hc=>cases hc;exact⟨_,rfl,s5 _ _ (s4 _ _ (s3 _ _ (s2 _ _ Aa2)))⟩
   | 1,hc=>cases hc;exact⟨_,rfl,s5 _ _ (s4 _ _ (s3 _ _ Aa2))⟩
   | 2,hc=>cases hc;exact⟨_,rfl,s5 _ _ (s4 _ _ Aa2)⟩
   | 3,hc=>cases hc;exact⟨_,rfl,s5 _ _ Aa2⟩
   | n+4,hc=>simp at hc
  have htup:=Aa2 (H:=(upd (upd (upd (upd H t1 (.tup [.int 0,.int 0])) t2 (.tup [.int S.w,.int 0])) t3 (.tup [.int 0,.int S.h])) t4 (.tup [.int S.w,.int S.h]))) (a:=tt) (o:=HO.tup [.ref t1,.ref t2,.ref t3,.ref t4]);refine⟨tt,rfl,⟨_,SqT.of htup⟩,?_⟩;refine Ago (K:=K) (a:=tt) (xs:=[t1,t2,t3,t4].map V.ref) (fun i σ H'=>(∃v3:Option V,σ=[some (.ref d),some (.int S.w),some (.int S.h),v3,none,none,none,none])∧Same H H'∧H' tt=some (.tup [.ref t1,.ref t2,.ref t3,.ref t4])∧TupsAt ptV H' [t1,t2,t3,t4] (Alz S)∧∀j q,j<i→(Alz S)[j]?=some q→S.pts.contains q=true)
   ⟨⟨_,rfl⟩,s15,htup,cp,by intro j q hj;lia⟩ (fun i σ H' _ ⟨_,_,ht,_⟩=>SqT.of ht) ?_ ?_
  ·rintro i x σ H' hi ⟨⟨v3,rfl⟩,sH,hT,cp',inv⟩;obtain⟨c,hc,rfl⟩:=Aad hi;obtain⟨q,hq,pc⟩:=cp'.at_ i c hc;have D':=D.same sH;obtain⟨dx',hd'⟩:=D'.ins;refine⟨_,rfl,_,rfl,d,C,dx',_,_,rfl,hd',T.cl,T.nP,Adx _ _ _ _ _,ptD q,S.pts.map ptD,PtX.dp pc,TupsAt.dp D'.ptsX D'.pts,Amm _,Aq3 _,Aq5 _,_,rfl,?_⟩;rw[Asx];refine Abg (fun e=>?_) (fun e=>?_)
   ·refine⟨_,rfl,d,dx',_,rfl,hd',noP,d,0,rfl,?_⟩;refine bad (fun z=>?_) _ sH;have:=((Agn S).1 z).1 q (List.mem_of_getElem? hq);rw[this]at e;cases e
   ·refine⟨⟨_,rfl⟩,sH,hT,cp',fun j q' hj hq'=>?_⟩
    by_cases ej:j=i
    ·subst ej;rw[hq]at hq';cases hq';cases z:S.pts.contains q with
     | true=>rfl
     | false=>rw[z]at e;exact absurd rfl e
    ·exact inv j q' (by lia) hq'
  rintro σ H1 ⟨⟨v3,rfl⟩,sH1,_,_,inv⟩;have corners:∀q,q∈Alz S→S.pts.contains q=true:=fun q hq=>by
   obtain⟨j,hj⟩:=List.mem_iff_getElem?.mp hq;refine inv j q ?_ hj;have:=(List.getElem?_eq_some_iff.mp hj).1;simpa [Alz] using this
  intro jo hjo;have D2:=D.same sH1;have sJ:=Same.new (o:=HO.dT []) hjo;have hjo2:(upd H1 jo (.dT [])) jo=some (.dT []):=Aa2;have nP:=D.nP;have nL:=D.nL;have DJ:=D2.same sJ;obtain⟨dxJ,hdJ⟩:=DJ.ins;refine⟨_,rfl,d,C,dxJ,_,_,rfl,hdJ,T.cl,T.nL,Aja _ _ _ _ _,la,rfl,⟨_,SqL.of DJ.lns⟩,?_⟩;refine Abr (K:=K) (a:=la) (xs:=ls.map V.ref) (fun i σ H'=>(∃v5:Option V,σ=[some (.ref d),some (.int S.w),some (.int S.h),v3,some (.ref jo),v5,none,none])∧Same H1 H'∧∃kvs,H' jo=some (.dT kvs)∧JoI S kvs i)
   ⟨⟨_,rfl⟩,sJ,[],hjo2,Nat.le_refl _,fun e=>by simp[As9]⟩ (fun i σ H' _ ⟨_,s',_⟩=>SqL.of (s' _ _ D2.lns)) ?_ ?_
  ·rintro i x σ H' hi ⟨⟨v5,rfl⟩,s',kvs,hj,I⟩;obtain⟨c,hc,rfl⟩:=Aad hi;obtain⟨l,hl,lc⟩:=(D2.lnsA.same s').at_ i c hc;have il:=(List.getElem?_eq_some_iff.mp hl).1;refine⟨_,rfl,_,rfl,jo,_,rfl,DPut.t (k:=wK l) hj lc (Nat.lt_of_le_of_lt (Nat.le_trans I.len (show i≤8192 by lia)) (by decide)),?_⟩;exact⟨⟨_,rfl⟩,fun b o e=>by rw[Aa6 (Aa8 e hjo)];exact s' b o e,_,Aa2,I.put hl _⟩
  rintro σ H3 ⟨⟨v5,rfl⟩,s3',kvs,hj3,I⟩;rw[List.length_map,D.lnsA.len]at I;have has:∀e:Nat×Nat,(Ac2 kvs (wK e)).isSome=decide (e∈S.lines):=fun e=>by
   have:=I.has e;rw[List.take_length]at this;exact this
  have sH3:=sH1.trans s3';refine⟨_,rfl,d,S,pa,la,ma,as,ls,ms,rfl,D.same sH3,nP,fun H4 t be le ri ab ht fr=>?_⟩;have s4':=fr.s;have hj4:=s4' _ _ hj3;refine⟨t,rfl,⟨_,SqT.of ht⟩,?_⟩;have rows:∀(i:Nat) (c:Addr),[be,le,ri,ab][i]?=some c→∃l,(Aro S)[i]?=some l∧H4 c=some (.lst (vN l))∧l.Pairwise (·<·)∧l.length≤S.pts.length:=fun i c hc=>by
   match i,hc with
   | 0,hc=>cases hc;exact⟨_,rfl,fr.h1,Abq _ _,Afm _ _⟩
   | 1,hc=>cases hc;exact⟨_,rfl,fr.h2,Abq _ _,Afm _ _⟩
   | 2,hc=>cases hc;exact⟨_,rfl,fr.h3,Abq _ _,Afm _ _⟩
   | 3,hc=>cases hc;exact⟨_,rfl,fr.h4,Abq _ _,Afm _ _⟩
   | n+4,hc=>simp at hc
  refine Ago (K:=K) (a:=t) (xs:=[be,le,ri,ab].map V.ref) (fun i σ H'=>(∃v6 v7:Option V,σ=[some (.ref d),some (.int S.w),some (.int S.h),v3,some (.ref jo),v5,v6,v7])∧Same H4 H'∧∀j l,j<i→(Aro S)[j]?=some l→Gla.chained S l=true)
   ⟨⟨_,_,rfl⟩,Same.refl _,by intro j l hj;lia⟩ (fun i σ H' _ ⟨_,s',_⟩=>SqT.of (s' _ _ ht)) ?_ ?_
  ·rintro i x σ H5 hi ⟨⟨v6,v7,rfl⟩,s5',inv5⟩;obtain⟨c,hc,rfl⟩:=Aad hi;obtain⟨l,hl,hcl,srt,ll⟩:=rows i c hc;have hc5:=s5' _ _ hcl;have vl:(vN l).length=l.length:=by unfold vN;rw[List.length_map]
   refine⟨_,rfl,c,_,rfl,.inl (SqL.of hc5),_,_,rfl,by rw[vl];lia,?_⟩;rw[vl];have en:((l.length:Int)-1).toNat=l.length-1:=by lia
   rw[en];refine Ach (n:=l.length-1) (fun j σ H'=>(∃v7:Option V,σ=[some (.ref d),some (.int S.w),some (.int S.h),v3,some (.ref jo),v5,some (.ref c),v7])∧Same H4 H'∧∀m a b,m<j→l[m]?=some a→l[m+1]?=some b→((a,b):Nat×Nat)∈S.lines)
    ⟨⟨_,rfl⟩,s5',by intro m a b hm;lia⟩ ?_ ?_
   ·rintro j σ H6 hj ⟨⟨v7,rfl⟩,s6,inv6⟩;obtain⟨a,ha⟩ : ∃a,l[j]?=some a:=⟨_,List.getElem?_eq_getElem (by lia)⟩
    obtain⟨b,hb⟩ : ∃b,l[j+1]?=some b:=⟨_,List.getElem?_eq_getElem (by lia)⟩
    have hc6:=s6 _ _ hcl;have va:(vN l)[j]?=some (V.int (a:Nat)):=by unfold vN;rw[List.getElem?_map,ha];rfl
    have vb:(vN l)[j+1]?=some (V.int (b:Nat)):=by unfold vN;rw[List.getElem?_map,hb];rfl
    refine⟨_,rfl,_,rfl,_,_,rfl,rfl,c,_,_,V.int (a:Nat),rfl,rfl,SqL.of hc6,Ahc (j:=j) (by lia) va,_,rfl,_,rfl,c,_,_,V.int (b:Nat),rfl,rfl,SqL.of hc6,Ahc (j:=j+1) (by lia) vb,sz2,fun u hu=>?_⟩;have s7:=s6.trans (Same.new (o:=.tup [.int (a:Nat),.int (b:Nat)]) hu);refine⟨_,rfl,jo,_,rfl,DGet.t (k:=wK (a,b)) (s7 _ _ hj4) Aa2,_,rfl,?_⟩;rw[has];refine Abg (fun e=>?_) (fun e=>?_)
    ·have s8:=(sH3.trans s4').trans s7;obtain⟨dx8,hd8⟩:=(D.same s8).ins;refine⟨_,rfl,d,dx8,_,rfl,hd8,noP,d,0,rfl,?_⟩;refine bad (fun z=>?_) _ s8;have:=(Agq srt).1 (((Agn S).1 z).2 l (List.mem_of_getElem? hl)) j a b ha hb;rw[decide_eq_true this]at e;cases e
    ·refine⟨⟨_,rfl⟩,s7,fun m a' b' hm ha' hb'=>?_⟩
     by_cases em:m=j
     ·subst em;rw[ha]at ha';rw[hb]at hb';cases ha';cases hb';apply Classical.byContradiction;intro q;rw[decide_eq_false q]at e;exact e rfl
     ·exact inv6 m a' b' (by lia) ha' hb'
   ·rintro σ H6 ⟨⟨v7,rfl⟩,s6,inv6⟩;refine⟨⟨_,_,rfl⟩,s6,fun j l' hj hl'=>?_⟩
    by_cases ej:j=i
    ·subst ej;rw[hl]at hl';cases hl';refine(Agq srt).2 fun m a b ha hb=>inv6 m a b ?_ ha hb;have:=(List.getElem?_eq_some_iff.mp hb).1;lia
    ·exact inv5 j l' (by lia) hl'
  ·rintro σ H5 ⟨⟨v6,v7,rfl⟩,s5',inv5⟩;have:=k H5 ((sH3.trans s4').trans s5')
   have ok:Gla.frameOk S=true:=(Agn S).2 ⟨corners,fun l hl=>by
    obtain⟨j,hj⟩:=List.mem_iff_getElem?.mp hl;refine inv5 j l ?_ hj;have:=(List.getElem?_eq_some_iff.mp hj).1
    simpa [Aro] using this⟩
   unfold frm at this;rw[if_pos ok]at this;exact this
end
abbrev Asq:Stmt:=top Ahb
def headN:List (Nat×Nat×Nat×Nat):=[(4,4,16,1048575),(8,4,16,1048575),(12,2,4,4096),(14,2,4,8192),(16,2,1,2048),(18,2,0,0)]
def Aay (b:List UInt8)(n:Nat×Nat×Nat×Nat):Bool:=decide (Gla.num b n.1 n.2.1<n.2.2.1)||decide (n.2.2.2<Gla.num b n.1 n.2.1)
def told (b:List UInt8):Nat:=20+8*Gla.num b 12 2+4*Gla.num b 14 2+12*Gla.num b 16 2
def brk (b:List UInt8):Option (Nat×Nat) :=
 if b.length<20 then some (1,b.length)
 else if b.take 4≠Gla.MAGIC then some (1,0)
 else match headN.find? (Aay b) with
  | some n=>some (2,n.1)
  | none=>if b.length≠told b then some (3,20)else none
def prV:Option (Nat×Nat)→List V
 | some e=>[.int (e.1:Nat),.int (e.2:Nat)]
 | none=>[]
structure THead (K:W.Frag)(mg:Str→Option Value)(aH:Addr)(hs:List Addr):Prop where
 mH:mg "HEAD_NUMBERS" = some (.ref aH)
 sH:∀H,SqT K H aH (hs.map V.ref)
 len:hs.length=6
 at_:∀(i:Nat) (c:Addr),hs[i]?=some c→∃n,headN[i]?=some n∧∀H,SqT K H c [.int (n.1:Nat),.int (n.2.1:Nat),.int (n.2.2.1:Nat),.int (n.2.2.2:Nat)]
def Apl (K:W.Frag):Sp:=fun vs H Q _=>∃(a:Addr) (b:List UInt8),vs=[.ref a]∧SqL K H a (vB b)∧b.length≤200000∧∀(H':Hp) (t:Addr),Same H H'→H' t=some (.tup (prV (brk b)))→Q (.ref t) H'
theorem Bcp {xs:List V}(h:4≤xs.length):Axw xs none (some 4)=xs.take 4:=by
 have e1:HT.sIx xs.length 0 none=0:=rfl;have e2:HT.sIx xs.length xs.length (some 4)=4:=by simp[HT.sIx];lia
 unfold Axw;rw[e1,e2];rfl
theorem Arf {n:Nat×Nat×Nat×Nat}(h:n∈headN):n.1+n.2.1≤20∧n.2.1≤8:=by
 simp only[headN,List.mem_cons,List.not_mem_nil,or_false]at h;rcases h with rfl | rfl | rfl | rfl | rfl | rfl<;>decide
theorem Aqs (c0 c1 c2 c3:UInt8)(r:List UInt8):(!PyData.eqv (.tuple [.int (c0.toNat:Nat),.int (c1.toNat:Nat),.int (c2.toNat:Nat),.int (c3.toNat:Nat)]) (.tuple [.int 71,.int 76,.int 65,.int 49]))=decide ((c0::c1::c2::c3::r).take 4≠Gla.MAGIC):=by
 simp only[PyData.eqv,PyData.eqvAll,Gla.MAGIC,List.take];rw[Bool.eq_iff_iff];have q:∀(c:UInt8) (n:Nat) (h:n<256),c=UInt8.ofNat n↔c.toNat=n:=fun c n h=>by
  rw[←UInt8.toNat_inj];simp;lia
 have q0:=q c0 71 (by decide);have q1:=q c1 76 (by decide);have q2:=q c2 65 (by decide);have q3:=q c3 49 (by decide);simp only[UInt8.reduceOfNat]at q0 q1 q2 q3;simp[q0,q1,q2,q3];lia
section
variable {P:Program}{w:World}{K:W.Frag}{mg:Str→Option Value}{base:Heap}
theorem scHead:Aaa ["row","place","size","least","most","number"] ["row"] (Aa7 Asq):=fsc
theorem Awt {f fN fT fH fM aH:Addr}{hs:List Addr}{fd fdN fdT fdH fdM:FuncData}(F:Def K mg "broken_head" Asq ["row"] f fd)(FT:Def K mg "bytes_told" Apt ["row"] fT fdT)(FH:Def K mg "head_of" Adq ["row"] fH fdH)(FM:Def K mg "numbers_at" Ail ["row","place","sizes"] fM fdM)(FN:Def K mg "number_at" As5 ["row","place","size"] fN fdN)
 (TH:THead K mg aH hs) (nr:mg "range" = none) (nl:mg "len" = none) (c:Cst K mg) :
 FnOk P w K mg base CX0 5 f fd ["row"] (Apl K):=by
 have GN:FnOk P w K mg base CX0 1 fN fdN ["row","place","size"] (Avv K):=Av5 FN nr;have GT:FnOk P w K mg base CX0 4 fT fdT ["row"] (Aus K):=Awj FT FH FM FN nr nl c;obtain⟨aL,mL,sL⟩:=c.letters;obtain⟨t1,c1⟩:=c.head;have nt:=c.ntup;refine F.fn.ok scHead (fun vs H Q E h=>?_) (fun cdv A outer s H vs Q E hr h=>?_)
 ·obtain⟨a,b,rfl,_⟩:=h;rfl
 ·obtain⟨a,b,rfl,ha,bl,k⟩:=h;have hu64:=hr.units;have hr1:Room 1 _:=hr.mono (by decide)
  refine⟨_,Aa1 (Aat (Aaj Acf (Aaf Aab (by rfl) nl PySem.boot_len (Aa0 (pv 0) Aa3)) (Ab0 (v:=.int 20) rfl c1 ⟨t1,rfl⟩) (Aan _)) (Aa4 (Aa9 (Abh (Aa0 Aa5 (Aa0 (Aaf Aab (by rfl) nl PySem.boot_len (Aa0 (pv 0) Aa3)) Aa3))))) Aae)
   (Aa1 (Aat (Aaj (Az1 hu64) (Ag5 Aee (by rfl) nt (by decide +kernel) (Aa0 (Asz Avx (pv 0) Awc (Awb (Aaf Aab (by rfl) nl PySem.boot_len (Aa0 (Ab0 (v:=V.ref aL) rfl mL rfl) Aa3)))) Aa3)) (Ab0 (v:=V.ref aL) rfl mL rfl) (Aan _)) (Aa4 (Aa9 (Abh (Aa0 Aa5 (Aa0 Aa5 Aa3))))) Aae)
   (Aa1 (Aap PassesOwn.never rfl (Ak5 (Ab0 (v:=V.ref aH) rfl TH.mH rfl)) (Abu rfl (Aag (pG 1 scHead.nd) (Aag (pG 2 scHead.nd) (Aag (pG 3 scHead.nd) (Aag (pG 4 scHead.nd) Abc)))))
    (Aa1 (pS 5 scHead.nd (pCD FN GN hr1 (Aa0 (pv 0) (Aa0 (pv 1) (Aa0 (pv 2) Aa3)))))
    (Aa4 (Aat (PW.pt (Anu (Aaj Acf (pv 5) (pv 3) (Aan _)) (Ahp (Aaj Adt (pv 5) (pv 4) (Aan _))))) (Aa4 (Aa9 (Abh (Aa0 Aa5 (Aa0 (pv 1) Aa3))))) Aae))))
   (Aa1 (Aat (Aaj Az2 (Aaf Aab (by rfl) nl PySem.boot_len (Aa0 (pv 0) Aa3)) (pCD FT GT hr (Aa0 (pv 0) Aa3)) (Aan _)) (Aa4 (Aa9 (Abh (Aa0 Aa5 (Aa0 Aa5 Aa3))))) Aae)
   (Aa4 (Aa9 (Abh Aa3)))))),?_⟩
  have vl:(vB b).length=b.length:=by unfold vB;rw[List.length_map]
  refine⟨_,rfl,a,_,rfl,.inl (ha),_,_,rfl,rfl,_,rfl,?_⟩;rw[vl];refine Abg (fun e=>?_) (fun e=>?_)
  ·simp only[decide_eq_true_eq]at e;have lt:b.length<20:=by lia
   refine⟨_,rfl,a,_,rfl,.inl (ha),sz2,fun t ht=>?_⟩;refine k _ t (Same.new ht) ?_;have eb:brk b=some (1,b.length):=by unfold brk;rw[if_pos lt]
   rw[Aa2,eb,vl];rfl
  simp only[decide_eq_true_eq]at e;have ge:20≤b.length:=by lia
  obtain⟨c0,c1,c2,c3,r,hb⟩ : ∃c0 c1 c2 c3 r,c0::c1::c2::c3::r=b:=by
   clear k ha
   match b,ge with
   | c0::c1::c2::c3::r,_=>exact⟨c0,c1,c2,c3,r,rfl⟩
  have ev:(vB b).take 4=[.int (c0.toNat:Nat),.int (c1.toNat:Nat),.int (c2.toNat:Nat),.int (c3.toNat:Nat)]:=by rw[←hb];rfl
  refine⟨_,rfl,aL,_,rfl,.inr (sL _),4,rfl,a,_,rfl,ha,fun p hp=>?_⟩;rw[Bcp (by rw[vl];lia),ev];refine⟨p,_,rfl,.inl ⟨SqL.of Aa2,fun q hq=>?_⟩⟩;have s1:=Same.new (o:=.lst [.int (c0.toNat:Nat),.int (c1.toNat:Nat),.int (c2.toNat:Nat),.int (c3.toNat:Nat)]) hp;have s2:=s1.trans (Same.new (o:=.tup [.int (c0.toNat:Nat),.int (c1.toNat:Nat),.int (c2.toNat:Nat),.int (c3.toNat:Nat)]) hq)
  refine⟨.tuple [.int (c0.toNat:Nat),.int (c1.toNat:Nat),.int (c2.toNat:Nat),.int (c3.toNat:Nat)],.tuple [.int 71,.int 76,.int 65,.int 49],
   .tup (SqT.of Aa2) (.cons (.int _) (.cons (.int _) (.cons (.int _) (.cons (.int _) .nil)))),.tup (sL _) (.cons (.int _) (.cons (.int _) (.cons (.int _) (.cons (.int _) .nil)))),rfl,rfl,_,rfl,?_⟩
  rw[Aqs c0 c1 c2 c3 r,hb];refine Abg (fun e1=>?_) (fun e1=>?_)
  ·refine⟨sz2,fun t ht=>?_⟩;refine k _ t (s2.trans (Same.new ht)) ?_;have eb:brk b=some (1,0):=by unfold brk;rw[if_neg (by lia),if_pos (of_decide_eq_true e1)]
   rw[Aa2,eb];rfl
  have mg4:¬b.take 4≠Gla.MAGIC:=fun z=>e1 (decide_eq_true z);generalize upd (upd H p _) q _=H2 at *;refine⟨aH,rfl,⟨_,TH.sH _⟩,?_⟩;refine Ago (K:=K) (a:=aH) (xs:=hs.map V.ref) (fun i σ H'=>(∃v1 v2 v3 v4 v5:Option V,σ=[some (.ref a),v1,v2,v3,v4,v5])∧H'=H2∧∀j n,j<i→headN[j]?=some n→Aay b n=false)
   ⟨⟨_,_,_,_,_,rfl⟩,rfl,by intro j n hj;lia⟩ (fun i σ H' _ _=>TH.sH _) ?_ ?_
  ·rintro i x σ H' hi ⟨⟨v1,v2,v3,v4,v5,rfl⟩,rfl,inv⟩;obtain⟨cc,hc,rfl⟩:=Aad hi;obtain⟨n,hn,sq⟩:=TH.at_ i cc hc;obtain⟨f1,f2⟩:=Arf (List.mem_of_getElem? hn);refine⟨cc,_,rfl,sq _,rfl,_,_,rfl,_,_,rfl,_,_,rfl,_,_,rfl,rfl,?_⟩;refine⟨_,rfl,_,rfl,_,rfl,a,b,n.1,n.2.1,rfl,s2.seq ha,by lia,f2,?_⟩;have hit:Aay b n=true→∀t,H' t=none→Q (.ref t) (upd H' t (.tup [.int 2,.int (n.1:Nat)])):=fun eb t ht=>by
    refine k _ t (s2.trans (Same.new ht)) ?_;have:headN.find? (Aay b)=some n:=by
     rw[List.find?_eq_some_iff_getElem];obtain⟨hi',en⟩:=List.getElem?_eq_some_iff.mp hn;refine⟨eb,i,hi',en,fun j hj=>?_⟩;rw[inv j _ hj (List.getElem?_eq_getElem (by lia))];rfl
    have eb:brk b=some (2,n.1):=by unfold brk;rw[if_neg (by lia),if_neg mg4,this]
    rw[Aa2,eb];rfl
   refine⟨_,rfl,_,rfl,_,_,rfl,rfl,_,rfl,?_⟩;refine Abg (fun e2=>?_) (fun e2=>?_)
   ·simp only[decide_eq_true_eq]at e2;refine Aoe ⟨_,rfl,sz2,hit ?_⟩;unfold Aay;rw[decide_eq_true (by lia)];rfl
   ·simp only[decide_eq_true_eq]at e2;refine⟨_,rfl,_,rfl,_,_,rfl,rfl,_,rfl,?_⟩;refine Abg (fun e3=>?_) (fun e3=>?_)
    ·simp only[decide_eq_true_eq]at e3;refine⟨_,rfl,sz2,hit ?_⟩;unfold Aay;rw[decide_eq_true (show n.2.2.2<_ by lia)];simp
    ·simp only[decide_eq_true_eq]at e3;refine⟨⟨_,_,_,_,_,rfl⟩,rfl,fun j m hj hm=>?_⟩
     by_cases ej:j=i
     ·subst ej;rw[hn]at hm;cases hm;unfold Aay;rw[decide_eq_false (by lia),decide_eq_false (by lia)];rfl
     ·exact inv j m (by lia) hm
  rintro σ H' ⟨⟨v1,v2,v3,v4,v5,rfl⟩,rfl,inv⟩;have none':headN.find? (Aay b)=none:=by
   rw[List.find?_eq_none];intro n hn;obtain⟨j,hj⟩:=List.mem_iff_getElem?.mp hn;rw[inv j n (by rw[List.length_map,TH.len];exact(List.getElem?_eq_some_iff.mp hj).1) hj];simp
  refine⟨_,rfl,a,_,rfl,.inl (s2.seq ha),_,rfl,a,b,rfl,s2.seq ha,ge,fun H5 s5=>⟨rfl,_,rfl,?_⟩⟩;rw[vl];refine Abg (fun e2=>?_) (fun e2=>?_)
  ·refine⟨sz2,fun t ht=>?_⟩;refine k _ t ((s2.trans s5).trans (Same.new ht)) ?_;have e3:(!decide (V.int ((b.length:Nat):Int)=V.int ((told b:Nat):Int)))=true:=e2;have nq:b.length≠told b:=fun z=>by
    rw[←z,decide_eq_true rfl]at e3;cases e3
   have eb:brk b=some (3,20):=by unfold brk;rw[if_neg (by lia),if_neg mg4,none'];simp only[];rw[if_pos nq]
   rw[Aa2,eb];rfl
  ·refine⟨Nat.zero_le _,fun t ht=>?_⟩;refine k _ t ((s2.trans s5).trans (Same.new ht)) ?_;have nq:¬b.length≠told b:=fun z=>by
    apply e2;show(!decide (V.int ((b.length:Nat):Int)=V.int ((told b:Nat):Int)))=true;rw[decide_eq_false (fun q=>z (by injection q with q;lia))];rfl
   have eb:brk b=none:=by unfold brk;rw[if_neg (by lia),if_neg mg4,none'];simp only[];rw[if_neg nq]
   rw[Aa2,eb];rfl
end
def Ayc (Kn:Addr→Sp→Prop)(E:XK)(tf:TE)(t:TA):TE:=fun σ H Q=>tf σ H fun v H1=>∃f sp,v=.ref f∧Kn f sp∧t σ H1 fun vs H2=>sp vs H2 Q E
theorem At2 {X:Cx}{CX:CXT}{k:Nat}{ps:List Str}{E:XK}{x:Str}{p pos:Pos}{e:Expr}{es:List Expr}{tf:TE}{t:TA}(Kn:Addr→Sp→Prop)
 (OK:∀f sp,Kn f sp→∃fd k',k'≤k∧FnOk X.prog X.w X.K X.mg X.base CX k' f fd ps sp∧W.keepIn X.K (.ref f)=true∧Binds X.K fd ps []) (hr:Room k X.A) (hx:Agu CX X E) (hn:PE X (.Name x p) tf)
 (ha:PA X (e::es) t) (he:starEach (e::es) X.env=(false,eval e X.env)::starEach es X.env:=by rfl) (hpl:(backTo pos (starEach es X.env)).any (·.1)=false:=by rfl) :
 PE X (.Call (.Name x p) (e::es) [] pos) (Ayc Kn E tf t):=by
 intro pins s σ H Q I h;refine wpAny_Call_Name_kw (thn (hn pins s σ H _ I h) fun v s1 ⟨y,H1,I1,r1,q1⟩=>?_);obtain⟨f,sp,rfl,kn,q⟩:=q1;cases r1;obtain⟨fd,k',kl,F,hk,hb⟩:=OK f sp kn;refine W.callWith_K (h₀:=X.base) I1.ok.mod.kin hk (thn (ha pos pins s1 σ H1 _ I1 q) fun us s2 ⟨vs,H2,I2,r,q2⟩=>⟨I2.kIn,?_⟩) he hpl;exact Apw (dvs:=[]) F (hr.mono kl) hb .nil hx I2 r (by rw[List.append_nil];exact q2)
abbrev Ass:Stmt:=top Aeq
structure Agv where
 pre:Plan→Prop
 r:Plan→Option Nat
def Aky:Nat→List Agv→Plan→Option (Nat×Nat)
 | _,[],_=>none
 | n,l::ls,S=>match l.r S with
  | some p=>some (n,p)
  | none=>Aky (n+1) ls S
def Axy (S:Plan):List Agv→Prop
 | []=>True
 | l::ls=>l.pre S∧(l.r S=none→Axy S ls)
structure Avj (K:W.Frag)(mg:Str→Option Value)(Kn:Addr→Sp→Prop)(C:Addr)(aD:Addr)(rs:List Addr)(ls:List Agv):Prop where
 mD:mg "DRAWING_RULES" = some (.ref aD)
 sD:∀H,SqT K H aD (rs.map V.ref)
 len:rs.length=ls.length
 at_:∀(i:Nat) (c:Addr),rs[i]?=some c→∃l f,ls[i]?=some l∧Kn f (Ae2 C l.pre l.r)∧∀H,SqT K H c [.int ((4+i:Nat):Int),.ref f]
def App (C:Addr)(ls:List Agv):Sp:=fun vs H Q _=>∃(d:Addr) (S:Plan) (pa la ma:Addr) (as lls ms:List Addr),vs=[.ref d]∧DrawAt C H d S pa la ma as lls ms∧Axy S ls∧∀(H':Hp) (t:Addr),Same H H'→H' t=some (.tup (prV (Aky 4 ls S)))→Q (.ref t) H'
theorem Agt {S:Plan}:∀(n i:Nat) (ls:List Agv),(∀j l,j<i→ls[j]?=some l→l.r S=none)→i≤ls.length→Aky n ls S=Aky (n+i) (ls.drop i) S
 | n,0,ls,_,_=>rfl
 | n,i+1,[],_,h=>by simp at h
 | n,i+1,l::ls,no,h=>by
  have e:=no 0 l (by lia) rfl;have ih:=Agt (n+1) i ls (fun j l' hj hl=>no (j+1) l' (by lia) hl) (by simpa using h);show(match l.r S with | some p=>some (n,p) | none=>Aky (n+1) ls S)=_;rw[e];show Aky (n+1) ls S=_;rw[ih,List.drop_succ_cons,show n+1+i=n+(i+1)by lia]
theorem Ak2 {S:Plan}:∀(i:Nat) (ls:List Agv),Axy S ls→(∀j l,j<i→ls[j]?=some l→l.r S=none)→Axy S (ls.drop i)
 | 0,ls,h,_=>h
 | i+1,[],_,_=>trivial
 | i+1,l::ls,h,no=>Ak2 i ls (h.2 (no 0 l (by lia) rfl)) (fun j l' hj hl=>no (j+1) l' (by lia) hl)
section
variable {P:Program}{w:World}{K:W.Frag}{mg:Str→Option Value}{base:Heap}
theorem scBrkD:Aaa ["drawing","rule","look","place"] ["drawing"] (Aa7 Ass):=fsc
theorem Aww {f C aD:Addr}{rs:List Addr}{ls:List Agv}{fd:FuncData}{k0:Nat}(Kn:Addr→Sp→Prop)(OK:∀f sp,Kn f sp→∃fd k',k'≤k0∧FnOk P w K mg base CX0 k' f fd ["drawing"] sp∧W.keepIn K (.ref f)=true∧Binds K fd ["drawing"] [])
 (F:Def K mg "broken_drawing" Ass ["drawing"] f fd) (TL:Avj K mg Kn C aD rs ls):FnOk P w K mg base CX0 (k0+1) f fd ["drawing"] (App C ls):=by
 refine F.fn.ok scBrkD (fun vs H Q E h=>?_) (fun cdv A outer s H vs Q E hr h=>?_)
 ·obtain⟨d,S,pa,la,ma,as,lls,ms,rfl,_⟩:=h;rfl
 ·obtain⟨d,S,pa,la,ma,as,lls,ms,rfl,D,pr,k⟩:=h
  refine⟨_,Aa1 (Aap PassesOwn.never rfl (Ak5 (Ab0 (v:=V.ref aD) rfl TL.mD rfl)) (Abu rfl (Aag (pG 1 scBrkD.nd) (Aag (pG 2 scBrkD.nd) Abc)))
   (Aa1 (pS 3 scBrkD.nd (At2 Kn OK hr Abm (pv 2) (Aa0 (pv 0) Aa3)))
   (Aa4 (Aat (Aaj Awg (pv 3) Acv (Aan _)) (Aa4 (Aa9 (Abh (Aa0 (pv 1) (Aa0 (pv 3) Aa3))))) Aae))))
   (Aa4 (Aa9 (Abh Aa3))),?_⟩
  refine⟨aD,rfl,⟨_,TL.sD _⟩,?_⟩;refine Ago (K:=K) (a:=aD) (xs:=rs.map V.ref) (fun i σ H'=>(∃v1 v2 v3:Option V,σ=[some (.ref d),v1,v2,v3])∧Same H H'∧∀j l,j<i→ls[j]?=some l→l.r S=none)
   ⟨⟨_,_,_,rfl⟩,Same.refl _,by intro j l hj;lia⟩ (fun i σ H' _ _=>TL.sD _) ?_ ?_
  ·rintro i x σ H' hi ⟨⟨v1,v2,v3,rfl⟩,s1,inv⟩;obtain⟨c,hc,rfl⟩:=Aad hi;obtain⟨l,f',hl,kn,sq⟩:=TL.at_ i c hc;have il:=(List.getElem?_eq_some_iff.mp hl).1;have ed:ls.drop i=l::ls.drop (i+1):=by
    rw[List.drop_eq_getElem_cons il,(List.getElem?_eq_some_iff.mp hl).2]
   have eb:=Agt (S:=S) 4 i ls inv (by lia);have pl:=Ak2 i ls pr inv;rw[ed]at eb pl;refine⟨c,_,rfl,sq _,rfl,_,_,rfl,_,_,rfl,rfl,?_⟩;refine⟨_,rfl,f',_,rfl,kn,_,rfl,d,S,pa,la,ma,as,lls,ms,rfl,D.same s1,pl.1,fun H2 s2=>?_⟩;have s12:=s1.trans s2;refine⟨_,rfl,rfl,_,rfl,?_⟩;cases q:l.r S with
   | some p =>
    refine Aoe ?_;refine⟨_,rfl,_,rfl,sz2,fun t ht=>?_⟩;refine k _ t (s12.trans (Same.new ht)) ?_;have:Aky 4 ls S=some (4+i,p):=by
     rw[eb];show(match l.r S with | some p=>some (4+i,p) | none=>_)=_;rw[q]
    rw[Aa2,this];rfl
   | none =>
    refine Akh ⟨⟨_,_,_,rfl⟩,s12,fun j l' hj hl'=>?_⟩
    by_cases ej:j=i
    ·subst ej;rw[hl]at hl';cases hl';exact q
    ·exact inv j l' (by lia) hl'
  ·rintro σ H' ⟨⟨v1,v2,v3,rfl⟩,s1,inv⟩;rw[List.length_map,TL.len]at inv;refine⟨Nat.zero_le _,fun t ht=>?_⟩;refine k _ t (s1.trans (Same.new ht)) ?_;have eb:=Agt (S:=S) 4 ls.length ls inv (Nat.le_refl _);rw[List.drop_length]at eb;rw[Aa2,eb];rfl
end
def Anh (C:Addr)(H:Hp)(v:Addr)(l:List Int)(dr pn:V):Prop:=∃dx ra,H v=some (.ins C dx (vfs (.ref ra) dr pn))∧H ra=some (.lst (l.map V.int))
theorem RefAt.verd {C:Addr}{H:Hp}{v:Addr}{l:List Int}(h:RefAt C H v l):∃pa,Anh C H v l .non (.ref pa):=let ⟨dx,ra,pa,a,b,_⟩:=h;⟨pa,dx,ra,a,b⟩
def Apm (K:W.Frag)(C:Addr)(rf:List UInt8→List Int)(More:Hp→List UInt8→V→V→Prop):Sp:=fun vs H Q _=>∃(a:Addr) (b:List UInt8),vs=[.ref a]∧SqL K H a (vB b)∧b.length≤200000∧
 ∀(H':Hp) (v:Addr) (dr pn:V),Same H H'→Anh C H' v (rf b) dr pn→(rf b=[]→More H' b dr pn)→Q (.ref v) H'
abbrev Aso:Stmt:=top Ah9
def Apf (K:W.Frag):Sp:=fun vs H Q _=>∃(a:Addr) (b:List UInt8),vs=[.ref a]∧SqL K H a (vB b)∧Q (.bl (decide (131072<b.length))) H
section
variable {P:Program}{w:World}{K:W.Frag}{mg:Str→Option Value}{base:Heap}
theorem Aym:Aaa ["row"] ["row"] (Aa7 Aso):=fsc
theorem Awq {f:Addr}{fd:FuncData}(F:Def K mg "is_too_long" Aso ["row"] f fd)(nl:mg "len" = none)(mb:∃t,mg "MOST_BYTES" = some (.int 131072 t)):FnOk P w K mg base CX0 1 f fd ["row"] (Apf K):=by
 obtain⟨tk,mb⟩:=mb;refine F.fn.ok Aym (fun vs H Q E h=>?_) (fun cdv A outer s H vs Q E hr h=>?_)
 ·obtain⟨a,b,rfl,_⟩:=h;rfl
 ·obtain⟨a,b,rfl,ha,k⟩:=h;have vl:(vB b).length=b.length:=by unfold vB;rw[List.length_map]
  refine⟨_,Aa4 (Aa9 (Ag4 Adt (Aaf Aab (by rfl) nl PySem.boot_len (Aa0 (pv 0) Aa3)) (Ab0 (v:=V.int 131072) rfl mb ⟨_,rfl⟩) (Aan _))),?_⟩;refine⟨_,rfl,a,_,rfl,.inl ha,_,_,rfl,rfl,?_⟩;have e:decide ((131072:Int)<((vB b).length:Nat))=decide (131072<b.length):=by rw[vl];exact decide_eq_decide.mpr (by lia)
  rw[←e]at k;exact k
end
abbrev Asr:Stmt:=top Aob
theorem Auf {b:List UInt8}(h:brk b=none):b.length=told b∧Gla.num b 12 2≤4096∧Gla.num b 14 2≤8192∧Gla.num b 16 2≤2048:=by
 unfold brk at h
 by_cases h1:b.length<20
 ·rw[if_pos h1]at h;cases h
 rw[if_neg h1]at h
 by_cases h2:b.take 4≠Gla.MAGIC
 ·rw[if_pos h2]at h;cases h
 rw[if_neg h2]at h;cases q:headN.find? (Aay b) with
 | some n=>rw[q]at h;cases h
 | none =>
  rw[q]at h
  by_cases h3:b.length≠told b
  ·simp only[]at h;rw[if_pos h3]at h;cases h
  rw[List.find?_eq_none]at q;have g:=fun n hn=>q n hn;have g1:=g (12,2,4,4096) (by decide);have g2:=g (14,2,4,8192) (by decide);have g3:=g (16,2,1,2048) (by decide);simp[Aay]at g1 g2 g3;exact⟨by lia,by lia,by lia,by lia⟩
def Ak0 (e:Nat×Nat):List Int:=[-5,(e.1:Nat),(e.2:Nat)]
def Aot (ls:List Agv)(rfP:Plan→List Int)(b:List UInt8):List Int :=
 if 131072<b.length then [-6] else match brk b with
  | some e=>Ak0 e
  | none=>match Aky 4 ls (Gla.parts b) with
   | some e=>Ak0 e
   | none=>rfP (Gla.parts b)
def Al4 (C CV:Addr)(Aum:Plan→Prop)(rfP:Plan→List Int)(Ajh:Hp→Plan→V→V→Prop):Sp:=fun vs H Q _=>∃(d:Addr) (S:Plan) (pa la ma:Addr) (as ls ms:List Addr),vs=[.ref d]∧DrawAt C H d S pa la ma as ls ms∧Aum S∧
 ∀(H':Hp) (v:Addr) (dr pn:V),Same H H'→Anh CV H' v (rfP S) dr pn→(rfP S=[]→Ajh H' S dr pn)→Q (.ref v) H'
section
variable {P:Program}{w:World}{K:W.Frag}{mg:Str→Option Value}{base:Heap}
structure Kwn (P:Program)(w:World)(K:W.Frag)(mg:Str→Option Value)(base:Heap)(k0:Nat)(nm:Str)(ps:List Str)(sp:Sp)(f:Addr)(fd:FuncData):Prop where
 ok:FnOk P w K mg base CX0 k0 f fd ps sp
 mg:mg nm=some (.ref f)
 kp:W.keepIn K (.ref f)=true
 b:Binds K fd ps []
theorem pCK {X:Cx}{x:Str}{e:Expr}{es:List Expr}{t:TA}{pos pos':Pos}{k:Nat}{f:Addr}{fd:FuncData}{ps:List Str}{sp:Sp}(G:Kwn X.prog X.w X.K X.mg X.base k x ps sp f fd)(hr:Room k X.A)(ha:PA X (e::es) t)(hg:Gl X x:=by rfl)(hdb:(x==("__debug__" : Str))=false:=by decide)(he:starEach (e::es) X.env=(false,eval e X.env)::starEach es X.env:=by rfl)(hpl:(backTo pos (starEach es X.env)).any (·.1)=false:=by rfl) :
 PE X (.Call (.Name x pos') (e::es) [] pos) (Aia sp [] E0 t):=Alb G.ok hr hg G.mg G.kp G.b .nil Abm ha hdb he hpl
theorem scExam:Aaa ["row","broken","drawing"] ["row"] (Aa7 Asr):=fsc
theorem Awv {f fI C CV fH fR fB fP fX fL:Addr}{fd fdI fdH fdR fdB fdP fdX fdL:FuncData}{k0:Nat}{ls:List Agv}{Aum:Plan→Prop}{rfP:Plan→List Int}{Ajh:Hp→Plan→V→V→Prop}
 (F:Def K mg "examine" Asr ["row"] f fd) (FI:Fun K "__init__" "Verdict.__init__" Afx fI fdI) (bI:Binds K fdI ["self","refusal","drawing","panes"] []) (M:Mk K CV fI) (mC:mg "Verdict" = some (.ref CV)) (T:Am4 K CV)
 (kI:2≤k0) (GH:Kwn P w K mg base k0 "broken_head" ["row"] (Apl K) fH fdH) (GX:Kwn P w K mg base k0 "refused" ["rule","place"] (Apa CV) fX fdX) (GR:Kwn P w K mg base k0 "read_drawing" ["row"] (Apb K C) fR fdR)
 (GB:Kwn P w K mg base k0 "broken_drawing" ["drawing"] (App C ls) fB fdB) (GP:Kwn P w K mg base k0 "judge_panes" ["drawing"] (Al4 C CV Aum rfP Ajh) fP fdP)
 (GL:Kwn P w K mg base k0 "is_too_long" ["row"] (Apf K) fL fdL) (hL:∀b,brk b=none→Axy (Gla.parts b) ls) (hP:∀b,brk b=none→Aky 4 ls (Gla.parts b)=none→Aum (Gla.parts b)) :
 FnOk P w K mg base CX0 (k0+1) f fd ["row"] (Apm K CV (Aot ls rfP) fun H b dr pn=>Ajh H (Gla.parts b) dr pn):=by
 have GI:FnOk P w K mg base CX0 1 fI fdI ["self","refusal","drawing","panes"] (Aig CV):=Ais FI T;refine F.fn.ok scExam (fun vs H Q E h=>?_) (fun cdv A outer s H vs Q E hr h=>?_)
 ·obtain⟨a,b,rfl,_⟩:=h;rfl
 ·obtain⟨a,b,rfl,ha,bl,k⟩:=h;have hr2:Room 2 _:=hr.mono kI
  refine⟨_,Aa1 (Aat (Ad0 (pCK GL hr (Aa0 (pv 0) Aa3)))
   (Aa4 (Aa9 (Aio M GI hr2 rfl mC bI .nil Abm (Aa0 (Ab8 (Aa0 (Anw Ahh Aa5) Aa3)) (Aa0 Acv (Aa0 (Ab8 Aa3) Aa3)))))) Aae)
   (Aa1 (pS 1 scExam.nd (pCK GH hr (Aa0 (pv 0) Aa3)))
   (Aa1 (Aat (Ae5 (pv 1) (fun _=>rfl)) (Aa4 (Aa9 (pCK GX hr (Aa0 (pIT (pv 1) Aa5) (Aa0 (pIT (pv 1) Aa5) Aa3))))) Aae)
   (Aa1 (pS 2 scExam.nd (pCK GR hr (Aa0 (pv 0) Aa3)))
   (Aa1 (pS 1 scExam.nd (pCK GB hr (Aa0 (pv 2) Aa3)))
   (Aa1 (Aat (Ae5 (pv 1) (fun _=>rfl)) (Aa4 (Aa9 (pCK GX hr (Aa0 (pIT (pv 1) Aa5) (Aa0 (pIT (pv 1) Aa5) Aa3))))) Aae)
   (Aa4 (Aa9 (pCK GP hr (Aa0 (pv 2) Aa3))))))))),?_⟩
  have vl:(vB b).length=b.length:=by unfold vB;rw[List.length_map]
  have refd:∀(e:Nat×Nat),Aot ls rfP b=Ak0 e→∀(H':Hp) (v:Addr),Same H H'→RefAt CV H' v [-5,(e.1:Nat),(e.2:Nat)]→Q (.ref v) H':=fun e ee H' v s' rr=>by
   obtain⟨pa,vd⟩:=rr.verd;refine k H' v .non (.ref pa) s' (by rw[ee];exact vd) (fun z=>?_);rw[ee]at z;cases z
  refine⟨_,rfl,a,b,rfl,ha,_,rfl,?_⟩;refine Abg (fun e=>?_) (fun e=>?_)
  ·simp only[decide_eq_true_eq]at e;have er:Aot ls rfP b=[-6]:=by unfold Aot;rw[if_pos (by lia)]
   refine⟨_,rfl,sz1,fun ra hra=>?_⟩;have s1:=Same.new (o:=.lst [.int (-6)]) hra;refine⟨Nat.zero_le _,fun pa hpa=>?_⟩;have s2:=s1.trans (Same.new (o:=.lst []) hpa);intro x dx hx hdx ne;refine⟨x,dx,.ref ra,.non,.ref pa,rfl,Aa2,fun H4 hd keep=>⟨rfl,?_⟩⟩;have s34:=Same.made hx hdx keep;refine k H4 x .non (.ref pa) (s2.trans s34) ⟨dx,ra,hd,s34 _ _ ?_⟩ (fun z=>by rw[er]at z;cases z);rw[er];exact Same.new hpa _ _ Aa2
  simp only[decide_eq_true_eq]at e;have small':¬131072<b.length:=by lia
  refine⟨_,rfl,a,b,rfl,ha,bl,fun H1 t s1 ht=>?_⟩;refine⟨_,rfl,_,.inr (.inl ⟨_,SqT.of ht,rfl⟩),?_⟩;cases q:brk b with
  | some e1 =>
   rw[q]at ht;refine Aoe ?_;refine⟨_,rfl,t,_,_,_,rfl,rfl,SqT.of ht,rfl,_,rfl,t,_,_,_,rfl,rfl,SqT.of ht,rfl,_,_,rfl,fun H2 v s2 rr=>?_⟩;exact refd e1 (by unfold Aot;rw[if_neg small',q]) H2 v (s1.trans s2) rr
  | none =>
   refine Akh ?_;obtain⟨b1,b2,b3,b4⟩:=Auf q;refine⟨_,rfl,a,b,rfl,s1.seq ha,b1,b2,b3,b4,fun H2 d pa la ma as lls ms s2 D=>?_⟩;refine⟨_,rfl,d,_,pa,la,ma,as,lls,ms,rfl,D,hL b q,fun H3 t3 s3 ht3=>?_⟩;refine⟨_,rfl,_,.inr (.inl ⟨_,SqT.of ht3,rfl⟩),?_⟩;have s13:=(s1.trans s2).trans s3;cases q2:Aky 4 ls (Gla.parts b) with
   | some e1 =>
    rw[q2]at ht3;refine Aoe ?_;refine⟨_,rfl,t3,_,_,_,rfl,rfl,SqT.of ht3,rfl,_,rfl,t3,_,_,_,rfl,rfl,SqT.of ht3,rfl,_,_,rfl,fun H4 v s4 rr=>?_⟩;exact refd e1 (by unfold Aot;rw[if_neg small',q];simp only[];rw[q2]) H4 v (s13.trans s4) rr
   | none =>
    refine Akh ?_;have er:Aot ls rfP b=rfP (Gla.parts b):=by unfold Aot;rw[if_neg small',q];simp only[];rw[q2]
    refine⟨_,rfl,d,_,pa,la,ma,as,lls,ms,rfl,D.same s3,hP b q q2,fun H4 v dr pn s4 vd mo=>?_⟩;exact k H4 v dr pn (s13.trans s4) (by rw[er];exact vd) (fun z=>mo (by rw[←er];exact z))
end
abbrev Asm:Stmt:=top Ah6
def wI (e:Nat×Nat):List Int:=[(e.1:Int),(e.2:Int)]
theorem Atk (a b:Nat×Nat):G.ltI (wI a) (wI b)=decide (a.1<b.1∨(a.1=b.1∧a.2<b.2)):=by
 have e:G.ltI (wI a) (wI b)=(decide ((a.1:Int)<b.1)||(!decide ((b.1:Int)<a.1)&&(decide ((a.2:Int)<b.2)||(!decide ((b.2:Int)<a.2)&&false)))):=rfl;rw[e,Bool.eq_iff_iff];simp;lia
theorem Al6 {st:List (Nat×Nat)}(nd:st.Nodup)(h:(st.map wI).Pairwise (fun a b=>G.ltI b a=false)):st.Pairwise Pg.lexLt:=by
 rw[List.pairwise_map]at h;have:=List.nodup_iff_pairwise_ne.1 nd;refine(h.and this).imp ?_;rintro a b ⟨h1,h2⟩;rw[Atk,decide_eq_false_iff_not]at h1;unfold Pg.lexLt;have:¬(a.1=b.1∧a.2=b.2):=fun q=>h2 (Prod.ext q.1 q.2);lia
structure RowsAt (H:Hp)(rs:List Addr)(O:List (List Nat)):Prop where
 len:rs.length=O.length
 at_:∀(i:Nat) (c:Addr),rs[i]?=some c→∃l,O[i]?=some l∧H c=some (.lst (vN l))
theorem RowsAt.same {H H':Hp}{rs:List Addr}{O:List (List Nat)}(e:Same H H')(h:RowsAt H rs O):RowsAt H' rs O :=
 ⟨h.len,fun i c hc=>let ⟨l,a,b⟩:=h.at_ i c hc;⟨l,a,e _ _ b⟩⟩
theorem RowsAt.keep {H H':Hp}{rs:List Addr}{O:List (List Nat)}(e:∀c,c∈rs→∀o,H c=some o→H' c=some o)(h:RowsAt H rs O):RowsAt H' rs O :=
 ⟨h.len,fun i c hc=>let ⟨l,a,b⟩:=h.at_ i c hc;⟨l,a,e c (List.mem_of_getElem? hc) _ b⟩⟩
theorem RowsAt.push {H:Hp}{rs:List Addr}{O:List (List Nat)}{p:Addr}{l:List Nat}(h:RowsAt H rs O)(hp:H p=some (.lst (vN l))):RowsAt H (rs++[p]) (O++[l]):=by
 refine⟨by rw[List.length_append,List.length_append,h.len];rfl,fun j c hc=>?_⟩
 by_cases ej:j<rs.length
 ·rw[List.getElem?_append_left ej]at hc;obtain⟨m,em,hm⟩:=h.at_ j c hc;exact⟨m,by rw[List.getElem?_append_left (by rw[←h.len];exact ej)];exact em,hm⟩
 ·have:=(List.getElem?_eq_some_iff.mp hc).1;simp at this;have:j=rs.length:=by lia
  subst this;simp at hc;subst hc;exact⟨l,by rw[h.len,List.getElem?_append_right (Nat.le_refl _)];simp,hp⟩
def Apd (C:Addr):Sp:=fun vs H Q _=>∃(d:Addr) (S:Plan) (pa la ma:Addr) (as ls ms:List Addr),vs=[.ref d]∧DrawAt C H d S pa la ma as ls ms∧Pg.Rules S∧
 ∀(H':Hp) (p:Addr) (rs:List Addr) (O:List (List Nat)),Same H H'→H p=none→H' p=some (.lst (rs.map V.ref))→RowsAt H' rs O→O.length≤20000→O.Nodup→(∀l,l∈O↔l∈S.outlines)→(∀l,l∈O→l≠[]∧(∀x,x∈l→x<S.pts.length)∧l.length≤20000)→Q (.ref p) H'
theorem Afd (S:Plan):(Gla.ways S).length=2*S.lines.length:=by
 unfold Gla.ways;rw[List.length_flatMap]
 induction S.lines with
 | nil=>rfl
 | cons a r ih=>simp only[List.map_cons,List.sum_cons,List.length_cons,List.length_nil]at *;lia
theorem mem_ways {S:Plan}{e:Nat×Nat}(h:Pg.adj S e.1 e.2):e∈Gla.ways S:=by
 unfold Gla.ways;rw[List.mem_flatMap];rcases h with h | h
 ·exact⟨_,h,by simp⟩
 ·exact⟨_,h,by simp⟩
structure OutS (S:Plan)(done:List (Nat×Nat))(z:List (Nat×Nat)×List (List Nat)):Prop where
 inv:Pg.OutInv S done z
 nod:z.1.Nodup
 adj:∀x,x∈z.1→Pg.adj S x.1 x.2
 len:z.2.length≤done.length
 row:∀l,l∈z.2→∃s:Nat×Nat,Pg.adj S s.1 s.2∧l=Pg.Vs S s
theorem OutS.dis {S:Plan}(r:Pg.Rules S){done:List (Nat×Nat)}{z:List (Nat×Nat)×List (List Nat)}{s:Nat×Nat}(I:OutS S done z)(ad:∀x,x∈done→Pg.adj S x.1 x.2)(as:Pg.adj S s.1 s.2)(h:s∉z.1):∀x,x∈Pg.orb S s→x∉z.1:=fun x hx hz=>by
 obtain⟨t,ht,hxt⟩:=(I.inv.gone x).1 hz;exact h ((I.inv.gone s).2 ⟨t,ht,r.orb_trans (ad t ht) hxt (r.orb_back as hx)⟩)
theorem OutS.step {S:Plan}(r:Pg.Rules S){st done rest:List (Nat×Nat)}{s:Nat×Nat}{z:List (Nat×Nat)×List (List Nat)}(e:st=done++s::rest)(so:st.Pairwise Pg.lexLt)(mem:∀x,x∈st↔Pg.adj S x.1 x.2)(I:OutS S done z):OutS S (done++[s]) (Pg.outStep S z s):=by
 have as:Pg.adj S s.1 s.2:=(mem s).1 (by rw[e];simp);have ad:∀x,x∈done→Pg.adj S x.1 x.2:=fun x hx=>(mem x).1 (by rw[e];simp[hx]);refine⟨I.inv.step r e so mem,?_,?_,?_,?_⟩
 ·unfold Pg.outStep
  by_cases g:s∈z.1
  ·rw[if_pos g];exact I.nod
  ·rw[if_neg g];show(z.1++Pg.orb S s).Nodup;rw[List.nodup_append];exact⟨I.nod,r.orb_nodup as,fun a ha b hb q=>I.dis r ad as g b hb (by rw[←q];exact ha)⟩
 ·unfold Pg.outStep
  by_cases g:s∈z.1
  ·rw[if_pos g];exact I.adj
  ·rw[if_neg g];intro x hx;rcases List.mem_append.1 hx with q | q
   ·exact I.adj x q
   ·exact r.orb_adj as q
 ·have:=I.len;unfold Pg.outStep;rw[List.length_append]
  by_cases g:s∈z.1
  ·rw[if_pos g];lia
  ·rw[if_neg g];dsimp only
   split
   ·rw[List.length_append];simp;lia
   ·lia
 ·unfold Pg.outStep
  by_cases g:s∈z.1
  ·rw[if_pos g];exact I.row
  ·rw[if_neg g];dsimp only
   split
   ·intro l hl;rcases List.mem_append.1 hl with q | q
    ·exact I.row l q
    ·rw[List.mem_singleton]at q;exact⟨s,as,q⟩
   ·exact I.row
theorem OutS.bound {S:Plan}{done:List (Nat×Nat)}{z:List (Nat×Nat)×List (List Nat)}(I:OutS S done z):z.1.length≤2*S.lines.length:=by
 rw[←Afd];exact Pg.len_le I.nod fun x hx=>mem_ways (I.adj x hx)
theorem Ajg {S:Plan}(r:Pg.Rules S){s:Nat×Nat}(as:Pg.adj S s.1 s.2):Pg.Vs S s≠[]∧(∀x,x∈Pg.Vs S s→x<S.pts.length)∧(Pg.Vs S s).length≤2*S.lines.length:=by
 refine⟨fun h=>?_,fun x hx=>?_,?_⟩
 ·have:=r.orb_self as;unfold Pg.Vs at h;rw[List.map_eq_nil_iff]at h;rw[h]at this;cases this
 ·unfold Pg.Vs at hx;obtain⟨e,he,rfl⟩:=List.mem_map.1 hx;rcases r.orb_adj as he with q | q
  ·have:=r.lin _ q;simp only at this;lia
  ·have:=r.lin _ q;simp only at this;lia
 ·unfold Pg.Vs;rw[List.length_map,←Afd];exact Pg.len_le (r.orb_nodup as) fun x hx=>mem_ways (r.orb_adj as hx)
section
variable {P:Program}{w:World}{K:W.Frag}{mg:Str→Option Value}{base:Heap}
theorem scOuts:Aaa ["drawing","follow","gone","outlines","step","outline"] ["drawing"] (Aa7 Asm):=fsc
theorem Awn {f fS fW fA fC fk fG fF fT C:Addr}{fd fdS fdW fdA fdC fdK fdG fdF fdT:FuncData}(F:Def K mg "outlines_of" Asm ["drawing"] f fd)(FS:Def K mg "steps_behind" Ajv ["drawing"] fS fdS)(FW:Def K mg "walk" Aps ["follow","start","gone"] fW fdW)(FA:Def K mg "twice_area" Apv ["corners"] fA fdA)(FC:Def K mg "corners_of" Ans ["drawing","outline"] fC fdC)
 (FK:Def K mg "links_of" Adn ["drawing"] fk fdK) (FG:Def K mg "ring_of" Al7 ["points","middle","numbers"] fG fdG) (FF:Def K mg "leftward" Ala ["points","middle","numbers"] fF fdF) (FT:Def K mg "turn_of" Ack ["p","q","r"] fT fdT) (T:Adl K C) (nl:mg "len" = none) (ne:mg "enumerate" = none) (ns:mg "sorted" = none) :
 FnOk P w K mg base CX0 5 f fd ["drawing"] (Apd C):=by
 have GS:FnOk P w K mg base CX0 4 fS fdS ["drawing"] (Ap8 C):=At8 FS FK FG FF FT T nl ne;have GW:FnOk P w K mg base CX0 1 fW fdW ["follow","start","gone"] Aur:=Awi FW;have GA:FnOk P w K mg base CX0 1 fA fdA ["corners"] Auw:=Awx FA;have GC:FnOk P w K mg base CX0 1 fC fdC ["drawing","outline"] (Ajr C):=Aqh FC T;refine F.fn.ok scOuts (fun vs H Q E h=>?_) (fun cdv A outer s H vs Q E hr h=>?_)
 ·obtain⟨d,S,pa,la,ma,as,ls,ms,rfl,_⟩:=h;rfl
 ·obtain⟨d,S,pa,la,ma,as_,ls,ms,rfl,D,r,k⟩:=h;have hr1:Room 1 _:=hr.mono (by decide);have hu:=Agl hr
  refine⟨_,Aa1 (pS 1 scOuts.nd (pCD FS GS hr (Aa0 (pv 0) Aa3)))
   (Aa1 (pS 2 scOuts.nd Afg)
   (Aa1 (pS 3 scOuts.nd (Ab8 Aa3))
   (Aa1 (Aap PassesOwn.never rfl (Abf (Aaf (Ajb rfl) (by rfl) ns (by decide +kernel) (Aa0 (pv 1) Aa3))) (pG 4 scOuts.nd)
    (Aa4 (Aat (Ag3 (Ad2 hu (pv 4) (pv 2)))
     (Aa1 (pS 5 scOuts.nd (pCD FW GW hr1 (Aa0 (pv 1) (Aa0 (pv 4) (Aa0 (pv 2) Aa3)))))
     (Aa4 (Aat (Aaj Adt (pCD FA GA hr1 (Aa0 (pCD FC GC hr1 (Aa0 (pv 0) (Aa0 (pv 5) Aa3))) Aa3)) Aa5 (Aan _))
      (Aa4 (Abo (Aej PySem.F.plainAttrs_list PySem.F.slot_list_append PySem.F.type_list_append Ab3 (pv 3) (Aa0 (pv 5) Aa3)))) Aae))) Aae)))
   (Aa4 (Aa9 (pv 3)))))),?_⟩
  refine⟨_,rfl,d,S,pa,la,ma,as_,ls,ms,rfl,D,r,fun H1 fo kvs Ew s1 hfo FO ek nE mE=>?_⟩;refine fun g hg=>⟨Nat.zero_le _,fun p hp=>?_⟩
  have s2:Same H1 (upd H1 g (.dT [])):=Same.new hg;have s3:Same H1 (upd (upd H1 g (.dT [])) p (.lst [])):=s2.trans (Same.new hp);have hg3:upd (upd H1 g (.dT [])) p (.lst []) g=some (.dT []):=(Same.new hp) _ _ Aa2;have hp3:upd (upd H1 g (.dT [])) p (.lst []) p=some (.lst []):=Aa2;have p1:H1 p=none:=s2.free hp;generalize upd (upd H1 g (.dT [])) p (.lst [])=H3 at *;have ek2:kvs.map (·.1)=(Ew.map wI).map (·.map Sum.inl):=by rw[ek,List.map_map];rfl
  refine⟨_,rfl,fo,kvs,Ew.map wI,rfl,s3 _ _ FO.dic,ek2,(fun e he=>by obtain⟨x,_,rfl⟩:=List.mem_map.1 he;simp[wI]),fun q l hq pm kl pw=>?_⟩;obtain⟨st,pst,est⟩:=G.perm_map_inv pm Ew rfl;have nst:st.Nodup:=pst.nodup_iff.mpr nE;have so:st.Pairwise Pg.lexLt:=Al6 nst (by rw[←est,List.pairwise_map];exact pw);have mem:∀x,x∈st↔Pg.adj S x.1 x.2:=fun x=>(pst.mem_iff).trans (mE x);have q1:H1 q=none:=s3.free hq
  have s4:Same H3 (upd H3 q (.lst (l.map fun x=>V.ref x.1))):=Same.new hq;have hg4:=s4 _ _ hg3;have hp4:=s4 _ _ hp3;have hq4:upd H3 q (.lst (l.map fun x=>V.ref x.1)) q=some (.lst (l.map fun x=>V.ref x.1)):=Aa2;have kl4:Agw (upd H3 q (.lst (l.map fun x=>V.ref x.1))) l:=fun x hx=>⟨s4 _ _ (kl x hx).1,(kl x hx).2⟩
  have s14:=s3.trans s4;generalize upd H3 q (.lst (l.map fun x=>V.ref x.1))=H4 at *;have pq:p≠q:=fun z=>by rw[z]at hp3;rw[hp3]at hq;cases hq
  have pg:p≠g:=Aby hp4 hg4 (by intro z;cases z);have qg:q≠g:=Aby hq4 hg4 (by intro z;cases z);have stl:st.length≤2*S.lines.length:=by rw[←Afd];exact Pg.len_le nst fun x hx=>mem_ways ((mem x).1 hx)
  have nL:=D.nL;have ll:l.length=st.length:=by have:=congrArg List.length est;simpa using this
  refine⟨q,rfl,⟨_,SqL.of hq4⟩,Abr (K:=K) (a:=q) (xs:=l.map fun x=>V.ref x.1) (fun i σ H'=>(∃v4 v5:Option V,σ=[some (.ref d),some (.ref fo),some (.ref g),some (.ref p),v4,v5])∧Same H1 H'∧H' q=some (.lst (l.map fun x=>V.ref x.1))∧Agw H' l∧
   ∃(z:List (Nat×Nat)×List (List Nat)) (rs:List Addr),OutS S (st.take i) z∧H' g=some (.dT (gK z.1))∧H' p=some (.lst (rs.map V.ref))∧RowsAt H' rs z.2)
   ⟨⟨_,_,rfl⟩,s14,hq4,kl4,([],[]),[],⟨⟨by simp,by simp,by simp⟩,by simp,by simp,by simp,by simp⟩,hg4,hp4,rfl,by simp⟩ (fun i σ H' _ ⟨_,_,h,_⟩=>SqL.of h) ?_ ?_⟩
  ·rintro i x σ H' hi ⟨⟨v4,v5,rfl⟩,sH,hqH,klH,z,rs,OI,hgH,hpH,RA⟩;rw[List.getElem?_map]at hi;cases hli:l[i]? with
   | none=>rw[hli]at hi;cases hi
   | some c =>
    rw[hli]at hi;cases hi;have il:=(List.getElem?_eq_some_iff.mp hli).1;obtain⟨stp,hst⟩ : ∃e,st[i]?=some e:=⟨_,List.getElem?_eq_getElem (by lia)⟩
    have ec:c.2=wI stp:=by
     have:=congrArg (fun y=>y[i]?) est;simp only[List.getElem?_map,hli,hst]at this;exact Option.some.inj this
    have lnc:LnAt H' c.1 stp:=by
     have:=(klH c (List.mem_of_getElem? hli)).1;rw[ec]at this;exact this
    have as:Pg.adj S stp.1 stp.2:=(mem stp).1 (List.mem_of_getElem? hst);have est2:st=st.take i++stp::st.drop (i+1):=by
     rw[←Acp hst,List.take_append_drop]
    have ad:∀x,x∈st.take i→Pg.adj S x.1 x.2:=fun x hx=>(mem x).1 (List.mem_of_mem_take hx);have OI2:=OI.step r est2 so mem;rw[←Aak hst]at OI2;have zb:=OI.bound;refine⟨_,rfl,_,rfl,g,_,rfl,DGet.t hgH lnc.key,_,rfl,?_⟩;rw[An3];refine Abg (fun e=>?_) (fun e=>?_)
    ·have ng:stp∉z.1:=by simpa using e
     have dis:=OI.dis r ad as ng;have vf:=Ajg r as;refine⟨_,rfl,_,rfl,_,rfl,fo,c.1,g,S,kvs,stp,z.1,rfl,r,by lia,⟨sH _ _ FO.dic,fun u v huv=>let ⟨b,hb,lb⟩:=FO.val u v huv;⟨b,hb,sH _ _ lb⟩⟩,lnc,as,hgH,Aa8 FO.dic hg,dis,by lia,fun H5 o keep ho hov hg5=>?_⟩;have k5:Same H1 H5:=fun b u hb=>keep b u (sH b u hb) (fun z=>by rw[z,hg]at hb;cases hb);have hp5:=keep p _ hpH pg;have hq5:=keep q _ hqH qg
     have D5:=D.same (s1.trans k5);have row5:RowsAt H5 rs z.2:=RA.keep fun b hb u hu=>keep b u hu fun zz=>by
      obtain⟨j,hj⟩:=List.mem_iff_getElem?.1 hb;obtain⟨m,_,hm⟩:=RA.at_ j b hj;rw[zz,hgH]at hm;cases hm
     refine⟨_,rfl,_,rfl,d,o,Pg.Vs S stp,S,pa,la,ma,as_,ls,ms,rfl,D5,hov,vf.2.1,by lia,fun H6 pc cs s6 hpc hcs pts=>?_⟩;obtain⟨lst,hlst⟩ : ∃x,((Pg.Vs S stp).map S.pt)[((Pg.Vs S stp).map S.pt).length-1]?=some x:=by
      have:(Pg.Vs S stp).length≠0:=fun z=>vf.1 (List.length_eq_zero_iff.mp z);exact⟨_,List.getElem?_eq_getElem (by rw[List.length_map];lia)⟩
     refine⟨pc,cs,_,lst,rfl,hcs,pts,hlst,?_,?_⟩
     ·intro x hx;obtain⟨y,hy,rfl⟩:=List.mem_map.1 hx;exact(D.pt (vf.2.1 y hy)).choose_spec.2.2
     rw[Axl S hlst];refine⟨_,_,rfl,rfl,_,rfl,?_⟩;have row6:=row5.same s6;have hp6:=s6 _ _ hp5;have hq6:=s6 _ _ hq5;have hg6:=s6 _ _ hg5;have k6:=k5.trans s6;have kl6:Agw H6 l:=fun x hx=>⟨s6 _ _ (keep _ _ (klH x hx).1 (Aby (klH x hx).1 hgH (by intro z;cases z))),(klH x hx).2⟩
     refine Abg (fun e2=>?_) (fun e2=>?_)
     ·have pos:0<Gla.twiceArea S (Pg.Vs S stp):=by simpa using e2
      have ez:Pg.outStep S z stp=(z.1++Pg.orb S stp,z.2++[Pg.Vs S stp]):=by unfold Pg.outStep;rw[if_neg ng,if_pos pos]
      rw[ez]at OI2;have o6:=s6 _ _ hov;refine⟨_,rfl,.inl ⟨rfl,_,SqL.of hp6⟩,_,rfl,p,_,_,rfl,rfl,hp6,?_,⟨_,_,rfl⟩,?_,?_,?_,(z.1++Pg.orb S stp,z.2++[Pg.Vs S stp]),rs++[o],OI2,?_,?_,?_⟩
      ·rw[List.length_map,row6.len];have:=OI.len;rw[List.length_take]at this;exact Nat.lt_of_le_of_lt (show _≤20000 by lia) (by decide)
      ·intro b u hb;rw[Aa6 (Aa8 hb p1)];exact k6 b u hb
      ·rw[Aa6 (Ne.symm pq)];exact hq6
      ·intro x hx;refine⟨?_,(kl6 x hx).2⟩;rw[Aa6 (Aby (kl6 x hx).1 hp6 (by intro z;cases z))];exact(kl6 x hx).1
      ·rw[Aa6 (Ne.symm pg)];exact hg6
      ·rw[Aa2,List.map_append];rfl
      ·have ne0:∀(c:Addr) (m:List Nat),m≠[]→H6 c=some (.lst (vN m))→c≠p:=fun c m hm hc zz=>by
        rw[zz,hp6]at hc;injection hc with hc
        injection hc with hc
        cases m with
        | nil=>exact hm rfl
        | cons a b =>
         cases rs with
         | nil=>cases hc
         | cons a' b'=>injection hc with hc _;cases hc
       have rowp:RowsAt H6 (rs++[o]) (z.2++[Pg.Vs S stp]):=row6.push o6;refine rowp.keep fun b hb u hu=>?_;obtain⟨j,hj⟩:=List.mem_iff_getElem?.1 hb;obtain⟨m,em,hm⟩:=rowp.at_ j b hj;obtain⟨sx,ax,rfl⟩:=OI2.row m (List.mem_of_getElem? em);rw[Aa6 (ne0 b _ (Ajg r ax).1 hm)];exact hu
     ·have npos:¬0<Gla.twiceArea S (Pg.Vs S stp):=by simpa using e2
      have ez:Pg.outStep S z stp=(z.1++Pg.orb S stp,z.2):=by unfold Pg.outStep;rw[if_neg ng,if_neg npos]
      rw[ez]at OI2;exact⟨⟨_,_,rfl⟩,k6,hq6,kl6,(z.1++Pg.orb S stp,z.2),rs,OI2,hg6,hp6,row6⟩
    ·have yg:stp∈z.1:=by
      cases q:decide (stp∈z.1) with
      | true=>exact of_decide_eq_true q
      | false=>rw[q]at e;exact absurd rfl e
     have ez:Pg.outStep S z stp=z:=by unfold Pg.outStep;rw[if_pos yg]
     rw[ez]at OI2;exact⟨⟨_,_,rfl⟩,sH,hqH,klH,z,rs,OI2,hgH,hpH,RA⟩
  ·rintro σ H' ⟨⟨v4,v5,rfl⟩,sH,hqH,klH,z,rs,OI,hgH,hpH,RA⟩;rw[List.length_map,ll,List.take_length]at OI;have fin:∀l,l∈z.2↔l∈S.outlines:=fun l=>by
    rw[OI.inv.mem,r.mem_outlines];constructor
    ·rintro⟨a,ha,b⟩;exact⟨a,(mem a).1 ha,b⟩
    ·rintro⟨a,ha,b⟩;exact⟨a,(mem a).2 ha,b⟩
   refine⟨_,rfl,k H' p rs z.2 (s1.trans sH) (s1.free p1) hpH RA ?_ OI.inv.nod fin ?_⟩
   ·have:=OI.len;lia
   ·intro l hl;obtain⟨sx,ax,rfl⟩:=OI.row l hl;have:=Ajg r ax;exact⟨this.1,this.2.1,by lia⟩
end
abbrev sJP:Stmt:=top Ah8
def rfP (S:Plan):List Int:=match Gla.twice S S.outlines 0 [] S.marks with
 | some i=>Ak0 (12,Gla.markPlace S i)
 | none=>if S.marks.length<S.outlines.length then Ak0 (13,S.size)else []
def Aum (S:Plan):Prop:=Pg.Rules S∧∀m,m∈S.marks→Gla.clear S m.at_=true
def Ajh (C:Addr)(H:Hp)(S:Plan)(dr pn:V):Prop:=∃(d p pa la ma:Addr) (as ls ms rs:List Addr) (O:List (List Nat)),dr=.ref d∧pn=.ref p∧DrawAt C H d S pa la ma as ls ms∧H p=some (.lst (rs.map V.ref))∧RowsAt H rs O∧S.panes=O.map some∧
 Aum S∧S.marks.length=S.outlines.length∧O.Nodup∧(∀l,l∈O↔l∈S.outlines)∧∀l,l∈O→l≠[]∧(∀x,x∈l→x<S.pts.length)∧l.length≤20000
theorem ShAt.push {H:Hp}{rs:List Addr}{qs:List (List Pt)}{c:Addr}{q:List Pt}{cs:List Addr}{l:Pt}(h:ShAt H rs qs)(h1:H c=some (.lst (cs.map V.ref)))(h2:PtsAt H cs q)(h3:q[q.length-1]?=some l)(h4:∀p,p∈q→Abj p):ShAt H (rs++[c]) (qs++[q]):=by
 refine⟨by rw[List.length_append,List.length_append,h.len];rfl,fun j b hb=>?_⟩
 by_cases ej:j<rs.length
 ·rw[List.getElem?_append_left ej]at hb;obtain⟨q',cs',l',a,r⟩:=h.at_ j b hb;exact⟨q',cs',l',by rw[List.getElem?_append_left (by rw[←h.len];exact ej)];exact a,r⟩
 ·have:=(List.getElem?_eq_some_iff.mp hb).1;simp at this;have:j=rs.length:=by lia
  subst this;simp at hb;subst hb;exact⟨q,cs,l,by rw[h.len,List.getElem?_append_right (Nat.le_refl _)];simp,h1,h2,h3,h4⟩
theorem ShAt.lst {H:Hp}{rs:List Addr}{qs:List (List Pt)}{D:Addr}{o l0:List V}(h:ShAt H rs qs)(hD:H D=some (.lst l0))(nD:∀c,c∈rs→c≠D):ShAt (upd H D (.lst o)) rs qs :=
 ⟨h.len,fun j b hb=>by
  obtain⟨q',cs',l',a,h1,h2,r⟩:=h.at_ j b hb;refine⟨q',cs',l',a,by rw[Aa6 (nD b (List.mem_of_getElem? hb))];exact h1,⟨h2.len,fun i c hc=>?_⟩,r⟩;obtain⟨p,e,rr,hp⟩:=h2.at_ i c hc
  exact⟨p,e,rr,by rw[Aa6 (Aby hp hD (by intro z;cases z))];exact hp⟩⟩
def shp (S:Plan)(O:List (List Nat)):List (List Pt):=O.map fun l=>l.map S.pt
theorem Ax8 {S:Plan}{O:List (List Nat)}{z:Pt}{k:Nat}(hk:k<O.length)(ne:∀l,l∈O→l≠[])(h1:Gla.insideOf S O[k] z=true)(h2:∀j (hj:j<k),Gla.insideOf S (O[j]'(by lia)) z=false):Arb z (shp S O)=(k:Nat):=by
 unfold Arb;rw[Af6 (i:=k) (x:=O[k].map S.pt) (by unfold shp;rw[List.getElem?_map,List.getElem?_eq_getElem hk];rfl) (by rw[Ara S z (ne _ (List.getElem_mem hk))];exact h1) (fun j y hj hy=>?_)];unfold shp at hy;rw[List.getElem?_map,List.getElem?_eq_getElem (show j<O.length by lia)]at hy;cases hy;rw[Ara S z (ne _ (List.getElem_mem _))];exact h2 j hj
theorem Ahi (S:Plan)(all:List (List Nat))(i:Nat)(had:List (Option (List Nat)))(m:Mark)(r:List Mark):Gla.twice S all i had (m::r)=if had.contains (S.among all m.at_)=true then some i else Gla.twice S all (i+1) (S.among all m.at_::had) r:=rfl
structure MarkI (S:Plan)(O:List (List Nat))(i:Nat)(ks:List Nat):Prop where
 len:ks.length=i
 nod:ks.Nodup
 lt:∀k,k∈ks→k<O.length
 eq:(S.marks.take i).map (fun m=>S.among S.outlines m.at_)=ks.map fun k=>some (O.getD k [])
 tw:Gla.twice S S.outlines i ((ks.map fun k=>some (O.getD k [])).reverse) (S.marks.drop i)=Gla.twice S S.outlines 0 [] S.marks
theorem MarkI.has {S:Plan}{O:List (List Nat)}{i k:Nat}{ks:List Nat}(M:MarkI S O i ks)(nO:O.Nodup)(hk:k<O.length):((ks.map fun k=>some (O.getD k [])).reverse).contains (some O[k])=decide (k∈ks):=by
 rw[Bool.eq_iff_iff,List.contains_iff_mem,List.mem_reverse,List.mem_map,decide_eq_true_eq];constructor
 ·rintro⟨j,hj,e⟩;have lj:=M.lt j hj;have e:=Option.some.inj e;rw[List.getD_eq_getElem?_getD,List.getElem?_eq_getElem lj]at e;have:j=k:=Alf nO (List.getElem?_eq_getElem lj) (by rw[List.getElem?_eq_getElem hk,←e];rfl);rw[←this];exact hj
 ·intro h;exact⟨k,h,by rw[List.getD_eq_getElem?_getD,List.getElem?_eq_getElem hk];rfl⟩
theorem Aet {O:List (List Nat)}{k:Nat}(hk:k<O.length):O.getD k []=O[k]:=by rw[List.getD_eq_getElem?_getD,List.getElem?_eq_getElem hk];rfl
theorem MarkI.hit {S:Plan}{O:List (List Nat)}{i k:Nat}{ks:List Nat}{m:Mark}(M:MarkI S O i ks)(nO:O.Nodup)(hk:k<O.length)(hm:S.marks[i]?=some m)(ha:S.among S.outlines m.at_=some O[k])(h:k∈ks):Gla.twice S S.outlines 0 [] S.marks=some i:=by
 rw[←M.tw,Acp hm,Ahi,ha,M.has nO hk,decide_eq_true h,if_pos rfl]
theorem MarkI.miss {S:Plan}{O:List (List Nat)}{i k:Nat}{ks:List Nat}{m:Mark}(M:MarkI S O i ks)(nO:O.Nodup)(hk:k<O.length)(hm:S.marks[i]?=some m)(ha:S.among S.outlines m.at_=some O[k])(h:k∉ks):MarkI S O (i+1) (ks++[k]):=by
 refine⟨by rw[List.length_append,M.len];rfl,?_,?_,?_,?_⟩
 ·rw[List.nodup_append];exact⟨M.nod,by simp,fun a ha b hb q=>h (by rw[List.mem_singleton]at hb;rw[←hb,←q];exact ha)⟩
 ·intro x hx;rcases List.mem_append.1 hx with q | q
  ·exact M.lt x q
  ·rw[List.mem_singleton]at q;rw[q];exact hk
 ·rw[Aak hm,List.map_append,List.map_append,M.eq];simp only[List.map_cons,List.map_nil,ha,Aet hk]
 ·rw[←M.tw,Acp hm,Ahi,ha,M.has nO hk,decide_eq_false h,if_neg Bool.false_ne_true,List.map_append,List.reverse_append];simp only[List.map_cons,List.map_nil,List.reverse_cons,List.reverse_nil,List.nil_append,List.cons_append,Aet hk]
theorem MarkI.done {S:Plan}{O:List (List Nat)}{ks:List Nat}(M:MarkI S O S.marks.length ks):Gla.twice S S.outlines 0 [] S.marks=none∧S.panes=(ks.map fun k=>O.getD k []).map some:=by
 constructor
 ·rw[←M.tw,List.drop_length];rfl
 ·have:=M.eq;rw[List.take_length]at this;unfold Gla.Plan.panes;rw[List.map_map];exact this
theorem MarkI.all {S:Plan}{O:List (List Nat)}{n:Nat}{ks:List Nat}(M:MarkI S O n ks)(nO:O.Nodup)(mO:∀l,l∈O↔l∈S.outlines)(h:¬n<O.length) :
 n=O.length∧(ks.map fun k=>O.getD k []).Nodup∧(∀l,l∈(ks.map fun k=>O.getD k [])↔l∈S.outlines)∧∀l,l∈(ks.map fun k=>O.getD k [])→l∈O:=by
 have sub:∀k,k∈ks→k∈List.range O.length:=fun k hk=>List.mem_range.2 (M.lt k hk);have le:=Pg.len_le M.nod sub;rw[List.length_range,M.len]at le;have en:n=O.length:=by lia
 have all:∀k,k<O.length→k∈ks:=fun k hk=>by
  apply Classical.byContradiction;intro nk
  have:=Pg.len_le (l:=k::ks) (m:=List.range O.length) (List.nodup_cons.2 ⟨nk,M.nod⟩) (fun x hx=>by
   rcases List.mem_cons.1 hx with q | q
   ·rw[q];exact List.mem_range.2 hk
   ·exact sub x q)
  rw[List.length_range,List.length_cons,M.len]at this;lia
 have toO:∀l,l∈(ks.map fun k=>O.getD k [])→l∈O:=fun l hl=>by
  obtain⟨k,hk,rfl⟩:=List.mem_map.1 hl;rw[Aet (M.lt k hk)];exact List.getElem_mem _
 refine⟨en,?_,fun l=>⟨fun hl=>(mO l).1 (toO l hl),fun hl=>?_⟩,toO⟩
 ·rw[List.nodup_iff_pairwise_ne,List.pairwise_map];refine List.Pairwise.imp_of_mem ?_ (List.nodup_iff_pairwise_ne.1 M.nod);intro a b ha hb ne q;rw[Aet (M.lt a ha),Aet (M.lt b hb)]at q;exact ne (Alf nO (List.getElem?_eq_getElem (M.lt a ha)) (by rw[List.getElem?_eq_getElem (M.lt b hb),←q]))
 ·obtain⟨k,hk,ek⟩:=List.mem_iff_getElem.1 ((mO l).2 hl);exact List.mem_map.2 ⟨k,all k hk,by rw[Aet hk];exact ek⟩
def Bc3:Scope:={ kind:=.function,names:=[(Str.ofString ".0",.local),(Str.ofString "outline",.local),(Str.ofString "corners_of",.globalImplicit),(Str.ofString "drawing",.free)],isGenerator:=false,isCoroutine:=false }
section
variable {P:Program}{w:World}{K:W.Frag}{mg:Str→Option Value}{base:Heap}
theorem scJP:Aaa ["drawing","outlines","shapes","marked","panes","number","mark","found","outline"] ["drawing"] (Aa7 sJP):=fsc
theorem Bcr:Avh ["drawing","outlines","shapes","marked","panes","number","mark","found","outline"] (Aa7 sJP) Bc3 [("outline",8)]=true:=by decide +kernel
theorem Baz {f fO fC fH fX fI C CV fP fL fM:Addr}{fd fdO fdC fdH fdX fdI fdP fdL fdM:FuncData}{k0:Nat}(F:Def K mg "judge_panes" sJP ["drawing"] f fd)(k5:3≤k0)(GO:Kwn P w K mg base k0 "outlines_of" ["drawing"] (Apd C) fO fdO)(GC:Kwn P w K mg base k0 "corners_of" ["drawing","outline"] (Ajr C) fC fdC)
 (GH:Kwn P w K mg base k0 "holder_of" ["shapes","spot"] Apk fH fdH) (GX:Kwn P w K mg base k0 "refused" ["rule","place"] (Apa CV) fX fdX) (FI:Fun K "__init__" "Verdict.__init__" Afx fI fdI) (bI:Binds K fdI ["self","refusal","drawing","panes"] []) (M:Mk K CV fI) (mC:mg "Verdict" = some (.ref CV)) (TV:Am4 K CV)
 (TM:TMeth K mg C fP fL fM fdP fdL fdM) (ne:mg "enumerate" = none):FnOk P w K mg base CX0 (k0+1) f fd ["drawing"] (Al4 C CV Aum rfP (Ajh C)):=by
 have GI:FnOk P w K mg base CX0 1 fI fdI ["self","refusal","drawing","panes"] (Aig CV):=Ais FI TV;have GM:FnOk P w K mg base CX0 3 fM fdM ["self","number"] (Ame C):=Aqe TM.FM TM.FL TM.bL TM.mL TM.FP TM.bP TM.mP TM.T TM.c TM.nl;have T:=TM.T;refine F.fn.ok scJP (fun vs H Q E h=>?_) (fun cdv A outer s H vs Q E hr h=>?_)
 ·obtain⟨d,S,pa,la,ma,as,ls,ms,rfl,_⟩:=h;rfl
 ·obtain⟨d,S,pa,la,ma,as,ls,ms,rfl,D,pre,k⟩:=h;have hr3:Room 3 _:=hr.mono k5;have hr2:Room 2 _:=hr.mono (by lia);have hu:=Agl hr
  refine⟨_,Aa1 (pS 1 scJP.nd (pCK GO hr (Aa0 (pv 0) Aa3)))
   (Aa1 (Aff (i:=2) (te:=Aia (Ajr C) [] E0 (Abt (Acc 0) (Abt (Acc 8) Ama))) (own:=[("outline",8)]) rfl scJP.nd rfl rfl (Aib rfl rfl rfl rfl) (Abf (pv 1)) (Acs Bcr) (fun _ _ _ _ _=>pG 8 scJP.nd) (fun _ _ _ _ _=>Ag2)
    (fun _ _ _ _ _=>pCK GC hr (Aa0 (pv 0) (Aa0 (pv 8) Aa3))))
   (Aa1 (pS 3 scJP.nd At1)
   (Aa1 (pS 4 scJP.nd (Ab8 Aa3))
   (Aa1 (Aap PassesOwn.never rfl (Abw rfl ne (Aa0 (Aal (pv 0) rfl) Aa3)) (Abu rfl (Aag (pG 5 scJP.nd) (Aag (pG 6 scJP.nd) Abc)))
    (Aa1 (pS 7 scJP.nd (pCK GH hr (Aa0 (pv 2) (Aa0 (pv 6) Aa3))))
    (Aa1 (Aat (Ag3 (Av1 hu (pv 7) (pv 3))) (Aa4 (Aa9 (pCK GX hr (Aa0 Aa5 (Aa0 (Aax (pv 0) T.cl TM.mM GM hr3 TM.bM .nil Abm (Aa0 (pv 5) Aa3)) Aa3))))) Aae)
    (Aa1 (Aei hu (pv 3) (pv 7) Ads rfl)
    (Aa4 (Abo (Aej PySem.F.plainAttrs_list PySem.F.slot_list_append PySem.F.type_list_append Ab3 (pv 4) (Aa0 (pIL (pv 1) (pv 7)) Aa3))))))))
   (Aa1 (Aat (Aaj Acf (Aaf Aab (by rfl) TM.nl PySem.boot_len (Aa0 (pv 4) Aa3)) (Aaf Aab (by rfl) TM.nl PySem.boot_len (Aa0 (pv 1) Aa3)) (Aan _))
    (Aa4 (Aa9 (pCK GX hr (Aa0 Aa5 (Aa0 (Aax (pv 0) T.cl TM.mM GM hr3 TM.bM .nil Abm (Aa0 (Aaf Aab (by rfl) TM.nl PySem.boot_len (Aa0 (Aal (pv 0) rfl) Aa3)) Aa3)) Aa3))))) Aae)
   (Aa4 (Aa9 (Aio M GI hr2 rfl mC bI .nil Abm (Aa0 (Ab8 Aa3) (Aa0 (pv 0) (Aa0 (pv 4) Aa3))))))))))),?_⟩
  obtain⟨r,clr⟩:=pre;refine⟨_,rfl,d,S,pa,la,ma,as,ls,ms,rfl,D,r,fun H1 po ro O s1 hpo1 hpo RA lO nO mO fO=>?_⟩;refine⟨_,rfl,po,rfl,⟨_,SqL.of hpo⟩,fun sh hsh=>?_⟩;refine Agb (K:=K) (a:=po) (xs:=ro.map V.ref) (fun i H'=>∃ss:List Addr,Same H1 H'∧H' sh=some (.lst (ss.map V.ref))∧ShAt H' ss (shp S (O.take i))∧∀c,c∈ss→c≠sh)
   ⟨[],Same.new hsh,Aa2,⟨rfl,by simp⟩,by simp⟩ (fun i H' _ ⟨_,s2,_⟩=>SqL.of (s2 _ _ hpo)) ?_ ?_
  ·rintro i y H' hi ⟨ss,s2,hs2,SH,nsh⟩;obtain⟨c,hc,rfl⟩:=Aad hi;obtain⟨l,hl,hcl⟩:=RA.at_ i c hc;have il:=(List.getElem?_eq_some_iff.mp hl).1;obtain⟨f1,f2,f3⟩:=fO l (List.mem_of_getElem? hl);refine⟨rfl,?_⟩;unfold Axq;dsimp only
   first | rw[if_pos rfl] | rw[if_pos trivial]
   refine⟨_,rfl,_,rfl,d,c,l,S,pa,la,ma,as,ls,ms,rfl,D.same (s1.trans s2),s2 _ _ hcl,f2,f3,fun H3 p cs s3 hp hcs pts=>?_⟩;have psh:p≠sh:=fun z=>by rw[z,hs2]at hp;cases hp
   obtain⟨lst,hlst⟩ : ∃x,(l.map S.pt)[(l.map S.pt).length-1]?=some x:=by
    have:l.length≠0:=fun z=>f1 (List.length_eq_zero_iff.mp z);exact⟨_,List.getElem?_eq_getElem (by rw[List.length_map];lia)⟩
   have sm:∀p,p∈l.map S.pt→Abj p:=fun x hx=>by
    obtain⟨y,hy,rfl⟩:=List.mem_map.1 hx;exact(D.pt (f2 y hy)).choose_spec.2.2
   have nss:∀c,c∈ss++[p]→c≠sh:=fun c hc=>by
    rcases List.mem_append.1 hc with q | q
    ·exact nsh c q
    ·rw[List.mem_singleton]at q;rw[q];exact psh
   refine⟨_,s3 _ _ hs2,?_,ss++[p],Same.grow s2 hsh s3,?_,?_,nss⟩
   ·rw[List.length_map,SH.len];unfold shp;rw[List.length_map,List.length_take];exact Nat.lt_of_le_of_lt (show _≤20000 by lia) (by decide)
   ·rw[Aa2,List.map_append];rfl
   ·have:=(SH.same s3).push hcs pts hlst sm;rw[Aak hl];unfold shp;rw[List.map_append];exact this.lst (s3 _ _ hs2) nss
  ·rintro H2 ⟨ss,s2,hs2,SH,nsh⟩;rw[List.length_map,RA.len,List.take_length]at SH;refine fun mk hmk=>⟨Nat.zero_le _,fun pn hpn=>?_⟩
   have s3:Same H2 (upd H2 mk (.dK [])):=Same.new hmk;have s4:Same H2 (upd (upd H2 mk (.dK [])) pn (.lst [])):=s3.trans (Same.new hpn);have hmk4:upd (upd H2 mk (.dK [])) pn (.lst []) mk=some (.dK (fK [])):=(Same.new hpn) _ _ Aa2;have hpn4:upd (upd H2 mk (.dK [])) pn (.lst []) pn=some (.lst (([]:List Nat).map fun k=>V.ref (ro.getD k 0))):=Aa2;have hpn2:H2 pn=none:=s3.free hpn;generalize upd (upd H2 mk (.dK [])) pn (.lst [])=H4 at *
   have s12:=s1.trans s2;have s14:=s12.trans s4;have D4:=D.same s14;obtain⟨dx4,hd4⟩:=D4.ins
   refine⟨_,rfl,d,C,dx4,_,_,rfl,hd4,T.cl,T.nM,Aub _ _ _ _ _,ma,_,rfl,SqL.of D4.mks,Abk (K:=K) (a:=ma) (xs:=ms.map V.ref) (fun i σ H'=>(∃v5 v6 v7 v8:Option V,σ=[some (.ref d),some (.ref po),some (.ref sh),some (.ref mk),some (.ref pn),v5,v6,v7,v8])∧Same H2 H'∧
    ∃ks:List Nat,MarkI S O i ks∧H' mk=some (.dK (fK ks))∧H' pn=some (.lst (ks.map fun k=>V.ref (ro.getD k 0))))
    ⟨⟨_,_,_,_,rfl⟩,s4,[],⟨rfl,by simp,by simp,by simp,by simp⟩,hmk4,hpn4⟩ (fun i σ H' _ ⟨_,s5,_⟩=>SqL.of (s5 _ _ (s12 _ _ D.mks))) ?_ ?_⟩
   ·rintro i x σ H' t hi ⟨⟨v5,v6,v7,v8,rfl⟩,s5,ks,MI,hmkH,hpnH⟩ ht;obtain⟨c,hc,rfl⟩:=Aad hi;obtain⟨m,hm,hcm⟩:=D.mksX.at_ i c hc;have st:=Same.new (o:=.tup [.int (i:Nat),.ref c]) ht;have s6:=s5.trans st;have hmk6:=st _ _ hmkH;have hpn6:=st _ _ hpnH;refine⟨t,_,rfl,SqT.of Aa2,rfl,_,_,rfl,_,_,rfl,rfl,?_⟩;generalize upd H' t (.tup [.int (i:Nat),.ref c])=H6 at *;obtain⟨kk,hkk,am,h1,h2⟩:=Pg.among_at r nO mO (clr m (List.mem_of_getElem? hm))
    have hol:=Ax8 (S:=S) (O:=O) hkk (fun l hl=>(fO l hl).1) h1 h2;have pc:PtAt H6 c m.at_:=⟨_,(s12.trans s6) _ _ hcm⟩
    refine⟨_,rfl,_,rfl,sh,c,ss,shp S O,m.at_,rfl,s6 _ _ hs2,SH.same s6,pc,fun H7 s7=>?_⟩;rw[hol];have hmk7:=s7 _ _ hmk6;have hpn7:=s7 _ _ hpn6;have s27:=s6.trans s7;refine⟨_,rfl,_,rfl,mk,_,rfl,DGet.k (k:=Sum.inl (kk:Int)) hmk7,_,rfl,?_⟩;rw[Akl];refine Abg (fun e=>?_) (fun e=>?_)
    ·have hin:kk∈ks:=of_decide_eq_true e;have tw:=MI.hit nO hkk hm am hin;have er:rfP S=Ak0 (12,Gla.markPlace S i):=by unfold rfP;rw[tw]
     obtain⟨dx7,hd7⟩:=(D.same (s12.trans s27)).ins;refine⟨_,rfl,d,dx7,_,rfl,hd7,Ac0 _ _ _ _ _ (by decide +kernel) (by decide +kernel) (by decide +kernel) (by decide +kernel) (by decide +kernel),_,rfl,d,i,S,pa,la,ma,as,ls,ms,rfl,D.same (s12.trans s27),12,_,rfl,fun H8 v s8 rr=>?_⟩;obtain⟨pv',vd⟩:=RefAt.verd rr;refine k H8 v .non (.ref pv') ((s12.trans s27).trans s8) (by rw[er];exact vd) (fun z=>by rw[er]at z;cases z)
    ·have nin:kk∉ks:=fun z=>e (decide_eq_true z);have MI2:=MI.miss nO hkk hm am nin;obtain⟨ck,hck⟩ : ∃ck,ro[kk]?=some ck:=⟨_,List.getElem?_eq_getElem (by rw[RA.len];exact hkk)⟩
     have mkl:=MI.len;have il:=(List.getElem?_eq_some_iff.mp hm).1;have nM:=D.nM;refine⟨_,rfl,_,rfl,mk,_,rfl,DPut.k (k:=Sum.inl (kk:Int)) hmk7 ?_,?_⟩
     ·unfold fK;rw[List.length_map];exact Nat.lt_of_le_of_lt (show _≤2048 by lia) (by decide)
     rw[Av9 nin];have mkn:H2 mk=none:=hmk;have npm:pn≠mk:=Aby hpn7 hmk7 (by intro z;cases z);have hpn8:upd H7 mk (.dK (fK (ks++[kk]))) pn=some (.lst (ks.map fun k=>V.ref (ro.getD k 0))):=by rw[Aa6 npm];exact hpn7
     have s28:Same H2 (upd H7 mk (.dK (fK (ks++[kk])))):=fun b u hb=>by rw[Aa6 (Aa8 hb mkn)];exact s27 b u hb
     refine⟨_,rfl,.inl ⟨rfl,_,SqL.of hpn8⟩,_,rfl,_,rfl,po,_,_,V.ref ck,rfl,rfl,SqL.of (s28 _ _ (s2 _ _ hpo)),atr hck,pn,_,_,rfl,rfl,hpn8,?_,⟨_,_,_,_,rfl⟩,?_,ks++[kk],MI2,?_,?_⟩
     ·rw[List.length_map];exact Nat.lt_of_le_of_lt (show _≤2048 by lia) (by decide)
     ·intro b u hb;rw[Aa6 (Aa8 hb hpn2)];exact s28 b u hb
     ·rw[Aa6 (Ne.symm npm),Aa2]
     ·rw[Aa2,List.map_append];show _=some (HO.lst (_++[V.ref (ro.getD kk 0)]));rw[Afl hck]
   ·rintro σ H' ⟨⟨v5,v6,v7,v8,rfl⟩,s5,ks,MI,hmkH,hpnH⟩;rw[List.length_map,D.mksX.len]at MI;obtain⟨tw,pns⟩:=MI.done;have ol:=Pg.outs_len r nO mO;have s15:=s12.trans s5;refine⟨_,rfl,pn,_,rfl,.inl (SqL.of hpnH),_,rfl,po,_,rfl,.inl (SqL.of (s5 _ _ (s2 _ _ hpo))),_,_,rfl,rfl,_,rfl,?_⟩;rw[List.length_map,List.length_map,MI.len,RA.len,ol];refine Abg (fun e=>?_) (fun e=>?_)
    ·simp only[decide_eq_true_eq]at e;have er:rfP S=Ak0 (13,S.size):=by unfold rfP;rw[tw];simp only[];rw[if_pos (by lia)]
     have D5:=D.same s15;obtain⟨dx5,hd5⟩:=D5.ins;refine⟨_,rfl,d,dx5,_,rfl,hd5,Ac0 _ _ _ _ _ (by decide +kernel) (by decide +kernel) (by decide +kernel) (by decide +kernel) (by decide +kernel),_,rfl,d,C,dx5,_,_,rfl,hd5,T.cl,T.nM,Aub _ _ _ _ _,ma,_,rfl,.inl (SqL.of D5.mks),d,S.marks.length,S,pa,la,ma,as,ls,ms,by rw[List.length_map,D.mksX.len];rfl,D5,13,_,rfl,fun H8 v s8 rr=>?_⟩;obtain⟨pv',vd⟩:=RefAt.verd rr
     exact k H8 v .non (.ref pv') (s15.trans s8) (by rw[er];exact vd) (fun z=>by rw[er]at z;cases z)
    ·simp only[decide_eq_true_eq]at e;have er:rfP S=[]:=by unfold rfP;rw[tw];simp only[];rw[if_neg (by lia)]
     refine⟨Nat.zero_le _,fun ra hra=>⟨_,rfl,_,rfl,?_⟩⟩;have s6:=Same.new (o:=.lst []) hra;intro x dx hx hdx nee;refine⟨x,dx,.ref ra,.ref d,.ref pn,rfl,Aa2,fun H7 hd7 keep=>⟨rfl,?_⟩⟩;have s7:=Same.made hx hdx keep;have s67:=s6.trans s7;refine k H7 x (.ref d) (.ref pn) (s15.trans s67) ⟨dx,ra,hd7,by rw[er];exact s7 _ _ Aa2⟩ (fun _=>?_);obtain⟨a1,a2,a3,a4⟩:=MI.all nO mO (by lia);refine⟨d,pn,pa,la,ma,as,ls,ms,ks.map fun k=>ro.getD k 0,ks.map fun k=>O.getD k [],rfl,rfl,D.same (s15.trans s67),?_,⟨by simp,fun i c hc=>?_⟩,pns,⟨r,clr⟩,by lia,a2,a3,fun l hl=>fO l (a4 l hl)⟩
     ·rw[List.map_map];exact s67 _ _ hpnH
     ·rw[List.getElem?_map]at hc;cases q:ks[i]? with
      | none=>rw[q]at hc;cases hc
      | some kk =>
       rw[q]at hc;have lk:=MI.lt kk (List.mem_of_getElem? q);obtain⟨ck,hck⟩ : ∃ck,ro[kk]?=some ck:=⟨_,List.getElem?_eq_getElem (by rw[RA.len];exact lk)⟩
       have:ro.getD kk 0=c:=Option.some.inj hc;rw[Afl hck]at this;subst this;obtain⟨l,hl,hcl⟩:=RA.at_ kk ck hck;refine⟨l,?_,(s2.trans (s5.trans s67)) _ _ hcl⟩;rw[List.getElem?_map,q];show some (O.getD kk [])=some l;rw[List.getD_eq_getElem?_getD,hl];rfl
end
end Gc
end
section
namespace Gc
open Gla (Pt Plan Mark)
def k4:Agv:=⟨fun _=>True,fun S=>(Gla.firstAt (Acx S) S.pts).map Gla.ptPlace⟩
def k5:Agv:=⟨fun _=>True,fun S=>(Gla.firstAt (Adk S) S.lines).map (Gla.linePlace S)⟩
def k6:Agv:=⟨fun _=>True,frm⟩
def k7:Agv:=⟨fun S=>Pg.R45 S∧S.w≤1048575,fun S=>(Gla.firstAt (Gla.touches S) S.lines).map (Gla.linePlace S)⟩
def k8:Agv:=⟨fun S=>∀l,l∈S.lines→l.1<l.2∧l.2<S.pts.length,fun S=>((List.range S.pts.length).find? fun(i:Nat)=>decide ((S.near i).length<2)).map Gla.ptPlace⟩
def k9:Agv:=⟨Bab,fun S=>((List.range S.pts.length).find? fun(i:Nat)=>!((Gla.seenFrom S.nears S.pts.length 0 (Gla.noneSeen S.pts.length)).getD i false)).map Gla.ptPlace⟩
def k10:Agv:=⟨Bab,fun S=>((List.range S.pts.length).find? (Gla.cuts S.nears S.pts.length)).map Gla.ptPlace⟩
def k11:Agv:=⟨Pg.R45,fun S=>(Gla.firstAt (Aci S) S.marks).map (Gla.markPlace S)⟩
def Ad3:List Agv:=[k4,k5,k6,k7,k8,k9,k10,k11]
theorem map_none {α β:Type}{f:α→β}{o:Option α}(h:o.map f=none):o=none:=by cases o with | none=>rfl | some x=>cases h
theorem r45 {S:Plan}(h4:k4.r S=none)(h5:k5.r S=none):Pg.R45 S:=Pg.R45.of (by rw[Anb];exact map_none h4) (by rw[Ane];exact map_none h5)
structure As2 (S:Plan):Prop where
 w1:16≤S.w
 w2:S.w≤1048575
 h1:16≤S.h
 h2:S.h≤1048575
 p4:4≤S.pts.length
theorem Aq6 {S:Plan}(h:As2 S):Axy S Ad3:=by
 refine⟨trivial,fun e4=>⟨trivial,fun e5=>⟨trivial,fun e6=>⟨⟨r45 e4 e5,h.w2⟩,fun e7=>⟨(r45 e4 e5).lin,fun e8=>⟨⟨r45 e4 e5,h.p4⟩,fun e9=>⟨⟨r45 e4 e5,h.p4⟩,fun e10=>⟨r45 e4 e5,fun _=>trivial⟩⟩⟩⟩⟩⟩⟩⟩
theorem Aks {S:Plan}:∀{n:Nat} {ls:List Agv},Aky n ls S=none→∀l,l∈ls→l.r S=none
 | _,[],_,l,hl=>by cases hl
 | n,x::r,h,l,hl=>by
  have h:(match x.r S with | some p=>some (n,p) | none=>Aky (n+1) r S)=none:=h;cases q:x.r S with
  | some p=>rw[q]at h;cases h
  | none =>
   rw[q]at h;rcases List.mem_cons.1 hl with e | e
   ·rw[e];exact q
   ·exact Aks h l e
theorem Au3 {S:Plan}(h:frm S=none):Gla.frameOk S=true:=by
 unfold frm at h
 by_cases q:Gla.frameOk S=true
 ·exact q
 ·rw[if_neg q]at h;cases h
theorem Anv {S:Plan}(h:As2 S)(e:Aky 4 Ad3 S=none):Aum S:=by
 have a:=Aks e;have e4:=a k4 (by simp[Ad3]);have e5:=a k5 (by simp[Ad3]);have e6:=a k6 (by simp[Ad3]);have e7:=a k7 (by simp[Ad3]);have e8:=a k8 (by simp[Ad3]);have e9:=a k9 (by simp[Ad3]);have e10:=a k10 (by simp[Ad3]);have e11:=a k11 (by simp[Ad3]);refine⟨Pg.Rules.of h.w1 h.w2 h.h1 h.p4 (r45 e4 e5) (Au3 e6) (map_none e7) (map_none e8) (map_none e9) (map_none e10),fun m hm=>?_⟩
 have q:Gla.firstBad (Gla.markOk S) Gla.markBelow S.marks=none:=by rw[Anc];exact map_none e11
 exact(Pg.firstBad_none q).1 m hm
def fl (e:Gla.Fault):List Int:=[-5,(e.rule:Nat),(e.place:Nat)]
theorem Au5 (S:Plan):(match Aky 4 Ad3 S with | some e=>Ak0 e | none=>rfP S)=(match S.fault with | some e=>fl e | none=>[]):=by
 unfold Gla.Plan.fault;rw[Anb,Ane];have step:∀(n:Nat) (l:Agv) (ls:List Agv),Aky n (l::ls) S=match l.r S with | some p=>some (n,p) | none=>Aky (n+1) ls S:=fun _ _ _=>rfl
 unfold Ad3;rw[step];show(match (match (Gla.firstAt (Acx S) S.pts).map Gla.ptPlace with | some p=>some (4,p) | none=>_)with | some e=>Ak0 e | none=>rfP S)=_;cases Gla.firstAt (Acx S) S.pts with
 | some i=>rfl
 | none =>
 simp only[Option.map_none];rw[step];show(match (match (Gla.firstAt (Adk S) S.lines).map (Gla.linePlace S)with | some p=>some (5,p) | none=>_)with | some e=>Ak0 e | none=>rfP S)=_;cases Gla.firstAt (Adk S) S.lines with
 | some i=>rfl
 | none =>
 simp only[Option.map_none];rw[step];show(match (match frm S with | some p=>some (6,p) | none=>_)with | some e=>Ak0 e | none=>rfP S)=_;unfold frm
 by_cases f6:Gla.frameOk S=true
 ·rw[if_pos f6,if_neg (by rw[f6];decide)];simp only[];rw[step];show(match (match (Gla.firstAt (Gla.touches S) S.lines).map (Gla.linePlace S)with | some p=>some (7,p) | none=>_)with | some e=>Ak0 e | none=>rfP S)=_;cases Gla.firstAt (Gla.touches S) S.lines with
  | some i=>rfl
  | none =>
  simp only[Option.map_none];rw[step];show(match (match ((List.range S.pts.length).find? fun(i:Nat)=>decide ((S.near i).length<2)).map Gla.ptPlace with | some p=>some (8,p) | none=>_)with | some e=>Ak0 e | none=>rfP S)=_;cases (List.range S.pts.length).find? fun(i:Nat)=>decide ((S.near i).length<2) with
  | some i=>rfl
  | none =>
  simp only[Option.map_none];rw[step];show(match (match ((List.range S.pts.length).find? fun(i:Nat)=>!((Gla.seenFrom S.nears S.pts.length 0 (Gla.noneSeen S.pts.length)).getD i false)).map Gla.ptPlace with | some p=>some (9,p) | none=>_)with | some e=>Ak0 e | none=>rfP S)=_;cases (List.range S.pts.length).find? fun(i:Nat)=>!((Gla.seenFrom S.nears S.pts.length 0 (Gla.noneSeen S.pts.length)).getD i false) with
  | some i=>rfl
  | none =>
  simp only[Option.map_none];rw[step];show(match (match ((List.range S.pts.length).find? (Gla.cuts S.nears S.pts.length)).map Gla.ptPlace with | some p=>some (10,p) | none=>_)with | some e=>Ak0 e | none=>rfP S)=_;cases (List.range S.pts.length).find? (Gla.cuts S.nears S.pts.length) with
  | some i=>rfl
  | none =>
  simp only[Option.map_none];rw[step,Anc];show(match (match (Gla.firstAt (Aci S) S.marks).map (Gla.markPlace S)with | some p=>some (11,p) | none=>none)with | some e=>Ak0 e | none=>rfP S)=_;cases Gla.firstAt (Aci S) S.marks with
  | some i=>rfl
  | none =>
  simp only[Option.map_none];unfold rfP;cases Gla.twice S S.outlines 0 [] S.marks with
  | some i=>rfl
  | none =>
   simp only[]
   by_cases q:S.marks.length<S.outlines.length
   ·rw[if_pos q,if_pos q];rfl
   ·rw[if_neg q,if_neg q]
 ·rw[if_neg f6,if_pos (by simpa using f6)];rfl
theorem Alq (b:List UInt8)(p w lo hi:Nat):Aay b (p,w,lo,hi)=false↔Gla.within lo hi (Gla.num b p w)=true:=by
 unfold Aay Gla.within;simp only[];rw[Bool.or_eq_false_iff,Bool.and_eq_true,decide_eq_false_iff_not,decide_eq_false_iff_not,decide_eq_true_eq,decide_eq_true_eq];lia
theorem Azv (b:List UInt8):(match brk b with | some e=>Ak0 e | none=>match (Gla.parts b).fault with | some e=>fl e | none=>[])=(match Gla.judgePlan b with | .error e=>fl e | .ok _=>[]):=by
 unfold brk Gla.judgePlan;have hd:Gla.HEAD=20:=rfl;rw[hd]
 by_cases h1:b.length<20
 ·rw[if_pos h1,if_pos h1];rfl
 rw[if_neg h1,if_neg h1]
 by_cases h2:b.take 4≠Gla.MAGIC
 ·rw[if_pos h2,if_pos h2];rfl
 rw[if_neg h2,if_neg h2];have nn:∀(n:Nat×Nat×Nat×Nat) (l:List (Nat×Nat×Nat×Nat)),(n::l).find? (Aay b)=if Aay b n=true then some n else l.find? (Aay b):=fun n l=>by
  rw[List.find?_cons];cases Aay b n<;>rfl
 unfold headN;have go:∀(p w lo hi:Nat),Aay b (p,w,lo,hi) = !(Gla.within lo hi (Gla.num b p w)):=fun p w lo hi=>by
  have:=Alq b p w lo hi;cases q:Aay b (p,w,lo,hi) with
  | false=>rw[this.1 q];rfl
  | true =>
   cases q2:Gla.within lo hi (Gla.num b p w) with
   | false=>rfl
   | true=>rw[this.2 q2]at q;cases q
 simp only[nn,go,List.find?_nil];have w1:Gla.within 16 1048575 (Gla.num b 4 4)=Gla.within Gla.SMALLEST Gla.LARGEST (Gla.num b 4 4):=rfl;have w2:Gla.within 16 1048575 (Gla.num b 8 4)=Gla.within Gla.SMALLEST Gla.LARGEST (Gla.num b 8 4):=rfl;have w3:Gla.within 4 4096 (Gla.num b 12 2)=Gla.within 4 Gla.POINTS (Gla.num b 12 2):=rfl;have w4:Gla.within 4 8192 (Gla.num b 14 2)=Gla.within 4 Gla.LINES (Gla.num b 14 2):=rfl
 have w5:Gla.within 1 2048 (Gla.num b 16 2)=Gla.within 1 Gla.MARKS (Gla.num b 16 2):=rfl;rw[w1,w2,w3,w4,w5];cases Gla.within Gla.SMALLEST Gla.LARGEST (Gla.num b 4 4) with
 | false=>rfl
 | true =>
 cases Gla.within Gla.SMALLEST Gla.LARGEST (Gla.num b 8 4) with
 | false=>rfl
 | true =>
 cases Gla.within 4 Gla.POINTS (Gla.num b 12 2) with
 | false=>rfl
 | true =>
 cases Gla.within 4 Gla.LINES (Gla.num b 14 2) with
 | false=>rfl
 | true =>
 cases Gla.within 1 Gla.MARKS (Gla.num b 16 2) with
 | false=>rfl
 | true =>
 have w6:Gla.within 0 0 (Gla.num b 18 2)=decide (Gla.num b 18 2=0):=by
  unfold Gla.within;rw[Bool.eq_iff_iff];simp
 rw[w6]
 by_cases h8:Gla.num b 18 2=0
 ·simp only[h8,decide_true,Bool.not_true,Bool.false_eq_true,if_false,ne_eq,not_true_eq_false];have tl:told b=20+8*Gla.num b 12 2+4*Gla.num b 14 2+12*Gla.num b 16 2:=rfl;rw[←tl]
  by_cases h9:b.length=told b
  ·simp only[h9,not_true_eq_false,if_false];cases (Gla.parts b).fault<;>rfl
  ·simp only[h9,not_false_eq_true,if_true];rfl
 ·simp only[h8,decide_false,Bool.not_false,Bool.not_true,Bool.false_eq_true,if_false,if_true,ne_eq,not_false_eq_true];rfl
theorem Are {b:List UInt8}(h:brk b=none):As2 (Gla.parts b):=by
 unfold brk at h
 by_cases h1:b.length<20
 ·rw[if_pos h1]at h;cases h
 rw[if_neg h1]at h
 by_cases h2:b.take 4≠Gla.MAGIC
 ·rw[if_pos h2]at h;cases h
 rw[if_neg h2]at h;cases q:headN.find? (Aay b) with
 | some n=>rw[q]at h;cases h
 | none =>
  rw[List.find?_eq_none]at q;have g:=fun n hn=>q n hn;have g1:=g (12,2,4,4096) (by decide);have g2:=g (4,4,16,1048575) (by decide);have g3:=g (8,4,16,1048575) (by decide);simp[Aay]at g1 g2 g3;refine⟨?_,?_,?_,?_,?_⟩
  ·show 16≤Gla.num b 4 4;lia
  ·show Gla.num b 4 4≤1048575;lia
  ·show 16≤Gla.num b 8 4;lia
  ·show Gla.num b 8 4≤1048575;lia
  ·show 4≤((List.range (Gla.num b 12 2)).map _).length;rw[List.length_map,List.length_range];lia
theorem Arn {b:List UInt8}(h:b.length≤131072):Aot Ad3 rfP b=(match Gla.judgePlan b with | .error e=>fl e | .ok _=>[]):=by
 rw[←Azv];unfold Aot;rw[if_neg (by lia)];cases brk b with
 | some e=>rfl
 | none=>exact Au5 (Gla.parts b)
theorem Ato {b:List UInt8}{S:Plan}(h:Gla.judgePlan b=.ok S):S=Gla.parts b:=by
 unfold Gla.judgePlan at h
 split at h
 ·cases h
 split at h
 ·cases h
 split at h
 ·cases h
 split at h
 ·cases h
 split at h
 ·cases h
 split at h
 ·cases h
 split at h
 ·cases h
 split at h
 ·cases h
 split at h
 ·cases h
 split at h
 ·cases h
 ·injection h with h;exact h.symm
end Gc
end
section
namespace Gc
open PySem PySem.Spec PyProof.Rows L2
theorem us1:∀{us:List Value},us.length=1→∃a0,us=[a0]
 | [a0],_=>⟨a0,rfl⟩
theorem us2:∀{us:List Value},us.length=2→∃a0 a1,us=[a0,a1]
 | [a0,a1],_=>⟨a0,a1,rfl⟩
theorem us3:∀{us:List Value},us.length=3→∃a0 a1 a2,us=[a0,a1,a2]
 | [a0,a1,a2],_=>⟨a0,a1,a2,rfl⟩
theorem us4:∀{us:List Value},us.length=4→∃a0 a1 a2 a3,us=[a0,a1,a2,a3]
 | [a0,a1,a2,a3],_=>⟨a0,a1,a2,a3,rfl⟩
theorem us5:∀{us:List Value},us.length=5→∃a0 a1 a2 a3 a4,us=[a0,a1,a2,a3,a4]
 | [a0,a1,a2,a3,a4],_=>⟨a0,a1,a2,a3,a4,rfl⟩
theorem us6:∀{us:List Value},us.length=6→∃a0 a1 a2 a3 a4 a5,us=[a0,a1,a2,a3,a4,a5]
 | [a0,a1,a2,a3,a4,a5],_=>⟨a0,a1,a2,a3,a4,a5,rfl⟩
def DefIn (K:W.Frag)(x:Str)(st:Stmt):Prop:=∃(f:Addr) (oc:Value) (od:Option Addr) (kV dc pm:Value) (an:Option Addr) (cd ct:Value) (sl:Array (Option Value)),
 W.nsIn K mainGlobals x=some (some (.ref f))∧K.lookup f=some ⟨oc,od,.func (W.fnOf x x (Acq st) (Acb st) (Aa7 st) .none kV dc pm an cd ct),sl⟩∧W.codeIn K cd x=true∧W.keepIn K (.ref f)=true
def MethIn (K:W.Frag)(C:Addr)(m q:Str)(st:Stmt):Prop:=∃(f:Addr) (oc:Value) (od:Option Addr) (kV dc pm:Value) (an:Option Addr) (cd ct:Value) (sl:Array (Option Value)),
 W.findIn K (.ref C) m=some (some (.ref f))∧W.isFn K (.ref f)=true∧K.lookup f=some ⟨oc,od,.func (W.fnOf m q (Acq st) (Acb st) (Aa7 st) .none kV dc pm an cd ct),sl⟩∧W.codeIn K cd q=true∧W.keepIn K (.ref f)=true
structure ClsIn (K:W.Frag)(x:Str)(C:Addr):Prop where
 at_:W.nsIn K mainGlobals x=some (some (.ref C))
 pg:W.plainGet K C Str.empty=true
 hd:W.hasDictIn K C=true
 po:W.plainOver K C=true
 sa:W.findIn K (.ref C) "__setattr__" = some (some (.builtin "object.__setattr__"))
 makes:W.makesIn K C=true
 kp:W.keepIn K (.ref C)=true
def TupV (K:W.Frag)(a:Addr)(us:List Value):Prop:=∃(od:Option Addr) (n:Nat) (sl:Array (Option Value)),K.lookup a=some ⟨.type "tuple",od,.seq us.toArray n,sl⟩
def IntTup (K:W.Frag)(a:Addr)(ns:List Int):Prop:=∃ts:List Tok,ts.length=ns.length∧TupV K a (ns.zipWith (fun n t=>Value.int n t) ts)
def TabIn (K:W.Frag)(x:Str)(ns:List Int):Prop:=∃a,W.nsIn K mainGlobals x=some (some (.ref a))∧IntTup K a ns
def LookTup (K:W.Frag)(c:Addr)(n:Int)(x:Str):Prop:=∃(f:Addr) (t:Tok),TupV K c [.int n t,.ref f]∧W.nsIn K mainGlobals x=some (some (.ref f))
section
variable {K:W.Frag}{mg:Str→Option Value}{h:Heap}
theorem Adj {x:Str}(X:K.In h)(G:h.Ns mainGlobals mg)(e:W.nsIn K mainGlobals x=some none):mg x=none:=W.mg_none_of X G e
theorem DefIn.def {x:Str}{st:Stmt}{ps:List Str}(D:DefIn K x st)(X:K.In h)(G:h.Ns mainGlobals mg)
 (hb:∀(kV doc pm:Value) (an:Option Addr) (cdv ct:Value) (us:List Value),us.length=ps.length→bindArgs (W.fnOf x x (Acq st) (Acb st) (Aa7 st) .none kV doc pm an cdv ct) ⟨us,[]⟩=pure (ps.zip us)):∃f fd,Def K mg x st ps f fd:=by
 obtain⟨f,oc,od,kV,dc,pm,an,cd,ct,sl,a,l,c,k⟩:=D;have F:=Arj (st:=st) l c k;exact⟨f,_,F,W.mg_of X G a,F.binds hb⟩
theorem MethIn.meth {C:Addr}{m q:Str}{st:Stmt}{ps:List Str}(D:MethIn K C m q st)
 (hb:∀(kV doc pm:Value) (an:Option Addr) (cdv ct:Value) (us:List Value),us.length=ps.length→bindArgs (W.fnOf m q (Acq st) (Acb st) (Aa7 st) .none kV doc pm an cdv ct) ⟨us,[]⟩=pure (ps.zip us)):∃f fd,Fun K m q st f fd∧Binds K fd ps []∧Ahe K C m f:=by
 obtain⟨f,oc,od,kV,dc,pm,an,cd,ct,sl,a,i,l,c,k⟩:=D;have F:=Arj (st:=st) l c k;exact⟨f,_,F,F.binds hb,a,i,k⟩
theorem ClsIn.cls {x:Str}{C:Addr}(c:ClsIn K x C):Cls K C:=⟨c.pg,c.hd,c.po,c.sa⟩
theorem ClsIn.mgC {x:Str}{C:Addr}(c:ClsIn K x C)(X:K.In h)(G:h.Ns mainGlobals mg):mg x=some (.ref C):=W.mg_of X G c.at_
theorem TupV.sq {a:Addr}{us:List Value}{vs:List V}(t:TupV K a us)(H:Hp)(r:Vals vs us)(n:us.length≤100):SqT K H a vs:=by
 obtain⟨od,n',sl,e⟩:=t;exact .inr ⟨_,_,n',e,rfl,rfl,by rw[List.size_toArray];exact Nat.le_trans n (by decide),r⟩
theorem Am7:∀(ns:List Int) (ts:List Tok),ts.length=ns.length→Vals (ns.map V.int) (ns.zipWith (fun n t=>Value.int n t) ts)
 | [],[],_=>.nil
 | n::ns,t::ts,h=>.cons ⟨t,rfl⟩ (Am7 ns ts (by simpa using h))
 | [],_::_,h=>by simp at h
 | _::_,[],h=>by simp at h
theorem IntTup.sq {a:Addr}{ns:List Int}(t:IntTup K a ns)(H:Hp)(n:ns.length≤100:=by decide):SqT K H a (ns.map V.int):=by
 obtain⟨ts,l,t⟩:=t;exact TupV.sq t H (Am7 ns ts l) (by rw[List.length_zipWith,l,Nat.min_self];exact n)
theorem TabIn.tab {x:Str}{ns:List Int}(t:TabIn K x ns)(X:K.In h)(G:h.Ns mainGlobals mg)(n:ns.length≤100:=by decide):Tab K mg x ns:=by
 obtain⟨a,e,t⟩:=t;exact⟨a,W.mg_of X G e,fun H=>t.sq H n⟩
theorem LookTup.sq {c f:Addr}{n:Int}{x:Str}(t:LookTup K c n x)(X:K.In h)(G:h.Ns mainGlobals mg)(hf:mg x=some (.ref f))(H:Hp):SqT K H c [.int n,.ref f]:=by
 obtain⟨f',tk,t,e⟩:=t;have:=hf.symm.trans (W.mg_of X G e);cases this;exact t.sq H (.cons ⟨tk,rfl⟩ (.cons rfl .nil)) (by show 2≤100;decide)
end
end Gc
end
section
namespace Gc
open PySem PySem.Spec PyProof.Rows L2
open Gla (Pt Plan Mark)
structure Src (K:W.Frag)(C CV:Addr):Prop where
 d_number_at:DefIn K "number_at" As5
 d_numbers_at:DefIn K "numbers_at" Ail
 d_things_at:DefIn K "things_at" Aeh
 d_head_of:DefIn K "head_of" Adq
 d_bytes_told:DefIn K "bytes_told" Apt
 d_read_drawing:DefIn K "read_drawing" Ask
 d_turn_of:DefIn K "turn_of" Ack
 d_by_height:DefIn K "by_height" sBy
 d_comes_behind:DefIn K "comes_behind" Afy
 d_is_on:DefIn K "is_on" Ajw
 d_parts:DefIn K "parts" Afv
 d_crosses:DefIn K "crosses" Aho
 d_twice_area:DefIn K "twice_area" Apv
 d_is_right_of:DefIn K "is_right_of" Ahm
 d_holds:DefIn K "holds" Ajy
 d_links_of:DefIn K "links_of" Adn
 d_reached:DefIn K "reached" Ahn
 d_leftward:DefIn K "leftward" Ala
 d_ring_of:DefIn K "ring_of" Al7
 d_steps_behind:DefIn K "steps_behind" Ajv
 d_walk:DefIn K "walk" Aps
 d_corners_of:DefIn K "corners_of" Ans
 d_outlines_of:DefIn K "outlines_of" Asm
 d_holder_of:DefIn K "holder_of" Asp
 d_is_too_long:DefIn K "is_too_long" Aso
 d_broken_head:DefIn K "broken_head" Asq
 d_wrong_point:DefIn K "wrong_point" Ba5
 d_wrong_line:DefIn K "wrong_line" Ba7
 d_edges_of:DefIn K "edges_of" Ajz
 d_open_frame:DefIn K "open_frame" Asn
 d_has_point_on:DefIn K "has_point_on" Apu
 d_crosses_one_before:DefIn K "crosses_one_before" Ayq
 d_crossed_line:DefIn K "crossed_line" Baa
 d_loose_point:DefIn K "loose_point" Amg
 d_cut_off_point:DefIn K "cut_off_point" Ba9
 d_parting_point:DefIn K "parting_point" Asl
 d_is_on_some_line:DefIn K "is_on_some_line" Afw
 d_wrong_mark:DefIn K "wrong_mark" Ba6
 d_broken_drawing:DefIn K "broken_drawing" Ass
 d_refused:DefIn K "refused" Ba8
 d_judge_panes:DefIn K "judge_panes" sJP
 d_examine:DefIn K "examine" Asr
 cD:ClsIn K "Drawing" C
 cV:ClsIn K "Verdict" CV
 mD_init:MethIn K C "__init__" "Drawing.__init__" Ajx
 mD_point_place:MethIn K C "point_place" "Drawing.point_place" Agy
 mD_line_place:MethIn K C "line_place" "Drawing.line_place" Aim
 mD_mark_place:MethIn K C "mark_place" "Drawing.mark_place" Al9
 mV_init:MethIn K CV "__init__" "Verdict.__init__" Afx
 nD_width:NoAttr K C "width"
 nD_height:NoAttr K C "height"
 nD_points:NoAttr K C "points"
 nD_lines:NoAttr K C "lines"
 nD_marks:NoAttr K C "marks"
 nV_refusal:NoAttr K CV "refusal"
 nV_drawing:NoAttr K CV "drawing"
 nV_panes:NoAttr K CV "panes"
 n_sum:W.nsIn K mainGlobals "sum" = some none
 n_tuple:W.nsIn K mainGlobals "tuple" = some none
 n_range:W.nsIn K mainGlobals "range" = some none
 n_len:W.nsIn K mainGlobals "len" = some none
 n_min:W.nsIn K mainGlobals "min" = some none
 n_max:W.nsIn K mainGlobals "max" = some none
 n_enumerate:W.nsIn K mainGlobals "enumerate" = some none
 n_sorted:W.nsIn K mainGlobals "sorted" = some none
 c_head:∃t,W.nsIn K mainGlobals "HEAD_BYTES" = some (some (.int 20 t))
 c_most:∃t,W.nsIn K mainGlobals "MOST_BYTES" = some (some (.int 131072 t))
 t_LETTERS:TabIn K "LETTERS" [71,76,65,49]
 t_HEAD_SIZES:TabIn K "HEAD_SIZES" [4,4,2,2,2,2]
 t_POINT_SIZES:TabIn K "POINT_SIZES" [4,4]
 t_LINE_SIZES:TabIn K "LINE_SIZES" [2,2]
 t_MARK_SIZES:TabIn K "MARK_SIZES" [4,4,2,2]
 h_nums:∃a c0 c1 c2 c3 c4 c5:Addr,W.nsIn K mainGlobals "HEAD_NUMBERS" = some (some (.ref a))∧TupV K a [.ref c0,.ref c1,.ref c2,.ref c3,.ref c4,.ref c5]∧IntTup K c0 [4,4,16,1048575]∧IntTup K c1 [8,4,16,1048575]∧IntTup K c2 [12,2,4,4096]∧IntTup K c3 [14,2,4,8192]∧IntTup K c4 [16,2,1,2048]∧IntTup K c5 [18,2,0,0]
 h_rules:∃a c0 c1 c2 c3 c4 c5 c6 c7:Addr,W.nsIn K mainGlobals "DRAWING_RULES" = some (some (.ref a))∧TupV K a [.ref c0,.ref c1,.ref c2,.ref c3,.ref c4,.ref c5,.ref c6,.ref c7]∧LookTup K c0 4 "wrong_point"∧LookTup K c1 5 "wrong_line"∧LookTup K c2 6 "open_frame"∧LookTup K c3 7 "crossed_line"∧LookTup K c4 8 "loose_point"∧LookTup K c5 9 "cut_off_point"∧LookTup K c6 10 "parting_point"∧LookTup K c7 11 "wrong_mark"
section
variable {P:Program}{w:World}{K:W.Frag}{mg:Str→Option Value}{h base:Heap}{C CV:Addr}
theorem Src.cst (S:Src K C CV)(X:K.In h)(G:h.Ns mainGlobals mg):Cst K mg :=
 ⟨let ⟨t,e⟩:=S.c_head;⟨t,W.mg_of X G e⟩,S.t_LETTERS.tab X G,S.t_HEAD_SIZES.tab X G,S.t_POINT_SIZES.tab X G,S.t_LINE_SIZES.tab X G,S.t_MARK_SIZES.tab X G,Adj X G S.n_sum,Adj X G S.n_tuple⟩
theorem Src.tdraw (S:Src K C CV):Adl K C:=⟨S.cD.cls,S.nD_width,S.nD_height,S.nD_points,S.nD_lines,S.nD_marks⟩
theorem Src.tverd (S:Src K C CV):Am4 K CV:=⟨S.cV.cls,S.nV_refusal,S.nV_drawing,S.nV_panes⟩
theorem Src.f_number_at (S:Src K C CV)(X:K.In h)(G:h.Ns mainGlobals mg):∃f fd,Def K mg "number_at" As5 ["row","place","size"] f fd:=S.d_number_at.def X G fun _ _ _ _ _ _ us hl=>by obtain⟨_,_,_,rfl⟩:=us3 hl;rfl
theorem Src.f_numbers_at (S:Src K C CV)(X:K.In h)(G:h.Ns mainGlobals mg):∃f fd,Def K mg "numbers_at" Ail ["row","place","sizes"] f fd:=S.d_numbers_at.def X G fun _ _ _ _ _ _ us hl=>by obtain⟨_,_,_,rfl⟩:=us3 hl;rfl
theorem Src.f_things_at (S:Src K C CV)(X:K.In h)(G:h.Ns mainGlobals mg):∃f fd,Def K mg "things_at" Aeh ["row","place","many","sizes"] f fd:=S.d_things_at.def X G fun _ _ _ _ _ _ us hl=>by obtain⟨_,_,_,_,rfl⟩:=us4 hl;rfl
theorem Src.f_head_of (S:Src K C CV)(X:K.In h)(G:h.Ns mainGlobals mg):∃f fd,Def K mg "head_of" Adq ["row"] f fd:=S.d_head_of.def X G fun _ _ _ _ _ _ us hl=>by obtain⟨_,rfl⟩:=us1 hl;rfl
theorem Src.f_bytes_told (S:Src K C CV)(X:K.In h)(G:h.Ns mainGlobals mg):∃f fd,Def K mg "bytes_told" Apt ["row"] f fd:=S.d_bytes_told.def X G fun _ _ _ _ _ _ us hl=>by obtain⟨_,rfl⟩:=us1 hl;rfl
theorem Src.f_read_drawing (S:Src K C CV)(X:K.In h)(G:h.Ns mainGlobals mg):∃f fd,Def K mg "read_drawing" Ask ["row"] f fd:=S.d_read_drawing.def X G fun _ _ _ _ _ _ us hl=>by obtain⟨_,rfl⟩:=us1 hl;rfl
theorem Src.f_turn_of (S:Src K C CV)(X:K.In h)(G:h.Ns mainGlobals mg):∃f fd,Def K mg "turn_of" Ack ["p","q","r"] f fd:=S.d_turn_of.def X G fun _ _ _ _ _ _ us hl=>by obtain⟨_,_,_,rfl⟩:=us3 hl;rfl
theorem Src.f_by_height (S:Src K C CV)(X:K.In h)(G:h.Ns mainGlobals mg):∃f fd,Def K mg "by_height" sBy ["spot"] f fd:=S.d_by_height.def X G fun _ _ _ _ _ _ us hl=>by obtain⟨_,rfl⟩:=us1 hl;rfl
theorem Src.f_comes_behind (S:Src K C CV)(X:K.In h)(G:h.Ns mainGlobals mg):∃f fd,Def K mg "comes_behind" Afy ["q","p"] f fd:=S.d_comes_behind.def X G fun _ _ _ _ _ _ us hl=>by obtain⟨_,_,rfl⟩:=us2 hl;rfl
theorem Src.f_is_on (S:Src K C CV)(X:K.In h)(G:h.Ns mainGlobals mg):∃f fd,Def K mg "is_on" Ajw ["p","q","r"] f fd:=S.d_is_on.def X G fun _ _ _ _ _ _ us hl=>by obtain⟨_,_,_,rfl⟩:=us3 hl;rfl
theorem Src.f_parts (S:Src K C CV)(X:K.In h)(G:h.Ns mainGlobals mg):∃f fd,Def K mg "parts" Afv ["p","q","r","s"] f fd:=S.d_parts.def X G fun _ _ _ _ _ _ us hl=>by obtain⟨_,_,_,_,rfl⟩:=us4 hl;rfl
theorem Src.f_crosses (S:Src K C CV)(X:K.In h)(G:h.Ns mainGlobals mg):∃f fd,Def K mg "crosses" Aho ["p","q","r","s"] f fd:=S.d_crosses.def X G fun _ _ _ _ _ _ us hl=>by obtain⟨_,_,_,_,rfl⟩:=us4 hl;rfl
theorem Src.f_twice_area (S:Src K C CV)(X:K.In h)(G:h.Ns mainGlobals mg):∃f fd,Def K mg "twice_area" Apv ["corners"] f fd:=S.d_twice_area.def X G fun _ _ _ _ _ _ us hl=>by obtain⟨_,rfl⟩:=us1 hl;rfl
theorem Src.f_is_right_of (S:Src K C CV)(X:K.In h)(G:h.Ns mainGlobals mg):∃f fd,Def K mg "is_right_of" Ahm ["p","q","spot"] f fd:=S.d_is_right_of.def X G fun _ _ _ _ _ _ us hl=>by obtain⟨_,_,_,rfl⟩:=us3 hl;rfl
theorem Src.f_holds (S:Src K C CV)(X:K.In h)(G:h.Ns mainGlobals mg):∃f fd,Def K mg "holds" Ajy ["corners","spot"] f fd:=S.d_holds.def X G fun _ _ _ _ _ _ us hl=>by obtain⟨_,_,rfl⟩:=us2 hl;rfl
theorem Src.f_links_of (S:Src K C CV)(X:K.In h)(G:h.Ns mainGlobals mg):∃f fd,Def K mg "links_of" Adn ["drawing"] f fd:=S.d_links_of.def X G fun _ _ _ _ _ _ us hl=>by obtain⟨_,rfl⟩:=us1 hl;rfl
theorem Src.f_reached (S:Src K C CV)(X:K.In h)(G:h.Ns mainGlobals mg):∃f fd,Def K mg "reached" Ahn ["links","start","shut"] f fd:=S.d_reached.def X G fun _ _ _ _ _ _ us hl=>by obtain⟨_,_,_,rfl⟩:=us3 hl;rfl
theorem Src.f_leftward (S:Src K C CV)(X:K.In h)(G:h.Ns mainGlobals mg):∃f fd,Def K mg "leftward" Ala ["points","middle","numbers"] f fd:=S.d_leftward.def X G fun _ _ _ _ _ _ us hl=>by obtain⟨_,_,_,rfl⟩:=us3 hl;rfl
theorem Src.f_ring_of (S:Src K C CV)(X:K.In h)(G:h.Ns mainGlobals mg):∃f fd,Def K mg "ring_of" Al7 ["points","middle","numbers"] f fd:=S.d_ring_of.def X G fun _ _ _ _ _ _ us hl=>by obtain⟨_,_,_,rfl⟩:=us3 hl;rfl
theorem Src.f_steps_behind (S:Src K C CV)(X:K.In h)(G:h.Ns mainGlobals mg):∃f fd,Def K mg "steps_behind" Ajv ["drawing"] f fd:=S.d_steps_behind.def X G fun _ _ _ _ _ _ us hl=>by obtain⟨_,rfl⟩:=us1 hl;rfl
theorem Src.f_walk (S:Src K C CV)(X:K.In h)(G:h.Ns mainGlobals mg):∃f fd,Def K mg "walk" Aps ["follow","start","gone"] f fd:=S.d_walk.def X G fun _ _ _ _ _ _ us hl=>by obtain⟨_,_,_,rfl⟩:=us3 hl;rfl
theorem Src.f_corners_of (S:Src K C CV)(X:K.In h)(G:h.Ns mainGlobals mg):∃f fd,Def K mg "corners_of" Ans ["drawing","outline"] f fd:=S.d_corners_of.def X G fun _ _ _ _ _ _ us hl=>by obtain⟨_,_,rfl⟩:=us2 hl;rfl
theorem Src.f_outlines_of (S:Src K C CV)(X:K.In h)(G:h.Ns mainGlobals mg):∃f fd,Def K mg "outlines_of" Asm ["drawing"] f fd:=S.d_outlines_of.def X G fun _ _ _ _ _ _ us hl=>by obtain⟨_,rfl⟩:=us1 hl;rfl
theorem Src.f_holder_of (S:Src K C CV)(X:K.In h)(G:h.Ns mainGlobals mg):∃f fd,Def K mg "holder_of" Asp ["shapes","spot"] f fd:=S.d_holder_of.def X G fun _ _ _ _ _ _ us hl=>by obtain⟨_,_,rfl⟩:=us2 hl;rfl
theorem Src.f_is_too_long (S:Src K C CV)(X:K.In h)(G:h.Ns mainGlobals mg):∃f fd,Def K mg "is_too_long" Aso ["row"] f fd:=S.d_is_too_long.def X G fun _ _ _ _ _ _ us hl=>by obtain⟨_,rfl⟩:=us1 hl;rfl
theorem Src.f_broken_head (S:Src K C CV)(X:K.In h)(G:h.Ns mainGlobals mg):∃f fd,Def K mg "broken_head" Asq ["row"] f fd:=S.d_broken_head.def X G fun _ _ _ _ _ _ us hl=>by obtain⟨_,rfl⟩:=us1 hl;rfl
theorem Src.f_wrong_point (S:Src K C CV)(X:K.In h)(G:h.Ns mainGlobals mg):∃f fd,Def K mg "wrong_point" Ba5 ["drawing"] f fd:=S.d_wrong_point.def X G fun _ _ _ _ _ _ us hl=>by obtain⟨_,rfl⟩:=us1 hl;rfl
theorem Src.f_wrong_line (S:Src K C CV)(X:K.In h)(G:h.Ns mainGlobals mg):∃f fd,Def K mg "wrong_line" Ba7 ["drawing"] f fd:=S.d_wrong_line.def X G fun _ _ _ _ _ _ us hl=>by obtain⟨_,rfl⟩:=us1 hl;rfl
theorem Src.f_edges_of (S:Src K C CV)(X:K.In h)(G:h.Ns mainGlobals mg):∃f fd,Def K mg "edges_of" Ajz ["drawing"] f fd:=S.d_edges_of.def X G fun _ _ _ _ _ _ us hl=>by obtain⟨_,rfl⟩:=us1 hl;rfl
theorem Src.f_open_frame (S:Src K C CV)(X:K.In h)(G:h.Ns mainGlobals mg):∃f fd,Def K mg "open_frame" Asn ["drawing"] f fd:=S.d_open_frame.def X G fun _ _ _ _ _ _ us hl=>by obtain⟨_,rfl⟩:=us1 hl;rfl
theorem Src.f_has_point_on (S:Src K C CV)(X:K.In h)(G:h.Ns mainGlobals mg):∃f fd,Def K mg "has_point_on" Apu ["drawing","line"] f fd:=S.d_has_point_on.def X G fun _ _ _ _ _ _ us hl=>by obtain⟨_,_,rfl⟩:=us2 hl;rfl
theorem Src.f_crosses_one_before (S:Src K C CV)(X:K.In h)(G:h.Ns mainGlobals mg):∃f fd,Def K mg "crosses_one_before" Ayq ["drawing","number"] f fd:=S.d_crosses_one_before.def X G fun _ _ _ _ _ _ us hl=>by obtain⟨_,_,rfl⟩:=us2 hl;rfl
theorem Src.f_crossed_line (S:Src K C CV)(X:K.In h)(G:h.Ns mainGlobals mg):∃f fd,Def K mg "crossed_line" Baa ["drawing"] f fd:=S.d_crossed_line.def X G fun _ _ _ _ _ _ us hl=>by obtain⟨_,rfl⟩:=us1 hl;rfl
theorem Src.f_loose_point (S:Src K C CV)(X:K.In h)(G:h.Ns mainGlobals mg):∃f fd,Def K mg "loose_point" Amg ["drawing"] f fd:=S.d_loose_point.def X G fun _ _ _ _ _ _ us hl=>by obtain⟨_,rfl⟩:=us1 hl;rfl
theorem Src.f_cut_off_point (S:Src K C CV)(X:K.In h)(G:h.Ns mainGlobals mg):∃f fd,Def K mg "cut_off_point" Ba9 ["drawing"] f fd:=S.d_cut_off_point.def X G fun _ _ _ _ _ _ us hl=>by obtain⟨_,rfl⟩:=us1 hl;rfl
theorem Src.f_parting_point (S:Src K C CV)(X:K.In h)(G:h.Ns mainGlobals mg):∃f fd,Def K mg "parting_point" Asl ["drawing"] f fd:=S.d_parting_point.def X G fun _ _ _ _ _ _ us hl=>by obtain⟨_,rfl⟩:=us1 hl;rfl
theorem Src.f_is_on_some_line (S:Src K C CV)(X:K.In h)(G:h.Ns mainGlobals mg):∃f fd,Def K mg "is_on_some_line" Afw ["drawing","spot"] f fd:=S.d_is_on_some_line.def X G fun _ _ _ _ _ _ us hl=>by obtain⟨_,_,rfl⟩:=us2 hl;rfl
theorem Src.f_wrong_mark (S:Src K C CV)(X:K.In h)(G:h.Ns mainGlobals mg):∃f fd,Def K mg "wrong_mark" Ba6 ["drawing"] f fd:=S.d_wrong_mark.def X G fun _ _ _ _ _ _ us hl=>by obtain⟨_,rfl⟩:=us1 hl;rfl
theorem Src.f_broken_drawing (S:Src K C CV)(X:K.In h)(G:h.Ns mainGlobals mg):∃f fd,Def K mg "broken_drawing" Ass ["drawing"] f fd:=S.d_broken_drawing.def X G fun _ _ _ _ _ _ us hl=>by obtain⟨_,rfl⟩:=us1 hl;rfl
theorem Src.f_refused (S:Src K C CV)(X:K.In h)(G:h.Ns mainGlobals mg):∃f fd,Def K mg "refused" Ba8 ["rule","place"] f fd:=S.d_refused.def X G fun _ _ _ _ _ _ us hl=>by obtain⟨_,_,rfl⟩:=us2 hl;rfl
theorem Src.f_judge_panes (S:Src K C CV)(X:K.In h)(G:h.Ns mainGlobals mg):∃f fd,Def K mg "judge_panes" sJP ["drawing"] f fd:=S.d_judge_panes.def X G fun _ _ _ _ _ _ us hl=>by obtain⟨_,rfl⟩:=us1 hl;rfl
theorem Src.f_examine (S:Src K C CV)(X:K.In h)(G:h.Ns mainGlobals mg):∃f fd,Def K mg "examine" Asr ["row"] f fd:=S.d_examine.def X G fun _ _ _ _ _ _ us hl=>by obtain⟨_,rfl⟩:=us1 hl;rfl
theorem Src.m_init (S:Src K C CV):∃f fd,Fun K "__init__" "Drawing.__init__" Ajx f fd∧Binds K fd ["self","width","height","points","lines","marks"] []∧Ahe K C "__init__" f:=S.mD_init.meth fun _ _ _ _ _ _ us hl=>by obtain⟨_,_,_,_,_,_,rfl⟩:=us6 hl;rfl
theorem Src.m_point_place (S:Src K C CV):∃f fd,Fun K "point_place" "Drawing.point_place" Agy f fd∧Binds K fd ["self","number"] []∧Ahe K C "point_place" f:=S.mD_point_place.meth fun _ _ _ _ _ _ us hl=>by obtain⟨_,_,rfl⟩:=us2 hl;rfl
theorem Src.m_line_place (S:Src K C CV):∃f fd,Fun K "line_place" "Drawing.line_place" Aim f fd∧Binds K fd ["self","number"] []∧Ahe K C "line_place" f:=S.mD_line_place.meth fun _ _ _ _ _ _ us hl=>by obtain⟨_,_,rfl⟩:=us2 hl;rfl
theorem Src.m_mark_place (S:Src K C CV):∃f fd,Fun K "mark_place" "Drawing.mark_place" Al9 f fd∧Binds K fd ["self","number"] []∧Ahe K C "mark_place" f:=S.mD_mark_place.meth fun _ _ _ _ _ _ us hl=>by obtain⟨_,_,rfl⟩:=us2 hl;rfl
theorem Src.m_initV (S:Src K C CV):∃f fd,Fun K "__init__" "Verdict.__init__" Afx f fd∧Binds K fd ["self","refusal","drawing","panes"] []∧Ahe K CV "__init__" f:=S.mV_init.meth fun _ _ _ _ _ _ us hl=>by obtain⟨_,_,_,_,rfl⟩:=us4 hl;rfl
theorem Src.tmeth (S:Src K C CV)(X:K.In h)(G:h.Ns mainGlobals mg):∃fP fL fM fdP fdL fdM,TMeth K mg C fP fL fM fdP fdL fdM:=by
 obtain⟨fP,fdP,FP,bP,mP⟩:=S.m_point_place;obtain⟨fL,fdL,FL,bL,mL⟩:=S.m_line_place;obtain⟨fM,fdM,FM,bM,mM⟩:=S.m_mark_place;exact⟨fP,fL,fM,fdP,fdL,fdM,FP,bP,mP,FL,bL,mL,FM,bM,mM,S.tdraw,S.cst X G,Adj X G S.n_len⟩
theorem Src.thead (S:Src K C CV)(X:K.In h)(G:h.Ns mainGlobals mg):∃aH hs,THead K mg aH hs:=by
 obtain⟨a,c0,c1,c2,c3,c4,c5,e,t,t0,t1,t2,t3,t4,t5⟩:=S.h_nums;refine⟨a,[c0,c1,c2,c3,c4,c5],W.mg_of X G e,fun H=>t.sq H (vs:=[.ref c0,.ref c1,.ref c2,.ref c3,.ref c4,.ref c5]) (.cons rfl (.cons rfl (.cons rfl (.cons rfl (.cons rfl (.cons rfl .nil)))))) (by show 6≤100;decide),rfl,fun i c hc=>?_⟩
 match i,hc with
 | 0,hc=>cases hc;exact⟨_,rfl,fun H=>t0.sq H⟩
 | 1,hc=>cases hc;exact⟨_,rfl,fun H=>t1.sq H⟩
 | 2,hc=>cases hc;exact⟨_,rfl,fun H=>t2.sq H⟩
 | 3,hc=>cases hc;exact⟨_,rfl,fun H=>t3.sq H⟩
 | 4,hc=>cases hc;exact⟨_,rfl,fun H=>t4.sq H⟩
 | 5,hc=>cases hc;exact⟨_,rfl,fun H=>t5.sq H⟩
 | n+6,hc=>simp at hc
theorem Src.comesB (S:Src K C CV)(X:K.In h)(G:h.Ns mainGlobals mg):∃f fd,DefB K mg f fd:=let ⟨f,fd,F⟩:=S.f_comes_behind X G;⟨f,fd,F,S.f_by_height X G⟩
def KnL (P:Program)(w:World)(K:W.Frag)(mg:Str→Option Value)(base:Heap)(f:Addr)(sp:Sp):Prop:=∃fd k',k'≤5∧FnOk P w K mg base CX0 k' f fd ["drawing"] sp∧W.keepIn K (.ref f)=true∧Binds K fd ["drawing"] []
theorem Src.tlooks (S:Src K C CV)(X:K.In h)(G:h.Ns mainGlobals mg):∃aD rs,Avj K mg (KnL P w K mg base) C aD rs Ad3:=by
 obtain⟨fP,fL,fM,fdP,fdL,fdM,M⟩:=S.tmeth X G;have ne:=Adj X G S.n_enumerate;have nr:=Adj X G S.n_range;have nmin:=Adj X G S.n_min;have nmax:=Adj X G S.n_max;have T:=S.tdraw;obtain⟨_,_,B⟩:=S.comesB X G;obtain⟨_,_,fT⟩:=S.f_turn_of X G;obtain⟨_,_,fO⟩:=S.f_is_on X G;obtain⟨_,_,fX⟩:=S.f_crosses X G;obtain⟨_,_,fQ⟩:=S.f_parts X G;obtain⟨_,_,fHP⟩:=S.f_has_point_on X G;obtain⟨_,_,fCB⟩:=S.f_crosses_one_before X G
 obtain⟨_,_,fK⟩:=S.f_links_of X G;obtain⟨_,_,fR⟩:=S.f_reached X G;obtain⟨_,_,fE⟩:=S.f_edges_of X G;obtain⟨_,_,fS⟩:=S.f_is_on_some_line X G;obtain⟨g0,gd0,F0⟩:=S.f_wrong_point X G;obtain⟨g1,gd1,F1⟩:=S.f_wrong_line X G;obtain⟨g2,gd2,F2⟩:=S.f_open_frame X G;obtain⟨g3,gd3,F3⟩:=S.f_crossed_line X G;obtain⟨g4,gd4,F4⟩:=S.f_loose_point X G;obtain⟨g5,gd5,F5⟩:=S.f_cut_off_point X G;obtain⟨g6,gd6,F6⟩:=S.f_parting_point X G
 obtain⟨g7,gd7,F7⟩:=S.f_wrong_mark X G;obtain⟨a,c0,c1,c2,c3,c4,c5,c6,c7,e,t,t0,t1,t2,t3,t4,t5,t6,t7⟩:=S.h_rules;refine⟨a,[c0,c1,c2,c3,c4,c5,c6,c7],W.mg_of X G e,fun H=>t.sq H (vs:=[.ref c0,.ref c1,.ref c2,.ref c3,.ref c4,.ref c5,.ref c6,.ref c7]) (.cons rfl (.cons rfl (.cons rfl (.cons rfl (.cons rfl (.cons rfl (.cons rfl (.cons rfl .nil)))))))) (by show 8≤100;decide),rfl,fun i c hc=>?_⟩
 match i,hc with
 | 0,hc=>cases hc;exact⟨_,g0,rfl,⟨gd0,3,by decide,Az6 F0 B M ne,F0.fn.kp,F0.b⟩,fun H=>t0.sq X G F0.mgf H⟩
 | 1,hc=>cases hc;exact⟨_,g1,rfl,⟨gd1,3,by decide,Az8 F1 M ne,F1.fn.kp,F1.b⟩,fun H=>t1.sq X G F1.mgf H⟩
 | 2,hc=>cases hc;exact⟨_,g2,rfl,⟨gd2,2,by decide,Awo F2 fE M ne nr,F2.fn.kp,F2.b⟩,fun H=>t2.sq X G F2.mgf H⟩
 | 3,hc=>cases hc;exact⟨_,g3,rfl,⟨gd3,5,by decide,Azc F3 fHP fCB fO fX fQ fT M nmin nmax nr ne,F3.fn.kp,F3.b⟩,fun H=>t3.sq X G F3.mgf H⟩
 | 4,hc=>cases hc;exact⟨_,g4,rfl,⟨gd4,2,by decide,Atb F4 fK M ne,F4.fn.kp,F4.b⟩,fun H=>t4.sq X G F4.mgf H⟩
 | 5,hc=>cases hc;exact⟨_,g5,rfl,⟨gd5,2,by decide,Azb F5 fR fK M nr,F5.fn.kp,F5.b⟩,fun H=>t5.sq X G F5.mgf H⟩
 | 6,hc=>cases hc;exact⟨_,g6,rfl,⟨gd6,2,by decide,Awm F6 fR fK M nr,F6.fn.kp,F6.b⟩,fun H=>t6.sq X G F6.mgf H⟩
 | 7,hc=>cases hc;exact⟨_,g7,rfl,⟨gd7,4,by decide,Az7 F7 B fS fO fT M nmin nmax ne,F7.fn.kp,F7.b⟩,fun H=>t7.sq X G F7.mgf H⟩
 | n+8,hc=>simp at hc
theorem Src.exam (S:Src K C CV)(X:K.In h)(G:h.Ns mainGlobals mg):∃f fd,Kwn P w K mg base 7 "examine" ["row"] (Apm K CV (Aot Ad3 rfP) fun H b dr pn=>Ajh C H (Gla.parts b) dr pn) f fd:=by
 obtain⟨fP,fL,fM,fdP,fdL,fdM,M⟩:=S.tmeth X G;have ne:=Adj X G S.n_enumerate;have nr:=Adj X G S.n_range;have nl:=Adj X G S.n_len;have ns:=Adj X G S.n_sorted;have c:=S.cst X G;have T:=S.tdraw;obtain⟨_,_,fT⟩:=S.f_turn_of X G;obtain⟨_,_,fN⟩:=S.f_number_at X G;obtain⟨_,_,fNs⟩:=S.f_numbers_at X G;obtain⟨_,_,fTh⟩:=S.f_things_at X G;obtain⟨_,_,fHo⟩:=S.f_head_of X G;obtain⟨_,_,fTo⟩:=S.f_bytes_told X G
 obtain⟨_,_,fK⟩:=S.f_links_of X G;obtain⟨_,_,fG⟩:=S.f_ring_of X G;obtain⟨_,_,fF⟩:=S.f_leftward X G;obtain⟨_,_,fSt⟩:=S.f_steps_behind X G;obtain⟨_,_,fW⟩:=S.f_walk X G;obtain⟨_,_,fA⟩:=S.f_twice_area X G;obtain⟨_,_,fC⟩:=S.f_corners_of X G;obtain⟨_,_,fOu⟩:=S.f_outlines_of X G;obtain⟨_,_,fH⟩:=S.f_holder_of X G;obtain⟨_,_,fHs⟩:=S.f_holds X G;obtain⟨_,_,fRt⟩:=S.f_is_right_of X G;obtain⟨_,_,fBh⟩:=S.f_broken_head X G
 obtain⟨_,_,fRf⟩:=S.f_refused X G;obtain⟨_,_,fRd⟩:=S.f_read_drawing X G;obtain⟨_,_,fBd⟩:=S.f_broken_drawing X G;obtain⟨_,_,fJ⟩:=S.f_judge_panes X G;obtain⟨_,_,fL'⟩:=S.f_is_too_long X G;obtain⟨_,_,fE⟩:=S.f_examine X G;obtain⟨_,_,FI,bI,mI⟩:=S.m_init;obtain⟨_,_,FV,bV,mV⟩:=S.m_initV;obtain⟨aH,hs,TH⟩:=S.thead X G;obtain⟨aD,rs,TL⟩:=S.tlooks (P:=P) (w:=w) (base:=base) X G;have MD:Mk K C _:=⟨S.cD.makes,mI.at_,mI.fn,S.cD.kp⟩
 have MV:Mk K CV _:=⟨S.cV.makes,mV.at_,mV.fn,S.cV.kp⟩
 have mgD:=S.cD.mgC X G;have mgV:=S.cV.mgC X G;have kH:Kwn P w K mg base 6 "broken_head" ["row"] (Apl K) _ _:=⟨(Awt fBh fTo fHo fNs fN TH nr nl c).mono (by decide),fBh.mgf,fBh.fn.kp,fBh.b⟩
 have kX:Kwn P w K mg base 6 "refused" ["rule","place"] (Apa CV) _ _:=⟨(Av4 fRf FV bV MV mgV S.tverd).mono (by decide),fRf.mgf,fRf.fn.kp,fRf.b⟩
 have kX5:Kwn P w K mg base 5 "refused" ["rule","place"] (Apa CV) _ _:=⟨(Av4 fRf FV bV MV mgV S.tverd).mono (by decide),fRf.mgf,fRf.fn.kp,fRf.b⟩
 have kR:Kwn P w K mg base 6 "read_drawing" ["row"] (Apb K C) _ _:=⟨(Awl fRd fTh fHo fNs fN FI bI MD mgD T M.FM M.bM M.mM M.FL M.bL M.mL M.FP M.bP M.mP nr nl c).mono (by decide),fRd.mgf,fRd.fn.kp,fRd.b⟩
 have kB:Kwn P w K mg base 6 "broken_drawing" ["drawing"] (App C Ad3) _ _:=⟨Aww (KnL P w K mg base) (fun _ _ h=>h) fBd TL,fBd.mgf,fBd.fn.kp,fBd.b⟩
 have kO:Kwn P w K mg base 5 "outlines_of" ["drawing"] (Apd C) _ _:=⟨Awn fOu fSt fW fA fC fK fG fF fT T nl ne ns,fOu.mgf,fOu.fn.kp,fOu.b⟩
 have kC:Kwn P w K mg base 5 "corners_of" ["drawing","outline"] (Ajr C) _ _:=⟨(Aqh fC T).mono (by decide),fC.mgf,fC.fn.kp,fC.b⟩
 have kHo:Kwn P w K mg base 5 "holder_of" ["shapes","spot"] Apk _ _:=⟨(Aws fH fHs fRt fT ne).mono (by decide),fH.mgf,fH.fn.kp,fH.b⟩
 have kP:Kwn P w K mg base 6 "judge_panes" ["drawing"] (Al4 C CV Aum rfP (Ajh C)) _ _:=⟨Baz fJ (by decide) kO kC kHo kX5 FV bV MV mgV S.tverd M ne,fJ.mgf,fJ.fn.kp,fJ.b⟩
 have kL:Kwn P w K mg base 6 "is_too_long" ["row"] (Apf K) _ _:=⟨(Awq fL' nl (let ⟨t,e⟩:=S.c_most;⟨t,W.mg_of X G e⟩)).mono (by decide),fL'.mgf,fL'.fn.kp,fL'.b⟩
 exact⟨_,_,Awv fE FV bV MV mgV S.tverd (by decide) kH kX kR kB kP kL (fun b hb=>Aq6 (Are hb)) (fun b hb e=>Anv (Are hb) e),fE.mgf,fE.fn.kp,fE.b⟩
end
def toB (ns:List Int):List UInt8:=ns.map fun(z:Int)=>UInt8.ofNat z.toNat
def byts (ns:List Int):Prop:=∀n,n∈ns→0≤n∧n≤255
theorem toB_len (ns:List Int):(toB ns).length=ns.length:=by unfold toB;rw[List.length_map]
theorem toB_v:∀(ns:List Int),byts ns→vB (toB ns)=ns.map V.int
 | [],_=>rfl
 | n::r,h=>by
  have hn:=h n (.head _);show V.int ((UInt8.ofNat n.toNat).toNat:Nat)::vB (toB r)=V.int n::r.map V.int;rw[toB_v r fun m hm=>h m (.tail _ hm)];have:(((UInt8.ofNat n.toNat).toNat:Nat):Int)=n:=by
   rw[UInt8.toNat_ofNat'];lia
  rw[this]
theorem Ap2 (ns:List Int)(h:byts ns):PlanNeutral.bytes ns=some (toB ns):=by
 unfold PlanNeutral.bytes;rw[if_pos];· rfl
 unfold NeutralIO.bytes;rw[List.all_eq_true];intro n hn;have:=h n hn;simp;lia
theorem Az5 {b:List UInt8}(h:b.length≤60000)(f:Plan→GlaPlans.Answer):GlaPlans.one b f=(match Gla.judgePlan b with | .error e=>.refused (fl e) | .ok S=>f S):=by
 unfold GlaPlans.one GlaPlans.sized;have e:[b].any (fun b=>decide (GlaPlans.BYTES<b.length))=false:=by
  have:¬GlaPlans.BYTES<b.length:=by unfold GlaPlans.BYTES;lia
  simp[this]
 rw[e,if_neg Bool.false_ne_true];unfold GlaPlans.ofPlan;cases Gla.judgePlan b<;>rfl
abbrev rfB:List UInt8→List Int:=Aot Ad3 rfP
theorem Ayr {b:List UInt8}(h:b.length≤60000)(e:rfB b=[]):Gla.judgePlan b=.ok (Gla.parts b):=by
 have:=Arn (b:=b) (by lia);unfold rfB at e;rw[e]at this;cases q:Gla.judgePlan b with
 | error f=>rw[q]at this;cases this
 | ok S=>rw[Ato q]
theorem Asb {b:List UInt8}(h:b.length≤60000)(f:Plan→GlaPlans.Answer):PlanNeutral.told (GlaPlans.one b f)=if rfB b=[] then PlanNeutral.told (f (Gla.parts b))else rfB b:=by
 rw[Az5 h]
 by_cases e:rfB b=[]
 ·rw[if_pos e,Ayr h e]
 ·rw[if_neg e];have:=Arn (b:=b) (by lia);cases q:Gla.judgePlan b with
  | error g=>rw[q]at this;rw[show rfB b=fl g from this];rfl
  | ok S=>rw[q]at this;exact absurd this e
abbrev Bc0 (K:W.Frag)(C CV:Addr):Sp:=Apm K CV rfB fun H b dr pn=>Ajh C H (Gla.parts b) dr pn
def spIC (K:W.Frag)(f:Nat→List UInt8→List Int):Sp:=fun vs H Q _=>∃(n:Nat) (a:Addr) (b:List UInt8),vs=[.int n,.ref a]∧SqL K H a (vB b)∧b.length≤60000∧∀(H':Hp) (p:Addr),H' p=some (.lst ((f n b).map V.int))→Q (.ref p) H'
theorem RowsAt.get {H:Hp}{rs:List Addr}{O:List (List Nat)}{i:Nat}(h:RowsAt H rs O)(hi:i<O.length):∃c,rs[i]?=some c∧H c=some (.lst (vN O[i])):=by
 obtain⟨c,hc⟩ : ∃c,rs[i]?=some c:=⟨_,List.getElem?_eq_getElem (by rw[h.len];exact hi)⟩
 obtain⟨l,el,hl⟩:=h.at_ i c hc;rw[List.getElem?_eq_getElem hi]at el;cases el;exact⟨c,hc,hl⟩
theorem Ag6 {S:Plan}{O:List (List Nat)}(h:S.panes=O.map some):O.length=S.marks.length:=by
 have:=congrArg List.length h;unfold Gla.Plan.panes at this;simp only[List.length_map]at this;exact this.symm
abbrev sPR:Stmt:=top Agg
def prN (l:List Int)(n i:Nat):List Int:=if l=[] then(if n≤i then [-2] else [])else l
def Bbk (CV:Addr):Sp:=fun vs H Q _=>∃(i:Nat) (v:Addr) (l:List Int) (dr pn:V) (n:Nat),vs=[.int i,.ref v]∧Anh CV H v l dr pn∧(l=[]→∃p xs,pn=.ref p∧H p=some (.lst xs)∧xs.length=n)∧
 ∀(H':Hp) (r:Addr),Same H H'→H' r=some (.lst ((prN l n i).map V.int))→Q (.ref r) H'
section
variable {P:Program}{w:World}{K:W.Frag}{mg:Str→Option Value}{base:Heap}
theorem Bc5:Aaa ["i","verdict"] ["i","verdict"] (Aa7 sPR):=fsc
theorem Baw {f CV:Addr}{fd:FuncData}(F:Def K mg "pane_refusal" sPR ["i","verdict"] f fd)(T:Am4 K CV)(nl:mg "len" = none):FnOk P w K mg base CX0 1 f fd ["i","verdict"] (Bbk CV):=by
 refine F.fn.ok Bc5 (fun vs H Q E h=>?_) (fun cdv A outer s H vs Q E hr h=>?_)
 ·obtain⟨i,v,l,dr,pn,n,rfl,_⟩:=h;rfl
 ·obtain⟨i,v,l,dr,pn,n,rfl,vd,more,k⟩:=h
  refine⟨_,Aa1 (Aat (Ae5 (Aal (pv 1) rfl) (fun _=>rfl)) (Aa4 (Aa9 (Aal (pv 1) rfl))) Aae)
   (Aa1 (Aat (Aaj Awh (pv 0) (Aaf Aab (by rfl) nl PySem.boot_len (Aa0 (Aal (pv 1) rfl) Aa3)) (Aan _)) (Aa4 (Aa9 (Ab8 (Aa0 (Anw Ahh Aa5) Aa3)))) Aae)
   (Aa4 (Aa9 (Ab8 Aa3)))),?_⟩
  obtain⟨dx,ra,hv,hra⟩:=vd;refine⟨_,rfl,v,CV,dx,_,_,rfl,hv,T.cl,T.nR,Axz _ _ _,_,.inl ⟨_,SqL.of hra,rfl⟩,?_⟩;refine Abg (fun e2=>?_) (fun e2=>?_)
  ·refine⟨_,rfl,v,CV,dx,_,_,rfl,hv,T.cl,T.nR,Axz _ _ _,?_⟩;refine k H ra (Same.refl H) ?_;unfold prN;rw[if_neg (fun z=>by rw[z]at e2;simp at e2)];exact hra
  have e0:l=[]:=by
   cases q:l with
   | nil=>rfl
   | cons x r=>rw[q]at e2;exact absurd (by simp) e2
  obtain⟨p,xs,rfl,hp,rfl⟩:=more e0;refine⟨_,rfl,_,rfl,v,CV,dx,_,_,rfl,hv,T.cl,T.nP,Ay0 _ _ _,p,xs,rfl,.inl (SqL.of hp),_,_,rfl,rfl,_,rfl,?_⟩;refine Abg (fun e3=>?_) (fun e3=>?_)
  ·simp only[decide_eq_true_eq]at e3;refine⟨_,rfl,sz1,fun r hr=>?_⟩;refine k _ r (Same.new hr) ?_;unfold prN;rw[Aa2,if_pos e0,if_pos (by lia)];rfl
  ·simp only[decide_eq_true_eq]at e3;refine⟨Nat.zero_le _,fun r hr=>?_⟩;refine k _ r (Same.new hr) ?_;unfold prN;rw[Aa2,if_pos e0,if_neg (by lia)];rfl
end
end Gc
end
section
namespace Gc
open PySem PySem.Spec PyProof.Rows L2
abbrev Ayp:Stmt:=top All
def Ayg:Sp:=fun vs H Q _=>∃(a:Addr) (xs:List V),vs=[.ref a]∧H a=some (.lst xs)∧xs.length≤1000000∧∀(H':Hp) (r:Addr),Same H H'→H' r=some (.lst (.int 0::.int xs.length::xs))→Q (.ref r) H'
section
variable {P:Program}{w:World}{K:W.Frag}{mg:Str→Option Value}{base:Heap}
theorem Baq:Aaa ["row"] ["row"] (Aa7 Ayp):=fsc
theorem Aza {f:Addr}{fd:FuncData}(F:Def K mg "row_told" Ayp ["row"] f fd)(nl:mg "len" = none):FnOk P w K mg base CX0 1 f fd ["row"] Ayg:=by
 refine F.fn.ok Baq (fun vs H Q E h=>?_) (fun cdv A outer s H vs Q E hr h=>?_)
 ·obtain⟨a,xs,rfl,_⟩:=h;rfl
 ·obtain⟨a,xs,rfl,ha,l,k⟩:=h;refine⟨_,Aa4 (Aa9 (Ab2 Av3 (Ab8 (Aa0 Aa5 (Aa0 (Aaf Aab (by rfl) nl PySem.boot_len (Aa0 (pv 0) Aa3)) Aa3))) (pv 0))),?_⟩;refine⟨_,rfl,a,_,rfl,.inl (SqL.of ha),sz2,fun t ht=>⟨_,rfl,t,a,_,_,rfl,rfl,Aa2,(Same.new ht) _ _ ha,?_,fun r hr=>?_⟩⟩
  ·exact Nat.le_trans (show 2+xs.length≤1000002 by lia) (by decide)
  ·exact k _ r ((Same.new ht).trans (Same.new hr)) Aa2
end
end Gc
end
section
namespace Gc
open PySem PySem.Spec PyProof.Rows L2
open Gla (Pt Plan Mark)
abbrev sSR:Stmt:=top Ah5
abbrev sLP:Stmt:=top Aj1
def Ac3 (l:List Nat)(k:Nat):Nat×Nat:=(l.getD (if k=0 then l.length-1 else k-1) 0,l.getD k 0)
def srd (l:List Nat):List (Nat×Nat):=(List.range l.length).map (Ac3 l)
theorem Avu {l:List Nat}{k:Nat}(h:k<l.length):(srd l)[k]?=some (Ac3 l k):=by unfold srd;rw[List.getElem?_map,List.getElem?_range h];rfl
theorem Ab9 {l:List Nat}{k:Nat}(h:k<l.length):l.getD k 0=l[k]:=by rw[List.getD_eq_getElem?_getD,List.getElem?_eq_getElem h];rfl
def stp:Nat→List (List Nat)→List ((Nat×Nat)×Nat)
 | _,[]=>[]
 | n,l::r=>(srd l).map (fun e=>(e,n))++stp (n+1) r
theorem Amb (l:List Nat):∀(O:List (List Nat)) (n:Nat),stp n (O++[l])=stp n O++(srd l).map fun e=>(e,n+O.length)
 | [],n=>by simp[stp]
 | a::O,n=>by
  show(srd a).map (fun e=>(e,n))++stp (n+1) (O++[l])=(srd a).map (fun e=>(e,n))++stp (n+1) O++_;rw[Amb l O (n+1),List.append_assoc,List.length_cons,show n+1+O.length=n+(O.length+1)by lia]
theorem Al3:∀(O:List (List Nat)) (n:Nat),(stp n O).map (·.1)=O.flatMap srd
 | [],_=>rfl
 | l::O,n=>by
  show((srd l).map (fun e=>(e,n))++stp (n+1) O).map (·.1)=_;rw[List.map_append,Al3 O (n+1),List.map_map,List.flatMap_cons]
  congr 1
  exact List.map_id _
def lK (D:List ((Nat×Nat)×Nat)):List (List Key×V):=D.map fun x=>(wK x.1,V.int (x.2:Nat))
theorem Aqy (e:Nat×Nat):∀D:List ((Nat×Nat)×Nat),Ac2 (lK D) (wK e)=(D.find? (fun x=>x.1==e)).map fun x=>V.int (x.2:Nat)
 | []=>rfl
 | x::r=>by
  show Ac2 ((wK x.1,V.int (x.2:Nat))::lK r) (wK e)=_
  by_cases q:x.1=e
  ·rw[q,Ab5 rfl,List.find?_cons_of_pos (by simp[q])];rfl
  ·rw[Ab6 (fun z=>q (Ahg z)),Aqy e r,List.find?_cons_of_neg (by simp[q])]
theorem Azh {D:List ((Nat×Nat)×Nat)}{e:Nat×Nat}{n:Nat}(h:e∉D.map (·.1)):Af9 (lK D) (wK e) (V.int (n:Nat))=lK (D++[(e,n)]):=by
 have:Ac2 (lK D) (wK e)=none:=by
  refine Afq fun q=>h ?_;unfold lK at q;rw[List.map_map]at q;obtain⟨x,hx,ex⟩:=List.mem_map.1 q;exact List.mem_map.2 ⟨x,hx,Ahg ex⟩
 rw[Afe _ this];unfold lK;rw[List.map_append];rfl
theorem Axj {l:List Nat}{x:Nat}(h:l[l.length-1]?=some x):atI (vN l) (-1)=some (.int (x:Nat)):=by
 have hi:=(List.getElem?_eq_some_iff.mp h).1;unfold atI ixN;have vl:(vN l).length=l.length:=by unfold vN;rw[List.length_map]
 rw[if_neg (by decide),vl,if_pos (by lia)];show(vN l)[((-1:Int)+(l.length:Int)).toNat]?=_;have:((-1:Int)+(l.length:Int)).toNat=l.length-1:=by lia
 rw[this];unfold vN;rw[List.getElem?_map,h];rfl
def Ban:Sp:=fun vs H Q _=>∃(o:Addr) (l:List Nat),vs=[.ref o]∧H o=some (.lst (vN l))∧l.length≤20000∧
 ∀(H':Hp) (p:Addr) (cs:List Addr),Same H H'→H' p=some (.lst (cs.map V.ref))→TupsAt lnV H' cs (srd l)→Q (.ref p) H'
def Bbm:Sp:=fun vs H Q _=>∃(p:Addr) (rs:List Addr) (O:List (List Nat)),vs=[.ref p]∧H p=some (.lst (rs.map V.ref))∧RowsAt H rs O∧(∀l,l∈O→l.length≤20000)∧(O.flatMap srd).Nodup∧(O.flatMap srd).length≤20000∧
 ∀(H':Hp) (d:Addr),Same H H'→H' d=some (.dT (lK (stp 0 O)))→Q (.ref d) H'
section
variable {P:Program}{w:World}{K:W.Frag}{mg:Str→Option Value}{base:Heap}
theorem scSR:Aaa ["outline","k"] ["outline"] (Aa7 sSR):=fsc
theorem Bcq:Avh ["outline","k"] (Aa7 sSR) (Bao "k" "outline") [("k",1)]=true:=by decide +kernel
theorem Az9 {f:Addr}{fd:FuncData}(F:Def K mg "steps_round" sSR ["outline"] f fd)(nr:mg "range" = none)(nl:mg "len" = none):FnOk P w K mg base CX0 1 f fd ["outline"] Ban:=by
 refine F.fn.ok scSR (fun vs H Q E h=>?_) (fun cdv A outer s H vs Q E hr h=>?_)
 ·obtain⟨o,l,rfl,_⟩:=h;rfl
 ·obtain⟨o,l,rfl,ho,ll,k⟩:=h
  refine⟨_,Aa4 (Aa9 (Awe (te:=Bbg (Abt (tOp (Axr K) (Acc 0) (tOp (rI0 fun i j=>.int (i-j)) (Acc 1) (tC (.int 1)))) (Abt (tOp (Axr K) (Acc 0) (Acc 1)) Ama))) (own:=[("k",1)]) rfl scSR.nd (Ace rfl nr (Aa0 (Aaf Aab (by rfl) nl PySem.boot_len (Aa0 (pv 0) Aa3)) Aa3)) (Acs Bcq) (fun _ _ _ _ _=>pG 1 scSR.nd) (fun _ _ _ _ _=>Ag2)
   (fun _ _ _ _ _=>Abh (Aa0 (pIL (pv 0) (Ab2 Ac4 (pv 1) Aa5)) (Aa0 (pIL (pv 0) (pv 1)) Aa3))))),?_⟩
  have vl:(vN l).length=l.length:=by unfold vN;rw[List.length_map]
  refine⟨_,rfl,o,_,rfl,.inl (SqL.of ho),((vN l).length:Int),rfl,by lia,by lia,fun D1 hD1=>?_⟩;have e0:(((vN l).length:Nat):Int).toNat=l.length:=by lia
  rw[e0];refine Amx (n:=l.length) (fun i H'=>∃cs:List Addr,Same H H'∧H' D1=some (.lst (cs.map V.ref))∧TupsAt lnV H' cs ((srd l).take i)) ⟨[],Same.new hD1,Aa2,TupsAt.nil⟩ ?_ ?_
  ·rintro i H' hi ⟨cs,s1,hd1,L⟩;refine⟨rfl,?_⟩;unfold Axq;dsimp only
   first | rw[if_pos rfl] | rw[if_pos trivial]
   have a1:atI (vN l) (((0:Int)+(i:Nat))-1)=some (.int ((Ac3 l i).1:Nat)):=by
    unfold Ac3
    by_cases z:i=0
    ·subst z;rw[if_pos rfl];exact Axj (by rw[List.getElem?_eq_getElem (by lia),Ab9 (by lia)])
    ·rw[if_neg z];exact Ahc (j:=i-1) (by lia) (by unfold vN;rw[List.getElem?_map,List.getElem?_eq_getElem (show i-1<l.length by lia),Ab9 (by lia)];rfl)
   have a2:atI (vN l) ((0:Int)+(i:Nat))=some (.int ((Ac3 l i).2:Nat)):=Ahc (j:=i) (by lia) (by unfold Ac3 vN;rw[List.getElem?_map,List.getElem?_eq_getElem hi,Ab9 hi];rfl);have cl:cs.length=i:=by
    have:=L.len;rw[List.length_take]at this;have sl:(srd l).length=l.length:=by unfold srd;simp
    lia
   refine⟨_,rfl,_,rfl,_,_,rfl,rfl,o,_,_,_,rfl,rfl,SqL.of (s1 _ _ ho),a1,_,rfl,_,rfl,o,_,_,_,rfl,rfl,SqL.of (s1 _ _ ho),a2,sz2,fun t ht=>?_⟩;have s2:=Same.new (o:=.tup [.int ((Ac3 l i).1:Nat),.int ((Ac3 l i).2:Nat)]) ht;refine⟨_,s2 _ _ hd1,by rw[List.length_map,cl];exact Nat.lt_of_le_of_lt (show i≤20000 by lia) (by decide),cs++[t],Same.grow s1 hD1 s2,?_,?_⟩
   ·rw[Aa2,List.map_append];rfl
   ·rw[Aak (Avu hi)];exact((L.same s2).push (x:=Ac3 l i) Aa2).lst (s2 _ _ hd1)
  ·rintro H' ⟨cs,s1,hd1,L⟩;rw[List.take_of_length_le (by unfold srd;simp)]at L;exact k H' D1 cs s1 hd1 L
theorem scLP:Aaa ["panes","left","number","outline","step"] ["panes"] (Aa7 sLP):=fsc
theorem Bay {f fS:Addr}{fd fdS:FuncData}(F:Def K mg "left_panes" sLP ["panes"] f fd)(FS:Def K mg "steps_round" sSR ["outline"] fS fdS)(nr:mg "range" = none)(nl:mg "len" = none)(ne:mg "enumerate" = none):FnOk P w K mg base CX0 2 f fd ["panes"] Bbm:=by
 have GS:FnOk P w K mg base CX0 1 fS fdS ["outline"] Ban:=Az9 FS nr nl;refine F.fn.ok scLP (fun vs H Q E h=>?_) (fun cdv A outer s H vs Q E hr h=>?_)
 ·obtain⟨p,rs,O,rfl,_⟩:=h;rfl
 ·obtain⟨p,rs,O,rfl,hp,RA,lO,nd,nl',k⟩:=h;have hu:=Agl hr
  refine⟨_,Aa1 (pS 1 scLP.nd Afg)
   (Aa1 (Aap PassesOwn.never rfl (Abw rfl ne (Aa0 (pv 0) Aa3)) (Abu rfl (Aag (pG 2 scLP.nd) (Aag (pG 3 scLP.nd) Abc)))
    (Aa4 (Aap PassesOwn.never rfl (Abf (pCD FS GS hr (Aa0 (pv 3) Aa3))) (pG 4 scLP.nd)
     (Aa4 (Aei hu (pv 1) (pv 4) (pv 2) rfl)))))
   (Aa4 (Aa9 (pv 1)))),?_⟩
  refine fun d hd=>?_;have hp1:=(Same.new (o:=.dT []) hd) _ _ hp
  refine⟨_,rfl,p,_,rfl,SqL.of hp1,Abk (K:=K) (a:=p) (xs:=rs.map V.ref) (fun i σ H'=>(∃v2 v3 v4:Option V,σ=[some (.ref p),some (.ref d),v2,v3,v4])∧Same H H'∧H' d=some (.dT (lK (stp 0 (O.take i)))))
   ⟨⟨_,_,_,rfl⟩,Same.new hd,Aa2⟩ (fun i σ H' _ ⟨_,s1,_⟩=>SqL.of (s1 _ _ hp)) ?_ ?_⟩
  ·rintro i x σ H' t hi ⟨⟨v2,v3,v4,rfl⟩,s1,hdH⟩ ht;obtain⟨c,hc,rfl⟩:=Aad hi;obtain⟨l,hl,hcl⟩:=RA.at_ i c hc;have il:=(List.getElem?_eq_some_iff.mp hl).1;have st:=Same.new (o:=.tup [.int (i:Nat),.ref c]) ht;have s2:=s1.trans st;have hd2:=st _ _ hdH;refine⟨t,_,rfl,SqT.of Aa2,rfl,_,_,rfl,_,_,rfl,rfl,?_⟩;generalize upd H' t (.tup [.int (i:Nat),.ref c])=H2 at *;refine⟨_,rfl,c,l,rfl,s2 _ _ hcl,lO l (List.mem_of_getElem? hl),fun H3 q cs s3 hq L=>?_⟩
   have tl:(O.take i).length=i:=by rw[List.length_take];lia
   have split:O.flatMap srd=(O.take i).flatMap srd++(srd l++(O.drop (i+1)).flatMap srd):=by
    conv=>lhs;rw[←List.take_append_drop i O,List.flatMap_append,Acp hl,List.flatMap_cons]
   rw[split]at nd nl';have nd2:=(List.nodup_append.1 nd)
   refine⟨q,rfl,⟨_,SqL.of hq⟩,Abr (K:=K) (a:=q) (xs:=cs.map V.ref) (fun j σ H'=>(∃v4:Option V,σ=[some (.ref p),some (.ref d),some (.int (i:Nat)),some (.ref c),v4])∧Same H H'∧H' q=some (.lst (cs.map V.ref))∧TupsAt lnV H' cs (srd l)∧H' d=some (.dT (lK (stp 0 (O.take i)++((srd l).take j).map fun e=>(e,i)))))
    ⟨⟨_,rfl⟩,s2.trans s3,hq,L,by rw[List.take_zero,List.map_nil,List.append_nil];exact s3 _ _ hd2⟩ (fun j σ H' _ ⟨_,_,h,_⟩=>SqL.of h) ?_ ?_⟩
   ·rintro j y σ H4 hj ⟨⟨v4,rfl⟩,s4,hq4,L4,hd4⟩;obtain⟨b,hb,rfl⟩:=Aad hj;obtain⟨e,he,hbe⟩:=L4.at_ j b hb;have nin:e∉(stp 0 (O.take i)++((srd l).take j).map fun e=>(e,i)).map (·.1):=by
     rw[List.map_append,Al3,List.map_map];intro m;rcases List.mem_append.1 m with m | m
     ·exact nd2.2.2 e m e (List.mem_append_left _ (List.mem_of_getElem? he)) rfl
     ·have m:e∈(srd l).take j:=by
       obtain⟨x,hx,ex⟩:=List.mem_map.1 m;rw[←show x=e from ex];exact hx
      obtain⟨n,hn,en⟩:=List.mem_iff_getElem.1 m;rw[List.length_take]at hn;rw[List.getElem_take]at en;have:=Alf (List.nodup_append.1 nd2.2.1).1 (List.getElem?_eq_getElem (show n<(srd l).length by lia)) (show(srd l)[j]?=some (srd l)[n] by rw[en];exact he);lia
    have key:H4 b=some (.tup ((wK e).map kV)):=hbe;have ln:(lK (stp 0 (O.take i)++((srd l).take j).map fun e=>(e,i))).length<sizeLine:=by
     unfold lK;rw[List.length_map,List.length_append,List.length_map,List.length_take];have e1:(stp 0 (O.take i)).length=((O.take i).flatMap srd).length:=by rw[←Al3,List.length_map]
     rw[List.length_append,List.length_append]at nl';exact Nat.lt_of_le_of_lt (show _≤20000 by lia) (by decide)
    refine⟨_,rfl,_,rfl,_,rfl,d,_,rfl,DPut.t hd4 key ln,?_⟩;rw[Azh nin];have dq:d≠q:=Aby hd4 hq4 (by intro z;cases z);refine⟨⟨_,rfl⟩,?_,?_,?_,?_⟩
    ·intro a u ha;rw[Aa6 (Aa8 ha hd)];exact s4 a u ha
    ·rw[Aa6 (Ne.symm dq)];exact hq4
    ·exact⟨L4.len,fun n a ha=>let ⟨x,ex,hx⟩:=L4.at_ n a ha;⟨x,ex,by rw[Aa6 (Aby hx hd4 (by intro z;cases z))];exact hx⟩⟩
    ·rw[Aa2,Aak he,List.map_append,List.append_assoc];rfl
   ·rintro σ H4 ⟨⟨v4,rfl⟩,s4,hq4,L4,hd4⟩;refine⟨⟨_,_,_,rfl⟩,s4,?_⟩;rw[List.length_map,L4.len,List.take_length]at hd4;rw[Aak hl,Amb,tl,Nat.zero_add];exact hd4
  ·rintro σ H' ⟨⟨v2,v3,v4,rfl⟩,s1,hdH⟩;rw[List.length_map,RA.len,List.take_length]at hdH;exact⟨_,rfl,k H' d s1 hdH⟩
end
abbrev sPB:Stmt:=top Agf
def byd (O:List (List Nat))(e:Nat×Nat):Option Nat:=((stp 0 O).find? (fun x=>x.1==(e.2,e.1))).map (·.2)
def nI (l:List Nat):List Int:=l.map fun(n:Nat)=>(n:Int)
theorem Bbp (l:List Nat):(nI l).map V.int=vN l:=by unfold nI vN;rw[List.map_map];rfl
theorem Auq:∀(O:List (List Nat)) (n:Nat) (x:(Nat×Nat)×Nat),x∈stp n O→x.2<n+O.length
 | [],n,x,h=>by cases h
 | l::O,n,x,h=>by
  rcases List.mem_append.1 (show x∈(srd l).map (fun e=>(e,n))++stp (n+1) O from h)with h | h
  ·obtain⟨e,_,rfl⟩:=List.mem_map.1 h;rw[List.length_cons];dsimp only;lia
  ·have:=Auq O (n+1) x h;rw[List.length_cons];lia
theorem Avg {O:List (List Nat)}{e:Nat×Nat}{k:Nat}(h:byd O e=some k):k<O.length:=by
 unfold byd at h;cases q:(stp 0 O).find? (fun x=>x.1==(e.2,e.1)) with
 | none=>rw[q]at h;cases h
 | some x =>
  rw[q]at h;cases h;have:=Auq O 0 x (List.mem_of_find?_eq_some q);lia
def Bbl:Sp:=fun vs H Q _=>∃(p:Addr) (rs:List Addr) (O:List (List Nat)) (i:Nat) (l:List Nat),vs=[.ref p,.int (i:Nat)]∧H p=some (.lst (rs.map V.ref))∧RowsAt H rs O∧(∀l,l∈O→l.length≤20000)∧(O.flatMap srd).Nodup∧(O.flatMap srd).length≤20000∧O[i]?=some l∧O.length≤4000∧
 ∀(H':Hp) (q:Addr) (m:List Int),Same H H'→H' q=some (.lst (m.map V.int))→m.Nodup→(∀x,x∈m↔x∈nI ((srd l).filterMap (byd O)))→m.Pairwise (·≤·)→Q (.ref q) H'
section
variable {P:Program}{w:World}{K:W.Frag}{mg:Str→Option Value}{base:Heap}
theorem scPB:Aaa ["panes","number","left","beside","first","second"] ["panes","number"] (Aa7 sPB):=fsc
theorem Bax {f fL fS:Addr}{fd fdL fdS:FuncData}(F:Def K mg "panes_beside" sPB ["panes","number"] f fd)(FL:Def K mg "left_panes" sLP ["panes"] fL fdL)(FS:Def K mg "steps_round" sSR ["outline"] fS fdS)(nr:mg "range" = none)(nl:mg "len" = none)(ne:mg "enumerate" = none)(ns:mg "sorted" = none)(nt:mg "set" = none) :
 FnOk P w K mg base CX0 3 f fd ["panes","number"] Bbl:=by
 have GL:FnOk P w K mg base CX0 2 fL fdL ["panes"] Bbm:=Bay FL FS nr nl ne;have GS:FnOk P w K mg base CX0 1 fS fdS ["outline"] Ban:=Az9 FS nr nl;refine F.fn.ok scPB (fun vs H Q E h=>?_) (fun cdv A outer s H vs Q E hr h=>?_)
 ·obtain⟨p,rs,O,i,l,rfl,_⟩:=h;rfl
 ·obtain⟨p,rs,O,n,l,rfl,hp,RA,lO,nd,nf,hl,nO,k⟩:=h;have hu:=Agl hr;have hr1:Room 1 _:=hr.mono (by decide)
  refine⟨_,Aa1 (pS 2 scPB.nd (pCD FL GL hr (Aa0 (pv 0) Aa3)))
   (Aa1 (pS 3 scPB.nd (Ab8 Aa3))
   (Aa1 (Aap PassesOwn.never rfl (Abf (pCD FS GS hr1 (Aa0 (pIL (pv 0) (pv 1)) Aa3))) (Abu rfl (Aag (pG 4 scPB.nd) (Aag (pG 5 scPB.nd) Abc)))
    (Aa4 (Aat (Ag3 (Av1 hu (Abh (Aa0 (pv 5) (Aa0 (pv 4) Aa3))) (pv 2)))
     (Aa4 (Abo (Aej PySem.F.plainAttrs_list PySem.F.slot_list_append PySem.F.type_list_append Ab3 (pv 3) (Aa0 (Aq9 hu (pv 2) (Abh (Aa0 (pv 5) (Aa0 (pv 4) Aa3))) (fun _ _=>rfl)) Aa3)))) Aae)))
   (Aa4 (Aa9 (Aaf (Akp rfl) (by rfl) ns (by decide +kernel) (Aa0 (Ag5 (Arv rfl) (by rfl) nt (by decide +kernel) (Aa0 (pv 3) Aa3)) Aa3)))))),?_⟩
  refine⟨_,rfl,p,rs,O,rfl,hp,RA,lO,nd,nf,fun H1 d s1 hd=>?_⟩;refine⟨Nat.zero_le _,fun b hb=>?_⟩;have s2:=Same.new (o:=.lst []) hb;have hd2:=s2 _ _ hd;have hb2:upd H1 b (.lst []) b=some (.lst []):=Aa2;have s12:=s1.trans s2;have b0:H b=none:=s1.free hb;generalize upd H1 b (.lst [])=H2 at *;obtain⟨c,hc,hcl⟩ : ∃c,rs[n]?=some c∧H c=some (.lst (vN l)):=by
   have il:=(List.getElem?_eq_some_iff.mp hl).1;obtain⟨c,hc,hcl⟩:=RA.get il;rw[List.getElem?_eq_getElem il]at hl;cases hl;exact⟨c,hc,hcl⟩
  refine⟨_,rfl,_,rfl,p,_,_,V.ref c,rfl,rfl,SqL.of (s12 _ _ hp),atr hc,c,l,rfl,s12 _ _ hcl,lO l (List.mem_of_getElem? hl),fun H3 q cs s3 hq L=>?_⟩;have hd3:=s3 _ _ hd2;have hb3:=s3 _ _ hb2;have s13:=s12.trans s3;have sl:(srd l).length≤20000:=by unfold srd;rw[List.length_map,List.length_range];exact lO l (List.mem_of_getElem? hl)
  refine⟨q,rfl,⟨_,SqL.of hq⟩,Abr (K:=K) (a:=q) (xs:=cs.map V.ref) (fun j σ H'=>(∃v4 v5:Option V,σ=[some (.ref p),some (.int (n:Nat)),some (.ref d),some (.ref b),v4,v5])∧Same H H'∧H' q=some (.lst (cs.map V.ref))∧TupsAt lnV H' cs (srd l)∧H' d=some (.dT (lK (stp 0 O)))∧H' b=some (.lst (vN (((srd l).take j).filterMap (byd O)))))
   ⟨⟨_,_,rfl⟩,s13,hq,L,hd3,hb3⟩ (fun j σ H' _ ⟨_,_,h,_⟩=>SqL.of h) ?_ ?_⟩
  ·rintro j y σ H4 hj ⟨⟨v4,v5,rfl⟩,s4,hq4,L4,hd4,hb4⟩;obtain⟨a,ha,rfl⟩:=Aad hj;obtain⟨e,he,hae⟩:=L4.at_ j a ha;have hae':LnAt H4 a e:=hae;have jl:=(List.getElem?_eq_some_iff.mp he).1;refine⟨a,_,rfl,SqT.of hae',rfl,_,_,rfl,_,_,rfl,rfl,?_⟩;refine⟨_,rfl,_,rfl,sz2,fun t ht=>?_⟩;have st:=Same.new (o:=.tup [.int (e.2:Nat),.int (e.1:Nat)]) ht;have lt:LnAt (upd H4 t (.tup [.int (e.2:Nat),.int (e.1:Nat)])) t (e.2,e.1):=Aa2
   have hd5:=st _ _ hd4;have hb5:=st _ _ hb4;have hq5:=st _ _ hq4;have L5:=L4.same st;have s5:=s4.trans st;generalize upd H4 t (.tup [.int (e.2:Nat),.int (e.1:Nat)])=H5 at *;refine⟨_,rfl,d,_,rfl,DGet.t hd5 lt.key,_,rfl,?_⟩;rw[Aqy];have bl:(((srd l).take j).filterMap (byd O)).length≤j:=Nat.le_trans (List.length_filterMap_le _ _) (by rw[List.length_take];lia);have tk:=Aak he;cases hf:(stp 0 O).find? (fun x=>x.1==(e.2,e.1)) with
   | none =>
    have be:byd O e=none:=by unfold byd;rw[hf];rfl
    refine Akh ?_;refine⟨⟨_,_,rfl⟩,s5,hq5,L5,hd5,?_⟩;rw[tk,List.filterMap_append,List.filterMap_cons,be];simpa using hb5
   | some x =>
    have be:byd O e=some x.2:=by unfold byd;rw[hf];rfl
    refine Aoe ?_;refine⟨_,rfl,.inl ⟨rfl,_,SqL.of hb5⟩,_,rfl,_,rfl,_,rfl,sz2,fun t2 ht2=>?_⟩;have st2:=Same.new (o:=.tup [.int (e.2:Nat),.int (e.1:Nat)]) ht2;have lt2:LnAt (upd H5 t2 (.tup [.int (e.2:Nat),.int (e.1:Nat)])) t2 (e.2,e.1):=Aa2;have hd6:=st2 _ _ hd5;have hb6:=st2 _ _ hb5;have hq6:=st2 _ _ hq5;have L6:=L5.same st2;have s6:=s5.trans st2;generalize upd H5 t2 (.tup [.int (e.2:Nat),.int (e.1:Nat)])=H6 at *
    have dg:=DGet.t hd6 lt2.key;rw[Aqy,hf]at dg;have z:(vN (((srd l).take j).filterMap (byd O))).length<sizeLine:=by
     unfold vN;rw[List.length_map];exact Nat.lt_of_le_of_lt (show _≤20000 by lia) (by decide)
    have bd:b≠d:=Aby hb6 hd6 (by intro z;cases z);have bq:b≠q:=fun z=>by
     rw[z,hq]at hb3;injection hb3 with h1
     injection h1 with h1
     rw[List.map_eq_nil_iff]at h1;rw[h1]at ha;cases ha
    refine⟨d,_,rfl,dg,b,_,_,rfl,rfl,hb6,z,⟨_,_,rfl⟩,?_,?_,?_,?_,?_⟩
    ·intro a2 u ha2;rw[Aa6 (Aa8 ha2 b0)];exact s6 a2 u ha2
    ·rw[Aa6 (Ne.symm bq)];exact hq6
    ·exact⟨L6.len,fun n2 a2 ha2=>let ⟨x2,ex,hx⟩:=L6.at_ n2 a2 ha2;⟨x2,ex,by rw[Aa6 (Aby hx hb6 (by intro z;cases z))];exact hx⟩⟩
    ·rw[Aa6 (Ne.symm bd)];exact hd6
    ·rw[Aa2,tk,List.filterMap_append,List.filterMap_cons,be];unfold vN;rw[List.map_append];rfl
  ·rintro σ H4 ⟨⟨v4,v5,rfl⟩,s4,hq4,L4,hd4,hb4⟩;rw[List.length_map,L4.len,List.take_length]at hb4;rw[←Bbp]at hb4;have mB:∀x,x∈nI ((srd l).filterMap (byd O))→x∈nI (List.range O.length):=fun x hx=>by
    obtain⟨k,hk,rfl⟩:=List.mem_map.1 hx;obtain⟨e,_,he⟩:=List.mem_filterMap.1 hk;exact List.mem_map.2 ⟨k,List.mem_range.2 (Avg he),rfl⟩
   have lB:(nI (List.range O.length)).length+1<scanBound:=by
    unfold nI scanBound;rw[List.length_map,List.length_range];lia
   refine⟨_,rfl,b,_,_,rfl,hb4,mB,lB,fun q2 ks hq2 nk mk=>?_⟩;have s5:=Same.new (o:=.ext fun h=>Gs.SetA h q2 (Gs.ledOf w) ks) hq2;have kl:ks.length≤100000:=by
    have z:=Pg.len_le nk fun x hx=>mB x ((mk x).1 hx);unfold scanBound at lB;lia
   refine⟨q2,ks,rfl,Aa2,kl,fun q3 m hq3 pm so=>?_⟩;exact k _ q3 m ((s4.trans s5).trans (Same.new hq3)) Aa2 (pm.nodup_iff.mpr nk) (fun x=>(pm.mem_iff).trans (mk x)) so
end
theorem Aou {l:List Nat}{k:Nat}(h:k<l.length):(l.zip (l.drop 1++l.take 1))[k]?=some (l[k],if q:k+1<l.length then l[k+1] else l[0]'(by lia)):=by
 rw[List.getElem?_zip_eq_some];refine⟨List.getElem?_eq_getElem h,?_⟩
 split
 ·rename_i q
  rw[List.getElem?_append_left (by rw[List.length_drop];lia),List.getElem?_drop,show 1+k=k+1 by lia,List.getElem?_eq_getElem q]
 ·rename_i q
  rw[List.getElem?_append_right (by rw[List.length_drop];lia),List.length_drop,show k-(l.length-1)=0 by lia,List.getElem?_take,if_pos (by lia),List.getElem?_eq_getElem (by lia)]
theorem Avm (l:List Nat):(l.zip (l.drop 1++l.take 1)).length=l.length:=by
 rw[List.length_zip,List.length_append,List.length_drop,List.length_take];lia
theorem Alj {l:List Nat}{e:Nat×Nat}:e∈srd l↔e∈l.zip (l.drop 1++l.take 1):=by
 constructor
 ·intro h;unfold srd at h;obtain⟨k,hk,rfl⟩:=List.mem_map.1 h;rw[List.mem_range]at hk;unfold Ac3
  by_cases z:k=0
  ·subst z;rw[if_pos rfl,Ab9 (show l.length-1<l.length by lia),Ab9 hk];have:=Aou (l:=l) (k:=l.length-1) (by lia);rw[dif_neg (by lia)]at this;exact List.mem_of_getElem? this
  ·rw[if_neg z,Ab9 (show k-1<l.length by lia),Ab9 hk];have:=Aou (l:=l) (k:=k-1) (by lia);rw[dif_pos (by lia)]at this;simp only[show k-1+1=k by lia]at this;exact List.mem_of_getElem? this
 ·intro h;obtain⟨k,hk⟩:=List.mem_iff_getElem?.1 h;have kl:=(List.getElem?_eq_some_iff.mp hk).1;rw[Avm]at kl;rw[Aou kl]at hk;cases hk;unfold srd;rw[List.mem_map]
  by_cases q:k+1<l.length
  ·exact⟨k+1,List.mem_range.2 q,by unfold Ac3;rw[if_neg (by lia),dif_pos q,Ab9 q,Ab9 (show k+1-1<l.length by lia)];rfl⟩
  ·exact⟨0,List.mem_range.2 (by lia),by unfold Ac3;rw[if_pos rfl,dif_neg q,Ab9 (show l.length-1<l.length by lia),Ab9 (show 0<l.length by lia)];simp only[show l.length-1=k by lia]⟩
theorem Acn (l:List Nat)(e:Nat×Nat):Gla.follows l e.1 e.2=decide (e∈srd l):=by
 unfold Gla.follows;rw[Bool.eq_iff_iff,List.contains_iff_mem,decide_eq_true_eq,Alj]
theorem Aj8 (e:Nat×Nat):∀(O:List (List Nat)) (n:Nat),((stp n O).find? (fun x=>x.1==e)).map (·.2)=(O.findIdx? fun l=>Gla.follows l e.1 e.2).map (n+·)
 | [],n=>rfl
 | l::O,n=>by
  show(((srd l).map (fun e=>(e,n))++stp (n+1) O).find? _).map _=_;rw[List.find?_append,List.findIdx?_cons,Acn]
  by_cases h:e∈srd l
  ·have:((srd l).map fun e=>(e,n)).find? (fun x=>x.1==e)=some (e,n):=by
    cases q:((srd l).map fun e=>(e,n)).find? (fun x=>x.1==e) with
    | none =>
     rw[List.find?_eq_none]at q;exact absurd (by simp) (q (e,n) (List.mem_map.2 ⟨e,h,rfl⟩))
    | some x =>
     have a:=List.find?_some q;obtain⟨y,_,rfl⟩:=List.mem_map.1 (List.mem_of_find?_eq_some q);simp only[beq_iff_eq]at a;rw[a]
   rw[this,decide_eq_true h];rfl
  ·have:((srd l).map fun e=>(e,n)).find? (fun x=>x.1==e)=none:=by
    rw[List.find?_eq_none];intro x hx;obtain⟨y,hy,rfl⟩:=List.mem_map.1 hx;simp only[beq_iff_eq];intro z;exact h (z ▸ hy)
   rw[this,decide_eq_false h];simp only[Option.none_or,Bool.false_eq_true,if_false];rw[Aj8 e O (n+1),Option.map_map]
   congr 1
   funext k
   simp only[Function.comp];lia
theorem Aqw {S:Plan}{O:List (List Nat)}(pan:S.panes=O.map some)(e:Nat×Nat):Gla.leftOf S.panes e.1 e.2=((stp 0 O).find? (fun x=>x.1==e)).map (·.2):=by
 rw[Aj8];unfold Gla.leftOf;rw[pan,List.findIdx?_map];show(O.findIdx? fun l=>Gla.follows l e.1 e.2)=_;cases O.findIdx? fun l=>Gla.follows l e.1 e.2 with
 | none=>rfl
 | some k=>simp
theorem Afs {S:Plan}{O:List (List Nat)}(r:Pg.Rules S)(nO:O.Nodup)(mO:∀l,l∈O↔l∈S.outlines):(O.flatMap srd).Nodup∧(O.flatMap srd).length≤2*S.lines.length:=by
 have orb:∀l,l∈O→∃s:Nat×Nat,Pg.adj S s.1 s.2∧Pg.FstLeast S s∧l=Pg.Vs S s∧∀e,e∈srd l↔e∈Pg.orb S s:=fun l hl=>by
  obtain⟨s,as,ls,_,rfl⟩:=(r.mem_outlines l).1 ((mO l).1 hl);exact⟨s,as,ls,rfl,fun e=>by rw[Alj,r.Vs_zip as]⟩
 have nd:(O.flatMap srd).Nodup:=by
  rw[List.nodup_iff_pairwise_ne,List.pairwise_flatMap];constructor
  ·intro l hl;rw[←List.nodup_iff_pairwise_ne];obtain⟨s,as,ls,rfl,_⟩:=orb l hl;have nv:=r.Vs_nodup as;unfold srd;rw[List.nodup_iff_pairwise_ne,List.pairwise_map];refine List.Pairwise.imp_of_mem ?_ List.pairwise_lt_range;intro a b ha hb ab q;rw[List.mem_range]at ha hb;have q2:=congrArg Prod.snd q;unfold Ac3 at q2;simp only[]at q2;rw[Ab9 ha,Ab9 hb]at q2;have:=Alf nv (List.getElem?_eq_getElem ha) (by rw[List.getElem?_eq_getElem hb,q2])
   lia
  ·refine List.Pairwise.imp_of_mem ?_ (List.nodup_iff_pairwise_ne.1 nO);intro l m hl hm ne e h1 e2 h2 ee;subst ee;obtain⟨s,as,ls,rfl,es⟩:=orb l hl;obtain⟨t,at',lt,rfl,et⟩:=orb m hm;have a:=(es e).1 h1;have b:=(et e).1 h2;have ts:t∈Pg.orb S s:=r.orb_trans as a (r.orb_back at' b);exact ne (by rw[r.least_one as ls lt ts])
 refine⟨nd,?_⟩;rw[←Afd];refine Pg.len_le nd fun e he=>?_;obtain⟨l,hl,hel⟩:=List.mem_flatMap.1 he;obtain⟨s,as,_,_,es⟩:=orb l hl;exact mem_ways (r.orb_adj as ((es e).1 hel))
abbrev Al8:Stmt:=top Ao9
theorem Au4 {O:List (List Nat)}(nd:(O.flatMap srd).Nodup){i j:Nat}{l m:List Nat}{e:Nat×Nat}(hi:O[i]?=some l)(hj:O[j]?=some m)(hl:e∈srd l)(hm:e∈srd m):i=j:=by
 rw[List.nodup_iff_pairwise_ne,List.pairwise_flatMap]at nd;have pw:=nd.2;rw[List.pairwise_iff_getElem]at pw;obtain⟨i1,rfl⟩:=List.getElem?_eq_some_iff.mp hi;obtain⟨j1,rfl⟩:=List.getElem?_eq_some_iff.mp hj;rcases Nat.lt_trichotomy i j with h | h | h
 ·exact absurd rfl (pw i j i1 j1 h e hl e hm)
 ·exact h
 ·exact absurd rfl (pw j i j1 i1 h e hm e hl)
theorem Afj {S:Plan}{O:List (List Nat)}(pan:S.panes=O.map some)(nd:(O.flatMap srd).Nodup)(e:Nat×Nat)(i:Nat):Gla.leftOf S.panes e.1 e.2=some i↔∃l,O[i]?=some l∧e∈srd l:=by
 have q:Gla.leftOf S.panes e.1 e.2=O.findIdx? fun l=>Gla.follows l e.1 e.2:=by
  rw[Aqw pan,Aj8];cases O.findIdx? fun l=>Gla.follows l e.1 e.2 with
  | none=>rfl
  | some k=>simp
 rw[q];constructor
 ·intro h;obtain⟨hi,hf,_⟩:=List.findIdx?_eq_some_iff_getElem.mp h;rw[Acn,decide_eq_true_eq]at hf;exact⟨_,List.getElem?_eq_getElem hi,hf⟩
 ·rintro⟨l,hl,he⟩;cases h:O.findIdx? fun l=>Gla.follows l e.1 e.2 with
  | none =>
   have:=List.findIdx?_eq_none_iff.mp h l (List.mem_of_getElem? hl);rw[Acn,decide_eq_false_iff_not]at this;exact absurd he this
  | some j =>
   obtain⟨hj,hf,_⟩:=List.findIdx?_eq_some_iff_getElem.mp h;rw[Acn,decide_eq_true_eq]at hf;rw[Au4 nd (List.getElem?_eq_getElem hj) hl hf he]
theorem Ajc {S:Plan}{O:List (List Nat)}(pan:S.panes=O.map some)(e:Nat×Nat):byd O e=Gla.leftOf S.panes e.2 e.1:=(Aqw pan (e.2,e.1)).symm
theorem Bb2 {S:Plan}{l:List Nat}(h:0<Gla.twiceArea S l):3≤l.length:=by
 match l,h with
 | [],h=>exact absurd h (by unfold Gla.twiceArea;simp)
 | [a],h =>
  refine absurd h ?_;unfold Gla.twiceArea;simp
 | [a,b],h =>
  refine absurd h ?_;unfold Gla.twiceArea;simp;generalize ((S.pt a).x:Int)=x1;generalize ((S.pt a).y:Int)=y1;generalize ((S.pt b).x:Int)=x2;generalize ((S.pt b).y:Int)=y2;have h1:x1*y2-x2*y1+(x2*y1-x1*y2)=0:=by
   generalize x1*y2=p;generalize x2*y1=q;lia
  lia
 | a::b::c::r,_=>simp
theorem Ax0 {l:List Nat}(nl:l.Nodup)(h3:3≤l.length){e:Nat×Nat}(h:e∈srd l)(hb:(e.2,e.1)∈srd l):False:=by
 unfold srd at h hb;obtain⟨a,ha,ea⟩:=List.mem_map.1 h;obtain⟨c,hc,ec⟩:=List.mem_map.1 hb;rw[List.mem_range]at ha hc;unfold Ac3 at ea ec;have a1:(if a=0 then l.length-1 else a-1)<l.length:=by split<;>lia
 have c1:(if c=0 then l.length-1 else c-1)<l.length:=by split<;>lia
 rw[Ab9 a1,Ab9 ha]at ea;rw[Ab9 c1,Ab9 hc]at ec;have e1:l[if a=0 then l.length-1 else a-1]=e.1:=congrArg Prod.fst ea;have e2:l[a]=e.2:=congrArg Prod.snd ea;have e3:l[if c=0 then l.length-1 else c-1]=e.2:=congrArg Prod.fst ec;have e4:l[c]=e.1:=congrArg Prod.snd ec;have q1:=Alf nl (List.getElem?_eq_getElem a1) (by rw[List.getElem?_eq_getElem hc,e4,e1]);have q2:=Alf nl (List.getElem?_eq_getElem ha) (by rw[List.getElem?_eq_getElem c1,e3,e2])
 clear ea ec e1 e2 e3 e4 h hb a1 c1 nl
 split at q1<;>split at q2<;>lia
theorem Ai5 {S:Plan}{O:List (List Nat)}(r:Pg.Rules S)(pan:S.panes=O.map some)(nO:O.Nodup)(mO:∀l,l∈O↔l∈S.outlines){i:Nat}{l:List Nat}(hl:O[i]?=some l)(k:Nat):k∈S.beside i↔k∈(srd l).filterMap (byd O):=by
 obtain⟨sn,_⟩:=Afs r nO mO;have lO:=Ag6 pan;obtain⟨s,as,ls,ar,el⟩:=(r.mem_outlines l).1 ((mO l).1 (List.mem_of_getElem? hl));have nl:l.Nodup:=by rw[el];exact r.Vs_nodup as
 have l3:=Bb2 ar;have ad:∀e,e∈srd l→Pg.adj S e.1 e.2:=fun e he=>by
  rw[Alj,el,r.Vs_zip as]at he;exact r.orb_adj as he
 unfold Gla.Plan.beside Gla.besideOf Gla.Plan.allSides;rw[List.mem_filter,List.mem_range,List.mem_filterMap];simp only[Bool.and_eq_true,bne_iff_ne,ne_eq,List.any_eq_true,List.mem_map,Bool.or_eq_true,beq_iff_eq,Gla.sidesOf];constructor
 ·rintro⟨kn,ki,x,⟨ln,hln,rfl⟩,hx⟩;rcases hx with hx | hx
  ·injection hx with h1 h2
   obtain⟨m,hm,he⟩:=(Afj pan sn (ln.1,ln.2) i).1 h1;rw[hl]at hm;cases hm;exact⟨(ln.1,ln.2),he,by rw[Ajc pan];exact h2⟩
  ·injection hx with h1 h2
   obtain⟨m,hm,he⟩:=(Afj pan sn (ln.2,ln.1) i).1 h2;rw[hl]at hm;cases hm;exact⟨(ln.2,ln.1),he,by rw[Ajc pan];exact h1⟩
 ·rintro⟨e,he,hb⟩;have kl:=Avg hb;rw[Ajc pan]at hb;have le:Gla.leftOf S.panes e.1 e.2=some i:=(Afj pan sn e i).2 ⟨l,hl,he⟩;refine⟨by lia,fun z=>?_,?_⟩
  ·subst z;obtain⟨m,hm,hb2⟩:=(Afj pan sn (e.2,e.1) k).1 hb;rw[hl]at hm;cases hm;exact Ax0 nl l3 he hb2
  ·rcases ad e he with h | h
   ·exact⟨_,⟨(e.1,e.2),h,rfl⟩,.inl (by rw[le,hb])⟩
   ·exact⟨_,⟨(e.2,e.1),h,rfl⟩,.inr (by rw[le,hb])⟩
theorem Ay5:∀{a b:List Int},a.Pairwise (·<·)→b.Pairwise (·<·)→(∀x,x∈a↔x∈b)→a=b
 | [],[],_,_,_=>rfl
 | [],y::b,_,_,h=>by have:=(h y).2 (.head _);cases this
 | x::a,[],_,_,h=>by have:=(h x).1 (.head _);cases this
 | x::a,y::b,ha,hb,h=>by
  rw[List.pairwise_cons]at ha hb;have e:x=y:=by
   rcases List.mem_cons.1 ((h x).1 (.head _))with q | q
   ·exact q
   ·rcases List.mem_cons.1 ((h y).2 (.head _))with p | p
    ·exact p.symm
    ·have:=ha.1 y p;have:=hb.1 x q;lia
  subst e;rw[Ay5 ha.2 hb.2 fun z=>?_];have hz:=h z;rw[List.mem_cons,List.mem_cons]at hz;constructor
  ·intro q;rcases hz.1 (.inr q)with p | p
   ·subst p;have:=ha.1 z q;lia
   ·exact p
  ·intro q;rcases hz.2 (.inr q)with p | p
   ·subst p;have:=hb.1 z q;lia
   ·exact p
theorem Baf {a:List Int}(h:a.Pairwise (·≤·))(n:a.Nodup):a.Pairwise (·<·):=by
 rw[List.nodup_iff_pairwise_ne]at n;exact(h.and n).imp fun⟨x,y⟩=>by lia
theorem Arx {S:Plan}{O:List (List Nat)}(r:Pg.Rules S)(pan:S.panes=O.map some)(nO:O.Nodup)(mO:∀l,l∈O↔l∈S.outlines){i:Nat}{l:List Nat}(hl:O[i]?=some l){m:List Int}(nm:m.Nodup)(hm:∀x,x∈m↔x∈nI ((srd l).filterMap (byd O)))(so:m.Pairwise (·≤·)):m=nI (S.beside i):=by
 refine Ay5 (Baf so nm) ?_ fun x=>?_
 ·unfold nI Gla.Plan.beside Gla.besideOf;rw[List.pairwise_map];exact(List.pairwise_lt_range.filter _).imp fun h=>by lia
 ·rw[hm x];unfold nI;rw[List.mem_map,List.mem_map];exact⟨fun⟨k,a,b⟩=>⟨k,(Ai5 r pan nO mO hl k).2 a,b⟩,fun⟨k,a,b⟩=>⟨k,(Ai5 r pan nO mO hl k).1 a,b⟩⟩
def ansNext (n:Nat)(b:List UInt8):List Int:=if rfB b=[] then(if n<(Gla.parts b).marks.length then 0::PlanNeutral.rowN (PlanNeutral.ints ((Gla.parts b).beside n))else [-2])else rfB b
section
variable {P:Program}{w:World}{K:W.Frag}{mg:Str→Option Value}{base:Heap}
theorem scNext:Aaa ["i","cartoon","verdict","refusal"] ["i","cartoon"] (Aa7 Al8):=fsc
theorem Awp {f fE fR fT fB fL fS C CV:Addr}{fd fdE fdR fdT fdB fdL fdS:FuncData}{k0:Nat}(F:Def K mg "next_to" Al8 ["i","cartoon"] f fd)(k3:3≤k0)(GE:Kwn P w K mg base k0 "examine" ["row"] (Bc0 K C CV) fE fdE)(FR:Def K mg "pane_refusal" sPR ["i","verdict"] fR fdR)(FT:Def K mg "row_told" Ayp ["row"] fT fdT)
 (FB:Def K mg "panes_beside" sPB ["panes","number"] fB fdB) (FL:Def K mg "left_panes" sLP ["panes"] fL fdL) (FS:Def K mg "steps_round" sSR ["outline"] fS fdS) (T:Am4 K CV) (nl:mg "len" = none) (nr:mg "range" = none) (ne:mg "enumerate" = none) (ns:mg "sorted" = none) (nt:mg "set" = none) :
 FnOk P w K mg base CX0 (k0+1) f fd ["i","cartoon"] (spIC K ansNext):=by
 have GR:FnOk P w K mg base CX0 1 fR fdR ["i","verdict"] (Bbk CV):=Baw FR T nl;have GT:FnOk P w K mg base CX0 1 fT fdT ["row"] Ayg:=Aza FT nl;have GB:FnOk P w K mg base CX0 3 fB fdB ["panes","number"] Bbl:=Bax FB FL FS nr nl ne ns nt;refine F.fn.ok scNext (fun vs H Q E h=>?_) (fun cdv A outer s H vs Q E hr h=>?_)
 ·obtain⟨n,a,b,rfl,_⟩:=h;rfl
 ·obtain⟨n,a,b,rfl,ha,bl,k⟩:=h;have hr3:Room 3 _:=hr.mono k3;have hr1:Room 1 _:=hr3.mono (by decide)
  refine⟨_,Aa1 (pS 2 scNext.nd (pCK GE hr (Aa0 (pv 1) Aa3)))
   (Aa1 (pS 3 scNext.nd (pCD FR GR hr1 (Aa0 (pv 0) (Aa0 (pv 2) Aa3))))
   (Aa1 (Aat (Ae5 (pv 3) (fun _=>rfl)) (Aa4 (Aa9 (pv 3))) Aae)
   (Aa4 (Aa9 (pCD FT GT hr1 (Aa0 (pCD FB GB hr3 (Aa0 (Aal (pv 2) rfl) (Aa0 (pv 0) Aa3))) Aa3)))))),?_⟩
  refine⟨_,rfl,a,b,rfl,ha,by lia,fun H1 v dr pn s1 vd more=>?_⟩;refine⟨_,rfl,_,rfl,n,v,rfB b,dr,pn,(Gla.parts b).marks.length,rfl,vd,fun e0=>?_,fun H2 rf s2 hrf=>?_⟩
  ·obtain⟨d,p,pa,la,ma,as,ls,ms,rs,O,rfl,rfl,D,hp,RA,pan,_⟩:=more e0;exact⟨p,_,rfl,hp,by rw[List.length_map,RA.len,Ag6 pan]⟩
  refine⟨_,rfl,_,.inl ⟨_,SqL.of hrf,rfl⟩,?_⟩
  by_cases e0:rfB b=[]
  ·by_cases hn:(Gla.parts b).marks.length≤n
   ·have ep:prN (rfB b) (Gla.parts b).marks.length n=[-2]:=by unfold prN;rw[if_pos e0,if_pos hn]
    rw[ep]at hrf ⊢;refine Aoe ⟨_,rfl,k H2 rf ?_⟩;rw[hrf];unfold ansNext;rw[if_pos e0,if_neg (by lia)]
   ·have ep:prN (rfB b) (Gla.parts b).marks.length n=[]:=by unfold prN;rw[if_pos e0,if_neg hn]
    rw[ep];refine Akh ?_;obtain⟨d,p,pa,la,ma,as,ls,ms,rs,O,rfl,rfl,D,hp,RA,pan,⟨r,clr⟩,_,nO,mO,fO⟩:=more e0;have lO:=Ag6 pan;have nM:=D.nM;have nL:=D.nL;have hi:n<O.length:=by lia
    obtain⟨sn,sl⟩:=Afs r nO mO;obtain⟨dx,ra,hv,hra⟩:=vd;have RA2:RowsAt H2 rs O:=⟨RA.len,fun j c hc=>let ⟨x,ex,hx⟩:=RA.at_ j c hc;⟨x,ex,s2 _ _ hx⟩⟩
    refine⟨_,rfl,v,CV,dx,_,_,rfl,s2 _ _ hv,T.cl,T.nP,Ay0 _ _ _,_,rfl,p,rs,O,n,_,rfl,s2 _ _ hp,RA2,fun l hl=>(fO l hl).2.2,sn,by lia,List.getElem?_eq_getElem hi,by lia,fun H3 q m s3 hq nm mm so=>?_⟩;have em:=Arx r pan nO mO (List.getElem?_eq_getElem hi) nm mm so;have bl2:((Gla.parts b).beside n).length≤O.length:=by
     unfold Gla.Plan.beside Gla.besideOf;have:=List.length_filter_le (fun(k:Nat)=>k != n&&(Gla.parts b).allSides.any fun(x:Option Nat×Option Nat)=>x==(some n,some k)||x==(some k,some n)) (List.range (Gla.parts b).marks.length);rw[List.length_range]at this;lia
    rw[em,Bbp]at hq;refine⟨q,_,rfl,hq,?_,fun H4 q2 s4 hq2=>?_⟩
    ·unfold vN;rw[List.length_map];lia
    ·refine k H4 q2 ?_;rw[hq2];unfold ansNext;rw[if_pos e0,if_pos (by lia)];unfold PlanNeutral.rowN PlanNeutral.ints vN;simp only[List.map_cons,List.length_map,List.map_map];rfl
  ·have ep:prN (rfB b) (Gla.parts b).marks.length n=rfB b:=by unfold prN;rw[if_neg e0]
   rw[ep]at hrf ⊢;cases q:rfB b with
   | nil=>exact absurd q e0
   | cons x r =>
    refine Aoe ⟨_,rfl,k H2 rf ?_⟩;rw[hrf,q];unfold ansNext;rw[if_neg e0,q]
end
theorem next_due {z:Int}{ns:List Int}(hz:0≤z)(h:byts ns)(l:ns.length≤60000):PyYqglaa.next_to z ns=ansNext z.toNat (toB ns):=by
 have lb:=toB_len ns;have e1:PyYqglaa.next_to z ns=PlanNeutral.told (GlaPlans.answer (.next (toB ns) z.toNat)):=by
  show(match (do some (GlaPlans.Call.next (←PlanNeutral.bytes ns) (←PlanNeutral.nat z)):Option GlaPlans.Call)with | some x=>PlanNeutral.told (GlaPlans.answer x) | none=>[])=_;rw[Ap2 ns h];unfold PlanNeutral.nat;rw[if_neg (by lia)];rfl
 rw[e1];show PlanNeutral.told (GlaPlans.one _ _)=_;rw[Asb (by lia)];unfold ansNext
 congr 1
 by_cases q:z.toNat<(Gla.parts (toB ns)).marks.length
 ·rw[if_pos q,if_pos q];rfl
 ·rw[if_neg q,if_neg q];rfl
end Gc
end
namespace Gc
open PySem PySem.Spec PyProof.Rows L2
theorem all_fn {P:Program}{w:World}{K:W.Frag}{h:Heap}{mg:Str→Option Value}{fa C CV:Addr}(X:K.In h)(G:h.Ns mainGlobals mg)(hfa:mg "next_to" = some (.ref fa))(S:Src K C CV)(D:DefIn K "next_to" Al8)(D0:DefIn K "pane_refusal" sPR)(D1:DefIn K "row_told" Ayp)(D2:DefIn K "panes_beside" sPB)(D3:DefIn K "left_panes" sLP)(D4:DefIn K "steps_round" sSR)(nset:W.nsIn K mainGlobals "set" = some none) :
 ∃fd:FuncData,(∀(s:Shared) (us:List Value),us.length=(["i","cartoon"]:List Str).length→BindsTo s fd ⟨us,[]⟩ ((["i","cartoon"]:List Str).zip us))∧∀base:Heap,K.In base→base.Ns mainGlobals mg→FnOk P w K mg base CX0 8 fa fd ["i","cartoon"] (spIC K ansNext):=by
 obtain⟨f,oc,od,kV,dc,pm,an,cd,ct,sl,a,l,c,k⟩:=D;have e:=hfa.symm.trans (W.mg_of X G a);cases e;have F:=Arj (st:=Al8) l c k;have b:=F.binds (ps:=["i","cartoon"]) fun _ _ _ _ _ _ us hl=>by obtain⟨_,_,rfl⟩:=us2 hl;rfl
 refine⟨W.fnOf "next_to" "next_to" (Acq Al8) (Acb Al8) (Aa7 Al8) .none kV dc pm an cd ct,fun s us hu=>by obtain⟨_,_,rfl⟩:=us2 hu;exact .of_eq rfl,fun base _ _=>?_⟩;obtain⟨fE,fdE,KE⟩:=S.exam (P:=P) (w:=w) (base:=base) X G;obtain⟨_,_,F0⟩ : ∃f fd,Def K mg "pane_refusal" sPR ["i","verdict"] f fd:=D0.def X G fun _ _ _ _ _ _ us hl=>by obtain⟨_,_,rfl⟩:=us2 hl;rfl
 obtain⟨_,_,F1⟩ : ∃f fd,Def K mg "row_told" Ayp ["row"] f fd:=D1.def X G fun _ _ _ _ _ _ us hl=>by obtain⟨_,rfl⟩:=us1 hl;rfl
 obtain⟨_,_,F2⟩ : ∃f fd,Def K mg "panes_beside" sPB ["panes","number"] f fd:=D2.def X G fun _ _ _ _ _ _ us hl=>by obtain⟨_,_,rfl⟩:=us2 hl;rfl
 obtain⟨_,_,F3⟩ : ∃f fd,Def K mg "left_panes" sLP ["panes"] f fd:=D3.def X G fun _ _ _ _ _ _ us hl=>by obtain⟨_,rfl⟩:=us1 hl;rfl
 obtain⟨_,_,F4⟩ : ∃f fd,Def K mg "steps_round" sSR ["outline"] f fd:=D4.def X G fun _ _ _ _ _ _ us hl=>by obtain⟨_,rfl⟩:=us1 hl;rfl
 exact Awp ⟨F,hfa,b⟩ (by decide) KE F0 F1 F2 F3 F4 S.tverd (Adj X G S.n_len) (Adj X G S.n_range) (Adj X G S.n_enumerate) (Adj X G S.n_sorted) (Adj X G nset)
end Gc
namespace PySem.W.Fast
def tw10002069966254601208:=0
def tw10005971708556543236:=0
def tw10045397576341611917:=0
def tw10093061964496459351:=0
def tw10174077659826089465:=0
def tw10213306461546310481:=0
def tw10256624448609055423:=0
def tw10256769500162847257:=0
def tw10256832307931174963:=0
def tw10264863581854625741:=0
def tw10265563761681472155:=0
def tw10272090389751671176:=0
def tw10299411511631413597:=0
def tw10320841429392849914:=0
def tw10346680959895608348:=0
def tw10364344781573047066:=0
def tw10409587875899887797:=0
def tw10427013245043713383:=0
def tw10538948867421606150:=0
def tw10721373663189891824:=0
def tw10958838186540865214:=0
def tw10979280318146931742:=0
def tw11032709891456436098:=0
def tw11060791774270494297:=0
def tw11088598542754638344:=0
def tw11118333049944233531:=0
def tw11146665655008191704:=0
def tw11165496848274184672:=0
def tw11189609121937732030:=0
def tw1124284599989941677:=0
def tw11248107032826421940:=0
def tw11258423592494749627:=0
def tw11343100936821938450:=0
def tw11381846192063926821:=0
def tw1141049720898224539:=0
def tw11450099097857492447:=0
def tw11569464880618082844:=0
def tw11686960502507451030:=0
def tw11739335598247278952:=0
def tw11835664960939919898:=0
def tw11910821935919285511:=0
def tw11971473771865608445:=0
def tw11981427478119604494:=0
def tw12052308434086182558:=0
def tw12069493674809725334:=0
def tw12075062326425595155:=0
def tw12083368566695972359:=0
def tw12154560491571499641:=0
def tw12157939763371644974:=0
def tw12158427780062540473:=0
def tw12161284579030862812:=0
def tw12228171983149884407:=0
def tw12281850404441749671:=0
def tw12339024170761281430:=0
def tw12447178696133991251:=0
def tw12460532908882353256:=0
def tw1247506161974108450:=0
def tw12500444251403616902:=0
def tw1261131243559547199:=0
def tw12701427646278274144:=0
def tw12718109242299436320:=0
def tw12793291414922637277:=0
def tw12949171391203502483:=0
def tw13010855158091140461:=0
def tw13013735535139817194:=0
def tw13032952903465821589:=0
def tw13048859056732328371:=0
def tw1305460821035328449:=0
def tw13061886954323067015:=0
def tw13085223628291770384:=0
def tw13126751092611045826:=0
def tw13199896838022471578:=0
def tw13397631103652901781:=0
def tw13438352686351084303:=0
def tw13478559629277301100:=0
def tw1353600778853758630:=0
def tw13558766320841650777:=0
def tw13567043268450778785:=0
def tw13575337726054647293:=0
def tw13601839135003331088:=0
def tw13633638416263307720:=0
def tw13690380253642237525:=0
def tw13690661766620990904:=0
def tw1371058149057996928:=0
def tw13715047095240391131:=0
def tw13817844824876144975:=0
def tw13830562181909960079:=0
def tw13874382268222888122:=0
def tw13911030753128328934:=0
def tw1391832855384756187:=0
def tw13931226590679884767:=0
def tw14029404733729578941:=0
def tw14098867088141798849:=0
def tw14135957713167722027:=0
def tw14150818731641855832:=0
def tw1417840967593123200:=0
def tw14210761661568196436:=0
def tw14219729988554027364:=0
def tw14253658256642475416:=0
def tw14288386719196690902:=0
def tw14293292365320104221:=0
def tw14444157057590506115:=0
def tw14532781102465121136:=0
def tw14692993986450161584:=0
def tw14816804318663067801:=0
def tw14831308385467272150:=0
def tw14852580483026141566:=0
def tw14911659812876154601:=0
def tw14913634037422681500:=0
def tw14966105215078799574:=0
def tw1500865566837472338:=0
def tw15098934086022173059:=0
def tw15142143754686923262:=0
def tw15171135137863863823:=0
def tw15194494602666840857:=0
def tw15211323969221427422:=0
def tw15368158577932465837:=0
def tw1544374394671265061:=0
def tw15463301461784080818:=0
def tw15511994045703456257:=0
def tw1555875620389991034:=0
def tw15568523243594622747:=0
def tw15571625401910401204:=0
def tw1563563342181603913:=0
def tw15648381622439395277:=0
def tw15856660118633865014:=0
def tw15864236469985538752:=0
def tw15899289236270967864:=0
def tw15908515469325270857:=0
def tw15926189020503885211:=0
def tw1593751884070828072:=0
def tw16026861936329667908:=0
def tw16045278459207851758:=0
def tw1606753224281138506:=0
def tw16285443155142675833:=0
def tw16331793122555772403:=0
def tw16490936876985571336:=0
def tw16550113372425029653:=0
def tw16580297052610162408:=0
def tw165910272335832912:=0
def tw16715805473010716344:=0
def tw16737147585640745704:=0
def tw16750025248867909073:=0
def tw16808771680803338818:=0
def tw16852429725085147694:=0
def tw16911355522117019831:=0
def tw16971826839170098728:=0
def tw16976821544139681051:=0
def tw16992931442591996149:=0
def tw1713132944386473614:=0
def tw17155616907077712603:=0
def tw17184930344634780387:=0
def tw17190089134326343191:=0
def tw17263924156014856316:=0
def tw17293902429601562179:=0
def tw17346750572479327254:=0
def tw17420022123233868815:=0
def tw17449745615323767361:=0
def tw17468363442822133259:=0
def tw17591934410435370188:=0
def tw17637180282002248870:=0
def tw17643937518818064257:=0
def tw17680112968165242761:=0
def tw17702804774885536916:=0
def tw17741511168879213961:=0
def tw18004783544029186199:=0
def tw18018419301711322950:=0
def tw18033459246836014931:=0
def tw18082879588432728372:=0
def tw1809201611568100612:=0
def tw18184378517261370506:=0
def tw18194152493857486882:=0
def tw18312268200422710608:=0
def tw18408321084526583720:=0
def tw18445764577667276068:=0
def tw1883329868937553966:=0
def tw2073748425125402147:=0
def tw2109088341769882931:=0
def tw2160415228136669321:=0
def tw2167907036376957999:=0
def tw217127376484293392:=0
def tw2207041769332929578:=0
def tw2291742684629218390:=0
def tw2361019081416045832:=0
def tw2365947927345425121:=0
def tw23957670946227686:=0
def tw2408173507881991365:=0
def tw2420427327584889705:=0
def tw2479625018334470472:=0
def tw2484789801265954458:=0
def tw271826448663664722:=0
def tw2747364632076487305:=0
def tw2793029761841308438:=0
def tw2815432291711059541:=0
def tw283771136266854998:=0
def tw2845558875282266007:=0
def tw2904647224742674932:=0
def tw2917870517138709167:=0
def tw3016316469172659089:=0
def tw3105132221311253545:=0
def tw3133856254677672337:=0
def tw3156733296812811160:=0
def tw3267121060295649398:=0
def tw3372424994629907936:=0
def tw3387699435636530154:=0
def tw3409888257345360048:=0
def tw355884368963078549:=0
def tw3607752614880405830:=0
def tw3640877724695053583:=0
def tw3651116506839467573:=0
def tw3653916339481905072:=0
def tw3743236311627730577:=0
def tw3748615909394152129:=0
def tw3806303650026100769:=0
def tw3873423514910745197:=0
def tw3911727896418210214:=0
def tw3944126284375715320:=0
def tw3949679746130519308:=0
def tw3952702058417652299:=0
def tw4033643155319302719:=0
def tw4062120618699251042:=0
def tw4247408470740956750:=0
def tw4307956794655862294:=0
def tw4330685870447313461:=0
def tw441835766457875291:=0
def tw4476442771717036669:=0
def tw4526525765789324049:=0
def tw4601084714825066957:=0
def tw4641016505309482994:=0
def tw4837697828933898373:=0
def tw4848885415017266665:=0
def tw4915193929339644861:=0
def tw4958570299031624521:=0
def tw4989373815543323563:=0
def tw5042577463073114638:=0
def tw5065666380471388890:=0
def tw5145495112628704014:=0
def tw5150553621211353116:=0
def tw5161965016909524751:=0
def tw5179584614444764633:=0
def tw5208070642486575510:=0
def tw5223321000790315461:=0
def tw5264076854204033901:=0
def tw5308672594029338881:=0
def tw5328201509083013543:=0
def tw5353215756075279217:=0
def tw5357956228606948601:=0
def tw5393071565160242228:=0
def tw5607857589894172112:=0
def tw5628349006468716241:=0
def tw5692654833229306084:=0
def tw5699367304750539477:=0
def tw5718065443418187824:=0
def tw5723227190170386760:=0
def tw5724885595872188776:=0
def tw5769083845790700422:=0
def tw5774736668793323438:=0
def tw5779783701213130047:=0
def tw5892462583334074807:=0
def tw5922712573475662059:=0
def tw5970224920104681136:=0
def tw5978962776374821277:=0
def tw6002900417466171731:=0
def tw6014224557848910865:=0
def tw6022073664436920060:=0
def tw603476859196249084:=0
def tw6036549944774541521:=0
def tw615416412716131336:=0
def tw616277863191648305:=0
def tw6169529479104839482:=0
def tw6183696449180143963:=0
def tw6212514811886772264:=0
def tw6231641886798053498:=0
def tw6242743305720784669:=0
def tw6258764011237876142:=0
def tw6287862055892634716:=0
def tw6301759627647563926:=0
def tw6311832075245551325:=0
def tw6317032881878304753:=0
def tw6334885432648495002:=0
def tw6348226486266623232:=0
def tw6419970457521858384:=0
def tw653929228173946575:=0
def tw6539539386903259633:=0
def tw6541435366392855388:=0
def tw6544718431159008495:=0
def tw6585185750874616974:=0
def tw6705550635601300256:=0
def tw6718901062329358435:=0
def tw6821352246628573517:=0
def tw6843344364111512319:=0
def tw6844333497543509664:=0
def tw6860443010147896598:=0
def tw6922581057467876538:=0
def tw6932817962807313357:=0
def tw6964394648596832118:=0
def tw7068694873312591754:=0
def tw7095011844469616017:=0
def tw7109056310611834757:=0
def tw7190310904664494580:=0
def tw7196157626419495818:=0
def tw724490835044392164:=0
def tw7280511301634743798:=0
def tw7348002798756763515:=0
def tw7358399303756058214:=0
def tw741797361466360897:=0
def tw7425915186117278009:=0
def tw744999998290948311:=0
def tw7454007736306962396:=0
def tw7463426710817144464:=0
def tw7467592292882241845:=0
def tw7469375247293836329:=0
def tw7492069296447270593:=0
def tw7560750592191432221:=0
def tw7576634325073328170:=0
def tw7594287823448511009:=0
def tw7620553279188390901:=0
def tw7656150054737905664:=0
def tw7702510277707103498:=0
def tw772218567045451247:=0
def tw7794855424707580293:=0
def tw7827337484189848596:=0
def tw7827587108567660460:=0
def tw7828497737789142479:=0
def tw7880698752505786466:=0
def tw7891038708092298154:=0
def tw7929733726019404635:=0
def tw7943711650483753821:=0
def tw7956927815877060671:=0
def tw7958216112421620559:=0
def tw7989009537683629756:=0
def tw8062068675381219634:=0
def tw8074769654628008973:=0
def tw80814504708894908:=0
def tw8112787641383623433:=0
def tw8126355320618491386:=0
def tw8147572539326821256:=0
def tw8149557757445577165:=0
def tw8177879369162281468:=0
def tw8234879173169792029:=0
def tw8250035321454265272:=0
def tw8315259328076164522:=0
def tw8330249431741836151:=0
def tw8429741628351198073:=0
def tw8497235523491001748:=0
def tw8549896895298554632:=0
def tw8562310330585544008:=0
def tw860654612970499520:=0
def tw8610768524883448185:=0
def tw8614882885890902387:=0
def tw8756739036438710056:=0
def tw875748058220930906:=0
def tw8818793127760051138:=0
def tw8845099549593731030:=0
def tw8863287282006335149:=0
def tw8945236086414529527:=0
def tw9009869180068510730:=0
def tw9013892249002607812:=0
def tw9026806232950326689:=0
def tw906016765890670124:=0
def tw9149312654055313324:=0
def tw9179622457012117808:=0
def tw9191485632297516296:=0
def tw9222001413417465003:=0
def tw924740966364611529:=0
def tw9257364523636376435:=0
def tw9306432180609873420:=0
def tw9383552809366064168:=0
def tw940815515019662315:=0
def tw9435092082673609267:=0
def tw9462846704278223737:=0
def tw94648455950777174:=0
def tw9509081154461826929:=0
def tw9520917075050956347:=0
def tw960939537168707011:=0
def tw961196859499517668:=0
def tw9666309323724303086:=0
def tw9701826164284948113:=0
def tw9704277183160250469:=0
def tw9704619799610070812:=0
def tw9711380391674091254:=0
def tw9734253384153569393:=0
def tw9939781316030416506:=0
def tw9985907761460287138:=0
def tw9991794613676193016:=0
end PySem.W.Fast
open PySem PySem.W PyProof.Rows
set_option maxRecDepth 100000 in
set_option maxHeartbeats 0 in
theorem PySem.Challenge.cw_glasscartoons_s07_next_to_holds : PySem.Challenge.rw_glasscartoons_s07_next_to.Holds := by
 w_on;k_headS;(case hw=>exact⟨[.int 0,.list []],by decide +kernel,by decide +kernel⟩)
 k_fillS
 refine L2.walk_specK (r:=PySem.Challenge.rw_glasscartoons_s07_next_to) (k:=8) (CX:=L2.CX0) (ps:=["i","cartoon"]) (sp:=fun K=>Gc.spIC K Gc.ansNext) (by decide +kernel) rfl rfl ⟨rfl,by decide,by decide⟩ (fun w h Y=>W.kIn_of Y) ?F ?S (fun _ _ _ _ z=>z)
 case F =>
  intro w mg fa h Y KX G hmg;exact Gc.all_fn KX G hmg
   ⟨⟨_,_,_,_,_,_,_,_,_,_,by k_is,by k_is,by k_is,by k_is⟩,
   ⟨_,_,_,_,_,_,_,_,_,_,by k_is,by k_is,by k_is,by k_is⟩,
   ⟨_,_,_,_,_,_,_,_,_,_,by k_is,by k_is,by k_is,by k_is⟩,
   ⟨_,_,_,_,_,_,_,_,_,_,by k_is,by k_is,by k_is,by k_is⟩,
   ⟨_,_,_,_,_,_,_,_,_,_,by k_is,by k_is,by k_is,by k_is⟩,
   ⟨_,_,_,_,_,_,_,_,_,_,by k_is,by k_is,by k_is,by k_is⟩,
   ⟨_,_,_,_,_,_,_,_,_,_,by k_is,by k_is,by k_is,by k_is⟩,
   ⟨_,_,_,_,_,_,_,_,_,_,by k_is,by k_is,by k_is,by k_is⟩,
   ⟨_,_,_,_,_,_,_,_,_,_,by k_is,by k_is,by k_is,by k_is⟩,
   ⟨_,_,_,_,_,_,_,_,_,_,by k_is,by k_is,by k_is,by k_is⟩,
   ⟨_,_,_,_,_,_,_,_,_,_,by k_is,by k_is,by k_is,by k_is⟩,
   ⟨_,_,_,_,_,_,_,_,_,_,by k_is,by k_is,by k_is,by k_is⟩,
   ⟨_,_,_,_,_,_,_,_,_,_,by k_is,by k_is,by k_is,by k_is⟩,
   ⟨_,_,_,_,_,_,_,_,_,_,by k_is,by k_is,by k_is,by k_is⟩,
   ⟨_,_,_,_,_,_,_,_,_,_,by k_is,by k_is,by k_is,by k_is⟩,
   ⟨_,_,_,_,_,_,_,_,_,_,by k_is,by k_is,by k_is,by k_is⟩,
   ⟨_,_,_,_,_,_,_,_,_,_,by k_is,by k_is,by k_is,by k_is⟩,
   ⟨_,_,_,_,_,_,_,_,_,_,by k_is,by k_is,by k_is,by k_is⟩,
   ⟨_,_,_,_,_,_,_,_,_,_,by k_is,by k_is,by k_is,by k_is⟩,
   ⟨_,_,_,_,_,_,_,_,_,_,by k_is,by k_is,by k_is,by k_is⟩,
   ⟨_,_,_,_,_,_,_,_,_,_,by k_is,by k_is,by k_is,by k_is⟩,
   ⟨_,_,_,_,_,_,_,_,_,_,by k_is,by k_is,by k_is,by k_is⟩,
   ⟨_,_,_,_,_,_,_,_,_,_,by k_is,by k_is,by k_is,by k_is⟩,
   ⟨_,_,_,_,_,_,_,_,_,_,by k_is,by k_is,by k_is,by k_is⟩,
   ⟨_,_,_,_,_,_,_,_,_,_,by k_is,by k_is,by k_is,by k_is⟩,
   ⟨_,_,_,_,_,_,_,_,_,_,by k_is,by k_is,by k_is,by k_is⟩,
   ⟨_,_,_,_,_,_,_,_,_,_,by k_is,by k_is,by k_is,by k_is⟩,
   ⟨_,_,_,_,_,_,_,_,_,_,by k_is,by k_is,by k_is,by k_is⟩,
   ⟨_,_,_,_,_,_,_,_,_,_,by k_is,by k_is,by k_is,by k_is⟩,
   ⟨_,_,_,_,_,_,_,_,_,_,by k_is,by k_is,by k_is,by k_is⟩,
   ⟨_,_,_,_,_,_,_,_,_,_,by k_is,by k_is,by k_is,by k_is⟩,
   ⟨_,_,_,_,_,_,_,_,_,_,by k_is,by k_is,by k_is,by k_is⟩,
   ⟨_,_,_,_,_,_,_,_,_,_,by k_is,by k_is,by k_is,by k_is⟩,
   ⟨_,_,_,_,_,_,_,_,_,_,by k_is,by k_is,by k_is,by k_is⟩,
   ⟨_,_,_,_,_,_,_,_,_,_,by k_is,by k_is,by k_is,by k_is⟩,
   ⟨_,_,_,_,_,_,_,_,_,_,by k_is,by k_is,by k_is,by k_is⟩,
   ⟨_,_,_,_,_,_,_,_,_,_,by k_is,by k_is,by k_is,by k_is⟩,
   ⟨_,_,_,_,_,_,_,_,_,_,by k_is,by k_is,by k_is,by k_is⟩,
   ⟨_,_,_,_,_,_,_,_,_,_,by k_is,by k_is,by k_is,by k_is⟩,
   ⟨_,_,_,_,_,_,_,_,_,_,by k_is,by k_is,by k_is,by k_is⟩,
   ⟨_,_,_,_,_,_,_,_,_,_,by k_is,by k_is,by k_is,by k_is⟩,
   ⟨_,_,_,_,_,_,_,_,_,_,by k_is,by k_is,by k_is,by k_is⟩,
   ⟨by k_is,by k_is,by k_is,by k_is,by k_is,by k_is,by k_is⟩,
   ⟨by k_is,by k_is,by k_is,by k_is,by k_is,by k_is,by k_is⟩,
   ⟨_,_,_,_,_,_,_,_,_,_,by k_is,by k_is,by k_is,by k_is,by k_is⟩,
   ⟨_,_,_,_,_,_,_,_,_,_,by k_is,by k_is,by k_is,by k_is,by k_is⟩,
   ⟨_,_,_,_,_,_,_,_,_,_,by k_is,by k_is,by k_is,by k_is,by k_is⟩,
   ⟨_,_,_,_,_,_,_,_,_,_,by k_is,by k_is,by k_is,by k_is,by k_is⟩,
   ⟨_,_,_,_,_,_,_,_,_,_,by k_is,by k_is,by k_is,by k_is,by k_is⟩,
   by show W.findIn _ _ _=_;k_is,
   by show W.findIn _ _ _=_;k_is,
   by show W.findIn _ _ _=_;k_is,
   by show W.findIn _ _ _=_;k_is,
   by show W.findIn _ _ _=_;k_is,
   by show W.findIn _ _ _=_;k_is,
   by show W.findIn _ _ _=_;k_is,
   by show W.findIn _ _ _=_;k_is,
   by k_is,
   by k_is,
   by k_is,
   by k_is,
   by k_is,
   by k_is,
   by k_is,
   by k_is,
   ⟨_,by k_is⟩,
   ⟨_,by k_is⟩,
   ⟨_,by k_is,[_,_,_,_],rfl,_,_,_,by k_is⟩,
   ⟨_,by k_is,[_,_,_,_,_,_],rfl,_,_,_,by k_is⟩,
   ⟨_,by k_is,[_,_],rfl,_,_,_,by k_is⟩,
   ⟨_,by k_is,[_,_],rfl,_,_,_,by k_is⟩,
   ⟨_,by k_is,[_,_,_,_],rfl,_,_,_,by k_is⟩,
   ⟨_,_,_,_,_,_,_,by k_is,⟨_,_,_,by k_is⟩,⟨[_,_,_,_],rfl,_,_,_,by k_is⟩,⟨[_,_,_,_],rfl,_,_,_,by k_is⟩,⟨[_,_,_,_],rfl,_,_,_,by k_is⟩,⟨[_,_,_,_],rfl,_,_,_,by k_is⟩,⟨[_,_,_,_],rfl,_,_,_,by k_is⟩,⟨[_,_,_,_],rfl,_,_,_,by k_is⟩⟩,
   ⟨_,_,_,_,_,_,_,_,_,by k_is,⟨_,_,_,by k_is⟩,⟨_,_,⟨_,_,_,by k_is⟩,by k_is⟩,⟨_,_,⟨_,_,_,by k_is⟩,by k_is⟩,⟨_,_,⟨_,_,_,by k_is⟩,by k_is⟩,⟨_,_,⟨_,_,_,by k_is⟩,by k_is⟩,⟨_,_,⟨_,_,_,by k_is⟩,by k_is⟩,⟨_,_,⟨_,_,_,by k_is⟩,by k_is⟩,⟨_,_,⟨_,_,_,by k_is⟩,by k_is⟩,⟨_,_,⟨_,_,_,by k_is⟩,by k_is⟩⟩⟩
   ⟨_,_,_,_,_,_,_,_,_,_,by k_is,by k_is,by k_is,by k_is⟩
   ⟨_,_,_,_,_,_,_,_,_,_,by k_is,by k_is,by k_is,by k_is⟩
   ⟨_,_,_,_,_,_,_,_,_,_,by k_is,by k_is,by k_is,by k_is⟩
   ⟨_,_,_,_,_,_,_,_,_,_,by k_is,by k_is,by k_is,by k_is⟩
   ⟨_,_,_,_,_,_,_,_,_,_,by k_is,by k_is,by k_is,by k_is⟩
   ⟨_,_,_,_,_,_,_,_,_,_,by k_is,by k_is,by k_is,by k_is⟩
   (by k_is)
 case S =>
  intro K H xs a hO hwi hask hx;cases hx with
  | cons h0 h2 =>
   cases h0;cases h2 with
   | cons h1 h3 =>
    cases h3;cases h1 with
    | lst hs ha =>
     have e:=L2.ints_dw a.2.1 _ ha;subst e;have q:(Codec.inInt 0 18446744073709551615 a.1&&((Codec.inLen 0 60000 a.2.1&&a.2.1.all (Codec.inInt 0 255))&&true))=true:=hwi;rw[Bool.and_eq_true,Bool.and_eq_true,Bool.and_eq_true]at q;have hz:=(Codec.inInt_iff.mp q.1).1;have hl:=(Codec.inNat_iff.mp q.2.1.1).2;have hi:Gc.byts a.2.1:=fun n hn=>Codec.inInt_iff.mp (List.all_eq_true.mp q.2.1.2 n hn);have ez:((a.1.toNat:Nat):Int)=a.1:=Int.toNat_of_nonneg hz
     refine⟨a.1.toNat,_,Gc.toB a.2.1,by rw[ez],by rw[Gc.toB_v _ hi];exact hs,by rw[Gc.toB_len];lia,fun H' p hp=>?_⟩;rw[←Gc.next_due hz hi hl]at hp;exact .lst (L2.SqL.of hp) (L2.dw_ints _)
